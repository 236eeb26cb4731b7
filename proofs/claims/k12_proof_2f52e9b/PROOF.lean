import PyProof.Rows.All
import Wide.All
import OpenK.AllK
import Wide.FinOn
import PyProof.EqAt
import PyProof.EqKinds
import PyProof.TupleCall
import PyProof.StrLoop
import PyProof.StrWalks
import PyProof.CompFree
import PyProof.NeKinds
import PyProof.Rows.RuleN_isinstance
import PyProof.ConsumeWalk
import PyProof.IsiPairs
import PyProof.IsiSeqPairs
import PyProof.IsiHeapPairs
import PyProof.IsiNone
import PyProof.PureStr
import PyProof.StrCalls
import PyProof.Rows.SortStr
import PyProof.Rows.StrJoin2
import PyProof.CallStr
import PyProof.WalkInts
import PyProof.Rows.StrDigits
import PyProof.DictWalks
import PyProof.DictTruth
import PyProof.CollectWalk
import PyProof.WalkLemmas
import PyProof.Rows.SortShellK
import PyProof.Rows.SortWalk
import PyProof.SetKind
import PyProof.FactsAll.set
import PyProof.Rows.SetFrom
import PyProof.TupleKey
import PyProof.IsRules
import PyProof.WalksMore
import PyProof.SetRoads
import PyProof.DictCompW
import PyProof.ListRange
import PyProof.FString5
import PyProof.MeetsSeq2
import PyProof.FactsAll.tuple_0
import PyProof.FactsAll.tuple_2
import PyProof.FactsAll.tuple_3
import PyProof.EnumFor
import PyProof.EnumMake
import PyProof.EnumStmt
import PyProof.Rows.EnumRows
import PyProof.SumWalk
import PyProof.Rows.SeqCalls
import KE.KRevSl
import PyProof.ZipIter
import PyProof.TupleIter
import PyProof.AttrMiss
import KE.KDictOf
import KE.KDictLaws
import PyProof.TupleOfStr
import PyProof.StrCalls2
import PyProof.Rows.StrNews2
import PyProof.Rows.StrItems
import PyProof.Rows.StrSplitAre
import PyProof.Rows.StrGen4
import PyProof.Rows.RegStrFacts
import PyProof.Rows.FStr
import PyProof.SetNew
import PyProof.Rows.SetObj
import PyProof.Seq
import PyProof.Rows.SortShell
import PyProof.FactsAll.list_3
import KE.KIntText
import PyProof.StrCalls6
import PyProof.FitsReplace
import PyProof.ToksMono
import PyProof.FactsAll.str_4
import PyProof.StrBlock
import PyProof.RangeIter
import PyProof.CodeObj
import PyProof.StrLawsTight
import PyProof.Rows.StrPartPair
import PyProof.Rows.CatFin
import PyProof.Rows.StrClose
import PyProof.Rows.StrNext
import PyProof.Rows.StrBetween
import Lean
import PySem.Challenge.RW_onefolk_k12_parts_told
open PySem.W (instObj methodObj keepIn cellsFrom_some fnOf codeIn codeRec_of nsIn findIn isFn looks_findIn clsIn looks_mroIn mroIn check_slot looks_clsIn specialIn takesIn lookIn findObj handedIn exmOne kitOne kia_one)
set_option maxRecDepth 100000
set_option maxHeartbeats 4000000
set_option linter.all false
set_option Elab.async false
section
open PySem PySem.Spec PyProof.Rows
abbrev LS_:=List PySem.Str
abbrev VP_:=PySem.Value->PySem.Shared->Prop
abbrev FG_:=PySem.W.Frag
abbrev LI_:=List Int
abbrev zb:=@wpAny_bind
abbrev zd:=@Heap.get?_push_of_some
abbrev ze:=@wpAny_pure
abbrev zg:=@Nat.le_refl
abbrev zh:=@List.length_map
abbrev zi:=@List.mem_cons_self
abbrev zk:=@Bool.false_eq_true
abbrev zl:=@if_pos
abbrev zo:=@List.map_cons
abbrev zr:=@List.mem_cons_of_mem
abbrev zt:=@Heap.get?_push_size
abbrev zv:=@Heap.lt_size
abbrev zw:=@if_neg
abbrev zz:=@List.size_toArray
abbrev zC:=@Nat.ne_of_lt
abbrev zI:=@List.getElem?_map
abbrev zS:=@List.getElem?_eq_getElem
abbrev Zl:=@Nat.le_of_ble_eq_true
abbrev Zp:=@List.length_append
abbrev Zs:=@Nat.le_trans
abbrev Zz:=@Bool.and_eq_true
abbrev ZA:=@Bool.false_ne_true
abbrev ZE:=@Nat.lt_of_lt_of_le
abbrev ZH:=@if_false
abbrev ZI:=@List.getElem?_append_left
abbrev ZN:=@wpAny_mono
abbrev ZO:=@List.getElem?_cons_succ
abbrev ZT:=@List.mem_append_right
abbrev ZU:=@decide_eq_true_eq
abbrev ZY:=@Array.getElem?_eq_getElem
abbrev ZZ:=@wpAny_newObj_type
abbrev Z3:=@List.all_eq_true
abbrev qa:=@decide_eq_false
abbrev qc:=@Array.length_toList
abbrev qf:=@PySem.W.mg_none_of
abbrev qh:=@Heap.size_push
abbrev qi:=@wpAny_holding
abbrev qk:=@List.getElem?_append_right
abbrev qo:=@Nat.lt_succ_self
abbrev qq:=@if_true
abbrev qr:=@Nat.lt_succ_of_lt
abbrev qv:=@Bool.not_eq_true'
abbrev qA:=@List.getElem?_eq_none
abbrev qB:=@Heap.get?_update_self
abbrev qE:=@Array.getElem?_toList
abbrev qS:=@List.length_cons
abbrev qV:=@List.mem_of_getElem?
abbrev Qb:=@List.map_map
abbrev Qr:=@Heap.get?_update_other
abbrev QA:=@List.append_nil
abbrev QE:=@wpAny_typeOf
abbrev QI:=@List.getElem?_replicate
abbrev QN:=@decide_eq_true
abbrev QO:=@List.foldl_cons
abbrev QP:=@Nat.zero_le
abbrev QQ:=@wpAny_setState_of
abbrev QR:=@List.mem_cons
abbrev QU:=@decide_eq_false_iff_not
abbrev QY:=@List.getElem_of_mem
abbrev Q1:=@wpAny_field
abbrev Q2:=@List.map_append
abbrev Q3:=@List.find?_cons
abbrev Q4:=@List.not_mem_nil
abbrev ja:=@Nat.le_of_lt
abbrev js:=@Ne.symm
abbrev jv:=@wpAny_truthy_bool
abbrev jI:=@codeAny_builtin
abbrev jS:=@List.mem_filter
abbrev j0:=@List.map_congr_left
abbrev j3:=@Heap.get?_update_ne
abbrev Jn:=@Nat.ne_of_gt
abbrev JA:=@PySem.W.mg_of
abbrev JE:=@Nat.lt_irrefl
abbrev JI:=@wpAny_isInstance
abbrev JJ:=@wpAny_call_entry
abbrev JO:=@Obj.data_mapFields
abbrev JP:=@Or.inr
abbrev JS:=@List.rel_of_pairwise_cons
abbrev JU:=@Option.some.inj
abbrev JY:=@List.length_set
abbrev ka:=@List.cons.injEq
abbrev kb:=@of_decide_eq_true
abbrev kc:=@List.any_cons
abbrev ke:=@wpAny_comprehension_free
abbrev kf:=@List.Pairwise.imp_of_mem
abbrev kg:=@PySem.mem_of_lookup
abbrev ki:=@Option.bind_some
abbrev km:=@List.length_take
abbrev ko:=@List.length_drop
abbrev kq:=@List.any_eq_true
abbrev kr:=@Nat.le_succ
abbrev ku:=@List.map_nil
abbrev ky:=@List.map_id'
abbrev kz:=@wpAny_Call_Name_kw
abbrev kA:=@Nat.not_lt_zero
abbrev kB:=@List.nil_append
abbrev kC:=@List.all_cons
abbrev kD:=@Bool.not_true
abbrev kF:=@List.lookup_cons_self
abbrev kK:=@List.append_assoc
abbrev kL:=@List.mem_append_left
abbrev kM:=@decide_false
abbrev kP:=@codeAny_mono
abbrev kQ:=@List.filterMap_cons
abbrev kR:=@wpAny_standAt
abbrev kU:=@Or.inl
abbrev kX:=@wpAny_rule
abbrev k4:=@wpAny_call
abbrev k6:=@Nat.lt_of_le_of_lt
abbrev k7:=@wpAny_getItem_str_slice
abbrev k8:=@wpAny_callSpecial?_slot
abbrev k9:=@List.pairwise_mergeSort
abbrev Kb:=@List.mem_map
abbrev Ki:=@Bool.not_false
abbrev Kj:=@wpAny_loadPart_at
abbrev Kk:=@List.nodup_append
abbrev Kn:=@List.length_range
abbrev Kt:=@List.getElem?_set
abbrev Kx:=@Array.size_append
abbrev KA:=@Array.getElem?_eq_none
abbrev KB:=@Obj.isFreed_of_fields
abbrev KF:=@wpAny_load
abbrev KG:=@Bool.and_true
abbrev KI:=@decide_true
abbrev KL:=@codeAny_call_builtin
abbrev KM:=@wpAny_passesOwn
abbrev KO:=@wpAny_execs_nil
abbrev KP:=@List.of_mem_zip
abbrev KS:=@List.mem_append
abbrev KU:=@Bool.eq_iff_iff
abbrev KW:=@List.replicate_succ
abbrev K0:=@List.mergeSort_perm
abbrev K2:=@Nat.zero_add
abbrev ya:=@List.nodup_nil
abbrev yb:=@List.mem_range
abbrev ye:=@Bool.false_and
abbrev yf:=@Bool.and_false
abbrev yi:=@PySem.W.callWith_K
abbrev yk:=@List.pairwise_map
abbrev ym:=@Int.toNat_natCast
abbrev yn:=@wpAny_attempt
abbrev yo:=@Bool.true_and
abbrev yv:=@PySem.F.args_tuple_add_2
abbrev yz:=@wpAny_execs_cons
abbrev yA:=@List.nodup_range
abbrev yB:=@List.getElem_mem
abbrev yT:=@PySem.F.entry_tuple_add
abbrev yY:=@F.plain_set_update_loop
end
section
namespace L2
open PySem PySem.Spec PyProof.Rows
abbrev Key:=Sum Int Str
def je:Key->Value->Bool
 |.inl k,v=>Value.isInt k v
 |.inr x,v=>Value.isStrOf x v
def ag3 (w:World):Key->Int
 |.inl k=>hashInt k
 |.inr x=>hashStr w x
theorem bC:∀ {k:Key} {v:Value},je k v=true->(∃ i t,k=Sum.inl i/\v=Value.int i t)\/(∃ x t,k=Sum.inr x/\v=Value.str x t)
 |.inl i,v,h=>by
  obtain⟨t,e⟩:=Value.isInt_shape (k:=i) (v:=v) h;exact .inl ⟨i,t,rfl,e⟩
 |.inr x,v,h=>by
  obtain⟨t,e⟩:=Value.isStrOf_shape (x:=x) (v:=v) h;exact .inr ⟨x,t,rfl,e⟩
theorem Sq (i:Int) (t:Tok):je (.inl i) (.int i t)=true:=by simp[je,Value.isInt]
theorem Ss (x:Str) (t:Tok):je (.inr x) (.str x t)=true:=by simp[je,Value.isStrOf]
theorem acr (a b:Int):decide ((Sum.inl a:Key)=Sum.inl b)=(a==b):=by
 by_cases e:a=b
 ·subst e;simp
 ·have h:¬ (Sum.inl a:Key)=Sum.inl b:=λq=>e (Sum.inl.inj q);rw[qa h];exact(beq_eq_false_iff_ne.mpr e).symm
theorem acs (a b:Str):decide ((Sum.inr a:Key)=Sum.inr b)=decide (a=b):=by
 by_cases e:a=b
 ·subst e;simp
 ·have h:¬ (Sum.inr a:Key)=Sum.inr b:=λq=>e (Sum.inr.inj q);rw[qa h,qa e]
theorem acu (a:Int) (b:Str):decide ((Sum.inl a:Key)=Sum.inr b)=false:=qa (λq=>nomatch q)
theorem acv (a:Str) (b:Int):decide ((Sum.inr a:Key)=Sum.inl b)=false:=qa (λq=>nomatch q)
def aX (prog:Program) (w:World):PySem.KeyKind prog w Key where
 is:=je
 hash:=ag3 w
 inj:=λv a b ha hb=>by
  rcases bC ha with⟨i,t,rfl,rfl⟩|⟨x,t,rfl,rfl⟩
  ·rcases bC hb with⟨j,u,rfl,e⟩|⟨y,u,rfl,e⟩
   ·injection e with e1 _;rw[e1]
   ·exact nomatch e
  ·rcases bC hb with⟨j,u,rfl,e⟩|⟨y,u,rfl,e⟩
   ·exact nomatch e
   ·injection e with e1 _;rw[e1]
 byValue:=λk v h=>by
  rcases bC h with⟨i,t,rfl,rfl⟩|⟨x,t,rfl,rfl⟩<;>rfl
 pyHash:=λhv h=>by
  rcases bC hv with⟨i,t,rfl,rfl⟩|⟨x,t,rfl,rfl⟩
  ·exact wpAny_pyHash_int h
  ·exact wpAny_pyHash_str h
 eqBool:=λhu hv h=>by
  rcases bC hu with⟨i,t,rfl,rfl⟩|⟨x,t,rfl,rfl⟩
  ·rcases bC hv with⟨j,u,rfl,rfl⟩|⟨y,u,rfl,rfl⟩
   ·rw[acr] at h;exact wpAny_eqBool_int h
   ·rw[acu] at h;exact SeqAt.EqAt.int_str i t y u _ _ _ _ h
  ·rcases bC hv with⟨j,u,rfl,rfl⟩|⟨y,u,rfl,rfl⟩
   ·rw[acv] at h;exact SeqAt.EqAt.str_int x t j u _ _ _ _ h
   ·rw[acs] at h;exact wpAny_eqBool_str h
 «strs»:=λk x t v h=>by
  rcases bC h with⟨i,u,rfl,e⟩|⟨y,u,rfl,e⟩
  ·exact nomatch e
  ·injection e with e1 _;subst e1;cases v<;>rfl
theorem JL (prog:Program) (w:World) (i:Int) (t:Tok):(aX prog w).is (.inl i) (.int i t)=true:=Sq i t
theorem JM (prog:Program) (w:World) (x:Str) (t:Tok):(aX prog w).is (.inr x) (.str x t)=true:=Ss x t
end L2
namespace L2
open PySem PySem.Spec PyProof.Rows
inductive V where
 |non|bl (b:Bool)|int (i:Int)|str (x:Str)|byt (b:Array UInt8)|flt (b:UInt64)|ref (a:Addr)|ty (n:String)
 deriving DecidableEq
def RelV:V->Value->Prop
 |.non,u=>u=Value.none
 |.bl b,u=>u=Value.bool b
 |.int i,u=>∃ t,u=Value.int i t
 |.str x,u=>∃ t,u=Value.str x t
 |.byt b,u=>∃ t,u=Value.bytes b t
 |.flt b,u=>∃ t,u=Value.float b t
 |.ref a,u=>u=Value.ref a
 |.ty n,u=>u=Value.type n
abbrev Vals:List V->List Value->Prop:=Paired RelV
theorem Vals.length {xs:List V} {us:List Value} (r:Vals xs us):xs.length=us.length:=Paired.length r
theorem Vals.get:∀ {xs:List V} {us:List Value} {i:Nat} {x:V},Vals xs us->xs[i]?=some x->∃ u,us[i]?=some u/\RelV x u
 |_,_,_,_,.nil,e=>by simp at e
 |_,_,0,_,.cons r _,e=>by simp at e;subst e;exact⟨_,rfl,r⟩
 |_,_,i+1,x,.cons _ t,e=>by
  obtain⟨u,h1,h2⟩:=Vals.get (i:=i) (x:=x) t (by simpa using e);exact⟨u,by simpa using h1,h2⟩
theorem Vals.append:∀ {xs ys:List V} {us ws:List Value},Vals xs us->Vals ys ws->Vals (xs++ys) (us++ws)
 |_,_,_,_,.nil,s=>s
 |_,_,_,_,.cons r t,s=>.cons r (Vals.append t s)
theorem Vals.take:∀ {xs:List V} {us:List Value} (n:Nat),Vals xs us->Vals (xs.take n) (us.take n)
 |_,_,0,_=>.nil
 |_,_,_+1,.nil=>.nil
 |_,_,n+1,.cons r t=>.cons r (Vals.take n t)
theorem Vals.drop:∀ {xs:List V} {us:List Value} (n:Nat),Vals xs us->Vals (xs.drop n) (us.drop n)
 |_,_,0,r=>r
 |_,_,_+1,.nil=>.nil
 |_,_,n+1,.cons _ t=>Vals.drop n t
def yV:Option V->Option Value->Prop
 |some v,some u=>RelV v u
 |none,none=>True
 |_,_=>False
def KV {κ:Type}:List (κ×V)->List (κ×Value)->Prop:=Paired λ(p:κ×V) (q:κ×Value)=>p.1=q.1/\RelV p.2 q.2
def kV:Key->V
 |.inl i=>.int i
 |.inr x=>.str x
inductive HO where
 |lst (xs:List V)
 |tup (xs:List V)
 |dK (kvs:List (Key×V))|dT (kvs:List (List Key×V))
 |set (S:Int->Bool) (n:Nat)
 |ins (C dx:Addr) (fs:List (Str×V))
 |own (x:Addr)
 |xd (fs:List (Str×V))
 |met (f x:Addr)
 |rng (lo hi:Int)
 |pY (o:Obj) (u:HO)
 |tbl (ps:Array Value)
 |ext (φ:Heap->Prop)
abbrev Hp:=Addr->Option HO
def upd (H:Hp) (a:Addr) (o:HO):Hp:=λb=>if b=a then some o else H b
theorem aQ {H:Hp} {a:Addr} {o:HO}:upd H a o a=some o:=by unfold upd;rw[zl rfl]
theorem aG {H:Hp} {a b:Addr} {o:HO} (h:b≠a):upd H a o b=H b:=by unfold upd;rw[zw h]
def rM (h:Heap) (a:Addr) (items:Array Value):Prop:=∃ o,h.get? a=some o/\o.cls=.type "tuple" ∧ (∃ n,o.data=.seq items n)/\o.dict=none
theorem rM.weak {h:Heap} {a:Addr} {items:Array Value} (x:rM h a items):IsTup h a items:=let ⟨o,e,c,d,_⟩:=x;⟨o,e,c,d⟩
theorem rM.new (h:Heap) (items:Array Value):rM (h.push { cls:=.type "tuple", data:=.seq items }) h.objs.size items:=⟨_,zt _ rfl,rfl,⟨_,rfl⟩,rfl⟩
theorem iw {H:Hp} {a b:Addr} {o u:HO} (h:H a=some o) (h':H b=some u) (d:o≠u):a≠b:=by
 intro e;subst e;rw[h] at h';exact d (JU h')
theorem bw {H:Hp} {a b:Addr} {o:HO} (h:H a=some o) (h':H b=none):a≠b:=by
 intro e;subst e;rw[h] at h';cases h'
section
variable (P:Program) (w:World)
def eY (H:Hp) (h:Heap) (a:Addr):HO->Prop
 |.lst xs=>xs.length<=sizeLine/\∃ (its:List Value) (n:Nat),Vals xs its/\h.get? a=some { cls:=.type "list", data:=.seq its.toArray n }
 |.tup xs=>xs.length<=sizeLine/\∃ its:List Value,Vals xs its/\rM h a its.toArray
 |.dK kvs=>kvs.length<=sizeLine/\(a==sysModules)=false/\∃ vs,KV kvs vs/\h.DictOf (aX P w) a vs
 |.dT kvs=>kvs.length<=sizeLine/\(a==sysModules)=false/\∃ xs:List (List Key×Addr×Value),
   Paired (λ(p:List Key×V) (q:List Key×Addr×Value)=>p.1=q.1/\H q.2.1=some (.tup (p.1.map kV))/\RelV p.2 q.2.2) kvs xs ∧
   ∃ o es ep,h.get? a=some o/\o.ExactDict/\o.data=.dict es ep/\es.toList=xs.map (entryOfKey (tupleKind (aX P w)))/\(xs.map (·.1)).Nodup
 |.set S n=>h.SetOf (intKind P w) a S n
 |.ins C dx fs=>H dx=some (.own a)/\fs.length<=1000/\dx≠a/\h.get? a=some (instObj C dx) ∧
   ∃ mA,h.Ns1 dx mA/\(∀ f,yV (fs.lookup f) (mA f))/\PySem.Within mA (fs.map (·.1))
 |.own _=>∃ o,h.get? a=some o
 |.xd fs=>∃ mA,h.Ns1 a mA/\∀ f,yV (fs.lookup f) (mA f)
 |.rng lo hi=>∃ t u v,h.get? a=some { cls:=.type "range", data:=.fields #[.int lo t,.int hi u,.int 1 v] }
 |.pY o u=>h.get? a=some o/\eY H h a u
 |.tbl ps=>h.get? a=some { cls:=.none,data:=.fields ps }
 |.met f x=>h.get? a=some (methodObj (.ref f) (.ref x))
 |.ext φ=>φ h/\(∃ o,h.get? a=some o)/\∀ h1 h2:Heap,φ h1->(∀ o,h1.get? a=some o->h2.get? a=some o)->φ h2
def rN (H:Hp) (h:Heap):Prop:=∀ a o,H a=some o->eY P w H h a o
end
section
variable {P:Program} {w:World} {H H':Hp} {h h':Heap} {a:Addr} {o:HO}
theorem eY.lt (x:eY P w H h a o):a < h.objs.size:=by
 cases o with
 |lst xs=>obtain⟨_,_,_,_,e⟩:=x;exact zv e
 |tup xs=>obtain⟨_,_,_,p⟩:=x;exact p.weak.lt
 |dK kvs=>obtain⟨_,_,_,_,o,_,_,e,_⟩:=x;exact zv e
 |dT kvs=>obtain⟨_,_,_,_,o,_,_,e,_⟩:=x;exact zv e
 |set S n=>obtain⟨o,_,_,_,e,_⟩:=x;exact zv e
 |ins C dx fs=>obtain⟨_,_,_,e,_⟩:=x;exact zv e
 |own y=>obtain⟨_,e⟩:=x;exact zv e
 |xd fs=>obtain⟨_,⟨_,_,_,e,_⟩,_⟩:=x;exact zv e
 |rng lo hi=>obtain⟨_,_,_,e⟩:=x;exact zv e
 |pY ob u=>obtain⟨e,_⟩:=x;exact zv e
 |tbl ps=>exact zv (show h.get? a=some _ from x)
 |met f y=>exact zv (show h.get? a=some _ from x)
 |ext φ=>obtain⟨_,⟨_,e⟩,_⟩:=x;exact zv e
theorem Paired.Zb {α β:Type} {F G:α->β->Prop}:∀ {l₁:List α} {l₂:List β},Paired F l₁ l₂->(∀ a b,F a b->G a b)->Paired G l₁ l₂
 |_,_,.nil,_=>.nil
 |_,_,.cons r t,f=>.cons (f _ _ r) (Paired.Zb t f)
theorem Paired.imp' {α β:Type} {F G:α->β->Prop} (f:∀ a b,F a b->G a b) {l₁:List α} {l₂:List β} (r:Paired F l₁ l₂):Paired G l₁ l₂:=Paired.Zb r f
theorem eY.stay (x:eY P w H h a o) (k:∀ b u,(b=a\/H b=some (.own a))->h.get? b=some u->h'.get? b=some u)
  (ho:∀ b,H b=some (.own a)->H' b=some (.own a)) (ht:∀ b xs,H b=some (.tup xs)->H' b=some (.tup xs)):eY P w H' h' a o:=by
 induction o with
 |lst xs=>obtain⟨z,its,n,r,e⟩:=x;exact⟨z,its,n,r,k _ _ (.inl rfl) e⟩
 |tup xs=>obtain⟨z,its,r,ob,e,c⟩:=x;exact⟨z,its,r,ob,k _ _ (.inl rfl) e,c⟩
 |dK kvs=>obtain⟨z,y,vs,r,ob,es,ep,e,c⟩:=x;exact⟨z,y,vs,r,ob,es,ep,k _ _ (.inl rfl) e,c⟩
 |dT kvs=>
  obtain⟨z,y,xs,r,ob,es,ep,e,c⟩:=x;exact⟨z,y,xs,Paired.Zb r λp q z=>⟨z.1,ht _ _ z.2.1,z.2.2⟩,ob,es,ep,k _ _ (.inl rfl) e,c⟩
 |set S n=>obtain⟨ob,es,ep,t,e,c⟩:=x;exact⟨ob,es,ep,t,k _ _ (.inl rfl) e,c⟩
 |ins C dx fs=>
  obtain⟨d,z,ne,e,mA,⟨od,es,ep,e2,c⟩,r⟩:=x;exact⟨ho _ d,z,ne,k _ _ (.inl rfl) e,mA,⟨od,es,ep,k _ _ (.inr d) e2,c⟩,r⟩
 |own y=>obtain⟨ob,e⟩:=x;exact⟨ob,k _ _ (.inl rfl) e⟩
 |xd fs=>obtain⟨mA,⟨od,es,ep,e,c⟩,r⟩:=x;exact⟨mA,⟨od,es,ep,k _ _ (.inl rfl) e,c⟩,r⟩
 |rng lo hi=>obtain⟨t,u,v,e⟩:=x;exact⟨t,u,v,k _ _ (.inl rfl) e⟩
 |pY ob u ih=>obtain⟨e,q⟩:=x;exact⟨k _ _ (.inl rfl) e,ih q⟩
 |tbl ps=>
  have e:h.get? a=some { cls:=.none,data:=.fields ps }:=x;show h'.get? a=some { cls:=.none,data:=.fields ps };exact k a _ (.inl rfl) e
 |met f y=>
  have e:h.get? a=some (methodObj (.ref f) (.ref y)):=x;show h'.get? a=some (methodObj (.ref f) (.ref y));exact k a _ (.inl rfl) e
 |ext φ=>obtain⟨p,⟨o,e⟩,st⟩:=x;exact⟨st _ _ p λo q=>k _ _ (.inl rfl) q,⟨o,k _ _ (.inl rfl) e⟩,st⟩
theorem rN.lt (x:rN P w H h) (e:H a=some o):a < h.objs.size:=(x a o e).lt
theorem rN.fresh (x:rN P w H h) (e:h.objs.size<=a):H a=none:=by
 cases q:H a with
 |none=>rfl
 |some u=>exact absurd (ZE (x.lt q) e) (JE _)
theorem rN.kept (x:rN P w H h) (k:∀ b u,h.get? b=some u->h'.get? b=some u):rN P w H h':=λa o e=>
 (x a o e).stay (λb u _ q=>k b u q) (λ_ q=>q) λ_ _ q=>q
theorem rN.laid (x:rN P w H h) (k:∀ b u,h.get? b=some u->h'.get? b=some u) (hp:h.objs.size<=a) (new:eY P w (upd H a o) h' a o):rN P w (upd H a o) h':=λb u e=>by
 have hn:=x.fresh hp;by_cases hb:b=a
 ·subst hb;rw[aQ] at e;cases e;exact new
 ·rw[aG hb] at e;exact(x b u e).stay (λc v _ q=>k c v q) (λc q=>by rw[aG (bw q hn)];exact q) λc xs q=>by rw[aG (bw q hn)];exact q
end
def Rd (H:Hp) (a:Addr) (u:HO):Prop:=H a=some u\/∃ o,H a=some (.pY o u)
theorem Rd.ok {P:Program} {w:World} {H:Hp} {h:Heap} {a:Addr} {u:HO} (r:Rd H a u) (x:rN P w H h):eY P w H h a u:=by
 rcases r with r|⟨o,r⟩
 ·exact x a u r
 ·obtain⟨_,q⟩:=x a _ r;exact q
def Mut:Option HO->Prop
 |some (.lst _)=>True
 |some (.dK _)=>True
 |some (.dT _)=>True
 |some (.set _ _)=>True
 |some (.ins _ _ _)=>True
 |some (.ext _)=>True
 |_=>False
section
variable {P:Program} {w:World} {H:Hp} {h h':Heap} {x e:Addr} {o':HO}
theorem rN.write (ok:rN P w H h) (mu:Mut (H x)) (he:e=x\/H e=some (.own x)) (k:∀ b u,b≠e->h.get? b=some u->h'.get? b=some u) (heo:∃ u,h'.get? e=some u)
  (new:eY P w (upd H x o') h' x o'):rN P w (upd H x o') h':=λb u q=>by
 have aeV:∀ c y,H c=some (.own y)->c≠x:=λc y r z=>by subst z;rw[r] at mu;exact mu
 have ag4:∀ c xs,H c=some (.tup xs)->c≠x:=λc xs r z=>by subst z;rw[r] at mu;exact mu
 by_cases hb:b=x
 ·subst hb;rw[aQ] at q;cases q;exact new
 ·rw[aG hb] at q;by_cases hbe:b=e
  ·have q':H b=some (.own x):=by
    rcases he with z|z
    ·exact absurd (hbe.trans z) hb
    ·rw[hbe];exact z
   rw[q] at q';cases q';obtain⟨v,hv⟩:=heo;exact⟨v,by rw[hbe];exact hv⟩
  ·refine(ok b u q).stay (λc v hc r=>k c v ?_ r) (λc r=>by rw[aG (aeV c b r)];exact r) λc xs r=>by rw[aG (ag4 c xs r)];exact r
   rcases hc with rfl|hc
   ·exact hbe
   ·rintro rfl;rcases he with z|z
    ·exact aeV c b hc z
    ·rw[hc] at z;cases z;exact hb rfl
end
structure Un (fs ex:List Addr) (H H':Hp) (h h':Heap):Prop where
 keep:∀ b o,h.get? b=some o->H b=none->b∉fs->b∉ex->h'.get? b=some o
 slot:∀ b o,h.get? b=some o->H b=none->b∈fs->b∉ex->∃ sl,h'.get? b=some { o with slots:=sl }
 free:∀ b o,h.get? b=some o->H b=none->b∉ex->H' b=none
 there:∀ b o,h.get? b=some o->b∉ex->∃ o',h'.get? b=some o'
 tups:∀ b xs,H b=some (.tup xs)->H' b=some (.tup xs)
 rB:∀ b o u,H b=some (.pY o u)->H' b=some (.pY o u)
 uR:∀ b ps,H b=some (.tbl ps)->∃ more,H' b=some (.tbl (ps++more))
section
variable {fs fs' ex ex':List Addr} {H H1 H2:Hp} {h h1 h2 h':Heap} {a x e:Addr} {o:HO}
theorem Un.any (u:Un fs ex H H1 h h1) {b:Addr} {ob:Obj} (q:h.get? b=some ob) (n:H b=none) (hx:b∉ex):∃ sl,h1.get? b=some { ob with slots:=sl }:=by
 by_cases hb:b∈fs
 ·exact u.slot b ob q n hb hx
 ·exact⟨ob.slots,u.keep b ob q n hb hx⟩
theorem Un.kept (k:∀ b u,h.get? b=some u->h'.get? b=some u):Un fs ex H H h h':=
 ⟨λb ob q _ _ _=>k b ob q,λb ob q _ _ _=>⟨ob.slots,k b ob q⟩,λ_ _ _ n _=>n,λb ob q _=>⟨ob,k b ob q⟩,λ_ _ q=>q,λ_ _ _ q=>q,λ_ ps q=>⟨#[],by rw[q];simp⟩⟩
theorem Un.refl:Un fs ex H H h h:=Un.kept λ_ _ q=>q
theorem Un.laid (k:∀ b u,h.get? b=some u->h'.get? b=some u) (hp:h.objs.size<=a) (hn:H a=none):Un fs ex H (upd H a o) h h' where
 keep:=λb u q _ _ _=>k b u q
 slot:=λb u q _ _ _=>⟨u.slots,k b u q⟩
 free:=λb u q n _=>by rw[aG (zC (ZE (zv q) hp))];exact n
 there:=λb u q _=>⟨u,k b u q⟩
 tups:=λb xs q=>by rw[aG (bw q hn)];exact q
 rB:=λb u xs q=>by rw[aG (bw q hn)];exact q
 uR:=λb ps q=>⟨#[],by rw[aG (bw q hn),q];simp⟩
theorem Un.write (mu:Mut (H x)) (he:e=x\/H e=some (.own x)) (k:∀ b u,b≠e->h.get? b=some u->h'.get? b=some u) (heo:∃ u,h'.get? e=some u):Un fs ex H (upd H x o) h h':=by
 have hx:∀ b,H b=none->b≠x:=λb n z=>by subst z;rw[n] at mu;exact mu
 have hb:∀ b,H b=none->b≠e:=λb n z=>by
  subst z;rcases he with r|r
  ·exact hx b n r
  ·rw[n] at r;cases r
 have hm:∀ b u,H b=some u->¬ Mut (some u)->b≠x:=λb u q nm z=>by subst z;rw[q] at mu;exact nm mu
 refine⟨λb u q n _ _=>k b u (hb b n) q,λb u q n _ _=>⟨u.slots,k b u (hb b n) q⟩,λb u q n _=>by rw[aG (hx b n)];exact n,λb u q _=>?_,
  λb xs q=>by rw[aG (hm b _ q λz=>z)];exact q,λb u xs q=>by rw[aG (hm b _ q λz=>z)];exact q,λb ps q=>⟨#[],by rw[aG (hm b _ q λz=>z),q];simp⟩⟩
 by_cases hbe:b=e
 ·subst hbe;exact heo
 ·exact⟨u,k b u hbe q⟩
end
def trk (h:Heap) (H:Hp):List Addr:=(List.range h.objs.size).filter λa=>(H a).isSome
def Hf (h:Heap) (H:Hp):Heap:=PySem.W.hideAll h (trk h H)
theorem Sv (h:Heap) (H:Hp):(Hf h H).objs.size=h.objs.size:=PySem.W.hideAll_size _ _
theorem Vl {h:Heap} {H:Hp} {b:Addr} {o:Obj} (e:h.get? b=some o) (n:H b=none):(Hf h H).get? b=some o:=
 PySem.W.hideAll_get _ e λhm=>by
  have q:(H b).isSome=true:=(List.mem_filter.mp hm).2;rw[n] at q;simp at q
theorem Zc {h:Heap} {H:Hp} {b:Addr} {o:Obj} (e:(Hf h H).get? b=some o):h.get? b=some o/\H b=none:=by
 have e':h.get? b=some o:=PySem.W.of_hideAll (trk h H) e;refine⟨e',?_⟩;cases q:H b with
 |none=>rfl
 |some x=>
  have hm:b∈trk h H:=List.mem_filter.mpr ⟨List.mem_range.mpr (zv e'),by simp[q]⟩;have z:(Hf h H).get? b=none:=PySem.W.hideAll_none (trk h H) hm;rw[z] at e;cases e
def Zd (g h:Heap) (L:Addr):List (Addr×Obj):=(List.range h.objs.size).filterMap λa=>if a=L\/(g.get? a).isSome=true then none else(h.get? a).map λo=>(a,o)
def rest (g h:Heap) (L d:Addr):List (Addr×Obj):=(Zd g h L).filter λp=>decide (p.1≠d)
end L2
namespace L2
open PySem PySem.Spec PyProof.Rows
structure Mod (K:FG_) (mg:Str->Option Value) (base:Heap):Prop where
 kin:K.In base
 glob:base.Ns mainGlobals mg
 blt:∃ mb,base.Ns builtinsNs mb/\∀ x:Str,x ≠ "__name__" → mb x=bootBuiltins x
 nolimit:base.NoLimit
structure Cx where
 prog:Program
 w:World
 K:FG_
 mg:Str->Option Value
 base:Heap
 A:Around
 N:LS_
 s₀:Shared
 H₀:Hp
 env:Env
 outer:List Env
 stack:List Env
 ex:List Addr
 fn:Str->Bool
 calm:Bool
 pn:List (Addr×Obj)
 xe:VP_
def frs (l:List Env):List Addr:=l.filterMap (·.frame)
abbrev Cx.fs (X:Cx):List Addr:=frs X.outer
def Y6 (sc:Scope) (x:Str):Prop:=sc.names.lookup x=some .local\/sc.names.lookup x=some .cell\/sc.names.lookup x=some .free
def Loc (sc:Scope) (x:Str):Prop:=sc.names.lookup x=some .local\/sc.names.lookup x=some .cell
def Look (env:Env) (h:Heap) (m:Str->Option Value) (x:Str) (u:Value):Prop:=
 (env.kindOf x=some .local/\m x=some u)\/((env.kindOf x=some .cell\/env.kindOf x=some .free)/\∃ c,env.cells.lookup x=some c/\h.IsCell c (some u))
structure Cx.Ok (X:Cx):Prop where
 mod:Mod X.K X.mg X.base
 kind:X.env.scope.kind=.function
 glob:X.env.globals=mainGlobals
 blt:X.env.builtins=builtinsNs
 above:X.s₀.heap.objs.size<=X.env.locals
 inj:∀ x y c,X.env.cells.lookup x=some c->X.env.cells.lookup y=some c->x=y
 has:∀ x,(X.env.kindOf x=some .cell\/X.env.kindOf x=some .free)->∃ c,X.env.cells.lookup x=some c
 cab:∀ x c,X.fn x=true->X.env.cells.lookup x=some c->X.s₀.heap.objs.size<=c
 hd:X.calm=true->X.A.handled=none
 frames:X.A.frames=some X.stack
 stk:X.stack=X.outer\/(X.stack=X.env::X.outer/\X.env.frame=some X.env.locals)
 exf:∀ b∈X.ex,b≠X.env.locals/\∀ x c,X.env.cells.lookup x=some c->c≠b
 bs:∀ b o,X.base.get? b=some o->X.s₀.heap.get? b=some o/\X.H₀ b=none
 Vd:X.base.objs.size<=X.s₀.heap.objs.size
 Np:∀ b o,X.base.get? b=some o->b∉X.ex
 Sw:∀ b∈X.ex,b∉X.fs
 rO:X.s₀.heap.FunFrames X.base X.outer
 Y7:∀ b∈X.fs,X.H₀ b=none
structure Inv (X:Cx) (pins:List (Addr×Obj)) (σ:List (Option V)) (H:Hp) (s:Shared):Prop where
 ok:X.Ok
 os:s.os=X.s₀.os
 bare:AllBare s.gens
 base:Un X.fs X.ex X.H₀ H X.s₀.heap s.heap
 loc:∃ m,s.heap.Ns X.env.locals m/\∀ (i:Nat) (x:Str) (v:V),X.N[i]?=some x->σ[i]?=some (some v)->Y6 X.env.scope x->∃ u,RelV v u/\Look X.env s.heap m x u
 cell:∀ x c,X.env.cells.lookup x=some c->∃ v,s.heap.IsCell c v
 free:H X.env.locals=none
 gZ:∀ x c,X.env.cells.lookup x=some c->H c=none
 pin:∀ p∈X.pn++pins,s.heap.get? p.1=some p.2/\H p.1=none/\p.1≠X.env.locals/\p.1∉X.fs/\∀ v,p.2.data≠.cell v
 hok:rN X.prog X.w H s.heap
 len:σ.length=X.N.length
section
variable {X:Cx} {pins:List (Addr×Obj)} {σ:List (Option V)} {H H':Hp} {s:Shared} {h':Heap}
theorem Cx.Ok.ag5 (ok:X.Ok) {b:Addr} {o:Obj} (e:X.base.get? b=some o):b∉X.fs:=λhb=>by
 have:=(ok.rO.mem hb).1;rw[e] at this;cases this
theorem Inv.bs (I:Inv X pins σ H s):∀ b o,X.base.get? b=some o->s.heap.get? b=some o/\H b=none:=λb o e=>
 ⟨I.base.keep b o (I.ok.bs b o e).1 (I.ok.bs b o e).2 (I.ok.ag5 e) (I.ok.Np b o e),I.base.free b o (I.ok.bs b o e).1 (I.ok.bs b o e).2 (I.ok.Np b o e)⟩
theorem Inv.bk (I:Inv X pins σ H s):∀ b o,X.base.get? b=some o->s.heap.get? b=some o:=λb o e=>(I.bs b o e).1
theorem Inv.mod (I:Inv X pins σ H s):Mod X.K X.mg X.base:=I.ok.mod
theorem Inv.Aj (I:Inv X pins σ H s):X.K.In s.heap:=I.ok.mod.kin.keeps I.bk
theorem Inv.lt (I:Inv X pins σ H s):X.env.locals < s.heap.objs.size:=let ⟨_,hn,_⟩:=I.loc;hn.lt
theorem Inv.sz (I:Inv X pins σ H s):X.s₀.heap.objs.size<=s.heap.objs.size:=Zs I.ok.above (ja I.lt)
theorem Inv.ag6 (I:Inv X pins σ H s) {a:Addr} (h:s.heap.objs.size<=a):a∉X.fs:=λhb=>by
 obtain⟨_,o,ho,_⟩:=I.ok.rO.mem hb;exact absurd (ZE (zv ho) (Zs I.sz h)) (JE _)
theorem Inv.Ze (I:Inv X pins σ H s):∀ x c,X.env.cells.lookup x=some c->c≠X.env.locals:=λx c e z=>by
 obtain⟨v,o,ho,hd⟩:=I.cell x c e;obtain⟨m,⟨o',es,ep,ho',hd',_⟩,_⟩:=I.loc;rw[z,ho'] at ho;cases ho;rw[hd'] at hd;cases hd
theorem Inv.rO (I:Inv X pins σ H s):s.heap.FunFrames X.base X.outer:=by
 have all:∀ (l:List Env),(∀ b∈frs l,b∈X.fs)->X.s₀.heap.FunFrames X.base l->s.heap.FunFrames X.base l:=by
  intro l
  induction l with
  |nil=>intro _ _;trivial
  |cons env r ih=>
   intro hs hl;obtain⟨hk,⟨L,o,hf,hn,ho,hd⟩,hr⟩:=hl;have hL:L∈X.fs:=hs L (by unfold frs;rw[kQ,hf];exact zi);obtain⟨sl,e⟩:=I.base.slot L o ho (I.ok.Y7 L hL) hL λz=>I.ok.Sw L z hL;exact⟨hk,⟨L,_,hf,hn,e,hd⟩,ih (λb hb=>hs b (by unfold frs;rw[kQ,hf];exact zr _ hb)) hr⟩
 exact all X.outer (λ_ hb=>hb) I.ok.rO
theorem Inv.stack (I:Inv X pins σ H s):s.heap.FunFrames X.base X.stack:=by
 rcases I.ok.stk with e|⟨e,hf⟩
 ·rw[e];exact I.rO
 ·rw[e];obtain⟨m,hn,_⟩:=I.loc;refine .cons (by rw[I.ok.kind];decide) hf hn ?_ I.rO;exact Heap.get?_none_of_le (Zs I.ok.Vd I.ok.above)
theorem Inv.Ak (I:Inv X pins σ H s):∀ b∈frs X.stack,b∈X.env.locals::X.fs:=λb hb=>by
 rcases I.ok.stk with e|⟨e,hf⟩
 ·rw[e] at hb;exact zr _ hb
 ·rw[e] at hb;unfold frs at hb;rw[kQ,hf] at hb;exact hb
theorem Inv.zJ (I:Inv X pins σ H s):∀ b∈frs X.stack,H b=none:=λb hb=>by
 rcases List.mem_cons.mp (I.Ak b hb) with e|hb
 ·rw[e];exact I.free
 ·obtain⟨_,o,ho,_⟩:=I.ok.rO.mem hb;exact I.base.free b o ho (I.ok.Y7 b hb) λz=>I.ok.Sw b z hb
theorem Inv.step {g':Array GenState} {t':Nat} {d':Drawn} {ch:List Addr} (I:Inv X pins σ H s)
  (hch:∀ b∈ch,(b∈X.ex\/X.s₀.heap.objs.size<=b)/\b≠X.env.locals/\(∀ x c,X.env.cells.lookup x=some c->c≠b)/\∀ p∈X.pn++pins,p.1≠b)
  (keep:∀ b o,b≠X.env.locals->b∉X.fs->b∉ch->s.heap.get? b=some o->H b=none->h'.get? b=some o)
  (slot:∀ b o,b≠X.env.locals->b∈X.fs->b∉ch->s.heap.get? b=some o->H b=none->∃ sl,h'.get? b=some { o with slots:=sl }) (free:∀ b o,b∉ch->s.heap.get? b=some o->H b=none->H' b=none)
  (there:∀ b o,b∉ch->s.heap.get? b=some o->∃ o',h'.get? b=some o')
  (tups:∀ b xs,H b=some (.tup xs)->H' b=some (.tup xs)) (rB:∀ b o u,H b=some (.pY o u)->H' b=some (.pY o u)) (uR:∀ b ps,H b=some (.tbl ps)->∃ more,H' b=some (.tbl (ps++more)))
  (ns:∀ m,s.heap.Ns X.env.locals m->h'.Ns X.env.locals m) (hok:rN X.prog X.w H' h') (hg:AllBare g') :
  Inv X pins σ H' { s with heap:=h',gens:=g',drawn:=d',toks:=t' }:=by
 have neL:∀ b o,X.s₀.heap.get? b=some o->b≠X.env.locals:=λb o e=>zC (ZE (zv e) I.ok.above);have neC:∀ b o,X.s₀.heap.get? b=some o->b∉X.ex->b∉ch:=λb o e hx hb=>by
  rcases(hch b hb).1 with z|z
  ·exact hx z
  ·exact absurd (ZE (zv e) z) (JE _)
 have cellK:∀ x c,X.env.cells.lookup x=some c->∀ v,s.heap.IsCell c v->h'.IsCell c v:=λx c e v ⟨o,ho,hd⟩=>by
  have nch:c∉ch:=λz=>(hch c z).2.2.1 x c e rfl;by_cases hc:c∈X.fs
  ·obtain⟨sl,q⟩:=slot c o (I.Ze x c e) hc nch ho (I.gZ x c e);exact⟨_,q,hd⟩
  ·exact⟨o,keep c o (I.Ze x c e) hc nch ho (I.gZ x c e),hd⟩
 refine⟨I.ok,I.os,hg,⟨λb o e n hb hx=>?_,λb o e n hb hx=>?_,λb o e n hx=>?_,λb o e hx=>?_,λb xs e=>tups b xs (I.base.tups b xs e),λb o xs e=>rB b o xs (I.base.rB b o xs e),λb ps e=>?_⟩,?_,λx c e=>?_,?_,λx c e=>?_,λp hp=>?_,hok,I.len⟩
 ·exact keep b o (neL b o e) hb (neC b o e hx) (I.base.keep b o e n hb hx) (I.base.free b o e n hx)
 ·obtain⟨sl,e1⟩:=I.base.slot b o e n hb hx;obtain⟨sl',e2⟩:=slot b _ (neL b o e) hb (neC b o e hx) e1 (I.base.free b o e n hx);exact⟨sl',e2⟩
 ·obtain⟨o',e1⟩:=I.base.there b o e hx;exact free b o' (neC b o e hx) e1 (I.base.free b o e n hx)
 ·obtain⟨o',e1⟩:=I.base.there b o e hx;exact there b o' (neC b o e hx) e1
 ·obtain⟨m1,e1⟩:=I.base.uR b ps e;obtain⟨m2,e2⟩:=uR b _ e1;exact⟨m1++m2,by rw[e2,Array.append_assoc]⟩
 ·obtain⟨m,hn,hl⟩:=I.loc;refine⟨m,ns m hn,λi x v e1 e2 e3=>?_⟩;obtain⟨u,r,l⟩:=hl i x v e1 e2 e3;refine⟨u,r,?_⟩;rcases l with l|⟨k,c,e,z⟩
  ·exact .inl l
  ·exact .inr ⟨k,c,e,cellK x c e _ z⟩
 ·obtain⟨v,z⟩:=I.cell x c e;exact⟨v,cellK x c e v z⟩
 ·obtain⟨m,⟨o,_,_,ho,_⟩,_⟩:=I.loc;exact free _ o (λz=>(hch _ z).2.1 rfl) ho I.free
 ·obtain⟨v,o,ho,hd⟩:=I.cell x c e;exact free c o (λz=>(hch c z).2.2.1 x c e rfl) ho (I.gZ x c e)
 ·obtain⟨e,n,ne,nf,d⟩:=I.pin p hp;have nch:p.1∉ch:=λz=>(hch p.1 z).2.2.2 p hp rfl;exact⟨keep p.1 p.2 ne nf nch e n,free p.1 p.2 nch e n,ne,nf,d⟩
theorem Inv.un {t':Nat} (I:Inv X pins σ H s) (u:Un X.fs [] H H' s.heap h') (hok:rN X.prog X.w H' h'):Inv X pins σ H' { s with heap:=h',toks:=t' }:=by
 obtain⟨m,⟨o,es,ep,ho,r⟩,_⟩:=id I.loc;obtain⟨sl,hL⟩:=u.any ho I.free (by simp);exact I.step (g':=s.gens) (d':=s.drawn) (ch:=[]) (λ_ z=>nomatch z) (λb o _ hb _ e n=>u.keep b o e n hb (by simp)) (λb o _ hb _ e n=>u.slot b o e n hb (by simp)) (λb o _ e n=>u.free b o e n (by simp)) (λb o _ e=>u.there b o e (by simp)) u.tups u.rB u.uR (λm' hm=>by
  obtain⟨o',es',ep',ho',r'⟩:=hm;rw[ho] at ho';cases ho';exact⟨_,es',ep',hL,r'⟩) hok I.bare
theorem Inv.call {g':Array GenState} {t':Nat} {d':Drawn} {ch:List Addr} (I:Inv X pins σ H s) (u:Un (frs X.stack) ch H H' s.heap h') (hok:rN X.prog X.w H' h') (hg:AllBare g')
  (hch:∀ b∈ch,(b∈X.ex\/X.s₀.heap.objs.size<=b)/\b≠X.env.locals/\(∀ x c,X.env.cells.lookup x=some c->c≠b)/\∀ p∈X.pn++pins,p.1≠b) :
  Inv X pins σ H' { s with heap:=h',gens:=g',drawn:=d',toks:=t' }:=by
 obtain⟨m,⟨o,es,ep,ho,r⟩,_⟩:=id I.loc;obtain⟨sl,hL⟩:=u.any ho I.free λz=>(hch _ z).2.1 rfl;exact I.step (ch:=ch) hch (λb o hL hb hc e n=>u.keep b o e n (λz=>(List.mem_cons.mp (I.Ak b z)).elim hL hb) hc) (λb o _ _ hc e n=>u.any e n hc) (λb o hc e n=>u.free b o e n hc) (λb o hc e=>u.there b o e hc) u.tups u.rB u.uR (λm' hm=>by
  obtain⟨o',es',ep',ho',r'⟩:=hm;rw[ho] at ho';cases ho';exact⟨_,es',ep',hL,r'⟩) hok hg
theorem Inv.turned {t':Nat} {it:Addr} (I:Inv X pins σ H s) (k:∀ b o,b≠it->s.heap.get? b=some o->h'.get? b=some o) (hn:H it=none) (hL:it≠X.env.locals)
  (h1:it∈X.ex\/X.s₀.heap.objs.size<=it) (h2:∀ x c,X.env.cells.lookup x=some c->c≠it) (h3:∀ p∈X.pn++pins,p.1≠it):Inv X pins σ H { s with heap:=h',toks:=t' }:=by
 have nit:∀ b u,H b=some u->b≠it:=λb u e z=>by rw[z,hn] at e;cases e
 refine I.step (g':=s.gens) (d':=s.drawn) (ch:=[it]) (λb hb=>?_) (λb o _ _ hc e _=>k b o (λz=>hc (by simp[z])) e) (λb o _ _ hc e _=>⟨o.slots,k b o (λz=>hc (by simp[z])) e⟩) (λ_ _ _ _ n=>n)
  (λb o hc e=>⟨o,k b o (λz=>hc (by simp[z])) e⟩) (λ_ _ e=>e) (λ_ _ _ e=>e) (λb ps e=>⟨#[],by rw[e];simp⟩) (λm hm=>?_) (λb u e=>?_) I.bare
 ·have e:b=it:=by simpa using hb
  subst e;exact⟨h1,hL,h2,h3⟩
 ·obtain⟨o,es,ep,ho,r⟩:=hm;exact⟨o,es,ep,k _ o (js hL) ho,r⟩
 ·refine(I.hok b u e).stay (λc v hc q=>k c v ?_ q) (λ_ q=>q) λ_ _ q=>q;rcases hc with z|z
  ·rw[z];exact nit b u e
  ·exact nit c _ z
theorem Inv.tok (I:Inv X pins σ H s) (t:Nat):Inv X pins σ H { s with toks:=t }:=I.un (h':=s.heap) (t':=t) Un.refl I.hok
theorem Inv.kept {t':Nat} (I:Inv X pins σ H s) (k:∀ b u,s.heap.get? b=some u->h'.get? b=some u):Inv X pins σ H { s with heap:=h',toks:=t' }:=I.un (Un.kept k) (I.hok.kept k)
theorem Inv.laid {a:Addr} {o:HO} {t':Nat} (I:Inv X pins σ H s) (k:∀ b u,s.heap.get? b=some u->h'.get? b=some u) (hp:s.heap.objs.size<=a) (new:eY X.prog X.w (upd H a o) h' a o) :
  Inv X pins σ (upd H a o) { s with heap:=h',toks:=t' }:=I.un (Un.laid k hp (I.hok.fresh hp)) (I.hok.laid k hp new)
theorem Inv.write {x e:Addr} {o:HO} {t':Nat} (I:Inv X pins σ H s) (mu:Mut (H x)) (he:e=x\/H e=some (.own x)) (k:∀ b u,b≠e->s.heap.get? b=some u->h'.get? b=some u) (heo:∃ u,h'.get? e=some u)
  (new:eY X.prog X.w (upd H x o) h' x o):Inv X pins σ (upd H x o) { s with heap:=h',toks:=t' }:=I.un (Un.write mu he k heo) (I.hok.write mu he k heo new)
theorem Inv.zK {Vm:List (Addr×Obj)} (I:Inv X pins σ H s) (h:∀ p∈Vm,s.heap.get? p.1=some p.2/\H p.1=none/\p.1≠X.env.locals/\p.1∉X.fs/\∀ v,p.2.data≠.cell v):Inv X Vm σ H s:=
 ⟨I.ok,I.os,I.bare,I.base,I.loc,I.cell,I.free,I.gZ,λp hp=>(List.mem_append.mp hp).elim (λz=>I.pin p (kL _ z)) (h p),I.hok,I.len⟩
theorem Al {N:LS_} (hN:N.Nodup) {i j:Nat} {x:Str} (a:N[i]?=some x) (b:N[j]?=some x):i=j:=by
 obtain⟨h1,e1⟩:=List.getElem?_eq_some_iff.mp a;obtain⟨h2,e2⟩:=List.getElem?_eq_some_iff.mp b;exact(List.getElem_inj hN).mp (e1.trans e2.symm)
theorem Sx {M:Model} {A:Around} {E:VP_} {i:Nat} {x:Str} {v:V} {u:Value} {Q:Unit->Shared->Prop} (I:Inv X pins σ H s) (hN:X.N.Nodup) (hi:X.N[i]?=some x) (hx:Loc X.env.scope x) (r:RelV v u)
  (h:∀ s',Inv X pins (σ.set i (some v)) H s'->(∃ a,Heap.SameBut a s.heap s'.heap/\(a=X.env.locals\/X.env.cells.lookup x=some a))->Q () s') (hf:X.fn x=true\/X.env.scope.names.lookup x=some .local:=by first|exact .inl rfl|exact .inr rfl|assumption):wpAny M A (storeName X.env x u) Q E s:=by
 obtain⟨m,hn,hl⟩:=id I.loc;have hcls:(X.env.scope.kind==.class||(X.env.scope.kind==.module&&X.env.locals != X.env.globals))=false:=by rw[I.ok.kind];rfl
 have hiσ:i < σ.length:=by rw[I.len];exact(List.getElem?_eq_some_iff.mp hi).1
 have Ze:=I.Ze;have tracked:∀ {a:Addr} {h':Heap},(∃ o,s.heap.get? a=some o/\H a=none)->Heap.SameBut a s.heap h'->rN X.prog X.w H h':=λ{a h'} ha hs b ob e=>by
  obtain⟨_,_,hfree⟩:=ha;refine(I.hok b ob e).stay (λc w' hc q=>(hs.2 c ?_).trans q) (λ_ q=>q) λ_ _ q=>q;rintro rfl;rcases hc with rfl|hc
  ·rw[hfree] at e;cases e
  ·rw[hfree] at hc;cases hc
 rcases hx with hk|hk
 ·refine wpAny_storeName_local hk hn (λh' hn' hs=>?_) hcls;obtain⟨oL,_,_,hoL,_⟩:=id hn;refine h _ ⟨I.ok,I.os,I.bare,⟨λb o e n hb hx=>?_,λb o e n hb hx=>?_,I.base.free,λb o e hx=>?_,I.base.tups,I.base.rB,I.base.uR⟩,⟨_,hn',λj y v' e1 e2 e3=>?_⟩,λy c e=>?_,I.free,I.gZ,λp hp=>?_,tracked ⟨oL,hoL,I.free⟩ hs,by simpa using I.len⟩ ⟨_,hs,.inl rfl⟩
  ·exact(hs.2 b (zC (ZE (zv e) I.ok.above))).trans (I.base.keep b o e n hb hx)
  ·obtain⟨sl,e1⟩:=I.base.slot b o e n hb hx;exact⟨sl,(hs.2 b (zC (ZE (zv e) I.ok.above))).trans e1⟩
  ·obtain⟨o',e1⟩:=I.base.there b o e hx;exact⟨o',(hs.2 b (zC (ZE (zv e) I.ok.above))).trans e1⟩
  ·by_cases hj:j=i
   ·subst hj;rw[hi] at e1;cases e1;rw[List.getElem?_set_self hiσ] at e2;cases e2;exact⟨u,r,.inl ⟨hk,by simp⟩⟩
   ·rw[List.getElem?_set_ne (js hj)] at e2;obtain⟨u',r',q⟩:=hl j y v' e1 e2 e3;refine⟨u',r',?_⟩;rcases q with⟨k,e⟩|⟨k,c,e,z⟩
    ·refine .inl ⟨k,?_⟩;have:y≠x:=λe=>hj (Al hN e1 (e▸hi));simp[this,e]
    ·exact .inr ⟨k,c,e,z.sameBut hs (Ze y c e)⟩
  ·obtain⟨w',z⟩:=I.cell y c e;exact⟨w',z.sameBut hs (Ze y c e)⟩
  ·obtain⟨e,n,ne,nf,d⟩:=I.pin p hp;exact⟨(hs.2 p.1 ne).trans e,n,ne,nf,d⟩
 ·have hfn:X.fn x=true:=by
   rcases hf with z|z
   ·exact z
   ·rw[z] at hk;cases hk
  obtain⟨c,hc⟩:=I.ok.has x (.inl hk);obtain⟨w',z⟩:=I.cell x c hc;refine wpAny_storeName_cell I.ok.kind hk hc z (λh' hc' hs=>?_);obtain⟨oc,hoc,ag7⟩:=id z;refine h { s with heap:=h' } ⟨I.ok,I.os,I.bare,⟨λb o e n hb hx=>?_,λb o e n hb hx=>?_,I.base.free,λb o e hx=>?_,I.base.tups,I.base.rB,I.base.uR⟩,⟨m,hn.sameBut hs (js (Ze x c hc)),λj y v' e1 e2 e3=>?_⟩,λy c' e=>?_,I.free,I.gZ,λp hp=>?_,tracked ⟨oc,hoc,I.gZ x c hc⟩ hs,by simpa using I.len⟩ ⟨c,hs,.inr hc⟩
  ·exact(hs.2 b (zC (ZE (zv e) (I.ok.cab x c hfn hc)))).trans (I.base.keep b o e n hb hx)
  ·obtain⟨sl,e1⟩:=I.base.slot b o e n hb hx;exact⟨sl,(hs.2 b (zC (ZE (zv e) (I.ok.cab x c hfn hc)))).trans e1⟩
  ·obtain⟨o',e1⟩:=I.base.there b o e hx;exact⟨o',(hs.2 b (zC (ZE (zv e) (I.ok.cab x c hfn hc)))).trans e1⟩
  ·by_cases hj:j=i
   ·subst hj;rw[hi] at e1;cases e1;rw[List.getElem?_set_self hiσ] at e2;cases e2;exact⟨u,r,.inr ⟨.inl hk,c,hc,hc'⟩⟩
   ·rw[List.getElem?_set_ne (js hj)] at e2;obtain⟨u',r',q⟩:=hl j y v' e1 e2 e3;refine⟨u',r',?_⟩;rcases q with q|⟨k,c',e,z'⟩
    ·exact .inl q
    ·refine .inr ⟨k,c',e,z'.sameBut hs ?_⟩;rintro rfl;exact hj (Al hN e1 (I.ok.inj _ _ _ e hc▸hi))
  ·by_cases hcc:c'=c
   ·subst hcc;exact⟨_,hc'⟩
   ·obtain⟨w2,z2⟩:=I.cell y c' e;exact⟨w2,z2.sameBut hs hcc⟩
  ·obtain⟨e,n,ne,nf,d⟩:=I.pin p hp;refine⟨(hs.2 p.1 ?_).trans e,n,ne,nf,d⟩;intro q;rw[q,hoc] at e;have q':oc=p.2:=JU e;exact d w' (by rw[<-q'];exact ag7)
theorem o8 {M:Model} {A:Around} {E:VP_} {i:Nat} {x:Str} {v:V} {u:Value} {Q:Unit->Shared->Prop} (I:Inv X pins σ H s) (hN:X.N.Nodup) (hi:X.N[i]?=some x) (hx:Loc X.env.scope x) (r:RelV v u)
  (h:∀ s',Inv X pins (σ.set i (some v)) H s'->Q () s') (hf:X.fn x=true\/X.env.scope.names.lookup x=some .local:=by first|exact .inl rfl|exact .inr rfl|assumption):wpAny M A (storeName X.env x u) Q E s:=
 Sx I hN hi hx r (λs' I' _=>h s' I') hf
theorem Inv.call' {s':Shared} {ch:List Addr} (I:Inv X pins σ H s) (ho:s'.os=s.os) (u:Un (frs X.stack) ch H H' s.heap s'.heap) (hok:rN X.prog X.w H' s'.heap) (hg:AllBare s'.gens)
  (hch:∀ b∈ch,(b∈X.ex\/X.s₀.heap.objs.size<=b)/\b≠X.env.locals/\(∀ x c,X.env.cells.lookup x=some c->c≠b)/\∀ p∈X.pn++pins,p.1≠b):Inv X pins σ H' s':=by
 obtain⟨h',g',d',t',o'⟩:=s';have e:o'=s.os:=ho;subst e;exact I.call (g':=g') (t':=t') (d':=d') u hok hg hch
end
abbrev XK:=Value->Option Addr->Hp->Prop
abbrev St:=List (Option V)
abbrev VK:=V->Hp->Prop
abbrev TE:=St->Hp->VK->Prop
abbrev TT:=St->Hp->(Bool->Hp->Prop)->Prop
abbrev TA:=St->Hp->(List V->Hp->Prop)->Prop
structure Ends where
 nx:St->Hp->Prop
 rt:VK
 bk:St->Hp->Prop:=λ_ _=>False
 ct:St->Hp->Prop:=λ_ _=>False
abbrev TS:=Ends->St->Hp->Prop
def EP (X:Cx) (pins:List (Addr×Obj)) (σ:St) (Q:VK) (u:Value) (s':Shared):Prop:=∃ v H',Inv X pins σ H' s'/\RelV v u/\Q v H'
def TP (X:Cx) (pins:List (Addr×Obj)) (σ:St) (Q:Bool->Hp->Prop) (b:Bool) (s':Shared):Prop:=∃ H',Inv X pins σ H' s'/\Q b H'
def AP (X:Cx) (pins:List (Addr×Obj)) (σ:St) (Q:List V->Hp->Prop) (us:List Value) (s':Shared):Prop:=∃ vs H',Inv X pins σ H' s'/\Vals vs us/\Q vs H'
def SP (X:Cx) (pins:List (Addr×Obj)) (D:Ends) (f:Flow) (s':Shared):Prop:=
 match f with
 |.next=>∃ σ' H',Inv X pins σ' H' s'/\D.nx σ' H'
 |.brk=>∃ σ' H',Inv X pins σ' H' s'/\D.bk σ' H'
 |.cont=>∃ σ' H',Inv X pins σ' H' s'/\D.ct σ' H'
 |.ret u=>∃ v σ' H',Inv X pins σ' H' s'/\RelV v u/\D.rt v H'
def PE (X:Cx) (e:Expr) (t:TE):Prop:=
 ∀ (pins:List (Addr×Obj)) (s:Shared) (σ:St) (H:Hp) (Q:VK),Inv X pins σ H s->t σ H Q->wpAny (model X.prog X.w) X.A (eval e X.env) (EP X pins σ Q) X.xe s
def PT (X:Cx) (e:Expr) (t:TT):Prop:=
 ∀ (pins:List (Addr×Obj)) (s:Shared) (σ:St) (H:Hp) (Q:Bool->Hp->Prop),Inv X pins σ H s->t σ H Q->wpAny (model X.prog X.w) X.A (isTrue e X.env (eval e X.env)) (TP X pins σ Q) X.xe s
def PW (X:Cx) (e:Expr) (t:TT):Prop:=
 ∀ (whole:Sem Value) (pins:List (Addr×Obj)) (s:Shared) (σ:St) (H:Hp) (Q:Bool->Hp->Prop),Inv X pins σ H s->t σ H Q->wpAny (model X.prog X.w) X.A (isTrue e X.env whole) (TP X pins σ Q) X.xe s
theorem PW.pt {X:Cx} {e:Expr} {t:TT} (h:PW X e t):PT X e t:=h _
def PA (X:Cx) (es:List Expr) (t:TA):Prop:=
 ∀ (pos:Pos) (pins:List (Addr×Obj)) (s:Shared) (σ:St) (H:Hp) (Q:List V->Hp->Prop),Inv X pins σ H s->t σ H Q->wpAny (model X.prog X.w) X.A (spliced (backTo pos (starEach es X.env))) (AP X pins σ Q) X.xe s
def PS (X:Cx) (st:Stmt) (t:TS):Prop:=
 ∀ (pins:List (Addr×Obj)) (s:Shared) (σ:St) (H:Hp) (D:Ends),Inv X pins σ H s->t D σ H->wpAny (model X.prog X.w) X.A (exec st X.env) (SP X pins D) X.xe s
def zL (X:Cx) (st:List Stmt) (t:TS):Prop:=
 ∀ (pins:List (Addr×Obj)) (s:Shared) (σ:St) (H:Hp) (D:Ends),Inv X pins σ H s->t D σ H->wpAny (model X.prog X.w) X.A (execs st X.env) (SP X pins D) X.xe s
theorem gF {α:Type} {t:Sem α} {Q Q':α->Shared->Prop} {M:Model} {A:Around} {E:VP_} {s:Shared} (h:wpAny M A t Q E s) (hQ:∀ a s,Q a s->Q' a s):wpAny M A t Q' E s:=ZN h hQ λ_ _ x=>x
end L2
namespace L2
open PySem PySem.Spec PyProof.Rows
section
variable {X:Cx}
def Vn (i:Nat):TE:=λσ H Q=>∃ v,σ[i]?=some (some v)/\Q v H
def tC (v:V):TE:=λ_ H Q=>Q v H
theorem uT {i:Nat} {x:Str} {pos:Pos} (hN:X.N[i]?=some x) (hv:Y6 X.env.scope x) (hd:(x==("__debug__" : Str))=false:=by decide) (hcd:(x==("__classdict__" : Str))=false:=by decide):PE X (.Name x pos) (Vn i):=by
 intro pins s σ H Q I h;obtain⟨v,e,h⟩:=h;obtain⟨m,hn,hl⟩:=I.loc;obtain⟨u,r,l⟩:=hl i x v hN e hv;have fin:EP X pins σ Q u s:=⟨v,H,I,r,h⟩;rcases l with⟨hk,hm⟩|⟨hk,c,hc,hcell⟩
 ·exact wpAny_Name (wpAny_loadName_local I.ok.kind hk hn hm fin) hd
 ·rcases hk with hk|hk
  ·exact wpAny_Name (wpAny_loadName_cell I.ok.kind hk hc hcell fin) hd
  ·exact wpAny_Name (wpAny_loadName_free I.ok.kind hk hc hcell fin hcd) hd
theorem Nq {i j pos}:PE X (.Constant (.int i) j pos) (tC (.int i)):=λ_ _ _ H _ I h=>wpAny_Constant_int ⟨.int i,H,I.tok _,⟨_,rfl⟩,h⟩
theorem abG {b j pos}:PE X (.Constant (.bool b) j pos) (tC (.bl b)):=λ_ _ _ H _ I h=>Constant_bool ⟨.bl b,H,I,rfl,h⟩
theorem acz {j pos}:PE X (.Constant .none j pos) (tC .non):=λ_ _ _ H _ I h=>Constant_none ⟨.non,H,I,rfl,h⟩
theorem acA {x j pos}:PE X (.Constant (.str x) j pos) (tC (.str x)):=λ_ _ _ H _ I h=>Calls.Constant_str ⟨.str x,H,I.tok _,⟨_,rfl⟩,h⟩
def Gl (X:Cx) (x:Str):Prop:=X.env.kindOf x=some .globalImplicit
theorem tO {E:VP_} {pins:List (Addr×Obj)} {s:Shared} {σ:St} {H:Hp} {x:Str} {u:Value} {pos:Pos} {Q:VP_} (I:Inv X pins σ H s) (hg:Gl X x) (hm:X.mg x=some u) (h:Q u s)
  (hd:(x==("__debug__" : Str))=false:=by decide):wpAny (model X.prog X.w) X.A (eval (.Name x pos) X.env) Q E s:=
 Calls.Name_function_global I.ok.kind hg (Calls.loadGlobal_global (by rw[I.ok.glob];exact I.mod.glob.keeps I.bk) hm h) hd
theorem Am {E:VP_} {pins:List (Addr×Obj)} {s:Shared} {σ:St} {H:Hp} {x:Str} {u:Value} {pos:Pos} {Q:VP_} (I:Inv X pins σ H s) (hg:Gl X x) (hm:X.mg x=none) (hv:bootBuiltins x=some u) (h:Q u s)
  (hn:x ≠ "__name__" := by decide) (hd:(x==("__debug__" : Str))=false:=by decide):wpAny (model X.prog X.w) X.A (eval (.Name x pos) X.env) Q E s:=by
 obtain⟨mb,h1,h2⟩:=I.mod.blt;exact Calls.Name_function_global I.ok.kind hg (Calls.loadGlobal_builtin (by rw[I.ok.glob];exact I.mod.glob.keeps I.bk) hm (by rw[I.ok.blt];exact h1.keeps I.bk) ((h2 x hn).trans hv) h) hd
theorem jf {x:Str} {v:V} {u:Value} {pos:Pos} (hg:Gl X x) (hm:X.mg x=some u) (r:RelV v u) (hd:(x==("__debug__" : Str))=false:=by decide):PE X (.Name x pos) (tC v):=
 λ_ _ _ H _ I h=>tO I hg hm ⟨v,H,I,r,h⟩ hd
theorem zM {x:Str} {v:V} {u:Value} {pos:Pos} (hg:Gl X x) (hm:X.mg x=none) (hv:bootBuiltins x=some u) (r:RelV v u) (hn:x ≠ "__name__" := by decide) (hd:(x==("__debug__" : Str))=false:=by decide):PE X (.Name x pos) (tC v):=
 λ_ _ _ H _ I h=>Am I hg hm hv ⟨v,H,I,r,h⟩ hn hd
variable {a b:Expr} {ta tb:TE} {pos:Pos}
variable {tA tB':TT} {rest:List Expr}
def aeX (t u:TT):TT:=λσ H Q=>t σ H λc H1=>if c=true then u σ H1 Q else Q false H1
def tOr (t u:TT):TT:=λσ H Q=>t σ H λc H1=>if c=true then Q true H1 else u σ H1 Q
def ag8 (t:TT):TT:=λσ H Q=>t σ H λc H1=>Q (!c) H1
theorem Zf (ha:PT X a tA):PW X (.BoolOp .And [a] pos) tA:=by
 intro wh pins s σ H Q I h;refine isTrue_and (gF (ha pins s σ H Q I h) λc s1 e=>?_);cases c with
 |true=>exact isTrue_and_nil e
 |false=>exact e
theorem acB (ha:PT X a tA):PW X (.BoolOp .Or [a] pos) tA:=by
 intro wh pins s σ H Q I h;refine isTrue_or (gF (ha pins s σ H Q I h) λc s1 e=>?_);cases c with
 |false=>exact isTrue_or_nil e
 |true=>exact e
theorem acC (ha:PT X a tA) (hb:PW X (.BoolOp .And (b::rest) pos) tB'):PW X (.BoolOp .And (a::b::rest) pos) (aeX tA tB'):=by
 intro wh pins s σ H Q I h;refine isTrue_and (gF (ha pins s σ H _ I h) λc s1 ⟨H1,I1,q1⟩=>?_);cases c with
 |true=>exact hb wh pins s1 σ H1 Q I1 q1
 |false=>exact⟨H1,I1,q1⟩
theorem aeY (ha:PT X a tA) (hb:PW X (.BoolOp .Or (b::rest) pos) tB'):PW X (.BoolOp .Or (a::b::rest) pos) (tOr tA tB'):=by
 intro wh pins s σ H Q I h;refine isTrue_or (gF (ha pins s σ H _ I h) λc s1 ⟨H1,I1,q1⟩=>?_);cases c with
 |true=>exact⟨H1,I1,q1⟩
 |false=>exact hb wh pins s1 σ H1 Q I1 q1
theorem acD (ha:PT X a tA):PT X (.UnaryOp .Not a pos) (ag8 tA):=by
 intro pins s σ H Q I h;exact isTrue_not (ha pins s σ H (λc H1=>Q (!c) H1) I h)
def aeZ (ta tb:TE):TE:=λσ H Q=>ta σ H λx H1=>∃ c,x=.bl c/\if c=true then tb σ H1 Q else Q (.bl false) H1
theorem Nr {op} {t:TE} (h:PE X a t):PE X (.BoolOp op [a] pos) t:=λpins s σ H Q I hw=>BoolOp_one (h pins s σ H Q I hw)
theorem Hg (ha:PE X a ta) (hb:PE X (.BoolOp .And (b::rest) pos) tb):PE X (.BoolOp .And (a::b::rest) pos) (aeZ ta tb):=by
 intro pins s σ H Q I h;refine BoolOp_and (gF (ha pins s σ H _ I h) λv s1 ⟨x,H1,I1,r1,q1⟩=>?_);obtain⟨c,rfl,q1⟩:=q1;cases r1;refine jv ?_;cases c with
 |true=>exact hb pins s1 σ H1 Q I1 q1
 |false=>exact⟨.bl false,H1,I1,rfl,q1⟩
end
end L2
namespace L2
open PySem PySem.Spec PyProof.Rows
def rP (K:FG_) (H:Hp) (a:Addr) (xs:List V):Prop:=
 Rd H a (.lst xs) ∨
  ∃ (o:Obj) (its:Array Value) (n:Nat),K.lookup a=some o/\o.cls=.type "list" ∧ o.dict=none/\o.data=.seq its n/\its.size<=sizeLine/\Vals xs its.toList
def wW (K:FG_) (H:Hp) (a:Addr) (xs:List V):Prop:=
 Rd H a (.tup xs) ∨
  ∃ (o:Obj) (its:Array Value) (n:Nat),K.lookup a=some o/\(o.cls=.type "tuple" ∧ o.dict=none)/\o.data=.seq its n/\its.size<=sizeLine/\Vals xs its.toList
def acE:Value->Option V
 |.none=>some .non
 |.bool b=>some (.bl b)
 |.int i _=>some (.int i)
 |.str x _=>some (.str x)
 |.bytes b _=>some (.byt b)
 |.float b _=>some (.flt b)
 |.ref a=>some (.ref a)
 |.type n=>some (.ty n)
 |_=>none
theorem RelV.abs {x:V} {u:Value} (r:RelV x u):acE u=some x:=by
 cases x with
 |non=>cases r;rfl
 |bl _=>cases r;rfl
 |int _=>obtain⟨t,rfl⟩:=r;rfl
 |str _=>obtain⟨t,rfl⟩:=r;rfl
 |byt _=>obtain⟨t,rfl⟩:=r;rfl
 |flt _=>obtain⟨t,rfl⟩:=r;rfl
 |ref _=>cases r;rfl
 |ty _=>cases r;rfl
theorem RelV.inj {x y:V} {u:Value} (r:RelV x u) (q:RelV y u):x=y:=JU (r.abs.symm.trans q.abs)
theorem Vals.inj:∀ {xs ys:List V} {us:List Value},Vals xs us->Vals ys us->xs=ys
 |_,_,_,.nil,.nil=>rfl
 |_,_,_,.cons r t,.cons r' t'=>by rw[r.inj r',Vals.inj t t']
section
variable {X:Cx} {pins:List (Addr×Obj)} {σ:St} {H:Hp} {s:Shared} {a:Addr} {xs ys:List V}
theorem Inv.list (I:Inv X pins σ H s) (h:rP X.K H a xs):∃ its:List Value,Vals xs its/\PlainL s.heap a its.toArray/\xs.length<=sizeLine:=by
 rcases h with h|⟨o,its,n,hk,hc,hd,hs,hz,r⟩
 ·obtain⟨z,its,n,r,e⟩:=h.ok I.hok;exact⟨its,r,⟨_,n,e,rfl,rfl,rfl⟩,z⟩
 ·refine⟨its.toList,r,⟨o,n,I.Aj a o hk,hc,hd,by simpa using hs⟩,?_⟩;have e:=r.length;simp only[qc] at e;omega
theorem Inv.tuple (I:Inv X pins σ H s) (h:wW X.K H a xs):∃ its:List Value,Vals xs its/\IsTup s.heap a its.toArray/\xs.length<=sizeLine:=by
 rcases h with h|⟨o,its,n,hk,hc,hs,hz,r⟩
 ·obtain⟨z,its,r,p⟩:=h.ok I.hok;exact⟨its,r,p.weak,z⟩
 ·refine⟨its.toList,r,⟨o,I.Aj a o hk,hc.1,n,by simpa using hs⟩,?_⟩;have e:=r.length;simp only[qc] at e;omega
theorem Inv.JN (I:Inv X pins σ H s) (h:rP X.K H a xs) (h':rP X.K H a ys):xs=ys:=by
 obtain⟨its,r,⟨o,n,e,_,_,d⟩,_⟩:=I.list h;obtain⟨its',r',⟨o',n',e',_,_,d'⟩,_⟩:=I.list h';rw[e] at e';cases e';rw[d] at d';injection d' with d1 _;have:its=its':=by simpa using congrArg Array.toList d1
 subst this;exact r.inj r'
theorem Inv.Fq (I:Inv X pins σ H s) (h:wW X.K H a xs) (h':wW X.K H a ys):xs=ys:=by
 obtain⟨its,r,⟨o,e,_,n,d⟩,_⟩:=I.tuple h;obtain⟨its',r',⟨o',e',_,n',d'⟩,_⟩:=I.tuple h';rw[e] at e';cases e';rw[d] at d';injection d' with d1 _;have:its=its':=by simpa using congrArg Array.toList d1
 subst this;exact r.inj r'
end
abbrev Cx.wish (X:Cx) (E:VP_):Cx:={ X with xe:=E }
abbrev Cx.Ve (X:Cx):Cx:=X.wish λ_ _=>False
theorem Cx.Ok.wish {X:Cx} (ok:X.Ok) (E:VP_):(X.wish E).Ok:=
 ⟨ok.mod,ok.kind,ok.glob,ok.blt,ok.above,ok.inj,ok.has,ok.cab,ok.hd,ok.frames,ok.stk,ok.exf,ok.bs,ok.Vd,ok.Np,ok.Sw,ok.rO,ok.Y7⟩
theorem Cx.Ok.jB {X:Cx} {E:VP_} (ok:(X.wish E).Ok):X.Ok:=
 ⟨ok.mod,ok.kind,ok.glob,ok.blt,ok.above,ok.inj,ok.has,ok.cab,ok.hd,ok.frames,ok.stk,ok.exf,ok.bs,ok.Vd,ok.Np,ok.Sw,ok.rO,ok.Y7⟩
section
variable {X:Cx} {pins:List (Addr×Obj)} {σ:St} {H:Hp} {s:Shared} {E:VP_}
theorem Inv.wish (I:Inv X pins σ H s) (E:VP_):Inv (X.wish E) pins σ H s:=⟨I.ok.wish E,I.os,I.bare,I.base,I.loc,I.cell,I.free,I.gZ,I.pin,I.hok,I.len⟩
theorem Inv.jB (I:Inv (X.wish E) pins σ H s):Inv X pins σ H s:=⟨I.ok.jB,I.os,I.bare,I.base,I.loc,I.cell,I.free,I.gZ,I.pin,I.hok,I.len⟩
theorem SP.jB {D:Ends} {f:Flow} {s':Shared} (h:SP (X.wish E) pins D f s'):SP X pins D f s':=by
 cases f with
 |next=>obtain⟨σ',H',I,q⟩:=h;exact⟨σ',H',I.jB,q⟩
 |brk=>obtain⟨σ',H',I,q⟩:=h;exact⟨σ',H',I.jB,q⟩
 |cont=>obtain⟨σ',H',I,q⟩:=h;exact⟨σ',H',I.jB,q⟩
 |ret u=>obtain⟨v,σ',H',I,r,q⟩:=h;exact⟨v,σ',H',I.jB,r,q⟩
theorem zL.Ve {st:List Stmt} {t:TS} (h:zL X.Ve st t):zL X st t:=λpins s σ H D I hw=>
 ZN (h pins s σ H D (I.wish _) hw) (λ_ _ q=>q.jB) λ_ _ z=>False.elim z
end
section
variable {X:Cx} {st:Stmt} {rest:List Stmt} {t u:TS} {e:Expr} {te:TE} {pos:Pos}
def ae0:TS:=λD σ H=>D.nx σ H
def ag9 (t u:TS):TS:=λD σ H=>t { D with nx:=u D } σ H
theorem Zg:zL X [] ae0:=λ_ _ σ H _ I h=>KO ⟨σ,H,I,h⟩
theorem o9 (h1:PS X st t) (h2:zL X rest u):zL X (st::rest) (ag9 t u):=by
 intro pins s σ H D I h;refine yz (gF (h1 pins s σ H { D with nx:=u D } I h) λf s1 q=>?_);cases f with
 |next=>
  obtain⟨σ',H',I',q⟩:=q;exact h2 pins s1 σ' H' D I' q
 |ret v=>exact q
 |brk=>exact q
 |cont=>exact q
theorem zN (h1:PS X st t):zL X [st] t:=by
 intro pins s σ H D I h;refine yz (gF (h1 pins s σ H D I h) λf s1 q=>?_);cases f with
 |next=>exact KO q
 |ret v=>exact q
 |brk=>exact q
 |cont=>exact q
theorem Inv.quiet {pins:List (Addr×Obj)} {σ:St} {H:Hp} {s:Shared} (I:Inv X pins σ H s):interactive X.env=false:=by simp[interactive,I.ok.kind]
def ae1 (te:TE):TS:=λD σ H=>te σ H λ_ H1=>D.nx σ H1
theorem zO (he:PE X e te) (hs:swapsWith e none pos.line X.env=pure false:=by rfl):PS X (.Expr e pos) (ae1 te):=by
 intro pins s σ H D I h;exact wpAny_Expr_any (gF (he pins s σ H _ I h) λv s1 ⟨x,H1,I1,r1,q1⟩=>⟨σ,H1,I1,q1⟩) I.quiet hs
def aha (te:TE):TS:=λD σ H=>te σ H D.rt
theorem Hh (he:PE X e te):PS X (.Return (some e) pos) (aha te):=by
 intro pins s σ H D I h;exact wpAny_Return_some (gF (he pins s σ H _ I h) λv s1 ⟨x,H1,I1,r1,q1⟩=>⟨x,σ,H1,I1,r1,q1⟩)
def ahb (c:TT) (t u:TS):TS:=λD σ H=>c σ H λb H1=>if b=true then t D σ H1 else u D σ H1
theorem abH {c:Expr} {a b:List Stmt} {tc:TT} (hc:PT X c tc) (ha:zL X a t) (hb:zL X b u):PS X (.If c a b pos) (ahb tc t u):=by
 intro pins s σ H D I h;refine wpAny_If (gF (hc pins s σ H _ I h) λd s1 ⟨H1,I1,q1⟩=>?_);cases d with
 |true=>exact ha pins s1 σ H1 D I1 q1
 |false=>exact hb pins s1 σ H1 D I1 q1
end
abbrev TG:=V->St->Hp->(St->Hp->Prop)->Prop
abbrev TGs:=List V->St->Hp->(St->Hp->Prop)->Prop
def PG (X:Cx) (target:Expr) (t:TG):Prop:=
 ∀ (pins:List (Addr×Obj)) (s:Shared) (σ:St) (H:Hp) (v:V) (u:Value) (Q:St->Hp->Prop),Inv X pins σ H s->RelV v u->t v σ H Q →
  wpAny (model X.prog X.w) X.A (assign target X.env u) (λ_ s'=>∃ σ' H',Inv X pins σ' H' s'/\Q σ' H') X.xe s
def Vo (X:Cx) (ts:List Expr) (t:TGs):Prop:=
 ∀ (pins:List (Addr×Obj)) (s:Shared) (σ:St) (H:Hp) (vs:List V) (us:List Value) (Q:St->Hp->Prop),Inv X pins σ H s->Vals vs us->t vs σ H Q →
  wpAny (model X.prog X.w) X.A (assignInOrder ((assignEach ts X.env).map (·.2)) us) (λ_ s'=>∃ σ' H',Inv X pins σ' H' s'/\Q σ' H') X.xe s
section
variable {X:Cx} {pos:Pos}
def abJ (i:Nat):TG:=λv σ H Q=>Q (σ.set i (some v)) H
theorem QH {i:Nat} {x:Str} (hN:X.N.Nodup) (hi:X.N[i]?=some x) (hx:Loc X.env.scope x) (hf:X.fn x=true\/X.env.scope.names.lookup x=some .local:=by first|exact .inl rfl|exact .inr rfl|assumption):PG X (.Name x pos) (abJ i):=by
 intro pins s σ H v u Q I r h;exact wpAny_assign_Name (o8 I hN hi hx r (λs' I'=>⟨_,H,I',h⟩) hf)
def ahc:TGs:=λvs σ H Q=>vs=[]/\Q σ H
def ae2 (t:TG) (u:TGs):TGs:=λvs σ H Q=>∃ v r,vs=v::r/\t v σ H λσ' H'=>u r σ' H' Q
theorem Zh:Vo X [] ahc:=by
 intro pins s σ H vs us Q I r h;obtain⟨e,h⟩:=h;subst e;cases r;exact assignInOrder_nil ⟨σ,H,I,h⟩
theorem Vp {e:Expr} {es:List Expr} {t:TG} {u:TGs} (h1:PG X e t) (h2:Vo X es u)
  (hs:(assignEach (e::es) X.env).map (·.2)=assign e X.env::(assignEach es X.env).map (·.2):=by rfl):Vo X (e::es) (ae2 t u):=by
 intro pins s σ H vs us Q I r h;obtain⟨v,vr,e1,h⟩:=h;subst e1;cases r with
 |cons r rr=>
  rw[hs];refine assignInOrder_cons (gF (h1 pins s σ H _ _ _ I r h) λ_ s1 ⟨σ1,H1,I1,q1⟩=>?_);exact h2 pins s1 σ1 H1 _ _ Q I1 rr q1
def ahd (K:FG_) (n:Nat) (t:TGs):TG:=λv σ H Q=>∃ a xs,v=.ref a/\wW K H a xs/\xs.length=n/\t xs σ H Q
theorem acF {es:List Expr} {k:Nat} {t:TGs} {n:Nat} (hc:X.calm=true) (h:Vo X es t)
  (hn:(assignEach es X.env).length=n:=by rfl) (hst:(assignEach es X.env).findIdx? (·.1)=none:=by rfl):PG X (.Tuple es k pos) (ahd X.K n t):=by
 intro pins s σ H v u Q I r hw;obtain⟨a,xs,e1,hq,hl,hw⟩:=hw;subst e1;cases r;obtain⟨its,rv,ht,hz⟩:=I.tuple hq;refine assign_Tuple_tuple (I.ok.hd hc) ht (by simp[hn,<-hl,rv.length]) hst λh' hx=>?_;have I1:Inv X pins σ H { s with heap:=h' }:=I.kept (t':=s.toks) λb o e=>hx b o (zC (zv e)) e;exact h pins _ σ H xs _ Q I1 (by simpa using rv) hw
def ahe (te:TE) (g:TG):TS:=λD σ H=>te σ H λx H1=>g x σ H1 D.nx
theorem Ao {i:Nat} {x:Str} {e:Expr} {te:TE} {pos':Pos} (hN:X.N.Nodup) (hi:X.N[i]?=some x) (hx:Loc X.env.scope x) (he:PE X e te) (hs:swapsWith e (some (.Name x pos')) pos.line X.env=pure false:=by rfl) (hf:X.fn x=true\/X.env.scope.names.lookup x=some .local:=by first|exact .inl rfl|exact .inr rfl|assumption) :
  PS X (.Assign [.Name x pos'] e pos) (ahe te (abJ i)):=by
 intro pins s σ H D I h;refine wpAny_Assign_Name (gF (he pins s σ H _ I h) λv s1 ⟨y,H1,I1,r1,q1⟩=>?_) hs;exact o8 I1 hN hi hx r1 (λs2 I2=>⟨_,H1,I2,q1⟩) hf
def ahf (i j:Nat) (ta:TA):TS:=λD σ H=>ta σ H λvs H1=>∃ v w,vs=[v,w]/\D.nx ((σ.set i (some v)).set j (some w)) H1
theorem acG {i j:Nat} {x y:Str} {a b:Expr} {ta:TA} {px py pt:Pos} {kt k2 pt2} (hc:X.calm=true) (hN:X.N.Nodup) (hi:X.N[i]?=some x) (hj:X.N[j]?=some y) (hij:i≠j)
  (hx:X.env.scope.names.lookup x=some .local) (hy:X.env.scope.names.lookup y=some .local) (ha:PA X [a,b] ta)
  (hw:swappedStores [.Tuple [.Name x px,.Name y py] kt pt] (.Tuple [a,b] k2 pt2) X.env=pure (some [x,y]))
  (hs:swapsWithSole [.Tuple [.Name x px,.Name y py] kt pt] (.Tuple [a,b] k2 pt2) pos.line X.env=pure false:=by rfl) :
  PS X (.Assign [.Tuple [.Name x px,.Name y py] kt pt] (.Tuple [a,b] k2 pt2) pos) (ahf i j ta):=by
 intro pins s σ H D I h;rw[exec_Assign_arm];refine zb (kR ?_);rw[hs];refine zb (ze ?_);rw[zw (by decide)];refine zb (Tuple_ (gF (ha _ pins s σ H _ I h) λus s1 ⟨vs,H1,I1,r1,q1⟩=>?_));obtain⟨v,w,e1,q1⟩:=q1;subst e1;obtain⟨u1,u2,rfl,rv,QJ⟩:∃ u1 u2,us=[u1,u2]/\RelV v u1/\RelV w u2:=by
  cases r1 with
  |cons p q=>
   cases q with
   |cons p' q'=>
    cases q';exact⟨_,_,rfl,p,p'⟩
 refine ZZ ?_ (by show 2<=sizeLine;decide);have I2:Inv X pins σ H1 { s1 with heap:=s1.heap.push { cls:=.type "tuple", data:=.seq [u1,u2].toArray } }:=I1.kept (t':=s1.toks) λb o e=>zd _ e;rw[hw];refine zb (ze ?_);show wpAny (model X.prog X.w) X.A (do rule "assign.swapped-stores"; let items <-unpackItems (.ref s1.heap.objs.size) 2 none;assignInOrder [λv=>bindName X.env y v,λv=>bindName X.env x v] items.reverse;pure Flow.next) _ _ _;refine zb (kX (zb (unpackItems_tuple (items:=#[u1,u2]) (I.ok.hd hc) (IsTup.new s1.heap _) λh' hx'=>?_)));have I3:=I2.kept (h':=h') (t':=s1.toks) λb o e=>hx' b o (zC (zv e)) e;show wpAny _ _ (assignInOrder [λv=>bindName X.env y v,λv=>bindName X.env x v] [u2,u1] >>= λ_=>pure Flow.next) _ _ _;refine zb (assignInOrder_cons (wpAny_bindName (o8 I3 hN hj (.inl hy) QJ (λs2 I4=>?_) (.inr hy))));refine assignInOrder_cons (wpAny_bindName (o8 I4 hN hi (.inl hx) rv (λs3 I5=>assignInOrder_nil (ze ?_)) (.inr hx)));rw[List.set_comm _ _ (js hij)] at I5;exact⟨_,H1,I5,q1⟩
end
structure It where
 go:Nat->Hp->Prop
 yld:Nat->Hp->V->Hp->Prop
 stop:Nat->Hp->Prop
def pq (X:Cx) (pins:List (Addr×Obj)) (H:Hp) (b:Addr):Prop:=
 H b=none/\b≠X.env.locals/\b∉X.fs/\(b∈X.ex\/X.s₀.heap.objs.size<=b)/\(∀ x c,X.env.cells.lookup x=some c->c≠b)/\∀ p∈X.pn++pins,p.1≠b
theorem Inv.Sy {X:Cx} {pins:List (Addr×Obj)} {σ:St} {H H':Hp} {s:Shared} {b:Addr} (I:Inv X pins σ H s) (hb:s.heap.objs.size<=b) (hn:H' b=none):pq X pins H' b:=by
 refine⟨hn,Jn (ZE I.lt hb),I.ag6 hb,.inr (Zs I.sz hb),λx c e z=>?_,λp hp z=>?_⟩
 ·obtain⟨v,q⟩:=I.cell x c e;exact absurd (ZE q.lt (by rw[z];exact hb)) (JE _)
 ·exact absurd (ZE (zv (I.pin p hp).1) (by rw[z];exact hb)) (JE _)
structure Turn (P:Program) (w:World) (K:FG_) (tg:Expr) (J:It) (fp:List Addr) (it:Addr) (tn:Nat->Heap->Prop):Prop where
 mem:it∈fp
 obj:∀ i h,tn i h->∀ b∈fp,∃ o,h.get? b=some o/\∀ v,o.data≠.cell v
 keep:∀ i h h',tn i h->(∀ b∈fp,∀ o,h.get? b=some o->h'.get? b=some o)->tn i h'
 item:∀ (X:Cx),X.prog=P->X.w=w->X.K=K->X.calm=true->∀ (i:Nat) (pins:List (Addr×Obj)) (s:Shared) (σ:St) (H:Hp) (E:VP_),Inv X pins σ H s->(∀ b∈fp,pq X pins H b)->tn i s.heap->J.go i H →
  wpAny (model P w) X.A (pyNext (.ref it)) (λr s1=>∃ u,r=some u ∧
   wpAny (model P w) X.A (letOwnedTupleGo tg (.ref it) u) (λ_ s2=>∃ x H',Inv X pins σ H' s2/\RelV x u/\J.yld i H x H'/\tn (i+1) s2.heap/\∀ b∈fp,H' b=none) E s1) E s
 done:∀ (X:Cx),X.prog=P->X.w=w->X.K=K->X.calm=true->∀ (i:Nat) (pins:List (Addr×Obj)) (s:Shared) (σ:St) (H:Hp) (E:VP_),Inv X pins σ H s->(∀ b∈fp,pq X pins H b)->tn i s.heap->J.stop i H →
  wpAny (model P w) X.A (pyNext (.ref it)) (λr s1=>r=none/\Inv X pins σ H s1) E s
 self:∀ (A:Around) (i:Nat) (s:Shared) (Q:VP_) (E:VP_),tn i s.heap->Q (.ref it) s->wpAny (model P w) A (pyIter (.ref it)) Q E s
abbrev TI:=St->Hp->(It->Hp->Prop)->Prop
def PIE (X:Cx) (pins:List (Addr×Obj)) (σ:St) (tg:Expr) (R:It->Hp->Prop) (itv:Value) (s2:Shared):Prop:=
 ∃ (it:Addr) (fp:List Addr) (tn:Nat->Heap->Prop) (J:It) (H':Hp),itv=.ref it/\Inv X pins σ H' s2/\Turn X.prog X.w X.K tg J fp it tn/\tn 0 s2.heap/\(∀ b∈fp,pq X pins H' b)/\R J H'
def PI (X:Cx) (tg iter:Expr) (wi:TI):Prop:=
 ∀ (pins:List (Addr×Obj)) (s:Shared) (σ:St) (H:Hp) (R:It->Hp->Prop),Inv X pins σ H s->wi σ H R →
  wpAny (model X.prog X.w) X.A (eval iter X.env) (λv s1=>wpAny (model X.prog X.w) X.A (pyIter v) (PIE X pins σ tg R) X.xe s1) X.xe s
theorem Aq {M:Model} {A:Around} {E:VP_} {s:Shared} {tg:Expr} {it:Addr} {u:Value} {o:Obj} {n:String} {vs:Array Value} {Q:Unit->Shared->Prop} (ho:s.heap.get? it=some o) (hc:o.cls=.type n) (hd:o.data=.fields vs)
  (hn:["enumerate", "zip", "dict_itemiterator", "dict_reverseitemiterator", "odict_iterator", "itertools.zip_longest", "itertools.pairwise"].contains n=false) (hQ:Q () s):wpAny M A (letOwnedTupleGo tg (.ref it) u) Q E s:=by
 unfold letOwnedTupleGo;cases tg<;>first
  |exact ze hQ
  |(cases u<;>first
    |exact ze hQ
    |(refine zb (KF ho ?_)
      rw[hc,hd];show wpAny M A (if(["enumerate", "zip", "dict_itemiterator", "dict_reverseitemiterator", "odict_iterator", "itertools.zip_longest", "itertools.pairwise"].contains n&&vs[0]?==some (rawInt _))=true then _ else _) Q E s;rw[zw (by intro h;rw[hn,ye] at h;cases h)];exact ze hQ))
def Itl (K:FG_) (a:Addr):It:=
 ⟨λi H=>∃ xs x,rP K H a xs/\xs[i]?=some x,λi H x H'=>H'=H/\∀ xs,rP K H a xs->xs[i]?=some x,λi H=>∃ xs,rP K H a xs/\xs.length<=i⟩
def Itt (K:FG_) (a:Addr):It:=
 ⟨λi H=>∃ xs x,wW K H a xs/\xs[i]?=some x,λi H x H'=>H'=H/\∀ xs,wW K H a xs->xs[i]?=some x,λi H=>∃ xs,wW K H a xs/\xs.length<=i⟩
def Itr (lo:Int) (n:Nat):It:=⟨λi _=>i < n,λi H x H'=>H'=H/\x=.int (lo+i),λi _=>n<=i⟩
theorem SJ {P:Program} {w:World} {K:FG_} {tg:Expr} (a it:Addr):Turn P w K tg (Itl K a) [it] it (λi h=>h.IsListIter it a i) where
 mem:=by simp
 obj:=λi h st b hb=>by
  have e:b=it:=by simpa using hb
  subst e;obtain⟨o,e,c,d⟩:=st;exact⟨o,e,λv z=>by rw[d] at z;cases z⟩
 keep:=λi h h' st k=>st.at λo e=>k it (by simp) o e
 item:=by
  intro X hP hw hK hc i pins s σ H E I hf st hg;subst hP hw hK;obtain⟨xs,x,hq,hx⟩:=hg;obtain⟨its,rv,p,hz⟩:=I.list hq;obtain⟨u,hu,ru⟩:=rv.get hx;obtain⟨f0,f1,f2,f3,f4,f5⟩:=hf it (by simp);refine wpAny_pyNext_list_item st p.isList (x:=u) (by simpa using hu) λh' st' sb=>?_;have I1:Inv X pins σ H { s with heap:=h' }:=I.turned (t':=s.toks) (λb o hb e=>(sb.2 b hb).trans e) f0 f1 f3 f4 f5;obtain⟨o,e,c,d⟩:=id st';exact⟨u,rfl,Aq (s:={ s with heap:=h' }) e c d (by decide) ⟨x,H,I1,ru,⟨rfl,λys hy=>by rw[I.JN hy hq];exact hx⟩,st',λb hb=>(hf b hb).1⟩⟩
 done:=by
  intro X hP hw hK hc i pins s σ H E I hf st hg;subst hP hw hK;obtain⟨xs,hq,hx⟩:=hg;obtain⟨its,rv,p,hz⟩:=I.list hq;obtain⟨f0,f1,f2,f3,f4,f5⟩:=hf it (by simp);have hl:=rv.length;exact wpAny_pyNext_list_end (I.ok.hd hc) st p.isList (by simp;omega) λh' eb=>⟨rfl,I.turned (t':=s.toks) (λb o hb e=>eb b o hb e) f0 f1 f3 f4 f5⟩
 self:=λ_ _ _ _ _ st h=>wpAny_pyIter_listiter st h
theorem Nt {P:Program} {w:World} {K:FG_} {tg:Expr} (a it:Addr):Turn P w K tg (Itt K a) [it] it (λi h=>h.IsTupleIter it a i) where
 mem:=by simp
 obj:=λi h st b hb=>by
  have e:b=it:=by simpa using hb
  subst e;obtain⟨o,e,c,d⟩:=st;exact⟨o,e,λv z=>by rw[d] at z;cases z⟩
 keep:=λi h h' st k=>st.at λo e=>k it (by simp) o e
 item:=by
  intro X hP hw hK hc i pins s σ H E I hf st hg;subst hP hw hK;obtain⟨xs,x,hq,hx⟩:=hg;obtain⟨its,rv,p,hz⟩:=I.tuple hq;obtain⟨u,hu,ru⟩:=rv.get hx;obtain⟨f0,f1,f2,f3,f4,f5⟩:=hf it (by simp);refine wpAny_pyNext_tuple_item st (show s.heap.IsTuple a its.toArray from p) (x:=u) (by simpa using hu) λh' st' sb=>?_;have I1:Inv X pins σ H { s with heap:=h' }:=I.turned (t':=s.toks) (λb o hb e=>(sb.2 b hb).trans e) f0 f1 f3 f4 f5;obtain⟨o,e,c,d⟩:=id st';exact⟨u,rfl,Aq (s:={ s with heap:=h' }) e c d (by decide) ⟨x,H,I1,ru,⟨rfl,λys hy=>by rw[I.Fq hy hq];exact hx⟩,st',λb hb=>(hf b hb).1⟩⟩
 done:=by
  intro X hP hw hK hc i pins s σ H E I hf st hg;subst hP hw hK;obtain⟨xs,hq,hx⟩:=hg;obtain⟨its,rv,p,hz⟩:=I.tuple hq;obtain⟨f0,f1,f2,f3,f4,f5⟩:=hf it (by simp);have hl:=rv.length;exact wpAny_pyNext_tuple_end (I.ok.hd hc) st (show s.heap.IsTuple a its.toArray from p) (by simp;omega) λh' eb=>⟨rfl,I.turned (t':=s.toks) (λb o hb e=>eb b o hb e) f0 f1 f3 f4 f5⟩
 self:=λ_ _ _ _ _ st h=>wpAny_pyIter_tupleiter st h
theorem Nu {P:Program} {w:World} {K:FG_} {tg:Expr} (it:Addr) (lo:Int) (n:Nat):Turn P w K tg (Itr lo n) [it] it (λi h=>IsRangeIter h it (lo+(i:Nat) * 1) ((n:Int) - (i:Nat)) 1) where
 mem:=by simp
 obj:=λi h st b hb=>by
  have e:b=it:=by simpa using hb
  subst e;exact⟨_,st,λv z=>by
   have z':Data.fields _=Data.cell v:=z;cases z'⟩
 keep:=λi h h' st k=>k it (by simp) _ st
 item:=by
  intro X hP hw hK hc i pins s σ H E I hf st hg;subst hP hw hK;obtain⟨f0,f1,f2,f3,f4,f5⟩:=hf it (by simp);have W:=Walks.range (prog:=X.prog) (w:=X.w) (I.ok.hd hc) it lo 1 n;refine W.item i s _ _ hg st λv h' tk hv st' kk=>?_;obtain⟨t,rfl⟩:=hv;have I1:Inv X pins σ H { s with heap:=h',toks:=tk }:=I.turned (λb o hb e=>kk b o (by simpa using hb) e) f0 f1 f3 f4 f5;refine⟨_,rfl,Aq (s:={ s with heap:=h',toks:=tk }) (n := "range_iterator") st' rfl rfl (by decide) ⟨.int (lo+i),H,I1,⟨t,?_⟩,⟨rfl,rfl⟩,st',λb hb=>(hf b hb).1⟩⟩;rw[Int.mul_one]
 done:=by
  intro X hP hw hK hc i pins s σ H E I hf st hg;subst hP hw hK;obtain⟨f0,f1,f2,f3,f4,f5⟩:=hf it (by simp);exact wpAny_pyNext_range_end (I.ok.hd hc) st (by have:n<=i:=hg;omega) λh' eb=>⟨rfl,I.turned (t':=s.toks) (λb o hb e=>eb b o hb e) f0 f1 f3 f4 f5⟩
 self:=λ_ _ _ _ _ st h=>wpAny_pyIter_rangeiter st h
end L2
namespace L2
open PySem PySem.Spec PyProof.Rows
section
variable {X:Cx} {tg:Expr}
theorem Vq {pins:List (Addr×Obj)} {σ:St} {H:Hp} {s:Shared} {R:It->Hp->Prop} {E:VP_} {lo hi:Int} {t u v:Tok} {tk:Nat} (I:Inv X pins σ H s) (h1 : -(2 ^ 62)<=lo) (h2:lo < 2 ^ 62) (h3 : -(2 ^ 62)<=hi) (h4:hi < 2 ^ 62)
  (q:R (Itr lo (hi - lo).toNat) H):wpAny (model X.prog X.w) X.A (pyIter (.ref s.heap.objs.size)) (PIE X pins σ tg R) E { s with heap:=s.heap.push { cls:=.type "range", data:=.fields #[.int lo t,.int hi u,.int 1 v] },toks:=tk }:=by
 refine wpAny_pyIter_range (IsRange.new ..) (small_one h1 h2 h3 h4) ?_;have I1:Inv X pins σ H { s with heap:=s.heap.push { cls:=.type "range", data:=.fields #[.int lo t,.int hi u,.int 1 v] },toks:=tk }:=I.kept λb o e=>zd _ e;refine⟨(s.heap.push { cls:=.type "range", data:=.fields #[.int lo t,.int hi u,.int 1 v] }).objs.size,[(s.heap.push { cls:=.type "range", data:=.fields #[.int lo t,.int hi u,.int 1 v] }).objs.size],_,_,H,rfl,
  I1.kept (t':=tk) λb o e=>zd _ e,Nu _ lo (hi - lo).toNat,?_,λb hb=>?_,q⟩
 ·have e1:lo+((0:Nat):Int) * 1=lo:=by simp
  have e2:(((hi - lo).toNat:Nat):Int) - ((0:Nat):Int)=Builtin.Range.rangeSize lo hi 1:=by rw[rangeSize_one];split<;>omega
  show IsRangeIter _ _ (lo+((0:Nat):Int) * 1) ((((hi - lo).toNat:Nat):Int) - ((0:Nat):Int)) 1;rw[e1,e2];exact zt _ rfl
 ·have e:b=(s.heap.push { cls:=.type "range", data:=.fields #[.int lo t,.int hi u,.int 1 v] }).objs.size:=by simpa using hb
  subst e;exact I1.Sy (zg _) (I1.hok.fresh (zg _))
def ae3 (ta:TA):TI:=λσ H R=>ta σ H λvs H1=>∃ j:Int,vs=[.int j] ∧ -(2 ^ 62)<=j/\j < 2 ^ 62/\R (Itr 0 j.toNat) H1
theorem SM {a:Expr} {ta:TA} {p pos:Pos} (hg:Gl X "range") (hm:X.mg "range" = none) (ha:PA X [a] ta) (hs:starEach [a] X.env=[(false,eval a X.env)]:=by rfl):PI X tg (.Call (.Name "range" p) [a] [] pos) (ae3 ta):=by
 intro pins s σ H R I h;refine Call_ (Am I hg hm boot_range (PyProof.Rows.callWith_type1 (gF (ha pos pins s σ H _ I h) λus s1 ⟨vs,H1,I1,r1,q1⟩=>?_) hs rfl));obtain⟨j,e,q1,q2,q⟩:=q1;subst e;cases r1 with
 |cons r rr=>
  cases rr;obtain⟨t,rfl⟩:=r;exact call_range_1 (Vq I1 (by omega) (by omega) q1 q2 (by simpa using q))
def ahh (wi:TI) (g:TG) (tb:TS):TS:=λD σ H=>wi σ H λJ H1=>∃ W:Nat->Nat->St->Hp->Prop,(∃ m,W 0 m σ H1)/\∀ i m σ H,W i m σ H →
 (J.stop i H/\D.nx σ H)\/(J.go i H/\∃ N:St->Hp->Prop,(∀ σ' H',N σ' H'->∃ m',m' < m/\W (i+1) m' σ' H')/\∀ x H',J.yld i H x H'->g x σ H' λσ2 H2=>tb { D with nx:=N,ct:=N,bk:=D.nx } σ2 H2)
def wZ (fp:List Addr) (h:Heap):List (Addr×Obj):=fp.filterMap λb=>(h.get? b).map λo=>(b,o)
theorem pZ {fp:List Addr} {h:Heap} {b:Addr} {o:Obj} (hb:b∈fp) (e:h.get? b=some o):(b,o)∈wZ fp h:=List.mem_filterMap.mpr ⟨b,hb,by rw[e];rfl⟩
theorem SN {fp:List Addr} {h:Heap} {p:Addr×Obj} (hp:p∈wZ fp h):p.1∈fp/\h.get? p.1=some p.2:=by
 obtain⟨b,hb,e⟩:=List.mem_filterMap.mp hp;cases q:h.get? b with
 |none=>rw[q] at e;cases e
 |some o=>
  rw[q] at e;have e':(b,o)=p:=JU e;subst e';exact⟨hb,q⟩
theorem Inv.pinned {pins:List (Addr×Obj)} {σ:St} {H:Hp} {s:Shared} {fp:List Addr} (I:Inv X pins σ H s) (hf:∀ b∈fp,pq X pins H b) (ho:∀ b∈fp,∃ o,s.heap.get? b=some o/\∀ v,o.data≠.cell v):Inv X (pins++wZ fp s.heap) σ H s:=
 I.zK λp hp=>(List.mem_append.mp hp).elim (λz=>I.pin p (ZT _ z)) λz=>by
  obtain⟨hb,e⟩:=SN z;obtain⟨f0,f1,f2,_⟩:=hf p.1 hb;obtain⟨o,e',d⟩:=ho p.1 hb;rw[e] at e';cases e';exact⟨e,f0,f1,f2,d⟩
theorem Inv.rQ {pins pl:List (Addr×Obj)} {σ:St} {H:Hp} {s:Shared} (I:Inv X (pins++pl) σ H s):Inv X pins σ H s:=I.zK λp hp=>I.pin p (ZT _ (kL _ hp))
theorem Vr {iter:Expr} {body:List Stmt} {wi:TI} {g:TG} {tb:TS} {pos:Pos} (hp:PassesOwn (model X.prog X.w) X.A X.env X.xe) (hc:X.calm=true) (hi:PI X tg iter wi) (hg:PG X tg g) (hb:zL X body tb)
  (hs:∀ x,foldedSetIterable iter X.env x=pure x:=by intro _;rfl):PS X (.For tg iter body [] pos) (ahh wi g tb):=by
 intro pins s σ H D I h;refine wpAny_For (gF (hi pins s σ H _ I h) λv s1 h1=>gF h1 λitv s2 h2=>?_) hs;obtain⟨it,fp,tn,J,H2,e,I2,T,st2,f2,W,⟨m0,w0⟩,turn⟩:=h2;subst e;have stat:∀ {H':Hp},(∀ b∈fp,H' b=none)->∀ b∈fp,pq X pins H' b:=λhn b hb=>⟨hn b hb,(f2 b hb).2⟩;refine codeAny_forLoop_any (λn s'=>∃ i σ' H',Inv X pins σ' H' s'/\tn i s'.heap/\(∀ b∈fp,H' b=none)/\W i n σ' H') ?_ m0 ⟨0,σ,H2,I2,st2,λb hb=>(f2 b hb).1,w0⟩;rintro n s3 ⟨i,σ3,H3,I3,st3,fr3,w3⟩;rcases turn i n σ3 H3 w3 with⟨stop,qn⟩|⟨go,N,hN,step⟩
 ·refine KM hp (gF (T.done X rfl rfl rfl hc i pins s3 σ3 H3 X.xe I3 (stat fr3) st3 stop) λr s4 ⟨hr,I4⟩=>?_);subst hr;exact KO ⟨σ3,H3,I4,qn⟩
 ·refine KM hp (gF (T.item X rfl rfl rfl hc i pins s3 σ3 H3 X.xe I3 (stat fr3) st3 go) λr s4 ⟨u,hr,h4⟩=>?_);subst hr;refine KM hp (gF h4 λ_ s5 ⟨x,H5,I5,r5,y5,st5,fr5⟩=>?_);have I5':=I5.pinned (stat fr5) (T.obj _ _ st5);refine KM hp (gF (hg _ s5 σ3 H5 x u _ I5' r5 (step x H5 y5)) λ_ s6 ⟨σ6,H6,I6,q6⟩=>?_);refine KM hp (gF (hb _ s6 σ6 H6 _ I6 q6) λf s7 q7=>?_);have again:∀ {σ7:St} {H7:Hp},Inv X (pins++wZ fp s5.heap) σ7 H7 s7->N σ7 H7->∃ m,m < n/\∃ i σ' H',Inv X pins σ' H' s7/\tn i s7.heap/\(∀ b∈fp,H' b=none)/\W i m σ' H':=λ{σ7 H7} I7 n7=>by
   obtain⟨m',hm,w7⟩:=hN σ7 H7 n7;refine⟨m',hm,i+1,σ7,H7,I7.rQ,T.keep _ _ _ st5 λb hb o e=>(I7.pin (b,o) (ZT _ (ZT _ (pZ hb e)))).1,λb hb=>?_,w7⟩;obtain⟨o,e,d⟩:=T.obj _ _ st5 b hb;exact(I7.pin (b,o) (ZT _ (ZT _ (pZ hb e)))).2.1
  cases f with
  |next=>obtain⟨σ7,H7,I7,n7⟩:=q7;exact again I7 n7
  |cont=>obtain⟨σ7,H7,I7,n7⟩:=q7;exact again I7 n7
  |brk=>obtain⟨σ7,H7,I7,q7⟩:=q7;exact⟨σ7,H7,I7.rQ,q7⟩
  |ret v=>obtain⟨x7,σ7,H7,I7,r7,q7⟩:=q7;exact⟨x7,σ7,H7,I7.rQ,r7,q7⟩
end
end L2
namespace L2
open PySem PySem.Spec PyProof.Rows
abbrev R2:=V->V->Hp->VK->Prop
def uU (X:Cx) (f:Value->Value->Sem Value) (r:R2):Prop:=
 ∀ (pins:List (Addr×Obj)) (s:Shared) (σ:St) (H:Hp) (x y:V) (v u:Value) (Q:VK),Inv X pins σ H s->RelV x v->RelV y u->r x y H Q →
  wpAny (model X.prog X.w) X.A (f v u) (EP X pins σ Q) X.xe s
def fB (X:Cx) (f:Value) (r:List V->Hp->VK->Prop):Prop:=
 ∀ (pins:List (Addr×Obj)) (s:Shared) (σ:St) (H:Hp) (xs:List V) (us:List Value) (Q:VK),Inv X pins σ H s->Vals xs us->r xs H Q →
  wpAny (model X.prog X.w) X.A (call f us) (EP X pins σ Q) X.xe s
def ahj (X:Cx) (r:V->Hp->(Bool->Hp->Prop)->Prop):Prop:=
 ∀ (pins:List (Addr×Obj)) (s:Shared) (σ:St) (H:Hp) (x:V) (v:Value) (Q:Bool->Hp->Prop),Inv X pins σ H s->RelV x v->r x H Q →
  wpAny (model X.prog X.w) X.A (truthy v) (TP X pins σ Q) X.xe s
def tOp (r:R2) (ta tb:TE):TE:=λσ H Q=>ta σ H λx H1=>tb σ H1 λy H2=>r x y H2 Q
def rI (C:Int->Int->Prop) (g:Int->Int->V):R2:=λx y H Q=>∃ i j,x=.int i/\y=.int j/\C i j/\Q (g i j) H
def rI0 (g:Int->Int->V):R2:=λx y H Q=>∃ i j,x=.int i/\y=.int j/\Q (g i j) H
section
variable {X:Cx} {a b c:Expr} {ta tb tc:TE} {pos:Pos}
theorem acI (ha:PE X a ta) (hb:PE X b tb) {pins:List (Addr×Obj)} {s:Shared} {σ:St} {H:Hp} {R:V->V->Hp->Prop} (I:Inv X pins σ H s)
  (h:ta σ H λx H1=>tb σ H1 λy H2=>R x y H2) {Q:VP_} {f:Value->Value->Sem Value}
  (hf:∀ v u s2 x y H2,Inv X pins σ H2 s2->RelV x v->RelV y u->R x y H2->wpAny (model X.prog X.w) X.A (f v u) Q X.xe s2) :
  wpAny (model X.prog X.w) X.A (eval a X.env) (λv s₁=>wpAny (model X.prog X.w) X.A (eval b X.env) (λu s₂=>wpAny (model X.prog X.w) X.A (f v u) Q X.xe s₂) X.xe s₁) X.xe s:=by
 refine gF (ha pins s σ H _ I h) λv s1 ⟨x,H1,I1,r1,q1⟩=>?_;refine gF (hb pins s1 σ H1 _ I1 q1) λu s2 ⟨y,H2,I2,r2,q2⟩=>?_;exact hf v u s2 x y H2 I2 r1 r2 q2
theorem abL {op:Operator} {r:R2} (ho:uU X (binaryOp op) r) (ha:PE X a ta) (hb:PE X b tb):PE X (.BinOp a op b pos) (tOp r ta tb):=by
 intro pins s σ H Q I h;exact wpAny_BinOp (acI ha hb I h λv u s2 x y H2 I2 rx ry q=>ho pins s2 σ H2 x y v u Q I2 rx ry q)
theorem opI {f:Value->Value->Sem Value} {C:Int->Int->Prop} {g:Int->Int->Int}
  (rule:∀ (i j:Int) (t u:Tok) (s:Shared) (Q:VP_) (E:VP_),C i j->Q (.int (g i j) s.toks) { s with toks:=s.toks+1 }->wpAny (model X.prog X.w) X.A (f (.int i t) (.int j u)) Q E s) :
  uU X f (rI C λi j=>.int (g i j)):=by
 intro pins s σ H x y v u Q I rx ry h;obtain⟨i,j,rfl,rfl,hc,q⟩:=h;obtain⟨t,rfl⟩:=rx;obtain⟨t',rfl⟩:=ry;exact rule i j t t' s _ _ hc ⟨.int (g i j),H,I.tok _,⟨_,rfl⟩,q⟩
theorem ae5 {f:Value->Value->Sem Value} {g:Int->Int->Int}
  (rule:∀ (i j:Int) (t u:Tok) (s:Shared) (Q:VP_) (E:VP_),Q (.int (g i j) s.toks) { s with toks:=s.toks+1 }->wpAny (model X.prog X.w) X.A (f (.int i t) (.int j u)) Q E s) :
  uU X f (rI0 λi j=>.int (g i j)):=by
 intro pins s σ H x y v u Q I rx ry h;obtain⟨i,j,rfl,rfl,q⟩:=h;obtain⟨t,rfl⟩:=rx;obtain⟨t',rfl⟩:=ry;exact rule i j t t' s _ _ ⟨.int (g i j),H,I.tok _,⟨_,rfl⟩,q⟩
theorem Zi {f:Value->Value->Sem Value} {g:Int->Int->Bool}
  (rule:∀ (i j:Int) (t u:Tok) (s:Shared) (Q:VP_) (E:VP_),Q (.bool (g i j)) s->wpAny (model X.prog X.w) X.A (f (.int i t) (.int j u)) Q E s) :
  uU X f (rI0 λi j=>.bl (g i j)):=by
 intro pins s σ H x y v u Q I rx ry h;obtain⟨i,j,rfl,rfl,q⟩:=h;obtain⟨t,rfl⟩:=rx;obtain⟨t',rfl⟩:=ry;exact rule i j t t' s _ _ ⟨.bl (g i j),H,I,rfl,q⟩
def ahk (i j:Int):Prop:=0 < j/\j < 1073741824
def ahl (i j:Int):Prop:=0<=j/\j<=1000000/\i.natAbs < 2 ^ 64
def acJ (i j:Int):Prop:=(-(2 ^ 64) < i/\i < 2 ^ 64)\/(-(2 ^ 64) < j/\j < 2 ^ 64)
theorem acJ.ok {i j:Int} (h:acJ i j):IntMulOk i j:=by
 rcases h with⟨h1,h2⟩|⟨h1,h2⟩
 ·exact .of_left (intBits_le_64 h1 h2)
 ·exact .of_right (intBits_le_64 h1 h2)
theorem acK:uU X (binaryOp .Add) (rI0 λi j=>.int (i+j)):=ae5 λ_ _ _ _ _ _ _ q=>add_int q
theorem acL:uU X (binaryOp .Sub) (rI0 λi j=>.int (i - j)):=ae5 λ_ _ _ _ _ _ _ q=>sub_int q
theorem acM:uU X (binaryOp .Mult) (rI acJ λi j=>.int (i * j)):=opI λ_ _ _ _ _ _ _ hc q=>mul_int q hc.ok
theorem Zj:uU X (binaryOp .FloorDiv) (rI ahk λi j=>.int (i / j)):=opI λi j _ _ _ _ _ hc q=>by
 have h1:(0:Int) < j:=hc.1;have h2:j < 1073741824:=hc.2;exact floordiv_int (by omega) (by rw[Int.fdiv_eq_ediv_of_nonneg i (by omega)];exact q) (.inl (PyProof.noPylong_small (by omega)))
theorem acN:uU X (binaryOp .Mod) (rI (λ_ j=>0 < j) λi j=>.int (i % j)):=opI λi j _ _ _ _ _ hc q=>by
 have h1:(0:Int) < j:=hc;exact mod_int' (by omega) (by rw[Int.fmod_eq_emod_of_nonneg i (by omega)];exact q)
theorem acO:uU X (binaryOp .Pow) (rI ahl λi j=>.int (i ^ j.toNat)):=opI λ_ _ _ _ _ _ _ hc q=>pow_int_small hc.1 hc.2.1 hc.2.2 q
theorem acP {pins:List (Addr×Obj)} {σ:St} {H:Hp} {s:Shared} {Q:VK} {k k':Bool} (I:Inv X pins σ H s) (q:Q (.bl k) H) (e:k=k'):EP X pins σ Q (.bool k') s:=by
 subst e;exact⟨.bl k,H,I,rfl,q⟩
theorem ae6:uU X (compareOp .Lt) (rI0 λi j=>.bl (decide (i < j))):=Zi λ_ _ _ _ _ _ _ q=>lt_int q
theorem ae7:uU X (compareOp .LtE) (rI0 λi j=>.bl (decide (i<=j))):=Zi λ_ _ _ _ _ _ _ q=>le_int q
theorem ae8:uU X (compareOp .Gt) (rI0 λi j=>.bl (decide (j < i))):=Zi λ_ _ _ _ _ _ _ q=>gt_int q
theorem ae9:uU X (compareOp .GtE) (rI0 λi j=>.bl (decide (j<=i))):=Zi λ_ _ _ _ _ _ _ q=>ge_int q
theorem SQ:uU X (compareOp .In) (λx y H Q=>∃ i j,x=.str i/\y=.str j/\Q (.bl (!(Builtin.Str.occurrences j i 0 j.length 1).isEmpty)) H):=by
 intro pins s σ H x y v u Q I rx ry h;obtain⟨i,j,rfl,rfl,q⟩:=h;obtain⟨t,rfl⟩:=rx;obtain⟨t',rfl⟩:=ry;exact in_str (acP I q rfl)
theorem fD (b:Expr) {op:CmpOp} (h:op≠.In:=by decide) (h2:op≠.NotIn:=by decide):behindInMarks op b=false:=by
 have e1:(op==CmpOp.In)=false:=by cases op<;>first|rfl|exact absurd rfl h
 have e2:(op==CmpOp.NotIn)=false:=by cases op<;>first|rfl|exact absurd rfl h2
 cases b<;>simp[behindInMarks,e1,e2]
theorem Hi {op:CmpOp} {r:R2} (ho:uU X (compareOp op) r) (ha:PE X a ta) (hb:PE X b tb) (hm:behindInMarks op b=false):PE X (.Compare a [op] [b] pos) (tOp r ta tb):=by
 intro pins s σ H Q I h;exact wpAny_Compare1 (acI ha hb I h λv u s2 x y H2 I2 rx ry q=>ho pins s2 σ H2 x y v u Q I2 rx ry q) hm
def afa (t:TE):TT:=λσ H Q=>t σ H λx H'=>∃ k,x=.bl k/\Q k H'
theorem Zk {op:CmpOp} {r:R2} (ho:uU X (compareOp op) r) (ha:PE X a ta) (hb:PE X b tb) (hm:behindInMarks op b=false):PT X (.Compare a [op] [b] pos) (afa (tOp r ta tb)):=by
 intro pins s σ H Q I h;refine wpAny_isTrue_Compare1 (gF (ha pins s σ H _ I h) λv s1 ⟨x,H1,I1,r1,q1⟩=>gF (hb pins s1 σ H1 _ I1 q1) λu s2 ⟨y,H2,I2,r2,q2⟩=>
  gF (ho pins s2 σ H2 x y v u _ I2 r1 r2 q2) λc s3 ⟨z,H3,I3,r3,k,e,q3⟩=>?_) hm
 subst e;cases r3;exact jv ⟨H3,I3,q3⟩
def Vs (r r':R2) (ta tb tc:TE):TE:=λσ H Q=>ta σ H λx H1=>tb σ H1 λy H2=>r x y H2 λz H3=>∃ k,z=.bl k ∧
 (if k=true then tc σ H3 λw' H4=>r' y w' H4 Q else Q (.bl false) H3)
theorem Vt {op op':CmpOp} {r r':R2} (ho:uU X (compareOp op) r) (ho':uU X (compareOp op') r') (ha:PE X a ta) (hb:PE X b tb) (hc:PE X c tc)
  (hm:lastMarks [op,op'] [b,c]=false:=by with_unfolding_all rfl):PE X (.Compare a [op,op'] [b,c] pos) (Vs r r' ta tb tc):=by
 intro pins s σ H Q I h;refine Compare_chain (gF (ha pins s σ H _ I h) λv s1 ⟨x,H1,I1,r1,q1⟩=>chain_link (gF (hb pins s1 σ H1 _ I1 q1) λu s2 ⟨y,H2,I2,r2,q2⟩=>
  gF (ho pins s2 σ H2 x y v u _ I2 r1 r2 q2) λd s3 ⟨z,H3,I3,r3,k,e,q3⟩=>?_)) hm
 subst e;cases r3;refine jv ?_;cases k with
 |false=>exact ite_ff ⟨.bl false,H3,I3,rfl,q3⟩
 |true=>exact ite_tt (chain_last (gF (hc pins s3 σ H3 _ I3 q3) λw' s4 ⟨z',H4,I4,r4,q4⟩=>ho' pins s4 σ H4 y z' u w' Q I4 r2 r4 q4))
def acQ (K:FG_) (x:V) (H:Hp) (k:Bool):Prop:=
 match x with
 |.non=>k=false
 |.bl b=>k=b
 |.int i=>k=(i != 0)
 |.str y=>y.length<=sizeLine/\k=((y.length:Int) != 0)
 |.byt y=>y.size<=sizeLine/\k=((y.size:Int) != 0)
 |.ref p=>(∃ xs,rP K H p xs/\k=!xs.isEmpty)\/(∃ xs,wW K H p xs/\k=!xs.isEmpty)\/∃ kvs,H p=some (.dK kvs)/\k=!kvs.isEmpty
 |_=>False
theorem Nv {κ:Type} {kvs:List (κ×V)} {vs:List (κ×Value)} (r:KV kvs vs):(!vs.isEmpty)=!kvs.isEmpty:=by
 cases r<;>rfl
theorem Ar {xs:List V} {its:List Value} (r:Vals xs its):(!its.toArray.isEmpty)=!xs.isEmpty:=by
 cases r<;>simp
theorem w5:(sizeLine:Nat) < 2 ^ 63:=by rw[sizeLine_eq];decide
theorem acR:ahj X (λx H Q=>∃ k,acQ X.K x H k/\Q k H):=by
 intro pins s σ H x v Q I rx h;obtain⟨k,e,q⟩:=h;have hl:=w5;have hs:sizeLine=16777216:=sizeLine_eq;cases x with
 |non=>
  cases rx;have e':k=false:=e;subst e';exact truthy_none ⟨H,I,q⟩
 |bl b=>
  cases rx;have e':k=b:=e;subst e';exact jv ⟨H,I,q⟩
 |int i=>
  obtain⟨t,rfl⟩:=rx;have e':k=(i != 0):=e;subst e';exact PySem.P.truthy_int ⟨H,I,q⟩
 |str y=>
  obtain⟨t,rfl⟩:=rx;obtain⟨hy,e'⟩:y.length<=sizeLine/\k=((y.length:Int) != 0):=e;subst e';exact PySem.P.truthy_str (by omega) ⟨H,I.tok _,q⟩
 |byt y=>
  obtain⟨t,rfl⟩:=rx;obtain⟨hy,e'⟩:y.size<=sizeLine/\k=((y.size:Int) != 0):=e;subst e';exact PySem.W.truthy_bytes (by omega) ⟨H,I.tok _,q⟩
 |ref p=>
  cases rx;have e':(∃ xs,rP X.K H p xs/\k=!xs.isEmpty)\/(∃ xs,wW X.K H p xs/\k=!xs.isEmpty)\/∃ kvs,H p=some (.dK kvs)/\k=!kvs.isEmpty:=e;rcases e' with⟨xs,hx,e'⟩|⟨xs,hx,e'⟩|⟨kvs,hx,e'⟩
  ·subst e';obtain⟨its,r,pl,hz⟩:=I.list hx;have hlen:=r.length;exact wpAny_truthy_list pl.isList (by simp only[zz];omega) ⟨H,I.tok _,by rw[Ar r];exact q⟩
  ·subst e';obtain⟨its,r,pl,hz⟩:=I.tuple hx;have hlen:=r.length;exact truthy_tuple pl (by simp only[zz];omega) ⟨H,I.tok _,by rw[Ar r];exact q⟩
  ·subst e';obtain⟨hz,hS,vs,r,m⟩:kvs.length<=sizeLine/\(p==sysModules)=false/\∃ vs,KV kvs vs/\s.heap.DictOf (aX X.prog X.w) p vs:=I.hok p _ hx;have hlen:kvs.length=vs.length:=Paired.length r;exact wpAny_truthy_dict hS m (by omega) ⟨H,I.tok _,by rw[Nv r];exact q⟩
 |_=>exact(show False from e).elim
theorem Vu (ha:PE X a ta) (he:∀ whole,isTrue a X.env whole=(do let v <-whole;standAt a.pos;holding [v] (truthy v))) :
  PT X a (λσ H Q=>ta σ H λx H'=>∃ k,acQ X.K x H' k/\Q k H'):=by
 intro pins s σ H Q I h;exact isTrue_plain (gF (ha pins s σ H _ I h) λv s1 ⟨x,H1,I1,r1,q1⟩=>acR pins s1 σ H1 x v Q I1 r1 q1) (he _)
theorem Nx:uU X (binaryOp .Add) (λx y H Q=>∃ i j,x=.str i/\y=.str j/\i.length+j.length<=sizeLine/\Q (.str (i++j)) H):=by
 intro pins s σ H x y v u Q I rx ry h;obtain⟨i,j,rfl,rfl,hz,q⟩:=h;obtain⟨t,rfl⟩:=rx;obtain⟨t',rfl⟩:=ry;exact add_str (λt' tk=>⟨.str (i++j),H,I.tok _,⟨_,rfl⟩,q⟩) hz
theorem vals1 {x:V} {us:List Value} (r:Vals [x] us):∃ u,us=[u]/\RelV x u:=by
 cases r with
 |cons r1 r2=>cases r2;exact⟨_,rfl,r1⟩
theorem vals2 {x y:V} {us:List Value} (r:Vals [x,y] us):∃ u w',us=[u,w']/\RelV x u/\RelV y w':=by
 cases r with
 |cons r1 r2=>
  cases r2 with
  |cons r3 r4=>cases r4;exact⟨_,_,rfl,r1,r3⟩
theorem Vv:fB X (.builtin "abs") (λxs H Q=>∃ i,xs=[.int i]/\Q (.int (if i < 0 then -i else i)) H):=by
 intro pins s σ H xs us Q I r h;obtain⟨i,rfl,q⟩:=h;obtain⟨u,rfl,t,rfl⟩:=vals1 r;exact call_abs_int λu tk=>⟨.int (if i < 0 then -i else i),H,I.tok _,⟨_,rfl⟩,q⟩
theorem SX:fB X (.type "int") (λxs H Q=>(∃ i,xs=[.int i]/\Q (.int i) H)\/∃ k,xs=[.bl k]/\Q (.int (if k then 1 else 0)) H):=by
 intro pins s σ H xs us Q I r h;rcases h with⟨i,rfl,q⟩|⟨k,rfl,q⟩
 ·obtain⟨u,rfl,t,rfl⟩:=vals1 r;exact call_int_int ⟨.int i,H,I,⟨_,rfl⟩,q⟩
 ·obtain⟨u,rfl,r1⟩:=vals1 r;cases r1;exact call_int_bool ⟨.int (if k then 1 else 0),H,I.tok _,⟨_,rfl⟩,q⟩
end
end L2
namespace L2
open PySem PySem.Spec PyProof.Rows
structure ahm (h:Heap) (x dx C:Addr) (mA:Str->Option Value):Prop where
 obj:h.get? x=some (instObj C dx)
 ns:h.Ns1 dx mA
 ne:dx≠x
section
variable {prog:Program} {w:World} {A:Around} {E:VP_} {s:Shared} {K:FG_} {x dx C f:Addr} {mA:Str->Option Value} {name:Str} {v:Value}
end
theorem yV.some_of {v:V} {o:Option Value} (r:yV (some v) o):∃ u,o=some u/\RelV v u:=by
 cases o with
 |none=>exact(show False from r).elim
 |some u=>exact⟨u,rfl,r⟩
section
variable {P:Program} {w:World} {H H':Hp} {h h':Heap} {a C dx:Addr} {fs fs':List (Str×V)}
theorem zP (hok:rN P w H h) (e:H a=some (.ins C dx fs)):∃ mA,ahm h a dx C mA/\(∀ f,yV (fs.lookup f) (mA f))/\PySem.Within mA (fs.map (·.1))/\fs.length<=1000/\H dx=some (.own a):=by
 obtain⟨d,z,ne,ob,mA,n,r,q⟩:=(show eY P w H h a (.ins C dx fs) from hok a _ e);exact⟨mA,⟨ob,n,ne⟩,r,q,z,d⟩
end
section
variable {X:Cx} {pins:List (Addr×Obj)} {σ:St} {H:Hp} {s:Shared} {a C dx:Addr} {fs:List (Str×V)} {f:Str} {v:V} {A:Around} {E:VP_}
theorem Zm {prog:Program} {w:World} {env:Env} {e:Expr} {f:Str} {pos:Pos} {s:Shared} {Q:VP_} (hb:attributeBase e f env (eval e env)=eval e env)
  (h:wpAny (model prog w) A (eval e env) (λo s₁=>wpAny (model prog w) A (getAttr o f true) Q E s₁) E s):wpAny (model prog w) A (eval (.Attribute e f pos) env) Q E s:=
 Attribute_any_ h (by rw[arm_eval_Attribute,hb])
end
section
variable {X:Cx} {o e value:Expr} {f:Str} {pos pos' tpos:Pos} {ta tv:TE}
end
section
variable {X:Cx} {pins:List (Addr×Obj)} {σ:St} {H:Hp} {s:Shared} {A:Around} {E:VP_} {Q:VP_} {c:Value} {b:Bool}
end
end L2
namespace L2
open PySem PySem.Spec PyProof.Rows
structure fK (k:Nat) (A:Around):Prop where
 hd:A.handled=none
 dp:A.depth+3 * k+5 < recursionLimit
 un:A.units+16 * k+200 < cLine
theorem fK.mono {j k:Nat} {A:Around} (r:fK k A) (h:j<=k):fK j A:=⟨r.hd,by have:=r.dp;omega,by have:=r.un;omega⟩
theorem fK.deeper {k:Nat} {A:Around} (r:fK (k+1) A) (env:Env):fK k (A.deeper env):=
 ⟨r.hd,by have:=r.dp;show A.depth+1+3 * k+5 < _;omega,by have:=r.un;show A.units+3+16 * k+200 < _;omega⟩
theorem Ny {A:Around} {C:Addr} {us:List Value} {kw:List (Str×Value)}:(A.under (.builtin "type.__call__" ⟨.ref C::us,kw⟩)).depth=A.depth+1:=by
 first|rfl|simp[Around.under,Code.weight,Code.isCreation,Code.isGuard,Code.isCaller,Code.frames,Code.isFrame,guardIds]
theorem Nz {A:Around} {C:Addr} {us:List Value} {kw:List (Str×Value)}:(A.under (.builtin "type.__call__" ⟨.ref C::us,kw⟩)).units=A.units+1:=by
 first|rfl|simp[Around.under,Code.cUnits,Code.frames,Code.isFrame]
theorem fK.make {k:Nat} {A:Around} (r:fK (k+1) A) (C:Addr) (us:List Value) (kw:List (Str×Value)):fK k (A.under (.builtin "type.__call__" ⟨.ref C::us,kw⟩)):=
 ⟨r.hd,by have:=r.dp;rw[Ny];omega,by have:=r.un;rw[Nz];omega⟩
theorem fK.depth {k:Nat} {A:Around} (r:fK k A):A.depth < recursionLimit:=by have:=r.dp;omega
def Zn:TA:=λ_ H Q=>Q [] H
def Av (ta:TE) (tr:TA):TA:=λσ H Q=>ta σ H λx H1=>tr σ H1 λxs H2=>Q (x::xs) H2
section
variable {X:Cx} {e:Expr} {es:List Expr} {te:TE} {t:TA} {pos:Pos}
theorem dJ:PA X [] Zn:=λ_ _ _ _ H Q I h=>Calls.spliced_nil ⟨[],H,I,.nil,h⟩
theorem aV (ha:PE X e te) (hr:PA X es t) (hs:starEach (e::es) X.env=(false,eval e X.env)::starEach es X.env:=by rfl):PA X (e::es) (Av te t):=by
 intro pos pins s σ H Q I h;rw[hs];show wpAny _ _ (spliced ((false,eval e X.env)::backTo pos (starEach es X.env))) _ _ s;refine Calls.spliced_cons (gF (ha pins s σ H _ I h) λu s1 ⟨x,H1,I1,r1,q1⟩=>?_);exact gF (hr pos pins s1 σ H1 _ I1 q1) λus s2 ⟨xs,H2,I2,r2,q2⟩=>⟨x::xs,H2,I2,.cons r1 r2,q2⟩
def ahn (t:TA):TE:=λσ H Q=>t σ H λxs H1=>xs.length<=sizeLine/\∀ p,H1 p=none->Q (.ref p) (upd H1 p (.tup xs))
def aho (t:TA):TE:=λσ H Q=>t σ H λxs H1=>xs.length<=sizeLine/\∀ p,H1 p=none->Q (.ref p) (upd H1 p (.lst xs))
theorem acS {x1} (h:PA X es t):PE X (.Tuple es x1 pos) (ahn t):=by
 intro pins s σ H Q I hq;refine wpAny_Tuple_spliced (gF (h pos pins s σ H _ I hq) λus s1 ⟨xs,H1,I1,r,z,q⟩=>⟨by rw[<-r.length];exact z,?_⟩);have hf:H1 s1.heap.objs.size=none:=I1.hok.fresh (zg _);refine⟨.ref s1.heap.objs.size,upd H1 s1.heap.objs.size (.tup xs),I1.laid (t':=s1.toks) (λb u e=>zd _ e) (zg _) ?_,rfl,q _ hf⟩;exact⟨z,us,r,⟨_,zt _ rfl,rfl,⟨_,rfl⟩,rfl⟩⟩
theorem NK (h:PA X es t):PE X (.List es pos) (aho t):=by
 intro pins s σ H Q I hq;refine wpAny_List_spliced (gF (h pos pins s σ H _ I hq) λus s1 ⟨xs,H1,I1,r,z,q⟩=>⟨by rw[<-r.length];exact z,?_⟩);have hf:H1 s1.heap.objs.size=none:=I1.hok.fresh (zg _);refine⟨.ref s1.heap.objs.size,upd H1 s1.heap.objs.size (.lst xs),I1.laid (t':=s1.toks) (λb u e=>zd _ e) (zg _) ?_,rfl,q _ hf⟩;exact⟨z,us,0,r,zt _ rfl⟩
end
abbrev Sp:=List V->Hp->VK->XK->Prop
abbrev S5:=List Env->Hp->Shared->XK->Value->Shared->Prop
structure Aw (P:Program) (w:World) (K:FG_) (mg:Str->Option Value) (base:Heap) (A:Around) (outer:List Env) (s:Shared) (H:Hp):Prop where
 frames:A.frames=some outer
 mod:Mod K mg base
 bs:∀ b o,base.get? b=some o->s.heap.get? b=some o/\H b=none
 Vd:base.objs.size<=s.heap.objs.size
 rO:s.heap.FunFrames base outer
 Y7:∀ b∈frs outer,H b=none
 hok:rN P w H s.heap
 bare:AllBare s.gens
def CE (outer:List Env) (P:Program) (w:World) (H:Hp) (s:Shared) (Q:VK) (u:Value) (s':Shared):Prop:=
 ∃ v H',s'.os=s.os/\AllBare s'.gens/\Un (frs outer) [] H H' s.heap s'.heap/\rN P w H' s'.heap/\RelV v u/\Q v H'
def CR (CX:S5) (outer:List Env) (P:Program) (w:World) (H:Hp) (s:Shared) (Q:VK) (E:XK) (r:Result) (s':Shared):Prop:=
 match r with
 |.ok (.ret u)=>CE outer P w H s Q u s'
 |.ok _=>False
 |.error e=>CX outer H s E e s'
structure iV (P:Program) (w:World) (K:FG_) (mg:Str->Option Value) (base:Heap) (CX:S5) (k:Nat) (f:Addr) (fd:FuncData) (ps:LS_) (sp:Sp):Prop where
 len:∀ vs H Q E,sp vs H Q E->vs.length=ps.length
 run:∀ (A:Around) (outer:List Env) (s:Shared) (H:Hp) (args:Args) (us:List Value) (vs:List V) (Q:VK) (E:XK),fK k A->Aw P w K mg base A outer s H->BindsTo s fd args (ps.zip us)->Vals vs us->sp vs H Q E →
  codeAny (model P w) A (.call (.ref f) args) (CR CX outer P w H s Q E) s
theorem Aw.make {P:Program} {w:World} {K:FG_} {mg:Str->Option Value} {base:Heap} {A:Around} {outer:List Env} {s:Shared} {H:Hp} (e:Aw P w K mg base A outer s H) (C:Addr) (us:List Value) (kw:List (Str×Value)) :
  Aw P w K mg base (A.under (.builtin "type.__call__" ⟨.ref C::us,kw⟩)) outer s H:=⟨by first|exact e.frames|(simpa[Around.under,Code.envs,Code.isFrame,pushEnvs] using e.frames),e.mod,e.bs,e.Vd,e.rO,e.Y7,e.hok,e.bare⟩
section
variable {X:Cx} {pins:List (Addr×Obj)} {σ:St} {H:Hp} {s s':Shared}
theorem Inv.env0 (I:Inv X pins σ H s):Aw X.prog X.w X.K X.mg X.base X.A X.stack s H:=
 ⟨I.ok.frames,I.ok.mod,I.bs,Zs I.ok.Vd I.sz,I.stack,I.zJ,I.hok,I.bare⟩
theorem Inv.after {Q:VK} {u:Value} (I:Inv X pins σ H s) (h:CE X.stack X.prog X.w H s Q u s'):EP X pins σ Q u s':=by
 obtain⟨v,H',os,bare,un,hok,r,q⟩:=h;obtain⟨hh,g,d,t,os'⟩:=s';obtain rfl:os'=s.os:=os;exact⟨v,H',I.call (h':=hh) (g':=g) (d':=d) (t':=t) (ch:=[]) un hok bare (λb z=>absurd z (by simp)),r,q⟩
end
def afb (sp:Sp) (dvs:List V) (E:XK) (t:TA):TE:=λσ H Q=>t σ H λvs H1=>sp (vs++dvs) H1 Q E
def Binds (K:FG_) (fd:FuncData) (ps:LS_) (ds:List Value):Prop:=
 ∀ (s:Shared) (us:List Value),K.In s.heap->(us++ds).length=ps.length->BindsTo s fd ⟨us,[]⟩ (ps.zip (us++ds))
theorem Binds.all {K:FG_} {fd:FuncData} {ps:LS_} (h:∀ us:List Value,us.length=ps.length->bindArgs fd ⟨us,[]⟩=pure (ps.zip us)):Binds K fd ps []:=λs us _ hl=>by
 rw[QA] at hl ⊢;exact .of_eq (h us hl)
def Passes (CX:S5) (X:Cx) (E:XK):Prop:=∀ (pins:List (Addr×Obj)) (σ:St) (H:Hp) (s:Shared) (e:Value) (s':Shared),Inv X pins σ H s->CX X.stack H s E e s'->X.xe e s'
section
variable {X:Cx} {CX:S5} {k:Nat} {f C:Addr} {fd:FuncData} {ps:LS_} {sp:Sp} {dvs:List V} {ds:List Value} {E:XK} {x m:Str} {p pos apos:Pos} {e o:Expr} {es:List Expr} {ta:TE} {t:TA}
theorem acT {pins:List (Addr×Obj)} {σ:St} {H:Hp} {s:Shared} {Q:VK} {us:List Value} {vs:List V} (F:iV X.prog X.w X.K X.mg X.base CX k f fd ps sp) (hr:fK k X.A) (hb:Binds X.K fd ps ds) (hd:Vals dvs ds) (hx:Passes CX X E)
  (I:Inv X pins σ H s) (r:Vals vs us) (h:sp (vs++dvs) H Q E):wpAny (model X.prog X.w) X.A (call (.ref f) us) (EP X pins σ Q) X.xe s:=by
 have r2:Vals (vs++dvs) (us++ds):=r.append hd;have hl:(us++ds).length=ps.length:=by rw[<-r2.length];exact F.len _ _ _ _ h
 refine k4 (kP (F.run X.A X.stack s H ⟨us,[]⟩ (us++ds) (vs++dvs) Q E hr I.env0 (hb s us I.Aj hl) r2 h) λr s' hq=>?_);cases r with
 |error e=>exact hx pins σ H s e s' I hq
 |ok fl=>
  cases fl with
  |ret u=>exact I.after hq
  |next=>exact False.elim hq
  |brk=>exact False.elim hq
  |cont=>exact False.elim hq
theorem Hj (F:iV X.prog X.w X.K X.mg X.base CX k f fd ps sp) (hr:fK k X.A) (hg:Gl X x) (hm:X.mg x=some (.ref f)) (hk:keepIn X.K (.ref f)=true) (hb:Binds X.K fd ps ds) (hd:Vals dvs ds) (hx:Passes CX X E)
  (ha:PA X (e::es) t) (hdb:(x==("__debug__" : Str))=false:=by decide) (he:starEach (e::es) X.env=(false,eval e X.env)::starEach es X.env:=by rfl) (hpl:(backTo pos (starEach es X.env)).any (·.1)=false:=by rfl) :
  PE X (.Call (.Name x p) (e::es) [] pos) (afb sp dvs E t):=by
 intro pins s σ H Q I h;refine kz (tO I hg hm ?_ hdb);refine yi (h₀:=X.base) I.ok.mod.kin hk (gF (ha pos pins s σ H _ I h) λus s1 ⟨vs,H1,I1,r,q⟩=>⟨I1.Aj,?_⟩) he hpl;exact acT F hr hb hd hx I1 r q
end
section
variable {X:Cx} {CX:S5} {k:Nat} {f C:Addr} {fd:FuncData} {ps ks:LS_} {sp:Sp} {E:XK} {x m:Str} {p pos apos kpos:Pos} {e o:Expr} {es:List Expr} {kws:List Keyword} {te ta:TE} {t tk:TA} {nm:Option Str}
variable {g:List Value->List Value->List Value} {gV:List V->List V->List V}
end
structure aY (N P:LS_) (sc:Scope):Prop where
 kind:sc.kind=.function
 co:sc.isCoroutine=false
 gen:sc.isGenerator=false
 nd:N.Nodup
 pre:N.take P.length=P
 par:∀ x∈P,sc.names.lookup x=some .local\/sc.names.lookup x=some .cell
 acU:∀ y∈sc.names,y.2≠.free
theorem Ft {kindOf:Str->Option NameKind} {x:Str}:∀ {binds:List (Str×Value)} {m:Str->Option Value},(∀ v,(x,v)∉binds)->bindL kindOf binds m x=m x
 |[],_,_=>rfl
 |(n,v)::r,m,h=>by
  unfold bindL;rw[Ft λw hw=>h w (zr _ hw)];split
  ·have:x≠n:=by rintro rfl;exact h v zi
   simp[this]
  ·rfl
theorem Fv {kindOf:Str->Option NameKind} {x:Str}:∀ {binds:List (Str×Value)} {m:Str->Option Value},(∀ v,(x,v)∉binds)->bindC kindOf binds m x=m x
 |[],_,_=>rfl
 |(n,v)::r,m,h=>by
  unfold bindC;rw[Fv λw hw=>h w (zr _ hw)];split
  ·rfl
  ·have:x≠n:=by rintro rfl;exact h v zi
   simp[this]
theorem Fw {kindOf:Str->Option NameKind} {x:Str} {v:Value}:∀ {P:LS_} {vs:List Value} {i:Nat} {m:Str->Option Value},P.Nodup->P[i]?=some x->vs[i]?=some v->kindOf x=some .local →
  bindL kindOf (P.zip vs) m x=some v
 |[],_,_,_,_,h,_,_=>by simp at h
 |_::_,[],_,_,_,_,h,_=>by simp at h
 |p::P,w::vs,0,m,nd,h1,h2,hk=>by
  simp at h1 h2;subst h1;subst h2;show bindL kindOf ((p,w)::P.zip vs) m p=_;unfold bindL;rw[Ft λv hv=>(List.nodup_cons.mp nd).1 (KP hv).1,zl hk];simp
 |p::P,w::vs,i+1,m,nd,h1,h2,hk=>by
  show bindL kindOf ((p,w)::P.zip vs) m x=_;unfold bindL;exact Fw (i:=i) (List.nodup_cons.mp nd).2 (by simpa using h1) (by simpa using h2) hk
theorem Fy {kindOf:Str->Option NameKind} {x:Str} {v:Value}:∀ {P:LS_} {vs:List Value} {i:Nat} {m:Str->Option Value},P.Nodup->P[i]?=some x->vs[i]?=some v->kindOf x≠some .local →
  bindC kindOf (P.zip vs) m x=some v
 |[],_,_,_,_,h,_,_=>by simp at h
 |_::_,[],_,_,_,_,h,_=>by simp at h
 |p::P,w::vs,0,m,nd,h1,h2,hk=>by
  simp at h1 h2;subst h1;subst h2;show bindC kindOf ((p,w)::P.zip vs) m p=_;unfold bindC;rw[Fv λv hv=>(List.nodup_cons.mp nd).1 (KP hv).1,zw hk];simp
 |p::P,w::vs,i+1,m,nd,h1,h2,hk=>by
  show bindC kindOf ((p,w)::P.zip vs) m x=_;unfold bindC;exact Fy (i:=i) (List.nodup_cons.mp nd).2 (by simpa using h1) (by simpa using h2) hk
def start (N:LS_) (vs:List V):St:=vs.map some++List.replicate (N.length - vs.length) none
def qb (CX:S5) (P:Program) (w:World) (K:FG_) (mg:Str->Option Value) (base:Heap) (N:LS_) (qual:Str) (scope:Scope) (f:Addr) (cd:Value) (A:Around) (outer:List Env) (s:Shared) (H:Hp) (E:XK):Cx where
 prog:=P
 w:=w
 K:=K
 mg:=mg
 base:=base
 A:=A.deeper (envOfC qual scope s.heap.objs.size f cd)
 N:=N
 s₀:=s
 H₀:=H
 env:=envOfC qual scope s.heap.objs.size f cd
 outer:=outer
 stack:=envOfC qual scope s.heap.objs.size f cd::outer
 ex:=[]
 calm:=true
 fn:=λ_=>true
 pn:=[]
 xe:=λe s'=>wpAny (model P w) (A.deeper (envOfC qual scope s.heap.objs.size f cd)) (leaving (envOfC qual scope s.heap.objs.size f cd) e) (λ_ s''=>CX outer H s E e s'') (λe' s''=>CX outer H s E e' s'') s'
theorem JQ {sc:Scope} {n:Nat} {x:Str} (h:sc.names.lookup x=some .cell):∃ c,(cellsFrom n sc.names []).lookup x=some c:=by
 have q:=cellsFrom_some sc.names n [] (.inl h);exact Option.isSome_iff_exists.mp q
theorem Fz {CX:S5} {P:Program} {w:World} {K:FG_} {mg:Str->Option Value} {base:Heap} {N ps:LS_} {qual:Str} {scope:Scope} {f:Addr} {cd:Value} {A:Around} {outer:List Env} {s s1:Shared} {H:Hp} {E:XK} {us:List Value} {vs:List V}
  (S:aY N ps scope) (hd:A.handled=none) (e0:Aw P w K mg base A outer s H) (hl:vs.length=ps.length) (r:Vals vs us)
  (x:InCallC s s.heap.objs.size (bindL (envOfC qual scope s.heap.objs.size f cd).kindOf (ps.zip us) λ_=>none) (cellsFrom (s.heap.objs.size+1) scope.names []) (bindC (envOfC qual scope s.heap.objs.size f cd).kindOf (ps.zip us) λ_=>none) s1) :
  Inv (qb CX P w K mg base N qual scope f cd A outer s H E) [] (start N vs) H s1:=by
 have hpl:ps.length<=N.length:=by have:=congrArg List.length S.pre;rw[km] at this;omega
 obtain⟨h1,tk,rfl,hk⟩:=x.done;have noA:∀ b:Addr,b∉(qb CX P w K mg base N qual scope f cd A outer s H E).ex:=λb z=>absurd (show b∈([]:List Addr) from z) (by simp);refine⟨⟨e0.mod,S.kind,rfl,rfl,zg _,λy z c h1 h2=>?_,λy hy=>?_,λy c _ h=>?_,λ_=>hd,Around.frames_deeper e0.frames,.inr ⟨rfl,rfl⟩,λb z=>absurd z (noA b),e0.bs,e0.Vd,λb _ _=>noA b,λb z=>absurd z (noA b),e0.rO,e0.Y7⟩,
  rfl,e0.bare,Un.kept hk,⟨_,x.toInCall.ns,λi y v h1 h2 h3=>?_⟩,λy c h=>⟨_,x.cell y c h⟩,e0.hok.fresh (zg _),λy c h=>?_,λp hp=>absurd (show p∈([]:List (Addr×Obj)) from hp) (by simp),e0.hok.kept hk,?_⟩
 ·exact name_of_addr x.apart (kg h1) (kg h2)
 ·have hy:scope.names.lookup y=some .cell\/scope.names.lookup y=some .free:=hy;rcases hy with hy|hy
  ·exact JQ hy
  ·exact absurd rfl (S.acU _ (kg hy))
 ·exact ja (x.above y c (kg h))
 ·have hi:i < vs.length:=by
   unfold start at h2;by_cases hi:i < vs.length
   ·exact hi
   ·rw[qk (by simpa using hi)] at h2;rw[QI] at h2;split at h2<;>cases h2
  have ha:vs[i]?=some v:=by
   unfold start at h2;rw[ZI (by simpa using hi),zI] at h2;cases e:vs[i]? with
   |none=>rw[e] at h2;cases h2
   |some a=>rw[e] at h2;cases h2;rfl
  obtain⟨u,hu,rv⟩:=r.get ha;have hp:ps[i]?=some y:=by
   rw[<-S.pre,List.getElem?_take_of_lt (by omega)];exact h1
  have ndP:ps.Nodup:=by rw[<-S.pre];exact S.nd.sublist (List.take_sublist _ _)
  refine⟨u,rv,?_⟩;rcases S.par y (qV hp) with k|k
  ·exact .inl ⟨k,Fw ndP hp hu k⟩
  ·obtain⟨c,e⟩:=JQ (n:=s.heap.objs.size+1) k;refine .inr ⟨.inl k,c,e,?_⟩;have q:=x.cell y c e;rw[Fy ndP hp hu (by show scope.names.lookup y≠_;rw[k];decide)] at q;exact q
 ·exact e0.hok.fresh (ja (x.above y c (kg h)))
 ·unfold start;show _=N.length;rw[Zp,zh,List.length_replicate];omega
theorem abN {CX:S5} {P:Program} {w:World} {K:FG_} {mg:Str->Option Value} {base:Heap} {k:Nat} {f:Addr} {name qual:Str} {params:Arguments} {body:List Stmt} {scope:Scope} {dV kV doc pm cdv ct oc:Value} {an od:Option Addr}
  {osl:Array (Option Value)} {N ps:LS_} {sp:Sp} (lk:K.lookup f=some ⟨oc,od,.func (fnOf name qual params body scope dV kV doc pm an cdv ct),osl⟩) (hcd:codeIn K cdv qual=true) (S:aY N ps scope)
  (len:∀ vs H Q E,sp vs H Q E->vs.length=ps.length)
  (hbody:∀ (A:Around) (outer:List Env) (s:Shared) (H:Hp) (vs:List V) (Q:VK) (E:XK),fK k (A.deeper (envOfC qual scope s.heap.objs.size f cdv))->sp vs H Q E →
   ∃ t,zL (qb CX P w K mg base N qual scope f cdv A outer s H E) body t/\t { nx:=λ_ H'=>Q .non H',rt:=Q } (start N vs) H) :
  iV P w K mg base CX (k+1) f (fnOf name qual params body scope dV kV doc pm an cdv ct) ps sp:=by
 refine⟨len,λA outer s H args us vs Q E hr e0 hb r hsp=>?_⟩;have hl:=len _ _ _ _ hsp;have KX:K.In s.heap:=e0.mod.kin.keeps λb o e=>(e0.bs b o e).1;have lim:s.heap.NoLimit:=e0.mod.nolimit.keeps λb o e=>(e0.bs b o e).1;have hkind:∀ y∈ps.zip us,scope.names.lookup y.1=some .local\/(scope.names.lookup y.1=some .cell/\((cellsFrom (s.heap.objs.size+1) scope.names []).lookup y.1).isSome=true):=λ⟨n,v⟩ hy=>by
  rcases S.par n (KP hy).1 with q|q
  ·exact .inl q
  ·exact .inr ⟨q,cellsFrom_some _ _ _ (.inl q)⟩
 refine codeAny_call_function hr.depth (KX _ _ lk) rfl S.co S.gen rfl (codeRec_of KX hcd) (hb _ _ _ _ ?_);refine wpAny_newFunctionEnv_cells S.kind hkind λenv he s1 x=>?_;subst he;refine⟨lim.keeps x.toInCall.keep,codeAny_func ?_⟩;obtain⟨t,ht,hq⟩:=hbody A outer s H vs Q E (hr.deeper _) hsp;have I:Inv (qb CX P w K mg base N qual scope f cdv A outer s H E) [] (start N vs) H s1:=Fz S hr.hd e0 hl r x;refine ZN (ht [] s1 (start N vs) H _ I hq) (λfl s' hs=>?_) λe s' hs=>hs;have fin:∀ {σ':St} {H':Hp} {v:V} {u:Value},Inv (qb CX P w K mg base N qual scope f cdv A outer s H E) [] σ' H' s'->RelV v u->Q v H'->CE outer P w H s Q u s':=
  λ{σ' H' v u} J rv q=>⟨v,H',J.os,J.bare,J.base,J.hok,rv,q⟩
 cases fl with
 |ret u=>
  obtain⟨v,σ',H',J,rv,q⟩:=hs;exact fin J rv q
 |next=>
  obtain⟨σ',H',J,q⟩:=hs;exact fin (v:=V.non) (u:=Value.none) J rfl q
 |brk=>
  obtain⟨_,_,_,q⟩:=hs;exact False.elim q
 |cont=>
  obtain⟨_,_,_,q⟩:=hs;exact False.elim q
end L2
namespace L2
open PySem PySem.Spec PyProof.Rows
section
variable {X:Cx} {x:Str} {p pos:Pos} {e:Expr} {es:List Expr} {t:TA} {id T:String} {r:List V->Hp->VK->Prop}
def tCB (r:List V->Hp->VK->Prop) (t:TA):TE:=λσ H Q=>t σ H λvs H1=>r vs H1 Q
theorem dZ (hc:fB X (.builtin id) r) (hg:Gl X x) (hm:X.mg x=none) (hv:bootBuiltins x=some (.builtin id)) (ha:PA X (e::es) t) (hn:x ≠ "__name__" := by decide) (hdb:(x==("__debug__" : Str))=false:=by decide)
  (he:starEach (e::es) X.env=(false,eval e X.env)::starEach es X.env:=by rfl) (hpl:(backTo pos (starEach es X.env)).any (·.1)=false:=by rfl):PE X (.Call (.Name x p) (e::es) [] pos) (tCB r t):=by
 intro pins s σ H Q I h;refine kz (Am I hg hm hv ?_ hn hdb);exact PyProof.Rows.callWith_builtin1 (gF (ha pos pins s σ H _ I h) λus s1 ⟨vs,H1,I1,r1,q1⟩=>hc pins s1 σ H1 vs us Q I1 r1 q1) he hpl
theorem FJ (hc:fB X (.type T) r) (hg:Gl X x) (hm:X.mg x=none) (hv:bootBuiltins x=some (.type T)) (ha:PA X (e::es) t) (hn:x ≠ "__name__" := by decide) (hdb:(x==("__debug__" : Str))=false:=by decide)
  (he:starEach (e::es) X.env=(false,eval e X.env)::starEach es X.env:=by rfl) (hpl:(backTo pos (starEach es X.env)).any (·.1)=false:=by rfl):PE X (.Call (.Name x p) (e::es) [] pos) (tCB r t):=by
 intro pins s σ H Q I h;refine kz (Am I hg hm hv ?_ hn hdb);exact PyProof.Rows.callWith_type1 (gF (ha pos pins s σ H _ I h) λus s1 ⟨vs,H1,I1,r1,q1⟩=>hc pins s1 σ H1 vs us Q I1 r1 q1) he hpl
end
end L2
namespace HT
open PySem PyProof.Rows
section
open PySem.SeqAt
open PySem.AutoSeq1 (wpAny_loadPart')
open PySem.MeetsSeq PySem.MeetsSeq2 PySem.MeetsSeq3
end
section
variable {prog:Program} {w:World} {A:Around} {E:VP_} {s:Shared}
theorem Zo {t b:Addr} {vs ws:List Value} {Q:VP_} (ht:IsTup s.heap t vs.toArray) (hb:IsTup s.heap b ws.toArray) (hv:vs≠[])
  (h1:ws=[]->Q (.ref t) s) (h2:ws≠[]->Q (.ref s.heap.objs.size) { s with heap:=s.heap.push { cls:=.type "tuple", data:=.seq (vs++ws).toArray } })
  (hsz:vs.length+ws.length<=sizeLine):wpAny (model prog w) A (binaryOp .Add (.ref t) (.ref b)) Q E s:=by
 obtain⟨⟨cls,dd,data,sl⟩,ho,hc,n,hd⟩:=id ht;obtain⟨⟨cls2,dd2,data2,sl2⟩,ho2,hc2,n2,hd2⟩:=id hb;simp only at hc hd hc2 hd2;subst hc hd hc2 hd2;have e:vs.toArray++ws.toArray=(vs++ws).toArray:=by simp
 by_cases hw:ws=[]
 ·exact concat_meets ⟨_,ho,rfl⟩ ⟨_,ho2,rfl⟩ noFill_tuple_add seq_tuple_add PySem.F.slot_tuple_add yT (yv _ _)
   (tuple_addW1 t b vs.toArray ws.toArray n n2 dd dd2 sl sl2 (by simpa using hv) (by simp[hw])) ⟨ho,ho2,h1 hw⟩
 ·refine concat_meets ⟨_,ho,rfl⟩ ⟨_,ho2,rfl⟩ noFill_tuple_add seq_tuple_add PySem.F.slot_tuple_add yT (yv _ _)
   (tuple_addW2 t b vs.toArray ws.toArray n n2 dd dd2 sl sl2 (by simpa using hv) (by simpa using hw) (by rw[zz,zz];exact hsz)) ⟨ho,ho2,?_⟩
  rw[e];exact h2 hw
def gn (n d:Nat):Option Int->Nat
 |none=>d
 |some v=>if v < 0 then(v+(n:Int)).toNat else min v.toNat n
theorem Vw (n d:Nat):gn n d none=d:=rfl
theorem Zq (n d k:Nat):gn n d (some (k:Int))=min k n:=by
 show(if(k:Int) < 0 then((k:Int)+(n:Int)).toNat else min (k:Int).toNat n)=min k n;rw[zw (by omega),ym]
theorem acV (n d:Nat) (hd:d<=n) (o:Option Int):gn n d o<=n:=by
 cases o with
 |none=>exact hd
 |some v=>
  show(if v < 0 then(v+(n:Int)).toNat else min v.toNat n)<=n;by_cases hv:v < 0
  ·rw[zl hv];omega
  ·rw[zw hv];exact Nat.min_le_right _ _
theorem QK (v:Int) (n d:Nat):(if v < 0 then max (v+(n:Int)) 0 else min v (n:Int))=((gn n d (some v):Nat):Int):=by
 show(if v < 0 then max (v+(n:Int)) 0 else min v (n:Int))=(((if v < 0 then(v+(n:Int)).toNat else min v.toNat n):Nat):Int);by_cases hv:v < 0
 ·simp only[zl hv];omega
 ·simp only[zw hv];omega
theorem NP (lo hi:Option Int) (n:Nat):Builtin.Slice.sliceAdjust lo hi 1 (n:Int)=(((gn n 0 lo:Nat):Int),((gn n n hi:Nat):Int)):=by
 have h1:¬ ((1:Int) < 0):=by omega
 unfold Builtin.Slice.sliceAdjust;simp only[h1,ZH];refine Prod.ext ?_ ?_
 ·cases lo with
  |none=>rfl
  |some v=>exact QK v n 0
 ·cases hi with
  |none=>rfl
  |some v=>exact QK v n n
theorem NT (i j:Nat):Builtin.Slice.slicePlaces (i:Int) (j:Int) 1=j - i:=by
 unfold Builtin.Slice.slicePlaces;have h1:(1:Int) > 0:=by omega
 simp only[h1,qq,Int.ediv_one];split<;>omega
theorem Ax {v:Value} {o:Option Int} {Q:Option Int->Shared->Prop} (p:IsPart v o) (h:Q o s):wpAny (model prog w) A (Builtin.Slice.slicePartIndex v) Q E s:=by
 cases p with
 |none=>exact slicePart_none h
 |int i t=>exact slicePart_int h
theorem pA {sl:Addr} {vl vu:Value} {lo hi:Option Int} {n:Nat} {Q:Int×Int×Nat->Shared->Prop} (hs:s.heap.IsSliceOf sl vl vu .none) (pl:IsPart vl lo) (pu:IsPart vu hi)
  (h:Q (((gn n 0 lo:Nat):Int),1,gn n n hi - gn n 0 lo) s):wpAny (model prog w) A (Builtin.Slice.sliceApplied (.ref sl) (pure (n:Int))) Q E s:=by
 obtain⟨os,hos,hcs,hds⟩:=id hs;unfold Builtin.Slice.sliceApplied Builtin.Slice.sliceFields;refine zb (zb (Q1 hos hds (x:=vl) rfl (zb (Q1 hos hds (x:=vu) rfl (zb (Q1 hos hds (x:=.none) rfl (ze ?_)))))));refine zb (slicePart_none ?_);show wpAny _ _ (if((1:Int)==0)=true then _ else _) _ _ s;rw[zw (by decide)];refine zb (Ax pl (zb (Ax pu (zb (ze ?_)))));show wpAny _ _ (match Builtin.Slice.sliceAdjust lo hi 1 (n:Int) with|(lo,hi)=>pure (lo,(1:Int),Builtin.Slice.slicePlaces lo hi 1)) _ _ s;rw[NP lo hi n];show wpAny _ _ (pure (((gn n 0 lo:Nat):Int),(1:Int),Builtin.Slice.slicePlaces ((gn n 0 lo:Nat):Int) ((gn n n hi:Nat):Int) 1)) _ _ s;rw[NT];exact ze h
theorem Vx (xs:Array Value) (i k:Nat):((List.range k).filterMap λ(m:Nat)=>xs[((i:Int)+(m:Int) * 1).toNat]?).toArray=((xs.toList.drop i).take k).toArray:=by
 have e:(λ(m:Nat)=>xs[((i:Int)+(m:Int) * 1).toNat]?)=λm=>xs[i+m]?:=by
  funext m;have:((i:Int)+(m:Int) * 1).toNat=i+m:=by omega
  rw[this]
 rw[e];have:=pick_run xs i k;rw[List.filterMap_map] at this;have e2:((λx=>xs[x]?) ∘ λx=>i+x)=λm=>xs[i+m]?:=rfl;rw[e2] at this;rw[this]
theorem vI {t sl:Addr} {items:Array Value} {vl vu:Value} {lo hi:Option Int} {Q:VP_} (ht:IsTup s.heap t items) (hs:s.heap.IsSliceOf sl vl vu .none) (pl:IsPart vl lo) (pu:IsPart vu hi)
  (hw:¬ (gn items.size 0 lo=0/\gn items.size items.size hi=items.size))
  (h:Q (.ref s.heap.objs.size) { s with heap:=s.heap.push { cls:=.type "tuple", data:=.seq ((items.toList.drop (gn items.size 0 lo)).take (gn items.size items.size hi - gn items.size 0 lo)).toArray } })
  (hsz:items.size<=sizeLine):wpAny (model prog w) A (getItem (.ref t) (.ref sl)) Q E s:=by
 have QL:sizeOk (.seq ((items.toList.drop (gn items.size 0 lo)).take (gn items.size items.size hi - gn items.size 0 lo)).toArray):=by
  show((items.toList.drop (gn items.size 0 lo)).take (gn items.size items.size hi - gn items.size 0 lo)).toArray.size<=sizeLine;rw[zz,km,ko,qc];omega
 have hj:gn items.size items.size hi<=items.size:=acV _ _ (zg _) hi;obtain⟨os,hos,hcs,hds⟩:=id hs;have hTs:s.TypeIs (.ref sl) "slice" := ⟨os,hos,hcs⟩;unfold getItem
 try with_reducible refine qi ?_
 first|refine zb (ze ?_)|skip
 refine zb (wpAny_sequenceKey ht.typeIs (by decide) ?_);refine zb (k8 (name:=Str.ofString "__getitem__") ht.typeIs PyProof.Rows.slot_tuple_getitem
  (JJ PyProof.Rows.slot_tuple_getitem ht.typeIs entry_tuple_getitem ?_ (args_tuple_getitem _ _)))
 show wpAny _ _ (Builtin.Tuple.tupleItemsOf (.ref t) >>= _) _ _ s;refine zb (tupleItemsOf_ ht ?_);refine zb (QE hTs ?_);rw[zl (by decide)];refine zb (pA hs pl pu ?_);have hno:¬ ((((gn items.size 0 lo:Nat):Int)==0&&(1:Int)==1&&(gn items.size items.size hi - gn items.size 0 lo)==items.size)=true):=by
  intro q;rw[Zz,Zz] at q;have q1:((gn items.size 0 lo:Nat):Int)=0:=eq_of_beq q.1.1;have q2:gn items.size items.size hi - gn items.size 0 lo=items.size:=eq_of_beq q.2;exact hw ⟨by omega,by omega⟩
 show wpAny _ _ (if(((gn items.size 0 lo:Nat):Int)==0&&(1:Int)==1&&(gn items.size items.size hi - gn items.size 0 lo)==items.size)=true then _ else _) _ _ s;rw[zw hno,Vx]
 first
  |exact zb (m:=Builtin.Tuple.tupleExact _) (ZZ (ze ⟨_,rfl,ze h⟩) QL)
  |exact zb (m:=Builtin.Tuple.tupleExact _) (ZZ (zb (ze (ze ⟨_,rfl,ze h⟩))) QL)
  |exact zb (zb (m:=Builtin.Tuple.tupleExact _) (ZZ (ze (ze ⟨_,rfl,ze h⟩)) QL))
  |exact zb (zb (m:=Builtin.Tuple.tupleExact _) (ZZ (ze ⟨_,rfl,ze h⟩) QL))
end
end HT
namespace L2
open PySem PySem.Spec PyProof.Rows
abbrev TO:=St->Hp->(Option Int->Hp->Prop)->Prop
def PO (X:Cx) (e:Option Expr) (t:TO):Prop:=
 ∀ (pins:List (Addr×Obj)) (s:Shared) (σ:St) (H:Hp) (Q:Option Int->Hp->Prop),Inv X pins σ H s->t σ H Q →
  wpAny (model X.prog X.w) X.A (evalPart e X.env) (λu s'=>∃ o H',Inv X pins σ H' s'/\IsPart u o/\Q o H') X.xe s
def Zr:TO:=λ_ H Q=>Q none H
def afd (t:TE):TO:=λσ H Q=>t σ H λx H1=>∃ i,x=.int i/\Q (some i) H1
section
variable {X:Cx} {e:Expr} {te:TE} {lo hi:Option Expr} {tl th:TO} {pos p2:Pos}
theorem Zt:PO X none Zr:=by
 intro pins s σ H Q I h;rw[evalPart_none];exact ze ⟨none,H,I,.none,h⟩
theorem Zu (h:PE X e te):PO X (some e) (afd te):=by
 intro pins s σ H Q I hw;rw[evalPart_some];refine gF (h pins s σ H _ I hw) λu s1 ⟨x,H1,I1,r1,q1⟩=>?_;obtain⟨i,rfl,q⟩:=q1;obtain⟨t,rfl⟩:=r1;exact⟨some i,H1,I1,.int i t,q⟩
def SlR (X:Cx) (r:V->Option Int->Option Int->Hp->VK->Prop):Prop:=
 ∀ (pins:List (Addr×Obj)) (s:Shared) (σ:St) (H:Hp) (x:V) (v vl vu:Value) (lo hi:Option Int) (sl:Addr) (Q:VK),Inv X pins σ H s->RelV x v->s.heap.IsSliceOf sl vl vu .none->IsPart vl lo->IsPart vu hi->r x lo hi H Q →
  ∃ T id,typeLookup (.type T) "__getitem__" = pure (some (.builtin id))/\s.TypeIs v T/\wpAny (model X.prog X.w) X.A (getItem v (.ref sl)) (EP X pins σ Q) X.xe s
def tSl (r:V->Option Int->Option Int->Hp->VK->Prop) (te:TE) (tl th:TO):TE:=λσ H Q=>te σ H λx H1=>tl σ H1 λl H2=>th σ H2 λu H3=>r x l u H3 Q
theorem Vy {r:V->Option Int->Option Int->Hp->VK->Prop} (hr:SlR X r) (he:PE X e te) (hl:PO X lo tl) (hu:PO X hi th):PE X (.Subscript e (.Slice lo hi none p2) pos) (tSl r te tl th):=by
 intro pins s σ H Q I h;refine Subscript_ (gF (he pins s σ H _ I h) λv s1 ⟨x,H1,I1,r1,q1⟩=>?_);refine wpAny_Slice (gF (hl pins s1 σ H1 _ I1 q1) λvl s2 ⟨l,H2,I2,pl,q2⟩=>gF (hu pins s2 σ H2 _ I2 q2) λvu s3 ⟨u,H3,I3,pu,q3⟩=>?_);rw[evalPart_none];refine ze ?_;have I4:Inv X pins σ H3 { s3 with heap:=s3.heap.push { cls:=.type "slice", data:=.fields #[vl,vu,.none] } }:=I3.kept (t':=s3.toks) λb ob q=>zd _ q;obtain⟨T,id,hT,ht,hg⟩:=hr pins { s3 with heap:=s3.heap.push { cls:=.type "slice", data:=.fields #[vl,vu,.none] } } σ H3 x v vl vu l u s3.heap.objs.size Q I4 r1 (Heap.IsSliceOf.new ..) pl pu q3;show wpAny (model X.prog X.w) X.A (subscriptTail e (.Slice lo hi none p2) v (.ref s3.heap.objs.size)) (EP X pins σ Q) X.xe { s3 with heap:=s3.heap.push { cls:=.type "slice", data:=.fields #[vl,vu,.none] } };exact tail_any (ops:=[.ref s3.heap.objs.size,v]) ht hT hg (by with_unfolding_all rfl)
def JR (xs:List V) (lo hi:Option Int):List V:=(xs.drop (HT.gn xs.length 0 lo)).take (HT.gn xs.length xs.length hi - HT.gn xs.length 0 lo)
theorem yD (xs:List V) (lo hi:Option Int):(JR xs lo hi).length<=xs.length:=by
 unfold JR;rw[km,ko];omega
def ahq (K:FG_):V->Option Int->Option Int->Hp->VK->Prop:=λx lo hi H Q=>∃ a xs,x=.ref a/\wW K H a xs ∧
 ¬ (HT.gn xs.length 0 lo=0/\HT.gn xs.length xs.length hi=xs.length)/\∀ p,H p=none->Q (.ref p) (upd H p (.tup (JR xs lo hi)))
theorem acW:SlR X (ahq X.K):=by
 intro pins s σ H x v vl vu lo hi sl Q I rx hs pl pu h;obtain⟨a,xs,rfl,hx,hw,q⟩:=h;cases rx;obtain⟨its,r,ht,hz⟩:=I.tuple hx;have hlen:its.toArray.size=xs.length:=by rw[zz];exact r.length.symm
 refine⟨"tuple", _,PyProof.Rows.slot_tuple_getitem.lookup,ht.typeIs,?_⟩;refine HT.vI ht hs pl pu (by rw[hlen];exact hw) ?_ (by rw[hlen];exact hz);rw[hlen];refine⟨.ref s.heap.objs.size,_,I.laid (t':=s.toks) (o:=.tup (JR xs lo hi)) (λb ob q=>zd _ q) (zg _) ?_,rfl,q _ (I.hok.fresh (zg _))⟩;exact⟨Zs (yD xs lo hi) hz,_,(r.drop (HT.gn xs.length 0 lo)).take (HT.gn xs.length xs.length hi - HT.gn xs.length 0 lo),rM.new _ _⟩
def afe (K:FG_):R2:=λx y H Q=>∃ a b xs ys,x=.ref a/\y=.ref b/\wW K H a xs/\wW K H b ys/\xs≠[]/\xs.length+ys.length<=sizeLine ∧
 (ys=[]->Q (.ref a) H)/\(ys≠[]->∀ p,H p=none->Q (.ref p) (upd H p (.tup (xs++ys))))
theorem Vals.zQ {xs:List V} {us:List Value} (r:Vals xs us):us=[]↔xs=[]:=by
 cases r with
 |nil=>simp
 |cons _ _=>simp
theorem Zv:uU X (binaryOp .Add) (afe X.K):=by
 intro pins s σ H x y v u Q I rx ry h;obtain⟨a,b,xs,ys,rfl,rfl,ha,hb,hx,hz,q1,q2⟩:=h;cases rx;cases ry;obtain⟨its,r1,p1,_⟩:=I.tuple ha;obtain⟨its2,r2,p2,_⟩:=I.tuple hb;refine HT.Zo p1 p2 (λz=>hx (r1.zQ.mp z)) (λz=>⟨.ref a,H,I,rfl,q1 (r2.zQ.mp z)⟩) (λz=>?_) (by rw[<-r1.length,<-r2.length];exact hz);refine⟨.ref s.heap.objs.size,_,I.laid (t':=s.toks) (o:=.tup (xs++ys)) (λb ob q=>zd _ q) (zg _) ?_,rfl,q2 (λw=>z (r2.zQ.mpr w)) _ (I.hok.fresh (zg _))⟩;exact⟨by rw[Zp];exact hz,_,r1.append r2,rM.new _ _⟩
end
end L2
namespace L2
open PySem PySem.Spec PyProof.Rows
def ixN (n:Nat) (i:Int):Option Nat:=if 0<=i then(if i < n then some i.toNat else none) else if -(n:Int)<=i then some (i+n).toNat else none
def FN {α:Type} (xs:List α) (i:Int):Option α:=(ixN xs.length i).bind λj=>xs[j]?
theorem Zw {n:Nat} {i:Int} {j:Nat} (h:ixN n i=some j):seqIndex? i n=some j/\j < n ∧ -(n:Int)<=i/\i < n:=by
 unfold ixN at h;by_cases h0:0<=i
 ·rw[zl h0] at h;by_cases h1:i < n
  ·rw[zl h1] at h;have e:i.toNat=j:=JU h;exact⟨by rw[seqIndex_of h0 h1,e],by omega,by omega,h1⟩
  ·rw[zw h1] at h;cases h
 ·rw[zw h0] at h;by_cases h1 : -(n:Int)<=i
  ·rw[zl h1] at h;have e:(i+n).toNat=j:=JU h;exact⟨by rw[seqIndex_neg (by omega) h1,e],by omega,h1,by omega⟩
  ·rw[zw h1] at h;cases h
theorem Hl {α:Type} {xs:List α} {i:Int} {v:α} (h:FN xs i=some v):∃ j,seqIndex? i xs.length=some j/\xs[j]?=some v/\j < xs.length ∧ -(xs.length:Int)<=i/\i < xs.length:=by
 unfold FN at h;cases e:ixN xs.length i with
 |none=>rw[e] at h;cases h
 |some j=>
  rw[e] at h;obtain⟨h1,h2,h3,h4⟩:=Zw e;exact⟨j,h1,h,h2,h3,h4⟩
def QM (b:Expr):Prop:=∀ o i,subscripted b false o i=operate [o,i] (getItem o i)
def Zx (X:Cx) (r:R2):Prop:=
 ∀ (value slice:Expr) (pins:List (Addr×Obj)) (s:Shared) (σ:St) (H:Hp) (x y:V) (v u:Value) (Q:VK),Inv X pins σ H s->RelV x v->RelV y u->r x y H Q →
  subscripted slice false v u=operate [v,u] (getItem v u)->wpAny (model X.prog X.w) X.A (subscriptTail value slice v u) (EP X pins σ Q) X.xe s
def MtR (X:Cx) (id:String) (r:V->List V->Hp->VK->Prop):Prop:=
 ∀ (pins:List (Addr×Obj)) (s:Shared) (σ:St) (H:Hp) (x:V) (xs:List V) (v:Value) (us:List Value) (Q:VK),Inv X pins σ H s->RelV x v->Vals xs us->r x xs H Q →
  wpAny (model X.prog X.w) X.A (call (.builtin id) (v::us)) (EP X pins σ Q) X.xe s
section
variable {X:Cx} {a b:Expr} {ta tb:TE} {pos:Pos}
theorem Zx.or {r r':R2} (h:Zx X r) (h':Zx X r'):Zx X (λx y H Q=>r x y H Q\/r' x y H Q):=by
 intro value slice pins s σ H x y v u Q I rx ry q hs;rcases q with q|q
 ·exact h value slice pins s σ H x y v u Q I rx ry q hs
 ·exact h' value slice pins s σ H x y v u Q I rx ry q hs
theorem afh {r:R2} (hr:Zx X r) (ha:PE X a ta) (hb:PE X b tb) (hs:QM b):PE X (.Subscript a b pos) (tOp r ta tb):=by
 intro pins s σ H Q I h;exact Subscript_ (acI ha hb I h λv u s2 x y H2 I2 rx ry q=>hr a b pins s2 σ H2 x y v u Q I2 rx ry q (hs _ _))
def afi (K:FG_):R2:=λx y H Q=>∃ p xs i v,x=.ref p/\y=.int i/\rP K H p xs/\FN xs i=some v/\Q v H
def afj (K:FG_):R2:=λx y H Q=>∃ p xs i v,x=.ref p/\y=.int i/\wW K H p xs/\FN xs i=some v/\Q v H
def afk:R2:=λx y H Q=>∃ z i c,x=.str z/\y=.int i/\z.length<=sizeLine/\FN z.cps.toList i=some c/\Q (.str ⟨#[c]⟩) H
theorem Zy:Zx X (afi X.K):=by
 intro value slice pins s σ H x y v u Q I rx ry h hs;obtain⟨p,xs,i,z,rfl,rfl,hq,he,q⟩:=h;cases rx;obtain⟨t,rfl⟩:=ry;obtain⟨its,r,pl,hz⟩:=I.list hq;obtain⟨j,h1,h2,h3,h4,h5⟩:=Hl he;obtain⟨w,ew,QJ⟩:=r.get h2;have hl:=r.length;have hn:=w5;have fin:EP X pins σ Q w s:=⟨z,H,I,QJ,q⟩;by_cases h0:0<=i
 ·have hj:i.toNat=j:=by
   rw[seqIndex_of h0 h5] at h1;exact JU h1
  exact item_listR pl.isList h0 (by omega) (by rw[hj];simpa using ew) fin hs
 ·have hj:(i+(its.toArray.size:Int)).toNat=j:=by
   rw[seqIndex_neg (by omega) h4] at h1;rw[zz,<-hl];exact JU h1
  exact subscriptTail_builtinR (x:=w) pl.isList.typeIs slot_list_getitem.lookup
   (wpAny_getItem_list_neg (Q:=λr s'=>r=w/\EP X pins σ Q r s') pl.isList (by omega) (by rw[zz]<;>omega) (by omega) (by rw[hj];simpa using ew) ⟨rfl,fin⟩) hs
theorem acX:Zx X (afj X.K):=by
 intro value slice pins s σ H x y v u Q I rx ry h hs;obtain⟨p,xs,i,z,rfl,rfl,hq,he,q⟩:=h;cases rx;obtain⟨t,rfl⟩:=ry;obtain⟨its,r,pl,hz⟩:=I.tuple hq;obtain⟨j,h1,h2,h3,h4,h5⟩:=Hl he;obtain⟨w,ew,QJ⟩:=r.get h2;have hl:=r.length;have hn:=w5;have fin:EP X pins σ Q w s:=⟨z,H,I,QJ,q⟩;exact subscriptTail_builtinR (x:=w) pl.typeIs slot_tuple_getitem.lookup
  (getItem_tuple (j:=j) (Q:=λr s'=>r=w/\EP X pins σ Q r s') pl (by omega) (by omega) (by rw[zz,<-hl];exact h1) (by simpa using ew) ⟨rfl,fin⟩) hs
theorem acY:Zx X afk:=by
 intro value slice pins s σ H x y v u Q I rx ry h hs;obtain⟨z,i,c,rfl,rfl,hz,he,q⟩:=h;obtain⟨t,rfl⟩:=rx;obtain⟨t',rfl⟩:=ry;obtain⟨j,h1,h2,h3,h4,h5⟩:=Hl he;have hl:z.cps.toList.length=z.length:=by simp[Str.length]
 rw[hl] at h1 h4 h5;have hn:=w5;exact tail_any (typeIs_str s z t) slot_str_getitem.lookup (getItem_str (c:=c) (by
  have e1:decide (i < -(2 ^ 63:Int))=false:=qa (by omega);have e2:decide (i>=2 ^ 63)=false:=qa (by omega);rw[e1,e2,Bool.or_false]) (by rw[h1];simpa using h2) ⟨.str ⟨#[c]⟩,H,I.tok _,⟨_,rfl⟩,q⟩) hs
def rIx (K:FG_):R2:=λx y H Q=>afi K x y H Q\/afj K x y H Q\/afk x y H Q
theorem acZ:Zx X (rIx X.K):=Zy.or (acX.or acY)
theorem Inv.lst {pins:List (Addr×Obj)} {σ:St} {H:Hp} {s:Shared} {p:Addr} {xs:List V} (I:Inv X pins σ H s) (h:H p=some (.lst xs)) :
  ∃ (its:List Value) (n:Nat),Vals xs its/\s.heap.get? p=some { cls:=.type "list", data:=.seq its.toArray n }/\xs.length<=sizeLine:=by
 obtain⟨z,its,n,r,e⟩:=I.hok p _ h;exact⟨its,n,r,e,z⟩
theorem Ho (lo hi:Option Int) (n:Nat):(sliceBounds lo hi none n).1=((HT.gn n 0 lo:Nat):Int)/\(sliceBounds lo hi none n).2.1=((HT.gn n n hi:Nat):Int)/\(sliceBounds lo hi none n).2.2=1:=by
 refine⟨?_,?_,rfl⟩
 ·cases lo with
  |none=>simp[sliceBounds,HT.gn]
  |some i=>
   simp only[sliceBounds,HT.gn,Option.getD_none,show(1:Int) > 0 by decide,qq];by_cases h:i < 0
   ·simp only[h,qq]<;>omega
   ·simp only[h,ZH]<;>omega
 ·cases hi with
  |none=>simp[sliceBounds,HT.gn]
  |some i=>
   simp only[sliceBounds,HT.gn,Option.getD_none,show(1:Int) > 0 by decide,qq];by_cases h:i < 0
   ·simp only[h,qq]<;>omega
   ·simp only[h,ZH]<;>omega
theorem Ea (its:List Value) (lo hi:Option Int):slicePick its.toArray lo hi none=((its.drop (HT.gn its.length 0 lo)).take (HT.gn its.length its.length hi - HT.gn its.length 0 lo)).toArray:=by
 obtain⟨h1,h2,h3⟩:=Ho lo hi its.toArray.size;unfold slicePick;rw[h1,h2,h3];simp only[sliceRange_one,pick_run,zz]<;>rfl
def ahr (K:FG_):V->Option Int->Option Int->Hp->VK->Prop:=λx lo hi H Q=>∃ a xs,x=.ref a/\rP K H a xs/\∀ p,H p=none->Q (.ref p) (upd H p (.lst (JR xs lo hi)))
theorem ZC:SlR X (ahr X.K):=by
 intro pins s σ H x v vl vu lo hi sl Q I rx hs pl pu h;obtain⟨a,xs,rfl,hx,q⟩:=h;cases rx;obtain⟨its,r,ht,hz⟩:=I.list hx;have hlen:=r.length;refine⟨"list", _,slot_list_getitem.lookup,ht.isList.typeIs,?_⟩;refine wpAny_getItem_list_slice ht.isList hs pl pu .none (by simp) ?_ (by rw[zz]<;>omega);rw[Ea,<-hlen];refine⟨.ref s.heap.objs.size,_,I.laid (t':=s.toks) (o:=.lst (JR xs lo hi)) (λb ob q=>zd _ q) (zg _) ?_,rfl,q _ (I.hok.fresh (zg _))⟩;exact⟨Zs (yD xs lo hi) hz,_,0,(r.drop (HT.gn xs.length 0 lo)).take (HT.gn xs.length xs.length hi - HT.gn xs.length 0 lo),zt _ rfl⟩
def qU:V->Bool
 |.non=>true
 |.bl _=>true
 |.int _=>true
 |.str _=>true
 |_=>false
def ZD:V->V->Bool
 |.non,.non=>true
 |.bl a,.bl b=>a==b
 |.bl a,.int b=>(if a then 1 else 0)==b
 |.int a,.bl b=>a==(if b then 1 else 0)
 |.int a,.int b=>a==b
 |.str a,.str b=>a==b
 |_,_=>false
theorem ac0 {A:Around} {s:Shared} {y x:V} {u v:Value} (ry:RelV y u) (rx:RelV x v) (fy:qU y=true) (fx:qU x=true):SeqAt.EqAt A s u v (ZD y x):=by
 cases y with
 |non=>
  cases ry;cases x with
  |non=>cases rx;exact SeqAt.EqAt.same _
  |bl b=>cases rx;exact SeqAt.EqAt.none_bool b
  |int b=>obtain⟨t,rfl⟩:=rx;exact SeqAt.EqAt.none_int b t
  |str b=>obtain⟨t,rfl⟩:=rx;exact SeqAt.EqAt.none_str b t
  |_=>exact absurd (show false=true from fx) ZA
 |bl a=>
  cases ry;cases x with
  |non=>cases rx;exact SeqAt.EqAt.bool_none a
  |bl b=>cases rx;exact SeqAt.EqAt.bool_bool a b
  |int b=>obtain⟨t,rfl⟩:=rx;exact SeqAt.EqAt.bool_int a b t
  |str b=>obtain⟨t,rfl⟩:=rx;exact SeqAt.EqAt.bool_str a b t
  |_=>exact absurd (show false=true from fx) ZA
 |int a=>
  obtain⟨t',rfl⟩:=ry;cases x with
  |non=>cases rx;exact SeqAt.EqAt.int_none a t'
  |bl b=>cases rx;exact SeqAt.EqAt.int_bool a t' b
  |int b=>obtain⟨t,rfl⟩:=rx;exact SeqAt.EqAt.int_int a t' b t
  |str b=>obtain⟨t,rfl⟩:=rx;exact SeqAt.EqAt.int_str a t' b t
  |_=>exact absurd (show false=true from fx) ZA
 |str a=>
  obtain⟨t',rfl⟩:=ry;cases x with
  |non=>cases rx;exact SeqAt.EqAt.str_none a t'
  |bl b=>cases rx;exact SeqAt.EqAt.str_bool a t' b
  |int b=>obtain⟨t,rfl⟩:=rx;exact SeqAt.EqAt.str_int a t' b t
  |str b=>obtain⟨t,rfl⟩:=rx;exact SeqAt.EqAt.str_str a t' b t
  |_=>exact absurd (show false=true from fx) ZA
 |_=>exact absurd (show false=true from fy) ZA
def NZ (x:V) (u:Value):Bool:=match u with
 |.none=>ZD .non x
 |.bool b=>ZD (.bl b) x
 |.int i _=>ZD (.int i) x
 |.str z _=>ZD (.str z) x
 |_=>false
theorem Vz {x y:V} {u:Value} (r:RelV y u) (f:qU y=true):NZ x u=ZD y x:=by
 cases y with
 |non=>cases r;rfl
 |bl b=>cases r;rfl
 |int i=>obtain⟨t,rfl⟩:=r;rfl
 |str z=>obtain⟨t,rfl⟩:=r;rfl
 |_=>exact absurd (show false=true from f) ZA
theorem vJ {x:V}:∀ {xs:List V} {us:List Value},Vals xs us->xs.all qU=true->us.any (NZ x)=xs.any λy=>ZD y x
 |_,_,.nil,_=>rfl
 |y::xs,u::us,.cons r t,f=>by
  rw[kC,Zz] at f;rw[kc,kc,Vz r f.1,vJ t f.2]
theorem rR {A:Around} {s:Shared} {x:V} {v:Value} (rx:RelV x v) (fx:qU x=true):∀ {xs:List V} {us:List Value},Vals xs us->xs.all qU=true->∀ u∈us,SeqAt.EqAt A s u v (NZ x u)
 |_,_,.nil,_=>λu hu=>by cases hu
 |y::xs,u::us,.cons r t,f=>λu' hu=>by
  rw[kC,Zz] at f;rcases List.mem_cons.mp hu with rfl|hu
  ·rw[Vz r f.1];exact ac0 r rx f.1 fx
  ·exact rR rx fx t f.2 u' hu
def inV (x:V) (xs:List V):Bool:=xs.any λy=>ZD y x
def rIn (K:FG_) (neg:Bool):R2:=λx y H Q=>∃ p xs,y=.ref p/\(rP K H p xs\/wW K H p xs)/\qU x=true/\xs.all qU=true/\Q (.bl (if neg then !inV x xs else inV x xs)) H
theorem S7:uU X (compareOp .In) (rIn X.K false):=by
 intro pins s σ H x y v u Q I rx ry h;obtain⟨p,xs,rfl,hq,fx,fs,q⟩:=h;cases ry;rcases hq with hq|hq
 ·obtain⟨its,r,pl,hz⟩:=I.list hq;refine SeqAt.in_listAt (NZ x) pl.isList (λw hw=>rR rx fx r fs w (by simpa using hw)) ⟨.bl _,H,I,rfl,?_⟩;rw[show its.toArray.any (NZ x)=its.any (NZ x) by simp,vJ r fs];exact q
 ·obtain⟨its,r,pl,hz⟩:=I.tuple hq;refine SeqAt.in_tupleAt (NZ x) pl (λw hw=>rR rx fx r fs w (by simpa using hw)) ⟨.bl _,H,I,rfl,?_⟩;rw[show its.toArray.any (NZ x)=its.any (NZ x) by simp,vJ r fs];exact q
theorem Hq:uU X (compareOp .NotIn) (rIn X.K true):=by
 intro pins s σ H x y v u Q I rx ry h;obtain⟨p,xs,rfl,hq,fx,fs,q⟩:=h;cases ry;rcases hq with hq|hq
 ·obtain⟨its,r,pl,hz⟩:=I.list hq;refine SeqAt.notIn_listAt (NZ x) pl.isList (λw hw=>rR rx fx r fs w (by simpa using hw)) ⟨.bl _,H,I,rfl,?_⟩;rw[show its.toArray.any (NZ x)=its.any (NZ x) by simp,vJ r fs];exact q
 ·obtain⟨its,r,pl,hz⟩:=I.tuple hq;refine SeqAt.notIn_tupleAt (NZ x) pl (λw hw=>rR rx fx r fs w (by simpa using hw)) ⟨.bl _,H,I,rfl,?_⟩;rw[show its.toArray.any (NZ x)=its.any (NZ x) by simp,vJ r fs];exact q
theorem Hr:uU X (compareOp .NotIn) (λx y H Q=>∃ i j,x=.str i/\y=.str j/\Q (.bl (!(!(Builtin.Str.occurrences j i 0 j.length 1).isEmpty))) H):=by
 intro pins s σ H x y v u Q I rx ry h;obtain⟨i,j,rfl,rfl,q⟩:=h;obtain⟨t,rfl⟩:=rx;obtain⟨t',rfl⟩:=ry;exact notIn_str ⟨.bl _,H,I,rfl,q⟩
theorem Ht:fB X (.builtin "len") (λxs H Q=>∃ p ys,xs=[.ref p]/\(rP X.K H p ys\/wW X.K H p ys)/\Q (.int ys.length) H):=by
 intro pins s σ H xs us Q I r h;obtain⟨p,ys,rfl,hq,q⟩:=h;obtain⟨u,rfl,rx⟩:=vals1 r;cases rx;have hn:=w5;rcases hq with hq|hq
 ·obtain⟨its,r',pl,hz⟩:=I.list hq;have hlen:=r'.length;exact Calls.call_len_list pl.isList (by simp only[zz]<;>omega) ⟨.int ys.length,H,I.tok _,⟨s.toks+1,by rw[zz,hlen]⟩,q⟩
 ·obtain⟨its,r',pl,hz⟩:=I.tuple hq;have hlen:=r'.length;exact len_tuple pl (by simp only[zz]<;>omega) ⟨.int ys.length,H,I.tok _,⟨s.toks+1,by rw[zz,hlen]⟩,q⟩
theorem Hu:fB X (.builtin "len") (λxs H Q=>∃ z,xs=[.str z]/\z.length<=sizeLine/\Q (.int z.length) H):=by
 intro pins s σ H xs us Q I r h;obtain⟨z,rfl,hz,q⟩:=h;obtain⟨u,rfl,t,rfl⟩:=vals1 r;have hn:=w5;exact len_str (by omega) ⟨.int z.length,H,I.tok _,⟨_,rfl⟩,q⟩
theorem fB.or {f:Value} {r r':List V->Hp->VK->Prop} (h:fB X f r) (h':fB X f r'):fB X f (λxs H Q=>r xs H Q\/r' xs H Q):=by
 intro pins s σ H xs us Q I rs q;rcases q with q|q
 ·exact h pins s σ H xs us Q I rs q
 ·exact h' pins s σ H xs us Q I rs q
theorem Eb:fB X (.type "tuple") (λxs H Q=>∃ p ys,xs=[.ref p]/\((rP X.K H p ys/\∀ l,H l=none->Q (.ref l) (upd H l (.tup ys)))\/(wW X.K H p ys/\Q (.ref p) H))):=by
 intro pins s σ H xs us Q I r h;obtain⟨p,ys,rfl,h⟩:=h;obtain⟨u,rfl,rx⟩:=vals1 r;cases rx;rcases h with⟨hq,q⟩|⟨hq,q⟩
 ·obtain⟨its,r',pl,hz⟩:=I.list hq;have hlen:=r'.length;refine call_tuple_list pl.isList (λh' kp=>?_) (by simp only[zz]<;>omega);have I1:Inv X pins σ H { s with heap:=h' }:=I.kept (t':=s.toks) kp;have I2:Inv X pins σ (upd H h'.objs.size (.tup ys)) { s with heap:=h'.push { cls:=.type "tuple", data:=.seq its.toArray } }:=
   I1.laid (t':=s.toks) (λb o e=>zd _ e) (zg _) (show eY X.prog X.w _ _ _ (.tup ys) from⟨hz,its,r',rM.new _ _⟩)
  exact⟨.ref h'.objs.size,_,I2,rfl,q _ (I1.hok.fresh (zg _))⟩
 ·obtain⟨its,r',pl,hz⟩:=I.tuple hq;exact call_tuple_same pl ⟨.ref p,H,I,rfl,q⟩
def tyV (K:FG_) (T:String) (x:V) (H:Hp):Prop:=match x with
 |.str _=>T = "str"
 |.int _=>T = "int"
 |.ref p=>(T = "list" ∧ ∃ xs,rP K H p xs)\/(T = "tuple" ∧ ∃ o,K.lookup p=some o/\o.cls=.type "tuple" ∧ o.dict=none) ∨
   (T = "dict" ∧ ((∃ kvs,H p=some (.dK kvs))\/∃ kvs,H p=some (.dT kvs)))\/(T = "set" ∧ ∃ S n,H p=some (.set S n))
 |_=>False
theorem ac1 {pins:List (Addr×Obj)} {σ:St} {H:Hp} {s:Shared} {T:String} {x:V} {v:Value} (I:Inv X pins σ H s) (r:RelV x v) (ty:tyV X.K T x H) :
  s.TypeIs v T/\∀ a,v=.ref a->∃ ob,s.heap.get? a=some ob/\ob.dict=none:=by
 cases x with
 |str z=>
  obtain⟨t,rfl⟩:=r;cases(show T = "str" from ty);exact⟨typeIs_str s z t,λ_ e=>nomatch e⟩
 |int i=>
  obtain⟨t,rfl⟩:=r;cases(show T = "int" from ty);exact⟨typeIs_int s i t,λ_ e=>nomatch e⟩
 |ref p=>
  cases r;rcases ty with⟨rfl,xs,hq⟩|⟨rfl,o,hk,hc,hd⟩|⟨rfl,hk⟩|⟨rfl,S,n,hk⟩
  ·obtain⟨its,_,pl,_⟩:=I.list hq;refine⟨pl.isList.typeIs,λa e=>?_⟩;cases e;obtain⟨o,n,e,c,hd,_⟩:=pl;exact⟨o,e,hd⟩
  ·refine⟨⟨o,I.Aj p o hk,hc⟩,λa e=>?_⟩;cases e;exact⟨o,I.Aj _ o hk,hd⟩
  ·have z:∃ o,s.heap.get? p=some o/\o.ExactDict:=by
    rcases hk with⟨kvs,hk⟩|⟨kvs,hk⟩
    ·obtain⟨_,_,_,_,o,_,_,e,ex,_⟩:=I.hok p _ hk;exact⟨o,e,ex⟩
    ·obtain⟨_,_,_,_,o,_,_,e,ex,_⟩:=I.hok p _ hk;exact⟨o,e,ex⟩
   obtain⟨o,e,ex⟩:=z;refine⟨⟨o,e,ex.1⟩,λa e2=>?_⟩;cases e2;exact⟨o,e,ex.2.1⟩
  ·obtain⟨o,_,_,_,e,ex,_⟩:=I.hok p _ hk;refine⟨⟨o,e,ex.1⟩,λa e2=>?_⟩;cases e2;exact⟨o,e,ex.2.1⟩
 |_=>exact False.elim ty
def tBM (K:FG_) (T:String) (r:V->List V->Hp->VK->Prop) (to:TE) (t:TA):TE:=λσ H Q=>to σ H λx H1=>tyV K T x H1/\t σ H1 λxs H2=>r x xs H2 Q
variable {o e:Expr} {es:List Expr} {to:TE} {t:TA} {name:Str} {apos cpos:Pos} {T id:String} {r:V->List V->Hp->VK->Prop}
theorem abO (pa:PlainAttrs T) (slot:Slot T name id) (hty:typeOf (.builtin id)=pure (.type "method_descriptor")) (hm:MtR X id r) (ho:PE X o to) (ha:PA X (e::es) t)
  (hbase:attributeBase o name X.env (eval o X.env)=eval o X.env:=by rfl)
  (hfew:((backTo cpos (starEach (e::es) X.env)).all (λx=>!x.1)&&(backToKw cpos (keywordEach [] X.env)).all (λx=>x.1.isSome)
   && decide ((e::es).length+([]:List Keyword).length+(if([]:List Keyword).isEmpty then 0 else 1) < 30))=true:=by rfl)
  (hline:(apos.endLine==cpos.line)=true:=by rfl) (hs:starEach (e::es) X.env=(false,eval e X.env)::starEach es X.env:=by rfl) (hplain:(backTo cpos (starEach es X.env)).any (·.1)=false:=by rfl) :
  PE X (.Call (.Attribute o name apos) (e::es) [] cpos) (tBM X.K T r to t):=by
 intro pins s σ H Q I h;refine wpAny_Call_method_late hbase hfew hline rfl (gF (ho pins s σ H _ I h) λv s1 ⟨x,H1,I1,r1,ty,q1⟩=>?_);obtain⟨h1,h2⟩:=ac1 I1 r1 ty;refine⟨T,id,pa,slot,hty,h1,h2,?_⟩;have hA:=ha cpos pins s1 σ H1 _ I1 q1;rw[hs] at hA ⊢;refine Calls.callWith_builtin (by show(false||(backTo cpos (starEach es X.env)).any (·.1))=false;rw[hplain]<;>rfl) (Calls.evalArgs_plain ?_);exact gF hA λus s2 ⟨vs,H2,I2,r2,q2⟩=>hm pins s2 σ H2 x vs v us Q I2 r1 r2 q2
end
end L2
namespace L2
open PySem PySem.Spec PyProof.Rows
def MtM (X:Cx) (id:String) (r:V->List V->Hp->VK->Prop):Prop:=
 ∀ (pins:List (Addr×Obj)) (s:Shared) (σ:St) (H:Hp) (x:V) (xs:List V) (v:Value) (us:List Value) (Q:VK),Inv X pins σ H s->RelV x v->Vals xs us->r x xs H Q →
  wpAny (model X.prog X.w) X.A (call (.builtin id) (v::us)) (EP X pins σ Q) X.xe s
theorem Vals.one:∀ {x:V} {us:List Value},Vals [x] us->∃ u,us=[u]/\RelV x u
 |_,_,.cons r .nil=>⟨_,rfl,r⟩
theorem Vals.two:∀ {x y:V} {us:List Value},Vals [x,y] us->∃ u v,us=[u,v]/\RelV x u/\RelV y v
 |_,_,_,.cons r (.cons q .nil)=>⟨_,_,rfl,r,q⟩
section
variable {X:Cx} {pins:List (Addr×Obj)} {σ:St} {H:Hp} {s:Shared} {l b:Addr} {xs ys zs:List V}
theorem Inv.ac2 {its its':List Value} {n:Nat} {f:Array Value->Array Value} {t':Nat} (I:Inv X pins σ H s) (hH:H l=some (.lst xs))
  (e:s.heap.get? l=some { cls:=.type "list", data:=.seq its.toArray n }) (hf:f its.toArray=its'.toArray) (hv:Vals ys its') (hz:ys.length<=sizeLine) :
  Inv X pins σ (upd H l (.lst ys)) { s with heap:=s.heap.update l (Obj.mapSeq f),toks:=t' }:=by
 have q:=PySem.IsL.update e f;rw[hf] at q;refine I.write (x:=l) (e:=l) (by rw[hH];exact trivial) (.inl rfl) (λb' u hb hu=>(Qr s.heap (Obj.mapSeq f) (js hb)).trans hu) ⟨_,q⟩ ?_;exact⟨hz,its',_,hv,q⟩
theorem Inv.ahs {its:List Value} {t':Nat} (I:Inv X pins σ H s) (hv:Vals ys its) (hz:ys.length<=sizeLine) :
  Inv X pins σ (upd H s.heap.objs.size (.lst ys)) { s with heap:=s.heap.push { cls:=.type "list", data:=.seq its.toArray },toks:=t' }:=
 I.laid (λ_ _ q=>zd _ q) (zg _) ⟨hz,its,0,hv,zt _ rfl⟩
theorem Inv.fresh (I:Inv X pins σ H s):H s.heap.objs.size=none:=I.hok.fresh (zg _)
theorem Inv.ac3 (I:Inv X pins σ H s) (hH:H l=some (.lst xs)):xs.length<=sizeLine/\∃ (its:List Value) (n:Nat),Vals xs its/\xs.length=its.length/\s.heap.get? l=some { cls:=.type "list", data:=.seq its.toArray n }:=by
 obtain⟨z,its,n,r,e⟩:=I.hok l _ hH;exact⟨z,its,n,r,r.length,e⟩
end
section
variable {X:Cx}
def ZF:V->List V->Hp->VK->Prop:=λx vs H Q=>∃ l xs y,x=.ref l/\vs=[y]/\H l=some (.lst xs)/\xs.length < sizeLine/\Q .non (upd H l (.lst (xs++[y])))
theorem FP:MtM X "list.append" ZF:=by
 intro pins s σ H x vs v us Q I rx rv h;obtain⟨l,xs,y,rfl,rfl,hH,hz,q⟩:=h;cases rx;obtain⟨u,rfl,ru⟩:=rv.one;obtain⟨z,its,n,r,hl,e⟩:=I.ac3 hH;refine call_meets F.slot_list_append ⟨_,e,rfl⟩ F.entry_list_append (F.args_list_append_2 _ _) (PySem.list_append l its.toArray n u (by rw[zz];omega)) ⟨e,?_⟩;refine⟨.non,_,I.ac2 (its':=its++[u]) hH e (by simp) (r.append (.cons ru .nil)) ?_,rfl,q⟩;rw[Zp,List.length_singleton];omega
def aht:R2:=λx y H Q=>∃ l b xs zs,x=.ref l/\y=.ref b/\H l=some (.lst xs)/\H b=some (.lst zs)/\xs.length+zs.length<=sizeLine/\∀ p,H p=none->Q (.ref p) (upd H p (.lst (xs++zs)))
theorem ac4:uU X (binaryOp .Add) aht:=by
 intro pins s σ H x y v u Q I rx ry h;obtain⟨l,b,xs,zs,rfl,rfl,hH,hB,hz,q⟩:=h;cases rx;cases ry;obtain⟨z,its,n,r,hl,e⟩:=I.ac3 hH;obtain⟨z2,its2,n2,r2,hl2,e2⟩:=I.ac3 hB;refine PySem.P.add_list e e2 ?_ (by rw[zz,zz];omega);have ea:its.toArray++its2.toArray=(its++its2).toArray:=by simp
 rw[ea];exact⟨.ref _,_,I.ahs (t':=s.toks) (r.append r2) (by rw[Zp];omega),rfl,q _ I.fresh⟩
end
section
variable {prog:Program} {w:World} {A:Around} {E:VP_} {s:Shared}
end
section
variable {X:Cx}
end
end L2
namespace L2
open PySem PySem.Spec PyProof.Rows
section
variable {κ:Type} [DecidableEq κ]
def Ay (kvs:List (κ×V)) (k:κ):Option V:=(kvs.find? λkv=>decide (kv.1=k)).map (·.2)
def putK (kvs:List (κ×V)) (k:κ) (v:V):List (κ×V):=
 if(kvs.any λkv=>decide (kv.1=k))=true then kvs.map (λkv=>if kv.1=k then(kv.1,v) else kv) else kvs++[(k,v)]
theorem vK {p:κ×V} {r:List (κ×V)} {k:κ} (e:p.1=k):Ay (p::r) k=some p.2:=by simp[Ay,Q3,e]
theorem vL {p:κ×V} {r:List (κ×V)} {k:κ} (e:¬ p.1=k):Ay (p::r) k=Ay r k:=by simp[Ay,Q3,e]
theorem JT (k:κ):∀ kvs:List (κ×V),(kvs.any λkv=>decide (kv.1=k))=(Ay kvs k).isSome
 |[]=>rfl
 |p::r=>by
  rw[kc];by_cases e:p.1=k
  ·simp only[vK e,QN e,Bool.true_or,Option.isSome_some]
  ·rw[vL e,qa e,Bool.false_or];exact JT k r
theorem nR (kvs:List (κ×V)) (k:κ) (v:V):(putK kvs k v).length<=kvs.length+1:=by
 unfold putK;split
 ·rw[zh];omega
 ·rw[Zp,qS,List.length_nil];omega
theorem yV.S8 {o:Option V} {u:Option Value} (r:yV o u):o.isSome=u.isSome:=by
 cases o with
 |none=>cases u with
  |none=>rfl
  |some _=>exact(show False from r).elim
 |some _=>cases u with
  |none=>exact(show False from r).elim
  |some _=>rfl
theorem KV.val {kvs:List (κ×V)} {vs:List (κ×Value)} (r:KV kvs vs) (k:κ):yV (Ay kvs k) (valueAt vs k):=by
 unfold KV at r
 induction r with
 |nil=>exact True.intro
 |@cons p q ps qs h t ih=>
  obtain⟨h1,h2⟩:=h;by_cases e:p.1=k
  ·have e':q.1=k:=h1.symm.trans e;have b:valueAt (q::qs) k=some q.2:=by simp[valueAt,Q3,e']
   rw[vK e,b];exact h2
  ·have e':¬ q.1=k:=λz=>e (h1.trans z);have b:valueAt (q::qs) k=valueAt qs k:=by simp[valueAt,Q3,e']
   rw[vL e,b];exact ih
theorem KV.any {kvs:List (κ×V)} {vs:List (κ×Value)} (r:KV kvs vs) (k:κ):(kvs.any λkv=>decide (kv.1=k))=vs.any λkv=>decide (kv.1=k):=by
 unfold KV at r
 induction r with
 |nil=>rfl
 |cons h t ih=>rw[kc,kc,ih,h.1]
theorem KV.repl {kvs:List (κ×V)} {vs:List (κ×Value)} (r:KV kvs vs) (k:κ) {y:V} {u:Value} (ry:RelV y u) :
  KV (kvs.map λkv=>if kv.1=k then(kv.1,y) else kv) (vs.map λkv=>if kv.1=k then(kv.1,u) else kv):=by
 unfold KV at r ⊢
 induction r with
 |nil=>exact .nil
 |@cons p q ps qs h t ih=>
  rw[zo,zo];refine .cons ?_ ih;obtain⟨h1,h2⟩:=h;by_cases e:p.1=k
  ·rw[zl e,zl (h1.symm.trans e)];exact⟨h1,ry⟩
  ·rw[zw e,zw (λz=>e (h1.trans z))];exact⟨h1,h2⟩
theorem KV.put {kvs:List (κ×V)} {vs:List (κ×Value)} (r:KV kvs vs) (k:κ) {y:V} {u:Value} (ry:RelV y u):KV (putK kvs k y) (stored vs k u):=by
 unfold putK stored;rw[r.any k];by_cases e:(vs.any λkv=>decide (kv.1=k))=true
 ·rw[zl e,zl e];exact r.repl k ry
 ·rw[zw e,zw e];exact Paired.snoc r ⟨rfl,ry⟩
theorem KV.length {kvs:List (κ×V)} {vs:List (κ×Value)} (r:KV kvs vs):kvs.length=vs.length:=Paired.length r
end
theorem JV {P:Program} {w:World} {k:Key} {u:Value} (r:RelV (kV k) u):(aX P w).is k u=true:=by
 cases k with
 |inl i=>obtain⟨t,e⟩:=(show ∃ t,u=Value.int i t from r);subst e;exact JL P w i t
 |inr x=>obtain⟨t,e⟩:=(show ∃ t,u=Value.str x t from r);subst e;exact JM P w x t
theorem FQ {P:Program} {w:World}:∀ {ks:List Key} {us:List Value},Vals (ks.map kV) us->ItemsAre (aX P w) ks us
 |[],_,r=>by rw[ku] at r;cases r;exact .nil
 |k::ks,_,r=>by
  rw[zo] at r;cases r with
  |cons h t=>exact .cons (JV h) (FQ t)
abbrev KT (H:Hp):List (List Key×V)->List (List Key×Addr×Value)->Prop:=Paired λp q=>p.1=q.1/\H q.2.1=some (.tup (p.1.map kV))/\RelV p.2 q.2.2
theorem KT.val {H:Hp} {kvs:List (List Key×V)} {xs:List (List Key×Addr×Value)} (r:KT H kvs xs) (k:List Key):yV (Ay kvs k) ((atKey xs k).map (·.2)):=by
 induction r with
 |nil=>exact True.intro
 |@cons p q ps qs h t ih=>
  obtain⟨h1,_,h2⟩:=h;by_cases e:p.1=k
  ·have e':q.1=k:=h1.symm.trans e;have b:atKey (q::qs) k=some q.2:=by simp[atKey,Q3,e']
   rw[vK e,b];exact h2
  ·have e':¬ q.1=k:=λz=>e (h1.trans z);have b:atKey (q::qs) k=atKey qs k:=by simp[atKey,Q3,e']
   rw[vL e,b];exact ih
theorem KT.repl {H:Hp} {kvs:List (List Key×V)} {xs:List (List Key×Addr×Value)} (r:KT H kvs xs) (k:List Key) {y:V} {u:Value} (ry:RelV y u) :
  KT H (kvs.map λkv=>if kv.1=k then(kv.1,y) else kv) (xs.map (putAt k u)):=by
 induction r with
 |nil=>exact .nil
 |@cons p q ps qs h t ih=>
  rw[zo,zo];refine .cons ?_ ih;obtain⟨h1,h2,h3⟩:=h;unfold putAt;by_cases e:p.1=k
  ·rw[zl e,zl (h1.symm.trans e)];exact⟨h1,h2,ry⟩
  ·rw[zw e,zw (λz=>e (h1.trans z))];exact⟨h1,h2,h3⟩
theorem KT.put {H:Hp} {kvs:List (List Key×V)} {xs:List (List Key×Addr×Value)} (r:KT H kvs xs) (k:List Key) {b:Addr} {y:V} {u:Value} (hb:H b=some (.tup (k.map kV))) (ry:RelV y u) :
  KT H (putK kvs k y) (storedH xs k b u):=by
 have e:(kvs.any λkv=>decide (kv.1=k))=(atKey xs k).isSome:=by
  rw[JT,(r.val k).S8,Option.isSome_map]
 unfold putK storedH;rw[e];by_cases q:(atKey xs k).isSome=true
 ·rw[zl q,zl q];exact r.repl k ry
 ·rw[zw q,zw q];exact Paired.snoc r ⟨rfl,hb,ry⟩
theorem KT.keeps {H H':Hp} {kvs:List (List Key×V)} {xs:List (List Key×Addr×Value)} (r:KT H kvs xs) (ht:∀ b ys,H b=some (.tup ys)->H' b=some (.tup ys)):KT H' kvs xs:=
 Paired.Zb r λ_ _ z=>⟨z.1,ht _ _ z.2.1,z.2.2⟩
section
variable {P:Program} {w:World} {H:Hp} {h:Heap} {a:Addr}
theorem abP {u:HO} (ok:rN P w H h) (e:Rd H a u):eY P w H h a u:=e.ok ok
theorem rT {kvs:List (Key×V)} (ok:rN P w H h) (e:Rd H a (.dK kvs)):kvs.length<=sizeLine/\(a==sysModules)=false/\∃ vs,KV kvs vs/\h.DictOf (aX P w) a vs:=
 show eY P w H h a (.dK kvs) from abP ok e
theorem abQ {kvs:List (Key×V)} (ok:rN P w H h) (e:H a=some (.dK kvs)):kvs.length<=sizeLine/\(a==sysModules)=false/\∃ vs,KV kvs vs/\h.DictOf (aX P w) a vs:=rT ok (.inl e)
theorem N5 {ks:List Key} (ok:rN P w H h) (e:H a=some (.tup (ks.map kV))):(tupleKind (aX P w)).is h ks a:=by
 obtain⟨_,its,r,o,h1,h2,⟨n,h3⟩,_⟩:=(show eY P w H h a (.tup (ks.map kV)) from ok a _ e);exact⟨o,its.toArray,n,h1,h2,h3,by simpa using FQ r⟩
theorem VB {kvs:List (List Key×V)} (ok:rN P w H h) (e:Rd H a (.dT kvs)):kvs.length<=sizeLine/\(a==sysModules)=false ∧
  ∃ xs,KT H kvs xs/\h.DictOfH (tupleKind (aX P w)) a xs:=by
 obtain⟨z,y,xs,r,o,es,ep,h1,h2,h3,h4,h5⟩:=(show eY P w H h a (.dT kvs) from abP ok e);refine⟨z,y,xs,r,o,es,ep,h1,h2,h3,h4,λx hx=>?_,h5⟩;have all:∀ {l:List (List Key×V)} {m:List (List Key×Addr×Value)},KT H l m->∀ x∈m,(tupleKind (aX P w)).is h x.1 x.2.1:=by
  intro l m q
  induction q with
  |nil=>intro x hx;exact nomatch hx
  |@cons p q ps qs hq t ih=>
   intro x hx;rcases List.mem_cons.mp hx with e|hx
   ·subst e;exact N5 ok (by rw[<-hq.1];exact hq.2.1)
   ·exact ih x hx
 exact all r x hx
theorem afl {kvs:List (List Key×V)} (ok:rN P w H h) (e:H a=some (.dT kvs)):kvs.length<=sizeLine/\(a==sysModules)=false ∧
  ∃ xs,KT H kvs xs/\h.DictOfH (tupleKind (aX P w)) a xs:=VB ok (.inl e)
end
def ac5 (H:Hp) (a:Addr) (y:V) (r:Option V):Prop:=
 (∃ kvs k,Rd H a (.dK kvs)/\y=kV k/\r=Ay kvs k)\/∃ kvs k b,Rd H a (.dT kvs)/\y=.ref b/\H b=some (.tup (k.map kV))/\r=Ay kvs k
def VD (H:Hp) (a:Addr) (y v:V) (H':Hp):Prop:=
 (∃ kvs k,H a=some (.dK kvs)/\y=kV k/\kvs.length < sizeLine/\H'=upd H a (.dK (putK kvs k v))) ∨
 ∃ kvs k b,H a=some (.dT kvs)/\y=.ref b/\H b=some (.tup (k.map kV))/\kvs.length < sizeLine/\H'=upd H a (.dT (putK kvs k v))
theorem VD.k {H:Hp} {a:Addr} {kvs:List (Key×V)} {k:Key} {v:V} (e:H a=some (.dK kvs)) (hl:kvs.length < sizeLine):VD H a (kV k) v (upd H a (.dK (putK kvs k v))):=.inl ⟨kvs,k,e,rfl,hl,rfl⟩
section
variable {X:Cx} {pins:List (Addr×Obj)} {σ:St} {H:Hp} {s:Shared} {a:Addr} {y v:V} {u r:Value} {o:Option V} {A:Around} {E:VP_}
theorem Inv.big (I:Inv X pins σ H s):sysModules < s.heap.objs.size:=by
 have h:mainGlobals < s.heap.objs.size:=(I.mod.glob.keeps I.bk).lt;exact Nat.lt_trans (by decide) h
theorem S9 {Q:VP_} (hu:A.units+1 < cLine) (I:Inv X pins σ H s) (g:ac5 H a y (some v)) (ry:RelV y u) (h:∀ w' s',Inv X pins σ H s'->RelV v w'->Q w' s') :
  wpAny (model X.prog X.w) A (getItem (.ref a) u) Q E s:=by
 rcases g with⟨kvs,k,e,ey,l⟩|⟨kvs,k,b,e,ey,eb,l⟩
 ·subst ey;obtain⟨z,hd,vs,rel,dd⟩:=rT I.hok e;obtain⟨w',hw,QJ⟩:=yV.some_of (v:=v) (o:=valueAt vs k) (by rw[l];exact rel.val k);exact wpAny_getItem_of (JV ry) dd.mapOf hw (h w' _ (I.tok _) QJ)
 ·subst ey;cases(show u=Value.ref b from ry);obtain⟨z,hd,xs,rel,dd⟩:=VB I.hok e;obtain⟨w',hw,QJ⟩:=yV.some_of (v:=v) (o:=(atKey xs k).map (·.2)) (by rw[l];exact rel.val k);obtain⟨p,hp,hp2⟩:=Option.map_eq_some_iff.mp hw;refine wpAny_getItem_heap (tupleKind_room_in1 hu) (N5 I.hok eb) dd hp ?_;rw[hp2];exact h w' _ (I.tok _) QJ
theorem Hv {h':Heap} {t':Nat} {ob:HO} (I:Inv X pins σ H s) (mu:Mut (H a)) (hs:Heap.SameBut a s.heap h') (he:∃ q,h'.get? a=some q) (new:eY X.prog X.w (upd H a ob) h' a ob) :
  Inv X pins σ (upd H a ob) { s with heap:=h',toks:=t' }:=
 I.write (x:=a) (e:=a) mu (.inl rfl) (λb q hb z=>(hs.2 b hb).trans z) he new
theorem VF {P:Program} {w:World} {H':Hp} {h':Heap} {kvs:List (Key×V)} {vs:List (Key×Value)} (z:kvs.length<=sizeLine) (hd:(a==sysModules)=false) (rel:KV kvs vs) (dd:h'.DictOf (aX P w) a vs) :
  eY P w H' h' a (.dK kvs):=⟨z,hd,vs,rel,dd⟩
theorem Tc {H':Hp} {Q:Unit->Shared->Prop} (hu:A.units+1 < cLine) (I:Inv X pins σ H s) (g:VD H a y v H') (ry:RelV y u) (rv:RelV v r) (h:∀ s',Inv X pins σ H' s'->Q () s') :
  wpAny (model X.prog X.w) A (setItem (.ref a) u r) Q E s:=by
 rcases g with⟨kvs,k,e,ey,l,eH⟩|⟨kvs,k,b,e,ey,eb,l,eH⟩
 ·subst ey eH;obtain⟨z,hd,vs,rel,dd⟩:=abQ I.hok e;have hz:vs.length<=sizeLine:=by rw[<-rel.length];exact z
  have hl:(putK kvs k v).length<=sizeLine:=by have:=nR kvs k v;omega
  refine wpAny_setItem_pairs (hsz:=hz) (JV ry) dd λh' dd' hs=>h _ ?_;have he:∃ q,h'.get? a=some q:=let ⟨q,_,_,hq,_⟩:=dd';⟨q,hq⟩;exact Hv I (by rw[e];exact True.intro) hs he (VF hl hd (rel.put k rv) dd')
 ·subst ey eH;cases(show u=Value.ref b from ry);obtain⟨z,hd,xs,rel,dd⟩:=afl I.hok e;have hz:xs.length<=sizeLine:=by rw[<-Paired.length rel];exact z
  have hl:(putK kvs k v).length<=sizeLine:=by have:=nR kvs k v;omega
  refine wpAny_setItem_heap (hsz:=hz) (tupleKind_room_in1 hu) (N5 I.hok eb) dd λh' dd' hs=>h _ ?_;obtain⟨q,es,ep,hq,h2,h3,h4,_,h5⟩:=dd';refine Hv I (by rw[e];exact True.intro) hs ⟨q,hq⟩ ⟨hl,hd,_,(rel.put k eb rv).keeps λc ys ec=>?_,q,es,ep,hq,h2,h3,h4,h5⟩;rw[aG (iw ec e (λz=>nomatch z))];exact ec
end
section
variable {X:Cx} {pins:List (Addr×Obj)} {σ:St} {H:Hp} {s:Shared} {a:Addr} {kvs:List (Key×V)} {k:Key} {u:Value} {A:Around} {E:VP_}
end
def ac7 (i:Expr):Prop:=∀ ov iv,subscripted i false ov iv=operate [ov,iv] (getItem ov iv)
theorem ZG {prog:Program} {w:World} {A:Around} {E:VP_} {s:Shared} {env:Env} {value slice:Expr} {pos:Pos} {T id:String} {Q:VP_}
  (hl:typeLookup (.type T) "__getitem__" = pure (some (.builtin id))) (hs:ac7 slice)
  (h:wpAny (model prog w) A (eval value env) (λo s₁=>wpAny (model prog w) A (eval slice env) (λi s₂=>s₂.TypeIs o T/\wpAny (model prog w) A (getItem o i) Q E s₂) E s₁) E s) :
  wpAny (model prog w) A (eval (.Subscript value slice pos) env) Q E s:=by
 refine Subscript_ (ZN h (λo s₁ h₁=>ZN h₁ (λi s₂ h₂=>?_) λ_ _ x=>x) λ_ _ x=>x);obtain⟨hT,h₂⟩:=h₂;unfold subscriptTail;refine zb ?_;rw[getitemInPython_of_ne hT.not_modules];refine zb (wpAny_specialOf hT hl ?_);have fin:wpAny (model prog w) A (subscripted slice false o i) (λr s₃=>wpAny (model prog w) A (letTemporaryGo value o r >>= λ_=>pure r) Q E s₃) E s₂:=by
  rw[hs o i];exact wpAny_operating (ZN h₂ (λr s₃ h₃=>zb (wpAny_letTemporaryGo (ze h₃))) λ_ _ x=>x)
 first
  |exact ze (zb fin)
  |exact zb (ze (zb fin))
  |exact zb fin
theorem JW {X:Cx} {pins:List (Addr×Obj)} {σ:St} {H:Hp} {s:Shared} {a:Addr} {y:V} {o:Option V} (I:Inv X pins σ H s) (g:ac5 H a y o):s.TypeIs (.ref a) "dict" := by
 rcases g with⟨kvs,k,e,_,_⟩|⟨kvs,k,b,e,_,_,_⟩
 ·obtain⟨_,_,vs,_,dd⟩:=rT I.hok e;exact dd.typeIs
 ·obtain⟨_,_,xs,_,dd⟩:=VB I.hok e;exact dd.typeIs
def afm (td ty:TE):TE:=λσ H Q=>td σ H λx H1=>ty σ H1 λy H2=>∃ a v,x=.ref a/\ac5 H2 a y (some v)/\Q v H2
def afn (td ty tv:TE):TS:=λD σ H=>tv σ H λv H1=>td σ H1 λx H2=>ty σ H2 λy H3=>∃ a H4,x=.ref a/\VD H3 a y v H4/\D.nx σ H4
section
variable {X:Cx} {o i e value:Expr} {pos pos' tpos:Pos} {td ty tv:TE}
theorem ZJ (hu:X.A.units+1 < cLine) (ho:PE X o td) (hi:PE X i ty) (hs:ac7 i):PE X (.Subscript o i pos) (afm td ty):=by
 intro pins s σ H Q I h;refine ZG PySem.F.slot_dict_getitem.lookup hs (gF (ho pins s σ H _ I h) λu s1 ⟨x,H1,I1,rx,q1⟩=>gF (hi pins s1 σ H1 _ I1 q1) λiv s2 ⟨y,H2,I2,ry,a,v,ex,g,q2⟩=>?_);subst ex;obtain rfl:u=Value.ref a:=rx;exact⟨JW I2 g,S9 hu I2 g ry λw' s3 I3 QJ=>⟨v,H2,I3,QJ,q2⟩⟩
theorem ZK (hu:X.A.units+1 < cLine) (ho:PE X o td) (hi:PE X i ty) (hv:PE X value tv) (hs:swapsWith value (some (.Subscript o i pos')) pos.line X.env=pure false) :
  PS X (.Assign [.Subscript o i pos'] value pos) (afn td ty tv):=by
 intro pins s σ H D I h;refine wpAny_Assign_Subscript (gF (hv pins s σ H _ I h) λr s1 ⟨v,H1,I1,rv,q1⟩=>gF (ho pins s1 σ H1 _ I1 q1) λu s2 ⟨x,H2,I2,rx,q2⟩=>gF (hi pins s2 σ H2 _ I2 q2) λiv s3 ⟨y,H3,I3,ry,a,H4,ex,g,q3⟩=>?_) hs;subst ex;obtain rfl:u=Value.ref a:=rx;exact Tc hu I3 g ry rv λs4 I4=>⟨σ,H4,I4,q3⟩
end
theorem JX {P:Program} {w:World} {H:Hp} (h:Heap) (hb:sysModules < h.objs.size):eY P w H (h.push { cls:=.type "dict", data:=.dict #[] }) h.objs.size (.dK []):=
 ⟨QP _,beq_eq_false_iff_ne.mpr (js (zC hb)),[],.nil,Heap.DictOf.new h⟩
def ac8:TE:=λ_ H Q=>∀ p,H p=none->Q (.ref p) (upd H p (.dK []))
section
variable {X:Cx} {pos:Pos}
theorem VG:PE X (.Dict [] [] pos) ac8:=λpins s σ H Q I h=>
 wpAny_Dict_empty ⟨.ref s.heap.objs.size,_,I.laid (a:=s.heap.objs.size) (o:=.dK []) (t':=s.toks) (λ_ _ q=>zd _ q) (zg _) (JX s.heap I.big),rfl,h _ (I.hok.fresh (zg _))⟩
end
structure M1 (X:Cx) (o:Expr) (m:Str) (apos:Pos) (e:Expr) (cpos:Pos):Prop where
 base:attributeBase o m X.env (eval o X.env)=eval o X.env
 few:((backTo cpos (starEach [e] X.env)).all (λx=>!x.1)&&(backToKw cpos (keywordEach [] X.env)).all (λx=>x.1.isSome)
  && decide (([e]:List Expr).length+([]:List Keyword).length+(if([]:List Keyword).isEmpty then 0 else 1) < 30))=true
 line:(apos.endLine==cpos.line)=true
 trees:backTo cpos (starEach [e] X.env)=[(false,eval e X.env)]
structure M2 (X:Cx) (o:Expr) (m:Str) (apos:Pos) (e f:Expr) (cpos:Pos):Prop where
 base:attributeBase o m X.env (eval o X.env)=eval o X.env
 few:((backTo cpos (starEach [e,f] X.env)).all (λx=>!x.1)&&(backToKw cpos (keywordEach [] X.env)).all (λx=>x.1.isSome)
  && decide (([e,f]:List Expr).length+([]:List Keyword).length+(if([]:List Keyword).isEmpty then 0 else 1) < 30))=true
 line:(apos.endLine==cpos.line)=true
 trees:backTo cpos (starEach [e,f] X.env)=[(false,eval e X.env),(false,eval f X.env)]
section
variable {X:Cx} {pins:List (Addr×Obj)} {σ:St} {H:Hp} {s:Shared} {a:Addr} {y d:V} {u r:Value} {o:Option V} {A:Around} {E:VP_}
end
section
variable {X:Cx} {o e f:Expr} {apos cpos:Pos} {td ty tx:TE}
end
section
variable {X:Cx} {pins:List (Addr×Obj)} {σ:St} {H:Hp} {s:Shared} {a:Addr} {kvs:List (Key×V)} {A:Around} {E:VP_}
end
section
variable {X:Cx} {pins:List (Addr×Obj)} {σ:St} {H:Hp} {s:Shared} {a:Addr} {y:V} {u:Value} {A:Around} {E:VP_}
end
end L2
namespace Att
open PySem PySem.W PySem.Calls PyProof.Rows
theorem yW {P:Params} {h:Heap}:∀ (ns:List Int) (vs:List Value),WellAll P h vs (ns.map WData.int)->IntsAre vs ns:=by
 intro ns
 induction ns with
 |nil=>
  intro vs w;rw[ku] at w;cases w;exact .nil
 |cons n ns ih=>
  intro vs w;rw[zo] at w;cases w with
  |cons a b=>
   cases a;exact .cons _ _ (ih _ b)
theorem Td {l:OpenLaw} {n:Nat} (hn:l.most=some n) {P:Params} {h:Heap} {args:List WData} {vals:List Value}
  (hpre:l.row.toRowW.claim.pre args=true) (hwl:WellAll P h vals args) :
  ∃ a vs ns,vals=[Value.ref a]/\args=[WData.list (ns.map WData.int)]/\h.get? a=some { cls:=.type "list", data:=.seq vs.toArray }/\IntsAre vs ns/\ns.length<=n:=by
 have hsh:WShape.hasAll [] args [.list .int]=true:=(pre_splitW hpre).1;have hc:l.pre.holds [] { args:=args }=true:=(pre_splitW hpre).2;obtain⟨d,r,rfl,h1,h2⟩:=hasAllW_cons hsh;obtain rfl:=hasAllW_nil h2;obtain⟨xs,rfl,h3⟩:=hasW_list h1;obtain⟨ns,rfl⟩:=items_int h3;have hlen:ns.length<=n:=by
  unfold OpenLaw.pre at hc;have h4:(WTm.not (.lt (.lit (.int (n:Int))) (.len (.arg 0)))).holds [] { args:=[.list (ns.map .int)] }=true:=by
   have h4:=(holds_andW hc).1;rw[hn] at h4;exact h4
  have h5:=condW_of h4 (w_not (w_lt w_lit (w_len_list (w_arg rfl))));rw[zh] at h5;refine Nat.le_of_not_lt λq=>?_;have q':(n:Int) < ((ns.length:Nat):Int):=by omega
  first
   |(rw[QN q'] at h5;exact absurd h5 (by decide))
   |(simp at h5;omega)
 cases hwl with
 |cons w1 w2=>
  cases w2;cases w1 with
  |list ho hall=>exact⟨_,_,ns,rfl,rfl,ho,yW ns _ hall,hlen⟩
theorem Te (l:OpenLaw) (args:List WData):l.row.toRowW.claim.post args (.bool true) args=true:=
 postW_of (r:=l.row.toRowW) (X:=(true==true))
  (show WShape.has [] (.bool true) .bool=true by first|rfl|decide|simp[WShape.has,WShape.arms,WShape.armsAll])
  (show(WTm.eq .res (.lit (.bool true))).value [] { args:=args,res:=some (.bool true),after:=args }=some (.bool (true==true)) from w_eq_bool (w_res rfl) w_lit) rfl
theorem JZ {l:OpenLaw} {n:Nat} {q:Program} {loose:LS_} {XP:(Str->Option Value)->Heap->Prop} {YP:World->Heap->Prop} {d:DefRec}
  (hn:l.most=some n) (hdf:d.params.defaults=[])
  (call:∀ (w:World) (s₀ s₁:Shared) (mg mb:Str->Option Value) (fa:Addr) (o:Obj) (pm cd doc:Value) (a:Addr) (vs:List Value) (ns:List Int),
   Ground q loose [] XP w s₀ mg mb s₁.heap->YP w s₁.heap →
   s₁.heap.get? fa=some o->o.data=.func (docDef d.name d.params d.body d.scope pm cd doc)->s₁.heap.CodeRec cd d.name->mg d.name=some (.ref fa) →
   s₁.heap.get? a=some { cls:=.type "list", data:=.seq vs.toArray }->IntsAre vs ns->ns.length<=n->s₁.gens=#[] →
   codeAny (model l.prog w) callerA (.call (.ref fa) ⟨[.ref a],[]⟩) (λr s'=>r=.ok (.ret (.bool true))/\OldK s₁.heap s'.heap/\s'.os=s₁.os/\AllBare s'.gens) s₁) :
  WalkO q loose XP YP l.row.toRowW d [] (λf vs=>PySem.call f vs):=by
 intro w s₀ s₁ mg mb G Y fa o pm cd doc dV kV ho hd hcd hD hmg hg args vals as hpre hlay hrd hwl hlo;obtain rfl:dV=.none:=Dflts.none hD hdf;obtain rfl:kV=.none:=Dflts.noKw hD;obtain⟨a,vs,ns,rfl,rfl,hobj,hints,hlen⟩:=Td hn hpre hwl;refine enter_call (kP (call w s₀ s₁ mg mb fa o pm cd doc a vs ns G Y ho (fd_plain hd) hcd hmg hobj hints hlen hg) λr s' hq=>?_);obtain⟨rfl,h2,h3,h4⟩:=hq;exact⟨.inl ⟨.bool true,.bool true,[],rfl,λ_=>rfl,.bool true,Te l _,λ_=>⟨List.Pairwise.nil,λ_ hm=>(nomatch hm)⟩⟩,h2,h3,h4⟩
section
variable {prog:Program} {w:World} {A:Around} {E:VP_} {s:Shared} {K:Frag}
end
end Att
namespace L2
open PySem PySem.Spec PyProof.Rows
theorem tW:∀ {vs:List Value} {ns:List Int},IntsAre vs ns->Vals (ns.map V.int) vs
 |_,_,.nil=>.nil
 |_,_,.cons n t h=>.cons ⟨t,rfl⟩ (tW h)
def Only (H:Hp):Prop:=∀ b,H b=none\/∃ o xs,H b=some (.pY o (.lst xs))
theorem VH {P:Program} {w:World} {K:FG_} {mg mb:Str->Option Value} {CX:S5} {k:Nat} {fa a:Addr} {fd:FuncData} {x:Str} {sp:Sp} {s₁:Shared} {vs:List Value} {ns:List Int}
  (KX:K.In s₁.heap) (hns:s₁.heap.Ns mainGlobals mg) (hb:s₁.heap.Ns builtinsNs mb) (hbb:∀ x:Str,x ≠ "__name__" → mb x=bootBuiltins x) (hlim:s₁.heap.NoLimit) (hg:s₁.gens=#[])
  (ha:s₁.heap.get? a=some { cls:=.type "list", data:=.seq vs.toArray }) (hi:IntsAre vs ns) (hl:ns.length<=sizeLine) (hr:fK k callerA)
  (F:∀ base:Heap,K.In base->base.Ns mainGlobals mg->iV P w K mg base CX k fa fd [x] sp) (hbind:∀ (s:Shared) (u:Value),BindsTo s fd ⟨[u],[]⟩ [(x,u)])
  (hsp:∀ H:Hp,Only H->rP K H a (ns.map V.int)->sp [.ref a] H (λv _=>v=.bl true) λ_ _ _=>False)
  (hCX:∀ H e s',CX [] H s₁ (λ_ _ _=>False) e s'->False) :
  codeAny (model P w) callerA (.call (.ref fa) ⟨[.ref a],[]⟩) (λr s'=>r=.ok (.ret (.bool true))/\OldK s₁.heap s'.heap/\s'.os=s₁.os/\AllBare s'.gens) s₁:=by
 have rv:=tW hi;have lenV:=hi.length;have core:∀ H:Hp,Only H->rP K H a (ns.map V.int)->rN P w H s₁.heap->(∀ b,H b≠none->b=a)->(H a≠none->K.lookup a=none) →
   codeAny (model P w) callerA (.call (.ref fa) ⟨[.ref a],[]⟩) (λr s'=>r=.ok (.ret (.bool true))/\OldK s₁.heap s'.heap/\s'.os=s₁.os/\AllBare s'.gens) s₁:=by
  intro H hO hS hok hA hK;have QS:∀ {b:Addr} {o:Obj},s₁.heap.get? b=some o->H b=none->(Hf s₁.heap H).get? b=some o:=λe n=>Vl e n;have noA:∀ {b:Addr} {o:Obj} {es:Array DictEntry} {ep:Nat},s₁.heap.get? b=some o->o.data=.dict es ep->H b=none:=λ{b o es ep} e d=>by
   cases q:H b with
   |none=>rfl
   |some u=>
    have e':b=a:=hA b (by rw[q];simp);subst e';rw[ha] at e;cases e;have d':Data.seq vs.toArray _=Data.dict es ep:=d;cases d'
  have nsK:∀ {b:Addr} {m:Str->Option Value},s₁.heap.Ns b m->(Hf s₁.heap H).Ns b m:=λ{b m} ⟨o,es,ep,e,d,r⟩=>⟨o,es,ep,QS e (noA e d),d,r⟩;have hKb:K.In (Hf s₁.heap H):=λb o e=>QS (KX b o e) (by
   cases q:H b with
   |none=>rfl
   |some u=>
    have e':b=a:=hA b (by rw[q];simp);subst e';rw[hK (by rw[q];simp)] at e;cases e)
  have hM:Mod K mg (Hf s₁.heap H):=⟨hKb,nsK hns,⟨mb,nsK hb,hbb⟩,let ⟨mc,h1,h2⟩:=hlim;⟨mc,nsK h1,h2⟩⟩;have e0:Aw P w K mg (Hf s₁.heap H) callerA [] s₁ H:=⟨rfl,hM,λb o e=>Zc e,Nat.le_of_eq (Sv _ _),trivial,λb hb=>absurd (show b∈([]:List Addr) from hb) (by simp),hok,.of_eq hg⟩;refine kP ((F _ hKb (nsK hns)).run callerA [] s₁ H ⟨[.ref a],[]⟩ [.ref a] [.ref a] _ _ hr e0 (hbind s₁ (.ref a)) (.cons rfl .nil) (hsp H hO hS)) λr s' h=>?_;cases r with
  |error e=>exact(hCX H e s' h).elim
  |ok fl=>
   cases fl with
   |next=>exact False.elim h
   |brk=>exact False.elim h
   |cont=>exact False.elim h
   |ret u=>
    obtain⟨v,H',os,bare,un,hok',r',q⟩:=h;have q':v=.bl true:=q;subst q';obtain rfl:u=Value.bool true:=r';refine⟨rfl,OldK.of_keep λb o e=>?_,os,bare⟩;cases q:H b with
    |none=>exact un.keep b o e q (by intro z;exact absurd (show b∈([]:List Addr) from z) (by simp)) (by simp)
    |some u=>
     rcases hO b with z|⟨ob,xs,z⟩
     ·rw[q] at z;cases z
     ·have z2:=un.rB b ob _ z;obtain⟨e1,_⟩:=hok b _ z;obtain⟨e2,_⟩:=hok' b _ z2;rw[e] at e1;cases e1;exact e2
 cases hk:K.lookup a with
 |some o=>
  have e:=KX a o hk;rw[ha] at e;cases e;refine core (λ_=>none) (λ_=>.inl rfl) (.inr ⟨_,vs.toArray,_,hk,rfl,rfl,rfl,by rw[zz,lenV];exact hl,by simpa using rv⟩) (λb u z=>by have z':(none:Option HO)=some u:=z;cases z') (λb z=>absurd rfl z) λz=>absurd rfl z
 |none=>
  refine core (λb=>if b=a then some (.pY { cls:=.type "list", data:=.seq vs.toArray } (.lst (ns.map V.int))) else none) (λb=>?_) (.inl (.inr ⟨{ cls:=.type "list", data:=.seq vs.toArray },zl rfl⟩)) (λb u z=>?_) (λb z=>?_) λ_=>hk
  ·by_cases hb:b=a
   ·exact .inr ⟨_,_,zl hb⟩
   ·exact .inl (zw hb)
  ·by_cases hb:b=a
   ·have z':=(zl hb).symm.trans z;cases z';subst hb;exact⟨ha,by rw[zh];exact hl,vs,_,rv,ha⟩
   ·have z':=(zw hb).symm.trans z;cases z'
  ·by_cases hb:b=a
   ·exact hb
   ·exact absurd (zw hb) z
end L2
namespace L2
open PySem PySem.Spec PyProof.Rows
theorem ZL {l:PySem.W.OpenLaw} {n k:Nat} {q:Program} {loose:LS_} {XP:(Str->Option Value)->Heap->Prop} {YP:World->Heap->Prop} {d:DefRec} {K:Params->FG_} {CX:World->S5} {sp:World->Sp} {x:Str}
  (hn:l.most=some n) (hn2:n<=sizeLine) (hdf:d.params.defaults=[]) (hr:fK k callerA)
  (hY:∀ (w:World) (h:Heap),YP w h->(K w.params).In h)
  (F:∀ (w:World) (mg:Str->Option Value) (fa:Addr) (h:Heap),(K w.params).In h->h.Ns mainGlobals mg->mg d.name=some (.ref fa) →
   ∃ fd:FuncData,(∀ (s:Shared) (u:Value),BindsTo s fd ⟨[u],[]⟩ [(x,u)]) ∧
    ∀ base:Heap,(K w.params).In base->base.Ns mainGlobals mg->iV l.prog w (K w.params) mg base (CX w) k fa fd [x] (sp w))
  (hsp:∀ (w:World) (H:Hp) (a:Addr) (ns:List Int),ns.length<=n->Only H->rP (K w.params) H a (ns.map V.int)->sp w [.ref a] H (λv _=>v=.bl true) λ_ _ _=>False)
  (hCX:∀ (w:World) (H:Hp) (s:Shared) (e:Value) (s':Shared),CX w [] H s (λ_ _ _=>False) e s'->False) :
  PySem.W.WalkO q loose XP YP l.row.toRowW d [] (λf vs=>PySem.call f vs):=by
 refine Att.JZ hn hdf λw s₀ s₁ mg mb fa o pm cd doc a vs ns G Y ho hd hcd hmg hobj hints hlen hg=>?_;have KX:=hY w _ Y;obtain⟨fd,hb,hF⟩:=F w mg fa _ KX G.T.g hmg;exact VH KX G.T.g G.T.b G.T.builtins G.T.nolimit hg hobj hints (Zs hlen hn2) hr hF hb (λH hO hS=>hsp w H a ns hlen hO hS) λH e s'=>hCX w H s₁ e s'
theorem VJ {l:PySem.W.OpenLaw} {n k:Nat} {q:Program} {loose:LS_} {XP:(Str->Option Value)->Heap->Prop} {YP:World->Heap->Prop} {d:DefRec} {K:Params->FG_} {CX:S5} {sp:FG_->Sp} {x:Str}
  (hn:l.most=some n) (hn2:n<=sizeLine) (hdf:d.params.defaults=[]) (hr:fK k callerA)
  (hY:∀ (w:World) (h:Heap),YP w h->(K w.params).In h)
  (F:∀ (w:World) (mg:Str->Option Value) (fa:Addr) (h:Heap),(K w.params).In h->h.Ns mainGlobals mg->mg d.name=some (.ref fa) →
   ∃ fd:FuncData,(∀ (s:Shared) (u:Value),BindsTo s fd ⟨[u],[]⟩ [(x,u)]) ∧
    ∀ base:Heap,(K w.params).In base->base.Ns mainGlobals mg->iV l.prog w (K w.params) mg base CX k fa fd [x] (sp (K w.params)))
  (hsp:∀ (K:FG_) (H:Hp) (a:Addr) (ns:List Int),ns.length<=n->Only H->rP K H a (ns.map V.int)->sp K [.ref a] H (λv _=>v=.bl true) λ_ _ _=>False)
  (hCX:∀ (H:Hp) (s:Shared) (e:Value) (s':Shared),CX [] H s (λ_ _ _=>False) e s'->False) :
  PySem.W.WalkO q loose XP YP l.row.toRowW d [] (λf vs=>PySem.call f vs):=
 ZL (K:=K) (CX:=λ_=>CX) (sp:=λw=>sp (K w.params)) hn hn2 hdf hr hY F (λw H a ns h1 h2 h3=>hsp (K w.params) H a ns h1 h2 h3) λ_ H s e s'=>hCX H s e s'
end L2
namespace L2
open PySem PySem.Spec PyProof.Rows
def lG (s:Stmt):Arguments:=match s with
 |.FunctionDef _ a _ _ _ _ _ _ _ _=>a
 |_=>{ posonlyargs:=[],args:=[],vararg:=none,kwonlyargs:=[],kw_defaults:=[],kwarg:=none,defaults:=[] }
def dD (s:Stmt):List Stmt:=match s with
 |.FunctionDef _ _ b _ _ _ _ _ _ _=>b
 |_=>[]
def aF (s:Stmt):Scope:=match s with
 |.FunctionDef _ _ _ _ _ _ sc _ _ _=>sc
 |_=>{ kind:=.function,names:=[],isGenerator:=false,isCoroutine:=false }
abbrev vM:S5:=λ_ _ _ _ _ _=>False
abbrev E0:XK:=λ_ _ _=>False
theorem abR {X:Cx}:Passes vM X E0:=λ_ _ _ _ _ _ _ h=>h.elim
structure yE (K:FG_) (x qual:Str) (st:Stmt) (f:Addr) (fd:FuncData):Prop where
 ex:∃ (oc:Value) (od:Option Addr) (kV doc pm:Value) (an:Option Addr) (cdv ct:Value) (osl:Array (Option Value)),
  fd=fnOf x qual (lG st) (dD st) (aF st) .none kV doc pm an cdv ct/\K.lookup f=some ⟨oc,od,.func fd,osl⟩/\codeIn K cdv qual=true
 kp:keepIn K (.ref f)=true
section
variable {P:Program} {w:World} {K:FG_} {mg:Str->Option Value} {base:Heap}
theorem yE.ok {x qual:Str} {st:Stmt} {f:Addr} {fd:FuncData} {N ps:LS_} {k:Nat} {sp:Sp} (F:yE K x qual st f fd) (S:aY N ps (aF st)) (len:∀ vs H Q E,sp vs H Q E->vs.length=ps.length)
  (hbody:∀ (cdv:Value) (A:Around) (outer:List Env) (s:Shared) (H:Hp) (vs:List V) (Q:VK) (E:XK),fK k (A.deeper (envOfC qual (aF st) s.heap.objs.size f cdv))->sp vs H Q E →
   ∃ t,zL (qb vM P w K mg base N qual (aF st) f cdv A outer s H E).Ve (dD st) t/\t { nx:=λ_ H'=>Q .non H',rt:=Q } (start N vs) H):iV P w K mg base vM (k+1) f fd ps sp:=by
 obtain⟨oc,od,kV,doc,pm,an,cdv,ct,osl,rfl,lk,hcd⟩:=F.ex;refine abN lk hcd S len λA outer s H vs Q E hr hsp=>?_;obtain⟨t,h,q⟩:=hbody cdv A outer s H vs Q E hr hsp;exact⟨t,h.Ve,q⟩
theorem yE.binds {x qual:Str} {st:Stmt} {f:Addr} {fd:FuncData} {ps:LS_} (F:yE K x qual st f fd)
  (h:∀ (kV doc pm:Value) (an:Option Addr) (cdv ct:Value) (us:List Value),us.length=ps.length->bindArgs (fnOf x qual (lG st) (dD st) (aF st) .none kV doc pm an cdv ct) ⟨us,[]⟩=pure (ps.zip us)):Binds K fd ps []:=by
 obtain⟨oc,od,kV,doc,pm,an,cdv,ct,osl,rfl,lk,hcd⟩:=F.ex;exact .all (h kV doc pm an cdv ct)
theorem Hw {x qual:Str} {st:Stmt} {f:Addr} {oc:Value} {od an:Option Addr} {osl:Array (Option Value)} {kV doc pm cdv ct:Value} (l:K.lookup f=some ⟨oc,od,.func (fnOf x qual (lG st) (dD st) (aF st) .none kV doc pm an cdv ct),osl⟩)
  (c:codeIn K cdv qual=true) (k:keepIn K (.ref f)=true):yE K x qual st f (fnOf x qual (lG st) (dD st) (aF st) .none kV doc pm an cdv ct):=⟨⟨oc,od,kV,doc,pm,an,cdv,ct,osl,rfl,l,c⟩,k⟩
end
section
variable {X:Cx}
theorem pv (i:Nat) {x:Str} {pos:Pos} (hN:X.N[i]?=some x:=by rfl) (hv:Y6 X.env.scope x:=by first|exact kU rfl|exact JP (kU rfl)|exact JP (JP rfl)) (hd:(x==("__debug__" : Str))=false:=by decide)
  (hcd:(x==("__classdict__" : Str))=false:=by decide):PE X (.Name x pos) (Vn i):=uT hN hv hd hcd
end
def Same (H H':Hp):Prop:=∀ b o,H b=some o->H' b=some o
theorem Same.refl (H:Hp):Same H H:=λ_ _ h=>h
theorem Same.trans {H H1 H2:Hp} (a:Same H H1) (b:Same H1 H2):Same H H2:=λc o h=>b c o (a c o h)
theorem Same.free {H H':Hp} (e:Same H H') {l:Addr} (h:H' l=Option.none):H l=Option.none:=by
 cases q:H l with
 |none=>rfl
 |some o=>
  rw[e l o q] at h;cases h
theorem Same.seq {K:FG_} {H H':Hp} {a:Addr} {xs:List V} (e:Same H H') (h:rP K H a xs):rP K H' a xs:=by
 rcases h with (h|⟨o,h⟩)|h
 ·exact .inl (.inl (e _ _ h))
 ·exact .inl (.inr ⟨o,e _ _ h⟩)
 ·exact .inr h
end L2
end
section
namespace P1
open PySem PySem.Spec PyProof.Rows L2
inductive Dt where
 |non|bl (b:Bool)|int (i:Int)|str (x:Str)|tup (xs:List Dt)|lst (xs:List Dt)|emp
inductive Bx where
 |z (d:Dt)|l (ds:List Dt)|o (ds:List Dt)|n (kvs:List (Key×Dt))|m (kvs:List (Key×Dt)) (w:Option Addr)
abbrev Ev:=List (Option Bx)
def FzL (K:FG_) (H:Hp) (a:Addr) (xs:List V):Prop:=
 (∃ o,H a=some (.pY o (.lst xs))) ∨
  ∃ (o:Obj) (its:Array Value) (n:Nat),K.lookup a=some o/\o.cls=.type "list" ∧ o.dict=none/\o.data=.seq its n/\its.size<=sizeLine/\Vals xs its.toList
theorem FzL.sq {K:FG_} {H:Hp} {a:Addr} {xs:List V} (h:FzL K H a xs):rP K H a xs:=by
 rcases h with h|h
 ·exact .inl (.inr h)
 ·exact .inr h
mutual
def Rep (K:FG_) (H:Hp):Dt->V->Prop
 |.non,v=>v=.non
 |.bl b,v=>v=.bl b
 |.int i,v=>v=.int i
 |.str x,v=>v=.str x/\x.length<=sizeLine
 |.tup ds,v=>∃ a vs,v=.ref a/\wW K H a vs/\aK K H ds vs
 |.lst ds,v=>∃ a vs,v=.ref a/\FzL K H a vs/\aK K H ds vs
 |.emp,v=>∃ a o,v=.ref a/\H a=some (.pY o (.dK []))
def aK (K:FG_) (H:Hp):List Dt->List V->Prop
 |[],vs=>vs=[]
 |d::ds,vs=>∃ v r,vs=v::r/\Rep K H d v/\aK K H ds r
end
structure Kp (H H':Hp):Prop where
 t:∀ a xs,H a=some (.tup xs)->H' a=some (.tup xs)
 f:∀ a o u,H a=some (.pY o u)->H' a=some (.pY o u)
theorem Kp.of {H H':Hp} (s:Same H H'):Kp H H':=⟨λa _ h=>s a _ h,λa _ _ h=>s a _ h⟩
theorem Kp.sqT {K:FG_} {H H':Hp} {a:Addr} {xs:List V} (k:Kp H H') (h:wW K H a xs):wW K H' a xs:=by
 rcases h with (h|⟨o,h⟩)|h
 ·exact .inl (.inl (k.t _ _ h))
 ·exact .inl (.inr ⟨o,k.f _ _ _ h⟩)
 ·exact .inr h
theorem Kp.fzL {K:FG_} {H H':Hp} {a:Addr} {xs:List V} (k:Kp H H') (h:FzL K H a xs):FzL K H' a xs:=by
 rcases h with⟨o,h⟩|h
 ·exact .inl ⟨o,k.f _ _ _ h⟩
 ·exact .inr h
theorem Kp.lst {H:Hp} {a:Addr} {xs:List V} {o:HO} (h:H a=some (.lst xs)):Kp H (upd H a o):=by
 refine⟨λb ys e=>?_,λb ob u e=>?_⟩
 ·rw[aG (iw e h (by intro z;cases z))];exact e
 ·rw[aG (iw e h (by intro z;cases z))];exact e
theorem Kp.dk {H:Hp} {a:Addr} {xs:List (Key×V)} {o:HO} (h:H a=some (.dK xs)):Kp H (upd H a o):=by
 refine⟨λb ys e=>?_,λb ob u e=>?_⟩
 ·rw[aG (iw e h (by intro z;cases z))];exact e
 ·rw[aG (iw e h (by intro z;cases z))];exact e
mutual
theorem Rep.kp {K:FG_} {H H':Hp} (k:Kp H H'):∀ {d:Dt} {v:V},Rep K H d v->Rep K H' d v
 |.non,_,h=>by simpa only[Rep] using h
 |.bl _,_,h=>by simpa only[Rep] using h
 |.int _,_,h=>by simpa only[Rep] using h
 |.str _,_,h=>by simpa only[Rep] using h
 |.tup ds,_,h=>by
  simp only[Rep] at h ⊢;obtain⟨a,vs,e,q,r⟩:=h;exact⟨a,vs,e,k.sqT q,aK.kp k r⟩
 |.lst ds,_,h=>by
  simp only[Rep] at h ⊢;obtain⟨a,vs,e,q,r⟩:=h;exact⟨a,vs,e,k.fzL q,aK.kp k r⟩
 |.emp,_,h=>by
  simp only[Rep] at h ⊢;obtain⟨a,o,e,q⟩:=h;exact⟨a,o,e,k.f _ _ _ q⟩
theorem aK.kp {K:FG_} {H H':Hp} (k:Kp H H'):∀ {ds:List Dt} {vs:List V},aK K H ds vs->aK K H' ds vs
 |[],_,h=>by simpa only[aK] using h
 |d::ds,_,h=>by
  simp only[aK] at h ⊢;obtain⟨v,r,e,q,t⟩:=h;exact⟨v,r,e,Rep.kp k q,aK.kp k t⟩
end
theorem aK.length {K:FG_} {H:Hp}:∀ {ds:List Dt} {vs:List V},aK K H ds vs->vs.length=ds.length
 |[],_,h=>by simp only[aK] at h;subst h;rfl
 |d::ds,_,h=>by
  simp only[aK] at h;obtain⟨v,r,rfl,_,t⟩:=h;simp[aK.length t]
theorem aK.nil {K:FG_} {H:Hp}:aK K H [] []:=by simp only[aK]
theorem aK.cons {K:FG_} {H:Hp} {d:Dt} {v:V} {ds:List Dt} {vs:List V} (h:Rep K H d v) (t:aK K H ds vs):aK K H (d::ds) (v::vs):=by
 simp only[aK];exact⟨v,vs,rfl,h,t⟩
theorem aK.append {K:FG_} {H:Hp}:∀ {ds es:List Dt} {vs us:List V},aK K H ds vs->aK K H es us->aK K H (ds++es) (vs++us)
 |[],_,_,_,h,t=>by simp only[aK] at h;subst h;exact t
 |d::ds,_,_,_,h,t=>by
  simp only[aK] at h;obtain⟨v,r,rfl,q,h⟩:=h;exact aK.cons q (aK.append h t)
theorem aK.drop {K:FG_} {H:Hp}:∀ (n:Nat) {ds:List Dt} {vs:List V},aK K H ds vs->aK K H (ds.drop n) (vs.drop n)
 |0,_,_,h=>h
 |n+1,[],_,h=>by simp only[aK] at h;subst h;exact aK.nil
 |n+1,d::ds,_,h=>by
  simp only[aK] at h;obtain⟨v,r,rfl,q,h⟩:=h;exact aK.drop n h
theorem aK.take {K:FG_} {H:Hp}:∀ (n:Nat) {ds:List Dt} {vs:List V},aK K H ds vs->aK K H (ds.take n) (vs.take n)
 |0,_,_,_=>aK.nil
 |n+1,[],_,h=>by simp only[aK] at h;subst h;exact aK.nil
 |n+1,d::ds,_,h=>by
  simp only[aK] at h;obtain⟨v,r,rfl,q,h⟩:=h;exact aK.cons q (aK.take n h)
theorem aK.get {K:FG_} {H:Hp}:∀ {ds:List Dt} {vs:List V} {i:Nat} {d:Dt},aK K H ds vs->ds[i]?=some d->∃ v,vs[i]?=some v/\Rep K H d v
 |[],_,_,_,_,e=>by simp at e
 |d::ds,_,0,_,h,e=>by
  simp only[aK] at h;obtain⟨v,r,rfl,q,h⟩:=h;simp at e;subst e;exact⟨v,rfl,q⟩
 |d::ds,_,i+1,_,h,e=>by
  simp only[aK] at h;obtain⟨v,r,rfl,q,h⟩:=h;obtain⟨u,e1,e2⟩:=aK.get h (i:=i) (by simpa using e);exact⟨u,by simpa using e1,e2⟩
def okK:Key->Prop
 |.inl _=>True
 |.inr x=>x.length<=sizeLine
def eZ (K:FG_) (H:Hp) (kvs:List (Key×Dt)) (ks:List (Key×V)):Prop:=ks.map (·.1)=kvs.map (·.1)/\aK K H (kvs.map (·.2)) (ks.map (·.2))/\∀ p∈kvs,okK p.1
theorem eZ.kp {K:FG_} {H H':Hp} {kvs:List (Key×Dt)} {ks:List (Key×V)} (h:eZ K H kvs ks) (k:Kp H H'):eZ K H' kvs ks:=⟨h.1,h.2.1.kp k,h.2.2⟩
def bf (K:FG_) (H:Hp):Bx->V->Prop
 |.z d,v=>Rep K H d v
 |.l ds,v=>∃ a vs,v=.ref a/\Rd H a (.lst vs)/\aK K H ds vs
 |.o ds,v=>∃ a vs,v=.ref a/\H a=some (.lst vs)/\aK K H ds vs
 |.n kvs,v=>∃ a ks,v=.ref a/\Rd H a (.dK ks)/\eZ K H kvs ks
 |.m kvs w,v=>∃ a ks,v=.ref a/\H a=some (.dK ks)/\eZ K H kvs ks/\∀ b,w=some b->b=a
theorem bf.same {K:FG_} {H H':Hp} (s:Same H H') {b:Bx} {v:V} (h:bf K H b v):bf K H' b v:=by
 cases b with
 |z d=>exact Rep.kp (.of s) h
 |l ds=>
  obtain⟨a,vs,e,q,r⟩:=h;refine⟨a,vs,e,?_,r.kp (.of s)⟩;rcases q with q|⟨o,q⟩
  ·exact .inl (s _ _ q)
  ·exact .inr ⟨o,s _ _ q⟩
 |o ds=>
  obtain⟨a,vs,e,q,r⟩:=h;exact⟨a,vs,e,s _ _ q,r.kp (.of s)⟩
 |n kvs=>
  obtain⟨a,vs,e,q,r⟩:=h;refine⟨a,vs,e,?_,r.kp (.of s)⟩;rcases q with q|⟨o,q⟩
  ·exact .inl (s _ _ q)
  ·exact .inr ⟨o,s _ _ q⟩
 |m kvs _=>
  obtain⟨a,vs,e,q,r⟩:=h;exact⟨a,vs,e,s _ _ q,r.1.kp (.of s),r.2⟩
def pB:Bx->Option (List Dt)
 |.z (.lst ds)=>some ds
 |.l ds=>some ds
 |.o ds=>some ds
 |_=>none
theorem bf.FT {K:FG_} {H:Hp} {b:Bx} {v:V} {ds:List Dt} (h:bf K H b v) (e:pB b=some ds):∃ a vs,v=.ref a/\rP K H a vs/\aK K H ds vs:=by
 cases b with
 |z d=>
  cases d<;>first|(cases e;done)|skip;cases e;simp only[bf,Rep] at h;obtain⟨a,vs,e,q,r⟩:=h;exact⟨a,vs,e,q.sq,r⟩
 |l ds'=>
  cases e;obtain⟨a,vs,e,q,r⟩:=h;exact⟨a,vs,e,.inl q,r⟩
 |o ds'=>
  cases e;obtain⟨a,vs,e,q,r⟩:=h;exact⟨a,vs,e,.inl (.inl q),r⟩
 |n _=>cases e
 |m _ _=>cases e
abbrev pC (K:FG_) (H:Hp):List Bx->List V->Prop:=Paired (bf K H)
def Nw (H:Hp):Bx->V->Prop
 |.o _,v=>∀ a,v=.ref a->H a=none
 |.m _ _,v=>∀ a,v=.ref a->H a=none
 |_,_=>True
theorem Nw.old {H H1:Hp} (s:Same H H1) {b:Bx} {v:V} (h:Nw H1 b v):Nw H b v:=by
 cases b with
 |o ds=>exact λa e=>s.free (h a e)
 |m ds _=>exact λa e=>s.free (h a e)
 |_=>trivial
def loose:Bx->Bool
 |.z _=>false
 |_=>true
def rC:Bx->Bool
 |.o _=>true
 |.m _ _=>true
 |_=>false
structure bD (K:FG_) (H0 H:Hp) (σ:L2.St) (ρ:Ev):Prop where
 len:σ.length=ρ.length
 val:∀ (i:Nat) b,ρ[i]?=some (some b)->∃ v,σ[i]?=some (some v)/\bf K H b v
 own:∀ (i j:Nat) c a b,ρ[i]?=some (some c)->rC c=true->σ[i]?=some (some (.ref a))->ρ[j]?=some (some b)->loose b=true->σ[j]?=some (some (.ref a))->i=j
 base:Same H0 H
 new:∀ (i:Nat) c a,ρ[i]?=some (some c)->rC c=true->σ[i]?=some (some (.ref a))->H0 a=none
theorem bD.grow {K:FG_} {H0 H H':Hp} {σ:L2.St} {ρ:Ev} (r:bD K H0 H σ ρ) (s:Same H H'):bD K H0 H' σ ρ:=
 ⟨r.len,λi b e=>let ⟨v,e1,h⟩:=r.val i b e;⟨v,e1,h.same s⟩,r.own,r.base.trans s,r.new⟩
def tF (K:FG_) (f:Ev->Option Bx):TE:=λσ H Q=>∃ H0 ρ b,bD K H0 H σ ρ/\f ρ=some b/\∀ v H',Same H H'->Nw H b v->bf K H' b v->Q v H'
def tFA (K:FG_) (f:Ev->Option (List Bx)):TA:=λσ H Q=>∃ H0 ρ bs,bD K H0 H σ ρ/\f ρ=some bs/\∀ vs H',Same H H'->pC K H' bs vs->Q vs H'
def ZM (K:FG_) (f:Ev->Option Bool):TT:=λσ H Q=>∃ H0 ρ b,bD K H0 H σ ρ/\f ρ=some b/\∀ H',Same H H'->Q b H'
def PV (X:Cx) (e:Expr) (f:Ev->Option Bx):Prop:=PE X e (tF X.K f)
structure QV (X:Cx) (e:Expr) (f:Ev->Option Bx):Prop where
 run:PV X e f
def PVs (X:Cx) (es:List Expr) (f:Ev->Option (List Bx)):Prop:=PA X es (tFA X.K f)
structure Tf (X:Cx) (es:List Expr) (f:Ev->Option (List Bx)):Prop where
 run:PVs X es f
def PB (X:Cx) (e:Expr) (f:Ev->Option Bool):Prop:=PT X e (ZM X.K f)
structure QB (X:Cx) (e:Expr) (f:Ev->Option Bool):Prop where
 run:PB X e f
theorem FW {X:Cx} {e:Expr} {t t':TE} (h:PE X e t) (m:∀ σ H Q,t' σ H Q->t σ H Q):PE X e t':=λpins s σ H Q I q=>h pins s σ H Q I (m σ H Q q)
theorem paM {X:Cx} {e:List Expr} {t t':TA} (h:PA X e t) (m:∀ σ H Q,t' σ H Q->t σ H Q):PA X e t':=λpos pins s σ H Q I q=>h pos pins s σ H Q I (m σ H Q q)
theorem ptM {X:Cx} {e:Expr} {t t':TT} (h:PT X e t) (m:∀ σ H Q,t' σ H Q->t σ H Q):PT X e t':=λpins s σ H Q I q=>h pins s σ H Q I (m σ H Q q)
theorem pwM {X:Cx} {e:Expr} {t t':TT} (h:PW X e t) (m:∀ σ H Q,t' σ H Q->t σ H Q):PW X e t':=λwh pins s σ H Q I q=>h wh pins s σ H Q I (m σ H Q q)
theorem Tg {X:Cx} {e:Stmt} {t t':TS} (h:PS X e t) (m:∀ D σ H,t' D σ H->t D σ H):PS X e t':=λpins s σ H D I q=>h pins s σ H D I (m D σ H q)
theorem ac9 {X:Cx} {e:List Stmt} {t t':TS} (h:zL X e t) (m:∀ D σ H,t' D σ H->t D σ H):zL X e t':=λpins s σ H D I q=>h pins s σ H D I (m D σ H q)
def rF (K:FG_) (g:Bx->Bx->Option Bx):R2:=λx y H Q=>∃ a b c,bf K H a x/\bf K H b y/\g a b=some c/\∀ w H',Same H H'->Nw H c w->bf K H' c w->Q w H'
def rFs (K:FG_) (g:List Bx->Option Bx):List V->Hp->VK->Prop:=λxs H Q=>∃ bs c,pC K H bs xs/\g bs=some c/\∀ w H',Same H H'->Nw H c w->bf K H' c w->Q w H'
abbrev Ed (X:Cx) (f:Value->Value->Sem Value) (g:Bx->Bx->Option Bx):Prop:=uU X f (rF X.K g)
abbrev nU (X:Cx) (f:Value) (g:List Bx->Option Bx):Prop:=fB X f (rFs X.K g)
theorem uU.imp {X:Cx} {f:Value->Value->Sem Value} {r r':R2} (h:uU X f r) (m:∀ x y H Q,r' x y H Q->r x y H Q):uU X f r':=λpins s σ H x y v u Q I rx ry q=>h pins s σ H x y v u Q I rx ry (m x y H Q q)
theorem fB.imp {X:Cx} {f:Value} {r r':List V->Hp->VK->Prop} (h:fB X f r) (m:∀ x H Q,r' x H Q->r x H Q):fB X f r':=λpins s σ H xs us Q I rx q=>h pins s σ H xs us Q I rx (m xs H Q q)
def b2 (g:Bx->Bx->Option Bx) (fa fb:Ev->Option Bx):Ev->Option Bx:=λρ=>(fa ρ).bind λx=>(fb ρ).bind λy=>g x y
def b1 (g:Bx->Option Bx) (fa:Ev->Option Bx):Ev->Option Bx:=λρ=>(fa ρ).bind g
def cD (g:List Bx->Option Bx) (fs:Ev->Option (List Bx)):Ev->Option Bx:=λρ=>(fs ρ).bind g
theorem bind_some {α β:Type} {o:Option α} {f:α->Option β} {b:β} (h:o.bind f=some b):∃ a,o=some a/\f a=some b:=by
 cases o with
 |none=>cases h
 |some a=>exact⟨a,rfl,h⟩
theorem VL {K:FG_} {g:Bx->Bx->Option Bx} {fa fb:Ev->Option Bx} (σ:L2.St) (H:Hp) (Q:VK) (h:tF K (b2 g fa fb) σ H Q):tOp (rF K g) (tF K fa) (tF K fb) σ H Q:=by
 obtain⟨H0,ρ,c,E,e,q⟩:=h;obtain⟨a,ea,e⟩:=bind_some e;obtain⟨b,eb,e⟩:=bind_some e;refine⟨H0,ρ,a,E,ea,λv H1 s1 n1 r1=>⟨H0,ρ,b,E.grow s1,eb,λu H2 s2 n2 r2=>?_⟩⟩;exact⟨a,b,c,r1.same s2,r2,e,λw H3 s3 n3 r3=>q w H3 ((s1.trans s2).trans s3) (n3.old (s1.trans s2)) r3⟩
theorem convs {K:FG_} {g:List Bx->Option Bx} {fs:Ev->Option (List Bx)} (σ:L2.St) (H:Hp) (Q:VK) (h:tF K (cD g fs) σ H Q):tCB (rFs K g) (tFA K fs) σ H Q:=by
 obtain⟨H0,ρ,c,E,e,q⟩:=h;obtain⟨a,ea,e⟩:=bind_some e;exact⟨H0,ρ,a,E,ea,λv H1 s1 r1=>⟨a,c,r1,e,λw H3 s3 n3 r3=>q w H3 (s1.trans s3) (n3.old s1) r3⟩⟩
section
variable {X:Cx} {a b c e:Expr} {es:List Expr} {fa fb fc f:Ev->Option Bx} {fs:Ev->Option (List Bx)} {pos:Pos}
theorem aO {op:Operator} {g:Bx->Bx->Option Bx} (ho:Ed X (binaryOp op) g) (ha:QV X a fa) (hb:QV X b fb):QV X (.BinOp a op b pos) (b2 g fa fb):=⟨have ha:=ha.run;have hb:=hb.run;FW (abL ho ha hb) VL⟩
theorem N6 {op:CmpOp} {g:Bx->Bx->Option Bx} (ho:Ed X (compareOp op) g) (ha:QV X a fa) (hb:QV X b fb) (hm:behindInMarks op b=false):QV X (.Compare a [op] [b] pos) (b2 g fa fb):=⟨have ha:=ha.run;have hb:=hb.run;FW (Hi ho ha hb hm) VL⟩
def Hx:Bx->Option Bool
 |.z (.bl b)=>some b
 |_=>none
theorem Az {K:FG_} {H:Hp} {b:Bx} {v:V} {k:Bool} (h:bf K H b v) (e:Hx b=some k):v=.bl k:=by
 cases b with
 |z d=>
  cases d<;>first|(cases e;done)|skip;cases e;simpa only[bf,Rep] using h
 |_=>cases e
theorem afq {K:FG_} {f:Ev->Option Bx} (σ:L2.St) (H:Hp) (Q:Bool->Hp->Prop) (h:ZM K (λρ=>(f ρ).bind Hx) σ H Q):tF K f σ H (λx H'=>∃ k,x=.bl k/\Q k H'):=by
 obtain⟨H0,ρ,k,E,e,q⟩:=h;obtain⟨b,eb,e⟩:=bind_some e;exact⟨H0,ρ,b,E,eb,λv H1 s1 n1 r1=>⟨k,Az r1 e,q H1 s1⟩⟩
theorem dY {op:CmpOp} {g:Bx->Bx->Option Bx} (ho:Ed X (compareOp op) g) (ha:QV X a fa) (hb:QV X b fb) (hm:behindInMarks op b=false):QB X (.Compare a [op] [b] pos) (λρ=>(b2 g fa fb ρ).bind Hx):=⟨have ha:=ha.run;have hb:=hb.run;ptM (Zk ho ha hb hm) λσ H Q h=>VL σ H _ (afq σ H Q h)⟩
def ch3 (g g':Bx->Bx->Option Bx) (fa fb fc:Ev->Option Bx):Ev->Option Bx:=λρ=>(fa ρ).bind λx=>(fb ρ).bind λy=>(g x y).bind λr=>(Hx r).bind λk=>if k=true then(fc ρ).bind λw=>g' y w else some (.z (.bl false))
theorem afs {K:FG_} {g g':Bx->Bx->Option Bx} {fa fb fc:Ev->Option Bx} (σ:L2.St) (H:Hp) (Q:VK) (h:tF K (ch3 g g' fa fb fc) σ H Q):Vs (rF K g) (rF K g') (tF K fa) (tF K fb) (tF K fc) σ H Q:=by
 obtain⟨H0,ρ,d,E,e,q⟩:=h;obtain⟨a,ea,e⟩:=bind_some e;obtain⟨b,eb,e⟩:=bind_some e;obtain⟨r,er,e⟩:=bind_some e;obtain⟨k,ek,e⟩:=bind_some e;refine⟨H0,ρ,a,E,ea,λv H1 s1 n1 r1=>⟨H0,ρ,b,E.grow s1,eb,λu H2 s2 n2 r2=>?_⟩⟩;refine⟨a,b,r,r1.same s2,r2,er,λw H3 s3 n3 r3=>⟨k,Az r3 ek,?_⟩⟩;have s03:=(s1.trans s2).trans s3;cases k with
 |false=>
  rw[zw ZA] at e ⊢;cases e;exact q _ H3 s03 trivial (by simp only[bf,Rep])
 |true=>
  rw[zl rfl] at e ⊢;obtain⟨w',ew,e⟩:=bind_some e;refine⟨H0,ρ,w',E.grow s03,ew,λx H4 s4 n4 r4=>?_⟩;exact⟨b,w',d,(r2.same s3).same s4,r4,e,λy H5 s5 n5 r5=>q y H5 ((s03.trans s4).trans s5) (n5.old (s03.trans s4)) r5⟩
theorem VN {op op':CmpOp} {g g':Bx->Bx->Option Bx} (ho:Ed X (compareOp op) g) (ho':Ed X (compareOp op') g') (ha:QV X a fa) (hb:QV X b fb) (hc:QV X c fc) (hm:lastMarks [op,op'] [b,c]=false:=by with_unfolding_all rfl):QV X (.Compare a [op,op'] [b,c] pos) (ch3 g g' fa fb fc):=⟨have ha:=ha.run;have hb:=hb.run;have hc:=hc.run;FW (Vt ho ho' ha hb hc hm) afs⟩
def w6 (ρ:Ev) (i:Nat):Option Bx:=match ρ[i]? with
 |some (some (.o ds))=>some (.l ds)
 |some (some (.m kvs _))=>some (.n kvs)
 |some (some b)=>some b
 |_=>none
theorem J1 {K:FG_} {H0 H:Hp} {σ:L2.St} {ρ:Ev} {i:Nat} {b:Bx} (E:bD K H0 H σ ρ) (e:w6 ρ i=some b):∃ v,σ[i]?=some (some v)/\bf K H b v:=by
 unfold w6 at e;split at e
 ·rename_i ds h;cases e;obtain⟨v,e1,a,vs,e2,q,r⟩:=E.val i _ h;exact⟨v,e1,a,vs,e2,.inl q,r⟩
 ·rename_i ds h;cases e;obtain⟨v,e1,a,vs,e2,q,r⟩:=E.val i _ h;exact⟨v,e1,a,vs,e2,.inl q,r.1⟩
 ·rename_i b' h;cases e;exact E.val i _ h
 ·cases e
theorem vN {ρ:Ev} {i:Nat} {b:Bx} (e:w6 ρ i=some b):rC b=false:=by
 unfold w6 at e;split at e
 ·cases e;rfl
 ·cases e;rfl
 ·rename_i b' h1 h2 h3;cases e;cases b with
  |o ds=>exact absurd rfl (h1 ds)
  |m ds _=>exact absurd rfl (h2 ds _)
  |_=>rfl
 ·cases e
theorem ak (i:Nat) {x:Str} (hN:X.N[i]?=some x:=by rfl) (hv:Y6 X.env.scope x:=by first|exact kU rfl|exact JP (kU rfl)|exact JP (JP rfl)) (hd:(x==("__debug__" : Str))=false:=by decide) (hcd:(x==("__classdict__" : Str))=false:=by decide):QV X (.Name x pos) (λρ=>w6 ρ i):=⟨FW (uT hN hv hd hcd) λσ H Q h=>by
 obtain⟨H0,ρ,b,E,e,q⟩:=h;obtain⟨v,e1,r⟩:=J1 E e;refine⟨v,e1,q v H (Same.refl H) ?_ r⟩;cases b with
 |o ds=>have:=vN e;cases this
 |m ds _=>have:=vN e;cases this
 |_=>trivial⟩
def cB (d:Dt):Ev->Option Bx:=λ_=>some (.z d)
theorem Ti {v:V} {d:Dt} (h:PE X e (tC v)) (r:∀ H,Rep X.K H d v):PV X e (cB d):=FW h λσ H Q q=>by
 obtain⟨H0,ρ,b,E,e,q⟩:=q;cases e;exact q v H (Same.refl H) trivial (r H)
theorem aB {i j}:QV X (.Constant (.int i) j pos) (cB (.int i)):=⟨Ti Nq λH=>by simp only[Rep]⟩
theorem J2 {i j}:QV X (.Constant (.bool i) j pos) (cB (.bl i)):=⟨Ti abG λH=>by simp only[Rep]⟩
theorem ada {j}:QV X (.Constant .none j pos) (cB .non):=⟨Ti acz λH=>by simp only[Rep]⟩
theorem VP {x:Str} {j} (hx:x.length<=sizeLine:=by decide):PV X (.Constant (.str x) j pos) (cB (.str x)):=Ti acA λH=>by unfold Rep;exact⟨rfl,hx⟩
theorem VR {x:Str} {i:Int} {t:Tok} (hg:Gl X x) (hm:X.mg x=some (.int i t)) (hd:(x==("__debug__" : Str))=false:=by decide):QV X (.Name x pos) (cB (.int i)):=⟨Ti (jf hg hm (v:=.int i) ⟨t,rfl⟩ hd) λH=>by simp only[Rep]⟩
theorem V0 {x:Str} {y:Str} {t:Tok} (hg:Gl X x) (hm:X.mg x=some (.str y t)) (hy:y.length<=sizeLine:=by decide) (hd:(x==("__debug__" : Str))=false:=by decide):QV X (.Name x pos) (cB (.str y)):=⟨Ti (jf hg hm (v:=.str y) ⟨t,rfl⟩ hd) λH=>by unfold Rep;exact⟨rfl,hy⟩⟩
def ZP:Bx->Option Bool
 |.z .non=>some false
 |.z (.bl b)=>some b
 |.z (.int i)=>some (i != 0)
 |.z (.str x)=>some ((x.length:Int) != 0)
 |.z (.tup ds)=>some (!ds.isEmpty)
 |.z (.lst ds)=>some (!ds.isEmpty)
 |.l ds=>some (!ds.isEmpty)
 |.o ds=>some (!ds.isEmpty)
 |.z .emp=>none
 |.n _=>none
 |.m _ _=>none
theorem aK.isEmpty {K:FG_} {H:Hp} {ds:List Dt} {vs:List V} (h:aK K H ds vs):(!ds.isEmpty)=!vs.isEmpty:=by
 have:=h.length;cases ds<;>cases vs<;>simp_all
theorem ZQ {K:FG_} {H:Hp} {b:Bx} {v:V} {k:Bool} (r:bf K H b v) (e:ZP b=some k):acQ K v H k:=by
 cases b with
 |z d=>
  cases d with
  |non=>cases e;simp only[bf,Rep] at r;subst r;rfl
  |bl b=>cases e;simp only[bf,Rep] at r;subst r;rfl
  |int b=>cases e;simp only[bf,Rep] at r;subst r;rfl
  |str x=>cases e;simp only[bf,Rep] at r;obtain⟨rfl,h⟩:=r;exact⟨h,rfl⟩
  |tup ds=>
   cases e;simp only[bf,Rep] at r;obtain⟨a,vs,rfl,q,r⟩:=r;exact .inr (.inl ⟨vs,q,r.isEmpty⟩)
  |lst ds=>
   cases e;obtain⟨a,vs,rfl,q,r⟩:=r.FT rfl;exact .inl ⟨vs,q,r.isEmpty⟩
  |emp=>cases e
 |l ds=>
  cases e;obtain⟨a,vs,rfl,q,r⟩:=r.FT rfl;exact .inl ⟨vs,q,r.isEmpty⟩
 |o ds=>
  cases e;obtain⟨a,vs,rfl,q,r⟩:=r.FT rfl;exact .inl ⟨vs,q,r.isEmpty⟩
 |n _=>cases e
 |m _ _=>cases e
theorem Ba (h:QV X e f) (he:∀ whole,isTrue e X.env whole=(do let v <-whole;standAt e.pos;holding [v] (truthy v)):=by intro _;rfl):QB X e (λρ=>(f ρ).bind ZP):=⟨have h:=h.run;ptM (Vu h he) λσ H Q q=>by
 obtain⟨H0,ρ,k,E,e,q⟩:=q;obtain⟨b,eb,e⟩:=bind_some e;exact⟨H0,ρ,b,E,eb,λv H1 s1 n1 r1=>⟨k,ZQ r1 e,q H1 s1⟩⟩⟩
def V1 (p q:Ev->Option Bool):Ev->Option Bool:=λρ=>(p ρ).bind λc=>if c=true then q ρ else some false
def V2 (p q:Ev->Option Bool):Ev->Option Bool:=λρ=>(p ρ).bind λc=>if c=true then some true else q ρ
def J3 (p:Ev->Option Bool):Ev->Option Bool:=λρ=>(p ρ).bind λc=>some (!c)
def PBW (X:Cx) (e:Expr) (f:Ev->Option Bool):Prop:=PW X e (ZM X.K f)
structure QBW (X:Cx) (e:Expr) (f:Ev->Option Bool):Prop where
 run:PBW X e f
variable {p q:Ev->Option Bool} {rest:List Expr}
theorem V3 (ha:QB X a p):QBW X (.BoolOp .And [a] pos) p:=⟨have ha:=ha.run;Zf ha⟩
theorem tY (ha:QB X a p):QBW X (.BoolOp .Or [a] pos) p:=⟨have ha:=ha.run;acB ha⟩
theorem ZR {K:FG_} (σ:L2.St) (H:Hp) (Q:Bool->Hp->Prop) (h:ZM K (V1 p q) σ H Q):aeX (ZM K p) (ZM K q) σ H Q:=by
 obtain⟨H0,ρ,k,E,e,w⟩:=h;obtain⟨c,ec,e⟩:=bind_some e;refine⟨H0,ρ,c,E,ec,λH1 s1=>?_⟩;cases c with
 |true=>rw[zl rfl] at e ⊢;exact⟨H0,ρ,k,E.grow s1,e,λH2 s2=>w H2 (s1.trans s2)⟩
 |false=>rw[zw ZA] at e ⊢;cases e;exact w H1 s1
theorem ade {K:FG_} (σ:L2.St) (H:Hp) (Q:Bool->Hp->Prop) (h:ZM K (V2 p q) σ H Q):tOr (ZM K p) (ZM K q) σ H Q:=by
 obtain⟨H0,ρ,k,E,e,w⟩:=h;obtain⟨c,ec,e⟩:=bind_some e;refine⟨H0,ρ,c,E,ec,λH1 s1=>?_⟩;cases c with
 |true=>rw[zl rfl] at e ⊢;cases e;exact w H1 s1
 |false=>rw[zw ZA] at e ⊢;exact⟨H0,ρ,k,E.grow s1,e,λH2 s2=>w H2 (s1.trans s2)⟩
theorem ZS (ha:QB X a p) (hb:QBW X (.BoolOp .And (b::rest) pos) q):QBW X (.BoolOp .And (a::b::rest) pos) (V1 p q):=⟨have ha:=ha.run;have hb:=hb.run;pwM (acC ha hb) ZR⟩
theorem uV (ha:QB X a p) (hb:QBW X (.BoolOp .Or (b::rest) pos) q):QBW X (.BoolOp .Or (a::b::rest) pos) (V2 p q):=⟨have ha:=ha.run;have hb:=hb.run;pwM (aeY ha hb) ade⟩
theorem N7 (h:QBW X e p):QB X e p:=⟨have h:=h.run;h.pt⟩
theorem Bb (ha:QB X a p):QB X (.UnaryOp .Not a pos) (J3 p):=⟨have ha:=ha.run;ptM (acD ha) λσ H Q h=>by
 obtain⟨H0,ρ,k,E,e,w⟩:=h;obtain⟨c,ec,e⟩:=bind_some e;cases e;exact⟨H0,ρ,c,E,ec,λH1 s1=>w H1 s1⟩⟩
def V4 (fa fb:Ev->Option Bx):Ev->Option Bx:=λρ=>((fa ρ).bind Hx).bind λc=>if c=true then fb ρ else some (.z (.bl false))
theorem adf {op} (h:QV X a fa):QV X (.BoolOp op [a] pos) fa:=⟨have h:=h.run;Nr h⟩
theorem V5 (ha:QV X a fa) (hb:QV X (.BoolOp .And (b::rest) pos) fb):QV X (.BoolOp .And (a::b::rest) pos) (V4 fa fb):=⟨have ha:=ha.run;have hb:=hb.run;FW (Hg ha hb) λσ H Q h=>by
 obtain⟨H0,ρ,k,E,e,w⟩:=h;obtain⟨c,ec,e⟩:=bind_some e;obtain⟨x,ex,ec⟩:=bind_some ec;refine⟨H0,ρ,x,E,ex,λv H1 s1 n1 r1=>⟨c,Az r1 ec,?_⟩⟩;cases c with
 |true=>rw[zl rfl] at e ⊢;exact⟨H0,ρ,k,E.grow s1,e,λv H2 s2 n2 r2=>w v H2 (s1.trans s2) (n2.old s1) r2⟩
 |false=>rw[zw ZA] at e ⊢;cases e;exact w _ H1 s1 trivial (by simp only[bf,Rep])⟩
theorem QT:PVs X [] (λ_=>some []):=paM dJ λσ H Q h=>by
 obtain⟨H0,ρ,bs,E,e,q⟩:=h;cases e;exact q [] H (Same.refl H) .nil
def aq (f:Ev->Option Bx) (fs:Ev->Option (List Bx)):Ev->Option (List Bx):=λρ=>(f ρ).bind λb=>(fs ρ).bind λbs=>some (b::bs)
theorem J4 (h1:PV X e f) (h2:PVs X es fs) (hs:starEach (e::es) X.env=(false,eval e X.env)::starEach es X.env:=by rfl):PVs X (e::es) (aq f fs):=paM (aV h1 h2 hs) λσ H Q h=>by
 obtain⟨H0,ρ,bs,E,e,q⟩:=h;obtain⟨b,eb,e⟩:=bind_some e;obtain⟨bs',ebs,e⟩:=bind_some e;cases e;refine⟨H0,ρ,b,E,eb,λv H1 s1 n1 r1=>⟨H0,ρ,bs',E.grow s1,ebs,λvs H2 s2 r2=>?_⟩⟩;exact q (v::vs) H2 (s1.trans s2) (.cons (r1.same s2) r2)
def vH:Bx->Option Bx
 |.z d=>some (.z d)
 |.o ds=>some (.z (.lst ds))
 |.l _=>none
 |.n _=>none
 |.m _ _=>none
theorem N8 {pins:List (Addr×Obj)} {σ:L2.St} {H:Hp} {s:Shared} {a:Addr} {vs:List V} (I:L2.Inv X pins σ H s) (h:H a=some (.lst vs)):∃ o,L2.Inv X pins σ (upd H a (.pY o (.lst vs))) s:=by
 obtain⟨z,its,n,r,e⟩:=I.hok a _ h;refine⟨{ cls:=.type "list", data:=.seq its.toArray n },⟨I.ok,I.os,I.bare,⟨I.base.keep,I.base.slot,λb ob q1 q2 q3=>?_,I.base.there,λb xs q=>?_,λb ob u q=>?_,λb ps q=>?_⟩,I.loc,I.cell,?_,λx c q=>?_,λp hp=>?_,?_,I.len⟩⟩
 ·have:=I.base.free b ob q1 q2 q3;rw[aG (bw h this).symm];exact this
 ·have:=I.base.tups b xs q;rw[aG (iw this h (by intro z;cases z))];exact this
 ·have:=I.base.rB b ob u q;rw[aG (iw this h (by intro z;cases z))];exact this
 ·obtain⟨m,this⟩:=I.base.uR b ps q;rw[aG (iw this h (by intro z;cases z))];exact⟨m,this⟩
 ·rw[aG (bw h I.free).symm];exact I.free
 ·rw[aG (bw h (I.gZ x c q)).symm];exact I.gZ x c q
 ·obtain⟨q1,q2,q3⟩:=I.pin p hp;refine⟨q1,?_,q3⟩;rw[aG (bw h q2).symm];exact q2
 ·intro b u q;by_cases hb:b=a
  ·subst hb;rw[aQ] at q;cases q;exact⟨e,z,its,n,r,e⟩
  ·rw[aG hb] at q;refine(I.hok b u q).stay (λc v _ w=>w) (λc w=>?_) λc xs w=>?_
   ·rw[aG (iw w h (by intro z;cases z))];exact w
   ·rw[aG (iw w h (by intro z;cases z))];exact w
theorem fP (h:QV X e f):QV X e (b1 vH f):=⟨by
 have h:=h.run;intro pins s σ H Q I q;obtain⟨H0,ρ,b,E,e,q⟩:=q;obtain⟨x,ex,e⟩:=bind_some e;cases x with
 |z d=>
  cases e;exact h pins s σ H Q I ⟨H0,ρ,_,E,ex,λv H' s' n' r'=>q v H' s' trivial r'⟩
 |l ds=>cases e
 |n ds=>cases e
 |m ds _=>cases e
 |o ds=>
  cases e;refine gF (h pins s σ H (λv H'=>Same H H'/\Nw H (.o ds) v/\bf X.K H' (.o ds) v) I ⟨H0,ρ,_,E,ex,λv H' s' n' r'=>⟨s',n',r'⟩⟩) λu s1 hq=>?_;obtain⟨v,H1,I1,rv,s',n',r'⟩:=hq;obtain⟨a,vs,rfl,ha,rs⟩:=r';obtain⟨o,I2⟩:=N8 I1 ha;refine⟨.ref a,_,I2,rv,q _ _ (λc ob hc=>?_) trivial ?_⟩
  ·rw[aG (bw hc (n' a rfl))];exact s' c ob hc
  ·simp only[bf,Rep];exact⟨a,vs,rfl,.inl ⟨o,aQ⟩,rs.kp (.lst ha)⟩⟩
def Hy:List Bx->Option (List Dt)
 |[]=>some []
 |.z d::r=>(Hy r).bind λds=>some (d::ds)
 |_=>none
theorem Bc {K:FG_} {H:Hp}:∀ {bs:List Bx} {vs:List V} {ds:List Dt},pC K H bs vs->Hy bs=some ds->aK K H ds vs
 |_,_,_,.nil,e=>by cases e;exact aK.nil
 |b::bs,_,_,.cons h t,e=>by
  cases b with
  |z d=>
   simp only[Hy] at e;obtain⟨ds',e1,e2⟩:=bind_some e;cases e2;exact aK.cons h (Bc t e1)
  |_=>cases e
theorem Bd:∀ {bs:List Bx} {ds:List Dt},Hy bs=some ds->ds.length=bs.length
 |[],_,e=>by cases e;rfl
 |.z d::r,_,e=>by
  simp only[Hy] at e;obtain⟨ds',e1,e2⟩:=bind_some e;cases e2;simp[Bd e1]
 |.l _::_,_,e=>by cases e
 |.o _::_,_,e=>by cases e
 |.n _::_,_,e=>by cases e
 |.m _ _::_,_,e=>by cases e
def pD (bs:List Bx):Option Bx:=if bs.length<=1000 then(Hy bs).bind λds=>some (.z (.tup ds)) else none
def jV (bs:List Bx):Option Bx:=if bs.length<=1000 then(Hy bs).bind λds=>some (.o ds) else none
theorem bG {H:Hp} {p:Addr} {o:HO} (h:H p=none):Same H (upd H p o):=λb u e=>by rw[aG (bw e h)];exact e
theorem abT {n:Nat} (h:n<=1000):n<=sizeLine:=Zs h (by decide)
theorem mV {x1} (h:Tf X es fs):QV X (.Tuple es x1 pos) (cD pD fs):=⟨have h:=h.run;FW (acS h) λσ H Q q=>by
 obtain⟨H0,ρ,c,E,e,q⟩:=q;obtain⟨bs,ebs,e⟩:=bind_some e;refine⟨H0,ρ,bs,E,ebs,λvs H1 s1 r1=>?_⟩;unfold pD at e;split at e
 ·rename_i hl;obtain⟨ds,e1,e⟩:=bind_some e;cases e;have r2:=Bc r1 e1;refine⟨abT (by rw[r2.length,Bd e1];exact hl),λp hp=>q _ _ (s1.trans (bG hp)) trivial ?_⟩;simp only[bf,Rep];exact⟨p,vs,rfl,.inl (.inl aQ),r2.kp (.of (bG hp))⟩
 ·cases e⟩
theorem fL (h:Tf X es fs):QV X (.List es pos) (cD jV fs):=⟨have h:=h.run;FW (NK h) λσ H Q q=>by
 obtain⟨H0,ρ,c,E,e,q⟩:=q;obtain⟨bs,ebs,e⟩:=bind_some e;refine⟨H0,ρ,bs,E,ebs,λvs H1 s1 r1=>?_⟩;unfold jV at e;split at e
 ·rename_i hl;obtain⟨ds,e1,e⟩:=bind_some e;cases e;have r2:=Bc r1 e1;refine⟨abT (by rw[r2.length,Bd e1];exact hl),λp hp=>q _ _ (s1.trans (bG hp)) (λa ea=>by cases ea;exact s1.free hp) ?_⟩;exact⟨p,vs,rfl,aQ,r2.kp (.of (bG hp))⟩
 ·cases e⟩
theorem bH {x:Str} {id:String} {g:List Bx->Option Bx} {p:Pos} (hc:nU X (.builtin id) g) (hg:Gl X x) (hm:X.mg x=none) (hv:bootBuiltins x=some (.builtin id)) (ha:Tf X (e::es) fs) (hn:x ≠ "__name__" := by decide) (hdb:(x==("__debug__" : Str))=false:=by decide) (he:starEach (e::es) X.env=(false,eval e X.env)::starEach es X.env:=by rfl) (hpl:(backTo pos (starEach es X.env)).any (·.1)=false:=by rfl):QV X (.Call (.Name x p) (e::es) [] pos) (cD g fs):=⟨have ha:=ha.run;FW (dZ hc hg hm hv ha hn hdb he hpl) convs⟩
theorem gJ {x:Str} {T:String} {g:List Bx->Option Bx} {p:Pos} (hc:nU X (.type T) g) (hg:Gl X x) (hm:X.mg x=none) (hv:bootBuiltins x=some (.type T)) (ha:Tf X (e::es) fs) (hn:x ≠ "__name__" := by decide) (hdb:(x==("__debug__" : Str))=false:=by decide) (he:starEach (e::es) X.env=(false,eval e X.env)::starEach es X.env:=by rfl) (hpl:(backTo pos (starEach es X.env)).any (·.1)=false:=by rfl):QV X (.Call (.Name x p) (e::es) [] pos) (cD g fs):=⟨have ha:=ha.run;FW (FJ hc hg hm hv ha hn hdb he hpl) convs⟩
end
inductive Out where
 |nx (ρ:Ev)|rt (b:Bx)|bk (ρ:Ev)|ct (ρ:Ev)
def V6 (K:FG_) (H0:Hp) (D:Ends):Out->Prop
 |.nx ρ=>∀ σ H,bD K H0 H σ ρ->D.nx σ H
 |.rt b=>∀ v H,Same H0 H->Nw H0 b v->bf K H b v->D.rt v H
 |.bk ρ=>∀ σ H,bD K H0 H σ ρ->D.bk σ H
 |.ct ρ=>∀ σ H,bD K H0 H σ ρ->D.ct σ H
def tG (K:FG_) (g:Ev->Option Out):TS:=λD σ H=>∃ H0 ρ r,bD K H0 H σ ρ/\g ρ=some r/\V6 K H0 D r
def PG1 (X:Cx) (st:Stmt) (g:Ev->Option Out):Prop:=PS X st (tG X.K g)
structure QW (X:Cx) (st:Stmt) (g:Ev->Option Out):Prop where
 run:PG1 X st g
def Vo (X:Cx) (st:List Stmt) (g:Ev->Option Out):Prop:=zL X st (tG X.K g)
structure Vf (X:Cx) (st:List Stmt) (g:Ev->Option Out):Prop where
 run:Vo X st g
def aH (g1 g2:Ev->Option Out):Ev->Option Out:=λρ=>(g1 ρ).bind λr=>match r with
 |.nx ρ'=>g2 ρ'
 |r=>some r
section
variable {X:Cx} {a b c e:Expr} {es:List Expr} {fa fb fc f:Ev->Option Bx} {fs:Ev->Option (List Bx)} {pos:Pos} {st:Stmt} {rest:List Stmt} {g g1 g2:Ev->Option Out}
theorem aU  : Vf X [] (λρ=>some (.nx ρ)):=⟨ac9 Zg λD σ H h=>by
 obtain⟨H0,ρ,r,E,e,q⟩:=h;cases e;exact q σ H E⟩
theorem aD (h1:QW X st g1) (h2:Vf X rest g2):Vf X (st::rest) (aH g1 g2):=⟨have h1:=h1.run;have h2:=h2.run;ac9 (o9 h1 h2) λD σ H h=>by
 obtain⟨H0,ρ,r,E,e,q⟩:=h;obtain⟨r1,e1,e⟩:=bind_some e;refine⟨H0,ρ,r1,E,e1,?_⟩;cases r1 with
 |nx ρ'=>exact λσ' H' E'=>⟨H0,ρ',r,E',e,q⟩
 |rt b=>cases e;exact q
 |bk ρ'=>cases e;exact q
 |ct ρ'=>cases e;exact q⟩
def V7:Bx->Option Out
 |.l _=>none
 |.n _=>none
 |b=>some (.rt b)
theorem dM (h:QV X e f):QW X (.Return (some e) pos) (λρ=>(f ρ).bind V7):=⟨have h:=h.run;Tg (Hh h) λD σ H h=>by
 obtain⟨H0,ρ,r,E,e,q⟩:=h;obtain⟨b,eb,e⟩:=bind_some e;refine⟨H0,ρ,b,E,eb,λv H1 s1 n1 r1=>?_⟩;cases b with
 |l ds=>cases e
 |z d=>cases e;exact q v H1 (E.base.trans s1) trivial r1
 |o ds=>cases e;exact q v H1 (E.base.trans s1) (n1.old E.base) r1
 |n ds=>cases e
 |m ds _=>cases e;exact q v H1 (E.base.trans s1) (n1.old E.base) r1⟩
def Ef (i:Nat) (ρ:Ev):Option Out:=match ρ[i]? with
 |some (some b)=>V7 b
 |_=>none
theorem Hz (i:Nat) {x:Str} {p:Pos} (hN:X.N[i]?=some x:=by rfl) (hv:Y6 X.env.scope x:=by first|exact kU rfl|exact JP (kU rfl)|exact JP (JP rfl)) (hd:(x==("__debug__" : Str))=false:=by decide) (hcd:(x==("__classdict__" : Str))=false:=by decide):QW X (.Return (some (.Name x p)) pos) (Ef i):=⟨Tg (Hh (uT hN hv hd hcd)) λD σ H h=>by
 obtain⟨H0,ρ,r,E,e,q⟩:=h;unfold Ef at e;split at e
 ·rename_i b hb;obtain⟨v,e1,r1⟩:=E.val i b hb;refine⟨v,e1,?_⟩;cases b with
  |l ds=>cases e
  |z d=>cases e;exact q v H E.base trivial r1
  |o ds=>cases e;exact q v H E.base (λa ea=>E.new i _ a hb rfl (by rw[e1,ea])) r1
  |n ds=>cases e
  |m ds _=>cases e;exact q v H E.base (λa ea=>E.new i _ a hb rfl (by rw[e1,ea])) r1
 ·cases e⟩
def HB (p:Ev->Option Bool) (g1 g2:Ev->Option Out):Ev->Option Out:=λρ=>(p ρ).bind λk=>if k=true then g1 ρ else g2 ρ
theorem pF {p:Ev->Option Bool} {u v:List Stmt} (hc:QB X c p) (ha:Vf X u g1) (hb:Vf X v g2):QW X (.If c u v pos) (HB p g1 g2):=⟨have hc:=hc.run;have ha:=ha.run;have hb:=hb.run;Tg (abH hc ha hb) λD σ H h=>by
 obtain⟨H0,ρ,r,E,e,q⟩:=h;obtain⟨k,ek,e⟩:=bind_some e;refine⟨H0,ρ,k,E,ek,λH1 s1=>?_⟩;cases k with
 |true=>rw[zl rfl] at e ⊢;exact⟨H0,ρ,r,E.grow s1,e,q⟩
 |false=>rw[zw ZA] at e ⊢;exact⟨H0,ρ,r,E.grow s1,e,q⟩⟩
theorem getset {α:Type} {l:List α} {i j:Nat} {x y:α} (h:(l.set i x)[j]?=some y):(j=i/\y=x/\i < l.length)\/(j≠i/\l[j]?=some y):=by
 rw[Kt] at h;by_cases e:i=j
 ·subst e;rw[zl rfl] at h;split at h
  ·cases h;exact .inl ⟨rfl,rfl,by assumption⟩
  ·cases h
 ·rw[zw e] at h;exact .inr ⟨λz=>e z.symm,h⟩
theorem Bf {α:Type} {l:List α} {i:Nat} (x:α) (h:i < l.length):(l.set i x)[i]?=some x:=by
 rw[Kt,zl rfl,zl h]
theorem Bg {α:Type} {l:List α} {i j:Nat} (x:α) (h:j≠i):(l.set i x)[j]?=l[j]?:=by
 rw[Kt,zw (js h)]
theorem bD.set {K:FG_} {H0 H H1:Hp} {σ:L2.St} {ρ:Ev} {i:Nat} {b:Bx} {v:V} (E:bD K H0 H σ ρ) (s:Same H H1) (r:bf K H1 b v) (hl:rC b=true\/loose b=false) (n:Nw H b v):bD K H0 H1 (σ.set i (some v)) (ρ.set i (some b)):=by
 have E1:=E.grow s;have apart:∀ (j:Nat) (b':Bx) (a:Addr),ρ[j]?=some (some b')->loose b'=true->σ[j]?=some (some (.ref a))->H a≠none:=λj b' a e1 e2 e3 z=>by
  obtain⟨v',e4,r'⟩:=E.val j b' e1;rw[e3] at e4;cases e4;cases b' with
  |z d=>cases e2
  |l ds=>
   obtain⟨a',vs,e5,q,_⟩:=r';cases e5;rcases q with q|⟨o,q⟩<;>(rw[z] at q;cases q)
  |o ds=>
   obtain⟨a',vs,e5,q,_⟩:=r';cases e5;rw[z] at q;cases q
  |n ds=>
   obtain⟨a',vs,e5,q,_⟩:=r';cases e5;rcases q with q|⟨o,q⟩<;>(rw[z] at q;cases q)
  |m ds _=>
   obtain⟨a',vs,e5,q,_⟩:=r';cases e5;rw[z] at q;cases q
 have nw:rC b=true->∀ a,v=.ref a->H a=none:=λho=>by
  cases b with
  |o ds=>exact n
  |m ds _=>exact n
  |_=>cases ho
 refine⟨by rw[JY,JY];exact E.len,λj b' e=>?_,λj k c a b' e1 ec e2 e3 e4 e5=>?_,E1.base,λj c a e1 ec e2=>?_⟩
 ·rcases getset e with⟨rfl,e',hi⟩|⟨hne,e'⟩
  ·cases e';exact⟨v,Bf _ (by rw[E.len];exact hi),r⟩
  ·rw[Bg _ hne];exact E1.val j b' e'
 ·rcases getset e1 with⟨rfl,e',hi⟩|⟨hne,e'⟩
  ·cases e';rw[Bf _ (by rw[E.len];exact hi)] at e2;cases e2;rcases getset e3 with⟨rfl,e3',_⟩|⟨ZV,e3'⟩
   ·rfl
   ·rw[Bg _ ZV] at e5;exact absurd (nw ec a rfl) (apart k b' a e3' e4 e5)
  ·rw[Bg _ hne] at e2;rcases getset e3 with⟨rfl,e3',hi⟩|⟨ZV,e3'⟩
   ·cases e3';rw[Bf _ (by rw[E.len];exact hi)] at e5;cases e5;have hlo:loose c=true:=by cases c<;>first|rfl|cases ec
    rcases hl with hl|hl
    ·exact absurd (nw hl a rfl) (apart j _ a e' hlo e2)
    ·rw[hl] at e4;cases e4
   ·rw[Bg _ ZV] at e5;exact E.own j k c a b' e' ec e2 e3' e4 e5
 ·rcases getset e1 with⟨rfl,e',hi⟩|⟨hne,e'⟩
  ·cases e';rw[Bf _ (by rw[E.len];exact hi)] at e2;cases e2;exact E.base.free (nw ec a rfl)
  ·rw[Bg _ hne] at e2;exact E.new j c a e' ec e2
def V8 (ρ:Ev) (i:Nat):Bx->Option Ev
 |.l _=>none
 |.n _=>none
 |b=>some (ρ.set i (some b))
theorem ZW {K:FG_} {H0 H H1:Hp} {σ:L2.St} {ρ ρ':Ev} {i:Nat} {b:Bx} {v:V} (E:bD K H0 H σ ρ) (s:Same H H1) (r:bf K H1 b v) (n:Nw H b v) (e:V8 ρ i b=some ρ'):bD K H0 H1 (σ.set i (some v)) ρ':=by
 cases b with
 |l ds=>cases e
 |z d=>cases e;exact E.set s r (.inr rfl) n
 |o d=>cases e;exact E.set s r (.inl rfl) n
 |n ds=>cases e
 |m d _=>cases e;exact E.set s r (.inl rfl) n
theorem bF (i:Nat) {x:Str} {p:Pos} (hN:X.N.Nodup) (he:QV X e f) (hi:X.N[i]?=some x:=by rfl) (hx:Loc X.env.scope x:=by first|exact kU rfl|exact JP rfl) (hs:swapsWith e (some (.Name x p)) pos.line X.env=pure false:=by rfl) (hf:X.fn x=true\/X.env.scope.names.lookup x=some .local:=by first|exact .inl rfl|exact .inr rfl):QW X (.Assign [.Name x p] e pos) (λρ=>(f ρ).bind λb=>(V8 ρ i b).bind λρ'=>some (.nx ρ')):=⟨have he:=he.run;Tg (Ao hN hi hx he hs hf) λD σ H h=>by
 obtain⟨H0,ρ,r,E,e,q⟩:=h;obtain⟨b,eb,e⟩:=bind_some e;obtain⟨ρ',eρ,e⟩:=bind_some e;cases e;exact⟨H0,ρ,b,E,eb,λv H1 s1 n1 r1=>q _ _ (ZW E s1 r1 n1 eρ)⟩⟩
def Lo (σ:L2.St) (ρ:Ev) (σ':L2.St) (ρ':Ev):Prop:=∀ (j:Nat) b,loose b=true->ρ'[j]?=some (some b)->ρ[j]?=some (some b)/\σ'[j]?=σ[j]?
theorem Lo.refl {σ:L2.St} {ρ:Ev}:Lo σ ρ σ ρ:=λ_ _ _ e=>⟨e,rfl⟩
theorem Lo.trans {σ σ1 σ2:L2.St} {ρ ρ1 ρ2:Ev} (a:Lo σ ρ σ1 ρ1) (b:Lo σ1 ρ1 σ2 ρ2):Lo σ ρ σ2 ρ2:=λj c l e=>by
 obtain⟨e1,e2⟩:=b j c l e;obtain⟨e3,e4⟩:=a j c l e1;exact⟨e3,e2.trans e4⟩
theorem Lo.set {σ:L2.St} {ρ:Ev} (i:Nat) (v:V) (d:Dt):Lo σ ρ (σ.set i (some v)) (ρ.set i (some (.z d))):=λj b l e=>by
 rcases getset e with⟨rfl,e',_⟩|⟨hne,e'⟩
 ·cases e';cases l
 ·exact⟨e',Bg _ hne⟩
def tgF (K:FG_) (g:Dt->Ev->Option Ev):TG:=λv σ H Q=>∃ H0 ρ d ρ',bD K H0 H σ ρ/\Rep K H d v/\g d ρ=some ρ'/\∀ σ',bD K H0 H σ' ρ'->Lo σ ρ σ' ρ'->Q σ' H
def PTg (X:Cx) (t:Expr) (g:Dt->Ev->Option Ev):Prop:=PG X t (tgF X.K g)
structure ZX (X:Cx) (t:Expr) (g:Dt->Ev->Option Ev):Prop where
 run:PTg X t g
theorem aW (i:Nat) {x:Str} (hN:X.N.Nodup) (hi:X.N[i]?=some x:=by rfl) (hx:Loc X.env.scope x:=by first|exact kU rfl|exact JP rfl) (hf:X.fn x=true\/X.env.scope.names.lookup x=some .local:=by first|exact .inl rfl|exact .inr rfl):ZX X (.Name x pos) (λd ρ=>some (ρ.set i (some (.z d)))):=⟨λpins s σ H v u Q I r h=>by
 obtain⟨H0,ρ,d,ρ',E,rd,e,q⟩:=h;cases e;exact QH hN hi hx hf pins s σ H v u Q I r (q _ (E.set (b:=.z d) (Same.refl H) rd (.inr rfl) trivial) (Lo.set i v d))⟩
def ahv (K:FG_) (g:List Dt->Ev->Option Ev):TGs:=λvs σ H Q=>∃ H0 ρ ds ρ',bD K H0 H σ ρ/\aK K H ds vs/\g ds ρ=some ρ'/\∀ σ',bD K H0 H σ' ρ'->Lo σ ρ σ' ρ'->Q σ' H
def ahw (X:Cx) (t:List Expr) (g:List Dt->Ev->Option Ev):Prop:=L2.Vo X t (ahv X.K g)
structure Z0 (X:Cx) (t:List Expr) (g:List Dt->Ev->Option Ev):Prop where
 run:ahw X t g
def Bh:List Dt->Ev->Option Ev
 |[],ρ=>some ρ
 |_,_=>none
def dF (g:Dt->Ev->Option Ev) (gs:List Dt->Ev->Option Ev):List Dt->Ev->Option Ev
 |d::ds,ρ=>(g d ρ).bind (gs ds)
 |_,_=>none
theorem zR  : Z0 X [] Bh:=⟨λpins s σ H vs us Q I r h=>by
 obtain⟨H0,ρ,ds,ρ',E,rd,e,q⟩:=h;cases ds with
 |nil=>cases e;unfold aK at rd;exact Zh pins s σ H vs us Q I r ⟨rd,q _ E Lo.refl⟩
 |cons d ds=>cases e⟩
theorem c7 {t:Expr} {ts:List Expr} {gt:Dt->Ev->Option Ev} {gs:List Dt->Ev->Option Ev} (h1:ZX X t gt) (h2:Z0 X ts gs) (hs:(assignEach (t::ts) X.env).map (·.2)=assign t X.env::(assignEach ts X.env).map (·.2):=by rfl):Z0 X (t::ts) (dF gt gs):=⟨have h1:=h1.run;have h2:=h2.run;λpins s σ H vs us Q I r h=>by
 obtain⟨H0,ρ,ds,ρ',E,rd,e,q⟩:=h;cases ds with
 |nil=>cases e
 |cons d ds=>
  unfold aK at rd;obtain⟨v,vr,rfl,r1,r2⟩:=rd;simp only[dF] at e;obtain⟨ρ1,e1,e⟩:=bind_some e;exact Vp h1 h2 hs pins s σ H _ us Q I r ⟨v,vr,rfl,H0,ρ,d,ρ1,E,r1,e1,λσ1 E1 L1=>⟨H0,ρ1,ds,ρ',E1,r2,e,λσ2 E2 L2=>q σ2 E2 (L1.trans L2)⟩⟩⟩
def vO (n:Nat) (gs:List Dt->Ev->Option Ev):Dt->Ev->Option Ev
 |.tup ds,ρ=>if ds.length=n then gs ds ρ else none
 |_,_=>none
theorem HD {ts:List Expr} {k n:Nat} {gs:List Dt->Ev->Option Ev} (hc:X.calm=true) (h:Z0 X ts gs) (hn:(assignEach ts X.env).length=n:=by rfl) (hst:(assignEach ts X.env).findIdx? (·.1)=none:=by rfl):ZX X (.Tuple ts k pos) (vO n gs):=⟨have h:=h.run;λpins s σ H v u Q I r hw=>by
 obtain⟨H0,ρ,d,ρ',E,rd,e,q⟩:=hw;cases d with
 |tup ds=>
  simp only[vO] at e;split at e
  ·rename_i hl;unfold Rep at rd;obtain⟨a,vs,rfl,hq,rs⟩:=rd;exact acF hc h hn hst pins s σ H _ u Q I r ⟨a,vs,rfl,hq,by rw[rs.length];exact hl,H0,ρ,ds,ρ',E,rs,e,q⟩
  ·cases e
 |_=>cases e⟩
def Z1 (i j:Nat) (ρ:Ev):List Bx->Option Out
 |[.z d,.z d']=>some (.nx ((ρ.set i (some (.z d))).set j (some (.z d'))))
 |_=>none
theorem Oa (i j:Nat) {x y:Str} {px py pt:Pos} {kt k2 pt2} (hc:X.calm=true) (hN:X.N.Nodup) (ha:Tf X [a,b] fs) (hi:X.N[i]?=some x:=by rfl) (hj:X.N[j]?=some y:=by rfl) (hij:i≠j:=by decide) (hx:X.env.scope.names.lookup x=some .local:=by rfl) (hy:X.env.scope.names.lookup y=some .local:=by rfl) (hw:swappedStores [.Tuple [.Name x px,.Name y py] kt pt] (.Tuple [a,b] k2 pt2) X.env=pure (some [x,y]):=by rfl) (hs:swapsWithSole [.Tuple [.Name x px,.Name y py] kt pt] (.Tuple [a,b] k2 pt2) pos.line X.env=pure false:=by rfl):QW X (.Assign [.Tuple [.Name x px,.Name y py] kt pt] (.Tuple [a,b] k2 pt2) pos) (λρ=>(fs ρ).bind (Z1 i j ρ)):=⟨have ha:=ha.run;Tg (acG hc hN hi hj hij hx hy ha hw hs) λD σ H h=>by
 obtain⟨H0,ρ,r,E,e,q⟩:=h;obtain⟨bs,eb,e⟩:=bind_some e;refine⟨H0,ρ,bs,E,eb,λvs H1 s1 r1=>?_⟩;unfold Z1 at e;split at e
 ·rename_i d d';cases e;cases r1 with
  |cons p t=>
   cases t with
   |cons p' t'=>
    cases t';refine⟨_,_,rfl,q _ _ ?_⟩;exact((E.grow s1).set (b:=.z d) (Same.refl H1) p (.inr rfl) trivial).set (b:=.z d') (Same.refl H1) p' (.inr rfl) trivial
 ·cases e⟩
def Z2 (ρ:Ev) (i:Nat):Bx->Option Out
 |.z d=>match ρ[i]? with
  |some (some (.o ds))=>if ds.length < sizeLine then some (.nx (ρ.set i (some (.o (ds++[d]))))) else none
  |_=>none
 |_=>none
theorem bD.afv {K:FG_} {H0 H:Hp} {σ:L2.St} {ρ:Ev} {i:Nat} {c0 c1:Bx} {a:Addr} {u:HO} (E:bD K H0 H σ ρ) (h:ρ[i]?=some (some c0)) (ho:rC c0=true) (hs:σ[i]?=some (some (.ref a))) (k:Kp H (upd H a u)) (r:bf K (upd H a u) c1 (.ref a)) :
  bD K H0 (upd H a u) σ (ρ.set i (some c1)):=by
 have hi:i < ρ.length:=(List.getElem?_eq_some_iff.mp h).1;have hb:H0 a=none:=E.new i c0 a h ho hs;have lo:∀ c,rC c=true->loose c=true:=λc hc=>by cases c<;>first|rfl|cases hc
 refine⟨by rw[JY];exact E.len,λj b' e=>?_,λj k' c a' b' e1 ec e2 e3 e4 e5=>?_,λc o e=>?_,λj c a' e1 ec e2=>?_⟩
 ·rcases getset e with⟨rfl,e',_⟩|⟨hne,e'⟩
  ·cases e';exact⟨_,hs,r⟩
  ·obtain⟨v,e1,r'⟩:=E.val j b' e';refine⟨v,e1,?_⟩;have away:∀ a',v=.ref a'->loose b'=true->a'≠a:=λa' ev hl z=>by
    subst z;exact hne (E.own i j c0 _ _ h ho hs e' hl (by rw[e1,ev])).symm
   cases b' with
   |z d=>exact Rep.kp k r'
   |l ds'=>
    obtain⟨a',vs',rfl,q,rr⟩:=r';refine⟨a',vs',rfl,?_,rr.kp k⟩;have hn:=away a' rfl rfl;rcases q with q|⟨o,q⟩
    ·exact .inl (by rw[aG hn];exact q)
    ·exact .inr ⟨o,by rw[aG hn];exact q⟩
   |o ds'=>
    obtain⟨a',vs',rfl,q,rr⟩:=r';have hn:=away a' rfl rfl;exact⟨a',vs',rfl,by rw[aG hn];exact q,rr.kp k⟩
   |n ds'=>
    obtain⟨a',vs',rfl,q,rr⟩:=r';refine⟨a',vs',rfl,?_,rr.kp k⟩;have hn:=away a' rfl rfl;rcases q with q|⟨o,q⟩
    ·exact .inl (by rw[aG hn];exact q)
    ·exact .inr ⟨o,by rw[aG hn];exact q⟩
   |m ds'=>
    obtain⟨a',vs',rfl,q,rr⟩:=r';have hn:=away a' rfl rfl;exact⟨a',vs',rfl,by rw[aG hn];exact q,rr.1.kp k,rr.2⟩
 ·have back:∀ (m:Nat) (b:Bx),(ρ.set i (some c1))[m]?=some (some b)->loose b=true->∃ b0,ρ[m]?=some (some b0)/\loose b0=true/\(rC b=true->rC b0=true):=λm b e l=>by
   rcases getset e with⟨rfl,e',_⟩|⟨hne,e'⟩
   ·exact⟨_,h,lo _ ho,λ_=>ho⟩
   ·exact⟨b,e',l,λz=>z⟩
  obtain⟨b0,q1,q2,q3⟩:=back j _ e1 (lo _ ec);obtain⟨b1,q4,q5,_⟩:=back k' _ e3 e4;exact E.own j k' b0 a' b1 q1 (q3 ec) e2 q4 q5 e5
 ·rw[aG (bw e hb)];exact E.base c o e
 ·rcases getset e1 with⟨rfl,e',_⟩|⟨hne,e'⟩
  ·exact E.new _ c0 a' h ho e2
  ·exact E.new j c a' e' ec e2
theorem bD.ac2 {K:FG_} {H0 H:Hp} {σ:L2.St} {ρ:Ev} {i:Nat} {ds es:List Dt} {a:Addr} {vs us:List V} (E:bD K H0 H σ ρ) (h:ρ[i]?=some (some (.o ds))) (hs:σ[i]?=some (some (.ref a))) (ha:H a=some (.lst vs)) (r:aK K H es us) :
  bD K H0 (upd H a (.lst us)) σ (ρ.set i (some (.o es))):=E.afv h rfl hs (.lst ha) ⟨a,us,rfl,aQ,r.kp (.lst ha)⟩
theorem xg (i:Nat) {x:Str} {p apos cpos:Pos} (he:QV X e f) (hN:X.N[i]?=some x:=by rfl) (hv:Y6 X.env.scope x:=by first|exact kU rfl|exact JP (kU rfl)|exact JP (JP rfl)) (hd:(x==("__debug__" : Str))=false:=by decide) (hcd:(x==("__classdict__" : Str))=false:=by decide) (hst:starEach [e] X.env=[(false,eval e X.env)]:=by rfl) (hbase:attributeBase (.Name x p) "append" X.env (eval (.Name x p) X.env)=eval (.Name x p) X.env:=by rfl) (hfew:((backTo cpos (starEach [e] X.env)).all (λx=>!x.1)&&(backToKw cpos (keywordEach [] X.env)).all (λx=>x.1.isSome)&&decide ([e].length+([]:List Keyword).length+(if([]:List Keyword).isEmpty then 0 else 1) < 30))=true:=by rfl) (hline:(apos.endLine==cpos.line)=true:=by rfl) (hs:swapsWith (.Call (.Attribute (.Name x p) "append" apos) [e] [] cpos) none pos.line X.env=pure false:=by rfl):QW X (.Expr (.Call (.Attribute (.Name x p) "append" apos) [e] [] cpos) pos) (λρ=>(f ρ).bind (Z2 ρ i)):=⟨have he:=he.run;Tg (zO (abO PySem.F.plainAttrs_list PySem.F.slot_list_append PySem.F.type_list_append FP (uT (i:=i) hN hv hd hcd) (aV he dJ (by rw[hst]<;>rfl)) hbase hfew hline (by rw[hst]<;>rfl) rfl) hs) λD σ H h=>by
  obtain⟨H0,ρ,r,E,e,q⟩:=h;obtain⟨b,eb,e⟩:=bind_some e;cases b with
  |z d=>
   simp only[Z2] at e;split at e
   ·rename_i ds hρ;split at e
    ·rename_i hl;cases e;obtain⟨v,e1,a,vs,rfl,ha,rs⟩:=E.val i _ hρ;refine⟨_,e1,.inl ⟨rfl,vs,.inl (.inl ha)⟩,H0,ρ,_,E,eb,λu H1 s1 n1 r1=>?_⟩;have E1:=E.grow s1;refine⟨a,vs,u,rfl,rfl,s1 _ _ ha,by rw[rs.length];exact hl,q _ _ ?_⟩;exact E1.ac2 hρ e1 (s1 _ _ ha) ((rs.kp (.of s1)).append (aK.cons r1 aK.nil))
    ·cases e
   ·cases e
  |_=>cases e⟩
end
def Its (x:Str):It:=⟨λi _=>i < x.cps.size,λi H v H'=>H'=H/\∃ c,x.cps[i]?=some c/\v=.str ⟨#[c]⟩,λi _=>x.cps.size<=i⟩
def ahx (h:Heap) (it:Addr) (x:Str) (i:Nat):Prop:=∃ t,h.IsStrIter it "str_ascii_iterator" x t i\/h.IsStrIter it "str_iterator" x t i
theorem J5 {P:Program} {w:World} {K:FG_} {tg:Expr} (it:Addr) (x:Str):Turn P w K tg (Its x) [it] it (λi h=>ahx h it x i) where
 mem:=by simp
 obj:=λi h st b hb=>by
  have e:b=it:=by simpa using hb
  subst e;obtain⟨t,⟨o,e,c,d⟩|⟨o,e,c,d⟩⟩:=st
  ·exact⟨o,e,λv z=>by rw[d] at z;cases z⟩
  ·exact⟨o,e,λv z=>by rw[d] at z;cases z⟩
 keep:=λi h h' st k=>by
  obtain⟨t,⟨o,e,c⟩|⟨o,e,c⟩⟩:=st
  ·exact⟨t,.inl ⟨o,k it (by simp) o e,c⟩⟩
  ·exact⟨t,.inr ⟨o,k it (by simp) o e,c⟩⟩
 item:=by
  intro X hP hw hK hc i pins s σ H E I hf st hg;subst hP hw hK;obtain⟨f0,f1,f2,f3,f4,f5⟩:=hf it (by simp);have hi:i < x.cps.size:=hg;have hx:x.cps[i]?=some x.cps[i]:=by simp[hi]
  obtain⟨t,st|st⟩:=st
  ·refine wpAny_pyNext_ascii_item st hx λh' st' sb=>?_;have I1:L2.Inv X pins σ H { s with heap:=h',toks:=s.toks+1 }:=I.turned (λb o hb e=>(sb.2 b hb).trans e) f0 f1 f3 f4 f5;obtain⟨o,e,c,d⟩:=id st';exact⟨_,rfl,Aq (s:={ s with heap:=h',toks:=s.toks+1 }) e c d (by decide) ⟨.str ⟨#[x.cps[i]]⟩,H,I1,⟨_,rfl⟩,⟨rfl,_,hx,rfl⟩,⟨t,.inl st'⟩,λb hb=>(hf b hb).1⟩⟩
  ·refine wpAny_pyNext_wide_item st hx λh' st' sb=>?_;have I1:L2.Inv X pins σ H { s with heap:=h',toks:=s.toks+1 }:=I.turned (λb o hb e=>(sb.2 b hb).trans e) f0 f1 f3 f4 f5;obtain⟨o,e,c,d⟩:=id st';exact⟨_,rfl,Aq (s:={ s with heap:=h',toks:=s.toks+1 }) e c d (by decide) ⟨.str ⟨#[x.cps[i]]⟩,H,I1,⟨_,rfl⟩,⟨rfl,_,hx,rfl⟩,⟨t,.inr st'⟩,λb hb=>(hf b hb).1⟩⟩
 done:=by
  intro X hP hw hK hc i pins s σ H E I hf st hg;subst hP hw hK;obtain⟨f0,f1,f2,f3,f4,f5⟩:=hf it (by simp);have hx:x.cps[i]?=none:=by have:x.cps.size<=i:=hg;simp[this]
  obtain⟨t,st|st⟩:=st
  ·exact wpAny_pyNext_ascii_end (I.ok.hd hc) st hx λh' eb=>⟨rfl,I.turned (t':=s.toks) (λb o hb e=>eb b o hb e) f0 f1 f3 f4 f5⟩
  ·exact wpAny_pyNext_wide_end (I.ok.hd hc) st hx λh' eb=>⟨rfl,I.turned (t':=s.toks) (λb o hb e=>eb b o hb e) f0 f1 f3 f4 f5⟩
 self:=λ_ _ _ _ _ st h=>by
  obtain⟨t,st|st⟩:=st
  ·exact wpAny_pyIter_striter_ascii st h
  ·exact wpAny_pyIter_striter_wide st h
section
variable {X:Cx} {tg:Expr}
def ahy (K:FG_) (tl:TE):TI:=λσ H R=>tl σ H λx H1=>(∃ a,x=.ref a/\(∃ xs,rP K H1 a xs)/\R (Itl K a) H1)\/(∃ a,x=.ref a/\(∃ xs,wW K H1 a xs)/\R (Itt K a) H1)\/∃ y,x=.str y/\R (Its y) H1
theorem Ob {l:Expr} {tl:TE} (hl:PE X l tl):PI X tg l (ahy X.K tl):=by
 intro pins s σ H R I h;refine gF (hl pins s σ H _ I h) λv s1 ⟨x,H1,I1,r1,q1⟩=>?_;have fp1:∀ (o:Obj) (b:Addr),b∈[s1.heap.objs.size]->pq X pins H1 b:=λo b hb=>by
  have e:b=s1.heap.objs.size:=by simpa using hb
  subst e;exact I1.Sy (zg _) (I1.hok.fresh (zg _))
 rcases q1 with⟨a,e,⟨xs,hq⟩,q⟩|⟨a,e,⟨xs,hq⟩,q⟩|⟨y,e,q⟩
 ·subst e;cases r1;obtain⟨its,rv,p,hz⟩:=I1.list hq;refine wpAny_pyIter_list p.isList ?_;exact⟨s1.heap.objs.size,[s1.heap.objs.size],_,_,H1,rfl,I1.kept (t':=s1.toks) λb o e=>zd _ e,SJ a _,⟨_,zt _ rfl,rfl,rfl⟩,fp1 default,q⟩
 ·subst e;cases r1;obtain⟨its,rv,p,hz⟩:=I1.tuple hq;refine wpAny_pyIter_tuple (show s1.heap.IsTuple a its.toArray from p) ?_;exact⟨s1.heap.objs.size,[s1.heap.objs.size],_,_,H1,rfl,I1.kept (t':=s1.toks) λb o e=>zd _ e,Nt a _,⟨_,zt _ rfl,rfl,rfl⟩,fp1 default,q⟩
 ·subst e;obtain⟨t,rfl⟩:=r1;cases ha:y.cps.all (· < 128) with
  |true=>
   refine wpAny_pyIter_ascii ha ?_;exact⟨s1.heap.objs.size,[s1.heap.objs.size],_,_,H1,rfl,I1.kept (t':=s1.toks) λb o e=>zd _ e,J5 _ y,⟨t,.inl ⟨_,zt _ rfl,rfl,rfl⟩⟩,fp1 default,q⟩
  |false=>
   refine wpAny_pyIter_wide ha ?_;exact⟨s1.heap.objs.size,[s1.heap.objs.size],_,_,H1,rfl,I1.kept (t':=s1.toks) λb o e=>zd _ e,J5 _ y,⟨t,.inr ⟨_,zt _ rfl,rfl,rfl⟩⟩,fp1 default,q⟩
end
def Yields (K:FG_) (J:It) (ds:List Dt) (Hs:Hp):Prop:=∀ (i:Nat) (H:Hp),Same Hs H →
 (∀ d,ds[i]?=some d->J.go i H/\∀ x H',J.yld i H x H'->Same H H'/\Rep K H' d x)/\(ds.length<=i->J.stop i H)
theorem Yields.of {K:FG_} {J:It} {ds:List Dt} {Hs:Hp} (h:∀ (i:Nat) (H:Hp),Same Hs H →
  (∀ d,ds[i]?=some d->J.go i H/\∀ x H',J.yld i H x H'->H'=H/\Rep K H d x)/\(ds.length<=i->J.stop i H)):Yields K J ds Hs:=λi H s=>
 ⟨λd e=>⟨((h i H s).1 d e).1,λx H' y=>by
  obtain⟨rfl,r⟩:=((h i H s).1 d e).2 x H' y;exact⟨Same.refl _,r⟩⟩,(h i H s).2⟩
def signs (x:Str):List Dt:=x.cps.toList.map λc=>.str ⟨#[c]⟩
theorem Yields.list {K:FG_} {Hs:Hp} {a:Addr} {vs:List V} {ds:List Dt} (h:rP K Hs a vs) (r:aK K Hs ds vs):Yields K (Itl K a) ds Hs:=.of λi H s=>by
 have h':=s.seq h;have r':=r.kp (.of s);refine⟨λd e=>?_,λe=>⟨vs,h',by rw[r.length];exact e⟩⟩;obtain⟨v,ev,rv⟩:=r'.get e;refine⟨⟨vs,v,h',ev⟩,λx H' y=>?_⟩;obtain⟨y1,y2⟩:=y;have:=y2 vs h';rw[ev] at this;cases this;exact⟨y1,rv⟩
theorem Yields.tup {K:FG_} {Hs:Hp} {a:Addr} {vs:List V} {ds:List Dt} (h:wW K Hs a vs) (r:aK K Hs ds vs):Yields K (Itt K a) ds Hs:=.of λi H s=>by
 have h':=(Kp.of s).sqT h;have r':=r.kp (.of s);refine⟨λd e=>?_,λe=>⟨vs,h',by rw[r.length];exact e⟩⟩;obtain⟨v,ev,rv⟩:=r'.get e;refine⟨⟨vs,v,h',ev⟩,λx H' y=>?_⟩;obtain⟨y1,y2⟩:=y;have:=y2 vs h';rw[ev] at this;cases this;exact⟨y1,rv⟩
theorem Yields.str {K:FG_} {Hs:Hp} (x:Str):Yields K (Its x) (signs x) Hs:=.of λi H s=>by
 refine⟨λd e=>?_,λe=>?_⟩
 ·unfold signs at e;rw[zI] at e;cases h:x.cps.toList[i]? with
  |none=>rw[h] at e;cases e
  |some c=>
   rw[h] at e;cases e;have hc:x.cps[i]?=some c:=by simpa using h
   have hi:i < x.cps.size:=by
    have:=(List.getElem?_eq_some_iff.mp h).1;simpa using this
   refine⟨hi,λv H' y=>?_⟩;obtain⟨y1,c',hc',rfl⟩:=y;rw[hc] at hc';cases hc';refine⟨y1,?_⟩;unfold Rep;exact⟨rfl,by show(1:Nat)<=sizeLine;decide⟩
 ·have:(signs x).length=x.cps.size:=by simp[signs]
  show x.cps.size<=i;omega
def yX (lo:Int) (n:Nat):List Dt:=(List.range n).map λk=>.int (lo+(k:Nat))
theorem Yields.rng {K:FG_} {Hs:Hp} (lo:Int) (n:Nat):Yields K (Itr lo n) (yX lo n) Hs:=.of λi H s=>by
 refine⟨λd e=>?_,λe=>?_⟩
 ·unfold yX at e;rw[zI] at e;by_cases hi:i < n
  ·rw[List.getElem?_range hi] at e;cases e;refine⟨hi,λv H' y=>?_⟩;obtain⟨y1,y2⟩:=y;refine⟨y1,?_⟩;unfold Rep;exact y2
  ·rw[qA (by simp;omega)] at e;cases e
 ·have:(yX lo n).length=n:=by simp[yX]
  show n<=i;omega
def iF (K:FG_) (f:Ev->Option (List Dt)):TI:=λσ H R=>∃ H0 ρ ds,bD K H0 H σ ρ/\f ρ=some ds/\∀ J H',Same H H' →
 (∀ Hs,Same Hs H'->(∀ a,H a=none->Hs a=H' a)->(∀ a o u,H' a=some (.pY o u)->Hs a=H' a)->(∀ a vs,H' a=some (.tup vs)->Hs a=H' a)->Yields K J ds Hs)->R J H'
def PIF (X:Cx) (tg iter:Expr) (f:Ev->Option (List Dt)):Prop:=PI X tg iter (iF X.K f)
structure QIF (X:Cx) (tg iter:Expr) (f:Ev->Option (List Dt)):Prop where
 run:PIF X tg iter f
def Z4:Bx->Option (List Dt)
 |.z (.lst ds)=>some ds
 |.z (.tup ds)=>some ds
 |.z (.str x)=>some (signs x)
 |.o ds=>some ds
 |_=>none
section
variable {X:Cx} {tg e:Expr} {es:List Expr} {f:Ev->Option Bx} {fs:Ev->Option (List Bx)}
mutual
theorem Rep.part {K:FG_} {H Hs:Hp} (hf:∀ a o u,H a=some (.pY o u)->Hs a=H a) (ht:∀ a vs,H a=some (.tup vs)->Hs a=H a):∀ {d:Dt} {v:V},Rep K H d v->Rep K Hs d v
 |.non,_,h=>by simpa only[Rep] using h
 |.bl _,_,h=>by simpa only[Rep] using h
 |.int _,_,h=>by simpa only[Rep] using h
 |.str _,_,h=>by simpa only[Rep] using h
 |.tup ds,_,h=>by
  simp only[Rep] at h ⊢;obtain⟨a,vs,e,q,r⟩:=h;refine⟨a,vs,e,?_,aK.part hf ht r⟩;rcases q with (q|⟨o,q⟩)|q
  ·exact .inl (.inl ((ht _ _ q).trans q))
  ·exact .inl (.inr ⟨o,(hf _ _ _ q).trans q⟩)
  ·exact .inr q
 |.lst ds,_,h=>by
  simp only[Rep] at h ⊢;obtain⟨a,vs,e,q,r⟩:=h;refine⟨a,vs,e,?_,aK.part hf ht r⟩;rcases q with⟨o,q⟩|q
  ·exact .inl ⟨o,(hf _ _ _ q).trans q⟩
  ·exact .inr q
 |.emp,_,h=>by
  simp only[Rep] at h ⊢;obtain⟨a,o,e,q⟩:=h;exact⟨a,o,e,(hf _ _ _ q).trans q⟩
theorem aK.part {K:FG_} {H Hs:Hp} (hf:∀ a o u,H a=some (.pY o u)->Hs a=H a) (ht:∀ a vs,H a=some (.tup vs)->Hs a=H a):∀ {ds:List Dt} {vs:List V},aK K H ds vs->aK K Hs ds vs
 |[],_,h=>by simpa only[aK] using h
 |d::ds,_,h=>by
  simp only[aK] at h ⊢;obtain⟨v,r,e,q,t⟩:=h;exact⟨v,r,e,Rep.part hf ht q,aK.part hf ht t⟩
end
theorem QX (h:QV X e f):QIF X tg e (λρ=>(f ρ).bind Z4):=⟨have h:=h.run;λpins s σ H R I q=>by
 refine Ob h pins s σ H R I ?_;obtain⟨H0,ρ,ds,E,e,q⟩:=q;obtain⟨b,eb,e⟩:=bind_some e;refine⟨H0,ρ,b,E,eb,λv H1 s1 n1 r1=>?_⟩;cases b with
 |z d=>
  cases d with
  |tup ds'=>
   cases e;simp only[bf,Rep] at r1;obtain⟨a,vs,rfl,hq,rs⟩:=r1;refine .inr (.inl ⟨a,rfl,⟨vs,hq⟩,q _ _ s1 λHs hs hn hf ht=>.tup ?_ (rs.part hf ht)⟩);rcases hq with (hq|⟨o,hq⟩)|hq
   ·exact .inl (.inl ((ht _ _ hq).trans hq))
   ·exact .inl (.inr ⟨o,(hf _ _ _ hq).trans hq⟩)
   ·exact .inr hq
  |lst ds'=>
   cases e;simp only[bf,Rep] at r1;obtain⟨a,vs,rfl,hq,rs⟩:=r1;refine .inl ⟨a,rfl,⟨vs,hq.sq⟩,q _ _ s1 λHs hs hn hf ht=>.list ?_ (rs.part hf ht)⟩;rcases hq with⟨o,hq⟩|hq
   ·exact .inl (.inr ⟨o,(hf _ _ _ hq).trans hq⟩)
   ·exact .inr hq
  |str x=>
   cases e;simp only[bf,Rep] at r1;obtain⟨rfl,_⟩:=r1;exact .inr (.inr ⟨x,rfl,q _ _ s1 λHs hs hn hf ht=>.str x⟩)
  |_=>cases e
 |l ds'=>cases e
 |n ds'=>cases e
 |m ds'=>cases e
 |o ds'=>
  cases e;obtain⟨a,vs,rfl,hq,rs⟩:=r1;refine .inl ⟨a,rfl,⟨vs,.inl (.inl hq)⟩,q _ _ s1 λHs hs hn hf ht=>.list (.inl (.inl ((hn a (n1 a rfl)).trans hq))) (rs.part hf ht)⟩⟩
def adg:List Bx->Option (List Dt)
 |[.z (.int j)]=>if -(2 ^ 62)<=j/\j < 2 ^ 62 then some (yX 0 j.toNat) else none
 |_=>none
theorem jg {p pos:Pos} (hg:Gl X "range") (hm:X.mg "range" = none) (ha:Tf X [e] fs) (hs:starEach [e] X.env=[(false,eval e X.env)]:=by rfl):QIF X tg (.Call (.Name "range" p) [e] [] pos) (λρ=>(fs ρ).bind adg):=⟨have ha:=ha.run;λpins s σ H R I q=>by
 refine SM hg hm ha hs pins s σ H R I ?_;obtain⟨H0,ρ,ds,E,e,q⟩:=q;obtain⟨bs,eb,e⟩:=bind_some e;refine⟨H0,ρ,bs,E,eb,λvs H1 s1 r1=>?_⟩;unfold adg at e;split at e
 ·rename_i j;split at e
  ·rename_i hj;cases e;cases r1 with
   |cons p t=>
    cases t;simp only[bf,Rep] at p;subst p;exact⟨j,rfl,hj.1,hj.2,q _ _ s1 λHs _ _ _ _=>.rng 0 _⟩
  ·cases e
 ·cases e⟩
def qd (gt:Dt->Ev->Option Ev) (gb:Ev->Option Out):List Dt->Ev->Option Out
 |[],ρ=>some (.nx ρ)
 |d::ds,ρ=>(gt d ρ).bind λρ1=>(gb ρ1).bind λr=>match r with
  |.nx ρ2=>qd gt gb ds ρ2
  |.ct ρ2=>qd gt gb ds ρ2
  |.bk ρ2=>some (.nx ρ2)
  |.rt b=>some (.rt b)
noncomputable def fu (H:Hp) (σ:L2.St) (ρ:Ev):Hp:=λa=>@ite _ (∃ (i:Nat) (c:Bx),ρ[i]?=some (some c)/\rC c=true/\σ[i]?=some (some (.ref a))) (Classical.propDecidable _) none (H a)
theorem vP {H:Hp} {σ:L2.St} {ρ:Ev}:Same (fu H σ ρ) H:=λa o e=>by
 unfold fu at e;split at e
 ·cases e
 ·exact e
theorem bD.rebase {K:FG_} {H0 Hs H:Hp} {σ:L2.St} {ρ:Ev} (E:bD K Hs H σ ρ) (s:Same H0 Hs):bD K H0 H σ ρ:=⟨E.len,E.val,E.own,s.trans E.base,λi c a e1 ec e2=>s.free (E.new i c a e1 ec e2)⟩
theorem bD.sans {K:FG_} {H0 H:Hp} {σ:L2.St} {ρ:Ev} (E:bD K H0 H σ ρ):bD K (fu H σ ρ) H σ ρ:=⟨E.len,E.val,E.own,vP,λi c a e1 ec e2=>by
 unfold fu;rw[zl ⟨i,c,e1,ec,e2⟩]⟩
theorem bD.sub {K:FG_} {H0 H:Hp} {σ:L2.St} {ρ:Ev} (E:bD K H0 H σ ρ):Same H0 (fu H σ ρ):=λa o e=>by
 unfold fu;split
 ·rename_i h;obtain⟨i,c,e1,ec,e2⟩:=h;rw[E.new i c a e1 ec e2] at e;cases e
 ·exact E.base a o e
theorem gK {K:FG_} {H0 H:Hp} {σ:L2.St} {ρ:Ev} (E:bD K H0 H σ ρ) {a:Addr} (h:∀ vs,H a≠some (.lst vs)) (h2:∀ vs,H a≠some (.dK vs)):fu H σ ρ a=H a:=by
 unfold fu;split
 ·rename_i hh;obtain⟨i,c,e1,ec,e2⟩:=hh;obtain⟨v,e3,rc⟩:=E.val i _ e1;rw[e2] at e3;cases e3;cases c with
  |o ds=>obtain⟨a',vs,e4,q,_⟩:=rc;cases e4;exact absurd q (h vs)
  |m ds _=>obtain⟨a',vs,e4,q,_⟩:=rc;cases e4;exact absurd q (h2 vs)
  |_=>cases ec
 ·rfl
theorem V6.rebase {K:FG_} {H0 Hs:Hp} {D:Ends} {r:Out} (s:Same H0 Hs) (h:V6 K H0 D r):V6 K Hs D r:=by
 cases r with
 |nx ρ=>exact λσ H E=>h σ H (E.rebase s)
 |bk ρ=>exact λσ H E=>h σ H (E.rebase s)
 |ct ρ=>exact λσ H E=>h σ H (E.rebase s)
 |rt b=>exact λv H s' n r=>h v H (s.trans s') (n.old s) r
theorem pG {gt:Dt->Ev->Option Ev} {gb:Ev->Option Out} {J:It} {ds:List Dt} {H0 H1:Hp} {σ:L2.St} {ρ:Ev} {D:Ends} {r:Out} (E1:bD X.K H0 H1 σ ρ) (Y:Yields X.K J ds (fu H1 σ ρ)) (e:qd gt gb ds ρ=some r) (q:V6 X.K H0 D r) :
  ∃ W:Nat->Nat->L2.St->Hp->Prop,(∃ m,W 0 m σ H1)/\∀ i m σ H,W i m σ H →
   (J.stop i H/\D.nx σ H)\/(J.go i H/\∃ N:L2.St->Hp->Prop,(∀ σ' H',N σ' H'->∃ m',m' < m/\W (i+1) m' σ' H')/\∀ x H',J.yld i H x H'->tgF X.K gt x σ H' λσ2 H2=>tG X.K gb { D with nx:=N,ct:=N,bk:=D.nx } σ2 H2):=by
 have E2:=E1.sans;have q2:=q.rebase E1.sub;generalize fu H1 σ ρ=Hs at Y E2 q2;refine⟨λi m σ' H'=>m=ds.length - i/\i<=ds.length/\∃ ρ',bD X.K Hs H' σ' ρ'/\qd gt gb (ds.drop i) ρ'=some r,⟨ds.length,by simp,QP _,ρ,E2,by simpa using e⟩,?_⟩;rintro i m σ' H' ⟨rfl,hi',ρ',E',e'⟩;obtain⟨y1,y2⟩:=Y i H' E'.base;by_cases hlt:i < ds.length
 ·right;have hd:ds[i]?=some ds[i]:=by simp[hlt]
  obtain⟨go,yl⟩:=y1 _ hd;rw[List.drop_eq_getElem_cons hlt] at e';simp only[qd] at e';obtain⟨ρ1,e1,e'⟩:=bind_some e';obtain⟨r1,e2,e'⟩:=bind_some e';refine⟨go,λσ2 H2=>∃ ρ2,bD X.K Hs H2 σ2 ρ2/\qd gt gb (ds.drop (i+1)) ρ2=some r,λσ2 H2 ⟨ρ2,E3,e3⟩=>⟨ds.length - (i+1),by omega,rfl,hlt,ρ2,E3,e3⟩,λx H2 yy=>?_⟩;obtain⟨sm,rx⟩:=yl x H2 yy;refine⟨Hs,ρ',ds[i],ρ1,E'.grow sm,rx,e1,λσ1 E3 _=>⟨Hs,ρ1,r1,E3,e2,?_⟩⟩;cases r1 with
  |nx ρ2=>exact λσ2 H3 E4=>⟨ρ2,E4,e'⟩
  |ct ρ2=>exact λσ2 H3 E4=>⟨ρ2,E4,e'⟩
  |bk ρ2=>cases e';exact q2
  |rt b=>cases e';exact q2
 ·left;have hge:ds.length<=i:=by omega
  refine⟨y2 hge,?_⟩;rw[List.drop_eq_nil_of_le hge] at e';cases e';exact q2 σ' H' E'
theorem rU {iter:Expr} {body:List Stmt} {fi:Ev->Option (List Dt)} {gt:Dt->Ev->Option Ev} {gb:Ev->Option Out} {pos:Pos} (hp:PassesOwn (model X.prog X.w) X.A X.env X.xe) (hc:X.calm=true) (hi:QIF X tg iter fi) (hg:ZX X tg gt) (hb:Vf X body gb) (hs:∀ x,foldedSetIterable iter X.env x=pure x:=by intro _;rfl):QW X (.For tg iter body [] pos) (λρ=>(fi ρ).bind λds=>qd gt gb ds ρ):=⟨have hi:=hi.run;have hg:=hg.run;have hb:=hb.run;Tg (Vr hp hc hi hg hb hs) λD σ H h=>by
 obtain⟨H0,ρ,r,E,e,q⟩:=h;obtain⟨ds,ed,e⟩:=bind_some e;refine⟨H0,ρ,ds,E,ed,λJ H1 s1 y=>?_⟩;have E1:=E.grow s1;refine pG E1 ?_ e q;refine y _ vP (λa ha=>?_) (λa o u ha=>gK E1 (λvs z=>by rw[ha] at z;cases z) (λvs z=>by rw[ha] at z;cases z)) λa vs ha=>gK E1 (λvs z=>by rw[ha] at z;cases z) (λvs z=>by rw[ha] at z;cases z);unfold fu;split
 ·rename_i hh;obtain⟨i,c,e1,ec,e2⟩:=hh;obtain⟨v,e3,rc⟩:=E.val i _ e1;rw[e2] at e3;cases e3;cases c with
  |o ds=>obtain⟨a',vs,e4,q,_⟩:=rc;cases e4;rw[ha] at q;cases q
  |m ds _=>obtain⟨a',vs,e4,q,_⟩:=rc;cases e4;rw[ha] at q;cases q
  |_=>cases ec
 ·rfl⟩
theorem bD.lend {K:FG_} {H0 H:Hp} {σ:L2.St} {ρ:Ev} {i:Nat} {ds:List Dt} (E:bD K H0 H σ ρ) (h:ρ[i]?=some (some (.o ds))):bD K H0 H σ (ρ.set i (some (.l ds))):=by
 have back:∀ (j:Nat) (b:Bx),(ρ.set i (some (.l ds)))[j]?=some (some b)->(j=i/\b=.l ds)\/(j≠i/\ρ[j]?=some (some b)):=λj b e=>by
  rcases getset e with⟨rfl,e',_⟩|⟨hne,e'⟩
  ·cases e';exact .inl ⟨rfl,rfl⟩
  ·exact .inr ⟨hne,e'⟩
 refine⟨by rw[JY];exact E.len,λj b e=>?_,λj k c a b e1 ec e2 e3 e4 e5=>?_,E.base,λj c a e1 ec e2=>?_⟩
 ·rcases back j b e with⟨rfl,rfl⟩|⟨hne,e'⟩
  ·obtain⟨v,e1,a,vs,e2,q,r⟩:=E.val _ _ h;exact⟨v,e1,a,vs,e2,.inl q,r⟩
  ·exact E.val j b e'
 ·rcases back j _ e1 with⟨rfl,z⟩|⟨hne,e'⟩
  ·subst z;cases ec
  ·rcases back k _ e3 with⟨rfl,z⟩|⟨ZV,e3'⟩
   ·exact E.own j _ c a _ e' ec e2 h rfl e5
   ·exact E.own j k c a b e' ec e2 e3' e4 e5
 ·rcases back j _ e1 with⟨rfl,z⟩|⟨hne,e'⟩
  ·subst z;cases ec
  ·exact E.new j c a e' ec e2
def uD (i:Nat) (gt:Dt->Ev->Option Ev) (gb:Ev->Option Out) (ρ:Ev):Option Out:=match ρ[i]? with
 |some (some (.o ds))=>qd gt gb ds (ρ.set i (some (.l ds)))
 |some (some (.l ds))=>qd gt gb ds ρ
 |some (some b)=>(Z4 b).bind λds=>qd gt gb ds ρ
 |_=>none
theorem V9 {H0 H:Hp} {σ:L2.St} {ρ:Ev} {i:Nat} {ds:List Dt} (E:bD X.K H0 H σ ρ) (h:ρ[i]?=some (some (.l ds))):∃ a vs,σ[i]?=some (some (.ref a))/\rP X.K H a vs/\Yields X.K (Itl X.K a) ds (fu H σ ρ):=by
 obtain⟨v,e1,a,vs,rfl,q,r⟩:=E.val i _ h;have hk:fu H σ ρ a=H a:=by
  unfold fu;split
  ·rename_i hh;obtain⟨j,c,e2,ec,e3⟩:=hh;have:=E.own j i c a _ e2 ec e3 h rfl e1;subst this;rw[h] at e2;cases e2;cases ec
  ·rfl
 refine⟨a,vs,e1,.inl q,.list (.inl ?_) (r.part (λb o u hb=>gK E (λvs z=>by rw[hb] at z;cases z) (λvs z=>by rw[hb] at z;cases z)) λb ws hb=>gK E (λvs z=>by rw[hb] at z;cases z) (λvs z=>by rw[hb] at z;cases z))⟩;rcases q with q|⟨o,q⟩
 ·exact .inl (hk.trans q)
 ·exact .inr ⟨o,hk.trans q⟩
theorem zT (i:Nat) {x:Str} {p:Pos} {body:List Stmt} {gt:Dt->Ev->Option Ev} {gb:Ev->Option Out} {pos:Pos} (hp:PassesOwn (model X.prog X.w) X.A X.env X.xe) (hc:X.calm=true) (hg:ZX X tg gt) (hb:Vf X body gb) (hN:X.N[i]?=some x:=by rfl) (hv:Y6 X.env.scope x:=by first|exact kU rfl|exact JP (kU rfl)|exact JP (JP rfl)) (hd:(x==("__debug__" : Str))=false:=by decide) (hcd:(x==("__classdict__" : Str))=false:=by decide) (hs:∀ y,foldedSetIterable (.Name x p) X.env y=pure y:=by intro _;rfl):QW X (.For tg (.Name x p) body [] pos) (uD i gt gb):=⟨have hg:=hg.run;have hb:=hb.run;Tg (Vr hp hc (Ob (uT (i:=i) hN hv hd hcd)) hg hb hs) λD σ H h=>by
 obtain⟨H0,ρ,r,E,e,q⟩:=h;unfold uD at e;split at e
 ·rename_i ds hρ;have E1:=E.lend hρ;have hi:i < ρ.length:=(List.getElem?_eq_some_iff.mp hρ).1;obtain⟨a,vs,e1,sq,Y⟩:=V9 E1 (Bf _ hi);exact⟨_,e1,.inl ⟨a,rfl,⟨vs,sq⟩,pG E1 Y e q⟩⟩
 ·rename_i ds hρ;obtain⟨a,vs,e1,sq,Y⟩:=V9 E hρ;exact⟨_,e1,.inl ⟨a,rfl,⟨vs,sq⟩,pG E Y e q⟩⟩
 ·rename_i b n1 n2 hρ;obtain⟨ds,ed,e⟩:=bind_some e;obtain⟨v,e1,rb⟩:=E.val i _ hρ;have hf:∀ b o u,H b=some (.pY o u)->fu H σ ρ b=H b:=λb o u hb=>gK E (λvs z=>by rw[hb] at z;cases z) (λvs z=>by rw[hb] at z;cases z);have ht:∀ b ws,H b=some (.tup ws)->fu H σ ρ b=H b:=λb ws hb=>gK E (λvs z=>by rw[hb] at z;cases z) (λvs z=>by rw[hb] at z;cases z);cases b with
  |z d=>
   cases d with
   |tup ds'=>
    cases ed;simp only[bf,Rep] at rb;obtain⟨a,vs,rfl,hq,rs⟩:=rb;refine⟨_,e1,.inr (.inl ⟨a,rfl,⟨vs,hq⟩,pG E (.tup ?_ (rs.part hf ht)) e q⟩)⟩;rcases hq with (hq|⟨o,hq⟩)|hq
    ·exact .inl (.inl ((ht _ _ hq).trans hq))
    ·exact .inl (.inr ⟨o,(hf _ _ _ hq).trans hq⟩)
    ·exact .inr hq
   |lst ds'=>
    cases ed;simp only[bf,Rep] at rb;obtain⟨a,vs,rfl,hq,rs⟩:=rb;refine⟨_,e1,.inl ⟨a,rfl,⟨vs,hq.sq⟩,pG E (.list ?_ (rs.part hf ht)) e q⟩⟩;rcases hq with⟨o,hq⟩|hq
    ·exact .inl (.inr ⟨o,(hf _ _ _ hq).trans hq⟩)
    ·exact .inr hq
   |str x=>
    cases ed;simp only[bf,Rep] at rb;obtain⟨rfl,_⟩:=rb;exact⟨_,e1,.inr (.inr ⟨x,rfl,pG E (.str x) e q⟩)⟩
   |_=>cases ed
  |l ds'=>cases ed
  |o ds'=>exact absurd rfl (n1 ds')
  |n ds'=>cases ed
  |m ds'=>cases ed
 ·cases e⟩
end
def SubL (cells:List (Str×Addr)):List (Str×Addr)->Prop
 |[]=>True
 |(n,c)::r=>cells.lookup n=some c/\SubL cells r
theorem SubL.get {cells:List (Str×Addr)}:∀ {cl:List (Str×Addr)},SubL cells cl->∀ {x:Str} {c:Addr},cl.lookup x=some c->cells.lookup x=some c
 |[],_,_,_,e=>by cases e
 |(n,d)::r,h,x,c,e=>by
  rw[List.lookup_cons] at e;by_cases hx:x==n
  ·simp only[hx] at e;cases e;have:x=n:=by simpa using hx
   rw[this];exact h.1
  ·have hx:(x==n)=false:=by simpa using hx
   simp only[hx] at e;exact SubL.get h.2 e
structure Cap (X:Cx) (scope:Scope) (cl:List (Str×Addr)) (x:Str) (i:Nat):Prop where
 n:X.N[i]?=some x
 k:X.env.kindOf x=some .cell\/X.env.kindOf x=some .free
 k':(relabel scope X.env).names.lookup x=some .cell\/(relabel scope X.env).names.lookup x=some .free
 c:∃ c,cl.lookup x=some c
def Eh (X:Cx) (scope:Scope) (cl:List (Str×Addr)):LS_->List Nat->Prop
 |[],[]=>True
 |x::xs,i::is=>Cap X scope cl x i/\Eh X scope cl xs is
 |_,_=>False
theorem Eh.get {X:Cx} {scope:Scope} {cl:List (Str×Addr)}:∀ {xs:LS_} {is:List Nat},Eh X scope cl xs is->xs.length=is.length/\∀ (j:Nat) (x:Str),xs[j]?=some x->∃ i,is[j]?=some i/\Cap X scope cl x i
 |[],[],_=>⟨rfl,λj x e=>by simp at e⟩
 |x::xs,i::is,h=>by
  obtain⟨h1,h2⟩:=h;obtain⟨l,g⟩:=Eh.get h2;refine⟨by simp[l],λj y e=>?_⟩;cases j with
  |zero=>simp at e;subst e;exact⟨i,rfl,h1⟩
  |succ j=>obtain⟨k,e1,e2⟩:=g j y (by simpa using e);exact⟨k,by simpa using e1,e2⟩
 |[],_::_,h=>h.elim
 |_::_,[],h=>h.elim
def adh (names:List (Str×NameKind)) (x:Str):Bool:=match names.lookup x with
 |some .cell=>true
 |_=>false
def yZ (X:Cx) (N':LS_) (scope:Scope) (cl:List (Str×Addr)) (C:Addr) (s₀:Shared) (H₀:Hp) (fp:List Addr):Cx:=
 { X with N:=N',s₀:=s₀,H₀:=H₀,env:=compEnvC scope (cellsFrom (C+1) scope.names cl) C X.env,outer:=X.stack,ex:=fp,fn:=adh scope.names,pn:=[],xe:=λ_ _=>False }
structure adi (h:Heap) (cs:List (Str×Addr)):Prop where
 inj:∀ x y c,cs.lookup x=some c->cs.lookup y=some c->x=y
 cell:∀ x c,cs.lookup x=some c->∃ v,h.IsCell c v
theorem iY {α:Type} {x n:Str} {a:α} {l:List (Str×α)} (h:x≠n):((n,a)::l).lookup x=l.lookup x:=by
 rw[List.lookup_cons,beq_eq_false_iff_ne.mpr h]
theorem Wa:∀ (names:List (Str×NameKind)) (h:Heap) (acc:List (Str×Addr)),adi h acc->adi (pushCells h names) (cellsFrom h.objs.size names acc)
 |[],_,_,x=>x
 |(n,k)::r,h,acc,x=>by
  unfold pushCells cellsFrom;split
  ·have hlt:∀ y c,acc.lookup y=some c->c≠h.objs.size:=λy c e=>let ⟨_,q⟩:=x.cell y c e;zC q.lt;have:=Wa r (h.push { cls:=.type "cell", data:=.cell none }) ((n,h.objs.size)::acc) ⟨λy z c e1 e2=>?_,λy c e=>?_⟩
   ·rwa [qh] at this
   ·by_cases hy:y=n<;>by_cases hz:z=n
    ·rw[hy,hz]
    ·subst hy;rw[kF] at e1;rw[iY hz] at e2;cases e1;exact absurd rfl (hlt _ _ e2)
    ·subst hz;rw[kF] at e2;rw[iY hy] at e1;cases e2;exact absurd rfl (hlt _ _ e1)
    ·rw[iY hy] at e1;rw[iY hz] at e2;exact x.inj y z c e1 e2
   ·by_cases hy:y=n
    ·subst hy;rw[kF] at e;cases e;exact⟨none,_,zt _ rfl,rfl⟩
    ·rw[iY hy] at e;obtain⟨v,q⟩:=x.cell y c e;exact⟨v,q.keeps λb o e=>zd _ e⟩
  ·exact Wa r h acc x
theorem vQ:∀ (names:List (Str×NameKind)) (n:Nat) (acc:List (Str×Addr)) (x:Str) (c:Addr),(cellsFrom n names acc).lookup x=some c->acc.lookup x=some c\/n<=c
 |[],_,_,_,_,e=>.inl e
 |(m,k)::r,n,acc,x,c,e=>by
  unfold cellsFrom at e;split at e
  ·rcases vQ r _ _ x c e with h|h
   ·by_cases hx:x=m
    ·subst hx;rw[kF] at h;cases h;exact .inr (zg _)
    ·rw[iY hx] at h;exact .inl h
   ·exact .inr (by omega)
  ·exact vQ r _ _ x c e
theorem HF:∀ (names:List (Str×NameKind)) (n:Nat) (acc:List (Str×Addr)) (x:Str),(x,NameKind.cell)∉names->(cellsFrom n names acc).lookup x=acc.lookup x
 |[],_,_,_,_=>rfl
 |(m,k)::r,n,acc,x,h=>by
  unfold cellsFrom;have hr:(x,NameKind.cell)∉r:=λz=>h (zr _ z);split
  ·rename_i hk;rw[HF r _ _ x hr,iY λz=>h (by rw[z,<-beq_iff_eq.mp hk];exact zi ..)]
  ·exact HF r _ _ x hr
theorem Oc:∀ (names:List (Str×NameKind)) (n:Nat) (acc:List (Str×Addr)) (x:Str),((x,NameKind.cell)∈names\/∃ c,acc.lookup x=some c)->∃ c,(cellsFrom n names acc).lookup x=some c
 |[],_,_,_,h=>h.elim (λz=>by simp at z) λz=>z
 |(m,k)::r,n,acc,x,h=>by
  unfold cellsFrom;split
  ·refine Oc r _ _ x ?_;by_cases hx:x=m
   ·exact .inr ⟨n,by rw[hx,kF]⟩
   ·rw[iY hx];exact h.imp_left λz=>(List.mem_cons.mp z).elim (λz=>absurd (congrArg Prod.fst z) hx) λz=>z
  ·rename_i hk;exact Oc r _ _ x (h.imp_left λz=>(List.mem_cons.mp z).elim (λz=>by cases z;exact absurd rfl hk) λz=>z)
theorem Tj {M:Model} {A:Around} {E:VP_} {s:Shared} {scope:Scope} {g:Addr} {cl:List (Str×Addr)} {qual:Str} {env:Env} {Q:Env->Shared->Prop}
  (h:Q (newEnv scope s.heap.objs.size g (cellsFrom (s.heap.objs.size+1) scope.names cl) qual none .none (some env) builtinsNs) { s with heap:=pushCells (s.heap.push { cls:=.type "dict", data:=.dict #[] }) scope.names }) :
  wpAny M A (newFunctionEnv scope g cl [] qual none .none (some env)) Q E s:=by
 simp only[newFunctionEnv,Option.isSome_some,qq];refine zb (wpAny_alloc ?_);refine zb (wpAny_layCells _ (λname kind cells=>by cases kind==NameKind.cell<;>simp) _ _ _ _ ?_);rw[show({ s with heap:=s.heap.push { cls:=.type "dict", data:=.dict #[] } }:Shared).heap.objs.size=s.heap.objs.size+1 from qh ..];rw[List.forIn_nil];exact zb (ze (ze h))
structure oX (X:Cx) (scope:Scope) (cl:List (Str×Addr)) (xs:LS_) (is:List Nat):Prop where
 clos:closureFor scope X.env=pure cl
 kind:scope.kind=.function
 cell:∀ y∈scope.names,y.2=.cell->cl.lookup y.1=none
 names:∀ y∈scope.names,y.2=.local->scope.names.lookup y.1=some .local
 sub:SubL X.env.cells cl
 has:∀ x,((relabel scope X.env).names.lookup x=some .cell\/(relabel scope X.env).names.lookup x=some .free)->(x,NameKind.cell)∈scope.names\/∃ c,cl.lookup x=some c
 cap:Eh X scope cl xs is
def uW (is:List Nat) (σ:L2.St):L2.St:=is.map λi=>(σ[i]?).bind λv=>v
def iz (is:List Nat) (ρ:Ev):Ev:=is.map λi=>w6 ρ i
def Wb (n m:Nat) (g:Dt->Ev->Option Ev):Prop:=∀ d ρ ρ',g d ρ=some ρ'->ρ'.length=ρ.length/\∀ j,j < n\/m<=j->ρ'[j]?=ρ[j]?
def Z5 (n m:Nat) (g:List Dt->Ev->Option Ev):Prop:=∀ d ρ ρ',g d ρ=some ρ'->ρ'.length=ρ.length/\∀ j,j < n\/m<=j->ρ'[j]?=ρ[j]?
theorem bZ {n i m:Nat} (h:n<=i:=by decide) (h':i < m:=by decide):Wb n m (λd ρ=>some (ρ.set i (some (.z d)))):=λd ρ ρ' e=>by
 cases e;exact⟨by rw[JY],λj hj=>Bg _ (by omega)⟩
theorem QZ {n m:Nat}:Z5 n m Bh:=λd ρ ρ' e=>by
 cases d with
 |nil=>cases e;exact⟨rfl,λ_ _=>rfl⟩
 |cons=>cases e
theorem jW {n m:Nat} {g:Dt->Ev->Option Ev} {gs:List Dt->Ev->Option Ev} (h:Wb n m g) (hs:Z5 n m gs):Z5 n m (dF g gs):=λd ρ ρ' e=>by
 cases d with
 |nil=>cases e
 |cons d ds=>
  simp only[dF] at e;obtain⟨ρ1,e1,e⟩:=bind_some e;obtain⟨a,b⟩:=h _ _ _ e1;obtain⟨a',b'⟩:=hs _ _ _ e;exact⟨a'.trans a,λj hj=>(b' j hj).trans (b j hj)⟩
theorem Wc {n m k:Nat} {gs:List Dt->Ev->Option Ev} (hs:Z5 n m gs):Wb n m (vO k gs):=λd ρ ρ' e=>by
 cases d with
 |tup ds=>
  simp only[vO] at e;split at e
  ·exact hs _ _ _ e
  ·cases e
 |_=>cases e
def za (gt:Dt->Ev->Option Ev) (p:Ev->Option Bool) (fs:Ev->Option (List Dt)) (ρ:Ev):List Dt->Option (List Dt)
 |[]=>some []
 |d::ds=>(gt d ρ).bind λρ1=>(p ρ1).bind λk=>if k=true then(fs ρ1).bind λys=>(za gt p fs ρ ds).bind λzs=>some (ys++zs) else za gt p fs ρ ds
def adk:Bx->Option (List Dt)
 |.z y=>some [y]
 |_=>none
def vR (gt:Dt->Ev->Option Ev) (p:Ev->Option Bool) (fe:Ev->Option Bx) (ρ:Ev):List Dt->Option (List Dt):=za gt p (λρ=>(fe ρ).bind adk) ρ
theorem xu {b:Bx} {ys:List Dt} (h:adk b=some ys):∃ y,b=.z y/\ys=[y]:=by
 cases b<;>cases h;exact⟨_,rfl,rfl⟩
theorem tZ {gt:Dt->Ev->Option Ev} {p:Ev->Option Bool} {fe:Ev->Option Bx} {ρ:Ev}:∀ {ds out:List Dt},vR gt p fe ρ ds=some out->out.length<=ds.length
 |[],_,e=>by cases e;exact zg _
 |d::ds,out,e=>by
  simp only[vR,za] at e;obtain⟨ρ1,_,e⟩:=bind_some e;obtain⟨k,_,e⟩:=bind_some e;cases k with
  |false=>
   rw[zw ZA] at e;exact Zs (tZ (gt:=gt) (p:=p) (fe:=fe) e) (by simp)
  |true=>
   rw[zl rfl] at e;obtain⟨ys,ey,e⟩:=bind_some e;obtain⟨zs,ez,e⟩:=bind_some e;obtain⟨b,_,ey⟩:=bind_some ey;obtain⟨y,_,rfl⟩:=xu ey;cases e;simpa using tZ (gt:=gt) (p:=p) (fe:=fe) ez
def Tests (X:Cx) (ifs:List Expr) (p:Ev->Option Bool):Prop:=(ifs=[]/\p=λ_=>some true)\/∃ c,ifs=[c]/\PB X c p
structure xG (X:Cx) (ifs:List Expr) (p:Ev->Option Bool):Prop where
 run:Tests X ifs p
section
variable {X:Cx} {elt tgt iter:Expr} {ifs:List Expr} {scope:Scope} {cl:List (Str×Addr)} {pos:Pos} {xs ts:LS_} {is:List Nat} {gt:Dt->Ev->Option Ev} {p:Ev->Option Bool} {fe:Ev->Option Bx} {fi:Ev->Option (List Dt)}
theorem Wd {pins:List (Addr×Obj)} {σ:L2.St} {H3:Hp} {s3:Shared} {fp:List Addr} (I3:L2.Inv X pins σ H3 s3) (O:oX X scope cl xs is)
  (hf:∀ b∈fp,pq X pins H3 b) (hfl:∀ b∈fp,b < s3.heap.objs.size) :
  L2.Inv (yZ X (xs++ts) scope cl s3.heap.objs.size s3 H3 fp) [] (uW is σ++List.replicate ts.length none) H3 { s3 with heap:=pushCells (s3.heap.push { cls:=.type "dict", data:=.dict #[] }) scope.names }:=by
 obtain⟨hl,hc⟩:=O.cap.get;have hsub:=O.sub;have hsz:(s3.heap.push { cls:=.type "dict", data:=.dict #[] }).objs.size=s3.heap.objs.size+1:=qh ..;have hk:∀ b o,s3.heap.get? b=some o->(pushCells (s3.heap.push { cls:=.type "dict", data:=.dict #[] }) scope.names).get? b=some o:=λb o e=>pushCells_keeps _ _ b o (zd _ e);have cf:adi (pushCells (s3.heap.push { cls:=.type "dict", data:=.dict #[] }) scope.names) (cellsFrom (s3.heap.objs.size+1) scope.names cl):=by
  rw[<-hsz];refine Wa _ _ _ ⟨λx y c e1 e2=>I3.ok.inj x y c (hsub.get e1) (hsub.get e2),λx c e=>?_⟩;obtain⟨v,q⟩:=I3.cell x c (hsub.get e);exact⟨v,q.keeps λb o e=>zd _ e⟩
 have from':∀ x c,(cellsFrom (s3.heap.objs.size+1) scope.names cl).lookup x=some c->X.env.cells.lookup x=some c\/s3.heap.objs.size < c:=λx c e=>(vQ _ _ _ x c e).imp_left hsub.get;refine⟨⟨I3.ok.mod,O.kind,I3.ok.glob,I3.ok.blt,zg _,cf.inj,λx hx=>Oc _ _ _ x (O.has x hx),λx c hx e=>?_,I3.ok.hd,I3.ok.frames,.inl rfl,λb hb=>⟨zC (hfl b hb),λx c e=>?_⟩,I3.bs,Zs I3.ok.Vd I3.sz,λb o e hb=>?_,λb hb hb'=>?_,I3.stack,I3.zJ⟩,
  rfl,I3.bare,Un.kept hk,⟨_,(Heap.Ns.new s3.heap (.type "dict")).keeps (pushCells_keeps _ _),λj x v e1 e2 _=>?_⟩,cf.cell,I3.hok.fresh (zg _),λx c e=>(from' x c e).elim (I3.gZ x c) λh=>I3.hok.fresh (ja h),λq hq=>absurd (show q∈([]:List (Addr×Obj)) from hq) (by simp),I3.hok.kept hk,?_⟩
 ·refine(vQ _ _ _ x c e).elim (λh=>?_) λh=>ja h;have hx:(x,NameKind.cell)∈scope.names:=by
   have hx:adh scope.names x=true:=hx;unfold adh at hx;split at hx
   ·rename_i q;exact mem_of_lookup q
   ·cases hx
  rw[O.cell _ hx rfl] at h;cases h
 ·rcases from' x c e with h|h
  ·exact(hf b hb).2.2.2.2.1 x c h
  ·exact Jn (Nat.lt_trans (hfl b hb) h)
 ·obtain⟨_,_,_,z,_⟩:=hf b hb;rcases z with z|z
  ·exact I3.ok.Np b o e z
  ·exact absurd (ZE (zv e) (Zs I3.ok.Vd z)) (JE _)
 ·obtain⟨_,n1,n2,_⟩:=hf b hb;rcases List.mem_cons.mp (I3.Ak b hb') with z|z
  ·exact n1 z
  ·exact n2 z
 ·have hj:j < is.length:=by
   by_cases hj:j < is.length
   ·exact hj
   ·rw[qk (by simp[uW];omega)] at e2;rw[QI] at e2;split at e2<;>cases e2
  have e1':xs[j]?=some x:=by
   have e1:(xs++ts)[j]?=some x:=e1;rw[ZI (by omega)] at e1;exact e1
  obtain⟨i,ei,hcp⟩:=hc j x e1';have e3:σ[i]?=some (some v):=by
   rw[ZI (by simp[uW];omega)] at e2;unfold uW at e2;rw[zI,ei] at e2;cases q:σ[i]? with
   |none=>rw[Option.map_some,q] at e2;cases e2
   |some o=>
    rw[Option.map_some,q] at e2;have:o=some v:=by simpa using e2
    rw[this]
  have vis:Y6 X.env.scope x:=by
   rcases hcp.k with k|k
   ·exact .inr (.inl k)
   ·exact .inr (.inr k)
  obtain⟨m',hn',hlk⟩:=I3.loc;obtain⟨u,r,l⟩:=hlk i x v hcp.n e3 vis;refine⟨u,r,?_⟩;rcases l with⟨k,_⟩|⟨k,c,ec,ic⟩
  ·rcases hcp.k with k'|k'<;>(rw[k] at k';cases k')
  ·obtain⟨c',ec'⟩:=hcp.c;have:=hsub.get ec';rw[ec] at this;cases this;refine .inr ⟨hcp.k',c,(HF _ _ _ x λz=>by rw[O.cell _ z rfl] at ec';cases ec').trans ec',?_⟩;obtain⟨o,ho,hd⟩:=ic;exact⟨o,hk c o ho,hd⟩
 ·show(uW is σ++List.replicate ts.length none).length=(xs++ts).length;simp[uW,hl]
theorem bD.caps {K:FG_} {H0 H:Hp} {σ:L2.St} {ρ:Ev} (E:bD K H0 H σ ρ) (is:List Nat) (n:Nat):bD K H H (uW is σ++List.replicate n none) (iz is ρ++List.replicate n none):=by
 have Y8:∀ (j:Nat) c,(iz is ρ++List.replicate n none)[j]?=some (some c)->rC c=false:=λj c e=>by
  by_cases hj:j < is.length
  ·rw[ZI (by simp[iz];omega)] at e;unfold iz at e;rw[zI] at e;cases q:is[j]? with
   |none=>rw[q] at e;cases e
   |some i=>
    rw[q] at e;have:w6 ρ i=some c:=by simpa using e
    exact vN this
  ·rw[qk (by simp[iz];omega),QI] at e;split at e<;>cases e
 refine⟨by simp[uW,iz],λj b e=>?_,λj k c a b e ec=>absurd ec (by rw[Y8 j c e];exact ZA),Same.refl H,λj c a e ec=>absurd ec (by rw[Y8 j c e];exact ZA)⟩;by_cases hj:j < is.length
 ·rw[ZI (by simp[iz];omega)] at e;rw[ZI (by simp[uW];omega)];unfold iz at e;unfold uW;rw[zI] at e ⊢;cases q:is[j]? with
  |none=>rw[q] at e;cases e
  |some i=>
   rw[q] at e;have:w6 ρ i=some b:=by simpa using e
   obtain⟨v,e1,r⟩:=J1 E this;exact⟨v,by simp[e1],r⟩
 ·rw[qk (by simp[iz];omega),QI] at e;split at e<;>cases e
theorem bD.forget {K:FG_} {H0 H:Hp} {σ:L2.St} {ρ ρ':Ev} (E:bD K H0 H σ ρ') (hl:ρ'.length=ρ.length) (h:∀ (j:Nat) b,ρ[j]?=some (some b)->ρ'[j]?=some (some b)):bD K H0 H σ ρ:=
 ⟨E.len.trans hl,λj b e=>E.val j b (h j b e),λi j c a b e1 ec e2 e3 e4 e5=>E.own i j c a b (h _ _ e1) ec e2 (h _ _ e3) e4 e5,E.base,λi c a e1 ec e2=>E.new i c a (h _ _ e1) ec e2⟩
structure Apt (Hb:Hp) (σ:L2.St) (ρ:Ev) (n:Nat):Prop where
 own:∀ (j:Nat) c,ρ[j]?=some (some c)->rC c=false
 lt:∀ (j:Nat) b,ρ[j]?=some (some b)->j < n
 old:∀ (j:Nat) c a,ρ[j]?=some (some c)->loose c=true->σ[j]?=some (some (.ref a))->Hb a≠none
def Fx (σ σ':L2.St) (ρ:Ev):Prop:=∀ (j:Nat) c,loose c=true->ρ[j]?=some (some c)->σ'[j]?=σ[j]?
theorem Apt.fx {Hb:Hp} {σ σ':L2.St} {ρ:Ev} {n:Nat} (P:Apt Hb σ ρ n) (f:Fx σ σ' ρ):Apt Hb σ' ρ n:=⟨P.own,P.lt,λj c a e hl ea=>P.old j c a e hl (by rw[<-f j c hl e];exact ea)⟩
theorem known {K:FG_} {H0 H:Hp} {σ:L2.St} {ρ:Ev} (E:bD K H0 H σ ρ) (j:Nat) (c:Bx) (a:Addr) (e:ρ[j]?=some (some c)) (hl:loose c=true) (ea:σ[j]?=some (some (.ref a))):H a≠none:=λz=>by
 obtain⟨v,e1,rc⟩:=E.val j _ e;rw[ea] at e1;cases e1;cases c with
 |z d=>cases hl
 |l dz=>
  obtain⟨a',vs,e2,q,_⟩:=rc;cases e2;rcases q with q|⟨o,q⟩<;>(rw[z] at q;cases q)
 |n dz=>
  obtain⟨a',vs,e2,q,_⟩:=rc;cases e2;rcases q with q|⟨o,q⟩<;>(rw[z] at q;cases q)
 |o dz=>
  obtain⟨a',vs,e2,q,_⟩:=rc;cases e2;rw[z] at q;cases q
 |m dz _=>
  obtain⟨a',vs,e2,q,_⟩:=rc;cases e2;rw[z] at q;cases q
theorem bD.grown {K:FG_} {Hb H:Hp} {σ:L2.St} {ρ:Ev} {n:Nat} {D:Addr} {o:HO} (E:bD K Hb H σ ρ) (P:Apt Hb σ ρ n) (hD:Hb D=none) (kp:Kp H (upd H D o)):bD K Hb (upd H D o) σ ρ:=by
 refine⟨E.len,λj b e=>?_,λj k c a b e ec=>absurd ec (by rw[P.own j c e];exact ZA),λc o e=>?_,λj c a e ec=>absurd ec (by rw[P.own j c e];exact ZA)⟩
 ·obtain⟨v,ev,rb⟩:=E.val j b e;refine⟨v,ev,?_⟩;cases b with
  |z d=>exact Rep.kp kp rb
  |o dz=>have:=P.own j _ e;cases this
  |m dz _=>have:=P.own j _ e;cases this
  |n dz=>
   obtain⟨a,vs,rfl,q,rr⟩:=rb;refine⟨a,vs,rfl,?_,rr.kp kp⟩;have ha:a≠D:=λz=>P.old j _ _ e rfl ev (by rw[z];exact hD);exact q.imp (λq=>by rw[aG ha];exact q) λ⟨o,q⟩=>⟨o,by rw[aG ha];exact q⟩
  |l dz=>
   obtain⟨a,vs,rfl,q,rr⟩:=rb;refine⟨a,vs,rfl,?_,rr.kp kp⟩;have ha:a≠D:=λz=>P.old j _ _ e rfl ev (by rw[z];exact hD);exact q.imp (λq=>by rw[aG ha];exact q) λ⟨o,q⟩=>⟨o,by rw[aG ha];exact q⟩
 ·rw[aG (bw e hD)];exact E.base c o e
def Wf (X:Cx) (el:Addr->Env->Sem Unit) (fs:Ev->Option (List Dt)) (Ac:Addr->Hp->List Dt->HO->Prop) (N n:Nat):Prop:=∀ (pins:List (Addr×Obj)) (s:Shared) (σ:L2.St) (H Hb:Hp) (ρ:Ev) (D:Addr) (o:HO) (o1 ys:List Dt),L2.Inv X pins σ H s->bD X.K Hb H σ ρ->Apt Hb σ ρ n->Hb D=none->fs ρ=some ys->H D=some o->Ac D H o1 o->o1.length+ys.length<=N →
 wpAny (model X.prog X.w) X.A (el D X.env) (λ_ s'=>∃ σ' H' o',L2.Inv X pins σ' H' s'/\bD X.K Hb H' σ' ρ/\Fx σ σ' ρ/\H' D=some o'/\Ac D H' (o1++ys) o') X.xe s
theorem Wg {el:Addr->Env->Sem Unit} {fs:Ev->Option (List Dt)} {Ac:Addr->Hp->List Dt->HO->Prop} {N n:Nat} (h:∀ (pins:List (Addr×Obj)) (s:Shared) (σ:L2.St) (H Hb:Hp) (ρ:Ev) (D:Addr) (o:HO) (o1 ys:List Dt),L2.Inv X pins σ H s->bD X.K Hb H σ ρ->fs ρ=some ys->H D=some o->Ac D H o1 o->o1.length+ys.length<=N →
  wpAny (model X.prog X.w) X.A (el D X.env) (λ_ s'=>∃ H9 o',L2.Inv X pins σ (upd H9 D o') s'/\Same H H9/\Kp H9 (upd H9 D o')/\Ac D (upd H9 D o') (o1++ys) o') X.xe s):Wf X el fs Ac N n:=λpins s σ H Hb ρ D o o1 ys I E P hD e1 e2 a1 l=>by
 refine ZN (h pins s σ H Hb ρ D o o1 ys I E e1 e2 a1 l) (λ_ s' ⟨H9,o',I',s9,kp,a'⟩=>?_) λ_ _ z=>z;exact⟨σ,_,o',I',(E.grow s9).grown P hD kp,λ_ _ _ _=>rfl,aQ,a'⟩
structure J6 (B:Around->Bool->Prop) (P:Program) (w:World) (K:FG_) (tg:Expr) (J:It) (fp:List Addr) (it:Addr) (tn:Nat->Heap->Prop):Prop where
 obj:∀ i h,tn i h->∀ b∈fp,∃ o,h.get? b=some o/\∀ v,o.data≠.cell v
 keep:∀ i h h',tn i h->(∀ b∈fp,∀ o,h.get? b=some o->h'.get? b=some o)->tn i h'
 item:∀ (X:Cx),X.prog=P->X.w=w->X.K=K->B X.A X.calm->∀ (i:Nat) (pins:List (Addr×Obj)) (s:Shared) (σ:L2.St) (H:Hp) (E:VP_),L2.Inv X pins σ H s->(∀ b∈fp,pq X pins H b)->tn i s.heap->J.go i H →
  wpAny (model P w) X.A (pyNext (.ref it)) (λr s1=>∃ u,r=some u ∧
   wpAny (model P w) X.A (letOwnedTupleGo tg (.ref it) u) (λ_ s2=>∃ x H',L2.Inv X pins σ H' s2/\RelV x u/\J.yld i H x H'/\tn (i+1) s2.heap/\∀ b∈fp,H' b=none) E s1) E s
 done:∀ (X:Cx),X.prog=P->X.w=w->X.K=K->B X.A X.calm->∀ (i:Nat) (pins:List (Addr×Obj)) (s:Shared) (σ:L2.St) (H:Hp) (E:VP_),L2.Inv X pins σ H s->(∀ b∈fp,pq X pins H b)->tn i s.heap->J.stop i H →
  wpAny (model P w) X.A (pyNext (.ref it)) (λr s1=>r=none/\L2.Inv X pins σ H s1) E s
 self:∀ (A:Around) (i:Nat) (s:Shared) (Q:VP_) (E:VP_),tn i s.heap->Q (.ref it) s->wpAny (model P w) A (pyIter (.ref it)) Q E s
abbrev FZ:Around->Bool->Prop:=λ_ c=>c=true
theorem J7 {P:Program} {w:World} {K:FG_} {tg:Expr} {J:It} {fp:List Addr} {it:Addr} {tn:Nat->Heap->Prop} (T:Turn P w K tg J fp it tn):J6 FZ P w K tg J fp it tn:=⟨T.obj,T.keep,T.item,T.done,T.self⟩
theorem Tn {B:Around->Bool->Prop} {comp:Expr} {d:Nat} {ipos:Pos} {Ac:Addr->Hp->List Dt->HO->Prop} {el:Addr->Env->Sem Unit} {fs:Ev->Option (List Dt)} {N n m:Nat} {pins:List (Addr×Obj)} {σ:L2.St} {H Hb:Hp} {s:Shared} {it D:Addr} {fp:List Addr} {tn:Nat->Heap->Prop} {J:It} {ds o0 out:List Dt} {o:HO} {ρ:Ev} {R:Result->Shared->Prop}
  (hcalm:B X.A X.calm) (hx:X.xe=λ_ _=>False) (Ga:PTg X tgt gt) (hif:Tests X ifs p) (hel:Wf X el fs Ac N m) (htk:Wb n m gt) (hnm:n<=m)
  (I:L2.Inv X pins σ H s) (E:bD X.K Hb H σ ρ) (P:Apt Hb σ ρ n) (hD:Hb D=none) (hHD:H D=some o) (hA:Ac D H o0 o)
  (T:J6 B X.prog X.w X.K tgt J fp it tn) (st:tn 0 s.heap) (hf:∀ b∈fp,pq X pins H b) (Y:Yields X.K J ds Hb)
  (hout:za gt p fs ρ ds=some out) (hN:o0.length+out.length<=N)
  (hAk:∀ {D:Addr} {H H':Hp} {o1:List Dt} {o:HO},Kp H H'->Ac D H o1 o->Ac D H' o1 o)
  (hturn:∀ (it:Value) (D:Addr) (env:Env),compTurn comp d it (.ref D) env=(standAt ipos >>= λ_=>pyNext it >>= λr=>match r with
   |none=>pure (.done .next)
   |some v=>letOwnedTupleGo tgt it v >>= λ_=>assign tgt env v >>= λ_=>(forIn ifs true λc r=>if r=true then isTrue c env (eval c env) >>= λok=>pure (ForInStep.yield ok) else pure (ForInStep.yield r)) >>= λok=>if ok=true then el D env >>= λ_=>again (.compLoop comp d it (.ref D) env) else again (.compLoop comp d it (.ref D) env)))
  (hsh:∀ {it acc:Value} {env:Env} {Q:Fin->Shared->Prop} {E:VP_} {s:Shared},wpAny (model X.prog X.w) X.A ((compTurn comp d it acc env).onRaise (λx=>noteFrame x env >>= λ_=>theTreesLotGoes x)) Q E s->wpAny (model X.prog X.w) (X.A.under (.compLoop comp d it acc env)) ((model X.prog X.w).den (.compLoop comp d it acc env)) Q E s)
  (hR:∀ s' σ' H' o',L2.Inv X pins σ' H' s'->bD X.K Hb H' σ' ρ->Fx σ σ' ρ->H' D=some o'->Ac D H' (o0++out) o'->R (.ok .next) s') :
  codeAny (model X.prog X.w) X.A (.compLoop comp d (.ref it) (.ref D) X.env) R s:=by
 have hfC:∀ {H':Hp},(∀ b∈fp,H' b=none)->∀ b∈fp,pq X pins H' b:=λ{H'} hn b hb=>⟨hn b hb,(hf b hb).2⟩;refine codeAny_loop rfl (λk s'=>∃ (i:Nat) (σ':L2.St) (H':Hp) (o1 o2:List Dt) (o:HO),k=ds.length - i/\i<=ds.length/\L2.Inv X pins σ' H' s'/\tn i s'.heap/\(∀ b∈fp,H' b=none)/\bD X.K Hb H' σ' ρ/\Fx σ σ' ρ/\H' D=some o/\Ac D H' o1 o/\za gt p fs ρ (ds.drop i)=some o2/\o1++o2=o0++out) ?_ ds.length
  ⟨0,σ,H,o0,out,o,by simp,QP _,I,st,λb hb=>(hf b hb).1,E,λ_ _ _ _=>rfl,hHD,hA,by simpa using hout,rfl⟩
 rintro k s4 ⟨i,σ4,H4,o1,o2,o,rfl,hi,I4,st4,fr4,E4,F4,hD4,r4,e4,ho⟩;have P4:=P.fx F4;refine hsh (wpAny_noted ?_);rw[hturn];obtain⟨y1,y2⟩:=Y i H4 E4.base;by_cases hlt:i < ds.length
 ·have hd:ds[i]?=some ds[i]:=by simp[hlt]
  obtain⟨go,yl⟩:=y1 _ hd;rw[List.drop_eq_getElem_cons hlt] at e4;simp only[za] at e4;obtain⟨ρ1,e1,e4⟩:=bind_some e4;obtain⟨k,ek,e4⟩:=bind_some e4;obtain⟨hl1,hk1⟩:=htk _ _ _ e1;have back:∀ {σ5:L2.St} {H5:Hp},bD X.K Hb H5 σ5 ρ1->bD X.K Hb H5 σ5 ρ:=λE5=>E5.forget hl1 λj b e=>by rw[hk1 j (.inl (P.lt j b e))];exact e
  refine zb (kR (zb ?_));refine gF (T.item X rfl rfl rfl hcalm i pins s4 σ4 H4 _ I4 (hfC fr4) st4 go) λr s5 ⟨u,hr,h5⟩=>?_;subst hr;refine zb (gF h5 λ_ s6 ⟨x,H6,I6,r6,y6,st6,fr6⟩=>?_);obtain⟨sm,rx⟩:=yl x H6 y6;have E4:=E4.grow sm;have hD4:=sm _ _ hD4;have r4:=hAk (.of sm) r4;have I6':=I6.pinned (hfC fr6) (T.obj _ _ st6);have ha:=Ga _ s6 σ4 H6 x u (λσ' H'=>H'=H6/\bD X.K Hb H6 σ' ρ1/\Lo σ4 ρ σ' ρ1) I6' r6 ⟨Hb,ρ,ds[i],ρ1,E4,rx,e1,λσ' E' L'=>⟨rfl,E',L'⟩⟩;rw[hx] at ha;refine zb (ZN ha (λ_ s7 h7=>?_) λ_ _ z=>z.elim);obtain⟨σ7,H7,I7,rfl,E7,L7⟩:=h7;have P7:Apt Hb σ7 ρ1 m:=by
   refine⟨λj c e=>?_,λj c e=>?_,λj c a e hl ea=>?_⟩
   ·cases c with
    |o ds=>exact P.own j _ (L7 j _ rfl e).1
    |m ds _=>exact P.own j _ (L7 j _ rfl e).1
    |_=>rfl
   ·refine Nat.lt_of_not_le λh=>?_;rw[hk1 j (.inr h)] at e;exact absurd (ZE (P.lt j c e) hnm) (Nat.not_lt.mpr h)
   ·obtain⟨e',ee⟩:=L7 j c hl e;exact P4.old j c a e' hl (by rw[<-ee];exact ea)
  have abV:∀ {σ5:L2.St},Fx σ7 σ5 ρ1->Fx σ σ5 ρ:=λf j c hl e=>by
   have e':ρ1[j]?=some (some c):=by rw[hk1 j (.inl (P.lt j c e))];exact e
   exact(f j c hl e').trans ((L7 j c hl e').2.trans (F4 j c hl e))
  have ht:wpAny (model X.prog X.w) X.A (forIn ifs true λc r=>if r=true then do let ok <-isTrue c X.env (eval c X.env);pure (ForInStep.yield ok) else pure (ForInStep.yield r))
    (λok s8=>ok=k/\∃ H8,L2.Inv X (pins++wZ fp s6.heap) σ7 H8 s8/\Same H7 H8) (notedBy (model X.prog X.w) X.A X.env λe s'=>R (.error e) s') s7:=by
   rcases hif with⟨rfl,rfl⟩|⟨c,rfl,hc⟩
   ·cases ek;exact wpAny_tests_nil ⟨rfl,H7,I7,Same.refl H7⟩
   ·refine wpAny_tests_one ?_;have:=hc _ s7 σ7 H7 (λb H8=>b=k/\Same H7 H8) I7 ⟨Hb,ρ1,k,E7,ek,λH8 s8=>⟨rfl,s8⟩⟩;rw[hx] at this;exact ZN this (λb s8 ⟨H8,I8,eb,s8'⟩=>⟨eb,H8,I8,s8'⟩) λ_ _ z=>z.elim
  refine zb (ZN ht (λok s8 h8=>?_) λ_ _ z=>z);obtain⟨rfl,H8,I8,s78⟩:=h8;have Wh:∀ {σ9:L2.St} {H9:Hp} {s9:Shared},L2.Inv X (pins++wZ fp s6.heap) σ9 H9 s9->L2.Inv X pins σ9 H9 s9/\tn (i+1) s9.heap/\∀ b∈fp,H9 b=none:=λ{σ9 H9 s9} I9=>by
   refine⟨I9.rQ,T.keep _ _ _ st6 λb hb o e=>(I9.pin (b,o) (ZT _ (ZT _ (pZ hb e)))).1,λb hb=>?_⟩;obtain⟨o,e,d⟩:=T.obj _ _ st6 b hb;exact(I9.pin (b,o) (ZT _ (ZT _ (pZ hb e)))).2.1
  cases ok with
  |false=>
   rw[zw ZA] at e4;obtain⟨I9,st9,fr9⟩:=Wh I8;exact ze ⟨rfl,ds.length - (i+1),by omega,i+1,σ7,H8,o1,o2,o,rfl,hlt,I9,st9,fr9,back (E7.grow s78),abV (λ_ _ _ _=>rfl),s78 _ _ hD4,hAk (.of s78) r4,e4,ho⟩
  |true=>
   rw[zl rfl] at e4;obtain⟨ys,eb,e4⟩:=bind_some e4;obtain⟨zs,e5,e4⟩:=bind_some e4;cases e4;have hl:=congrArg List.length ho;simp only[Zp] at hl;have he:=hel _ s8 σ7 H8 Hb ρ1 D o o1 ys I8 (E7.grow s78) P7 hD eb (s78 _ _ hD4) (hAk (.of s78) r4) (by omega);rw[hx] at he;refine zb (ZN he (λ_ s10 h10=>?_) λ_ _ z=>z.elim);obtain⟨σ9,H9,o',I10,E9,F9,hD9,a5⟩:=h10;obtain⟨I11,ahA,ahB⟩:=Wh I10;exact ze ⟨rfl,ds.length - (i+1),by omega,i+1,σ9,H9,o1++ys,zs,o',rfl,hlt,I11,ahA,ahB,back E9,abV F9,hD9,a5,e5,by rw[kK];exact ho⟩
 ·have hge:ds.length<=i:=by omega
  rw[List.drop_eq_nil_of_le hge] at e4;cases e4;refine zb (kR (zb ?_));refine gF (T.done X rfl rfl rfl hcalm i pins s4 σ4 H4 _ I4 (hfC fr4) st4 (y2 hge)) λr s5 ⟨hr,I5⟩=>?_;subst hr;rw[QA] at ho;exact ze (hR s5 σ4 H4 o I5 E4 F4 hD4 (by rw[<-ho];exact r4))
theorem Gb {B:Around->Bool->Prop} {comp:Expr} {mk:Sem Value} {o0:Obj} {O0:HO} {Ac:Addr->Hp->List Dt->HO->Prop} {el:Addr->Env->Sem Unit} {fs:Ev->Option (List Dt)} {N m:Nat} {pins:List (Addr×Obj)} {σ:L2.St} {H2:Hp} {s2:Shared} {it:Addr} {fp:List Addr} {tn:Nat->Heap->Prop} {J:It} {ds out:List Dt} {ρ:Ev} {RR:Value->Addr->Result->Shared->Prop} {E:VP_}
  (O:oX X scope cl xs is) (hcalm:B X.A X.calm)
  (Ga:∀ C s₀ H₀ fp,PTg (yZ X (xs++ts) scope cl C s₀ H₀ fp) tgt gt) (hif:∀ C s₀ H₀ fp,Tests (yZ X (xs++ts) scope cl C s₀ H₀ fp) ifs p) (helt:∀ C s₀ H₀ fp,Wf (yZ X (xs++ts) scope cl C s₀ H₀ fp) el fs Ac N m) (htk:Wb is.length m gt) (hnm:is.length<=m)
  (I2:L2.Inv X pins σ H2 s2) (Ec:bD X.K H2 H2 (uW is σ++List.replicate ts.length none) (iz is ρ++List.replicate ts.length none)) (T:J6 B X.prog X.w X.K tgt J fp it tn) (st:tn 0 s2.heap) (hf:∀ b∈fp,pq X pins H2 b) (Y:Yields X.K J ds H2)
  (hout:za gt p fs (iz is ρ++List.replicate ts.length none) ds=some out) (hlen:out.length<=N)
  (hRR:∀ (D C:Addr) (s':Shared) (H':Hp) (o:HO),H2 D=none->L2.Inv X pins σ H' s'->pq X pins H' C->(∃ m,s'.heap.Ns C m)->Same H2 H'->H' D=some o->Ac D H' out o->RR (.ref D) C (.ok .next) s')
  (hmk:∀ {Q:VP_},Q (.ref s2.heap.objs.size) { s2 with heap:=s2.heap.push o0 }->wpAny (model X.prog X.w) X.A mk Q E s2) (hO0:∀ H,eY X.prog X.w H (s2.heap.push o0) s2.heap.objs.size O0) (hA0:∀ H,Ac s2.heap.objs.size H [] O0)
  (hAk:∀ {D:Addr} {H H':Hp} {o1:List Dt} {o:HO},Kp H H'->Ac D H o1 o->Ac D H' o1 o)
  (hturn:∀ (it:Value) (D:Addr) (env:Env),compTurn comp 0 it (.ref D) env=(standAt iter.pos >>= λ_=>pyNext it >>= λr=>match r with
   |none=>pure (.done .next)
   |some v=>letOwnedTupleGo tgt it v >>= λ_=>assign tgt env v >>= λ_=>(forIn ifs true λc r=>if r=true then isTrue c env (eval c env) >>= λok=>pure (ForInStep.yield ok) else pure (ForInStep.yield r)) >>= λok=>if ok=true then el D env >>= λ_=>again (.compLoop comp 0 it (.ref D) env) else again (.compLoop comp 0 it (.ref D) env)))
  (hstart:∀ {it acc:Value} {env:Env} {R:Result->Shared->Prop} {s:Shared},codeAny (model X.prog X.w) X.A (.compLoop comp 0 it acc env) R s->wpAny (model X.prog X.w) X.A (pyIter it) (λit' s'=>codeAny (model X.prog X.w) X.A (.compLoop comp 0 it' acc env) R s') (notedBy (model X.prog X.w) X.A env λx s'=>R (.error x) s') s->codeAny (model X.prog X.w) X.A (.compStart comp 0 it acc env) R s)
  (hsh:∀ {it acc:Value} {env:Env} {Q:Fin->Shared->Prop} {E:VP_} {s:Shared},wpAny (model X.prog X.w) X.A ((compTurn comp 0 it acc env).onRaise (λx=>noteFrame x env >>= λ_=>theTreesLotGoes x)) Q E s->wpAny (model X.prog X.w) (X.A.under (.compLoop comp 0 it acc env)) ((model X.prog X.w).den (.compLoop comp 0 it acc env)) Q E s) :
  wpAny (model X.prog X.w) X.A mk (λacc s₃=>wpAny (model X.prog X.w) X.A (newFunctionEnv scope X.env.globals cl [] X.env.qual none .none (some X.env)) (λcenv s₄=>
   codeAny (model X.prog X.w) X.A (.compStart comp 0 (.ref it) acc { cenv with scope:=relabel scope X.env }) (RR acc cenv.locals) s₄) E s₃) E s2:=by
 refine hmk (Tj ?_);have hD:H2 s2.heap.objs.size=none:=I2.hok.fresh (zg _);have I3:L2.Inv X pins σ (upd H2 s2.heap.objs.size O0) { s2 with heap:=s2.heap.push o0 }:=
  I2.laid (t':=s2.toks) (λb o e=>zd _ e) (zg _) (hO0 _)
 have afy:∀ b∈fp,b < s2.heap.objs.size:=λb hb=>let ⟨o,e,_⟩:=T.obj 0 _ st b hb;zv e;have hf3:∀ b∈fp,pq X pins (upd H2 s2.heap.objs.size O0) b:=λb hb=>⟨by rw[aG (zC (afy b hb))];exact(hf b hb).1,(hf b hb).2⟩;have st3:tn 0 (s2.heap.push o0):=T.keep 0 _ _ st λb hb o e=>zd _ e;have Z6:∀ b∈fp,b < (s2.heap.push o0).objs.size:=λb hb=>by rw[qh];exact qr (afy b hb)
 generalize hs3:({ s2 with heap:=s2.heap.push o0 }:Shared)=s3 at *
 have ahD:s3.heap=s2.heap.push o0:=by rw[<-hs3]
 rw[<-ahD] at st3 Z6;have IC:=Wd (ts:=ts) I3 O hf3 Z6;have st1:tn 0 (pushCells (s3.heap.push { cls:=.type "dict", data:=.dict #[] }) scope.names):=T.keep 0 _ _ st3 λb hb o e=>pushCells_keeps _ _ b o (zd _ e);have hfC:∀ b∈fp,pq (yZ X (xs++ts) scope cl s3.heap.objs.size s3 (upd H2 s2.heap.objs.size O0) fp) [] (upd H2 s2.heap.objs.size O0) b:=λb hb=>by
  obtain⟨f0,f1,f2,f3,f4,f5⟩:=hf3 b hb;refine⟨f0,zC (Z6 b hb),λz=>?_,.inl hb,λx c e z=>?_,λq hq=>absurd (show q∈([]:List (Addr×Obj)) from hq) (by simp)⟩
  ·rcases List.mem_cons.mp (I3.Ak b z) with q|q
   ·exact f1 q
   ·exact f2 q
  ·rcases vQ _ _ _ x c e with h|h
   ·exact f4 x c (O.sub.get h) z
   ·rw[z] at h;exact absurd (ZE (Z6 b hb) (Nat.le_of_succ_le h)) (JE _)
 have P0:Apt H2 (uW is σ++List.replicate ts.length none) (iz is ρ++List.replicate ts.length none) is.length:=by
  have g:∀ (j:Nat) c,(iz is ρ++List.replicate ts.length none)[j]?=some (some c)->j < is.length/\rC c=false:=λj c e=>by
   by_cases hj:j < is.length
   ·refine⟨hj,?_⟩;rw[ZI (by simp[iz];omega)] at e;unfold iz at e;rw[zI] at e;cases q:is[j]? with
    |none=>rw[q] at e;cases e
    |some i=>rw[q] at e;exact vN (by simpa using e)
   ·rw[qk (by simp[iz];omega),QI] at e;split at e<;>cases e
  exact⟨λj c e=>(g j c e).2,λj c e=>(g j c e).1,known Ec⟩
 have h:=Tn (B:=B) (X:=yZ X (xs++ts) scope cl s3.heap.objs.size s3 (upd H2 s2.heap.objs.size O0) fp) (R:=RR (.ref s2.heap.objs.size) s3.heap.objs.size) (o0:=[]) hcalm rfl (Ga _ _ _ _) (hif _ _ _ _) (helt _ _ _ _) htk hnm IC (Ec.grow (bG hD)) P0 hD aQ (hA0 _) T st1 hfC Y hout (by simpa using hlen) hAk hturn hsh λs5 σ5 H5 o5 I5 E5 _ hD5 a5=>by
  have IB:L2.Inv X pins σ H5 s5:=I3.call' (ch:=fp) I5.os I5.base I5.hok I5.bare λb hb=>by
   obtain⟨f0,f1,f2,f3,f4,f5⟩:=hf3 b hb;exact⟨f3,f1,f4,f5⟩
  obtain⟨m,hn,_⟩:=I5.loc;exact hRR _ _ s5 H5 o5 hD IB (I3.Sy (zg _) I5.free) ⟨m,hn⟩ E5.base hD5 a5
 exact hstart h (T.self _ 0 _ _ _ st1 h)
def AcL (K:FG_) (_:Addr) (H:Hp) (o1:List Dt) (o:HO):Prop:=∃ us,o=.lst us/\aK K H o1 us
theorem AcL.kp {K:FG_} {D:Addr} {H H':Hp} {o1:List Dt} {o:HO} (k:Kp H H'):AcL K D H o1 o->AcL K D H' o1 o:=λ⟨us,e,r⟩=>⟨us,e,r.kp k⟩
def afz (fe:Ev->Option Bx):Ev->Option (List Dt):=λρ=>(fe ρ).bind adk
theorem Z7 {n:Nat} (h:PV X elt fe):Wf X (λD env=>do let _ <-call (.builtin "list.append") [.ref D,<-eval elt env]) (afz fe) (AcL X.K) 100000 n:=by
 refine Wg λpins s σ H Hb ρ D o o1 ys I En ee hD ⟨us,e,r4⟩ hl=>?_;subst e;obtain⟨b,eb,ee⟩:=bind_some ee;obtain⟨y,rfl,rfl⟩:=xu ee;refine zb (ZN (h pins s σ H (λv H9=>Same H H9/\Rep X.K H9 y v) I ⟨Hb,ρ,_,En,eb,λv H9 s9 _ r9=>⟨s9,r9⟩⟩) (λv s9 h9=>?_) λ_ _ z=>z);obtain⟨v',H9,I9,rv,s89,r9⟩:=h9;have hD9:=s89 _ _ hD;refine zb (ZN ((FP (X:=X)) _ s9 σ H9 (.ref D) [v'] (.ref D) [v] (λw H10=>H10=upd H9 D (.lst (us++[v']))) I9 rfl (.cons rv .nil) ⟨_,us,v',rfl,rfl,hD9,by rw[r4.length];have h0:(100000:Nat) < sizeLine:=(by decide);simp at hl;omega,rfl⟩) (λw s10 h10=>?_) λ_ _ z=>z);obtain⟨w',H10,I10,_,rfl⟩:=h10;have kp:Kp H9 (upd H9 D (.lst (us++[v']))):=.lst hD9;exact ze ⟨H9,_,I10,s89,kp,us++[v'],rfl,((r4.kp (.of s89)).append (aK.cons r9 aK.nil)).kp kp⟩
theorem rW {B:Around->Bool->Prop} {pins:List (Addr×Obj)} {σ:L2.St} {H2:Hp} {s2:Shared} {it:Addr} {fp:List Addr} {tn:Nat->Heap->Prop} {J:It} {ds out:List Dt} {ρ:Ev} {RR:Value->Addr->Result->Shared->Prop} {E:VP_}
  (O:oX X scope cl xs is) (hcalm:B X.A X.calm)
  (Ga:∀ C s₀ H₀ fp,PTg (yZ X (xs++ts) scope cl C s₀ H₀ fp) tgt gt) (hif:∀ C s₀ H₀ fp,Tests (yZ X (xs++ts) scope cl C s₀ H₀ fp) ifs p) (helt:∀ C s₀ H₀ fp,PV (yZ X (xs++ts) scope cl C s₀ H₀ fp) elt fe) (htk:Wb is.length (is.length+ts.length) gt)
  (I2:L2.Inv X pins σ H2 s2) (Ec:bD X.K H2 H2 (uW is σ++List.replicate ts.length none) (iz is ρ++List.replicate ts.length none)) (T:J6 B X.prog X.w X.K tgt J fp it tn) (st:tn 0 s2.heap) (hf:∀ b∈fp,pq X pins H2 b) (Y:Yields X.K J ds H2)
  (hlen:ds.length<=100000) (hout:vR gt p fe (iz is ρ++List.replicate ts.length none) ds=some out)
  (hRR:∀ (D C:Addr) (s':Shared) (H':Hp) (us:List V),H2 D=none->L2.Inv X pins σ H' s'->pq X pins H' C->(∃ m,s'.heap.Ns C m)->Same H2 H'->H' D=some (.lst us)->aK X.K H' out us->RR (.ref D) C (.ok .next) s') :
  wpAny (model X.prog X.w) X.A (newList []) (λacc s₃=>wpAny (model X.prog X.w) X.A (newFunctionEnv scope X.env.globals cl [] X.env.qual none .none (some X.env)) (λcenv s₄=>
   codeAny (model X.prog X.w) X.A (.compStart (.ListComp elt [⟨tgt,iter,ifs,0⟩] scope pos) 0 (.ref it) acc { cenv with scope:=relabel scope X.env }) (RR acc cenv.locals) s₄) E s₃) E s2:=
 Gb (B:=B) (Ac:=AcL X.K) (O0:=.lst []) (N:=100000) O hcalm Ga hif (λC s₀ H₀ fp=>Z7 (helt C s₀ H₀ fp)) htk (Nat.le_add_right ..) I2 Ec T st hf Y hout (Zs (tZ hout) hlen) (λD C s' H' o a b c d e f g=>by obtain⟨us,rfl,r⟩:=g;exact hRR D C s' H' us a b c d e f r)
  ZZ (λ_=>⟨QP _,[],0,.nil,zt _ rfl⟩) (λ_=>⟨[],rfl,aK.nil⟩) AcL.kp (λ_ _ _=>rfl) codeAny_compStart_list λh=>h
end
def iC (K:FG_) (f:Ev->Option (List Dt)):TI:=λσ H R=>∃ H0 ρ ds,bD K H0 H σ ρ/\f ρ=some ds/\∀ J H',Same H H'->Yields K J ds H'->R J H'
def PIC (X:Cx) (tg iter:Expr) (f:Ev->Option (List Dt)):Prop:=PI X tg iter (iC X.K f)
structure QIC (X:Cx) (tg iter:Expr) (f:Ev->Option (List Dt)):Prop where
 run:PIC X tg iter f
def Wi:Bx->Option (List Dt)
 |.z (.lst ds)=>some ds
 |.z (.tup ds)=>some ds
 |.z (.str x)=>some (signs x)
 |.o ds=>some ds
 |.l ds=>some ds
 |_=>none
section
variable {X:Cx} {e elt tgt iter:Expr} {es ifs:List Expr} {f:Ev->Option Bx} {fs:Ev->Option (List Bx)} {scope:Scope} {cl:List (Str×Addr)} {pos:Pos} {xs ts:LS_} {is:List Nat} {gt:Dt->Ev->Option Ev} {p:Ev->Option Bool} {fe:Ev->Option Bx} {fi:Ev->Option (List Dt)}
theorem Od (h:QIF X tgt iter fi):QIC X tgt iter fi:=⟨have h:=h.run;λpins s σ H R I q=>by
 obtain⟨H0,ρ,ds,E,e,q⟩:=q;exact h pins s σ H R I ⟨H0,ρ,ds,E,e,λJ H' s' y=>q J H' s' (y H' (Same.refl H') (λ_ _=>rfl) (λ_ _ _ _=>rfl) λ_ _ _=>rfl)⟩⟩
theorem gM (h:QV X e f):QIC X tgt e (λρ=>(f ρ).bind Wi):=⟨have h:=h.run;λpins s σ H R I q=>by
 refine Ob h pins s σ H R I ?_;obtain⟨H0,ρ,ds,E,e,q⟩:=q;obtain⟨b,eb,e⟩:=bind_some e;refine⟨H0,ρ,b,E,eb,λv H1 s1 n1 r1=>?_⟩;cases b with
 |z d=>
  cases d with
  |tup ds'=>
   cases e;simp only[bf,Rep] at r1;obtain⟨a,vs,rfl,hq,rs⟩:=r1;exact .inr (.inl ⟨a,rfl,⟨vs,hq⟩,q _ _ s1 (.tup hq rs)⟩)
  |lst ds'=>
   cases e;obtain⟨a,vs,rfl,hq,rs⟩:=r1.FT rfl;exact .inl ⟨a,rfl,⟨vs,hq⟩,q _ _ s1 (.list hq rs)⟩
  |str x=>
   cases e;simp only[bf,Rep] at r1;obtain⟨rfl,_⟩:=r1;exact .inr (.inr ⟨x,rfl,q _ _ s1 (.str x)⟩)
  |_=>cases e
 |l ds'=>
  cases e;obtain⟨a,vs,rfl,hq,rs⟩:=r1.FT rfl;exact .inl ⟨a,rfl,⟨vs,hq⟩,q _ _ s1 (.list hq rs)⟩
 |o ds'=>
  cases e;obtain⟨a,vs,rfl,hq,rs⟩:=r1.FT rfl;exact .inl ⟨a,rfl,⟨vs,hq⟩,q _ _ s1 (.list hq rs)⟩
 |n _=>cases e
 |m _ _=>cases e⟩
def dN (fi:Ev->Option (List Dt)) (gt:Dt->Ev->Option Ev) (p:Ev->Option Bool) (fe:Ev->Option Bx) (is:List Nat) (n:Nat):Ev->Option Bx:=λρ=>(fi ρ).bind λds=>
 if ds.length<=100000 then(vR gt p fe (iz is ρ++List.replicate n none) ds).bind λout=>some (.o out) else none
theorem iJ (ts:LS_) (O:oX X scope cl xs is) (hcalm:X.calm=true) (hi:QIC X tgt iter fi) (Ga:∀ C s₀ H₀ fp,ZX (yZ X (xs++ts) scope cl C s₀ H₀ fp) tgt gt) (hif:∀ C s₀ H₀ fp,xG (yZ X (xs++ts) scope cl C s₀ H₀ fp) ifs p) (helt:∀ C s₀ H₀ fp,QV (yZ X (xs++ts) scope cl C s₀ H₀ fp) elt fe) (htk:Wb is.length (is.length+ts.length) gt) (hs:∀ x,foldedSetIterable iter X.env x=pure x:=by intro _;rfl):QV X (.ListComp elt [⟨tgt,iter,ifs,0⟩] scope pos) (dN fi gt p fe is ts.length):=⟨have hi:=hi.run;have Ga:=λC s₀ H₀ fp=>(Ga C s₀ H₀ fp).run;have hif:=λC s₀ H₀ fp=>(hif C s₀ H₀ fp).run;have helt:=λC s₀ H₀ fp=>(helt C s₀ H₀ fp).run;λpins s σ H Q I h=>by
 obtain⟨H0,ρ,b,E,e,q⟩:=h;obtain⟨ds,ed,e⟩:=bind_some e;split at e
 ·rename_i hlen;obtain⟨out,eo,e⟩:=bind_some e;cases e;rw[eval_ListComp];refine ke (use:=none) rfl hs O.clos O.kind O.names ?_;refine gF (hi pins s σ H (λJ H'=>Same H H'/\Yields X.K J ds H') I ⟨H0,ρ,ds,E,ed,λJ H' s' y=>⟨s',y⟩⟩) λv s1 h1=>gF h1 λitv s2 h2=>?_;obtain⟨it,fp,tn,J,H2,rfl,I2,T,st,hf,s12,Y⟩:=h2;refine rW (B:=FZ) (RR:=λacc C=>compPost (model X.prog X.w) X.A X.xe none (EP X pins σ Q) acc C) (ts:=ts) (xs:=xs) O hcalm Ga hif helt htk I2 ((E.grow s12).caps is ts.length) (J7 T) st hf Y hlen eo ?_;intro D C s' H' us hD I' fC ⟨m,hn⟩ s2' hD' r';refine⟨m,hn,λh' sb=>⟨.ref D,H',?_,rfl,q _ _ (s12.trans s2') (λa ea=>by cases ea;exact s12.free hD) ⟨D,us,rfl,hD',r'⟩⟩⟩;obtain⟨f0,f1,f2,f3,f4,f5⟩:=fC;exact I'.turned (t':=s'.toks) (λb o hb e=>(sb.2 b hb).trans e) f0 f1 f3 f4 f5
 ·cases e⟩
theorem HJ (i:Nat) {y:Str} {py spos:Pos} (ts:LS_) (O:oX X scope cl xs is) (hcalm:X.calm=true) (hN:X.N.Nodup) (hi:QIC X tgt iter fi) (Ga:∀ C s₀ H₀ fp,ZX (yZ X (xs++ts) scope cl C s₀ H₀ fp) tgt gt) (hif:∀ C s₀ H₀ fp,xG (yZ X (xs++ts) scope cl C s₀ H₀ fp) ifs p) (helt:∀ C s₀ H₀ fp,QV (yZ X (xs++ts) scope cl C s₀ H₀ fp) elt fe) (htk:Wb is.length (is.length+ts.length) gt) (hsw:swapsWith (.ListComp elt [⟨tgt,iter,ifs,0⟩] scope pos) (some (.Name y py)) spos.line X.env=pure true:=by with_unfolding_all rfl) (hy:X.N[i]?=some y:=by rfl) (hx:Loc X.env.scope y:=by first|exact kU rfl|exact JP rfl) (hf:X.fn y=true\/X.env.scope.names.lookup y=some .local:=by first|exact .inl rfl|exact .inr rfl) (hs:∀ x,foldedSetIterable iter X.env x=pure x:=by intro _;rfl):QW X (.Assign [.Name y py] (.ListComp elt [⟨tgt,iter,ifs,0⟩] scope pos) spos) (λρ=>(dN fi gt p fe is ts.length ρ).bind λb=>(V8 ρ i b).bind λρ'=>some (.nx ρ')):=⟨have hi:=hi.run;have Ga:=λC s₀ H₀ fp=>(Ga C s₀ H₀ fp).run;have hif:=λC s₀ H₀ fp=>(hif C s₀ H₀ fp).run;have helt:=λC s₀ H₀ fp=>(helt C s₀ H₀ fp).run;λpins s σ H D I h=>by
 obtain⟨H0,ρ,r,E,e,q⟩:=h;obtain⟨b,eb,e⟩:=bind_some e;obtain⟨ds,ed,eb⟩:=bind_some eb;split at eb
 ·rename_i hlen;obtain⟨out,eo,eb⟩:=bind_some eb;cases eb;cases e;rw[exec_Assign_Name_used _ _ _ _ hsw];refine zb (kR (zb ?_));show wpAny _ X.A (do let _ <-comprehension (.ListComp elt [⟨tgt,iter,ifs,0⟩] scope pos) scope X.env _ (newList []) false (eval iter X.env) (some (assign (.Name y py) X.env))) _ _ s;refine zb (ZN (ke (use:=some (assign (.Name y py) X.env)) (Q:=λ_ s'=>SP X pins D .next s') rfl hs O.clos O.kind O.names ?_) (λ_ s' hq=>ze (ze hq)) λ_ _ e=>e);refine gF (hi pins s σ H (λJ H'=>Same H H'/\Yields X.K J ds H') I ⟨H0,ρ,ds,E,ed,λJ H' s' y=>⟨s',y⟩⟩) λv s1 h1=>gF h1 λitv s2 h2=>?_;obtain⟨it,fp,tn,J,H2,rfl,I2,T,st,hf',s12,Y⟩:=h2;refine rW (B:=FZ) (RR:=λacc C=>compPost (model X.prog X.w) X.A X.xe (some (assign (.Name y py) X.env)) (λ_ s'=>SP X pins D .next s') acc C) (ts:=ts) (xs:=xs) O hcalm Ga hif helt htk I2 ((E.grow s12).caps is ts.length) (J7 T) st hf' Y hlen eo ?_;intro Da C s' H' us hD I' fC ⟨m,hn⟩ s2' hD' r';show wpAny _ X.A (assign (.Name y py) X.env (.ref Da)) _ _ s';obtain⟨f0,f1,f2,f3,f4,f5⟩:=fC;obtain⟨oC,es',ep,hoC,hdC,hrest⟩:=id hn;have I'':L2.Inv X (pins++[(C,oC)]) σ H' s':=I'.zK λpp hp=>by
   rcases List.mem_append.mp hp with z|z
   ·exact I'.pin pp (ZT _ z)
   ·have:pp=(C,oC):=by simpa using z
    subst this;exact⟨hoC,f0,f1,f2,λv z=>by rw[hdC] at z;cases z⟩
  refine gF (L2.QH hN hy hx hf (pins++[(C,oC)]) s' σ H' (.ref Da) (.ref Da) (λσ' H''=>σ'=σ.set i (some (.ref Da))/\H''=H') I'' rfl ⟨rfl,rfl⟩) λ_ s'' ⟨σ',H'',J',e1,e2⟩=>?_;subst e1 e2;have hC':=(J'.pin (C,oC) (by simp)).1;refine⟨m,⟨oC,es',ep,hC',hdC,hrest⟩,λh' sb=>?_⟩;refine⟨σ.set i (some (.ref Da)),H'',J'.rQ.turned (t':=s''.toks) (λb o hb e=>(sb.2 b hb).trans e) f0 f1 f3 f4 f5,q _ _ ?_⟩;exact E.set (s12.trans s2') (b:=.o out) ⟨Da,us,rfl,hD',r'⟩ (.inl rfl) λa ea=>by cases ea;exact s12.free hD
 ·cases eb⟩
def lend:Bx->Bx
 |.o ds=>.l ds
 |.m ds _=>.n ds
 |b=>b
def isO:Bx->Bool
 |.o _=>true
 |.m _ _=>true
 |_=>false
def Z8 (K:FG_) (n:Nat) (F:List Bx->Option Bx):Sp:=λvs H Q _=>vs.length=n/\∃ bs r,pC K H bs vs/\bs.all (λb=>!isO b)=true/\F bs=some r/\∀ v H',Same H H'->Nw H r v->bf K H' r v->Q v H'
def dX (n:Nat) (g:Ev->Option Out):List Bx->Option Bx:=λbs=>(g (bs.map some++List.replicate (n - bs.length) none)).bind λr=>match r with
 |.rt b=>some b
 |.nx _=>some (.z .non)
 |_=>none
theorem bD.start {K:FG_} {H:Hp} {N:LS_} {bs:List Bx} {vs:List V} (r:pC K H bs vs) (ho:bs.all (λb=>!isO b)=true):bD K H H (L2.start N vs) (bs.map some++List.replicate (N.length - bs.length) none):=by
 have hl:bs.length=vs.length:=Paired.length r;have get:∀ (i:Nat) b,(bs.map some++List.replicate (N.length - bs.length) none)[i]?=some (some b)->bs[i]?=some b:=λi b e=>by
  by_cases hi:i < bs.length
  ·rw[ZI (by simpa using hi),zI] at e;cases q:bs[i]? with
   |none=>rw[q] at e;cases e
   |some b'=>rw[q] at e;simpa using e
  ·rw[qk (by simp;omega),QI] at e;split at e<;>cases e
 have Y8:∀ (i:Nat) c,(bs.map some++List.replicate (N.length - bs.length) none)[i]?=some (some c)->rC c=true->False:=λi c e ec=>by
  have:=List.all_eq_true.mp ho _ (qV (get i _ e));cases c with
  |o ds=>cases this
  |m ds _=>cases this
  |_=>cases ec
 refine⟨?_,λi b e=>?_,λi j c a b e ec=>(Y8 i c e ec).elim,Same.refl H,λi c a e ec=>(Y8 i c e ec).elim⟩
 ·unfold L2.start;simp[hl]
 ·have e':=get i b e;have hi:i < bs.length:=(List.getElem?_eq_some_iff.mp e').1;have:∀ {bs:List Bx} {vs:List V} {i:Nat} {b:Bx},Paired (bf K H) bs vs->bs[i]?=some b->∃ v,vs[i]?=some v/\bf K H b v:=by
   intro bs vs i b r
   induction r generalizing i with
   |nil=>intro e;simp at e
   |cons p t ih=>
    intro e;cases i with
    |zero=>simp at e;subst e;exact⟨_,rfl,p⟩
    |succ i=>obtain⟨v,e1,e2⟩:=ih (i:=i) (by simpa using e);exact⟨v,by simpa using e1,e2⟩
  obtain⟨v,e1,e2⟩:=this r e';refine⟨v,?_,e2⟩;unfold L2.start;rw[ZI (by simp;omega),zI,e1];rfl
end
section
variable {P:Program} {w:World} {K:FG_} {mg:Str->Option Value} {base:Heap}
theorem ahF {x qual:Str} {st:Stmt} {f:Addr} {fd:FuncData} {N ps:LS_} {k:Nat} {g:Ev->Option Out} (F:yE K x qual st f fd) (S:aY N ps (aF st))
  (hbody:∀ (cdv:Value) (A:Around) (outer:List Env) (s:Shared) (H:Hp) (E:XK),fK k (A.deeper (envOfC qual (aF st) s.heap.objs.size f cdv))->Vo (qb vM P w K mg base N qual (aF st) f cdv A outer s H E).Ve (dD st) g) :
  iV P w K mg base vM (k+1) f fd ps (Z8 K ps.length (dX N.length g)):=by
 refine F.ok S (λvs H Q E h=>h.1) λcdv A outer s H vs Q E hr h=>?_;obtain⟨hl,bs,r,rb,ho,e,q⟩:=h;refine⟨_,hbody cdv A outer s H E hr,?_⟩;obtain⟨r',er,e⟩:=bind_some e;refine⟨H,_,r',bD.start rb ho,er,?_⟩;cases r' with
 |rt b=>cases e;exact λv H' s' n' r'=>q v H' s' n' r'
 |nx ρ=>cases e;exact λσ H' E'=>q _ H' E'.base trivial (by unfold bf Rep;rfl)
 |bk ρ=>cases e
 |ct ρ=>cases e
end
section
variable {X:Cx} {k:Nat} {f:Addr} {fd:FuncData} {ps:LS_} {F:List Bx->Option Bx} {x:Str} {p pos:Pos} {e:Expr} {es:List Expr} {fs:Ev->Option (List Bx)} {n:Nat}
theorem Bj {K:FG_} {H:Hp}:∀ {bs:List Bx} {vs:List V},pC K H bs vs->pC K H (bs.map lend) vs
 |_,_,.nil=>.nil
 |b::bs,_,.cons h t=>by
  refine .cons ?_ (Bj t);cases b with
  |z d=>exact h
  |l ds=>exact h
  |o ds=>obtain⟨a,vs,e,q,r⟩:=h;exact⟨a,vs,e,.inl q,r⟩
  |n ds=>exact h
  |m ds _=>obtain⟨a,vs,e,q,r⟩:=h;exact⟨a,vs,e,.inl q,r.1⟩
theorem HN:∀ bs:List Bx,(bs.map lend).all (λb=>!isO b)=true
 |[]=>rfl
 |b::bs=>by
  rw[zo,kC,HN bs];cases b<;>rfl
def cH (n:Nat) (F:List Bx->Option Bx) (fs:Ev->Option (List Bx)):Ev->Option Bx:=λρ=>(fs ρ).bind λbs=>if bs.length=n then F (bs.map lend) else none
theorem Q0 (G:iV X.prog X.w X.K X.mg X.base vM k f fd ps (Z8 X.K n F)) (hr:fK k X.A) (hg:Gl X x) (hm:X.mg x=some (.ref f)) (hk:keepIn X.K (.ref f)=true) (hb:Binds X.K fd ps []) (ha:Tf X (e::es) fs) (hdb:(x==("__debug__" : Str))=false:=by decide) (he:starEach (e::es) X.env=(false,eval e X.env)::starEach es X.env:=by rfl) (hpl:(backTo pos (starEach es X.env)).any (·.1)=false:=by rfl):QV X (.Call (.Name x p) (e::es) [] pos) (cH n F fs):=⟨have ha:=ha.run;FW (Hj G hr hg hm hk hb .nil (abR) ha hdb he hpl) λσ H Q h=>by
 obtain⟨H0,ρ,r,E,e,q⟩:=h;obtain⟨bs,eb,e⟩:=bind_some e;refine⟨H0,ρ,bs,E,eb,λvs H1 s1 r1=>?_⟩;split at e
 ·rename_i hn;rw[QA];exact⟨by rw[<-Paired.length r1];exact hn,_,r,Bj r1,HN bs,e,λv H2 s2 n2 r2=>q v H2 (s1.trans s2) (n2.old s1) r2⟩
 ·cases e⟩
end
end P1
end
section
namespace P1
open PySem PySem.Spec PyProof.Rows L2 SeqAt
open AutoSeq1 (wpAny_loadPart')
def Ei (h:Heap) (a:Addr):Prop:=∃ o ep,h.get? a=some o/\o.ExactDict/\o.data=.dict #[] ep
section
variable {A:Around} {s:Shared} {a b:Addr}
theorem vU {P:Program} {w:World} {kvs:List (Key×V)} {h:Heap} {vs:List (Key×Value)} (q:kvs=[]) (r:KV kvs vs) (d:h.DictOf (aX P w) a vs):Ei h a:=by
 subst q;cases r;obtain⟨o,es,ep,h1,h2,h3,_,h5,_⟩:=d;have:es=#[]:=by
  have:=h5.length;apply Array.eq_empty_of_size_eq_zero;simpa using this
 subst this;exact⟨o,ep,h1,h2,h3⟩
theorem Ei.dict (P:Program) (w:World) {h:Heap} (x:Ei h a):h.DictOf (strKind P w) a []:=by
 obtain⟨o,ep,h1,h2,h3⟩:=x;exact⟨o,#[],ep,h1,h2,h3,λe he=>by simp at he,.nil,ya⟩
theorem abW (ha:(a==sysModules)=false) (hb:(b==sysModules)=false) (da:Ei s.heap a) (db:Ei s.heap b) (hu:A.units < cLine):RcAt A s (.ref a) (.ref b) true:=λprog w E Q h=>
 PySem.W.keq_eq (knd:=strKind prog w) ha hb (da.dict prog w) (db.dict prog w) hu (λ_=>.nil) h
theorem afB (ha:(a==sysModules)=false) (hb:(b==sysModules)=false) (da:Ei s.heap a) (db:Ei s.heap b) (hu:A.units < cLine):RcNeAt A s (.ref a) (.ref b) false:=λprog w E Q h=>
 PySem.W.keq_ne (r:=true) (knd:=strKind prog w) ha hb (da.dict prog w) (db.dict prog w) hu (λ_=>.nil) h
theorem J8 (o:Obj) (b:Str) (u:Tok):Meets (Builtin.«dict.__eq__» ⟨[.ref a,.str b u],[]⟩) (λ_ R s=>(s.heap.get? a=some o/\o.cls=.type "dict")/\R (.ok (.ret .notImplemented)) s):=
 .of_wp λprog w A R s h=>by
  have ht:s.TypeIs (.ref a) "dict" := ⟨o,h.1.1,h.1.2⟩;show wpAny _ _ (Builtin.Dict.dictSlotArgs "__eq__" ⟨[.ref a,.str b u],[]⟩ >>= _) _ _ s;refine zb ?_;unfold Builtin.Dict.dictSlotArgs;refine zb (wpAny_notOrdered_dict ht ?_);show wpAny _ _ (pure (Value.ref a,Value.str b u)) _ _ s;refine ze ?_;refine zb (JI (T := "str") (typeIs_str s b u) PySem.F.sub_str_dict ?_);simp only[Ki,qq];refine zb (kX ?_);exact ze ⟨_,rfl,h.2⟩
theorem J9 (b:Str) (u:Tok) (es:Array DictEntry) (ep:Nat) (dd:Option Addr) (sl:Array (Option Value)):Meets (Builtin.«str.__eq__» ⟨[.str b u,.ref a],[]⟩) (λ_ R s=>s.heap.get? a=some { cls:=.type "dict", dict:=dd,data:=.dict es ep,slots:=sl }/\R (.ok (.ret .notImplemented)) s):=
 .of_wp λprog w A R s h=>by obtain⟨hp,g,d,tk,os⟩:=s;obtain⟨hl,h⟩:=h;wp_walk using wpAny_loadPart' hl,KF hl;exact⟨_,rfl,h⟩
theorem Gd (x:Str) (t:Tok) (d:Ei s.heap a) (hu:A.units < cLine):RcAt A s (.str x t) (.ref a) false:=λprog w E Q h=>by
 obtain⟨⟨cls,dd,data,sl⟩,ep,ho,⟨hc,hd,hs⟩,he⟩:=d;simp only at hc he;subst hc he;exact rc_eq_decline_or (k:=false) (typeIs_str s x t) ⟨_,ho,rfl⟩ (by decide) PySem.F.sub_dict_str PySem.F.slot_str_eq PySem.F.slot_dict_eq_refl
  (λ_ hq=>call_meets PySem.F.slot_str_eq (typeIs_str s x t) PySem.F.entry_str_eq (PySem.F.args_str_eq_2 _ _) (J9 x t #[] ep dd sl) ⟨ho,hq⟩)
  (λ_ hq=>call_meets PySem.F.slot_dict_eq_refl ⟨_,ho,rfl⟩ PySem.F.entry_dict_eq (PySem.F.args_dict_eq_2 _ _) (J8 _ x t) ⟨⟨ho,rfl⟩,hq⟩)
  (λ_ hq=>wpAny_of_eq (rfl:isSame (.str x t) (.ref a)=pure false) hq) (.inr hu) h
theorem Ka (o:Obj) (b:Str) (u:Tok):Meets (Builtin.«dict.__ne__» ⟨[.ref a,.str b u],[]⟩) (λ_ R s=>(s.heap.get? a=some o/\o.cls=.type "dict")/\R (.ok (.ret .notImplemented)) s):=
 .of_wp λprog w A R s h=>by
  have ht:s.TypeIs (.ref a) "dict" := ⟨o,h.1.1,h.1.2⟩;show wpAny _ _ (Builtin.Dict.dictSlotArgs "__ne__" ⟨[.ref a,.str b u],[]⟩ >>= _) _ _ s;refine zb ?_;unfold Builtin.Dict.dictSlotArgs;refine zb (wpAny_notOrdered_dict ht ?_);show wpAny _ _ (pure (Value.ref a,Value.str b u)) _ _ s;refine ze ?_;refine zb (JI (T := "str") (typeIs_str s b u) PySem.F.sub_str_dict ?_);simp only[Ki,qq];refine zb (kX ?_);exact ze ⟨_,rfl,h.2⟩
theorem Kc (b:Str) (u:Tok) (es:Array DictEntry) (ep:Nat) (dd:Option Addr) (sl:Array (Option Value)):Meets (Builtin.«str.__ne__» ⟨[.str b u,.ref a],[]⟩) (λ_ R s=>s.heap.get? a=some { cls:=.type "dict", dict:=dd,data:=.dict es ep,slots:=sl }/\R (.ok (.ret .notImplemented)) s):=
 .of_wp λprog w A R s h=>by obtain⟨hp,g,d,tk,os⟩:=s;obtain⟨hl,h⟩:=h;wp_walk using wpAny_loadPart' hl,KF hl;exact⟨_,rfl,h⟩
theorem Tp (x:Str) (t:Tok) (d:Ei s.heap a) (hu:A.units < cLine):RcNeAt A s (.str x t) (.ref a) true:=λprog w E Q h=>by
 obtain⟨⟨cls,dd,data,sl⟩,ep,ho,⟨hc,hd,hs⟩,he⟩:=d;simp only at hc he;subst hc he;exact rc_ne_decline_or (k:=false) (typeIs_str s x t) ⟨_,ho,rfl⟩ (by decide) PySem.F.sub_dict_str PySem.F.slot_str_ne PySem.F.slot_dict_ne_refl
  (λ_ hq=>call_meets PySem.F.slot_str_ne (typeIs_str s x t) PySem.F.entry_str_ne (PySem.F.args_str_ne_2 _ _) (Kc x t #[] ep dd sl) ⟨ho,hq⟩)
  (λ_ hq=>call_meets PySem.F.slot_dict_ne_refl ⟨_,ho,rfl⟩ PySem.F.entry_dict_ne (PySem.F.args_dict_ne_2 _ _) (Ka _ x t) ⟨⟨ho,rfl⟩,hq⟩)
  (λ_ hq=>wpAny_of_eq (rfl:isSame (.str x t) (.ref a)=pure false) hq) (.inr hu) h
theorem Tq (x:Str) (t:Tok) (d:Ei s.heap a) (hu:A.units < cLine):EqAt A s (.str x t) (.ref a) false:=λprog w E Q h=>by
 unfold eqBool;refine qi ?_;refine wpAny_ite_split (λhab=>absurd (eq_of_beq hab) nofun) (λ_=>?_);exact zb (Gd x t d hu prog w E _ (jv h))
end
mutual
def rJ:Dt->Nat
 |.tup xs=>rY xs+1
 |.lst xs=>rY xs+1
 |_=>1
def rY:List Dt->Nat
 |[]=>0
 |d::ds=>max (rJ d) (rY ds)
end
mutual
def wX:Dt->Dt->Option Bool
 |.non,.non=>some true
 |.non,.bl _=>some false|.non,.int _=>some false|.non,.str _=>some false|.non,.tup _=>some false|.non,.lst _=>some false
 |.bl a,.bl b=>some (a==b)
 |.bl a,.int b=>some ((if a then 1 else 0)==b)
 |.bl _,.non=>some false|.bl _,.str _=>some false|.bl _,.tup _=>some false|.bl _,.lst _=>some false
 |.int a,.int b=>some (a==b)
 |.int a,.bl b=>some (a==(if b then 1 else 0))
 |.int _,.non=>some false|.int _,.str _=>some false|.int _,.tup _=>some false|.int _,.lst _=>some false
 |.str a,.str b=>some (a==b)
 |.str _,.non=>some false|.str _,.bl _=>some false|.str _,.int _=>some false|.str _,.tup _=>some false|.str _,.lst _=>some false|.str _,.emp=>some false
 |.tup xs,.tup ys=>jC xs ys
 |.tup _,.non=>some false|.tup _,.bl _=>some false|.tup _,.int _=>some false|.tup _,.str _=>some false|.tup _,.lst _=>some false
 |.lst xs,.lst ys=>jC xs ys
 |.emp,.emp=>some true
 |.lst _,.non=>some false|.lst _,.bl _=>some false|.lst _,.int _=>some false|.lst _,.str _=>some false|.lst _,.tup _=>some false
 |_,_=>none
def jC:List Dt->List Dt->Option Bool
 |[],[]=>some true
 |[],_::_=>some false
 |_::_,[]=>some false
 |x::xs,y::ys=>match wX x y with
  |some b=>match jC xs ys with
   |some c=>some (b&&c)
   |none=>none
  |none=>none
end
mutual
theorem Bk:∀ {d:Dt} {k:Bool},wX d d=some k->k=true
 |.non,_,e=>by cases e;rfl
 |.bl b,_,e=>by cases e;simp
 |.int b,_,e=>by cases e;simp
 |.str b,_,e=>by cases e;simp
 |.tup xs,_,e=>xH (ds:=xs) e
 |.lst xs,_,e=>xH (ds:=xs) e
 |.emp,_,e=>by cases e;rfl
theorem xH:∀ {ds:List Dt} {k:Bool},jC ds ds=some k->k=true
 |[],_,e=>by simp only[jC] at e;cases e;rfl
 |d::ds,_,e=>by
  simp only[jC] at e;cases h:wX d d with
  |none=>rw[h] at e;cases e
  |some b=>
   rw[h] at e;simp only at e;cases h2:jC ds ds with
   |none=>rw[h2] at e;cases e
   |some c=>
    rw[h2] at e;cases e;rw[Bk h,xH h2];rfl
end
theorem zU (xs ys:List Dt):wX (.tup xs) (.tup ys)=jC xs ys:=rfl
theorem rZ:∀ {xs ys:List Dt} {k:Bool},jC xs ys=some k->∃ e:Nat->Bool,(∀ (j:Nat) x y,xs[j]?=some x->ys[j]?=some y->wX x y=some (e j))/\k=((List.range (min xs.length ys.length)).all e&&xs.length==ys.length)
 |[],[],k,h=>by simp only[jC] at h;cases h;exact⟨λ_=>true,λj x y e=>by simp at e,by simp⟩
 |[],y::ys,k,h=>by simp only[jC] at h;cases h;exact⟨λ_=>true,λj x y e=>by simp at e,by simp⟩
 |x::xs,[],k,h=>by simp only[jC] at h;cases h;exact⟨λ_=>true,λj x y _ e=>by simp at e,by simp⟩
 |x::xs,y::ys,k,h=>by
  simp only[jC] at h;cases h1:wX x y with
  |none=>rw[h1] at h;cases h
  |some b=>
   rw[h1] at h;simp only at h;cases h2:jC xs ys with
   |none=>rw[h2] at h;cases h
   |some c=>
    rw[h2] at h;cases h;obtain⟨e,g,hc⟩:=rZ h2;refine⟨λj=>match j with|0=>b|j+1=>e j,λj u v eu ev=>?_,?_⟩
    ·cases j with
     |zero=>simp at eu ev;subst eu ev;exact h1
     |succ j=>exact g j u v (by simpa using eu) (by simpa using ev)
    ·have:min (x::xs).length (y::ys).length=min xs.length ys.length+1:=by simp only[qS];omega
     rw[this,List.range_succ_eq_map,kC,List.all_map,hc];have hb:((x::xs).length==(y::ys).length)=(xs.length==ys.length):=by
      rw[KU];simp
     rw[hb,Bool.and_assoc];rfl
theorem su:∀ {ds:List Dt} {j:Nat} {d:Dt},ds[j]?=some d->rJ d<=rY ds
 |[],_,_,e=>by simp at e
 |d::ds,0,_,e=>by simp at e;subst e;simp only[rY];exact Nat.le_max_left _ _
 |d::ds,j+1,_,e=>by
  simp only[rY];exact Zs (su (ds:=ds) (j:=j) (by simpa using e)) (Nat.le_max_right _ _)
section
variable {X:Cx} {pins:List (Addr×Obj)} {σ:L2.St} {H:Hp} {s:Shared}
theorem zV (I:L2.Inv X pins σ H s) {a:Addr} {vs:List V} (h:wW X.K H a vs):∃ ob,s.heap.get? a=some ob/\ob.cls=.type "tuple" := by
 obtain⟨its,_,⟨ob,e,c,_⟩,_⟩:=I.tuple h;exact⟨ob,e,c⟩
theorem zW (I:L2.Inv X pins σ H s) {a:Addr} {vs:List V} (h:rP X.K H a vs):∃ ob,s.heap.get? a=some ob/\ob.cls=.type "list" := by
 obtain⟨its,_,⟨ob,n,e,c,_⟩,_⟩:=I.list h;exact⟨ob,e,c⟩
theorem qe (I:L2.Inv X pins σ H s) {a:Addr} {o:Obj} (h:H a=some (.pY o (.dK []))):∃ ob,s.heap.get? a=some ob/\ob.cls=.type "dict" := by
 obtain⟨e,_,_,vs,_,ob,es,ep,e2,ex,_⟩:=I.hok a _ h;exact⟨ob,e2,ex.1⟩
theorem xK {a:Addr} {n m:String} (h:∃ ob,s.heap.get? a=some ob/\ob.cls=.type n) (q:∃ ob,s.heap.get? a=some ob/\ob.cls=.type m) (hn:n≠m):False:=by
 obtain⟨o,e,c⟩:=h;obtain⟨o',e',c'⟩:=q;rw[e] at e';cases e';rw[c] at c';exact hn (by injection c')
mutual
theorem Rep.inj (I:L2.Inv X pins σ H s):∀ {d e:Dt} {v:V},Rep X.K H d v->Rep X.K H e v->d=e
 |.non,e,v,h,q=>by
  simp only[Rep] at h;subst h;cases e<;>simp only[Rep] at q<;>first|rfl|(cases q;done)|(obtain⟨a,b,z,_⟩:=q;cases z;done)|(obtain⟨z,_⟩:=q;cases z;done)
 |.bl _,e,v,h,q=>by
  simp only[Rep] at h;subst h;cases e<;>simp only[Rep] at q<;>first|(cases q;rfl)|(cases q;done)|(obtain⟨a,b,z,_⟩:=q;cases z;done)|(obtain⟨z,_⟩:=q;cases z;done)
 |.int _,e,v,h,q=>by
  simp only[Rep] at h;subst h;cases e<;>simp only[Rep] at q<;>first|(cases q;rfl)|(cases q;done)|(obtain⟨a,b,z,_⟩:=q;cases z;done)|(obtain⟨z,_⟩:=q;cases z;done)
 |.str x,e,v,h,q=>by
  simp only[Rep] at h;have hv:v=.str x:=h.1;subst hv;cases e with
  |str y=>
   simp only[Rep] at q;have z:V.str x=V.str y:=q.1;injection z with z;rw[z]
  |tup es=>simp only[Rep] at q;obtain⟨a,b,z,_⟩:=q;cases z
  |lst es=>simp only[Rep] at q;obtain⟨a,b,z,_⟩:=q;cases z
  |emp=>simp only[Rep] at q;obtain⟨a,b,z,_⟩:=q;cases z
  |_=>simp only[Rep] at q;cases q
 |.tup ds,e,v,h,q=>by
  simp only[Rep] at h;obtain⟨a,vs,rfl,sq,r⟩:=h;cases e with
  |tup es=>
   simp only[Rep] at q;obtain⟨b,us,z,Oe,r'⟩:=q;cases z;have:=I.Fq sq Oe;subst this;rw[aK.inj I r r']
  |lst es=>
   simp only[Rep] at q;obtain⟨b,us,z,Oe,r'⟩:=q;cases z;exact(xK (zV I sq) (zW I Oe.sq) (by decide)).elim
  |emp=>
   simp only[Rep] at q;obtain⟨b,o,z,Oe⟩:=q;cases z;exact(xK (zV I sq) (qe I Oe) (by decide)).elim
  |str x=>simp only[Rep] at q;have z:=q.1;cases z
  |_=>simp only[Rep] at q;cases q
 |.lst ds,e,v,h,q=>by
  simp only[Rep] at h;obtain⟨a,vs,rfl,sq,r⟩:=h;cases e with
  |lst es=>
   simp only[Rep] at q;obtain⟨b,us,z,Oe,r'⟩:=q;cases z;have:=I.JN sq.sq Oe.sq;subst this;rw[aK.inj I r r']
  |tup es=>
   simp only[Rep] at q;obtain⟨b,us,z,Oe,r'⟩:=q;cases z;exact(xK (zW I sq.sq) (zV I Oe) (by decide)).elim
  |emp=>
   simp only[Rep] at q;obtain⟨b,o,z,Oe⟩:=q;cases z;exact(xK (zW I sq.sq) (qe I Oe) (by decide)).elim
  |str x=>simp only[Rep] at q;have z:=q.1;cases z
  |_=>simp only[Rep] at q;cases q
 |.emp,e,v,h,q=>by
  simp only[Rep] at h;obtain⟨a,o,rfl,sq⟩:=h;cases e with
  |emp=>rfl
  |tup es=>
   simp only[Rep] at q;obtain⟨b,us,z,Oe,r'⟩:=q;cases z;exact(xK (qe I sq) (zV I Oe) (by decide)).elim
  |lst es=>
   simp only[Rep] at q;obtain⟨b,us,z,Oe,r'⟩:=q;cases z;exact(xK (qe I sq) (zW I Oe.sq) (by decide)).elim
  |str x=>simp only[Rep] at q;have z:=q.1;cases z
  |_=>simp only[Rep] at q;cases q
theorem aK.inj (I:L2.Inv X pins σ H s):∀ {ds es:List Dt} {vs:List V},aK X.K H ds vs->aK X.K H es vs->ds=es
 |[],es,vs,h,q=>by
  simp only[aK] at h;subst h;cases es with
  |nil=>rfl
  |cons e es=>simp only[aK] at q;obtain⟨_,_,z,_⟩:=q;cases z
 |d::ds,es,vs,h,q=>by
  simp only[aK] at h;obtain⟨v,r,rfl,h1,h2⟩:=h;cases es with
  |nil=>simp only[aK] at q;cases q
  |cons e es=>
   simp only[aK] at q;obtain⟨v',r',z,q1,q2⟩:=q;cases z;rw[Rep.inj I h1 q1,aK.inj I h2 q2]
end
theorem abX (I:L2.Inv X pins σ H s):∀ (n:Nat) {A:Around} {d e:Dt} {x y:V} {u v:Value} {k:Bool},min (rJ d) (rJ e)<=n->A.units+n < cLine->Rep X.K H d x->Rep X.K H e y->RelV x u->RelV y v->wX d e=some k->EqAt A s u v k:=by
 intro n
 induction n with
 |zero=>
  intro A d e x y u v k hn;have h1:1<=rJ d:=by cases d<;>simp only[rJ]<;>omega
  have h2:1<=rJ e:=by cases e<;>simp only[rJ]<;>omega
  omega
 |succ n ih=>
  intro A d e x y u v k hn hA rd re ru rv ek;have hu:A.units < cLine:=by omega
  by_cases hxy:u=v/\∃ a,u=.ref a
  ·obtain⟨rfl,a,rfl⟩:=hxy;have hx:x=.ref a:=by have:=ru.abs;simpa[acE] using this.symm
   have hy:y=.ref a:=by have:=rv.abs;simpa[acE] using this.symm
   subst hx hy;have:=Rep.inj I rd re;subst this;rw[Bk ek];exact EqAt.same _
  ·have items:∀ {ds es:List Dt} {vs us:List V} {its its2:List Value} {f:Nat->Bool},min (rY ds) (rY es)<=n->aK X.K H ds vs->aK X.K H es us->Vals vs its->Vals us its2->(∀ (j:Nat) x y,ds[j]?=some x->es[j]?=some y->wX x y=some (f j)) →
     ∀ j (h1:j < its.toArray.size) (h2:j < its2.toArray.size),EqAt A.in1 s its.toArray[j] its2.toArray[j] (f j):=by
    intro ds es vs us its its2 f hm r1 r2 w1 w2 hf j h1 h2;have l1:=w1.length;have l2:=w2.length;have l3:=r1.length;have l4:=r2.length;have j1:j < its.length:=by simpa using h1
    have j2:j < its2.length:=by simpa using h2
    have d1:ds[j]?=some ds[j]:=by simp
    have d2:es[j]?=some es[j]:=by simp
    obtain⟨a,ea,ra⟩:=r1.get d1;obtain⟨b,eb,rb⟩:=r2.get d2;obtain⟨p,ep,rp⟩:=w1.get ea;obtain⟨q,eq,rq⟩:=w2.get eb;have e1:its.toArray[j]=p:=by simpa[j1] using ep
    have e2:its2.toArray[j]=q:=by simpa[j2] using eq
    rw[e1,e2];have m1:=su d1;have m2:=su d2;exact ih (by omega) (by rw[units_in1];omega) ra rb rp rq (hf j _ _ d1 d2)
   cases d with
   |non=>
    cases rd;cases ru;cases e with
    |non=>cases re;cases rv;cases ek;exact EqAt.same _
    |bl b=>cases re;cases rv;cases ek;exact EqAt.none_bool b
    |int b=>cases re;obtain⟨t,rfl⟩:=rv;cases ek;exact EqAt.none_int b t
    |str b=>obtain⟨rfl,_⟩:=re;obtain⟨t,rfl⟩:=rv;cases ek;exact EqAt.none_str b t
    |tup es=>obtain⟨b,us,rfl,sq,_⟩:=re;cases rv;cases ek;obtain⟨_,_,p,_⟩:=I.tuple sq;exact EqAt.none_tuple p hu
    |lst es=>obtain⟨b,us,rfl,sq,_⟩:=re;cases rv;cases ek;obtain⟨_,_,p,_⟩:=I.list sq.sq;exact EqAt.none_list p.isList hu
    |emp=>cases ek
   |bl a=>
    cases rd;cases ru;cases e with
    |non=>cases re;cases rv;cases ek;exact EqAt.bool_none a
    |bl b=>cases re;cases rv;cases ek;exact EqAt.bool_bool a b
    |int b=>cases re;obtain⟨t,rfl⟩:=rv;cases ek;exact EqAt.bool_int a b t
    |str b=>obtain⟨rfl,_⟩:=re;obtain⟨t,rfl⟩:=rv;cases ek;exact EqAt.bool_str a b t
    |tup es=>obtain⟨b,us,rfl,sq,_⟩:=re;cases rv;cases ek;obtain⟨_,_,p,_⟩:=I.tuple sq;exact EqAt.bool_tuple a p hu
    |lst es=>obtain⟨b,us,rfl,sq,_⟩:=re;cases rv;cases ek;obtain⟨_,_,p,_⟩:=I.list sq.sq;exact EqAt.bool_list a p.isList hu
    |emp=>cases ek
   |int a=>
    cases rd;obtain⟨t',rfl⟩:=ru;cases e with
    |non=>cases re;cases rv;cases ek;exact EqAt.int_none a t'
    |bl b=>cases re;cases rv;cases ek;exact EqAt.int_bool a t' b
    |int b=>cases re;obtain⟨t,rfl⟩:=rv;cases ek;exact EqAt.int_int a t' b t
    |str b=>obtain⟨rfl,_⟩:=re;obtain⟨t,rfl⟩:=rv;cases ek;exact EqAt.int_str a t' b t
    |tup es=>obtain⟨b,us,rfl,sq,_⟩:=re;cases rv;cases ek;obtain⟨_,_,p,_⟩:=I.tuple sq;exact EqAt.int_tuple a t' p hu
    |lst es=>obtain⟨b,us,rfl,sq,_⟩:=re;cases rv;cases ek;obtain⟨_,_,p,_⟩:=I.list sq.sq;exact EqAt.int_list a t' p.isList hu
    |emp=>cases ek
   |str a=>
    obtain⟨rfl,_⟩:=rd;obtain⟨t',rfl⟩:=ru;cases e with
    |non=>cases re;cases rv;cases ek;exact EqAt.str_none a t'
    |bl b=>cases re;cases rv;cases ek;exact EqAt.str_bool a t' b
    |int b=>cases re;obtain⟨t,rfl⟩:=rv;cases ek;exact EqAt.str_int a t' b t
    |str b=>obtain⟨rfl,_⟩:=re;obtain⟨t,rfl⟩:=rv;cases ek;exact EqAt.str_str a t' b t
    |tup es=>obtain⟨b,us,rfl,sq,_⟩:=re;cases rv;cases ek;obtain⟨_,_,p,_⟩:=I.tuple sq;exact EqAt.str_tuple a t' p hu
    |lst es=>obtain⟨b,us,rfl,sq,_⟩:=re;cases rv;cases ek;obtain⟨_,_,p,_⟩:=I.list sq.sq;exact EqAt.str_list a t' p.isList hu
    |emp=>
     simp only[Rep] at re;obtain⟨p,o,rfl,e⟩:=re;cases rv;cases ek;obtain⟨_,_,vs,r,q⟩:=rT I.hok (.inr ⟨o,e⟩);exact Tq a t' (vU rfl r q) hu
   |tup ds=>
    obtain⟨a,vs,rfl,sa,ra⟩:=rd;cases ru;obtain⟨its,wv,p,_⟩:=I.tuple sa;cases e with
    |non=>cases re;cases rv;cases ek;exact EqAt.tuple_none p hu
    |bl b=>cases re;cases rv;cases ek;exact EqAt.tuple_bool b p hu
    |int b=>cases re;obtain⟨t,rfl⟩:=rv;cases ek;exact EqAt.tuple_int b t p hu
    |str b=>obtain⟨rfl,_⟩:=re;obtain⟨t,rfl⟩:=rv;cases ek;exact EqAt.tuple_str b t p hu
    |lst es=>obtain⟨b,us,rfl,sq,_⟩:=re;cases rv;cases ek;obtain⟨_,_,p2,_⟩:=I.list sq.sq;exact EqAt.tuple_list p p2.isList hu
    |tup es=>
     obtain⟨b,us,rfl,sb,rb⟩:=re;cases rv;obtain⟨its2,wu,p2,_⟩:=I.tuple sb;change jC _ _=some _ at ek;obtain⟨f,hf,rfl⟩:=rZ ek;have hne:a≠b:=λz=>hxy ⟨by rw[z],a,rfl⟩;have z:=EqAt.of_refs hne (RcAt.tuples (A:=A) (e:=f) p p2 hu (items (by simp only[rJ] at hn;omega) ra rb wv wu hf));have q1:its.toArray.size=ds.length:=by rw[zz,<-wv.length,ra.length]
     have q2:its2.toArray.size=es.length:=by rw[zz,<-wu.length,rb.length]
     rw[q1,q2] at z;exact z
    |emp=>cases ek
   |lst ds=>
    obtain⟨a,vs,rfl,sa,ra⟩:=rd;cases ru;obtain⟨its,wv,p,_⟩:=I.list sa.sq;cases e with
    |non=>cases re;cases rv;cases ek;exact EqAt.list_none p.isList hu
    |bl b=>cases re;cases rv;cases ek;exact EqAt.list_bool b p.isList hu
    |int b=>cases re;obtain⟨t,rfl⟩:=rv;cases ek;exact EqAt.list_int b t p.isList hu
    |str b=>obtain⟨rfl,_⟩:=re;obtain⟨t,rfl⟩:=rv;cases ek;exact EqAt.list_str b t p.isList hu
    |tup es=>obtain⟨b,us,rfl,sq,_⟩:=re;cases rv;cases ek;obtain⟨_,_,p2,_⟩:=I.tuple sq;exact EqAt.list_tuple p.isList p2 hu
    |lst es=>
     obtain⟨b,us,rfl,sb,rb⟩:=re;cases rv;obtain⟨its2,wu,p2,_⟩:=I.list sb.sq;change jC _ _=some _ at ek;obtain⟨f,hf,rfl⟩:=rZ ek;have hne:a≠b:=λz=>hxy ⟨by rw[z],a,rfl⟩;have q1:its.toArray.size=ds.length:=by rw[zz,<-wv.length,ra.length]
     have q2:its2.toArray.size=es.length:=by rw[zz,<-wu.length,rb.length]
     by_cases hsz:its.toArray.size=its2.toArray.size
     ·have z:=EqAt.of_refs hne (RcAt.lists (A:=A) (e:=f) p.isList p2.isList hsz hu (items (by simp only[rJ] at hn;omega) ra rb wv wu hf));have hl:ds.length=es.length:=by omega
      rw[q1] at z;rw[hl,Nat.min_self,beq_self_eq_true,KG,<-hl];exact z
     ·have hl:(ds.length==es.length)=false:=by rw[beq_eq_false_iff_ne];omega
      rw[hl,yf];exact EqAt.of_refs hne (RcAt.lists_lengths p.isList p2.isList (by simpa using hsz) hu)
    |emp=>cases ek
   |emp=>
    cases e<;>first|(cases ek;done)|skip;simp only[Rep] at rd re;obtain⟨a,o,rfl,e1⟩:=rd;obtain⟨b,o',rfl,e2⟩:=re;cases ru;cases rv;cases ek;obtain⟨_,m1,vs,r,q⟩:=rT I.hok (.inr ⟨o,e1⟩);obtain⟨_,m2,vs',r',q'⟩:=rT I.hok (.inr ⟨o',e2⟩);exact EqAt.of_refs (λz=>hxy ⟨by rw[z],a,rfl⟩) (abW m1 m2 (vU rfl r q) (vU rfl r' q') hu)
theorem Kd (I:L2.Inv X pins σ H s) {n:Nat} {A:Around} {ds es:List Dt} {vs us:List V} {its its2:List Value} {f:Nat->Bool} (hm:min (rY ds) (rY es)<=n) (hA:A.units+n+1 < cLine) (r1:aK X.K H ds vs) (r2:aK X.K H es us) (w1:Vals vs its) (w2:Vals us its2)
  (hf:∀ (j:Nat) x y,ds[j]?=some x->es[j]?=some y->wX x y=some (f j)):∀ j (h1:j < its.toArray.size) (h2:j < its2.toArray.size),EqAt A.in1 s its.toArray[j] its2.toArray[j] (f j):=by
 intro j h1 h2;have l1:=w1.length;have l2:=w2.length;have l3:=r1.length;have l4:=r2.length;have j1:j < its.length:=by simpa using h1
 have j2:j < its2.length:=by simpa using h2
 have d1:ds[j]?=some (ds[j]'(by omega)):=by simp
 have d2:es[j]?=some (es[j]'(by omega)):=by simp
 obtain⟨a,ea,ra⟩:=r1.get d1;obtain⟨b,eb,rb⟩:=r2.get d2;obtain⟨p,ep,rp⟩:=w1.get ea;obtain⟨q,eq,rq⟩:=w2.get eb;have e1:its.toArray[j]=p:=by simpa[j1] using ep
 have e2:its2.toArray[j]=q:=by simpa[j2] using eq
 rw[e1,e2];have m1:=su d1;have m2:=su d2;exact abX I n (by omega) (by rw[units_in1];omega) ra rb rp rq (hf j _ _ d1 d2)
end
def jh (K:FG_) (H:Hp):Dt->V->Prop
 |.lst ds,v=>∃ a vs,v=.ref a/\rP K H a vs/\aK K H ds vs
 |d,v=>Rep K H d v
def lH:Bx->Bool
 |.n _=>true
 |.m _ _=>true
 |_=>false
def toD:Bx->Dt
 |.z d=>d
 |.l ds=>.lst ds
 |.o ds=>.lst ds
 |.n _=>.non
 |.m _ _=>.non
theorem bf.toD {K:FG_} {H:Hp} {b:Bx} {v:V} (h:bf K H b v) (hm:lH b=false):jh K H (toD b) v:=by
 cases b with
 |z d=>
  cases d with
  |lst ds=>exact h.FT rfl
  |_=>exact h
 |l ds=>exact h.FT rfl
 |o ds=>exact h.FT rfl
 |n _=>cases hm
 |m _ _=>cases hm
section
variable {X:Cx} {pins:List (Addr×Obj)} {σ:L2.St} {H:Hp} {s:Shared}
theorem Q5 (I:L2.Inv X pins σ H s) {d e:Dt} {x y:V} {u v:Value} {k:Bool} (hm:min (rJ d) (rJ e)<=100) (hA:X.A.units+100 < cLine) (rd:jh X.K H d x) (re:jh X.K H e y) (ru:RelV x u) (rv:RelV y v) (ek:wX d e=some k):RcAt X.A s u v k/\RcNeAt X.A s u v (!k):=by
 have hu:X.A.units < cLine:=by omega
 cases d with
 |non=>
  cases rd;cases ru;cases e with
  |non=>
   cases re;cases rv;cases ek;exact⟨.none_none,.none_none⟩
  |bl x2=>
   cases re;cases rv;cases ek;exact⟨.none_bool x2,.none_bool x2⟩
  |int x2=>
   cases re;obtain⟨t2,rfl⟩:=rv;cases ek;exact⟨.none_int x2 t2,.none_int x2 t2⟩
  |str x2=>
   obtain⟨rfl,_⟩:=re;obtain⟨t2,rfl⟩:=rv;cases ek;exact⟨.none_str x2 t2,.none_str x2 t2⟩
  |tup x2=>
   obtain⟨a2,vs2,rfl,Bl,Og⟩:=re;cases rv;obtain⟨its2,w2,p2,_⟩:=I.tuple Bl;cases ek;exact⟨.none_tuple p2 hu,.none_tuple p2 hu⟩
  |lst x2=>
   obtain⟨a2,vs2,rfl,Bl,Og⟩:=re;cases rv;obtain⟨its2,w2,p2,_⟩:=I.list Bl;cases ek;exact⟨.none_list p2.isList hu,.none_list p2.isList hu⟩
  |emp=>cases ek
 |bl x1=>
  cases rd;cases ru;cases e with
  |non=>
   cases re;cases rv;cases ek;exact⟨.bool_none x1,.bool_none x1⟩
  |bl x2=>
   cases re;cases rv;cases ek;exact⟨.bool_bool x1 x2,.bool_bool x1 x2⟩
  |int x2=>
   cases re;obtain⟨t2,rfl⟩:=rv;cases ek;exact⟨.bool_int x1 x2 t2,.bool_int x1 x2 t2⟩
  |str x2=>
   obtain⟨rfl,_⟩:=re;obtain⟨t2,rfl⟩:=rv;cases ek;exact⟨.bool_str x1 x2 t2,.bool_str x1 x2 t2⟩
  |tup x2=>
   obtain⟨a2,vs2,rfl,Bl,Og⟩:=re;cases rv;obtain⟨its2,w2,p2,_⟩:=I.tuple Bl;cases ek;exact⟨.bool_tuple x1 p2 hu,.bool_tuple x1 p2 hu⟩
  |lst x2=>
   obtain⟨a2,vs2,rfl,Bl,Og⟩:=re;cases rv;obtain⟨its2,w2,p2,_⟩:=I.list Bl;cases ek;exact⟨.bool_list x1 p2.isList hu,.bool_list x1 p2.isList hu⟩
  |emp=>cases ek
 |int x1=>
  cases rd;obtain⟨t1,rfl⟩:=ru;cases e with
  |non=>
   cases re;cases rv;cases ek;exact⟨.int_none x1 t1,.int_none x1 t1⟩
  |bl x2=>
   cases re;cases rv;cases ek;exact⟨.int_bool x1 t1 x2,.int_bool x1 t1 x2⟩
  |int x2=>
   cases re;obtain⟨t2,rfl⟩:=rv;cases ek;exact⟨.int_int x1 t1 x2 t2,.int_int x1 t1 x2 t2⟩
  |str x2=>
   obtain⟨rfl,_⟩:=re;obtain⟨t2,rfl⟩:=rv;cases ek;exact⟨.int_str x1 t1 x2 t2,.int_str x1 t1 x2 t2⟩
  |tup x2=>
   obtain⟨a2,vs2,rfl,Bl,Og⟩:=re;cases rv;obtain⟨its2,w2,p2,_⟩:=I.tuple Bl;cases ek;exact⟨.int_tuple x1 t1 p2 hu,.int_tuple x1 t1 p2 hu⟩
  |lst x2=>
   obtain⟨a2,vs2,rfl,Bl,Og⟩:=re;cases rv;obtain⟨its2,w2,p2,_⟩:=I.list Bl;cases ek;exact⟨.int_list x1 t1 p2.isList hu,.int_list x1 t1 p2.isList hu⟩
  |emp=>cases ek
 |str x1=>
  obtain⟨rfl,_⟩:=rd;obtain⟨t1,rfl⟩:=ru;cases e with
  |non=>
   cases re;cases rv;cases ek;exact⟨.str_none x1 t1,.str_none x1 t1⟩
  |bl x2=>
   cases re;cases rv;cases ek;exact⟨.str_bool x1 t1 x2,.str_bool x1 t1 x2⟩
  |int x2=>
   cases re;obtain⟨t2,rfl⟩:=rv;cases ek;exact⟨.str_int x1 t1 x2 t2,.str_int x1 t1 x2 t2⟩
  |str x2=>
   obtain⟨rfl,_⟩:=re;obtain⟨t2,rfl⟩:=rv;cases ek;exact⟨.str_str x1 t1 x2 t2,.str_str x1 t1 x2 t2⟩
  |tup x2=>
   obtain⟨a2,vs2,rfl,Bl,Og⟩:=re;cases rv;obtain⟨its2,w2,p2,_⟩:=I.tuple Bl;cases ek;exact⟨.str_tuple x1 t1 p2 hu,.str_tuple x1 t1 p2 hu⟩
  |lst x2=>
   obtain⟨a2,vs2,rfl,Bl,Og⟩:=re;cases rv;obtain⟨its2,w2,p2,_⟩:=I.list Bl;cases ek;exact⟨.str_list x1 t1 p2.isList hu,.str_list x1 t1 p2.isList hu⟩
  |emp=>
   simp only[jh,Rep] at re;obtain⟨p,o,rfl,e⟩:=re;cases rv;cases ek;obtain⟨_,_,vs,r,q⟩:=rT I.hok (.inr ⟨o,e⟩);exact⟨Gd x1 t1 (vU rfl r q) hu,Tp x1 t1 (vU rfl r q) hu⟩
 |tup x1=>
  obtain⟨a1,vs1,rfl,sq1,rr1⟩:=rd;cases ru;obtain⟨Z9,w1,p1,_⟩:=I.tuple sq1;cases e with
  |non=>
   cases re;cases rv;cases ek;exact⟨.tuple_none p1 hu,.tuple_none p1 hu⟩
  |bl x2=>
   cases re;cases rv;cases ek;exact⟨.tuple_bool x2 p1 hu,.tuple_bool x2 p1 hu⟩
  |int x2=>
   cases re;obtain⟨t2,rfl⟩:=rv;cases ek;exact⟨.tuple_int x2 t2 p1 hu,.tuple_int x2 t2 p1 hu⟩
  |str x2=>
   obtain⟨rfl,_⟩:=re;obtain⟨t2,rfl⟩:=rv;cases ek;exact⟨.tuple_str x2 t2 p1 hu,.tuple_str x2 t2 p1 hu⟩
  |tup x2=>
   obtain⟨a2,vs2,rfl,Bl,Og⟩:=re;cases rv;obtain⟨its2,w2,p2,_⟩:=I.tuple Bl;change jC _ _=some _ at ek;obtain⟨f,hf,rfl⟩:=rZ ek;have q1:Z9.toArray.size=x1.length:=by rw[zz,<-w1.length,rr1.length]
   have q2:its2.toArray.size=x2.length:=by rw[zz,<-w2.length,Og.length]
   have it:=Kd I (n:=99) (A:=X.A) (by simp only[rJ] at hm;omega) (by omega) rr1 Og w1 w2 hf;rw[<-q1,<-q2];exact⟨.tuples p1 p2 hu it,.tuples p1 p2 hu it⟩
  |lst x2=>
   obtain⟨a2,vs2,rfl,Bl,Og⟩:=re;cases rv;obtain⟨its2,w2,p2,_⟩:=I.list Bl;cases ek;exact⟨.tuple_list p1 p2.isList hu,.tuple_list p1 p2.isList hu⟩
  |emp=>cases ek
 |lst x1=>
  obtain⟨a1,vs1,rfl,sq1,rr1⟩:=rd;cases ru;obtain⟨Z9,w1,p1,_⟩:=I.list sq1;cases e with
  |non=>
   cases re;cases rv;cases ek;exact⟨.list_none p1.isList hu,.list_none p1.isList hu⟩
  |bl x2=>
   cases re;cases rv;cases ek;exact⟨.list_bool x2 p1.isList hu,.list_bool x2 p1.isList hu⟩
  |int x2=>
   cases re;obtain⟨t2,rfl⟩:=rv;cases ek;exact⟨.list_int x2 t2 p1.isList hu,.list_int x2 t2 p1.isList hu⟩
  |str x2=>
   obtain⟨rfl,_⟩:=re;obtain⟨t2,rfl⟩:=rv;cases ek;exact⟨.list_str x2 t2 p1.isList hu,.list_str x2 t2 p1.isList hu⟩
  |tup x2=>
   obtain⟨a2,vs2,rfl,Bl,Og⟩:=re;cases rv;obtain⟨its2,w2,p2,_⟩:=I.tuple Bl;cases ek;exact⟨.list_tuple p1.isList p2 hu,.list_tuple p1.isList p2 hu⟩
  |lst x2=>
   obtain⟨a2,vs2,rfl,Bl,Og⟩:=re;cases rv;obtain⟨its2,w2,p2,_⟩:=I.list Bl;change jC _ _=some _ at ek;obtain⟨f,hf,rfl⟩:=rZ ek;have q1:Z9.toArray.size=x1.length:=by rw[zz,<-w1.length,rr1.length]
   have q2:its2.toArray.size=x2.length:=by rw[zz,<-w2.length,Og.length]
   have it:=Kd I (n:=99) (A:=X.A) (by simp only[rJ] at hm;omega) (by omega) rr1 Og w1 w2 hf;by_cases hsz:Z9.toArray.size=its2.toArray.size
   ·have hl:x1.length=x2.length:=by omega
    rw[hl,Nat.min_self,beq_self_eq_true,KG,<-hl,<-q1];exact⟨.lists p1.isList p2.isList hsz hu it,.lists p1.isList p2.isList hsz hu it⟩
   ·have hl:(x1.length==x2.length)=false:=by rw[beq_eq_false_iff_ne];omega
    rw[hl,yf];exact⟨.lists_lengths p1.isList p2.isList (by simpa using hsz) hu,.lists_lengths p1.isList p2.isList (by simpa using hsz) hu⟩
  |emp=>cases ek
 |emp=>
  cases e<;>first|(cases ek;done)|skip;simp only[jh,Rep] at rd re;obtain⟨a,o,rfl,e1⟩:=rd;obtain⟨b,o',rfl,e2⟩:=re;cases ru;cases rv;cases ek;obtain⟨_,m1,vs,r,q⟩:=rT I.hok (.inr ⟨o,e1⟩);obtain⟨_,m2,vs',r',q'⟩:=rT I.hok (.inr ⟨o',e2⟩);exact⟨abW m1 m2 (vU rfl r q) (vU rfl r' q') hu,afB m1 m2 (vU rfl r q) (vU rfl r' q') hu⟩
def eqB (a b:Bx):Option Bx:=if lH a=true\/lH b=true then none else if min (rJ (toD a)) (rJ (toD b))<=100 then(wX (toD a) (toD b)).bind λk=>some (.z (.bl k)) else none
def Tr (a b:Bx):Option Bx:=if lH a=true\/lH b=true then none else if min (rJ (toD a)) (rJ (toD b))<=100 then(wX (toD a) (toD b)).bind λk=>some (.z (.bl (!k))) else none
theorem of_eq (hu:X.A.units+100 < cLine):Ed X (compareOp .Eq) eqB:=by
 intro pins s σ H x y v u Q I rx ry h;obtain⟨a,b,c,ra,rb,e,q⟩:=h;unfold eqB at e;split at e
 ·cases e
 rename_i hz;have ha:lH a=false:=by cases h:lH a with|false=>rfl|true=>exact absurd (.inl h) hz
 have hb:lH b=false:=by cases h:lH b with|false=>rfl|true=>exact absurd (.inr h) hz
 split at e
 ·rename_i hm;obtain⟨k,ek,e⟩:=bind_some e;cases e;exact(Q5 I hm hu (ra.toD ha) (rb.toD hb) rx ry ek).1 X.prog X.w X.xe _ ⟨.bl k,H,I,rfl,q _ H (Same.refl H) trivial (by unfold bf Rep;rfl)⟩
 ·cases e
theorem Bm (hu:X.A.units+100 < cLine):Ed X (compareOp .NotEq) Tr:=by
 intro pins s σ H x y v u Q I rx ry h;obtain⟨a,b,c,ra,rb,e,q⟩:=h;unfold Tr at e;split at e
 ·cases e
 rename_i hz;have ha:lH a=false:=by cases h:lH a with|false=>rfl|true=>exact absurd (.inl h) hz
 have hb:lH b=false:=by cases h:lH b with|false=>rfl|true=>exact absurd (.inr h) hz
 split at e
 ·rename_i hm;obtain⟨k,ek,e⟩:=bind_some e;cases e;exact(Q5 I hm hu (ra.toD ha) (rb.toD hb) rx ry ek).2 X.prog X.w X.xe _ ⟨.bl (!k),H,I,rfl,q _ H (Same.refl H) trivial (by unfold bf Rep;rfl)⟩
 ·cases e
theorem Bo {K:FG_} {H:Hp} {i:Int}:bf K H (.z (.int i)) (.int i):=by unfold bf Rep;rfl
theorem Ke {K:FG_} {H:Hp} {b:Bool}:bf K H (.z (.bl b)) (.bl b):=by unfold bf Rep;rfl
theorem aac {K:FG_} {H:Hp} {x:Str} (h:x.length<=sizeLine):bf K H (.z (.str x)) (.str x):=by unfold bf Rep;exact⟨rfl,h⟩
theorem JG {K:FG_} {H:Hp} {i:Int} {v:V} (h:bf K H (.z (.int i)) v):v=.int i:=by simpa only[bf,Rep] using h
theorem Oh {K:FG_} {H:Hp} {x:Str} {v:V} (h:bf K H (.z (.str x)) v):v=.str x/\x.length<=sizeLine:=by simpa only[bf,Rep] using h
theorem inT {K:FG_} {H:Hp} {ds:List Dt} {v:V} (h:bf K H (.z (.tup ds)) v):∃ a vs,v=.ref a/\wW K H a vs/\aK K H ds vs:=by simpa only[bf,Rep] using h
def i2 (g:Int->Int->Option Dt):Bx->Bx->Option Bx
 |.z (.int i),.z (.int j)=>(g i j).bind λd=>some (.z d)
 |_,_=>none
theorem Bp {f:Value->Value->Sem Value} {r:R2} {g:Int->Int->Option Dt} (ho:uU X f r) (h:∀ i j d H Q,g i j=some d->(∀ v,Rep X.K H d v->Q v H)->r (.int i) (.int j) H Q):Ed X f (i2 g):=uU.imp ho λx y H Q q=>by
 obtain⟨a,b,c,ra,rb,e,q⟩:=q;unfold i2 at e;split at e
 ·rename_i i j;obtain⟨d,ed,e⟩:=bind_some e;cases e;rw[JG ra,JG rb];exact h i j d H Q ed λv rv=>q v H (Same.refl H) trivial rv
 ·cases e
theorem okI {K:FG_} {H:Hp} {i:Int}:Rep K H (.int i) (.int i):=by unfold Rep;rfl
theorem okT {K:FG_} {H:Hp} {b:Bool}:Rep K H (.bl b) (.bl b):=by unfold Rep;rfl
abbrev subB:=i2 λi j=>some (.int (i - j))
abbrev leB:=i2 λi j=>some (.bl (decide (i<=j)))
abbrev gtB:=i2 λi j=>some (.bl (decide (j < i)))
abbrev geB:=i2 λi j=>some (.bl (decide (j<=i)))
abbrev uH:=i2 λi j=>if 0 < j/\j < 1073741824 then some (.int (i / j)) else none
abbrev d9:=i2 λi j=>if 0 < j then some (.int (i % j)) else none
abbrev adq:=i2 λi j=>if 0<=j/\j<=1000/\i.natAbs < 2 ^ 64 then some (.int (i ^ j.toNat)) else none
theorem xM:Ed X (binaryOp .Sub) subB:=Bp acL λi j d H Q e q=>by cases e;exact⟨i,j,rfl,rfl,q _ okI⟩
theorem of_le:Ed X (compareOp .LtE) leB:=Bp ae7 λi j d H Q e q=>by cases e;exact⟨i,j,rfl,rfl,q _ okT⟩
theorem afE:Ed X (compareOp .Gt) gtB:=Bp ae8 λi j d H Q e q=>by cases e;exact⟨i,j,rfl,rfl,q _ okT⟩
theorem afF:Ed X (compareOp .GtE) geB:=Bp ae9 λi j d H Q e q=>by cases e;exact⟨i,j,rfl,rfl,q _ okT⟩
theorem nW:Ed X (binaryOp .FloorDiv) uH:=Bp Zj λi j d H Q e q=>by
 split at e
 ·rename_i h;cases e;exact⟨i,j,rfl,rfl,h,q _ okI⟩
 ·cases e
theorem bK:Ed X (binaryOp .Mod) d9:=Bp acN λi j d H Q e q=>by
 split at e
 ·rename_i h;cases e;exact⟨i,j,rfl,rfl,h,q _ okI⟩
 ·cases e
theorem adt:Ed X (binaryOp .Pow) adq:=Bp acO λi j d H Q e q=>by
 split at e
 ·rename_i h;cases e;exact⟨i,j,rfl,rfl,⟨h.1,by omega,h.2.2⟩,q _ okI⟩
 ·cases e
def Tt:Nat:=1000000
theorem aad:Tt<=sizeLine:=by decide
theorem adu {l b:Addr} {vs us:List V} {Q:VK} (I:L2.Inv X pins σ H s) (hl:rP X.K H l vs) (hb:rP X.K H b us) (hz:vs.length+us.length<=sizeLine) (q:∀ p,H p=none->Q (.ref p) (upd H p (.lst (vs++us)))) :
  wpAny (model X.prog X.w) X.A (binaryOp .Add (.ref l) (.ref b)) (EP X pins σ Q) X.xe s:=by
 obtain⟨its,r1,⟨⟨cls,dd,data,sl⟩,n1,e1,c1,d1,dd1⟩,z1⟩:=I.list hl;obtain⟨its2,r2,⟨⟨cls2,dd2,data2,sl2⟩,n2,e2,c2,d2,Wj⟩,z2⟩:=I.list hb;simp only at c1 d1 dd1 c2 d2 Wj;subst c1 d1 dd1 c2 d2 Wj;have l1:=r1.length;have l2:=r2.length;have e:its.toArray++its2.toArray=(its++its2).toArray:=by simp
 refine concat_meets ⟨_,e1,rfl⟩ ⟨_,e2,rfl⟩ noFill_list_add seq_list_add PySem.F.slot_list_add PySem.F.entry_list_add (PySem.F.args_list_add_2 _ _) (list_addW l b its.toArray its2.toArray n1 n2 none none sl sl2 (by rw[zz,zz];omega)) ⟨e1,e2,?_⟩;rw[e];exact⟨.ref s.heap.objs.size,_,I.laid (t':=s.toks) (o:=.lst (vs++us)) (λb ob q=>zd _ q) (zg _) ⟨by rw[Zp];exact hz,_,0,r1.append r2,zt _ rfl⟩,rfl,q _ (I.hok.fresh (zg _))⟩
theorem adv {l b:Addr} {vs us:List V} {Q:VK} (I:L2.Inv X pins σ H s) (hl:wW X.K H l vs) (hb:wW X.K H b us) (hz:vs.length+us.length<=sizeLine) (q0:vs=[]->Q (.ref b) H) (q1:us=[]->Q (.ref l) H) (q2:∀ p,H p=none->Q (.ref p) (upd H p (.tup (vs++us)))) :
  wpAny (model X.prog X.w) X.A (binaryOp .Add (.ref l) (.ref b)) (EP X pins σ Q) X.xe s:=by
 by_cases hv:vs=[]
 ·obtain⟨its,r1,⟨⟨cls,dd,data,sl⟩,e1,c1,n1,dd1⟩,z1⟩:=I.tuple hl;obtain⟨its2,r2,⟨⟨cls2,dd2,data2,sl2⟩,e2,c2,n2,Wj⟩,z2⟩:=I.tuple hb;simp only at c1 dd1 c2 Wj;subst c1 dd1 c2 Wj;have:its=[]:=r1.zQ.mpr hv;exact concat_meets ⟨_,e1,rfl⟩ ⟨_,e2,rfl⟩ noFill_tuple_add seq_tuple_add PySem.F.slot_tuple_add yT (yv _ _)
   (tuple_addW0 l b its.toArray its2.toArray n1 n2 dd dd2 sl sl2 (by simp[this])) ⟨e1,e2,⟨.ref b,H,I,rfl,q0 hv⟩⟩
 ·exact Zv pins s σ H (.ref l) (.ref b) (.ref l) (.ref b) Q I rfl rfl ⟨l,b,vs,us,rfl,rfl,hl,hb,hv,hz,q1,λ_=>q2⟩
def dh:Bx->Bx->Option Bx
 |.z (.int i),.z (.int j)=>some (.z (.int (i+j)))
 |.z (.str i),.z (.str j)=>if i.length+j.length<=Tt then some (.z (.str (i++j))) else none
 |.z (.tup xs),.z (.tup ys)=>if xs.length+ys.length<=Tt then some (.z (.tup (xs++ys))) else none
 |a,b=>(pB a).bind λxs=>(pB b).bind λys=>if xs.length+ys.length<=Tt then some (.o (xs++ys)) else none
theorem str_len (i j:Str):(i++j).length=i.length+j.length:=by
 show(i.cps++j.cps).size=_;rw[Kx];rfl
theorem bI:Ed X (binaryOp .Add) dh:=by
 intro pins s σ H x y v u Q I rx ry h;obtain⟨a,b,c,ra,rb,e,q⟩:=h;have hbig:=aad;unfold dh at e;split at e
 ·rename_i i j;cases e;exact acK pins s σ H x y v u Q I rx ry ⟨i,j,JG ra,JG rb,q _ H (Same.refl H) trivial Bo⟩
 ·rename_i i j;split at e
  ·rename_i hl;cases e;exact Nx pins s σ H x y v u Q I rx ry ⟨i,j,(Oh ra).1,(Oh rb).1,by omega,q _ H (Same.refl H) trivial (aac (by rw[str_len];omega))⟩
  ·cases e
 ·rename_i xs ys;split at e
  ·rename_i hl;cases e;obtain⟨l,vs,rfl,sl,rl⟩:=inT ra;obtain⟨m,us,rfl,sm,rm⟩:=inT rb;cases rx;cases ry;have h1:=rl.length;have h2:=rm.length;refine adv I sl sm (by omega) (λz=>q _ H (Same.refl H) trivial ?_) (λz=>q _ H (Same.refl H) trivial ?_) λp hp=>q _ _ (bG hp) trivial ?_
   ·unfold bf Rep;refine⟨m,us,rfl,sm,?_⟩;have:xs=[]:=by subst z;exact List.eq_nil_of_length_eq_zero (by simpa using h1.symm)
    rw[this,kB];exact rm
   ·unfold bf Rep;refine⟨l,vs,rfl,sl,?_⟩;have:ys=[]:=by subst z;exact List.eq_nil_of_length_eq_zero (by simpa using h2.symm)
    rw[this,QA];exact rl
   ·unfold bf Rep;exact⟨p,_,rfl,.inl (.inl aQ),(rl.append rm).kp (.of (bG hp))⟩
  ·cases e
 ·obtain⟨xs,ea,e⟩:=bind_some e;obtain⟨ys,eb,e⟩:=bind_some e;split at e
  ·rename_i hl;cases e;obtain⟨l,vs,rfl,sl,rl⟩:=ra.FT ea;obtain⟨m,us,rfl,sm,rm⟩:=rb.FT eb;cases rx;cases ry;have h1:=rl.length;have h2:=rm.length;refine adu I sl sm (by omega) λp hp=>q _ _ (bG hp) (λa ea=>by cases ea;exact hp) ⟨p,_,rfl,aQ,(rl.append rm).kp (.of (bG hp))⟩
  ·cases e
def sy:Bx->Bx->Option Bx
 |.z (.int i),.z (.int j)=>if(-(2 ^ 64) < i/\i < 2 ^ 64)\/(-(2 ^ 64) < j/\j < 2 ^ 64) then some (.z (.int (i * j))) else none
 |.z (.str x),.z (.int n)=>if n<=1000 ∧ -1000<=n/\x.length<=1000 then some (.z (.str (Txt.mul x n))) else none
 |_,_=>none
theorem uI (x:Array Nat):∀ (n:Nat) (acc:Array Nat),((List.replicate n x).foldl (·++·) acc).size=acc.size+n * x.size
 |0,acc=>by simp
 |n+1,acc=>by
  rw[KW,QO,uI x n,Kx,Nat.succ_mul];omega
theorem HS (x:Str) (n:Int):(Txt.mul x n).length<=n.toNat * x.length+x.length:=by
 unfold Txt.mul;split
 ·exact QP _
 ·split
  ·exact Nat.le_add_left _ _
  ·show((List.replicate n.toNat x.cps).foldl (·++·) #[]).size<=_;rw[uI];show(#[]:Array Nat).size+n.toNat * x.cps.size<=n.toNat * x.cps.size+x.cps.size;simp
theorem mX:Ed X (binaryOp .Mult) sy:=by
 intro pins s σ H x y v u Q I rx ry h;obtain⟨a,b,c,ra,rb,e,q⟩:=h;unfold sy at e;split at e
 ·rename_i i j;split at e
  ·rename_i hl;cases e;exact acM pins s σ H x y v u Q I rx ry ⟨i,j,JG ra,JG rb,hl,q _ H (Same.refl H) trivial Bo⟩
  ·cases e
 ·rename_i x' n;split at e
  ·rename_i hl;cases e;obtain⟨rfl,hx⟩:=Oh ra;have hy:=JG rb;subst hy;obtain⟨t,rfl⟩:=rx;obtain⟨t',rfl⟩:=ry;have hs:sizeLine=16777216:=sizeLine_eq;have hm:n.toNat * x'.length<=1000 * 1000:=Nat.mul_le_mul (by omega) hl.2.2;refine SB.mul ⟨?_,λh1 h2=>?_,λh1 h2=>?_⟩ λt' k=>⟨.str _,H,I.tok _,⟨_,rfl⟩,q _ H (Same.refl H) trivial (aac (Zs (HS x' n) (by omega)))⟩
   ·have e1:decide (n < -(2 ^ 63:Int))=false:=qa (by omega);have e2:decide (n>=2 ^ 63)=false:=qa (by omega);rw[e1,e2];rfl
   ·have hn:0 < n:=by omega
    have:(1000:Int)<=(2 ^ 63 - 1) / n:=(Int.le_ediv_iff_mul_le hn).mpr (by omega);omega
   ·show decide (x'.length * n.toNat > sizeLine)=false;rw[Nat.mul_comm];exact qa (by omega)
  ·cases e
 ·cases e
def Ge (i j:Str):Bool:=!(Builtin.Str.occurrences j i 0 j.length 1).isEmpty
def vV:Dt->Bool
 |.non=>true
 |.bl _=>true
 |.int _=>true
 |.str _=>true
 |_=>false
def memD (x:Dt) (ys:List Dt):Option Bool:=if vV x=true/\ys.all vV=true then some (ys.any λy=>match wX y x with|some true=>true|_=>false) else none
def uX:Bx->Option (List Dt)
 |.z (.lst ds)=>some ds
 |.z (.tup ds)=>some ds
 |.l ds=>some ds
 |.o ds=>some ds
 |_=>none
def inB:Bx->Bx->Option Bool
 |.z (.str i),.z (.str j)=>some (Ge i j)
 |.z d,b=>(uX b).bind λys=>memD d ys
 |_,_=>none
def inF (a b:Bx):Option Bx:=(inB a b).bind λk=>some (.z (.bl k))
def Tv (a b:Bx):Option Bx:=(inB a b).bind λk=>some (.z (.bl (!k)))
theorem Kf {K:FG_} {H:Hp} {d:Dt} {v:V} (r:Rep K H d v) (f:vV d=true):qU v=true:=by
 cases d<;>first|(cases f;done)|skip
 all_goals simp only[Rep] at r
 ·subst r;rfl
 ·subst r;rfl
 ·subst r;rfl
 ·obtain⟨rfl,_⟩:=r;rfl
theorem Gf {K:FG_} {H:Hp}:∀ {ds:List Dt} {vs:List V},aK K H ds vs->ds.all vV=true->vs.all qU=true
 |[],_,h,_=>by simp only[aK] at h;subst h;rfl
 |d::ds,_,h,f=>by
  simp only[aK] at h;obtain⟨v,r,rfl,h1,h2⟩:=h;rw[kC,Zz] at f;rw[kC,Kf h1 f.1,Gf h2 f.2];rfl
theorem HW (b:Bool):(match some b with|some true=>true|_=>false)=b:=by cases b<;>rfl
theorem aae {K:FG_} {H:Hp} {d e:Dt} {x y:V} (rd:Rep K H d x) (re:Rep K H e y) (fd:vV d=true) (fe:vV e=true):ZD x y=(match wX d e with|some true=>true|_=>false):=by
 cases d<;>first|(cases fd;done)|skip
 all_goals (cases e<;>first|(cases fe;done)|skip)
 all_goals simp only[Rep] at rd re
 all_goals first
  |(subst rd;subst re;exact(HW _).symm)
  |(obtain⟨rfl,_⟩:=rd;subst re;exact(HW _).symm)
  |(subst rd;obtain⟨rfl,_⟩:=re;exact(HW _).symm)
  |(obtain⟨rfl,_⟩:=rd;obtain⟨rfl,_⟩:=re;exact(HW _).symm)
theorem Q6 {K:FG_} {H:Hp} {d:Dt} {x:V} (rd:Rep K H d x) (fd:vV d=true):∀ {ds:List Dt} {vs:List V},aK K H ds vs->ds.all vV=true->inV x vs=ds.any λy=>match wX y d with|some true=>true|_=>false
 |[],_,h,_=>by simp only[aK] at h;subst h;rfl
 |e::ds,_,h,f=>by
  simp only[aK] at h;obtain⟨v,r,rfl,h1,h2⟩:=h;rw[kC,Zz] at f;have:=Q6 rd fd h2 f.2;unfold inV at this ⊢;rw[kc,kc,aae h1 rd f.1 fd,this]
theorem vW {K:FG_} {H:Hp} {b:Bx} {v:V} {ds:List Dt} (h:bf K H b v) (e:uX b=some ds):∃ a vs,v=.ref a/\(rP K H a vs\/wW K H a vs)/\aK K H ds vs:=by
 cases b with
 |z d=>
  cases d<;>first|(cases e;done)|skip
  ·cases e;obtain⟨a,vs,e,q,r⟩:=inT h;exact⟨a,vs,e,.inr q,r⟩
  ·cases e;obtain⟨a,vs,e,q,r⟩:=h.FT rfl;exact⟨a,vs,e,.inl q,r⟩
 |l ds'=>
  cases e;obtain⟨a,vs,e,q,r⟩:=h.FT rfl;exact⟨a,vs,e,.inl q,r⟩
 |o ds'=>
  cases e;obtain⟨a,vs,e,q,r⟩:=h.FT rfl;exact⟨a,vs,e,.inl q,r⟩
 |n _=>cases e
 |m _ _=>cases e
theorem Gg {H:Hp} {a b:Bx} {x y:V} {k:Bool} (ra:bf X.K H a x) (rb:bf X.K H b y) (e:inB a b=some k) :
  (∃ i j,x=.str i/\y=.str j/\k=Ge i j)\/(∃ p xs,y=.ref p/\(rP X.K H p xs\/wW X.K H p xs)/\qU x=true/\xs.all qU=true/\k=inV x xs):=by
 unfold inB at e;split at e
 ·rename_i i j;cases e;exact .inl ⟨i,j,(Oh ra).1,(Oh rb).1,rfl⟩
 ·rename_i d _;obtain⟨ys,ey,e⟩:=bind_some e;unfold memD at e;split at e
  ·rename_i hf;cases e;obtain⟨p,vs,rfl,sq,rs⟩:=vW rb ey;have ra':Rep X.K H d x:=ra;exact .inr ⟨p,vs,rfl,sq,Kf ra' hf.1,Gf rs hf.2,(Q6 ra' hf.1 rs hf.2).symm⟩
  ·cases e
 ·cases e
theorem Wm:Ed X (compareOp .In) inF:=by
 intro pins s σ H x y v u Q I rx ry h;obtain⟨a,b,c,ra,rb,e,q⟩:=h;obtain⟨k,ek,e⟩:=bind_some e;cases e;rcases Gg ra rb ek with⟨i,j,rfl,rfl,rfl⟩|⟨p,xs,rfl,sq,f1,f2,rfl⟩
 ·exact SQ pins s σ H _ _ v u Q I rx ry ⟨i,j,rfl,rfl,q _ H (Same.refl H) trivial Ke⟩
 ·exact S7 pins s σ H _ _ v u Q I rx ry ⟨p,xs,rfl,sq,f1,f2,q _ H (Same.refl H) trivial Ke⟩
theorem Bq:Ed X (compareOp .NotIn) Tv:=by
 intro pins s σ H x y v u Q I rx ry h;obtain⟨a,b,c,ra,rb,e,q⟩:=h;obtain⟨k,ek,e⟩:=bind_some e;cases e;rcases Gg ra rb ek with⟨i,j,rfl,rfl,rfl⟩|⟨p,xs,rfl,sq,f1,f2,rfl⟩
 ·exact Hr pins s σ H _ _ v u Q I rx ry ⟨i,j,rfl,rfl,q _ H (Same.refl H) trivial Ke⟩
 ·exact Hq pins s σ H _ _ v u Q I rx ry ⟨p,xs,rfl,sq,f1,f2,q _ H (Same.refl H) trivial Ke⟩
def gk:Bx->Bx->Option Bx
 |.z (.str x),.z (.int i)=>(FN x.cps.toList i).bind λc=>some (.z (.str ⟨#[c]⟩))
 |b,.z (.int i)=>(uX b).bind λds=>(FN ds i).bind λd=>some (.z d)
 |_,_=>none
theorem aaf {K:FG_} {H:Hp} {ds:List Dt} {vs:List V} {i:Int} {d:Dt} (r:aK K H ds vs) (e:FN ds i=some d):∃ v,FN vs i=some v/\Rep K H d v:=by
 unfold FN at e ⊢;rw[r.length];obtain⟨j,ej,e⟩:=bind_some e;rw[ej];exact r.get e
theorem bB {a b:Expr} {fa fb:Ev->Option Bx} {pos:Pos} (ha:QV X a fa) (hb:QV X b fb) (hs:QM b:=by intro _ _;with_unfolding_all rfl):QV X (.Subscript a b pos) (b2 gk fa fb):=⟨have ha:=ha.run;have hb:=hb.run;FW (afh acZ ha hb hs) λσ H Q h=>by
 obtain⟨H0,ρ,c,E,e,q⟩:=h;obtain⟨a,ea,e⟩:=bind_some e;obtain⟨b,eb,e⟩:=bind_some e;refine⟨H0,ρ,a,E,ea,λv H1 s1 n1 r1=>⟨H0,ρ,b,E.grow s1,eb,λu H2 s2 n2 r2=>?_⟩⟩;have r1':=r1.same s2;unfold gk at e;split at e
 ·rename_i x i;obtain⟨c',ec,e⟩:=bind_some e;cases e;exact .inr (.inr ⟨_,_,c',(Oh r1').1,JG r2,(Oh r1').2,ec,q _ _ (s1.trans s2) trivial (aac (by show(1:Nat)<=sizeLine;decide))⟩)
 ·obtain⟨ds,ed,e⟩:=bind_some e;obtain⟨d,ei,e⟩:=bind_some e;cases e;obtain⟨p,vs,rfl,sq,rs⟩:=vW r1' ed;obtain⟨w,ew,QJ⟩:=aaf rs ei;have hi:=JG r2;rcases sq with sq|sq
  ·exact .inl ⟨p,vs,_,w,rfl,hi,sq,ew,q _ _ (s1.trans s2) trivial QJ⟩
  ·exact .inr (.inl ⟨p,vs,_,w,rfl,hi,sq,ew,q _ _ (s1.trans s2) trivial QJ⟩)
 ·cases e⟩
end
theorem adw:bootBuiltins "int" = some (.type "int"):=by decide +kernel
theorem adx:bootBuiltins "str" = some (.type "str"):=by decide +kernel
theorem jX:bootBuiltins "tuple" = some (.type "tuple"):=by decide +kernel
theorem Q7:bootBuiltins "list" = some (.type "list"):=by decide +kernel
theorem oY:bootBuiltins "isinstance" = some (.builtin "isinstance"):=by decide +kernel
theorem xO:bootBuiltins "len" = some (.builtin "len"):=by decide +kernel
theorem ady:bootBuiltins "abs" = some (.builtin "abs"):=by decide +kernel
theorem Oi:bootBuiltins "all" = some (.builtin "all"):=by decide +kernel
theorem Br:bootBuiltins "min" = some (.builtin "min"):=by decide +kernel
theorem uY:bootBuiltins "max" = some (.builtin "max"):=by decide +kernel
theorem pH:bootBuiltins "sorted" = some (.builtin "sorted"):=by decide +kernel
section
variable {X:Cx} {pins:List (Addr×Obj)} {σ:L2.St} {H:Hp} {s:Shared}
def kj:Dt->Bool
 |.str _=>true
 |_=>false
theorem aag (I:L2.Inv X pins σ H s) {d:Dt} {x:V} {v:Value} {Q:VK} (rd:jh X.K H d x) (rv:RelV x v) (q:Q (.bl (kj d)) H):wpAny (model X.prog X.w) X.A (call (.builtin "isinstance") [v,.type "str"]) (EP X pins σ Q) X.xe s:=by
 cases d with
 |non=>simp only[jh,Rep] at rd;subst rd;cases rv;exact IsiPair.NoneType_str ⟨.bl _,H,I.tok _,rfl,q⟩
 |bl b=>simp only[jh,Rep] at rd;subst rd;cases rv;exact IsiPair.bool_str ⟨.bl _,H,I.tok _,rfl,q⟩
 |int b=>simp only[jh,Rep] at rd;subst rd;obtain⟨t,rfl⟩:=rv;exact IsiPair.int_str ⟨.bl _,H,I.tok _,rfl,q⟩
 |str b=>simp only[jh,Rep] at rd;obtain⟨rfl,_⟩:=rd;obtain⟨t,rfl⟩:=rv;exact IsiPair.str_str ⟨.bl _,H,I,rfl,q⟩
 |tup ds=>simp only[jh,Rep] at rd;obtain⟨a,vs,rfl,sq,_⟩:=rd;cases rv;obtain⟨_,_,p,_⟩:=I.tuple sq;exact IsiPair.isTuple_str p (λ_ _ e=>e) ⟨.bl _,H,I.tok _,rfl,q⟩
 |lst ds=>simp only[jh] at rd;obtain⟨a,vs,rfl,sq,_⟩:=rd;cases rv;obtain⟨_,_,p,_⟩:=I.list sq;exact IsiPair.isList_str p.isList (λ_ _ e=>e) ⟨.bl _,H,I.tok _,rfl,q⟩
 |emp=>simp only[jh,Rep] at rd;obtain⟨a,o,rfl,sq⟩:=rd;cases rv;obtain⟨ob,e,c⟩:=qe I sq;exact IsiPair.dict_str e c ⟨.bl _,H,I.tok _,rfl,q⟩
theorem Oj {e:Expr} {f:Ev->Option Bx} {p p2 pos:Pos} (he:QV X e f) (hg:Gl X "isinstance") (hm:X.mg "isinstance" = none) (hg2:Gl X "str") (hm2:X.mg "str" = none) (hs:starEach [e,.Name "str" p2] X.env=[(false,eval e X.env),(false,eval (.Name "str" p2) X.env)]:=by rfl):QV X (.Call (.Name "isinstance" p) [e,.Name "str" p2] [] pos) (b1 (λb=>if lH b=true then none else some (.z (.bl (kj (toD b))))) f):=⟨by
 have he:=he.run;have hc:fB X (.builtin "isinstance") (λxs H Q=>∃ b x,xs=[x,.ty "str"]/\bf X.K H b x/\lH b=false/\Q (.bl (kj (toD b))) H):=by
  intro pins s σ H xs us Q I r h;obtain⟨b,x,rfl,rb,hmb,q⟩:=h;obtain⟨u,w',rfl,r1,r2⟩:=vals2 r;cases r2;exact aag I (rb.toD hmb) r1 q
 have ha:PA X [e,.Name "str" p2] (Av (tF X.K f) (Av (tC (.ty "str")) Zn)):=aV he (aV (zM hg2 hm2 (v:=.ty "str") (u:=.type "str") adx rfl) dJ) (by rw[hs]<;>rfl);refine FW (dZ hc hg hm oY ha (by decide) (by decide) (by rw[hs]<;>rfl) rfl) λσ H Q h=>?_;obtain⟨H0,ρ,c,E,e,q⟩:=h;obtain⟨b,eb,e⟩:=bind_some e;split at e
 ·cases e
 rename_i hz;cases e;exact⟨H0,ρ,b,E,eb,λv H1 s1 n1 r1=>⟨b,v,rfl,r1,by simpa using hz,q _ _ s1 trivial Ke⟩⟩⟩
def jY:Dt->Bool
 |.tup _=>true
 |_=>false
theorem Tw (I:L2.Inv X pins σ H s) {d:Dt} {x:V} {v:Value} {Q:VK} (rd:jh X.K H d x) (rv:RelV x v) (q:Q (.bl (jY d)) H):wpAny (model X.prog X.w) X.A (call (.builtin "isinstance") [v,.type "tuple"]) (EP X pins σ Q) X.xe s:=by
 cases d with
 |non=>simp only[jh,Rep] at rd;subst rd;cases rv;exact IsiPair.NoneType_tuple ⟨.bl _,H,I.tok _,rfl,q⟩
 |bl b=>simp only[jh,Rep] at rd;subst rd;cases rv;exact IsiPair.bool_tuple ⟨.bl _,H,I.tok _,rfl,q⟩
 |int b=>simp only[jh,Rep] at rd;subst rd;obtain⟨t,rfl⟩:=rv;exact IsiPair.int_tuple ⟨.bl _,H,I.tok _,rfl,q⟩
 |str b=>simp only[jh,Rep] at rd;obtain⟨rfl,_⟩:=rd;obtain⟨t,rfl⟩:=rv;exact IsiPair.str_tuple ⟨.bl _,H,I.tok _,rfl,q⟩
 |tup ds=>simp only[jh,Rep] at rd;obtain⟨a,vs,rfl,sq,_⟩:=rd;cases rv;obtain⟨_,_,p,_⟩:=I.tuple sq;exact IsiPair.isTuple_tuple p (λ_ _ e=>e) ⟨.bl _,H,I,rfl,q⟩
 |lst ds=>simp only[jh] at rd;obtain⟨a,vs,rfl,sq,_⟩:=rd;cases rv;obtain⟨_,_,p,_⟩:=I.list sq;exact IsiPair.isList_tuple p.isList (λ_ _ e=>e) ⟨.bl _,H,I.tok _,rfl,q⟩
 |emp=>simp only[jh,Rep] at rd;obtain⟨a,o,rfl,sq⟩:=rd;cases rv;obtain⟨ob,e,c⟩:=qe I sq;exact IsiPair.dict_tuple e c ⟨.bl _,H,I.tok _,rfl,q⟩
theorem HX {e:Expr} {f:Ev->Option Bx} {p p2 pos:Pos} (he:QV X e f) (hg:Gl X "isinstance") (hm:X.mg "isinstance" = none) (hg2:Gl X "tuple") (hm2:X.mg "tuple" = none) (hs:starEach [e,.Name "tuple" p2] X.env=[(false,eval e X.env),(false,eval (.Name "tuple" p2) X.env)]:=by rfl):QV X (.Call (.Name "isinstance" p) [e,.Name "tuple" p2] [] pos) (b1 (λb=>if lH b=true then none else some (.z (.bl (jY (toD b))))) f):=⟨by
 have he:=he.run;have hc:fB X (.builtin "isinstance") (λxs H Q=>∃ b x,xs=[x,.ty "tuple"]/\bf X.K H b x/\lH b=false/\Q (.bl (jY (toD b))) H):=by
  intro pins s σ H xs us Q I r h;obtain⟨b,x,rfl,rb,hmb,q⟩:=h;obtain⟨u,w',rfl,r1,r2⟩:=vals2 r;cases r2;exact Tw I (rb.toD hmb) r1 q
 have ha:PA X [e,.Name "tuple" p2] (Av (tF X.K f) (Av (tC (.ty "tuple")) Zn)):=aV he (aV (zM hg2 hm2 (v:=.ty "tuple") (u:=.type "tuple") jX rfl) dJ) (by rw[hs]<;>rfl);refine FW (dZ hc hg hm oY ha (by decide) (by decide) (by rw[hs]<;>rfl) rfl) λσ H Q h=>?_;obtain⟨H0,ρ,c,E,e,q⟩:=h;obtain⟨b,eb,e⟩:=bind_some e;split at e
 ·cases e
 rename_i hz;cases e;exact⟨H0,ρ,b,E,eb,λv H1 s1 n1 r1=>⟨b,v,rfl,r1,by simpa using hz,q _ _ s1 trivial Ke⟩⟩⟩
def is_list:Dt->Bool
 |.lst _=>true
 |_=>false
theorem Wn (I:L2.Inv X pins σ H s) {d:Dt} {x:V} {v:Value} {Q:VK} (rd:jh X.K H d x) (rv:RelV x v) (q:Q (.bl (is_list d)) H):wpAny (model X.prog X.w) X.A (call (.builtin "isinstance") [v,.type "list"]) (EP X pins σ Q) X.xe s:=by
 cases d with
 |non=>simp only[jh,Rep] at rd;subst rd;cases rv;exact IsiPair.NoneType_list ⟨.bl _,H,I.tok _,rfl,q⟩
 |bl b=>simp only[jh,Rep] at rd;subst rd;cases rv;exact IsiPair.bool_list ⟨.bl _,H,I.tok _,rfl,q⟩
 |int b=>simp only[jh,Rep] at rd;subst rd;obtain⟨t,rfl⟩:=rv;exact IsiPair.int_list ⟨.bl _,H,I.tok _,rfl,q⟩
 |str b=>simp only[jh,Rep] at rd;obtain⟨rfl,_⟩:=rd;obtain⟨t,rfl⟩:=rv;exact IsiPair.str_list ⟨.bl _,H,I.tok _,rfl,q⟩
 |tup ds=>simp only[jh,Rep] at rd;obtain⟨a,vs,rfl,sq,_⟩:=rd;cases rv;obtain⟨_,_,p,_⟩:=I.tuple sq;exact IsiPair.isTuple_list p (λ_ _ e=>e) ⟨.bl _,H,I.tok _,rfl,q⟩
 |lst ds=>simp only[jh] at rd;obtain⟨a,vs,rfl,sq,_⟩:=rd;cases rv;obtain⟨_,_,p,_⟩:=I.list sq;exact IsiPair.isList_list p.isList (λ_ _ e=>e) ⟨.bl _,H,I,rfl,q⟩
 |emp=>simp only[jh,Rep] at rd;obtain⟨a,o,rfl,sq⟩:=rd;cases rv;obtain⟨ob,e,c⟩:=qe I sq;exact IsiPair.dict_list e c ⟨.bl _,H,I.tok _,rfl,q⟩
theorem Kg {e:Expr} {f:Ev->Option Bx} {p p2 pos:Pos} (he:QV X e f) (hg:Gl X "isinstance") (hm:X.mg "isinstance" = none) (hg2:Gl X "list") (hm2:X.mg "list" = none) (hs:starEach [e,.Name "list" p2] X.env=[(false,eval e X.env),(false,eval (.Name "list" p2) X.env)]:=by rfl):QV X (.Call (.Name "isinstance" p) [e,.Name "list" p2] [] pos) (b1 (λb=>if lH b=true then none else some (.z (.bl (is_list (toD b))))) f):=⟨by
 have he:=he.run;have hc:fB X (.builtin "isinstance") (λxs H Q=>∃ b x,xs=[x,.ty "list"]/\bf X.K H b x/\lH b=false/\Q (.bl (is_list (toD b))) H):=by
  intro pins s σ H xs us Q I r h;obtain⟨b,x,rfl,rb,hmb,q⟩:=h;obtain⟨u,w',rfl,r1,r2⟩:=vals2 r;cases r2;exact Wn I (rb.toD hmb) r1 q
 have ha:PA X [e,.Name "list" p2] (Av (tF X.K f) (Av (tC (.ty "list")) Zn)):=aV he (aV (zM hg2 hm2 (v:=.ty "list") (u:=.type "list") Q7 rfl) dJ) (by rw[hs]<;>rfl);refine FW (dZ hc hg hm oY ha (by decide) (by decide) (by rw[hs]<;>rfl) rfl) λσ H Q h=>?_;obtain⟨H0,ρ,c,E,e,q⟩:=h;obtain⟨b,eb,e⟩:=bind_some e;split at e
 ·cases e
 rename_i hz;cases e;exact⟨H0,ρ,b,E,eb,λv H1 s1 n1 r1=>⟨b,v,rfl,r1,by simpa using hz,q _ _ s1 trivial Ke⟩⟩⟩
def tFO (K:FG_) (f:Ev->Option (Option Int)):TO:=λσ H Q=>∃ H0 ρ o,bD K H0 H σ ρ/\f ρ=some o/\∀ H',Same H H'->Q o H'
def PVo (X:Cx) (e:Option Expr) (f:Ev->Option (Option Int)):Prop:=PO X e (tFO X.K f)
structure QVo (X:Cx) (e:Option Expr) (f:Ev->Option (Option Int)):Prop where
 run:PVo X e f
theorem poM {e:Option Expr} {t t':TO} (h:PO X e t) (m:∀ σ H Q,t' σ H Q->t σ H Q):PO X e t':=λpins s σ H Q I q=>h pins s σ H Q I (m σ H Q q)
def ji:Ev->Option (Option Int):=λ_=>some none
theorem fQ  : QVo X none ji:=⟨poM Zt λσ H Q h=>by
 obtain⟨H0,ρ,o,E,e,q⟩:=h;cases e;exact q H (Same.refl H)⟩
def adz:Bx->Option (Option Int)
 |.z (.int i)=>some (some i)
 |_=>none
def mY (f:Ev->Option Bx):Ev->Option (Option Int):=λρ=>(f ρ).bind adz
theorem fU {e:Expr} {f:Ev->Option Bx} (h:QV X e f):QVo X (some e) (mY f):=⟨have h:=h.run;poM (Zu h) λσ H Q q=>by
 obtain⟨H0,ρ,o,E,e,q⟩:=q;obtain⟨b,eb,e⟩:=bind_some e;refine⟨H0,ρ,b,E,eb,λv H1 s1 n1 r1=>?_⟩;unfold adz at e;split at e
 ·rename_i i;cases e;exact⟨i,JG r1,q H1 s1⟩
 ·cases e⟩
def cutD (xs:List Dt) (lo hi:Option Int):List Dt:=(xs.drop (HT.gn xs.length 0 lo)).take (HT.gn xs.length xs.length hi - HT.gn xs.length 0 lo)
theorem Kh {K:FG_} {H:Hp} {ds:List Dt} {vs:List V} (r:aK K H ds vs) (lo hi:Option Int):aK K H (cutD ds lo hi) (JR vs lo hi):=by
 unfold cutD JR;rw[r.length];exact(r.drop _).take _
theorem Wo (ds:List Dt) {lo hi:Option Int} (h1:HT.gn ds.length 0 lo=0) (h2:HT.gn ds.length ds.length hi=ds.length):cutD ds lo hi=ds:=by
 unfold cutD;rw[h1,h2];simp
theorem vX {t sl:Addr} {items:Array Value} {vl vu:Value} {lo hi:Option Int} {Q:VP_} {prog:Program} {w:World} {A:Around} {E:VP_} {s:Shared} (ht:IsTup s.heap t items) (hs:s.heap.IsSliceOf sl vl vu .none) (pl:IsPart vl lo) (pu:IsPart vu hi)
  (h1:HT.gn items.size 0 lo=0) (h2:HT.gn items.size items.size hi=items.size)
  (h:Q (.ref t) s):wpAny (model prog w) A (getItem (.ref t) (.ref sl)) Q E s:=by
 obtain⟨os,hos,hcs,hds⟩:=id hs;have hTs:s.TypeIs (.ref sl) "slice" := ⟨os,hos,hcs⟩;unfold getItem
 try with_reducible refine qi ?_
 first|refine zb (ze ?_)|skip
 refine zb (wpAny_sequenceKey ht.typeIs (by decide) ?_);refine zb (k8 (name:=Str.ofString "__getitem__") ht.typeIs PyProof.Rows.slot_tuple_getitem
  (JJ PyProof.Rows.slot_tuple_getitem ht.typeIs entry_tuple_getitem ?_ (args_tuple_getitem _ _)))
 show wpAny _ _ (Builtin.Tuple.tupleItemsOf (.ref t) >>= _) _ _ s;refine zb (tupleItemsOf_ ht ?_);refine zb (QE hTs ?_);rw[zl (by decide)];refine zb (HT.pA hs pl pu ?_);have hyes:(((HT.gn items.size 0 lo:Nat):Int)==0&&(1:Int)==1&&(HT.gn items.size items.size hi - HT.gn items.size 0 lo)==items.size)=true:=by
  rw[h1,h2];simp
 show wpAny _ _ (if(((HT.gn items.size 0 lo:Nat):Int)==0&&(1:Int)==1&&(HT.gn items.size items.size hi - HT.gn items.size 0 lo)==items.size)=true then _ else _) _ _ s;rw[zl hyes]
 first
  |refine zb (zb (QE ht.typeIs (ze ?_)))
  |refine zb (QE ht.typeIs (zb (ze ?_)))
  |refine zb (QE ht.typeIs ?_)
 rw[zl (by decide)]
 first
  |exact zb (kX (ze ⟨_,rfl,ze h⟩))
  |exact zb (kX (zb (ze (ze ⟨_,rfl,ze h⟩))))
def slB (b:Bx) (lo hi:Option Int):Option Bx:=match b with
 |.z (.str x)=>some (.z (.str (Txt.slice x lo hi)))
 |.z (.tup ds)=>some (.z (.tup (cutD ds lo hi)))
 |b=>(pB b).bind λds=>some (.o (cutD ds lo hi))
def rSl (K:FG_):V->Option Int->Option Int->Hp->VK->Prop:=λx lo hi H Q=>∃ b c,bf K H b x/\slB b lo hi=some c/\∀ w H',Same H H'->Nw H c w->bf K H' c w->Q w H'
theorem adA:SlR X (rSl X.K):=by
 intro pins s σ H x v vl vu lo hi sl Q I rx hs pl pu h;obtain⟨b,c,rb,e,q⟩:=h;unfold slB at e;split at e
 ·rename_i y;cases e;obtain⟨rfl,hy⟩:=Oh rb;obtain⟨t,rfl⟩:=rx;refine⟨"str", _,F.slot_str_getitem.lookup,typeIs_str _ _ _,?_⟩;obtain⟨o,e1,e2,e3⟩:=hs;have fin:∀ t' k,EP X pins σ Q (.str (Txt.slice y lo hi) t') { s with toks:=k }:=λt' k=>⟨.str _,H,I.tok _,⟨_,rfl⟩,q _ H (Same.refl H) trivial (aac (Zs (Txt.slice_le y _ _) hy))⟩;cases pl with
  |none=>
   cases pu with
   |none=>exact k7 (l:=none) (u:=none) (st:=none) ⟨o,e1,e2,e3⟩ rfl (post_val_or_str ⟨Zs (Txt.slice_le y _ _) hy,fin⟩)
   |int j uj=>exact k7 (l:=none) (u:=some (j,uj)) (st:=none) ⟨o,e1,e2,e3⟩ rfl (post_val_or_str ⟨Zs (Txt.slice_le y _ _) hy,fin⟩)
  |int i ui=>
   cases pu with
   |none=>exact k7 (l:=some (i,ui)) (u:=none) (st:=none) ⟨o,e1,e2,e3⟩ rfl (post_val_or_str ⟨Zs (Txt.slice_le y _ _) hy,fin⟩)
   |int j uj=>exact k7 (l:=some (i,ui)) (u:=some (j,uj)) (st:=none) ⟨o,e1,e2,e3⟩ rfl (post_val_or_str ⟨Zs (Txt.slice_le y _ _) hy,fin⟩)
 ·rename_i ds;cases e;obtain⟨a,vs,rfl,sq,rs⟩:=inT rb;by_cases hw:HT.gn vs.length 0 lo=0/\HT.gn vs.length vs.length hi=vs.length
  ·cases rx;obtain⟨its,r,ht,hz⟩:=I.tuple sq;have hlen:its.toArray.size=vs.length:=by rw[zz];exact r.length.symm
   refine⟨"tuple", _,PyProof.Rows.slot_tuple_getitem.lookup,ht.typeIs,vX ht hs pl pu (by rw[hlen];exact hw.1) (by rw[hlen];exact hw.2) ⟨.ref a,H,I,rfl,q _ H (Same.refl H) trivial ?_⟩⟩;rw[Wo ds (by rw[<-rs.length];exact hw.1) (by rw[<-rs.length];exact hw.2)];exact rb
  ·refine acW pins s σ H _ v vl vu lo hi sl Q I rx hs pl pu ⟨a,vs,rfl,sq,hw,λp hp=>q _ _ (bG hp) trivial ?_⟩;unfold bf Rep;exact⟨p,_,rfl,.inl (.inl aQ),(Kh rs lo hi).kp (.of (bG hp))⟩
 ·obtain⟨ds,ed,e⟩:=bind_some e;cases e;obtain⟨a,vs,rfl,sq,rs⟩:=rb.FT ed;exact ZC pins s σ H _ v vl vu lo hi sl Q I rx hs pl pu ⟨a,vs,rfl,sq,λp hp=>q _ _ (bG hp) (λa ea=>by cases ea;exact hp) ⟨p,_,rfl,aQ,(Kh rs lo hi).kp (.of (bG hp))⟩⟩
def HY (f:Ev->Option Bx) (fl fh:Ev->Option (Option Int)):Ev->Option Bx:=λρ=>(f ρ).bind λb=>(fl ρ).bind λlo=>(fh ρ).bind λhi=>slB b lo hi
theorem qW {e:Expr} {lo hi:Option Expr} {f:Ev->Option Bx} {fl fh:Ev->Option (Option Int)} {p2 pos:Pos} (he:QV X e f) (hl:QVo X lo fl) (hh:QVo X hi fh):QV X (.Subscript e (.Slice lo hi none p2) pos) (HY f fl fh):=⟨have he:=he.run;have hl:=hl.run;have hh:=hh.run;FW (Vy adA he hl hh) λσ H Q h=>by
 obtain⟨H0,ρ,c,E,e,q⟩:=h;obtain⟨b,eb,e⟩:=bind_some e;obtain⟨lo,el,e⟩:=bind_some e;obtain⟨hi,eh,e⟩:=bind_some e;refine⟨H0,ρ,b,E,eb,λv H1 s1 n1 r1=>⟨H0,ρ,lo,E.grow s1,el,λH2 s2=>⟨H0,ρ,hi,E.grow (s1.trans s2),eh,λH3 s3=>?_⟩⟩⟩;have s13:=(s1.trans s2).trans s3;exact⟨b,c,(r1.same s2).same s3,e,λw H4 s4 n4 r4=>q w H4 (s13.trans s4) (n4.old s13) r4⟩⟩
def uF:List Bx->Option Bx
 |[.z (.str x)]=>some (.z (.int x.length))
 |[b]=>(uX b).bind λds=>some (.z (.int ds.length))
 |_=>none
theorem rep1 {K:FG_} {H:Hp} {b:Bx} {vs:List V} (r:pC K H [b] vs):∃ v,vs=[v]/\bf K H b v:=by
 cases r with
 |cons p t=>cases t;exact⟨_,rfl,p⟩
theorem xP:nU X (.builtin "len") uF:=fB.imp (Ht.or Hu) λxs H Q q=>by
 obtain⟨bs,c,rb,e,q⟩:=q;unfold uF at e;split at e
 ·rename_i x;cases e;obtain⟨v,rfl,r1⟩:=rep1 rb;obtain⟨rfl,hx⟩:=Oh r1;exact .inr ⟨x,rfl,hx,q _ H (Same.refl H) trivial Bo⟩
 ·obtain⟨ds,ed,e⟩:=bind_some e;cases e;obtain⟨v,rfl,r1⟩:=rep1 rb;obtain⟨p,vs,rfl,sq,rs⟩:=vW r1 ed;exact .inl ⟨p,vs,rfl,sq,by rw[rs.length];exact q _ H (Same.refl H) trivial Bo⟩
 ·cases e
def Wq:List Bx->Option Bx
 |[.z (.int i)]=>some (.z (.int (if i < 0 then -i else i)))
 |_=>none
theorem adB:nU X (.builtin "abs") Wq:=fB.imp Vv λxs H Q q=>by
 obtain⟨bs,c,rb,e,q⟩:=q;unfold Wq at e;split at e
 ·rename_i i;cases e;obtain⟨v,rfl,r1⟩:=rep1 rb;have:=JG r1;subst this;exact⟨i,rfl,q _ H (Same.refl H) trivial Bo⟩
 ·cases e
def Wr:List Bx->Option Bx
 |[.z (.int i)]=>some (.z (.int i))
 |[.z (.bl k)]=>some (.z (.int (if k then 1 else 0)))
 |_=>none
theorem adC:nU X (.type "int") Wr:=fB.imp SX λxs H Q q=>by
 obtain⟨bs,c,rb,e,q⟩:=q;unfold Wr at e;split at e
 ·rename_i i;cases e;obtain⟨v,rfl,r1⟩:=rep1 rb;have:=JG r1;subst this;exact .inl ⟨i,rfl,q _ H (Same.refl H) trivial Bo⟩
 ·rename_i k;cases e;obtain⟨v,rfl,r1⟩:=rep1 rb;simp only[bf,Rep] at r1;subst r1;exact .inr ⟨k,rfl,q _ H (Same.refl H) trivial Bo⟩
 ·cases e
def jk:List Bx->Option Bx
 |[b]=>(uX b).bind λds=>some (.z (.tup ds))
 |_=>none
theorem mZ:nU X (.type "tuple") jk:=fB.imp Eb λxs H Q q=>by
 obtain⟨bs,c,rb,e,q⟩:=q;unfold jk at e;split at e
 ·obtain⟨ds,ed,e⟩:=bind_some e;cases e;obtain⟨v,rfl,r1⟩:=rep1 rb;obtain⟨p,vs,rfl,sq,rs⟩:=vW r1 ed;refine⟨p,vs,rfl,?_⟩;rcases sq with sq|sq
  ·refine .inl ⟨sq,λl hl=>q _ _ (bG hl) trivial ?_⟩;unfold bf Rep;exact⟨l,vs,rfl,.inl (.inl aQ),rs.kp (.of (bG hl))⟩
  ·refine .inr ⟨sq,q _ H (Same.refl H) trivial ?_⟩;unfold bf Rep;exact⟨p,vs,rfl,sq,rs⟩
 ·cases e
def Gh:List Dt->Option (List Bool)
 |[]=>some []
 |.bl b::ds=>(Gh ds).bind λbs=>some (b::bs)
 |_=>none
theorem Bt {K:FG_} {H:Hp}:∀ {ds:List Dt} {bs:List Bool} {vs:List V} {us:List Value},Gh ds=some bs->aK K H ds vs->Vals vs us->us=bs.map Value.bool
 |[],_,_,_,e,r,w=>by
  cases e;simp only[aK] at r;subst r;cases w;rfl
 |d::ds,_,_,_,e,r,w=>by
  simp only[aK] at r;obtain⟨v,r',rfl,h1,h2⟩:=r;cases d<;>first|(cases e;done)|skip;simp only[Gh] at e;obtain⟨bs,e1,e⟩:=bind_some e;cases e;simp only[Rep] at h1;subst h1;cases w with
  |cons p t=>
   cases p;rw[Bt e1 h2 t];rfl
theorem all_range (bs:List Bool):((List.range bs.length).all λi=>bs.getD i false)=bs.all id:=by
 rw[KU,Z3,Z3];constructor
 ·intro h b hb;obtain⟨i,hi,rfl⟩:=List.mem_iff_getElem.mp hb;have:=h i (by simpa using hi);simpa[List.getD,hi] using this
 ·intro h i hi;have hi:i < bs.length:=by simpa using hi
  have:=h bs[i] (yB hi);simpa[List.getD,hi] using this
def allB:List Bx->Option Bx
 |[b]=>(pB b).bind λds=>(Gh ds).bind λbs=>some (.z (.bl (bs.all id)))
 |_=>none
theorem Kl {prog:Program} {w:World} {A:Around} (bs:List Bool):TruthOf prog w A (λi v=>(bs.map Value.bool).toArray[i]?=some v) λi=>bs.getD i false:=λi v s Q E h q=>by
 have h':(bs.map Value.bool)[i]?=some v:=by simpa using h
 rw[zI] at h';cases e:bs[i]? with
 |none=>rw[e] at h';cases h'
 |some b=>
  rw[e] at h';cases h';have:bs.getD i false=b:=by simp[List.getD,e]
  have q':Q b s:=by rw[<-this];exact q
  exact jv q'
theorem Ol (hc:X.calm=true):nU X (.builtin "all") allB:=by
 intro pins s σ H xs us Q I r h;obtain⟨bs,c,rb,e,q⟩:=h;unfold allB at e;split at e
 ·obtain⟨ds,ed,e⟩:=bind_some e;obtain⟨ks,ek,e⟩:=bind_some e;cases e;obtain⟨v,rfl,r1⟩:=rep1 rb;obtain⟨a,vs,rfl,sq,rs⟩:=r1.FT ed;obtain⟨u,rfl,ru⟩:=vals1 r;cases ru;obtain⟨its,w,pl,hz⟩:=I.list sq;have hv:=Bt ek rs w;have hlt:a < s.heap.objs.size:=by obtain⟨o,n,e,_⟩:=pl;exact zv e
  refine call_all_walk (wpAny_pyIter_list pl.isList ?_);refine⟨s.heap.objs.size,_,_,_,_,_,λi=>ks.getD i false,rfl,Walks.list (by show X.A.handled=none;exact I.ok.hd hc) s.heap.objs.size a (zC hlt) its.toArray,⟨⟨_,zt _ rfl,rfl,rfl⟩,pl.isList.push _⟩,?_,λh' tk k=>?_⟩
  ·rw[hv];exact Kl ks
  ·have hn:its.toArray.size=ks.length:=by rw[hv];simp
   rw[hn,all_range];have I1:L2.Inv X pins σ H { s with heap:=s.heap.push { cls:=.type "list_iterator", data:=.fields #[.ref a,.int 0 0] } }:=I.kept (t':=s.toks) λb o e=>zd _ e;refine⟨.bl _,H,?_,rfl,q _ H (Same.refl H) trivial Ke⟩;obtain⟨f0,f1,f2,f3,f4,f5⟩:=I.Sy (b:=s.heap.objs.size) (H':=H) (zg _) (I.hok.fresh (zg _));exact I1.turned (it:=s.heap.objs.size) (λb o hb e=>k b o (by simpa using hb) e) f0 f1 f3 f4 f5
 ·cases e
end
end P1
end
section
namespace P1
open PySem PySem.Spec PyProof.Rows L2
def gv (i:Nat):Ev->Option Bx:=λρ=>w6 ρ i
def zX (g:Bx->Bx->Option Bx) (fa fb:Ev->Option Bx):Ev->Option Bool:=λρ=>(b2 g fa fb ρ).bind Hx
def tV (f:Ev->Option Bx):Ev->Option Bool:=λρ=>(f ρ).bind ZP
def aJ:Ev->Option (List Bx):=λ_=>some []
def Bu (p:Dt->Bool) (f:Ev->Option Bx):Ev->Option Bx:=b1 (λb=>if lH b=true then none else some (.z (.bl (p (toD b))))) f
def iK:Ev->Option Out:=λρ=>some (.nx ρ)
def jD (f:Ev->Option Bx):Ev->Option Out:=λρ=>(f ρ).bind V7
def setG (i:Nat) (f:Ev->Option Bx):Ev->Option Out:=λρ=>(f ρ).bind λb=>(V8 ρ i b).bind λρ'=>some (.nx ρ')
def Ws (i j:Nat) (fs:Ev->Option (List Bx)):Ev->Option Out:=λρ=>(fs ρ).bind (Z1 i j ρ)
def Km (i:Nat) (f:Ev->Option Bx):Ev->Option Out:=λρ=>(f ρ).bind (Z2 ρ i)
def pI (fi:Ev->Option (List Dt)) (gt:Dt->Ev->Option Ev) (gb:Ev->Option Out):Ev->Option Out:=λρ=>(fi ρ).bind λds=>qd gt gb ds ρ
def itF (f:Ev->Option Bx):Ev->Option (List Dt):=λρ=>(f ρ).bind Z4
def Gi (f:Ev->Option Bx):Ev->Option (List Dt):=λρ=>(f ρ).bind Wi
def JH (fs:Ev->Option (List Bx)):Ev->Option (List Dt):=λρ=>(fs ρ).bind adg
def lF (i:Nat):Dt->Ev->Option Ev:=λd ρ=>some (ρ.set i (some (.z d)))
def rD:Ev->Option Bool:=λ_=>some true
theorem cI {X:Cx}:xG X [] rD:=⟨.inl ⟨rfl,rfl⟩⟩
theorem m7 {X:Cx} {c:Expr} {p:Ev->Option Bool} (h:QB X c p):xG X [c] p:=⟨have h:=h.run;.inr ⟨c,rfl,h⟩⟩
theorem adD {X:Cx} {scope:Scope} {cl:List (Str×Addr)}:Eh X scope cl [] []:=trivial
theorem aah {X:Cx} {scope:Scope} {cl:List (Str×Addr)} {x:Str} {i:Nat} {xs:LS_} {is:List Nat} (n:X.N[i]?=some x) (k:X.env.kindOf x=some .cell\/X.env.kindOf x=some .free)
  (k':(relabel scope X.env).names.lookup x=some .cell\/(relabel scope X.env).names.lookup x=some .free) (c:∃ c,cl.lookup x=some c) (r:Eh X scope cl xs is):Eh X scope cl (x::xs) (i::is):=⟨⟨n,k,k',c⟩,r⟩
theorem mem_of_lookup {names:List (Str×NameKind)} {x:Str} {k:NameKind}:names.lookup x=some k->(x,k)∈names:=kg
theorem adE {X:Cx} {scope:Scope} {cl:List (Str×Addr)} {xs:LS_} {is:List Nat} (clos:closureFor scope X.env=pure cl) (kind:scope.kind=.function) (cell:scope.names.all (λy=>decide (y.2≠.cell)||(cl.lookup y.1).isNone)=true)
  (names:scope.names.all (λy=>decide (y.2=.local->scope.names.lookup y.1=some .local))=true) (sub:SubL X.env.cells cl)
  (has:(relabel scope X.env).names.all (λy=>!(y.2==.cell||y.2==.free)||(cl.lookup y.1).isSome||scope.names.contains (y.1,.cell))=true) (cap:Eh X scope cl xs is):oX X scope cl xs is where
 clos:=clos
 kind:=kind
 cell:=λy hy hc=>by
  have:=List.all_eq_true.mp cell y hy;simp only[hc,ne_eq,not_true_eq_false,kM,Bool.false_or,Option.isNone_iff_eq_none] at this;exact this
 names:=λy hy=>kb (List.all_eq_true.mp names y hy)
 sub:=sub
 has:=λx hx=>by
  have h:∃ k,(relabel scope X.env).names.lookup x=some k/\(k==NameKind.cell||k==NameKind.free)=true:=by
   rcases hx with hx|hx
   ·exact⟨_,hx,rfl⟩
   ·exact⟨_,hx,rfl⟩
  obtain⟨k,e,hk⟩:=h;have:=List.all_eq_true.mp has _ (mem_of_lookup e);simp only[hk,kD,Bool.false_or,Bool.or_eq_true] at this;rcases this with h|h
  ·exact .inr (Option.isSome_iff_exists.mp h)
  ·exact .inl (List.contains_iff_mem.mp h)
 cap:=cap
theorem Ia {k:Nat} {A:Around} (r:fK k A):A.units+100 < cLine:=by have:=r.un;omega
theorem adF {F:List Bx->Option Bx} (h:∀ ns:List Int,ns.length<=63->F [.z (.lst (ns.map .int))]=some (.z (.bl true))) (hl:∀ ns:List Int,ns.length<=63->F [.l (ns.map .int)]=some (.z (.bl true))) (K:FG_) (H:Hp) (a:Addr) (ns:List Int) (hn:ns.length<=63) (_:Only H) (hS:rP K H a (ns.map V.int)) :
  Z8 K 1 F [.ref a] H (λv _=>v=.bl true) λ_ _ _=>False:=by
 have rs:∀ ms:List Int,aK K H (ms.map Dt.int) (ms.map V.int):=λms=>by
  induction ms with
  |nil=>exact aK.nil
  |cons m ms ih=>exact aK.cons (by unfold Rep;rfl) ih
 have fin:∀ v (H':Hp),Same H H'->Nw H (.z (.bl true)) v->bf K H' (.z (.bl true)) v->v=.bl true:=λv H' _ _ r=>by simpa only[bf,Rep] using r
 rcases hS with hS|hS
 ·exact⟨rfl,[.l (ns.map .int)],_,.cons ⟨a,_,rfl,hS,rs ns⟩ .nil,rfl,hl ns hn,fin⟩
 ·refine⟨rfl,[.z (.lst (ns.map .int))],_,.cons ?_ .nil,rfl,h ns hn,fin⟩;unfold bf Rep;exact⟨a,_,rfl,.inr hS,rs ns⟩
theorem ahI {P:Program} {w:World} {K:FG_} {mg:Str->Option Value} {base:Heap} {x qual:Str} {st:Stmt} {f:Addr} {fd:FuncData} {N ps:LS_} {k n m:Nat} {g:Ev->Option Out} (F:yE K x qual st f fd) (S:aY N ps (aF st)) (hn:N.length=n) (hm:ps.length=m)
  (hbody:∀ (cdv:Value) (A:Around) (outer:List Env) (s:Shared) (H:Hp) (E:XK),fK k (A.deeper (envOfC qual (aF st) s.heap.objs.size f cdv))->Vo (qb vM P w K mg base N qual (aF st) f cdv A outer s H E).Ve (dD st) g) :
  iV P w K mg base vM (k+1) f fd ps (Z8 K m (dX n g)):=by
 subst hn hm;exact ahF F S hbody
section
variable {X:Cx} {e st:Expr} {f fs:Ev->Option Bx} {pos p2:Pos}
theorem Ko {pins:List (Addr×Obj)} {σ:L2.St} {H:Hp} {s:Shared} {a:Addr} (I:L2.Inv X pins σ H s) (h:H a=some (.dK [])):∃ o,L2.Inv X pins σ (upd H a (.pY o (.dK []))) s:=by
 have hk:=I.hok a _ h;obtain⟨z1,z2,z3,z4,o,z5,z6,e,ex⟩:=hk;refine⟨o,⟨I.ok,I.os,I.bare,⟨I.base.keep,I.base.slot,λb ob q1 q2 q3=>?_,I.base.there,λb xs q=>?_,λb ob u q=>?_,λb ps q=>?_⟩,I.loc,I.cell,?_,λx c q=>?_,λp hp=>?_,?_,I.len⟩⟩
 ·have:=I.base.free b ob q1 q2 q3;rw[aG (bw h this).symm];exact this
 ·have:=I.base.tups b xs q;rw[aG (iw this h (by intro z;cases z))];exact this
 ·have:=I.base.rB b ob u q;rw[aG (iw this h (by intro z;cases z))];exact this
 ·obtain⟨m,this⟩:=I.base.uR b ps q;rw[aG (iw this h (by intro z;cases z))];exact⟨m,this⟩
 ·rw[aG (bw h I.free).symm];exact I.free
 ·rw[aG (bw h (I.gZ x c q)).symm];exact I.gZ x c q
 ·obtain⟨q1,q2,q3⟩:=I.pin p hp;refine⟨q1,?_,q3⟩;rw[aG (bw h q2).symm];exact q2
 ·intro b u q;by_cases hb:b=a
  ·subst hb;rw[aQ] at q;cases q;exact⟨e,z1,z2,z3,z4,o,z5,z6,e,ex⟩
  ·rw[aG hb] at q;refine(I.hok b u q).stay (λc v _ w=>w) (λc w=>?_) λc xs w=>?_
   ·rw[aG (iw w h (by intro z;cases z))];exact w
   ·rw[aG (iw w h (by intro z;cases z))];exact w
theorem adG  : QV X (.Dict [] [] pos) (cB .emp):=⟨by
 intro pins s σ H Q I q;obtain⟨H0,ρ,b,E,e,q⟩:=q;cases e;refine gF (VG pins s σ H (λv H'=>∃ p,v=.ref p/\H p=none/\H'=upd H p (.dK [])) I λp hp=>⟨p,rfl,hp,rfl⟩) λu s1 hq=>?_;obtain⟨v,H1,I1,rv,p,rfl,hp,rfl⟩:=hq;obtain⟨o,I2⟩:=Ko I1 aQ;refine⟨.ref p,_,I2,rv,q _ _ (λc ob hc=>?_) trivial ?_⟩
 ·rw[aG (bw hc hp),aG (bw hc hp)];exact hc
 ·simp only[bf,Rep];exact⟨p,o,rfl,aQ⟩⟩
section
variable {prog:Program} {w:World} {A:Around} {E:VP_} {s:Shared}
theorem Ib {α β:Type} {f:α->Option β} {g:α->β}:∀ l:List α,(∀ a∈l,f a=some (g a))->l.filterMap f=l.map g
 |[],_=>rfl
 |a::l,h=>by
  rw[kQ,h a (zi ..),zo,Ib l λb hb=>h b (zr _ hb)]
end
end
section
variable {X:Cx} {e:Expr} {f:Ev->Option Bx}
def ltA:Bx->Bx->Option Bx
 |.z (.int i),.z (.int j)=>some (.z (.bl (decide (i < j))))
 |.z (.str x),.z (.str y)=>some (.z (.bl (decide (x.cps.toList < y.cps.toList))))
 |_,_=>none
theorem Wt:Ed X (compareOp .Lt) ltA:=by
 intro pins s σ H x y v u Q I rx ry h;obtain⟨a,b,c,ra,rb,e,q⟩:=h;unfold ltA at e;split at e
 ·rename_i i j;cases e;exact ae6 pins s σ H x y v u Q I rx ry ⟨i,j,JG ra,JG rb,q _ H (Same.refl H) trivial (by unfold bf;exact okT)⟩
 ·rename_i i j;cases e;obtain⟨rfl,_⟩:=Oh ra;obtain⟨rfl,_⟩:=Oh rb;obtain⟨t,rfl⟩:=rx;obtain⟨t',rfl⟩:=ry;exact PySem.P.lt_str ⟨.bl _,H,I,rfl,q _ H (Same.refl H) trivial (by unfold bf;exact okT)⟩
 ·cases e
def Bv:List Dt->Option LS_
 |[]=>some []
 |.str x::r=>(Bv r).bind λys=>some (x::ys)
 |_=>none
theorem xQ {K:FG_} {H:Hp}:∀ {ds:List Dt} {vs:List V} {ys:LS_},aK K H ds vs->Bv ds=some ys->vs=ys.map V.str/\∀ y∈ys,y.length<=sizeLine
 |[],_,_,h,e=>by cases e;simp only[aK] at h;subst h;exact⟨rfl,λy hy=>by cases hy⟩
 |.str x::ds,_,_,h,e=>by
  simp only[Bv] at e;obtain⟨ys,e1,e2⟩:=bind_some e;cases e2;simp only[aK] at h;obtain⟨v,r,rfl,hd,hr⟩:=h;obtain⟨rfl,hx⟩:v=.str x/\x.length<=sizeLine:=by simpa only[Rep] using hd
  obtain⟨rfl,h2⟩:=xQ hr e1;refine⟨rfl,λy hy=>?_⟩;rcases List.mem_cons.mp hy with rfl|hy
  ·exact hx
  ·exact h2 y hy
 |.non::_,_,_,_,e=>by cases e
 |.bl _::_,_,_,_,e=>by cases e
 |.int _::_,_,_,_,e=>by cases e
 |.tup _::_,_,_,_,e=>by cases e
 |.lst _::_,_,_,_,e=>by cases e
 |.emp::_,_,_,_,e=>by cases e
theorem Bw {K:FG_} {H:Hp}:∀ {ys:LS_},(∀ y∈ys,y.length<=sizeLine)->aK K H (ys.map Dt.str) (ys.map V.str)
 |[],_=>aK.nil
 |y::ys,h=>aK.cons (by unfold Rep;exact⟨rfl,h y (zi ..)⟩) (Bw λz hz=>h z (zr _ hz))
theorem uZ:∀ {ys:LS_} {its:List Value},Vals (ys.map V.str) its->StrsAre its ys
 |[],_,h=>by cases h;exact .nil
 |y::ys,_,h=>by
  cases h with
  |cons r t=>
   obtain⟨tk,rfl⟩:=r;exact .cons y tk (uZ t)
theorem xR:∀ {its:List Value} {ys:LS_},StrsAre its ys->Vals (ys.map V.str) its
 |_,_,.nil=>.nil
 |_,_,.cons y t h=>.cons ⟨t,rfl⟩ (xR h)
theorem Ie:fB X (.builtin "sorted") (λxs H Q=>∃ p ys,xs=[.ref p]/\rP X.K H p (ys.map V.str)/\ys.length < 64/\∀ l zs,H l=none->zs.Perm ys->sortedS zs=true->Q (.ref l) (upd H l (.lst (zs.map V.str)))):=by
 intro pins s σ H xs us Q I r h;obtain⟨p,ys,rfl,hq,h64,q⟩:=h;obtain⟨u,rfl,rx⟩:=vals1 r;cases rx;obtain⟨its,r',pl,hz⟩:=I.list hq;have hlen:=r'.length;rw[zh] at hlen hz;refine sorted_strs pl.isList (uZ r') (by omega) λout zs hs hp afH=>?_;obtain⟨n,en⟩:=sortedAll_at s.heap its out;refine⟨.ref (s.heap.objs.size+1),_,I.laid (t':=s.toks) (a:=s.heap.objs.size+1) (o:=.lst (zs.map V.str)) (λb o e=>sortedAll_old e) (kr _) ?_,rfl,q _ zs (I.hok.fresh (kr _)) hp afH⟩;refine⟨by rw[zh,hp.length_eq];exact hz,out.toList,n,xR hs,?_⟩;rw[en]
def rE (a b:Str):Prop:=ltCps b.cps.toList a.cps.toList=false
theorem vY:∀ (p:Str) (l:LS_),risingS p l=true->(p::l).Pairwise rE
 |p,[],_=>by simp
 |p,x::r,h=>by
  have h':(!ltCps x.cps.toList p.cps.toList&&risingS x r)=true:=h;rw[Zz] at h';have ih:=vY x r h'.2;have hx:rE p x:=by simpa[rE] using h'.1
  refine List.pairwise_cons.mpr ⟨λy hy=>?_,ih⟩;rcases List.mem_cons.mp hy with rfl|hy
  ·exact hx
  ·have hxy:rE x y:=JS ih hy;unfold rE at hx hxy ⊢;rw[ltCps_eq] at hx hxy ⊢;simp only[QU] at hx hxy ⊢;exact List.le_trans (α:=Nat) hx hxy
theorem Ig {l:LS_} (h:sortedS l=true):l.Pairwise rE:=by
 cases l with
 |nil=>exact .nil
 |cons p l=>exact vY p l h
theorem BJ {a b:Str} (h:rE a b) (h':rE b a):a=b:=by
 unfold rE at h h';rw[ltCps_eq] at h h';simp only[QU] at h h';have:=List.le_antisymm (as:=a.cps.toList) (bs:=b.cps.toList) h h';cases a;cases b;simp only[Str.mk.injEq];exact Array.toList_inj.mp this
theorem zY:∀ {l l':LS_},l.Perm l'->l.Pairwise rE->l'.Pairwise rE->l=l'
 |[],l',h,_,_=>by rw[List.nil_perm.mp h]
 |a::l,[],h,_,_=>by cases List.perm_nil.mp h
 |a::l,b::l',h,p,p'=>by
  have e:a=b:=by
   have ha:a∈b::l':=h.mem_iff.mp (zi ..);have hb:b∈a::l:=h.mem_iff.mpr (zi ..);rcases List.mem_cons.mp ha with h1|h1
   ·exact h1
   ·rcases List.mem_cons.mp hb with h2|h2
    ·exact h2.symm
    ·exact BJ (JS p h2) (JS p' h1)
  subst e;rw[zY ((List.perm_cons a).mp h) (List.pairwise_cons.mp p).2 (List.pairwise_cons.mp p').2]
def Tz (a b:Str):Bool:=!ltCps b.cps.toList a.cps.toList
def jA (ys:LS_):LS_:=ys.mergeSort Tz
theorem dO (ys:LS_):(jA ys).Perm ys:=K0 ys Tz
theorem qg (ys:LS_):(jA ys).Pairwise rE:=by
 have h:=k9 (le:=Tz) (λa b c h1 h2=>by
  unfold Tz at *
  rw[ltCps_eq] at *
  simp only[qv,QU] at *
  exact List.le_trans (α:=Nat) h1 h2) (λa b=>by
  unfold Tz;rw[ltCps_eq,ltCps_eq];simp only[Bool.or_eq_true,qv,QU];exact List.le_total a.cps.toList b.cps.toList) ys
 exact h.imp λ{a b} hh=>by simpa[Tz,rE] using hh
theorem Wu {ys zs:LS_} (hp:zs.Perm ys) (hs:sortedS zs=true):zs=jA ys:=zY (hp.trans (dO ys).symm) (Ig hs) (qg ys)
def yF:List Bx->Option Bx
 |[b]=>(pB b).bind λds=>(Bv ds).bind λys=>if ys.length < 64 then some (.o ((jA ys).map Dt.str)) else none
 |_=>none
theorem xT:nU X (.builtin "sorted") yF:=fB.imp Ie λxs H Q q=>by
 obtain⟨bs,c,rb,e,q⟩:=q;unfold yF at e;split at e
 ·rename_i b;obtain⟨ds,ed,e⟩:=bind_some e;obtain⟨ys,ey,e⟩:=bind_some e;split at e
  ·rename_i h64;cases e;obtain⟨v,rfl,r1⟩:=rep1 rb;obtain⟨p,vs,rfl,sq,rs⟩:=r1.FT ed;obtain⟨rfl,hy⟩:=xQ rs ey;refine⟨p,ys,rfl,sq,h64,λl zs hl hp hs=>?_⟩;rw[Wu hp hs];refine q _ _ (bG hl) (λa ea=>by cases ea;exact hl) ⟨l,_,rfl,aQ,Bw λy h=>hy y ((dO ys).mem_iff.mp h)⟩
  ·cases e
 ·cases e
def Kq (x:Str) (b:Bx):Option Bx:=(pB b).bind λds=>(Bv ds).bind λys=>if(ys.map (·.length)).sum+ys.length * x.length<=100000 then some (.z (.str (Txt.join x ys))) else none
theorem aai:MtR X "str.join" (λx xs H Q=>∃ y p ys,x=.str y/\xs=[.ref p]/\rP X.K H p (ys.map V.str)/\(ys.map (·.length)).sum+ys.length * y.length<=100000/\Q (.str (Txt.join y ys)) H):=by
 intro pins s σ H x xs v us Q I rx rs h;obtain⟨y,p,ys,rfl,rfl,sq,hb,q⟩:=h;obtain⟨t,rfl⟩:=rx;obtain⟨u,rfl,ru⟩:=vals1 rs;cases ru;obtain⟨its,r',pl,hz⟩:=I.list sq;exact join_list pl.isList (uZ r') (by omega) λt' k=>⟨.str _,H,I.tok _,⟨_,rfl⟩,q⟩
theorem aaj {x:Str} {j:Nat} {p1 apos cpos:Pos} (h:QV X e f) (hx:x.length<=sizeLine:=by decide) (hbase:attributeBase (.Constant (.str x) j p1) "join" X.env (eval (.Constant (.str x) j p1) X.env)=eval (.Constant (.str x) j p1) X.env:=by rfl) (hfew:((backTo cpos (starEach [e] X.env)).all (λx=>!x.1)&&(backToKw cpos (keywordEach [] X.env)).all (λx=>x.1.isSome)&&decide ([e].length+([]:List Keyword).length+(if([]:List Keyword).isEmpty then 0 else 1) < 30))=true:=by rfl) (hline:(apos.endLine==cpos.line)=true:=by rfl) (hs:starEach [e] X.env=(false,eval e X.env)::starEach [] X.env:=by rfl):QV X (.Call (.Attribute (.Constant (.str x) j p1) "join" apos) [e] [] cpos) (b1 (Kq x) f):=⟨have h:=h.run;FW (abO (T := "str") F.plainAttrs_str F.slot_str_join F.type_str_join aai (VP (hx:=hx)) (J4 h QT hs) hbase hfew hline hs rfl) λσ H Q q=>by
  obtain⟨H0,ρ,c,E,e,q⟩:=q;obtain⟨a,ea,e⟩:=bind_some e;refine⟨H0,ρ,_,E,rfl,λv H1 s1 n1 r1=>?_⟩;obtain⟨rfl,hx'⟩:v=.str x/\x.length<=sizeLine:=by simpa only[bf,Rep] using r1
  refine⟨rfl,H0,ρ,[a],E.grow s1,by simp only[aq,ea,ki],λvs H2 s2 r2=>?_⟩;obtain⟨w,rfl,rw1⟩:=rep1 r2;unfold Kq at e;obtain⟨ds,ed,e⟩:=bind_some e;obtain⟨ys,ey,e⟩:=bind_some e;split at e
  ·rename_i hb;cases e;obtain⟨p,ws,rfl,sq,rs⟩:=rw1.FT ed;obtain⟨rfl,hy⟩:=xQ rs ey;refine⟨x,p,ys,rfl,rfl,sq,hb,q _ _ (s1.trans s2) trivial ?_⟩;unfold bf Rep;exact⟨rfl,joinOk_length (joinOk_of (by omega))⟩
  ·cases e⟩
end
section
variable {X:Cx}
def Ej:List Bx->Option Bx
 |[.z (.int a),.z (.int b)]=>some (.z (.int (if b > a then b else a)))
 |_=>none
def Om:List Bx->Option Bx
 |[.z (.int a),.z (.int b)]=>some (.z (.int (if b < a then b else a)))
 |_=>none
theorem Q8 {K:FG_} {H:Hp} {a b:Bx} {vs:List V} (h:pC K H [a,b] vs):∃ v w,vs=[v,w]/\bf K H a v/\bf K H b w:=by
 cases h with
 |cons p t=>
  cases t with
  |cons p' t'=>cases t';exact⟨_,_,rfl,p,p'⟩
theorem xU (hc:X.calm=true):nU X (.builtin "max") Ej:=by
 intro pins s σ H xs us Q I r h;obtain⟨bs,c,rb,e,q⟩:=h;unfold Ej at e;split at e
 ·rename_i a b;cases e;obtain⟨v,w,rfl,r1,r2⟩:=Q8 rb;have hv:=JG r1;have hw:=JG r2;subst hv hw;obtain⟨u,u',rfl,ru,ru'⟩:=Vals.two r;obtain⟨t,rfl⟩:=ru;obtain⟨t',rfl⟩:=ru';refine max_two_ints (I.ok.hd hc) λh' tk kp=>?_;by_cases hb:b > a
  ·rw[zl hb] at q ⊢;exact⟨.int b,H,I.kept kp,⟨_,rfl⟩,q _ H (Same.refl H) trivial Bo⟩
  ·rw[zw hb] at q ⊢;exact⟨.int a,H,I.kept kp,⟨_,rfl⟩,q _ H (Same.refl H) trivial Bo⟩
 ·cases e
theorem Oo (hc:X.calm=true):nU X (.builtin "min") Om:=by
 intro pins s σ H xs us Q I r h;obtain⟨bs,c,rb,e,q⟩:=h;unfold Om at e;split at e
 ·rename_i a b;cases e;obtain⟨v,w,rfl,r1,r2⟩:=Q8 rb;have hv:=JG r1;have hw:=JG r2;subst hv hw;obtain⟨u,u',rfl,ru,ru'⟩:=Vals.two r;obtain⟨t,rfl⟩:=ru;obtain⟨t',rfl⟩:=ru';refine min_two_ints (I.ok.hd hc) λh' tk kp=>?_;by_cases hb:b < a
  ·rw[zl hb] at q ⊢;exact⟨.int b,H,I.kept kp,⟨_,rfl⟩,q _ H (Same.refl H) trivial Bo⟩
  ·rw[zw hb] at q ⊢;exact⟨.int a,H,I.kept kp,⟨_,rfl⟩,q _ H (Same.refl H) trivial Bo⟩
 ·cases e
end
def BK (kvs:List (Key×Dt)) (x:Key):Option Dt:=(kvs.find? λkv=>decide (kv.1=x)).map (·.2)
def Ih (kvs:List (Key×Dt)) (x:Key) (d:Dt):List (Key×Dt):=
 if(kvs.any λkv=>decide (kv.1=x))=true then kvs.map (λkv=>if kv.1=x then(kv.1,d) else kv) else kvs++[(x,d)]
section
variable {K:FG_} {H:Hp}
theorem eZ.nil:eZ K H [] []:=⟨rfl,aK.nil,λp hp=>by cases hp⟩
theorem eZ.inv {p:Key×Dt} {kvs:List (Key×Dt)} {ks:List (Key×V)} (h:eZ K H (p::kvs) ks):∃ v r,ks=(p.1,v)::r/\Rep K H p.2 v/\okK p.1/\eZ K H kvs r:=by
 obtain⟨h1,h2,h3⟩:=h;cases ks with
 |nil=>simp at h1
 |cons q r=>
  simp only[zo,ka] at h1;obtain⟨e,h1⟩:=h1;simp only[zo,aK] at h2;obtain⟨v,r',e2,hv,hr⟩:=h2;simp only[ka] at e2;obtain⟨rfl,rfl⟩:=e2;exact⟨q.2,r,by rw[<-e],hv,h3 p (zi ..),h1,hr,λx hx=>h3 x (zr _ hx)⟩
theorem eZ.cons {p:Key×Dt} {kvs:List (Key×Dt)} {v:V} {r:List (Key×V)} (hv:Rep K H p.2 v) (hp:okK p.1) (h:eZ K H kvs r):eZ K H (p::kvs) ((p.1,v)::r):=
 ⟨by simp[h.1],aK.cons hv h.2.1,λx hx=>by
  rcases List.mem_cons.mp hx with rfl|hx
  ·exact hp
  ·exact h.2.2 x hx⟩
theorem eZ.append {kvs:List (Key×Dt)} {ks:List (Key×V)} {x:Key} {d:Dt} {v:V} (h:eZ K H kvs ks) (hv:Rep K H d v) (hx:okK x):eZ K H (kvs++[(x,d)]) (ks++[(x,v)]):=
 ⟨by simp[h.1],by rw[Q2,Q2];exact aK.append h.2.1 (aK.cons hv aK.nil),λp hp=>by
  rcases List.mem_append.mp hp with hp|hp
  ·exact h.2.2 p hp
  ·cases List.mem_singleton.mp hp;exact hx⟩
theorem eZ.len {kvs:List (Key×Dt)} {ks:List (Key×V)} (h:eZ K H kvs ks):ks.length=kvs.length:=by
 have:=congrArg List.length h.1;simpa using this
theorem eZ.look:∀ {kvs:List (Key×Dt)} {ks:List (Key×V)} {x:Key} {d:Dt},eZ K H kvs ks->BK kvs x=some d->∃ v,Ay ks x=some v/\Rep K H d v
 |[],_,_,_,_,e=>by cases e
 |p::kvs,_,x,d,h,e=>by
  obtain⟨v,r,rfl,hv,hpl,hr⟩:=h.inv;unfold BK at e;by_cases hp:p.1=x
  ·rw[List.find?_cons_of_pos (by simpa using hp)] at e;cases e;exact⟨v,vK (by rw[hp]),hv⟩
  ·rw[List.find?_cons_of_neg (by simpa using hp)] at e;obtain⟨w,e1,e2⟩:=eZ.look hr e;exact⟨w,(vL (by simpa using hp)).trans e1,e2⟩
theorem eZ.any:∀ {kvs:List (Key×Dt)} {ks:List (Key×V)} {x:Key},eZ K H kvs ks->(ks.any λkv=>decide (kv.1=x))=kvs.any λkv=>decide (kv.1=x)
 |[],ks,_,h=>by
  have:=h.len;cases ks with
  |nil=>rfl
  |cons _ _=>simp at this
 |p::kvs,_,x,h=>by
  obtain⟨v,r,rfl,hv,hpl,hr⟩:=h.inv;rw[kc,kc,eZ.any hr]
theorem eZ.Wv:∀ {kvs:List (Key×Dt)} {ks:List (Key×V)} {x:Key} {d:Dt} {v:V},eZ K H kvs ks->Rep K H d v->eZ K H (kvs.map λkv=>if kv.1=x then(kv.1,d) else kv) (ks.map λkv=>if kv.1=x then(kv.1,v) else kv)
 |[],ks,_,_,_,h,_=>by
  have:=h.len;cases ks with
  |nil=>exact eZ.nil
  |cons _ _=>simp at this
 |p::kvs,_,x,d,v,h,hd=>by
  obtain⟨w,r,rfl,hw,hpl,hr⟩:=h.inv;rw[zo,zo];have ih:=eZ.Wv (x:=x) hr hd;by_cases hp:p.1=x
  ·rw[zl hp,zl (by simp[hp])];exact eZ.cons (p:=(p.1,d)) hd hpl ih
  ·rw[zw hp,zw (by simpa using hp)];exact eZ.cons hw hpl ih
theorem eZ.put {kvs:List (Key×Dt)} {ks:List (Key×V)} {x:Key} {d:Dt} {v:V} (h:eZ K H kvs ks) (hv:Rep K H d v) (hx:okK x):eZ K H (Ih kvs x d) (putK ks x v):=by
 unfold Ih putK;rw[h.any];split
 ·exact h.Wv hv
 ·exact h.append hv hx
end
section
variable {X:Cx} {e ek o:Expr} {f fk fo:Ev->Option Bx} {pos pos':Pos}
def kyB:Bx->Option Key
 |.z (.str x)=>some (.inr x)
 |.z (.int i)=>some (.inl i)
 |_=>none
theorem Q9 {K:FG_} {H:Hp} {b:Bx} {k:Key} {v:V} (e:kyB b=some k) (r:bf K H b v):v=kV k/\okK k:=by
 unfold kyB at e;split at e
 ·cases e;simp only[bf,Rep] at r;exact r
 ·cases e;simp only[bf,Rep] at r;exact⟨r,trivial⟩
 ·cases e
def qX:Bx->Bx->Option Bx
 |.n kvs,b=>(kyB b).bind λk=>(BK kvs k).bind λd=>some (.z d)
 |_,_=>none
theorem Oq {a b c:Bx} (h:qX a b=some c):∃ kvs k d,a=.n kvs/\kyB b=some k/\BK kvs k=some d/\c=.z d:=by
 unfold qX at h;split at h
 ·obtain⟨k,ek,h⟩:=bind_some h;obtain⟨d,ed,h⟩:=bind_some h;cases h;exact⟨_,k,d,rfl,ek,ed,rfl⟩
 ·cases h
theorem qj (hu:X.A.units+100 < cLine) (ho:QV X o fo) (hk:QV X ek fk) (hs:ac7 ek:=by intro _ _;rfl):QV X (.Subscript o ek pos) (b2 qX fo fk):=⟨have ho:=ho.run;have hk:=hk.run;FW (ZJ (by omega) ho hk hs) λσ H Q h=>by
 obtain⟨H0,ρ,c,E,e,q⟩:=h;obtain⟨a,ea,e⟩:=bind_some e;obtain⟨b,eb,e⟩:=bind_some e;refine⟨H0,ρ,a,E,ea,λv H1 s1 n1 r1=>⟨H0,ρ,b,E.grow s1,eb,λw H2 s2 n2 r2=>?_⟩⟩;obtain⟨kvs,x,d,rfl,ekx,ed,rfl⟩:=Oq e;obtain⟨p,ks,rfl,rd,rm⟩:=r1.same s2;obtain⟨v',ev,rv⟩:=rm.look ed;obtain⟨rfl,_⟩:=Q9 ekx r2;exact⟨p,v',rfl,.inl ⟨ks,x,rd,rfl,ev.symm⟩,q _ _ (s1.trans s2) trivial rv⟩⟩
def Kr (ρ:Ev) (i:Nat):Bx->Bx->Option Out
 |.z d,b=>(kyB b).bind λx=>match ρ[i]? with
  |some (some (.m kvs w))=>if kvs.length < 1000 then some (.nx (ρ.set i (some (.m (Ih kvs x d) w)))) else none
  |_=>none
 |_,_=>none
def Ww (i:Nat) (f fk:Ev->Option Bx):Ev->Option Out:=λρ=>(f ρ).bind λb=>(fk ρ).bind λk=>Kr ρ i b k
theorem Ot {ρ:Ev} {i:Nat} {b k:Bx} {r:Out} (h:Kr ρ i b k=some r):∃ d y kvs w,b=.z d/\kyB k=some y/\ρ[i]?=some (some (.m kvs w))/\kvs.length < 1000/\r=.nx (ρ.set i (some (.m (Ih kvs y d) w))):=by
 unfold Kr at h;split at h
 ·obtain⟨y,ey,h⟩:=bind_some h;split at h
  ·rename_i hρ;split at h
   ·rename_i hl;cases h;exact⟨_,y,_,_,rfl,ey,hρ,hl,rfl⟩
   ·cases h
  ·cases h
 ·cases h
theorem aak (i:Nat) {x:Str} {p:Pos} (hu:X.A.units+100 < cLine) (he:QV X e f) (hk:QV X ek fk) (hN:X.N[i]?=some x:=by rfl) (hv:Y6 X.env.scope x:=by first|exact kU rfl|exact JP (kU rfl)|exact JP (JP rfl)) (hd:(x==("__debug__" : Str))=false:=by decide) (hcd:(x==("__classdict__" : Str))=false:=by decide) (hs:swapsWith e (some (.Subscript (.Name x p) ek pos')) pos.line X.env=pure false:=by rfl):QW X (.Assign [.Subscript (.Name x p) ek pos'] e pos) (λρ=>(f ρ).bind λb=>(fk ρ).bind λk=>Kr ρ i b k):=⟨have he:=he.run;have hk:=hk.run;Tg (ZK (by omega) (uT (i:=i) hN hv hd hcd) hk he hs) λD σ H h=>by
  obtain⟨H0,ρ,r,E,e,q⟩:=h;obtain⟨b,eb,e⟩:=bind_some e;obtain⟨k,ek,e⟩:=bind_some e;refine⟨H0,ρ,b,E,eb,λv H1 s1 n1 r1=>?_⟩;obtain⟨d,y,kvs,w0,rfl,eky,hρ,hl,rfl⟩:=Ot e;have E1:=E.grow s1;obtain⟨w,e1,a,ks,rfl,ha,rm,tie⟩:=E1.val i _ hρ;refine⟨_,e1,H0,ρ,_,E1,ek,λu H2 s2 n2 r2=>?_⟩;obtain⟨rfl,hyl⟩:=Q9 eky r2;have E2:=E1.grow s2;have ha2:=s2 _ _ ha;have kp:Kp H2 (upd H2 a (.dK (putK ks y v))):=.dk ha2;refine⟨a,_,rfl,VD.k (k:=y) ha2 (by rw[rm.len];exact Nat.lt_trans hl (by decide)),q _ _ ?_⟩;exact E2.afv hρ rfl e1 kp ⟨a,_,rfl,aQ,((rm.kp (.of s2)).put (x:=y) (bf.same s2 r1) hyl).kp kp,tie⟩⟩
end
section
variable {X:Cx} {a b c e:Expr} {es:List Expr} {fa fb fc f:Ev->Option Bx} {fs:Ev->Option (List Bx)} {pos:Pos}
theorem m9 {x:Str} {j} (hx:x.length<=sizeLine:=by decide):QV X (.Constant (.str x) j pos) (cB (.str x)):=⟨P1.VP (hx:=hx)⟩
end
section
variable {X:Cx} {a b c e:Expr} {es:List Expr} {fa fb fc f:Ev->Option Bx} {fs:Ev->Option (List Bx)} {pos:Pos}
variable {p q:Ev->Option Bool} {rest:List Expr}
theorem aj (h1:QV X e f) (h2:Tf X es fs) (hs:starEach (e::es) X.env=(false,eval e X.env)::starEach es X.env:=by rfl):Tf X (e::es) (aq f fs):=⟨P1.J4 (h1:=h1.run) (h2:=h2.run) (hs:=hs)⟩
theorem aC  : Tf X [] (λ_=>some []):=⟨P1.QT ⟩
end
theorem ahJ {P:Program} {w:World} {K:FG_} {mg:Str->Option Value} {base:Heap} {x qual:Str} {st:Stmt} {f:Addr} {fd:FuncData} {N ps:LS_} {k n m:Nat} {g:Ev->Option Out} (F:yE K x qual st f fd) (S:aY N ps (aF st)) (hn:N.length=n) (hm:ps.length=m)
  (hbody:∀ (cdv:Value) (A:Around) (outer:List Env) (s:Shared) (H:Hp) (E:XK),fK k (A.deeper (envOfC qual (aF st) s.heap.objs.size f cdv))->Vf (qb vM P w K mg base N qual (aF st) f cdv A outer s H E).Ve (dD st) g) :
  iV P w K mg base vM (k+1) f fd ps (Z8 K m (dX n g)):=ahI F S hn hm λcdv A outer s H E hr=>(hbody cdv A outer s H E hr).run
section
variable {prog:Program} {w:World} {A:Around} {E:VP_} {s:Shared}
theorem yG:∀ (vs:List Value) (ys:LS_),vs.length=ys.length->(∀ (j:Nat) v,vs[j]?=some v->∃ y t,ys[j]?=some y/\v=.str y t)->StrsAre vs ys
 |[],[],_,_=>.nil
 |v::vs,y::ys,hl,h=>by
  obtain⟨y',t,e,rfl⟩:=h 0 v rfl;cases e;exact .cons y t (yG vs ys (by simpa using hl) λj v hv=>h (j+1) v (by simpa using hv))
theorem Ou {kvs:List (Key×Value)} {ys:LS_} (hk:kvs.map (·.1)=ys.map Sum.inr) {acc:Array Value} (h:ItemsOf (λi v=>∃ k x,kvs[i]?=some (k,x)/\(aX prog w).is k v=true) acc kvs.length):StrsAre acc.toList ys:=by
 have hl:kvs.length=ys.length:=by have:=congrArg List.length hk;simpa using this
 refine yG _ _ (by rw[qc,h.1,hl]) λj v hv=>?_;obtain⟨k,x,e,hi⟩:=h.2 j v (by simpa using hv);have e1:(kvs.map (·.1))[j]?=some k:=by rw[zI,e];rfl
 rw[hk,zI] at e1;cases hy:ys[j]? with
 |none=>rw[hy] at e1;cases e1
 |some y=>
  rw[hy] at e1;cases e1;have hi':je (Sum.inr y) v=true:=hi;rcases bC hi' with⟨i,t,e2,e3⟩|⟨z,t,e2,e3⟩
  ·cases e2
  ·cases e2;exact⟨_,t,rfl,e3⟩
end
section
variable {X:Cx}
def TF:List (Key×Dt)->Option LS_
 |[]=>some []
 |(.inr x,_)::r=>(TF r).bind λys=>some (x::ys)
 |(.inl _,_)::_=>none
theorem uc:∀ {kvs:List (Key×Dt)} {ys:LS_},TF kvs=some ys->kvs.map (·.1)=ys.map Sum.inr
 |[],_,e=>by cases e;rfl
 |(.inr x,_)::r,_,e=>by
  obtain⟨ys,e1,e⟩:=bind_some e;cases e;rw[zo,zo,uc e1]
 |(.inl _,_)::_,_,e=>by cases e
theorem aal {kvs:List (Key×Dt)} {ys:LS_} (e:TF kvs=some ys) (h:∀ p∈kvs,okK p.1) (y:Str) (hy:y∈ys):y.length<=sizeLine:=by
 have:(Sum.inr y:Key)∈kvs.map (·.1):=by rw[uc e];exact List.mem_map.mpr ⟨y,hy,rfl⟩
 obtain⟨p,hp,ep⟩:=List.mem_map.mp this;have:=h p hp;rw[ep] at this;exact this
theorem Ra:∀ {ks:List (Key×V)} {vs:List (Key×Value)},KV ks vs->vs.map (·.1)=ks.map (·.1)
 |_,_,.nil=>rfl
 |_,_,.cons h t=>by rw[zo,zo,Ra t,h.1]
end
theorem bD.afI {K:FG_} {H0 H:Hp} {σ:L2.St} {ρ:Ev} (E:bD K H0 H σ ρ) (i:Nat):bD K H0 H σ (ρ.set i none):=by
 have back:∀ (j:Nat) (b:Bx),(ρ.set i none)[j]?=some (some b)->ρ[j]?=some (some b):=λj b e=>by
  rw[Kt] at e;split at e
  ·split at e<;>cases e
  ·exact e
 refine⟨by rw[JY];exact E.len,λj b e=>E.val j b (back j b e),λj k c a b e1 ec e2 e3 e4 e5=>E.own j k c a b (back _ _ e1) ec e2 (back _ _ e3) e4 e5,E.base,λj c a e1 ec e2=>E.new j c a (back _ _ e1) ec e2⟩
def kill (is:List Nat) (ρ:Ev):Ev:=is.foldl (λρ i=>ρ.set i none) ρ
theorem bD.kill {K:FG_} {H0 H:Hp} {σ:L2.St}:∀ (is:List Nat) {ρ:Ev},bD K H0 H σ ρ->bD K H0 H σ (P1.kill is ρ)
 |[],_,E=>E
 |i::is,_,E=>bD.kill is (E.afI i)
def d7 (is:List Nat):Ev->Option Out:=λρ=>some (.nx (kill is ρ))
theorem Wx {X:Cx} {ss:List Stmt} {g:Ev->Option Out} (is:List Nat) (h:Vo X ss g):Vo X ss (aH g (d7 is)):=ac9 h λD σ H q=>by
 obtain⟨H0,ρ,r,E,e,q⟩:=q;obtain⟨r1,e1,e⟩:=bind_some e;refine⟨H0,ρ,r1,E,e1,?_⟩;cases r1 with
 |nx ρ1=>cases e;exact λσ' H' E'=>q σ' H' (E'.kill is)
 |rt b=>cases e;exact q
 |bk b=>cases e;exact q
 |ct b=>cases e;exact q
theorem bJ {X:Cx} {ss:List Stmt} {g:Ev->Option Out} (is:List Nat) (h:Vf X ss g):Vf X ss (aH g (d7 is)):=⟨Wx is h.run⟩
end P1
end
section
namespace S1
open PySem PySem.Spec PyProof.Rows
section
variable (rk:Value->Nat)
def at_ (xs:Array Keyed) (i:Nat):Nat:=match xs[i]? with
 |some p=>rk p.1
 |none=>0
def Up (xs:Array Keyed) (k:Nat):Prop:=∀ i j,i<=j->j < k->at_ rk xs i<=at_ rk xs j
def Down (xs:Array Keyed) (k:Nat):Prop:=∀ i j,i<=j->j < k->at_ rk xs j<=at_ rk xs i
structure Bs (kd:SortKind) (b:Array Keyed) (st:SortSt):Prop where
 pm:(arrOf st).Perm b
 kd:kindOf st=kd
 fl:failedOf st=none
 pd:pendingOf st=#[]
variable {rk} {kd:SortKind} {b:Array Keyed}
theorem Bs.sz {st:SortSt} (h:Bs kd b st):(arrOf st).size=b.size:=h.pm.size_eq
theorem Bs.arr {st:SortSt} {xs:Array Keyed} (h:Bs kd b st) (hp:xs.Perm (arrOf st)):Bs kd b (PyProof.Rows.setArr st xs):=⟨hp.trans h.pm,h.kd,h.fl,h.pd⟩
theorem sE {xs ys:Array Keyed} {i j:Nat} (h:xs[i]?=ys[j]?):at_ rk xs i=at_ rk ys j:=by unfold at_;rw[h]
theorem Wy {xs:Array Keyed} {p d:Nat} (hs:p < xs.size) (hd:d<=p) (k:Nat):at_ rk (bubble xs p d) k=if k=p - d then at_ rk xs p else if p - d < k/\k<=p then at_ rk xs (k - 1) else at_ rk xs k:=by
 have e:=getElem?_bubble hs d hd k;by_cases q:k=p - d
 ·simp only[zl q] at e ⊢;exact sE e
 ·simp only[zw q] at e ⊢;by_cases q2:p - d < k/\k<=p
  ·simp only[zl q2] at e ⊢;exact sE e
  ·simp only[zw q2] at e ⊢;exact sE e
theorem Ov {xs:Array Keyed} {i j:Nat} (hj:j<=xs.size) (k:Nat):at_ rk (mirror xs i j ((j - i) / 2)) k=if i<=k/\k < j then at_ rk xs (i+j - 1 - k) else at_ rk xs k:=by
 have e:=getElem?_mirror_all (i:=i) hj k;by_cases q:i<=k/\k < j
 ·simp only[zl q] at e ⊢;exact sE e
 ·simp only[zw q] at e ⊢;exact sE e
theorem vZ {xs:Array Keyed} {i j:Nat} (hj:j<=xs.size) (he:∀ k,i<=k->k < j->at_ rk xs k=at_ rk xs (j - 1)) (k:Nat):at_ rk (mirror xs i j ((j - i) / 2)) k=at_ rk xs k:=by
 rw[Ov hj];by_cases q:i<=k/\k < j
 ·rw[zl q,he (i+j - 1 - k) (by omega) (by omega),he k q.1 q.2]
 ·rw[zw q]
end
section
variable {prog:Program} {w:World} {A:Around} {E:VP_} {s:Shared} {b:Array Keyed} {kd:SortKind} {rk:Value->Nat}
def Vg (prog:Program) (w:World) (A:Around) (s:Shared) (kd:SortKind) (rk:Value->Nat) (b:Array Keyed):Prop:=
 ∀ (E:VP_) (p q:Keyed) (Q:Bool->Shared->Prop),p∈b.toList->q∈b.toList->Q (decide (rk p.1 < rk q.1)) s->wpAny (model prog w) A (keyLt' kd p.1 q.1) Q E s
theorem Ku {st:SortSt} {i j:Nat} {Q:Option Bool->SortSt->Prop} (hC:Vg prog w A s kd rk b) (B:Bs kd b st) (hi:i < b.size) (hj:j < b.size)
  (h:Q (some (decide (at_ rk (arrOf st) i < at_ rk (arrOf st) j))) st):wpS (model prog w) A E s (ltAt' i j) Q st:=by
 have get:∀ k,k < b.size->∃ p,(arrOf st)[k]?=some p/\p∈b.toList:=λk hk=>by
  have hk':k < (arrOf st).size:=by rw[B.sz];exact hk
  exact⟨(arrOf st)[k],getElem?_pos _ k hk',(Array.perm_iff_toList_perm.mp B.pm).mem_iff.mp (by simp)⟩
 obtain⟨p,e1,m1⟩:=get i hi;obtain⟨q,e2,m2⟩:=get j hj;have h:Q (some (decide (rk p.1 < rk q.1))) st:=by unfold at_ at h;rw[e1,e2] at h;exact h
 rw[ltAt'_eq];refine wpS_bind (wpS_get ?_);show wpS _ _ _ _ (elem' (arrOf st) i >>= λx=>elem' (arrOf st) j >>= λy=>lt' x y) Q st;rw[elem'_eq,elem'_eq,e1,e2];refine wpS_bind (wpS_pure ?_);refine wpS_bind (wpS_pure ?_);rw[lt'_eq];refine wpS_bind (wpS_get ?_);rw[B.kd];exact wpS_bind (wpS_lift (yn (hC _ p q _ m1 m2 ⟨rfl,wpS_pure h⟩)))
theorem asc {st:SortSt} {a n:Nat} {Q:AscSt->SortSt->Prop} (hC:Vg prog w A s kd rk b) (hn:n<=b.size) (ha:1<=a) (han:a<=n) (B:Bs kd b st) (hs:Up rk (arrOf st) a)
  (h:∀ m,a<=m->m<=n->Up rk (arrOf st) m->(m=n\/at_ rk (arrOf st) m < at_ rk (arrOf st) (m - 1))->Q (none,m) st):wpS (model prog w) A E s (ascLoop a n) Q st:=by
 unfold ascLoop;refine wpS_forRange (I:=λx c t=>t=st/\c=(none,x)/\Up rk (arrOf st) x) ?_ ?_ ⟨rfl,rfl,hs⟩
 ·rintro x c t hax hxn ⟨rfl,rfl,up⟩;refine wpS_bind (Ku hC B (by omega) (by omega) ?_);by_cases q:at_ rk (arrOf t) x < at_ rk (arrOf t) (x - 1)
  ·simp only[q,KI,qq];exact wpS_pure (h x hax (by omega) up (.inr q))
  ·simp only[q,kM,zk,ZH];refine wpS_pure ⟨rfl,rfl,λi j hij hj=>?_⟩;by_cases hx:j < x
   ·exact up i j hij hx
   ·have e:j=x:=by omega
    subst e;by_cases hi:i=j
    ·rw[hi];exact zg _
    ·have:=up i (j - 1) (by omega) (by omega);omega
 ·rintro c t ⟨rfl,rfl,up⟩;rw[show max a n=n by omega] at up ⊢;exact h n han (zg _) up (.inl rfl)
theorem t3 {st:SortSt} {m n:Nat} {Q:Option Nat->SortSt->Prop} (hC:Vg prog w A s kd rk b) (hn:n<=b.size) (h1:1<=m) (hmn:m<=n) (B:Bs kd b st) (hs:Down rk (arrOf st) m)
  (h:∀ k t,Bs kd b t->1<=k->k<=n->Up rk (arrOf t) k->Q (some k) t):wpS (model prog w) A E s (tail3 m n) Q st:=by
 unfold tail3;have hz:m<=(arrOf st).size:=by rw[B.sz];omega
 refine wpS_bind (wpS_reverse ?_);have B':Bs kd b (PyProof.Rows.setArr st (mirror (arrOf st) 0 m ((m - 0) / 2))):=B.arr (mirror_perm _ _ _ _);refine wpS_bind (asc hC hn h1 hmn B' (λi j hij hj=>?_) λk k1 k2 up _=>wpS_pure (h k _ B' (by omega) k2 up));show at_ rk (mirror (arrOf st) 0 m ((m - 0) / 2)) i<=at_ rk (mirror (arrOf st) 0 m ((m - 0) / 2)) j;rw[Ov hz,Ov hz,zl ⟨by omega,by omega⟩,zl ⟨by omega,by omega⟩];exact hs _ _ (by omega) (by omega)
theorem dsc {st:SortSt} {m n:Nat} {Q:DescSt->SortSt->Prop} (hC:Vg prog w A s kd rk b) (hn:n<=b.size) (h1:1<=m) (hmn:m<=n) (B:Bs kd b st) (hs:Down rk (arrOf st) m)
  (h:∀ k e t,Bs kd b t->m<=k->k<=n->Down rk (arrOf t) k->e+1<=k->(∀ i,k - (e+1)<=i->i < k->at_ rk (arrOf t) i=at_ rk (arrOf t) (k - 1))->Q (none,k,e) t):wpS (model prog w) A E s (descLoop m n) Q st:=by
 unfold descLoop;refine wpS_forRange (I:=λx c t=>∃ e,c=(none,x,e)/\Bs kd b t/\Down rk (arrOf t) x/\e+1<=x/\∀ i,x - (e+1)<=i->i < x->at_ rk (arrOf t) i=at_ rk (arrOf t) (x - 1)) ?_ ?_ ⟨0,rfl,B,hs,by omega,λi q1 q2=>by rw[show i=m - 1 by omega]⟩
 ·rintro x c t hax hxn ⟨e,rfl,B',dn,he,eq⟩;have hz:x<=(arrOf t).size:=by rw[B'.sz];omega
  have grow:∀ xs:Array Keyed,(∀ k,at_ rk xs k=at_ rk (arrOf t) k)->at_ rk (arrOf t) x<=at_ rk (arrOf t) (x - 1)->Down rk xs (x+1):=λxs hk hl i j hij hj=>by
   rw[hk,hk];by_cases hx:j < x
   ·exact dn i j hij hx
   ·have ej:j=x:=by omega
    subst ej;by_cases hi:i=j
    ·rw[hi];exact zg _
    ·have:=dn i (j - 1) (by omega) (by omega);omega
  dsimp only;refine wpS_bind (Ku hC B' (by omega) (by omega) ?_);by_cases q:at_ rk (arrOf t) x < at_ rk (arrOf t) (x - 1)
  ·simp only[q,KI,qq];by_cases h0:e > 0
   ·rw[zl h0];exact wpS_bind (wpS_reverse (wpS_pure ⟨0,rfl,B'.arr (mirror_perm _ _ _ _),grow _ (vZ hz eq) (by omega),by omega,λi q1 q2=>by rw[show i=x by omega];rfl⟩))
   ·rw[zw h0];exact wpS_pure ⟨0,rfl,B',grow _ (λ_=>rfl) (by omega),by omega,λi q1 q2=>by rw[show i=x by omega];rfl⟩
  ·simp only[q,kM,zk,ZH];refine wpS_bind (Ku hC B' (by omega) (by omega) ?_);by_cases q2:at_ rk (arrOf t) (x - 1) < at_ rk (arrOf t) x
   ·simp only[q2,KI,qq];exact wpS_pure (h x e t B' hax (by omega) dn he eq)
   ·simp only[q2,kM,zk,ZH];refine wpS_pure ⟨e+1,rfl,B',grow _ (λ_=>rfl) (by omega),by omega,λi q3 q4=>?_⟩;rw[show x+1 - 1=x by omega];by_cases hi:i=x
    ·rw[hi]
    ·rw[eq i (by omega) (by omega)];omega
 ·rintro c t ⟨e,rfl,B',dn,he,eq⟩;rw[show max m n=n by omega] at dn he eq ⊢;exact h n e t B' hmn (zg _) dn he eq
theorem abZ {st:SortSt} {m n:Nat} {Q:Option Nat->SortSt->Prop} (hC:Vg prog w A s kd rk b) (hn:n<=b.size) (hmn:m+1<=n) (B:Bs kd b st) (hs:Down rk (arrOf st) (m+1))
  (h:∀ k t,Bs kd b t->1<=k->k<=n->Up rk (arrOf t) k->Q (some k) t):wpS (model prog w) A E s (descPart m n) Q st:=by
 unfold descPart;refine wpS_bind (wpS_lift (kX ⟨rfl,?_⟩));refine wpS_bind (dsc hC hn (by omega) hmn B hs λk e t B' k1 k2 dn he eq=>?_);have hz:k<=(arrOf t).size:=by rw[B'.sz];omega
 by_cases h0:e > 0
 ·simp only[zl h0];refine wpS_bind (wpS_reverse (t3 hC hn (by omega) k2 (B'.arr (mirror_perm _ _ _ _)) (λi j hij hj=>?_) h));show at_ rk (mirror (arrOf t) _ _ _) j<=at_ rk (mirror (arrOf t) _ _ _) i;rw[vZ hz eq,vZ hz eq];exact dn i j hij hj
 ·simp only[zw h0];exact t3 hC hn (by omega) k2 B' dn h
theorem ahK {st:SortSt} {n:Nat} {Q:Option Nat->SortSt->Prop} (hC:Vg prog w A s kd rk b) (hn:n<=b.size) (h1:1<=n) (B:Bs kd b st)
  (h:∀ k t,Bs kd b t->1<=k->k<=n->Up rk (arrOf t) k->Q (some k) t):wpS (model prog w) A E s (countRun' 0 n) Q st:=by
 rw[countRun0_eq];refine wpS_bind (asc hC hn (zg 1) h1 B (λi j hij hj=>by rw[show i=j by omega];exact zg _) λm m1 m2 up or=>?_);by_cases hm:m=n
 ·simp only[zl (show(m==n)=true by simpa using hm)];exact wpS_pure (h m st B m1 m2 up)
 ·simp only[zw (show ¬ (m==n)=true by simpa using hm)];have lt:=or.resolve_left hm;have hz:m<=(arrOf st).size:=by rw[B.sz];omega
  by_cases g1:m > 1
  ·rw[zl g1];refine wpS_bind (Ku hC B (by omega) (by omega) ?_);by_cases q:at_ rk (arrOf st) 0 < at_ rk (arrOf st) (m - 1)
   ·simp only[q,KI,qq];exact wpS_pure (h m st B m1 m2 up)
   ·simp only[q,kM,zk,ZH];have all:∀ k,0<=k->k < m->at_ rk (arrOf st) k=at_ rk (arrOf st) (m - 1):=λk _ hk=>by
     have a1:=up 0 k (by omega) hk;have a2:=up k (m - 1) (by omega) (by omega);omega
    refine wpS_bind (wpS_reverse (abZ hC hn (by omega) (B.arr (mirror_perm _ _ _ _)) (λi j hij hj=>?_) h));show at_ rk (mirror (arrOf st) _ _ _) j<=at_ rk (mirror (arrOf st) _ _ _) i;rw[vZ hz all,vZ hz all];by_cases hj':j < m
    ·rw[all i (by omega) (by omega),all j (by omega) hj'];exact zg _
    ·have ej:j=m:=by omega
     subst ej;by_cases hi:i=j
     ·rw[hi];exact zg _
     ·rw[all i (by omega) (by omega)];omega
  ·rw[zw g1];have e1:m=1:=by omega
   subst e1;refine abZ hC hn (by omega) B (λi j hij hj=>?_) h;by_cases hi:i=j
   ·rw[hi];exact zg _
   ·rw[show i=0 by omega,show j=1 by omega];exact ja lt
theorem bins {st:SortSt} {n k0:Nat} {Q:Bool->SortSt->Prop} (hC:Vg prog w A s kd rk b) (hn:n<=b.size) (hk0:k0<=n) (B:Bs kd b st) (hs:Up rk (arrOf st) k0)
  (h:∀ t,Bs kd b t->Up rk (arrOf t) n->Q true t):wpS (model prog w) A E s (binarySort' 0 n k0) Q st:=by
 rw[binarySort'_eq];simp only[K2];refine wpS_bind (wpS_mono (wpS_forRange (I:=λk c t=>c=(none,())/\Bs kd b t/\Up rk (arrOf t) (min k n)) (Q:=λc t=>c=(none,())/\Bs kd b t/\Up rk (arrOf t) n) ?_ ?_ ?_) ?_)
 ·rintro k c t hak hkn ⟨rfl,B',up⟩;rw[show min k n=k by omega] at up;have hk:k < b.size:=by omega
  refine wpS_bind (wpS_mono (wpS_forRange (I:=λx c t'=>t'=t/\∃ l r,c=(none,l,r)/\l<=r/\r<=k/\r - l<=k - x/\(∀ i,i < l->at_ rk (arrOf t) i<=at_ rk (arrOf t) k)/\(∀ i,r<=i->i < k->at_ rk (arrOf t) k < at_ rk (arrOf t) i))
   (Q:=λc t'=>t'=t/\∃ l r,c=(none,l,r)/\l<=k/\(∀ i,i < l->at_ rk (arrOf t) i<=at_ rk (arrOf t) k)/\(∀ i,l<=i->i < k->at_ rk (arrOf t) k < at_ rk (arrOf t) i)) ?_ ?_ ?_) ?_)
  ·rintro x c t' _ hx ⟨rfl,l,r,rfl,lr,rk',mm,lo,hi⟩;dsimp only;by_cases ge:l>=r
   ·rw[zl ge];have e:l=r:=by omega
    subst e;exact wpS_pure ⟨rfl,l,l,rfl,rk',lo,hi⟩
   ·rw[zw ge];refine wpS_bind (Ku hC B' hk (by omega) ?_);by_cases q:at_ rk (arrOf t') k < at_ rk (arrOf t') ((l+r) / 2)
    ·simp only[q,KI,qq];refine wpS_pure ⟨rfl,l,(l+r) / 2,rfl,by omega,by omega,by omega,lo,λi q1 q2=>?_⟩;have:=up ((l+r) / 2) i q1 q2;omega
    ·simp only[q,kM,zk,ZH];refine wpS_pure ⟨rfl,(l+r) / 2+1,r,rfl,by omega,by omega,by omega,λi q1=>?_,hi⟩;have:=up i ((l+r) / 2) (by omega) (by omega);omega
  ·rintro c t' ⟨rfl,l,r,rfl,lr,rk',mm,lo,hi⟩;have e:l=r:=by omega
   subst e;exact⟨rfl,l,l,rfl,rk',lo,hi⟩
  ·exact⟨rfl,0,k,rfl,by omega,by omega,by omega,λi hi=>by omega,λi q1 q2=>by omega⟩
  ·rintro c t' ⟨rfl,l,r,rfl,lk,lo,hi⟩;show wpS _ _ _ _ (moveDown' k l >>= λ_=>pure (ForInStep.yield (none,()))) _ _;rw[moveDown'_eq];refine wpS_bind (wpS_modify (wpS_pure ⟨rfl,B'.arr (bubble_perm _ _ _),?_⟩));rw[show min (k+1) n=k+1 by omega];have hz:k < (arrOf t').size:=by rw[B'.sz];exact hk
   intro i j hij hj;show at_ rk (bubble (arrOf t') k (k - l)) i<=at_ rk (bubble (arrOf t') k (k - l)) j;rw[Wy hz (by omega),Wy hz (by omega),show k - (k - l)=l by omega]
   repeat' split
   all_goals first
    |(exfalso;omega)
    |exact zg _
    |exact lo _ (by omega)
    |exact ja (hi _ (by omega) (by omega))
    |exact up _ _ (by omega) (by omega)
 ·rintro c t ⟨hc,B',up⟩;refine⟨hc,B',?_⟩;rwa [show min (max (max k0 1) n) n=n by omega] at up
 ·refine⟨rfl,B,λi j hij hj=>?_⟩;by_cases z:k0=0
  ·rw[show i=j by omega];exact zg _
  ·exact hs i j hij (by omega)
 ·rintro c t ⟨rfl,B',up⟩;exact wpS_pure (h t B' up)
def Dn (kd:SortKind) (rk:Value->Nat) (b:Array Keyed) (st:SortSt):Prop:=(arrOf st).Perm b/\failedOf st=none/\pendingOf st=#[(0,b.size,0)]/\Up rk (arrOf st) b.size
theorem Bs.dn {st:SortSt} (B:Bs kd b st) (up:Up rk (arrOf st) b.size):Dn kd rk b (setPending st ((pendingOf st).push (0,b.size,0))):=⟨B.pm,B.fl,(by show(pendingOf st).push _=_;rw[B.pd];rfl),up⟩
theorem runs {st:SortSt} {Q:Unit->SortSt->Prop} (hC:Vg prog w A s kd rk b) (B:Bs kd b st) (h2:2<=b.size) (h64:b.size < 64)
  (h:∀ t,(arrOf t).Perm b->failedOf t=none->Up rk (arrOf t) b.size->Q () t):wpS (model prog w) A E s sortRuns' Q st:=by
 rw[sortRuns'_eq];refine wpS_bind (wpS_get ?_);have mr:minRun' b.size b.size 0=b.size:=by
  obtain⟨f,hf⟩:∃ f,b.size=f+1:=⟨b.size - 1,by omega⟩;have q:minRun' (f+1) b.size 0=b.size:=(minRun'_succ f b.size 0).trans (zl h64);rwa [<-hf] at q
 simp only[B.sz,mr];have back:∀ {t:SortSt},Bs kd b t->(pendingOf t).back?=none:=λB=>by rw[B.pd];rfl
 refine wpS_bind (wpS_mono (wpS_forRange (I:=λx c t=>(x=0/\c=(none,0)/\Bs kd b t)\/(1<=x/\c=(none,b.size)/\Dn kd rk b t)) (Q:=λc t=>c=(none,b.size)/\Dn kd rk b t) ?_ ?_ (.inl ⟨rfl,rfl,B⟩)) ?_)
 ·rintro x c t _ hx (⟨rfl,rfl,B'⟩|⟨hx1,rfl,D⟩)
  ·dsimp only;rw[zw (by omega)];simp only[Nat.sub_zero,Nat.min_self,K2];refine wpS_bind (ahK hC (zg _) (by omega) B' λm t2 B2 m1 m2 up2=>?_);dsimp only;by_cases lt:m < b.size
   ·rw[zl lt];refine wpS_bind (wpS_lift (kX ⟨rfl,wpS_bind (bins hC (zg _) m2 B2 up2 λt3 B3 up3=>?_)⟩));simp only[kD,zk,ZH];refine wpS_bind (wpS_get ?_);rw[back B3];exact wpS_bind (wpS_modify (wpS_pure (.inr ⟨by omega,rfl,B3.dn up3⟩)))
   ·rw[zw lt];have e:m=b.size:=by omega
    subst e;refine wpS_bind (wpS_get ?_);rw[back B2];exact wpS_bind (wpS_modify (wpS_pure (.inr ⟨by omega,rfl,B2.dn up2⟩)))
  ·dsimp only;rw[zl (zg _)];exact wpS_pure ⟨rfl,D⟩
 ·rintro c t (⟨hx,_,_⟩|⟨_,hc,D⟩)
  ·omega
  ·exact⟨hc,D⟩
 ·rintro c t ⟨rfl,D⟩;dsimp only;refine wpS_bind (wpS_mono (wpS_forRange (I:=λ_ c u=>u=t/\c=(none,())) (Q:=λc u=>u=t/\c=(none,())) ?_ (λ_ _ q=>q) ⟨rfl,rfl⟩) ?_)
  ·rintro x c u _ _ ⟨rfl,rfl⟩;refine wpS_bind (wpS_get ?_);rw[zl (by rw[D.2.2.1];exact zg 1)];exact wpS_pure ⟨rfl,rfl⟩
  ·rintro c u ⟨rfl,rfl⟩;exact wpS_pure (h _ D.1 D.2.1 D.2.2.2)
def Old (a:Addr) (s s':Shared):Prop:=∀ c o,c≠a->s.heap.get? c=some o->s'.heap.get? c=some o
theorem ab0 {a:Addr} {vs:List Value} {n:Nat} {P:Fin->Shared->Prop} (ho:s.heap.get? a=some (seqObj "list" vs.toArray n))
  (hK:2<=vs.length->∀ s',Old a s s'->∀ Q:SortKind->Shared->Prop,Q kd s'->wpAny (model prog w) A (keyKind' vs.toArray) Q E s') (hC:∀ s',Old a s s'->Vg prog w A s' kd rk (pairsOf vs)) (h64:vs.length < 64)
  (h:∀ st:SortSt,(arrOf st).Perm (pairsOf vs)->Up rk (arrOf st) (pairsOf vs).size->P (.done (.ret .none)) { s with heap:=sortedHeap s.heap a vs ((arrOf st).map (·.2)) }) :
  wpAny (model prog w) A (Builtin.«list.sort» ⟨[.ref a],[]⟩) P E s:=by
 rw[list_sort_plain];have ha:=zv ho;refine zb (listItems_at ho rfl (zb (listUpdate_at ho rfl ?_)));obtain⟨e1,g1⟩:∃ e1,(s.heap.update a (Obj.mapSeq λ_=>#[])).get? a=some (seqObj "list" #[] e1):=⟨_,get?_update_seq ho λ_=>#[]⟩;refine zb (seqEpoch_at g1 rfl (zb (wpAny_newTuple (zb (wpAny_newList (qi ?_))))));have z1:(s.heap.update a (Obj.mapSeq λ_=>#[])).objs.size=s.heap.objs.size:=Heap.size_update ..;have keep:∀ c,c < s.heap.objs.size->(((s.heap.update a (Obj.mapSeq λ_=>#[])).push (seqObj "tuple" vs.toArray 0)).push (seqObj "list" #[] 0)).get? c=(s.heap.update a (Obj.mapSeq λ_=>#[])).get? c:=λc hc=>by
  rw[Heap.get?_push_ne _ _ _ (by rw[size_push',z1];exact zC (qr hc)),Heap.get?_push_ne _ _ _ (by rw[z1];exact zC hc)]
 have g6:=(keep a ha).trans g1;have old:Old a s { s with heap:=((s.heap.update a (Obj.mapSeq λ_=>#[])).push (seqObj "tuple" vs.toArray 0)).push (seqObj "list" #[] 0) }:=λc o hc e=>by
  show(((s.heap.update a (Obj.mapSeq λ_=>#[])).push (seqObj "tuple" vs.toArray 0)).push (seqObj "list" #[] 0)).get? c=some o;rw[keep c (zv e),j3 _ _ _ _ hc];exact e
 show wpAny _ _ _ _ _ { s with heap:=((s.heap.update a (Obj.mapSeq λ_=>#[])).push (seqObj "tuple" vs.toArray 0)).push (seqObj "list" #[] 0) };have hz:vs.toArray.size=vs.length:=by simp
 have lz:∀ st:SortSt,(arrOf st).Perm (pairsOf vs)->((arrOf st).map (·.2)).size<=sizeLine+1:=λst hp=>by
  have q:((arrOf st).map (·.2)).size=vs.length:=(Array.size_map ..).trans (hp.size_eq.trans (pairsOf_size _));rw[q,sizeLine_eq];omega
 by_cases h2:vs.toArray.size < 2
 ·simp only[zl h2];refine zb (ze ?_);rw[StateT.run_pure];refine zb (ze (zb (seqEpoch_at g6 rfl (zb (listUpdate_at g6 rfl ?_ (hsz2:=lz (SortSt.mk' general' (pairsOf vs) #[] 7 none) (Array.Perm.refl _)))))));simp only[bne_self_eq_false,zk,ZH];refine ze (h (SortSt.mk' general' (pairsOf vs) #[] 7 none) (Array.Perm.refl _) λi j hij hj=>?_);rw[pairsOf_size] at hj;rw[show i=j by omega];exact zg _
 ·simp only[zw h2];refine zb (hK (by omega) _ old _ ?_);refine zb (ZN (runs (hC _ old) (st:=SortSt.mk' kd (pairsOf vs) #[] 7 none) (Q:=λ_ t=>(arrOf t).Perm (pairsOf vs)/\failedOf t=none/\Up rk (arrOf t) (pairsOf vs).size) ⟨Array.Perm.refl _,rfl,rfl,rfl⟩ (by rw[pairsOf_size];omega) (by rw[pairsOf_size];exact h64) λt q1 q2 q3=>⟨q1,q2,q3⟩) ?_ λ_ _ q=>q);rintro⟨⟨⟩,t⟩ s' ⟨rfl,hp,hf,up⟩;dsimp only;refine zb (seqEpoch_at g6 rfl (zb (listUpdate_at g6 rfl ?_ (hsz2:=lz t hp))));rw[hf];simp only[bne_self_eq_false,zk,ZH];exact ze (h t hp up)
theorem TJ {x:Value} {vs:List Value} {Q:VP_} (adI:∀ (E':VP_) (Q':List Value->Shared->Prop),(∀ h' tk,s.heap.objs.size<=h'.objs.size->(∀ c o,s.heap.get? c=some o->h'.get? c=some o)->Q' vs { s with heap:=h',toks:=tk })->wpAny (model prog w) A.in1 (collect x) Q' E' s)
  (hK:2<=vs.length->∀ (E':VP_) (A':Around) (s':Shared),(∀ c o,s.heap.get? c=some o->s'.heap.get? c=some o)->∀ Q:SortKind->Shared->Prop,Q kd s'->wpAny (model prog w) A' (keyKind' vs.toArray) Q E' s') (hC:∀ (A':Around) (s':Shared),(∀ c o,s.heap.get? c=some o->s'.heap.get? c=some o)->Vg prog w A' s' kd rk (pairsOf vs)) (h64:vs.length < 64)
  (h:∀ (l:Addr) (h':Heap) (tk n:Nat) (st:SortSt),(arrOf st).Perm (pairsOf vs)->Up rk (arrOf st) (pairsOf vs).size->s.heap.objs.size<=l->(∀ c o,s.heap.get? c=some o->h'.get? c=some o)->h'.get? l=some (seqObj "list" ((arrOf st).map (·.2)) n)->Q (.ref l) { s with heap:=h',toks:=tk }) :
  wpAny (model prog w) A (call (.builtin "sorted") [x]) Q E s:=by
 refine Calls.call_function_entry kind_sorted plain_sorted entry_sorted (args_sorted1 _) ?_;unfold Builtin.«sorted»;refine zb (m:=checkCount "sorted" 1 1 _) (ze (zb (adI _ _ λh1 tk hle ext=>zb (wpAny_newList ?_))));have hoL:(h1.push (seqObj "list" vs.toArray 0)).get? h1.objs.size=some (seqObj "list" vs.toArray 0):=zt _ rfl;have old:∀ s':Shared,Old h1.objs.size { s with heap:=h1.push (seqObj "list" vs.toArray 0),toks:=tk } s'->∀ c o,s.heap.get? c=some o->s'.heap.get? c=some o:=λs' q c o e=>
  q c o (zC (zv (ext c o e))) (zd _ (ext c o e))
 refine zb (qi (JJ slot_list_sort ⟨_,hoL,rfl⟩ entry_list_sort (ab0 hoL (λq s' o=>hK q _ _ s' (old s' o)) (λs' o=>hC _ s' (old s' o)) h64 λst q1 q2=>⟨_,rfl,ze ⟨_,rfl,?_⟩⟩) (args_list_sort _)));obtain⟨n,en⟩:=sortedHeap_at (out:=(arrOf st).map (·.2)) hoL;refine h h1.objs.size _ tk n st q1 q2 hle (λc o e=>?_) en;have hb:=zv (ext c o e);rw[sortedHeap_old (zC hb) (by rw[qh];exact qr hb)];exact zd _ (ext c o e)
end
end S1
end
section
namespace S1
open PySem PySem.Spec PyProof.Rows L2
theorem TQ (fb:Bool) (x y:Value):keyLt' (tuples' fb) x y=(do
  let xs <-Builtin.List.listItems x
  let ys <-Builtin.List.listItems y
  for ((p,q),i) in (xs.toList.zip ys.toList).zipIdx do
   if !(<-eqBool p q) then return <-oneLt' (fb&&i==0) p q
  return decide (xs.size < ys.size)):=rfl
def Rb:Key->Key->Bool
 |.inl a,.inl b=>decide (a < b)
 |.inr x,.inr y=>decide (x.cps.toList < y.cps.toList)
 |.inl _,.inr _=>true
 |.inr _,.inl _=>false
def Rc:Key->Key->Bool
 |.inl _,.inl _=>true
 |.inr _,.inr _=>true
 |_,_=>false
def kE:List Key->List Key->Bool
 |[],[]=>false
 |[],_::_=>true
 |_::_,[]=>false
 |x::xs,y::ys=>if x=y then kE xs ys else Rb x y
def Shp:List Key->List Key->Prop
 |x::xs,y::ys=>Rc x y=true/\Shp xs ys
 |_,_=>True
section
variable {prog:Program} {w:World} {A:Around} {E:VP_} {s:Shared}
theorem key_eq {x y:Key} {p q:Value} {Q:Bool->Shared->Prop} (hp:je x p=true) (hq:je y q=true) (h:Q (decide (x=y)) s):wpAny (model prog w) A (eqBool p q) Q E s:=
 (aX prog w).eqBool (a:=x) (b:=y) hp hq h
theorem adJ {fb:Bool} {x y:Key} {p q:Value} {Q:Bool->Shared->Prop} (hs:Rc x y=true) (hp:je x p=true) (hq:je y q=true) (h:Q (Rb x y) s):wpAny (model prog w) A (oneLt' fb p q) Q E s:=by
 rcases bC hp with⟨i,t,rfl,rfl⟩|⟨z,t,rfl,rfl⟩
 ·rcases bC hq with⟨j,u,rfl,rfl⟩|⟨z,u,rfl,rfl⟩
  ·cases fb with
   |true=>exact oneLt_int h
   |false=>
    rw[oneLt'_eq];simp only[zk,ZH];refine zb (show wpAny _ _ (compareOp .Lt (.int i t) (.int j u)) _ _ _ from lt_int ?_);exact jv h
  ·cases hs
 ·rcases bC hq with⟨j,u,rfl,rfl⟩|⟨z',u,rfl,rfl⟩
  ·cases hs
  ·cases fb with
   |true=>exact oneLt_str h
   |false=>
    rw[oneLt'_eq];simp only[zk,ZH];refine zb (show wpAny _ _ (compareOp .Lt (.str z t) (.str z' u)) _ _ _ from PySem.P.lt_str ?_);exact jv h
def Ks (ks:List Key) (its:List Value):Prop:=Paired (λk v=>je k v=true) ks its
def dif:List Key->List Key->Option Bool
 |x::xs,y::ys=>if x=y then dif xs ys else some (Rb x y)
 |_,_=>none
theorem Wz:∀ ks ls:List Key,kE ks ls=match dif ks ls with|some r=>r|none=>decide (ks.length < ls.length)
 |[],[]=>rfl
 |[],_::_=>by simp[kE,dif]
 |_::_,[]=>rfl
 |x::xs,y::ys=>by
  simp only[kE,dif];by_cases e:x=y
  ·rw[zl e,zl e,Wz xs ys];simp only[qS,Nat.add_lt_add_iff_right]
  ·rw[zw e,zw e]
def turn (fb:Bool):(Value×Value)×Nat->Option Bool×Unit->Sem (ForInStep (Option Bool×Unit)):=λx _=>match x with
 |((p,q),i)=>do
  let e <-eqBool p q
  if(!e)=true then do
    let r <-oneLt' (fb&&i==0) p q
    pure (ForInStep.done (some r,()))
   else pure (ForInStep.yield (none,()))
theorem walk (fb:Bool):∀ (ks ls:List Key) (its jts:List Value) (i:Nat) (R:Option Bool×Unit->Shared->Prop),Ks ks its->Ks ls jts->Shp ks ls->R (dif ks ls,()) s->wpAny (model prog w) A (forIn ((its.zip jts).zipIdx i) ((none,()):Option Bool×Unit) (turn fb)) R E s
 |[],_,_,_,_,R,.nil,_,_,h=>ze h
 |_::_,[],_::_,_,_,R,_,.nil,_,h=>ze h
 |x::xs,y::ys,p::its,q::jts,i,R,.cons hp hk,.cons hq hl,hs,h=>by
  rw[List.zip_cons_cons,List.zipIdx_cons,List.forIn_cons];refine zb ?_;show wpAny _ _ (eqBool p q >>= _) _ _ _;refine zb (key_eq hp hq ?_);by_cases e:x=y
  ·simp only[e,KI,kD,zk,ZH];refine ze (walk fb xs ys its jts (i+1) R hk hl hs.2 ?_);simp only[dif,zl e] at h;exact h
  ·simp only[e,kM,Ki,qq];refine zb (adJ hs.1 hp hq (ze (ze ?_)));simp only[dif,zw e] at h;exact h
theorem adK {fb:Bool} {a c:Addr} {oa oc:Obj} {its jts:List Value} {n m:Nat} {ks ls:List Key} {Q:Bool->Shared->Prop} (ha:s.heap.get? a=some oa) (da:oa.data=.seq its.toArray n) (hc:s.heap.get? c=some oc) (dc:oc.data=.seq jts.toArray m)
  (hk:Ks ks its) (hl:Ks ls jts) (hs:Shp ks ls) (h:Q (kE ks ls) s):wpAny (model prog w) A (keyLt' (tuples' fb) (.ref a) (.ref c)) Q E s:=by
 rw[TQ];refine zb (listItems_at ha da (zb (listItems_at hc dc ?_)));have hl1:its.length=ks.length:=(Paired.length hk).symm;have hl2:jts.length=ls.length:=(Paired.length hl).symm;refine zb (walk fb ks ls its jts 0 _ hk hl hs ?_);rw[Wz] at h;cases e:dif ks ls with
 |some r=>rw[e] at h;exact ze h
 |none=>
  rw[e] at h;refine ze ?_;simpa[hl1,hl2] using h
end
theorem aan (x:Key):Rb x x=false:=by
 cases x with
 |inl a=>simp[Rb]
 |inr a=>simp[Rb]
theorem TV {x y z:Key} (h:Rb x y=true) (h':Rb y z=true):Rb x z=true:=by
 cases x<;>cases y<;>cases z<;>simp only[Rb,ZU,zk,reduceCtorEq] at h h' ⊢
 ·omega
 ·exact List.lt_trans h h'
theorem aao {x y:Key} (h:Rb x y=false) (h':Rb y x=false):x=y:=by
 cases x<;>cases y<;>simp only[Rb,QU,Bool.true_eq_false,reduceCtorEq] at h h'
 ·congr 1;omega
 ·rename_i a b;have:=List.le_antisymm (as:=a.cps.toList) (bs:=b.cps.toList) h' h;cases a;cases b;simp only at this;rw[Array.toList_inj.mp this]
theorem BL:∀ xs:List Key,kE xs xs=false
 |[]=>rfl
 |x::xs=>by simp only[kE,qq];exact BL xs
theorem ni:∀ {xs ys zs:List Key},kE xs ys=true->kE ys zs=true->kE xs zs=true
 |[],[],_,h,_=>by cases h
 |[],_::_,[],_,h'=>by cases h'
 |[],_::_,_::_,_,_=>rfl
 |_::_,[],_,h,_=>by cases h
 |_::_,_::_,[],_,h'=>by cases h'
 |x::xs,y::ys,z::zs,h,h'=>by
  simp only[kE] at h h' ⊢;by_cases e1:x=y
  ·subst e1;rw[zl rfl] at h;by_cases e2:x=z
   ·subst e2;rw[zl rfl] at h' ⊢;exact ni h h'
   ·rw[zw e2] at h' ⊢;exact h'
  ·rw[zw e1] at h;by_cases e2:y=z
   ·subst e2;rw[zw e1];exact h
   ·rw[zw e2] at h';have:=TV h h';rw[zw (λe=>by subst e;rw[aan] at this;cases this)];exact this
theorem wg:∀ {xs ys:List Key},kE xs ys=false->kE ys xs=false->xs=ys
 |[],[],_,_=>rfl
 |[],_::_,h,_=>by cases h
 |_::_,[],_,h'=>by cases h'
 |x::xs,y::ys,h,h'=>by
  simp only[kE] at h h';by_cases e:x=y
  ·subst e;rw[zl rfl] at h h';rw[wg h h']
  ·rw[zw e] at h;rw[zw (js e)] at h';exact absurd (aao h h') e
def sI (xs ys:List Key):Bool:=!kE ys xs
theorem u0 (a b c:List Key) (h:sI a b=true) (h':sI b c=true):sI a c=true:=by
 unfold sI at *
 simp only[qv] at *
 cases hc:kE c a with
 |false=>rfl
 |true=>
  cases hab:kE a b with
  |true=>rw[ni hc hab] at h';cases h'
  |false=>
   have e:=wg hab h;subst e;rw[hc] at h';cases h'
theorem u5 (a b:List Key):(sI a b||sI b a)=true:=by
 unfold sI;cases h:kE b a with
 |false=>rfl
 |true=>
  cases h':kE a b with
  |false=>rfl
  |true=>have:=ni h h';rw[BL] at this;cases this
theorem Gj {a b:List Key} (h:sI a b=true) (h':sI b a=true):a=b:=by
 unfold sI at *
 simp only[qv] at *
 exact wg h' h
theorem sJ {α:Type} {le:α->α->Prop} (anti:∀ a b,le a b->le b a->a=b):∀ {l l':List α},l.Perm l'->l.Pairwise le->l'.Pairwise le->l=l'
 |[],l',h,_,_=>by rw[List.nil_perm.mp h]
 |a::l,[],h,_,_=>by cases List.perm_nil.mp h
 |a::l,b::l',h,p,p'=>by
  have e:a=b:=by
   have ha:a∈b::l':=h.mem_iff.mp (zi ..);have hb:b∈a::l:=h.mem_iff.mpr (zi ..);rcases List.mem_cons.mp ha with h1|h1
   ·exact h1
   ·rcases List.mem_cons.mp hb with h2|h2
    ·exact h2.symm
    ·exact anti a b (JS p h2) (JS p' h1)
  subst e;rw[sJ anti ((List.perm_cons a).mp h) (List.pairwise_cons.mp p).2 (List.pairwise_cons.mp p').2]
def jl (bU:List (List Key)):List (List Key):=bU.mergeSort sI
theorem jZ (bU:List (List Key)):(jl bU).Perm bU:=K0 ..
theorem sO (bU:List (List Key)):(jl bU).Pairwise (λa b=>sI a b=true):=k9 u0 u5 bU
theorem pJ {bU out:List (List Key)} (hp:out.Perm bU) (hs:out.Pairwise (λa b=>sI a b=true)):out=jl bU:=sJ (λ_ _=>Gj) (hp.trans (jZ bU).symm) hs (sO bU)
def rank (bU:List (List Key)) (k:List Key):Nat:=bU.countP λu=>kE u k
theorem Gk {α:Type} {p q:α->Bool}:∀ {l:List α},(∀ x∈l,p x=true->q x=true)->(∃ x∈l,p x=false/\q x=true)->l.countP p < l.countP q
 |[],_,⟨x,hx,_⟩=>by cases hx
 |a::l,h,⟨x,hx,h1,h2⟩=>by
  have le:l.countP p<=l.countP q:=List.countP_mono_left λy hy=>h y (zr _ hy);rw[List.countP_cons,List.countP_cons];rcases List.mem_cons.mp hx with rfl|hx
  ·rw[h1,h2];simp;omega
  ·have:=Gk (λy hy=>h y (zr _ hy)) ⟨x,hx,h1,h2⟩;have ha:=h a (zi ..);cases hp:p a with
   |true=>rw[ha hp];simp;omega
   |false=>simp;omega
theorem Rf {bU:List (List Key)} {a b:List Key} (ha:a∈bU):decide (rank bU a < rank bU b)=kE a b:=by
 cases h:kE a b with
 |true=>
  refine QN (Gk (λu _ hu=>ni hu h) ⟨a,ha,BL a,h⟩)
 |false=>
  refine qa (Nat.not_lt.mpr (List.countP_mono_left λu _ hu=>?_));cases hb:kE b a with
  |true=>exact ni hu hb
  |false=>rw[wg h hb];exact hu
def iB (h:Heap) (ks:List Key) (v:Value):Prop:=∃ (a:Addr) (o:Obj) (its:List Value) (n:Nat),v=.ref a/\h.get? a=some o/\o.cls=.type "tuple" ∧ o.data=.seq its.toArray n/\Ks ks its
theorem iB.keep {h h':Heap} {ks:List Key} {v:Value} (q:iB h ks v) (k:∀ c o,h.get? c=some o->h'.get? c=some o):iB h' ks v:=by
 obtain⟨a,o,its,n,e,g,c,d,p⟩:=q;exact⟨a,o,its,n,e,k _ _ g,c,d,p⟩
theorem aap {k l:Key} {v:Value} (h:je k v=true) (h':je l v=true):k=l:=by
 rcases bC h with⟨i,t,rfl,rfl⟩|⟨x,t,rfl,rfl⟩
 ·rcases bC h' with⟨j,u,rfl,e⟩|⟨y,u,rfl,e⟩
  ·cases e;rfl
  ·cases e
 ·rcases bC h' with⟨j,u,rfl,e⟩|⟨y,u,rfl,e⟩
  ·cases e
  ·cases e;rfl
theorem Ks.inj:∀ {ks ls:List Key} {its:List Value},Ks ks its->Ks ls its->ks=ls
 |_,_,[],h,h'=>by cases h;cases h';rfl
 |_,_,v::its,h,h'=>by
  cases h with
  |cons p t=>cases h' with
   |cons p' t'=>rw[aap p p',Ks.inj t t']
theorem iB.inj {h:Heap} {ks ls:List Key} {v:Value} (q:iB h ks v) (q':iB h ls v):ks=ls:=by
 obtain⟨a,o,its,n,rfl,g,c,d,p⟩:=q;obtain⟨a',o',its',n',e,g',c',d',p'⟩:=q';cases e;rw[g] at g';cases g';rw[d] at d';injection d' with e1 e2;have e3:its=its':=by simpa using congrArg Array.toList e1
 subst e3;exact p.inj p'
section
variable {prog:Program} {w:World} {A:Around} {E:VP_} {s:Shared}
theorem Ii {α β:Type} {f:α->Sem β}:∀ (xs:List α) (ys:List β) (Q:List β->Shared->Prop),Paired (λx y=>∀ (E':VP_) (Q':β->Shared->Prop),Q' y s->wpAny (model prog w) A (f x) Q' E' s) xs ys->Q ys s->wpAny (model prog w) A (xs.mapM f) Q E s
 |[],_,Q,.nil,h=>by rw[List.mapM_nil];exact ze h
 |x::xs,y::ys,Q,.cons h t,q=>by
  rw[List.mapM_cons];exact zb (h _ _ (zb (Ii xs ys _ t (ze q))))
theorem WD (v:Value):firstOfTuple' v=(do
  if(<-typeOf v) != .type "tuple" then return none
  return (<-Builtin.List.listItems v)[0]?):=rfl
theorem TX {k:Key} {ks:List Key} {v:Value} (q:iB s.heap (k::ks) v):∃ u,je k u=true/\∀ (E':VP_) (Q':Option Value->Shared->Prop),Q' (some u) s->wpAny (model prog w) A (firstOfTuple' v) Q' E' s:=by
 obtain⟨a,o,its,n,rfl,g,c,d,p⟩:=q;cases p with
 |@cons _ u _ its hp t=>
  refine⟨u,hp,λE' Q' h=>?_⟩;rw[WD];refine zb (QE (T := "tuple") ⟨o,g,c⟩ ?_);rw[zw (by decide)];exact zb (listItems_at g d (ze h))
theorem WK {k:Key} {u:Value} (h:je k u=true) (E':VP_) (Q':VP_) (q:Q' (.type (if k.isLeft then "int" else "str")) s):wpAny (model prog w) A (typeOf u) Q' E' s:=by
 rcases bC h with⟨i,t,rfl,rfl⟩|⟨x,t,rfl,rfl⟩
 ·exact QE (typeIs_int s i t) q
 ·exact QE (typeIs_str s x t) q
theorem Gm {vs:List Value} {bU:List (List Key)} {Q:SortKind->Shared->Prop} (hv:Paired (iB s.heap) bU vs) (hne:∀ k∈bU,k≠[]) (hsh:∀ k∈bU,∀ l∈bU,Shp k l) (h2:1<=vs.length) (h:Q (tuples' true) s):wpAny (model prog w) A (keyKind' vs.toArray) Q E s:=by
 have step:∀ (bU:List (List Key)) (vs:List Value),Paired (iB s.heap) bU vs->(∀ k∈bU,k≠[])->∃ us:List Value,Paired (λv u=>∀ (E':VP_) (Q':Option Value->Shared->Prop),Q' (some u) s->wpAny (model prog w) A (firstOfTuple' v) Q' E' s) vs us/\Paired (λ(k:List Key) u=>∃ x r,k=x::r/\je x u=true) bU us:=by
  intro bU vs hv
  induction hv with
  |nil=>intro _;exact⟨[],.nil,.nil⟩
  |@cons k v bU vs q t ih=>
   intro hne;obtain⟨us,p1,p2⟩:=ih λk hk=>hne k (zr _ hk);cases k with
   |nil=>exact absurd rfl (hne _ (zi ..))
   |cons x r=>
    obtain⟨u,hu,hw⟩:=TX (prog:=prog) (w:=w) (A:=A) q;exact⟨u::us,.cons hw p1,.cons ⟨x,r,rfl,hu⟩ p2⟩
 obtain⟨us,p1,p2⟩:=step bU vs hv hne;have hlen:us.length=vs.length:=(Paired.length p1).symm;have lift:∀ {l:List Value} {ws:List Value},Paired (λv u=>∀ (E':VP_) (Q':Option Value->Shared->Prop),Q' (some u) s->wpAny (model prog w) A (firstOfTuple' v) Q' E' s) l ws->Paired (λv u=>∀ (E':VP_) (Q':Option Value->Shared->Prop),Q' u s->wpAny (model prog w) A (firstOfTuple' v) Q' E' s) l (ws.map some):=λh=>by
  induction h with
  |nil=>exact .nil
  |cons q t ih=>exact .cons q ih
 rw[keyKind'_eq,List.mapM_toArray,map_eq_pure_bind];refine zb (zb (Ii vs (us.map some) _ (lift p1) (ze ?_)));have hall:(us.map some).toArray.all (·.isSome)=true:=by simp
 rw[zl hall];refine zb (kX ?_);have hf:(us.map some).toArray.filterMap id=us.toArray:=by simp
 rw[hf,oneTypeOnly'_eq,List.mapM_toArray,map_eq_pure_bind];have ty:∀ (bU:List (List Key)) (us:List Value),Paired (λ(k:List Key) u=>∃ x r,k=x::r/\je x u=true) bU us->∃ ts:List Value,Paired (λu t=>∀ (E':VP_) (Q':VP_),Q' t s->wpAny (model prog w) A (typeOf u) Q' E' s) us ts/\Paired (λ(k:List Key) t=>∃ x r,k=x::r/\t=.type (if x.isLeft then "int" else "str")) bU ts:=by
  intro bU us hp
  induction hp with
  |nil=>exact⟨[],.nil,.nil⟩
  |@cons k u bU us q t ih=>
   obtain⟨ts,q1,q2⟩:=ih;obtain⟨x,r,rfl,hx⟩:=q;exact⟨_::ts,.cons (λE' Q' h=>WK hx E' Q' h) q1,.cons ⟨x,r,rfl,rfl⟩ q2⟩
 obtain⟨ts,q1,q2⟩:=ty bU us p2;refine zb (zb (zb (Ii us ts _ q1 (ze ?_))));have lt:ts.length=vs.length:=by rw[<-Paired.length q1,hlen]
 cases q2 with
 |nil=>simp at lt;omega
 |@cons k0 t0 ajV ts' h0 r0=>
  obtain⟨x0,r,rfl,rfl⟩:=h0;have same:∀ t∈ts',t=Value.type (if x0.isLeft then "int" else "str"):=by
   have aux:∀ (bU:List (List Key)) (ts:List Value),Paired (λ(k:List Key) t=>∃ x r,k=x::r/\t=Value.type (if x.isLeft then "int" else "str")) bU ts->(∀ k∈bU,Shp (x0::r) k)->∀ t∈ts,t=Value.type (if x0.isLeft then "int" else "str"):=by
    intro bU ts hp
    induction hp with
    |nil=>intro _ t ht;cases ht
    |@cons k t bU ts q _ ih=>
     intro hs u hu;rcases List.mem_cons.mp hu with rfl|hu
     ·obtain⟨x,r',rfl,rfl⟩:=q;have:=(hs _ (zi ..)).1;cases x0<;>cases x<;>first|rfl|cases this
     ·exact ih (λk hk=>hs k (zr _ hk)) u hu
   exact aux _ _ r0 λk hk=>hsh _ (zi ..) k (zr _ hk)
  have e0:(Value.type (if x0.isLeft then "int" else "str")::ts').toArray[0]?=some (Value.type (if x0.isLeft then "int" else "str")):=by simp
  have e1:((Value.type (if x0.isLeft then "int" else "str")::ts').toArray.all λx=>x==Value.type (if x0.isLeft then "int" else "str"))=true:=by
   simp only[List.all_toArray,Z3];intro t ht;rcases List.mem_cons.mp ht with rfl|ht
   ·simp
   ·rw[same t ht];simp
  rw[e0];simp only[e1,qq];refine ze (ze ?_);have e2:((some (Value.type (if x0.isLeft then "int" else "str"))).any λx=>x != Value.type "tuple")=true:=by
   cases x0 with
   |inl _=>exact(by decide:((some (Value.type "int")).any λx=>x != Value.type "tuple")=true)
   |inr _=>exact(by decide:((some (Value.type "str")).any λx=>x != Value.type "tuple")=true)
  rw[e2];exact h
def keyOf (bU:List (List Key)) (vs:List Value) (v:Value):List Key:=match (vs.zip bU).find? (λp=>p.1==v) with
 |some p=>p.2
 |none=>[]
theorem jE {h:Heap}:∀ {bU:List (List Key)} {vs:List Value},Paired (iB h) bU vs->∀ v∈vs,keyOf bU vs v∈bU/\iB h (keyOf bU vs v) v
 |_,_,.nil,v,hv=>by cases hv
 |k::bU,u::vs,.cons q t,v,hv=>by
  unfold keyOf;rw[List.zip_cons_cons,Q3];by_cases e:u=v
  ·subst e;simp only[beq_self_eq_true];exact⟨zi ..,q⟩
  ·have e':(u==v)=false:=by simpa using e
   simp only[e'];have hv':v∈vs:=by
    rcases List.mem_cons.mp hv with h|h
    ·exact absurd h.symm e
    ·exact h
   have ih:=jE t v hv';exact⟨zr _ ih.1,ih.2⟩
theorem yH {h:Heap}:∀ {bU:List (List Key)} {vs:List Value},Paired (iB h) bU vs->∀ (K:Value->List Key),(∀ v∈vs,iB h (K v) v)->vs.map K=bU
 |_,_,.nil,_,_=>rfl
 |k::bU,v::vs,.cons q t,K,hK=>by
  rw[zo,(hK v (zi ..)).inj q,yH t K λu hu=>hK u (zr _ hu)]
theorem u6 {h:Heap}:∀ {vs:List Value} {K:Value->List Key},(∀ v∈vs,iB h (K v) v)->Paired (iB h) (vs.map K) vs
 |[],_,_=>.nil
 |v::vs,K,hK=>.cons (hK v (zi ..)) (u6 λu hu=>hK u (zr _ hu))
theorem Kv {vs:List Value} {bU:List (List Key)} (hv:Paired (iB s.heap) bU vs) (hsh:∀ k∈bU,∀ l∈bU,Shp k l):Vg prog w A s (tuples' true) (λv=>rank bU (keyOf bU vs v)) (pairsOf vs):=by
 intro E p q Q hp hq h;rw[pairsOf_toList] at hp hq;obtain⟨m1,t1⟩:=jE hv p.1 (mem_zip_self hp).2;obtain⟨m2,t2⟩:=jE hv q.1 (mem_zip_self hq).2;rw[Rf m1] at h;have sh:=hsh _ m1 _ m2;obtain⟨a,o,its,n,e,g,c,d,k⟩:=t1;obtain⟨a',o',its',n',e',g',c',d',k'⟩:=t2;rw[e,e'];exact adK g d g' d' k k' sh h
theorem Kw {h:Heap} {vs:List Value} {bU:List (List Key)} (hv:Paired (iB h) bU vs) {xs:Array Keyed} (hp:xs.Perm (pairsOf vs)) (up:Up (λv=>rank bU (keyOf bU vs v)) xs (pairsOf vs).size):Paired (iB h) (jl bU) (xs.map (·.2)).toList:=by
 have hl:xs.toList.Perm (vs.zip vs):=by rw[<-pairsOf_toList];exact Array.perm_iff_toList_perm.mp hp
 have hm:∀ p∈xs.toList,p.1=p.2/\p.1∈vs:=λp q=>mem_zip_self (hl.mem_iff.mp q);have e:(xs.map (·.2)).toList=xs.toList.map (·.1):=by
  rw[Array.toList_map];exact j0 λp q=>(hm p q).1.symm
 have pv:(xs.toList.map (·.1)).Perm vs:=by
  have:=hl.map Prod.fst;rwa [List.map_fst_zip (zg _)] at this
 have key:jl bU=(xs.toList.map (·.1)).map (keyOf bU vs):=by
  refine(pJ ?_ ?_).symm
  ·have:=pv.map (keyOf bU vs);rwa [yH hv _ λv q=>(jE hv v q).2] at this
  ·rw[List.pairwise_iff_getElem];intro i j hi hj hij;have hi':i < xs.size:=by simpa using hi
   have hj':j < xs.size:=by simpa using hj
   have u:=up i j (ja hij) (by rw[<-hp.size_eq];exact hj');unfold at_ at u;rw[getElem?_pos xs i hi',getElem?_pos xs j hj'] at u;have m2:=(jE hv xs[j].1 (hm xs[j] (by simp)).2).1;simp only[List.getElem_map,Array.getElem_toList];unfold sI;rw[<-Rf m2,qa (Nat.not_lt.mpr u)];rfl
 rw[key,e];refine u6 λv q=>(jE hv v ?_).2;exact pv.mem_iff.mp q
end
end S1
end
section
namespace P1
open PySem PySem.Spec PyProof.Rows L2 S1
section
variable {prog:Program} {w:World} {A:Around} {E:VP_} {s:Shared}
theorem Ox {l:Addr} {o:Obj} {T:String} {vs:List Value} {n:Nat} {Q:List Value->Shared->Prop} (ho:s.heap.get? l=some o) (hc:o.cls=.type T) (hT:T = "list" ∨ T = "tuple") (hd:o.data=.seq vs.toArray n) (hz:vs.length<=sizeLine)
  (h:∀ h' tk,s.heap.objs.size<=h'.objs.size->(∀ c o,s.heap.get? c=some o->h'.get? c=some o)->Q vs { s with heap:=h',toks:=tk }):wpAny (model prog w) A (collect (.ref l)) Q E s:=by
 unfold collect;refine zb (wpAny_runValue (jI entry_proto_collect' ?_));show wpAny _ _ (newList [] >>= λq=>again (.builtin "list.__iadd__" ⟨[q,.ref l],[]⟩)) _ _ s;refine zb (wpAny_newList (ze ⟨Code.quiet_builtin _ (by decide +kernel),jI entry_list_iadd' ?_⟩));show wpAny _ _ (Builtin.List.listExtendWith (.ref s.heap.objs.size) (.ref l) (.ref s.heap.objs.size)) _ _ _;unfold Builtin.List.listExtendWith;have g1:(s.heap.push (seqObj "list" #[] 0)).get? l=some o:=zd _ ho;refine zb (QE (T:=T) ⟨o,g1,hc⟩ ?_);have ht:(Value.type T==Value.type "list" || Value.type T==Value.type "tuple")=true:=by rcases hT with rfl|rfl<;>decide
 rw[zl (by rw[Bool.or_assoc,ht];simp)];refine zb (listItems_at g1 hd (zb (listItems_at (xs:=#[]) (n:=0) (zt _ rfl) rfl ?_)));rw[zw (by simp)];have g2:(s.heap.push (seqObj "list" #[] 0)).get? s.heap.objs.size=some (seqObj "list" #[] 0):=zt _ rfl;refine zb (listUpdate_at (xs:=#[]) (n:=0) g2 rfl (ze ?_) (QP _) (by show(#[]++vs.toArray).size<=sizeLine+1;simp only[Kx,zz,List.length_nil];omega));show wpAny (model prog w) A (load s.heap.objs.size >>= _) Q E _;refine zb (KF (get?_update_seq g2 _) ?_);show wpAny _ _ (pure ((#[]:Array Value)++vs.toArray).toList) Q E _;rw[show((#[]:Array Value)++vs.toArray).toList=vs by simp];refine ze (h _ s.toks ?_ λc oc e=>?_)
 ·rw[Heap.size_update,size_push'];exact kr _
 ·rw[j3 _ _ _ _ (zC (zv e))];exact zd _ e
end
def aaq:Dt->Option Key
 |.int i=>some (.inl i)
 |.str x=>some (.inr x)
 |_=>none
def yI:List Dt->Option (List Key)
 |[]=>some []
 |d::ds=>(aaq d).bind λk=>(yI ds).bind λks=>some (k::ks)
def BP:Dt->Option (List Key)
 |.tup ds=>yI ds
 |_=>none
def ql:List Dt->Option (List (List Key))
 |[]=>some []
 |d::ds=>(BP d).bind λk=>(ql ds).bind λks=>some (k::ks)
def dK:Key->Dt
 |.inl i=>.int i
 |.inr x=>.str x
def tupK (ks:List Key):Dt:=.tup (ks.map dK)
theorem aar {d:Dt} {k:Key} (h:aaq d=some k):d=dK k:=by
 cases d<;>cases h<;>rfl
theorem Kz:∀ {ds:List Dt} {ks:List Key},yI ds=some ks->ds=ks.map dK
 |[],_,h=>by cases h;rfl
 |d::ds,_,h=>by
  obtain⟨k,e1,h⟩:=bind_some h;obtain⟨ks,e2,h⟩:=bind_some h;cases h;rw[zo,aar e1,Kz e2]
theorem KC {d:Dt} {ks:List Key} (h:BP d=some ks):d=tupK ks:=by
 cases d with
 |tup ds=>exact congrArg Dt.tup (Kz h)
 |_=>cases h
theorem xV:∀ {ds:List Dt} {bU:List (List Key)},ql ds=some bU->ds=bU.map tupK
 |[],_,h=>by cases h;rfl
 |d::ds,_,h=>by
  obtain⟨k,e1,h⟩:=bind_some h;obtain⟨ks,e2,h⟩:=bind_some h;cases h;rw[zo,KC e1,xV e2]
section
variable {X:Cx}
theorem aas {K:FG_} {H:Hp} {k:Key} {v:V} (h:Rep K H (dK k) v):v=kV k:=by
 cases k with
 |inl i=>exact(show v=.int i by simpa only[dK,Rep] using h)
 |inr x=>exact(show v=.str x/\x.length<=sizeLine by simpa only[dK,Rep] using h).1
theorem Gn {K:FG_} {H:Hp}:∀ {ks:List Key} {vs:List V},aK K H (ks.map dK) vs->vs=ks.map kV
 |[],_,h=>by simp only[ku,aK] at h;exact h
 |k::ks,_,h=>by
  simp only[zo,aK] at h;obtain⟨v,r,rfl,h1,h2⟩:=h;rw[aas h1,Gn h2,zo]
theorem afJ (X:Cx) {ks:List Key}:∀ {us:List Value},Vals (ks.map kV) us->Ks ks us:=by
 induction ks with
 |nil=>intro us h;cases h;exact .nil
 |cons k ks ih=>
  intro us h;cases h with
  |cons r t=>exact .cons (JV (P:=X.prog) (w:=X.w) r) (ih t)
theorem nY {pins:List (Addr×Obj)} {σ:L2.St} {H:Hp} {s:Shared} (I:Inv X pins σ H s):∀ {bU:List (List Key)} {vs:List V} {its:List Value},aK X.K H (bU.map tupK) vs->Vals vs its->Paired (iB s.heap) bU its
 |[],_,_,h,r=>by
  simp only[ku,aK] at h;subst h;cases r;exact .nil
 |k::bU,_,_,h,r=>by
  simp only[zo,aK] at h;obtain⟨v,vs,rfl,h1,h2⟩:=h;cases r with
  |cons r1 r2=>
   refine .cons ?_ (nY I h2 r2);simp only[tupK,Rep] at h1;obtain⟨a,ws,rfl,sq,rs⟩:=h1;obtain⟨its,rv,⟨o,g,c,n,d⟩,_⟩:=I.tuple sq;cases r1;rw[Gn rs] at rv;exact⟨a,o,its,n,rfl,g,c,d,afJ X rv⟩
theorem xW {pins:List (Addr×Obj)} {σ:L2.St} {H:Hp} {s:Shared} (I:Inv X pins σ H s) {bU:List (List Key)} {vs:List V} {its:List Value} (h:aK X.K H (bU.map tupK) vs) (r:Vals vs its):∀ {Vh:List (List Key)} {out:List Value},Paired (iB s.heap) Vh out->(∀ u∈out,u∈its)->∃ zs,Vals zs out/\aK X.K H (Vh.map tupK) zs
 |_,_,.nil,_=>⟨[],.nil,aK.nil⟩
 |l::Vh,u::out,.cons q t,hm=>by
  obtain⟨zs,z1,z2⟩:=xW I h r t λx hx=>hm x (zr _ hx);have aux:∀ (bU:List (List Key)) (vs:List V) (its:List Value),aK X.K H (bU.map tupK) vs->Vals vs its->u∈its->∃ v,RelV v u/\Rep X.K H (tupK l) v:=by
   intro bU
   induction bU with
   |nil=>
    intro vs its h r hu;simp only[ku,aK] at h;subst h;cases r;cases hu
   |cons k bU ih=>
    intro vs its h r hu;simp only[zo,aK] at h;obtain⟨v,vs,rfl,h1,h2⟩:=h;cases r with
    |@cons _ u' _ _ r1 r2=>
     rcases List.mem_cons.mp hu with rfl|hu
     ·have e:k=l:=by
       have:=nY I (bU:=[k]) (vs:=[v]) (its:=[u]) (by simp only[zo,ku];exact aK.cons h1 aK.nil) (.cons r1 .nil);cases this with
       |cons q' _=>exact q'.inj q
      subst e;exact⟨v,r1,h1⟩
     ·exact ih vs _ h2 r2 hu
  obtain⟨v,r1,h1⟩:=aux bU vs its h r (hm u (zi ..));exact⟨v::zs,.cons r1 z1,by rw[zo];exact aK.cons h1 z2⟩
def Ij (k l:List Key):Bool:=((k.zip l).all λp=>Rc p.1 p.2)
theorem BR:∀ {k l:List Key},Ij k l=true->Shp k l
 |[],_,_=>by simp[Shp]
 |_::_,[],_=>by simp[Shp]
 |x::k,y::l,h=>by
  unfold Ij at h;rw[List.zip_cons_cons,kC,Zz] at h;exact⟨h.1,BR h.2⟩
def zc (bU:List (List Key)):Bool:=decide (bU.length < 64)&&(bU.all (λk=>!k.isEmpty)&&bU.all λk=>bU.all λl=>Ij k l)
def sS:List Bx->Option Bx
 |[b]=>(uX b).bind λds=>(ql ds).bind λbU=>if zc bU=true then some (.o ((jl bU).map tupK)) else none
 |_=>none
theorem Ik {K:FG_} {H:Hp} {b:Bx} {v:V} {ds:List Dt} (h:bf K H b v) (e:uX b=some ds):∃ a vs,v=.ref a/\(rP K H a vs\/wW K H a vs)/\aK K H ds vs:=by
 cases b with
 |z d=>
  cases d<;>first|(cases e;done)|skip
  ·cases e;simp only[bf,Rep] at h;obtain⟨a,vs,e,q,r⟩:=h;exact⟨a,vs,e,.inr q,r⟩
  ·cases e;simp only[bf,Rep] at h;obtain⟨a,vs,e,q,r⟩:=h;exact⟨a,vs,e,.inl q.sq,r⟩
 |l ds'=>cases e;obtain⟨a,vs,e,q,r⟩:=h;exact⟨a,vs,e,.inl (.inl q),r⟩
 |o ds'=>cases e;obtain⟨a,vs,e,q,r⟩:=h;exact⟨a,vs,e,.inl (.inl (.inl q)),r⟩
 |n _=>cases e
 |m _ _=>cases e
theorem KD:nU X (.builtin "sorted") sS:=by
 intro pins s σ H xs us Q I rx h;obtain⟨bs,c,rb,e,q⟩:=h;unfold sS at e;split at e
 ·rename_i b;obtain⟨ds,ed,e⟩:=bind_some e;obtain⟨bU,ek,e⟩:=bind_some e;split at e
  ·rename_i hs;cases e;simp only[zc,Zz,ZU,Z3,qv] at hs;obtain⟨h64,hne,hsh⟩:=hs;obtain⟨v,rfl,r1⟩:=rep1 rb;obtain⟨p,vs,rfl,sq,rs⟩:=Ik r1 ed;obtain⟨u,rfl,ru⟩:=vals1 rx;cases ru;have eds:=xV ek;subst eds;have got:∃ (its:List Value) (o:Obj) (T:String) (n:Nat),Vals vs its/\s.heap.get? p=some o/\o.cls=.type T/\(T = "list" ∨ T = "tuple")/\o.data=.seq its.toArray n/\vs.length<=sizeLine:=by
    rcases sq with sq|sq
    ·obtain⟨its,r',pl,hz⟩:=I.list sq;obtain⟨o,g,c,n,d⟩:=pl.isList;exact⟨its,o,_,n,r',g,c,.inl rfl,d,hz⟩
    ·obtain⟨its,r',⟨o,g,c,n,d⟩,hz⟩:=I.tuple sq;exact⟨its,o,_,n,r',g,c,.inr rfl,d,hz⟩
   obtain⟨its,o,T,n,r',g,hc,hT,hd,hz⟩:=got;have hlen:its.length=bU.length:=by rw[<-r'.length,rs.length,zh]
   have tv:=nY I rs r';refine TJ (kd:=tuples' true) (rk:=λv=>rank bU (keyOf bU its v)) (vs:=its) (λE' Q' hq=>Ox g hc hT hd (by rw[<-r'.length];exact hz) hq)
    (λh2 E' A' s' k Q' hq=>Gm (Paired.imp' (λ_ _ z=>iB.keep z k) tv) (λk hk=>by have:=hne k hk;cases k with|nil=>cases this|cons _ _=>exact List.cons_ne_nil _ _) (λk hk l hl=>BR (hsh k hk l hl)) (by omega) hq)
    (λA' s' k=>Kv (Paired.imp' (λ_ _ z=>iB.keep z k) tv) λk hk l hl=>BR (hsh k hk l hl)) (by omega) λl h' tk m st hp up hl ext hL=>?_
   have out:=Kw tv hp up;have mem:∀ u∈((arrOf st).map (·.2)).toList,u∈its:=λu hu=>by
    rw[Array.toList_map] at hu;obtain⟨pr,hpr,rfl⟩:=List.mem_map.mp hu;have adL:pr∈its.zip its:=by rw[<-pairsOf_toList];exact(Array.perm_iff_toList_perm.mp hp).mem_iff.mp hpr
    have:=mem_zip_self adL;rw[<-this.1];exact this.2
   obtain⟨zs,z1,z2⟩:=xW I rs r' out mem;have hzl:zs.length=bU.length:=by rw[z2.length,zh,(jZ bU).length_eq]
   have hH:H l=none:=I.hok.fresh hl;refine⟨.ref l,_,I.laid (t':=tk) (a:=l) (o:=.lst zs) ext hl ⟨by rw[hzl];exact ja (ZE h64 (by decide)),_,m,z1,?_⟩,rfl,q _ _ (bG hH) (λa ea=>by cases ea;exact hH) ⟨l,zs,rfl,aQ,z2.kp (.of (bG hH))⟩⟩;rw[hL]
  ·cases e
 ·cases e
end
end P1
end
section
namespace S6
open PySem PySem.Spec PyProof.Rows
theorem TY {M:Model} {A:Around} {E:VP_} {s:Shared} {src:Source} {n:Nat} {Q:Nat->Shared->Prop} (hn:n≠0) (h:∀ i d,i < n->Q i { s with drawn:=d }):wpAny M A (choose src n) Q E s:=
 λΓ p hΓ=>⟨hn,h _ _ (Nat.mod_lt _ (Nat.pos_of_ne_zero hn))⟩
theorem Il {α:Type}:∀ {xs:List α} {i:Nat} (hi:i < xs.length),(xs[i]::xs.eraseIdx i).Perm xs
 |x::xs,0,_=>List.Perm.refl _
 |x::xs,i+1,h=>by
  rw[List.eraseIdx_cons_succ,List.getElem_cons_succ];exact(List.Perm.swap _ _ _).trans ((Il (xs:=xs) (i:=i) (by simpa using h)).cons x)
theorem aat {M:Model} {A:Around} {E:VP_} {α:Type}:∀ (n:Nat) (xs:List α) (s:Shared) (Q:List α->Shared->Prop),xs.length=n->(∀ ys d,ys.Perm xs->Q ys { s with drawn:=d })->wpAny M A (drawOrder n xs) Q E s:=by
 intro n
 induction n with
 |zero=>
  intro xs s Q hl h;cases xs with
  |nil=>
   unfold drawOrder;exact ze (h [] s.drawn (List.Perm.refl _))
  |cons x xs=>simp at hl
 |succ n ih=>
  intro xs s Q hl h;cases xs with
  |nil=>simp at hl
  |cons x xs=>
   unfold drawOrder;refine zb (TY (by simp) λi d hi=>?_);have e:(x::xs)[i]?=some (x::xs)[i]:=by simp[hi]
   rw[e];dsimp only;refine zb (ih ((x::xs).eraseIdx i) _ _ (by rw[List.length_eraseIdx,zl hi];simp at hl ⊢;omega) λys d' hp=>ze ?_);exact h _ d' ((List.Perm.cons _ hp).trans (Il hi))
theorem Rh {α:Type} (next:Nat->Nat):∀ (n k:Nat) (xs:List α) (out:Array α),xs.length=n->(pickOrder.go next n k xs out).toList.Perm (out.toList++xs)
 |0,k,[],out,_=>by unfold pickOrder.go;simp
 |n+1,k,x::xs,out,hl=>by
  unfold pickOrder.go;have hi:next k % (x::xs).length < (x::xs).length:=Nat.mod_lt _ (by simp);have e:(x::xs)[next k % (x::xs).length]?=some (x::xs)[next k % (x::xs).length]:=by rw[zS hi]
  rw[e];dsimp only;refine(Rh next n (k+1) _ _ (by rw[List.length_eraseIdx,zl hi];simp at hl ⊢;omega)).trans ?_;rw[Array.toList_push,kK];exact(List.Perm.refl _).append (Il hi)
theorem T3 {α:Type} (next:Nat->Nat) (xs:Array α):(pickOrder next xs).toList.Perm xs.toList:=by
 have:=Rh next xs.size 0 xs.toList #[] (by simp);simpa[pickOrder] using this
structure Wk (w:World) (h:Heap) (a:Addr) (es:Array (Int×Value)) (ep:Nat) (t:SetTable):Prop where
 at_:∃ o,h.get? a=some o/\o.cls=.type "set" ∧ o.data=.set es ep t
 fit:t.fits es.size=true
 led:w.params.followText "set-order" = false->t.led=true
 non:1 < es.size->t.plain=false
theorem Wk.keep {w:World} {h h':Heap} {a:Addr} {es:Array (Int×Value)} {ep:Nat} {t:SetTable} (x:Wk w h a es ep t) (k:∀ o,h.get? a=some o->h'.get? a=some o):Wk w h' a es ep t:=
 ⟨let ⟨o,e,r⟩:=x.at_;⟨o,k o e,r⟩,x.fit,x.led,x.non⟩
def It (h:Heap) (it a:Addr) (first:Value) (i n ep:Nat):Prop:=∃ o,h.get? it=some o/\o.cls=.type "set_iterator" ∧ o.data=.fields #[first,.int (i:Int) 0,.ref a,.int (n:Int) 0,.int (ep:Int) 0]
theorem It.keep {h h':Heap} {it a:Addr} {f:Value} {i n ep:Nat} (x:It h it a f i n ep) (k:∀ o,h.get? it=some o->h'.get? it=some o):It h' it a f i n ep:=
 let ⟨o,e,r⟩:=x;⟨o,k o e,r⟩
theorem It.ty {s:Shared} {it a:Addr} {f:Value} {i n ep:Nat} (x:It s.heap it a f i n ep):s.TypeIs (.ref it) "set_iterator" := let ⟨o,e,c,_⟩:=x;⟨o,e,c⟩
theorem gO:Slot "set_iterator" "__next__" "set_iterator.__next__" :=
 .of (owner := "set_iterator") (n := "__next__") (by rw[typeLookup_type,builtinLookup_eq_fast];kernel_rfl) (by decide +kernel) (by decide +kernel) (by decide +kernel)
  (by first|exact .inl (by decide +kernel)|exact .inr (by decide +kernel)) (by rw[isSubtype_type];kernel_rfl)
theorem wj:Slot "set_iterator" "__iter__" "set_iterator.__iter__" :=
 .of (owner := "set_iterator") (n := "__iter__") (by rw[typeLookup_type,builtinLookup_eq_fast];kernel_rfl) (by decide +kernel) (by decide +kernel) (by decide +kernel)
  (by first|exact .inl (by decide +kernel)|exact .inr (by decide +kernel)) (by rw[isSubtype_type];kernel_rfl)
theorem Ek:entryFor table "set_iterator.__next__" = some Builtin.«set_iterator.__next__»:=entryFor_of_tree (by kernel_rfl)
theorem zf:entryFor table "set.__iter__" = some Builtin.«frozenset.__iter__»:=entryFor_alias (id' := "frozenset.__iter__") (by kernel_rfl) rfl (by decide +kernel) (by kernel_rfl)
theorem El:entryFor table "set_iterator.__iter__" = some Builtin.«dict_keyiterator.__iter__»:=entryFor_alias (id' := "dict_keyiterator.__iter__") (by kernel_rfl) rfl (by decide +kernel) (by kernel_rfl)
theorem WL:Manifest.owners.lookup (String.ofList "rotareti_tes".toList.reverse)=some Manifest.sig_set_iterator:=by kernel_rfl
theorem Im (a:Value):argsOk "set_iterator.__next__" ⟨[a],[]⟩:=by
 unfold argsOk;rw[signature?_of (id := "set_iterator.__next__") (n := "__txen__".toList) (o := "rotareti_tes".toList) (by kernel_rfl) WL];kernel_rfl
theorem Io (a:Value):argsOk "set_iterator.__iter__" ⟨[a],[]⟩:=by
 unfold argsOk;rw[signature?_of (id := "set_iterator.__iter__") (n := "__reti__".toList) (o := "rotareti_tes".toList) (by kernel_rfl) WL];kernel_rfl
section
variable {prog:Program} {w:World} {A:Around} {E:VP_} {s:Shared} {it a:Addr} {i ep:Nat} {es:Array (Int×Value)} {t:SetTable}
theorem zZ {first:Value} {Q:Option Value->Shared->Prop} (hit:It s.heap it a first i es.size ep) (hw:Wk w s.heap a es ep t)
  (h:wpAny (model prog w) A.in1 (if let .int slot _:=first then(do
    match <-setNext a slot.toNat (i:Int).toNat (ep:Int).toNat with
    |some (x,next)=>
     setField (.ref it) 0 (rawInt next)
     setField (.ref it) 1 (rawInt ((i:Int)+1))
     ret x
    |none=>setField (.ref it) 2 .none;raiseNew (<-newExc (.type "StopIteration") []))
   else(do
    let some places <-seqItems? first|unsupported "internal:set_iterator"
    match places[(i:Int).toNat]? with
    |some (.int place _)=>
     let x <-setNextDrawn a place.toNat (ep:Int).toNat
     setField (.ref it) 1 (rawInt ((i:Int)+1))
     ret x
    |some _=>unsupported "internal:set_iterator"
    |none=>setField (.ref it) 0 (rawInt 0);setField (.ref it) 2 .none;raiseNew (<-newExc (.type "StopIteration") []))) (λfin s'=>∃ v,fin=.done (.ret v)/\Q (some v) s') (λe s'=>s'.TypeIs e "StopIteration" ∧ Q none s') s):wpAny (model prog w) A (pyNext (.ref it)) Q E s:=by
 obtain⟨o,ho,hc,hd⟩:=id hit;obtain⟨oa,hoa,hca,hda⟩:=hw.at_;unfold pyNext;refine zb (yn (k8 (name:=Str.ofString "__next__") hit.ty gO (JJ gO hit.ty Ek ?_ (Im _))));unfold Builtin.«set_iterator.__next__»;refine zb (ze ?_);refine zb (wpAny_fieldsOf ho hd ?_);show wpAny _ _ (setEntries a >>= _) _ _ s;refine zb (wpAny_setEntries_of hoa hda hw.fit ?_);rw[zw (by simp)];refine ZN h (λfin s' hq=>?_) λe s' hq=>?_
 ·obtain⟨v,rfl,hv⟩:=hq;exact⟨v,rfl,ze hv⟩
 ·refine zb (JI (T := "StopIteration") (b:=true) hq.1 isSubtype_stop ?_);exact ze hq.2
theorem Ri {hp:Heap} {Q:Option Value->Shared->Prop} (hh:A.handled=none) (h:∀ h',(∀ b o,hp.get? b=some o->h'.get? b=some o)->Q none { s with heap:=h' }) :
  wpAny (model prog w) A.in1 (do raiseNew (<-newExc (.type "StopIteration") [])) (λ(fin:Fin) s'=>∃ v,fin=.done (.ret v)/\Q (some v) s') (λe s'=>s'.TypeIs e "StopIteration" ∧ Q none s') { s with heap:=hp }:=by
 refine zb ?_;simp only[newExc,newTuple];refine zb (ZZ ?_ (by size_fits));refine zb (m:=firstArgMember _ _) (wpAny_of_eq (a:=Value.none) (by first|rfl|(simp only[firstArgMember];rfl)) ?_);refine ZZ ?_ (by size_fits);simp only[raiseNew];refine zb (wpAny_handled ?_);rw[show A.in1.handled=none from hh];refine zb (ze (wpAny_throw ⟨⟨_,zt _ rfl,rfl⟩,?_⟩));exact h _ λb o e=>zd _ (zd _ e)
theorem It.put {h:Heap} {f:Value} {n:Nat} (hit:It h it a f i n ep) (x:Value):It (h.update it (Obj.mapFields (·.setIfInBounds 0 x))) it a x i n ep:=by
 obtain⟨o,ho,hc,hd⟩:=hit;exact⟨_,qB _ ho (KB (JO hd _)),(Obj.cls_mapFields ..).trans hc,by rw[JO hd];simp⟩
theorem It.step {h:Heap} {f:Value} {n:Nat} (hit:It h it a f i n ep):It (h.update it (Obj.mapFields (·.setIfInBounds 1 (rawInt ((i:Int)+1))))) it a f (i+1) n ep:=by
 obtain⟨o,ho,hc,hd⟩:=hit;exact⟨_,qB _ ho (KB (JO hd _)),(Obj.cls_mapFields ..).trans hc,by rw[JO hd];simp[rawInt]⟩
theorem It.field {f:Value} {n k:Nat} {x:Value} {A:Around} {Q:Unit->Shared->Prop} {E:VP_} (hit:It s.heap it a f i n ep) (hk:k < 5) (h:Q () { s with heap:=s.heap.update it (Obj.mapFields (·.setIfInBounds k x)) }):wpAny (model prog w) A (setField (.ref it) k x) Q E s:=by
 obtain⟨o,ho,hc,hd⟩:=hit;exact wpAny_setField ho hd (by simpa using hk) h
theorem pK {h:Heap} {f:Obj->Obj} {b:Addr} {o:Obj} (hb:b≠it) (e:h.get? b=some o):(h.update it f).get? b=some o:=by rw[j3 _ _ _ _ hb];exact e
theorem WM {slot next:Nat} {x:Value} {Q:Option Value->Shared->Prop} (hit:It s.heap it a (.int (slot:Int) 0) i es.size ep) (hw:Wk w s.heap a es ep t)
  (hS:∀ {A':Around} {E':VP_} {Q':Option (Value×Nat)->Shared->Prop},Q' (some (x,next)) s->wpAny (model prog w) A' (setNext a slot i ep) Q' E' s)
  (h:∀ h',It h' it a (.int (next:Int) 0) (i+1) es.size ep->(∀ b o,b≠it->s.heap.get? b=some o->h'.get? b=some o)->Q (some x) { s with heap:=h' }):wpAny (model prog w) A (pyNext (.ref it)) Q E s:=by
 refine zZ hit hw ?_;show wpAny _ _ (setNext a slot i ep >>= _) _ _ s;refine zb (hS ?_);refine zb (hit.field (by decide) ?_);refine zb ((hit.put _).field (s:={ s with heap:=_ }) (by decide) ?_);exact ze ⟨x,rfl,h _ ((hit.put _).step) λb o hb e=>pK hb (pK hb e)⟩
theorem BW {slot:Nat} {Q:Option Value->Shared->Prop} (hh:A.handled=none) (hit:It s.heap it a (.int (slot:Int) 0) i es.size ep) (hw:Wk w s.heap a es ep t)
  (hS:∀ {A':Around} {E':VP_} {Q':Option (Value×Nat)->Shared->Prop},Q' none s->wpAny (model prog w) A' (setNext a slot i ep) Q' E' s)
  (h:∀ h',(∀ b o,b≠it->s.heap.get? b=some o->h'.get? b=some o)->Q none { s with heap:=h' }):wpAny (model prog w) A (pyNext (.ref it)) Q E s:=by
 refine zZ hit hw ?_;show wpAny _ _ (setNext a slot i ep >>= _) _ _ s;refine zb (hS ?_);refine zb (hit.field (by decide) (Ri hh λh' k=>h h' λb o hb e=>k b o (pK hb e)))
theorem aau {tp:Addr} {pl:List Nat} {ot:Obj} {c:Nat} {j:Nat} {x:Int×Value} {Q:Option Value->Shared->Prop} (hit:It s.heap it a (.ref tp) i es.size ep) (hw:Wk w s.heap a es ep t)
  (ht:s.heap.get? tp=some ot) (hd:ot.data=.seq (pl.map λ(k:Nat)=>rawInt (k:Int)).toArray c) (hj:pl[i]?=some j) (hx:es[j]?=some x)
  (h:∀ h',It h' it a (.ref tp) (i+1) es.size ep->(∀ b o,b≠it->s.heap.get? b=some o->h'.get? b=some o)->Q (some x.2) { s with heap:=h' }):wpAny (model prog w) A (pyNext (.ref it)) Q E s:=by
 refine zZ hit hw ?_;show wpAny _ _ (seqItems? (.ref tp) >>= _) _ _ s;refine zb (m:=seqItems? (.ref tp)) ?_;unfold seqItems?;refine zb (KF ht ?_);rw[hd];refine ze ?_;dsimp only;rw[ym,show((pl.map λ(k:Nat)=>rawInt (k:Int)).toArray)[i]?=some (rawInt (j:Int)) by simp[hj]];show wpAny _ _ (setNextDrawn a j ep >>= _) _ _ s;obtain⟨oa,hoa,hca,hda⟩:=hw.at_;refine zb (m:=setNextDrawn a j ep) ?_;unfold setNextDrawn;refine zb (QQ hoa hda hw.fit ?_);dsimp only;rw[zw (by simp),hx];refine ze ?_;refine zb (hit.field (by decide) ?_);exact ze ⟨x.2,rfl,h _ hit.step λb o hb e=>pK hb e⟩
theorem KH {tp:Addr} {pl:List Nat} {ot:Obj} {c:Nat} {Q:Option Value->Shared->Prop} (hh:A.handled=none) (hit:It s.heap it a (.ref tp) i es.size ep) (hw:Wk w s.heap a es ep t)
  (ht:s.heap.get? tp=some ot) (hd:ot.data=.seq (pl.map λ(k:Nat)=>rawInt (k:Int)).toArray c) (hj:pl[i]?=none)
  (h:∀ h',(∀ b o,b≠it->s.heap.get? b=some o->h'.get? b=some o)->Q none { s with heap:=h' }):wpAny (model prog w) A (pyNext (.ref it)) Q E s:=by
 refine zZ hit hw ?_;show wpAny _ _ (seqItems? (.ref tp) >>= _) _ _ s;refine zb (m:=seqItems? (.ref tp)) ?_;unfold seqItems?;refine zb (KF ht ?_);rw[hd];refine ze ?_;dsimp only;rw[ym,show((pl.map λ(k:Nat)=>rawInt (k:Int)).toArray)[i]?=none by simpa using hj];refine zb (hit.field (by decide) ?_);refine zb ((hit.put _).field (s:={ s with heap:=_ }) (by decide) (Ri hh λh' k=>h h' λb o hb e=>k b o (pK hb (pK hb e))))
theorem ud {Q:Bool->Shared->Prop} (h:Q (w.params.followText "set-order") s):wpAny (model prog w) A setsByText Q E s:=by
 unfold setsByText;exact zb (wpAny_askSetting (ze h))
theorem Ip {f:Value} {n:Nat} {Q:VP_} (hit:It s.heap it a f i n ep) (h:Q (.ref it) s):wpAny (model prog w) A (pyIter (.ref it)) Q E s:=by
 refine wpAny_pyIter_slot hit.ty wj (JJ wj hit.ty El ?_ (Io _));show wpAny _ _ (ret (.ref it)) _ _ s;exact ze ⟨_,rfl, "set_iterator", _,hit.ty,gO.lookup,h⟩
def Ir (w:World) (a:Addr) (ep:Nat) (es:Array (Int×Value)):List Value:=(pickOrder (w.params.setOrder a ep) es).toList.map (·.2)
theorem xX:(Ir w a ep es).Perm (es.toList.map (·.2)):=(T3 _ _).map _
theorem Gp {slot:Nat} {Q:Option (Value×Nat)->Shared->Prop} (hf:w.params.followText "set-order" = true) (hw:Wk w s.heap a es ep t) (h:Q (((Ir w a ep es)[i]?).map λv=>(v,slot)) s):wpAny (model prog w) A (setNext a slot i ep) Q E s:=by
 obtain⟨oa,hoa,hca,hda⟩:=hw.at_;unfold setNext;refine zb (QQ hoa hda hw.fit (zb (ud ?_)));rw[hf];simp only[↓reduceIte,bne_self_eq_false,zk];refine zb (m:=setWalk a) ?_;unfold setWalk;refine zb (QQ hoa hda hw.fit (zb (ud ?_)));rw[hf];simp only[↓reduceIte];refine zb (wpAny_askSetting (ze (ze ?_)));have e:(pickOrder (w.params.setOrder a ep) es)[i]?.map (λe=>(e.2,slot))=((Ir w a ep es)[i]?).map λv=>(v,slot):=by
  unfold Ir;rw[zI,Option.map_map,qE];rfl
 rw[<-e] at h;exact h
theorem Oz (hh:A.handled=none) (hf:w.params.followText "set-order" = true) (hne:a≠it) (c:es.size<=sizeLine):Walks prog w A it [it,a] [it] es.size (λi v=>(Ir w a ep es)[i]?=some v) (λi h=>It h it a (.int 0 0) i es.size ep/\Wk w h a es ep t) where
 sub:=λb hb=>by simp at hb;simp[hb]
 frame:=λ_ _ _ st hk=>⟨st.1.keep λo e=>hk it (by simp) o e,st.2.keep λo e=>hk a (by simp) o e⟩
 item:=λi s Q E hi st hQ=>by
  have hl:(Ir w a ep es).length=es.size:=by rw[xX.length_eq];simp
  obtain⟨v,hv⟩:∃ v,(Ir w a ep es)[i]?=some v:=⟨(Ir w a ep es)[i]'(by omega),by rw[zS]⟩;refine WM (slot:=0) (next:=0) (x:=v) st.1 st.2 (λ{A' E' Q'} hq=>Gp hf st.2 (by rw[hv];exact hq)) λh' hi' k=>?_;exact hQ v h' s.toks hv ⟨hi',st.2.keep λo e=>k a o hne e⟩ λb o hb e=>k b o (λx=>hb (by simp[x])) e
 done:=λs Q E st hQ=>by
  have hl:(Ir w a ep es).length=es.size:=by rw[xX.length_eq];simp
  refine BW (slot:=0) hh st.1 st.2 (λ{A' E' Q'} hq=>Gp hf st.2 (by rw[qA (by omega)];exact hq)) λh' k=>?_;exact hQ h' s.toks λb o hb e=>k b o (λx=>hb (by simp[x])) e
 self:=λ_ _ _ _ st hQ=>Ip st.1 hQ
def T4 (pl:List Nat) (es:Array (Int×Value)):List Value:=pl.filterMap λj=>es[j]?.map (·.2)
theorem T5 {pl:List Nat} (h:pl.Perm (List.range es.size)):(T4 pl es).Perm (es.toList.map (·.2)):=by
 refine(h.filterMap _).trans ?_;rw[show(List.range es.size).filterMap (λj=>es[j]?.map (·.2))=((List.range es.size).filterMap λj=>es[j]?).map (·.2) by rw[List.map_filterMap],filterMap_getElem?_range]
theorem KJ:∀ {pl:List Nat},(∀ j∈pl,j < es.size)->∀ (i:Nat) (j:Nat),pl[i]?=some j->(T4 pl es)[i]?=es[j]?.map (·.2)
 |[],_,_,_,h=>by simp at h
 |k::pl,hb,i,j,h=>by
  have hk:=hb k (zi ..);have e:T4 (k::pl) es=es[k].2::T4 pl es:=by simp[T4,hk]
  rw[e];cases i with
  |zero=>cases(show k=j by simpa using h);simp[hk]
  |succ i=>rw[ZO];exact KJ (λj hj=>hb j (zr _ hj)) i j (by simpa using h)
theorem OD {tp:Addr} {pl:List Nat} (hh:A.handled=none) (hne:a≠it) (htp:tp≠it) (hp:pl.Perm (List.range es.size)):Walks prog w A it [it,a,tp] [it] es.size (λi v=>(T4 pl es)[i]?=some v)
  (λi h=>It h it a (.ref tp) i es.size ep/\Wk w h a es ep t/\∃ ot c,h.get? tp=some ot/\ot.data=.seq (pl.map λ(k:Nat)=>rawInt (k:Int)).toArray c) where
 sub:=λb hb=>by simp at hb;simp[hb]
 frame:=λ_ _ _ st hk=>⟨st.1.keep λo e=>hk it (by simp) o e,st.2.1.keep λo e=>hk a (by simp) o e,let ⟨ot,c,e,r⟩:=st.2.2;⟨ot,c,hk tp (by simp) ot e,r⟩⟩
 item:=λi s Q E hi st hQ=>by
  obtain⟨ot,c,e1,e2⟩:=st.2.2;have hl:pl.length=es.size:=by rw[hp.length_eq];simp
  have hb:∀ j∈pl,j < es.size:=λj hj=>List.mem_range.mp (hp.mem_iff.mp hj);have hj:pl[i]?=some (pl[i]'(by omega)):=by rw[zS]
  have hx:es[pl[i]'(by omega)]?=some (es[pl[i]'(by omega)]'(hb _ (yB _))):=by rw[ZY]
  refine aau st.1 st.2.1 e1 e2 hj hx λh' hi' k=>?_;exact hQ _ h' s.toks (by rw[KJ hb i _ hj,hx];rfl) ⟨hi',st.2.1.keep λo e=>k a o hne e,ot,c,k tp ot htp e1,e2⟩ λb o hb e=>k b o (λx=>hb (by simp[x])) e
 done:=λs Q E st hQ=>by
  obtain⟨ot,c,e1,e2⟩:=st.2.2;have hl:pl.length=es.size:=by rw[hp.length_eq];simp
  refine KH hh st.1 st.2.1 e1 e2 (by rw[qA (by omega)]) λh' k=>?_;exact hQ h' s.toks λb o hb e=>k b o (λx=>hb (by simp[x])) e
 self:=λ_ _ _ _ st hQ=>Ip st.1 hQ
def sU (t:SetTable) (i:Nat):Nat:=if i=0 then 0 else t.place.getD 0 0+1
theorem aav (j:Nat):SetTable.below #[j] 0=0:=by
 show SetTable.below.go #[j] 0 1 0 1=0;unfold SetTable.below.go;rw[zl (by decide)];show(if #[j].getD 0 0 < 0 then _ else SetTable.below.go #[j] 0 0 0 0)=0;rw[zw (kA _)];rfl
theorem aaw (j:Nat):SetTable.below #[j] (j+1)=1:=by
 show SetTable.below.go #[j] (j+1) 1 0 1=1;unfold SetTable.below.go;rw[zl (by decide)];show(if j < j+1 then SetTable.below.go #[j] (j+1) 0 1 1 else _)=1;rw[zl (qo _)];rfl
theorem T6 {P:Option (Value×Nat)->Prop} {r:Option (Value×Nat)} (hp:t.place.size=es.size) (hn:es.size<=1) (hi:i<=es.size)
  (hr:r=match es[SetTable.below t.place (sU t i)]?,t.place[SetTable.below t.place (sU t i)]? with
   |some (_,x),some j=>some (x,j+1)
   |_,_=>none) (h:P (((es.toList.map (·.2))[i]?).map λv=>(v,sU t (i+1)))):P r:=by
 subst hr;by_cases h0:es.size=0
 ·have e:es=#[]:=Array.eq_empty_of_size_eq_zero h0;subst e;simpa using h
 ·have h1:es.size=1:=by omega
  obtain⟨x,rfl⟩:=Array.size_eq_one_iff.mp h1;obtain⟨j,hj⟩:=Array.size_eq_one_iff.mp (hp.trans h1);have hi:i=0\/i=1:=by omega
  rcases hi with rfl|rfl
  ·have e1:sU t 0=0:=rfl;have e2:sU t (0+1)=j+1:=by unfold sU;rw[hj];rfl
   rw[e2] at h;rw[e1,hj,aav];exact h
  ·have e2:sU t 1=j+1:=by unfold sU;rw[hj];rfl
   rw[e2,hj,aaw];exact h
theorem BX {Q:Option (Value×Nat)->Shared->Prop} (hf:w.params.followText "set-order" = false) (hw:Wk w s.heap a es ep t) (hn:es.size<=1) (hi:i<=es.size) (h:Q (((es.toList.map (·.2))[i]?).map λv=>(v,sU t (i+1))) s):wpAny (model prog w) A (setNext a (sU t i) i ep) Q E s:=by
 obtain⟨oa,hoa,hca,hda⟩:=hw.at_;have hp:t.place.size=es.size:=by
  have:=hw.fit;simp only[SetTable.fits,Zz,beq_iff_eq] at this;exact this.1
 unfold setNext;refine zb (QQ hoa hda hw.fit (zb (ud ?_)));rw[hf];simp only[zk,↓reduceIte];split
 ·rename_i hc;have hc:(!t.plain&&decide (es.size > 1))=true:=hc;simp at hc;omega
 ·have hl:wpAny (model prog w) A (if(!t.led&&!es.isEmpty)=true then unsupported "set:maker-not-led" else pure PUnit.unit) (λ_ s'=>s'=s) E s:=by
   rw[hw.led hf];exact ze rfl
  refine zb (ZN hl (λ_ s' e=>?_) λ_ _ x=>x);subst e;refine ze ?_;exact T6 (P:=λr=>Q r s') hp hn hi rfl h
theorem KN (hh:A.handled=none) (hf:w.params.followText "set-order" = false) (hn:es.size<=1) (hne:a≠it):Walks prog w A it [it,a] [it] es.size (λi v=>(es.toList.map (·.2))[i]?=some v) (λi h=>It h it a (.int (sU t i:Nat) 0) i es.size ep/\Wk w h a es ep t) where
 sub:=λb hb=>by simp at hb;simp[hb]
 frame:=λ_ _ _ st hk=>⟨st.1.keep λo e=>hk it (by simp) o e,st.2.keep λo e=>hk a (by simp) o e⟩
 item:=λi s Q E hi st hQ=>by
  obtain⟨v,hv⟩:∃ v,(es.toList.map (·.2))[i]?=some v:=⟨(es.toList.map (·.2))[i]'(by simpa using hi),by rw[zS]⟩;refine WM (x:=v) st.1 st.2 (λ{A' E' Q'} hq=>BX hf st.2 hn (ja hi) (by rw[hv];exact hq)) λh' hi' k=>?_;exact hQ v h' s.toks hv ⟨hi',st.2.keep λo e=>k a o hne e⟩ λb o hb e=>k b o (λx=>hb (by simp[x])) e
 done:=λs Q E st hQ=>by
  refine BW hh st.1 st.2 (λ{A' E' Q'} hq=>BX hf st.2 hn (zg _) (by rw[qA (by simp)];exact hq)) λh' k=>?_;exact hQ h' s.toks λb o hb e=>k b o (λx=>hb (by simp[x])) e
 self:=λ_ _ _ _ st hQ=>Ip st.1 hQ
theorem WQ (hw:Wk w s.heap a es ep t) (hc:es.size<=sizeLine) {Q:VP_}
  (h:∀ (it:Addr) (h':Heap) (d:Drawn) (fp:List Addr) (St:Nat->Heap->Prop) (ord:List Value),ord.Perm (es.toList.map (·.2))->(∀ A':Around,A'.handled=none->Walks prog w A' it fp [it] es.size (λi v=>ord[i]?=some v) St)->St 0 h'->s.heap.objs.size<=it->it < h'.objs.size →
   (∀ b∈fp,b=a\/s.heap.objs.size<=b)->(∀ b∈fp,b < h'.objs.size)->(∀ b o,s.heap.get? b=some o->h'.get? b=some o)->Q (.ref it) { s with heap:=h',drawn:=d }):wpAny (model prog w) A (pyIter (.ref a)) Q E s:=by
 obtain⟨oa,hoa,hca,hda⟩:=id hw.at_;have hT:s.TypeIs (.ref a) "set" := ⟨oa,hoa,hca⟩;have hlt:a < s.heap.objs.size:=zv hoa;refine wpAny_pyIter_slot hT F.slot_set_iter (JJ F.slot_set_iter hT zf ?_ (F.args_set_iter_1 _));show wpAny _ _ (Builtin.Frozenset.sizeOf a >>= _) _ _ s;refine zb (m:=Builtin.Frozenset.sizeOf a) (zb (wpAny_setEntries_of hoa hda hw.fit (ze ?_)));have hd:wpAny (model prog w) A.in1 (setDrawn a) (λb s'=>s'=s/\b=(!(w.params.followText "set-order")&&(!t.plain&&decide (es.size > 1)))) E s:=by
  unfold setDrawn;exact zb (QQ hoa hda hw.fit (zb (ud (ze ⟨rfl,rfl⟩))))
 refine zb (ZN hd (λb s' e=>?_) λ_ _ x=>x);obtain⟨rfl,rfl⟩:=e;dsimp only;by_cases hf:w.params.followText "set-order" = true
 ·rw[hf];simp only[kD,ye,zk,ZH];refine zb (ze ?_);refine zb (m:=setEpoch a) (wpAny_setEpoch_of hoa hda hw.fit ?_);refine zb (ZZ (ze ⟨_,rfl, "set_iterator", _,⟨_,zt _ rfl,rfl⟩,gO.lookup,?_⟩));have:=h s'.heap.objs.size (s'.heap.push { cls:=.type "set_iterator", data:=.fields #[.int 0 0,.int 0 0,.ref a,.int es.size 0,.int ep 0] }) s'.drawn [s'.heap.objs.size,a] _ _ xX (λA' hh=>Oz hh hf (t:=t) (ep:=ep) (zC hlt) hc)
   ⟨⟨_,zt _ rfl,rfl,rfl⟩,hw.keep λo e=>zd _ e⟩ (zg _) (by rw[qh];exact qo _) (λb hb=>by simp at hb;rcases hb with rfl|rfl;exact .inr (zg _);exact .inl rfl)
   (λb hb=>by simp at hb;rw[qh];rcases hb with rfl|rfl;exact qo _;exact qr hlt) λb o e=>zd _ e
  exact this
 ·have hf:w.params.followText "set-order" = false:=by simpa using hf
  rw[hf];simp only[Ki,yo];by_cases hn:es.size<=1
  ·rw[zw (by simp;omega)];refine zb (ze ?_);refine zb (m:=setEpoch a) (wpAny_setEpoch_of hoa hda hw.fit ?_);refine zb (ZZ (ze ⟨_,rfl, "set_iterator", _,⟨_,zt _ rfl,rfl⟩,gO.lookup,?_⟩));have:=h s'.heap.objs.size (s'.heap.push { cls:=.type "set_iterator", data:=.fields #[.int 0 0,.int 0 0,.ref a,.int es.size 0,.int ep 0] }) s'.drawn [s'.heap.objs.size,a] _ _ (List.Perm.refl _) (λA' hh=>KN hh hf hn (t:=t) (ep:=ep) (zC hlt))
    ⟨⟨_,zt _ rfl,rfl,rfl⟩,hw.keep λo e=>zd _ e⟩ (zg _) (by rw[qh];exact qo _) (λb hb=>by simp at hb;rcases hb with rfl|rfl;exact .inr (zg _);exact .inl rfl)
    (λb hb=>by simp at hb;rw[qh];rcases hb with rfl|rfl;exact qo _;exact qr hlt) λb o e=>zd _ e
   exact this
  ·rw[zl (by rw[hw.non (by omega)];simp;omega)];refine zb (aat _ _ _ _ (by simp) λpl d hp=>?_);refine zb (wpAny_newTuple ?_ (by rw[zh,hp.length_eq,Kn];exact hc));refine zb (m:=setEpoch a) (wpAny_setEpoch_of (zd _ hoa) hda hw.fit ?_);refine zb (ZZ (ze ⟨_,rfl, "set_iterator", _,⟨_,zt _ rfl,rfl⟩,gO.lookup,?_⟩));generalize hG:s'.heap.push { cls:=.type "tuple", data:=.seq (pl.map λ(k:Nat)=>rawInt (k:Int)).toArray }=G;have sG:G.objs.size=s'.heap.objs.size+1:=by rw[<-hG,qh]
   have gG:G.get? s'.heap.objs.size=some { cls:=.type "tuple", data:=.seq (pl.map λ(k:Nat)=>rawInt (k:Int)).toArray }:=by rw[<-hG];exact zt _ rfl
   have kG:∀ b o,s'.heap.get? b=some o->G.get? b=some o:=λb o e=>by rw[<-hG];exact zd _ e
   have ltG:a < G.objs.size:=by rw[sG];exact qr hlt
   have:=h G.objs.size (G.push { cls:=.type "set_iterator", data:=.fields #[.ref s'.heap.objs.size,.int 0 0,.ref a,.int es.size 0,.int ep 0] }) d [G.objs.size,a,s'.heap.objs.size] _ _ (T5 hp) (λA' hh=>OD hh (t:=t) (ep:=ep) (tp:=s'.heap.objs.size) (zC ltG) (by rw[sG];exact zC (qo _)) hp)
    ⟨⟨_,zt _ rfl,rfl,rfl⟩,hw.keep λo e=>zd _ (kG _ _ e),_,0,zd _ gG,rfl⟩ (by rw[sG];exact kr _) (by rw[qh];exact qo _)
    (λb hb=>by simp at hb;rcases hb with rfl|rfl|rfl;exact .inr (by rw[sG];exact kr _);exact .inl rfl;exact .inr (zg _))
    (λb hb=>by
     simp at hb;rw[qh];rcases hb with rfl|rfl|rfl
     ·exact qo _
     ·exact qr ltG
     ·exact qr (by rw[sG];exact qo _)) λb o e=>zd _ (kG _ _ e)
   exact this
end
end S6
end
section
namespace S6
open PySem PySem.Spec PyProof.Rows P1
section
variable {prog:Program} {w:World} {A:Around} {E:VP_} {s:Shared} {it a:Addr} {i ep:Nat} {es:Array (Int×Value)} {t:SetTable}
theorem T7 {ord:List Value} {acc:Array Value} {n:Nat} (hn:ord.length=n) (h:ItemsOf (λi v=>ord[i]?=some v) acc n):acc.toList=ord:=by
 apply List.ext_getElem?;intro j;by_cases hj:j < n
 ·have hl:j < acc.size:=by rw[h.1];exact hj
  have e:acc.toList[j]?=some acc[j]:=by simp[hl]
  rw[e,h.2 j acc[j] (by simp[hl])]
 ·rw[qA (by rw[qc,h.1];omega),qA (by omega)]
theorem KQ {Q:List Value->Shared->Prop} (hh:A.handled=none) (hw:Wk w s.heap a es ep t) (hc:es.size<=sizeLine)
  (hQ:∀ ord h' d tk,ord.Perm (es.toList.map (·.2))->s.heap.objs.size<=h'.objs.size->(∀ b o,s.heap.get? b=some o->h'.get? b=some o)->Q ord { s with heap:=h',drawn:=d,toks:=tk }) :
  wpAny (model prog w) A (collect (.ref a)) Q E s:=by
 obtain⟨oa,hoa,hca,hda⟩:=id hw.at_;have hT:s.TypeIs (.ref a) "set" := ⟨oa,hoa,hca⟩;have hlt:a < s.heap.objs.size:=zv hoa;unfold collect;refine zb (wpAny_runValue (jI F.entry_proto_collect ?_));rw[Around.under_plainId F.plain_proto_collect _];show wpAny _ A.in1 (newList [] >>= λq=>again (.builtin "list.__iadd__" ⟨[q,.ref a],[]⟩)) _ _ s;refine zb (ZZ (ze ⟨plainId_quiet F.plain_list_iadd _,jI F.entry_list_iadd ?_⟩));rw[Around.under_plainId F.plain_list_iadd _];show wpAny _ A.in1 (Builtin.List.listExtendWith (.ref s.heap.objs.size) (.ref a) (.ref s.heap.objs.size)) _ _ _;unfold Builtin.List.listExtendWith;generalize hH:(s.heap.push { cls:=.type "list", data:=.seq ([]:List Value).toArray })=H;have kH:∀ b o,s.heap.get? b=some o->H.get? b=some o:=λb o e=>by rw[<-hH];exact zd _ e
 have sH:H.objs.size=s.heap.objs.size+1:=by rw[<-hH,qh]
 have gH:H.get? s.heap.objs.size=some (seqObj "list" #[] 0):=by rw[<-hH];exact zt _ rfl
 have hw1:Wk w H a es ep t:=hw.keep λo e=>kH a o e;refine zb (QE (T := "set") ⟨oa,kH _ _ hoa,hca⟩ ?_);have h1:Builtin.List.listSameRef (.ref s.heap.objs.size) (.ref a)=false:=by simp[Builtin.List.listSameRef];exact Jn hlt
 simp only[h1,show(Value.type "set" == Value.type "list")=false by decide,show(Value.type "set" == Value.type "tuple")=false by decide,Bool.or_false,zk,ZH];refine zb (WQ (s:={ s with heap:=H }) hw1 hc λit G d fp St ord hp W st0 hit hit2 hfp ajW kG=>?_);refine zb (qi ?_);unfold Builtin.List.listLengthHint;have hT2:Shared.TypeIs { s with heap:=G,drawn:=d } (.ref a) "set" := ⟨oa,kG _ _ (kH _ _ hoa),hca⟩;refine zb (wpAny_specialOf (T := "set") hT2 F.slot_set_len.lookup ?_)
 wp_delta
 refine zb (JI (T := "set") (b:=true) hT2 (by rw[isSubtype_type];kernel_rfl) ?_);show wpAny _ A.in1 (typeOf (Value.ref a) >>= _) _ _ _;refine zb (QE (T := "set") hT2 (ze ?_));rw[zl (by decide)];show wpAny _ A.in1 (Builtin.List.listTouch (Value.ref s.heap.objs.size) >>= λ_=>again (Code.builtin "list.extend.loop" ⟨[Value.ref s.heap.objs.size,Value.ref it,Value.ref s.heap.objs.size],[]⟩)) _ _ _;have hS:G.get? s.heap.objs.size=some (seqObj "list" #[] 0):=kG _ _ gH;unfold Builtin.List.listTouch;refine zb (zb (listUpdate_at hS rfl (listUpdate_at (get?_update_seq hS _) rfl ?_ (by show _<=_;decide) (by show _<=_;decide)) (by show _<=_;decide) (by show _<=_;decide)));have hSf:s.heap.objs.size∉fp:=λhm=>by
  rcases hfp _ hm with e|e
  ·exact Jn hlt e
  ·have e:H.objs.size<=s.heap.objs.size:=e;rw[sH] at e;exact absurd e (Nat.not_succ_le_self _)
 have hS3:=get?_update_seq (get?_update_seq hS (λx=>x.push Value.none)) (λx=>x.pop);generalize hU:(G.update s.heap.objs.size (Obj.mapSeq λx=>x.push Value.none)).update s.heap.objs.size (Obj.mapSeq λx=>x.pop)=U at hS3;have keep:∀ b,b≠s.heap.objs.size->U.get? b=G.get? b:=λb hb=>by rw[<-hU,j3 _ _ _ _ hb,j3 _ _ _ _ hb]
 have st1:St 0 U:=(W A hh).frame 0 G U st0 λb hb o e=>by rw[keep b λx=>hSf (x▸hb)];exact e
 show wpAny _ A.in1 (again _) _ _ { s with heap:=U,drawn:=d };have ho:ord.length=es.size:=by rw[hp.length_eq];simp
 refine ze ⟨plainId_quiet F.plain_extend_loop _,codeAny_extend_loopS (W A.in1 hh).toS hc s.heap.objs.size hSf _ es.size 0 { s with heap:=U,drawn:=d } #[] _ rfl (QP _) st1 hS3 (ItemsOf.nil _) λs' acc' c' mv hS' hacc=>?_⟩;show wpAny _ A (load s.heap.objs.size >>= _) _ _ s';refine zb (KF hS' (ze ?_));show Q acc'.toList s';rw[T7 ho hacc];have key:=hQ ord s'.heap s'.drawn s'.toks hp (ja (zv hS')) λb ob e=>by
  have hb:=zv e;refine mv.heap b ob (λhm=>?_) ((keep b (zC hb)).trans (kG _ _ (kH _ _ e)));simp only[QR,Q4,or_false] at hm;rcases hm with hm|hm
  ·exact zC hb hm
  ·have:H.objs.size<=it:=hit;rw[sH,<-hm] at this;exact absurd hb (Nat.not_lt.mpr (Nat.le_of_succ_le this))
 have e1:s'.gens=s.gens:=mv.gens;have e2:s'.os=s.os:=mv.os;rw[<-e1,<-e2] at key;exact key
end
theorem z7 {α:Type} [DecidableEq α]:∀ {xs ys:List α},xs.Nodup->ys.Nodup->(∀ z,z∈xs↔z∈ys)->xs.Perm ys
 |[],ys,_,_,h=>by
  have:ys=[]:=List.eq_nil_iff_forall_not_mem.mpr λz hz=>by simpa using(h z).mpr hz
  subst this;exact .refl _
 |x::xs,ys,hx,hy,h=>by
  have hm:x∈ys:=(h x).mp (zi ..);have hc:=List.nodup_cons.mp hx;refine((z7 hc.2 (hy.erase x) λz=>?_).cons x).trans (List.perm_cons_erase hm).symm;rw[hy.mem_erase_iff];constructor
  ·intro hz;exact⟨λe=>hc.1 (e▸hz),(h z).mp (zr _ hz)⟩
  ·intro⟨hn,hz⟩;rcases List.mem_cons.mp ((h z).mpr hz) with e|e
   ·exact absurd e hn
   ·exact e
theorem yJ {α β:Type} {R:α->β->Prop}:∀ {l l':List β},l'.Perm l->∀ {ys:List α},Paired R ys l->∃ ys',ys'.Perm ys/\Paired R ys' l':=by
 intro l l' hp
 replace hp:=hp.symm
 induction hp with
 |nil=>intro ys h;exact⟨ys,.refl _,h⟩
 |cons x _ ih=>intro ys h;cases h with|cons r t=>obtain⟨zs,z1,z2⟩:=ih t;exact⟨_::zs,z1.cons _,.cons r z2⟩
 |swap x y l=>intro ys h;cases h with|cons r t=>cases t with|cons r' t'=>exact⟨_,List.Perm.swap _ _ _,.cons r' (.cons r t')⟩
 |trans _ _ ih1 ih2=>intro ys h;obtain⟨zs,z1,z2⟩:=ih1 h;obtain⟨us,u1,u2⟩:=ih2 z2;exact⟨us,u1.trans z1,u2⟩
theorem OJ {α β:Type} {R:α->β->Prop} {xs:List α} {us:List β} {ys:List α} {vs:List β} (h:Paired R xs us) (k:Paired R ys vs):Paired R (xs++ys) (us++vs):=by
 induction h with
 |nil=>exact k
 |cons r _ ih=>exact .cons r ih
section
variable {prog:Program} {w:World} {A:Around} {E:VP_} {s:Shared} {a:Addr}
end
def blank (w:World):Obj:={ cls:=.type "set", dict:=none,data:=.set #[] 0 (.fresh 0 0 (!w.params.followText "set-order")) }
structure Adds (prog:Program) (w:World) (S:Addr) (wr:List Addr) {κ:Type} (C:Heap->List κ->Prop) (P:Nat->Value->Prop) (val:Nat->κ) (n:Nat):Prop where
 keep:∀ h h' ys,C h ys->(∀ b o,b∉wr->h.get? b=some o->h'.get? b=some o)->C h' ys
 add:∀ (A:Around) (E:VP_) (s:Shared) (i:Nat) (v:Value) (ys:List κ) (Q:Bool->Shared->Prop),A.units < cLine->i < n->P i v->C s.heap ys->ys.length<=i →
  (∀ b h' tk ys',Heap.SameBut S s.heap h'->C h' ys'->(∀ z,z∈ys'↔z∈ys\/z=val i)->ys'.length<=i+1->s.toks<=tk->Q b { s with heap:=h',toks:=tk })->wpAny (model prog w) A (setAdd S v) Q E s
section
variable {prog:Program} {w:World} {A:Around} {R:Result->Shared->Prop} {I:Addr} {fp wr:List Addr} {n:Nat} {P:Nat->Value->Prop} {St:Nat->Shared->Prop} {κ:Type} {C:Heap->List κ->Prop} {val:Nat->κ}
theorem WR (W:WalksS prog w A.in1 I fp wr (λa b=>b=a) n P St) (S:Addr) (hSf:S∉fp) (ad:Adds prog w S wr C P val n) (hU:A.units+1 < cLine) :
  ∀ (k i:Nat) (s:Shared) (ys:List κ),n - i=k->i<=n->St i s->C s.heap ys->(∀ z,z∈ys↔∃ j,j < i/\z=val j)->ys.length<=i →
   (∀ s' ys',Moved (S::wr) (λa b=>b=a) s s'->C s'.heap ys'->(∀ z,z∈ys'↔∃ j,j < n/\z=val j)->R (.ok (.ret .none)) s') →
   codeAny (model prog w) A (.builtin "set.update.loop" ⟨[.ref S,.ref I],[]⟩) R s:=by
 have sub:∀ b,b∈wr->b∈S::wr:=λb q=>zr _ q;intro k
 induction k with
 |zero=>
  intro i s ys hk hi st hc hm hl hR;have:i=n:=by omega
  subst this;refine jI F.entry_set_update_loop ?_;rw[Around.under_plainId yY _];show wpAny _ A.in1 (pyNext (.ref I) >>= _) _ _ s;refine zb (W.done s _ _ st λs' mv=>?_);show wpAny _ A.in1 (ret Value.none) _ _ s';exact ze (hR s' ys (mv.mono sub) (ad.keep _ _ _ hc mv.heap) hm)
 |succ k ih=>
  intro i s ys hk hi st hc hm hl hR;have hlt:i < n:=by omega
  refine jI F.entry_set_update_loop ?_;rw[Around.under_plainId yY _];show wpAny _ A.in1 (pyNext (.ref I) >>= _) _ _ s;refine zb (W.item i s _ _ hlt st λv s' hP st' mv=>?_);show wpAny _ A.in1 (holding [v] (setAdd S v) >>= _) _ _ s';refine zb (qi (ad.add _ _ s' i v ys _ hU hlt hP (ad.keep _ _ _ hc mv.heap) hl λb h' tk ys' sb hc' hm' hl' htk=>?_));refine ze ⟨plainId_quiet yY _,ih (i+1) _ ys' (by omega) hlt (W.frame _ s' _ _ st' htk λb hb o e=>?_) hc' (λz=>?_) hl' λs'' ys'' ahN hc'' hm''=>?_⟩
  ·rw[sb.2 b λq=>hSf (q▸hb)];exact e
  ·rw[hm' z,hm z];constructor
   ·rintro(⟨j,hj,e⟩|e)
    ·exact⟨j,by omega,e⟩
    ·exact⟨i,by omega,e⟩
   ·rintro⟨j,hj,e⟩;by_cases q:j=i
    ·exact .inr (q▸e)
    ·exact .inl ⟨j,by omega,e⟩
  ·refine hR s'' ys'' (Moved.trans W.gtrans ((mv.mono sub).then_heap htk λb o hb e=>?_) ahN) hc'' hm'';rw[sb.2 b λq=>hb (by rw[q];exact zi)];exact e
end
section
variable {prog:Program} {w:World} {A:Around} {E:VP_} {s:Shared}
theorem O1 (x:Value) {Q₁:VP_} (h:Q₁ (.ref s.heap.objs.size) { s with heap:=s.heap.push (blank w) }) :
  codeAny (model prog w) A (.call (.builtin "set.__new__") ⟨[.type "set", x],[]⟩) (wants Q₁ E) s:=by
 refine codeAny_of_tree ?_;show wpAny _ A.in1 (do checkBuiltinCall "set.__new__" ⟨[.type "set", x],[]⟩;again (.builtin "set.__new__" ⟨[.type "set", x],[]⟩)) _ _ s;refine zb (wpAny_of_eq (F.newCall_set_1 x) (ze ⟨plainId_quiet F.plain_set_new _,jI F.entry_set_new ?_⟩));rw[Around.under_plainId F.plain_set_new _];unfold Builtin.«set.__new__» Builtin.Frozenset.newClass;have hsub:=sub_set_self;obtain⟨hp,g,d,tk,os⟩:=s;dsimp only
 wp_walk
 refine wpAny_askSetting (ze ?_);dsimp only;simp only[newObj];refine zb (wpAny_alloc (ze ?_));exact ze h
theorem sub_tuple_set:isSubtype (.type "tuple") (.type "set")=pure false:=by rw[isSubtype_type];kernel_rfl
theorem sub_tuple_frozenset:isSubtype (.type "tuple") (.type "frozenset")=pure false:=by rw[isSubtype_type];kernel_rfl
theorem WT (hU:A.units+60 < cLine) {T:String} {l:Addr} {o:Obj} {κ:Type} {C:Heap->List κ->Prop} {P:Nat->Value->Prop} {val:Nat->κ} {n:Nat} {Q:VP_} (hh:A.handled=none) (ho:s.heap.get? l=some o) (hcl:o.cls=.type T) (hT:T = "list" ∨ T = "tuple")
  (hit:∀ (A':Around) (E':VP_) (Q':VP_) (h0:Heap),A'.handled=none->(∀ b ob,s.heap.get? b=some ob->h0.get? b=some ob) →
   (∀ (h':Heap) (St:Nat->Heap->Prop),(∀ A',A'.handled=none->Walks prog w A' h0.objs.size [h0.objs.size,l] [h0.objs.size] n P St)->St 0 h'->(∀ b ob,h0.get? b=some ob->h'.get? b=some ob)->Q' (.ref h0.objs.size) { s with heap:=h' })->wpAny (model prog w) A' (pyIter (.ref l)) Q' E' { s with heap:=h0 })
  (ad:Adds prog w s.heap.objs.size [s.heap.objs.size+1] C P val n) (hc0:∀ h',h'.get? s.heap.objs.size=some (blank w)->(∀ b ob,s.heap.get? b=some ob->h'.get? b=some ob)->C h' [])
  (h:∀ (h':Heap) (tk:Nat) (ys:List κ),C h' ys->(∀ z,z∈ys↔∃ j,j < n/\z=val j)->(∀ b ob,s.heap.get? b=some ob->h'.get? b=some ob)->Q (.ref s.heap.objs.size) { s with heap:=h',toks:=tk }) :
  wpAny (model prog w) A (call (.type "set") [.ref l]) Q E s:=by
 obtain⟨c,tl,hmro⟩:=F.called_set.mro;have hmade:=F.called_set.made;have hsub:=F.called_set.sub;have hlS:l < s.heap.objs.size:=zv ho;refine k4 (codeAny_of_tree ?_);show wpAny _ _ (callAny (.type "set") _) _ _ _;refine ze ⟨Code.quiet_builtin _ (by decide +kernel),jI F.entry_type_call ?_⟩;rw[Around.under_plain (weight_type_call_type "set" [.ref l] []) rfl];have h1:=F.called_set.notType;have h2:=F.called_set.canCreate;have hct:=F.typeCall_set_1 (.ref l)
 repeat (any_goals (first|assumption|wp_step))
 refine kP (O1 (.ref l) (E:=E) (Q₁:=λobj s₁=>obj=.ref s.heap.objs.size/\s₁={ s with heap:=s.heap.push (blank w) }) ⟨rfl,rfl⟩) λr s₁ hr=>?_;cases r with
 |error e=>exact hr
 |ok fl=>
  cases fl with
  |ret obj=>
   obtain⟨rfl,rfl⟩:=hr;generalize hH:s.heap.push (blank w)=H;have sH:H.objs.size=s.heap.objs.size+1:=by rw[<-hH,qh]
   have hS:H.get? s.heap.objs.size=some (blank w):=by rw[<-hH];exact zt _ rfl
   have kH:∀ b ob,s.heap.get? b=some ob->H.get? b=some ob:=λb ob e=>by rw[<-hH];exact zd _ e
   have hTS:Shared.TypeIs { s with heap:=H } (.ref s.heap.objs.size) "set" := ⟨_,hS,rfl⟩;have hli:=F.called_set.init.lookup;have hbi:=F.called_set.init.bind (.ref s.heap.objs.size)
   repeat (any_goals (first|assumption|wp_step))
   refine kP (KL (R:=wants (λr s₂=>r=.none/\∃ h' tk ys,s₂={ s with heap:=h',toks:=tk }/\C h' ys/\(∀ z,z∈ys↔∃ j,j < n/\z=val j)/\(∀ b ob,s.heap.get? b=some ob->h'.get? b=some ob)) E) F.called_set.init.plain F.entry_set_init (check_set_init_1 hTS ?_)) λr₂ s₂ hr₂=>?_
   ·have hT2:Shared.TypeIs { s with heap:=H } (.ref l) T:=⟨o,kH _ _ ho,hcl⟩;have i1:isSubtype (.type T) (.type "set")=pure false:=by rcases hT with rfl|rfl;exact F.sub_list_set;exact sub_tuple_set
    have i2:isSubtype (.type T) (.type "frozenset")=pure false:=by rcases hT with rfl|rfl;exact F.sub_list_frozenset;exact sub_tuple_frozenset
    have i3:(Value.type T==Value.type "dict")=false:=by rcases hT with rfl|rfl<;>decide
    show wpAny _ _ (Builtin.«set.__init__» ⟨[.ref s.heap.objs.size,.ref l],[]⟩) _ _ _;have hup:∀ A':Around,A'.handled=none->A'.units+4 < cLine->wpAny (model prog w) A' (Builtin.Frozenset.updateFrom "set.__init__" s.heap.objs.size (.ref l)) (λ_ s₂=>∃ h' tk ys,s₂={ s with heap:=h',toks:=tk }/\C h' ys/\(∀ z,z∈ys↔∃ j,j < n/\z=val j)/\(∀ b ob,s.heap.get? b=some ob->h'.get? b=some ob)) E { s with heap:=H }:=by
     intro A' hA hA4;unfold Builtin.Frozenset.updateFrom Builtin.Frozenset.isAnySet;refine zb (zb (JI hT2 i1 ?_));refine JI hT2 i2 ?_;simp only[zk,ZH];refine zb (QE hT2 ?_);simp only[i3,zk,ZH];refine zb (hit A' _ _ H hA kH λG St W st0 kG=>?_);rw[sH] at W;rw[sH];have hSf:s.heap.objs.size∉[s.heap.objs.size+1,l]:=λq=>by
      simp only[QR,Q4,or_false] at q;rcases q with q|q
      ·exact zC (qo _) q
      ·exact Jn hlS q
     refine zb (wpAny_runValue (WR (W A'.in1 hA).toS s.heap.objs.size hSf ad (by omega) (n - 0) 0 _ [] rfl (QP _) st0 (hc0 G (kG _ _ hS) λb ob e=>kG _ _ (kH _ _ e)) (λz=>⟨λq=>(by cases q),λ⟨j,q,_⟩=>absurd q (kA _)⟩) (zg _) λs' ys mv c1 c2=>?_));refine ze ⟨s'.heap,s'.toks,ys,?_,c1,c2,λb ob e=>?_⟩
     ·have e1:s'.gens=s.gens:=mv.gens;have e2:s'.os=s.os:=mv.os;have e3:s'.drawn=s.drawn:=mv.drawn;rw[<-e1,<-e2,<-e3]
     ·have hb:=zv e;refine mv.heap b ob (λq=>?_) (kG _ _ (kH _ _ e));simp only[QR,Q4,or_false] at q;rcases q with q|q
      ·exact zC hb q
      ·exact zC (qr hb) q
    have hb:(blank w).data=.set #[] 0 (.fresh 0 0 (!w.params.followText "set-order")):=rfl;unfold Builtin.«set.__init__» noKeywords;generalize hUF:Builtin.Frozenset.updateFrom=UF at hup ⊢;unfold blank at hS
    wp_walk
    refine ZN (hup _ (by simp[hh]) (by simp;omega)) (λu s₂ q=>?_) λ_ _ q=>q;obtain⟨h',tk,ys,rfl,q⟩:=q;show wpAny _ _ (ret Value.none) _ _ _;exact ze ⟨rfl,h',tk,ys,rfl,q⟩
   ·cases r₂ with
    |error e=>exact hr₂
    |ok fl₂=>
     cases fl₂ with
     |ret r=>
      obtain⟨rfl,h',tk,ys,rfl,c1,c2,c3⟩:=hr₂
      repeat (any_goals (first|assumption|wp_step))
      exact h _ _ _ c1 c2 c3
     |_=>exact False.elim hr₂
  |_=>exact False.elim hr
end
end S6
end
section
namespace S6
open PySem
def O2 (xs:Array Nat):Prop:=∀ i j,i < j->j < xs.size->xs.getD i 0 < xs.getD j 0
theorem getD_in {xs:Array Nat} {k a b:Nat} (h:k < xs.size):xs.getD k a=xs.getD k b:=by simp[Array.getD,h]
theorem aax {xs:Array Nat} {k a j:Nat} (h:xs[k]?=some j):k < xs.size/\xs.getD k a=j:=by
 have hk:k < xs.size:=by
  by_cases q:k < xs.size
  ·exact q
  ·rw[KA (by omega)] at h;cases h
 refine⟨hk,?_⟩;rw[ZY hk] at h;cases h;simp[Array.getD,hk]
theorem aay {xs:Array Nat} {k a j:Nat} (hk:k < xs.size) (h:xs.getD k a=j):xs[k]?=some j:=by
 rw[ZY hk];simp[Array.getD,hk] at h;rw[h]
theorem BZ (xs:Array Nat) (j:Nat) (hr:O2 xs):∀ (fuel lo hi:Nat),lo<=hi->hi<=xs.size->hi - lo<=fuel->(∀ k,k < lo->xs.getD k 0 < j)->(∀ k,hi<=k->k < xs.size->j<=xs.getD k 0) →
  SetTable.below.go xs j fuel lo hi<=xs.size/\(∀ k,k < SetTable.below.go xs j fuel lo hi->xs.getD k 0 < j)/\∀ k,SetTable.below.go xs j fuel lo hi<=k->k < xs.size->j<=xs.getD k 0
 |0,lo,hi,h1,h2,h3,h4,h5=>by
  have e:lo=hi:=by omega
  subst e;unfold SetTable.below.go;exact⟨h2,h4,h5⟩
 |fuel+1,lo,hi,h1,h2,h3,h4,h5=>by
  unfold SetTable.below.go;by_cases hl:lo < hi
  ·rw[zl hl];dsimp only;have hm:(lo+hi) / 2 < xs.size:=by omega
   rw[getD_in (b:=0) hm];by_cases q:xs.getD ((lo+hi) / 2) 0 < j
   ·rw[zl q];refine BZ xs j hr fuel _ hi (by omega) h2 (by omega) (λk hk=>?_) h5;by_cases e:k=(lo+hi) / 2
    ·rw[e];exact q
    ·exact Nat.lt_trans (hr k _ (by omega) hm) q
   ·rw[zw q];refine BZ xs j hr fuel lo _ (by omega) (by omega) (by omega) h4 λk hk hs=>?_;by_cases e:k=(lo+hi) / 2
    ·rw[e];omega
    ·have:=hr _ k (by omega:(lo+hi) / 2 < k) hs;omega
  ·rw[zw hl];have e:lo=hi:=by omega
   subst e;exact⟨h2,h4,h5⟩
theorem below_at {xs:Array Nat} (hr:O2 xs) (j:Nat):SetTable.below xs j<=xs.size/\(∀ k,k < SetTable.below xs j->xs.getD k 0 < j)/\∀ k,SetTable.below xs j<=k->k < xs.size->j<=xs.getD k 0:=
 BZ xs j hr xs.size 0 xs.size (QP _) (zg _) (by omega) (λk h=>absurd h (kA _)) λk h h'=>absurd h' (by omega)
theorem Ca {xs:Array Nat} (hr:O2 xs) {i j:Nat} (h:xs[i]?=some j):SetTable.below xs j=i:=by
 obtain⟨h1,h2,h3⟩:=below_at hr j;obtain⟨hi,e⟩:=aax (a:=0) h;rcases Nat.lt_trichotomy (SetTable.below xs j) i with q|q|q
 ·have:=h3 _ (zg _) (by omega);have:=hr _ _ q hi;omega
 ·exact q
 ·have:=h2 _ q;omega
theorem Rj (j:Nat):SetTable.has #[] j=false:=by
 unfold SetTable.has;simp
structure Tb (t:SetTable):Prop where
 mask:t.mask=7\/t.mask=31\/t.mask=127
 dum:t.dummies=#[]
 rise:O2 t.place
 bd:∀ j:Nat,j∈t.place->j<=t.mask
 full:t.place.size<=t.mask
theorem xY {t:SetTable} (h:Tb t) {i j:Nat} (e:t.place[i]?=some j):t.slot j=.live i:=by
 unfold SetTable.slot;simp only[Ca h.rise e,e,beq_self_eq_true,qq]
theorem T8 {t:SetTable} (h:Tb t) {j:Nat} (e:j∉t.place):t.slot j=.empty:=by
 unfold SetTable.slot;have:(t.place[SetTable.below t.place j]?==some j)=false:=by
  cases q:t.place[SetTable.below t.place j]? with
  |none=>rfl
  |some x=>
   by_cases hx:x=j
   ·subst hx;exact absurd (Array.mem_of_getElem? q) e
   ·simp[hx]
 simp only[this,zk,ZH,h.dum,Rj]
def Em (mask:Nat) (p:SetTable.Probe):SetTable.Probe:=
 if p.more > 0 then { p with j:=p.j+1,more:=p.more - 1 } else
 { p with j:=(SetTable.leap mask p.i p.perturb).1,more:=SetTable.runEnd mask (SetTable.leap mask p.i p.perturb).1 - (SetTable.leap mask p.i p.perturb).1,i:=(SetTable.leap mask p.i p.perturb).1,perturb:=(SetTable.leap mask p.i p.perturb).2 }
theorem WW (t:SetTable) (p:SetTable.Probe):t.advance p=Em t.mask p:=rfl
def at0 (mask i perturb:Nat):SetTable.Probe:={ j:=i,more:=SetTable.runEnd mask i - i,i,perturb,dummy:=none }
def fJ (mask:Nat) (h:Int):Nat->SetTable.Probe
 |0=>at0 mask (SetTable.bits h % (mask+1)) (SetTable.bits h)
 |n+1=>Em mask (fJ mask h n)
theorem Rk (mask:Nat) (h:Int):∀ n,(fJ mask h n).dummy=none
 |0=>rfl
 |n+1=>by
  have:=Rk mask h n;unfold fJ Em;split<;>exact this
theorem KR {t:SetTable} (ht:Tb t) (hashAt:Nat->Int) (h:Int):∀ (d fuel n:Nat),d < fuel->(∀ m,n<=m->m < n+d->∃ i,t.place[i]?=some (fJ t.mask h m).j/\hashAt i≠h) →
  ((fJ t.mask h (n+d)).j∉t.place->SetTable.probe.go t hashAt h fuel (fJ t.mask h n)=some (.empty (fJ t.mask h (n+d)).j none)) ∧
  ∀ i,t.place[i]?=some (fJ t.mask h (n+d)).j->hashAt i=h->SetTable.probe.go t hashAt h fuel (fJ t.mask h n)=some (.candidate (fJ t.mask h (n+d)).j i (fJ t.mask h (n+d+1)))
 |0,fuel+1,n,_,_=>by
  refine⟨λe=>?_,λi e1 e2=>?_⟩
  ·unfold SetTable.probe.go;rw[Nat.add_zero] at e ⊢;rw[T8 ht e];simp only[Rk]
  ·unfold SetTable.probe.go;rw[Nat.add_zero] at e1 ⊢;rw[xY ht e1];simp only[e2,beq_self_eq_true,qq,WW];rfl
 |d+1,fuel+1,n,hd,hp=>by
  obtain⟨i,e1,e2⟩:=hp n (zg _) (by omega);have ih:=KR ht hashAt h d fuel (n+1) (by omega) λm h1 h2=>hp m (by omega) (by omega);have e:SetTable.probe.go t hashAt h (fuel+1) (fJ t.mask h n)=SetTable.probe.go t hashAt h fuel (fJ t.mask h (n+1)):=by
   conv=>lhs;unfold SetTable.probe.go
   rw[xY ht e1];simp only[beq_iff_eq,e2,ZH,WW];rfl
  rw[e,show n+(d+1)=n+1+d by omega];exact ih
theorem O4:∀ (xs ys:List Nat),xs.Nodup->(∀ x,x∈xs->x∈ys)->xs.length<=ys.length
 |[],_,_,_=>QP _
 |x::xs,ys,hn,hs=>by
  have hc:=List.nodup_cons.mp hn;have hm:=hs x (zi ..);have:=O4 xs (ys.erase x) hc.2 λz hz=>(List.mem_erase_of_ne (λe:z=x=>hc.1 (by rw[<-e];exact hz))).mpr (hs z (zr _ hz));have:=List.length_erase_of_mem hm;have:0 < ys.length:=List.length_pos_of_mem hm;simp only[qS];omega
def nx (M i:Nat):Nat:=(i * 5+1) % M
def KY (M:Nat):Nat->Nat->Nat
 |0,i=>i
 |k+1,i=>KY M k (nx M i)
theorem z8 (M:Nat):∀ (a b i:Nat),KY M (a+b) i=KY M b (KY M a i)
 |0,b,i=>by rw[K2];rfl
 |a+1,b,i=>by rw[Nat.succ_add];exact z8 M a b _
theorem ahO:(∀ r,r < 8->∃ k,k < 8/\KY 8 k 0=r)/\KY 8 8 0=0:=by decide +kernel
theorem afL:(∀ r,r < 32->∃ k,k < 32/\KY 32 k 0=r)/\KY 32 32 0=0:=by decide +kernel
theorem adM:(∀ r,r < 128->∃ k,k < 128/\KY 128 k 0=r)/\KY 128 128 0=0:=by decide +kernel
theorem cyc {M:Nat} (h:(∀ r,r < M->∃ k,k < M/\KY M k 0=r)/\KY M M 0=0) {i r:Nat} (hi:i < M) (hr:r < M):∃ k,k < M/\KY M k i=r:=by
 obtain⟨a,ha,rfl⟩:=h.1 i hi;obtain⟨b,hb,rfl⟩:=h.1 r hr;by_cases q:a<=b
 ·exact⟨b - a,by omega,by rw[<-z8,show a+(b - a)=b by omega]⟩
 ·exact⟨M - a+b,by omega,by rw[<-z8,show a+(M - a+b)=M+b by omega,z8,h.2]⟩
theorem ahQ {mask:Nat} (h:mask=7\/mask=31\/mask=127) {i r:Nat} (hi:i < mask+1) (hr:r < mask+1):∃ k,k < mask+1/\KY (mask+1) k i=r:=by
 rcases h with rfl|rfl|rfl
 ·exact cyc ahO hi hr
 ·exact cyc afL hi hr
 ·exact cyc adM hi hr
def lp (mask:Nat) (h:Int):Nat->Nat×Nat
 |0=>(SetTable.bits h % (mask+1),SetTable.bits h)
 |l+1=>SetTable.leap mask (lp mask h l).1 (lp mask h l).2
theorem Cd (mask i:Nat):i<=SetTable.runEnd mask i/\SetTable.runEnd mask i<=i+9:=by unfold SetTable.runEnd;split<;>omega
theorem WX {mask i:Nat} (h:i<=mask):SetTable.runEnd mask i<=mask:=by unfold SetTable.runEnd;split<;>omega
theorem wz {mask:Nat} {h:Int} {s i p:Nat} (e:fJ mask h s=at0 mask i p):∀ k,k<=SetTable.runEnd mask i - i->fJ mask h (s+k)={ at0 mask i p with j:=i+k,more:=SetTable.runEnd mask i - i - k }
 |0,_=>by rw[Nat.add_zero,e];rfl
 |k+1,hk=>by
  have ih:=wz e k (by omega);show Em mask (fJ mask h (s+k))=_;rw[ih];unfold Em;rw[zl (by dsimp only;omega)];rfl
theorem KZ {mask:Nat} {h:Int} {s i p:Nat} (e:fJ mask h s=at0 mask i p):fJ mask h (s+(SetTable.runEnd mask i - i)+1)=at0 mask (SetTable.leap mask i p).1 (SetTable.leap mask i p).2:=by
 show Em mask (fJ mask h (s+(SetTable.runEnd mask i - i)))=_;rw[wz e _ (zg _)];unfold Em;rw[zw (by dsimp only;omega)];rfl
theorem WY (mask:Nat) (h:Int):∀ l,∃ s,s<=10 * l/\fJ mask h s=at0 mask (lp mask h l).1 (lp mask h l).2
 |0=>⟨0,by omega,rfl⟩
 |l+1=>by
  obtain⟨s,hs,e⟩:=WY mask h l;have:=Cd mask (lp mask h l).1;exact⟨_,by omega,KZ e⟩
theorem afM (mask:Nat) (h:Int):∀ l,(lp mask h l).1 < mask+1
 |0=>Nat.mod_lt _ (Nat.succ_pos _)
 |l+1=>Nat.mod_lt _ (Nat.succ_pos _)
theorem K1 (mask:Nat) (h:Int):∀ l,(lp mask h l).2 * 32 ^ l<=SetTable.bits h
 |0=>by simp[lp]
 |l+1=>by
  have ih:=K1 mask h l;show(lp mask h l).2 / 32 * 32 ^ (l+1)<=_;have h1:(lp mask h l).2 / 32 * 32<=(lp mask h l).2:=Nat.div_mul_le_self _ _;have h2:=Nat.mul_le_mul_right (32 ^ l) h1;rw[Nat.pow_succ,Nat.mul_comm (32 ^ l) 32,<-Nat.mul_assoc];exact Zs h2 ih
theorem aaA (h:Int):SetTable.bits h < 18446744073709551616:=by
 unfold SetTable.bits;have h1:h % 18446744073709551616 < 18446744073709551616:=Int.emod_lt_of_pos _ (by decide);have h2:0<=h % 18446744073709551616:=Int.emod_nonneg _ (by decide);show(h % 18446744073709551616).toNat < _;omega
theorem Rm (mask:Nat) (h:Int):∀ k,(lp mask h (12+k)).2 < 32
 |0=>by
  have h1:=K1 mask h 12;have h2:=aaA h;rw[show(32:Nat) ^ 12=1152921504606846976 from rfl] at h1;show(lp mask h 12).2 < 32;omega
 |k+1=>by
  have:=Rm mask h k;show(lp mask h (12+k)).2 / 32 < 32;omega
theorem afN (mask:Nat) (h:Int):∀ k,(lp mask h (12+k)).1=KY (mask+1) k (lp mask h 12).1:=by
 have step:∀ k,(lp mask h (12+k+1)).1=nx (mask+1) (lp mask h (12+k)).1:=λk=>by
  have:=Rm mask h k;show((lp mask h (12+k)).1 * 5+1+(lp mask h (12+k)).2 / 32) % (mask+1)=_;rw[show(lp mask h (12+k)).2 / 32=0 by omega];rfl
 have comm:∀ k i,KY (mask+1) k (nx (mask+1) i)=nx (mask+1) (KY (mask+1) k i):=λk=>by
  induction k with
  |zero=>intro i;rfl
  |succ k ih=>intro i;exact ih _
 intro k
 induction k with
 |zero=>rfl
 |succ k ih=>
  rw[show 12+(k+1)=12+k+1 by omega,step,ih];exact(comm k _).symm
theorem W0 {mask:Nat} (hm:mask=7\/mask=31\/mask=127) (h:Int) {r:Nat} (hr:r < mask+1):∃ l,l < mask+13/\(lp mask h l).1=r:=by
 obtain⟨k,hk,e⟩:=ahQ hm (afM mask h 12) hr;exact⟨12+k,by omega,by rw[afN,e]⟩
theorem gap {t:SetTable} (h:Tb t):∃ r,r < t.mask+1/\r∉t.place:=by
 by_cases q:∃ r,r < t.mask+1/\r∉t.place
 ·exact q
 ·exfalso;have:=O4 (List.range (t.mask+1)) t.place.toList yA λx hx=>by
   rw[yb] at hx;by_cases q':x∈t.place
   ·exact Array.mem_toList_iff.mpr q'
   ·exact absurd ⟨x,hx,q'⟩ q
  rw[Kn,qc] at this;have:=h.full;omega
theorem W2 {t:SetTable} (ht:Tb t) (h:Int):∃ n,n < 10 * SetTable.turns t.mask/\(fJ t.mask h n).j∉t.place:=by
 obtain⟨r,hr,hn⟩:=gap ht;obtain⟨l,hl,e⟩:=W0 ht.mask h hr;obtain⟨s,hs,e'⟩:=WY t.mask h l;refine⟨s,by unfold SetTable.turns;omega,?_⟩;rw[e'];show(lp t.mask h l).1∉_;rw[e];exact hn
theorem O5 {t:SetTable} (ht:Tb t) (h:Int):∃ n,n < 10 * SetTable.turns t.mask/\(fJ t.mask h n).j∉t.place/\∀ m,m < n->(fJ t.mask h m).j∈t.place:=by
 obtain⟨n,hn,hf⟩:=W2 ht h;have:∀ k,(∃ n,n<=k/\(fJ t.mask h n).j∉t.place/\∀ m,m < n->(fJ t.mask h m).j∈t.place)\/∀ m,m<=k->(fJ t.mask h m).j∈t.place:=λk=>by
  induction k with
  |zero=>
   by_cases q:(fJ t.mask h 0).j∈t.place
   ·exact .inr λm hm=>by rw[show m=0 by omega];exact q
   ·exact .inl ⟨0,zg _,q,λm hm=>absurd hm (kA _)⟩
  |succ k ih=>
   rcases ih with⟨n,h1,h2⟩|ih
   ·exact .inl ⟨n,by omega,h2⟩
   ·by_cases q:(fJ t.mask h (k+1)).j∈t.place
    ·exact .inr λm hm=>by
      by_cases e:m=k+1
      ·rw[e];exact q
      ·exact ih m (by omega)
    ·exact .inl ⟨k+1,zg _,q,λm hm=>ih m (by omega)⟩
 rcases this n with⟨m,h1,h2,h3⟩|q
 ·exact⟨m,by omega,h2,h3⟩
 ·exact absurd (q n (zg _)) hf
theorem gD {α:Type} (xs:Array α) (k:Nat) (a:α):xs.getD k a=xs[k]?.getD a:=by
 by_cases h:k < xs.size
 ·rw[ZY h];simp[Array.getD,h]
 ·rw[KA (by omega)];simp[Array.getD,h]
structure Tok (t:SetTable) (es:Array (Int×Value)):Prop extends Tb t where
 size:t.place.size=es.size
 reach:∀ (i j:Nat) e,t.place[i]?=some j->es[i]?=some e->∃ n,n < 10 * SetTable.turns t.mask/\(fJ t.mask e.1 n).j=j/\∀ m,m < n->(fJ t.mask e.1 m).j∈t.place
theorem wA {α:Type} (xs:Array α) (p:Nat) (x:α):(SetTable.insertAt xs p x).toList=xs.toList.take p++x::xs.toList.drop p:=by
 unfold SetTable.insertAt;simp[Array.toList_extract,List.take_of_length_le]
theorem zP {α:Type} {xs:Array α} {p:Nat} (hp:p<=xs.size) (x:α) (i:Nat):(SetTable.insertAt xs p x)[i]?=if i < p then xs[i]? else if i=p then some x else xs[i - 1]?:=by
 rw[<-qE,wA,List.getElem?_append];have hl:(xs.toList.take p).length=p:=by rw[km,qc];omega
 rw[hl];by_cases h1:i < p
 ·rw[zl h1,zl h1,List.getElem?_take,zl h1,qE]
 ·rw[zw h1,zw h1];by_cases h2:i=p
  ·rw[zl h2,h2,Nat.sub_self];rfl
  ·rw[zw h2,show i - p=(i - p - 1)+1 by omega,ZO,List.getElem?_drop,qE,show p+(i - p - 1)=i - 1 by omega]
theorem sV {α:Type} (xs:Array α) (p:Nat) (x:α):(SetTable.insertAt xs p x).size=xs.size+1:=by
 rw[<-qc,wA,Zp,qS,km,ko,qc];omega
theorem Rn {α:Type} {xs:Array α} {p:Nat} {x y:α}:y∈SetTable.insertAt xs p x↔y∈xs\/y=x:=by
 rw[<-Array.mem_toList_iff,wA,KS,QR,<-Array.mem_toList_iff];constructor
 ·rintro(h|h|h)
  ·exact .inl (List.mem_of_mem_take h)
  ·exact .inr h
  ·exact .inl (List.mem_of_mem_drop h)
 ·rintro(h|h)
  ·rw[<-List.take_append_drop p xs.toList,KS] at h;rcases h with h|h
   ·exact .inl h
   ·exact .inr (.inr h)
  ·exact .inr (.inl h)
theorem W3 {xs:Array Nat} (hr:O2 xs) {j:Nat} (hj:j∉xs):O2 (SetTable.insertAt xs (SetTable.below xs j) j):=by
 obtain⟨h1,h2,h3⟩:=below_at hr j;intro a b hab hb;rw[sV] at hb;have ga:∀ i,i < xs.size+1->(SetTable.insertAt xs (SetTable.below xs j) j).getD i 0=if i < SetTable.below xs j then xs.getD i 0 else if i=SetTable.below xs j then j else xs.getD (i - 1) 0:=λi hi=>by
  rw[gD,zP h1];by_cases q1:i < SetTable.below xs j
  ·rw[zl q1,zl q1,<-gD]
  ·rw[zw q1,zw q1];by_cases q2:i=SetTable.below xs j
   ·rw[zl q2,zl q2];rfl
   ·rw[zw q2,zw q2,<-gD]
 have gt:∀ k,SetTable.below xs j<=k->k < xs.size->j < xs.getD k 0:=λk hk hs=>by
  have q:=h3 k hk hs;rcases Nat.lt_or_eq_of_le q with q|q
  ·exact q
  ·exact absurd (Array.mem_of_getElem? (aay hs q.symm)) hj
 rw[ga a (by omega),ga b hb];by_cases a1:a < SetTable.below xs j
 ·rw[zl a1];by_cases b1:b < SetTable.below xs j
  ·rw[zl b1];exact hr a b hab (by omega)
  ·rw[zw b1];have:=h2 a a1;by_cases b2:b=SetTable.below xs j
   ·rw[zl b2];exact this
   ·rw[zw b2];exact Nat.lt_trans this (gt _ (by omega) (by omega))
 ·rw[zw a1];by_cases a2:a=SetTable.below xs j
  ·rw[zl a2,zw (by omega),zw (by omega)];exact gt _ (by omega) (by omega)
  ·rw[zw a2,zw (by omega),zw (by omega)];exact hr _ _ (by omega) (by omega)
theorem aaB {t:SetTable} {es:Array (Int×Value)} (h:Tok t es) {hh:Int} {x:Value} {n:Nat} (hn:n < 10 * SetTable.turns t.mask) (hf:(fJ t.mask hh n).j∉t.place) (hp:∀ m,m < n->(fJ t.mask hh m).j∈t.place) (hj:(fJ t.mask hh n).j<=t.mask) (hs:es.size+1<=t.mask) :
  Tok (t.put (fJ t.mask hh n).j).1 (SetTable.insertAt es (t.put (fJ t.mask hh n).j).2 (hh,x))/\(t.put (fJ t.mask hh n).j).1.led=t.led/\(t.put (fJ t.mask hh n).j).1.plain=t.plain/\(t.put (fJ t.mask hh n).j).1.mask=t.mask:=by
 have hd:=h.dum;have he:t.put (fJ t.mask hh n).j=({ t with place:=SetTable.insertAt t.place (SetTable.below t.place (fJ t.mask hh n).j) (fJ t.mask hh n).j,dummies:=#[] },SetTable.below t.place (fJ t.mask hh n).j):=by
  unfold SetTable.put;rw[hd];simp only[Rj,zk,ZH]
 rw[he];have hz:=h.size;have hb:=(below_at h.rise (fJ t.mask hh n).j).1;refine⟨{ mask:=h.mask,dum:=rfl,rise:=W3 h.rise hf,bd:=λj hj'=>?_,full:=?_,size:=?_,reach:=λi j e h1 h2=>?_ },rfl,rfl,rfl⟩
 ·rcases Rn.mp hj' with q|q
  ·exact h.bd j q
  ·rw[q];exact hj
 ·show(SetTable.insertAt _ _ _).size<=t.mask;rw[sV];omega
 ·show(SetTable.insertAt _ _ _).size=_;rw[sV,sV,hz]
 ·have h1:(SetTable.insertAt t.place (SetTable.below t.place (fJ t.mask hh n).j) (fJ t.mask hh n).j)[i]?=some j:=h1;rw[zP hb] at h1;rw[zP (by rw[<-hz];exact hb)] at h2;have up:∀ e':Int×Value,(∃ n,n < 10 * SetTable.turns t.mask/\(fJ t.mask e'.1 n).j=j/\∀ m,m < n->(fJ t.mask e'.1 m).j∈t.place)->∃ n',n' < 10 * SetTable.turns t.mask/\(fJ t.mask e'.1 n').j=j/\∀ m,m < n'->(fJ t.mask e'.1 m).j∈SetTable.insertAt t.place (SetTable.below t.place (fJ t.mask hh n).j) (fJ t.mask hh n).j:=
   λe' ⟨n,a,b,c⟩=>⟨n,a,b,λm hm=>Rn.mpr (.inl (c m hm))⟩
  by_cases q1:i < SetTable.below t.place (fJ t.mask hh n).j
  ·rw[zl q1] at h1 h2;exact up e (h.reach i j e h1 h2)
  ·rw[zw q1] at h1 h2;by_cases q2:i=SetTable.below t.place (fJ t.mask hh n).j
   ·rw[zl q2] at h1 h2;cases h1;cases h2;exact up (hh,x) ⟨n,hn,rfl,hp⟩
   ·rw[zw q2] at h1 h2;exact up e (h.reach (i - 1) j e h1 h2)
theorem W4 {mask:Nat} (h:Int):∀ n,(fJ mask h n).j+(fJ mask h n).more<=mask
 |0=>by
  have h1:SetTable.bits h % (mask+1) < mask+1:=Nat.mod_lt _ (Nat.succ_pos _);have:=WX (mask:=mask) (i:=SetTable.bits h % (mask+1)) (by omega);have:=Cd mask (SetTable.bits h % (mask+1));show SetTable.bits h % (mask+1)+(SetTable.runEnd mask (SetTable.bits h % (mask+1)) - SetTable.bits h % (mask+1))<=mask;omega
 |n+1=>by
  have ih:=W4 (mask:=mask) h n;show(Em mask (fJ mask h n)).j+(Em mask (fJ mask h n)).more<=mask;unfold Em;split
  ·dsimp only;omega
  ·dsimp only;generalize hl:(SetTable.leap mask (fJ mask h n).i (fJ mask h n).perturb).1=i;have h1:i < mask+1:=by rw[<-hl];exact Nat.mod_lt _ (Nat.succ_pos _)
   have:=WX (mask:=mask) (i:=i) (by omega);have:=Cd mask i;omega
theorem O6 {mask:Nat} (h:Int) (n:Nat):(fJ mask h n).j<=mask:=by have:=W4 (mask:=mask) h n;omega
def O7 (owner:Array (Option Nat)) (j:Nat):Prop:=(owner.getD j (some 0)).isNone=false
theorem Gq {mask:Nat} {h:Int} {owner:Array (Option Nat)}:∀ (fuel l s j:Nat),fJ mask h s=at0 mask (lp mask h l).1 (lp mask h l).2->s<=10 * l->(∀ m,m < s->O7 owner (fJ mask h m).j) →
  SetTable.layClean.free mask owner fuel (lp mask h l).1 (lp mask h l).2=some j->∃ n,n < 10 * (l+fuel)/\(fJ mask h n).j=j/\(owner.getD j (some 0)).isNone=true/\∀ m,m < n->O7 owner (fJ mask h m).j
 |0,l,s,j,_,_,_,e=>by unfold SetTable.layClean.free at e;cases e
 |fuel+1,l,s,j,hs,hl,ho,e=>by
  have hr:=Cd mask (lp mask h l).1;unfold SetTable.layClean.free at e;cases hf:(List.range (SetTable.runEnd mask (lp mask h l).1+1 - (lp mask h l).1)).find? λk=>(owner.getD ((lp mask h l).1+k) (some 0)).isNone with
  |some k=>
   rw[hf] at e;cases e;obtain⟨h1,h2,h3⟩:=List.find?_range_eq_some.mp hf;rw[yb] at h2;refine⟨s+k,by omega,?_,h1,λm hm=>?_⟩
   ·rw[wz hs k (by omega)]
   ·by_cases q:m < s
    ·exact ho m q
    ·have h4:=h3 (m - s) (by omega);rw[show m=s+(m - s) by omega,wz hs (m - s) (by omega)];simpa[O7] using h4
  |none=>
   rw[hf] at e;have h3:=List.find?_range_eq_none.mp hf;obtain⟨n,a,b⟩:=Gq fuel (l+1) _ j (KZ hs) (by omega) (λm hm=>by
    by_cases q:m < s
    ·exact ho m q
    ·have h4:=h3 (m - s) (by omega);rw[show m=s+(m - s) by omega,wz hs (m - s) (by omega)];simpa[O7] using h4) e
   exact⟨n,by omega,b⟩
theorem Gs {mask:Nat} {h:Int} {owner:Array (Option Nat)}:∀ (fuel l:Nat),SetTable.layClean.free mask owner fuel (lp mask h l).1 (lp mask h l).2=none->∀ l',l<=l'->l' < l+fuel->O7 owner (lp mask h l').1
 |0,l,_,l',h1,h2=>by omega
 |fuel+1,l,e,l',h1,h2=>by
  have hr:=Cd mask (lp mask h l).1;unfold SetTable.layClean.free at e;cases hf:(List.range (SetTable.runEnd mask (lp mask h l).1+1 - (lp mask h l).1)).find? λk=>(owner.getD ((lp mask h l).1+k) (some 0)).isNone with
  |some k=>rw[hf] at e;cases e
  |none=>
   rw[hf] at e;have h3:=List.find?_range_eq_none.mp hf;by_cases q:l'=l
   ·subst q;have h4:=h3 0 (by omega);simpa[O7] using h4
   ·exact Gs fuel (l+1) e l' (by omega) (by omega)
structure Ow (mask:Nat) (hs:List Int) (owner:Array (Option Nat)):Prop where
 size:owner.size=mask+1
 lt:∀ (j idx:Nat),owner[j]?=some (some idx)->idx < hs.length
 all:∀ (idx:Nat) h,hs[idx]?=some h->∃ j,owner[j]?=some (some idx)/\∃ n,n < 10 * SetTable.turns mask/\(fJ mask h n).j=j/\∀ m,m < n->O7 owner (fJ mask h m).j
 inj:∀ (j j' idx:Nat),owner[j]?=some (some idx)->owner[j']?=some (some idx)->j=j'
theorem W5 {mask:Nat} {hs:List Int} {owner:Array (Option Nat)} (o:Ow mask hs owner) {j:Nat} (hj:j<=mask):O7 owner j↔∃ idx,owner[j]?=some (some idx):=by
 unfold O7;have hlt:j < owner.size:=by rw[o.size];omega
 rw[gD,ZY hlt];cases owner[j] with
 |none=>simp
 |some i=>simp
theorem T9 {f:Nat->Nat}:∀ {xs:List Nat},xs.Nodup->(∀ x∈xs,∀ y∈xs,f x=f y->x=y)->(xs.map f).Nodup:=λ{xs} hn hi=>
 List.pairwise_map.mpr (kf (λha hb hne e=>hne (hi _ ha _ hb e)) hn)
theorem aaC {mask:Nat} {hs:List Int} {owner:Array (Option Nat)} (o:Ow mask hs owner) (hl:hs.length<=mask):∃ r,r < mask+1/\¬ O7 owner r:=by
 by_cases q:∃ r,r < mask+1/\¬ O7 owner r
 ·exact q
 ·exfalso;have all:∀ r,r < mask+1->∃ idx,owner[r]?=some (some idx):=λr hr=>by
   by_cases q':O7 owner r
   ·exact(W5 o (by omega)).mp q'
   ·exact absurd ⟨r,hr,q'⟩ q
  have f:∀ r,r < mask+1->owner[r]?=some (some ((owner[r]?.getD none).getD 0)):=λr hr=>by
   obtain⟨idx,e⟩:=all r hr;rw[e];rfl
  have:=O4 ((List.range (mask+1)).map λr=>(owner[r]?.getD none).getD 0) (List.range hs.length) (T9 yA λx hx y hy e=>by
   rw[yb] at hx hy;have e1:=f x hx;have e2:=f y hy;rw[e] at e1;exact o.inj x y _ e1 e2) λx hx=>by
    obtain⟨r,hr,rfl⟩:=List.mem_map.mp hx;rw[yb] at hr;exact List.mem_range.mpr (o.lt r _ (f r hr))
  rw[zh,Kn,Kn] at this;omega
theorem aaD {mask:Nat} (hm:mask=7\/mask=31\/mask=127) {hs:List Int} {owner:Array (Option Nat)} (o:Ow mask hs owner) (hl:hs.length<=mask) (h:Int) :
  ∃ j,SetTable.layClean.free mask owner (SetTable.turns mask) (SetTable.bits h % (mask+1)) (SetTable.bits h)=some j/\Ow mask (hs++[h]) (owner.setIfInBounds j (some hs.length)):=by
 obtain⟨r,hr,hn⟩:=aaC o hl;cases hf:SetTable.layClean.free mask owner (SetTable.turns mask) (SetTable.bits h % (mask+1)) (SetTable.bits h) with
 |none=>
  obtain⟨l,hl',e⟩:=W0 hm h hr;have:=Gs (h:=h) (owner:=owner) (SetTable.turns mask) 0 hf l (QP _) (by unfold SetTable.turns;omega);rw[e] at this;exact absurd this hn
 |some j=>
  obtain⟨n,h1,h2,h3,h4⟩:=Gq (h:=h) (owner:=owner) (SetTable.turns mask) 0 0 j rfl (zg _) (λm hm=>absurd hm (kA _)) hf;rw[K2] at h1;have hj:j<=mask:=by rw[<-h2];exact O6 h n
  have hjs:j < owner.size:=by rw[o.size];omega
  have get:∀ k:Nat,(owner.setIfInBounds j (some hs.length))[k]?=if k=j then some (some hs.length) else owner[k]?:=λk=>by
   rw[Array.getElem?_setIfInBounds];by_cases q:k=j
   ·rw[zl q,zl q.symm,zl hjs]
   ·rw[zw q,zw (λe=>q e.symm)]
  have old:∀ k idx:Nat,owner[k]?=some (some idx)->k≠j:=λk idx e q=>by
   subst q;rw[gD,e] at h3;cases h3
  have up:∀ k,O7 owner k->O7 (owner.setIfInBounds j (some hs.length)) k:=λk q=>by
   unfold O7 at q ⊢;rw[gD] at q ⊢;rw[get];by_cases e:k=j
   ·rw[zl e];rfl
   ·rw[zw e];exact q
  refine⟨j,rfl,⟨by rw[Array.size_setIfInBounds];exact o.size,λk idx e=>?_,λidx g e=>?_,λa b idx e1 e2=>?_⟩⟩
  ·rw[get] at e;rw[Zp];by_cases q:k=j
   ·rw[zl q] at e;cases e;simp
   ·rw[zw q] at e;have:=o.lt k idx e;simp;omega
  ·by_cases q:idx < hs.length
   ·rw[ZI q] at e;obtain⟨k,e1,n',a,b,c⟩:=o.all idx g e;exact⟨k,by rw[get,zw (old k idx e1)];exact e1,n',a,b,λm hm=>up _ (c m hm)⟩
   ·rw[qk (by omega)] at e;have:idx - hs.length=0:=by
     by_cases q':idx - hs.length=0
     ·exact q'
     ·rw[qA (by simp;omega)] at e;cases e
    rw[this] at e;cases e;have:idx=hs.length:=by omega
    subst this;exact⟨j,by rw[get,zl rfl],n,h1,h2,λm hm=>up _ (h4 m hm)⟩
  ·rw[get] at e1 e2;by_cases q1:a=j
   ·by_cases q2:b=j
    ·rw[q1,q2]
    ·rw[zl q1] at e1;rw[zw q2] at e2;cases e1;have:=o.lt b _ e2;omega
   ·by_cases q2:b=j
    ·rw[zw q1] at e1;rw[zl q2] at e2;cases e2;have:=o.lt a _ e1;omega
    ·rw[zw q1] at e1;rw[zw q2] at e2;exact o.inj a b idx e1 e2
theorem adN (mask:Nat):Ow mask [] (Array.replicate (mask+1) none):=by
 have no:∀ (j idx:Nat),(Array.replicate (mask+1) (none:Option Nat))[j]?≠some (some idx):=λj idx e=>by
  rw[Array.getElem?_replicate] at e;split at e<;>cases e
 exact⟨Array.size_replicate,λj idx e=>absurd e (no j idx),λidx h e=>by simp at e,λj j' idx e=>absurd e (no j idx)⟩
theorem adO {mask:Nat} (hm:mask=7\/mask=31\/mask=127) (hs:List Int) (hl:hs.length<=mask):∃ owner,SetTable.layClean mask hs.toArray=some owner/\Ow mask hs owner:=by
 have key:∀ (ys xs:List Int) (owner:Array (Option Nat)),Ow mask xs owner->xs.length+ys.length<=mask->∃ W6,ys.foldl (λ(acc:Option (Array (Option Nat)×Nat)) h=>do
   let (owner,k) <-acc
   let j <-SetTable.layClean.free mask owner (SetTable.turns mask) (SetTable.bits h % (mask+1)) (SetTable.bits h)
   pure (owner.setIfInBounds j (some k),k+1)) (some (owner,xs.length))=some (W6,xs.length+ys.length)/\Ow mask (xs++ys) W6:=by
  intro ys
  induction ys with
  |nil=>intro xs owner o _;exact⟨owner,rfl,by rw[QA];exact o⟩
  |cons y ys ih=>
   intro xs owner o hl;rw[qS] at hl;obtain⟨j,e,o'⟩:=aaD hm o (by omega) y;obtain⟨ow,e2,o2⟩:=ih (xs++[y]) _ o' (by simp;omega);refine⟨ow,?_,by rw[kK] at o2;exact o2⟩;rw[QO];simp only[Option.bind_eq_bind,ki,e,pure];rw[show(xs++[y]).length=xs.length+1 by simp] at e2;rw[qS,show xs.length+(ys.length+1)=xs.length+1+ys.length by omega];exact e2
 obtain⟨ow,e,o⟩:=key hs [] _ (adN mask) (by simpa using hl);refine⟨ow,?_,by simpa using o⟩;unfold SetTable.layClean;rw[List.foldl_toArray];exact congrArg (Option.map (·.1)) e
theorem Ib {α β:Type} {f:α->Option β} {g:α->β}:∀ {xs:List α},(∀ x∈xs,f x=some (g x))->xs.filterMap f=xs.map g
 |[],_=>rfl
 |x::xs,h=>by
  rw[kQ,h x (zi ..),zo,Ib λy hy=>h y (zr _ hy)]
theorem aaE {xs:List Nat} (h:xs.Pairwise (· < ·)):O2 xs.toArray:=by
 intro i j hij hj;have hj':j < xs.length:=by simpa using hj
 rw[gD,gD,List.getElem?_toArray,List.getElem?_toArray,zS hj',zS (by omega)];exact List.pairwise_iff_getElem.mp h i j (by omega) hj' hij
theorem Ua {t:SetTable} {es:Array (Int×Value)} {wanted:Nat} (hm:SetTable.sizeAbove wanted - 1=7\/SetTable.sizeAbove wanted - 1=31\/SetTable.sizeAbove wanted - 1=127) (hl:es.size<=SetTable.sizeAbove wanted - 1) :
  ∃ t' order,t.relaid (es.map (·.1)) wanted=some (t',order)/\(order.filterMap (es[·]?)).toList.Perm es.toList/\Tok t' (order.filterMap (es[·]?))/\t'.led=t.led/\t'.plain=t.plain/\t'.mask=SetTable.sizeAbove wanted - 1:=by
 generalize hM:SetTable.sizeAbove wanted - 1=mask at hm hl ⊢;have hs:(es.toList.map (·.1)).length=es.size:=by simp
 obtain⟨ow,e,o⟩:=adO hm (es.toList.map (·.1)) (by omega);have ea:es.map (·.1)=(es.toList.map (·.1)).toArray:=by
  apply Array.ext';simp
 let L:List (Nat×Nat):=(List.range (mask+1)).filterMap λj=>(ow.getD j none).map λk=>(j,k)
 have hL:∀ j k,(j,k)∈L↔ow[j]?=some (some k):=λj k=>by
  show(j,k)∈List.filterMap _ _↔_;rw[List.mem_filterMap];constructor
  ·rintro⟨a,ha,q⟩;rw[gD] at q;cases h1:ow[a]? with
   |none=>rw[h1] at q;cases q
   |some x=>
    rw[h1] at q;cases x with
    |none=>cases q
    |some y=>cases q;exact h1
  ·intro q;refine⟨j,List.mem_range.mpr ?_,?_⟩
   ·by_cases h:j < ow.size
    ·rw[<-o.size];exact h
    ·rw[KA (by omega)] at q;cases q
   ·rw[gD,q];rfl
 have pL:L.Pairwise λa b=>a.1 < b.1:=by
  refine List.pairwise_filterMap.mpr (List.pairwise_lt_range.imp λ{a b} hab x hx y hy=>?_);cases h1:ow.getD a none with
  |none=>rw[h1] at hx;cases hx
  |some u=>
   cases h2:ow.getD b none with
   |none=>rw[h2] at hy;cases hy
   |some v=>rw[h1] at hx;rw[h2] at hy;cases hx;cases hy;exact hab
 have ndO:(L.map (·.2)).Nodup:=by
  refine List.pairwise_map.mpr (kf (λ{a b} ha hb hab e=>?_) pL);have h1:=(hL a.1 a.2).mp ha;have h2:=(hL b.1 b.2).mp hb;rw[e] at h1;have:=o.inj _ _ _ h1 h2;omega
 have pO:(L.map (·.2)).Perm (List.range es.size):=z7 ndO yA λz=>by
  rw[Kb,yb];constructor
  ·rintro⟨a,ha,rfl⟩;have:=o.lt _ _ ((hL a.1 a.2).mp ha);omega
  ·intro hz;obtain⟨j,h1,_⟩:=o.all z ((es.toList.map (·.1))[z]'(by omega)) (zS (by omega));exact⟨(j,z),(hL j z).mpr h1,rfl⟩
 let g:Nat->Int×Value:=λk=>es.getD k (0,.none)
 have hg:∀ k,k < es.size->es[k]?=some (g k):=λk hk=>by
  show _=some (es.getD k _);rw[gD,ZY hk];rfl
 have fO:(L.map (·.2)).filterMap (λk=>es[k]?)=(L.map (·.2)).map g:=Ib λk hk=>hg k (List.mem_range.mp (pO.mem_iff.mp hk));have eL:((L.map (·.2)).toArray.filterMap (λk=>es[k]?)).toList=L.map λp=>g p.2:=by
  rw[Array.toList_filterMap,fO,Qb];rfl
 refine⟨{ mask:=mask,place:=(L.map (·.1)).toArray,dummies:=#[],finger:=t.finger,led:=t.led,moves:=t.movedTo mask,plain:=t.plain },(L.map (·.2)).toArray,?_,?_,?_,rfl,rfl,rfl⟩
 ·unfold SetTable.relaid SetTable.laid;rw[hM,ea,e];rfl
 ·rw[Array.toList_filterMap,fO];refine(pO.map g).trans ?_;have:(List.range es.size).map g=es.toList:=by
   apply List.ext_getElem?;intro i;rw[zI];by_cases h:i < es.size
   ·rw[List.getElem?_range h,qE,hg i h];rfl
   ·rw[qA (by simp;omega),qA (by simp;omega)];rfl
  rw[this]
 ·have sz:L.length=es.size:=by
   have:=pO.length_eq;rw[zh,Kn] at this;exact this
  refine { mask:=hm,dum:=rfl,rise:=aaE (List.pairwise_map.mpr pL),bd:=λj hj=>?_,full:=?_,size:=?_,reach:=λi j x h1 h2=>?_ }
  ·have hj:j∈L.map (·.1):=by simpa using hj
   obtain⟨a,ha,rfl⟩:=List.mem_map.mp hj;have q:=(hL a.1 a.2).mp ha;have:a.1 < ow.size:=by
    by_cases h:a.1 < ow.size
    ·exact h
    ·rw[KA (by omega)] at q;cases q
   have:=o.size;show a.1<=mask;omega
  ·show(L.map (·.1)).toArray.size<=mask;simp only[zz,zh];omega
  ·rw[<-qc (xs:=Array.filterMap _ _),eL];simp
  ·have h1:(L.map (·.1)).toArray[i]?=some j:=h1;rw[List.getElem?_toArray,zI] at h1;rw[<-qE,eL,zI] at h2;cases hi:L[i]? with
   |none=>rw[hi] at h1;cases h1
   |some p=>
    rw[hi] at h1 h2;cases h1;cases h2;have hp:(p.1,p.2)∈L:=qV hi;have q:=(hL p.1 p.2).mp hp;have hk:p.2 < es.size:=List.mem_range.mp (pO.mem_iff.mp (List.mem_map.mpr ⟨p,hp,rfl⟩));have hh:(es.toList.map (·.1))[p.2]?=some (g p.2).1:=by
     rw[zI,qE,hg _ hk];rfl
    obtain⟨j',q1,n,a,b,c⟩:=o.all _ _ hh;have:j'=p.1:=o.inj _ _ _ q1 q;subst this;refine⟨n,a,b,λm hm'=>?_⟩;obtain⟨k,q2⟩:=(W5 o (O6 _ _)).mp (c m hm');show _∈(L.map (·.1)).toArray;rw[List.mem_toArray];exact List.mem_map.mpr ⟨(_,k),(hL _ _).mpr q2,rfl⟩
end S6
end
section
namespace S6
open PySem PySem.Spec PyProof.Rows P1 L2
section
variable {prog:Program} {w:World} {A:Around} {E:VP_} {s:Shared} {a:Addr}
abbrev bN (prog:Program) (w:World) (ks:List Key):Int:=tupleKeyHash (aX prog w) ks
def TE (prog:Program) (w:World) (h:Heap) (z:List Key×Addr) (e:Int×Value):Prop:=e=(bN prog w z.1,.ref z.2)/\IsTupleKey (aX prog w) h z.1 z.2
structure aaF (prog:Program) (w:World) (h:Heap) (zs:List (List Key×Addr)) (es:Array (Int×Value)) (t:SetTable):Prop where
 rel:Paired (TE prog w h) zs es.toList
 nd:(zs.map (·.1)).Nodup
 tok:Tok t es
 load:es.size * 5 < t.mask * 3
 led:w.params.followText "set-order" = false->t.led=true
 non:0 < es.size->t.plain=false
def Tu (prog:Program) (w:World) (h:Heap) (a:Addr) (zs:List (List Key×Addr)):Prop:=∃ o es ep t,h.get? a=some o/\o.ExactSet/\o.data=.set es ep t/\aaF prog w h zs es t
theorem Ro {h h':Heap} {ks:List Key} {b:Addr} (x:IsTupleKey (aX prog w) h ks b) (k:∀ o,h.get? b=some o->o.cls=.type "tuple" → h'.get? b=some o):IsTupleKey (aX prog w) h' ks b:=
 let ⟨o,its,n,e,c,r⟩:=x;⟨o,its,n,k o e c,c,r⟩
theorem K3 {h h':Heap} {zs:List (List Key×Addr)} {l:List (Int×Value)} (k:∀ b o,h.get? b=some o->o.cls=.type "tuple" → h'.get? b=some o) (r:Paired (TE prog w h) zs l):Paired (TE prog w h') zs l:=by
 induction r with
 |nil=>exact .nil
 |cons q _ ih=>exact .cons ⟨q.1,Ro q.2 λo e c=>k _ o e c⟩ ih
theorem aaF.size {h:Heap} {zs:List (List Key×Addr)} {es:Array (Int×Value)} {t:SetTable} (x:aaF prog w h zs es t):es.size=zs.length:=by rw[x.rel.length];simp
theorem Tok.fits {t:SetTable} {es:Array (Int×Value)} (h:Tok t es):t.fits es.size=true:=by
 unfold SetTable.fits SetTable.fill;have h1:=h.full;have h2:=h.size;rw[h.dum];simp[h2];omega
theorem Tok.odd {t:SetTable} {es:Array (Int×Value)} (h:Tok t es):t.gaveWay=false:=by
 unfold SetTable.gaveWay;rcases h.mask with e|e|e<;>rw[e]<;>rfl
theorem Gu {d:Nat} {ks:List Key} {b:Addr} {Q:Bool->Shared->Prop} (hk:IsTupleKey (aX prog w) s.heap ks b) (h:Q false s):wpAny (model prog w) A (ofAClassStatement (d+1) (.ref b)) Q E s:=by
 have hT:=hk.typeIs;obtain⟨o,items,n,ho,_,hd,hi⟩:=hk;unfold ofAClassStatement;refine zb (QE hT ?_);dsimp only;refine zb (ze ?_);simp only[kD,zk,ZH];refine zb (wpAny_seqItems ho hd ?_);dsimp only;refine zb ?_;rw[<-Array.forIn_toList];refine wpAny_forIn_list _ (λrest r s'=>r.1=none/\s'=s/\∀ v∈rest,carriedByValue v=true) _ ?_ ?_ _ _ ⟨rfl,rfl,hi.byValue⟩
 ·rintro v rest r s' ⟨hr,rfl,hall⟩;have hv:ofAClassStatement d v=pure false:=by
   have:=hall v zi;cases v with
   |ref a=>simp[carriedByValue] at this
   |_=>unfold ofAClassStatement;rfl
  rw[hv];refine zb (ze ?_);simp only[zk,ZH];exact ze ⟨rfl,rfl,λu hu'=>hall u (zr _ hu')⟩
 ·rintro⟨r1,r2⟩ s' ⟨hr,rfl,_⟩;simp only at hr;subst hr;exact ze h
theorem adP {ks:List Key} {b:Addr} {Q:Bool->Shared->Prop} (hk:IsTupleKey (aX prog w) s.heap ks b) (vs:List Value) (hv:∀ v∈vs,∃ c ls,v=.ref c/\IsTupleKey (aX prog w) s.heap ls c) (h:Q false s):wpAny (model prog w) A (searchCouldBeSeen (.ref b) vs) Q E s:=by
 unfold searchCouldBeSeen;refine zb ?_;refine wpAny_forIn_list _ (λrest r s'=>r.1=none/\s'=s/\∀ v∈rest,∃ c ls,v=.ref c/\IsTupleKey (aX prog w) s.heap ls c) _ ?_ ?_ _ _ ⟨rfl,rfl,hv⟩
 ·rintro v rest r s' ⟨hr,rfl,hall⟩;obtain⟨c,ls,rfl,hc⟩:=hall v zi;have rest':∀ v∈rest,∃ c ls,v=.ref c/\IsTupleKey (aX prog w) s'.heap ls c:=λu hu=>hall u (zr _ hu);dsimp only;split
  ·exact ze ⟨rfl,rfl,rest'⟩
  ·refine zb (wpAny_eqIsQuiet_tuple hk ?_);simp only[kD,zk,ZH];refine zb (wpAny_eqIsQuiet_tuple hc ?_);simp only[kD,zk,ZH];refine zb (Gu hk ?_);simp only[zk,ZH];refine zb (Gu hc ?_);simp only[zk,ZH];exact ze ⟨rfl,rfl,rest'⟩
 ·rintro⟨r1,r2⟩ s' ⟨hr,rfl,_⟩;simp only at hr;subst hr;exact ze h
theorem Iu {h:Heap}:∀ {zs:List (List Key×Addr)} {l:List (Int×Value)},Paired (TE prog w h) zs l->∀ {i:Nat} {e},l[i]?=some e->∃ z,zs[i]?=some z/\TE prog w h z e
 |_,_,.nil,i,e,q=>by simp at q
 |_,_,.cons r _,0,e,q=>by simp at q;subst q;exact⟨_,rfl,r⟩
 |_,_,.cons _ t,i+1,e,q=>by
  rw[ZO] at q;obtain⟨z,z1,z2⟩:=Iu t q;exact⟨z,by rw[ZO];exact z1,z2⟩
theorem wB {h:Heap}:∀ {zs:List (List Key×Addr)} {l:List (Int×Value)},Paired (TE prog w h) zs l->∀ {i:Nat} {z},zs[i]?=some z->∃ e,l[i]?=some e/\TE prog w h z e
 |_,_,.nil,i,e,q=>by simp at q
 |_,_,.cons r _,0,e,q=>by simp at q;subst q;exact⟨_,rfl,r⟩
 |_,_,.cons _ t,i+1,e,q=>by
  rw[ZO] at q;obtain⟨z,z1,z2⟩:=wB t q;exact⟨z,by rw[ZO];exact z1,z2⟩
theorem least (p:Nat->Prop):∀ (k n:Nat),p (n+k)->∃ d,d<=k/\p (n+d)/\∀ m,n<=m->m < n+d->¬ p m
 |0,n,h=>⟨0,zg _,h,λm h1 h2=>absurd h2 (by omega)⟩
 |k+1,n,h=>by
  by_cases q:p n
  ·exact⟨0,QP _,q,λm h1 h2=>absurd h2 (by omega)⟩
  ·obtain⟨d,h1,h2,h3⟩:=least p k (n+1) (by rw[show n+1+k=n+(k+1) by omega];exact h);refine⟨d+1,by omega,by rw[show n+(d+1)=n+1+d by omega];exact h2,λm a b=>?_⟩;by_cases e:m=n
   ·rw[e];exact q
   ·exact h3 m (by omega) (by omega)
theorem search {o:Obj} {es:Array (Int×Value)} {ep:Nat} {t:SetTable} {zs:List (List Key×Addr)} {ks:List Key} {b:Addr} (hu:A.units < cLine) (ho:s.heap.get? a=some o) (hd:o.data=.set es ep t) (x:aaF prog w s.heap zs es t) (hk:IsTupleKey (aX prog w) s.heap ks b)
  {N:Nat} (hN:N < 10 * SetTable.turns t.mask) (hf:(fJ t.mask (bN prog w ks) N).j∉t.place) (hp:∀ m,m < N->(fJ t.mask (bN prog w ks) m).j∈t.place) {Q:SetFound->Shared->Prop}
  (h1:ks∈zs.map (·.1)->Q (.there none) s) (h2:ks∉zs.map (·.1)->Q (.free (fJ t.mask (bN prog w ks) N).j false) s) :
  ∀ (k n fuel:Nat) (stand:Option SetTable.Probe),n+k=N->k < fuel->stand.getD (t.probeStart (bN prog w ks))=fJ t.mask (bN prog w ks) n->(∀ m,m < n->∀ i:Nat,t.place[i]?=some (fJ t.mask (bN prog w ks) m).j->∀ z:List Key×Addr,zs[i]?=some z->z.1≠ks) →
   wpAny (model prog w) A (setSearchFrom a (.ref b) (bN prog w ks) true fuel stand) Q E s:=by
 have get:∀ {i:Nat} {e},es[i]?=some e->∃ z,zs[i]?=some z/\TE prog w s.heap z e:=λ{i e} q=>Iu x.rel (by rw[qE];exact q);have fit:=x.tok.fits;intro k
 induction k using Nat.strongRecOn with
 |ind k ih=>
  intro n fuel stand hn hfu hst hb;cases fuel with
  |zero=>omega
  |succ fuel=>
  unfold setSearchFrom;refine zb (QQ ho hd fit ?_);dsimp only;rw[zw (by rw[x.tok.odd];decide)];refine zb (ze ?_);rw[hst];obtain⟨d,d1,d2,d3⟩:=least (λm=>m=N\/∃ i:Nat,t.place[i]?=some (fJ t.mask (bN prog w ks) m).j/\∃ e:Int×Value,es[i]?=some e/\e.1=bN prog w ks) k n (.inl hn);have live:∀ m,m < N->∃ i:Nat,t.place[i]?=some (fJ t.mask (bN prog w ks) m).j/\∃ e,es[i]?=some e:=λm hm=>by
   obtain⟨i,hi,e⟩:=Array.getElem_of_mem (hp m hm);have hi':i < es.size:=by rw[<-x.tok.size];exact hi
   exact⟨i,by rw[ZY hi,e],es[i],ZY hi'⟩
  have pr:=KR x.tok.toTb (λi=>(es[i]?.map (·.1)).getD 0) (bN prog w ks) d (10 * SetTable.turns t.mask) n (by omega) λm a1 a2=>by
   have q:=d3 m a1 a2;obtain⟨i,e1,e,e2⟩:=live m (by omega);refine⟨i,e1,λq'=>q (.inr ⟨i,e1,e,e2,?_⟩)⟩;simpa[e2] using q'
  have prb:t.probe (λi=>(es[i]?.map (·.1)).getD 0) (bN prog w ks) (fJ t.mask (bN prog w ks) n)=SetTable.probe.go t (λi=>(es[i]?.map (·.1)).getD 0) (bN prog w ks) (10 * SetTable.turns t.mask) (fJ t.mask (bN prog w ks) n):=rfl;by_cases hE:n+d=N
  ·have p1:=pr.1 (by rw[hE];exact hf);rw[hE] at p1;show wpAny _ _ (match t.probe (λi=>(es[i]?.map (·.1)).getD 0) (bN prog w ks) (fJ t.mask (bN prog w ks) n) with|some met=>_|_=>_) _ _ _;rw[prb,p1];dsimp only;refine ze (h2 λhm=>?_);obtain⟨z,hz,ez⟩:=List.mem_map.mp hm;obtain⟨i,hi,e⟩:=QY hz;obtain⟨ee,e1,e2⟩:=wB x.rel (show zs[i]?=some z by rw[zS hi,e]);rw[qE] at e1;have hi':i < t.place.size:=by rw[x.tok.size,x.size];exact hi
   obtain⟨n0,b1,b2,b3⟩:=x.tok.reach i _ ee (ZY hi') e1;rw[e2.1,ez] at b2 b3;have lt:n0 < N:=by
    rcases Nat.lt_trichotomy n0 N with q|q|q
    ·exact q
    ·exfalso;rw[<-q] at hf;rw[b2] at hf;exact hf (Array.getElem_mem hi')
    ·exact absurd (b3 N q) hf
   by_cases q:n0 < n
   ·exact hb n0 q i (by rw[b2];exact ZY hi') z (by rw[zS hi,e]) ez
   ·exact d3 n0 (by omega) (by omega) (.inr ⟨i,by rw[b2];exact ZY hi',ee,e1,by rw[e2.1,ez]⟩)
  ·rcases d2 with q|⟨i,i1,e,i2,i3⟩
   ·exact absurd q hE
   ·have p2:=pr.2 i i1 (by simpa[i2] using i3);show wpAny _ _ (match t.probe (λi=>(es[i]?.map (·.1)).getD 0) (bN prog w ks) (fJ t.mask (bN prog w ks) n) with|some met=>_|_=>_) _ _ _;rw[prb,p2];dsimp only;obtain⟨z,z1,z2⟩:=get i2;have hv:∀ v∈((es.filter (·.1==bN prog w ks)).toList.map (·.2)),∃ c ls,v=.ref c/\IsTupleKey (aX prog w) s.heap ls c:=λv hv=>by
     obtain⟨u,hu',rfl⟩:=List.mem_map.mp hv;rw[Array.toList_filter,jS] at hu';obtain⟨jj,hj,ej⟩:=QY hu'.1;obtain⟨y,y1,y2⟩:=Iu x.rel (show es.toList[jj]?=some u by rw[zS hj,ej]);exact⟨y.2,y.1,by rw[y2.1],y2.2⟩
    have go:wpAny (model prog w) A (do
      let some (_,y):=es[i]?|unsupported "internal:set-entry"
      let equal <-holding [y] (eqBool y (.ref b))
      let (es',_,t') <-setState a
      if(true&&equal)=true then return SetFound.there none
      let some same:=t'.sameMemory t.moves t.mask|unsupported "set.changed-during-lookup:is-the-new-block-at-the-old-address"
      let still <-match (if same then t'.slot (fJ t.mask (bN prog w ks) (n+d)).j else .empty) with
       |.live i'=>match es'[i']? with
        |some (_,y')=>do pure (if <-isSame y' y then some i' else none)
        |none=>pure none
       |_=>pure none
      match still with
      |none=>rule "set.search.anew"; setSearchFrom a (.ref b) (bN prog w ks) true fuel none
      |some i'=>if equal then return .there (some i') else setSearchFrom a (.ref b) (bN prog w ks) true fuel (some (fJ t.mask (bN prog w ks) (n+d+1)))) Q E s:=by
     rw[i2,z2.1];dsimp only;refine zb (qi (wpAny_eqBool_tuple hu z2.2 hk ?_));refine zb (QQ ho hd fit ?_);dsimp only;by_cases hq:z.1=ks
     ·rw[QN hq];simp only[Bool.and_self,qq];exact ze (h1 (List.mem_map.mpr ⟨z,qV z1,hq⟩))
     ·rw[qa hq];simp only[yf,zk,ZH];have sm:t.sameMemory t.moves t.mask=some true:=by unfold SetTable.sameMemory;simp
      rw[sm];dsimp only;simp only[qq];rw[xY x.tok.toTb i1];dsimp only;rw[i2,z2.1];dsimp only;refine zb (wpAny_isSame_ref_self (zb (ze ?_)));simp only[qq];refine ih (N - (n+d+1)) (by omega) (n+d+1) fuel _ (by omega) (by omega) rfl λm hm i' j1 y y1=>?_;by_cases c1:m < n
      ·exact hb m c1 i' j1 y y1
      ·by_cases c2:m=n+d
       ·subst c2;have:i'=i:=by
         have s1:=Ca x.tok.rise j1;have s2:=Ca x.tok.rise i1;omega
        subst this;rw[z1] at y1;cases y1;exact hq
       ·have q:=d3 m (by omega) (by omega);intro e';obtain⟨ee,e1,e2⟩:=wB x.rel y1;rw[qE] at e1;exact q (.inr ⟨i',j1,ee,e1,by rw[e2.1,e']⟩)
    split
    ·refine zb (adP hk _ hv ?_);simp only[zk,ZH];exact go
    ·exact go
def Txs (ks:List Key):Prop:=∃ x:Str,(Sum.inr x:Key)∈ks
theorem W7 {ks:List Key} {b:Addr} {Q:Bool->Shared->Prop} (hk:IsTupleKey (aX prog w) s.heap ks b) (hx:Txs ks) (h:Q false s):wpAny (model prog w) A (hashByValue 8 (.ref b)) Q E s:=by
 have hT:=hk.typeIs;obtain⟨o,items,n,ho,_,hd,hi⟩:=hk;unfold hashByValue;refine zb (wpAny_specialOf hT F.slot_tuple_hash.lookup ?_);dsimp only;refine zb (wpAny_seqItems ho hd ?_);show wpAny _ _ (forIn items _ _ >>= _) _ _ s;refine zb ?_;rw[<-Array.forIn_toList];refine wpAny_forIn_list _ (λrest r s'=>r.1=none/\s'=s/\∃ left,ItemsAre (aX prog w) left rest/\Txs left) _ ?_ ?_ _ _ ⟨rfl,rfl,ks,hi,hx⟩
 ·rintro v rest r s' ⟨hr,rfl,left,hl,x,hx⟩;cases hl with
  |@cons k _ ks' _ h1 hl'=>
   rcases bC h1 with⟨i,t,rfl,rfl⟩|⟨y,t,rfl,rfl⟩
   ·have e:hashByValue 7 (.int i t)=pure true:=by unfold hashByValue;rfl
    rw[e];refine zb (ze ?_);simp only[kD,zk,ZH];refine ze ⟨rfl,rfl,ks',hl',x,?_⟩;rcases List.mem_cons.mp hx with q|q
    ·cases q
    ·exact q
   ·have e:hashByValue 7 (.str y t)=pure false:=by unfold hashByValue;rfl
    rw[e];refine zb (ze ?_);simp only[Ki,qq];exact ze (ze h)
 ·rintro⟨r1,r2⟩ s' ⟨hr,rfl,left,hl,x,hx⟩;cases hl;cases hx
theorem Ub {t:SetTable} {es:Array (Int×Value)} (h:Tok t es):Tok { t with plain:=false } es:={ mask:=h.mask,dum:=h.dum,rise:=h.rise,bd:=h.bd,full:=h.full,size:=h.size,reach:=h.reach }
theorem aaG {zs:List (List Key×Addr)} {ks:List Key} {b:Addr} {Q:Bool->Shared->Prop} (hu:A.units < cLine) (hS:Tu prog w s.heap a zs) (hk:IsTupleKey (aX prog w) s.heap ks b) (hx:Txs ks) (hroom:zs.length+1<=70)
  (h:∀ r h' zs',Heap.SameBut a s.heap h'->Tu prog w h' a zs'->(∀ z,z∈zs'↔z∈zs\/(z=(ks,b)/\ks∉zs.map (·.1)))->zs'.length<=zs.length+1->Q r { s with heap:=h' }):wpAny (model prog w) A (setAddHashed a (.ref b) (bN prog w ks)) Q E s:=by
 obtain⟨o,es,ep,t,ho,hex,hd,x⟩:=id hS;have hsz:=x.size;have fit:=x.tok.fits;have hld:=x.load;have hcl:o.cls≠.type "tuple" := by rw[hex.1];decide
 obtain⟨N,n1,n2,n3⟩:=O5 x.tok.toTb (bN prog w ks);have hturn:10 * SetTable.turns t.mask < 100000:=by
  unfold SetTable.turns;rcases x.tok.mask with e|e|e<;>rw[e]<;>decide
 unfold setAddHashed setAddHashedIn;refine qi (zb (QQ ho hd fit ?_));dsimp only;have hb:byScan (.ref b) es=false:=by unfold byScan;rfl
 rw[hb];simp only[zk,ZH];unfold setSearch;refine zb (search hu ho hd x hk n1 n2 n3 (λhm=>?_) (λhm=>?_) N 0 100000 none (by omega) (by omega) rfl λm hm=>absurd hm (kA _))
 ·dsimp only;exact ze (h _ s.heap zs (Heap.SameBut.refl a s.heap) hS (λz=>⟨.inl,λq=>q.elim id λq=>absurd hm q.2⟩) (kr _))
 ·dsimp only;refine zb (QQ ho hd fit ?_);dsimp only;have hj:=O6 (mask:=t.mask) (bN prog w ks) N;have hm7:es.size+1<=t.mask:=by rcases x.tok.mask with e|e|e<;>rw[e] at hld ⊢<;>omega
  obtain⟨pt,pl,pp,pm⟩:=aaB (x:=.ref b) x.tok n1 n2 n3 hj hm7;generalize hP:t.put (fJ t.mask (bN prog w ks) N).j=P at pt pl pp pm ⊢;obtain⟨t1,p⟩:=P;dsimp only at pt pl pp pm ⊢;have hil:(SetTable.insertAt es p (bN prog w ks,.ref b)).toList.Perm (es.toList++[(bN prog w ks,.ref b)]):=by
   rw[wA];refine(List.perm_middle).trans ?_;rw[List.take_append_drop];exact(List.perm_append_singleton _ _).symm
  have r0:Paired (TE prog w s.heap) (zs++[(ks,b)]) (es.toList++[(bN prog w ks,.ref b)]):=OJ x.rel (.cons ⟨rfl,hk⟩ .nil);obtain⟨zs1,q1,r1⟩:=yJ hil r0;have nd1:(zs1.map (·.1)).Nodup:=(q1.map (·.1)).nodup_iff.mpr (by
   rw[Q2];exact List.nodup_append.mpr ⟨x.nd,by simp,λu hu' v hv=>by simp at hv;subst hv;exact λe=>hm (e▸hu')⟩)
  have m1:∀ z,z∈zs1↔z∈zs\/(z=(ks,b)/\ks∉zs.map (·.1)):=λz=>by
   rw[q1.mem_iff,KS,List.mem_singleton];exact⟨λq=>q.imp id λe=>⟨e,hm⟩,λq=>q.imp id λe=>e.1⟩
  have l1:zs1.length=zs.length+1:=by rw[q1.length_eq];simp
  have s1:(SetTable.insertAt es p (bN prog w ks,Value.ref b)).size=es.size+1:=sV _ _ _;have up:∀ (hp:Heap) (ob:Obj) (e1 e2:Array (Int×Value)) (n1:Nat) (u1 u2:SetTable),hp.get? a=some ob->ob.data=.set e1 n1 u1->(hp.update a (Obj.putSet e2 u2)).get? a=some { ob with data:=.set e2 (n1+1) u2 }:=λhp ob e1 e2 n1 u1 u2 g q=>by
   have:=qB (Obj.putSet e2 u2) g (by rw[putSet_of e2 u2 q];rfl);rw[putSet_of e2 u2 q] at this;exact this
  have kp:∀ {h':Heap},Heap.SameBut a s.heap h'->∀ c oc,s.heap.get? c=some oc->oc.cls=.type "tuple" → h'.get? c=some oc:=λsb c oc e ec=>by
   rw[sb.2 c λq=>by subst q;rw[ho] at e;cases e;exact hcl ec];exact e
  have fin:∀ t2:SetTable,Tok t2 (SetTable.insertAt es p (bN prog w ks,.ref b))->t2.led=t1.led->t2.plain=false->t2.mask=t1.mask->wpAny (model prog w) A (do
    storeSet a (SetTable.insertAt es p (bN prog w ks,.ref b)) t2
    if(!false&&t2.tooFull)=true then setRelay a (SetTable.grown (es.size+1))
    pure true) Q E s:=by
   intro t2 k2 l2 p2 m2;have g1:=up s.heap o es (SetTable.insertAt es p (bN prog w ks,.ref b)) ep t t2 ho hd;refine zb (wpAny_storeSet_of ho hd ?_ (fits_of_scanBound (by rw[s1];have:scanBound=4096:=rfl;omega)));have sb1:Heap.SameBut a s.heap (s.heap.update a (Obj.putSet (SetTable.insertAt es p (bN prog w ks,.ref b)) t2)):=Heap.SameBut.update ..;have hfill:t2.fill=es.size+1:=by unfold SetTable.fill;rw[k2.dum,k2.size,s1];rfl
   have afO:w.params.followText "set-order" = false->t2.led=true:=λq=>l2.trans (pl.trans (x.led q));by_cases wC:t2.tooFull=true
   ·rw[wC];simp only[Ki,Bool.and_self,qq];have hf:t2.fill * 5>=t2.mask * 3:=by unfold SetTable.tooFull at wC;simpa using wC
    rw[hfill,m2,pm] at hf;have hg:SetTable.grown (es.size+1)=(es.size+1) * 4:=by unfold SetTable.grown;rw[zw (by omega)]
    have cas:(es.size=4/\t.mask=7)\/(es.size=18/\t.mask=31):=by
     rcases x.tok.mask with e|e|e<;>rw[e] at hf hld
     ·exact .inl ⟨by omega,e⟩
     ·exact .inr ⟨by omega,e⟩
     ·omega
    have hsa:(es.size=4->SetTable.sizeAbove (SetTable.grown (es.size+1))=32)/\(es.size=18->SetTable.sizeAbove (SetTable.grown (es.size+1))=128):=by
     rw[hg];exact⟨λe=>by rw[e];decide,λe=>by rw[e];decide⟩
    have hms:SetTable.sizeAbove (SetTable.grown (es.size+1)) - 1=31/\es.size=4\/SetTable.sizeAbove (SetTable.grown (es.size+1)) - 1=127/\es.size=18:=by
     rcases cas with⟨e,_⟩|⟨e,_⟩
     ·exact .inl ⟨by rw[hsa.1 e],e⟩
     ·exact .inr ⟨by rw[hsa.2 e],e⟩
    obtain⟨t3,order,e3,pr3,k3,l3,p3,m3⟩:=Ua (t:=t2) (es:=SetTable.insertAt es p (bN prog w ks,.ref b)) (wanted:=SetTable.grown (es.size+1)) (by rcases hms with⟨e,_⟩|⟨e,_⟩<;>rw[e]<;>simp) (by rw[s1];rcases hms with⟨e,e'⟩|⟨e,e'⟩<;>rw[e,e']<;>decide);unfold setRelay;refine zb (zb (QQ g1 rfl k2.fits ?_));dsimp only;have hsl:¬ (SetTable.sizeAbove (SetTable.grown (es.size+1)) > sizeLine):=by
     rcases cas with⟨e,_⟩|⟨e,_⟩
     ·rw[hsa.1 e];decide
     ·rw[hsa.2 e];decide
    rw[zw hsl];have sz3:(order.filterMap (λi=>(SetTable.insertAt es p (bN prog w ks,Value.ref b))[i]?)).size=(SetTable.insertAt es p (bN prog w ks,Value.ref b)).size:=by
     rw[<-qc,pr3.length_eq,qc]
    rw[e3];refine zb ?_;show wpAny _ _ (if((order.filterMap (λi=>(SetTable.insertAt es p (bN prog w ks,Value.ref b))[i]?)).size != (SetTable.insertAt es p (bN prog w ks,Value.ref b)).size)=true then _ else pure (order.filterMap (λi=>(SetTable.insertAt es p (bN prog w ks,Value.ref b))[i]?),t3)) _ _ _;rw[zw (by rw[sz3];simp)];refine ze ?_;dsimp only;refine wpAny_storeSet_of g1 rfl ?_ (fits_of_scanBound (by rw[sz3,s1];have:scanBound=4096:=rfl;omega));have g2:=up _ _ (SetTable.insertAt es p (bN prog w ks,.ref b)) (order.filterMap (λi=>(SetTable.insertAt es p (bN prog w ks,Value.ref b))[i]?)) _ t2 t3 g1 rfl;have sb2:Heap.SameBut a s.heap ((s.heap.update a (Obj.putSet (SetTable.insertAt es p (bN prog w ks,.ref b)) t2)).update a (Obj.putSet (order.filterMap (λi=>(SetTable.insertAt es p (bN prog w ks,Value.ref b))[i]?)) t3)):=sb1.trans (Heap.SameBut.update ..);obtain⟨zs2,q2,r2⟩:=yJ pr3 r1;refine ze (h _ _ zs2 sb2 ⟨_,_,_,t3,g2,hex,rfl,⟨K3 (kp sb2) r2,(q2.map (·.1)).nodup_iff.mpr nd1,k3,?_,λq=>l3.trans (afO q),λ_=>p3.trans p2⟩⟩ (λz=>by rw[q2.mem_iff];exact m1 z) (by rw[q2.length_eq];omega));rw[sz3,s1,m3];rcases hms with⟨e,e'⟩|⟨e,e'⟩<;>rw[e,e']<;>decide
   ·have wC:t2.tooFull=false:=by simpa using wC
    rw[wC];simp only[yf,zk,ZH];refine zb (ze ?_);refine ze (h _ _ zs1 sb1 ⟨_,_,_,t2,g1,hex,rfl,⟨K3 (kp sb1) r1,nd1,k2,?_,afO,λ_=>p2⟩⟩ m1 (by omega));unfold SetTable.tooFull at wC;rw[hfill] at wC;rw[s1];simpa using wC
  split
  ·refine zb (W7 hk hx ?_);simp only[zk,ZH];exact fin { t1 with plain:=false } (Ub pt) rfl rfl rfl
  ·rename_i hp;refine zb (ze ?_);simp only[qq];exact fin t1 pt rfl (by simpa using hp) rfl
end
end S6
end
section
namespace S1
open PySem PySem.Spec PyProof.Rows L2
section
variable {prog:Program} {w:World} {A:Around} {E:VP_} {s:Shared}
theorem O8 {x:Value} (G:List Value->Prop) (kd:SortKind) (rk:List Value->Value->Nat) {Q:VP_} (adI:∀ (E':VP_) (Q':List Value->Shared->Prop),(∀ vs h' d tk,G vs->s.heap.objs.size<=h'.objs.size->(∀ c o,s.heap.get? c=some o->h'.get? c=some o)->Q' vs { s with heap:=h',drawn:=d,toks:=tk })->wpAny (model prog w) A.in1 (collect x) Q' E' s)
  (hK:∀ vs,G vs->2<=vs.length->∀ (E':VP_) (A':Around) (s':Shared),(∀ c o,s.heap.get? c=some o->s'.heap.get? c=some o)->∀ Q:SortKind->Shared->Prop,Q kd s'->wpAny (model prog w) A' (keyKind' vs.toArray) Q E' s') (hC:∀ vs,G vs->∀ (A':Around) (s':Shared),(∀ c o,s.heap.get? c=some o->s'.heap.get? c=some o)->Vg prog w A' s' kd (rk vs) (pairsOf vs)) (h64:∀ vs,G vs->vs.length < 64)
  (h:∀ vs,G vs->∀ (l:Addr) (h':Heap) (d:Drawn) (tk n:Nat) (st:SortSt),(arrOf st).Perm (pairsOf vs)->Up (rk vs) (arrOf st) (pairsOf vs).size->s.heap.objs.size<=l->(∀ c o,s.heap.get? c=some o->h'.get? c=some o)->h'.get? l=some (seqObj "list" ((arrOf st).map (·.2)) n)->Q (.ref l) { s with heap:=h',drawn:=d,toks:=tk }) :
  wpAny (model prog w) A (call (.builtin "sorted") [x]) Q E s:=by
 refine Calls.call_function_entry kind_sorted plain_sorted entry_sorted (args_sorted1 _) ?_;unfold Builtin.«sorted»;refine zb (m:=checkCount "sorted" 1 1 _) (ze (zb (adI _ _ λvs h1 d tk hG hle ext=>?_)));have aj0:=h64 vs hG;refine zb (wpAny_newList ?_);have hoL:(h1.push (seqObj "list" vs.toArray 0)).get? h1.objs.size=some (seqObj "list" vs.toArray 0):=zt _ rfl;have old:∀ s':Shared,Old h1.objs.size { s with heap:=h1.push (seqObj "list" vs.toArray 0),drawn:=d,toks:=tk } s'->∀ c o,s.heap.get? c=some o->s'.heap.get? c=some o:=λs' q c o e=>
  q c o (zC (zv (ext c o e))) (zd _ (ext c o e))
 refine zb (qi (JJ slot_list_sort ⟨_,hoL,rfl⟩ entry_list_sort (ab0 hoL (λq s' o=>hK vs hG q _ _ s' (old s' o)) (λs' o=>hC vs hG _ s' (old s' o)) (h64 vs hG) λst q1 q2=>⟨_,rfl,ze ⟨_,rfl,?_⟩⟩) (args_list_sort _)));obtain⟨n,en⟩:=sortedHeap_at (out:=(arrOf st).map (·.2)) hoL;refine h vs hG h1.objs.size _ d tk n st q1 q2 hle (λc o e=>?_) en;have hb:=zv (ext c o e);rw[sortedHeap_old (zC hb) (by rw[qh];exact qr hb)];exact zd _ (ext c o e)
end
end S1
end
section
namespace P1
open PySem PySem.Spec PyProof.Rows L2 S6
section
variable {X:Cx}
theorem Uc {pins:List (Addr×Obj)} {σ:L2.St} {H:Hp} {s:Shared} {d:Drawn} (I:Inv X pins σ H s):Inv X pins σ H { s with drawn:=d }:=⟨I.ok,I.os,I.bare,I.base,I.loc,I.cell,I.free,I.gZ,I.pin,I.hok,I.len⟩
variable {x:Str} {e:Expr} {f:Ev->Option Bx} {fs:Ev->Option LS_} {p pos:Pos}
end
section
variable {X:Cx}
end
section
variable {X:Cx} {elt tgt iter:Expr} {ifs:List Expr} {scope:Scope} {cl:List (Str×Addr)} {pos:Pos} {xs ts:LS_} {is:List Nat} {gt:Dt->Ev->Option Ev} {p:Ev->Option Bool} {fe:Ev->Option Bx} {fi:Ev->Option (List Dt)}
end
section
variable {X:Cx} {elt tgt iter:Expr} {ifs:List Expr} {scope:Scope} {cl:List (Str×Addr)} {pos:Pos} {xs:LS_} {is:List Nat} {gt:Dt->Ev->Option Ev} {p:Ev->Option Bool} {fe:Ev->Option Bx} {fi:Ev->Option (List Dt)}
variable {e:Expr} {f:Ev->Option Bx} {fs:Ev->Option LS_} {p':Pos}
end
end P1
end
section
namespace P1
open PySem PySem.Spec PyProof.Rows L2 S1 S6
section
variable {X:Cx}
def Ts (prog:Program) (w:World) (h:Heap) (a:Addr) (zs:List (List Key×Addr)):Prop:=∃ o es ep t,h.get? a=some o/\o.ExactSet/\o.data=.set es ep t/\es.toList=zs.map (λz=>(bN prog w z.1,(.ref z.2:Value)))/\t.fits es.size=true/\(w.params.followText "set-order" = false->t.led=true)/\(0 < es.size->t.plain=false)
theorem K4 {prog:Program} {w:World} {h:Heap}:∀ {zs:List (List Key×Addr)} {l:List (Int×Value)},Paired (TE prog w h) zs l->l=zs.map (λz=>(bN prog w z.1,(.ref z.2:Value)))
 |_,_,.nil=>rfl
 |_,_,.cons r t=>by rw[zo,<-K4 t,r.1]
theorem Ts.of {prog:Program} {w:World} {h:Heap} {a:Addr} {zs:List (List Key×Addr)} (x:Tu prog w h a zs):Ts prog w h a zs:=
 let ⟨o,es,ep,t,e,r,d,q⟩:=x;⟨o,es,ep,t,e,r,d,K4 q.rel,q.tok.fits,q.led,q.non⟩
theorem Ts.keep {prog:Program} {w:World} {h h':Heap} {a:Addr} {zs:List (List Key×Addr)} (x:Ts prog w h a zs) (k:∀ o,h.get? a=some o->h'.get? a=some o):Ts prog w h' a zs:=
 let ⟨o,es,ep,t,e,r⟩:=x;⟨o,es,ep,t,k o e,r⟩
def hoU (X:Cx) (a:Addr) (zs:List (List Key×Addr)):HO:=.ext λh=>Ts X.prog X.w h a zs
theorem W8 (X:Cx) {ks:List Key} {us:List Value} (h:Ks ks us):ItemsAre (aX X.prog X.w) ks us:=by
 induction h with
 |nil=>exact .nil
 |cons r _ ih=>exact .cons r ih
theorem W9 (X:Cx) {ks:List Key} {us:List Value} (h:ItemsAre (aX X.prog X.w) ks us):Ks ks us:=by
 induction h with
 |nil=>exact .nil
 |cons r _ ih=>exact .cons r ih
theorem K5 (X:Cx) {h:Heap} {ks:List Key} {v:Value} (q:iB h ks v):∃ b,v=.ref b/\IsTupleKey (aX X.prog X.w) h ks b:=by
 obtain⟨a,o,its,n,e,g,c,d,p⟩:=q;exact⟨a,e,o,its.toArray,n,g,c,d,by simpa using W8 X p⟩
theorem Xa (X:Cx) {h:Heap} {ks:List Key} {b:Addr} (q:IsTupleKey (aX X.prog X.w) h ks b):iB h ks (.ref b):=by
 obtain⟨o,its,n,g,c,d,p⟩:=q;exact⟨b,o,its.toList,n,rfl,g,c,by simpa using d,W9 X p⟩
def afQ (X:Cx):List V->Hp->VK->Prop:=λxs H Q=>∃ v b ds bU,xs=[v]/\bf X.K H b v/\uX b=some ds/\ql ds=some bU/\bU.length<=64/\(∀ k∈bU,Txs k) ∧
 ∀ a zs H',Same H H'->H' a=some (hoU X a zs)->(∀ k,k∈zs.map (·.1)↔k∈bU)->(zs.map (·.1)).Nodup->(∀ z∈zs,Rep X.K H' (tupK z.1) (.ref z.2))->Q (.ref a) H'
def CU (X:Cx) (S:Addr) (its:List Value) (h:Heap) (ys:List (List Key)):Prop:=∃ zs,zs.map (·.1)=ys/\Tu X.prog X.w h S zs/\∀ z∈zs,(.ref z.2:Value)∈its
theorem wD {h:Heap}:∀ {bU:List (List Key)} {vs:List Value},Paired (iB h) bU vs->∀ {i:Nat} {v:Value},vs[i]?=some v->∃ k,bU[i]?=some k/\iB h k v
 |_,_,.nil,i,v,q=>by simp at q
 |_,_,.cons r _,0,v,q=>by simp at q;subst q;exact⟨_,rfl,r⟩
 |_,_,.cons _ t,i+1,v,q=>by
  rw[ZO] at q;obtain⟨z,z1,z2⟩:=wD t q;exact⟨z,by rw[ZO];exact z1,z2⟩
theorem K6 {h0:Heap} {S:Addr} {bU:List (List Key)} {its:List Value} (hs:Paired (iB h0) bU its) (hl:bU.length<=64) (hx:∀ k∈bU,Txs k) (hS:h0.objs.size=S):Adds X.prog X.w S [S+1] (λh zs=>(∀ b o,h0.get? b=some o->h.get? b=some o)/\CU X S its h zs) (λi v=>its.toArray[i]?=some v) (λi=>bU.getD i []) its.length where
 keep:=λh h' ys t k=>by
  obtain⟨t0,zs,e,t,m⟩:=t;have k':∀ b o,(b=S\/b < S)->h.get? b=some o->h'.get? b=some o:=λb o hb e=>k b o (by
   simp only[QR,Q4,or_false];rcases hb with rfl|hb
   ·exact zC (qo _)
   ·exact zC (qr hb)) e
  have old:∀ b o,h0.get? b=some o->h'.get? b=some o:=λb o e=>k' b o (.inr (by rw[<-hS];exact zv e)) (t0 b o e);refine⟨old,zs,e,?_,m⟩;obtain⟨o,es,ep,tt,g,r,d,q⟩:=t;refine⟨o,es,ep,tt,k' S o (.inl rfl) g,r,d,⟨?_,q.nd,q.tok,q.load,q.led,q.non⟩⟩;have key:∀ {zs:List (List Key×Addr)} {l:List (Int×Value)},Paired (TE X.prog X.w h) zs l->(∀ z∈zs,(.ref z.2:Value)∈its)->Paired (TE X.prog X.w h') zs l:=by
   intro zs l r
   induction r with
   |nil=>intro _;exact .nil
   |cons q _ ih=>
    intro m;refine .cons ⟨q.1,Ro q.2 λo e c=>?_⟩ (ih λz hz=>m z (zr _ hz));obtain⟨i,hi,ei⟩:=QY (m _ (zi ..));obtain⟨kk,_,tv⟩:=wD hs (show its[i]?=some _ by rw[zS hi,ei]);obtain⟨b,eb,⟨ob,_,_,gb,_⟩⟩:=K5 X tv;cases eb;exact k' _ o (.inr (by rw[<-hS];exact zv gb)) e
  exact key q.rel m
 add:=λA E s i v ys Q hu hi hP hC hz h=>by
  obtain⟨t0,zs,e,t,m⟩:=hC;have hP:its[i]?=some v:=by simpa using hP
  obtain⟨ks,e1,tv⟩:=wD hs hP;have tv':=tv.keep t0;obtain⟨b,rfl,hk⟩:=K5 X tv';have hv:bU.getD i []=ks:=by simp[List.getD,e1]
  have hlen:its.length=bU.length:=hs.length.symm;have hyl:zs.length=ys.length:=by rw[<-e,zh]
  unfold setAdd;refine qi (zb (wpAny_pyHash_tuple hu hk ?_));refine aaG (s:={ s with toks:=s.toks+(ks.length+1) }) hu t hk (hx ks (qV e1)) (by omega) λr h' zs' sb t' mm l=>?_;refine h r h' _ (zs'.map (·.1)) sb ⟨λc o g=>?_,zs',rfl,t',λz hz=>?_⟩ (λz=>?_) (by rw[zh];omega) (Nat.le_add_right _ _)
  ·rw[sb.2 c λq=>by subst q;have:=zv g;rw[hS] at this;exact JE _ this];exact t0 c o g
  ·rcases(mm z).mp hz with q|⟨q,_⟩
   ·exact m z q
   ·subst q;exact qV hP
  ·rw[hv,<-e,Kb,Kb];constructor
   ·rintro⟨y,hy,rfl⟩;rcases(mm y).mp hy with q|⟨q,_⟩
    ·exact .inl ⟨y,q,rfl⟩
    ·exact .inr (congrArg Prod.fst q)
   ·rintro(⟨y,hy,ey⟩|ez)
    ·exact⟨y,(mm y).mpr (.inl hy),ey⟩
    ·rw[ez];by_cases q:ks∈zs.map (·.1)
     ·obtain⟨y,hy,ey⟩:=List.mem_map.mp q;exact⟨y,(mm y).mpr (.inl hy),ey⟩
     ·exact⟨(ks,b),(mm _).mpr (.inr ⟨rfl,q⟩),rfl⟩
theorem aaH (hc:X.calm=true) (hu:X.A.units+100 < cLine):fB X (.type "set") (afQ X):=by
 intro pins s σ H xs us Q I r h;obtain⟨v,b,ds,bU,rfl,rb,ed,ek,hl,hx,q⟩:=h;obtain⟨u,rfl,ru⟩:=vals1 r;obtain⟨p,vs,rfl,sq,rs⟩:=Ik rb ed;have eds:=xV ek;subst eds;cases ru;have hh:=I.ok.hd hc;have fin:∀ (h':Heap) (tk:Nat) (ys:List (List Key)) (its:List Value),Vals vs its->((∀ b o,s.heap.get? b=some o->h'.get? b=some o)/\CU X s.heap.objs.size its h' ys)->(∀ z,z∈ys↔∃ j,j < its.length/\z=bU.getD j [])->(∀ b ob,s.heap.get? b=some ob->h'.get? b=some ob)->EP X pins σ Q (.ref s.heap.objs.size) { s with heap:=h',toks:=tk }:=by
  intro h' tk ys its rv cu hm k;obtain⟨_,zs,e,t,m⟩:=cu;have hfr:=I.hok.fresh (zg s.heap.objs.size);have hlen:its.length=bU.length:=by rw[<-rv.length,rs.length,zh]
  have tv:=nY I rs rv;refine⟨.ref s.heap.objs.size,_,I.laid (t':=tk) (a:=s.heap.objs.size) (o:=hoU X s.heap.objs.size zs) k (zg _) ?_,rfl,q _ zs _ (bG hfr) aQ (λz=>?_) ?_ λz hz=>?_⟩
  ·obtain⟨o,es,ep,t',ho,_⟩:=id t;exact⟨Ts.of t,⟨o,ho⟩,λh1 h2 t1 k1=>Ts.keep t1 k1⟩
  ·rw[e,hm z];constructor
   ·rintro⟨j,hj,rfl⟩;rw[hlen] at hj;simp[List.getD,hj]
   ·intro hz;obtain⟨j,hj,e⟩:=QY hz;exact⟨j,by rw[hlen];exact hj,by simp[List.getD,hj,e]⟩
  ·obtain⟨o,es,ep,t',ho,_,_,x⟩:=t;exact x.nd
  ·obtain⟨o,es,ep,t',ho,_,_,x⟩:=t;obtain⟨i,hi,ei⟩:=QY hz;obtain⟨ee,_,te⟩:=wB x.rel (show zs[i]?=some z by rw[zS hi,ei]);have tz:=Xa X te.2;have hz':=m z hz;obtain⟨j,hj,ej⟩:=QY hz';obtain⟨kk,_,tv1⟩:=wD tv (show its[j]?=some (.ref z.2) by rw[zS hj,ej]);have ek:kk=z.1:=(tv1.keep k).inj tz;obtain⟨w1,r1,r2⟩:=xW I rs rv (Vh:=[kk]) (out:=[.ref z.2]) (.cons tv1 .nil) (λu hu=>by cases List.mem_singleton.mp hu;exact hz');cases r1 with
   |@cons w0 _ _ _ r0 r1=>
    cases r1;simp only[zo,ku,aK] at r2;obtain⟨v0,r',ev,q0,_⟩:=r2;simp only[ka] at ev;rw[<-ev.1] at q0;have hw:w0=V.ref z.2:=by
     have q1:=q0;simp only[tupK,Rep] at q1;obtain⟨a0,ws,e0,_⟩:=q1;subst e0;cases r0;rfl
    rw[<-ek,<-hw];exact q0.kp (.of (bG hfr))
 have Xb:∀ h':Heap,h'.get? s.heap.objs.size=some (blank X.w)->∀ its:List Value,CU X s.heap.objs.size its h' []:=λh' e its=>
  ⟨[],rfl,⟨_,#[],0,_,e,⟨rfl,rfl,rfl⟩,rfl,⟨.nil,ya,{ mask:=.inl rfl,dum:=rfl,rise:=λi j _ hj=>absurd hj (kA _),bd:=λj hj=>by simp[SetTable.fresh] at hj,full:=QP _,size:=rfl,reach:=λi j e h1=>by simp[SetTable.fresh] at h1 },(show 0 * 5 < 7 * 3 by decide),λq=>by simp[SetTable.fresh,q],λq=>absurd q (JE _)⟩⟩,λz hz=>by cases hz⟩
 rcases sq with sq|sq
 ·obtain⟨its,r',pl,hz⟩:=I.list sq;obtain⟨o,g,c,n,d⟩:=pl.isList;refine WT (by omega) (T := "list") hh g c (.inl rfl) (P:=λi v=>its.toArray[i]?=some v) (n:=its.length) (λA' E' Q' h0 hA k0 hq=>?_) (K6 (nY I rs r') hl hx rfl) (λh' e k=>⟨k,Xb h' e its⟩) λh' tk zs tx hm k=>fin h' tk zs its r' tx hm k;refine wpAny_pyIter_list (items:=its.toArray) ⟨o,k0 _ _ g,c,n,d⟩ ?_;have hne:p≠h0.objs.size:=zC (zv (k0 _ _ g));refine hq _ (λi h=>h.IsListIter h0.objs.size p i/\h.IsList p its.toArray) (λA' hA=>by have:=Walks.list (prog:=X.prog) (w:=X.w) hA h0.objs.size p hne its.toArray;rw[zz] at this;exact this) ⟨⟨_,zt _ rfl,rfl,rfl⟩,⟨o,zd _ (k0 _ _ g),c,n,d⟩⟩ λb ob e=>zd _ e
 ·obtain⟨its,r',pl,hz⟩:=I.tuple sq;obtain⟨o,g,c,n,d⟩:=id pl;refine WT (by omega) (T := "tuple") hh g c (.inr rfl) (P:=λi v=>its.toArray[i]?=some v) (n:=its.length) (λA' E' Q' h0 hA k0 hq=>?_) (K6 (nY I rs r') hl hx rfl) (λh' e k=>⟨k,Xb h' e its⟩) λh' tk zs tx hm k=>fin h' tk zs its r' tx hm k;refine wpAny_pyIter_tuple (items:=its.toArray) ⟨o,k0 _ _ g,c,n,d⟩ ?_;have hne:p≠h0.objs.size:=zC (zv (k0 _ _ g));refine hq _ (λi h=>h.IsTupleIter h0.objs.size p i/\h.IsTuple p its.toArray) (λA' hA=>by have:=Walks.tuple (prog:=X.prog) (w:=X.w) hA h0.objs.size p hne its.toArray;rw[zz] at this;exact this) ⟨⟨_,zt _ rfl,rfl,rfl⟩,⟨o,zd _ (k0 _ _ g),c,n,d⟩⟩ λb ob e=>zd _ e
theorem adQ {pins:List (Addr×Obj)} {σ:L2.St} {H:Hp} {s:Shared} (I:Inv X pins σ H s) {a:Addr} {zs:List (List Key×Addr)} (h:H a=some (hoU X a zs)):Ts X.prog X.w s.heap a zs:=(I.hok _ _ h).1
def afR (X:Cx):List V->Hp->VK->Prop:=λxs H Q=>∃ a zs,xs=[.ref a]/\H a=some (hoU X a zs)/\zc (zs.map (·.1))=true/\(∀ z∈zs,Rep X.K H (tupK z.1) (.ref z.2))/\∀ l H' us,Same H H'->H l=none->H' l=some (.lst us)->aK X.K H' ((jl (zs.map (·.1))).map tupK) us->Q (.ref l) H'
theorem aaI (hc:X.calm=true):fB X (.builtin "sorted") (afR X):=by
 intro pins s σ H xs us Q I r h;obtain⟨a,zs,rfl,ha,hs,hrep,q⟩:=h;obtain⟨u,rfl,ru⟩:=vals1 r;cases ru;simp only[zc,Zz,ZU,Z3,qv] at hs;obtain⟨h64,hne,hsh⟩:=hs;rw[zh] at h64;obtain⟨o,es,ep,t,ho,hex,hd,hl',ft,ahT,afS⟩:=adQ I ha;have hz:es.size=zs.length:=by rw[<-qc,hl',zh]
 have wk:Wk X.w s.heap a es ep t:=⟨⟨o,ho,hex.1,hd⟩,ft,ahT,λq=>afS (by omega)⟩;have rs0:aK X.K H ((zs.map (·.1)).map tupK) (zs.map λz=>(V.ref z.2))/\Vals (zs.map λz=>(V.ref z.2)) (zs.map λz=>(.ref z.2:Value)):=by
  clear hl' ha q h64 hne hsh hz wk afS
  induction zs with
  |nil=>exact⟨aK.nil,.nil⟩
  |cons z zs ih=>
   obtain⟨i1,i2⟩:=ih λy hy=>hrep y (zr _ hy);exact⟨aK.cons (hrep z (zi ..)) i1,.cons rfl i2⟩
 have tv0:=nY I rs0.1 rs0.2;have tz:∀ z∈zs,iB s.heap z.1 (.ref z.2):=λz hz'=>by
  have:=nY I (bU:=[z.1]) (vs:=[V.ref z.2]) (its:=[.ref z.2]) (aK.cons (hrep z hz') aK.nil) (.cons rfl .nil);cases this with
  |cons q' _=>exact q'
 refine O8 (λvs=>∃ ys:List (List Key×Addr),ys.Perm zs/\vs=ys.map λz=>(.ref z.2:Value)) (tuples' true) (λvs v=>rank (vs.map λu=>keyOf (zs.map (·.1)) (zs.map λz=>(.ref z.2:Value)) u) (keyOf (vs.map λu=>keyOf (zs.map (·.1)) (zs.map λz=>(.ref z.2:Value)) u) vs v))
  (λE' Q' hq=>KQ (by exact I.ok.hd hc) wk (by rw[hz,sizeLine_eq];omega) λord h1 d tk hp hle ext=>hq ord h1 d tk ?_ hle ext) ?_ ?_ ?_ ?_
 ·rw[hl',Qb] at hp;have:∀ {ord vs:List Value},ord.Perm vs->∀ zs:List (List Key×Addr),vs=zs.map (λz=>(.ref z.2:Value))->∃ ys:List (List Key×Addr),ys.Perm zs/\ord=ys.map λz=>(.ref z.2:Value):=by
   intro ord vs hp
   induction hp with
   |nil=>intro zs e;cases zs with|nil=>exact⟨[],.refl _,rfl⟩|cons _ _=>cases e
   |cons y _ ih=>
    intro zs e;cases zs with
    |nil=>cases e
    |cons z zs=>
     rw[zo] at e;injection e with e1 e2;obtain⟨ys,p1,p2⟩:=ih zs e2;exact⟨z::ys,p1.cons _,by rw[zo,e1,p2]⟩
   |swap y1 y2 l=>
    intro zs e
    match zs,e with
    |z1::z2::zs,e=>
     simp only[zo,ka] at e;exact⟨z2::z1::zs,List.Perm.swap _ _ _,by simp only[zo];rw[e.1,e.2.1,e.2.2]⟩
    |[_],e=>simp at e
    |[],e=>cases e
   |trans _ _ ih1 ih2=>
    intro zs e;obtain⟨ys,p1,p2⟩:=ih2 zs e;obtain⟨us,q1,q2⟩:=ih1 ys p2;exact⟨us,q1.trans p1,q2⟩
  exact this hp zs rfl
 all_goals
  intro vs hG;obtain⟨ys,py,rfl⟩:=hG;have hm:∀ v∈(ys.map λz=>(.ref z.2:Value)),v∈(zs.map λz=>(.ref z.2:Value)):=λv hv=>((py.map _).mem_iff).mp hv;have tvK:∀ v∈(ys.map λz=>(.ref z.2:Value)),iB s.heap (keyOf (zs.map (·.1)) (zs.map λz=>(.ref z.2:Value)) v) v:=λv hv=>(jE tv0 v (hm v hv)).2;have tv:=u6 tvK;have eks:(ys.map λz=>(.ref z.2:Value)).map (λu=>keyOf (zs.map (·.1)) (zs.map λz=>(.ref z.2:Value)) u)=ys.map (·.1):=by
   rw[Qb];refine j0 λz hz=>?_;have hz':=py.mem_iff.mp hz;exact(tvK (.ref z.2) (List.mem_map.mpr ⟨z,hz,rfl⟩)).inj (tz z hz')
  have mk:∀ k∈(ys.map λz=>(.ref z.2:Value)).map (λu=>keyOf (zs.map (·.1)) (zs.map λz=>(.ref z.2:Value)) u),k∈zs.map (·.1):=λk hk=>by
   rw[eks] at hk;exact((py.map _).mem_iff).mp hk
 ·intro h2 E' A' s' k Q' hq;exact Gm (Paired.imp' (λ_ _ z=>iB.keep z k) tv) (λk hk=>by have:=hne k (mk k hk);cases k with|nil=>cases this|cons _ _=>exact List.cons_ne_nil _ _) (λk hk l hl=>BR (hsh k (mk k hk) l (mk l hl))) (by omega) hq
 ·intro A' s' k;exact Kv (Paired.imp' (λ_ _ z=>iB.keep z k) tv) λk hk l hl=>BR (hsh k (mk k hk) l (mk l hl))
 ·rw[zh,py.length_eq];exact h64
 ·intro l h' d tk n st hp up hl ext hL;have out:=Kw tv hp up;have mem:∀ u∈((arrOf st).map (·.2)).toList,u∈(ys.map λz=>(.ref z.2:Value)):=λu hu=>by
   rw[Array.toList_map] at hu;obtain⟨pr,hpr,rfl⟩:=List.mem_map.mp hu;have adL:pr∈(ys.map λz=>(.ref z.2:Value)).zip (ys.map λz=>(.ref z.2:Value)):=by rw[<-pairsOf_toList];exact(Array.perm_iff_toList_perm.mp hp).mem_iff.mp hpr
   have:=mem_zip_self adL;rw[<-this.1];exact this.2
  have hH:H l=none:=I.hok.fresh hl;have back:∀ {Vh:List (List Key)} {out:List Value},Paired (iB s.heap) Vh out->(∀ u∈out,u∈(ys.map λz=>(.ref z.2:Value)))->∃ ws,Vals ws out/\aK X.K H (Vh.map tupK) ws:=by
   intro Vh out pr
   induction pr with
   |nil=>intro _;exact⟨[],.nil,aK.nil⟩
   |cons q0 _ ih=>
    intro hm';obtain⟨ws,w1,w2⟩:=ih λu hu=>hm' u (zr _ hu);obtain⟨z,hz,ez⟩:=List.mem_map.mp (hm' _ (zi ..));subst ez;have hz':=py.mem_iff.mp hz;have ek:=q0.inj (tz z hz');refine⟨.ref z.2::ws,.cons rfl w1,?_⟩;rw[zo,ek];exact aK.cons (hrep z hz') w2
  obtain⟨ws,w1,w2⟩:=back out mem;rw[eks] at w2;have es:jl (ys.map (·.1))=jl (zs.map (·.1)):=pJ ((jZ _).trans (py.map _)) (sO _);rw[es] at w2;have hzl:ws.length=zs.length:=by rw[w2.length,zh,(jZ _).length_eq,zh]
  refine⟨.ref l,_,Uc (d:=d) (I.laid (t':=tk) (a:=l) (o:=.lst ws) ext hl ⟨by rw[hzl,sizeLine_eq];omega,_,n,w1,?_⟩),rfl,q _ _ ws (bG hH) hH aQ (w2.kp (.of (bG hH)))⟩;rw[hL]
end
def Gv {α:Type} [DecidableEq α]:List α->List α
 |[]=>[]
 |y::ys=>if y∈ys then Gv ys else y::Gv ys
section
variable {α:Type} [DecidableEq α]
theorem qm:∀ {ys:List α} {z:α},z∈Gv ys↔z∈ys
 |[],z=>by simp[Gv]
 |y::ys,z=>by
  unfold Gv;split
  ·rename_i h;rw[qm,QR];exact⟨.inr,λq=>q.elim (λe=>e▸h) id⟩
  ·rw[QR,QR,qm]
theorem Iv:∀ (ys:List α),(Gv ys).Nodup
 |[]=>ya
 |y::ys=>by
  unfold Gv;split
  ·exact Iv ys
  ·rename_i h;exact List.nodup_cons.mpr ⟨λq=>h (qm.mp q),Iv ys⟩
theorem z9:∀ (ys:List α),(Gv ys).length<=ys.length
 |[]=>zg _
 |y::ys=>by
  have:=z9 ys;unfold Gv;split<;>simp<;>omega
theorem Iw {β:Type} [DecidableEq β] {f:α->β} (hi:∀ a b,f a=f b->a=b):∀ (ys:List α),Gv (ys.map f)=(Gv ys).map f
 |[]=>rfl
 |y::ys=>by
  have hm:f y∈ys.map f↔y∈ys:=⟨λq=>by obtain⟨z,hz,e⟩:=List.mem_map.mp q;rw[<-hi _ _ e];exact hz,λq=>List.mem_map.mpr ⟨y,q,rfl⟩⟩;rw[zo];unfold Gv;by_cases q:y∈ys
  ·rw[zl q,zl (hm.mpr q),Iw hi ys]
  ·rw[zw q,zw λh=>q (hm.mp h),zo,Iw hi ys]
end
section
variable {X:Cx}
def K7 (ks:List Key):Bool:=ks.any λk=>k.isRight
theorem adR {ks:List Key} (h:K7 ks=true):Txs ks:=by
 unfold K7 at h;rw[kq] at h;obtain⟨k,hk,e⟩:=h;cases k with
 |inl i=>cases e
 |inr x=>exact⟨x,hk⟩
def tU (X:Cx) (f:Ev->Option (List (List Key))):L2.TE:=λσ H Q=>∃ H0 ρ bU,bD X.K H0 H σ ρ/\f ρ=some bU/\∀ a zs H',Same H H'->H' a=some (hoU X a zs)->(∀ k,k∈zs.map (·.1)↔k∈bU)->(zs.map (·.1)).Nodup->(∀ z∈zs,Rep X.K H' (tupK z.1) (.ref z.2))->Q (.ref a) H'
def PVU (X:Cx) (e:Expr) (f:Ev->Option (List (List Key))):Prop:=PE X e (tU X f)
structure QVU (X:Cx) (e:Expr) (f:Ev->Option (List (List Key))):Prop where
 run:PVU X e f
def ab1 (b:Bx):Option (List (List Key)):=(uX b).bind λds=>(ql ds).bind λbU=>if bU.length<=64/\bU.all K7=true then some bU else none
def O9 (f:Ev->Option Bx):Ev->Option (List (List Key)):=λρ=>(f ρ).bind ab1
def Cg (fs:Ev->Option (List (List Key))):Ev->Option Bx:=λρ=>(fs ρ).bind λbU=>if zc bU=true then some (.o ((jl (Gv bU)).map tupK)) else none
variable {e:Expr} {f:Ev->Option Bx} {fs:Ev->Option (List (List Key))} {p pos:Pos}
theorem Rp (hc:X.calm=true) (hu:X.A.units+100 < cLine) (hg:Gl X "set") (hm:X.mg "set" = none) (ha:QV X e f) (he:starEach (e::[]) X.env=(false,eval e X.env)::starEach [] X.env:=by rfl):QVU X (.Call (.Name "set" p) [e] [] pos) (O9 f):=by
 refine⟨FW (FJ (T := "set") (aaH hc hu) hg hm rfl (aV ha.run dJ he) (he:=he)) λσ H Q h=>?_⟩;obtain⟨H0,ρ,bU,E,ef,q⟩:=h;obtain⟨b,eb,ef⟩:=bind_some ef;obtain⟨ds,ed,ef⟩:=bind_some ef;obtain⟨ks',ek,ef⟩:=bind_some ef;split at ef
 ·rename_i hl;cases ef;rw[Z3] at hl;exact⟨H0,ρ,b,E,eb,λv H1 s1 n1 r1=>⟨v,b,ds,bU,rfl,r1,ed,ek,hl.1,λk hk=>adR (hl.2 k hk),λa zs H2 s2 e2 m nd hz=>q a zs H2 (s1.trans s2) e2 m nd hz⟩⟩
 ·cases ef
theorem Xc {bU Vh:List (List Key)} (h:zc bU=true) (hl:Vh.length<=bU.length) (hm:∀ k∈Vh,k∈bU):zc Vh=true:=by
 simp only[zc,Zz,ZU,Z3,qv] at h ⊢;exact⟨by omega,λk hk=>h.2.1 k (hm k hk),λk hk l hl'=>h.2.2 k (hm k hk) l (hm l hl')⟩
theorem Rq (hc:X.calm=true) (hg:Gl X "sorted") (hm:X.mg "sorted" = none) (ha:QVU X e fs) (he:starEach (e::[]) X.env=(false,eval e X.env)::starEach [] X.env:=by rfl):QV X (.Call (.Name "sorted" p) [e] [] pos) (Cg fs):=by
 refine⟨FW (dZ (id := "sorted") (aaI hc) hg hm rfl (aV ha.run dJ he) (he:=he)) λσ H Q h=>?_⟩;obtain⟨H0,ρ,b,E,ef,q⟩:=h;obtain⟨bU,ey,ef⟩:=bind_some ef;split at ef
 ·rename_i hl;cases ef;refine⟨H0,ρ,bU,E,ey,λa zs H1 s1 e1 m nd hy=>⟨a,zs,rfl,e1,?_,hy,λl H2 us s2 hfr e2 rp=>?_⟩⟩
  ·have e3:=(z7 nd (Iv bU) λz=>by rw[m z,qm]).length_eq;have:=z9 bU;exact Xc hl (by omega) λk hk=>(m k).mp hk
  ·have pm:=z7 nd (Iv bU) λz=>by rw[m z,qm]
   have es:jl (zs.map (·.1))=jl (Gv bU):=pJ ((jZ _).trans pm) (sO _);rw[es] at rp;exact q _ H2 (s1.trans s2) (λa ea=>by cases ea;exact s1.free hfr) ⟨l,us,rfl,e2,rp⟩
 ·cases ef
end
end P1
end
section
namespace P1
open PySem PySem.Spec PyProof.Rows L2
def Ci:Bx->Bx->Option Bx
 |.z (.str k),.z d=>some (.z (.tup [.str k,d]))
 |_,_=>none
theorem Pa {a b:Bx} {y:Dt} (h:Ci a b=some (.z y)):∃ k d,a=.z (.str k)/\b=.z d/\y=.tup [.str k,d]:=by
 unfold Ci at h;split at h
 ·cases h;exact⟨_,_,rfl,rfl,rfl⟩
 ·cases h
def adS (kvs:List (Key×Dt)):Dt->List (Key×Dt)
 |.tup [.str k,d]=>Ih kvs (.inr k) d
 |_=>kvs
def dictOf (out:List Dt):List (Key×Dt):=out.foldl adS []
theorem K8 (out:List Dt) (k:Str) (d:Dt):dictOf (out++[.tup [.str k,d]])=Ih (dictOf out) (.inr k) d:=by
 unfold dictOf;rw[List.foldl_append];rfl
section
variable {X:Cx} {pins:List (Addr×Obj)} {σ:L2.St} {H:Hp} {s:Shared} {a:Addr} {A:Around} {E:VP_}
theorem Ud {kvs:List (Key×V)} {k:Key} {v:V} {u r:Value} {Q:Unit->Shared->Prop} (I:L2.Inv X pins σ H s) (e:H a=some (.dK kvs)) (l:kvs.length < sizeLine) (ry:RelV (kV k) u) (rv:RelV v r) (h:∀ s',L2.Inv X pins σ (upd H a (.dK (putK kvs k v))) s'->Q () s') :
  wpAny (model X.prog X.w) A (dictSet a u r) Q E s:=by
 obtain⟨z,hd,vs,rel,dd⟩:=abQ I.hok e;have hz:vs.length<=sizeLine:=by rw[<-rel.length];exact z
 have hl:(putK kvs k v).length<=sizeLine:=by have:=nR kvs k v;omega
 refine wpAny_dictSet_pairs (hsz:=hz) (JV ry) dd λh' dd' hs=>h _ ?_;have he:∃ q,h'.get? a=some q:=let ⟨q,_,_,hq,_⟩:=dd';⟨q,hq⟩;exact Hv I (by rw[e];exact True.intro) hs he (VF hl hd (rel.put k rv) dd')
end
section
variable {X:Cx} {kx vx tgt iter:Expr} {ifs:List Expr} {scope:Scope} {cl:List (Str×Addr)} {pos:Pos} {xs ts:LS_} {is:List Nat} {gt:Dt->Ev->Option Ev} {p:Ev->Option Bool} {fk fv:Ev->Option Bx} {fi:Ev->Option (List Dt)}
def AcD (K:FG_) (_:Addr) (H:Hp) (o1:List Dt) (o:HO):Prop:=∃ us,o=.dK us/\eZ K H (dictOf o1) us/\us.length<=o1.length
theorem AcD.kp {K:FG_} {D:Addr} {H H':Hp} {o1:List Dt} {o:HO} (k:Kp H H'):AcD K D H o1 o->AcD K D H' o1 o:=λ⟨us,e,r,z⟩=>⟨us,e,r.kp k,z⟩
theorem aaJ {n:Nat} (hk:PV X kx fk) (hv:PV X vx fv):Wf X (λD env=>do let kv <-eval kx env;let vv <-holding [kv] (eval vx env);standAt { kx.pos with endLine:=vx.pos.endLine,endCol:=vx.pos.endCol };holding [kv,vv] (dictSet D kv vv)) (afz (b2 Ci fk fv)) (AcD X.K) 999 n:=by
 refine Wg λpins s σ H H0 ρ D o o1 ys I En eb hD ⟨us,e,r4,hl⟩ hi=>?_;subst e;obtain⟨b,e0,e1⟩:=bind_some eb;obtain⟨y,rfl,rfl⟩:=xu e1;obtain⟨bk,ebk,eb⟩:=bind_some e0;obtain⟨bv,ebv,eb⟩:=bind_some eb;obtain⟨kt,dv,rfl,rfl,rfl⟩:=Pa eb;refine zb (ZN (hk pins s σ H (λv H9=>Same H H9/\bf X.K H9 (.z (.str kt)) v) I ⟨H0,ρ,_,En,ebk,λv H9 s9 _ r9=>⟨s9,r9⟩⟩) (λkv s9a h9=>?_) λ_ _ z=>z);obtain⟨k',H9a,I9a,rk,afT,r9a⟩:=h9;refine zb (qi (ZN (hv pins s9a σ H9a (λv H9=>Same H9a H9/\Rep X.K H9 dv v) I9a ⟨H0,ρ,_,En.grow afT,ebv,λv H9 s9 _ r9=>⟨s9,r9⟩⟩) (λv s9 h9=>?_) λ_ _ z=>z));obtain⟨v',H9,I9,rv,s9b,r9⟩:=h9;have s89:=afT.trans s9b;have hD9:H9 D=some (.dK us):=s89 _ _ hD;obtain⟨rfl,hkl⟩:k'=.str kt/\kt.length<=sizeLine:=by simpa only[bf,Rep] using r9a
 have kp:Kp H9 (upd H9 D (.dK (putK us (Sum.inr kt) v'))):=.dk hD9;refine zb (kR (qi ?_));simp only[List.length_singleton] at hi;refine Ud I9 hD9 (by have:(1000:Nat) < sizeLine:=(by decide);omega) (k:=Sum.inr kt) rk rv λs10 I10=>?_;have r5:=((r4.kp (.of s89)).put (x:=Sum.inr kt) r9 hkl).kp kp;exact⟨H9,_,I10,s89,kp,putK us (Sum.inr kt) v',rfl,by rw[K8];exact r5,by have:=nR us (Sum.inr kt) v';simp;omega⟩
def Rr (fi:Ev->Option (List Dt)) (gt:Dt->Ev->Option Ev) (p:Ev->Option Bool) (fk fv:Ev->Option Bx) (is:List Nat) (n:Nat):Ev->Option Bx:=λρ=>(fi ρ).bind λds=>
 if ds.length < 1000 then(vR gt p (b2 Ci fk fv) (iz is ρ++List.replicate n none) ds).bind λout=>some (.m (dictOf out) none) else none
theorem Xd (hu:X.A.units+100 < cLine) (ts:LS_) (O:oX X scope cl xs is) (hcalm:X.calm=true) (hi:QIC X tgt iter fi)
  (Ga:∀ C s₀ H₀ fp,ZX (yZ X (xs++ts) scope cl C s₀ H₀ fp) tgt gt) (hif:∀ C s₀ H₀ fp,xG (yZ X (xs++ts) scope cl C s₀ H₀ fp) ifs p) (hkx:∀ C s₀ H₀ fp,QV (yZ X (xs++ts) scope cl C s₀ H₀ fp) kx fk) (hvx:∀ C s₀ H₀ fp,QV (yZ X (xs++ts) scope cl C s₀ H₀ fp) vx fv) (htk:Wb is.length (is.length+ts.length) gt)
  (hs:∀ x,foldedSetIterable iter X.env x=pure x:=by intro _;rfl):QV X (.DictComp kx vx [⟨tgt,iter,ifs,0⟩] scope pos) (Rr fi gt p fk fv is ts.length):=⟨λpins s σ H Q I h=>by
 obtain⟨H0,ρ,b,E,e,q⟩:=h;obtain⟨ds,ed,e⟩:=bind_some e;split at e
 ·rename_i hlen;obtain⟨out,eo,e⟩:=bind_some e;cases e;rw[arm_eval_DictComp];refine ke (use:=none) rfl hs O.clos O.kind O.names ?_;refine gF (hi.run pins s σ H (λJ H'=>Same H H'/\Yields X.K J ds H') I ⟨H0,ρ,ds,E,ed,λJ H' s' y=>⟨s',y⟩⟩) λv s1 h1=>gF h1 λitv s2 h2=>?_;obtain⟨it,fp,tn,J,H2,rfl,I2,T,st,hf,s12,Y⟩:=h2;refine Gb (B:=FZ) (Ac:=AcD X.K) (O0:=.dK []) (N:=999) (RR:=λacc C=>compPost (model X.prog X.w) X.A X.xe none (EP X pins σ Q) acc C) (ts:=ts) (xs:=xs) O hcalm (λC s₀ H₀ fp=>(Ga C s₀ H₀ fp).run) (λC s₀ H₀ fp=>(hif C s₀ H₀ fp).run) (λC s₀ H₀ fp=>aaJ (hkx C s₀ H₀ fp).run (hvx C s₀ H₀ fp).run) htk (Nat.le_add_right ..) I2 ((E.grow s12).caps is ts.length) (J7 T) st hf Y eo (Zs (tZ eo) (Nat.le_of_lt_succ hlen)) ?_
   ZZ (λ_=>JX s2.heap I2.big) (λ_=>⟨[],rfl,eZ.nil,zg _⟩) AcD.kp (λ_ _ _=>rfl) codeAny_compStart_dict λh=>h
  rintro D C s' H' o hD I' fC ⟨m,hn⟩ s2' hD' ⟨us,rfl,rm,_⟩;refine⟨m,hn,λh' sb=>⟨.ref D,H',?_,rfl,q (.ref D) H' (s12.trans s2') (λa ea=>by cases ea;exact s12.free hD) ⟨D,us,rfl,hD',rm,λb hb=>by cases hb⟩⟩⟩;obtain⟨f0,f1,f2,f3,f4,f5⟩:=fC;exact I'.turned (t':=s'.toks) (λb o hb e=>(sb.2 b hb).trans e) f0 f1 f3 f4 f5
 ·cases e⟩
end
section
variable {X:Cx} {pins:List (Addr×Obj)} {σ:L2.St} {H:Hp} {s:Shared} {a:Addr} {ks:List (Key×V)} {o:Obj}
theorem K9 (hb:∀ ob u,X.H₀ a≠some (.pY ob u)) (I:L2.Inv X pins σ H s) (e:H a=some (.pY o (.dK ks))):L2.Inv X pins σ (upd H a (.dK ks)) s:=by
 have ne:∀ {b:Addr} {u:HO},H b=some u->u≠.pY o (.dK ks)->b≠a:=λq n z=>by subst z;rw[e] at q;cases q;exact n rfl
 have nn:∀ {b:Addr},H b=none->b≠a:=λq z=>by subst z;rw[e] at q;cases q
 refine⟨I.ok,I.os,I.bare,⟨I.base.keep,I.base.slot,λb ob q n hx=>?_,I.base.there,λb xs q=>?_,λb ob u q=>?_,λb ps q=>?_⟩,I.loc,I.cell,?_,λx c q=>?_,λp hp=>?_,λb ob q=>?_,I.len⟩
 ·have:=I.base.free b ob q n hx;rw[aG (nn this)];exact this
 ·have:=I.base.tups b xs q;rw[aG (ne this λz=>by cases z)];exact this
 ·have:=I.base.rB b ob u q;rw[aG (λz=>by subst z;exact hb _ _ q)];exact this
 ·obtain⟨m,this⟩:=I.base.uR b ps q;exact⟨m,by rw[aG (ne this λz=>by cases z)];exact this⟩
 ·have:=I.free;rw[aG (nn this)];exact this
 ·have:=I.gZ x c q;rw[aG (nn this)];exact this
 ·obtain⟨p1,p2,p3⟩:=I.pin p hp;exact⟨p1,by rw[aG (nn p2)];exact p2,p3⟩
 ·have st:∀ {c:Addr} {w:HO},eY X.prog X.w H s.heap c w->eY X.prog X.w (upd H a (.dK ks)) s.heap c w:=λx=>
   x.stay (λ_ _ _ r=>r) (λd r=>by rw[aG (ne r λz=>by cases z)];exact r) λd xs r=>by rw[aG (ne r λz=>by cases z)];exact r
  by_cases hba:b=a
  ·subst hba;rw[aQ] at q;cases q;exact st (I.hok _ _ e).2
  ·rw[aG hba] at q;exact st (I.hok _ _ q)
theorem afU (I:L2.Inv X pins σ H s) (e:H a=some (.dK ks)) (ho:s.heap.get? a=some o):L2.Inv X pins σ (upd H a (.pY o (.dK ks))) s:=by
 have:=I.write (t':=s.toks) (h':=s.heap) (x:=a) (e:=a) (o:=.pY o (.dK ks)) (by rw[e];exact True.intro) (.inl rfl) (λ_ _ _ z=>z) ⟨o,ho⟩ ⟨ho,(I.hok _ _ e).stay (λ_ _ _ r=>r) (λd r=>by rw[aG (iw r e (by intro z;cases z))];exact r) λd xs r=>by rw[aG (iw r e (by intro z;cases z))];exact r⟩;exact this
theorem aaK (I:L2.Inv X pins σ H s) (e:H a=some (.dK ks)):∀ ob u,X.H₀ a≠some (.pY ob u):=λob u q=>by
 have:=I.base.rB a ob u q;rw[e] at this;cases this
mutual
theorem Rep.K9 {K:FG_} (e:H a=some (.pY o (.dK ks))) (hk:ks≠[]):∀ {d:Dt} {v:V},Rep K H d v->Rep K (upd H a (.dK ks)) d v
 |.non,_,h=>by simpa only[Rep] using h
 |.bl _,_,h=>by simpa only[Rep] using h
 |.int _,_,h=>by simpa only[Rep] using h
 |.str _,_,h=>by simpa only[Rep] using h
 |.tup ds,_,h=>by
  simp only[Rep] at h ⊢;obtain⟨b,vs,e1,q,r⟩:=h;refine⟨b,vs,e1,?_,aK.K9 e hk r⟩;rcases q with (q|⟨ob,q⟩)|q
  ·exact .inl (.inl (by rw[aG (λz=>by subst z;rw[e] at q;cases q)];exact q))
  ·exact .inl (.inr ⟨ob,by rw[aG (λz=>by subst z;rw[e] at q;cases q)];exact q⟩)
  ·exact .inr q
 |.lst ds,_,h=>by
  simp only[Rep] at h ⊢;obtain⟨b,vs,e1,q,r⟩:=h;refine⟨b,vs,e1,?_,aK.K9 e hk r⟩;rcases q with⟨ob,q⟩|q
  ·exact .inl ⟨ob,by rw[aG (λz=>by subst z;rw[e] at q;cases q)];exact q⟩
  ·exact .inr q
 |.emp,_,h=>by
  simp only[Rep] at h ⊢;obtain⟨b,ob,e1,q⟩:=h;exact⟨b,ob,e1,by rw[aG (λz=>by subst z;rw[e] at q;cases q;exact hk rfl)];exact q⟩
theorem aK.K9 {K:FG_} (e:H a=some (.pY o (.dK ks))) (hk:ks≠[]):∀ {ds:List Dt} {vs:List V},aK K H ds vs->aK K (upd H a (.dK ks)) ds vs
 |[],_,h=>by simpa only[aK] using h
 |d::ds,_,h=>by
  simp only[aK] at h ⊢;obtain⟨v,r,e1,q,t⟩:=h;exact⟨v,r,e1,Rep.K9 e hk q,aK.K9 e hk t⟩
end
def Itd (a:Addr) (o:Obj) (ks:List (Key×V)):It:=
 ⟨λi H=>H a=some (.pY o (.dK ks))/\i < ks.length,λi H x H'=>H'=H/\(ks.map λk=>kV k.1)[i]?=some x,λi H=>H a=some (.pY o (.dK ks))/\ks.length<=i⟩
theorem Rt {P:Program} {w:World} {h:Heap} (x:eY P w H h a (.pY o (.dK ks))) {es:Array DictEntry} {ep:Nat} (hd:o.data=.dict es ep):∃ vs,KV ks vs/\h.DictAt (aX P w) a vs ep:=by
 obtain⟨e,_,_,vs,kv,ob,es',ep',e2,c,d,r⟩:=x;rw[e] at e2;cases e2;rw[hd] at d;cases d;exact⟨vs,kv,o,es,e,c,hd,r⟩
theorem Xe:∀ {ks:List (Key×V)} {vs:List (Key×Value)},KV ks vs->∀ {i:Nat} {p},ks[i]?=some p->∃ x,vs[i]?=some (p.1,x)
 |_,_,.nil,i,p,q=>by simp at q
 |_,_,.cons h _,0,p,q=>by simp at q;subst q;exact⟨_,by rw[List.getElem?_cons_zero,h.1]⟩
 |_,_,.cons _ t,i+1,p,q=>by
  rw[ZO] at q;obtain⟨x,hx⟩:=Xe t q;exact⟨x,by rw[ZO];exact hx⟩
theorem Gw {P:Program} {w:World} {K:FG_} {tg:Expr} (it:Addr) {es:Array DictEntry} {ep:Nat} (hd:o.data=.dict es ep) (hne:a≠it):Turn P w K tg (Itd a o ks) [it] it (λi h=>h.IsKeyIter it a i ks.length ep) where
 mem:=by simp
 obj:=λi h st b hb=>by
  have e:b=it:=by simpa using hb
  subst e;obtain⟨ob,e,c,d⟩:=st;exact⟨ob,e,λv z=>by rw[d] at z;cases z⟩
 keep:=λi h h' st k=>st.at λob e=>k it (by simp) ob e
 item:=by
  intro X hP hw hK hc i pins s σ H E I hf st hg;subst hP hw hK;obtain⟨ha,hi⟩:=hg;obtain⟨vs,kv,dd⟩:=Rt (I.hok _ _ ha) hd;have hl:ks.length=vs.length:=kv.length;obtain⟨x,hx⟩:=Xe kv (show ks[i]?=some ks[i] by simp[hi]);obtain⟨f0,f1,f2,f3,f4,f5⟩:=hf it (by simp);rw[hl] at st;refine wpAny_pyNext_dict_item st dd hx λkey h' hkey st' sb=>?_;rw[<-hl] at st';have I1:L2.Inv X pins σ H { s with heap:=h' }:=I.turned (t':=s.toks) (λb ob hb e=>(sb.2 b hb).trans e) f0 f1 f3 f4 f5;obtain⟨ob,e,c,d⟩:=id st';refine⟨key,rfl,Aq (s:={ s with heap:=h' }) e c d (by decide) ⟨kV (ks[i]).1,H,I1,?_,⟨rfl,by rw[zI,zS hi];rfl⟩,st',λb hb=>(hf b hb).1⟩⟩;have hk':je (ks[i]).1 key=true:=hkey;rcases bC hk' with⟨j,t,e2,e3⟩|⟨z,t,e2,e3⟩
  ·rw[e2,e3];exact⟨t,rfl⟩
  ·rw[e2,e3];exact⟨t,rfl⟩
 done:=by
  intro X hP hw hK hc i pins s σ H E I hf st hg;subst hP hw hK;obtain⟨ha,hi⟩:=hg;obtain⟨vs,kv,dd⟩:=Rt (I.hok _ _ ha) hd;have hl:ks.length=vs.length:=kv.length;obtain⟨f0,f1,f2,f3,f4,f5⟩:=hf it (by simp);rw[hl] at st;exact wpAny_pyNext_dict_end (I.ok.hd hc) st dd (qA (by omega)) λh' eb=>⟨rfl,I.turned (t':=s.toks) (λb ob hb e=>eb b ob hb e) f0 f1 f3 f4 f5⟩
 self:=λ_ _ _ _ _ st h=>wpAny_pyIter_keyiter st h
def Pb:Key->Dt
 |.inl i=>.int i
 |.inr x=>.str x
theorem Xf {K:FG_} {H:Hp} {k:Key} (h:okK k):Rep K H (Pb k) (kV k):=by
 cases k with
 |inl i=>unfold Pb Rep;rfl
 |inr x=>unfold Pb Rep;exact⟨rfl,h⟩
def keyB:Bx->Option (List Dt)
 |.n kvs=>some (kvs.map λp=>Pb p.1)
 |_=>none
theorem Ue {b:Bx} {ds:List Dt} (h:keyB b=some ds):∃ kvs,b=.n kvs/\ds=kvs.map λp=>Pb p.1:=by
 unfold keyB at h;split at h
 ·cases h;exact⟨_,rfl,rfl⟩
 ·cases h
theorem yK {K:FG_} {Hs:Hp} {kvs:List (Key×Dt)} (ha:Hs a=some (.pY o (.dK ks))) (rm:eZ K Hs kvs ks):Yields K (Itd a o ks) (kvs.map λp=>Pb p.1) Hs:=.of λi H s=>by
 have hl:=rm.len;refine⟨λd e=>?_,λe=>⟨s _ _ ha,by rw[zh] at e;omega⟩⟩;rw[zI] at e;cases hp:kvs[i]? with
 |none=>rw[hp] at e;cases e
 |some p=>
  rw[hp] at e;cases e;have hi:i < kvs.length:=(List.getElem?_eq_some_iff.mp hp).1;refine⟨⟨s _ _ ha,by omega⟩,λx H' y=>?_⟩;obtain⟨y1,y2⟩:=y;refine⟨y1,?_⟩;have h1:(ks.map (·.1))[i]?=some p.1:=by rw[rm.1,zI,hp];rfl
  rw[zI] at h1 y2;cases hk:ks[i]? with
  |none=>rw[hk] at h1;cases h1
  |some q=>
   rw[hk] at h1 y2;cases y2;have:q.1=p.1:=by simpa using h1
   show Rep K H (Pb p.1) (kV q.1);rw[this];exact Xf (rm.2.2 p (qV hp))
theorem Pg {K:FG_} {H1:Hp} {σ:L2.St} {ρ:Ev} {is:List Nat} {n:Nat} (e:H1 a=some (.dK ks)) (E:bD K H1 H1 (uW is σ++List.replicate n none) (iz is ρ++List.replicate n none)):bD K (upd H1 a (.pY o (.dK ks))) (upd H1 a (.pY o (.dK ks))) (uW is σ++List.replicate n none) (iz is ρ++List.replicate n none):=by
 have kp:Kp H1 (upd H1 a (.pY o (.dK ks))):=.dk e;have Y8:∀ (j:Nat) c,(iz is ρ++List.replicate n none)[j]?=some (some c)->rC c=false:=λj c e=>by
  by_cases hj:j < is.length
  ·rw[ZI (by simp[iz];omega)] at e;unfold iz at e;rw[zI] at e;cases q:is[j]? with
   |none=>rw[q] at e;cases e
   |some i=>
    rw[q] at e;have:w6 ρ i=some c:=by simpa using e
    exact vN this
  ·rw[qk (by simp[iz];omega),QI] at e;split at e<;>cases e
 refine⟨E.len,λj b eb=>?_,λj k c a b e ec=>absurd ec (by rw[Y8 j c e];exact ZA),Same.refl _,λj c a e ec=>absurd ec (by rw[Y8 j c e];exact ZA)⟩;obtain⟨v,ev,r⟩:=E.val j b eb;refine⟨v,ev,?_⟩;cases b with
 |z d=>exact Rep.kp kp r
 |o ds=>have:=Y8 j _ eb;cases this
 |m ds _=>have:=Y8 j _ eb;cases this
 |l ds=>
  obtain⟨b,vs,e1,q,r⟩:=r;refine⟨b,vs,e1,?_,r.kp kp⟩;rcases q with q|⟨ob,q⟩
  ·exact .inl (by rw[aG (iw q e (by intro z;cases z))];exact q)
  ·exact .inr ⟨ob,by rw[aG (iw q e (by intro z;cases z))];exact q⟩
 |n ds=>
  obtain⟨b,vs,e1,q,r⟩:=r;refine⟨b,vs,e1,?_,r.kp kp⟩;by_cases hb:b=a
  ·subst hb;rcases q with q|⟨ob,q⟩
   ·rw[e] at q;cases q;exact .inr ⟨o,aQ⟩
   ·rw[e] at q;cases q
  ·rcases q with q|⟨ob,q⟩
   ·exact .inl (by rw[aG hb];exact q)
   ·exact .inr ⟨ob,by rw[aG hb];exact q⟩
end
section
variable {X:Cx} {e elt tgt iter:Expr} {ifs:List Expr} {fd:Ev->Option Bx} {scope:Scope} {cl:List (Str×Addr)} {pos:Pos} {xs ts:LS_} {is:List Nat} {gt:Dt->Ev->Option Ev} {p:Ev->Option Bool} {fe:Ev->Option Bx}
def La (fd:Ev->Option Bx):Ev->Option (List Dt):=λρ=>(fd ρ).bind keyB
theorem Ug (ρ:Ev):vR gt p fe ρ []=some []:=rfl
theorem Lb (ts:LS_) (O:oX X scope cl xs is) (hcalm:X.calm=true) (hi:QV X iter fd)
  (Ga:∀ C s₀ H₀ fp,ZX (yZ X (xs++ts) scope cl C s₀ H₀ fp) tgt gt) (hif:∀ C s₀ H₀ fp,xG (yZ X (xs++ts) scope cl C s₀ H₀ fp) ifs p) (helt:∀ C s₀ H₀ fp,QV (yZ X (xs++ts) scope cl C s₀ H₀ fp) elt fe) (htk:Wb is.length (is.length+ts.length) gt)
  (hs:∀ x,foldedSetIterable iter X.env x=pure x:=by intro _;rfl):QV X (.ListComp elt [⟨tgt,iter,ifs,0⟩] scope pos) (dN (La fd) gt p fe is ts.length):=⟨λpins s σ H Q I h=>by
 obtain⟨H0,ρ,b,E,e,q⟩:=h;obtain⟨ds,ed,e⟩:=bind_some e;split at e
 ·rename_i hlen;obtain⟨out,eo,e⟩:=bind_some e;cases e;obtain⟨bd,ebd,ed⟩:=bind_some ed;obtain⟨kvs,rfl,rfl⟩:=Ue ed;rw[eval_ListComp];refine ke (use:=none) rfl hs O.clos O.kind O.names ?_;refine gF (hi.run pins s σ H (λv H1=>Same H H1/\bf X.K H1 (.n kvs) v) I ⟨H0,ρ,_,E,ebd,λv H1 s1 _ r1=>⟨s1,r1⟩⟩) λv s1 ⟨v',H1,I1,rv,s01,r1⟩=>?_;obtain⟨a,ks,rfl,rd,rm⟩:=r1;cases rv;obtain⟨_,hsys,vs,kv,ob,es,ep,dd⟩:=rT I1.hok rd;have hob:=dd.1;have hdat:=dd.2.2.1;refine wpAny_pyIter_dict hsys (⟨ob,es,dd⟩:s1.heap.DictAt (aX X.prog X.w) a vs ep) ?_;have hlt:a < s1.heap.objs.size:=zv hob;have hl:ks.length=vs.length:=kv.length;have afV:∀ {H':Hp},L2.Inv X pins σ H' s1->∀ b∈[s1.heap.objs.size],pq X pins H' b:=λI' b hb=>by
   have e:b=s1.heap.objs.size:=by simpa using hb
   subst e;exact I'.Sy (zg _) (I'.hok.fresh (zg _))
  have st0:Heap.IsKeyIter (s1.heap.push { cls:=.type "dict_keyiterator", data:=.fields #[.ref a,.int 0 0,.int vs.length 0,.int ep 0] }) s1.heap.objs.size a 0 ks.length ep:=⟨_,zt _ rfl,rfl,by rw[hl];rfl⟩;rcases rd with rd|⟨o',rd⟩
  ·
   have I2:=afU I1 rd hob;have I3:L2.Inv X pins σ (upd H1 a (.pY ob (.dK ks))) { s1 with heap:=s1.heap.push { cls:=.type "dict_keyiterator", data:=.fields #[.ref a,.int 0 0,.int vs.length 0,.int ep 0] } }:=I2.kept (t':=s1.toks) λb o e=>zd _ e;have rm2:eZ X.K (upd H1 a (.pY ob (.dK ks))) kvs ks:=rm.kp (.dk rd);refine rW (B:=FZ) (RR:=λacc C=>compPost (model X.prog X.w) X.A X.xe none (EP X pins σ Q) acc C) (ts:=ts) (xs:=xs) O hcalm (λC s₀ H₀ fp=>(Ga C s₀ H₀ fp).run) (λC s₀ H₀ fp=>(hif C s₀ H₀ fp).run) (λC s₀ H₀ fp=>(helt C s₀ H₀ fp).run) htk I3 (Pg rd ((E.grow s01).caps is ts.length)) (J7 (Gw s1.heap.objs.size hdat (zC hlt))) st0 (afV I2) (yK aQ rm2) hlen eo ?_;intro D C s' H' us hD I' fC ⟨m,hn⟩ s2' hD' r';have ha':H' a=some (.pY ob (.dK ks)):=s2' _ _ aQ;have hDa:D≠a:=λz=>by subst z;rw[aQ] at hD;cases hD
   have hD1:H1 D=none:=by rw[aG hDa] at hD;exact hD
   have sm:Same H1 (upd H' a (.dK ks)):=λb u e=>by
    by_cases hb:b=a
    ·subst hb;rw[rd] at e;cases e;exact aQ
    ·rw[aG hb];exact s2' b u (by rw[aG hb];exact e)
   have rr:aK X.K (upd H' a (.dK ks)) out us:=by
    by_cases hk:ks=[]
    ·have:kvs=[]:=by have:=rm.len;rw[hk] at this;exact List.length_eq_zero_iff.mp (by simpa using this.symm)
     subst this;simp only[ku] at eo;rw[Ug] at eo;cases eo;simpa only[aK] using r'
    ·exact aK.K9 ha' hk r'
   refine⟨m,hn,λh' sb=>⟨.ref D,upd H' a (.dK ks),?_,rfl,q _ _ (s01.trans sm) (λa ea=>by cases ea;exact s01.free hD1) ⟨D,us,rfl,by rw[aG hDa];exact hD',rr⟩⟩⟩;obtain⟨f0,f1,f2,f3,f4,f5⟩:=fC;have hCa:C≠a:=λz=>by subst z;rw[ha'] at f0;cases f0
   exact(K9 (aaK I1 rd) I' ha').turned (t':=s'.toks) (λb o hb e=>(sb.2 b hb).trans e) (by rw[aG hCa];exact f0) f1 f3 f4 f5
  ·have hoo:o'=ob:=by
    have:=(I1.hok _ _ rd).1;rw[hob] at this;cases this;rfl
   subst hoo;have I3:L2.Inv X pins σ H1 { s1 with heap:=s1.heap.push { cls:=.type "dict_keyiterator", data:=.fields #[.ref a,.int 0 0,.int vs.length 0,.int ep 0] } }:=I1.kept (t':=s1.toks) λb o e=>zd _ e;refine rW (B:=FZ) (RR:=λacc C=>compPost (model X.prog X.w) X.A X.xe none (EP X pins σ Q) acc C) (ts:=ts) (xs:=xs) O hcalm (λC s₀ H₀ fp=>(Ga C s₀ H₀ fp).run) (λC s₀ H₀ fp=>(hif C s₀ H₀ fp).run) (λC s₀ H₀ fp=>(helt C s₀ H₀ fp).run) htk I3 ((E.grow s01).caps is ts.length) (J7 (Gw s1.heap.objs.size hdat (zC hlt))) st0 (afV I1) (yK rd rm) hlen eo ?_;intro D C s' H' us hD I' fC ⟨m,hn⟩ s2' hD' r';refine⟨m,hn,λh' sb=>⟨.ref D,H',?_,rfl,q _ _ (s01.trans s2') (λa ea=>by cases ea;exact s01.free hD) ⟨D,us,rfl,hD',r'⟩⟩⟩;obtain⟨f0,f1,f2,f3,f4,f5⟩:=fC;exact I'.turned (t':=s'.toks) (λb o hb e=>(sb.2 b hb).trans e) f0 f1 f3 f4 f5
 ·cases e⟩
end
section
variable {prog:Program} {w:World} {A:Around} {E:VP_} {s:Shared}
theorem Ld {R:Result->Shared->Prop} {d:Addr} {kvs:List (Key×Value)} {ep:Nat} (hh:A.handled=none) (hd:(d==sysModules)=false) (hm:s.heap.DictAt (aX prog w) d kvs ep) (hn:kvs.length<=sizeLine) (S:Addr) (hdS:d≠S) (res:Value) (c₀:Nat) (hS0:s.heap.get? S=some { cls:=.type "list", data:=.seq #[] c₀ })
  (hR:∀ h' tk acc' c',(∀ b o,b≠S->s.heap.get? b=some o->h'.get? b=some o)->h'.get? S=some { cls:=.type "list", dict:=none,data:=.seq acc' c',slots:=#[] } →
   ItemsOf (λi v=>∃ k x,kvs[i]?=some (k,x)/\(aX prog w).is k v=true) acc' kvs.length->R (.ok (.ret res)) { s with heap:=h',toks:=tk }) :
  wpAny (model prog w) A.in1 (Builtin.List.listExtendWith (.ref S) (.ref d) res)
   (λfin s'=>match fin with|.done f=>R (.ok f) s'|.again c'=>c'.quiet=true/\codeAny (model prog w) A c' R s') (λe s'=>R (.error e) s') s:=by
 have hlt:d < s.heap.objs.size:=by obtain⟨o,_,ho,_⟩:=hm;exact zv ho
 have hSlt:S < s.heap.objs.size:=zv hS0;unfold Builtin.List.listExtendWith;refine zb (QE (T := "dict") hm.dictOf.typeIs ?_);have h1:Builtin.List.listSameRef (.ref S) (.ref d)=false:=by simp[Builtin.List.listSameRef];exact λe=>hdS e.symm
 simp only[h1,show(Value.type "dict" == Value.type "list")=false by decide,show(Value.type "dict" == Value.type "tuple")=false by decide,Bool.or_false,zk,ZH];refine zb (wpAny_pyIter_dict hd hm ?_);refine zb (qi ?_);have hm2:=hm.at' (h':=s.heap.push { cls:=.type "dict_keyiterator", data:=.fields #[.ref d,.int 0 0,.int kvs.length 0,.int ep 0] }) λo e=>zd _ e;unfold Builtin.List.listLengthHint;refine zb (wpAny_specialOf (T := "dict") hm2.dictOf.typeIs F.slot_dict_len.lookup ?_)
 wp_delta
 refine zb (JI (T := "dict") (b:=true) hm2.dictOf.typeIs (by rw[isSubtype_type];kernel_rfl) ?_);show wpAny _ A.in1 (typeOf (Value.ref d) >>= _) _ _ _;refine zb (QE (T := "dict") hm2.dictOf.typeIs (ze ?_));rw[zl (by decide)];show wpAny _ A.in1 (Builtin.List.listTouch (Value.ref S) >>= λ_=>again (Code.builtin "list.extend.loop" ⟨[Value.ref S,Value.ref s.heap.objs.size,res],[]⟩)) _ _ _;generalize hG:s.heap.push { cls:=.type "dict_keyiterator", data:=.fields #[.ref d,.int 0 0,.int kvs.length 0,.int ep 0] }=G at hm2 ⊢;have hS:G.get? S=some { cls:=.type "list", data:=.seq #[] c₀ }:=by
  rw[<-hG];exact zd _ hS0
 have hI:G.get? s.heap.objs.size=some { cls:=.type "dict_keyiterator", data:=.fields #[.ref d,.int 0 0,.int kvs.length 0,.int ep 0] }:=by
  rw[<-hG];exact zt _ rfl
 unfold Builtin.List.listTouch;refine zb (zb (listUpdate_at hS rfl (listUpdate_at (get?_update_seq hS _) rfl ?_ (by show _<=_;decide) (by show _<=_;decide)) (by show _<=_;decide) (by show _<=_;decide)));have hIS:s.heap.objs.size≠S:=Jn hSlt;have hS3:=get?_update_seq (get?_update_seq hS (λx=>x.push Value.none)) (λx=>x.pop);generalize hU:(G.update S (Obj.mapSeq λx=>x.push Value.none)).update S (Obj.mapSeq λx=>x.pop)=U at hS3;have keep:∀ b,b≠S->U.get? b=G.get? b:=λb hb=>by rw[<-hU,j3 _ _ _ _ hb,j3 _ _ _ _ hb]
 have st0:U.IsKeyIter s.heap.objs.size d 0 kvs.length ep/\U.DictAt (aX prog w) d kvs ep:=⟨⟨_,(keep _ hIS).trans hI,rfl,rfl⟩,hm2.at' λo e=>(keep d hdS).trans e⟩;show wpAny _ A.in1 (again _) _ _ { s with heap:=U };have hSf:S∉[s.heap.objs.size,d]:=λh=>by
  simp only[QR,Q4,or_false] at h;rcases h with h|h
  ·exact hIS h.symm
  ·exact hdS h.symm
 refine ze ⟨plainId_quiet F.plain_extend_loop _,codeAny_extend_loopS (Walks.dictKeys (A:=A.in1) hh s.heap.objs.size d (zC hlt) kvs ep).toS hn S hSf _ kvs.length 0 { s with heap:=U } #[] _ rfl (QP _) st0 hS3 (ItemsOf.nil _) λs' acc' c' mv hS' hacc=>?_⟩;rw[Moved.eq_with mv];refine hR s'.heap s'.toks acc' c' (λb ob hb e=>?_) hS' hacc;have hb':=zv e;refine mv.heap b ob (λh=>?_) ((keep b hb).trans ?_)
 ·simp only[QR,Q4,or_false] at h;rcases h with h|h
  ·exact hb h
  ·exact zC hb' h
 ·rw[<-hG];exact zd _ e
theorem Cj {Q:VP_} {d:Addr} {kvs:List (Key×Value)} {ep:Nat} (hh:A.handled=none) (hd:(d==sysModules)=false) (hm:s.heap.DictAt (aX prog w) d kvs ep) (hn:kvs.length<=sizeLine)
  (hQ:∀ h' tk acc' c',(∀ b o,s.heap.get? b=some o->h'.get? b=some o) →
   h'.get? s.heap.objs.size=some { cls:=.type "list", dict:=none,data:=.seq acc' c',slots:=#[] }->ItemsOf (λi v=>∃ k x,kvs[i]?=some (k,x)/\(aX prog w).is k v=true) acc' kvs.length->Q (.ref s.heap.objs.size) { s with heap:=h',toks:=tk }) :
  wpAny (model prog w) A (call (.type "list") [.ref d]) Q E s:=by
 have hlt:d < s.heap.objs.size:=by obtain⟨o,_,ho,_⟩:=hm;exact zv ho
 refine callType_codes (Q₁:=λobj s₁=>obj=.ref s.heap.objs.size/\s₁={ s with heap:=s.heap.push { cls:=.type "list", data:=.seq #[] } }) F.called_list (F.typeCall_list_1 _) F.entry_list_init
  (code_list_new _ ⟨rfl,rfl⟩) λobj s₁ h₁=>?_
 obtain⟨rfl,rfl⟩:=h₁;have hS:(s.heap.push { cls:=.type "list", data:=.seq #[] }).get? s.heap.objs.size=some { cls:=.type "list", data:=.seq #[] }:=zt _ rfl;have hm1:=hm.at' (h':=s.heap.push { cls:=.type "list", data:=.seq #[] }) λo e=>zd _ e;refine⟨⟨_,hS,rfl⟩,F.args_list_init_2 _ _,?_⟩;generalize hH:s.heap.push { cls:=.type "list", data:=.seq #[] }=H at hS hm1 ⊢;show wpAny _ _ (do let old <-Builtin.List.listItems (.ref s.heap.objs.size);Builtin.List.listUpdate (.ref s.heap.objs.size) (λ_=>#[]);letGo old.toList.reverse;Builtin.List.listExtendWith (.ref s.heap.objs.size) (.ref d) .none) _ _ { s with heap:=H };refine zb ?_;unfold Builtin.List.listItems;refine zb (wpAny_seqItems hS rfl (ze ?_));show wpAny _ _ (updateSeq s.heap.objs.size (λ_=>#[]) >>= λ_=>letGo (#[]:Array Value).toList.reverse >>= λ_=>Builtin.List.listExtendWith (.ref s.heap.objs.size) (.ref d) .none) _ _ _;refine zb (wpAny_updateSeq hS rfl ?_);have hS₂:=qB (Obj.mapSeq (λ_=>(#[]:Array Value))) hS rfl;have oth:∀ b o,b≠s.heap.objs.size->H.get? b=some o->(H.update s.heap.objs.size (Obj.mapSeq (λ_=>(#[]:Array Value)))).get? b=some o:=
  λb o hb e=>(Qr _ _ (js hb)).trans e
 refine zb (wpAny_letGo ?_);refine Ld (A:=A.in1) hh hd (hm1.at' λo e=>oth d o (zC hlt) e) hn s.heap.objs.size (zC hlt) .none _ hS₂ λh' tk acc' c' hk hS' hacc=>?_;exact⟨rfl,hQ h' tk acc' c' (λb o e=>hk b o (zC (zv e)) (oth b o (zC (zv e)) (by rw[<-hH];exact zd _ e))) hS' hacc⟩
theorem adT {P:Nat->Value->Prop} (val:Nat->Str) (hval:∀ i v,P i v->∃ t,v=.str (val i) t):CmpOf prog w A .Lt P (λi j=>decide ((val i).cps.toList < (val j).cps.toList)):=λi j vi vj s Q E hi hj h=>by
 obtain⟨t,rfl⟩:=hval i vi hi;obtain⟨u,rfl⟩:=hval j vj hj;exact richCompare_gives (op:=.Lt) (typeIs_str s _ t) (typeIs_str s _ u) F.slot_str_lt F.entry_str_lt (F.args_str_lt_2 _ _) (gives_str_lt _ _ t u) (λx=>nomatch x) h
theorem cmp_gt {P:Nat->Value->Prop} (val:Nat->Str) (hval:∀ i v,P i v->∃ t,v=.str (val i) t):CmpOf prog w A .Gt P (λi j=>decide ((val j).cps.toList < (val i).cps.toList)):=λi j vi vj s Q E hi hj h=>by
 obtain⟨t,rfl⟩:=hval i vi hi;obtain⟨u,rfl⟩:=hval j vj hj;exact richCompare_gives (op:=.Gt) (typeIs_str s _ t) (typeIs_str s _ u) F.slot_str_gt F.entry_str_gt (F.args_str_gt_2 _ _) (gives_str_gt _ _ t u) (λx=>nomatch x) h
def two (a b:Str) (i:Nat):Str:=if i=0 then a else b
theorem Xg {a b:Str} {t u:Tok} (i:Nat) (v:Value) (h:(#[Value.str a t,Value.str b u])[i]?=some v):∃ t',v=.str (two a b i) t':=by
 match i,h with
 |0,h=>cases h;exact⟨t,rfl⟩
 |1,h=>cases h;exact⟨u,rfl⟩
 |_+2,h=>simp at h
theorem Le {a b:Str} {t u:Tok} {op:CmpOp} {Q:VP_} {bt:Nat->Nat->Bool} (hh:A.handled=none) (hc:CmpOf prog w A.in1 op (λi v=>(#[Value.str a t,Value.str b u])[i]?=some v) bt)
  (h:∀ h' tk,(∀ c o,s.heap.get? c=some o->h'.get? c=some o)->Q (if bt 1 0=true then .str b u else .str a t) { s with heap:=h',toks:=tk }) :
  wpAny (model prog w) A.in1 (pyIter (.ref s.heap.objs.size)) (λit s₂=>∃ I fp wr n P St bt,it=.ref I/\Walks prog w A.in1 I fp wr n P St/\St 0 s₂.heap/\(∀ b∈fp,b < s₂.heap.objs.size)/\0 < n/\CmpOf prog w A.in1 op P bt ∧
   ∀ v h' tk,P (argBest bt (n - 1)) v->(∀ b o,b∉wr->s₂.heap.get? b=some o->h'.get? b=some o)->Q v { s₂ with heap:=h',toks:=tk }) E
   { s with heap:=s.heap.push { cls:=.type "tuple", data:=.seq #[.str a t,.str b u] } }:=by
 have hT:(s.heap.push { cls:=.type "tuple", data:=.seq #[.str a t,.str b u] }).IsTuple s.heap.objs.size #[.str a t,.str b u]:=⟨_,zt _ rfl,rfl,0,rfl⟩;refine wpAny_pyIter_tuple hT ?_;have hsz:(s.heap.push { cls:=.type "tuple", data:=.seq #[.str a t,.str b u] }).objs.size=s.heap.objs.size+1:=qh ..;refine⟨_,[_,s.heap.objs.size],[_],_,_,_,bt,rfl,Walks.tuple (A:=A.in1) hh _ s.heap.objs.size (by rw[hsz];exact zC (qo _)) #[.str a t,.str b u],
  ⟨⟨_,zt _ rfl,rfl,rfl⟩,hT.push _⟩,λc hc=>?_,by simp,hc,λv h' tk hP hk=>?_⟩
 ·show c < ((s.heap.push _).push _).objs.size;rw[qh,hsz];rcases List.mem_cons.mp hc with rfl|hc
  ·rw[hsz];exact qo _
  ·rcases List.mem_cons.mp hc with rfl|hc
   ·exact qr (qo _)
   ·cases hc
 ·have hold:∀ c o,s.heap.get? c=some o->h'.get? c=some o:=λc o e=>by
   refine hk c o (λhm=>?_) (zd _ (zd _ e));rcases List.mem_cons.mp hm with e1|hm
   ·have:=zv e;rw[e1,hsz] at this;exact JE _ (Nat.lt_of_succ_lt this)
   ·cases hm
  have:=h h' tk hold;have hv:v=if bt 1 0=true then Value.str b u else Value.str a t:=by
   have hP':(#[Value.str a t,Value.str b u])[argBest bt 1]?=some v:=hP;unfold argBest argBest at hP';by_cases hba:bt 1 0=true
   ·rw[zl hba] at hP' ⊢;exact(by simpa using hP'.symm)
   ·rw[zw hba] at hP' ⊢;exact(by simpa using hP'.symm)
  rw[hv];exact this
end
section
variable {X:Cx}
def sW:List Bx->Option Bx
 |[.z (.str a),.z (.str b)]=>some (.z (.str (if Uh b a=true then b else a)))
 |_=>none
where Uh (x y:Str):Bool:=decide (x.cps.toList < y.cps.toList)
def Lf:List Bx->Option Bx
 |[.z (.str a),.z (.str b)]=>some (.z (.str (if sW.Uh a b=true then b else a)))
 |_=>none
theorem Ru (hc:X.calm=true):nU X (.builtin "min") sW:=by
 intro pins s σ H xs us Q I r h;obtain⟨bs,c,rb,e,q⟩:=h;unfold sW at e;split at e
 ·rename_i a b;cases e;obtain⟨v,w,rfl,r1,r2⟩:=Q8 rb;obtain⟨rfl,h1⟩:=Oh r1;obtain⟨rfl,h2⟩:=Oh r2;obtain⟨u,u',rfl,ru,ru'⟩:=Vals.two r;obtain⟨t,rfl⟩:=ru;obtain⟨t',rfl⟩:=ru';refine call_min_two (Le (I.ok.hd hc) (adT (two a b) Xg) λh' tk kp=>?_);show EP X pins σ Q (if sW.Uh b a=true then _ else _) _;by_cases hb:sW.Uh b a=true
  ·rw[zl hb] at q ⊢;exact⟨.str b,H,I.kept kp,⟨_,rfl⟩,q _ H (Same.refl H) trivial r2⟩
  ·rw[zw hb] at q ⊢;exact⟨.str a,H,I.kept kp,⟨_,rfl⟩,q _ H (Same.refl H) trivial r1⟩
 ·cases e
theorem aaL (hc:X.calm=true):nU X (.builtin "max") Lf:=by
 intro pins s σ H xs us Q I r h;obtain⟨bs,c,rb,e,q⟩:=h;unfold Lf at e;split at e
 ·rename_i a b;cases e;obtain⟨v,w,rfl,r1,r2⟩:=Q8 rb;obtain⟨rfl,h1⟩:=Oh r1;obtain⟨rfl,h2⟩:=Oh r2;obtain⟨u,u',rfl,ru,ru'⟩:=Vals.two r;obtain⟨t,rfl⟩:=ru;obtain⟨t',rfl⟩:=ru';refine call_max_two (Le (I.ok.hd hc) (cmp_gt (two a b) Xg) λh' tk kp=>?_);show EP X pins σ Q (if sW.Uh a b=true then _ else _) _;by_cases hb:sW.Uh a b=true
  ·rw[zl hb] at q ⊢;exact⟨.str b,H,I.kept kp,⟨_,rfl⟩,q _ H (Same.refl H) trivial r2⟩
  ·rw[zw hb] at q ⊢;exact⟨.str a,H,I.kept kp,⟨_,rfl⟩,q _ H (Same.refl H) trivial r1⟩
 ·cases e
def Ck:List Bx->Option Bx
 |[.n kvs]=>(TF kvs).bind λys=>some (.o (ys.map Dt.str))
 |_=>none
theorem Xh (hc:X.calm=true):nU X (.type "list") Ck:=by
 intro pins s σ H xs us Q I r h;obtain⟨bs,c,rb,e,q⟩:=h;unfold Ck at e;split at e
 ·rename_i kvs;obtain⟨ys,ey,e⟩:=bind_some e;cases e;have hlen:kvs.length=ys.length:=by have:=congrArg List.length (uc ey);simpa using this
  obtain⟨v,rfl,r1⟩:=rep1 rb;obtain⟨a,ks,rfl,rd,rm⟩:=r1;obtain⟨u,rfl,ru⟩:=vals1 r;cases ru;obtain⟨hz,hsys,vs,kv,o,es,ep,dd⟩:=rT I.hok rd;have hk:vs.map (·.1)=ys.map Sum.inr:=by rw[Ra kv,rm.1];exact uc ey
  have hl:ks.length=vs.length:=kv.length;refine Cj (I.ok.hd hc) hsys ⟨o,es,dd⟩ (by omega) λh' tk acc c' ext en hit=>?_;have z1:=Ou hk hit;have hy:∀ y∈ys,y.length<=sizeLine:=aal ey rm.2.2;have hfr:=I.hok.fresh (zg s.heap.objs.size);refine⟨.ref s.heap.objs.size,_,I.laid (t':=tk) (a:=s.heap.objs.size) (o:=.lst (ys.map V.str)) ext (zg _) ?_,rfl,q _ _ (bG hfr) (λa ea=>by cases ea;exact hfr) ⟨_,_,rfl,aQ,Bw hy⟩⟩;refine⟨by rw[zh,<-hlen,<-rm.len];exact hz,acc.toList,c',xR z1,?_⟩;rw[en]
 ·cases e
end
def hole (H:Hp) (a:Addr):Hp:=λb=>if b=a then none else H b
theorem Rv {H:Hp} {a b:Addr} (h:b≠a):hole H a b=H b:=zw h
theorem Rw {H:Hp} {a:Addr}:hole H a a=none:=zl rfl
def isZ:Bx->Bool
 |.z _=>true
 |_=>false
def spM (K:FG_) (n:Nat) (G:Addr->List (Key×Dt)->List Bx->Option (List (Key×Dt))):Sp:=λvs H Q _=>vs.length=n+1/\∃ a ks kvs rest bs kvs',vs=.ref a::rest/\H a=some (.dK ks)/\eZ K H kvs ks/\pC K H bs rest/\bs.all isZ=true/\G a kvs bs=some kvs'/\∀ H' ks',Same (hole H a) H'->H' a=some (.dK ks')->eZ K H' kvs' ks'->Q .non H'
def Lg (n:Nat) (g:Ev->Option Out):Addr->List (Key×Dt)->List Bx->Option (List (Key×Dt)):=λa kvs bs=>(g ((Bx.m kvs (some a)::bs).map some++List.replicate (n - (bs.length+1)) none)).bind λr=>match r with
 |.nx ρ=>match ρ[0]? with
  |some (some (Bx.m kvs' (some b)))=>if b=a then some kvs' else none
  |_=>none
 |_=>none
theorem Ph {n:Nat} {g:Ev->Option Out} {a:Addr} {kvs kvs':List (Key×Dt)} {bs:List Bx} (h:Lg n g a kvs bs=some kvs'):∃ ρ,g ((Bx.m kvs (some a)::bs).map some++List.replicate (n - (bs.length+1)) none)=some (.nx ρ)/\ρ[0]?=some (some (.m kvs' (some a))):=by
 obtain⟨r,er,h⟩:=bind_some h;cases r with
 |nx ρ=>
  dsimp only at h;split at h
  ·rename_i k b e;split at h
   ·rename_i hb;cases h;subst hb;exact⟨ρ,er,e⟩
   ·cases h
  ·cases h
 |rt _=>cases h
 |bk _=>cases h
 |ct _=>cases h
theorem Cm {α β:Type} {R:α->β->Prop}:∀ {xs:List α} {ys:List β},Paired R xs ys->∀ {i:Nat} {x:α},xs[i]?=some x->∃ y,ys[i]?=some y/\R x y
 |_,_,.nil,i,x,q=>by simp at q
 |_,_,.cons r _,0,x,q=>by simp at q;subst q;exact⟨_,rfl,r⟩
 |_,_,.cons _ t,i+1,x,q=>by
  rw[ZO] at q;obtain⟨y,y1,y2⟩:=Cm t q;exact⟨y,by rw[ZO];exact y1,y2⟩
theorem bD.startM {K:FG_} {H:Hp} {N:LS_} {bs:List Bx} {rest:List V} {a:Addr} {ks:List (Key×V)} {kvs:List (Key×Dt)} (ha:H a=some (.dK ks)) (rm:eZ K H kvs ks) (r:pC K H bs rest) (hz:bs.all isZ=true):bD K (hole H a) H (L2.start N (.ref a::rest)) ((Bx.m kvs (some a)::bs).map some++List.replicate (N.length - (bs.length+1)) none):=by
 have hl:bs.length=rest.length:=Paired.length r;have r2:pC K H (.m kvs (some a)::bs) (.ref a::rest):=.cons ⟨a,ks,rfl,ha,rm,λb h=>by cases h;rfl⟩ r;have get:∀ (i:Nat) b,((Bx.m kvs (some a)::bs).map some++List.replicate (N.length - (bs.length+1)) none)[i]?=some (some b)->(Bx.m kvs (some a)::bs)[i]?=some b:=λi b e=>by
  by_cases hi:i < (Bx.m kvs (some a)::bs).length
  ·rw[ZI (by simpa using hi),zI] at e;cases q:(Bx.m kvs (some a)::bs)[i]? with
   |none=>rw[q] at e;cases e
   |some b'=>rw[q] at e;simpa using e
  ·rw[qk (by simp at hi ⊢;omega),QI] at e;split at e<;>cases e
 have noz:∀ (i:Nat) b,((Bx.m kvs (some a)::bs).map some++List.replicate (N.length - (bs.length+1)) none)[i]?=some (some b)->i≠0->loose b=false:=λi b e hi=>by
  have e2:=get i b e;cases i with
  |zero=>exact absurd rfl hi
  |succ j=>
   rw[ZO] at e2;have:=List.all_eq_true.mp hz b (qV e2);cases b<;>first|rfl|cases this
 have ol:∀ c,rC c=true->loose c=true:=λc hc=>by cases c<;>first|rfl|cases hc
 have zero:∀ (i:Nat) c,((Bx.m kvs (some a)::bs).map some++List.replicate (N.length - (bs.length+1)) none)[i]?=some (some c)->loose c=true->i=0:=λi c e hc=>by
  by_cases hi:i=0
  ·exact hi
  ·rw[noz i c e hi] at hc;cases hc
 have st:∀ i v,(Value.ref a=Value.ref a)->(V.ref a::rest)[i]?=some v->(L2.start N (.ref a::rest))[i]?=some (some v):=λi v _ e=>by
  have hi:i < (V.ref a::rest).length:=(List.getElem?_eq_some_iff.mp e).1;unfold L2.start;rw[ZI (by simpa using hi),zI,e];rfl
 refine⟨by unfold L2.start;simp[hl],λi b e=>?_,λi j c x b e1 ec _ e3 hb _=>?_,λb o e=>?_,λi c x e ec e2=>?_⟩
 ·obtain⟨v,e1,r1⟩:=Cm r2 (get i b e);exact⟨v,st i v rfl e1,r1⟩
 ·rw[zero i c e1 (ol c ec),zero j b e3 hb]
 ·by_cases hb:b=a
  ·subst hb;rw[Rw] at e;cases e
  ·rw[Rv hb] at e;exact e
 ·have hi:=zero i c e (ol c ec);subst hi;rw[st 0 (.ref a) rfl rfl] at e2;cases e2;exact Rw
theorem ahU {P:Program} {w:World} {K:FG_} {mg:Str->Option Value} {base:Heap} {x qual:Str} {st:Stmt} {f:Addr} {fd:FuncData} {N ps:LS_} {k n m:Nat} {g:Ev->Option Out} (F:yE K x qual st f fd) (S:aY N ps (aF st)) (hn:N.length=n) (hm:ps.length=m+1)
  (hbody:∀ (cdv:Value) (A:Around) (outer:List Env) (s:Shared) (H:Hp) (E:XK),fK k (A.deeper (envOfC qual (aF st) s.heap.objs.size f cdv))->Vf (qb vM P w K mg base N qual (aF st) f cdv A outer s H E).Ve (dD st) g) :
  iV P w K mg base vM (k+1) f fd ps (spM K m (Lg n g)):=by
 subst hn;refine F.ok S (λvs H Q E h=>by rw[hm];exact h.1) λcdv A outer s H vs Q E hr h=>?_;obtain⟨hl,a,ks,kvs,rest,bs,kvs',rfl,ha,rm,rb,hz,e,q⟩:=h;refine⟨_,(hbody cdv A outer s H E hr).run,?_⟩;obtain⟨ρ,er,e0⟩:=Ph e;refine⟨hole H a,_,_,bD.startM ha rm rb hz,er,?_⟩;intro σ' H' E';obtain⟨v,ev,b,ks',rfl,hb,rm',tie⟩:=E'.val 0 _ e0;have:=tie a rfl;subst this;exact q H' ks' E'.base hb rm'
open Classical in
noncomputable def Cp (i n:Nat) (G:Addr->List (Key×Dt)->List Bx->Option (List (Key×Dt))) (fs:Ev->Option (List Bx)):Ev->Option Out:=λρ=>match ρ[i]? with
 |some (some (.m kvs w))=>(fs ρ).bind λbs=>if h:bs.length=n/\bs.all isZ=true/\∃ kvs',∀ a,G a kvs bs=some kvs' then some (.nx (ρ.set i (some (.m (Classical.choose h.2.2) w)))) else none
 |_=>none
theorem Pj {i n:Nat} {G:Addr->List (Key×Dt)->List Bx->Option (List (Key×Dt))} {fs:Ev->Option (List Bx)} {ρ:Ev} {r:Out} (h:Cp i n G fs ρ=some r):∃ kvs w bs kvs',ρ[i]?=some (some (.m kvs w))/\fs ρ=some bs/\bs.length=n/\bs.all isZ=true/\(∀ a,G a kvs bs=some kvs')/\r=.nx (ρ.set i (some (.m kvs' w))):=by
 unfold Cp at h;split at h
 ·rename_i kvs w e;obtain⟨bs,eb,h⟩:=bind_some h;split at h
  ·rename_i hh;cases h;exact⟨kvs,w,bs,_,e,eb,hh.1,hh.2.1,Classical.choose_spec hh.2.2,rfl⟩
  ·cases h
 ·cases h
theorem Xi {i n:Nat} {G:Addr->List (Key×Dt)->List Bx->Option (List (Key×Dt))} {fs:Ev->Option (List Bx)} {ρ:Ev} {kvs kvs':List (Key×Dt)} {w:Option Addr} {bs:List Bx} (e:ρ[i]?=some (some (.m kvs w))) (eb:fs ρ=some bs) (hl:bs.length=n) (hz:bs.all isZ=true) (hG:∀ a,G a kvs bs=some kvs'):Cp i n G fs ρ=some (.nx (ρ.set i (some (.m kvs' w)))):=by
 unfold Cp;rw[e];simp only[eb,ahW];have hh:bs.length=n/\bs.all isZ=true/\∃ kvs',∀ a,G a kvs bs=some kvs':=⟨hl,hz,kvs',hG⟩;rw[dif_pos hh];have:=Classical.choose_spec hh.2.2 0;rw[hG 0] at this;injection this with this;rw[<-this]
where ahW {α β:Type} (a:α) (f:α->Option β):(some a).bind f=f a:=rfl
theorem bD.afW {K:FG_} {H0 H H':Hp} {σ:L2.St} {ρ:Ev} {i:Nat} {a:Addr} {kvs kvs':List (Key×Dt)} {w:Option Addr} {ks ks':List (Key×V)} (E:bD K H0 H σ ρ) (h:ρ[i]?=some (some (.m kvs w))) (hs:σ[i]?=some (some (.ref a))) (ha:H a=some (.dK ks)) (sm:Same (hole H a) H') (ha':H' a=some (.dK ks')) (rm:eZ K H' kvs' ks') (tie:∀ b,w=some b->b=a) :
  bD K H0 H' σ (ρ.set i (some (.m kvs' w))):=by
 have hi:i < ρ.length:=(List.getElem?_eq_some_iff.mp h).1;have hb:H0 a=none:=E.new i _ a h rfl hs;have sn:∀ b u,b≠a->H b=some u->H' b=some u:=λb u hne e=>sm b u (by rw[Rv hne];exact e);have kp:Kp H H':=⟨λb xs e=>sn b _ (iw e ha (by intro z;cases z)) e,λb ob u e=>sn b _ (iw e ha (by intro z;cases z)) e⟩;refine⟨by rw[JY];exact E.len,λj b' e=>?_,λj k' c a' b' e1 ec e2 e3 e4 e5=>?_,λc o e=>?_,λj c a' e1 ec e2=>?_⟩
 ·rcases getset e with⟨rfl,e',_⟩|⟨hne,e'⟩
  ·cases e';exact⟨_,hs,a,ks',rfl,ha',rm,tie⟩
  ·obtain⟨v,e1,r'⟩:=E.val j b' e';refine⟨v,e1,?_⟩;have away:∀ a',v=.ref a'->loose b'=true->a'≠a:=λa' ev hl z=>by
    subst z;exact hne (E.own i j _ _ _ h rfl hs e' hl (by rw[e1,ev])).symm
   cases b' with
   |z d=>exact Rep.kp kp r'
   |l ds'=>
    obtain⟨a',vs',rfl,q,rr⟩:=r';have hn:=away a' rfl rfl;exact⟨a',vs',rfl,q.imp (sn _ _ hn) λ⟨o,q⟩=>⟨o,sn _ _ hn q⟩,rr.kp kp⟩
   |o ds'=>
    obtain⟨a',vs',rfl,q,rr⟩:=r';exact⟨a',vs',rfl,sn _ _ (away a' rfl rfl) q,rr.kp kp⟩
   |n ds'=>
    obtain⟨a',vs',rfl,q,rr⟩:=r';have hn:=away a' rfl rfl;exact⟨a',vs',rfl,q.imp (sn _ _ hn) λ⟨o,q⟩=>⟨o,sn _ _ hn q⟩,rr.kp kp⟩
   |m ds' _=>
    obtain⟨a',vs',rfl,q,rr,tt⟩:=r';exact⟨a',vs',rfl,sn _ _ (away a' rfl rfl) q,rr.kp kp,tt⟩
 ·have back:∀ {j:Nat} {c:Bx},(ρ.set i (some (.m kvs' w)))[j]?=some (some c)->∃ c',ρ[j]?=some (some c')/\(rC c=true->rC c'=true)/\(loose c=true->loose c'=true):=λ{j c} e=>by
   rcases getset e with⟨rfl,e',_⟩|⟨_,e'⟩
   ·exact⟨_,h,λ_=>rfl,λ_=>rfl⟩
   ·exact⟨c,e',id,id⟩
  obtain⟨c',p1,p2,_⟩:=back e1;obtain⟨b2,q1,_,q3⟩:=back e3;exact E.own j k' c' a' b2 p1 (p2 ec) e2 q1 (q3 e4) e5
 ·have e2:=E.base c o e;exact sn c o (λz=>by subst z;rw[hb] at e;cases e) e2
 ·rcases getset e1 with⟨rfl,e',_⟩|⟨_,e'⟩
  ·exact E.new _ _ a' h rfl e2
  ·exact E.new j c a' e' ec e2
section
variable {X:Cx} {e:Expr} {es:List Expr} {fs:Ev->Option (List Bx)} {p px pos spos:Pos} {x y:Str} {k n:Nat} {f:Addr} {fd:FuncData} {ps:LS_} {G:Addr->List (Key×Dt)->List Bx->Option (List (Key×Dt))}
theorem aaM (i:Nat) (F:iV X.prog X.w X.K X.mg X.base vM k f fd ps (spM X.K n G)) (hr:fK k X.A) (hg:Gl X x) (hm:X.mg x=some (.ref f)) (hk:keepIn X.K (.ref f)=true) (hb:Binds X.K fd ps [])
  (ha:Tf X es fs) (hN:X.N[i]?=some y:=by rfl) (hv:Y6 X.env.scope y:=by first|exact kU rfl|exact JP (kU rfl)|exact JP (JP rfl)) (hd:(y==("__debug__" : Str))=false:=by decide)
  (hcd:(y==("__classdict__" : Str))=false:=by decide) (hdb:(x==("__debug__" : Str))=false:=by decide) (he:starEach (.Name y px::es) X.env=(false,eval (.Name y px) X.env)::starEach es X.env:=by rfl) (hpl:(backTo pos (starEach es X.env)).any (·.1)=false:=by rfl) (hs:swapsWith (.Call (.Name x p) (.Name y px::es) [] pos) none spos.line X.env=pure false:=by rfl) :
  QW X (.Expr (.Call (.Name x p) (.Name y px::es) [] pos) spos) (Cp i n G fs):=⟨Tg (zO (Hj F hr hg hm hk hb .nil abR (aV (uT (i:=i) hN hv hd hcd) ha.run he) hdb he hpl) hs) λD σ H h=>by
 obtain⟨H0,ρ,r,E,e,q⟩:=h;obtain⟨kvs,w,bs,kvs',hρ,eb,hl,hz,hG,rfl⟩:=Pj e;obtain⟨v,e1,a,ks,rfl,haa,rm,tie⟩:=E.val i _ hρ;refine⟨_,e1,H0,ρ,bs,E,eb,λvs H1 s1 r1=>?_⟩;have ha1:=s1 _ _ haa;refine⟨by simp only[QA,qS];rw[<-Paired.length r1,hl],a,ks,kvs,vs,bs,kvs',by simp,ha1,rm.kp (.of s1),r1,hz,hG a,λH' ks' sm hk' rm'=>?_⟩;exact q σ H' ((E.grow s1).afW hρ e1 ha1 sm hk' rm' tie)⟩
end
def isT:Option Bool->Bool
 |some true=>true
 |_=>false
def Ui (x:Dt) (ys:List Dt):Option Bool:=if(ys.all λy=>(wX y x).isSome&&decide (min (rJ y) (rJ x)<=60))=true then some (ys.any λy=>isT (wX y x)) else none
def inX (a b:Bx):Option Bx:=match a with
 |.z d=>(uX b).bind λys=>(Ui d ys).bind λk=>some (.z (.bl k))
 |_=>none
def Xj (a b:Bx):Option Bx:=match a with
 |.z d=>(uX b).bind λys=>(Ui d ys).bind λk=>some (.z (.bl (!k)))
 |_=>none
section
variable {X:Cx} {pins:List (Addr×Obj)} {σ:L2.St} {H:Hp} {s:Shared}
theorem Xk (I:L2.Inv X pins σ H s) (hu:X.A.units+100 < cLine) {d:Dt} {x:V} {u:Value} (rx:Rep X.K H d x) (ru:RelV x u) {ys:List Dt} {vs:List V} {its:List Value} (rs:aK X.K H ys vs) (rv:Vals vs its) {k:Bool} (hk:Ui d ys=some k) :
  ∃ e:Value->Bool,(∀ y,y∈its->SeqAt.EqAt X.A.in1 s y u (e y))/\its.any e=k:=by
 unfold Ui at hk;split at hk
 ·rename_i hall;injection hk with hk;rw[Z3] at hall;have at_:∀ (i:Nat) y,its[i]?=some y->∃ c,ys[i]?=some c/\SeqAt.EqAt X.A.in1 s y u (isT (wX c d)):=λi y hy=>by
   have hl:=rv.length;have hl2:=rs.length;have hi:i < its.length:=(List.getElem?_eq_some_iff.mp hy).1;have hi':i < ys.length:=by omega
   obtain⟨v,ev,r1⟩:=rs.get (show ys[i]?=some ys[i] by simp[hi']);obtain⟨y',ey,r2⟩:=rv.get ev;rw[hy] at ey;cases ey;refine⟨ys[i],by simp[hi'],?_⟩;have hc:=hall ys[i] (yB hi');rw[Zz] at hc;obtain⟨b,hb⟩:=Option.isSome_iff_exists.mp hc.1;have:=abX I 60 (A:=X.A.in1) (kb hc.2) (by rw[units_in1];omega) r1 rx r2 ru hb;rw[hb];cases b<;>exact this
  classical
  refine⟨λy=>decide (∃ (i:Nat) (c:Dt),its[i]?=some y/\ys[i]?=some c/\isT (wX c d)=true),λy hy=>?_,?_⟩
  ·dsimp only;by_cases q:∃ (i:Nat) (c:Dt),its[i]?=some y/\ys[i]?=some c/\isT (wX c d)=true
   ·rw[QN q];obtain⟨i,c,h1,h2,h3⟩:=q;obtain⟨c',e1,e2⟩:=at_ i y h1;rw[h2] at e1;cases e1;rw[h3] at e2;exact e2
   ·rw[qa q];obtain⟨i,hi,ei⟩:=QY hy;have h1:its[i]?=some y:=by rw[zS hi,ei]
    obtain⟨c,e1,e2⟩:=at_ i y h1;have:isT (wX c d)=false:=by
     cases hq:isT (wX c d) with
     |false=>rfl
     |true=>exact absurd ⟨i,c,h1,e1,hq⟩ q
    rw[this] at e2;exact e2
  ·rw[<-hk,KU,kq,kq];constructor
   ·rintro⟨y,hy,h⟩;obtain⟨i,c,h1,h2,h3⟩:=kb h;exact⟨c,qV h2,h3⟩
   ·rintro⟨c,hc,h3⟩;obtain⟨i,hi,ei⟩:=QY hc;have hl:=rv.length;have hl2:=rs.length;have hi':i < its.length:=by omega
    exact⟨its[i],yB hi',QN ⟨i,c,by simp[hi'],by rw[zS hi,ei],h3⟩⟩
 ·cases hk
theorem aaN (hu:X.A.units+100 < cLine):Ed X (compareOp .NotIn) Xj:=by
 intro pins s σ H x y v u Q I rx ry h;obtain⟨a,b,c,ra,rb,e,q⟩:=h;unfold Xj at e;split at e
 ·rename_i d;obtain⟨ys,ey,e⟩:=bind_some e;obtain⟨k,ek,e⟩:=bind_some e;cases e;obtain⟨p,vs,rfl,sq,rs⟩:=Ik rb ey;cases ry;rcases sq with sq|sq
  ·obtain⟨its,r',pl,hz⟩:=I.list sq;obtain⟨f,f1,f2⟩:=Xk I hu ra rx rs r' ek;refine SeqAt.notIn_listAt f pl.isList (λw hw=>f1 w (by simpa using hw)) ⟨.bl (!k),H,I,by rw[show its.toArray.any f=its.any f by simp,f2];rfl,q _ H (Same.refl H) trivial (by simp only[bf,Rep])⟩
  ·obtain⟨its,r',pl,hz⟩:=I.tuple sq;obtain⟨f,f1,f2⟩:=Xk I hu ra rx rs r' ek;refine SeqAt.notIn_tupleAt f pl (λw hw=>f1 w (by simpa using hw)) ⟨.bl (!k),H,I,by rw[show its.toArray.any f=its.any f by simp,f2];rfl,q _ H (Same.refl H) trivial (by simp only[bf,Rep])⟩
 ·cases e
end
section
variable {X:Cx} {g:Ev->Option Out} {st:List Stmt} {i:Nat}
end
open AutoSeq1 (wpAny_loadPart')
open SeqAt
section
variable {X:Cx} {pins:List (Addr×Obj)} {σ:L2.St} {H:Hp} {s:Shared}
end
section
variable {X:Cx} {o e:Expr} {fo fx:Ev->Option Bx}
end
section
variable {X:Cx} {c:Expr} {body:List Stmt} {t:Ev->Option Bool} {g:Ev->Option Out} {pos:Pos}
end
section
variable {X:Cx} {pins:List (Addr×Obj)} {σ:L2.St} {H:Hp} {s:Shared} {h':Heap}
end
section
variable {X:Cx} {elts:List Expr} {x1:Nat} {tpos p pos:Pos} {e:Expr} {fs:Ev->Option (List Bx)}
end
section
variable {X:Cx} {e:Expr} {f:Ev->Option Bx} {pos:Pos}
end
section
variable {X:Cx}
end
section
variable {X:Cx} {e:Expr} {f:Ev->Option Bx} {pos:Pos}
end
section
variable {X:Cx} {e ek ev:Expr} {f fk fv:Ev->Option Bx} {pos:Pos} {st:Stmt}
def noG:Ev->Option Out:=λ_=>none
theorem aaO:QW X st noG:=⟨λD pins s σ H I q=>by
 obtain⟨H0,ρ,r,E,e,q⟩:=q;cases e⟩
def Rx (f:Ev->Option Bx):Ev->Option Out:=λρ=>(f ρ).bind λ_=>some (.nx ρ)
theorem aaP (he:QV X e f) (hs:swapsWith e none pos.line X.env=pure false:=by rfl):QW X (.Expr e pos) (Rx f):=⟨Tg (zO he.run hs) λD σ H h=>by
 obtain⟨H0,ρ,r,E,e,q⟩:=h;obtain⟨b,eb,e⟩:=bind_some e;cases e;exact⟨H0,ρ,b,E,eb,λv H1 s1 n1 r1=>q _ _ (E.grow s1)⟩⟩
end
section
variable {X:Cx} {e st:Expr} {f fs:Ev->Option Bx} {pos p2:Pos}
end
section
variable {prog:Program} {w:World} {A:Around} {E:VP_} {s:Shared}
theorem ad {a b:Nat} (h:a≠b):@Ne Addr a b:=h
end
section
variable {prog:Program} {w:World} {A:Around} {E:VP_} {s:Shared} {K:Type} [DecidableEq K] {knd:KeyKind prog w K}
end
section
variable {X:Cx} {ea eb:Expr} {fa fb:Ev->Option Bx} {p1 p2 pos1 pos2:Pos}
end
section
variable {X:Cx}
end
theorem qp {X:Cx} {scope:Scope} {cl:List (Str×Addr)} (xs:LS_) (is:List Nat) (clos:closureFor scope X.env=pure cl:=by with_unfolding_all rfl) (kind:scope.kind=.function:=by rfl) (cell:scope.names.all (λy=>decide (y.2≠.cell)||(cl.lookup y.1).isNone)=true:=by rfl)
  (names:scope.names.all (λy=>decide (y.2=.local->scope.names.lookup y.1=some .local))=true:=by decide +kernel) (sub:SubL X.env.cells cl:=by repeat (first|exact trivial|refine⟨rfl,?_⟩))
  (has:(relabel scope X.env).names.all (λy=>!(y.2==.cell||y.2==.free)||(cl.lookup y.1).isSome||scope.names.contains (y.1,.cell))=true:=by rfl) (cap:Eh X scope cl xs is:=by repeat (first|exact adD|refine aah rfl (by first|exact .inl rfl|exact .inr rfl) (by first|exact .inl rfl|exact .inr rfl) ⟨_,rfl⟩ ?_)):oX X scope cl xs is:=adE clos kind cell names sub has cap
theorem jF {N ps:LS_} {sc:Scope} (h1:sc.kind=.function:=by rfl) (h2:sc.isCoroutine=false:=by rfl) (h3:sc.isGenerator=false:=by rfl) (h4:N.Nodup:=by decide +kernel) (h5:N.take ps.length=ps:=by rfl) (h6:∀ x∈ps,sc.names.lookup x=some .local\/sc.names.lookup x=some .cell:=by decide +kernel) (h7:∀ y∈sc.names,y.2≠.free:=by decide +kernel):aY N ps sc:=⟨h1,h2,h3,h4,h5,h6,h7⟩
instance:Inhabited Dt:=⟨.non⟩
theorem bnd {α β:Type} (a:α) (f:α->Option β):(some a).bind f=f a:=(ki a f).trans (Eq.refl _)
def hold:Option Prop->Prop
 |none=>True
 |some p=>p
def bh:Option Prop->Option Prop->Option Prop
 |none,q=>q
 |some p,none=>some p
 |some p,some q=>some (p/\q)
def Cq (c:Prop):Option Prop->Option Prop
 |none=>none
 |some p=>some (c->p)
theorem aA {p q:Option Prop} (h:hold (bh p q)):hold p/\hold q:=by
 cases p with
 |none=>exact⟨trivial,h⟩
 |some p=>cases q with
  |none=>exact⟨h,trivial⟩
  |some q=>exact h
theorem jo {c:Prop} {p:Option Prop} (h:hold (Cq c p)) (hc:c):hold p:=by
 cases p with
 |none=>trivial
 |some p=>exact h hc
structure R {α β:Type} (f:Ev->Option β) (ρ:Ev) (c:α->β) where
 v:α
 D:Option Prop
 ok:hold D->f ρ=some (c v)
abbrev zE {α:Type} (e:α->Dt):α->Bx:=λa=>.z (e a)
abbrev oE {α:Type} (e:α->Dt):List α->Bx:=λxs=>.o (xs.map e)
abbrev lE {α:Type} (e:α->Dt):List α->Bx:=λxs=>.l (xs.map e)
abbrev tE:Bool->Bool:=λb=>b
abbrev iE {α:Type} (e:α->Dt):List α->List Dt:=λxs=>xs.map e
abbrev eI:Int->Dt:=Dt.int
abbrev eB:Bool->Dt:=Dt.bl
abbrev eS:Str->Dt:=Dt.str
abbrev eD:Dt->Dt:=λd=>d
abbrev eN:Unit->Dt:=λ_=>.non
abbrev eL {α:Type} (e:α->Dt):List α->Dt:=λxs=>.lst (xs.map e)
abbrev eT {α:Type} (e:α->Dt):List α->Dt:=λxs=>.tup (xs.map e)
abbrev eO {α:Type} (e:α->Dt):Option α->Dt:=λo=>match o with|none=>.non|some a=>e a
abbrev eP1 {α:Type} (a:α->Dt):α->Dt:=λx=>.tup [a x]
abbrev eP2 {α β:Type} (a:α->Dt) (b:β->Dt):α×β->Dt:=λx=>.tup [a x.1,b x.2]
abbrev eP3 {α β γ:Type} (a:α->Dt) (b:β->Dt) (c:γ->Dt):α×β×γ->Dt:=λx=>.tup [a x.1,b x.2.1,c x.2.2]
abbrev eP4 {α β γ δ:Type} (a:α->Dt) (b:β->Dt) (c:γ->Dt) (d:δ->Dt):α×β×γ×δ->Dt:=λx=>.tup [a x.1,b x.2.1,c x.2.2.1,d x.2.2.2]
structure RL {α:Type} (f:Ev->Option Bx) (ρ:Ev) (e:α->Dt) where
 v:List α
 D:Option Prop
 b:Bx
 lk:pB b=some (v.map e)
 ok:hold D->f ρ=some b
section
variable {α β γ δ:Type} {ρ:Ev} {f fa fb fc:Ev->Option Bx} {fs:Ev->Option (List Bx)} {e:α->Dt} {e':β->Dt}
def iu (a:R f ρ (oE e)):RL f ρ e:=⟨a.v,a.D,_,rfl,a.ok⟩
def dW (a:R f ρ (lE e)):RL f ρ e:=⟨a.v,a.D,_,rfl,a.ok⟩
def Pk (a:R f ρ (zE (eL e))):RL f ρ e:=⟨a.v,a.D,_,rfl,a.ok⟩
def Lp (b:Bx) (ds:List Dt):Prop:=b=.z (.lst ds)\/b=.l ds
theorem Lp.FT {b:Bx} {ds:List Dt} (h:Lp b ds):pB b=some ds:=by rcases h with rfl|rfl<;>rfl
theorem Lp.get {b:Bx} {ds:List Dt} {i:Nat} (h:Lp b ds) (hi:ρ[i]?=some (some b)):w6 ρ i=some b:=by
 rcases h with rfl|rfl<;>(unfold w6;rw[hi])
theorem Lh {b:Bx} {ds:List Dt} (h:pB b=some ds):Lp (P1.lend b) ds:=by
 cases b with
 |z d=>cases d<;>cases h;exact .inl rfl
 |l d=>cases h;exact .inr rfl
 |o d=>cases h;exact .inr rfl
 |n d=>cases h
 |m d _=>cases h
def au (i:Nat) (c:α->Bx) (a:α) (h:w6 ρ i=some (c a)):R (gv i) ρ c:=⟨a,none,λ_=>h⟩
def nj (i:Nat) (e:α->Dt) (a:List α) {b:Bx} (h:Lp b (a.map e)) (hi:ρ[i]?=some (some b)):RL (gv i) ρ e:=⟨a,none,b,h.FT,λ_=>h.get hi⟩
def yL (d:Dt) (e:α->Dt) (a:α) (h:d=e a):R (cB d) ρ (zE e):=⟨a,none,λ_=>by rw[h];rfl⟩
def Li (a:R f ρ (zE e)):R f ρ (zE eD):=⟨e a.v,a.D,a.ok⟩
def aaR (a:R f ρ (oE e)):R (b1 vH f) ρ (zE (eL e)):=⟨a.v,a.D,λh=>by simp only[b1,a.ok h,bnd,vH]⟩
def iD (a:R f ρ (zE e)):R (b1 vH f) ρ (zE e):=⟨a.v,a.D,λh=>by simp only[b1,a.ok h,bnd,vH]⟩
def fG (a:R fa ρ (zE eI)) (b:R fb ρ (zE eI)):R (b2 dh fa fb) ρ (zE eI):=⟨a.v+b.v,bh a.D b.D,λh=>by
 obtain⟨h1,h2⟩:=aA h;simp only[b2,a.ok h1,b.ok h2,bnd,dh]⟩
def Gx (a:R fa ρ (zE eI)) (b:R fb ρ (zE eI)):R (b2 subB fa fb) ρ (zE eI):=⟨a.v - b.v,bh a.D b.D,λh=>by
 obtain⟨h1,h2⟩:=aA h;simp only[b2,a.ok h1,b.ok h2,bnd,i2]⟩
def Mul (a b:Int):Prop:=(-18446744073709551616 < a/\a < 18446744073709551616)\/(-18446744073709551616 < b/\b < 18446744073709551616)
def Xl (a:R fa ρ (zE eI)) (b:R fb ρ (zE eI)):R (b2 sy fa fb) ρ (zE eI):=⟨a.v * b.v,bh (bh a.D b.D) (some (Mul a.v b.v)),λh=>by
 obtain⟨h,h3⟩:=aA h;obtain⟨h1,h2⟩:=aA h;simp only[b2,a.ok h1,b.ok h2,bnd];exact zl h3⟩
def Iz (n:Int) (hn : -18446744073709551616 < n/\n < 18446744073709551616) (b:R fb ρ (zE eI)):R (b2 sy (cB (.int n)) fb) ρ (zE eI):=⟨n * b.v,b.D,λh=>by
 simp only[b2,b.ok h,bnd,cB];exact zl (.inl hn)⟩
def Ry (a:R fa ρ (zE eI)) (n:Int) (hn : -18446744073709551616 < n/\n < 18446744073709551616):R (b2 sy fa (cB (.int n))) ρ (zE eI):=⟨a.v * n,a.D,λh=>by
 simp only[b2,a.ok h,bnd,cB];exact zl (.inr hn)⟩
def nZ (a:R fa ρ (zE eI)) (n:Int) (hn:0 < n/\n < 1073741824):R (b2 uH fa (cB (.int n))) ρ (zE eI):=⟨a.v / n,a.D,λh=>by
 simp only[b2,a.ok h,bnd,i2,cB,zl hn]⟩
def yM (a:R fa ρ (zE eI)) (b:R fb ρ (zE eI)):R (b2 d9 fa fb) ρ (zE eI):=⟨a.v % b.v,bh (bh a.D b.D) (some (0 < b.v)),λh=>by
 obtain⟨h,h3⟩:=aA h;obtain⟨h1,h2⟩:=aA h;have h3:0 < b.v:=h3;simp only[b2,a.ok h1,b.ok h2,bnd,i2,zl h3]⟩
def cg (a:R fa ρ (zE eI)) (n:Int) (hn:0 < n):R (b2 d9 fa (cB (.int n))) ρ (zE eI):=⟨a.v % n,a.D,λh=>by
 simp only[b2,a.ok h,bnd,i2,cB,zl hn]⟩
def adW (a b:Int) (n:Nat) (h:0<=b/\b<=1000/\a.natAbs < 18446744073709551616) (hb:b.toNat=n):R (b2 adq (cB (.int a)) (cB (.int b))) ρ (zE eI):=⟨a ^ n,none,λ_=>by
 simp only[b2,bnd,cB];show((if 0<=b/\b<=1000/\a.natAbs < 2 ^ 64 then some (Dt.int (a ^ b.toNat)) else none).bind λd=>some (Bx.z d))=_;rw[zl h,hb];rfl⟩
def afX (a:R fa ρ (zE eI)) (b:R fb ρ (zE eI)):R (b2 leB fa fb) ρ (zE eB):=⟨decide (a.v<=b.v),bh a.D b.D,λh=>by
 obtain⟨h1,h2⟩:=aA h;simp only[b2,a.ok h1,b.ok h2,bnd,i2]⟩
def ahY (a:R fa ρ (zE eI)) (b:R fb ρ (zE eI)):R (b2 gtB fa fb) ρ (zE eB):=⟨decide (b.v < a.v),bh a.D b.D,λh=>by
 obtain⟨h1,h2⟩:=aA h;simp only[b2,a.ok h1,b.ok h2,bnd,i2]⟩
def x_ge (a:R fa ρ (zE eI)) (b:R fb ρ (zE eI)):R (b2 geB fa fb) ρ (zE eB):=⟨decide (b.v<=a.v),bh a.D b.D,λh=>by
 obtain⟨h1,h2⟩:=aA h;simp only[b2,a.ok h1,b.ok h2,bnd,i2]⟩
def ab4 (a:R fa ρ (zE eI)) (b:R fb ρ (zE eI)):R (b2 ltA fa fb) ρ (zE eB):=⟨decide (a.v < b.v),bh a.D b.D,λh=>by
 obtain⟨h1,h2⟩:=aA h;simp only[b2,a.ok h1,b.ok h2,bnd,ltA]⟩
def Nj (x y:Str):Bool:=decide (x.cps.toList < y.cps.toList)
end
class Eqs {α:Type} [DecidableEq α] (e:α->Dt) (n:outParam Nat):Prop where
 eq:∀ a b,wX (e a) (e b)=some (decide (a=b))
 dp:∀ a,rJ (e a)<=n
class Non {α:Type} (e:α->Dt):Prop where
 l:∀ a,wX .non (e a)=some false
 r:∀ a,wX (e a) .non=some false
instance:Eqs eI 1:=⟨λa b=>rfl,λa=>by simp[rJ]⟩
instance:Eqs eB 1:=⟨λa b=>rfl,λa=>by simp[rJ]⟩
instance:Eqs eS 1:=⟨λa b=>rfl,λa=>by simp[rJ]⟩
instance:Non eI:=⟨λa=>rfl,λa=>rfl⟩
instance:Non eB:=⟨λa=>rfl,λa=>rfl⟩
instance:Non eS:=⟨λa=>rfl,λa=>rfl⟩
section
variable {α β γ δ:Type} [DecidableEq α] [DecidableEq β] [DecidableEq γ] [DecidableEq δ] {e:α->Dt} {e':β->Dt} {e'':γ->Dt} {e3:δ->Dt} {n m k l:Nat}
theorem Cr [Eqs e n]:∀ xs ys:List α,jC (xs.map e) (ys.map e)=some (decide (xs=ys))
 |[],[]=>by simp[jC]
 |[],y::ys=>by simp[jC]
 |x::xs,[]=>by simp[jC]
 |x::xs,y::ys=>by
  simp only[zo,jC,Eqs.eq,Cr xs ys];congr 1;by_cases h:x=y<;>by_cases h':xs=ys<;>simp[h,h']
theorem Cu [Eqs e n]:∀ xs:List α,rY (xs.map e)<=n
 |[]=>by simp[rY]
 |x::xs=>by
  have:=Eqs.dp (e:=e) x;have:=Cu xs;simp only[zo,rY];omega
instance [Eqs e n]:Eqs (eL e) (n+1):=⟨λa b=>Cr a b,λa=>by simp only[rJ];have:=Cu (e:=e) a;omega⟩
instance [Eqs e n]:Eqs (eT e) (n+1):=⟨λa b=>Cr a b,λa=>by simp only[rJ];have:=Cu (e:=e) a;omega⟩
instance:Non (eL e):=⟨λa=>rfl,λa=>rfl⟩
instance:Non (eT e):=⟨λa=>rfl,λa=>rfl⟩
instance:Non (eP1 e):=⟨λa=>rfl,λa=>rfl⟩
instance:Non (eP2 e e'):=⟨λa=>rfl,λa=>rfl⟩
instance:Non (eP3 e e' e''):=⟨λa=>rfl,λa=>rfl⟩
instance:Non (eP4 e e' e'' e3):=⟨λa=>rfl,λa=>rfl⟩
instance [Eqs e n]:Eqs (eP1 e) (n+1):=⟨λa b=>by
 simp only[zU,jC,Eqs.eq,KG],λa=>by
 have:=Eqs.dp (e:=e) a;simp only[rJ,rY];omega⟩
instance [Eqs e n] [Eqs e' m]:Eqs (eP2 e e') (max n m+1):=⟨λa b=>by
 obtain⟨a,a'⟩:=a;obtain⟨b,b'⟩:=b;simp only[zU,jC,Eqs.eq,Prod.mk.injEq,Bool.decide_and,KG],λa=>by
 have:=Eqs.dp (e:=e) a.1;have:=Eqs.dp (e:=e') a.2;simp only[rJ,rY];omega⟩
instance [Eqs e n] [Eqs e' m] [Eqs e'' k]:Eqs (eP3 e e' e'') (max n (max m k)+1):=⟨λa b=>by
 obtain⟨a,a',a2⟩:=a;obtain⟨b,b',b2⟩:=b;simp only[zU,jC,Eqs.eq,Prod.mk.injEq,Bool.decide_and,KG],λa=>by
 have:=Eqs.dp (e:=e) a.1;have:=Eqs.dp (e:=e') a.2.1;have:=Eqs.dp (e:=e'') a.2.2;simp only[rJ,rY];omega⟩
instance [Eqs e n] [Eqs e' m] [Eqs e'' k] [Eqs e3 l]:Eqs (eP4 e e' e'' e3) (max n (max m (max k l))+1):=⟨λa b=>by
 obtain⟨a,a',a2,a3⟩:=a;obtain⟨b,b',b2,b3⟩:=b;simp only[zU,jC,Eqs.eq,Prod.mk.injEq,Bool.decide_and,KG],λa=>by
 have:=Eqs.dp (e:=e) a.1;have:=Eqs.dp (e:=e') a.2.1;have:=Eqs.dp (e:=e'') a.2.2.1;have:=Eqs.dp (e:=e3) a.2.2.2;simp only[rJ,rY];omega⟩
instance [Eqs e n] [Non e]:Eqs (eO e) (n+1):=⟨λa b=>by
 cases a with
 |none=>cases b with
  |none=>exact rfl
  |some b=>exact(Non.l (e:=e) b).trans (by simp)
 |some a=>cases b with
  |none=>exact(Non.r (e:=e) a).trans (by simp)
  |some b=>exact(Eqs.eq (e:=e) a b).trans (by simp),λa=>by
 cases a with
 |none=>show rJ .non<=n+1;simp[rJ]
 |some a=>exact Nat.le_succ_of_le (Eqs.dp (e:=e) a)⟩
end
section
variable {α β γ δ:Type} {ρ:Ev} {f fa fb fc:Ev->Option Bx} {p q:Ev->Option Bool} {fs:Ev->Option (List Bx)} {e:α->Dt} {e':β->Dt}
def x_eq [DecidableEq α] {n:Nat} [Eqs e n] (hn:n<=100) (a:R fa ρ (zE e)) (b:R fb ρ (zE e)):R (b2 eqB fa fb) ρ (zE eB):=⟨decide (a.v=b.v),bh a.D b.D,λh=>by
 obtain⟨h1,h2⟩:=aA h;have:=Eqs.dp (e:=e) a.v;simp only[b2,a.ok h1,b.ok h2,bnd,eqB,lH,toD,zk,or_self,ZH,Eqs.eq];rw[zl (by omega)]⟩
def adX [DecidableEq α] {n:Nat} [Eqs e n] (hn:n<=100) (a:R fa ρ (zE e)) (b:R fb ρ (zE e)):R (b2 Tr fa fb) ρ (zE eB):=⟨!decide (a.v=b.v),bh a.D b.D,λh=>by
 obtain⟨h1,h2⟩:=aA h;have:=Eqs.dp (e:=e) a.v;simp only[b2,a.ok h1,b.ok h2,bnd,Tr,lH,toD,zk,or_self,ZH,Eqs.eq];rw[zl (by omega)]⟩
theorem wF {b:Bx} {ds:List Dt} (h:pB b=some ds):toD b=.lst ds/\lH b=false:=by
 cases b with
 |z d=>cases d<;>cases h;exact⟨rfl,rfl⟩
 |l d=>cases h;exact⟨rfl,rfl⟩
 |o d=>cases h;exact⟨rfl,rfl⟩
 |n d=>cases h
 |m d _=>cases h
def Rz [DecidableEq α] {n:Nat} [Eqs e n] (hn:n+1<=100) (a:RL fa ρ e) (b:RL fb ρ e):R (b2 Tr fa fb) ρ (zE eB):=⟨!decide (a.v=b.v),bh a.D b.D,λh=>by
 obtain⟨h1,h2⟩:=aA h;simp only[b2,a.ok h1,b.ok h2,bnd,Tr,(wF a.lk).1,(wF a.lk).2,(wF b.lk).1,(wF b.lk).2,zk,or_self,ZH];have e1:=Eqs.eq (e:=eL e) a.v b.v;rw[zl (Zs (Nat.min_le_left _ _) (Zs (Eqs.dp (e:=eL e) a.v) hn)),e1,bnd]⟩
def ab5 (a:R fa ρ (zE eB)) (b:R fb ρ (zE eB)):R (V4 fa fb) ρ (zE eB):=⟨a.v&&b.v,bh a.D (Cq (a.v=true) b.D),λh=>by
 obtain⟨h1,h2⟩:=aA h;simp only[V4,a.ok h1,bnd,Hx];cases hv:a.v with
 |true=>simp only[qq,yo];exact b.ok (jo h2 hv)
 |false=>simp only[zk,ZH,ye]⟩
def Xm (a:R fa ρ (zE eB)):R (tV fa) ρ tE:=⟨a.v,a.D,λh=>by simp only[tV,a.ok h,bnd,ZP]⟩
def g8 {g:Bx->Bx->Option Bx} (a:R (b2 g fa fb) ρ (zE eB)):R (zX g fa fb) ρ tE:=⟨a.v,a.D,λh=>by simp only[zX,a.ok h,bnd,Hx]⟩
def afY (a:R p ρ tE) (b:R q ρ tE):R (V1 p q) ρ tE:=⟨a.v&&b.v,bh a.D (Cq (a.v=true) b.D),λh=>by
 obtain⟨h1,h2⟩:=aA h;simp only[V1,a.ok h1,bnd];cases hv:a.v with
 |true=>simp only[qq,yo];exact b.ok (jo h2 hv)
 |false=>simp only[zk,ZH,ye]⟩
def Pn (a:R p ρ tE) (b:R q ρ tE):R (V2 p q) ρ tE:=⟨a.v||b.v,bh a.D (Cq (a.v=false) b.D),λh=>by
 obtain⟨h1,h2⟩:=aA h;simp only[V2,a.ok h1,bnd];cases hv:a.v with
 |true=>simp only[qq,Bool.true_or]
 |false=>simp only[zk,ZH,Bool.false_or];exact b.ok (jo h2 hv)⟩
def Lj (a:R p ρ tE):R (J3 p) ρ tE:=⟨!a.v,a.D,λh=>by simp only[J3,a.ok h,bnd]⟩
def ahZ {g g':Bx->Bx->Option Bx} (ab:R (b2 g fa fb) ρ (zE eB)) (bc:R (b2 g' fb fc) ρ (zE eB)):R (ch3 g g' fa fb fc) ρ (zE eB):=⟨ab.v&&bc.v,bh ab.D (Cq (ab.v=true) bc.D),λh=>by
 obtain⟨h1,h3⟩:=aA h;have e1:=ab.ok h1;simp only[b2] at e1;obtain⟨x,ex,e1⟩:=bind_some e1;obtain⟨y,ey,e1⟩:=bind_some e1;simp only[ch3,ex,ey,bnd,e1,Hx];cases hv:ab.v with
 |true=>
  have e2:=bc.ok (jo h3 hv);simp only[b2,ey,bnd] at e2;simp only[qq,yo];exact e2
 |false=>simp only[zk,ZH,ye]⟩
end
section
variable {α β γ δ ε:Type} {ρ:Ev} {f fa fb fc fd:Ev->Option Bx} {p q:Ev->Option Bool} {fs:Ev->Option (List Bx)} {e:α->Dt} {e':β->Dt} {e'':γ->Dt} {e3:δ->Dt}
def Pq (e:α->Dt):R (cD pD aJ) ρ (zE (eT e)):=⟨[],none,λ_=>rfl⟩
def Pr (a:R fa ρ (zE e)) (b:R fb ρ (zE e')) (c:R fc ρ (zE e'')):R (cD pD (aq fa (aq fb (aq fc aJ)))) ρ (zE (eP3 e e' e'')):=⟨(a.v,b.v,c.v),bh a.D (bh b.D c.D),λh=>by
 obtain⟨h1,h⟩:=aA h;obtain⟨h2,h3⟩:=aA h;simp only[cD,aq,aJ,a.ok h1,b.ok h2,c.ok h3,bnd];rfl⟩
def IK (a:R fa ρ (zE e)) (b:R fb ρ (zE e')) (c:R fc ρ (zE e'')) (d:R fd ρ (zE e3)):R (cD pD (aq fa (aq fb (aq fc (aq fd aJ))))) ρ (zE (eP4 e e' e'' e3)):=⟨(a.v,b.v,c.v,d.v),bh a.D (bh b.D (bh c.D d.D)),λh=>by
 obtain⟨h1,h⟩:=aA h;obtain⟨h2,h⟩:=aA h;obtain⟨h3,h4⟩:=aA h;simp only[cD,aq,aJ,a.ok h1,b.ok h2,c.ok h3,d.ok h4,bnd];rfl⟩
def fH (e:α->Dt):R aJ ρ (λxs:List α=>xs.map (zE e)):=⟨[],none,λ_=>rfl⟩
def bx (a:R fa ρ (zE e)) (t:R fs ρ (λxs:List α=>xs.map (zE e))):R (aq fa fs) ρ (λxs:List α=>xs.map (zE e)):=⟨a.v::t.v,bh a.D t.D,λh=>by
 obtain⟨h1,h2⟩:=aA h;simp only[aq,a.ok h1,t.ok h2,bnd,zo]⟩
theorem Cw:∀ xs:List α,Hy (xs.map (zE e))=some (xs.map e)
 |[]=>rfl
 |x::xs=>by simp only[zo,Hy,Cw xs,bnd]
def jq (t:R fs ρ (λxs:List α=>xs.map (zE e))) (hl:t.v.length<=1000):R (cD jV fs) ρ (oE e):=⟨t.v,t.D,λh=>by
 simp only[cD,t.ok h,bnd,jV,zh,zl hl,Cw]⟩
def adY (t:R fs ρ (λxs:List Dt=>xs.map (zE eD))) (hl:t.v.length<=1000):R (cD pD fs) ρ (zE eD):=⟨.tup t.v,t.D,λh=>by
 simp only[cD,t.ok h,bnd,pD,zh,zl hl,Cw,List.map_id_fun',id]⟩
def at' [Inhabited α] (xs:List α) (i:Int):α:=(FN xs i).getD default
def In (n:Nat) (i:Int):Prop:=-(n:Int)<=i/\i < n
theorem IV {xs:List α} {i:Int} (h:In xs.length i):∃ x,FN xs i=some x:=by
 obtain⟨h1,h2⟩:=h;unfold FN ixN;by_cases h0:0<=i
 ·rw[zl h0,zl h2];exact⟨xs[i.toNat]'(by omega),zS (by omega)⟩
 ·rw[zw h0,zl h1];exact⟨xs[(i+xs.length).toNat]'(by omega),zS (by omega)⟩
theorem adZ {xs:List α} {i:Int} {x:α} (h:FN xs i=some x):FN (xs.map e) i=some (e x):=by
 unfold FN at h ⊢;rw[zh];obtain⟨j,ej,h⟩:=bind_some h;rw[ej,bnd,zI,h];rfl
theorem Xn [Inhabited α] {xs:List α} {i:Int} (h:In xs.length i):FN (xs.map e) i=some (e (at' xs i)):=by
 obtain⟨x,hx⟩:=IV h;rw[adZ hx];unfold at';rw[hx];rfl
theorem aaS {b:Bx} {ds:List Dt} {i:Int} (h:pB b=some ds):gk b (.z (.int i))=(FN ds i).bind λd=>some (.z d):=by
 cases b with
 |z d=>cases d<;>cases h;rfl
 |l d=>cases h;rfl
 |o d=>cases h;rfl
 |n d=>cases h
 |m d _=>cases h
def fj [Inhabited α] (a:RL fa ρ e) (b:R fb ρ (zE eI)):R (b2 gk fa fb) ρ (zE e):=⟨at' a.v b.v,bh (bh a.D b.D) (some (In a.v.length b.v)),λh=>by
 obtain⟨h,h3⟩:=aA h;obtain⟨h1,h2⟩:=aA h;simp only[b2,a.ok h1,b.ok h2,bnd,aaS a.lk,Xn (show In a.v.length b.v from h3)]⟩
def afZ [Inhabited α] (a:R fa ρ (zE (eT e))) (b:R fb ρ (zE eI)):R (b2 gk fa fb) ρ (zE e):=⟨at' a.v b.v,bh (bh a.D b.D) (some (In a.v.length b.v)),λh=>by
 obtain⟨h,h3⟩:=aA h;obtain⟨h1,h2⟩:=aA h;simp only[b2,a.ok h1,b.ok h2,bnd,gk,uX,Xn (show In a.v.length b.v from h3)]⟩
def ch (x:Str) (i:Int):Str:=⟨#[(FN x.cps.toList i).getD 0]⟩
def Ln (a:R fa ρ (zE eS)) (b:R fb ρ (zE eI)):R (b2 gk fa fb) ρ (zE eS):=⟨ch a.v b.v,bh (bh a.D b.D) (some (In a.v.length b.v)),λh=>by
 obtain⟨h,h3⟩:=aA h;obtain⟨h1,h2⟩:=aA h;obtain⟨x,hx⟩:=IV (xs:=a.v.cps.toList) (i:=b.v) (show In a.v.length b.v from h3);simp only[b2,a.ok h1,b.ok h2,bnd,gk,hx,ch,Option.getD_some]⟩
def pN (a:R fa ρ (zE e)) (g:α->β) (e':β->Dt) (i:Int) (h:∀ x,gk (.z (e x)) (.z (.int i))=some (.z (e' (g x)))):R (b2 gk fa (cB (.int i))) ρ (zE e'):=⟨g a.v,a.D,λhd=>by
 simp only[b2,a.ok hd,bnd,cB,h]⟩
def cut (xs:List α) (lo hi:Option Int):List α:=(xs.drop (HT.gn xs.length 0 lo)).take (HT.gn xs.length xs.length hi - HT.gn xs.length 0 lo)
theorem RB (xs:List α) (lo hi:Option Int):cutD (xs.map e) lo hi=(cut xs lo hi).map e:=by
 unfold cutD cut;rw[zh,List.map_take,List.map_drop]
abbrev pE:Option Int->Option Int:=λo=>o
def zj:R ji ρ pE:=⟨none,none,λ_=>rfl⟩
def zm (a:R fa ρ (zE eI)):R (mY fa) ρ pE:=⟨some a.v,a.D,λh=>by simp only[mY,a.ok h,bnd,adz]⟩
variable {fl fh:Ev->Option (Option Int)}
theorem aaT {b:Bx} {ds:List Dt} {lo hi:Option Int} (h:pB b=some ds):slB b lo hi=some (.o (cutD ds lo hi)):=by
 cases b with
 |z d=>cases d<;>cases h;rfl
 |l d=>cases h;rfl
 |o d=>cases h;rfl
 |n d=>cases h
 |m d _=>cases h
def af0 (a:RL fa ρ e) (l:R fl ρ pE) (u:R fh ρ pE):R (HY fa fl fh) ρ (oE e):=⟨cut a.v l.v u.v,bh a.D (bh l.D u.D),λh=>by
 obtain⟨h1,h⟩:=aA h;obtain⟨h2,h3⟩:=aA h;simp only[HY,a.ok h1,l.ok h2,u.ok h3,bnd,aaT a.lk,RB]⟩
def ab6 (a:R fa ρ (zE (eT e))) (l:R fl ρ pE) (u:R fh ρ pE):R (HY fa fl fh) ρ (zE (eT e)):=⟨cut a.v l.v u.v,bh a.D (bh l.D u.D),λh=>by
 obtain⟨h1,h⟩:=aA h;obtain⟨h2,h3⟩:=aA h;simp only[HY,a.ok h1,l.ok h2,u.ok h3,bnd,slB,RB]⟩
def yN (a:R fa ρ (zE eS)) (l:R fl ρ pE) (u:R fh ρ pE):R (HY fa fl fh) ρ (zE eS):=⟨Txt.slice a.v l.v u.v,bh a.D (bh l.D u.D),λh=>by
 obtain⟨h1,h⟩:=aA h;obtain⟨h2,h3⟩:=aA h;simp only[HY,a.ok h1,l.ok h2,u.ok h3,bnd,slB]⟩
def Aa (n:Nat):Prop:=n<=1000000
def qt (a:R fa ρ (zE eS)) (b:R fb ρ (zE eS)):R (b2 dh fa fb) ρ (zE eS):=⟨a.v++b.v,bh (bh a.D b.D) (some (Aa (a.v.length+b.v.length))),λh=>by
 obtain⟨h,h3⟩:=aA h;obtain⟨h1,h2⟩:=aA h;simp only[b2,a.ok h1,b.ok h2,bnd,dh,zl (show a.v.length+b.v.length<=Tt from h3)]⟩
theorem Xo {b b':Bx} {ds ds':List Dt} (h:pB b=some ds) (h':pB b'=some ds') (hl:ds.length+ds'.length<=Tt):dh b b'=some (.o (ds++ds')):=by
 cases b with
 |z d=>
  cases d<;>cases h;cases b' with
  |z d'=>cases d'<;>cases h';exact zl hl
  |l d'=>cases h';exact zl hl
  |o d'=>cases h';exact zl hl
  |n d'=>cases h'
  |m d'=>cases h'
 |l d=>
  cases h;cases b' with
  |z d'=>cases d'<;>cases h';exact zl hl
  |l d'=>cases h';exact zl hl
  |o d'=>cases h';exact zl hl
  |n d'=>cases h'
  |m d'=>cases h'
 |o d=>
  cases h;cases b' with
  |z d'=>cases d'<;>cases h';exact zl hl
  |l d'=>cases h';exact zl hl
  |o d'=>cases h';exact zl hl
  |n d'=>cases h'
  |m d'=>cases h'
 |n d=>cases h
 |m d _=>cases h
def Cy (a:RL fa ρ e) (b:RL fb ρ e):R (b2 dh fa fb) ρ (oE e):=⟨a.v++b.v,bh (bh a.D b.D) (some (Aa (a.v.length+b.v.length))),λh=>by
 obtain⟨h,h3⟩:=aA h;obtain⟨h1,h2⟩:=aA h;simp only[b2,a.ok h1,b.ok h2,bnd];rw[Xo a.lk b.lk (by rw[zh,zh];exact h3)];simp only[oE,Q2]⟩
def Xp (a:R fa ρ (zE eS)) (b:R fb ρ (zE eI)):R (b2 sy fa fb) ρ (zE eS):=⟨Txt.mul a.v b.v,bh (bh a.D b.D) (some (b.v<=1000 ∧ -1000<=b.v/\a.v.length<=1000)),λh=>by
 obtain⟨h,h3⟩:=aA h;obtain⟨h1,h2⟩:=aA h;simp only[b2,a.ok h1,b.ok h2,bnd];exact zl h3⟩
theorem Xq {b:Bx} {ds:List Dt} (h:pB b=some ds):uF [b]=some (.z (.int ds.length)):=by
 cases b with
 |z d=>cases d<;>cases h;rfl
 |l d=>cases h;rfl
 |o d=>cases h;rfl
 |n d=>cases h
 |m d _=>cases h
theorem Xr {b:Bx} {ds:List Dt} (h:pB b=some ds):uX b=some ds:=by
 cases b with
 |z d=>cases d<;>cases h;rfl
 |l d=>cases h;rfl
 |o d=>cases h;rfl
 |n d=>cases h
 |m d _=>cases h
def x_len (a:RL fa ρ e):R (cD uF (aq fa aJ)) ρ (zE eI):=⟨(a.v.length:Int),a.D,λh=>by
 simp only[cD,aq,aJ,a.ok h,bnd,Xq a.lk,zh]⟩
def Xu (a:R fa ρ (zE (eT e))):R (cD uF (aq fa aJ)) ρ (zE eI):=⟨(a.v.length:Int),a.D,λh=>by
 simp only[cD,aq,aJ,a.ok h,bnd,uF,uX,zh]⟩
def Xv (a:R fa ρ (zE eS)):R (cD uF (aq fa aJ)) ρ (zE eI):=⟨(a.v.length:Int),a.D,λh=>by
 simp only[cD,aq,aJ,a.ok h,bnd,uF]⟩
def Pu:Dt->Int
 |.tup ds=>ds.length
 |.lst ds=>ds.length
 |.str x=>x.length
 |_=>0
def Px:Dt->Bool
 |.tup _=>true
 |.lst _=>true
 |.str _=>true
 |_=>false
def Xw (a:R fa ρ (zE eD)):R (cD uF (aq fa aJ)) ρ (zE eI):=⟨Pu a.v,bh a.D (some (Px a.v=true)),λh=>by
 obtain⟨h,h4⟩:=aA h;have h4:Px a.v=true:=h4;simp only[cD,aq,aJ,a.ok h,bnd];cases hv:a.v<;>rw[hv] at h4<;>first|(cases h4;done)|rfl⟩
def qu (a:RL fa ρ e):R (cD jk (aq fa aJ)) ρ (zE (eT e)):=⟨a.v,a.D,λh=>by
 simp only[cD,aq,aJ,a.ok h,bnd,jk,Xr a.lk]⟩
def af2 (a:R fa ρ (zE eI)):R (cD Wq (aq fa aJ)) ρ (zE eI):=⟨if a.v < 0 then -a.v else a.v,a.D,λh=>by
 simp only[cD,aq,aJ,a.ok h,bnd,Wq]⟩
def ad0 (a:R fa ρ (zE eB)):R (cD Wr (aq fa aJ)) ρ (zE eI):=⟨if a.v=true then 1 else 0,a.D,λh=>by
 simp only[cD,aq,aJ,a.ok h,bnd,Wr]⟩
theorem Gy:∀ l:List Bool,Gh (l.map eB)=some l
 |[]=>rfl
 |a::l=>by simp only[zo,Gh,Gy l,bnd]
def Xx (a:RL fa ρ eB):R (cD allB (aq fa aJ)) ρ (zE eB):=⟨a.v.all id,a.D,λh=>by
 simp only[cD,aq,aJ,a.ok h,bnd,allB,a.lk,Gy]⟩
def Gz (a:R fa ρ (zE eI)) (b:R fb ρ (zE eI)):R (cD Ej (aq fa (aq fb aJ))) ρ (zE eI):=⟨if b.v > a.v then b.v else a.v,bh a.D b.D,λh=>by
 obtain⟨h1,h2⟩:=aA h;simp only[cD,aq,aJ,a.ok h1,b.ok h2,bnd,Ej]⟩
def Xy (a:R fa ρ (zE eI)) (b:R fb ρ (zE eI)):R (cD Om (aq fa (aq fb aJ))) ρ (zE eI):=⟨if b.v < a.v then b.v else a.v,bh a.D b.D,λh=>by
 obtain⟨h1,h2⟩:=aA h;simp only[cD,aq,aJ,a.ok h1,b.ok h2,bnd,Om]⟩
def ab7 (P:Dt->Bool) (a:R fa ρ (zE e)):R (Bu P fa) ρ (zE eB):=⟨P (e a.v),a.D,λh=>by
 simp only[Bu,b1,a.ok h,bnd,lH,toD,zk,ZH]⟩
def ad1 (P:Dt->Bool) (a:RL fa ρ e) (k:Bool) (hk:∀ ds,P (.lst ds)=k):R (Bu P fa) ρ (zE eB):=⟨k,a.D,λh=>by
 simp only[Bu,b1,a.ok h,bnd,wF a.lk,zk,ZH,hk]⟩
theorem strs_map:∀ l:LS_,Bv (l.map eS)=some l
 |[]=>rfl
 |a::l=>by simp only[zo,Bv,strs_map l,bnd]
def ad2 (s:Str) (a:RL fa ρ eS):R (b1 (Kq s) fa) ρ (zE eS):=⟨Txt.join s a.v,bh a.D (some ((a.v.map (·.length)).sum+a.v.length * s.length<=100000)),λh=>by
 obtain⟨h,h4⟩:=aA h;simp only[b1,a.ok h,bnd,Kq,a.lk,strs_map];exact zl h4⟩
def IW (a:RL fa ρ eS):R (cD yF (aq fa aJ)) ρ (oE eS):=⟨jA a.v,bh a.D (some (a.v.length < 64)),λh=>by
 obtain⟨h,h4⟩:=aA h;simp only[cD,aq,aJ,a.ok h,bnd,yF,a.lk,strs_map];exact zl h4⟩
def asS:Dt->Str
 |.str x=>x
 |_=>⟨#[]⟩
def RD (a:R f ρ (zE eD)) (g:Dt->α) (e:α->Dt):R f ρ (zE e):=⟨g a.v,bh a.D (some (a.v=e (g a.v))),λhd=>by
 obtain⟨h1,h2⟩:=aA hd;have h2:a.v=e (g a.v):=h2;rw[a.ok h1];show some (Bx.z a.v)=some (Bx.z (e (g a.v)));rw[<-h2]⟩
class Flat {α:Type} (e:α->Dt):Prop where
 f:∀ a,vV (e a)=true
instance:Flat eI:=⟨λ_=>rfl⟩
instance:Flat eB:=⟨λ_=>rfl⟩
instance:Flat eS:=⟨λ_=>rfl⟩
theorem Lq [DecidableEq α] {n:Nat} [Eqs e n] [Flat e] (x:α) (ys:List α):memD (e x) (ys.map e)=some (decide (x∈ys)):=by
 unfold memD;rw[zl ⟨Flat.f x,by rw[List.all_map];exact List.all_eq_true.mpr λy _=>Flat.f y⟩,List.any_map];congr 1;rw[KU,kq,decide_eq_true_iff];constructor
 ·rintro⟨y,hy,h⟩;simp only[Function.comp,Eqs.eq] at h;by_cases e1:y=x
  ·rw[<-e1];exact hy
  ·simp only[e1,kM] at h;cases h
 ·intro h;exact⟨x,h,by simp only[Function.comp,Eqs.eq,KI]⟩
theorem aaU {b:Bx} {d:Dt} {ds:List Dt} (h:pB b=some ds):inB (.z d) b=memD d ds:=by
 cases b with
 |z d'=>cases d'<;>cases h;cases d<;>rfl
 |l d'=>cases h;cases d<;>rfl
 |o d'=>cases h;cases d<;>rfl
 |n d'=>cases h
 |m d'=>cases h
theorem aaV {d:Dt} {ds:List Dt}:inB (.z d) (.z (.tup ds))=memD d ds:=by cases d<;>rfl
def af3 [DecidableEq α] {n:Nat} [Eqs e n] [Flat e] (a:R fa ρ (zE e)) (b:RL fb ρ e):R (b2 inF fa fb) ρ (zE eB):=⟨decide (a.v∈b.v),bh a.D b.D,λh=>by
 obtain⟨h1,h2⟩:=aA h;simp only[b2,a.ok h1,b.ok h2,bnd,inF,aaU b.lk,Lq]⟩
def Py [DecidableEq α] {n:Nat} [Eqs e n] [Flat e] (a:R fa ρ (zE e)) (b:R fb ρ (zE (eT e))):R (b2 Tv fa fb) ρ (zE eB):=⟨!decide (a.v∈b.v),bh a.D b.D,λh=>by
 obtain⟨h1,h2⟩:=aA h;simp only[b2,a.ok h1,b.ok h2,bnd,Tv,aaV,Lq]⟩
def af4 (a:R fa ρ (zE eS)) (b:R fb ρ (zE eS)):R (b2 inF fa fb) ρ (zE eB):=⟨Ge a.v b.v,bh a.D b.D,λh=>by
 obtain⟨h1,h2⟩:=aA h;simp only[b2,a.ok h1,b.ok h2,bnd,inF,inB]⟩
end
structure AR {γ:Type} (cA:γ->List Bx->Prop) (fs:Ev->Option (List Bx)) (ρ:Ev) where
 v:γ
 D:Option Prop
 bs:List Bx
 h:cA v bs
 ok:hold D->fs ρ=some bs
section
variable {α β γ δ ε σ:Type} {ρ:Ev} {f fa fb fc fd:Ev->Option Bx} {p q:Ev->Option Bool} {fs:Ev->Option (List Bx)} {e:α->Dt} {e':β->Dt} {e'':γ->Dt} {e3:δ->Dt}
def aN:Unit->List Bx->Prop:=λ_ bs=>bs=[]
def aZ (e:α->Dt) (t:γ->List Bx->Prop):α×γ->List Bx->Prop:=λx bs=>∃ r,bs=.z (e x.1)::r/\t x.2 r
def aL (e:α->Dt) (t:γ->List Bx->Prop):List α×γ->List Bx->Prop:=λx bs=>∃ b r,bs=b::r/\pB b=some (x.1.map e)/\t x.2 r
def bQ:AR aN aJ ρ:=⟨(),none,[],rfl,λ_=>rfl⟩
def cL {t:γ->List Bx->Prop} (a:R fa ρ (zE e)) (r:AR t fs ρ):AR (aZ e t) (aq fa fs) ρ:=⟨(a.v,r.v),bh a.D r.D,_,⟨_,rfl,r.h⟩,λh=>by
 obtain⟨h1,h2⟩:=aA h;simp only[aq,a.ok h1,r.ok h2,bnd]⟩
def Lr {t:γ->List Bx->Prop} (a:RL fa ρ e) (r:AR t fs ρ):AR (aL e t) (aq fa fs) ρ:=⟨(a.v,r.v),bh a.D r.D,_,⟨_,_,rfl,a.lk,r.h⟩,λh=>by
 obtain⟨h1,h2⟩:=aA h;simp only[aq,a.ok h1,r.ok h2,bnd]⟩
def x_call {cA:γ->List Bx->Prop} {F:List Bx->Option Bx} {n:Nat} {c:α->Bx} {T:γ->α} {Df:γ->Option Prop} (S:∀ v bs,cA v bs->bs.length=n/\(hold (Df v)->F (bs.map lend)=some (c (T v)))) (a:AR cA fs ρ):R (cH n F fs) ρ c:=⟨T a.v,bh a.D (Df a.v),λh=>by
 obtain⟨h1,h2⟩:=aA h;obtain⟨h3,h4⟩:=S a.v a.bs a.h;simp only[cH,a.ok h1,bnd,zl h3,h4 h2]⟩
theorem ad3 {g:Ev->Option Out} {n:Nat} {bs:List Bx} {c:α->Bx} (x:R g (bs.map some++List.replicate (n - bs.length) none) (λr=>Out.rt (c r))) (h:hold x.D):dX n g bs=some (c x.v):=by
 unfold dX;rw[x.ok h];rfl
variable {fi:Ev->Option (List Dt)} {gt:Dt->Ev->Option Ev} {fe:Ev->Option Bx} {is:List Nat} {n:Nat}
def af5 (xs:List α) (P:α->Option Prop):Option Prop:=some (∀ x∈xs,hold (P x))
theorem Ls {fs:Ev->Option (List Dt)} {ρ1:Ev} {g:α->List Dt} {π:α->Bool}:∀ xs:List α,(∀ x∈xs,∃ ρ2,gt (e x) ρ1=some ρ2/\p ρ2=some (π x)/\(π x=true->fs ρ2=some (g x)))->za gt p fs ρ1 (xs.map e)=some ((xs.filter π).flatMap g)
 |[],_=>rfl
 |x::xs,h=>by
  obtain⟨ρ2,h1,h2,h3⟩:=h x (zi ..);have ih:=Ls (g:=g) (π:=π) xs λy hy=>h y (zr _ hy);cases hp:π x with
  |true=>simp only[zo,za,h1,bnd,h2,hp,qq,h3 hp,ih,List.filter_cons,List.flatMap_cons]
  |false=>simp only[zo,za,h1,bnd,h2,hp,ih,List.filter_cons,zk,ZH]
theorem Lx {g:α->β}:∀ xs:List α,xs.flatMap (λx=>[e' (g x)])=(xs.map g).map e'
 |[]=>rfl
 |x::xs=>by rw[List.flatMap_cons,Lx xs];rfl
theorem Cz {ρ1:Ev} {g:α->β} {π:α->Bool} (xs:List α) (h:∀ x∈xs,∃ ρ2,gt (e x) ρ1=some ρ2/\p ρ2=some (π x)/\(π x=true->fe ρ2=some (.z (e' (g x))))):vR gt p fe ρ1 (xs.map e)=some (((xs.filter π).map g).map e'):=by
 rw[<-Lx];exact Ls xs λx hx=>let ⟨ρ2,h1,h2,h3⟩:=h x hx;⟨ρ2,h1,h2,λhp=>by rw[h3 hp];rfl⟩
theorem comp_map {ρ1:Ev} {g:α->β} (xs:List α) (h:∀ x∈xs,∃ ρ2,gt (e x) ρ1=some ρ2/\fe ρ2=some (.z (e' (g x)))):vR gt rD fe ρ1 (xs.map e)=some ((xs.map g).map e'):=
 (Cz (π:=λ_=>true) xs λx hx=>let ⟨ρ2,h1,h2⟩:=h x hx;⟨ρ2,h1,rfl,λ_=>h2⟩).trans (by rw[List.filter_eq_self.mpr λ_ _=>rfl])
def xZ (it:R fi ρ (iE e)) (ρ2:α->Ev) (hg:∀ x,gt (e x) (iz is ρ++List.replicate n none)=some (ρ2 x)) (b:∀ x,R fe (ρ2 x) (zE e')):R (dN fi gt rD fe is n) ρ (oE e'):=⟨it.v.map λx=>(b x).v,bh (bh it.D (some (it.v.length<=100000))) (af5 it.v λx=>(b x).D),λh=>by
 obtain⟨h,h3⟩:=aA h;obtain⟨h1,h2⟩:=aA h;have h3:∀ x∈it.v,hold (b x).D:=h3;simp only[dN,it.ok h1,bnd,zh,zl (show it.v.length<=100000 from h2),comp_map it.v λx hx=>⟨ρ2 x,hg x,(b x).ok (h3 x hx)⟩]⟩
def qw (it:R fi ρ (iE e)) (ρ2:α->Ev) (hg:∀ x,gt (e x) (iz is ρ++List.replicate n none)=some (ρ2 x)) (b:∀ x,R fe (ρ2 x) (zE e')) (hb:∀ x,(b x).D=none):R (dN fi gt rD fe is n) ρ (oE e'):=⟨it.v.map λx=>(b x).v,bh it.D (some (it.v.length<=100000)),λh=>by
 obtain⟨h1,h2⟩:=aA h;simp only[dN,it.ok h1,bnd,zh,zl (show it.v.length<=100000 from h2),comp_map it.v λx hx=>⟨ρ2 x,hg x,(b x).ok (by rw[hb x];trivial)⟩]⟩
def RG (it:R fi ρ (iE e)) (ρ2:α->Ev) (hg:∀ x,gt (e x) (iz is ρ++List.replicate n none)=some (ρ2 x)) (t:∀ x,R p (ρ2 x) tE) (b:∀ x,R fe (ρ2 x) (zE e')):R (dN fi gt p fe is n) ρ (oE e'):=⟨(it.v.filter λx=>(t x).v).map λx=>(b x).v,bh (bh it.D (some (it.v.length<=100000))) (af5 it.v λx=>bh (t x).D (Cq ((t x).v=true) (b x).D)),λh=>by
 obtain⟨h,h3⟩:=aA h;obtain⟨h1,h2⟩:=aA h;have h3:∀ x∈it.v,hold (bh (t x).D (Cq ((t x).v=true) (b x).D)):=h3;simp only[dN,it.ok h1,bnd,zh,zl (show it.v.length<=100000 from h2),Cz it.v λx hx=>⟨ρ2 x,hg x,(t x).ok (aA (h3 x hx)).1,λht=>(b x).ok (jo (aA (h3 x hx)).2 ht)⟩]⟩
def CG (it:R fi ρ (iE e)) (ρ2:α->Ev) (hg:∀ x,gt (e x) (iz is ρ++List.replicate n none)=some (ρ2 x)) (t:∀ x,R p (ρ2 x) tE) (b:∀ x,R fe (ρ2 x) (zE e')) (ht:∀ x,(t x).D=none) (hb:∀ x,(b x).D=none):R (dN fi gt p fe is n) ρ (oE e'):=⟨(it.v.filter λx=>(t x).v).map λx=>(b x).v,bh it.D (some (it.v.length<=100000)),λh=>by
 obtain⟨h1,h2⟩:=aA h;simp only[dN,it.ok h1,bnd,zh,zl (show it.v.length<=100000 from h2),Cz it.v λx hx=>⟨ρ2 x,hg x,(t x).ok (by rw[ht x];trivial),λ_=>(b x).ok (by rw[hb x];trivial)⟩]⟩
def Ly (a:RL fa ρ e):R (Gi fa) ρ (iE e):=⟨a.v,a.D,λh=>by
 have:Wi a.b=some (a.v.map e):=by
  have:=a.lk
  revert this
  generalize a.b=b;generalize a.v.map e=ds;intro this;cases b with
  |z d=>cases d<;>cases this;rfl
  |l d=>cases this;rfl
  |o d=>cases this;rfl
  |n d=>cases this
  |m d _=>cases this
 simp only[Gi,a.ok h,bnd,this]⟩
def Xz (a:R fa ρ (zE (eT e))):R (Gi fa) ρ (iE e):=⟨a.v,a.D,λh=>by simp only[Gi,a.ok h,bnd,Wi]⟩
def chars (x:Str):LS_:=x.cps.toList.map λc=>⟨#[c]⟩
theorem XC (x:Str):signs x=(chars x).map eS:=by
 unfold signs chars;rw[Qb];rfl
def itX:Dt->List Dt
 |.tup ds=>ds
 |.lst ds=>ds
 |.str x=>signs x
 |_=>[]
def ah0 (a:R fa ρ (zE eD)):R (Gi fa) ρ (iE eD):=⟨itX a.v,bh a.D (some (Px a.v=true)),λh=>by
 obtain⟨h,h4⟩:=aA h;have h4:Px a.v=true:=h4;simp only[Gi,a.ok h,bnd];cases hv:a.v<;>rw[hv] at h4<;>first|(cases h4;done)|(simp only[Wi,itX,iE,eD,List.map_id_fun',id])⟩
def af6 (a:R fa ρ (oE e)):R (itF fa) ρ (iE e):=⟨a.v,a.D,λh=>by simp only[itF,a.ok h,bnd,Z4]⟩
def rng (i:Int) (n:Nat):List Int:=(List.range n).map λk:Nat=>i+(k:Int)
theorem RJ (i:Int) (n:Nat):yX i n=(rng i n).map eI:=by
 unfold yX rng;rw[Qb];rfl
def Rg (j:Int):Prop:=-4611686018427387904<=j/\j < 4611686018427387904
def CJ (a:R fa ρ (zE eI)):R (JH (aq fa aJ)) ρ (iE eI):=⟨rng 0 a.v.toNat,bh a.D (some (Rg a.v)),λh=>by
 obtain⟨h,h4⟩:=aA h;simp only[JH,aq,aJ,a.ok h,bnd];show(if -(2 ^ 62)<=a.v/\a.v < 2 ^ 62 then some (yX 0 a.v.toNat) else none)=_;exact(zl h4).trans (by rw[RJ])⟩
def ad4 (n:Int) (m:Nat) (hm:n.toNat=m) (hn:Rg n):R (JH (aq (cB (.int n)) aJ)) ρ (iE eI):=⟨rng 0 m,none,λ_=>by
 simp only[JH,aq,aJ,bnd,cB];show(if -(2 ^ 62)<=n/\n < 2 ^ 62 then some (yX 0 n.toNat) else none)=_;exact(zl hn).trans (by rw[RJ,hm])⟩
end
section
variable {α β γ δ ε σ τ:Type} {ρ:Ev} {f fa fb fc fd:Ev->Option Bx} {p q:Ev->Option Bool} {fs:Ev->Option (List Bx)} {e:α->Dt} {e':β->Dt} {g g1 g2 k:Ev->Option Out} {cO:γ->Out} {gt:Dt->Ev->Option Ev}
theorem kJ {ρ':Ev} (h:g1 ρ=some (.nx ρ')):aH g1 k ρ=k ρ':=by
 unfold aH;rw[h];rfl
def bW (x:R (aH g (aH g1 k)) ρ cO):R (aH (aH g g1) k) ρ cO:=⟨x.v,x.D,λh=>by
 rw[<-x.ok h];unfold aH;cases g ρ with
 |none=>rfl
 |some o=>cases o<;>rfl⟩
def dj (x:R k ρ cO):R (aH iK k) ρ cO:=⟨x.v,x.D,λh=>x.ok h⟩
def bV {is:List Nat} (x:γ) (h:cO x=.nx (kill is ρ)):R (d7 is) ρ cO:=⟨x,none,λ_=>by rw[h];rfl⟩
def gq {c:α->Bx} (inj:α->γ) (a:R f ρ c) (h:∀ x,cO (inj x)=.rt (c x)) (hc:∀ x,V7 (c x)=some (.rt (c x))):R (aH (jD f) k) ρ cO:=⟨inj a.v,a.D,λhd=>by
 have:jD f ρ=some (.rt (c a.v)):=by unfold jD;rw[a.ok hd,bnd,hc]
 unfold aH;rw[this,h];rfl⟩
def Pz {c:α->Bx} (i:Nat) (inj:α->γ) (a:α) (hi:ρ[i]?=some (some (c a))) (h:∀ x,cO (inj x)=.rt (c x)) (hc:∀ x,V7 (c x)=some (.rt (c x))):R (aH (Ef i) k) ρ cO:=⟨inj a,none,λhd=>by
 have:Ef i ρ=some (.rt (c a)):=by unfold Ef;rw[hi];exact hc a
 unfold aH;rw[this,h];rfl⟩
def bR {c:α->Bx} (i:Nat) (a:R f ρ c) (hc:∀ x,V8 ρ i (c x)=some (ρ.set i (some (c x)))) (K:∀ x,R k (ρ.set i (some (c x))) cO):R (aH (setG i f) k) ρ cO:=⟨(K a.v).v,bh a.D (K a.v).D,λhd=>by
 obtain⟨h1,h2⟩:=aA hd;rw[kJ (ρ':=ρ.set i (some (c a.v))) (by unfold setG;rw[a.ok h1,bnd,hc,bnd])];exact(K a.v).ok h2⟩
def XD (i j:Nat) (a:R fa ρ (zE e)) (b:R fb ρ (zE e')) (K:∀ x y,R k ((ρ.set i (some (.z (e x)))).set j (some (.z (e' y)))) cO):R (aH (Ws i j (aq fa (aq fb aJ))) k) ρ cO:=⟨(K a.v b.v).v,bh (bh a.D b.D) (K a.v b.v).D,λhd=>by
 obtain⟨h1,h3⟩:=aA hd;obtain⟨h1,h2⟩:=aA h1;rw[kJ (ρ':=(ρ.set i (some (.z (e a.v)))).set j (some (.z (e' b.v)))) (by unfold Ws;simp only[aq,aJ,a.ok h1,b.ok h2,bnd,Z1])];exact(K a.v b.v).ok h3⟩
def GC (i:Nat) (xs:List α) (hi:ρ[i]?=some (some (.o (xs.map e)))) (a:R f ρ (zE e)) (K:∀ ys:List α,R k (ρ.set i (some (.o (ys.map e)))) cO):R (aH (Km i f) k) ρ cO:=⟨(K (xs++[a.v])).v,bh (bh a.D (some (Aa xs.length))) (K (xs++[a.v])).D,λhd=>by
 obtain⟨h1,h3⟩:=aA hd;obtain⟨h1,h2⟩:=aA h1;have h2:xs.length<=1000000:=h2;rw[kJ (ρ':=ρ.set i (some (.o ((xs++[a.v]).map e)))) (by
  unfold Km;rw[a.ok h1,bnd];simp only[Z2,hi,zh,Q2,zo,ku];rw[zl (k6 h2 (by decide))])]
 exact(K _).ok h3⟩
def CK (t:R p ρ tE) (a:R (aH g1 k) ρ cO) (b:R (aH g2 k) ρ cO):R (aH (HB p g1 g2) k) ρ cO:=⟨if t.v=true then a.v else b.v,bh t.D (bh (Cq (t.v=true) a.D) (Cq (t.v=false) b.D)),λhd=>by
 obtain⟨h1,h2⟩:=aA hd;obtain⟨h2,h3⟩:=aA h2;have e1:∀ c,t.v=c->aH (HB p g1 g2) k ρ=aH (if c=true then g1 else g2) k ρ:=λc hc=>by
  unfold aH HB;rw[t.ok h1,bnd,hc];cases c<;>rfl
 cases hv:t.v with
 |true=>rw[e1 true hv];simp only[qq];exact a.ok (jo h2 hv)
 |false=>rw[e1 false hv];simp only[zk,ZH];exact b.ok (jo h3 hv)⟩
def GD (E:σ->Ev) (t:R p ρ tE) (a:R g1 ρ (λs=>Out.nx (E s))) (b:R g2 ρ (λs=>Out.nx (E s))) (K:∀ s,R k (E s) cO):R (aH (HB p g1 g2) k) ρ cO:=⟨(K (if t.v=true then a.v else b.v)).v,bh (bh t.D (bh (Cq (t.v=true) a.D) (Cq (t.v=false) b.D))) (K (if t.v=true then a.v else b.v)).D,λhd=>by
 obtain⟨h,h4⟩:=aA hd;obtain⟨h1,h2⟩:=aA h;obtain⟨h2,h3⟩:=aA h2;rw[kJ (ρ':=E (if t.v=true then a.v else b.v)) (by
  unfold HB;rw[t.ok h1,bnd];cases hv:t.v with
  |true=>simp only[qq];exact a.ok (jo h2 hv)
  |false=>simp only[zk,ZH];exact b.ok (jo h3 hv))]
 exact(K _).ok h4⟩
def pP (step:σ->α->σ) (P:σ->α->Option Prop):List α->σ->Prop
 |[],_=>True
 |x::xs,s=>hold (P s x)/\pP step P xs (step s x)
theorem wG {gb:Ev->Option Out} (E:σ->Ev) (ρ2:σ->α->Ev) (hg:∀ s x,gt (e x) (E s)=some (ρ2 s x)) (body:∀ s x,R gb (ρ2 s x) (λs=>Out.nx (E s))):∀ (xs:List α) (s:σ),pP (λs x=>(body s x).v) (λs x=>(body s x).D) xs s->qd gt gb (xs.map e) (E s)=some (.nx (E (xs.foldl (λs x=>(body s x).v) s)))
 |[],s,_=>rfl
 |x::xs,s,h=>by
  simp only[zo,qd,hg,bnd,(body s x).ok h.1,QO];exact wG E ρ2 hg body xs _ h.2
variable {fi:Ev->Option (List Dt)} {gb:Ev->Option Out}
def GF (E:σ->Ev) (s0:σ) (hE:ρ=E s0) (it:R fi ρ (iE e)) (ρ2:σ->α->Ev) (hg:∀ s x,gt (e x) (E s)=some (ρ2 s x)) (body:∀ s x,R gb (ρ2 s x) (λs=>Out.nx (E s))) (K:∀ s,R k (E s) cO):R (aH (pI fi gt gb) k) ρ cO:=⟨(K (it.v.foldl (λs x=>(body s x).v) s0)).v,bh (bh it.D (some (pP (λs x=>(body s x).v) (λs x=>(body s x).D) it.v s0))) (K (it.v.foldl (λs x=>(body s x).v) s0)).D,λhd=>by
 obtain⟨h,h4⟩:=aA hd;obtain⟨h1,h2⟩:=aA h;rw[kJ (ρ':=E (it.v.foldl (λs x=>(body s x).v) s0)) (by
  unfold pI;rw[it.ok h1,bnd];subst hE;exact wG E ρ2 hg body it.v s0 h2)]
 exact(K _).ok h4⟩
def ad5 (E:σ->Ev) (s0:σ) (hE:ρ=E s0) (it:R fi ρ (iE e)) (ρ2:σ->α->Ev) (hg:∀ s x,gt (e x) (E s)=some (ρ2 s x)) (body:∀ s x,R gb (ρ2 s x) (λs=>Out.nx (E s))) (hb:∀ s x,(body s x).D=none) (K:∀ s,R k (E s) cO):R (aH (pI fi gt gb) k) ρ cO:=⟨(K (it.v.foldl (λs x=>(body s x).v) s0)).v,bh it.D (K (it.v.foldl (λs x=>(body s x).v) s0)).D,λhd=>by
 obtain⟨h1,h4⟩:=aA hd;have h2:∀ (xs:List α) (s:σ),pP (λs x=>(body s x).v) (λs x=>(body s x).D) xs s:=λxs=>by
  induction xs with
  |nil=>intro s;trivial
  |cons x xs ih=>intro s;exact⟨by show hold (body s x).D;rw[hb s x];trivial,ih _⟩
 rw[kJ (ρ':=E (it.v.foldl (λs x=>(body s x).v) s0)) (by
  unfold pI;rw[it.ok h1,bnd];subst hE;exact wG E ρ2 hg body it.v s0 (h2 _ _))]
 exact(K _).ok h4⟩
inductive uG (σ τ:Type) where
 |nx (s:σ)|rt (r:τ)|bk (s:σ)|ct (s:σ)
def cC (E:σ->Ev) (c:τ->Bx):uG σ τ->Out
 |.nx s=>.nx (E s)
 |.rt r=>.rt (c r)
 |.bk s=>.bk (E s)
 |.ct s=>.ct (E s)
def lJ (step:σ->α->uG σ τ):List α->σ->uG σ τ
 |[],s=>.nx s
 |x::xs,s=>match step s x with
  |.nx s'=>lJ step xs s'
  |.ct s'=>lJ step xs s'
  |.bk s'=>.nx s'
  |.rt r=>.rt r
def sX (step:σ->α->uG σ τ) (P:σ->α->Option Prop):List α->σ->Prop
 |[],_=>True
 |x::xs,s=>hold (P s x)/\match step s x with
  |.nx s'=>sX step P xs s'
  |.ct s'=>sX step P xs s'
  |.bk _=>True
  |.rt _=>True
theorem Ab {c:τ->Bx} (E:σ->Ev) (ρ2:σ->α->Ev) (hg:∀ s x,gt (e x) (E s)=some (ρ2 s x)) (body:∀ s x,R gb (ρ2 s x) (cC E c)):∀ (xs:List α) (s:σ),sX (λs x=>(body s x).v) (λs x=>(body s x).D) xs s->qd gt gb (xs.map e) (E s)=some (cC E c (lJ (λs x=>(body s x).v) xs s))
 |[],s,_=>rfl
 |x::xs,s,h=>by
  obtain⟨h1,h2⟩:=h;dsimp only at h2;simp only[zo,qd,hg,bnd,(body s x).ok h1,lJ]
  revert h2
  cases(body s x).v with
  |nx s'=>intro h2;exact Ab E ρ2 hg body xs s' h2
  |ct s'=>intro h2;exact Ab E ρ2 hg body xs s' h2
  |bk s'=>intro _;rfl
  |rt r=>intro _;rfl
theorem wH (step:σ->α->uG σ τ):∀ (xs:List α) (s:σ),(∃ s',lJ step xs s=.nx s')\/∃ r,lJ step xs s=.rt r
 |[],s=>.inl ⟨s,rfl⟩
 |x::xs,s=>by
  unfold lJ;cases step s x with
  |nx s'=>exact wH step xs s'
  |ct s'=>exact wH step xs s'
  |bk s'=>exact .inl ⟨s',rfl⟩
  |rt r=>exact .inr ⟨r,rfl⟩
def behind (r:uG σ τ) (inj:τ->γ) (K:σ->γ):γ:=match r with
 |.rt r=>inj r
 |.nx s=>K s
 |.bk s=>K s
 |.ct s=>K s
def Ad (r:uG σ τ) (K:σ->Prop):Prop:=match r with
 |.rt _=>True
 |.nx s=>K s
 |.bk s=>K s
 |.ct s=>K s
def RK (r:uG σ τ) (K:σ->Option Prop):Option Prop:=some (Ad r λs=>hold (K s))
def ad6 {c:τ->Bx} (E:σ->Ev) (s0:σ) (hE:ρ=E s0) (it:R fi ρ (iE e)) (ρ2:σ->α->Ev) (hg:∀ s x,gt (e x) (E s)=some (ρ2 s x)) (body:∀ s x,R gb (ρ2 s x) (cC E c)) (inj:τ->γ) (hj:∀ r,cO (inj r)=.rt (c r)) (K:∀ s,R k (E s) cO):R (aH (pI fi gt gb) k) ρ cO:=⟨behind (lJ (λs x=>(body s x).v) it.v s0) inj λs=>(K s).v,bh (bh it.D (some (sX (λs x=>(body s x).v) (λs x=>(body s x).D) it.v s0))) (RK (lJ (λs x=>(body s x).v) it.v s0) λs=>(K s).D),λhd=>by
 obtain⟨h,h4⟩:=aA hd;obtain⟨h1,h2⟩:=aA h;have e1:pI fi gt gb ρ=some (cC E c (lJ (λs x=>(body s x).v) it.v s0)):=by
  unfold pI;rw[it.ok h1,bnd];subst hE;exact Ab E ρ2 hg body it.v s0 h2
 rcases wH (λs x=>(body s x).v) it.v s0 with⟨s',es⟩|⟨r,es⟩
 ·rw[es] at e1 h4 ⊢;rw[kJ e1];exact(K s').ok h4
 ·rw[es] at e1 ⊢;show aH (pI fi gt gb) k ρ=some (cO (inj r));unfold aH;rw[e1,hj];rfl⟩
theorem ad7 {i:Nat} {ds:List Dt} (h:ρ[i]?=some (some (.o ds))):uD i gt gb ρ=qd gt gb ds (ρ.set i (some (.l ds))):=by unfold uD;rw[h]
theorem PJ {i:Nat} {ds:List Dt} (h:ρ[i]?=some (some (.z (.tup ds)))):uD i gt gb ρ=qd gt gb ds ρ:=by unfold uD;rw[h];rfl
def XF (i:Nat) {ρ':Ev} (xs:List α) (hv:uD i gt gb ρ=qd gt gb (xs.map e) ρ') (E:σ->Ev) (s0:σ) (hE:ρ'=E s0) (ρ2:σ->α->Ev) (hg:∀ s x,gt (e x) (E s)=some (ρ2 s x)) (body:∀ s x,R gb (ρ2 s x) (λs=>Out.nx (E s))) (K:∀ s,R k (E s) cO):R (aH (uD i gt gb) k) ρ cO:=⟨(K (xs.foldl (λs x=>(body s x).v) s0)).v,bh (some (pP (λs x=>(body s x).v) (λs x=>(body s x).D) xs s0)) (K (xs.foldl (λs x=>(body s x).v) s0)).D,λhd=>by
 obtain⟨h2,h4⟩:=aA hd;rw[kJ (ρ':=E (xs.foldl (λs x=>(body s x).v) s0)) (by
  rw[hv,hE];exact wG E ρ2 hg body xs s0 h2)]
 exact(K _).ok h4⟩
def RM {c:τ->Bx} (i:Nat) {ρ':Ev} (xs:List α) (hv:uD i gt gb ρ=qd gt gb (xs.map e) ρ') (E:σ->Ev) (s0:σ) (hE:ρ'=E s0) (ρ2:σ->α->Ev) (hg:∀ s x,gt (e x) (E s)=some (ρ2 s x)) (body:∀ s x,R gb (ρ2 s x) (cC E c)) (inj:τ->γ) (hj:∀ r,cO (inj r)=.rt (c r)) (K:∀ s,R k (E s) cO):R (aH (uD i gt gb) k) ρ cO:=⟨behind (lJ (λs x=>(body s x).v) xs s0) inj λs=>(K s).v,bh (some (sX (λs x=>(body s x).v) (λs x=>(body s x).D) xs s0)) (RK (lJ (λs x=>(body s x).v) xs s0) λs=>(K s).D),λhd=>by
 obtain⟨h2,h4⟩:=aA hd;have e1:uD i gt gb ρ=some (cC E c (lJ (λs x=>(body s x).v) xs s0)):=by
  rw[hv,hE];exact Ab E ρ2 hg body xs s0 h2
 rcases wH (λs x=>(body s x).v) xs s0 with⟨s',es⟩|⟨r,es⟩
 ·rw[es] at e1 h4 ⊢;rw[kJ e1];exact(K s').ok h4
 ·rw[es] at e1 ⊢;show aH (uD i gt gb) k ρ=some (cO (inj r));unfold aH;rw[e1,hj];rfl⟩
class Ky {κ:Type} (c:κ->Key):Prop where
 inj:∀ a b,c a=c b->a=b
abbrev kS:Str->Key:=Sum.inr
abbrev kI:Int->Key:=Sum.inl
instance:Ky kS:=⟨λ_ _ h=>by cases h;rfl⟩
instance:Ky kI:=⟨λ_ _ h=>by cases h;rfl⟩
abbrev mE (e:α->Dt):List (Str×α)->Bx:=λm=>.m (m.map λq=>(kS q.1,e q.2)) none
abbrev nE (e:α->Dt):List (Str×α)->Bx:=λm=>.n (m.map λq=>(kS q.1,e q.2))
section
variable {κ:Type} [DecidableEq κ] {c:κ->Key}
def look [Inhabited α] (m:List (κ×α)) (x:κ):α:=((m.find? λq=>decide (q.1=x)).map (·.2)).getD default
def has (m:List (κ×α)) (x:κ):Bool:=m.any λq=>decide (q.1=x)
def put (m:List (κ×α)) (x:κ) (a:α):List (κ×α):=if has m x=true then m.map (λq=>if q.1=x then(q.1,a) else q) else m++[(x,a)]
theorem acd [Ky c] (a b:κ):decide (c a=c b)=decide (a=b):=by
 by_cases h:a=b
 ·rw[h];simp
 ·rw[qa h,qa λz=>h (Ky.inj (c:=c) _ _ z)]
theorem XH [Ky c] (m:List (κ×α)) (x:κ):BK (m.map λq=>(c q.1,e q.2)) (c x)=((m.find? λq=>decide (q.1=x)).map (·.2)).map e:=by
 unfold BK;rw[List.find?_map];simp only[Option.map_map,Function.comp_def,acd]
theorem XJ [Ky c] [Inhabited α] {m:List (κ×α)} {x:κ} (h:has m x=true):BK (m.map λq=>(c q.1,e q.2)) (c x)=some (e (look m x)):=by
 rw[XH];unfold look;unfold has at h;rw[kq] at h;obtain⟨q,hq,hx⟩:=h;cases hf:m.find? λq=>decide (q.1=x) with
 |none=>exact absurd hx (by simpa using List.find?_eq_none.mp hf q hq)
 |some q=>rfl
theorem RN [Ky c] (m:List (κ×α)) (x:κ) (a:α):Ih (m.map λq=>(c q.1,e q.2)) (c x) (e a)=(put m x a).map λq=>(c q.1,e q.2):=by
 unfold Ih put has;rw[List.any_map];simp only[Function.comp_def,acd];by_cases h:(m.any λq=>decide (q.1=x))=true
 ·rw[zl h,zl h];rw[Qb,Qb];refine j0 λq _=>?_;simp only[Function.comp];by_cases hq:q.1=x
  ·simp[hq]
  ·have h':¬ c q.1=c x:=λz=>hq (Ky.inj (c:=c) _ _ z);simp[hq,h']
 ·rw[zw h,zw h];simp
end
theorem Lz:∀ m:List (Str×α),TF (m.map λq=>(kS q.1,e q.2))=some (m.map (·.1))
 |[]=>rfl
 |q::m=>by rw[zo,TF,Lz m,bnd];rfl
def u9 [Inhabited α] (a:R fa ρ (nE e)) (b:R fb ρ (zE eS)):R (b2 qX fa fb) ρ (zE e):=⟨look a.v b.v,bh (bh a.D b.D) (some (has a.v b.v=true)),λh=>by
 obtain⟨h,h3⟩:=aA h;obtain⟨h1,h2⟩:=aA h;simp only[b2,a.ok h1,b.ok h2,bnd,qX,kyB,XJ (c:=kS) (show has a.v b.v=true from h3)]⟩
end
section
variable {α β:Type} {ρ:Ev} {fa f:Ev->Option Bx} {fs:Ev->Option LS_} {fi:Ev->Option (List Dt)} {e:α->Dt}
theorem Ae {b:Bx} {ds:List Dt} (h:pB b=some ds):uX b=some ds:=by
 cases b with
 |z d=>cases d<;>first|exact h|(cases h;done)
 |l _=>exact h
 |o _=>exact h
 |n _=>cases h
 |m _ _=>cases h
theorem ace (n:Nat):∃ m,m=n:=⟨n,rfl⟩
noncomputable def kN (n:Nat):Nat:=Classical.choose (ace n)
theorem LK (n:Nat):kN n=n:=Classical.choose_spec (ace n)
noncomputable def XM (n:Int) (m:Nat) (hm:n.toNat=m) (hn:Rg n):R (JH (aq (cB (.int n)) aJ)) ρ (iE eI):=⟨rng 0 (kN m),none,λh=>by rw[LK];exact(ad4 n m hm hn).ok h⟩
end
end P1
end
section
namespace P1
open PySem PySem.Spec PyProof.Rows L2 S1 S6
class n6 {α:Type} (e:α->Dt) where
 k:α->Key
 ok:∀ a,aaq (e a)=some (k a)
 inj:∀ a b,k a=k b->a=b
 same:∀ a b,Rc (k a) (k b)=true
instance:n6 eI:=⟨λi=>.inl i,λ_=>rfl,λa b h=>by cases h;rfl,λ_ _=>rfl⟩
instance:n6 eS:=⟨λi=>.inr i,λ_=>rfl,λa b h=>by cases h;rfl,λ_ _=>rfl⟩
class pX {α:Type} (e:α->Dt) where
 k:α->List Key
 ok:∀ a,BP (e a)=some (k a)
 inj:∀ a b,k a=k b->a=b
 shp:∀ a b,Ij (k a) (k b)=true
 ne:∀ a,(k a).isEmpty=false
class XQ {α:Type} (e:α->Dt) [pX e]:Prop where
 tx:∀ a,K7 (pX.k e a)=true
section
variable {α β γ δ:Type} {e:α->Dt} {e':β->Dt} {e'':γ->Dt} {e3:δ->Dt}
instance [n6 e] [n6 e']:pX (eP2 e e'):=⟨λq=>[n6.k e q.1,n6.k e' q.2],λq=>by simp only[BP,yI,n6.ok,bnd],λa b h=>by
 simp only[ka,and_true] at h;exact Prod.ext (n6.inj _ _ h.1) (n6.inj _ _ h.2),λa b=>by simp[Ij,n6.same],λ_=>rfl⟩
instance [n6 e] [n6 e'] [n6 e'']:pX (eP3 e e' e''):=⟨λq=>[n6.k e q.1,n6.k e' q.2.1,n6.k e'' q.2.2],λq=>by simp only[BP,yI,n6.ok,bnd],λa b h=>by
 simp only[ka,and_true] at h;exact Prod.ext (n6.inj _ _ h.1) (Prod.ext (n6.inj _ _ h.2.1) (n6.inj _ _ h.2.2)),λa b=>by simp[Ij,n6.same],λ_=>rfl⟩
instance [n6 e] [n6 e'] [n6 e''] [n6 e3]:pX (eP4 e e' e'' e3):=⟨λq=>[n6.k e q.1,n6.k e' q.2.1,n6.k e'' q.2.2.1,n6.k e3 q.2.2.2],λq=>by simp only[BP,yI,n6.ok,bnd],λa b h=>by
 simp only[ka,and_true] at h;exact Prod.ext (n6.inj _ _ h.1) (Prod.ext (n6.inj _ _ h.2.1) (Prod.ext (n6.inj _ _ h.2.2.1) (n6.inj _ _ h.2.2.2))),λa b=>by simp[Ij,n6.same],λ_=>rfl⟩
instance [n6 e]:XQ (eP2 e eS):=⟨λa=>by simp[pX.k,K7,n6.k]⟩
instance [n6 e] [n6 e']:XQ (eP3 e eS e'):=⟨λa=>by simp[pX.k,K7,n6.k]⟩
instance [n6 e] [n6 e'] [n6 e'']:XQ (eP4 e eS e' e''):=⟨λa=>by simp[pX.k,K7,n6.k]⟩
variable {ρ:Ev} {fa f:Ev->Option Bx} {fs:Ev->Option (List (List Key))}
theorem vA [pX e]:∀ xs:List α,ql (xs.map e)=some (xs.map (pX.k e))
 |[]=>rfl
 |x::xs=>by simp only[zo,ql,pX.ok,bnd,vA xs]
def leT (e:α->Dt) [pX e] (a b:α):Bool:=sI (pX.k e a) (pX.k e b)
def qY (e:α->Dt) [pX e] (xs:List α):List α:=xs.mergeSort (leT e)
theorem iW [pX e] (xs:List α):(qY e xs).Perm xs:=K0 ..
theorem PK [pX e] (xs:List α):(qY e xs).Pairwise (λa b=>leT e a b=true):=k9 (le:=leT e) (λa b c=>u0 (pX.k e a) (pX.k e b) (pX.k e c)) (λa b=>u5 (pX.k e a) (pX.k e b)) xs
theorem GJ [pX e] (xs:List α):jl (xs.map (pX.k e))=(qY e xs).map (pX.k e):=by
 refine(pJ ((iW xs).map _) (List.pairwise_map.mpr (PK xs))).symm
theorem XR [pX e] (xs:List α):(xs.map (pX.k e)).map tupK=xs.map e:=by
 rw[Qb];exact j0 λa _=>(KC (pX.ok a)).symm
theorem LQ [pX e] (xs:List α) (h:xs.length < 64):zc (xs.map (pX.k e))=true:=by
 simp only[zc,Zz,ZU,Z3,qv,zh,Kb,forall_exists_index,and_imp,forall_apply_eq_imp_iff₂];exact⟨h,λa _=>pX.ne a,λa _ b _=>pX.shp a b⟩
def ad8 [pX e] (a:RL fa ρ e):R (cD sS (aq fa aJ)) ρ (oE e):=⟨qY e a.v,bh a.D (some (a.v.length < 64)),λh=>by
 obtain⟨h,h4⟩:=aA h;simp only[cD,aq,aJ,a.ok h,bnd,sS,Ae a.lk,vA,LQ a.v h4,qq,GJ,XR]⟩
abbrev uE (e:α->Dt) [pX e]:List α->List (List Key):=λxs=>xs.map (pX.k e)
def XS [pX e] [XQ e] (a:RL fa ρ e):R (O9 fa) ρ (uE e):=⟨a.v,bh a.D (some (a.v.length<=64)),λh=>by
 obtain⟨h,h4⟩:=aA h;have h4:a.v.length<=64:=h4;have ht:(a.v.map (pX.k e)).all K7=true:=by
  rw[List.all_map,Z3];exact λx _=>XQ.tx x
 simp only[O9,a.ok h,bnd,ab1,Ae a.lk,vA];rw[zl ⟨by rw[zh];exact h4,ht⟩]⟩
def X3 [DecidableEq α] [pX e] (a:R fs ρ (uE e)):R (Cg fs) ρ (oE e):=⟨qY e (Gv a.v),bh a.D (some (a.v.length < 64)),λh=>by
 obtain⟨h,h4⟩:=aA h;simp only[Cg,a.ok h,bnd,LQ a.v h4,qq,Iw pX.inj,GJ,XR]⟩
end
end P1
end
section
namespace P1
open PySem PySem.Spec PyProof.Rows L2
section
variable {α β γ:Type} {ρ:Ev} {fa fb fd f fk fv:Ev->Option Bx} {fs:Ev->Option (List Bx)} {fi:Ev->Option (List Dt)} {e:α->Dt} {e':β->Dt} {g k:Ev->Option Out} {cO:γ->Out} {gt:Dt->Ev->Option Ev} {p:Ev->Option Bool} {is:List Nat} {n:Nat}
abbrev mW (w:Option Addr) (e:α->Dt):List (Str×α)->Bx:=λm=>.m (m.map λq=>(kS q.1,e q.2)) w
def aM (e:α->Dt) (t:γ->List Bx->Prop):List (Str×α)×γ->List Bx->Prop:=λx bs=>∃ b r,bs=b::r/\(b=nE e x.1\/b=mE e x.1)/\t x.2 r
def af7 {t:γ->List Bx->Prop} (a:R fa ρ (nE e)) (r:AR t fs ρ):AR (aM e t) (aq fa fs) ρ:=⟨(a.v,r.v),bh a.D r.D,_,⟨_,_,rfl,.inl rfl,r.h⟩,λh=>by
 obtain⟨h1,h2⟩:=aA h;simp only[aq,a.ok h1,r.ok h2,bnd]⟩
def af8 {t:γ->List Bx->Prop} (a:R fa ρ (mE e)) (r:AR t fs ρ):AR (aM e t) (aq fa fs) ρ:=⟨(a.v,r.v),bh a.D r.D,_,⟨_,_,rfl,.inr rfl,r.h⟩,λh=>by
 obtain⟨h1,h2⟩:=aA h;simp only[aq,a.ok h1,r.ok h2,bnd]⟩
def aaW (w:Option Addr) (i:Nat) (m:List (Str×α)) (hi:ρ[i]?=some (some (mW w e m))) (a:R fa ρ (zE e)) (b:R fb ρ (zE eS)) (K:∀ m':List (Str×α),R k (ρ.set i (some (mW w e m'))) cO):R (aH (Ww i fa fb) k) ρ cO:=⟨(K (put m b.v a.v)).v,bh (bh (bh a.D b.D) (some (m.length < 1000))) (K (put m b.v a.v)).D,λhd=>by
 obtain⟨h,h4⟩:=aA hd;obtain⟨h,h3⟩:=aA h;obtain⟨h1,h2⟩:=aA h;rw[kJ (ρ':=ρ.set i (some (mW w e (put m b.v a.v)))) (by
  unfold Ww;rw[a.ok h1,bnd,b.ok h2,bnd];simp only[Kr,kyB,bnd,hi,mW,zh,zl (show m.length < 1000 from h3),RN])]
 exact(K _).ok h4⟩
def mkD (qs:List (Str×β)):List (Str×β):=qs.foldl (λm q=>put m q.1 q.2) []
theorem PL (qs:List (Str×β)):dictOf (qs.map (eP2 eS e'))=(mkD qs).map λq=>(kS q.1,e' q.2):=by
 unfold dictOf mkD;have:∀ (qs:List (Str×β)) (m:List (Str×β)),(qs.map (eP2 eS e')).foldl adS (m.map λq=>(kS q.1,e' q.2))=(qs.foldl (λm q=>put m q.1 q.2) m).map λq=>(kS q.1,e' q.2):=by
  intro qs
  induction qs with
  |nil=>intro m;rfl
  |cons q qs ih=>
   intro m;rw[zo,QO,QO];show(qs.map (eP2 eS e')).foldl adS (Ih (m.map λq=>(kS q.1,e' q.2)) (kS q.1) (e' q.2))=_;rw[RN (c:=kS)];exact ih _
 exact this qs []
def aaX (a:R fk ρ (zE eS)) (b:R fv ρ (zE e)):R (b2 Ci fk fv) ρ (zE (eP2 eS e)):=⟨(a.v,b.v),bh a.D b.D,λh=>by
 obtain⟨h1,h2⟩:=aA h;simp only[b2,a.ok h1,b.ok h2,bnd,Ci]⟩
def aaY (i:R fi ρ (iE e)) (a:R (dN fi gt p (b2 Ci fk fv) is n) ρ (oE (eP2 eS e'))):R (Rr fi gt p fk fv is n) ρ (mE e'):=⟨mkD a.v,bh (bh i.D (some (i.v.length < 1000))) a.D,λh=>by
 obtain⟨h,h3⟩:=aA h;obtain⟨h1,h2⟩:=aA h;have h2:i.v.length < 1000:=h2;have ha:=a.ok h3;unfold dN at ha;unfold Rr;rw[i.ok h1,bnd] at ha ⊢;rw[zl (by rw[zh];omega)] at ha;rw[zl (by rw[zh];exact h2)];obtain⟨out,eo,ha⟩:=bind_some ha;rw[eo,bnd];injection ha with ha;injection ha with ha;rw[ha,PL]⟩
def aga (a:R fd ρ (nE e)):R (La fd) ρ (iE eS):=⟨a.v.map (·.1),a.D,λh=>by
 simp only[La,a.ok h,bnd,keyB,Qb];rfl⟩
def aaZ (a:R fa ρ (nE e)):R (cD Ck (aq fa aJ)) ρ (oE eS):=⟨a.v.map (·.1),a.D,λh=>by
 simp only[cD,aq,aJ,a.ok h,bnd,Ck,Lz]⟩
def X4 (a:R fa ρ (zE eS)) (b:R fb ρ (zE eS)):R (cD sW (aq fa (aq fb aJ))) ρ (zE eS):=⟨if Nj b.v a.v=true then b.v else a.v,bh a.D b.D,λh=>by
 obtain⟨h1,h2⟩:=aA h;simp only[cD,aq,aJ,a.ok h1,b.ok h2,bnd,sW];rfl⟩
def ad9 (a:R fa ρ (zE eS)) (b:R fb ρ (zE eS)):R (cD Lf (aq fa (aq fb aJ))) ρ (zE eS):=⟨if Nj a.v b.v=true then b.v else a.v,bh a.D b.D,λh=>by
 obtain⟨h1,h2⟩:=aA h;simp only[cD,aq,aJ,a.ok h1,b.ok h2,bnd,Lf];rfl⟩
theorem aa0 {n:Nat} {bs:List Bx} {a:Addr} {m:List (Str×α)} {ρ2:List (Str×α)->Ev} (x:R g ((mW (some a) e m::bs).map some++List.replicate (n - (bs.length+1)) none) (λm'=>Out.nx (ρ2 m'))) (h:hold x.D) (h0:∀ m',(ρ2 m')[0]?=some (some (mW (some a) e m'))):Lg n g a (m.map λq=>(kS q.1,e q.2)) bs=some (x.v.map λq=>(kS q.1,e q.2)):=by
 unfold Lg;rw[x.ok h,bnd];simp only[h0,qq]
def aea {cA:γ->List Bx->Prop} {δ:Type} {cO:δ->Out} {G:Addr->List (Key×Dt)->List Bx->Option (List (Key×Dt))} {n:Nat} {T:List (Str×α)->γ->List (Str×α)} {Df:List (Str×α)->γ->Option Prop} (w:Option Addr) (i:Nat) (m:List (Str×α)) (hi:ρ[i]?=some (some (mW w e m)))
  (S:∀ m v bs,cA v bs->bs.length=n/\bs.all isZ=true/\(hold (Df m v)->∀ a,G a (m.map λq=>(kS q.1,e q.2)) bs=some ((T m v).map λq=>(kS q.1,e q.2)))) (a:AR cA fs ρ) (K:∀ m':List (Str×α),R k (ρ.set i (some (mW w e m'))) cO):R (aH (Cp i n G fs) k) ρ cO:=⟨(K (T m a.v)).v,bh (bh a.D (Df m a.v)) (K (T m a.v)).D,λhd=>by
 obtain⟨h,h4⟩:=aA hd;obtain⟨h1,h2⟩:=aA h;obtain⟨s1,s2,s3⟩:=S m a.v a.bs a.h;rw[kJ (Xi hi (a.ok h1) s1 s2 (s3 h2))];exact(K _).ok h4⟩
end
section
variable {α:Type} {ρ:Ev} {fa fb:Ev->Option Bx} {e:α->Dt}
def Ja [DecidableEq α] (x:α) (ys:List α):Bool:=decide (x∈ys)
theorem LR [DecidableEq α] {x:α} {ys:List α}:Ja x ys=true↔x∈ys:=by unfold Ja;rw[ZU]
theorem X5 [DecidableEq α] {n:Nat} [Eqs e n] (hn:n<=60) (x:α) (ys:List α):Ui (e x) (ys.map e)=some (decide (x∈ys)):=by
 unfold Ui;rw[zl]
 ·congr 1;rw[List.any_map,KU,kq,ZU];constructor
  ·rintro⟨y,hy,h⟩;simp only[Function.comp,Eqs.eq] at h;by_cases q:y=x
   ·exact q▸hy
   ·simp[q,isT] at h
  ·intro h;exact⟨x,h,by simp[Function.comp,Eqs.eq,isT]⟩
 ·rw[List.all_map,Z3];intro y _;have:=Eqs.dp (e:=e) y;simp only[Function.comp,Eqs.eq,Option.isSome_some,yo,ZU];omega
def aeb [DecidableEq α] {n:Nat} [Eqs e n] (hn:n<=60) (a:R fa ρ (zE e)) (b:RL fb ρ e):R (b2 Xj fa fb) ρ (zE eB):=⟨!Ja a.v b.v,bh a.D b.D,λh=>by
 obtain⟨h1,h2⟩:=aA h;simp only[b2,a.ok h1,b.ok h2,bnd,Xj,Ae b.lk,X5 hn,Ja]⟩
end
end P1
end
section
namespace P1
open PySem PySem.Spec PyProof.Rows L2 S1 S6
section
variable {ρ:Ev} {fa:Ev->Option Bx}
def kT (xs:LS_):List Key:=xs.map Sum.inr
theorem aec {a b:LS_} (h:kT a=kT b):a=b:=by
 unfold kT at h
 induction a generalizing b with
 |nil=>cases b with|nil=>rfl|cons _ _=>simp at h
 |cons x a ih=>cases b with
  |nil=>simp at h
  |cons y b=>
   simp only[zo,ka] at h;rw[Sum.inr.inj h.1,ih h.2]
theorem Ma:∀ (xs:LS_),yI (xs.map eS)=some (kT xs)
 |[]=>rfl
 |x::xs=>by simp only[zo,yI,aaq,bnd,Ma xs];rfl
theorem GK:∀ (xss:List LS_),ql (xss.map (eT eS))=some (xss.map kT)
 |[]=>rfl
 |x::xss=>by simp only[zo,ql,BP,eT,Ma,bnd,GK xss]
def Mf (a b:LS_):Bool:=sI (kT a) (kT b)
def qx (xss:List LS_):List LS_:=xss.mergeSort Mf
theorem n8 (xs:List LS_):(qx xs).Perm xs:=K0 ..
theorem yO (xs:List LS_):(qx xs).Pairwise (λa b=>Mf a b=true):=k9 (le:=Mf) (λa b c=>u0 (kT a) (kT b) (kT c)) (λa b=>u5 (kT a) (kT b)) xs
theorem Uj {a b:LS_} (h:Mf a b=true) (h':Mf b a=true):a=b:=aec (Gj h h')
theorem Uk {xs out:List LS_} (hp:out.Perm xs) (hs:out.Pairwise (λa b=>Mf a b=true)):out=qx xs:=sJ (λ_ _=>Uj) (hp.trans (n8 xs).symm) hs (yO xs)
theorem PN (xs:List LS_):jl (xs.map kT)=(qx xs).map kT:=(pJ ((n8 xs).map _) (List.pairwise_map.mpr (yO xs))).symm
theorem aa1 (xs:List LS_):(xs.map kT).map tupK=xs.map (eT eS):=by
 rw[Qb];refine j0 λa _=>?_;show Dt.tup ((kT a).map dK)=Dt.tup (a.map eS);unfold kT;rw[Qb];rfl
theorem aed (a b:LS_):Ij (kT a) (kT b)=true:=by
 unfold Ij kT;rw[Z3];rintro⟨x,y⟩ h;obtain⟨h1,h2⟩:=KP h;obtain⟨p,_,rfl⟩:=List.mem_map.mp h1;obtain⟨q,_,rfl⟩:=List.mem_map.mp h2;rfl
theorem aa2 (xs:List LS_) (h:xs.length < 64) (hn:∀ x∈xs,x.isEmpty=false):zc (xs.map kT)=true:=by
 simp only[zc,Zz,ZU,Z3,qv,zh,Kb,forall_exists_index,and_imp,forall_apply_eq_imp_iff₂];refine⟨h,λa ha=>?_,λa _ b _=>aed a b⟩;have:=hn a ha;cases a with
 |nil=>cases this
 |cons _ _=>rfl
def aa3 (a:RL fa ρ (eT eS)):R (cD sS (aq fa aJ)) ρ (oE (eT eS)):=⟨qx a.v,bh a.D (some (a.v.length < 64/\∀ x∈a.v,x.isEmpty=false)),λh=>by
 obtain⟨h,h4⟩:=aA h;obtain⟨h4,h5⟩:a.v.length < 64/\∀ x∈a.v,x.isEmpty=false:=h4;simp only[cD,aq,aJ,a.ok h,bnd,sS,Ae a.lk,GK,aa2 a.v h4 h5,qq,PN,aa1]⟩
end
section
variable {α:Type} {ρ:Ev} {f:Ev->Option Bx} {e:α->Dt}
theorem map_some (e:α->Dt) (xs:List α):(xs.map some).map (eO e)=xs.map e:=by rw[Qb];rfl
end
end P1
end
section
namespace P1
open PySem PySem.Spec PyProof.Rows L2
section
variable {α:Type} {k g:Ev->Option Out} {ρ:Ev} {cO:α->Out}
end
section
variable {α:Type} {e:α->Dt} {ρ:Ev} {fa fb:Ev->Option Bx}
end
section
variable {σ τ γ:Type} {p:Ev->Option Bool} {gb k:Ev->Option Out} {ρ:Ev} {cO:γ->Out}
end
section
variable {α:Type} {e:α->Dt} {ρ:Ev} {fa:Ev->Option Bx}
end
section
variable {α β σ τ:Type}
theorem RQ {step:σ->α->σ} {P:σ->α->Option Prop} (I:Nat->σ->Prop):∀ (xs:List α) (m:Nat) (s0:σ),I m s0->(∀ k x s,xs[k]?=some x->I (m+k) s->hold (P s x)/\I (m+k+1) (step s x))->pP step P xs s0/\I (m+xs.length) (xs.foldl step s0)
 |[],m,s0,h0,_=>⟨trivial,h0⟩
 |x::xs,m,s0,h0,hs=>by
  obtain⟨h1,h2⟩:=hs 0 x s0 rfl h0;have:=RQ I xs (m+1) (step s0 x) h2 λk y s e h=>by
   have:=hs (k+1) y s (by simpa using e) (by rw[show m+(k+1)=m+1+k by omega];exact h);rw[show m+(k+1)+1=m+1+k+1 by omega] at this;exact this
  refine⟨⟨h1,this.1⟩,?_⟩;rw[qS,show m+(xs.length+1)=m+1+xs.length by omega];exact this.2
theorem aa4 {i:Int} {n k:Nat} {x:Int} (h:(rng i n)[k]?=some x):x=i+k/\k < n:=by
 unfold rng at h;rw[zI] at h;cases hk:(List.range n)[k]? with
 |none=>rw[hk] at h;cases h
 |some j=>
  rw[hk] at h;have hl:k < n:=by simpa using(List.getElem?_eq_some_iff.mp hk).1
  have:j=k:=by
   rw[List.getElem?_range hl] at hk;cases hk;rfl
  subst this;cases h;exact⟨rfl,hl⟩
theorem oh (i:Int) (n:Nat):(rng i n).length=n:=by unfold rng;simp
theorem aa5 {i:Int} {n:Nat} {x:Int} (h:x∈rng i n):i<=x/\x < i+n:=by
 unfold rng at h;obtain⟨k,hk,rfl⟩:=List.mem_map.mp h;have:=List.mem_range.mp hk;omega
theorem sY {step:σ->Int->σ} {P:σ->Int->Option Prop} (I:Nat->σ->Prop) (n:Nat) (s0:σ) (h0:I 0 s0) (hs:∀ (k:Nat) s,k < n->I k s->hold (P s k)/\I (k+1) (step s k)):pP step P (rng 0 n) s0/\I n ((rng 0 n).foldl step s0):=by
 have:=RQ (P:=P) I (rng 0 n) 0 s0 h0 λk x s e h=>by
  obtain⟨rfl,hk⟩:=aa4 e;rw[K2] at h ⊢;rw[Int.zero_add];exact hs k s hk h
 rw[oh,K2] at this;exact this
theorem wI {step:Unit->α->uG Unit Bool} {P:Unit->α->Option Prop}:∀ xs:List α,(∀ x∈xs,hold (P () x)/\(step () x=.nx ()\/step () x=.ct ()))->lJ step xs ()=.nx ()/\sX step P xs ()
 |[],_=>⟨rfl,trivial⟩
 |x::xs,h=>by
  obtain⟨h1,h2⟩:=h x (zi ..);have ih:=wI (P:=P) xs λy hy=>h y (zr _ hy);rcases h2 with h2|h2
  ·exact⟨by unfold lJ;rw[h2];exact ih.1,h1,by rw[h2];exact ih.2⟩
  ·exact⟨by unfold lJ;rw[h2];exact ih.1,h1,by rw[h2];exact ih.2⟩
theorem nu [Inhabited α] {xs:List α} {i:Int} (h:In xs.length i):at' xs i∈xs:=by
 obtain⟨x,hx⟩:=IV h;unfold at';rw[hx];unfold FN at hx;obtain⟨j,_,hx⟩:=bind_some hx;exact qV hx
theorem in_of {n:Nat} {i:Int} (h0:0<=i) (h1:i < n):In n i:=⟨by omega,h1⟩
theorem CN {n k:Nat} (h:k < n):In n (k:Int):=⟨by omega,by omega⟩
theorem jG {n:Nat} {x m:Int} (hm:0 < m) (h:m<=n):In n (x % m):=in_of (Int.emod_nonneg _ (by omega)) (Int.lt_of_lt_of_le (Int.emod_lt_of_pos _ hm) h)
theorem ig (x:Int) {m:Int} (hm:0 < m):0<=x % m/\x % m < m:=⟨Int.emod_nonneg _ (by omega),Int.emod_lt_of_pos _ hm⟩
theorem CP {j:Int} (h0:0<=j) (h1:j<=1000000):Rg j:=⟨by omega,by omega⟩
theorem X6 {a b:Int} (h0:0<=a) (h1:a < 18446744073709551616):Mul a b:=.inl ⟨by omega,h1⟩
theorem aa6 {xs:List α} {lo hi:Option Int} {x:α} (h:x∈cut xs lo hi):x∈xs:=List.mem_of_mem_drop (List.mem_of_mem_take h)
theorem aa7 (xs:List α) (lo hi:Option Int):(cut xs lo hi).length<=xs.length:=by
 unfold cut;rw[km,ko];omega
theorem X7 {xs:List α} {k:Nat} (h:k<=xs.length):cut xs (some (k:Int)) none=xs.drop k:=by
 unfold cut;rw[HT.Zq,HT.Vw,Nat.min_eq_left h,List.take_of_length_le (by simp)]
theorem dG (x y:Str):(x++y).length=x.length+y.length:=by
 show(x.cps++y.cps).size=_;rw[Kx];rfl
theorem kO (x:Str) (i:Int):(ch x i).length=1:=rfl
theorem slice_le (x:Str) (l u:Option Int):(Txt.slice x l u).length<=x.length:=PyProof.Txt.length_slice_le x l u
theorem Ul (x:Str):(chars x).length=x.length:=by unfold chars;rw[zh,qc];rfl
theorem Um (x:Str):(signs x).length=x.length:=by rw[XC,zh,Ul]
end
section
variable {α γ:Type} [Inhabited α] {e:α->Dt} {ρ:Ev} {f:Ev->Option Bx} {k:Ev->Option Out} {cO:γ->Out}
end
section
variable {ρ:Ev} {fa:Ev->Option Bx}
end
section
variable {α γ:Type} {e:α->Dt} {ρ:Ev} {f:Ev->Option Bx} {k:Ev->Option Out} {cO:γ->Out}
end
section
variable {α β γ:Type} {e:α->Dt} {f fa fb:Ev->Option Bx} {k g:Ev->Option Out} {ρ:Ev} {cO:γ->Out}
def aa8 [Inhabited γ]:R (aH noG k) ρ cO:=⟨default,some False,λh=>absurd h id⟩
def aee {c:α->Bx} (a:R f ρ c) (K:R k ρ cO):R (aH (Rx f) k) ρ cO:=⟨K.v,bh a.D K.D,λhd=>by
 obtain⟨h1,h2⟩:=aA hd;rw[kJ (ρ':=ρ) (by unfold Rx;rw[a.ok h1,bnd])];exact K.ok h2⟩
theorem aa9 {n:Nat} {bs:List Bx} {ρ2:γ->Ev} (x:R g (bs.map some++List.replicate (n - bs.length) none) (λr=>Out.nx (ρ2 r))) (h:hold x.D):dX n g bs=some (.z .non):=by
 unfold dX;rw[x.ok h];rfl
end
section
variable {α:Type} {e:α->Dt} {f fa fb:Ev->Option Bx} {ρ:Ev}
end
section
variable {α β γ:Type} {e:α->Dt} {e':β->Dt} {fa fb:Ev->Option Bx} {ρ:Ev}
end
def RP {α β:Type} (f:Ev->Option β) (ρ:Ev) (c:α->β) (v:α) (D:Option Prop):Prop:=hold D->f ρ=some (c v)
theorem R.tp {α β:Type} {f:Ev->Option β} {ρ:Ev} {c:α->β} {v':α} {D':Option Prop} (x:R f ρ c) (hv:x.v=v':=by kernel_rfl) (hD:x.D=D':=by kernel_rfl):RP f ρ c v' D':=λh=>by
 subst hv hD;exact x.ok h
def RP.r {α β:Type} {f:Ev->Option β} {ρ:Ev} {c:α->β} {v:α} {D:Option Prop} (h:RP f ρ c v D):R f ρ c:=⟨v,D,h⟩
theorem len1 {α:Type} {p:List α->Prop} (h:∀ a,p [a]):∀ us:List α,us.length=1->p us
 |[a],_=>h a
theorem len2 {α:Type} {p:List α->Prop} (h:∀ a b,p [a,b]):∀ us:List α,us.length=2->p us
 |[a,b],_=>h a b
theorem ah2 {α:Type} {p:List α->Prop} (h:∀ a b c,p [a,b,c]):∀ us:List α,us.length=3->p us
 |[a,b,c],_=>h a b c
theorem ah3 {α:Type} {p:List α->Prop} (h:∀ a b c d,p [a,b,c,d]):∀ us:List α,us.length=4->p us
 |[a,b,c,d],_=>h a b c d
theorem ah4 {α:Type} {p:List α->Prop} (h:∀ a b c d e,p [a,b,c,d,e]):∀ us:List α,us.length=5->p us
 |[a,b,c,d,e],_=>h a b c d e
end P1
end
section
namespace P1
open PySem PySem.Spec PyProof.Rows L2 S1
section
variable {prog:Program} {w:World} {A:Around} {E:VP_} {s:Shared}
end
section
variable {X:Cx}
end
section
variable {fa:Ev->Option Bx} {ρ:Ev}
end
end P1
end
section
namespace P1
open PySem PySem.Spec PyProof.Rows L2
section
variable {i n:Nat} {is:List Nat} {f:Ev->Option Bx} {fs:Ev->Option (List Bx)} {p:Ev->Option Bool} {gt:Dt->Ev->Option Ev} {g1 g2 gb:Ev->Option Out}
end
section
variable {X:Cx} {st:Stmt} {rest:List Stmt} {g1 g2:Ev->Option Out}
end
section
variable {P:Program} {w:World} {K:FG_} {mg:Str->Option Value} {base:Heap}
end
section
variable {X:Cx} {pins:List (Addr×Obj)} {σ:L2.St} {H:Hp} {s:Shared} {a:Addr} {ks:List V} {o:Obj}
end
section
variable {X:Cx} {i:Nat} {M0 M1 M2 er:Expr} {f0 f2 f:Ev->Option Bx} {d0 d2:Dt} {z0 z1 z2 z3:Pos}
end
section
variable {X:Cx} {st:List Stmt} {g:Ev->Option Out} {f fr fe:Ev->Option Bx} {p:Ev->Option Bool} {i i':Nat} {W:List Nat} {c e:Expr} {pos z:Pos}
end
section
variable {a b c g g1 g2 gb:Ev->Option Out} {f:Ev->Option Bx} {p:Ev->Option Bool} {i k:Nat} {gt:Dt->Ev->Option Ev}
end
end P1
end
section
namespace P1
open PySem PySem.Spec PyProof.Rows L2 S6
section
variable {X:Cx} {elt kx vx t1 i1 t2 i2:Expr} {f1 f2:List Expr} {scope:Scope} {cl:List (Str×Addr)} {pos:Pos} {xs:LS_} {is:List Nat} {g1 g2:Dt->Ev->Option Ev} {p1 p2:Ev->Option Bool} {fe fk fv:Ev->Option Bx} {fi1 fi2:Ev->Option (List Dt)} {fs:Ev->Option (List Dt)} {N m:Nat} {Ac:Addr->Hp->List Dt->HO->Prop} {el:Addr->Env->Sem Unit}
def cls2 (fi:Ev->Option (List Dt)) (gt:Dt->Ev->Option Ev) (p:Ev->Option Bool) (fs:Ev->Option (List Dt)) (is:List Nat) (n:Nat):Ev->Option (List Dt):=λρ=>(fi ρ).bind λds=>za gt p fs (iz is ρ++List.replicate n none) ds
end
end P1
end
section
namespace P1
open PySem PySem.Spec PyProof.Rows L2
section
variable {α β:Type} {ρ:Ev} {e:α->Dt} {e':β->Dt} {p:Ev->Option Bool} {fi fs:Ev->Option (List Dt)} {gt:Dt->Ev->Option Ev} {fe:Ev->Option Bx} {is:List Nat} {n:Nat}
end
section
variable {X:Cx}
end
section
variable {ρ:Ev} {fa fb:Ev->Option Bx}
end
def hx (h:Heap) (a:Addr):HO:=.ext λh'=>h'.get? a=h.get? a
section
variable {X:Cx} {pins:List (Addr×Obj)} {σ:L2.St} {H H2:Hp} {s:Shared} {as:List Addr}
end
section
variable {X:Cx} {pins:List (Addr×Obj)} {σ:L2.St} {H:Hp} {s:Shared}
end
section
variable {K:FG_} {H:Hp} {D l:Addr} {gs:List (Int×Addr×List Dt)} {k:Int} {x:Dt} {u:V}
end
section
variable {X:Cx} {iter e1 e2 c ev:Expr} {fi:Ev->Option (List Dt)} {f1 f2 fv:Ev->Option Bx} {p:Ev->Option Bool} {x y w:Str} {pw py py2 py3 px p1 p2 p3 p4 pl a1 a2 c1 c2 pos:Pos}
end
end P1
end
section
namespace P1
open PySem PySem.Spec PyProof.Rows L2 S6
section
variable {X:Cx} {kx vx t1 i1 t2 i2:Expr} {f1 f2:List Expr} {scope:Scope} {cl:List (Str×Addr)} {pos:Pos} {xs:LS_} {is:List Nat} {g1 g2:Dt->Ev->Option Ev} {p1 p2:Ev->Option Bool} {fk fv:Ev->Option Bx} {fi1 fi2:Ev->Option (List Dt)} {m:Nat}
end
end P1
end
section
namespace P1
open PySem PySem.Spec PyProof.Rows L2
section
variable {α β γ:Type} {ρ:Ev} {e:α->Dt} {e0:β->Dt} {fa fb fd f1 f2 fv:Ev->Option Bx} {p:Ev->Option Bool} {fi:Ev->Option (List Dt)} {kk:Ev->Option Out} {cO:γ->Out}
end
section
variable {X:Cx}
end
section
variable {α β:Type} {e:α->Dt} {ρ:Ev} {fa:Ev->Option Bx} {p:Ev->Option Bool} {fi fs:Ev->Option (List Dt)} {gt:Dt->Ev->Option Ev} {is:List Nat} {n:Nat}
end
section
variable {X:Cx} {a:Expr} {fa:Ev->Option Bx} {pos:Pos}
end
theorem cZ {α:Type} {g:Ev->Option Out} {n:Nat} {bs:List Bx} {c:α->Bx} {v:α} {D:Option Prop} (x:RP g (bs.map some++List.replicate (n - bs.length) none) (λr=>Out.rt (c r)) v D) (h:hold D):dX n g bs=some (c v):=ad3 x.r h
section
variable {α:Type} {e:α->Dt} {ρ:Ev} {fa:Ev->Option Bx}
end
open PySem.Builtin PySem.Builtin.Str
section
variable {X:Cx}
variable {o e:Expr} {fo fx:Ev->Option Bx}
end
section
variable {ρ:Ev} {fa fb:Ev->Option Bx} {g:Ev->Option Str}
end
section
variable {X:Cx}
end
section
variable {X:Cx} {iter e1 e2 e3 c:Expr} {fi:Ev->Option (List Dt)} {f1 fe:Ev->Option Bx} {p:Ev->Option Bool} {gr:Ev->Option Out} {fx:Ev->Option Dt} {tR tQ:TS} {x xr xj y1 y2:Str} {rest no:List Stmt} {kk:Nat} {p0 p00 p01 p02 q1 q2 pt pj pa px pb pif pf2 px3 a1 c1 pe1 pr a2 pj2 c2 pe2 pos:Pos}
end
section
variable {α β γ δ:Type} {ρ:Ev} {e:α->Dt} {ea:β->Dt} {eb:δ->Dt} {f1 fe:Ev->Option Bx} {p:Ev->Option Bool} {fi:Ev->Option (List Dt)} {kk:Ev->Option Out} {cO:γ->Out}
end
end P1
end
section
namespace P1
open PySem PySem.Spec PyProof.Rows L2 S1
section
variable {prog:Program} {w:World} {A:Around} {E:VP_} {s:Shared}
end
section
variable {X:Cx}
end
section
variable {X:Cx} {k n:Nat} {f:Addr} {fd:FuncData} {ps:LS_} {F:List Bx->Option Bx} {x:Str} {p pos:Pos}
end
end P1
end
section
namespace P1
open PySem PySem.Spec PyProof.Rows L2 S1 S6
theorem len0 {α:Type} {p:List α->Prop} (h:p []):∀ us:List α,us.length=0->p us
 |[],_=>h
section
variable {α β:Type} {e:α->Dt} {ρ:Ev} {f g fa fb:Ev->Option Bx} {c:α->Bx}
end
section
variable {ρ:Ev}
def x_k (d:Dt):R (cB d) ρ (zE eD):=yL d eD d rfl
def x_i (i:Int):R (cB (.int i)) ρ (zE eI):=yL (.int i) eI i rfl
def x_s (s:Str):R (cB (.str s)) ρ (zE eS):=yL (.str s) eS s rfl
end
abbrev Nn (K:FG_) (n:Str) (f:Addr):Prop:=nsIn K mainGlobals n=some (some (.ref f))
abbrev Lk (K:FG_) (f:Addr) (n:Str) (st:Stmt) (oc:Value) (od:Option Addr) (sl:Array (Option Value)) (kV dc pm:Value) (an:Option Addr) (cd ct:Value):Prop:=K.lookup f=some ⟨oc,od,.func (fnOf n n (lG st) (dD st) (aF st) .none kV dc pm an cd ct),sl⟩
end P1
end
section
namespace P1
open PySem PySem.Spec PyProof.Rows L2
section
variable {α:Type} {ρ:Ev} {fa fb:Ev->Option Bx} {e:α->Dt}
end
def ExR (h:Heap) (e:Addr) (C:Value) (dx:Option Addr):Prop:=∃ vs sl,h.get? e=some ⟨C,dx,.fields vs,sl⟩/\vs[1]?=some .none/\vs[2]?=some .none
def PX (h:Heap) (e:Addr) (C:Value) (dx:Option Addr) (fl:Value) (T:Addr):Prop:=
 ∃ vs sl oT ts,h.get? e=some ⟨C,dx,.fields vs,sl⟩/\vs[1]?=some (.ref T)/\T≠e/\h.get? T=some oT/\oT.data=.fields ts/\ts[3]?=some fl/\vs[2]?=some .none
structure Jb (S ch:List Addr) (h h':Heap):Prop where
 keep:∀ b o,h.get? b=some o->b∉ch->b∉S->h'.get? b=some o
 slot:∀ b o,h.get? b=some o->b∉ch->∃ sl,h'.get? b=some { o with slots:=sl }
theorem Jb.trans {S c1 c2:List Addr} {h h1 h2:Heap} (a:Jb S c1 h h1) (b:Jb S c2 h1 h2):Jb S (c1++c2) h h2:=by
 refine⟨λx o e n m=>b.keep x o (a.keep x o e (λz=>n (kL _ z)) m) (λz=>n (ZT _ z)) m,λx o e n=>?_⟩;obtain⟨s1,e1⟩:=a.slot x o e (λz=>n (kL _ z));obtain⟨s2,e2⟩:=b.slot x _ e1 (λz=>n (ZT _ z));exact⟨s2,e2⟩
theorem Jb.mono {S S' c1 c2:List Addr} {h h1:Heap} (a:Jb S c1 h h1) (hc:∀ b∈c1,b∈c2) (hs:∀ b∈S,b∈S'):Jb S' c2 h h1:=
 ⟨λx o e n m=>a.keep x o e (λz=>n (hc _ z)) (λz=>m (hs _ z)),λx o e n=>a.slot x o e (λz=>n (hc _ z))⟩
theorem Jb.rO {S ch:List Addr} {h h1 base:Heap} {l:List Env} (a:Jb S ch h h1) (nf:∀ b∈ch,∀ o,h.get? b=some o->∃ vs,o.data=.fields vs) (hl:h.FunFrames base l):h1.FunFrames base l:=
 hl.of_keeps λb o e hn=>by
  obtain⟨sl,q⟩:=a.slot b o e λz=>by
   obtain⟨vs,d⟩:=nf b z o e;exact hn vs d
  exact⟨_,q,rfl⟩
section
variable {M:Model} {A:Around} {Ex:VP_} {s:Shared} {base:Heap} {env:Env} {outer:List Env} {L e T:Addr} {C fl:Value} {dx:Option Addr} {Q:Unit->Shared->Prop}
theorem GP {head:Value} {hadNext:Bool} {vs:Array Value} {sl:Array (Option Value)} (hfr:A.frames=some (env::outer)) (hl:s.heap.FunFrames base (env::outer)) (hf:env.frame=some L)
  (he:s.heap.get? e=some ⟨C,dx,.fields vs,sl⟩) (hsz:1 < vs.size) (h2:vs[2]?=some .none)
  (h:∀ h' T,s.heap.objs.size<=T->Jb (frs (env::outer)) [e] s.heap h'->PX h' e C dx (rawInt L) T->Q () { s with heap:=h' }) :
  wpAny M A (do let a <-frameOf env;let pl <-entryPlaceOf L hadNext;let b <-EntryCells.newEntry head a .none (rawInt L) .none pl;setField (.ref e) 1 b) Q Ex s:=by
 have hene:e∉frs (env::outer):=λhm=>by
  obtain⟨_,o,ho,hnf⟩:=hl.mem hm;rw[he] at ho;cases ho;exact hnf vs rfl
 refine zb (wpAny_frameOf_fun hfr hl hf λh1 hs1=>?_);refine zb (wpAny_entryPlaceOf λpl hpl=>?_);unfold EntryCells.newEntry newFields;refine zb (ZZ ?_ (hpl.sizeOk5 _ _ _ _ _));have he1:h1.get? e=some ⟨C,dx,.fields vs,sl⟩:=(hs1.2.1 e hene).trans he;have he2:=zd (h:=h1) { cls:=.type "traceback", dict:=none,data:=.fields ([head,.ref L,.none,rawInt L,.none]++(if pl.isEmpty then List.replicate 6 Value.none else pl)).toArray } he1;refine wpAny_setField he2 rfl hsz (h _ h1.objs.size (by rw[hs1.1];exact zg _) ?_ ?_)
 ·have kp:∀ b o,b≠e->h1.get? b=some o->_:=λb o hb hq=>(Qr _ (Obj.mapFields (·.setIfInBounds 1 (Value.ref h1.objs.size))) (js hb)).trans (zd
   { cls:=.type "traceback", dict:=none,data:=.fields ([head,.ref L,.none,rawInt L,.none]++(if pl.isEmpty then List.replicate 6 Value.none else pl)).toArray } hq)
  refine⟨λb o q n m=>kp b o (λz=>n (by simp[z])) ((hs1.2.1 b m).trans q),λb o q n=>?_⟩;obtain⟨sl',q'⟩:=hs1.2.2 b o q;exact⟨sl',kp b _ (λz=>n (by simp[z])) q'⟩
 ·have hTe:h1.objs.size≠e:=Jn (zv he1);have he3:=qB (Obj.mapFields (·.setIfInBounds 1 (Value.ref h1.objs.size))) he2 (KB (JO rfl _));have hT3:=(Qr (h1.push { cls:=.type "traceback", dict:=none,data:=.fields ([head,.ref L,.none,rawInt L,.none]++(if pl.isEmpty then List.replicate 6 Value.none else pl)).toArray })
   (Obj.mapFields (·.setIfInBounds 1 (Value.ref h1.objs.size))) (js hTe)).trans (zt h1 rfl)
  refine⟨_,_,_,_,he3,by simp[hsz],hTe,hT3,rfl,?_,?_⟩
  ·first|(simp;done)|(rcases hpl with rfl|⟨_,_,_,_,_,_,_,rfl⟩<;>simp)
  ·rw[Array.getElem?_setIfInBounds_ne (by decide)];exact h2
theorem X8 (hfr:A.frames=some (env::outer)) (hl:s.heap.FunFrames base (env::outer)) (hf:env.frame=some L) (hx:ExR s.heap e C dx)
  (h:∀ h' T,s.heap.objs.size<=T->Jb (frs (env::outer)) [e] s.heap h'->PX h' e C dx (rawInt L) T->Q () { s with heap:=h' }):wpAny M A (noteFrame (.ref e) env) Q Ex s:=by
 obtain⟨vs,sl,he,h1,h2⟩:=hx;unfold noteFrame;simp only[hf];refine zb (Q1 he rfl h1 ?_);rw[zw (by decide)];exact GP hfr hl hf he (Array.getElem?_eq_some_iff.mp h1).1 h2 h
theorem Uo (hf:env.frame=some L) (hx:PX s.heap e C dx (rawInt L) T) (h:Q () s):wpAny M A (noteFrame (.ref e) env) Q Ex s:=by
 obtain⟨vs,sl,oT,ts,he,h1,hTe,hT,hd,h3,h2⟩:=hx;unfold noteFrame;simp only[hf];refine zb (Q1 he rfl h1 ?_);rw[zl (show(Value.ref T != Value.none)=true from by simp)];refine zb (Q1 hT hd h3 ?_);rw[zl (show(rawInt L==rawInt L)=true from by simp)];exact ze h
theorem RT {fl':Value} (hx:PX s.heap e C dx fl T):∀ h',h'=s.heap.update T (Obj.mapFields (·.setIfInBounds 3 fl'))->Jb [] [T] s.heap h'/\PX h' e C dx fl' T:=by
 obtain⟨vs,sl,oT,ts,he,h1,hTe,hT,hd,h3,h2⟩:=hx;have hsz:3 < ts.size:=(Array.getElem?_eq_some_iff.mp h3).1;intro h' eh;subst eh;have oth:∀ b,b≠T->(s.heap.update T (Obj.mapFields (·.setIfInBounds 3 fl'))).get? b=s.heap.get? b:=λb hb=>Qr _ _ (js hb);refine⟨⟨λb o q n _=>(oth b λz=>n (by simp[z])).trans q,λb o q n=>⟨o.slots,(oth b λz=>n (by simp[z])).trans q⟩⟩,vs,sl,_,_,(oth e (js hTe)).trans he,h1,hTe,
  qB _ hT (KB (JO hd _)),JO hd _,by simp[hsz],h2⟩
theorem qy (fr:Option Addr) (hx:PX s.heap e C dx fl T) (h:∀ h',Jb [] [T] s.heap h'->PX h' e C dx (fr.elim .none λf=>rawInt f) T->Q () { s with heap:=h' }):wpAny M A (setFlight (.ref e) fr) Q Ex s:=by
 obtain⟨x1,x2⟩:=RT (fl':=fr.elim .none λf=>rawInt f) hx _ rfl;obtain⟨vs,sl,oT,ts,he,h1,hTe,hT,hd,h3,h2⟩:=hx;unfold setFlight;refine zb (Q1 he rfl h1 ?_);rw[zl (show(Value.ref T != Value.none)=true from by simp)];exact wpAny_setField hT hd (Array.getElem?_eq_some_iff.mp h3).1 (h _ x1 x2)
theorem RV (hfr:A.frames=some (env::outer)) (hl:s.heap.FunFrames base (env::outer)) (hf:env.frame=some L) (hx:PX s.heap e C dx .none T)
  (h:∀ h' T',s.heap.objs.size<=T'->Jb (frs (env::outer)) [T,e] s.heap h'->PX h' e C dx (rawInt L) T'->Q () { s with heap:=h' }):wpAny M A (noteFrame (.ref e) env) Q Ex s:=by
 obtain⟨x1,x2⟩:=RT (fl':=.none) hx _ rfl;obtain⟨vs,sl,oT,ts,he,h1,hTe,hT,hd,h3,h2⟩:=hx;unfold noteFrame;simp only[hf];refine zb (Q1 he rfl h1 ?_);rw[zl (show(Value.ref T != Value.none)=true from by simp)];refine zb (Q1 hT hd h3 ?_);rw[zw (show ¬ ((Value.none==rawInt L)=true) from by simp[rawInt])];refine zb (wpAny_setField hT hd (Array.getElem?_eq_some_iff.mp h3).1 ?_);have x1':Jb (frs (env::outer)) [T] _ _:=x1.mono (λ_ z=>z) (λ_ z=>nomatch z);refine GP (base:=base) hfr (x1.rO (λb z o q=>by
  obtain rfl:b=T:=by simpa using z
  rw[hT] at q;cases q;exact⟨_,hd⟩) hl) hf ((x1.keep e _ he (by simpa using js hTe) (by simp))) (Array.getElem?_eq_some_iff.mp h1).1 h2 λh' T' z c x=>?_
 exact h h' T' (by have:=Heap.size_after_update s.heap T (Obj.mapFields (·.setIfInBounds 3 Value.none));exact this▸z) (x1'.trans c) x
end
structure wJ (X:Cx) (H:Hp) (b:Addr):Prop where
 un:H b=none
 ab:X.s₀.heap.objs.size<=b
 nl:b≠X.env.locals
 nc:∀ x c,X.env.cells.lookup x=some c->c≠b
section
variable {X:Cx} {σ:L2.St} {H H':Hp} {s:Shared} {h':Heap} {ch:List Addr}
theorem wJ.new (I:Inv X [] σ H s) {b:Addr} (h:s.heap.objs.size<=b):wJ X H b:=
 ⟨I.hok.fresh h,Zs I.sz h,λz=>by have:=I.lt;rw[<-z] at this;exact absurd this (Nat.not_lt.mpr h),λx c e z=>by
  obtain⟨v,q⟩:=I.cell x c e;have:c < s.heap.objs.size:=by
   obtain⟨o,q⟩:∃ o,s.heap.get? c=some o:=by
    first|(obtain⟨o,q,_⟩:=q;exact⟨o,q⟩)|exact⟨_,q⟩
   exact zv q
  rw[z] at this;exact absurd this (Nat.not_lt.mpr h)⟩
theorem Af {t':Nat} (hpn:X.pn=[]) (I:Inv X [] σ H s) (c:Jb (frs X.stack) ch s.heap h') (hm:∀ b∈ch,wJ X H b):Inv X [] σ H { s with heap:=h',toks:=t' }:=by
 refine I.step (g':=s.gens) (d':=s.drawn) (ch:=ch) (λb hb=>⟨.inr (hm b hb).ab,(hm b hb).nl,(hm b hb).nc,λp hp=>by rw[hpn] at hp;cases hp⟩)
  (λb o hL hb hc e n=>c.keep b o e hc λz=>(List.mem_cons.mp (I.Ak b z)).elim hL hb) (λb o _ _ hc e n=>c.slot b o e hc) (λ_ _ _ _ n=>n)
  (λb o hc e=>let ⟨_,q⟩:=c.slot b o e hc;⟨_,q⟩) (λ_ _ e=>e) (λ_ _ _ e=>e) (λb ps e=>⟨#[],by rw[e];simp⟩) (λm hm'=>?_) (λb u e=>?_) I.bare
 ·obtain⟨o,es,ep,ho,r⟩:=hm';obtain⟨sl,q⟩:=c.slot _ o ho λz=>(hm _ z).nl rfl;exact⟨_,es,ep,q,r⟩
 ·have ne:∀ (d:Addr) (w:HO),H d=some w->d∉ch/\d∉frs X.stack:=λd w q=>⟨λz=>(by rw[(hm d z).un] at q;cases q),λz=>(by rw[I.zJ d z] at q;cases q)⟩;refine(I.hok b u e).stay (λd v hd q=>?_) (λ_ q=>q) λ_ _ q=>q;rcases hd with z|z
  ·subst z;exact c.keep _ _ q (ne _ _ e).1 (ne _ _ e).2
  ·exact c.keep _ _ q (ne _ _ z).1 (ne _ _ z).2
def RX (X:Cx) (E:XK) (e:Value) (s:Shared):Prop:=
 ∃ a C dx σ H,e=.ref a/\Inv X [] σ H s/\wJ X H a/\(ExR s.heap a C dx\/∃ T,wJ X H T/\(PX s.heap a C dx (rawInt X.env.locals) T\/PX s.heap a C dx .none T))/\E C dx H
def Nk (P:Program) (w:World):S5:=λouter H s E e s'=>
 ∃ a C dx H' T,e=.ref a/\s'.os=s.os/\AllBare s'.gens/\Un (frs outer) [] H H' s.heap s'.heap/\rN P w H' s'.heap/\s.heap.objs.size<=a/\s.heap.objs.size<=T/\H' a=none/\H' T=none ∧
  PX s'.heap a C dx .none T/\E C dx H'
theorem aeg {fs:List Addr} {h h1 h2:Heap} (u:Un fs [] H H' h h1) (c:Jb fs ch h1 h2) (hc:∀ b∈ch,h.get? b=none):Un fs [] H H' h h2:=by
 have nc:∀ b o,h.get? b=some o->b∉ch:=λb o e z=>by rw[hc b z] at e;cases e
 refine⟨λb o e n f x=>c.keep b o (u.keep b o e n f x) (nc b o e) f,λb o e n f x=>?_,u.free,λb o e x=>?_,u.tups,u.rB,u.uR⟩
 ·obtain⟨sl,q⟩:=u.slot b o e n f x;obtain⟨sl',q'⟩:=c.slot b _ q (nc b o e);exact⟨sl',q'⟩
 ·obtain⟨o',q⟩:=u.there b o e x;obtain⟨sl,q'⟩:=c.slot b _ q (nc b o e);exact⟨_,q'⟩
theorem RW {E:XK} {Ex:VP_} {Q:Unit->Shared->Prop} {a:Addr} {C:Value} {dx:Option Addr} (hpn:X.pn=[]) (hst:X.stack=X.env::X.outer) (hf:X.env.frame=some X.env.locals) (I:Inv X [] σ H s) (ma:wJ X H a)
  (hx:ExR s.heap a C dx\/∃ T,wJ X H T/\(PX s.heap a C dx (rawInt X.env.locals) T\/PX s.heap a C dx .none T))
  (h:∀ h' T,Inv X [] σ H { s with heap:=h' }->wJ X H T->PX h' a C dx (rawInt X.env.locals) T->Q () { s with heap:=h' }):wpAny (model X.prog X.w) X.A (noteFrame (.ref a) X.env) Q Ex s:=by
 rcases hx with x|⟨T,mT,x|x⟩
 ·have fr:=I.stack;rw[hst] at fr;refine X8 (base:=X.base) (hst▸I.ok.frames) fr hf x λh' T z c x'=>?_;rw[<-hst] at c;have mT:wJ X H T:=wJ.new I z;exact h h' T (Af (t':=s.toks) hpn I c (λb hb=>(List.mem_singleton.mp hb)▸ma)) mT x'
 ·exact Uo hf x (h s.heap T I mT x)
 ·have fr:=I.stack;rw[hst] at fr;refine RV (base:=X.base) (hst▸I.ok.frames) fr hf x λh' T' z c x'=>?_;rw[<-hst] at c;exact h h' T' (Af (t':=s.toks) hpn I c (λb hb=>by
   rcases List.mem_cons.mp hb with rfl|hb
   ·exact mT
   ·exact(List.mem_singleton.mp hb)▸ma)) (wJ.new I z) x'
theorem Uq {E:XK} (hpn:X.pn=[]) (hst:X.stack=X.env::X.outer) (hf:X.env.frame=some X.env.locals):PassesOwn (model X.prog X.w) X.A X.env (RX X E):=by
 intro e s' h;obtain⟨a,C,dx,σ,H,rfl,I,ma,hx,he⟩:=h;refine RW (E:=E) hpn hst hf I ma hx λh' T I' mT x=>?_;show wpAny _ _ _ _ _ _;obtain⟨vs,sl,oT,ts,h1,h2,h3,h4,h5,h6⟩:=id x;refine zb (Q1 h1 rfl h2 ?_);rw[zw (by simp)];rw[hf];refine qy (s:={ s' with heap:=h' }) (some X.env.locals) x λh'' c x'=>?_;exact⟨a,C,dx,σ,H,rfl,Af (s:={ s' with heap:=h' }) (t':=s'.toks) hpn I' (c.mono (λ_ z=>z) λ_ z=>nomatch z) (λb hb=>(List.mem_singleton.mp hb)▸mT),ma,.inr ⟨T,mT,.inl x'⟩,he⟩
theorem Yb {E:XK} {Ex:VP_} {e:Value} (hpn:X.pn=[]) (hst:X.stack=X.env::X.outer) (hf:X.env.frame=some X.env.locals) (hex:X.ex=[]) (h:RX X E e s) :
  wpAny (model X.prog X.w) X.A (leaving X.env e) (λ_ s''=>Nk X.prog X.w X.outer X.H₀ X.s₀ E e s'') Ex s:=by
 obtain⟨a,C,dx,σ,H,rfl,I,ma,hx,he⟩:=h;unfold leaving;refine zb (RW (E:=E) hpn hst hf I ma hx λh' T I' mT x=>?_);refine qy (s:={ s with heap:=h' }) none x λh'' c x'=>?_;have J:=Af (s:={ s with heap:=h' }) (t':=s.toks) hpn I' (c.mono (λ_ z=>z) λ_ z=>nomatch z) (λb hb=>(List.mem_singleton.mp hb)▸mT);have u:=J.base;rw[hex] at u;exact⟨a,C,dx,H,T,rfl,J.os,J.bare,u,J.hok,ma.ab,mT.ab,ma.un,mT.un,x',he⟩
end
def Yc (K:FG_) (C fI:Addr) (bmB:List Value) (newId:String):Bool:=match K.lookup C with
 |some ⟨.type "type", _,.cls cd,sl⟩=>(match cd.mro,sl.toList with
  |.ref C'::bm,[_,_,_,_,some (.builtin n),_]=>C'==C&&(n==newId&&(!cd.hasDel&&(PySem.W.tailIn K bmB bm&&(findIn K (.ref C) "__init__" == some (some (.ref fI))&&isFn K (.ref fI)))))
  |_,_=>false)
 |_=>false
def XCl (h:Heap) (C:Addr) (bmB:List Value) (newId:String):Prop:=∃ nm q N bs bm hdct sn sub ab col dd k0 k1 k2 k3 k5,h.get? C=some (excClassObj nm q C N bs bm hdct sn sub ab col dd k0 k1 k2 k3 k5 newId)/\OwnTail h bmB bm
theorem Jc {K:FG_} {h:Heap} {C fI:Addr} {bmB:List Value} {newId:String} (X:K.In h) (q:Yc K C fI bmB newId=true):XCl h C bmB newId/\findIn K (.ref C) "__init__" = some (some (.ref fI))/\isFn K (.ref fI)=true:=by
 unfold Yc at q;split at q
 ·rename_i dd cd sl ho;split at q
  ·rename_i C' bm k0 k1 k2 k3 n k5 hm hs;simp only[Zz,beq_iff_eq,qv] at q;obtain⟨rfl,rfl,hdel,ht,hi,hf⟩:=q;obtain⟨nm,bs,mro,ns,qn,hd,sn,sub,ab,col,del⟩:=cd;dsimp only at hm hdel;subst hm hdel;have hsl:sl=#[k0,k1,k2,k3,some (.builtin n),k5]:=by
    obtain⟨l⟩:=sl;simp only at hs;rw[hs]
   subst hsl;exact⟨⟨nm,qn,ns,bs,bm,hd,sn,sub,ab,col,dd,k0,k1,k2,k3,k5,X _ _ ho,PySem.W.tail_of_in X ht⟩,hi,hf⟩
  ·cases q
 ·cases q
section
variable {prog:Program} {w:World} {A:Around} {E:VP_} {h:Heap} {g:Array GenState} {d:Drawn} {t:Nat} {os:OsState} {C fI e:Addr} {rest bmB:List Value} {K:FG_} {B newId initId:String}
abbrev RZ (C t:Addr):Obj:={ cls:=.ref C,data:=.fields #[.ref t,.none,.none,.none,.bool false,.none] }
theorem abb {Q:Fin->Shared->Prop} (F:ExcBaseFacts B newId initId bmB) (X:K.In h) (hx:Yc K C fI bmB newId=true) (hr:rest.length<=sizeLine)
  (hq:∀ h',(∀ b o,h.get? b=some o->h'.get? b=some o)->h'.get? (h.objs.size+1)=some (RZ C h.objs.size) →
   wpAny (model prog w) A (call (.ref fI) (.ref (h.objs.size+1)::rest)) (λr s'=>r=.none/\Q (.done (.ret (.ref (h.objs.size+1)))) s') E ⟨h',g,d,t,os⟩) :
  wpAny (model prog w) A (Builtin.«type.__call__» ⟨.ref C::rest,[]⟩) Q E ⟨h,g,d,t,os⟩:=by
 obtain⟨x,hi,hf⟩:=Jc X hx;obtain⟨nm,q,N,bs,bm,hdct,sn,sub,ab,col,dd,k0,k1,k2,k3,k5,hC,T⟩:=x
 repeat (first|with_reducible refine Kj hC ?_|with_reducible refine wpAny_madeBy_exc hC ?_|wp_step)
 refine codeAny_call_builtin_code (Code.quiet_builtin _ F.quiet) (wpAny_check_new_subT F T hC ?_);refine codeAny_exc_new_subT F T hC ?_ hr;show wpAny _ _ _ _ _ _;have kp:∀ b o,h.get? b=some o->((h.push { cls:=.type "tuple", data:=.seq rest.toArray }).push (RZ C h.objs.size)).get? b=some o:=λb o z=>zd _ (zd _ z);have hget:((h.push { cls:=.type "tuple", data:=.seq rest.toArray }).push (RZ C h.objs.size)).get? (h.objs.size+1)=some (RZ C h.objs.size):=by heap_get
 have hcC:(Value.ref C::bm).contains (.ref C)=true:=by simp
 unfold isInstance
 repeat (first|with_reducible refine Kj hget ?_|(with_reducible refine wpAny_isSubtype_exc (kp _ _ hC) ?_;rw[hcC])|wp_step)
 show wpAny _ _ (typeLookup (.ref C) _) _ _ _;refine(looks_findIn (X.keeps kp) hi).at ?_;refine qi (zb ?_);unfold bindSpecial;obtain⟨oI,hfI,hfc⟩:∃ oI,h.get? fI=some oI/\oI.cls=.type "function" := by
  have this:(K.lookup fI).map (·.cls)=some (.type "function"):=beq_iff_eq.mp hf;obtain⟨o,ho,hc⟩:=Option.map_eq_some_iff.mp this;exact⟨o,X _ _ ho,hc⟩
 refine zb (QE (T := "function") ⟨_,kp _ _ hfI,hfc⟩ ?_);rw[zl (by decide)];refine ze (zb (ZN (hq _ kp hget) (λr s' hr=>?_) λ_ _ x=>x));obtain⟨rfl,hQ⟩:=hr
 wp_walk
 exact hQ
end
abbrev Vi (C t:Addr) (dx:Option Addr):Obj:={ cls:=.ref C,dict:=dx,data:=.fields #[.ref t,.none,.none,.none,.bool false,.none] }
section
variable {prog:Program} {w:World} {A:Around} {E:VP_} {h:Heap} {g:Array GenState} {d:Drawn} {t:Nat} {os:OsState} {C fI e:Addr} {rest bmB:List Value} {K:FG_} {B newId initId:String}
theorem aeh {Q:VP_} (F:ExcBaseFacts B newId initId bmB) (X:K.In h) (hx:Yc K C fI bmB newId=true) (hr:rest.length<=sizeLine)
  (hq:∀ h',(∀ b o,h.get? b=some o->h'.get? b=some o)->h'.get? (h.objs.size+1)=some (Vi C h.objs.size none) →
   wpAny (model prog w) (A.under (.builtin "type.__call__" ⟨.ref C::rest,[]⟩)) (call (.ref fI) (.ref (h.objs.size+1)::rest)) (λr s'=>r=.none/\Q (.ref (h.objs.size+1)) s') E ⟨h',g,d,t,os⟩) :
  wpAny (model prog w) A (call (.ref C) rest) Q E ⟨h,g,d,t,os⟩:=by
 obtain⟨nm,q,N,bs,bm,hdct,sn,sub,ab,col,dd,k0,k1,k2,k3,k5,hC,T⟩:=(Jc X hx).1;have f1:=tc_lookup;have f2:=tc_bind (.ref C);have hT:(⟨h,g,d,t,os⟩:Shared).TypeIs (.ref C) "type" := ⟨_,hC,rfl⟩;refine k4 (codeAny_of_tree ?_);show wpAny _ _ (callAny (.ref C) _) _ _ _
 repeat (any_goals (first|assumption|with_reducible refine Kj hC ?_|wp_step))
 refine⟨rfl,?_⟩;exact codeAny_call_builtin_at (Code.quiet_builtin _ (by decide +kernel)) entry_typeCall (wpAny_check_type_call_sub hC (abb F X hx hr λh' k he=>hq h' k he))
theorem abd {M:Model} {s:Shared} {env:Env} {x:Sem Value} {Q:Flow->Shared->Prop} (hbase:bmB.contains (.type "BaseException")=true) (hh:A.handled=none)
  (hq:wpAny M A x (λv s1=>∃ e t dx,v=.ref e/\XCl s1.heap C bmB newId/\s1.heap.get? e=some (Vi C t dx)/\E (.ref e) s1) E s):wpAny M A (raiseStmt env (some x) none) Q E s:=by
 unfold raiseStmt;refine zb (ZN hq (λv s1 h1=>?_) λ_ _ z=>z);obtain⟨e,t,dx,rfl,⟨nm,q,N,bs,bm,hdct,sn,sub,ab,col,dd,k0,k1,k2,k3,k5,hC,T⟩,he,hE⟩:=h1;obtain⟨hp,g,d,tk,os⟩:=s1;dsimp only at hC he;have hcB:(Value.ref C::bm).contains (.type "BaseException")=true:=by rw[List.contains_cons,T.hasType hbase,Bool.or_true]
 repeat (first|with_reducible refine Kj he ?_|with_reducible refine Kj hC ?_|(with_reducible refine wpAny_isSubtype_exc hC ?_;rw[hcB])|wp_step)
 exact wpAny_raiseNew_none hh hE
theorem aei {Q:VP_} {t0:Addr} {dx:Option Addr} (F:ExcBaseFacts B newId initId bmB) (x:XCl h C bmB newId) (he:h.get? e=some (Vi C t0 dx)) (hr:rest.length<=sizeLine)
  (hq:∀ h' t1,(∀ b o,b≠e->h.get? b=some o->h'.get? b=some o)->h'.get? e=some (Vi C t1 dx)->h.objs.size<=t1->h'.objs.size=h.objs.size+1->Q .none ⟨h',g,d,t,os⟩) :
  wpAny (model prog w) A (call (.builtin initId) (.ref e::rest)) Q E ⟨h,g,d,t,os⟩:=by
 obtain⟨nm,q,N,bs,bm,hdct,sn,sub,ab,col,dd,k0,k1,k2,k3,k5,hC,T⟩:=x;refine k4 (KL F.init.plain F.initEntry (wpAny_check_init_subT F T hC he rfl ?_))
 wp_walk
 refine hq _ h.objs.size (λb o hb z=>?_) ?_ (zg _) ?_
 ·rw[Qr _ _ (js hb)];exact zd _ z
 ·rw[qB _ (zd _ he) rfl];rfl
 ·rw[Heap.size_after_update,qh]
end
abbrev veM:List Value:=[.type "ValueError", .type "Exception", .type "BaseException", .type "object"]
theorem abe (self:Value):refuseLoop self "__setattr__" veM=pure ():=by kernel_rfl
def qz:List Value->Bool
 |.ref _::r=>qz r
 |l=>l==veM
theorem CQ (self:Value):∀ {l:List Value},qz l=true->refuseLoop self "__setattr__" l=pure ()/\l.contains (.type "object")=true/\l.isEmpty=false
 |.ref c::r,e=>by
  have e':qz r=true:=by unfold qz at e;exact e
  obtain⟨a,b,_⟩:=CQ self (l:=r) e';exact⟨by rw[refuseLoop_ref];exact a,by rw[List.contains_cons,b,Bool.or_true],rfl⟩
 |[],e=>by cases e
 |.none::r,e=>by cases e
 |.bool _::r,e=>by cases e
 |.int _ _::r,e=>by cases e
 |.str _ _::r,e=>by cases e
 |.bytes _ _::r,e=>by cases e
 |.float _ _::r,e=>by cases e
 |.builtin _::r,e=>by cases e
 |.type n::r,e=>by
  have e':(.type n::r)=veM:=by unfold qz at e;exact beq_iff_eq.mp e
  rw[e'];exact⟨abe self,by decide,rfl⟩
def setIn (K:FG_) (C:Addr) (name:Str):Bool:=
 (clsIn K C).any (λcd=>cd.hasDict&&qz cd.mro)&&(findIn K (.ref C) "__setattr__" == some (some (.builtin "object.__setattr__"))&&findIn K (.ref C) name==some none)
section
variable {prog:Program} {w:World} {A:Around} {E:VP_} {h:Heap} {g:Array GenState} {d:Drawn} {t:Nat} {os:OsState} {C e:Addr} {K:FG_} {name:Str}
theorem agc {Q:Unit->Shared->Prop} {t0:Addr} {v:Value} (X:K.In h) (hs:setIn K C name=true) (he:h.get? e=some (Vi C t0 none))
  (hq:∀ h' tk,(∀ b o,b≠e->h.get? b=some o->h'.get? b=some o)->h'.get? e=some (Vi C t0 (some h.objs.size))->h'.Ns1 h.objs.size (λy=>if y=name then some v else none)->Q () ⟨h',g,d,tk,os⟩) :
  wpAny (model prog w) A (setAttr (.ref e) name v) Q E ⟨h,g,d,t,os⟩:=by
 unfold setIn at hs;rw[Zz,Zz,beq_iff_eq,beq_iff_eq] at hs;obtain⟨h1,h2,h3⟩:=hs;obtain⟨cd,hc,hb⟩:∃ cd,clsIn K C=some cd/\(cd.hasDict&&qz cd.mro)=true:=by
  cases q:clsIn K C with
  |none=>rw[q] at h1;cases h1
  |some cd=>rw[q] at h1;exact⟨cd,rfl,h1⟩
 rw[Zz] at hb;obtain⟨hd,hb⟩:=hb;obtain⟨p1,p2,p3⟩:=CQ (.ref e) hb;have I:PySem.W.InstAt h e (Vi C t0 none) C none:=⟨he,rfl,rfl,trivial⟩;refine PySem.W.set_plain (s:=⟨h,g,d,t,os⟩) X I h2 ?_;have SF:=PySem.F.store_object;have sub:PySem.W.Looks (model prog w) h (isInstance (.ref e) (.type "object")) true:=I.type.andThen (looks_mroIn X (by unfold mroIn;rw[hc,ki,zw (by rw[p3];decide),p2]));refine KL SF.slot.plain SF.entry (@check_slot (model prog w) _ _ ⟨h,g,d,t+1,os⟩ "object.__setattr__" "object" "__setattr__" (.ref e) [.str name t,v] [] _ SF.kind SF.split sub (SF.args (.ref e) (.str name t) v) ?_);have hm:PySem.W.Looks (model prog w) h (mroOf (.ref C)) cd.mro:=(looks_clsIn X hc).andThen .now;rw[PySem.W.osa_eq,refuse_eq];refine zb (zb (I.type.at (zb (hm.at ?_))));rw[p1];refine ze (zb (I.type.at (zb ((looks_findIn X h3).at (zb (ze ?_))))));refine zb (ze (zb ?_));show wpAny _ _ (instanceDict e true) _ _ _;unfold instanceDict;refine zb (wpAny_loadPart he (zb ((looks_clsIn X hc).at ?_)));rw[hd];show wpAny _ _ (alloc { cls:=.type "dict", data:=.dict #[] } >>= λdx=>update e (λo=>{ o with dict:=some dx }) >>= λ_=>dictMade (.ref C) e dx) _ _ _;have hp:∀ b o,h.get? b=some o->(h.push { cls:=.type "dict", data:=.dict #[] }).get? b=some o:=λb o z=>zd _ z;have hne:h.objs.size≠e:=Jn (zv he);have hd1:((h.push { cls:=.type "dict", data:=.dict #[] }).update e (λo=>{ o with dict:=some h.objs.size })).get? h.objs.size=some { cls:=.type "dict", data:=.dict #[] }:=by
  rw[Qr _ _ (js hne)];exact zt _ rfl
 refine zb (wpAny_alloc (zb (wpAny_update (hp _ _ he) (ze ?_))));show wpAny _ _ (Builtin.ObjectAttr.storeInDict h.objs.size (.str name t) name v) _ _ _;unfold Builtin.ObjectAttr.storeInDict;refine zb (ze (zb ?_));have hn1:((h.push { cls:=.type "dict", data:=.dict #[] }).update e (λo=>{ o with dict:=some h.objs.size })).Ns1 h.objs.size (λ_=>none):=
  .of_empty ⟨_,#[],0,hd1,rfl,λx z=>by simp at z,λ_=>rfl⟩
 refine wpAny_nsSet1 hn1 λh' n1 sm=>?_;obtain⟨o,es,ep,ho,hd',hsz⟩:=n1.count (ns:=[name]) (Within.cons name v Within.nil);refine zb (wpAny_lookBehind ho (by rw[hd'];exact pastItsLine_dict (Zs hsz (Nat.le_add_left _ _))) (ze ?_));refine hq h' _ (λb o hb z=>?_) ?_ n1
 ·rw[sm.2 b (zC (zv z)),Qr _ _ (js hb)];exact hp _ _ z
 ·rw[sm.2 e (js hne),qB _ (hp _ _ he) rfl]
end
def sZ (K:FG_) (C:Addr):Bool:=
 (clsIn K C).any (λcd=>cd.hasDict&&(!cd.mro.isEmpty&&(cd.mro.contains (.type "BaseException")&&cd.mro.contains (.type "object"))))&&(findIn K (.ref C) "__getattribute__" == some (some (.builtin "BaseException.__getattribute__")) &&
  (findIn K (.ref C) "__getattr__" == some none&&(findIn K (.ref C) "__class__" == some (some (.builtin "object.__class__")) &&
  (specialIn K (.builtin "object.__class__") "__get__" == some (some (.builtin "getset_descriptor.__get__"))&&takesIn K (.builtin "object.__class__")==some true))))
section
variable {prog:Program} {w:World} {A:Around} {E:VP_} {h:Heap} {g:Array GenState} {d:Drawn} {t:Nat} {os:OsState} {C e dx:Addr} {K:FG_} {name:Str} {v:Value} {vs:Array Value} {sl:Array (Option Value)} {m:Str->Option Value}
theorem Ur {o:Obj} {es:Array DictEntry} {ep:Nat} (hd:o.data=.dict es ep) (hf:nsFind es name=some v):lookIn name o=some (some v):=by
 unfold lookIn;rw[hd];dsimp only;unfold nsFind findBy at hf;rw[<-Array.find?_toList] at hf;obtain⟨en,h1,h2⟩:=Option.map_eq_some_iff.mp hf;rw[h1];dsimp only;rw[h2]
structure abf (K:FG_) (C:Addr) (cd:ClassData):Prop where
 cls:clsIn K C=some cd
 dct:cd.hasDict=true
 ne:cd.mro.isEmpty=false
 be:cd.mro.contains (.type "BaseException")=true
 ob:cd.mro.contains (.type "object")=true
 ga:findIn K (.ref C) "__getattribute__" = some (some (.builtin "BaseException.__getattribute__"))
 hk:findIn K (.ref C) "__getattr__" = some none
 cl:findIn K (.ref C) "__class__" = some (some (.builtin "object.__class__"))
 gt:specialIn K (.builtin "object.__class__") "__get__" = some (some (.builtin "getset_descriptor.__get__"))
 tk:takesIn K (.builtin "object.__class__")=some true
theorem Ag (hs:sZ K C=true):∃ cd,abf K C cd:=by
 unfold sZ at hs;simp only[Zz,beq_iff_eq] at hs;obtain⟨h1,h2,h3,h4,h5,h6⟩:=hs;cases q:clsIn K C with
 |none=>rw[q] at h1;cases h1
 |some cd=>
  rw[q] at h1;have h1:(cd.hasDict&&(!cd.mro.isEmpty&&(cd.mro.contains (.type "BaseException")&&cd.mro.contains (.type "object"))))=true:=h1;simp only[Zz,qv] at h1;exact⟨cd,⟨q,h1.1,h1.2.1,h1.2.2.1,h1.2.2.2,h2,h3,h4,h5,h6⟩⟩
theorem abf.sub {cd:ClassData} (G:abf K C cd):mroIn K C (.type "object")=some true/\mroIn K C (.type "BaseException")=some true:=by
 unfold mroIn;rw[G.cls,ki,ki,zw (by rw[G.ne];decide),zw (by rw[G.ne];decide),G.ob,G.be];exact⟨rfl,rfl⟩
theorem Yd {cd:ClassData} {Q:VP_} {expr fill:Bool} {od:Obj} {tk:Tok} {fo:Builtin.ObjectAttr.Found} (X:K.In h) (G:abf K C cd) (I:PySem.W.InstAt h e ⟨.ref C,some dx,.fields vs,sl⟩ C (some od))
  (hfo:findObj K C (some od) name=some fo)
  (hq:wpAny (model prog w) A.in1 (match fo with|.value v=>ret v|.bind g a=>Builtin.ObjectAttr.bindTo g a (.ref e) (.ref C)|.missing=>unsupported "") (λfin s'=>match fin with|.done (.ret v)=>wpAny (model prog w) A (handedOut v) Q E s'|_=>False) (λ_ _=>False) ⟨h,g,d,t,os⟩)
  (hm:fo≠.missing):wpAny (model prog w) A (getAttrBy (.ref e) (.str name tk) fill expr) Q E ⟨h,g,d,t,os⟩:=by
 have hga:=looks_findIn (M:=model prog w) X G.ga;have hhk:PySem.W.Looks (model prog w) h (hookBefore (.ref C)) none:=PySem.W.looks_hook X (by rw[zl (by rfl)];exact G.hk);have sub:PySem.W.Looks (model prog w) h (isInstance (.ref e) (.type "BaseException")) true:=I.type.andThen (looks_mroIn X G.sub.2);unfold getAttrBy;refine qi (zb (I.type.at (zb (hga.at ?_))));have hx2:(Value.builtin "BaseException.__getattribute__" == Value.builtin "object.__getattribute__")=false:=by decide +kernel
 dsimp only;rw[zw (by rw[hx2,yf];decide)];unfold getAttrByItsOwn;refine zb (hhk.at (zb (yn (qi ?_))));unfold callGetattribute;rw[zw (by cases expr<;>simp[onTheHeap])];unfold boundAndCalled;have SF:=PySem.F.attrBase_ValueError.ga;rw[SF.bind];refine zb (ze ?_);refine k4 (KL SF.plain PySem.F.entry_bexc_ga (@check_slot (model prog w) _ _ ⟨h,g,d,t,os⟩ "BaseException.__getattribute__" "BaseException" "__getattribute__" (.ref e) [.str name tk] [] _ (by decide +kernel) (by decide +kernel) sub (PySem.F.args_bexc_ga (.ref e) (.str name tk)) ?_));have L1:=PySem.W.looks_find (M:=model prog w) X I hfo;refine zb (ze (zb (ze (zb (I.type.at (zb (L1.at ?_)))))));cases fo with
 |missing=>exact absurd rfl hm
 |value v=>
  refine ZN hq (λfin s' z=>?_) (λ_ _ z=>False.elim z);rcases fin with (_|_|_|_)|_<;>first|exact z|exact z.elim
 |bind g a=>
  refine ZN hq (λfin s' z=>?_) (λ_ _ z=>False.elim z);rcases fin with (_|_|_|_)|_<;>first|exact z|exact z.elim
theorem agd {Q:VP_} {expr:Bool} (X:K.In h) (hs:sZ K C=true) (hn:findIn K (.ref C) name=some none) (he:h.get? e=some ⟨.ref C,some dx,.fields vs,sl⟩) (hN:h.Ns1 dx m) (hm:m name=some v) (hv:handedIn v=true)
  (hq:Q v ⟨h,g,d,t+1,os⟩):wpAny (model prog w) A (getAttr (.ref e) name expr) Q E ⟨h,g,d,t,os⟩:=by
 obtain⟨cd,G⟩:=Ag hs;obtain⟨od,es,ep,ho,hod,hk,hu,hf⟩:=hN;have I:PySem.W.InstAt h e ⟨.ref C,some dx,.fields vs,sl⟩ C (some od):=⟨he,rfl,rfl,ho⟩;have hfo:findObj K C (some od) name=some (.value v):=by
  unfold findObj PySem.W.ownOf;rw[G.cls,hn];simp only[ki,G.dct,qq,Ur hod ((hf name).trans hm)]
 unfold getAttr;refine zb (wpAny_mkText (Yd X G I hfo (ze ?_) (by intro z;cases z)));show wpAny _ _ (handedOut v) _ _ _;rw[PySem.W.handedOut_of hv];exact ze hq
def ExI (e C:Addr) (h:Heap):Prop:=∃ dx vs sl od,h.get? e=some ⟨.ref C,some dx,.fields vs,sl⟩/\h.get? dx=some od
theorem agf (hs:sZ K C=true):PySem.W.KitX K (.ref e) (.ref C) (ExI e C) where
 ty:=λM h X ⟨dx,vs,sl,od,he,ho⟩=>PySem.W.InstAt.type (od:=some od) ⟨he,rfl,rfl,ho⟩
 it:=λM h X _=>by
  obtain⟨cd,G⟩:=Ag hs;have hcD:=G.cls;unfold clsIn at hcD;split at hcD
  ·rename_i c' d' cd' sl' ho;intro A' Q' E' s' k q;unfold isType loadHead;exact zb (wpAny_loadPart (k _ _ (X _ _ ho)) (ze q))
  ·cases hcD
 ne:=λh tp dd its n sl X htp=>by
  obtain⟨cd,G⟩:=Ag hs;have hcD:=G.cls;refine Bool.eq_false_iff.mpr λq=>?_;have e:C=tp:=Value.ref.inj (beq_iff_eq.mp q);subst e;unfold clsIn at hcD;split at hcD
  ·rename_i c' d' cd' sl' ho;have z:=(X _ _ ho).symm.trans htp;cases z
  ·cases hcD
 ca:=λ{prog w A E Q s} X p k=>by
  obtain⟨cd,G⟩:=Ag hs;obtain⟨dx,vs,sl,od,he,ho⟩:=p;obtain⟨h,g,d,t,os⟩:=s;have I:PySem.W.InstAt h e ⟨.ref C,some dx,.fields vs,sl⟩ C (some od):=⟨he,rfl,rfl,ho⟩;have hfo:findObj K C (some od) "__class__" = some (.bind (.builtin "getset_descriptor.__get__") (.builtin "object.__class__")):=PySem.W.findObj_data (by rw[G.cls];rfl) G.cl G.gt G.tk;unfold getAttr? getAttrBy?;refine zb (wpAny_mkText (zb (yn (Yd X G I hfo ?_ (by intro z;cases z)))));refine zb (qi (k4 (PySem.W.class_get (s:=⟨h,g,d,t+1,os⟩) (od:=some od) X I G.sub.1 (ze ?_))));exact PySem.W.handed_on rfl (ze k)
end
def GQ (e C:Addr) (dx:Option Addr):HO:=.ext λh=>∃ t,h.get? e=some (Vi C t dx)
theorem Qa {P:Program} {w:World} {H:Hp} {h:Heap} {e C t:Addr} {dx:Option Addr} (q:h.get? e=some (Vi C t dx)):eY P w H h e (GQ e C dx):=⟨⟨t,q⟩,⟨_,q⟩,λ_ _ ⟨t,p⟩ k=>⟨t,k _ p⟩⟩
section
variable {X:Cx} {pins:List (Addr×Obj)} {σ:L2.St} {H:Hp} {s:Shared} {C a:Addr} {o value:Expr} {ta tv:TE} {f:Str} {pos pos' p apos:Pos} {B newId initId:String} {bmB:List Value} {e:Expr} {es:List Expr} {t:TA} {x:Str}
theorem Qc {dx:Option Addr} (I:Inv X pins σ H s) (e:H a=some (GQ a C dx)):∃ t,s.heap.get? a=some (Vi C t dx):=(I.hok a _ e).1
theorem Inv.abg {h':Heap} {tk:Nat} {dx:Option Addr} (I:Inv X pins σ H s) (ea:H a=some (GQ a C dx)) (k:∀ b u,b≠a->s.heap.get? b=some u->h'.get? b=some u) {t1:Addr} (he:h'.get? a=some (Vi C t1 dx)) :
  Inv X pins σ H { s with heap:=h',toks:=tk }:=by
 have z:=I.write (t':=tk) (x:=a) (e:=a) (o:=GQ a C dx) (by rw[ea];trivial) (.inl rfl) k ⟨_,he⟩ (Qa he);have q:upd H a (GQ a C dx)=H:=by
  funext b;by_cases hb:b=a
  ·subst hb;rw[aQ,ea]
  ·rw[aG hb]
 rwa [q] at z
theorem Inv.attr {h':Heap} {tk:Nat} {v:V} {u:Value} (I:Inv X pins σ H s) (ea:H a=some (GQ a C none)) (rv:RelV v u) (k:∀ b o,b≠a->s.heap.get? b=some o->h'.get? b=some o) {t1:Addr}
  (he:h'.get? a=some (Vi C t1 (some s.heap.objs.size))) (n1:h'.Ns1 s.heap.objs.size (λy=>if y=f then some u else none)) :
  Inv X pins σ (upd (upd H s.heap.objs.size (.xd [(f,v)])) a (GQ a C (some s.heap.objs.size))) { s with heap:=h',toks:=tk }:=by
 have hf:H s.heap.objs.size=none:=I.hok.fresh (zg _);have hla:a < s.heap.objs.size:=I.hok.lt ea;have hne:s.heap.objs.size≠a:=Jn hla;have lt:∀ b u,s.heap.get? b=some u->b≠s.heap.objs.size:=λb u q=>zC (zv q);have gu:∀ b,b≠a->b≠s.heap.objs.size->upd (upd H s.heap.objs.size (.xd [(f,v)])) a (GQ a C (some s.heap.objs.size)) b=H b:=λb h1 h2=>by rw[aG h1,aG h2]
 have na:∀ b w,H b=some w->(∀ φ,w≠.ext φ)->b≠a:=λb w q h z=>by subst z;rw[ea] at q;cases q;exact h _ rfl
 have nd:∀ b w,H b=some w->b≠s.heap.objs.size:=λb w q z=>by rw[z,hf] at q;cases q
 refine I.un (t':=tk) ⟨λb u q n _ _=>k b u (λz=>by subst z;rw[ea] at n;cases n) q,λb u q n _ _=>⟨u.slots,k b u (λz=>by subst z;rw[ea] at n;cases n) q⟩,
  λb u q n _=>?_,λb u q _=>?_,λb xs q=>?_,λb u xs q=>?_,λb ps q=>⟨#[],?_⟩⟩ (λb w q=>?_)
 ·rw[gu b (λz=>by subst z;rw[ea] at n;cases n) (lt b u q)];exact n
 ·by_cases hb:b=a
  ·subst hb;exact⟨_,he⟩
  ·exact⟨u,k b u hb q⟩
 ·rw[gu b (na b _ q λ_ z=>nomatch z) (nd b _ q)];exact q
 ·rw[gu b (na b _ q λ_ z=>nomatch z) (nd b _ q)];exact q
 ·rw[gu b (na b _ q λ_ z=>nomatch z) (nd b _ q),q];simp
 ·by_cases hb:b=a
  ·subst hb;rw[aQ] at q;cases q;exact Qa he
  ·rw[aG hb] at q;by_cases hd:b=s.heap.objs.size
   ·subst hd;rw[aQ] at q;cases q;refine⟨_,n1,λy=>?_⟩;by_cases hy:y=f
    ·subst hy;rw[zl rfl];simp only[List.lookup,beq_self_eq_true];exact rv
    ·rw[zw hy];have:(y==f)=false:=beq_eq_false_iff_ne.mpr hy;simp only[List.lookup,this];trivial
   ·rw[aG hd] at q;refine(I.hok b w q).stay (λc u hc z=>k c u ?_ z) (λc z=>?_) λc xs z=>?_
    ·rcases hc with hc|hc
     ·rw[hc];exact hb
     ·exact na c _ hc λ_ z=>nomatch z
    ·rw[gu c (na c _ z λ_ z=>nomatch z) (nd c _ z)];exact z
    ·rw[gu c (na c _ z λ_ z=>nomatch z) (nd c _ z)];exact z
def sEx (C:Addr) (ta tv:TE) (f:Str):TS:=λD σ H=>tv σ H λy H1=>ta σ H1 λx H2=>∃ a,x=.ref a/\H2 a=some (GQ a C none)/\∀ dx,H2 dx=none->dx≠a->D.nx σ (upd (upd H2 dx (.xd [(f,y)])) a (GQ a C (some dx)))
theorem agg (hc:setIn X.K C f=true) (ha:PE X o ta) (hv:PE X value tv) (hs:swapsWith value (some (.Attribute o f pos')) pos.line X.env=pure false:=by rfl):PS X (.Assign [.Attribute o f pos'] value pos) (sEx C ta tv f):=by
 intro pins s σ H D I h;refine plainObj_wpAny_Assign_Attribute (gF (hv pins s σ H _ I h) λu s1 ⟨y,H1,I1,ry,q⟩=>gF (ha pins s1 σ H1 _ I1 q) λov s2 ⟨x,H2,I2,rx,a,ex,ea,q2⟩=>?_) hs;subst ex;obtain rfl:ov=Value.ref a:=rx;obtain⟨t0,ht⟩:=Qc I2 ea;have hf:H2 s2.heap.objs.size=none:=I2.hok.fresh (zg _);obtain⟨hh,g,d,tk,os⟩:=s2;refine agc I2.Aj hc ht λh' tk' k he n1=>?_;exact⟨σ,_,Inv.attr (tk:=tk') I2 ea ry k he n1,q2 _ hf (Jn (I2.hok.lt ea))⟩
def tBI (C:Addr) (t:TA):TE:=λσ H Q=>t σ H λvs H1=>∃ a v,vs=[.ref a,v]/\H1 a=some (GQ a C none)/\Q .non H1
def R0 (K:FG_) (FE:Addr) (initId:String):Prop:=
 specialIn K (.ref FE) "__getattribute__" = some (some (.builtin "type.__getattribute__"))/\PySem.W.readsIn K FE (.type "type")=true/\PySem.W.findCls K (.ref FE) (.type "type") "__init__" = some (.val (.builtin initId))
theorem Ye {pl:Sem Bool} {FE fI:Addr} (F:ExcBaseFacts B newId initId bmB) (hx:Yc X.K C fI bmB newId=true) (hg:Gl X x) (hm:X.mg x=some (.ref FE)) (hb:R0 X.K FE initId) (hh:handedIn (.builtin initId)=true) (ha:PA X (e::es) t)
  (hdb:(x==("__debug__" : Str))=false:=by decide) (he:starEach (e::es) X.env=(false,eval e X.env)::starEach es X.env:=by rfl) (hpl:(backTo pos (starEach es X.env)).any (·.1)=false:=by rfl)
  (ht:eval (.Call (.Attribute (.Name x p) "__init__" apos) (e::es) [] pos) X.env=(do
   let ov <-eval (.Name x p) X.env
   standAt apos.atName
   let (f,first) <-holding [ov] (getMethod ov "__init__" pl)
   callWith pos f first (backTo pos (starEach (e::es) X.env)) (backToKw pos (keywordEach [] X.env))):=by rfl) :
  PE X (.Call (.Attribute (.Name x p) "__init__" apos) (e::es) [] pos) (tBI C t):=by
 intro pins s σ H Q I h;refine PySem.W.methodCall_KW (pl:=pl) (tO I hg hm ?_ hdb) ht;refine PySem.W.method_cls I.Aj hb.1 (PySem.W.cls_value I.Aj hb.2.1 hb.2.2 hh ?_);refine PyProof.Rows.callWith_builtin1 (gF (ha pos pins _ σ H _ (I.tok (s.toks+1)) h) λus s1 ⟨vs,H1,I1,r1,a,v,ev,ea,q⟩=>?_) he hpl;subst ev;cases r1 with
 |cons ra r1=>
  cases r1 with
  |cons rv r1=>
   cases r1;obtain rfl:=ra;obtain⟨t0,h0⟩:=Qc I1 ea;have x1:=(Jc I1.Aj hx).1;obtain⟨hh',g,d,tk,os⟩:=s1;refine aei F x1 h0 (show 1<=sizeLine by decide +kernel) λh' t1 k he _ _=>?_;exact⟨.non,H1,Inv.abg (tk:=tk) I1 ea k he,rfl,q⟩
end
def ou (H:Hp) (a:Addr):Hp:=λb=>if b=a then none else H b
section
variable {X:Cx} {pins:List (Addr×Obj)} {σ:L2.St} {H:Hp} {s:Shared} {C a:Addr} {f:Str} {pos cpos p:Pos} {B newId initId:String} {bmB:List Value} {e:Expr} {x:Str} {te:TE}
theorem Inv.abh {φ:Heap->Prop} (I:Inv X pins σ H s) (ea:H a=some (.ext φ)):Inv X [] σ (ou H a) s:=by
 have dn:∀ b,H b=none->ou H a b=none:=λb q=>by unfold ou;split<;>first|rfl|exact q
 have ds:∀ b u,H b=some u->(∀ ψ,u≠.ext ψ)->ou H a b=some u:=λb u q n=>by
  unfold ou;rw[zw (λz=>by subst z;rw[ea] at q;cases q;exact n _ rfl)];exact q
 refine⟨I.ok,I.os,I.bare,⟨I.base.keep,I.base.slot,λb o e n x=>dn b (I.base.free b o e n x),I.base.there,λb xs q=>ds b _ (I.base.tups b xs q) (λ_ z=>nomatch z),λb o u q=>ds b _ (I.base.rB b o u q) (λ_ z=>nomatch z),λb ps q=>?_⟩,
  I.loc,I.cell,dn _ I.free,λy c q=>dn _ (I.gZ y c q),λp hp=>?_,λb u q=>?_,I.len⟩
 ·obtain⟨more,z⟩:=I.base.uR b ps q;exact⟨more,ds b _ z λ_ z=>nomatch z⟩
 ·obtain⟨z1,z2,z3⟩:=I.pin p (by rcases List.mem_append.mp hp with z|z;exact kL _ z;cases z);exact⟨z1,dn _ z2,z3⟩
 ·have hb:H b=some u:=by
   unfold ou at q;split at q
   ·cases q
   ·exact q
  exact(I.hok b u hb).stay (λ_ _ _ z=>z) (λc z=>ds c _ z λ_ z=>nomatch z) λc xs z=>ds c _ z λ_ z=>nomatch z
def spI (C:Addr) (f:Str) (ok:V->Prop):Sp:=λvs H Q _=>∃ a v,vs=[.ref a,v]/\ok v/\H a=some (GQ a C none)/\∀ H1 dx,Same H H1->H1 dx=none->dx≠a->Q .non (upd (upd H1 dx (.xd [(f,v)])) a (GQ a C (some dx)))
def tRz (C:Addr) (f:Str) (ok:V->Prop) (E:XK) (t:TA):TS:=λ_ σ H=>t σ H λvs H1=>∃ v,vs=[v]/\ok v/\∀ H2 dx,Same H1 H2->H2 dx=none->E (.ref C) (some dx) (upd H2 dx (.xd [(f,v)]))
theorem agi {k:Nat} {fI:Addr} {fd:FuncData} {ps:LS_} {E:XK} {es:List Expr} {t:TA} {ok:V->Prop} (Fe:ExcBaseFacts B newId initId bmB) (hx:Yc X.K C fI bmB newId=true) (hbase:bmB.contains (.type "BaseException")=true) (hk:keepIn X.K (.ref C)=true)
  (F:iV X.prog X.w X.K X.mg X.base vM k fI fd ps (spI C f ok)) (hb:Binds X.K fd ps []) (hr:fK (k+1) X.A) (hg:Gl X x) (hm:X.mg x=some (.ref C)) (Yg:∀ e s,RX X E e s->X.xe e s) (ha:PA X (e::es) t)
  (hdb:(x==("__debug__" : Str))=false:=by decide) (hs:starEach (e::es) X.env=(false,eval e X.env)::starEach es X.env:=by rfl) (hpl:(backTo cpos (starEach es X.env)).any (·.1)=false:=by rfl) :
  PS X (.Raise (some (.Call (.Name x p) (e::es) [] cpos)) none pos) (tRz C f ok E t):=by
 intro pins s σ H D I h;rw[arm_exec_Raise];refine zb (kR (abd (C:=C) (bmB:=bmB) (newId:=newId) hbase hr.hd (zb (ZN ?_ (λv s3 h3=>zb (kR (ze h3))) λ_ _ x=>x))));refine kz (tO I hg hm ?_ hdb);refine yi (h₀:=X.base) I.ok.mod.kin hk (gF (ha cpos pins s σ H _ I h) λus s1 ⟨vs,H1,I1,r,v,ev,hok,q⟩=>⟨I1.Aj,?_⟩) hs hpl;subst ev;have hl:us.length=1:=r.length.symm;have hf:H1 (s1.heap.objs.size+1)=none:=I1.hok.fresh (kr _);have mi:wJ X H1 (s1.heap.objs.size+1):=wJ.new (I1.zK (Vm:=[]) λ_ z=>nomatch z) (kr _);obtain⟨hh,g,d,tk,os⟩:=s1;refine aeh Fe I1.Aj hx (by rw[kB,hl];decide +kernel) λh' k' he=>?_;have I2:Inv X pins σ (upd H1 (hh.objs.size+1) (GQ (hh.objs.size+1) C none)) ⟨h',g,d,tk,os⟩:=I1.laid (t':=tk) k' (kr _) (Qa he);have r2:Vals [V.ref (hh.objs.size+1),v] (Value.ref (hh.objs.size+1)::us):=.cons rfl r;have hps:ps.length=2:=(F.len [V.ref (hh.objs.size+1),v] (upd H1 (hh.objs.size+1) (GQ (hh.objs.size+1) C none)) (λ_ _=>True) E0 ⟨_,_,rfl,hok,aQ,λ_ _ _ _ _=>trivial⟩).symm;rw[kB];refine k4 (kP (F.run _ X.stack _ _ ⟨Value.ref (hh.objs.size+1)::us,[]⟩ (Value.ref (hh.objs.size+1)::us) _ (λy H3=>y=.non/\∃ H4 dx,Same (upd H1 (hh.objs.size+1) (GQ (hh.objs.size+1) C none)) H4/\H4 dx=none/\dx≠hh.objs.size+1/\H3=upd (upd H4 dx (.xd [(f,v)])) (hh.objs.size+1) (GQ (hh.objs.size+1) C (some dx))) E0 (hr.make C us [])
  (I2.env0.make C us []) (by have:=hb ⟨h',g,d,tk,os⟩ (Value.ref (hh.objs.size+1)::us) I2.Aj (by rw[QA,qS,hl,hps]);rwa [QA] at this) r2
  ⟨_,_,rfl,hok,aQ,λH4 dx s4 hd hne=>⟨rfl,H4,dx,s4,hd,hne,rfl⟩⟩) λr s' hq'=>?_)
 cases r with
 |error e=>exact False.elim hq'
 |ok fl=>
  cases fl with
  |next=>exact False.elim hq'
  |brk=>exact False.elim hq'
  |cont=>exact False.elim hq'
  |ret u=>
   obtain⟨y,H3,I3,ry,ey,H4,dx,s4,hd,hne,eH⟩:=I2.after hq';subst ey eH;obtain rfl:u=Value.none:=ry;refine⟨rfl,hh.objs.size+1,?_⟩;have ea:(upd (upd H4 dx (.xd [(f,v)])) (hh.objs.size+1) (GQ (hh.objs.size+1) C (some dx))) (hh.objs.size+1)=some (GQ (hh.objs.size+1) C (some dx)):=aQ;obtain⟨t1,h1⟩:=Qc I3 ea;have eH:ou (upd (upd H4 dx (.xd [(f,v)])) (hh.objs.size+1) (GQ (hh.objs.size+1) C (some dx))) (hh.objs.size+1)=upd (ou H4 (hh.objs.size+1)) dx (.xd [(f,v)]):=by
    funext b;unfold ou;by_cases hb:b=hh.objs.size+1
    ·rw[zl hb,hb,aG (js hne),zl rfl]
    ·rw[zw hb,aG hb];by_cases hb':b=dx
     ·rw[hb',aQ,aQ]
     ·rw[aG hb',aG hb',zw hb]
   have J:=Inv.abh I3 ea;rw[eH] at J;have sm:Same H1 (ou H4 (hh.objs.size+1)):=λb o eb=>by
    have hb:b≠hh.objs.size+1:=λz=>by rw[z,hf] at eb;cases eb
    unfold ou;rw[zw hb];exact s4 b o (by rw[aG hb];exact eb)
   have hd':ou H4 (hh.objs.size+1) dx=none:=by unfold ou;rw[zw hne];exact hd
   refine⟨t1,some dx,rfl,(Jc I3.Aj hx).1,h1,Yg _ _ ⟨hh.objs.size+1,.ref C,some dx,σ,_,rfl,J,⟨by rw[aG (js hne)];unfold ou;rw[zl rfl],mi.ab,mi.nl,mi.nc⟩,.inl ⟨_,_,h1,⟨rfl,rfl⟩⟩,q _ _ sm hd'⟩⟩
end
theorem Mg {name x:Str} (hx:x≠name):∀ (l:List DictEntry) (i:Nat),l.findIdx? (λe=>e.key.isStr name)=some i->(l.eraseIdx i).find? (λe=>e.key.isStr x)=l.find? (λe=>e.key.isStr x)
 |[],i,hi=>by simp at hi
 |e::l,i,hi=>by
  rw[List.findIdx?_cons] at hi;by_cases he:e.key.isStr name=true
  ·simp only[he,qq,Option.some.injEq] at hi;subst hi;have:e.key.isStr x=false:=by
    cases hh:e.key.isStr x
    ·rfl
    ·exact absurd (Value.isStr_inj _ _ _ hh he) hx
   rw[List.eraseIdx_zero,List.tail_cons,Q3,this]
  ·have he':e.key.isStr name=false:=by simpa using he
   simp only[he',zk,ZH] at hi;cases hj:l.findIdx? (λe=>e.key.isStr name) with
   |none=>simp[hj] at hi
   |some j=>
    simp only[hj,Option.map_some,Option.some.injEq] at hi;subst hi;rw[List.eraseIdx_cons_succ,Q3,Q3];cases e.key.isStr x with
    |false=>exact Mg hx l j hj
    |true=>rfl
section
variable {M:Model} {A:Around} {E:VP_} {s:Shared}
theorem aej {a:Addr} {m:Str->Option Value} {name:Str} {v:Value} {Q:Bool->Shared->Prop} (hn:s.heap.Ns a m) (hv:m name=some v)
  (hQ:∀ h' m',h'.Ns a m'->(∀ x,x≠name->m' x=m x)->Heap.SameBut a s.heap h'->Q true { s with heap:=h' }):wpAny M A (nsDel a name) Q E s:=by
 obtain⟨o,es,ep,ho,hd,hk,hm⟩:=id hn;have hany:es.any (·.refKey)=false:=by
  rw[Array.any_eq_false'];intro e he;obtain⟨n,t,h⟩:=hk e he;simp[DictEntry.refKey,h]
 have hin:es.any (·.key.isStr name)=true:=by
  have h1:=(hm name).trans hv;unfold nsFind findBy at h1;obtain⟨en,h2,_⟩:=Option.map_eq_some_iff.mp h1;rw[Array.any_eq_true'];exact⟨en,Array.mem_of_find?_eq_some h2,by have:=Array.find?_some h2;exact this⟩
 have hhas:nsHas name o=pure true:=by
  rw[nsHas_eq];unfold nsHasByArray;rw[hd];show(if(es.any λx=>x.key.isStr name)=true then _ else _)=_;rw[zl hin]
 unfold nsDel;refine zb (wpAny_loadPart ho ?_);rw[hhas];refine zb (ze ?_);rw[zl rfl];refine zb (wpAny_updatePart ho (ze ?_));obtain⟨cl,d,dt,sl⟩:=o;subst hd;cases hi:es.findIdx? (·.key.isStr name) with
 |none=>
  exfalso;obtain⟨i,hi',hp⟩:=Array.any_eq_true.mp hin;have:=Array.findIdx?_eq_none_iff.mp hi es[i] (Array.getElem_mem hi');rw[this] at hp;cases hp
 |some i=>
  refine hQ _ (nsFind (es.eraseIdxIfInBounds i)) ⟨_,_,ep+1,qB _ ho (by simp only[Obj.dropName_eq,Obj.dropNameByArray,hi]<;>rfl),(by simp only[Obj.dropName_eq,Obj.dropNameByArray,hi]<;>rfl),hk.erase i,λ_=>rfl⟩ (λx hx=>?_) (Heap.SameBut.update ..);rw[<-hm x];unfold nsFind findBy;rw[<-Array.find?_toList,<-Array.find?_toList,Array.toList_eraseIdxIfInBounds,Mg hx es.toList i (by rw[<-hi];obtain⟨l⟩:=es;simp)]
end
section
variable {X:Cx} {pins:List (Addr×Obj)} {σ:L2.St} {H:Hp} {s:Shared}
theorem aek {M:Model} {A:Around} {E:VP_} {i:Nat} {x:Str} {v:V} {Q:Unit->Shared->Prop} (I:Inv X pins σ H s) (hN:X.N.Nodup) (hi:X.N[i]?=some x) (hx:X.env.scope.names.lookup x=some .local) (hv:σ[i]?=some (some v))
  (h:∀ s',Inv X pins (σ.set i none) H s'->Q () s'):wpAny M A (deleteName X.env x) Q E s:=by
 obtain⟨m,hn,hl⟩:=id I.loc;obtain⟨u,ru,lk⟩:=hl i x v hi hv (.inl hx);have hk:X.env.kindOf x=some .local:=hx;have hm:m x=some u:=by
  rcases lk with⟨_,q⟩|⟨q,_⟩
  ·exact q
  ·rw[hk] at q;rcases q with q|q<;>cases q
 have go:∀ h' m',h'.Ns X.env.locals m'->(∀ y,y≠x->m' y=m y)->Heap.SameBut X.env.locals s.heap h'->Q () { s with heap:=h' }:=λh' m' n' sm sb=>by
  refine h _ ?_;have nl:∀ b o,X.s₀.heap.get? b=some o->b≠X.env.locals:=λb o e=>zC (ZE (zv e) I.ok.above);have tr:∀ b w,H b=some w->b≠X.env.locals:=λb w q z=>by rw[z,I.free] at q;cases q
  refine⟨I.ok,I.os,I.bare,⟨λb o e n f y=>(sb.2 b (nl b o e)).trans (I.base.keep b o e n f y),λb o e n f y=>?_,I.base.free,λb o e y=>?_,I.base.tups,I.base.rB,I.base.uR⟩,
   ⟨m',n',λj y v' h1 h2 h3=>?_⟩,λy c e=>?_,I.free,I.gZ,λp hp=>?_,λb w q=>?_,by rw[JY];exact I.len⟩
  ·obtain⟨sl,q⟩:=I.base.slot b o e n f y;exact⟨sl,(sb.2 b (nl b o e)).trans q⟩
  ·obtain⟨o',q⟩:=I.base.there b o e y;exact⟨o',(sb.2 b (nl b o e)).trans q⟩
  ·have hj:j≠i:=λz=>by
    subst z;rw[Kt] at h2;split at h2
    ·split at h2<;>cases h2
    ·rename_i z;exact z rfl
   rw[List.getElem?_set_ne (js hj)] at h2;obtain⟨u',r',lk'⟩:=hl j y v' h1 h2 h3;refine⟨u',r',?_⟩;rcases lk' with⟨k1,k2⟩|⟨k1,c,k2,k3⟩
   ·exact .inl ⟨k1,by rw[sm y (λz=>hj (Al hN (z▸h1) hi))];exact k2⟩
   ·refine .inr ⟨k1,c,k2,?_⟩;have:=I.Ze y c k2;unfold Heap.IsCell at k3 ⊢;rw[sb.2 c this];exact k3
  ·obtain⟨v',q⟩:=I.cell y c e;refine⟨v',?_⟩;unfold Heap.IsCell at q ⊢;rw[sb.2 c (I.Ze y c e)];exact q
  ·obtain⟨q1,q2,q3,q4⟩:=I.pin p hp;exact⟨(sb.2 _ q3).trans q1,q2,q3,q4⟩
  ·refine(I.hok b w q).stay (λc u hc z=>(sb.2 c ?_).trans z) (λ_ z=>z) λ_ _ z=>z;rcases hc with hc|hc
   ·rw[hc];exact tr b w q
   ·exact tr c _ hc
 unfold deleteName;rw[hk];dsimp only;rw[I.ok.kind,zw (by rw[show(ScopeKind.function==ScopeKind.class)=false from rfl,show(ScopeKind.function==ScopeKind.module)=false from rfl];simp)];refine zb (aej hn hm λh' m' n' sm sb=>?_);exact ze (go h' m' n' sm sb)
end
section
variable {X:Cx} {pins:List (Addr×Obj)} {σ:L2.St} {H:Hp} {s:Shared} {E:XK}
theorem RX.jB {Ex:VP_} {e:Value} (h:RX (X.wish Ex) E e s):RX X E e s:=by
 obtain⟨a,C,dx,σ,H,r,I,m,x,q⟩:=h;refine⟨a,C,dx,σ,H,r,I.jB,⟨m.un,m.ab,m.nl,m.nc⟩,?_,q⟩;rcases x with x|⟨T,mT,x⟩
 ·exact .inl x
 ·exact .inr ⟨T,⟨mT.un,mT.ab,mT.nl,mT.nc⟩,x⟩
theorem zL.mono {st:List Stmt} {t:TS} {E1:VP_} (h:zL (X.wish E1) st t) (k:∀ e s,E1 e s->X.xe e s):zL X st t:=λpins s σ H D I hw=>
 ZN (h pins s σ H D (I.wish _) hw) (λ_ _ q=>q.jB) k
end
theorem yE.okX {P:Program} {w:World} {K:FG_} {mg:Str->Option Value} {base:Heap} {x qual:Str} {st:Stmt} {f:Addr} {fd:FuncData} {N ps:LS_} {k:Nat} {sp:Sp} (F:yE K x qual st f fd) (S:aY N ps (aF st)) (len:∀ vs H Q E,sp vs H Q E->vs.length=ps.length)
  (hbody:∀ (cdv:Value) (A:Around) (outer:List Env) (s:Shared) (H:Hp) (vs:List V) (Q:VK) (E:XK),fK k (A.deeper (envOfC qual (aF st) s.heap.objs.size f cdv))->sp vs H Q E →
   ∃ t,zL ((qb (Nk P w) P w K mg base N qual (aF st) f cdv A outer s H E).wish (RX (qb (Nk P w) P w K mg base N qual (aF st) f cdv A outer s H E) E)) (dD st) t/\t { nx:=λ_ H'=>Q .non H',rt:=Q } (start N vs) H):iV P w K mg base (Nk P w) (k+1) f fd ps sp:=by
 obtain⟨oc,od,kV,doc,pm,an,cdv,ct,osl,rfl,lk,hcd⟩:=F.ex;refine abN lk hcd S len λA outer s H vs Q E hr hsp=>?_;obtain⟨t,h,q⟩:=hbody cdv A outer s H vs Q E hr hsp;exact⟨t,zL.mono h λe s' hx=>Yb rfl rfl rfl rfl hx,q⟩
def Yh (a C dx:Addr):HO:=.ext λh=>∃ vs sl,h.get? a=some ⟨.ref C,some dx,.fields vs,sl⟩/\vs[2]?=some .none
theorem aem {P:Program} {w:World} {H:Hp} {h:Heap} {a C dx:Addr} {vs:Array Value} {sl:Array (Option Value)} (q:h.get? a=some ⟨.ref C,some dx,.fields vs,sl⟩) (q2:vs[2]?=some .none):eY P w H h a (Yh a C dx):=
 ⟨⟨vs,sl,q,q2⟩,⟨_,q⟩,λ_ _ ⟨vs,sl,p,p2⟩ k=>⟨vs,sl,k _ p,p2⟩⟩
theorem abj {P:Program} {w:World} {H:Hp} {h h':Heap} {S ch:List Addr} (ok:rN P w H h) (c:Jb S ch h h') (hc:∀ b∈ch,H b=none) (hS:∀ b∈S,H b=none):rN P w H h':=λb u e=>by
 have ne:∀ (d:Addr) (w:HO),H d=some w->d∉ch/\d∉S:=λd w q=>⟨λz=>(by rw[hc d z] at q;cases q),λz=>(by rw[hS d z] at q;cases q)⟩;refine(ok b u e).stay (λd v hd q=>?_) (λ_ q=>q) λ_ _ q=>q;rcases hd with z|z
 ·subst z;exact c.keep _ _ q (ne _ _ e).1 (ne _ _ e).2
 ·exact c.keep _ _ q (ne _ _ z).1 (ne _ _ z).2
theorem abk {P:Program} {w:World} {H:Hp} {h:Heap} {a:Addr} {o:HO} (ok:rN P w H h) (na:H a=none) (new:eY P w (upd H a o) h a o):rN P w (upd H a o) h:=λb u e=>by
 by_cases hb:b=a
 ·subst hb;rw[aQ] at e;cases e;exact new
 ·rw[aG hb] at e;exact(ok b u e).stay (λ_ _ _ q=>q) (λc q=>by rw[aG (bw q na)];exact q) λc xs q=>by rw[aG (bw q na)];exact q
theorem aen {fs:List Addr} {H H':Hp} {h h':Heap} {a:Addr} {o:HO} (u:Un fs [] H H' h h') (na:H' a=none) (ha:h.get? a=none):Un fs [] H (upd H' a o) h h':=
 ⟨u.keep,u.slot,λb ob e n x=>by rw[aG (λz=>by rw[z,ha] at e;cases e)];exact u.free b ob e n x,u.there,λb xs q=>by rw[aG (bw (u.tups b xs q) na)];exact u.tups b xs q,
  λb ob xs q=>by rw[aG (bw (u.rB b ob xs q) na)];exact u.rB b ob xs q,λb ps q=>by
   obtain⟨m,z⟩:=u.uR b ps q;exact⟨m,by rw[aG (bw z na)];exact z⟩⟩
abbrev Cx.inX (X:Cx) (a:Addr):Cx:={ X with A:=X.A.mark (some (.ref a)),calm:=false,xe:=λ_ _=>False }
section
variable {X:Cx} {pins:List (Addr×Obj)} {σ:L2.St} {H:Hp} {s:Shared} {a:Addr}
theorem Inv.inX (I:Inv X pins σ H s):Inv (Cx.inX X a) pins σ H s:=
 ⟨⟨I.ok.mod,I.ok.kind,I.ok.glob,I.ok.blt,I.ok.above,I.ok.inj,I.ok.has,I.ok.cab,λz=>(by cases z),I.ok.frames,I.ok.stk,I.ok.exf,I.ok.bs,I.ok.Vd,I.ok.Np,I.ok.Sw,I.ok.rO,I.ok.Y7⟩,I.os,I.bare,I.base,I.loc,I.cell,I.free,I.gZ,I.pin,I.hok,I.len⟩
theorem Inv.ah8 (ok:X.Ok) (I:Inv (Cx.inX X a) pins σ H s):Inv X pins σ H s:=⟨ok,I.os,I.bare,I.base,I.loc,I.cell,I.free,I.gZ,I.pin,I.hok,I.len⟩
def XT (X:Cx) (C:Addr) (iv:Nat) (ts:Addr->TS) (D:Ends) (σ:L2.St):XK:=λCv dx H2=>Cv=.ref C/\∃ d,dx=some d/\∀ a,H2 a=none →
 ts a { nx:=λσ' H'=>D.nx (σ'.set iv none) H',rt:=D.rt } (σ.set iv (some (.ref a))) (upd H2 a (Yh a C d))
theorem Qd {C Cn:Addr} {iv:Nat} {n cn:Str} {np hp:Pos} {b0:Stmt} {suite:List Stmt} {ts:Addr->TS} {D:Ends} {H1:Hp} {s1 s':Shared} {e:Value} (hst:X.stack=X.env::X.outer) (hf:X.env.frame=some X.env.locals) (hN:X.N.Nodup)
  (hi:X.N[iv]?=some n) (hl:X.env.scope.names.lookup n=some .local) (hg:Gl X cn) (hm:X.mg cn=some (.ref Cn)) (hx:exmOne X.K (.ref C) (.ref Cn)=some true) (hs:∀ a,zL (Cx.inX X a) (b0::suite) (ts a))
  (I1:Inv X pins σ H1 s1) (hq:Nk X.prog X.w X.stack H1 s1 (XT X C iv ts D σ) e s') (hdb:(cn==("__debug__" : Str))=false:=by decide) :
  wpAny (model X.prog X.w) X.A (noteFrame e X.env) (λ_ s2=>wpAny (model X.prog X.w) X.A (setFlight e none) (λ_ s3=>wpAny (model X.prog X.w) X.A (handleBy e X.env [.ExceptHandler (some (.Name cn np)) (some n) (b0::suite) hp]) (SP X pins D) X.xe s3) X.xe s2) X.xe s':=by
 obtain⟨a,Cv,dx,H2,T,rfl,os,bare,un,hok,ha,hT,na,nT,ex,rfl,d,rfl,hE⟩:=hq;have J0:Inv X pins σ H2 s':=I1.call' (ch:=[]) os un hok bare λ_ z=>nomatch z;have fr:=J0.stack;rw[hst] at fr;have old:∀ b,s'.heap.objs.size<=b->s1.heap.get? b=none:=λb z=>by
  cases q:s1.heap.get? b with
  |none=>rfl
  |some o=>
   obtain⟨o',q'⟩:=un.there b o q (λz=>nomatch z);exact absurd (zv q') (Nat.not_lt.mpr z)
 have oa:s1.heap.get? a=none:=Heap.get?_none_of_le ha;have mk:∀ (h:Heap) (ch:List Addr) (tk:Nat),Jb (frs X.stack) ch s'.heap h->(∀ b∈ch,s1.heap.get? b=none/\H2 b=none)->(∃ vs sl,h.get? a=some ⟨.ref C,some d,.fields vs,sl⟩/\vs[2]?=some .none)->Inv X pins σ (upd H2 a (Yh a C d)) { s' with heap:=h,toks:=tk }:=λh ch tk c hc he=>by
  obtain⟨vs,sl,he,he2⟩:=he;refine I1.call' (ch:=[]) (s':={ s' with heap:=h,toks:=tk }) os (aen (aeg un c λb z=>(hc b z).1) na oa) ?_ bare λ_ z=>nomatch z;exact abk (abj hok c (λb z=>(hc b z).2) J0.zJ) na (aem he he2)
 refine RV (base:=X.base) (hst▸I1.ok.frames) fr hf ex λh4 T' z c4 x4=>?_;rw[<-hst] at c4;refine qy (s:={ s' with heap:=h4 }) none x4 λh5 c5 x5=>?_;have nT':H2 T'=none:=hok.fresh z;have c45:=c4.trans (c5.mono (S':=frs X.stack) (c2:=[T']) (λ_ z=>z) λ_ z=>nomatch z);have cc:∀ b∈[T,a]++[T'],s1.heap.get? b=none/\H2 b=none:=λb hb=>by
  simp only[KS,QR,Q4,or_false] at hb;rcases hb with (rfl|rfl)|rfl
  ·exact⟨Heap.get?_none_of_le hT,nT⟩
  ·exact⟨oa,na⟩
  ·exact⟨old _ z,nT'⟩
 have at5:∃ vs sl,h5.get? a=some ⟨.ref C,some d,.fields vs,sl⟩/\vs[2]?=some .none:=by
  obtain⟨vs,sl,_,_,q,_,_,_,_,_,q2⟩:=x5;exact⟨vs,sl,q,q2⟩
 have I5:=mk h5 _ s'.toks c45 cc at5;have LT:PySem.W.Looks (model X.prog X.w) h5 (typeOf (.ref a)) (.ref C):=by
  obtain⟨vs,sl,q,_⟩:=at5;exact(PySem.W.Looks.ld q).andThen .now
 refine wpAny_handleBy_cons (codeAny_handlers_test (tO (X:=Cx.inX X a) (Inv.inX I5) hg hm ?_ hdb)) (by intro q;cases q);refine(PySem.W.exm_one I5.Aj LT hx).at ?_;show codeAny _ _ _ _ _;refine codeAny_handlers_suite_as ?_;refine qy (s:={ s' with heap:=h5 }) none x5 λh6 c6 x6=>?_;have I6:=mk h6 _ s'.toks (c45.trans (c6.mono (S':=frs X.stack) (c2:=[T']) (λ_ z=>z) λ_ z=>nomatch z)) (λb hb=>by
  rcases List.mem_append.mp hb with hb|hb
  ·exact cc b hb
  ·exact cc b (ZT _ hb)) (by obtain⟨vs,sl,_,_,q,_,_,_,_,_,q2⟩:=x6;exact⟨vs,sl,q,q2⟩)
 refine o8 (X:=X) (v:=.ref a) I6 hN hi (.inl hl) rfl (λs7 I7=>?_) (.inr hl);refine ZN (hs a pins s7 _ _ _ (Inv.inX I7) (hE a na)) (λfl s8 h8=>?_) λ_ _ z=>False.elim z;show wpAny _ _ _ _ _ _;have fin:∀ {σ':L2.St} {H':Hp},Inv (Cx.inX X a) pins σ' H' s8->(∀ s9,Inv X pins (σ'.set iv none) H' s9->SP X pins D fl s9) →
   wpAny (model X.prog X.w) X.A (do bindName X.env n .none;unbindBehindTheSuite X.env n hp) (λ_ s5=>SP X pins D fl s5) X.xe s8:=λ{σ' H'} J k=>by
  have J':=Inv.ah8 I7.ok J;have hlt:iv < σ'.length:=by rw[J'.len];exact(List.getElem?_eq_some_iff.mp hi).1
  refine zb (wpAny_bindName (o8 (v:=.non) J' hN hi (.inl hl) rfl (λs9 I9=>?_) (.inr hl)));unfold unbindBehindTheSuite unbindName;refine wpAny_onRaise (zb (wpAny_point (zb (aek (v:=.non) I9 hN hi hl (by rw[List.getElem?_set_self hlt]) λs10 I10=>wpAny_point (k s10 ?_)))));rwa [List.set_set] at I10
 cases fl with
 |next=>
  obtain⟨σ',H',J,q⟩:=h8;exact fin J λs9 I9=>⟨_,H',I9,q⟩
 |ret u=>
  obtain⟨v,σ',H',J,rv,q⟩:=h8;exact fin J λs9 I9=>⟨v,_,H',I9,rv,q⟩
 |brk=>
  obtain⟨_,_,_,q⟩:=h8;exact False.elim q
 |cont=>
  obtain⟨_,_,_,q⟩:=h8;exact False.elim q
end
section
variable {X:Cx} {C Cn f:Addr} {iv iy k:Nat} {n cn x y:Str} {np hp p py pa cpos pos:Pos} {b0:Stmt} {suite:List Stmt} {ts:Addr->TS} {tf:TE} {t:TA} {sp:Sp} {fd:FuncData} {ps:LS_} {e:Expr} {es:List Expr}
end
section
variable {X:Cx} {pins:List (Addr×Obj)} {σ:L2.St} {H:Hp} {s:Shared} {C a d:Addr} {fs:List (Str×V)} {f:Str} {o:Expr} {ta:TE} {pos:Pos}
theorem Yi (I:Inv X pins σ H s) (ea:H a=some (Yh a C d)) (ed:H d=some (.xd fs)):∃ vs sl m,s.heap.get? a=some ⟨.ref C,some d,.fields vs,sl⟩/\s.heap.Ns1 d m/\∀ f,yV (fs.lookup f) (m f):=by
 obtain⟨vs,sl,q,_⟩:=(I.hok a _ ea).1;obtain⟨m,n1,r⟩:=I.hok d _ ed;exact⟨vs,sl,m,q,n1,r⟩
def ah9 (K:FG_) (H:Hp) (C:Addr) (c:V) (b:Bool):Prop:=
 (∃ D,c=.ref D/\kitOne K (.ref C) (.ref D)=some b)\/(∃ T,c=.ty T/\kitOne K (.ref C) (.type T)=some b) ∨
  ∃ (tp:Addr) (cs:List Addr),c=.ref tp/\H tp=some (.tup (cs.map V.ref))/\PySem.W.kitAny K (.ref C) (cs.map Value.ref)=some b
theorem GR:∀ {cs:List Addr} {us:List Value},Vals (cs.map V.ref) us->us=cs.map Value.ref
 |[],_,h=>by cases h;rfl
 |c::cs,_,h=>by
  cases h with
  |cons r t=>rw[GR t];obtain rfl:=r;rfl
theorem jr {Cs:List Addr} (hC:∀ C,C∈Cs->sZ X.K C=true):fB X (.builtin "isinstance") (λvs H Q=>∃ a C d fs c b,C∈Cs/\vs=[.ref a,c]/\H a=some (Yh a C d)/\H d=some (.xd fs)/\ah9 X.K H C c b/\Q (.bl b) H):=by
 intro pins s σ H vs us Q I r h;obtain⟨a,C,d,fs,c,b,hm,rfl,ea,ed,hb,q⟩:=h;cases r with
 |cons ra r=>
  cases r with
  |cons rc r=>
   cases r;obtain rfl:=ra;obtain⟨vs,sl,m,h1,⟨od,_,_,h2,_⟩,_⟩:=Yi I ea ed;have Z:=agf (e:=a) (hC C hm);have p:ExI a C s.heap:=⟨d,vs,sl,od,h1,h2⟩;rcases hb with⟨D,rfl,hb⟩|⟨T,rfl,hb⟩|⟨tp,cs,rfl,ht,hb⟩
   ·obtain rfl:=rc;exact kia_one Z I.Aj p hb (λz=>nomatch z) λtk=>⟨.bl b,H,I.tok tk,rfl,q⟩
   ·obtain rfl:=rc;exact kia_one Z I.Aj p hb (λz=>nomatch z) λtk=>⟨.bl b,H,I.tok tk,rfl,q⟩
   ·obtain rfl:=rc;obtain⟨_,its,hv,o,ho,hc,⟨nn,hd⟩,hdd⟩:=I.hok tp _ ht;obtain⟨oc,od',odt,osl⟩:=o;dsimp only at hc hd hdd;subst hc hd hdd;rw[GR hv] at ho;exact PySem.W.kia_tup Z I.Aj p ho hb (λz=>nomatch z) λtk=>⟨.bl b,H,I.tok tk,rfl,q⟩
def aia (Cs:List Addr) (ta:TE) (f:Str):TE:=λσ H Q=>ta σ H λx H1=>∃ a C d v,C∈Cs/\x=.ref a/\H1 a=some (Yh a C d)/\H1 d=some (.xd [(f,v)])/\Q v H1
theorem Qe {v:V} {u:Value} (r:RelV v u):handedIn u=true:=by
 cases v with
 |non=>obtain rfl:=r;rfl
 |bl b=>obtain rfl:=r;rfl
 |int i=>obtain⟨t,rfl⟩:=r;rfl
 |str x=>obtain⟨t,rfl⟩:=r;rfl
 |byt b=>obtain⟨t,rfl⟩:=r;rfl
 |flt b=>obtain⟨t,rfl⟩:=r;rfl
 |ref a=>obtain rfl:=r;rfl
 |ty n=>obtain rfl:=r;rfl
theorem aeo {Cs:List Addr} (hC:∀ C,C∈Cs->sZ X.K C=true/\findIn X.K (.ref C) f=some none) (ha:PE X o ta) (hb:attributeBase o f X.env (eval o X.env)=eval o X.env):PE X (.Attribute o f pos) (aia Cs ta f):=by
 intro pins s σ H Q I h;refine Zm hb (gF (ha pins s σ H _ I h) λu s1 ⟨x,H1,I1,rx,a,C,d,v,hm,ex,ea,ed,q⟩=>?_);subst ex;obtain rfl:u=Value.ref a:=rx;obtain⟨vs,sl,m,h1,h2,h3⟩:=Yi I1 ea ed;have r:=h3 f;simp only[List.lookup,beq_self_eq_true] at r;cases em:m f with
 |none=>rw[em] at r;exact False.elim r
 |some u=>
  rw[em] at r;obtain⟨hh,g,dr,tk,os⟩:=s1;exact agd I1.Aj (hC C hm).1 (hC C hm).2 h1 h2 em (Qe r) ⟨v,H1,I1.tok _,r,q⟩
end
def XW (K:FG_) (C:Addr) (f:Str) (E:XK) (H0:Hp) (d:Dt):Prop:=∀ dx v H',Same H0 H'->H' dx=some (.xd [(f,v)])->Rep K H' d v->E (.ref C) (some dx) H'
theorem XW.rebase {K:FG_} {C:Addr} {f:Str} {E:XK} {H0 Hs:Hp} {d:Dt} (s:Same H0 Hs) (h:XW K C f E H0 d):XW K C f E Hs d:=λdx v H' s' e r=>h dx v H' (s.trans s') e r
def tX (K:FG_) (C:Addr) (f:Str) (E:XK) (gx:Ev->Option Dt):TS:=λ_ σ H=>∃ H0 ρ d,bD K H0 H σ ρ/\gx ρ=some d/\XW K C f E H0 d
structure QX1 (X:Cx) (C:Addr) (f:Str) (E:XK) (st:Stmt) (gx:Ev->Option Dt):Prop where
 run:PS X st (tX X.K C f E gx)
structure QXs (X:Cx) (C:Addr) (f:Str) (E:XK) (st:List Stmt) (gx:Ev->Option Dt):Prop where
 run:zL X st (tX X.K C f E gx)
def zD:Bx->Option Dt
 |.z d=>some d
 |_=>none
section
variable {X:Cx} {C:Addr} {f x:Str} {E:XK} {e c tg iter:Expr} {fe:Ev->Option Bx} {gx gy:Ev->Option Dt} {g:Ev->Option Out} {pos cpos p:Pos} {st:Stmt} {rest body a b:List Stmt} {B newId initId:String} {bmB:List Value} {pc:Ev->Option Bool}
def rzX (okX:Dt->Bool) (fe:Ev->Option Bx):Ev->Option Dt:=λρ=>(fe ρ).bind λb=>(zD b).bind λd=>if okX d=true then some d else none
theorem Yj {okX:Dt->Bool} {k:Nat} {fI:Addr} {fd:FuncData} {ps:LS_} {ok:V->Prop} (Fe:ExcBaseFacts B newId initId bmB) (hx:Yc X.K C fI bmB newId=true) (hbase:bmB.contains (.type "BaseException")=true) (hk:keepIn X.K (.ref C)=true)
  (F:iV X.prog X.w X.K X.mg X.base vM k fI fd ps (spI C f ok)) (hb:Binds X.K fd ps []) (hr:fK (k+1) X.A) (hg:Gl X x) (hm:X.mg x=some (.ref C)) (Yg:∀ e s,RX X E e s->X.xe e s) (he:QV X e fe) (hok:∀ d v K H,okX d=true->Rep K H d v->ok v)
  (hdb:(x==("__debug__" : Str))=false:=by decide) (hs:starEach [e] X.env=(false,eval e X.env)::starEach [] X.env:=by rfl) (hpl:(backTo cpos (starEach [] X.env)).any (·.1)=false:=by rfl) :
  QX1 X C f E (.Raise (some (.Call (.Name x p) [e] [] cpos)) none pos) (rzX okX fe):=⟨Tg (agi Fe hx hbase hk F hb hr hg hm Yg (aV he.run dJ hs) hdb hs hpl) λD σ H h=>by
 obtain⟨H0,ρ,d,Ev,ed,w⟩:=h;obtain⟨b,eb,ed⟩:=bind_some ed;obtain⟨d',ez,ed⟩:=bind_some ed;split at ed
 ·rename_i ho;cases ed;cases b with
  |z d'=>
   cases ez;refine⟨H0,ρ,_,Ev,eb,λv H1 s1 _ r1=>⟨v,rfl,hok _ _ _ _ ho r1,λH2 dx s2 hd=>?_⟩⟩;have sd:Same H2 (upd H2 dx (.xd [(f,v)])):=bG hd;exact w dx v _ ((Ev.base.trans s1).trans (s2.trans sd)) aQ (Rep.kp (Kp.of (s2.trans sd)) r1)
  |l _=>cases ez
  |o _=>cases ez
  |n _=>cases ez
  |m _ _=>cases ez
 ·cases ed⟩
theorem CT (h:QX1 X C f E st gx):QXs X C f E (st::rest) gx:=⟨λpins s σ H D I hw=>yz (ZN (h.run pins s σ H { nx:=λ_ _=>False,rt:=D.rt,bk:=D.bk,ct:=D.ct } I hw) (λfl s1 q=>by
 cases fl with
 |next=>obtain⟨_,_,_,z⟩:=q;exact False.elim z
 |ret v=>exact q
 |brk=>exact q
 |cont=>exact q) λ_ _ z=>z)⟩
def ifX (pc:Ev->Option Bool) (gx gy:Ev->Option Dt):Ev->Option Dt:=λρ=>(pc ρ).bind λk=>if k=true then gx ρ else gy ρ
theorem Yk {sts:List Stmt}:QXs X C f E sts (λ_=>none):=⟨λpins s σ H D I hw=>by
 obtain⟨H0,ρ,d,Ev,ed,w⟩:=hw;cases ed⟩
theorem agk (hc:QB X c pc) (ha:QXs X C f E a gx) (hb:QXs X C f E b gy):QX1 X C f E (.If c a b pos) (ifX pc gx gy):=⟨Tg (abH hc.run ha.run hb.run) λD σ H h=>by
 obtain⟨H0,ρ,d,Ev,ed,w⟩:=h;obtain⟨k,ek,ed⟩:=bind_some ed;refine⟨H0,ρ,k,Ev,ek,λH1 s1=>?_⟩;cases k with
 |true=>rw[zl rfl] at ed ⊢;exact⟨H0,ρ,d,Ev.grow s1,ed,w⟩
 |false=>rw[zw ZA] at ed ⊢;exact⟨H0,ρ,d,Ev.grow s1,ed,w⟩⟩
end
def spX (K:FG_) (n:Nat) (Fx:List Bx->Option Dt) (C:Addr) (f:Str):Sp:=λvs H _ E=>vs.length=n/\∃ bs d,pC K H bs vs/\bs.all (λb=>!isO b)=true/\Fx bs=some d/\XW K C f E H d
def wK (n:Nat) (gx:Ev->Option Dt):List Bx->Option Dt:=λbs=>gx (bs.map some++List.replicate (n - bs.length) none)
section
variable {P:Program} {w:World} {K:FG_} {mg:Str->Option Value} {base:Heap}
abbrev cxR (P:Program) (w:World) (K:FG_) (mg:Str->Option Value) (base:Heap) (N:LS_) (qual:Str) (scope:Scope) (f:Addr) (cd:Value) (A:Around) (outer:List Env) (s:Shared) (H:Hp) (E:XK):Cx:=
 (qb (Nk P w) P w K mg base N qual scope f cd A outer s H E).wish (RX (qb (Nk P w) P w K mg base N qual scope f cd A outer s H E) E)
theorem acf {x qual:Str} {st:Stmt} {f C:Addr} {a:Str} {fd:FuncData} {N ps:LS_} {k n m:Nat} {gx:Ev->Option Dt} (F:yE K x qual st f fd) (S:aY N ps (aF st)) (hn:N.length=n) (hm:ps.length=m)
  (hbody:∀ (cdv:Value) (A:Around) (outer:List Env) (s:Shared) (H:Hp) (E:XK),fK k (A.deeper (envOfC qual (aF st) s.heap.objs.size f cdv)) →
   (∀ e s',RX (cxR P w K mg base N qual (aF st) f cdv A outer s H E) E e s'->(cxR P w K mg base N qual (aF st) f cdv A outer s H E).xe e s') →
   PassesOwn (model P w) (A.deeper (envOfC qual (aF st) s.heap.objs.size f cdv)) (envOfC qual (aF st) s.heap.objs.size f cdv) (cxR P w K mg base N qual (aF st) f cdv A outer s H E).xe →
   QXs (cxR P w K mg base N qual (aF st) f cdv A outer s H E) C a E (dD st) gx):iV P w K mg base (Nk P w) (k+1) f fd ps (spX K m (wK n gx) C a):=
 yE.okX F S (λvs H Q E h=>h.1.trans hm.symm) λcdv A outer s H vs Q E hr hsp=>by
  obtain⟨_,bs,d,r,ho,e,w⟩:=hsp;subst hn;exact⟨_,(hbody cdv A outer s H E hr (λe s' h=>h.jB) (Uq (X:=qb (Nk P _) P _ K mg base N qual (aF st) f cdv A outer s H E) rfl rfl rfl)).run,H,_,d,bD.start r ho,e,w⟩
theorem abl {x qual sn vn fe a:Str} {st:Stmt} {f C FE:Addr} {fd:FuncData} {k:Nat} {arg:Expr} {fa:Ev->Option Bx} {ok:V->Prop} {ρ0:V->Ev} {p1 p2 p3 p4 p5 p6 p7 p8 p9:Pos} {B newId initId:String} {bmB:List Value}
  (F:yE K x qual st f fd) (S:aY [sn,vn] [sn,vn] (aF st)) (Fe:ExcBaseFacts B newId initId bmB) (hx:Yc K C f bmB newId=true) (aer:setIn K C a=true) (hm:mg fe=some (.ref FE)) (hb:R0 K FE initId) (hh:handedIn (.builtin initId)=true)
  (hbd:dD st=[.Expr (.Call (.Attribute (.Name fe p1) "__init__" p2) [.Name sn p3,arg] [] p4) p5,.Assign [.Attribute (.Name sn p6) a p7] (.Name vn p8) p9])
  (hρ:∀ v,ok v->∃ b,fa (ρ0 v)=some b/\∀ H e,bD K H H [some (.ref e),some v] (ρ0 v))
  (hbody:∀ (cdv:Value) (A:Around) (outer:List Env) (s:Shared) (H:Hp) (E:XK) (X:Cx),X=(qb vM P w K mg base [sn,vn] qual (aF st) f cdv A outer s H E).Ve->fK k X.A →
   Gl X fe/\QV X arg fa/\PE X (.Name sn p3) (Vn 0)/\PE X (.Name sn p6) (Vn 0)/\PE X (.Name vn p8) (Vn 1)/\(fe==("__debug__" : Str))=false/\starEach [.Name sn p3,arg] X.env=(false,eval (.Name sn p3) X.env)::starEach [arg] X.env/\starEach [arg] X.env=(false,eval arg X.env)::starEach [] X.env ∧
   (backTo p4 (starEach [arg] X.env)).any (·.1)=false/\swapsWith (.Call (.Attribute (.Name fe p1) "__init__" p2) [.Name sn p3,arg] [] p4) none p5.line X.env=pure false/\swapsWith (.Name vn p8) (some (.Attribute (.Name sn p6) a p7)) p9.line X.env=pure false ∧
   ∃ pl:Sem Bool,eval (.Call (.Attribute (.Name fe p1) "__init__" p2) [.Name sn p3,arg] [] p4) X.env=(do
    let ov <-eval (.Name fe p1) X.env
    standAt p2.atName
    let (f,first) <-holding [ov] (getMethod ov "__init__" pl)
    callWith p4 f first (backTo p4 (starEach [.Name sn p3,arg] X.env)) (backToKw p4 (keywordEach [] X.env)))) :
  iV P w K mg base vM (k+1) f fd [sn,vn] (spI C a ok):=
 yE.ok F S (λvs H Q E h=>by obtain⟨_,_,rfl,_⟩:=h;rfl) λcdv A outer s H vs Q E hr hsp=>by
  obtain⟨e,v,rfl,hok,ea,q⟩:=hsp;obtain⟨h1,h2,h3,h4,h5,h6,h7,h8,h9,h10,h11,pl,h12⟩:=hbody cdv A outer s H E _ rfl hr;rw[hbd];refine⟨_,o9 (zO (Ye (pl:=pl) Fe hx h1 hm hb hh (aV h3 (aV h2.run dJ h8) h7) h6 h7 h9 h12) h10) (zN (agg aer h4 h5 h11)),?_⟩;obtain⟨b,eb,aic⟩:=hρ v hok;refine⟨.ref e,rfl,H,ρ0 v,b,aic H e,eb,λy H1 s1 _ _=>⟨e,y,rfl,s1 _ _ ea,?_⟩⟩;exact⟨v,rfl,.ref e,rfl,e,rfl,s1 _ _ ea,λdx hd hne=>q H1 dx s1 hd hne⟩
end
section
variable {X:Cx} {k n:Nat} {f h:Addr} {fd:FuncData} {ps:LS_} {F:List Bx->Option Bx} {fs:Ev->Option (List Bx)} {x y:Str} {p q pos:Pos} {e:Expr} {es:List Expr}
end
end P1
end
section
namespace P1
open PySem PySem.Spec PyProof.Rows L2 S6
section
variable {X:Cx} {elt tgt iter:Expr} {ifs:List Expr} {scope:Scope} {cl:List (Str×Addr)} {pos:Pos} {xs ts:LS_} {is:List Nat} {gt:Dt->Ev->Option Ev} {p:Ev->Option Bool} {fe:Ev->Option Bx} {fi:Ev->Option (List Dt)}
end
section
variable {X:Cx} {x y:Str} {e2 se iter:Expr} {fS:Ev->Option LS_} {fe:Ev->Option Bx} {fx:Ev->Option Dt} {fi:Ev->Option (List Dt)} {no rest:List Stmt} {tR tQ:TS} {p0 p02 px pb pif pos pk:Pos} {C:Addr} {f:Str} {E:XK} {g:Ev->Option Out} {gx:Ev->Option Dt}
end
end P1
end
section
namespace P1
open PySem PySem.Spec PyProof.Rows L2
section
variable {X:Cx} {iter e1 e2 e3 c:Expr} {fi:Ev->Option (List Dt)} {f1 fe:Ev->Option Bx} {p:Ev->Option Bool} {gr:Ev->Option Out} {x xr xj y1 y2:Str} {rest no:List Stmt} {kk:Nat} {p0 p00 p01 p02 q1 q2 pt pj pa px pb pif pf2 px3 a1 c1 pe1 pr a2 pj2 c2 pe2 pos:Pos} {fx:Ev->Option Dt} {C:Addr} {f:Str} {E:XK}
end
section
variable {X:Cx} {C Cn f:Addr} {iv k:Nat} {n cn x:Str} {np hp p pa cpos pos:Pos} {b0:Stmt} {suite:List Stmt} {ts:Addr->TS} {tf:TE} {t:TA} {sp:Sp} {fd:FuncData} {ps:LS_} {e:Expr} {es:List Expr}
def agl (X:Cx) (C f:Addr) (iv:Nat) (ts:Addr->TS) (tf:TE) (t:TA) (sp:Sp):TS:=λD σ H=>tf σ H λv H0=>v=.ref f/\t σ H0 λvs H1=>sp vs H1 (λ_ H2=>D.nx σ H2) (XT X C iv ts D σ)
theorem abm (hst:X.stack=X.env::X.outer) (hfr:X.env.frame=some X.env.locals) (hN:X.N.Nodup) (hi:X.N[iv]?=some n) (hl:X.env.scope.names.lookup n=some .local)
  (hg:Gl X cn) (hm:X.mg cn=some (.ref Cn)) (hx:exmOne X.K (.ref C) (.ref Cn)=some true) (hs:∀ a,zL (Cx.inX X a) (b0::suite) (ts a))
  (hfe:PE X.Ve (.Name x p) tf) (F:iV X.prog X.w X.K X.mg X.base (Nk X.prog X.w) k f fd ps sp) (hr:fK k X.A) (hk:keepIn X.K (.ref f)=true) (hb:Binds X.K fd ps []) (ha:PA X.Ve (e::es) t)
  (hdb:(cn==("__debug__" : Str))=false:=by decide) (hst':starEach (e::es) X.env=(false,eval e X.env)::starEach es X.env:=by rfl) (hpl:(backTo cpos (starEach es X.env)).any (·.1)=false:=by rfl)
  (hsw:swapsWith (.Call (.Name x p) (e::es) [] cpos) none pa.line X.env=pure false:=by rfl) :
  PS X (.Try [.Expr (.Call (.Name x p) (e::es) [] cpos) pa] [.ExceptHandler (some (.Name cn np)) (some n) (b0::suite) hp] [] [] pos) (agl X C f iv ts tf t sp):=by
 intro pins s σ H D I h;refine wpAny_Try_except (yz (wpAny_Expr_any (kz ?_) I.quiet hsw));refine ZN (hfe pins s σ H _ (I.wish _) h) (λu s0 ⟨v,H0,I0,r0,ev,q0⟩=>?_) (λ_ _ z=>False.elim z);subst ev;obtain rfl:u=Value.ref f:=r0;refine yi (h₀:=X.base) I.ok.mod.kin hk (ZN (ha cpos pins s0 σ H0 _ I0 q0) (λus s1 ⟨vs,H1,I1,r,q⟩=>⟨I1.Aj,?_⟩) (λ_ _ z=>False.elim z)) hst' hpl;have I1':=I1.jB;have hl2:us.length=ps.length:=by rw[<-r.length];exact F.len _ _ _ _ q
 rw[kB];refine k4 (kP (F.run X.A X.stack s1 H1 ⟨us,[]⟩ us vs _ _ hr I1'.env0 (by have:=hb s1 us I1'.Aj (by rw[QA];exact hl2);rwa [QA] at this) r q) λr s' hq=>?_);cases r with
 |error e=>exact Qd hst hfr hN hi hl hg hm hx hs I1' hq hdb
 |ok fl=>
  cases fl with
  |next=>exact False.elim hq
  |brk=>exact False.elim hq
  |cont=>exact False.elim hq
  |ret u=>
   obtain⟨v,H2,I2,rv,q2⟩:=I1'.after hq;exact KO (KO ⟨_,H2,I2,q2⟩)
end
section
variable {X:Cx} {fx:Ev->Option Bx}
end
section
variable {prog:Program} {w:World} {A:Around} {E:VP_} {it l:Addr} {xs:Array Value}
end
section
variable {X:Cx} {pos:Pos}
theorem tW:∀ {its:List Value} {ns:List Int},IntsAre its ns->Vals (ns.map V.int) its
 |_,_,.nil=>.nil
 |_,_,.cons y t h=>.cons ⟨t,rfl⟩ (tW h)
end
section
variable {X:Cx}
end
section
variable {α:Type} {e:α->Dt} {ρ:Ev} {fa:Ev->Option Bx}
end
section
variable {α β δ:Type} {ρ:Ev} {e:α->Dt} {ea:β->Dt} {eb:δ->Dt} {f1 fe:Ev->Option Bx} {p:Ev->Option Bool} {fi:Ev->Option (List Dt)} {fx:Ev->Option Dt} {d:Dt}
end
section
variable {X:Cx} {e:Expr} {f:Ev->Option Bx}
end
section
variable {X:Cx}
end
section
variable {ρ:Ev} {fa:Ev->Option Bx}
end
section
variable {α β γ:Type} {ρ:Ev} {e:α->Dt} {fa fb:Ev->Option Bx} {g:Ev->Option β} {c:γ->β}
end
section
variable {X:Cx} {E:XK}
theorem abn (Yg:∀ e s,RX X E e s->X.xe e s):Passes (Nk X.prog X.w) X E:=λpins σ H s e s' I h=>by
 obtain⟨a,C,dx,H',T,rfl,os,bare,un,hok,ha,hT,na,nT,ex,he⟩:=h;have J:Inv X pins σ H' s':=I.call' (ch:=[]) os un hok bare λ_ z=>nomatch z;have J0:Inv X [] σ H' s':=⟨J.ok,J.os,J.bare,J.base,J.loc,J.cell,J.free,J.gZ,λp hp=>J.pin p (List.mem_append.mpr ((List.mem_append.mp hp).elim .inl λz=>nomatch z)),J.hok,J.len⟩;have mine:∀ b,s.heap.objs.size<=b->H' b=none->wJ X H' b:=λb hb nb=>⟨nb,Zs I.sz hb,λz=>by have:=I.lt;rw[<-z] at this;exact absurd this (Nat.not_lt.mpr hb),λx c e z=>by
  obtain⟨v,q⟩:=I.cell x c e;have:c < s.heap.objs.size:=by
   obtain⟨o,q⟩:∃ o,s.heap.get? c=some o:=by
    first|(obtain⟨o,q,_⟩:=q;exact⟨o,q⟩)|exact⟨_,q⟩
   exact zv q
  rw[z] at this;exact absurd this (Nat.not_lt.mpr hb)⟩
 exact Yg _ _ ⟨a,C,dx,σ,H',rfl,J0,mine a ha na,.inr ⟨T,mine T hT nT,.inr ex⟩,he⟩
end
section
variable {X:Cx} {C:Addr} {f x:Str} {E:XK} {e:Expr} {es:List Expr} {elts:List Expr} {x1:Nat} {fs:Ev->Option (List Bx)} {gx gy:Ev->Option Dt} {p p1 cpos pos tpos epos:Pos} {body:List Stmt} {st:Stmt} {rest:List Stmt}
def acg (n:Nat) (Fx:List Bx->Option Dt) (fs:Ev->Option (List Bx)):Ev->Option Dt:=λρ=>(fs ρ).bind λbs=>if bs.length=n then Fx (bs.map lend) else none
end
section
variable {X:Cx} {o:Expr} {fo:Ev->Option Bx}
def Yl:Dt->Bool
 |.non=>true
 |.tup _=>true
 |_=>false
def agm:Dt->Bool
 |.non=>true
 |_=>false
end
section
variable {X:Cx} {o e l:Expr} {es:List Expr} {fo f:Ev->Option Bx} {fs:Ev->Option (List Bx)} {x y z:Str}
end
instance {σ τ:Type} [Inhabited σ]:Inhabited (uG σ τ):=⟨.nx default⟩
section
variable {α:Type} {ρ:Ev} {e:α->Dt} {fa fb:Ev->Option Bx}
theorem Qf (ht:∀ x,∃ ds,e x=.tup ds) (ys:List (Option α)):(ys.map (eO e)).all Yl=true/\(agm ∘ eO e)=Option.isNone:=by
 refine⟨?_,?_⟩
 ·rw[Z3];intro d hd;obtain⟨o,_,rfl⟩:=List.mem_map.mp hd;cases o with
  |none=>rfl
  |some x=>obtain⟨ds,q⟩:=ht x;show Yl (e x)=true;rw[q];rfl
 ·funext o;cases o with
  |none=>rfl
  |some x=>obtain⟨ds,q⟩:=ht x;show agm (e x)=false;rw[q];rfl
end
section
variable {X:Cx} {o e e2:Expr} {fo fx fy:Ev->Option Bx}
end
section
variable {ρ:Ev} {fa fb:Ev->Option Bx}
end
section
variable {X:Cx} {C:Addr} {f x:Str} {E:XK} {gx gy:Ev->Option Dt} {st:Stmt} {sts rest:List Stmt} {p0 p00 p01 p02:Pos}
end
section
variable {P:Program} {w:World} {K:FG_} {mg:Str->Option Value} {base:Heap}
structure DQ (K:FG_) (mg:Str->Option Value) (x:Str) (st:Stmt) (ps:LS_) where
 f:Addr
 fd:FuncData
 F:yE K x x st f fd
 b:Binds K fd ps []
 m:mg x=some (.ref f)
 k:keepIn K (.ref f)=true
structure IQ (K:FG_) (C:Addr) (q:Str) (st:Stmt) (ps:LS_) where
 f:Addr
 fd:FuncData
 F:yE K "__init__" q st f fd
 b:Binds K fd ps []
def lK {x:Str} {st:Stmt} {ps:LS_} {f:Addr} {od an:Option Addr} {sl:Array (Option Value)} {oc kV dc pm cd ct:Value} {h:Heap} (X:K.In h) (G:h.Ns mainGlobals mg) (a:Nn K x f) (l:Lk K f x st oc od sl kV dc pm an cd ct) (c:codeIn K cd x=true) (k:keepIn K (.ref f)=true)
  (hb:∀ (kV doc pm:Value) (an:Option Addr) (cdv ct:Value) (us:List Value),us.length=ps.length->bindArgs (fnOf x x (lG st) (dD st) (aF st) .none kV doc pm an cdv ct) ⟨us,[]⟩=pure (ps.zip us):=by intro _ _ _ _ _ _;first|exact P1.len1 λ_=>rfl|exact P1.len2 λ_ _=>rfl|exact P1.ah2 λ_ _ _=>rfl|exact P1.ah3 λ_ _ _ _=>rfl|exact P1.ah4 λ_ _ _ _ _=>rfl|exact P1.len0 rfl):DQ K mg x st ps:=
 ⟨f,_,Hw l c k,(Hw l c k).binds hb,JA X G a,k⟩
def aie {C f:Addr} {q:Str} {st:Stmt} {ps:LS_} {od an:Option Addr} {sl:Array (Option Value)} {oc kV dc pm cd ct:Value} (a:findIn K (.ref C) "__init__" = some (some (.ref f))) (l:K.lookup f=some ⟨oc,od,.func (fnOf "__init__" q (lG st) (dD st) (aF st) .none kV dc pm an cd ct),sl⟩) (c:codeIn K cd q=true) (k:keepIn K (.ref f)=true)
  (hb:∀ (kV doc pm:Value) (an:Option Addr) (cdv ct:Value) (us:List Value),us.length=ps.length->bindArgs (fnOf "__init__" q (lG st) (dD st) (aF st) .none kV doc pm an cdv ct) ⟨us,[]⟩=pure (ps.zip us):=by intro _ _ _ _ _ _;exact P1.len2 λ_ _=>rfl):IQ K C q st ps:=
 ⟨f,_,Hw l c k,(Hw l c k).binds hb⟩
theorem mgT {h:Heap} {x:Str} {v:Tok->Value} {tk:Tok} (X:K.In h) (G:h.Ns mainGlobals mg) (c:nsIn K mainGlobals x=some (some (v tk))):∃ tk,mg x=some (v tk):=⟨tk,JA X G c⟩
abbrev Ok (P:Program) (w:World) (base:Heap) {x:Str} {st:Stmt} {ps:LS_} (d:DQ K mg x st ps) (k n:Nat) (F:List Bx->Option Bx):Prop:=iV P w K mg base vM k d.f d.fd ps (Z8 K n F)
theorem Eo {x:Str} {st:Stmt} {N ps:LS_} {k n m:Nat} {g:Ev->Option Out} (d:DQ K mg x st ps) (S:aY N ps (aF st))
  (hbody:∀ (cdv:Value) (A:Around) (outer:List Env) (s:Shared) (H:Hp) (E:XK),fK k (A.deeper (envOfC x (aF st) s.heap.objs.size d.f cdv))->(A.deeper (envOfC x (aF st) s.heap.objs.size d.f cdv)).units+100 < cLine->N.Nodup->Vf (qb vM P w K mg base N x (aF st) d.f cdv A outer s H E).Ve (dD st) g)
  (hn:N.length=n:=by rfl) (hm:ps.length=m:=by rfl):Ok P w base d (k+1) m (dX n g):=ahJ d.F S hn hm λcdv A outer s H E hr=>hbody cdv A outer s H E hr (Ia hr) S.nd
end
section
variable {X:Cx} {k m n:Nat} {x:Str} {st:Stmt} {ps:LS_} {F:List Bx->Option Bx} {fs:Ev->Option (List Bx)} {e:Expr} {es:List Expr} {p pos:Pos}
theorem dw (d:DQ X.K X.mg x st ps) (G:Ok X.prog X.w X.base d k n F) (hr:fK m X.A) (ha:Tf X (e::es) fs) (hg:Gl X x:=by rfl) (hl:k<=m:=by decide) (hdb:(x==("__debug__" : Str))=false:=by decide) (he:starEach (e::es) X.env=(false,eval e X.env)::starEach es X.env:=by rfl) (hpl:(backTo pos (starEach es X.env)).any (·.1)=false:=by rfl):QV X (.Call (.Name x p) (e::es) [] pos) (cH n F fs):=
 Q0 G (hr.mono hl) hg d.m d.k d.b ha hdb he hpl
end
theorem walkT {l:PySem.W.OpenLaw} {q:Program} {loose:LS_} {XP:(Str->Option Value)->Heap->Prop} {YP:World->Heap->Prop} {d:DefRec} {K:Params->FG_} {T:FG_->(Str->Option Value)->Type} {k:Nat} {x:Str} {st:Stmt} {F_law:List Bx->Option Bx} (dq:∀ {K mg},T K mg->DQ K mg "law" st [x]) (hk:fK k callerA) (hd:d.name = "law")
  (G:∀ (w:World) (mg:Str->Option Value) (base:Heap) (t:T (K w.params) mg),Ok l.prog w base (dq t) k 1 F_law) (hn:l.most=some 63) (hdf:d.params.defaults=[])
  (h1:∀ ns:List Int,ns.length<=63->F_law [.z (.lst (ns.map .int))]=some (.z (.bl true))) (h2:∀ ns:List Int,ns.length<=63->F_law [.l (ns.map .int)]=some (.z (.bl true)))
  (hb:∀ (kV doc pm:Value) (an:Option Addr) (cdv ct u:Value),bindArgs (fnOf "law" "law" (lG st) (dD st) (aF st) .none kV doc pm an cdv ct) ⟨[u],[]⟩=pure [(x,u)])
  (hY:∀ (w:World) (h:Heap),YP w h->(K w.params).In h)
  (F:∀ (w:World) (mg:Str->Option Value) (h:Heap),(K w.params).In h->h.Ns mainGlobals mg->T (K w.params) mg) :
  PySem.W.WalkO q loose XP YP l.row.toRowW d [] (λf vs=>PySem.call f vs):=
 L2.VJ (n:=63) (k:=k) (x:=x) (CX:=vM) (sp:=λK=>Z8 K 1 F_law) hn (by decide) hdf hk hY (λw mg fa h X N e=>by
  have t:=F w mg h X N;have em:=(dq t).m;rw[hd,em] at e;cases e;refine⟨(dq t).fd,λs u=>?_,λbase _ _=>G w mg base t⟩;obtain⟨oc,od,kV,doc,pm,an,cdv,ct,osl,e,lk,hcd⟩:=(dq t).F.ex;rw[e];exact .of_eq (hb kV doc pm an cdv ct u)) (λK H a ns hl hO hS=>adF h1 h2 K H a ns hl hO hS) λ_ _ _ _ z=>z
theorem Mh:entryFor table "proto.unchain" = some Builtin.«proto.unchain»:=entryFor_of_tree (by kernel_rfl)
section
variable {prog:Program} {w:World} {A:Around} {E:VP_} {s:Shared}
theorem Jd {α:Type} {a b:Sem α} {Q:α->Shared->Prop} (h:a=b) (k:wpAny (model prog w) A b Q E s):wpAny (model prog w) A a Q E s:=h▸k
theorem Je {v:Value} {e:Addr} {o:Obj} {vs:Array Value} {Q:VP_} (he:s.heap.get? e=some o) (hd:o.data=.fields vs) (h2:vs[2]?=some .none) (h:Q .none s):wpAny (model prog w) A (runValue (.builtin "proto.unchain" ⟨[v,.ref e,.ref e,.bool false],[]⟩)) Q E s:=by
 refine wpAny_runValue (jI Mh ?_);show wpAny _ _ (field (.ref e) 2 >>= _) _ _ s;refine zb (Q1 he hd h2 ?_);exact ze h
theorem Mi {it e:Addr} {x n d:Int} {o:Obj} {vs:Array Value} {Q:Option Value->Shared->Prop} (hh:A.handled=some (.ref e)) (he:s.heap.get? e=some o) (hd:o.data=.fields vs) (h2:vs[2]?=some .none) (hit:IsRangeIter s.heap it x n d) (hn:n<=0)
  (q:∀ h',Heap.ExtBut it s.heap h'->Q none { s with heap:=h' }):wpAny (model prog w) A (pyNext (.ref it)) Q E s:=by
 have ty:s.TypeIs (.ref it) "range_iterator" := ⟨_,hit,rfl⟩;unfold pyNext;refine zb (yn (k8 (name:=Str.ofString "__next__") ty PySem.F.slot_range_iterator_next (JJ PySem.F.slot_range_iterator_next ty PySem.F.entry_range_iterator_next ?_ (PySem.F.args_range_iterator_next_1 _))));show wpAny _ _ (field (.ref it) 0 >>= _) _ _ s;refine zb (Q1 hit rfl (x:=rawInt x) rfl ?_);show wpAny _ _ (field (.ref it) 1 >>= _) _ _ s;refine zb (Q1 hit rfl (x:=rawInt n) rfl ?_);show wpAny _ _ (field (.ref it) 2 >>= _) _ _ s;refine zb (Q1 hit rfl (x:=rawInt d) rfl ?_);show wpAny _ _ (if n<=0 then _ else _) _ _ s;rw[zl hn];refine zb (kX (zb ?_));show wpAny _ _ (newExc (.type "StopIteration") [] >>= _) _ _ _;refine zb ?_;simp only[newExc,newTuple];refine zb (ZZ ?_ (by size_fits));refine zb (m:=firstArgMember _ _) (wpAny_of_eq (a:=Value.none) (by first|rfl|(simp only[firstArgMember];rfl)) ?_);refine ZZ ?_ (by size_fits);simp only[raiseNew];refine zb (wpAny_handled ?_)
 first|rw[show A.in1.handled=some (.ref e) from hh]|rw[hh]
 have lt:=zv he;have sz:(s.heap.push { cls:=.type "tuple", data:=.seq #[] }).objs.size=s.heap.objs.size+1:=by simp[Heap.push]
 dsimp only;rw[zl (show(Value.ref e != Value.ref (s.heap.push { cls:=.type "tuple", data:=.seq #[] }).objs.size)=true from by
  rw[sz,bne_iff_ne];intro z;injection z with z;rw[z] at lt;exact absurd lt (Nat.not_lt.mpr (kr _)))]
 have he1:=zd (h:=s.heap) { cls:=.type "tuple", data:=.seq #[] } he;refine zb (qi (Je (zd _ he1) hd h2 ?_));have new:=zt (s.heap.push { cls:=.type "tuple", data:=.seq #[] }) (o:={ cls:=.type "StopIteration", data:=.fields (#[.ref s.heap.objs.size,.none,.none,.none,.bool false,.none]++ownMembersOf (.type "StopIteration") []) }) rfl;unfold updateField;refine zb (zb (KF new ?_));refine Jd (b:=update (s.heap.push { cls:=.type "tuple", data:=.seq #[] }).objs.size (Obj.mapFields λz=>z.setIfInBounds 2 (.ref e))) rfl (wpAny_update new ?_);refine wpAny_throw ?_;refine zb (JI (T := "StopIteration") (b:=true) ⟨_,qB _ new rfl,rfl⟩ isSubtype_stop ?_);refine ze (q _ λb ob hb eb=>?_);have lb:=zv eb;rw[Qr _ _ (by rw[sz];exact Jn (qr lb))];exact zd _ (zd _ eb)
end
structure CV (k:Nat) (a:Addr) (A:Around):Prop where
 hd:A.handled=some (.ref a)
 dp:A.depth+3 * k+5 < recursionLimit
 un:A.units+16 * k+200 < cLine
theorem CV.deeper {k:Nat} {a:Addr} {A:Around} (r:CV (k+1) a A) (env:Env):CV k a (A.deeper env):=
 ⟨r.hd,by have:=r.dp;show A.depth+1+3 * k+5 < _;omega,by have:=r.un;show A.units+3+16 * k+200 < _;omega⟩
theorem fK.inX {k:Nat} {A:Around} (r:fK k A) (a:Addr):CV k a (A.mark (some (.ref a))):=⟨rfl,r.dp,r.un⟩
section
variable {P:Program} {w:World} {K:FG_} {mg:Str->Option Value} {base:Heap}
abbrev cxH (P:Program) (w:World) (K:FG_) (mg:Str->Option Value) (base:Heap) (N:LS_) (qual:Str) (scope:Scope) (f:Addr) (cd:Value) (A:Around) (outer:List Env) (s:Shared) (H:Hp):Cx:=
 { qb vM P w K mg base N qual scope f cd A outer s H E0 with calm:=false,xe:=λ_ _=>False }
theorem abo {A:Around} {outer:List Env} {s:Shared} {H:Hp} {h:Option Value} (e:Aw P w K mg base A outer s H):Aw P w K mg base { A with handled:=h } outer s H:=⟨e.frames,e.mod,e.bs,e.Vd,e.rO,e.Y7,e.hok,e.bare⟩
theorem Qg {N ps:LS_} {qual:Str} {scope:Scope} {f:Addr} {cd:Value} {A:Around} {outer:List Env} {s s1:Shared} {H:Hp} {us:List Value} {vs:List V}
  (S:aY N ps scope) (e0:Aw P w K mg base A outer s H) (hl:vs.length=ps.length) (r:Vals vs us)
  (x:InCallC s s.heap.objs.size (bindL (envOfC qual scope s.heap.objs.size f cd).kindOf (ps.zip us) λ_=>none) (cellsFrom (s.heap.objs.size+1) scope.names []) (bindC (envOfC qual scope s.heap.objs.size f cd).kindOf (ps.zip us) λ_=>none) s1) :
  Inv (cxH P w K mg base N qual scope f cd A outer s H) [] (start N vs) H s1:=by
 have I:Inv (qb vM P w K mg base N qual scope f cd { A with handled:=none } outer s H E0) [] (start N vs) H s1:=Fz S rfl (abo e0) hl r x;exact⟨⟨I.ok.mod,I.ok.kind,I.ok.glob,I.ok.blt,I.ok.above,I.ok.inj,I.ok.has,I.ok.cab,λz=>(by cases z),Around.frames_deeper e0.frames,I.ok.stk,I.ok.exf,I.ok.bs,I.ok.Vd,I.ok.Np,I.ok.Sw,I.ok.rO,I.ok.Y7⟩,I.os,I.bare,I.base,I.loc,I.cell,I.free,I.gZ,I.pin,I.hok,I.len⟩
structure R3 (P:Program) (w:World) (K:FG_) (mg:Str->Option Value) (base:Heap) (k:Nat) (f:Addr) (fd:FuncData) (ps:LS_) (sp:Addr->List V->Hp->VK->Prop):Prop where
 len:∀ a vs H Q,sp a vs H Q->vs.length=ps.length
 run:∀ (a:Addr) (A:Around) (outer:List Env) (s:Shared) (H:Hp) (args:Args) (us:List Value) (vs:List V) (Q:VK),CV k a A->Aw P w K mg base A outer s H->BindsTo s fd args (ps.zip us)->Vals vs us->sp a vs H Q →
  codeAny (model P w) A (.call (.ref f) args) (CR vM outer P w H s Q E0) s
theorem yE.okH {x qual:Str} {st:Stmt} {f:Addr} {fd:FuncData} {N ps:LS_} {k:Nat} {sp:Addr->List V->Hp->VK->Prop} (F:yE K x qual st f fd) (S:aY N ps (aF st)) (len:∀ a vs H Q,sp a vs H Q->vs.length=ps.length)
  (hbody:∀ (cdv:Value) (a:Addr) (A:Around) (outer:List Env) (s:Shared) (H:Hp) (vs:List V) (Q:VK),CV k a (A.deeper (envOfC qual (aF st) s.heap.objs.size f cdv))->sp a vs H Q →
   ∃ t,zL (cxH P w K mg base N qual (aF st) f cdv A outer s H) (dD st) t/\t { nx:=λ_ H'=>Q .non H',rt:=Q } (start N vs) H):R3 P w K mg base (k+1) f fd ps sp:=by
 obtain⟨oc,od,kV,doc,pm,an,cdv,ct,osl,rfl,lk,hcd⟩:=F.ex;refine⟨len,λa A outer s H args us vs Q hr e0 hb r hsp=>?_⟩;have hl:=len _ _ _ _ hsp;have KX:K.In s.heap:=e0.mod.kin.keeps λb o e=>(e0.bs b o e).1;have lim:s.heap.NoLimit:=e0.mod.nolimit.keeps λb o e=>(e0.bs b o e).1;have hkind:∀ y∈ps.zip us,(aF st).names.lookup y.1=some .local\/((aF st).names.lookup y.1=some .cell/\((cellsFrom (s.heap.objs.size+1) (aF st).names []).lookup y.1).isSome=true):=λ⟨n,v⟩ hy=>by
  rcases S.par n (KP hy).1 with q|q
  ·exact .inl q
  ·exact .inr ⟨q,cellsFrom_some _ _ _ (.inl q)⟩
 refine codeAny_call_function (by have:=hr.dp;omega) (KX _ _ lk) rfl S.co S.gen rfl (codeRec_of KX hcd) (hb _ _ _ _ ?_);refine wpAny_newFunctionEnv_cells S.kind hkind λenv he s1 x=>?_;subst he;refine⟨lim.keeps x.toInCall.keep,codeAny_func ?_⟩;obtain⟨t,ht,hq⟩:=hbody cdv a A outer s H vs Q (hr.deeper _) hsp;have I:=Qg (f:=f) (qual:=qual) (cd:=cdv) S e0 hl r x;refine ZN (ht [] s1 (start N vs) H _ I hq) (λfl s' hs=>?_) λe s' hs=>False.elim hs;have fin:∀ {σ':L2.St} {H':Hp} {v:V} {u:Value},Inv (cxH P w K mg base N qual (aF st) f cdv A outer s H) [] σ' H' s'->RelV v u->Q v H'->CE outer P w H s Q u s':=
  λ{σ' H' v u} J rv q=>⟨v,H',J.os,J.bare,J.base,J.hok,rv,q⟩
 cases fl with
 |ret u=>
  obtain⟨v,σ',H',J,rv,q⟩:=hs;exact fin J rv q
 |next=>
  obtain⟨σ',H',J,q⟩:=hs;exact fin (v:=V.non) (u:=Value.none) J rfl q
 |brk=>
  obtain⟨_,_,_,q⟩:=hs;exact False.elim q
 |cont=>
  obtain⟨_,_,_,q⟩:=hs;exact False.elim q
end
section
variable {X:Cx} {k:Nat} {a f:Addr} {fd:FuncData} {ps:LS_} {sp:Addr->List V->Hp->VK->Prop} {x:Str} {p pos:Pos} {e:Expr} {es:List Expr} {t:TA}
def aes (sp:Addr->List V->Hp->VK->Prop) (a:Addr) (t:TA):TE:=λσ H Q=>t σ H λvs H1=>sp a vs H1 Q
theorem Ym (F:R3 X.prog X.w X.K X.mg X.base k f fd ps sp) (hr:CV k a X.A) (hg:Gl X x) (hm:X.mg x=some (.ref f)) (hk:keepIn X.K (.ref f)=true) (hb:Binds X.K fd ps [])
  (ha:PA X (e::es) t) (hdb:(x==("__debug__" : Str))=false:=by decide) (he:starEach (e::es) X.env=(false,eval e X.env)::starEach es X.env:=by rfl) (hpl:(backTo pos (starEach es X.env)).any (·.1)=false:=by rfl) :
  PE X (.Call (.Name x p) (e::es) [] pos) (aes sp a t):=by
 intro pins s σ H Q I h;refine kz (tO I hg hm ?_ hdb);refine yi (h₀:=X.base) I.ok.mod.kin hk (gF (ha pos pins s σ H _ I h) λus s1 ⟨vs,H1,I1,r,q⟩=>⟨I1.Aj,?_⟩) he hpl;have hl:us.length=ps.length:=by rw[<-r.length];exact F.len _ _ _ _ q
 have hb1:=hb s1 us I1.Aj (by rw[QA];exact hl);rw[QA] at hb1;refine k4 (kP (F.run a X.A X.stack s1 H1 ⟨us,[]⟩ us vs Q hr I1.env0 hb1 r q) λr s' hq=>?_);cases r with
 |error e=>exact False.elim hq
 |ok fl=>
  cases fl with
  |ret u=>exact I1.after hq
  |next=>exact False.elim hq
  |brk=>exact False.elim hq
  |cont=>exact False.elim hq
end
def agn (e C d:Addr) (lo:Int) (n:Nat):It:=⟨λi _=>i < n,λi H x H'=>H'=H/\x=.int (lo+i),λi H=>n<=i/\H e=some (Yh e C d)⟩
abbrev hdB (e:Addr):Around->Bool->Prop:=λA _=>A.handled=some (.ref e)
theorem Mj {P:Program} {w:World} {K:FG_} {tg:Expr} (e C d it:Addr) (lo:Int) (n:Nat):J6 (hdB e) P w K tg (agn e C d lo n) [it] it (λi h=>IsRangeIter h it (lo+(i:Nat) * 1) ((n:Int) - (i:Nat)) 1) where
 obj:=λi h st b hb=>by
  have e:b=it:=by simpa using hb
  subst e;exact⟨_,st,λv z=>by
   have z':Data.fields _=Data.cell v:=z;cases z'⟩
 keep:=λi h h' st k=>k it (by simp) _ st
 item:=by
  intro X hP hw hK hc i pins s σ H E I hf st hg;subst hP hw hK;obtain⟨f0,f1,f2,f3,f4,f5⟩:=hf it (by simp);have hi:i < n:=hg;refine wpAny_pyNext_range_item st (by omega) λh' st' sb=>?_;have st1:IsRangeIter h' it (lo+((i+1:Nat):Int) * 1) ((n:Int) - ((i+1:Nat):Int)) 1:=by
   have e1:lo+((i+1:Nat):Int) * 1=lo+(i:Int) * 1+1:=by omega
   have e2:(n:Int) - ((i+1:Nat):Int)=(n:Int) - (i:Int) - 1:=by omega
   rw[e1,e2];exact st'
  refine⟨_,rfl,Aq (n := "range_iterator") st' rfl rfl (by decide) ⟨.int (lo+i),H,I.turned (λb o hb e=>sb.extBut b o (by simpa using hb) e) f0 f1 f3 f4 f5,⟨s.toks,by rw[Int.mul_one]⟩,⟨rfl,rfl⟩,st1,λb hb=>(hf b hb).1⟩⟩
 done:=by
  intro X hP hw hK hc i pins s σ H E I hf st hg;subst hP hw hK;obtain⟨f0,f1,f2,f3,f4,f5⟩:=hf it (by simp);obtain⟨hn,he⟩:=hg;obtain⟨vs,sl,ho,h2⟩:=(I.hok e _ he).1;exact Mi hc ho rfl h2 st (by omega) λh' eb=>⟨rfl,I.turned (t':=s.toks) (λb o hb e=>eb b o hb e) f0 f1 f3 f4 f5⟩
 self:=λ_ _ _ _ _ st h=>wpAny_pyIter_rangeiter st h
theorem Yields.aii {K:FG_} {Hs:Hp} {e C d:Addr} (lo:Int) (n:Nat) (he:Hs e=some (Yh e C d)):Yields K (agn e C d lo n) (yX lo n) Hs:=λi H s=>by
 obtain⟨y1,y2⟩:=Yields.rng (K:=K) (Hs:=Hs) lo n i H s;exact⟨y1,λh=>⟨y2 h,s _ _ he⟩⟩
section
variable {X:Cx} {tgt elt:Expr} {ifs:List Expr} {scope:Scope} {pos p0 p1:Pos} {gt:Dt->Ev->Option Ev} {p:Ev->Option Bool} {fe:Ev->Option Bx} {cl:List (Str×Addr)} {xs:LS_} {is:List Nat} {e:Addr} {a:Expr} {ta:TA}
theorem Us {pins:List (Addr×Obj)} {σ:L2.St} {H:Hp} {s:Shared} {Q:VP_} {E:VP_} {lo hi:Int} {t u v:Tok} {tk:Nat} (I:Inv X pins σ H s) (h1 : -(2 ^ 62)<=lo) (h2:lo < 2 ^ 62) (h3 : -(2 ^ 62)<=hi) (h4:hi < 2 ^ 62)
  (q:∀ it s2,Inv X pins σ H s2->IsRangeIter s2.heap it (lo+((0:Nat):Int) * 1) ((((hi - lo).toNat:Nat):Int) - ((0:Nat):Int)) 1->pq X pins H it->Q (.ref it) s2) :
  wpAny (model X.prog X.w) X.A (pyIter (.ref s.heap.objs.size)) Q E { s with heap:=s.heap.push { cls:=.type "range", data:=.fields #[.int lo t,.int hi u,.int 1 v] },toks:=tk }:=by
 refine wpAny_pyIter_range (IsRange.new ..) (small_one h1 h2 h3 h4) ?_;have I1:Inv X pins σ H { s with heap:=s.heap.push { cls:=.type "range", data:=.fields #[.int lo t,.int hi u,.int 1 v] },toks:=tk }:=I.kept λb o e=>zd _ e;refine q _ _ (I1.kept (t':=tk) λb o e=>zd _ e) ?_ (I1.Sy (zg _) (I1.hok.fresh (zg _)));have e1:lo+((0:Nat):Int) * 1=lo:=by simp
 have e2:(((hi - lo).toNat:Nat):Int) - ((0:Nat):Int)=Builtin.Range.rangeSize lo hi 1:=by rw[rangeSize_one];split<;>omega
 rw[e1,e2];exact zt _ rfl
def aeu (K:FG_) (e:Addr) (gt:Dt->Ev->Option Ev) (p:Ev->Option Bool) (fe:Ev->Option Bx) (is:List Nat) (n j:Nat):TE:=λσ H Q=>∃ ρ C d out,bD K H H σ ρ/\H e=some (Yh e C d)/\vR gt p fe (iz is ρ++List.replicate n none) (yX 0 j)=some out ∧
 ∀ D us H',H D=none->Same H H'->H' D=some (.lst us)->aK K H' out us->Q (.ref D) H'
theorem Yn (ts:LS_) (j:Nat) (hj:j<=100000) (O:oX X scope cl xs is) (hh:X.A.handled=some (.ref e)) (hg:Gl X "range") (hm:X.mg "range" = none) (ha:PA X [a] ta) (hta:∀ σ H R,R [V.int j] H->ta σ H R)
  (Ga:∀ C s₀ H₀ fp,PTg (yZ X (xs++ts) scope cl C s₀ H₀ fp) tgt gt) (hif:∀ C s₀ H₀ fp,Tests (yZ X (xs++ts) scope cl C s₀ H₀ fp) ifs p) (helt:∀ C s₀ H₀ fp,PV (yZ X (xs++ts) scope cl C s₀ H₀ fp) elt fe) (htk:Wb is.length (is.length+ts.length) gt)
  (hst:starEach [a] X.env=[(false,eval a X.env)]:=by rfl) (hs:∀ x,foldedSetIterable (.Call (.Name "range" p0) [a] [] p1) X.env x=pure x:=by intro _;rfl) :
  PE X (.ListComp elt [⟨tgt,.Call (.Name "range" p0) [a] [] p1,ifs,0⟩] scope pos) (aeu X.K e gt p fe is ts.length j):=λpins s σ H Q I h=>by
 obtain⟨ρ,Ce,de,out,E,he,eo,q⟩:=h;rw[eval_ListComp];refine ke (use:=none) rfl hs O.clos O.kind O.names ?_;refine Call_ (Am I hg hm boot_range (PyProof.Rows.callWith_type1 (gF (ha p1 pins s σ H (λvs H1=>vs=[.int j]/\H1=H) I (hta _ _ _ ⟨rfl,rfl⟩)) λus s1 ⟨vs,H1,I1,r1,q1⟩=>?_) hst rfl));obtain⟨rfl,rfl⟩:=q1;cases r1 with
 |cons r rr=>
  cases rr;obtain⟨t,rfl⟩:=r;refine call_range_1 (Us I1 (by omega) (by omega) (by omega) (by omega) λit s2 I2 st fC=>?_);have ej:(((j:Int) - 0).toNat:Nat)=j:=by omega
  rw[ej] at st;refine rW (B:=hdB e) (fp:=[it]) (RR:=λacc C=>compPost (model X.prog X.w) X.A X.xe none (EP X pins σ Q) acc C) (ts:=ts) (xs:=xs) O hh Ga hif helt htk I2 (E.caps is ts.length) (Mj e Ce de it 0 j) st (λb hb=>by
   have z:b=it:=by simpa using hb
   rw[z];exact fC) (Yields.aii 0 j he) (by simpa[yX] using hj) eo ?_
  intro D C s' H' us hD I' fC ⟨m,hn⟩ s2' hD' r';refine⟨m,hn,λh' sb=>⟨.ref D,H',?_,rfl,q D us H' hD s2' hD' r'⟩⟩;obtain⟨f0,f1,f2,f3,f4,f5⟩:=fC;exact I'.turned (t':=s'.toks) (λb o hb e=>(sb.2 b hb).trans e) f0 f1 f3 f4 f5
end
section
variable {X:Cx} {C:Addr} {f x:Str} {E:XK} {e:Expr} {es:List Expr} {fs:Ev->Option (List Bx)} {p cpos pos:Pos}
theorem Yo {k n:Nat} {fa:Addr} {fd:FuncData} {ps:LS_} {Fx:List Bx->Option Dt} (G:iV X.prog X.w X.K X.mg X.base (Nk X.prog X.w) k fa fd ps (spX X.K n Fx C f)) (hr:fK k X.A) (hg:Gl X x) (hm:X.mg x=some (.ref fa)) (hk:keepIn X.K (.ref fa)=true) (hb:Binds X.K fd ps [])
  (Yg:∀ e s,RX X E e s->X.xe e s) (ha:Tf X (e::es) fs)
  (hdb:(x==("__debug__" : Str))=false:=by decide) (he:starEach (e::es) X.env=(false,eval e X.env)::starEach es X.env:=by rfl) (hpl:(backTo cpos (starEach es X.env)).any (·.1)=false:=by rfl)
  (hsw:swapsWith (.Call (.Name x p) (e::es) [] cpos) none pos.line X.env=pure false:=by rfl) :
  QX1 X C f E (.Expr (.Call (.Name x p) (e::es) [] cpos) pos) (acg n Fx fs):=⟨λpins s σ H D I hw=>by
 refine wpAny_Expr_any (ZN (Hj (p:=p) (pos:=cpos) G hr hg hm hk hb .nil (abn Yg) ha.run hdb he hpl pins s σ H (λ_ _=>False) I ?_) (λv s1 h1=>?_) λ_ _ z=>z) I.quiet hsw
 ·obtain⟨H0,ρ,d,Ev,ed,w⟩:=hw;obtain⟨bs,eb,ed⟩:=bind_some ed;split at ed
  ·rename_i hn;refine⟨H0,ρ,bs,Ev,eb,λvs H1 s1 r1=>?_⟩;show spX X.K n Fx C f (vs++[]) H1 _ E;rw[QA];exact⟨by rw[<-Paired.length r1];exact hn,_,d,Bj r1,HN bs,ed,w.rebase (Ev.base.trans s1)⟩
  ·cases ed
 ·obtain⟨_,_,_,_,z⟩:=h1;exact False.elim z⟩
end
theorem Ut {d:Dt} (h:kj d=true):∃ x,d=.str x:=by
 cases d with
 |str x=>exact⟨x,rfl⟩
 |_=>cases h
theorem abp {x:Str} {d:Dt} (h:d∈itX (.str x)):d=eS (asS d):=by
 unfold itX signs at h;obtain⟨c,_,rfl⟩:=List.mem_map.mp h;rfl
theorem abq (x:Str):(itX (.str x)).length=x.length:=Um x
theorem lt_iff (a b:Str):Nj a b=true↔rE a b/\a≠b:=by
 unfold Nj rE;rw[ltCps_eq];simp only[ZU,QU];constructor
 ·intro h;exact⟨List.lt_asymm h,λe=>by subst e;exact List.lt_irrefl _ h⟩
 ·intro⟨h,hn⟩;by_cases q:a.cps.toList < b.cps.toList
  ·exact q
  ·exact absurd (BJ (a:=a) (b:=b) (by unfold rE;rw[ltCps_eq];simpa using h) (by unfold rE;rw[ltCps_eq];simpa using q)) hn
theorem uf {n:Nat} {i:Int} (h:i∈rng 0 n):∃ k:Nat,k < n/\i=(k:Int):=by
 unfold rng at h;obtain⟨k,hk,rfl⟩:=List.mem_map.mp h;exact⟨k,List.mem_range.mp hk,by omega⟩
end P1
end
section
namespace P1
open PySem PySem.Spec PyProof.Rows L2 S1 S6
def same (w:List LS_) (x y:Str):Prop:=∃ s∈w,x∈s/\y∈s
section
variable {α β:Type}
end
end P1
end
section
set_option maxHeartbeats 1000000
namespace P1
open PySem PySem.Spec PyProof.Rows L2
open PySem.Builtin PySem.Builtin.Str
abbrev cs (s:Str):List Nat:=s.cps.toList
theorem Jf (a b:Str):cs (a++b)=cs a++cs b:=Array.toList_append
theorem CW (a:Str):a.length=(cs a).length:=by simp[Str.length]
theorem abr (y p q:Str) (ps:LS_):Str.join y (p::q::ps)=p++y++Str.join y (q::ps):=rfl
theorem Uu {c:Nat} {s:Str} (h:c∈cs s):Ge ⟨#[c]⟩ s=true:=by
 unfold Ge;obtain⟨i,hi⟩:=(mem_iff_at s c).mp h;rcases StrLaws.occ_head s ⟨#[c]⟩ 1 (zg 1) with⟨h0,hn⟩|⟨i,r,h0,_,_⟩
 ·exact absurd hi (hn i)
 ·rw[h0];rfl
theorem Yp {x:Str} {n:Nat} (h:n<=x.length):cs (Txt.slice x (some (n:Int)) none)=(cs x).drop n:=by
 rw[slice_from_eq (b:=x.length) (by omega) (by omega) rfl];show((cs x).drop ((n:Int).toNat)).take _=_;rw[ym,List.take_of_length_le (by rw[ko,<-CW];omega)]
theorem Yq {x:Str} {n:Nat} (h:n<=x.length):cs (Txt.slice x none (some (n:Int)))=(cs x).take n:=by
 have:=slice_closes_to (x:=x) (j:=(n:Int)) ⟨by omega,by rw[show x.cps.toList.length=x.length by simp[Str.length]];omega⟩;rw[eq_of_beq this];show((cs x).drop 0).take _=_;simp
theorem abt:∀ (y p:Str) (ps:LS_),cs (Txt.join y (p::ps))=cs p++ps.flatMap λq=>cs y++cs q:=by
 intro y p ps;rw[show Txt.join y (p::ps)=Str.join y (p::ps) from StrLaws.glued_eq_join y _]
 induction ps generalizing p with
 |nil=>simp[Str.join]
 |cons q ps ih=>rw[abr,Jf,Jf,ih,List.flatMap_cons,kK,kK]
end P1
end
section
set_option maxHeartbeats 1000000
namespace P1
open PySem PySem.Spec PyProof.Rows L2 S1 S6
section
variable {α:Type} [Inhabited α]
end
section
variable {α:Type} {e:α->Dt} [pX e]
end
end P1
end
section
namespace P1
open PySem PySem.Spec PyProof.Rows L2
open PySem.Builtin PySem.Builtin.Str
end P1
end
section
set_option maxHeartbeats 1000000
namespace P1
open PySem PySem.Spec PyProof.Rows L2
open PySem.Builtin PySem.Builtin.Str
end P1
end
section
set_option synthInstance.maxSize 100000
namespace G12
open PySem PySem.Spec PyProof.Rows L2 P1
noncomputable section
abbrev LD_:=List P1.Dt
abbrev bL:Type:=Int×Str×Str×Int
abbrev cY:bL->Dt:=eP4 eI eS eS eI
abbrev pQ:Type:=Str×Str×Int
abbrev Jg:pQ->Dt:=eP3 eS eS eI
abbrev gj:Type:=LS_×(List bL)×(List pQ)
abbrev cR:gj->Dt:=eP3 (eT eS) (eT cY) (eT Jg)
def Qh:List Dt:=[Dt.non,(Dt.bl true),(Dt.int 0),(Dt.str ""),(Dt.str "Zz"),((eL eS) [("a" : Str)]),Dt.emp,(Dt.tup [(Dt.str "a")]),(Dt.str "aaaaaaaaaaaaaaaaaaaa"),(Dt.int 1)]
def top (i:Nat):Stmt:=PySem.Challenge.pw_onefolk_k12_parts_told.main.body.getD i (.Pass ⟨0,0,0,0⟩)
abbrev CZ:Stmt:=top 26
abbrev uJ:Stmt:=top 27
abbrev yP:Stmt:=top 31
abbrev yQ:Stmt:=top 28
abbrev wL:Stmt:=top 29
abbrev yR:Stmt:=top 32
abbrev yS:Stmt:=top 30
abbrev wM:Stmt:=top 21
abbrev wN:Stmt:=top 22
abbrev Dc:Stmt:=top 20
abbrev uK:Stmt:=top 24
abbrev wO:Stmt:=top 23
abbrev Dg:Stmt:=top 18
abbrev Dh:Stmt:=top 15
abbrev wQ:Stmt:=top 13
abbrev GX:Stmt:=top 12
abbrev gP:Stmt:=top 17
abbrev GZ:Stmt:=top 19
abbrev ug:Stmt:=top 16
abbrev wR:Stmt:=top 34
abbrev oZ:Stmt:=top 36
abbrev qZ:Stmt:=top 33
abbrev s_law:Stmt:=top 37
def fuel:Nat:=4
def uL:Ev->Option Out:=(aH (aH (setG 2 (b2 d9 (b2 dh (b2 sy (gv 2) (cB (.int 69621))) (gv 3)) (cB (.int 2147483647)))) iK) (d7 [3]))
def qC:Ev->Option Out:=(aH (HB (zX ltA (gv 1) (cD uF (aq (gv 0) aJ))) (aH (jD (b2 gk (gv 0) (gv 1))) iK) iK) (aH (setG 2 (b2 d9 (b2 sy (cB (.int 48271)) (b2 dh (b2 dh (b2 sy (gv 1) (gv 1)) (b2 sy (cB (.int 7)) (gv 1))) (cB (.int 11)))) (cB (.int 2147483647)))) (aH (pI (itF (HY (gv 0) ji (mY (cB (.int 3))))) (lF 3) uL) (aH (jD (gv 2)) iK))))
def eE:List Bx->Option Bx:=dX 4 qC
def jH:Ev->Option Out:=(aH (aH (setG 3 (b2 d9 (b2 dh (b2 dh (b2 sy (gv 3) (b2 dh (b2 d9 (gv 3) (cB (.int 65521))) (cB (.int 40487)))) (b2 sy (cB (.int 7)) (gv 5))) (cB (.int 5))) (cB (.int 1999999973)))) (aH (Km 2 (b2 gk (cD jV (aq (gv 3) (aq (b2 d9 (gv 4) (cB (.int 1000000))) aJ))) (cD Wr (aq (b2 gtB (gv 4) (cB (.int 0))) aJ)))) (aH (setG 4 (b2 uH (gv 4) (cB (.int 1000000)))) iK))) (d7 [5]))
def jQ:Ev->Option Out:=(aH (setG 2 (cD jV aJ)) (aH (setG 3 (b2 d9 (b2 sy (b2 dh (b2 d9 (gv 0) (cB (.int 1999999973))) (cB (.int 31))) (cB (.int 765432101))) (cB (.int 1999999973)))) (aH (setG 4 (cB (.int 0))) (aH (HB (V2 (zX ltA (gv 0) (cB (.int 0))) (zX geB (gv 0) (b2 adq (cB (.int 10)) (cB (.int 18))))) (aH (aH (setG 4 (cD Wq (aq (gv 0) aJ))) iK) (d7 [])) (aH iK (d7 []))) (aH (pI (JH (aq (gv 1) aJ)) (lF 5) jH) (aH (Ef 2) iK))))))
def cF:List Bx->Option Bx:=dX 6 jQ
def tu:Ev->Option Out:=(aH (aH (Ws 8 9 (aq (b2 gk (gv 5) (gv 7)) (aq (b2 gk (gv 5) (b2 d9 (b2 dh (gv 7) (cB (.int 1))) (cB (.int 30)))) aJ))) (aH (setG 10 (b2 gk (cD jV (aq (cB (.int 5)) (aq (b2 subB (cB (.int 1000)) (gv 7)) (aq (b1 vH (b2 dh (cB (.int 1)) (gv 7))) (aq (b1 vH (b2 dh (cB (.int 1)) (b2 d9 (b2 sy (gv 7) (gv 7)) (cB (.int 9))))) aJ))))) (b2 d9 (gv 2) (cB (.int 4))))) (aH (Km 6 (cD pD (aq (b2 subB (cB (.int 0)) (gv 10)) (aq (b1 vH (cD sW (aq (gv 8) (aq (gv 9) aJ)))) (aq (b1 vH (cD Lf (aq (gv 8) (aq (gv 9) aJ)))) (aq (b2 d9 (gv 7) (cB (.int 3))) aJ)))))) iK))) (d7 [7,8,9,10]))
def oA:Ev->Option Out:=(aH (setG 3 (cB (.str "abcd"))) (aH (setG 4 (dN (JH (aq (cB (.int 30)) aJ)) (lF 1) rD (b2 sy (b2 gk (gv 0) (b2 uH (gv 1) (cB (.int 8)))) (b2 dh (cB (.int 1)) (b2 d9 (gv 1) (cB (.int 8))))) [3] 1)) (aH (setG 5 (dN (JH (aq (cB (.int 30)) aJ)) (lF 2) rD (b2 gk (gv 0) (b2 d9 (b2 dh (b2 sy (cB (.int 7)) (gv 2)) (gv 1)) (cB (.int 30)))) [4,1] 1)) (aH (setG 6 (cD jV aJ)) (aH (pI (JH (aq (b2 dh (cB (.int 29)) (b2 d9 (gv 0) (cB (.int 2)))) aJ)) (lF 7) tu) (aH (jD (cD pD (aq (cD jk (aq (cD yF (aq (gv 4) aJ)) aJ)) (aq (cD jk (aq (dN (Gi (cD sS (aq (gv 6) aJ))) (vO 4 (dF (lF 0) (dF (lF 1) (dF (lF 2) (dF (lF 3) Bh))))) rD (cD pD (aq (b2 subB (cB (.int 0)) (gv 0)) (aq (gv 1) (aq (gv 2) (aq (gv 3) aJ))))) [] 4) aJ)) (aq (cD pD aJ) aJ))))) iK))))))
def oF:List Bx->Option Bx:=dX 11 oA
def nA:Ev->Option Out:=(aH (aH (setG 7 (b2 gk (gv 2) (b2 d9 (b2 dh (gv 6) (b2 gk (gv 0) (cB (.int 2)))) (cB (.int 15))))) (aH (setG 8 (b2 dh (b2 dh (HY (gv 3) ji (mY (gv 4))) (gv 7)) (HY (gv 3) (mY (gv 4)) ji))) (aH (HB (zX eqB (b2 d9 (b2 gk (gv 0) (cB (.int 3))) (cB (.int 3))) (cB (.int 1))) (aH (aH (setG 8 (b2 sy (b2 gk (gv 2) (b2 uH (gv 6) (cB (.int 8)))) (b2 dh (cB (.int 1)) (b2 d9 (gv 6) (cB (.int 8)))))) iK) (d7 [])) (aH iK (d7 []))) (aH (Km 5 (gv 8)) iK)))) (d7 [6,7,8]))
def oG:Ev->Option Out:=(aH (setG 2 (cB (.str "abcdefghijklmnopqrstuvwxyz"))) (aH (setG 3 (b1 (Kq "") (dN (JH (aq (b2 d9 (b2 gk (gv 0) (cB (.int 0))) (cB (.int 6))) aJ)) (lF 2) rD (b2 gk (gv 0) (b2 d9 (b2 uH (b2 gk (gv 1) (gv 2)) (cB (.int 40))) (cB (.int 26)))) [2,0] 1))) (aH (setG 4 (b2 d9 (b2 gk (gv 0) (cB (.int 1))) (b2 dh (cD uF (aq (gv 3) aJ)) (cB (.int 1))))) (aH (setG 5 (cD jV aJ)) (aH (pI (JH (aq (gv 1) aJ)) (lF 6) nA) (aH (Ef 5) iK))))))
def j4:List Bx->Option Bx:=dX 9 oG
def kW:Ev->Option Out:=(aH (aH (setG 9 (cH 2 cF (aq (b1 vH (cH 2 eE (aq (gv 0) (aq (b1 vH (b2 dh (b2 dh (gv 1) (cB (.int 1))) (gv 8))) aJ)))) (aq (cB (.int 4)) aJ)))) (aH (Ws 10 11 (aq (b2 d9 (b2 gk (gv 9) (cB (.int 0))) (cD Ej (aq (cB (.int 1)) (aq (gv 2) aJ)))) (aq (b2 d9 (b2 gk (gv 9) (cB (.int 1))) (cD Ej (aq (cB (.int 1)) (aq (gv 2) aJ)))) aJ))) (aH (setG 12 (b2 gk (cD jV (aq (b1 vH (b2 dh (cB (.int 1)) (b2 d9 (b2 gk (gv 9) (cB (.int 2))) (cB (.int 3))))) (aq (b1 vH (b2 dh (cB (.int 1)) (b2 d9 (b2 gk (gv 9) (cB (.int 2))) (cB (.int 9))))) (aq (b1 vH (b2 dh (cB (.int 1)) (b2 d9 (b2 gk (gv 9) (cB (.int 2))) (cB (.int 1000))))) aJ)))) (b2 d9 (b2 gk (gv 5) (cB (.int 4))) (cB (.int 3))))) (aH (HB (zX Tr (gv 10) (gv 11)) (aH (aH (Km 7 (cD pD (aq (b2 subB (cB (.int 0)) (gv 12)) (aq (b2 gk (gv 6) (cD Om (aq (gv 10) (aq (gv 11) aJ)))) (aq (b2 gk (gv 6) (cD Ej (aq (gv 10) (aq (gv 11) aJ)))) (aq (b2 gk (cD jV (aq (cB (.int 0)) (aq (cB (.int 2)) (aq (cB (.int 10)) aJ)))) (b2 d9 (b2 gk (gv 9) (cB (.int 3))) (cB (.int 3)))) aJ)))))) iK) (d7 [])) (aH iK (d7 []))) iK)))) (d7 [8,9,10,11,12]))
def kY:Ev->Option Out:=(aH (aH (setG 9 (cH 2 cF (aq (b1 vH (cH 2 eE (aq (gv 0) (aq (b1 vH (b2 dh (b2 dh (gv 1) (cB (.int 1))) (gv 8))) aJ)))) (aq (cB (.int 8)) aJ)))) (aH (Ws 10 11 (aq (b2 d9 (b2 gk (gv 9) (cB (.int 5))) (cD Ej (aq (cB (.int 1)) (aq (gv 2) aJ)))) (aq (b2 d9 (b2 gk (gv 9) (cB (.int 6))) (cD Ej (aq (cB (.int 1)) (aq (gv 2) aJ)))) aJ))) (aH (HB (zX Tr (gv 10) (gv 11)) (aH (aH (Km 14 (cD pD (aq (b2 gk (gv 6) (cD Om (aq (gv 10) (aq (gv 11) aJ)))) (aq (b2 gk (gv 6) (cD Ej (aq (gv 10) (aq (gv 11) aJ)))) (aq (b2 gk (cD jV (aq (cB (.int 2)) (aq (cB (.int 10)) aJ))) (b2 d9 (b2 gk (gv 9) (cB (.int 7))) (cB (.int 2)))) aJ))))) iK) (d7 [])) (aH iK (d7 []))) iK))) (d7 [8,9,10,11]))
def lM:Ev->Option Out:=(aH (setG 5 (cH 2 cF (aq (b1 vH (cH 2 eE (aq (gv 0) (aq (gv 1) aJ)))) (aq (cB (.int 6)) aJ)))) (aH (setG 6 (cD yF (aq (cH 2 j4 (aq (gv 5) (aq (gv 2) aJ))) aJ))) (aH (setG 7 (cD jV aJ)) (aH (pI (JH (aq (gv 3) aJ)) (lF 8) kW) (aH (setG 13 (dN (Gi (Cg (O9 (gv 7)))) (vO 4 (dF (lF 0) (dF (lF 1) (dF (lF 2) (dF (lF 3) Bh))))) rD (cD pD (aq (b2 subB (cB (.int 0)) (gv 0)) (aq (gv 1) (aq (gv 2) (aq (gv 3) aJ))))) [] 4)) (aH (setG 14 (cD jV aJ)) (aH (pI (JH (aq (gv 4) aJ)) (lF 8) kY) (aH (jD (cD pD (aq (cD jk (aq (gv 6) aJ)) (aq (cD jk (aq (gv 13) aJ)) (aq (cD jk (aq (Cg (O9 (gv 14))) aJ)) aJ))))) iK))))))))
def lN:List Bx->Option Bx:=dX 15 lM
def oH:Ev->Option Out:=(aH (setG 1 (cH 2 cF (aq (b1 vH (cH 2 eE (aq (gv 0) (aq (cB (.int 0)) aJ)))) (aq (cB (.int 12)) aJ)))) (aH (HB (zX eqB (b2 d9 (b2 gk (gv 1) (cB (.int 9))) (cB (.int 16))) (cB (.int 5))) (aH (jD (cH 3 oF (aq (b2 uH (b2 gk (gv 1) (cB (.int 9))) (cB (.int 16))) (aq (b2 gk (gv 1) (cB (.int 10))) (aq (b2 gk (gv 1) (cB (.int 11))) aJ))))) iK) iK) (aH (setG 2 (b2 d9 (b2 gk (gv 1) (cB (.int 6))) (cB (.int 15)))) (aH (jD (cH 5 lN (aq (gv 0) (aq (cB (.int 0)) (aq (gv 2) (aq (b2 d9 (b2 gk (gv 1) (cB (.int 7))) (cB (.int 22))) (aq (b2 d9 (b2 gk (gv 1) (cB (.int 8))) (cB (.int 4))) aJ))))))) iK))))
def oJ:List Bx->Option Bx:=dX 3 oH
def tB:Ev->Option Out:=(aH (aH (setG 7 (b2 gk (dN (Gi (gv 2)) (lF 1) (zX inF (gv 0) (gv 1)) (gv 1) [4] 1) (cB (.int 0)))) (aH (setG 8 (b2 gk (dN (Gi (gv 2)) (lF 1) (zX inF (gv 0) (gv 1)) (gv 1) [5] 1) (cB (.int 0)))) (aH (HB (zX Tr (gv 7) (gv 8)) (aH (aH (setG 2 (b2 dh (dN (Gi (gv 2)) (lF 2) (zX Xj (gv 2) (cD jV (aq (gv 0) (aq (gv 1) aJ)))) (gv 2) [7,8] 1) (cD jV (aq (b1 vH (cD yF (aq (b2 dh (gv 7) (gv 8)) aJ))) aJ)))) iK) (d7 [])) (aH iK (d7 []))) iK))) (d7 [3,4,5,6,7,8]))
def oK:Ev->Option Out:=(aH (setG 2 (dN (Gi (gv 0)) (lF 0) rD (b1 vH (cD jV (aq (gv 0) aJ))) [] 1)) (aH (uD 1 (vO 4 (dF (lF 3) (dF (lF 4) (dF (lF 5) (dF (lF 6) Bh))))) tB) (aH (jD (cD sS (aq (dN (Gi (gv 2)) (lF 0) rD (cD jk (aq (gv 0) aJ)) [] 1) aJ))) iK)))
def oM:List Bx->Option Bx:=dX 9 oK
def lO:Ev->Option Out:=(aH (jD (Rr (Gi (gv 0)) (lF 0) rD (gv 0) (gv 0) [] 1)) iK)
def lQ:List Bx->Option Bx:=dX 1 lO
def q8:Ev->Option Out:=(aH (aH (HB (V2 (zX eqB (b2 qX (gv 0) (gv 4)) (gv 1)) (zX eqB (b2 qX (gv 0) (gv 4)) (gv 2))) (aH (aH (Ww 0 (gv 3) (gv 4)) iK) (d7 [])) (aH iK (d7 []))) iK) (d7 [4]))
def lR:Ev->Option Out:=(aH (aH (setG 3 (cD sW (aq (gv 1) (aq (gv 2) aJ)))) (aH (pI (itF (cD Ck (aq (gv 0) aJ))) (lF 4) q8) iK)) (d7 [3,4]))
def jt:Addr->List (Key×Dt)->List Bx->Option (List (Key×Dt)):=Lg 5 lR
def uM:Ev->Option Out:=(aH (aH (Cp 2 2 jt (aq (b2 qX (gv 2) (gv 4)) (aq (b2 qX (gv 2) (gv 5)) aJ))) iK) (d7 [3,4,5,6]))
def qD:Ev->Option Out:=(aH (setG 2 (cH 1 lQ (aq (gv 0) aJ))) (aH (uD 1 (vO 4 (dF (lF 3) (dF (lF 4) (dF (lF 5) (dF (lF 6) Bh))))) uM) (aH (Ef 2) iK)))
def jJ:List Bx->Option Bx:=dX 7 qD
def jR:Ev->Option Out:=(aH (jD (cD jk (aq (dN (La (gv 0)) (lF 2) (zX eqB (b2 qX (gv 1) (gv 2)) (gv 0)) (gv 2) [1,0] 1) aJ))) iK)
def fY:List Bx->Option Bx:=dX 2 jR
def lU:Ev->Option Out:=(aH (jD (dN (La (gv 0)) (lF 1) (zX eqB (b2 qX (gv 0) (gv 1)) (gv 1)) (b1 vH (cH 2 fY (aq (gv 0) (aq (gv 1) aJ)))) [0] 1)) iK)
def lV:List Bx->Option Bx:=dX 1 lU
def qF:Ev->Option Out:=(aH (jD (cH 1 lV (aq (cH 2 jJ (aq (gv 0) (aq (gv 1) aJ))) aJ))) iK)
def qG:List Bx->Option Bx:=dX 2 qF
def qH:Ev->Option Out:=(aH (jD (cH 2 qG (aq (b2 gk (gv 0) (cB (.int 0))) (aq (b2 gk (gv 0) (cB (.int 1))) aJ)))) iK)
def nC:List Bx->Option Bx:=dX 1 qH
def lW:Ev->Option Out:=(aH (jD (V4 (Bu kj (gv 0)) (V4 (ch3 leB leB (cB (.int 1)) (cD uF (aq (gv 0) aJ)) (gv 2)) (cD allB (aq (dN (Gi (gv 0)) (lF 1) rD (b2 inF (gv 1) (gv 0)) [1] 1) aJ))))) iK)
def lX:List Bx->Option Bx:=dX 3 lW
def uh:Ev->Option Out:=(aH (jD (cH 3 lX (aq (gv 0) (aq (cB (.str "abcdefghijklmnopqrstuvwxyz")) (aq (cB (.int 8)) aJ))))) iK)
def jK:List Bx->Option Bx:=dX 1 uh
def gQ:Ev->Option Out:=(aH (aH (HB (V2 (J3 (tV (cH 1 jK (aq (gv 1) aJ)))) (zX Tv (gv 1) (b2 gk (gv 0) (cB (.int 0))))) (aH noG iK) iK) iK) (d7 []))
def gR:List Bx->Option Bx:=dX 2 gQ
def um:Ev->Option Out:=(aH (setG 3 (cH 2 jJ (aq (gv 0) (aq (gv 1) aJ)))) (aH (jD (cH 2 fY (aq (gv 3) (aq (b2 qX (gv 3) (gv 2)) aJ)))) iK))
def uo:List Bx->Option Bx:=dX 4 um
def uq:Ev->Option Out:=(aH (Rx (cH 2 gR (aq (gv 0) (aq (gv 1) aJ)))) (aH (jD (cH 3 uo (aq (b2 gk (gv 0) (cB (.int 0))) (aq (b2 gk (gv 0) (cB (.int 1))) (aq (gv 1) aJ))))) iK))
def ur:List Bx->Option Bx:=dX 2 uq
def lY:Ev->Option Out:=(aH (setG 3 (cB (.str "abcdefghijklmnopqrstuvwxyz0123456789 ABCDEFGHIJKLMNOPQRSTUVWXYZ"))) (aH (setG 3 (b2 dh (gv 3) (cB (.str "!#$&'()*+,-./:;<=>?\x40[]^_`{|}~\"\\")))) (aH (setG 4 (b2 gk (gv 3) (b2 d9 (b2 uH (gv 2) (cB (.int 6))) (b2 gk (cD jV (aq (cB (.int 36)) (aq (cB (.int 94)) aJ))) (b2 d9 (b2 uH (gv 2) (cB (.int 3))) (cB (.int 2))))))) (aH (setG 5 (b2 d9 (gv 1) (b2 dh (cD uF (aq (gv 0) aJ)) (cB (.int 1))))) (aH (jD (b2 gk (cD jV (aq (b1 vH (b2 dh (b2 dh (HY (gv 0) ji (mY (gv 5))) (gv 4)) (HY (gv 0) (mY (gv 5)) ji))) (aq (b1 vH (b2 dh (b2 dh (HY (gv 0) ji (mY (gv 5))) (gv 4)) (HY (gv 0) (mY (b2 dh (gv 5) (cB (.int 1)))) ji))) (aq (b1 vH (b2 dh (HY (gv 0) ji (mY (gv 5))) (HY (gv 0) (mY (b2 dh (gv 5) (cB (.int 1)))) ji))) aJ)))) (b2 d9 (gv 2) (cB (.int 3))))) iK)))))
def lZ:List Bx->Option Bx:=dX 6 lY
def Yr:Ev->Option Bool:=V2 (J3 (tV (cH 1 jK (aq (gv 1) aJ)))) (zX Tv (gv 1) (b2 gk (gv 0) (cB (.int 0))))
def G3:Ev->Option Dt:=ifX Yr (rzX (λ_=>true) (gv 1)) (λ_=>none)
def G4:Ev->Option Dt:=acg 2 (wK 2 G3) (aq (gv 0) (aq (gv 1) aJ))
def Ml:Bx->Option Bx
 |.z (.bl true)=>some (.z (.bl true))
 |_=>none
def eF:List Bx->Option Bx
 |[b0,b1]=>(wK 2 G4 [b0,b1]).bind λd=>(eqB (.z d) b1).bind Ml
 |_=>none
def iM:Ev->Option Out:=(aH (setG 1 (cD jV (aq (cB .non) (aq (cB (.bl true)) (aq (cB (.int 0)) (aq (cB (.str "")) (aq (cB (.str "Zz")) (aq (b1 vH (cD jV (aq (cB (.str "a")) aJ))) (aq (cB .emp) (aq (cD pD (aq (cB (.str "a")) aJ)) (aq (cB (.str "aaaaaaaaaaaaaaaaaaaa")) (aq (cB (.int 1)) aJ)))))))))))) (aH (jD (b2 dh (b2 dh (gv 1) (dN (Gi (HY (gv 0) ji (mY (cB (.int 1))))) (lF 0) rD (b1 vH (b2 dh (gv 0) (cB (.str "q")))) [] 1)) (dN (Gi (HY (gv 0) ji (mY (cB (.int 1))))) (lF 0) rD (b1 vH (cD jV (aq (gv 0) aJ))) [] 1))) iK))
def iQ:List Bx->Option Bx:=dX 2 iM
def Mp:Ev->Option Out:=(aH (aH (HB (zX Tr (cH 2 ur (aq (gv 1) (aq (gv 5) aJ))) (gv 4)) (aH (jD (cB (.bl false))) iK) iK) iK) (d7 [5]))
def Mq:Ev->Option Out:=(aH (aH (uD 4 (lF 5) Mp) iK) (d7 [4,5]))
def Mr:Ev->Option Out:=(aH (aH (setG 5 (cH 3 lZ (aq (b2 gk (b2 gk (gv 1) (cB (.int 0))) (b2 d9 (b2 gk (gv 6) (gv 7)) (cD uF (aq (b2 gk (gv 1) (cB (.int 0))) aJ)))) (aq (b2 gk (gv 6) (b2 dh (cB (.int 4)) (gv 7))) (aq (b2 uH (b2 gk (gv 6) (b2 subB (cB (.int 3)) (gv 7))) (cB (.int 30))) aJ))))) (aH (HB (V1 (zX Tv (gv 5) (b2 gk (gv 1) (cB (.int 0)))) (J3 (tV (cH 2 eF (aq (gv 1) (aq (gv 5) aJ)))))) (aH (jD (cB (.bl false))) iK) iK) iK)) (d7 [7,5]))
def R4:Ev->Option Out:=(aH (setG 1 (cH 1 oJ (aq (gv 0) aJ))) (aH (setG 2 (cH 2 oM (aq (b2 gk (gv 1) (cB (.int 0))) (aq (b2 gk (gv 1) (cB (.int 1))) aJ)))) (aH (setG 3 (cH 1 nC (aq (gv 1) aJ))) (aH (HB (V2 (J3 (tV (Bu is_list (gv 3)))) (V2 (zX Tr (gv 3) (gv 2)) (J3 (tV (cD allB (aq (dN (Gi (gv 3)) (lF 0) rD (b1 vH (Bu jY (gv 0))) [] 1) aJ)))))) (aH (jD (cB (.bl false))) iK) iK) (aH (Km 3 (cD pD aJ)) (aH (HB (V2 (zX Tr (cH 1 nC (aq (gv 1) aJ)) (gv 2)) (zX Tr (gv 3) (b2 dh (gv 2) (cD jV (aq (cD pD aJ) aJ))))) (aH (jD (cB (.bl false))) iK) iK) (aH (uD 2 (lF 4) Mq) (aH (setG 6 (HY (cH 2 cF (aq (b1 vH (cH 2 eE (aq (gv 0) (aq (cB (.int 0)) aJ)))) (aq (cB (.int 20)) aJ))) (mY (cB (.int 12))) ji)) (aH (pI (JH (aq (cD Om (aq (cB (.int 4)) (aq (cD uF (aq (b2 gk (gv 1) (cB (.int 0))) aJ)) aJ))) aJ)) (lF 7) Mr) (aH (jD (cD allB (aq (dN (Gi (cH 1 iQ (aq (b2 gk (gv 1) (cB (.int 0))) aJ))) (lF 1) rD (b1 vH (cH 2 eF (aq (gv 0) (aq (gv 1) aJ)))) [1] 1) aJ))) iK))))))))))
def F_law:List Bx->Option Bx:=dX 8 R4
end
end G12
end
section
set_option synthInstance.maxSize 100000
namespace G12
open PySem PySem.Spec PyProof.Rows L2 P1
abbrev qI:Stmt:=top 35
abbrev Qi:Stmt:=match top 2 with
 |.ClassDef _ _ _ b _ _ _ _ _ _ _=>b.getD 0 (.Pass ⟨0,0,0,0⟩)
 |s=>s
section
variable {fI:Addr} {fdI:FuncData} {P:Program} {w:World} {K:FG_} {mg:Str->Option Value} {base:Heap} {FE D c0 c1 c2 c3 c4 c5 c6 f_o:Addr} {abu:FuncData}
def spO (D:Addr) (n:Nat):Addr->List V->Hp->VK->Prop:=λa vs H Q=>vs=[.ref a,.int n]/\∃ d fs,H a=some (Yh a D d)/\H d=some (.xd fs)/\∀ H',Same H H'->Q (.bl true) H'
theorem R5:aY ["_law_e", "_law_at", "_law_kinds"] ["_law_e", "_law_at"] (aF qI):=jF
theorem abv (F:yE K "_law_only" "_law_only" qI f_o abu) (hget:sZ K D=true) (m0:mg "NoName" = some (.ref c0)) (m1:mg "NoText" = some (.ref c1)) (m2:mg "NoReason" = some (.ref c2)) (m3:mg "NoUndo" = some (.ref c3)) (m4:mg "NoRoom" = some (.ref c4)) (m5:mg "NoStep" = some (.ref c5)) (m6:mg "NoRow" = some (.ref c6)) (mF:mg "FolkError" = some (.ref FE))
  (h0:kitOne K (.ref D) (.ref c0)=some true) (h1:kitOne K (.ref D) (.ref c1)=some false) (h2:kitOne K (.ref D) (.ref c2)=some false) (h3:kitOne K (.ref D) (.ref c3)=some false) (h4:kitOne K (.ref D) (.ref c4)=some false) (h5:kitOne K (.ref D) (.ref c5)=some false) (h6:kitOne K (.ref D) (.ref c6)=some false)
  (hF:kitOne K (.ref D) (.ref FE)=some true) (hve:kitOne K (.ref D) (.type "ValueError")=some true) (bO:mg "isinstance" = none) (aev:mg "ValueError" = none) (iR:mg "range" = none) :
  R3 P w K mg base 1 f_o abu ["_law_e", "_law_at"] (spO D 0):=by
 refine yE.okH (k:=0) F R5 (λa vs H Q h=>by rw[h.1];rfl) λcdv a A outer s H vs Q hr hsp=>?_;have nd:=R5.nd;have hu:(A.deeper (envOfC "_law_only" (aF qI) s.heap.objs.size f_o cdv)).units+100 < cLine:=by have:=hr.un;omega
 have hC:∀ C,C∈[D]->sZ K C=true:=λC z=>by rw[List.mem_singleton.mp z];exact hget
 refine⟨_,(by exact(o9 (Ao (i:=2) nd rfl (.inl rfl) (NK (aV (dZ (jr (Cs:=[D]) hC) rfl bO rfl (aV (pv 0) (aV (jf (v:=.ref c0) rfl m0 rfl) dJ))) (aV (dZ (jr (Cs:=[D]) hC) rfl bO rfl (aV (pv 0) (aV (jf (v:=.ref c1) rfl m1 rfl) dJ))) (aV (dZ (jr (Cs:=[D]) hC) rfl bO rfl (aV (pv 0) (aV (jf (v:=.ref c2) rfl m2 rfl) dJ))) (aV (dZ (jr (Cs:=[D]) hC) rfl bO rfl (aV (pv 0) (aV (jf (v:=.ref c3) rfl m3 rfl) dJ))) dJ)))))) (o9 (Ao (i:=2) nd rfl (.inl rfl) (abL ac4 (pv 2) (NK (aV (dZ (jr (Cs:=[D]) hC) rfl bO rfl (aV (pv 0) (aV (jf (v:=.ref c4) rfl m4 rfl) dJ))) (aV (dZ (jr (Cs:=[D]) hC) rfl bO rfl (aV (pv 0) (aV (jf (v:=.ref c5) rfl m5 rfl) dJ))) (aV (dZ (jr (Cs:=[D]) hC) rfl bO rfl (aV (pv 0) (aV (jf (v:=.ref c6) rfl m6 rfl) dJ))) dJ))))))
  (zN (Hh (Hg (dZ (jr (Cs:=[D]) hC) rfl bO rfl (aV (pv 0) (aV (jf (v:=.ref FE) rfl mF rfl) dJ))) (Hg (dZ (jr (Cs:=[D]) hC) rfl bO rfl (aV (pv 0) (aV (zM (v:=.ty "ValueError") rfl aev rfl rfl) dJ))) (Nr (Hi (of_eq hu) (pv 2) (Yn (e:=a) ["_law_k"] 7 (by decide) (qp ["_law_at"] [1]) hr.hd rfl iR (aV Nq dJ) (λ_ _ _ q=>q) (λ_ _ _ _=>(aW 1 (by show List.Nodup (_++_);decide +kernel)).run) (λ_ _ _ _=>cI.run) (λ_ _ _ _=>(N6 (of_eq hu) (ak 1) (ak 0) (fD _)).run) bZ) (fD _)))))))))),?_⟩
 obtain⟨rfl,d,fs,ea,ed,q⟩:=hsp;refine⟨.ref a,rfl,a,D,d,fs,_,_,List.mem_singleton.mpr rfl,rfl,ea,ed,.inl ⟨c0,rfl,h0⟩,?_⟩;refine⟨.ref a,rfl,a,D,d,fs,_,_,List.mem_singleton.mpr rfl,rfl,ea,ed,.inl ⟨c1,rfl,h1⟩,?_⟩;refine⟨.ref a,rfl,a,D,d,fs,_,_,List.mem_singleton.mpr rfl,rfl,ea,ed,.inl ⟨c2,rfl,h2⟩,?_⟩;refine⟨.ref a,rfl,a,D,d,fs,_,_,List.mem_singleton.mpr rfl,rfl,ea,ed,.inl ⟨c3,rfl,h3⟩,?_⟩;refine⟨(show 4<=sizeLine by decide +kernel),λp hp=>?_⟩;have s1:Same H (upd H p (.lst [.bl true,.bl false,.bl false,.bl false])):=bG hp;have ea1:=s1 _ _ ea;have ed1:=s1 _ _ ed;refine⟨.ref p,rfl,?_⟩;refine⟨.ref a,rfl,a,D,d,fs,_,_,List.mem_singleton.mpr rfl,rfl,ea1,ed1,.inl ⟨c4,rfl,h4⟩,?_⟩;refine⟨.ref a,rfl,a,D,d,fs,_,_,List.mem_singleton.mpr rfl,rfl,ea1,ed1,.inl ⟨c5,rfl,h5⟩,?_⟩;refine⟨.ref a,rfl,a,D,d,fs,_,_,List.mem_singleton.mpr rfl,rfl,ea1,ed1,.inl ⟨c6,rfl,h6⟩,?_⟩;refine⟨(show 3<=sizeLine by decide +kernel),λp2 hp2=>?_⟩;have s2:=bG (o:=.lst [.bl false,.bl false,.bl false]) hp2;refine⟨p,p2,[.bl true,.bl false,.bl false,.bl false],[.bl false,.bl false,.bl false],rfl,rfl,s2 _ _ aQ,aQ,(show 7<=sizeLine by decide +kernel),λp3 hp3=>?_⟩;have s3:=bG (o:=.lst ([V.bl true,.bl false,.bl false,.bl false]++[.bl false,.bl false,.bl false])) hp3;have ss:=s1.trans (s2.trans s3);have ea3:=ss _ _ ea;have ed3:=ss _ _ ed;have eu:upd _ p3 _ p3=some (HO.lst ([V.bl true,.bl false,.bl false,.bl false]++[.bl false,.bl false,.bl false])):=aQ (H:=upd (upd H p (.lst [.bl true,.bl false,.bl false,.bl false])) p2 (.lst [.bl false,.bl false,.bl false]));generalize upd (upd (upd H p (.lst [.bl true,.bl false,.bl false,.bl false])) p2 (.lst [.bl false,.bl false,.bl false])) p3 (.lst ([V.bl true,.bl false,.bl false,.bl false]++[.bl false,.bl false,.bl false]))=H3 at *
 refine⟨.ref a,rfl,a,D,d,fs,_,_,List.mem_singleton.mpr rfl,rfl,ea3,ed3,.inl ⟨FE,rfl,hF⟩,true,rfl,?_⟩;show(if true=true then _ else _);rw[zl rfl];refine⟨.ref a,rfl,a,D,d,fs,_,_,List.mem_singleton.mpr rfl,rfl,ea3,ed3,.inr (.inl ⟨"ValueError", rfl,hve⟩),true,rfl,?_⟩;show(if true=true then _ else _);rw[zl rfl];refine⟨.ref p3,rfl,[none,some (.z (.int 0)),none],D,d,[.bl true,.bl false,.bl false,.bl false,.bl false,.bl false,.bl false],?_,ea3,rfl,λDd us H4 hD s4 hD4 r4=>?_⟩
 ·refine⟨rfl,λk b z=>?_,λk j c a b z hc=>?_,Same.refl H3,λk c a z hc=>?_⟩
  ·match k with
   |0=>cases z
   |1=>cases z;exact⟨_,rfl,by simp only[bf,Rep];rfl⟩
   |2=>cases z
   |_+3=>cases z
  ·match k with
   |0=>cases z
   |1=>cases z;cases hc
   |2=>cases z
   |_+3=>cases z
  ·match k with
   |0=>cases z
   |1=>cases z;cases hc
   |2=>cases z
   |_+3=>cases z
 ·refine⟨.o [.bl true,.bl false,.bl false,.bl false,.bl false,.bl false,.bl false],.o [.bl true,.bl false,.bl false,.bl false,.bl false,.bl false,.bl false],.z (.bl true),⟨p3,_,rfl,s4 _ _ eu,?_⟩,⟨Dd,us,rfl,hD4,r4⟩,rfl,λw H5 s5 _ rw5=>?_⟩
  ·have b:∀ c,Rep K H4 (.bl c) (.bl c):=λc=>by simp only[Rep]
   exact aK.cons (b _) (aK.cons (b _) (aK.cons (b _) (aK.cons (b _) (aK.cons (b _) (aK.cons (b _) (aK.cons (b _) aK.nil))))))
  ·obtain rfl:w=.bl true:=by simpa only[bf,Rep] using rw5
   exact q H5 (ss.trans (s4.trans s5))
theorem abw:aY ["self", "name"] ["self", "name"] (aF Qi):=jF
theorem abx (F:yE K "__init__" "NoName.__init__" Qi fI fdI) (hx:Yc K D fI veM "ValueError.__new__" = true) (aer:setIn K D "name" = true) (hm:mg "FolkError" = some (.ref FE)) (hb:R0 K FE "ValueError.__init__") :
  iV P w K mg base vM 1 fI fdI ["self", "name"] (spI D "name" λ_=>True):=by
 refine abl (k:=0) (fa:=cB (.str "this name is refused")) (ρ0:=λ_=>[none,none]) F abw PySem.F.excBase_ValueError hx aer hm hb (by decide +kernel) rfl (λv _=>⟨_,rfl,λH e=>⟨rfl,λi b z=>?_,λi j c a b z=>?_,Same.refl H,λi c a z=>?_⟩⟩) λcdv A outer s H E X eX hr=>?_
 ·match i with
  |0=>cases z
  |1=>cases z
  |_+2=>cases z
 ·match i with
  |0=>cases z
  |1=>cases z
  |_+2=>cases z
 ·match i with
  |0=>cases z
  |1=>cases z
  |_+2=>cases z
 ·subst eX;exact⟨rfl,m9,pv 0,pv 0,pv 1,by decide,rfl,rfl,rfl,rfl,rfl,_,rfl⟩
variable {yc Ys Qj ago:Addr} {Di R6 R7 ach:FuncData}
theorem agp:aY ["ground", "name"] ["ground", "name"] (aF gP):=jF
theorem agq (F:yE K "refuse_no_name" "refuse_no_name" gP Ys R6) (iZ:iV P w K mg base vM 2 yc Di ["thing"] (Z8 K 1 jK)) (Uv:mg "is_name" = some (.ref yc)) (Uw:keepIn K (.ref yc)=true) (Ux:Binds K Di ["thing"] [])
  (hx:Yc K D fI veM "ValueError.__new__" = true) (hk:keepIn K (.ref D)=true) (aew:iV P w K mg base vM 1 fI fdI ["self", "name"] (spI D "name" λ_=>True)) (hb:Binds K fdI ["self", "name"] []) (hm:mg "NoName" = some (.ref D)) :
  iV P w K mg base (Nk P w) 3 Ys R6 ["ground", "name"] (spX K 2 (wK 2 G3) D "name"):=by
 refine acf (k:=2) (gx:=G3) F agp rfl rfl λcdv A outer s H E hr Yg hp=>?_;exact CT (agk (N7 (uV (Bb (Ba (Q0 iZ (hr.mono (by decide)) rfl Uv Uw Ux (aj (ak 1) aC)))) (tY (dY Bq (ak 1) (bB (ak 0) aB) (by with_unfolding_all rfl))))) (CT (Yj (okX:=λ_=>true) PySem.F.excBase_ValueError hx (by decide) hk aew hb (hr.mono (by decide)) rfl hm Yg (ak 1) (λ_ _ _ _ _ _=>trivial))) Yk)
theorem agr:aY ["ground", "name"] ["ground", "name"] (aF ug):=jF
theorem ags (F:yE K "part_of" "part_of" ug Qj R7) (G:iV P w K mg base (Nk P w) 3 Ys R6 ["ground", "name"] (spX K 2 (wK 2 G3) D "name")) (aio:mg "refuse_no_name" = some (.ref Ys)) (aip:keepIn K (.ref Ys)=true) (aiq:Binds K R6 ["ground", "name"] []) :
  iV P w K mg base (Nk P w) 4 Qj R7 ["ground", "name"] (spX K 2 (wK 2 G4) D "name"):=by
 refine acf (k:=3) (gx:=G4) F agr rfl rfl λcdv A outer s H E hr Yg hp=>?_;exact CT (Yo G (hr.mono (by decide)) rfl aio aip aiq Yg (aj (ak 0) (aj (ak 1) aC)))
theorem aci:aY ["_law_ground_here", "_law_name", "_law_refused_here", "_law_e"] ["_law_ground_here", "_law_name"] (aF oZ):=jF
theorem Qk {b r:Bx} (h:Ml b=some r):b=.z (.bl true)/\r=.z (.bl true):=by
 unfold Ml at h;split at h
 ·cases h;exact⟨rfl,rfl⟩
 ·cases h
theorem Ql (F:yE K "_law_refused" "_law_refused" oZ ago ach) (G:iV P w K mg base (Nk P w) 4 Qj R7 ["ground", "name"] (spX K 2 (wK 2 G4) D "name")) (air:mg "part_of" = some (.ref Qj)) (ais:keepIn K (.ref Qj)=true) (ait:Binds K R7 ["ground", "name"] [])
  (Yt:mg "FolkError" = some (.ref FE)) (hex:exmOne K (.ref D) (.ref FE)=some true) (hget:sZ K D=true) (hfn:findIn K (.ref D) "name" = some none) (GO:R3 P w K mg base 1 f_o abu ["_law_e", "_law_at"] (spO D 0)) (m_o:mg "_law_only" = some (.ref f_o)) (k_o:keepIn K (.ref f_o)=true) (b_o:Binds K abu ["_law_e", "_law_at"] []) :
  iV P w K mg base vM 6 ago ach ["_law_ground_here", "_law_name"] (Z8 K 2 eF):=by
 refine yE.ok (k:=5) F aci (λvs H Q E h=>h.1) λcdv A outer s H vs Q E hr hsp=>?_;have nd:=aci.nd;have hu:=Ia hr;have hC2:∀ C,C∈[D]->sZ K C=true/\findIn K (.ref C) "name" = some none:=λC z=>by rw[List.mem_singleton.mp z];exact⟨hget,hfn⟩
 refine⟨_,(by exact(o9 (Ao (i:=2) nd rfl (.inl rfl) abG) (o9 (abm (C:=D) (iv:=3) (f:=Qj) rfl rfl nd rfl rfl rfl Yt hex (λa=>zN (Ao (X:=Cx.inX _ a) (i:=2) nd rfl (.inl rfl) (Hg (Ym (X:=Cx.inX _ a) GO (fK.inX (hr.mono (by decide)) a) rfl m_o k_o b_o (aV (pv 3) (aV Nq dJ))) (Nr (Hi (X:=Cx.inX _ a) (of_eq hu) (aeo (Cs:=[D]) hC2 (pv 3) rfl) (pv 1) (fD _)))))) (jf (v:=.ref Qj) rfl air rfl) G (hr.mono (by decide)) ais ait (aV (pv 0) (aV (pv 1) dJ))) (zN (Hh (pv 2)))))),?_⟩;obtain⟨hl,bs,r,reps,no,er,q⟩:=hsp;unfold eF at er;split at er
 ·rename_i b0 b1;obtain⟨v0,v1,rfl⟩:∃ v0 v1,vs=[v0,v1]:=by
   match vs,hl with
   |[v0,v1],_=>exact⟨v0,v1,rfl⟩
  obtain⟨d,ex,er⟩:=bind_some er;obtain⟨c,ec,er⟩:=bind_some er;obtain⟨rfl,rfl⟩:=Qk er;have rb:bf K H b1 v1:=by
   cases reps with
   |cons r0 rr=>
    cases rr with
    |cons r1 _=>exact r1
  refine⟨rfl,v0,rfl,v1,rfl,rfl,[b0,b1],d,reps,no,ex,λdx v H' s' ed r'=>⟨rfl,dx,rfl,λa na=>?_⟩⟩;have s4:Same H' (upd H' a (Yh a D dx)):=bG na;refine⟨.ref a,rfl,rfl,dx,[("name", v)],aQ,s4 _ _ ed,λH5 s5=>⟨true,rfl,?_⟩⟩;show(if true=true then _ else _);rw[zl rfl];refine⟨.ref a,rfl,a,D,dx,v,List.mem_singleton.mpr rfl,rfl,s5 _ _ aQ,s5 _ _ (s4 _ _ ed),v1,rfl,.z d,b1,.z (.bl true),Rep.kp (Kp.of (s4.trans s5)) r',rb.same ((s'.trans s4).trans s5),ec,λw H6 s6 _ r6=>?_⟩;exact⟨w,rfl,q w H6 (((s'.trans s4).trans s5).trans s6) trivial r6⟩
 ·cases er
end
structure T (K:FG_) (mg:Str->Option Value) where
 {D:Addr}
 {FE:Addr}
 {c1:Addr}
 {c2:Addr}
 {c3:Addr}
 {c4:Addr}
 {c5:Addr}
 {c6:Addr}
 Yt:mg "FolkError" = some (.ref FE)
 jmC:mg "NoName" = some (.ref D)
 m1:mg "NoText" = some (.ref c1)
 m2:mg "NoReason" = some (.ref c2)
 m3:mg "NoUndo" = some (.ref c3)
 m4:mg "NoRoom" = some (.ref c4)
 m5:mg "NoStep" = some (.ref c5)
 m6:mg "NoRow" = some (.ref c6)
 xJ:IQ K D "NoName.__init__" Qi ["self", "name"]
 x_o:DQ K mg "_law_only" qI ["_law_e", "_law_at"]
 hbi:R0 K FE "ValueError.__init__"
 jx:Yc K D xJ.f veM "ValueError.__new__" = true
 aiu:setIn K D "name" = true
 jkC:keepIn K (.ref D)=true
 jex:exmOne K (.ref D) (.ref FE)=some true
 agt:sZ K D=true
 jfn:findIn K (.ref D) "name" = some none
 h0:kitOne K (.ref D) (.ref D)=some true
 h1:kitOne K (.ref D) (.ref c1)=some false
 h2:kitOne K (.ref D) (.ref c2)=some false
 h3:kitOne K (.ref D) (.ref c3)=some false
 h4:kitOne K (.ref D) (.ref c4)=some false
 h5:kitOne K (.ref D) (.ref c5)=some false
 h6:kitOne K (.ref D) (.ref c6)=some false
 hF:kitOne K (.ref D) (.ref FE)=some true
 hve:kitOne K (.ref D) (.type "ValueError")=some true
 aev:mg "ValueError" = none
 eG:DQ K mg "_law_cell" CZ ["_law_script", "_law_k"]
 cG:DQ K mg "_law_numbers" uJ ["_law_cell_here", "_law_many"]
 oN:DQ K mg "_law_chain" yP ["_law_x", "_law_turn", "_law_weigh"]
 oO:DQ K mg "_law_names" yQ ["_law_xs", "_law_many"]
 mj:DQ K mg "_law_ground" wL ["_law_script", "_law_at", "_law_many", "_law_reasons", "_law_bars"]
 oR:DQ K mg "_law_drawn" yR ["_law_script"]
 oU:DQ K mg "_law_parts" yS ["_law_names_here", "_law_reasons"]
 mz:DQ K mg "lone_heads" wM ["names"]
 d8:DQ K mg "join_heads" wN ["heads", "one", "other"]
 jL:DQ K mg "heads_by" Dc ["names", "reasons"]
 fZ:DQ K mg "names_under" uK ["heads", "head"]
 mC:DQ K mg "sets_under" wO ["heads"]
 qJ:DQ K mg "parts_by" Dg ["names", "reasons"]
 nD:DQ K mg "parts_of" Dh ["ground"]
 mD:DQ K mg "is_text_of" wQ ["thing", "signs", "longest"]
 jc:DQ K mg "is_name" GX ["thing"]
 cj:DQ K mg "refuse_no_name" gP ["ground", "name"]
 uw:DQ K mg "part_by" GZ ["names", "reasons", "name"]
 jd:DQ K mg "part_of" ug ["ground", "name"]
 mG:DQ K mg "_law_signed" wR ["_law_text", "_law_place", "_law_x"]
 iG:DQ K mg "_law_refused" oZ ["_law_ground_here", "_law_name"]
 iT:DQ K mg "_law_odd_names" qZ ["_law_names_here"]
 x_law:DQ K mg "law" s_law ["_law_script"]
 agu:mg "abs" = none
 Yu:mg "all" = none
 agv:mg "int" = none
 bO:mg "isinstance" = none
 G5:mg "len" = none
 Yv:mg "list" = none
 Dj:mg "max" = none
 Ms:mg "min" = none
 iR:mg "range" = none
 acj:mg "set" = none
 nF:mg "sorted" = none
 agw:mg "str" = none
 oV:mg "tuple" = none
 Uy:∃ tk,mg "LETTERS" = some (.str "abcdefghijklmnopqrstuvwxyz" tk)
 Dk:∃ tk,mg "LONGEST_NAME" = some (.int 8 tk)
section
variable {P:Program} {w:World} {K:FG_} {mg:Str->Option Value} {base:Heap} (t:T K mg)
theorem Mt:aY ["_law_script", "_law_k", "_law_state", "_law_cell_here"] ["_law_script", "_law_k"] (aF CZ):=jF
theorem Mu:Ok P w base t.eG 1 2 eE:=Eo (g:=qC) t.eG Mt λ_ _ _ _ _ _ hr hu nd=>(aD (pF (dY Wt (ak 1) (bH xP rfl t.G5 xO (aj (ak 0) aC)) (fD _)) (aD (dM (bB (ak 0) (ak 1))) aU) aU) (aD (bF 2 nd (aO bK (aO mX aB (aO bI (aO bI (aO mX (ak 1) (ak 1)) (aO mX aB (ak 1))) aB)) aB)) (aD (rU PassesOwn.never rfl (QX (qW (ak 0) fQ (fU aB))) (aW 3 nd) (bJ [3] (aD (bF 2 nd (aO bK (aO bI (aO mX (ak 2) aB) (ak 3)) aB)) aU))) (aD (dM (ak 2)) aU))))
theorem Dl:aY ["_law_cell_here", "_law_many", "_law_found", "_law_state", "_law_digits", "_law_k"] ["_law_cell_here", "_law_many"] (aF uJ):=jF
theorem Dm:Ok P w base t.cG 1 2 cF:=Eo (g:=jQ) t.cG Dl λ_ _ _ _ _ _ hr hu nd=>(aD (bF 2 nd (fL aC)) (aD (bF 3 nd (aO bK (aO mX (aO bI (aO bK (ak 0) aB) aB) aB) aB)) (aD (bF 4 nd aB) (aD (pF (N7 (uV (dY Wt (ak 0) aB (fD _)) (tY (dY afF (ak 0) (aO adt aB aB) (fD _))))) (bJ [] (aD (bF 4 nd (bH adB rfl t.agu ady (aj (ak 0) aC))) aU)) (bJ [] aU)) (aD (rU PassesOwn.never rfl (jg rfl t.iR (aj (ak 1) aC)) (aW 5 nd) (bJ [5] (aD (bF 3 nd (aO bK (aO bI (aO bI (aO mX (ak 3) (aO bI (aO bK (ak 3) aB) aB)) (aO mX aB (ak 5))) aB) aB)) (aD (xg 2 (bB (fL (aj (ak 3) (aj (aO bK (ak 4) aB) aC))) (gJ adC rfl t.agv adw (aj (N6 afE (ak 4) aB (fD _)) aC)))) (aD (bF 4 nd (aO nW (ak 4) aB)) aU))))) (aD (Hz 2) aU))))))
theorem Jh:aY ["_law_x", "_law_turn", "_law_weigh", "_law_letters", "_law_names_here", "_law_order", "_law_some", "_law_k", "_law_a", "_law_b", "_law_weight"] ["_law_x", "_law_turn", "_law_weigh"] (aF yP):=jF
theorem Ji:Ok P w base t.oN 1 3 oF:=Eo (g:=oA) t.oN Jh λ_ _ _ _ _ _ hr hu nd=>(aD (bF 3 nd m9) (aD (bF 4 nd (iJ ["_law_k"] (qp ["_law_letters"] [3]) rfl (Od (jg rfl t.iR (aj aB aC))) (λ_ _ _ _=>(aW 1 (by show List.Nodup (_++_);decide +kernel))) (λ_ _ _ _=>cI) (λ_ _ _ _=>(aO mX (bB (ak 0) (aO nW (ak 1) aB)) (aO bI aB (aO bK (ak 1) aB)))) (bZ))) (aD (HJ 5 ["_law_k"] (qp ["_law_names_here", "_law_turn"] [4,1]) rfl nd (Od (jg rfl t.iR (aj aB aC))) (λ_ _ _ _=>(aW 2 (by show List.Nodup (_++_);decide +kernel))) (λ_ _ _ _=>cI) (λ_ _ _ _=>(bB (ak 0) (aO bK (aO bI (aO mX aB (ak 2)) (ak 1)) aB))) (bZ)) (aD (bF 6 nd (fL aC)) (aD (rU PassesOwn.never rfl (jg rfl t.iR (aj (aO bI aB (aO bK (ak 0) aB)) aC)) (aW 7 nd) (bJ [7,8,9,10] (aD (Oa 8 9 rfl nd (aj (bB (ak 5) (ak 7)) (aj (bB (ak 5) (aO bK (aO bI (ak 7) aB) aB)) aC))) (aD (bF 10 nd (bB (fL (aj aB (aj (aO xM aB (ak 7)) (aj (fP (aO bI aB (ak 7))) (aj (fP (aO bI aB (aO bK (aO mX (ak 7) (ak 7)) aB))) aC))))) (aO bK (ak 2) aB))) (aD (xg 6 (mV (aj (aO xM aB (ak 10)) (aj (fP (bH (Ru rfl) rfl t.Ms Br (aj (ak 8) (aj (ak 9) aC)))) (aj (fP (bH (aaL rfl) rfl t.Dj uY (aj (ak 8) (aj (ak 9) aC)))) (aj (aO bK (ak 7) aB) aC)))))) aU))))) (aD (dM (mV (aj (gJ mZ rfl t.oV jX (aj (bH xT rfl t.nF pH (aj (ak 4) aC)) aC)) (aj (gJ mZ rfl t.oV jX (aj (iJ ["_law_weight", "_law_a", "_law_b", "_law_k"] (qp [] []) rfl (gM (bH KD rfl t.nF pH (aj (ak 6) aC))) (λ_ _ _ _=>(HD rfl (c7 (aW 0 (by show List.Nodup (_++_);decide +kernel)) (c7 (aW 1 (by show List.Nodup (_++_);decide +kernel)) (c7 (aW 2 (by show List.Nodup (_++_);decide +kernel)) (c7 (aW 3 (by show List.Nodup (_++_);decide +kernel)) zR)))))) (λ_ _ _ _=>cI) (λ_ _ _ _=>(mV (aj (aO xM aB (ak 0)) (aj (ak 1) (aj (ak 2) (aj (ak 3) aC)))))) (Wc (jW (bZ) (jW (bZ) (jW (bZ) (jW (bZ) QZ)))))) aC)) (aj (mV aC) aC))))) aU))))))
theorem Jj:aY ["_law_xs", "_law_many", "_law_letters", "_law_stem", "_law_at", "_law_found", "_law_k", "_law_mark", "_law_name"] ["_law_xs", "_law_many"] (aF yQ):=jF
theorem Jk:Ok P w base t.oO 1 2 j4:=Eo (g:=oG) t.oO Jj λ_ _ _ _ _ _ hr hu nd=>(aD (bF 2 nd m9) (aD (bF 3 nd (aaj (iJ ["_law_k"] (qp ["_law_letters", "_law_xs"] [2,0]) rfl (Od (jg rfl t.iR (aj (aO bK (bB (ak 0) aB) aB) aC))) (λ_ _ _ _=>(aW 2 (by show List.Nodup (_++_);decide +kernel))) (λ_ _ _ _=>cI) (λ_ _ _ _=>(bB (ak 0) (aO bK (aO nW (bB (ak 1) (ak 2)) aB) aB))) (bZ)))) (aD (bF 4 nd (aO bK (bB (ak 0) aB) (aO bI (bH xP rfl t.G5 xO (aj (ak 3) aC)) aB))) (aD (bF 5 nd (fL aC)) (aD (rU PassesOwn.never rfl (jg rfl t.iR (aj (ak 1) aC)) (aW 6 nd) (bJ [6,7,8] (aD (bF 7 nd (bB (ak 2) (aO bK (aO bI (ak 6) (bB (ak 0) aB)) aB))) (aD (bF 8 nd (aO bI (aO bI (qW (ak 3) fQ (fU (ak 4))) (ak 7)) (qW (ak 3) (fU (ak 4)) fQ))) (aD (pF (dY (of_eq hu) (aO bK (bB (ak 0) aB) aB) aB (fD _)) (bJ [] (aD (bF 8 nd (aO mX (bB (ak 2) (aO nW (ak 6) aB)) (aO bI aB (aO bK (ak 6) aB)))) aU)) (bJ [] aU)) (aD (xg 5 (ak 8)) aU)))))) (aD (Hz 5) aU))))))
theorem Ep:aY ["_law_script", "_law_at", "_law_many", "_law_reasons", "_law_bars", "_law_head", "_law_names_here", "_law_told", "_law_k", "_law_xs", "_law_a", "_law_b", "_law_weight", "_law_found", "_law_shut"] ["_law_script", "_law_at", "_law_many", "_law_reasons", "_law_bars"] (aF wL):=jF
theorem Er (dR:Ok P w base t.eG 1 2 eE) (tD:Ok P w base t.oO 1 2 j4) (bY:Ok P w base t.cG 1 2 cF):Ok P w base t.mj 2 5 lN:=Eo (g:=lM) t.mj Ep λ_ _ _ _ _ _ hr hu nd=>(aD (bF 5 nd (dw t.cG bY hr (aj (fP (dw t.eG dR hr (aj (ak 0) (aj (ak 1) aC)))) (aj aB aC)))) (aD (bF 6 nd (bH xT rfl t.nF pH (aj (dw t.oO tD hr (aj (ak 5) (aj (ak 2) aC))) aC))) (aD (bF 7 nd (fL aC)) (aD (rU PassesOwn.never rfl (jg rfl t.iR (aj (ak 3) aC)) (aW 8 nd) (bJ [8,9,10,11,12] (aD (bF 9 nd (dw t.cG bY hr (aj (fP (dw t.eG dR hr (aj (ak 0) (aj (fP (aO bI (aO bI (ak 1) aB) (ak 8))) aC)))) (aj aB aC)))) (aD (Oa 10 11 rfl nd (aj (aO bK (bB (ak 9) aB) (bH (xU rfl) rfl t.Dj uY (aj aB (aj (ak 2) aC)))) (aj (aO bK (bB (ak 9) aB) (bH (xU rfl) rfl t.Dj uY (aj aB (aj (ak 2) aC)))) aC))) (aD (bF 12 nd (bB (fL (aj (fP (aO bI aB (aO bK (bB (ak 9) aB) aB))) (aj (fP (aO bI aB (aO bK (bB (ak 9) aB) aB))) (aj (fP (aO bI aB (aO bK (bB (ak 9) aB) aB))) aC)))) (aO bK (bB (ak 5) aB) aB))) (aD (pF (dY (Bm hu) (ak 10) (ak 11) (fD _)) (bJ [] (aD (xg 7 (mV (aj (aO xM aB (ak 12)) (aj (bB (ak 6) (bH (Oo rfl) rfl t.Ms Br (aj (ak 10) (aj (ak 11) aC)))) (aj (bB (ak 6) (bH (xU rfl) rfl t.Dj uY (aj (ak 10) (aj (ak 11) aC)))) (aj (bB (fL (aj aB (aj aB (aj aB aC)))) (aO bK (bB (ak 9) aB) aB)) aC)))))) aU)) (bJ [] aU)) aU)))))) (aD (HJ 13 ["_law_weight", "_law_a", "_law_b", "_law_k"] (qp [] []) rfl nd (gM (Rq rfl rfl t.nF (Rp rfl hu rfl t.acj (ak 7)))) (λ_ _ _ _=>(HD rfl (c7 (aW 0 (by show List.Nodup (_++_);decide +kernel)) (c7 (aW 1 (by show List.Nodup (_++_);decide +kernel)) (c7 (aW 2 (by show List.Nodup (_++_);decide +kernel)) (c7 (aW 3 (by show List.Nodup (_++_);decide +kernel)) zR)))))) (λ_ _ _ _=>cI) (λ_ _ _ _=>(mV (aj (aO xM aB (ak 0)) (aj (ak 1) (aj (ak 2) (aj (ak 3) aC)))))) (Wc (jW (bZ) (jW (bZ) (jW (bZ) (jW (bZ) QZ)))))) (aD (bF 14 nd (fL aC)) (aD (rU PassesOwn.never rfl (jg rfl t.iR (aj (ak 4) aC)) (aW 8 nd) (bJ [8,9,10,11] (aD (bF 9 nd (dw t.cG bY hr (aj (fP (dw t.eG dR hr (aj (ak 0) (aj (fP (aO bI (aO bI (ak 1) aB) (ak 8))) aC)))) (aj aB aC)))) (aD (Oa 10 11 rfl nd (aj (aO bK (bB (ak 9) aB) (bH (xU rfl) rfl t.Dj uY (aj aB (aj (ak 2) aC)))) (aj (aO bK (bB (ak 9) aB) (bH (xU rfl) rfl t.Dj uY (aj aB (aj (ak 2) aC)))) aC))) (aD (pF (dY (Bm hu) (ak 10) (ak 11) (fD _)) (bJ [] (aD (xg 14 (mV (aj (bB (ak 6) (bH (Oo rfl) rfl t.Ms Br (aj (ak 10) (aj (ak 11) aC)))) (aj (bB (ak 6) (bH (xU rfl) rfl t.Dj uY (aj (ak 10) (aj (ak 11) aC)))) (aj (bB (fL (aj aB (aj aB aC))) (aO bK (bB (ak 9) aB) aB)) aC))))) aU)) (bJ [] aU)) aU))))) (aD (dM (mV (aj (gJ mZ rfl t.oV jX (aj (ak 6) aC)) (aj (gJ mZ rfl t.oV jX (aj (ak 13) aC)) (aj (gJ mZ rfl t.oV jX (aj (Rq rfl rfl t.nF (Rp rfl hu rfl t.acj (ak 14))) aC)) aC))))) aU))))))))
theorem Jl:aY ["_law_script", "_law_head", "_law_many"] ["_law_script"] (aF yR):=jF
theorem Jm (dR:Ok P w base t.eG 1 2 eE) (tH:Ok P w base t.oN 1 3 oF) (qK:Ok P w base t.mj 2 5 lN) (bY:Ok P w base t.cG 1 2 cF):Ok P w base t.oR 3 1 oJ:=Eo (g:=oH) t.oR Jl λ_ _ _ _ _ _ hr hu nd=>(aD (bF 1 nd (dw t.cG bY hr (aj (fP (dw t.eG dR hr (aj (ak 0) (aj aB aC)))) (aj aB aC)))) (aD (pF (dY (of_eq hu) (aO bK (bB (ak 1) aB) aB) aB (fD _)) (aD (dM (dw t.oN tH hr (aj (aO nW (bB (ak 1) aB) aB) (aj (bB (ak 1) aB) (aj (bB (ak 1) aB) aC))))) aU) aU) (aD (bF 2 nd (aO bK (bB (ak 1) aB) aB)) (aD (dM (dw t.mj qK hr (aj (ak 0) (aj aB (aj (ak 2) (aj (aO bK (bB (ak 1) aB) aB) (aj (aO bK (bB (ak 1) aB) aB) aC))))))) aU))))
theorem Jo:aY ["_law_names_here", "_law_reasons", "_law_found", "_law_weight", "_law_a", "_law_b", "_law_k", "_law_one", "_law_other"] ["_law_names_here", "_law_reasons"] (aF yS):=jF
theorem Jp:Ok P w base t.oU 1 2 oM:=Eo (g:=oK) t.oU Jo λ_ _ _ _ _ _ hr hu nd=>(aD (HJ 2 ["_law_name"] (qp [] []) rfl nd (gM (ak 0)) (λ_ _ _ _=>(aW 0 (by show List.Nodup (_++_);decide +kernel))) (λ_ _ _ _=>cI) (λ_ _ _ _=>(fP (fL (aj (ak 0) aC)))) (bZ)) (aD (zT 1 PassesOwn.never rfl (HD rfl (c7 (aW 3 nd) (c7 (aW 4 nd) (c7 (aW 5 nd) (c7 (aW 6 nd) zR))))) (bJ [3,4,5,6,7,8] (aD (bF 7 nd (bB (iJ ["_law_part"] (qp ["_law_a"] [4]) rfl (gM (ak 2)) (λ_ _ _ _=>(aW 1 (by show List.Nodup (_++_);decide +kernel))) (λ_ _ _ _=>(m7 (dY Wm (ak 0) (ak 1) (by with_unfolding_all rfl)))) (λ_ _ _ _=>(ak 1)) (bZ)) aB)) (aD (bF 8 nd (bB (iJ ["_law_part"] (qp ["_law_b"] [5]) rfl (gM (ak 2)) (λ_ _ _ _=>(aW 1 (by show List.Nodup (_++_);decide +kernel))) (λ_ _ _ _=>(m7 (dY Wm (ak 0) (ak 1) (by with_unfolding_all rfl)))) (λ_ _ _ _=>(ak 1)) (bZ)) aB)) (aD (pF (dY (Bm hu) (ak 7) (ak 8) (fD _)) (bJ [] (aD (bF 2 nd (aO bI (iJ ["_law_part"] (qp ["_law_one", "_law_other"] [7,8]) rfl (gM (ak 2)) (λ_ _ _ _=>(aW 2 (by show List.Nodup (_++_);decide +kernel))) (λ_ _ _ _=>(m7 (dY (aaN hu) (ak 2) (fL (aj (ak 0) (aj (ak 1) aC))) (by with_unfolding_all rfl)))) (λ_ _ _ _=>(ak 2)) (bZ)) (fL (aj (fP (bH xT rfl t.nF pH (aj (aO bI (ak 7) (ak 8)) aC))) aC)))) aU)) (bJ [] aU)) aU))))) (aD (dM (bH KD rfl t.nF pH (aj (iJ ["_law_part"] (qp [] []) rfl (gM (ak 2)) (λ_ _ _ _=>(aW 0 (by show List.Nodup (_++_);decide +kernel))) (λ_ _ _ _=>cI) (λ_ _ _ _=>(gJ mZ rfl t.oV jX (aj (ak 0) aC))) (bZ)) aC))) aU)))
theorem Es:aY ["names"] ["names"] (aF wM):=jF
theorem Et:Ok P w base t.mz 1 1 lQ:=Eo (g:=lO) t.mz Es λ_ _ _ _ _ _ hr hu nd=>(aD (dM (Xd hu ["name"] (qp [] []) rfl (gM (ak 0)) (λ_ _ _ _=>(aW 0 (by show List.Nodup (_++_);decide +kernel))) (λ_ _ _ _=>cI) (λ_ _ _ _=>(ak 0)) (λ_ _ _ _=>(ak 0)) (bZ))) aU)
theorem uN:aY ["heads", "one", "other", "head", "name"] ["heads", "one", "other"] (aF wN):=jF
theorem Eu:iV P w K mg base vM 1 t.d8.f t.d8.fd ["heads", "one", "other"] (spM K 2 jt):=by
 unfold jt;refine ahU (k:=0) (g:=lR) t.d8.F uN rfl rfl λcdv A outer s H E hr=>?_;have hu:=Ia hr;have nd:=uN.nd;exact(bJ [3,4] (aD (bF 3 nd (bH (Ru rfl) rfl t.Ms Br (aj (ak 1) (aj (ak 2) aC)))) (aD (rU PassesOwn.never rfl (QX (gJ (Xh rfl) rfl t.Yv Q7 (aj (ak 0) aC))) (aW 4 nd) (bJ [4] (aD (pF (N7 (uV (dY (of_eq hu) (qj hu (ak 0) (ak 4)) (ak 1) (fD _)) (tY (dY (of_eq hu) (qj hu (ak 0) (ak 4)) (ak 2) (fD _))))) (bJ [] (aD (aak 0 hu (ak 3) (ak 4)) aU)) (bJ [] aU)) aU))) aU)))
theorem Mv:aY ["names", "reasons", "heads", "weight", "one", "other", "number"] ["names", "reasons"] (aF Dc):=jF
theorem Mw (qL:iV P w K mg base vM 1 t.d8.f t.d8.fd ["heads", "one", "other"] (spM K 2 jt)) (qM:Ok P w base t.mz 1 1 lQ):Ok P w base t.jL 2 2 jJ:=Eo (g:=qD) t.jL Mv λ_ _ _ _ _ _ hr hu nd=>(aD (bF 2 nd (dw t.mz qM hr (aj (ak 0) aC))) (aD (zT 1 PassesOwn.never rfl (HD rfl (c7 (aW 3 nd) (c7 (aW 4 nd) (c7 (aW 5 nd) (c7 (aW 6 nd) zR))))) (bJ [3,4,5,6] (aD (aaM 2 qL (hr.mono (by decide)) rfl t.d8.m t.d8.k t.d8.b (aj (qj hu (ak 2) (ak 4)) (aj (qj hu (ak 2) (ak 5)) aC))) aU))) (aD (Hz 2) aU)))
theorem Dp:aY ["heads", "head"] ["heads", "head"] (aF uK):=jF
theorem Dq:Ok P w base t.fZ 1 2 fY:=Eo (g:=jR) t.fZ Dp λ_ _ _ _ _ _ hr hu nd=>(aD (dM (gJ mZ rfl t.oV jX (aj (Lb ["name"] (qp ["head", "heads"] [1,0]) rfl (ak 0) (λ_ _ _ _=>(aW 2 (by show List.Nodup (_++_);decide +kernel))) (λ_ _ _ _=>(m7 (dY (of_eq hu) (qj hu (ak 1) (ak 2)) (ak 0) (fD _)))) (λ_ _ _ _=>(ak 2)) (bZ)) aC))) aU)
theorem Ew:aY ["heads"] ["heads"] (aF wO):=jF
theorem Ey (f9:Ok P w base t.fZ 1 2 fY):Ok P w base t.mC 2 1 lV:=Eo (g:=lU) t.mC Ew λ_ _ _ _ _ _ hr hu nd=>(aD (dM (Lb ["name"] (qp ["heads"] [0]) rfl (ak 0) (λ_ _ _ _=>(aW 1 (by show List.Nodup (_++_);decide +kernel))) (λ_ _ _ _=>(m7 (dY (of_eq hu) (qj hu (ak 0) (ak 1)) (ak 1) (fD _)))) (λ_ _ _ _=>(fP (dw t.fZ f9 hr (aj (ak 0) (aj (ak 1) aC))))) (bZ))) aU)
theorem Mx:aY ["names", "reasons"] ["names", "reasons"] (aF Dg):=jF
theorem Mz (jM:Ok P w base t.jL 2 2 jJ) (qN:Ok P w base t.mC 2 1 lV):Ok P w base t.qJ 3 2 qG:=Eo (g:=qF) t.qJ Mx λ_ _ _ _ _ _ hr hu nd=>(aD (dM (dw t.mC qN hr (aj (dw t.jL jM hr (aj (ak 0) (aj (ak 1) aC))) aC))) aU)
theorem MF:aY ["ground"] ["ground"] (aF Dh):=jF
theorem MJ (vB:Ok P w base t.qJ 3 2 qG):Ok P w base t.nD 4 1 nC:=Eo (g:=qH) t.nD MF λ_ _ _ _ _ _ hr hu nd=>(aD (dM (dw t.qJ vB hr (aj (bB (ak 0) aB) (aj (bB (ak 0) aB) aC)))) aU)
theorem Ez:aY ["thing", "signs", "longest"] ["thing", "signs", "longest"] (aF wQ):=jF
theorem EY:Ok P w base t.mD 1 3 lX:=Eo (g:=lW) t.mD Ez λ_ _ _ _ _ _ hr hu nd=>(aD (dM (V5 (Oj (ak 0) rfl t.bO rfl t.agw) (V5 (VN of_le of_le aB (bH xP rfl t.G5 xO (aj (ak 0) aC)) (ak 2)) (adf (bH (Ol rfl) rfl t.Yu Oi (aj (iJ ["sign"] (qp ["signs"] [1]) rfl (gM (ak 0)) (λ_ _ _ _=>(aW 1 (by show List.Nodup (_++_);decide +kernel))) (λ_ _ _ _=>cI) (λ_ _ _ _=>(N6 Wm (ak 1) (ak 0) (by with_unfolding_all rfl))) (bZ)) aC)))))) aU)
theorem Qm:aY ["thing"] ["thing"] (aF GX):=jF
theorem Qn (qO:Ok P w base t.mD 1 3 lX):Ok P w base t.jc 2 1 jK:=Eo (g:=uh) t.jc Qm λ_ _ _ _ _ _ hr hu nd=>by
 obtain⟨aex,Uz⟩:=t.Uy;obtain⟨Vj,Dr⟩:=t.Dk;exact(aD (dM (dw t.mD qO hr (aj (ak 0) (aj (V0 rfl Uz) (aj (VR rfl Dr) aC))))) aU)
theorem wU:aY ["ground", "name"] ["ground", "name"] (aF gP):=jF
theorem wV (iZ:Ok P w base t.jc 2 1 jK):Ok P w base t.cj 3 2 gR:=Eo (g:=gQ) t.cj wU λ_ _ _ _ _ _ hr hu nd=>(bJ [] (aD (pF (N7 (uV (Bb (Ba (dw t.jc iZ hr (aj (ak 1) aC)))) (tY (dY Bq (ak 1) (bB (ak 0) aB) (by with_unfolding_all rfl))))) (aD aaO aU) aU) aU))
theorem Qo:aY ["names", "reasons", "name", "heads"] ["names", "reasons", "name"] (aF GZ):=jF
theorem Qp (jM:Ok P w base t.jL 2 2 jJ) (f9:Ok P w base t.fZ 1 2 fY):Ok P w base t.uw 3 3 uo:=Eo (g:=um) t.uw Qo λ_ _ _ _ _ _ hr hu nd=>(aD (bF 3 nd (dw t.jL jM hr (aj (ak 0) (aj (ak 1) aC)))) (aD (dM (dw t.fZ f9 hr (aj (ak 3) (aj (qj hu (ak 3) (ak 2)) aC)))) aU))
theorem Qq:aY ["ground", "name"] ["ground", "name"] (aF ug):=jF
theorem Qs (yd:Ok P w base t.uw 3 3 uo) (jN:Ok P w base t.cj 3 2 gR):Ok P w base t.jd 4 2 ur:=Eo (g:=uq) t.jd Qq λ_ _ _ _ _ _ hr hu nd=>(aD (aaP (dw t.cj jN hr (aj (ak 0) (aj (ak 1) aC)))) (aD (dM (dw t.uw yd hr (aj (bB (ak 0) aB) (aj (bB (ak 0) aB) (aj (ak 1) aC))))) aU))
theorem Fb:aY ["_law_text", "_law_place", "_law_x", "_law_signs", "_law_sign", "_law_at"] ["_law_text", "_law_place", "_law_x"] (aF wR):=jF
theorem Fd:Ok P w base t.mG 1 3 lZ:=Eo (g:=lY) t.mG Fb λ_ _ _ _ _ _ hr hu nd=>(aD (bF 3 nd m9) (aD (bF 3 nd (aO bI (ak 3) m9)) (aD (bF 4 nd (bB (ak 3) (aO bK (aO nW (ak 2) aB) (bB (fL (aj aB (aj aB aC))) (aO bK (aO nW (ak 2) aB) aB))))) (aD (bF 5 nd (aO bK (ak 1) (aO bI (bH xP rfl t.G5 xO (aj (ak 0) aC)) aB))) (aD (dM (bB (fL (aj (fP (aO bI (aO bI (qW (ak 0) fQ (fU (ak 5))) (ak 4)) (qW (ak 0) (fU (ak 5)) fQ))) (aj (fP (aO bI (aO bI (qW (ak 0) fQ (fU (ak 5))) (ak 4)) (qW (ak 0) (fU (aO bI (ak 5) aB)) fQ))) (aj (fP (aO bI (qW (ak 0) fQ (fU (ak 5))) (qW (ak 0) (fU (aO bI (ak 5) aB)) fQ))) aC)))) (aO bK (ak 2) aB))) aU)))))
theorem Ds (iZ:Ok P w base t.jc 2 1 jK):Ok P w base t.iG 6 2 eF:=
 Ql t.iG.F (ags t.jd.F (agq t.cj.F iZ t.jc.m t.jc.k t.jc.b t.jx t.jkC (abx t.xJ.F t.jx t.aiu t.Yt t.hbi) t.xJ.b t.jmC) t.cj.m t.cj.k t.cj.b) t.jd.m t.jd.k t.jd.b t.Yt t.jex t.agt t.jfn
  (abv t.x_o.F t.agt t.jmC t.m1 t.m2 t.m3 t.m4 t.m5 t.m6 t.Yt t.h0 t.h1 t.h2 t.h3 t.h4 t.h5 t.h6 t.hF t.hve t.bO t.aev t.iR) t.x_o.m t.x_o.k t.x_o.b
theorem yg:aY ["_law_names_here", "_law_found"] ["_law_names_here"] (aF qZ):=jF
theorem yh:Ok P w base t.iT 1 1 iQ:=Eo (g:=iM) t.iT yg λ_ _ _ _ _ _ hr hu nd=>(aD (bF 1 nd (fL (aj ada (aj J2 (aj aB (aj m9 (aj m9 (aj (fP (fL (aj m9 aC))) (aj adG (aj (mV (aj m9 aC)) (aj m9 (aj aB aC)))))))))))) (aD (dM (aO bI (aO bI (ak 1) (iJ ["_law_name"] (qp [] []) rfl (gM (qW (ak 0) fQ (fU aB))) (λ_ _ _ _=>(aW 0 (by show List.Nodup (_++_);decide +kernel))) (λ_ _ _ _=>cI) (λ_ _ _ _=>(fP (aO bI (ak 0) m9))) (bZ))) (iJ ["_law_name"] (qp [] []) rfl (gM (qW (ak 0) fQ (fU aB))) (λ_ _ _ _=>(aW 0 (by show List.Nodup (_++_);decide +kernel))) (λ_ _ _ _=>cI) (λ_ _ _ _=>(fP (fL (aj (ak 0) aC)))) (bZ)))) aU))
theorem aey:aY ["_law_script", "_law_ground_here", "_law_due", "_law_found", "_law_part", "_law_name", "_law_xs", "_law_k"] ["_law_script"] (aF s_law):=jF
theorem aez (dR:Ok P w base t.eG 1 2 eE) (tK:Ok P w base t.oR 3 1 oJ) (bY:Ok P w base t.cG 1 2 cF) (kZ:Ok P w base t.iT 1 1 iQ) (tL:Ok P w base t.oU 1 2 oM) (jT:Ok P w base t.iG 6 2 eF) (qP:Ok P w base t.mG 1 3 lZ) (yj:Ok P w base t.jd 4 2 ur) (qQ:Ok P w base t.nD 4 1 nC):Ok P w base t.x_law 7 1 F_law:=Eo (g:=R4) t.x_law aey λ_ _ _ _ _ _ hr hu nd=>(aD (bF 1 nd (dw t.oR tK hr (aj (ak 0) aC))) (aD (bF 2 nd (dw t.oU tL hr (aj (bB (ak 1) aB) (aj (bB (ak 1) aB) aC)))) (aD (bF 3 nd (dw t.nD qQ hr (aj (ak 1) aC))) (aD (pF (N7 (uV (Bb (Ba (Kg (ak 3) rfl t.bO rfl t.Yv))) (uV (dY (Bm hu) (ak 3) (ak 2) (fD _)) (tY (Bb (Ba (bH (Ol rfl) rfl t.Yu Oi (aj (iJ ["_law_part"] (qp [] []) rfl (gM (ak 3)) (λ_ _ _ _=>(aW 0 (by show List.Nodup (_++_);decide +kernel))) (λ_ _ _ _=>cI) (λ_ _ _ _=>(fP (HX (ak 0) rfl t.bO rfl t.oV))) (bZ)) aC)))))))) (aD (dM J2) aU) aU) (aD (xg 3 (mV aC)) (aD (pF (N7 (uV (dY (Bm hu) (dw t.nD qQ hr (aj (ak 1) aC)) (ak 2) (fD _)) (tY (dY (Bm hu) (ak 3) (aO bI (ak 2) (fL (aj (mV aC) aC))) (fD _))))) (aD (dM J2) aU) aU) (aD (zT 2 PassesOwn.never rfl (aW 4 nd) (bJ [4,5] (aD (zT 4 PassesOwn.never rfl (aW 5 nd) (bJ [5] (aD (pF (dY (Bm hu) (dw t.jd yj hr (aj (ak 1) (aj (ak 5) aC))) (ak 4) (fD _)) (aD (dM J2) aU) aU) aU))) aU))) (aD (bF 6 nd (qW (dw t.cG bY hr (aj (fP (dw t.eG dR hr (aj (ak 0) (aj aB aC)))) (aj aB aC))) (fU aB) fQ)) (aD (rU PassesOwn.never rfl (jg rfl t.iR (aj (bH (Oo rfl) rfl t.Ms Br (aj aB (aj (bH xP rfl t.G5 xO (aj (bB (ak 1) aB) aC)) aC))) aC)) (aW 7 nd) (bJ [7,5] (aD (bF 5 nd (dw t.mG qP hr (aj (bB (bB (ak 1) aB) (aO bK (bB (ak 6) (ak 7)) (bH xP rfl t.G5 xO (aj (bB (ak 1) aB) aC)))) (aj (bB (ak 6) (aO bI aB (ak 7))) (aj (aO nW (bB (ak 6) (aO xM aB (ak 7))) aB) aC))))) (aD (pF (N7 (ZS (dY Bq (ak 5) (bB (ak 1) aB) (by with_unfolding_all rfl)) (V3 (Bb (Ba (dw t.iG jT hr (aj (ak 1) (aj (ak 5) aC)))))))) (aD (dM J2) aU) aU) aU)))) (aD (dM (bH (Ol rfl) rfl t.Yu Oi (aj (iJ ["_law_name"] (qp ["_law_ground_here"] [1]) rfl (gM (dw t.iT kZ hr (aj (bB (ak 1) aB) aC))) (λ_ _ _ _=>(aW 1 (by show List.Nodup (_++_);decide +kernel))) (λ_ _ _ _=>cI) (λ_ _ _ _=>(fP (dw t.iG jT hr (aj (ak 0) (aj (ak 1) aC))))) (bZ)) aC))) aU))))))))))
theorem all_ok:Ok P w base t.x_law 7 1 F_law:=by
 have dR:=Mu (P:=P) (w:=w) (base:=base) t;have bY:=Dm (P:=P) (w:=w) (base:=base) t;have tH:=Ji (P:=P) (w:=w) (base:=base) t;have tD:=Jk (P:=P) (w:=w) (base:=base) t;have qK:=Er (P:=P) (w:=w) (base:=base) t dR tD bY;have tK:=Jm (P:=P) (w:=w) (base:=base) t dR tH qK bY;have tL:=Jp (P:=P) (w:=w) (base:=base) t;have qM:=Et (P:=P) (w:=w) (base:=base) t;have qL:=Eu (P:=P) (w:=w) (base:=base) t;have jM:=Mw (P:=P) (w:=w) (base:=base) t qL qM;have f9:=Dq (P:=P) (w:=w) (base:=base) t;have qN:=Ey (P:=P) (w:=w) (base:=base) t f9;have vB:=Mz (P:=P) (w:=w) (base:=base) t jM qN;have qQ:=MJ (P:=P) (w:=w) (base:=base) t vB;have qO:=EY (P:=P) (w:=w) (base:=base) t;have iZ:=Qn (P:=P) (w:=w) (base:=base) t qO;have jN:=wV (P:=P) (w:=w) (base:=base) t iZ;have yd:=Qp (P:=P) (w:=w) (base:=base) t jM f9;have yj:=Qs (P:=P) (w:=w) (base:=base) t yd jN;have qP:=Fd (P:=P) (w:=w) (base:=base) t;have jT:=Ds (P:=P) (w:=w) (base:=base) t iZ;have kZ:=yh (P:=P) (w:=w) (base:=base) t;have agx:=aez (P:=P) (w:=w) (base:=base) t dR tK bY kZ tL jT qP yj qQ;exact agx
end
end G12
end
section
set_option synthInstance.maxSize 100000
namespace G12
open PySem PySem.Spec PyProof.Rows L2 P1
noncomputable section
def uO  (v4:Int) (v5:Int):Int:=(let v4:=(((v4 * (69621:Int))+v5) % (2147483647:Int));v4)
theorem Fg (v0:LI_) {fV:Bx} (kh:Lp fV (v0.map eI)) (v3:Int) (v4:Int) (v5:Int):RP uL [some fV,some ((zE eI) v3),some ((zE eI) v4),some ((zE eI) v5)] (λs=>Out.nx ((λv4:Int=>[some fV,some ((zE eI) v3),some ((zE eI) v4),none]) s)) (uO  v4 v5) (none):=R.tp (bW (bR 2 (cg (fG (Ry (au 2 (zE eI) v4 rfl) 69621 (by decide)) (au 3 (zE eI) v5 rfl)) 2147483647 (by decide)) (λ_=>rfl) λv4=>(dj (bV v4 rfl))))
def aR (v0:LI_) (v3:Int):Int:=(if(decide (v3 < (v0.length:Int)))=true then(at' v0 v3) else(let v4:=(((48271:Int) * (((v3 * v3)+((7:Int) * v3))+(11:Int))) % (2147483647:Int));(let v4:Int:=((cut v0 none (some (3:Int))).foldl (λ(v4:Int) (v5:Int)=>(uO  v4 v5)) v4);v4)))
def fM (v0:LI_) (v3:Int):Prop:=(((decide (v3 < (v0.length:Int)))=true->In v0.length v3)/\((decide (v3 < (v0.length:Int)))=false->Mul v3 v3))
theorem Qt (v0:LI_) {fV:Bx} (kh:Lp fV (v0.map eI)) (v3:Int):RP qC [some fV,some ((zE eI) v3),none,none] (λr=>Out.rt ((zE eI) r)) (aR v0 v3) (some (fM v0 v3)):=R.tp (CK (g8 (ab4 (au 1 (zE eI) v3 rfl) (x_len (nj 0 eI v0 kh rfl)))) (bW (gq (λr=>r) (fj (nj 0 eI v0 kh rfl) (au 1 (zE eI) v3 rfl)) (λ_=>rfl) λ_=>rfl)) (dj (bR 2 (cg (Iz 48271 (by decide) (fG (fG (Xl (au 1 (zE eI) v3 rfl) (au 1 (zE eI) v3 rfl)) (Iz 7 (by decide) (au 1 (zE eI) v3 rfl))) (x_i 11))) 2147483647 (by decide)) (λ_=>rfl) λv4=>(ad5 (λv4:Int=>[some fV,some ((zE eI) v3),some ((zE eI) v4),none]) v4 rfl (af6 (af0 (nj 0 eI v0 kh rfl) zj (zm (x_i 3)))) _ (λ_ _=>rfl) (λ(v4:Int) (v5:Int)=>(Fg v0 kh v3 v4 v5).r) (λ_ _=>rfl) λv4=>(gq (λr=>r) (au 2 (zE eI) v4 rfl) (λ_=>rfl) λ_=>rfl)))))
theorem nG:∀ v bs,(aL eI (aZ eI aN)) v bs->bs.length=2/\(hold (some (fM v.1 v.2.1))->eE (bs.map lend)=some ((zE eI) (aR v.1 v.2.1))):=by
 rintro⟨v0,v3,_⟩ _ ⟨fV,_,rfl,kh,⟨_,rfl,rfl⟩⟩;exact⟨rfl,λh=>cZ (g:=qC) (n:=4) (bs:=[lend fV,.z (eI v3)]) (Qt v0 (Lh kh) v3) h⟩
def bT  (s1:Int×LI_×Int) (v3:Int):Int×LI_×Int:=(let v4:=((((s1.1 * ((s1.1 % (65521:Int))+(40487:Int)))+((7:Int) * v3))+(5:Int)) % (1999999973:Int));(let v7:=s1.2.1++[(at' [v4,(s1.2.2 % (1000000:Int))] (if(decide ((0:Int) < s1.2.2))=true then(1:Int) else 0))];(let v8:=(s1.2.2 / (1000000:Int));(v4,v7,v8))))
def gU  (s1:Int×LI_×Int) (v3:Int):Prop:=(Mul s1.1 ((s1.1 % (65521:Int))+(40487:Int))/\(let v4:=((((s1.1 * ((s1.1 % (65521:Int))+(40487:Int)))+((7:Int) * v3))+(5:Int)) % (1999999973:Int));(In [v4,(s1.2.2 % (1000000:Int))].length (if(decide ((0:Int) < s1.2.2))=true then(1:Int) else 0)/\Aa s1.2.1.length)))
theorem yp (v5:Int) (v6:Int) (s1:Int×LI_×Int) (v3:Int):RP jH [some ((zE eI) v5),some ((zE eI) v6),some ((oE eI) s1.2.1),some ((zE eI) s1.1),some ((zE eI) s1.2.2),some ((zE eI) v3)] (λs=>Out.nx ((λs1:Int×LI_×Int=>[some ((zE eI) v5),some ((zE eI) v6),some ((oE eI) s1.2.1),some ((zE eI) s1.1),some ((zE eI) s1.2.2),none]) s)) (bT  s1 v3) (some (gU  s1 v3)):=R.tp (bW (bR 3 (cg (fG (fG (Xl (au 3 (zE eI) s1.1 rfl) (fG (cg (au 3 (zE eI) s1.1 rfl) 65521 (by decide)) (x_i 40487))) (Iz 7 (by decide) (au 5 (zE eI) v3 rfl))) (x_i 5)) 1999999973 (by decide)) (λ_=>rfl) λv4=>(bW (GC 2 s1.2.1 rfl (fj (iu (jq (bx (au 3 (zE eI) v4 rfl) (bx (cg (au 4 (zE eI) s1.2.2 rfl) 1000000 (by decide)) (fH eI))) (Zl rfl))) (ad0 (ahY (au 4 (zE eI) s1.2.2 rfl) (x_i 0)))) λv7=>(bW (bR 4 (nZ (au 4 (zE eI) s1.2.2 rfl) 1000000 (by decide)) (λ_=>rfl) λv8=>(dj (bV (v4,v7,v8) rfl))))))))
def gW (v5:Int) (v6:Int) (v7:LI_) (v4:Int) (v8:Int):LI_:=(let s1:Int×LI_×Int:=((rng 0 v6.toNat).foldl (λ(s1:Int×LI_×Int) (v3:Int)=>(bT  s1 v3)) (v4,v7,v8));s1.2.1)
def jO (v5:Int) (v6:Int) (v7:LI_) (v4:Int) (v8:Int):Prop:=(Rg v6/\pP (λ(s1:Int×LI_×Int) (v3:Int)=>(bT  s1 v3)) (λ(s1:Int×LI_×Int) (v3:Int)=>some (gU  s1 v3)) (rng 0 v6.toNat) (v4,v7,v8))
def yq:Ev->Option Out:=(aH (pI (JH (aq (gv 1) aJ)) (lF 5) jH) (aH (Ef 2) iK))
theorem yr (v5:Int) (v6:Int) (v7:LI_) (v4:Int) (v8:Int):RP yq [some ((zE eI) v5),some ((zE eI) v6),some ((oE eI) v7),some ((zE eI) v4),some ((zE eI) v8),none] (λr=>Out.rt ((oE eI) r)) (gW v5 v6 v7 v4 v8) (some (jO v5 v6 v7 v4 v8)):=R.tp (GF (λs1:Int×LI_×Int=>[some ((zE eI) v5),some ((zE eI) v6),some ((oE eI) s1.2.1),some ((zE eI) s1.1),some ((zE eI) s1.2.2),none]) (v4,v7,v8) rfl (CJ (au 1 (zE eI) v6 rfl)) _ (λ_ _=>rfl) (λ(s1:Int×LI_×Int) (v3:Int)=>(yp v5 v6 s1 v3).r) λs1=>(Pz 2 (λr=>r) s1.2.1 rfl (λ_=>rfl) λ_=>rfl))
def aP (v5:Int) (v6:Int):LI_:=(let v7:=([]:List Int);(let v4:=((((v5 % (1999999973:Int))+(31:Int)) * (765432101:Int)) % (1999999973:Int));(let v8:=(0:Int);(let v8:Int:=(if((decide (v5 < (0:Int)))||(decide (((10:Int) ^ 18)<=v5)))=true then(let v8:=(if v5 < 0 then -v5 else v5);v8) else v8);(gW v5 v6 v7 v4 v8)))))
def dH (v5:Int) (v6:Int):Prop:=(let v7:=([]:List Int);(let v4:=((((v5 % (1999999973:Int))+(31:Int)) * (765432101:Int)) % (1999999973:Int));(let v8:=(0:Int);(let v8:Int:=(if((decide (v5 < (0:Int)))||(decide (((10:Int) ^ 18)<=v5)))=true then(let v8:=(if v5 < 0 then -v5 else v5);v8) else v8);(jO v5 v6 v7 v4 v8)))))
theorem Fi (v5:Int) (v6:Int):RP jQ [some ((zE eI) v5),some ((zE eI) v6),none,none,none,none] (λr=>Out.rt ((oE eI) r)) (aP v5 v6) (some (dH v5 v6)):=R.tp (bR 2 (jq (fH eI) (Zl rfl)) (λ_=>rfl) λv7=>(bR 3 (cg (Ry (fG (cg (au 0 (zE eI) v5 rfl) 1999999973 (by decide)) (x_i 31)) 765432101 (by decide)) 1999999973 (by decide)) (λ_=>rfl) λv4=>(bR 4 (x_i 0) (λ_=>rfl) λv8=>(GD (λv8:Int=>[some ((zE eI) v5),some ((zE eI) v6),some ((oE eI) v7),some ((zE eI) v4),some ((zE eI) v8),none]) (Pn (g8 (ab4 (au 0 (zE eI) v5 rfl) (x_i 0))) (g8 (x_ge (au 0 (zE eI) v5 rfl) (adW 10 18 18 (by decide) rfl)))) (bW (bR 4 (af2 (au 0 (zE eI) v5 rfl)) (λ_=>rfl) λv8=>(dj (bV v8 rfl)))) (dj (bV v8 rfl)) λv8=>(yr v5 v6 v7 v4 v8).r))))
theorem iH:∀ v bs,(aZ eI (aZ eI aN)) v bs->bs.length=2/\(hold (some (dH v.1 v.2.1))->cF (bs.map lend)=some ((oE eI) (aP v.1 v.2.1))):=by
 rintro⟨v5,v6,_⟩ _ ⟨_,rfl,⟨_,rfl,rfl⟩⟩;exact⟨rfl,λh=>cZ (g:=jQ) (n:=6) (bs:=[.z (eI v5),.z (eI v6)]) (Fi v5 v6) h⟩
def cW (vb:Int) (ve:LS_) (vf:List bL) (v3:Int):(List bL):=(let y1:=(at' ve v3);let y2:=(at' ve ((v3+(1:Int)) % (30:Int)));let vg:=y1;let vh:=y2;(let vi:=(at' [(5:Int),((1000:Int) - v3),((1:Int)+v3),((1:Int)+((v3 * v3) % (9:Int)))] (vb % (4:Int)));(let vf:=vf++[(((0:Int) - vi),(if Nj vh vg=true then vh else vg),(if Nj vg vh=true then vh else vg),(v3 % (3:Int)))];vf)))
def ju (vb:Int) (ve:LS_) (vf:List bL) (v3:Int):Prop:=((In ve.length v3/\In ve.length ((v3+(1:Int)) % (30:Int)))/\(let y1:=(at' ve v3);let y2:=(at' ve ((v3+(1:Int)) % (30:Int)));let vg:=y1;let vh:=y2;((Mul v3 v3/\In [(5:Int),((1000:Int) - v3),((1:Int)+v3),((1:Int)+((v3 * v3) % (9:Int)))].length (vb % (4:Int)))/\(let vi:=(at' [(5:Int),((1000:Int) - v3),((1:Int)+v3),((1:Int)+((v3 * v3) % (9:Int)))] (vb % (4:Int)));Aa vf.length))))
theorem Du (v9:Int) (va:Int) (vb:Int) (vc:Str) (vd:LS_) (ve:LS_) (vf:List bL) (v3:Int):RP tu [some ((zE eI) v9),some ((zE eI) va),some ((zE eI) vb),some ((zE eS) vc),some ((oE eS) vd),some ((oE eS) ve),some ((oE cY) vf),some ((zE eI) v3),none,none,none] (λs=>Out.nx ((λvf:(List bL)=>[some ((zE eI) v9),some ((zE eI) va),some ((zE eI) vb),some ((zE eS) vc),some ((oE eS) vd),some ((oE eS) ve),some ((oE cY) vf),none,none,none,none]) s)) (cW vb ve vf v3) (some (ju vb ve vf v3)):=R.tp (bW (XD 8 9 (fj (dW (au 5 (lE eS) ve rfl)) (au 7 (zE eI) v3 rfl)) (fj (dW (au 5 (lE eS) ve rfl)) (cg (fG (au 7 (zE eI) v3 rfl) (x_i 1)) 30 (by decide))) λvg vh=>(bW (bR 10 (fj (iu (jq (bx (x_i 5) (bx (Gx (x_i 1000) (au 7 (zE eI) v3 rfl)) (bx (iD (fG (x_i 1) (au 7 (zE eI) v3 rfl))) (bx (iD (fG (x_i 1) (cg (Xl (au 7 (zE eI) v3 rfl) (au 7 (zE eI) v3 rfl)) 9 (by decide)))) (fH eI))))) (Zl rfl))) (cg (au 2 (zE eI) vb rfl) 4 (by decide))) (λ_=>rfl) λvi=>(bW (GC 6 vf rfl (IK (Gx (x_i 0) (au 10 (zE eI) vi rfl)) (iD (X4 (au 8 (zE eS) vg rfl) (au 9 (zE eS) vh rfl))) (iD (ad9 (au 8 (zE eS) vg rfl) (au 9 (zE eS) vh rfl))) (cg (au 7 (zE eI) v3 rfl) 3 (by decide))) λvf=>(dj (bV vf rfl))))))))
def j5 (v9:Int) (va:Int) (vb:Int):gj:=(let vc:=("abcd" : Str);(let vd:=((rng 0 (kN 30)).map λv3:Int=>(Txt.mul (ch vc (v3 / (8:Int))) ((1:Int)+(v3 % (8:Int)))));(let ve:=((rng 0 (kN 30)).map λv3:Int=>(at' vd ((((7:Int) * v3)+va) % (30:Int))));(let vf:=([]:List bL);(let vf:(List bL):=((rng 0 ((29:Int)+(v9 % (2:Int))).toNat).foldl (λ(vf:List bL) (v3:Int)=>(cW vb ve vf v3)) vf);((jA vd),((qY cY vf).map λq3:bL=>(((0:Int) - q3.1),q3.2.1,q3.2.2.1,q3.2.2.2)),([]:List pQ)))))))
def j6 (v9:Int) (va:Int) (vb:Int):Prop:=(let vc:=("abcd" : Str);(((rng 0 (kN 30)).length<=100000/\(∀ v3∈(rng 0 (kN 30)),(In vc.length (v3 / (8:Int))/\(((1:Int)+(v3 % (8:Int)))<=1000 ∧ -1000<=((1:Int)+(v3 % (8:Int)))/\(ch vc (v3 / (8:Int))).length<=1000))))/\(let vd:=((rng 0 (kN 30)).map λv3:Int=>(Txt.mul (ch vc (v3 / (8:Int))) ((1:Int)+(v3 % (8:Int)))));(((rng 0 (kN 30)).length<=100000/\(∀ v3∈(rng 0 (kN 30)),In vd.length ((((7:Int) * v3)+va) % (30:Int))))/\(let ve:=((rng 0 (kN 30)).map λv3:Int=>(at' vd ((((7:Int) * v3)+va) % (30:Int))));(let vf:=([]:List bL);((Rg ((29:Int)+(v9 % (2:Int)))/\pP (λ(vf:List bL) (v3:Int)=>(cW vb ve vf v3)) (λ(vf:List bL) (v3:Int)=>some (ju vb ve vf v3)) (rng 0 ((29:Int)+(v9 % (2:Int))).toNat) vf)/\(let vf:(List bL):=((rng 0 ((29:Int)+(v9 % (2:Int))).toNat).foldl (λ(vf:List bL) (v3:Int)=>(cW vb ve vf v3)) vf);(vd.length < 64/\(vf.length < 64/\(qY cY vf).length<=100000))))))))))
theorem MK (v9:Int) (va:Int) (vb:Int):RP oA [some ((zE eI) v9),some ((zE eI) va),some ((zE eI) vb),none,none,none,none,none,none,none,none] (λr=>Out.rt ((zE cR) r)) (j5 v9 va vb) (some (j6 v9 va vb)):=R.tp (bR 3 (x_s "abcd") (λ_=>rfl) λvc=>(bR 4 (xZ (XM 30 30 rfl (by unfold Rg;decide)) _ (λ_=>rfl) (λv3:Int=>(Xp (Ln (au 0 (zE eS) vc rfl) (nZ (au 1 (zE eI) v3 rfl) 8 (by decide))) (fG (x_i 1) (cg (au 1 (zE eI) v3 rfl) 8 (by decide)))))) (λ_=>rfl) λvd=>(bR 5 (xZ (XM 30 30 rfl (by unfold Rg;decide)) _ (λ_=>rfl) (λv3:Int=>(fj (dW (au 0 (lE eS) vd rfl)) (cg (fG (Iz 7 (by decide) (au 2 (zE eI) v3 rfl)) (au 1 (zE eI) va rfl)) 30 (by decide))))) (λ_=>rfl) λve=>(bR 6 (jq (fH cY) (Zl rfl)) (λ_=>rfl) λvf=>(GF (λvf:(List bL)=>[some ((zE eI) v9),some ((zE eI) va),some ((zE eI) vb),some ((zE eS) vc),some ((oE eS) vd),some ((oE eS) ve),some ((oE cY) vf),none,none,none,none]) vf rfl (CJ (fG (x_i 29) (cg (au 0 (zE eI) v9 rfl) 2 (by decide)))) _ (λ_ _=>rfl) (λ(vf:List bL) (v3:Int)=>(Du v9 va vb vc vd ve vf v3).r) λvf=>(gq (λr=>r) (Pr (qu (iu (IW (dW (au 4 (lE eS) vd rfl))))) (qu (iu (qw (Ly (iu (ad8 (dW (au 6 (lE cY) vf rfl))))) _ (λ_=>rfl) (λq3:bL=>(IK (Gx (x_i 0) (au 0 (zE eI) q3.1 rfl)) (au 1 (zE eS) q3.2.1 rfl) (au 2 (zE eS) q3.2.2.1 rfl) (au 3 (zE eI) q3.2.2.2 rfl))) λ_=>rfl))) (Pq Jg)) (λ_=>rfl) λ_=>rfl))))))
theorem MN:∀ v bs,(aZ eI (aZ eI (aZ eI aN))) v bs->bs.length=3/\(hold (some (j6 v.1 v.2.1 v.2.2.1))->oF (bs.map lend)=some ((zE cR) (j5 v.1 v.2.1 v.2.2.1))):=by
 rintro⟨v9,va,vb,_⟩ _ ⟨_,rfl,⟨_,rfl,⟨_,rfl,rfl⟩⟩⟩;exact⟨rfl,λh=>cZ (g:=oA) (n:=11) (bs:=[.z (eI v9),.z (eI va),.z (eI vb)]) (MK v9 va vb) h⟩
def dU (vm:LI_) (vc:Str) (vn:Str) (vj:Int) (v7:LS_) (v3:Int):LS_:=(let vo:=(ch vc ((v3+(at' vm (2:Int))) % (15:Int)));(let vp:=(((Txt.slice vn none (some vj))++vo)++(Txt.slice vn (some vj) none));(let vp:Str:=(if(decide (((at' vm (3:Int)) % (3:Int))=(1:Int)))=true then(let vp:=(Txt.mul (ch vc (v3 / (8:Int))) ((1:Int)+(v3 % (8:Int))));vp) else vp);(let v7:=v7++[vp];v7))))
def jw (vm:LI_) (vc:Str) (vn:Str) (vj:Int) (v7:LS_) (v3:Int):Prop:=((In vm.length (2:Int)/\In vc.length ((v3+(at' vm (2:Int))) % (15:Int)))/\(let vo:=(ch vc ((v3+(at' vm (2:Int))) % (15:Int)));((Aa ((Txt.slice vn none (some vj)).length+vo.length)/\Aa (((Txt.slice vn none (some vj))++vo).length+(Txt.slice vn (some vj) none).length))/\(let vp:=(((Txt.slice vn none (some vj))++vo)++(Txt.slice vn (some vj) none));((In vm.length (3:Int)/\((decide (((at' vm (3:Int)) % (3:Int))=(1:Int)))=true->(In vc.length (v3 / (8:Int))/\(((1:Int)+(v3 % (8:Int)))<=1000 ∧ -1000<=((1:Int)+(v3 % (8:Int)))/\(ch vc (v3 / (8:Int))).length<=1000))))/\(let vp:Str:=(if(decide (((at' vm (3:Int)) % (3:Int))=(1:Int)))=true then(let vp:=(Txt.mul (ch vc (v3 / (8:Int))) ((1:Int)+(v3 % (8:Int))));vp) else vp);Aa v7.length))))))
theorem Dv (vm:LI_) {fV:Bx} (kh:Lp fV (vm.map eI)) (v6:Int) (vc:Str) (vn:Str) (vj:Int) (v7:LS_) (v3:Int):RP nA [some fV,some ((zE eI) v6),some ((zE eS) vc),some ((zE eS) vn),some ((zE eI) vj),some ((oE eS) v7),some ((zE eI) v3),none,none] (λs=>Out.nx ((λv7:LS_=>[some fV,some ((zE eI) v6),some ((zE eS) vc),some ((zE eS) vn),some ((zE eI) vj),some ((oE eS) v7),none,none,none]) s)) (dU vm vc vn vj v7 v3) (some (jw vm vc vn vj v7 v3)):=R.tp (bW (bR 7 (Ln (au 2 (zE eS) vc rfl) (cg (fG (au 6 (zE eI) v3 rfl) (fj (nj 0 eI vm kh rfl) (x_i 2))) 15 (by decide))) (λ_=>rfl) λvo=>(bW (bR 8 (qt (qt (yN (au 3 (zE eS) vn rfl) zj (zm (au 4 (zE eI) vj rfl))) (au 7 (zE eS) vo rfl)) (yN (au 3 (zE eS) vn rfl) (zm (au 4 (zE eI) vj rfl)) zj)) (λ_=>rfl) λvp=>(bW (GD (λvp:Str=>[some fV,some ((zE eI) v6),some ((zE eS) vc),some ((zE eS) vn),some ((zE eI) vj),some ((oE eS) v7),some ((zE eI) v3),some ((zE eS) vo),some ((zE eS) vp)]) (g8 (x_eq (by decide) (cg (fj (nj 0 eI vm kh rfl) (x_i 3)) 3 (by decide)) (x_i 1))) (bW (bR 8 (Xp (Ln (au 2 (zE eS) vc rfl) (nZ (au 6 (zE eI) v3 rfl) 8 (by decide))) (fG (x_i 1) (cg (au 6 (zE eI) v3 rfl) 8 (by decide)))) (λ_=>rfl) λvp=>(dj (bV vp rfl)))) (dj (bV vp rfl)) λvp=>(bW (GC 5 v7 rfl (au 8 (zE eS) vp rfl) λv7=>(dj (bV v7 rfl))))))))))
def jy (vm:LI_) (v6:Int) (vc:Str) (vn:Str):LS_:=(let vj:=((at' vm (1:Int)) % ((vn.length:Int)+(1:Int)));(let v7:=([]:LS_);(let v7:LS_:=((rng 0 v6.toNat).foldl (λ(v7:LS_) (v3:Int)=>(dU vm vc vn vj v7 v3)) v7);v7)))
def nH (vm:LI_) (v6:Int) (vc:Str) (vn:Str):Prop:=((In vm.length (1:Int)/\0 < ((vn.length:Int)+(1:Int)))/\(let vj:=((at' vm (1:Int)) % ((vn.length:Int)+(1:Int)));(let v7:=([]:LS_);(Rg v6/\pP (λ(v7:LS_) (v3:Int)=>(dU vm vc vn vj v7 v3)) (λ(v7:LS_) (v3:Int)=>some (jw vm vc vn vj v7 v3)) (rng 0 v6.toNat) v7))))
def Dw:Ev->Option Out:=(aH (setG 4 (b2 d9 (b2 gk (gv 0) (cB (.int 1))) (b2 dh (cD uF (aq (gv 3) aJ)) (cB (.int 1))))) (aH (setG 5 (cD jV aJ)) (aH (pI (JH (aq (gv 1) aJ)) (lF 6) nA) (aH (Ef 5) iK))))
theorem Dy (vm:LI_) {fV:Bx} (kh:Lp fV (vm.map eI)) (v6:Int) (vc:Str) (vn:Str):RP Dw [some fV,some ((zE eI) v6),some ((zE eS) vc),some ((zE eS) vn),none,none,none,none,none] (λr=>Out.rt ((oE eS) r)) (jy vm v6 vc vn) (some (nH vm v6 vc vn)):=R.tp (bR 4 (yM (fj (nj 0 eI vm kh rfl) (x_i 1)) (fG (Xv (au 3 (zE eS) vn rfl)) (x_i 1))) (λ_=>rfl) λvj=>(bR 5 (jq (fH eS) (Zl rfl)) (λ_=>rfl) λv7=>(GF (λv7:LS_=>[some fV,some ((zE eI) v6),some ((zE eS) vc),some ((zE eS) vn),some ((zE eI) vj),some ((oE eS) v7),none,none,none]) v7 rfl (CJ (au 1 (zE eI) v6 rfl)) _ (λ_ _=>rfl) (λ(v7:LS_) (v3:Int)=>(Dv vm kh v6 vc vn vj v7 v3).r) λv7=>(Pz 5 (λr=>r) v7 rfl (λ_=>rfl) λ_=>rfl))))
def bM (vm:LI_) (v6:Int):LS_:=(let vc:=("abcdefghijklmnopqrstuvwxyz" : Str);(let vn:=(Txt.join "" ((rng 0 ((at' vm (0:Int)) % (6:Int)).toNat).map λv3:Int=>(ch vc (((at' vm v3) / (40:Int)) % (26:Int)))));(jy vm v6 vc vn)))
def oW (vm:LI_) (v6:Int):Prop:=(let vc:=("abcdefghijklmnopqrstuvwxyz" : Str);(((((In vm.length (0:Int)/\Rg ((at' vm (0:Int)) % (6:Int)))/\(rng 0 ((at' vm (0:Int)) % (6:Int)).toNat).length<=100000)/\(∀ v3∈(rng 0 ((at' vm (0:Int)) % (6:Int)).toNat),(In vm.length v3/\In vc.length (((at' vm v3) / (40:Int)) % (26:Int)))))/\(((rng 0 ((at' vm (0:Int)) % (6:Int)).toNat).map λv3:Int=>(ch vc (((at' vm v3) / (40:Int)) % (26:Int)))).map (·.length)).sum+((rng 0 ((at' vm (0:Int)) % (6:Int)).toNat).map λv3:Int=>(ch vc (((at' vm v3) / (40:Int)) % (26:Int)))).length * ("" : Str).length<=100000)/\(let vn:=(Txt.join "" ((rng 0 ((at' vm (0:Int)) % (6:Int)).toNat).map λv3:Int=>(ch vc (((at' vm v3) / (40:Int)) % (26:Int)))));(nH vm v6 vc vn))))
theorem MP (vm:LI_) {fV:Bx} (kh:Lp fV (vm.map eI)) (v6:Int):RP oG [some fV,some ((zE eI) v6),none,none,none,none,none,none,none] (λr=>Out.rt ((oE eS) r)) (bM vm v6) (some (oW vm v6)):=R.tp (bR 2 (x_s "abcdefghijklmnopqrstuvwxyz") (λ_=>rfl) λvc=>(bR 3 (ad2 "" (iu (xZ (CJ (cg (fj (nj 0 eI vm kh rfl) (x_i 0)) 6 (by decide))) _ (λ_=>rfl) (λv3:Int=>(Ln (au 0 (zE eS) vc rfl) (cg (nZ (fj (nj 1 eI vm kh (congrArg some (kh.get rfl))) (au 2 (zE eI) v3 rfl)) 40 (by decide)) 26 (by decide))))))) (λ_=>rfl) λvn=>(Dy vm kh v6 vc vn).r))
theorem M4:∀ v bs,(aL eI (aZ eI aN)) v bs->bs.length=2/\(hold (some (oW v.1 v.2.1))->j4 (bs.map lend)=some ((oE eS) (bM v.1 v.2.1))):=by
 rintro⟨vm,v6,_⟩ _ ⟨fV,_,rfl,kh,⟨_,rfl,rfl⟩⟩;exact⟨rfl,λh=>cZ (g:=oG) (n:=9) (bs:=[lend fV,.z (eI v6)]) (MP vm (Lh kh) v6) h⟩
def cM (v0:LI_) (vj:Int) (v6:Int) (v2:LI_) (vd:LS_) (vq:List bL) (v3:Int):(List bL):=(let vm:=(aP (aR v0 ((vj+(1:Int))+v3)) (4:Int));(let y1:=((at' vm (0:Int)) % (if v6 > (1:Int) then v6 else(1:Int)));let y2:=((at' vm (1:Int)) % (if v6 > (1:Int) then v6 else(1:Int)));let vg:=y1;let vh:=y2;(let vi:=(at' [((1:Int)+((at' vm (2:Int)) % (3:Int))),((1:Int)+((at' vm (2:Int)) % (9:Int))),((1:Int)+((at' vm (2:Int)) % (1000:Int)))] ((at' v2 (4:Int)) % (3:Int)));(let vq:(List bL):=(if(!decide (vg=vh))=true then(let vq:=vq++[(((0:Int) - vi),(at' vd (if vh < vg then vh else vg)),(at' vd (if vh > vg then vh else vg)),(at' [(0:Int),(2:Int),(10:Int)] ((at' vm (3:Int)) % (3:Int))))];vq) else vq);vq))))
def fW (v0:LI_) (vj:Int) (v6:Int) (v2:LI_) (vd:LS_) (vq:List bL) (v3:Int):Prop:=(((fM v0 ((vj+(1:Int))+v3))/\(dH (aR v0 ((vj+(1:Int))+v3)) (4:Int)))/\(let vm:=(aP (aR v0 ((vj+(1:Int))+v3)) (4:Int));(((In vm.length (0:Int)/\0 < (if v6 > (1:Int) then v6 else(1:Int)))/\(In vm.length (1:Int)/\0 < (if v6 > (1:Int) then v6 else(1:Int))))/\(let y1:=((at' vm (0:Int)) % (if v6 > (1:Int) then v6 else(1:Int)));let y2:=((at' vm (1:Int)) % (if v6 > (1:Int) then v6 else(1:Int)));let vg:=y1;let vh:=y2;((((In vm.length (2:Int)/\(In vm.length (2:Int)/\In vm.length (2:Int)))/\In v2.length (4:Int))/\In [((1:Int)+((at' vm (2:Int)) % (3:Int))),((1:Int)+((at' vm (2:Int)) % (9:Int))),((1:Int)+((at' vm (2:Int)) % (1000:Int)))].length ((at' v2 (4:Int)) % (3:Int)))/\(let vi:=(at' [((1:Int)+((at' vm (2:Int)) % (3:Int))),((1:Int)+((at' vm (2:Int)) % (9:Int))),((1:Int)+((at' vm (2:Int)) % (1000:Int)))] ((at' v2 (4:Int)) % (3:Int)));((!decide (vg=vh))=true->((In vd.length (if vh < vg then vh else vg)/\(In vd.length (if vh > vg then vh else vg)/\(In vm.length (3:Int)/\In [(0:Int),(2:Int),(10:Int)].length ((at' vm (3:Int)) % (3:Int)))))/\Aa vq.length))))))))
theorem zp (v0:LI_) {fV:Bx} (kh:Lp fV (v0.map eI)) (vj:Int) (v6:Int) (vk:Int) (vl:Int) (v2:LI_) (vd:LS_) (vq:List bL) (v3:Int):RP kW [some fV,some ((zE eI) vj),some ((zE eI) v6),some ((zE eI) vk),some ((zE eI) vl),some ((oE eI) v2),some ((oE eS) vd),some ((oE cY) vq),some ((zE eI) v3),none,none,none,none,none,none] (λs=>Out.nx ((λvq:(List bL)=>[some fV,some ((zE eI) vj),some ((zE eI) v6),some ((zE eI) vk),some ((zE eI) vl),some ((oE eI) v2),some ((oE eS) vd),some ((oE cY) vq),none,none,none,none,none,none,none]) s)) (cM v0 vj v6 v2 vd vq v3) (some (fW v0 vj v6 v2 vd vq v3)):=R.tp (bW (bR 9 (x_call iH (cL (iD (x_call nG (Lr (nj 0 eI v0 kh rfl) (cL (iD (fG (fG (au 1 (zE eI) vj rfl) (x_i 1)) (au 8 (zE eI) v3 rfl))) bQ)))) (cL (x_i 4) bQ))) (λ_=>rfl) λvm=>(bW (XD 10 11 (yM (fj (dW (au 9 (lE eI) vm rfl)) (x_i 0)) (Gz (x_i 1) (au 2 (zE eI) v6 rfl))) (yM (fj (dW (au 9 (lE eI) vm rfl)) (x_i 1)) (Gz (x_i 1) (au 2 (zE eI) v6 rfl))) λvg vh=>(bW (bR 12 (fj (iu (jq (bx (iD (fG (x_i 1) (cg (fj (dW (au 9 (lE eI) vm rfl)) (x_i 2)) 3 (by decide)))) (bx (iD (fG (x_i 1) (cg (fj (dW (au 9 (lE eI) vm rfl)) (x_i 2)) 9 (by decide)))) (bx (iD (fG (x_i 1) (cg (fj (dW (au 9 (lE eI) vm rfl)) (x_i 2)) 1000 (by decide)))) (fH eI)))) (Zl rfl))) (cg (fj (dW (au 5 (lE eI) v2 rfl)) (x_i 4)) 3 (by decide))) (λ_=>rfl) λvi=>(bW (GD (λvq:(List bL)=>[some fV,some ((zE eI) vj),some ((zE eI) v6),some ((zE eI) vk),some ((zE eI) vl),some ((oE eI) v2),some ((oE eS) vd),some ((oE cY) vq),some ((zE eI) v3),some ((oE eI) vm),some ((zE eI) vg),some ((zE eI) vh),some ((zE eI) vi),none,none]) (g8 (adX (by decide) (au 10 (zE eI) vg rfl) (au 11 (zE eI) vh rfl))) (bW (GC 7 vq rfl (IK (Gx (x_i 0) (au 12 (zE eI) vi rfl)) (fj (dW (au 6 (lE eS) vd rfl)) (Xy (au 10 (zE eI) vg rfl) (au 11 (zE eI) vh rfl))) (fj (dW (au 6 (lE eS) vd rfl)) (Gz (au 10 (zE eI) vg rfl) (au 11 (zE eI) vh rfl))) (fj (iu (jq (bx (x_i 0) (bx (x_i 2) (bx (x_i 10) (fH eI)))) (Zl rfl))) (cg (fj (dW (au 9 (lE eI) vm rfl)) (x_i 3)) 3 (by decide)))) λvq=>(dj (bV vq rfl)))) (dj (bV vq rfl)) λvq=>(dj (bV vq rfl))))))))))
def cN (v0:LI_) (vj:Int) (v6:Int) (vd:LS_) (vr:List pQ) (v3:Int):(List pQ):=(let vm:=(aP (aR v0 ((vj+(1:Int))+v3)) (8:Int));(let y4:=((at' vm (5:Int)) % (if v6 > (1:Int) then v6 else(1:Int)));let y5:=((at' vm (6:Int)) % (if v6 > (1:Int) then v6 else(1:Int)));let vg:=y4;let vh:=y5;(let vr:(List pQ):=(if(!decide (vg=vh))=true then(let vr:=vr++[((at' vd (if vh < vg then vh else vg)),(at' vd (if vh > vg then vh else vg)),(at' [(2:Int),(10:Int)] ((at' vm (7:Int)) % (2:Int))))];vr) else vr);vr)))
def fX (v0:LI_) (vj:Int) (v6:Int) (vd:LS_) (vr:List pQ) (v3:Int):Prop:=(((fM v0 ((vj+(1:Int))+v3))/\(dH (aR v0 ((vj+(1:Int))+v3)) (8:Int)))/\(let vm:=(aP (aR v0 ((vj+(1:Int))+v3)) (8:Int));(((In vm.length (5:Int)/\0 < (if v6 > (1:Int) then v6 else(1:Int)))/\(In vm.length (6:Int)/\0 < (if v6 > (1:Int) then v6 else(1:Int))))/\(let y4:=((at' vm (5:Int)) % (if v6 > (1:Int) then v6 else(1:Int)));let y5:=((at' vm (6:Int)) % (if v6 > (1:Int) then v6 else(1:Int)));let vg:=y4;let vh:=y5;((!decide (vg=vh))=true->((In vd.length (if vh < vg then vh else vg)/\(In vd.length (if vh > vg then vh else vg)/\(In vm.length (7:Int)/\In [(2:Int),(10:Int)].length ((at' vm (7:Int)) % (2:Int)))))/\Aa vr.length))))))
theorem zq (v0:LI_) {fV:Bx} (kh:Lp fV (v0.map eI)) (vj:Int) (v6:Int) (vk:Int) (vl:Int) (v2:LI_) (vd:LS_) (vq:List bL) (v7:List bL) (vr:List pQ) (v3:Int):RP kY [some fV,some ((zE eI) vj),some ((zE eI) v6),some ((zE eI) vk),some ((zE eI) vl),some ((oE eI) v2),some ((oE eS) vd),some ((oE cY) vq),some ((zE eI) v3),none,none,none,none,some ((oE cY) v7),some ((oE Jg) vr)] (λs=>Out.nx ((λvr:(List pQ)=>[some fV,some ((zE eI) vj),some ((zE eI) v6),some ((zE eI) vk),some ((zE eI) vl),some ((oE eI) v2),some ((oE eS) vd),some ((oE cY) vq),none,none,none,none,none,some ((oE cY) v7),some ((oE Jg) vr)]) s)) (cN v0 vj v6 vd vr v3) (some (fX v0 vj v6 vd vr v3)):=R.tp (bW (bR 9 (x_call iH (cL (iD (x_call nG (Lr (nj 0 eI v0 kh rfl) (cL (iD (fG (fG (au 1 (zE eI) vj rfl) (x_i 1)) (au 8 (zE eI) v3 rfl))) bQ)))) (cL (x_i 8) bQ))) (λ_=>rfl) λvm=>(bW (XD 10 11 (yM (fj (dW (au 9 (lE eI) vm rfl)) (x_i 5)) (Gz (x_i 1) (au 2 (zE eI) v6 rfl))) (yM (fj (dW (au 9 (lE eI) vm rfl)) (x_i 6)) (Gz (x_i 1) (au 2 (zE eI) v6 rfl))) λvg vh=>(bW (GD (λvr:(List pQ)=>[some fV,some ((zE eI) vj),some ((zE eI) v6),some ((zE eI) vk),some ((zE eI) vl),some ((oE eI) v2),some ((oE eS) vd),some ((oE cY) vq),some ((zE eI) v3),some ((oE eI) vm),some ((zE eI) vg),some ((zE eI) vh),none,some ((oE cY) v7),some ((oE Jg) vr)]) (g8 (adX (by decide) (au 10 (zE eI) vg rfl) (au 11 (zE eI) vh rfl))) (bW (GC 14 vr rfl (Pr (fj (dW (au 6 (lE eS) vd rfl)) (Xy (au 10 (zE eI) vg rfl) (au 11 (zE eI) vh rfl))) (fj (dW (au 6 (lE eS) vd rfl)) (Gz (au 10 (zE eI) vg rfl) (au 11 (zE eI) vh rfl))) (fj (iu (jq (bx (x_i 2) (bx (x_i 10) (fH eI))) (Zl rfl))) (cg (fj (dW (au 9 (lE eI) vm rfl)) (x_i 7)) 2 (by decide)))) λvr=>(dj (bV vr rfl)))) (dj (bV vr rfl)) λvr=>(dj (bV vr rfl))))))))
def lg (v0:LI_) (vj:Int) (v6:Int) (vk:Int) (vl:Int) (v2:LI_) (vd:LS_) (vq:List bL):gj:=(let v7:=((qY cY (Gv vq)).map λq3:bL=>(((0:Int) - q3.1),q3.2.1,q3.2.2.1,q3.2.2.2));(let vr:=([]:List pQ);(let vr:(List pQ):=((rng 0 vl.toNat).foldl (λ(vr:List pQ) (v3:Int)=>(cN v0 vj v6 vd vr v3)) vr);(vd,v7,(qY Jg (Gv vr))))))
def lq (v0:LI_) (vj:Int) (v6:Int) (vk:Int) (vl:Int) (v2:LI_) (vd:LS_) (vq:List bL):Prop:=(((vq.length<=64/\vq.length < 64)/\(qY cY (Gv vq)).length<=100000)/\(let v7:=((qY cY (Gv vq)).map λq3:bL=>(((0:Int) - q3.1),q3.2.1,q3.2.2.1,q3.2.2.2));(let vr:=([]:List pQ);((Rg vl/\pP (λ(vr:List pQ) (v3:Int)=>(cN v0 vj v6 vd vr v3)) (λ(vr:List pQ) (v3:Int)=>some (fX v0 vj v6 vd vr v3)) (rng 0 vl.toNat) vr)/\(let vr:(List pQ):=((rng 0 vl.toNat).foldl (λ(vr:List pQ) (v3:Int)=>(cN v0 vj v6 vd vr v3)) vr);(vr.length<=64/\vr.length < 64))))))
def q9:Ev->Option Out:=(aH (setG 13 (dN (Gi (Cg (O9 (gv 7)))) (vO 4 (dF (lF 0) (dF (lF 1) (dF (lF 2) (dF (lF 3) Bh))))) rD (cD pD (aq (b2 subB (cB (.int 0)) (gv 0)) (aq (gv 1) (aq (gv 2) (aq (gv 3) aJ))))) [] 4)) (aH (setG 14 (cD jV aJ)) (aH (pI (JH (aq (gv 4) aJ)) (lF 8) kY) (aH (jD (cD pD (aq (cD jk (aq (gv 6) aJ)) (aq (cD jk (aq (gv 13) aJ)) (aq (cD jk (aq (Cg (O9 (gv 14))) aJ)) aJ))))) iK))))
theorem zu (v0:LI_) {fV:Bx} (kh:Lp fV (v0.map eI)) (vj:Int) (v6:Int) (vk:Int) (vl:Int) (v2:LI_) (vd:LS_) (vq:List bL):RP q9 [some fV,some ((zE eI) vj),some ((zE eI) v6),some ((zE eI) vk),some ((zE eI) vl),some ((oE eI) v2),some ((oE eS) vd),some ((oE cY) vq),none,none,none,none,none,none,none] (λr=>Out.rt ((zE cR) r)) (lg v0 vj v6 vk vl v2 vd vq) (some (lq v0 vj v6 vk vl v2 vd vq)):=R.tp (bR 13 (qw (Ly (iu (X3 (XS (dW (au 7 (lE cY) vq rfl)))))) _ (λ_=>rfl) (λq3:bL=>(IK (Gx (x_i 0) (au 0 (zE eI) q3.1 rfl)) (au 1 (zE eS) q3.2.1 rfl) (au 2 (zE eS) q3.2.2.1 rfl) (au 3 (zE eI) q3.2.2.2 rfl))) λ_=>rfl) (λ_=>rfl) λv7=>(bR 14 (jq (fH Jg) (Zl rfl)) (λ_=>rfl) λvr=>(GF (λvr:(List pQ)=>[some fV,some ((zE eI) vj),some ((zE eI) v6),some ((zE eI) vk),some ((zE eI) vl),some ((oE eI) v2),some ((oE eS) vd),some ((oE cY) vq),none,none,none,none,none,some ((oE cY) v7),some ((oE Jg) vr)]) vr rfl (CJ (au 4 (zE eI) vl rfl)) _ (λ_ _=>rfl) (λ(vr:List pQ) (v3:Int)=>(zq v0 kh vj v6 vk vl v2 vd vq v7 vr v3).r) λvr=>(gq (λr=>r) (Pr (qu (dW (au 6 (lE eS) vd rfl))) (qu (dW (au 13 (lE cY) v7 rfl))) (qu (iu (X3 (XS (dW (au 14 (lE Jg) vr rfl))))))) (λ_=>rfl) λ_=>rfl))))
def lu (v0:LI_) (vj:Int) (v6:Int) (vk:Int) (vl:Int) (v2:LI_) (vd:LS_):gj:=(let vq:=([]:List bL);(let vq:(List bL):=((rng 0 vk.toNat).foldl (λ(vq:List bL) (v3:Int)=>(cM v0 vj v6 v2 vd vq v3)) vq);(lg v0 vj v6 vk vl v2 vd vq)))
def lA (v0:LI_) (vj:Int) (v6:Int) (vk:Int) (vl:Int) (v2:LI_) (vd:LS_):Prop:=(let vq:=([]:List bL);((Rg vk/\pP (λ(vq:List bL) (v3:Int)=>(cM v0 vj v6 v2 vd vq v3)) (λ(vq:List bL) (v3:Int)=>some (fW v0 vj v6 v2 vd vq v3)) (rng 0 vk.toNat) vq)/\(let vq:(List bL):=((rng 0 vk.toNat).foldl (λ(vq:List bL) (v3:Int)=>(cM v0 vj v6 v2 vd vq v3)) vq);(lq v0 vj v6 vk vl v2 vd vq))))
def rz:Ev->Option Out:=(aH (setG 7 (cD jV aJ)) (aH (pI (JH (aq (gv 3) aJ)) (lF 8) kW) q9))
theorem zx (v0:LI_) {fV:Bx} (kh:Lp fV (v0.map eI)) (vj:Int) (v6:Int) (vk:Int) (vl:Int) (v2:LI_) (vd:LS_):RP rz [some fV,some ((zE eI) vj),some ((zE eI) v6),some ((zE eI) vk),some ((zE eI) vl),some ((oE eI) v2),some ((oE eS) vd),none,none,none,none,none,none,none,none] (λr=>Out.rt ((zE cR) r)) (lu v0 vj v6 vk vl v2 vd) (some (lA v0 vj v6 vk vl v2 vd)):=R.tp (bR 7 (jq (fH cY) (Zl rfl)) (λ_=>rfl) λvq=>(GF (λvq:(List bL)=>[some fV,some ((zE eI) vj),some ((zE eI) v6),some ((zE eI) vk),some ((zE eI) vl),some ((oE eI) v2),some ((oE eS) vd),some ((oE cY) vq),none,none,none,none,none,none,none]) vq rfl (CJ (au 3 (zE eI) vk rfl)) _ (λ_ _=>rfl) (λ(vq:List bL) (v3:Int)=>(zp v0 kh vj v6 vk vl v2 vd vq v3).r) λvq=>(zu v0 kh vj v6 vk vl v2 vd vq).r))
def lB (v0:LI_) (vj:Int) (v6:Int) (vk:Int) (vl:Int) (v2:LI_):gj:=(let vd:=(jA (bM v2 v6));(lu v0 vj v6 vk vl v2 vd))
def lC (v0:LI_) (vj:Int) (v6:Int) (vk:Int) (vl:Int) (v2:LI_):Prop:=(((oW v2 v6)/\(bM v2 v6).length < 64)/\(let vd:=(jA (bM v2 v6));(lA v0 vj v6 vk vl v2 vd)))
def zy:Ev->Option Out:=(aH (setG 6 (cD yF (aq (cH 2 j4 (aq (gv 5) (aq (gv 2) aJ))) aJ))) rz)
theorem zA (v0:LI_) {fV:Bx} (kh:Lp fV (v0.map eI)) (vj:Int) (v6:Int) (vk:Int) (vl:Int) (v2:LI_):RP zy [some fV,some ((zE eI) vj),some ((zE eI) v6),some ((zE eI) vk),some ((zE eI) vl),some ((oE eI) v2),none,none,none,none,none,none,none,none,none] (λr=>Out.rt ((zE cR) r)) (lB v0 vj v6 vk vl v2) (some (lC v0 vj v6 vk vl v2)):=R.tp (bR 6 (IW (iu (x_call M4 (Lr (dW (au 5 (lE eI) v2 rfl)) (cL (au 2 (zE eI) v6 rfl) bQ))))) (λ_=>rfl) λvd=>(zx v0 kh vj v6 vk vl v2 vd).r)
def mH (v0:LI_) (vj:Int) (v6:Int) (vk:Int) (vl:Int):gj:=(let v2:=(aP (aR v0 vj) (6:Int));(lB v0 vj v6 vk vl v2))
def mJ (v0:LI_) (vj:Int) (v6:Int) (vk:Int) (vl:Int):Prop:=(((fM v0 vj)/\(dH (aR v0 vj) (6:Int)))/\(let v2:=(aP (aR v0 vj) (6:Int));(lC v0 vj v6 vk vl v2)))
theorem Jq (v0:LI_) {fV:Bx} (kh:Lp fV (v0.map eI)) (vj:Int) (v6:Int) (vk:Int) (vl:Int):RP lM [some fV,some ((zE eI) vj),some ((zE eI) v6),some ((zE eI) vk),some ((zE eI) vl),none,none,none,none,none,none,none,none,none,none] (λr=>Out.rt ((zE cR) r)) (mH v0 vj v6 vk vl) (some (mJ v0 vj v6 vk vl)):=R.tp (bR 5 (x_call iH (cL (iD (x_call nG (Lr (nj 0 eI v0 kh rfl) (cL (au 1 (zE eI) vj rfl) bQ)))) (cL (x_i 6) bQ))) (λ_=>rfl) λv2=>(zA v0 kh vj v6 vk vl v2).r)
theorem Jr:∀ v bs,(aL eI (aZ eI (aZ eI (aZ eI (aZ eI aN))))) v bs->bs.length=5/\(hold (some (mJ v.1 v.2.1 v.2.2.1 v.2.2.2.1 v.2.2.2.2.1))->lN (bs.map lend)=some ((zE cR) (mH v.1 v.2.1 v.2.2.1 v.2.2.2.1 v.2.2.2.2.1))):=by
 rintro⟨v0,vj,v6,vk,vl,_⟩ _ ⟨fV,_,rfl,kh,⟨_,rfl,⟨_,rfl,⟨_,rfl,⟨_,rfl,rfl⟩⟩⟩⟩⟩;exact⟨rfl,λh=>cZ (g:=lM) (n:=15) (bs:=[lend fV,.z (eI vj),.z (eI v6),.z (eI vk),.z (eI vl)]) (Jq v0 (Lh kh) vj v6 vk vl) h⟩
def gw (v0:LI_):gj:=(let v2:=(aP (aR v0 (0:Int)) (12:Int));(if(decide (((at' v2 (9:Int)) % (16:Int))=(5:Int)))=true then(j5 ((at' v2 (9:Int)) / (16:Int)) (at' v2 (10:Int)) (at' v2 (11:Int))) else(let v6:=((at' v2 (6:Int)) % (15:Int));(mH v0 (0:Int) v6 ((at' v2 (7:Int)) % (22:Int)) ((at' v2 (8:Int)) % (4:Int))))))
def j7 (v0:LI_):Prop:=(((fM v0 (0:Int))/\(dH (aR v0 (0:Int)) (12:Int)))/\(let v2:=(aP (aR v0 (0:Int)) (12:Int));(In v2.length (9:Int)/\(((decide (((at' v2 (9:Int)) % (16:Int))=(5:Int)))=true->((In v2.length (9:Int)/\(In v2.length (10:Int)/\In v2.length (11:Int)))/\(j6 ((at' v2 (9:Int)) / (16:Int)) (at' v2 (10:Int)) (at' v2 (11:Int)))))/\((decide (((at' v2 (9:Int)) % (16:Int))=(5:Int)))=false->(In v2.length (6:Int)/\(let v6:=((at' v2 (6:Int)) % (15:Int));((In v2.length (7:Int)/\In v2.length (8:Int))/\(mJ v0 (0:Int) v6 ((at' v2 (7:Int)) % (22:Int)) ((at' v2 (8:Int)) % (4:Int)))))))))))
theorem M5 (v0:LI_) {fV:Bx} (kh:Lp fV (v0.map eI)):RP oH [some fV,none,none] (λr=>Out.rt ((zE cR) r)) (gw v0) (some (j7 v0)):=R.tp (bR 1 (x_call iH (cL (iD (x_call nG (Lr (nj 0 eI v0 kh rfl) (cL (x_i 0) bQ)))) (cL (x_i 12) bQ))) (λ_=>rfl) λv2=>(CK (g8 (x_eq (by decide) (cg (fj (dW (au 1 (lE eI) v2 rfl)) (x_i 9)) 16 (by decide)) (x_i 5))) (bW (gq (λr=>r) (x_call MN (cL (nZ (fj (dW (au 1 (lE eI) v2 rfl)) (x_i 9)) 16 (by decide)) (cL (fj (dW (au 1 (lE eI) v2 rfl)) (x_i 10)) (cL (fj (dW (au 1 (lE eI) v2 rfl)) (x_i 11)) bQ)))) (λ_=>rfl) λ_=>rfl)) (dj (bR 2 (cg (fj (dW (au 1 (lE eI) v2 rfl)) (x_i 6)) 15 (by decide)) (λ_=>rfl) λv6=>(gq (λr=>r) (x_call Jr (Lr (nj 0 eI v0 kh rfl) (cL (x_i 0) (cL (au 2 (zE eI) v6 rfl) (cL (cg (fj (dW (au 1 (lE eI) v2 rfl)) (x_i 7)) 22 (by decide)) (cL (cg (fj (dW (au 1 (lE eI) v2 rfl)) (x_i 8)) 4 (by decide)) bQ)))))) (λ_=>rfl) λ_=>rfl)))))
theorem M6:∀ v bs,(aL eI aN) v bs->bs.length=1/\(hold (some (j7 v.1))->oJ (bs.map lend)=some ((zE cR) (gw v.1))):=by
 rintro⟨v0,_⟩ _ ⟨fV,_,rfl,kh,rfl⟩;exact⟨rfl,λh=>cZ (g:=oH) (n:=3) (bs:=[lend fV]) (M5 v0 (Lh kh)) h⟩
def cJ  (v7:List LS_) (q1:bL):(List LS_):=(let vt:=(at' ((v7.filter λvu:LS_=>(decide (q1.2.1∈vu))).map λvu:LS_=>vu) (0:Int));(let vv:=(at' ((v7.filter λvu:LS_=>(decide (q1.2.2.1∈vu))).map λvu:LS_=>vu) (0:Int));(let v7:(List LS_):=(if(!decide (vt=vv))=true then(let v7:=(((v7.filter λvu:LS_=>(!Ja vu [vt,vv])).map λvu:LS_=>vu)++[(jA (vt++vv))]);v7) else v7);v7)))
def gA  (v7:List LS_) (q1:bL):Prop:=((v7.length<=100000/\In ((v7.filter λvu:LS_=>(decide (q1.2.1∈vu))).map λvu:LS_=>vu).length (0:Int))/\(let vt:=(at' ((v7.filter λvu:LS_=>(decide (q1.2.1∈vu))).map λvu:LS_=>vu) (0:Int));((v7.length<=100000/\In ((v7.filter λvu:LS_=>(decide (q1.2.2.1∈vu))).map λvu:LS_=>vu).length (0:Int))/\(let vv:=(at' ((v7.filter λvu:LS_=>(decide (q1.2.2.1∈vu))).map λvu:LS_=>vu) (0:Int));((!decide (vt=vv))=true->((v7.length<=100000/\(Aa (vt.length+vv.length)/\(vt++vv).length < 64))/\Aa (((v7.filter λvu:LS_=>(!Ja vu [vt,vv])).map λvu:LS_=>vu).length+[(jA (vt++vv))].length)))))))
theorem Dz (vd:LS_) (vk:List bL) (v7:List LS_) (q1:bL):RP tB [some ((zE (eT eS)) vd),some ((zE (eT cY)) vk),some ((oE (eL eS)) v7),some ((zE eI) q1.1),some ((zE eS) q1.2.1),some ((zE eS) q1.2.2.1),some ((zE eI) q1.2.2.2),none,none] (λs=>Out.nx ((λv7:(List LS_)=>[some ((zE (eT eS)) vd),some ((zE (eT cY)) vk),some ((oE (eL eS)) v7),none,none,none,none,none,none]) s)) (cJ  v7 q1) (some (gA  v7 q1)):=R.tp (bW (bR 7 (fj (iu (CG (Ly (dW (au 2 (lE (eL eS)) v7 rfl))) _ (λ_=>rfl) (λvu:LS_=>(g8 (af3 (au 0 (zE eS) q1.2.1 rfl) (Pk (au 1 (zE (eL eS)) vu rfl))))) (λvu:LS_=>(au 1 (zE (eL eS)) vu rfl)) (λ_=>rfl) λ_=>rfl)) (x_i 0)) (λ_=>rfl) λvt=>(bW (bR 8 (fj (iu (CG (Ly (dW (au 2 (lE (eL eS)) v7 rfl))) _ (λ_=>rfl) (λvu:LS_=>(g8 (af3 (au 0 (zE eS) q1.2.2.1 rfl) (Pk (au 1 (zE (eL eS)) vu rfl))))) (λvu:LS_=>(au 1 (zE (eL eS)) vu rfl)) (λ_=>rfl) λ_=>rfl)) (x_i 0)) (λ_=>rfl) λvv=>(bW (GD (λv7:(List LS_)=>[some ((zE (eT eS)) vd),some ((zE (eT cY)) vk),some ((oE (eL eS)) v7),some ((zE eI) q1.1),some ((zE eS) q1.2.1),some ((zE eS) q1.2.2.1),some ((zE eI) q1.2.2.2),some ((zE (eL eS)) vt),some ((zE (eL eS)) vv)]) (g8 (Rz (by decide) (Pk (au 7 (zE (eL eS)) vt rfl)) (Pk (au 8 (zE (eL eS)) vv rfl)))) (bW (bR 2 (Cy (iu (CG (Ly (dW (au 2 (lE (eL eS)) v7 rfl))) _ (λ_=>rfl) (λvu:LS_=>(g8 (aeb (by decide) (au 2 (zE (eL eS)) vu rfl) (iu (jq (bx (au 0 (zE (eL eS)) vt rfl) (bx (au 1 (zE (eL eS)) vv rfl) (fH (eL eS)))) (Zl rfl)))))) (λvu:LS_=>(au 2 (zE (eL eS)) vu rfl)) (λ_=>rfl) λ_=>rfl)) (iu (jq (bx (aaR (IW (iu (Cy (Pk (au 7 (zE (eL eS)) vt rfl)) (Pk (au 8 (zE (eL eS)) vv rfl)))))) (fH (eL eS))) (Zl rfl)))) (λ_=>rfl) λv7=>(dj (bV v7 rfl)))) (dj (bV v7 rfl)) λv7=>(dj (bV v7 rfl))))))))
def cX (vd:LS_) (vk:List bL):(List LS_):=(let v7:=(vd.map λvp:Str=>[vp]);(let v7:(List LS_):=(vk.foldl (λ(v7:List LS_) (q1:bL)=>(cJ  v7 q1)) v7);(qx (v7.map λvu:LS_=>vu))))
def j8 (vd:LS_) (vk:List bL):Prop:=(vd.length<=100000/\(let v7:=(vd.map λvp:Str=>[vp]);(pP (λ(v7:List LS_) (q1:bL)=>(cJ  v7 q1)) (λ(v7:List LS_) (q1:bL)=>some (gA  v7 q1)) vk v7/\(let v7:(List LS_):=(vk.foldl (λ(v7:List LS_) (q1:bL)=>(cJ  v7 q1)) v7);(v7.length<=100000/\((v7.map λvu:LS_=>vu).length < 64/\∀ x∈(v7.map λvu:LS_=>vu),x.isEmpty=false))))))
theorem M7 (vd:LS_) (vk:List bL):RP oK [some ((zE (eT eS)) vd),some ((zE (eT cY)) vk),none,none,none,none,none,none,none] (λr=>Out.rt ((oE (eT eS)) r)) (cX vd vk) (some (j8 vd vk)):=R.tp (bR 2 (qw (Xz (au 0 (zE (eT eS)) vd rfl)) _ (λ_=>rfl) (λvp:Str=>(aaR (jq (bx (au 0 (zE eS) vp rfl) (fH eS)) (Zl rfl)))) λ_=>rfl) (λ_=>rfl) λv7=>(XF 1 vk (PJ rfl) (λv7:(List LS_)=>[some ((zE (eT eS)) vd),some ((zE (eT cY)) vk),some ((oE (eL eS)) v7),none,none,none,none,none,none]) v7 rfl _ (λ_ _=>rfl) (λ(v7:List LS_) (q1:bL)=>(Dz vd vk v7 q1).r) λv7=>(gq (λr=>r) (aa3 (iu (qw (Ly (dW (au 2 (lE (eL eS)) v7 rfl))) _ (λ_=>rfl) (λvu:LS_=>(qu (Pk (au 0 (zE (eL eS)) vu rfl)))) λ_=>rfl))) (λ_=>rfl) λ_=>rfl)))
theorem M8:∀ v bs,(aZ (eT eS) (aZ (eT cY) aN)) v bs->bs.length=2/\(hold (some (j8 v.1 v.2.1))->oM (bs.map lend)=some ((oE (eT eS)) (cX v.1 v.2.1))):=by
 rintro⟨vd,vk,_⟩ _ ⟨_,rfl,⟨_,rfl,rfl⟩⟩;exact⟨rfl,λh=>cZ (g:=oK) (n:=9) (bs:=[.z ((eT eS) vd),.z ((eT cY) vk)]) (M7 vd vk) h⟩
def cU (vx:LS_):(List (Str×Str)):=(mkD (vx.map λdB:Str=>(dB,dB)))
def mK (vx:LS_):Prop:=(vx.length < 1000/\vx.length<=100000)
theorem Js (vx:LS_):RP lO [some ((zE (eT eS)) vx)] (λr=>Out.rt ((mE eS) r)) (cU vx) (some (mK vx)):=R.tp (gq (λr=>r) (aaY (Xz (au 0 (zE (eT eS)) vx rfl)) (qw (Xz (au 0 (zE (eT eS)) vx rfl)) _ (λ_=>rfl) (λdB:Str=>(aaX (au 0 (zE eS) dB rfl) (au 0 (zE eS) dB rfl))) λ_=>rfl)) (λ_=>rfl) λ_=>rfl)
theorem Jt:∀ v bs,(aZ (eT eS) aN) v bs->bs.length=1/\(hold (some (mK v.1))->lQ (bs.map lend)=some ((mE eS) (cU v.1))):=by
 rintro⟨vx,_⟩ _ ⟨_,rfl,rfl⟩;exact⟨rfl,λh=>cZ (g:=lO) (n:=1) (bs:=[.z ((eT eS) vx)]) (Js vx) h⟩
def cP (rG:Str) (rK:Str) (wY:Str) (vz:(List (Str×Str))) (dB:Str):(List (Str×Str)):=(let vz:(List (Str×Str)):=(if((decide ((look vz dB)=rG))||(decide ((look vz dB)=rK)))=true then(let vz:=put vz dB wY;vz) else vz);vz)
def lD (rG:Str) (rK:Str) (wY:Str) (vz:(List (Str×Str))) (dB:Str):Prop:=((has vz dB=true/\((decide ((look vz dB)=rG))=false->has vz dB=true))/\(((decide ((look vz dB)=rG))||(decide ((look vz dB)=rK)))=true->vz.length < 1000))
theorem zB {a_:Addr} (rG:Str) (rK:Str) (wY:Str) (vz:(List (Str×Str))) (dB:Str):RP q8 [some ((mW (some a_) eS) vz),some ((zE eS) rG),some ((zE eS) rK),some ((zE eS) wY),some ((zE eS) dB)] (λs=>Out.nx ((λvz:(List (Str×Str))=>[some ((mW (some a_) eS) vz),some ((zE eS) rG),some ((zE eS) rK),some ((zE eS) wY),none]) s)) (cP rG rK wY vz dB) (some (lD rG rK wY vz dB)):=R.tp (bW (GD (λvz:(List (Str×Str))=>[some ((mW (some a_) eS) vz),some ((zE eS) rG),some ((zE eS) rK),some ((zE eS) wY),some ((zE eS) dB)]) (Pn (g8 (x_eq (by decide) (u9 (au 0 (nE eS) vz rfl) (au 4 (zE eS) dB rfl)) (au 1 (zE eS) rG rfl))) (g8 (x_eq (by decide) (u9 (au 0 (nE eS) vz rfl) (au 4 (zE eS) dB rfl)) (au 2 (zE eS) rK rfl)))) (bW (aaW (some a_) 0 vz rfl (au 3 (zE eS) wY rfl) (au 4 (zE eS) dB rfl) λvz=>(dj (bV vz rfl)))) (dj (bV vz rfl)) λvz=>(dj (bV vz rfl))))
def mL (vz:(List (Str×Str))) (rG:Str) (rK:Str):(List (Str×Str)):=(let wY:=(if Nj rK rG=true then rK else rG);(let vz:(List (Str×Str)):=((vz.map (·.1)).foldl (λ(vz:(List (Str×Str))) (dB:Str)=>(cP rG rK wY vz dB)) vz);vz))
def mO (vz:(List (Str×Str))) (rG:Str) (rK:Str):Prop:=(let wY:=(if Nj rK rG=true then rK else rG);pP (λ(vz:(List (Str×Str))) (dB:Str)=>(cP rG rK wY vz dB)) (λ(vz:(List (Str×Str))) (dB:Str)=>some (lD rG rK wY vz dB)) (vz.map (·.1)) vz)
def qR {a_:Addr} (vz:(List (Str×Str))) (rG:Str) (rK:Str):R lR [some ((mW (some a_) eS) vz),some ((zE eS) rG),some ((zE eS) rK),none,none] (λm'=>Out.nx [some ((mW (some a_) eS) m'),some ((zE eS) rG),some ((zE eS) rK),none,none]):=(bW (bR 3 (X4 (au 1 (zE eS) rG rfl) (au 2 (zE eS) rK rfl)) (λ_=>rfl) λwY=>(bW (GF (λvz:(List (Str×Str))=>[some ((mW (some a_) eS) vz),some ((zE eS) rG),some ((zE eS) rK),some ((zE eS) wY),none]) vz rfl (af6 (aaZ (au 0 (nE eS) vz rfl))) _ (λ_ _=>rfl) (λ(vz:(List (Str×Str))) (dB:Str)=>(zB rG rK wY vz dB).r) λvz=>(dj (bV vz rfl))))))
theorem Fj {a_:Addr} (vz:(List (Str×Str))) (rG:Str) (rK:Str):(qR (a_:=a_) vz rG rK).v=mL vz rG rK:=by kernel_rfl
theorem Fl {a_:Addr} (vz:(List (Str×Str))) (rG:Str) (rK:Str):(qR (a_:=a_) vz rG rK).D=some (mO vz rG rK):=by kernel_rfl
theorem Ju:∀ (vz:(List (Str×Str))) v bs,(aZ eS (aZ eS aN)) v bs->bs.length=2/\bs.all isZ=true/\(hold (some (mO vz v.1 v.2.1))->∀ a,jt a (vz.map λq=>(kS q.1,eS q.2)) bs=some ((mL vz v.1 v.2.1).map λq=>(kS q.1,eS q.2))):=by
 rintro vz ⟨rG,rK,_⟩ _ ⟨_,rfl,⟨_,rfl,rfl⟩⟩;exact⟨rfl,rfl,λh a=>(aa0 (g:=lR) (n:=5) (bs:=[.z (eS rG),.z (eS rK)]) (qR (a_:=a) vz rG rK) ((congrArg hold (Fl (a_:=a) vz rG rK)).mpr h) (λ_=>rfl)).trans (congrArg (λr:(List (Str×Str))=>some (r.map λq=>(kS q.1,eS q.2))) (Fj (a_:=a) vz rG rK))⟩
def eU  (vz:(List (Str×Str))) (q1:bL):(List (Str×Str)):=(let vz:=(mL vz (look vz q1.2.1) (look vz q1.2.2.1));vz)
def o7  (vz:(List (Str×Str))) (q1:bL):Prop:=((has vz q1.2.1=true/\has vz q1.2.2.1=true)/\(mO vz (look vz q1.2.1) (look vz q1.2.2.1)))
theorem Fo (vx:LS_) (vy:List bL) (vz:(List (Str×Str))) (q1:bL):RP uM [some ((zE (eT eS)) vx),some ((zE (eT cY)) vy),some ((mE eS) vz),some ((zE eI) q1.1),some ((zE eS) q1.2.1),some ((zE eS) q1.2.2.1),some ((zE eI) q1.2.2.2)] (λs=>Out.nx ((λvz:(List (Str×Str))=>[some ((zE (eT eS)) vx),some ((zE (eT cY)) vy),some ((mE eS) vz),none,none,none,none]) s)) (eU  vz q1) (some (o7  vz q1)):=R.tp (bW (aea none 2 vz rfl Ju (cL (u9 (au 2 (nE eS) vz rfl) (au 4 (zE eS) q1.2.1 rfl)) (cL (u9 (au 2 (nE eS) vz rfl) (au 5 (zE eS) q1.2.2.1 rfl)) bQ)) λvz=>(dj (bV vz rfl))))
def eV (vx:LS_) (vy:List bL):(List (Str×Str)):=(let vz:=(cU vx);(let vz:(List (Str×Str)):=(vy.foldl (λ(vz:(List (Str×Str))) (q1:bL)=>(eU  vz q1)) vz);vz))
def nJ (vx:LS_) (vy:List bL):Prop:=((mK vx)/\(let vz:=(cU vx);pP (λ(vz:(List (Str×Str))) (q1:bL)=>(eU  vz q1)) (λ(vz:(List (Str×Str))) (q1:bL)=>some (o7  vz q1)) vy vz))
theorem Qu (vx:LS_) (vy:List bL):RP qD [some ((zE (eT eS)) vx),some ((zE (eT cY)) vy),none,none,none,none,none] (λr=>Out.rt ((mE eS) r)) (eV vx vy) (some (nJ vx vy)):=R.tp (bR 2 (x_call Jt (cL (au 0 (zE (eT eS)) vx rfl) bQ)) (λ_=>rfl) λvz=>(XF 1 vy (PJ rfl) (λvz:(List (Str×Str))=>[some ((zE (eT eS)) vx),some ((zE (eT cY)) vy),some ((mE eS) vz),none,none,none,none]) vz rfl _ (λ_ _=>rfl) (λ(vz:(List (Str×Str))) (q1:bL)=>(Fo vx vy vz q1).r) λvz=>(Pz 2 (λr=>r) vz rfl (λ_=>rfl) λ_=>rfl)))
theorem DG:∀ v bs,(aZ (eT eS) (aZ (eT cY) aN)) v bs->bs.length=2/\(hold (some (nJ v.1 v.2.1))->jJ (bs.map lend)=some ((mE eS) (eV v.1 v.2.1))):=by
 rintro⟨vx,vy,_⟩ _ ⟨_,rfl,⟨_,rfl,rfl⟩⟩;exact⟨rfl,λh=>cZ (g:=qD) (n:=7) (bs:=[.z ((eT eS) vx),.z ((eT cY) vy)]) (Qu vx vy) h⟩
def bA (vz:(List (Str×Str))) (wY:Str):LS_:=(((vz.map (·.1)).filter λdB:Str=>(decide ((look vz dB)=wY))).map λdB:Str=>dB)
def jU (vz:(List (Str×Str))) (wY:Str):Prop:=((vz.map (·.1)).length<=100000/\(∀ dB∈(vz.map (·.1)),has vz dB=true))
theorem Fp (vz:(List (Str×Str))) (wY:Str):RP jR [some ((nE eS) vz),some ((zE eS) wY)] (λr=>Out.rt ((zE (eT eS)) r)) (bA vz wY) (some (jU vz wY)):=R.tp (gq (λr=>r) (qu (iu (RG (aga (au 0 (nE eS) vz rfl)) _ (λ_=>rfl) (λdB:Str=>(g8 (x_eq (by decide) (u9 (au 1 (nE eS) vz rfl) (au 2 (zE eS) dB rfl)) (au 0 (zE eS) wY rfl)))) (λdB:Str=>(au 2 (zE eS) dB rfl))))) (λ_=>rfl) λ_=>rfl)
theorem uP:∀ v bs,(aM eS (aZ eS aN)) v bs->bs.length=2/\(hold (some (jU v.1 v.2.1))->fY (bs.map lend)=some ((zE (eT eS)) (bA v.1 v.2.1))):=by
 rintro⟨vz,wY,_⟩ _ ⟨_,_,rfl,(rfl|rfl),⟨_,rfl,rfl⟩⟩
 all_goals exact⟨rfl,λh=>cZ (g:=jR) (n:=2) (bs:=[nE eS vz,.z (eS wY)]) (Fp vz wY) h⟩
def cV (vz:(List (Str×Str))):(List LS_):=(((vz.map (·.1)).filter λdB:Str=>(decide ((look vz dB)=dB))).map λdB:Str=>(bA vz dB))
def mQ (vz:(List (Str×Str))):Prop:=((vz.map (·.1)).length<=100000/\(∀ dB∈(vz.map (·.1)),(has vz dB=true/\((decide ((look vz dB)=dB))=true->(jU vz dB)))))
theorem Jv (vz:(List (Str×Str))):RP lU [some ((nE eS) vz)] (λr=>Out.rt ((oE (eT eS)) r)) (cV vz) (some (mQ vz)):=R.tp (gq (λr=>r) (RG (aga (au 0 (nE eS) vz rfl)) _ (λ_=>rfl) (λdB:Str=>(g8 (x_eq (by decide) (u9 (au 0 (nE eS) vz rfl) (au 1 (zE eS) dB rfl)) (au 1 (zE eS) dB rfl)))) (λdB:Str=>(iD (x_call uP (af7 (au 0 (nE eS) vz rfl) (cL (au 1 (zE eS) dB rfl) bQ)))))) (λ_=>rfl) λ_=>rfl)
theorem Jw:∀ v bs,(aM eS aN) v bs->bs.length=1/\(hold (some (mQ v.1))->lV (bs.map lend)=some ((oE (eT eS)) (cV v.1))):=by
 rintro⟨vz,_⟩ _ ⟨_,_,rfl,(rfl|rfl),rfl⟩
 all_goals exact⟨rfl,λh=>cZ (g:=lU) (n:=1) (bs:=[nE eS vz]) (Jv vz) h⟩
def vC (vx:LS_) (vy:List bL):(List LS_):=(cV (eV vx vy))
def vD (vx:LS_) (vy:List bL):Prop:=((nJ vx vy)/\(mQ (eV vx vy)))
theorem Qv (vx:LS_) (vy:List bL):RP qF [some ((zE (eT eS)) vx),some ((zE (eT cY)) vy)] (λr=>Out.rt ((oE (eT eS)) r)) (vC vx vy) (some (vD vx vy)):=R.tp (gq (λr=>r) (x_call Jw (af8 (x_call DG (cL (au 0 (zE (eT eS)) vx rfl) (cL (au 1 (zE (eT cY)) vy rfl) bQ))) bQ)) (λ_=>rfl) λ_=>rfl)
theorem Qw:∀ v bs,(aZ (eT eS) (aZ (eT cY) aN)) v bs->bs.length=2/\(hold (some (vD v.1 v.2.1))->qG (bs.map lend)=some ((oE (eT eS)) (vC v.1 v.2.1))):=by
 rintro⟨vx,vy,_⟩ _ ⟨_,rfl,⟨_,rfl,rfl⟩⟩;exact⟨rfl,λh=>cZ (g:=qF) (n:=2) (bs:=[.z ((eT eS) vx),.z ((eT cY) vy)]) (Qv vx vy) h⟩
def gB (vw:gj):(List LS_):=(vC vw.1 vw.2.1)
def nM (vw:gj):Prop:=(vD vw.1 vw.2.1)
theorem Qx (vw:gj):RP qH [some ((zE cR) vw)] (λr=>Out.rt ((oE (eT eS)) r)) (gB vw) (some (nM vw)):=R.tp (gq (λr=>r) (x_call Qw (cL (pN (au 0 (zE cR) vw rfl) (λq=>q.1) (eT eS) 0 λ_=>rfl) (cL (pN (au 0 (zE cR) vw rfl) (λq=>q.2.1) (eT cY) 1 λ_=>rfl) bQ))) (λ_=>rfl) λ_=>rfl)
theorem DK:∀ v bs,(aZ cR aN) v bs->bs.length=1/\(hold (some (nM v.1))->nC (bs.map lend)=some ((oE (eT eS)) (gB v.1))):=by
 rintro⟨vw,_⟩ _ ⟨_,rfl,rfl⟩;exact⟨rfl,λh=>cZ (g:=qH) (n:=1) (bs:=[.z (cR vw)]) (Qx vw) h⟩
def gY (rH:Dt) (Y9:Str) (Yw:Int):Bool:=((kj rH)&&(((decide ((1:Int)<=(Pu rH)))&&(decide ((Pu rH)<=Yw)))&&(((itX rH).map λva7:Dt=>(Ge (asS va7) Y9)).all id)))
def jz (rH:Dt) (Y9:Str) (Yw:Int):Prop:=((kj rH)=true->((Px rH=true/\((decide ((1:Int)<=(Pu rH)))=true->Px rH=true))/\(((decide ((1:Int)<=(Pu rH)))&&(decide ((Pu rH)<=Yw)))=true->((Px rH=true/\(itX rH).length<=100000)/\(∀ va7∈(itX rH),va7=eS (asS va7))))))
theorem Jx (rH:Dt) (Y9:Str) (Yw:Int):RP lW [some ((zE eD) rH),some ((zE eS) Y9),some ((zE eI) Yw)] (λr=>Out.rt ((zE eB) r)) (gY rH Y9 Yw) (some (jz rH Y9 Yw)):=R.tp (gq (λr=>r) (ab5 (ab7 kj (au 0 (zE eD) rH rfl)) (ab5 (ahZ (afX (x_i 1) (Xw (au 0 (zE eD) rH rfl))) (afX (Xw (au 0 (zE eD) rH rfl)) (au 2 (zE eI) Yw rfl))) (Xx (iu (xZ (ah0 (au 0 (zE eD) rH rfl)) _ (λ_=>rfl) (λva7:Dt=>(af4 (RD (au 1 (zE eD) va7 rfl) asS eS) (au 0 (zE eS) Y9 rfl)))))))) (λ_=>rfl) λ_=>rfl)
theorem Jy:∀ v bs,(aZ eD (aZ eS (aZ eI aN))) v bs->bs.length=3/\(hold (some (jz v.1 v.2.1 v.2.2.1))->lX (bs.map lend)=some ((zE eB) (gY v.1 v.2.1 v.2.2.1))):=by
 rintro⟨rH,Y9,Yw,_⟩ _ ⟨_,rfl,⟨_,rfl,⟨_,rfl,rfl⟩⟩⟩;exact⟨rfl,λh=>cZ (g:=lW) (n:=3) (bs:=[.z (eD rH),.z (eS Y9),.z (eI Yw)]) (Jx rH Y9 Yw) h⟩
def cT (rH:Dt):Bool:=(gY rH ("abcdefghijklmnopqrstuvwxyz" : Str) (8:Int))
def pR (rH:Dt):Prop:=(jz rH ("abcdefghijklmnopqrstuvwxyz" : Str) (8:Int))
theorem UG (rH:Dt):RP uh [some ((zE eD) rH)] (λr=>Out.rt ((zE eB) r)) (cT rH) (some (pR rH)):=R.tp (gq (λr=>r) (x_call Jy (cL (au 0 (zE eD) rH rfl) (cL (x_s "abcdefghijklmnopqrstuvwxyz") (cL (x_i 8) bQ)))) (λ_=>rfl) λ_=>rfl)
theorem G6:∀ v bs,(aZ eD aN) v bs->bs.length=1/\(hold (some (pR v.1))->jK (bs.map lend)=some ((zE eB) (cT v.1))):=by
 rintro⟨rH,_⟩ _ ⟨_,rfl,rfl⟩;exact⟨rfl,λh=>cZ (g:=uh) (n:=1) (bs:=[.z (eD rH)]) (UG rH) h⟩
def pU (vw:gj) (dB:Str):Unit:=(if((!(cT (eS dB)))||(!decide (dB∈vw.1)))=true then default else())
def jP (vw:gj) (dB:Str):Prop:=((pR (eS dB))/\(((!(cT (eS dB)))||(!decide (dB∈vw.1)))=true->False))
theorem yt (vw:gj) (dB:Str):RP gQ [some ((zE cR) vw),some ((zE eS) dB)] (λ_:Unit=>Out.nx [some ((zE cR) vw),some ((zE eS) dB)]) (pU vw dB) (some (jP vw dB)):=R.tp (bW (CK (Pn (Lj (Xm (x_call G6 (cL (Li (au 1 (zE eS) dB rfl)) bQ)))) (g8 (Py (au 1 (zE eS) dB rfl) (pN (au 0 (zE cR) vw rfl) (λq=>q.1) (eT eS) 0 λ_=>rfl)))) (bW aa8) (dj (dj (bV () rfl)))))
theorem yu:∀ v bs,(aZ cR (aZ eS aN)) v bs->bs.length=2/\(hold (some (jP v.1 v.2.1))->gR (bs.map lend)=some ((zE eN) (pU v.1 v.2.1))):=by
 rintro⟨vw,dB,_⟩ _ ⟨_,rfl,⟨_,rfl,rfl⟩⟩;exact⟨rfl,λh=>aa9 (g:=gQ) (n:=2) (bs:=[.z (cR vw),.z (eS dB)]) (yt vw dB).r h⟩
def yw (vx:LS_) (vy:List bL) (dB:Str):LS_:=(let vz:=(eV vx vy);(bA vz (look vz dB)))
def yx (vx:LS_) (vy:List bL) (dB:Str):Prop:=((nJ vx vy)/\(let vz:=(eV vx vy);(has vz dB=true/\(jU vz (look vz dB)))))
theorem UJ (vx:LS_) (vy:List bL) (dB:Str):RP um [some ((zE (eT eS)) vx),some ((zE (eT cY)) vy),some ((zE eS) dB),none] (λr=>Out.rt ((zE (eT eS)) r)) (yw vx vy dB) (some (yx vx vy dB)):=R.tp (bR 3 (x_call DG (cL (au 0 (zE (eT eS)) vx rfl) (cL (au 1 (zE (eT cY)) vy rfl) bQ))) (λ_=>rfl) λvz=>(gq (λr=>r) (x_call uP (af7 (au 3 (nE eS) vz rfl) (cL (u9 (au 3 (nE eS) vz rfl) (au 2 (zE eS) dB rfl)) bQ))) (λ_=>rfl) λ_=>rfl))
theorem UL:∀ v bs,(aZ (eT eS) (aZ (eT cY) (aZ eS aN))) v bs->bs.length=3/\(hold (some (yx v.1 v.2.1 v.2.2.1))->uo (bs.map lend)=some ((zE (eT eS)) (yw v.1 v.2.1 v.2.2.1))):=by
 rintro⟨vx,vy,dB,_⟩ _ ⟨_,rfl,⟨_,rfl,⟨_,rfl,rfl⟩⟩⟩;exact⟨rfl,λh=>cZ (g:=um) (n:=4) (bs:=[.z ((eT eS) vx),.z ((eT cY) vy),.z (eS dB)]) (UJ vx vy dB) h⟩
def ux (vw:gj) (dB:Str):LS_:=(yw vw.1 vw.2.1 dB)
def uy (vw:gj) (dB:Str):Prop:=((jP vw dB)/\(yx vw.1 vw.2.1 dB))
theorem UW (vw:gj) (dB:Str):RP uq [some ((zE cR) vw),some ((zE eS) dB)] (λr=>Out.rt ((zE (eT eS)) r)) (ux vw dB) (some (uy vw dB)):=R.tp (aee (x_call yu (cL (au 0 (zE cR) vw rfl) (cL (au 1 (zE eS) dB rfl) bQ))) (gq (λr=>r) (x_call UL (cL (pN (au 0 (zE cR) vw rfl) (λq=>q.1) (eT eS) 0 λ_=>rfl) (cL (pN (au 0 (zE cR) vw rfl) (λq=>q.2.1) (eT cY) 1 λ_=>rfl) (cL (au 1 (zE eS) dB rfl) bQ)))) (λ_=>rfl) λ_=>rfl))
theorem U0:∀ v bs,(aZ cR (aZ eS aN)) v bs->bs.length=2/\(hold (some (uy v.1 v.2.1))->ur (bs.map lend)=some ((zE (eT eS)) (ux v.1 v.2.1))):=by
 rintro⟨vw,dB,_⟩ _ ⟨_,rfl,⟨_,rfl,rfl⟩⟩;exact⟨rfl,λh=>cZ (g:=uq) (n:=2) (bs:=[.z (cR vw),.z (eS dB)]) (UW vw dB) h⟩
def mR (rA:Str) (Yx:Int) (v9:Int):Str:=(let U3:=("abcdefghijklmnopqrstuvwxyz0123456789 ABCDEFGHIJKLMNOPQRSTUVWXYZ" : Str);(let U3:=(U3++("!#$&'()*+,-./:;<=>?\x40[]^_`{|}~\"\\" : Str));(let Vk:=(ch U3 ((v9 / (6:Int)) % (at' [(36:Int),(94:Int)] ((v9 / (3:Int)) % (2:Int)))));(let vj:=(Yx % ((rA.length:Int)+(1:Int)));(at' [(((Txt.slice rA none (some vj))++Vk)++(Txt.slice rA (some vj) none)),(((Txt.slice rA none (some vj))++Vk)++(Txt.slice rA (some (vj+(1:Int))) none)),((Txt.slice rA none (some vj))++(Txt.slice rA (some (vj+(1:Int))) none))] (v9 % (3:Int)))))))
def mU (rA:Str) (Yx:Int) (v9:Int):Prop:=(let U3:=("abcdefghijklmnopqrstuvwxyz0123456789 ABCDEFGHIJKLMNOPQRSTUVWXYZ" : Str);(Aa (U3.length+("!#$&'()*+,-./:;<=>?\x40[]^_`{|}~\"\\" : Str).length)/\(let U3:=(U3++("!#$&'()*+,-./:;<=>?\x40[]^_`{|}~\"\\" : Str));(((In [(36:Int),(94:Int)].length ((v9 / (3:Int)) % (2:Int))/\0 < (at' [(36:Int),(94:Int)] ((v9 / (3:Int)) % (2:Int))))/\In U3.length ((v9 / (6:Int)) % (at' [(36:Int),(94:Int)] ((v9 / (3:Int)) % (2:Int)))))/\(let Vk:=(ch U3 ((v9 / (6:Int)) % (at' [(36:Int),(94:Int)] ((v9 / (3:Int)) % (2:Int)))));(0 < ((rA.length:Int)+(1:Int))/\(let vj:=(Yx % ((rA.length:Int)+(1:Int)));(((Aa ((Txt.slice rA none (some vj)).length+Vk.length)/\Aa (((Txt.slice rA none (some vj))++Vk).length+(Txt.slice rA (some vj) none).length))/\((Aa ((Txt.slice rA none (some vj)).length+Vk.length)/\Aa (((Txt.slice rA none (some vj))++Vk).length+(Txt.slice rA (some (vj+(1:Int))) none).length))/\Aa ((Txt.slice rA none (some vj)).length+(Txt.slice rA (some (vj+(1:Int))) none).length)))/\In [(((Txt.slice rA none (some vj))++Vk)++(Txt.slice rA (some vj) none)),(((Txt.slice rA none (some vj))++Vk)++(Txt.slice rA (some (vj+(1:Int))) none)),((Txt.slice rA none (some vj))++(Txt.slice rA (some (vj+(1:Int))) none))].length (v9 % (3:Int))))))))))
theorem Jz (rA:Str) (Yx:Int) (v9:Int):RP lY [some ((zE eS) rA),some ((zE eI) Yx),some ((zE eI) v9),none,none,none] (λr=>Out.rt ((zE eS) r)) (mR rA Yx v9) (some (mU rA Yx v9)):=R.tp (bR 3 (x_s "abcdefghijklmnopqrstuvwxyz0123456789 ABCDEFGHIJKLMNOPQRSTUVWXYZ") (λ_=>rfl) λU3=>(bR 3 (qt (au 3 (zE eS) U3 rfl) (x_s "!#$&'()*+,-./:;<=>?\x40[]^_`{|}~\"\\")) (λ_=>rfl) λU3=>(bR 4 (Ln (au 3 (zE eS) U3 rfl) (yM (nZ (au 2 (zE eI) v9 rfl) 6 (by decide)) (fj (iu (jq (bx (x_i 36) (bx (x_i 94) (fH eI))) (Zl rfl))) (cg (nZ (au 2 (zE eI) v9 rfl) 3 (by decide)) 2 (by decide))))) (λ_=>rfl) λVk=>(bR 5 (yM (au 1 (zE eI) Yx rfl) (fG (Xv (au 0 (zE eS) rA rfl)) (x_i 1))) (λ_=>rfl) λvj=>(gq (λr=>r) (fj (iu (jq (bx (iD (qt (qt (yN (au 0 (zE eS) rA rfl) zj (zm (au 5 (zE eI) vj rfl))) (au 4 (zE eS) Vk rfl)) (yN (au 0 (zE eS) rA rfl) (zm (au 5 (zE eI) vj rfl)) zj))) (bx (iD (qt (qt (yN (au 0 (zE eS) rA rfl) zj (zm (au 5 (zE eI) vj rfl))) (au 4 (zE eS) Vk rfl)) (yN (au 0 (zE eS) rA rfl) (zm (fG (au 5 (zE eI) vj rfl) (x_i 1))) zj))) (bx (iD (qt (yN (au 0 (zE eS) rA rfl) zj (zm (au 5 (zE eI) vj rfl))) (yN (au 0 (zE eS) rA rfl) (zm (fG (au 5 (zE eI) vj rfl) (x_i 1))) zj))) (fH eS)))) (Zl rfl))) (cg (au 2 (zE eI) v9 rfl) 3 (by decide))) (λ_=>rfl) λ_=>rfl)))))
theorem JB:∀ v bs,(aZ eS (aZ eI (aZ eI aN))) v bs->bs.length=3/\(hold (some (mU v.1 v.2.1 v.2.2.1))->lZ (bs.map lend)=some ((zE eS) (mR v.1 v.2.1 v.2.2.1))):=by
 rintro⟨rA,Yx,v9,_⟩ _ ⟨_,rfl,⟨_,rfl,⟨_,rfl,rfl⟩⟩⟩;exact⟨rfl,λh=>cZ (g:=lY) (n:=6) (bs:=[.z (eS rA),.z (eI Yx),.z (eI v9)]) (Jz rA Yx v9) h⟩
def iI (v1:gj) (vp:Dt):Bool:=true
def uz (v1:gj) (vp:Dt):Bool:=((!(cT vp))||(!decide ((asS vp)∈v1.1)))
def G7 (v1:gj) (vp:Dt):Prop:=((pR vp)/\((!(cT vp))=false->vp=eS (asS vp)))
def dI (v1:gj) (vp:Dt):Prop:=G7 v1 vp/\uz v1 vp=true/\eqB (.z vp) (.z vp)=some (.z (.bl true))
theorem aiv (v1:gj) (vp:Dt):RP Yr [some ((zE cR) v1),some ((zE eD) vp)] (λb=>b) (uz v1 vp) (some (G7 v1 vp)):=R.tp (Pn (Lj (Xm (x_call G6 (cL (au 1 (zE eD) vp rfl) bQ)))) (g8 (Py (RD (au 1 (zE eD) vp rfl) asS eS) (pN (au 0 (zE cR) v1 rfl) (λq=>q.1) (eT eS) 0 λ_=>rfl))))
theorem uQ:∀ v bs,(aZ cR (aZ eD aN)) v bs->bs.length=2/\(hold (some (dI v.1 v.2.1))->eF (bs.map lend)=some ((zE eB) (iI v.1 v.2.1))):=by
 rintro⟨v1,vp,_⟩ _ ⟨_,rfl,⟨_,rfl,rfl⟩⟩;refine⟨rfl,λh=>?_⟩;obtain⟨h1,h2,h3⟩:dI v1 vp:=h;have e:Yr [some (.z (cR v1)),some (.z vp)]=some true:=(aiv v1 vp h1).trans (congrArg some h2);have ex:wK 2 G4 [.z (cR v1),.z vp]=some vp:=by
  show G3 [some (.z (cR v1)),some (.z vp)]=_;unfold G3 ifX;rw[e];rfl
 show((wK 2 G4 [.z (cR v1),.z vp]).bind λd=>(eqB (.z d) (.z vp)).bind Ml)=some (.z (.bl true));rw[ex];show(eqB (.z vp) (.z vp)).bind Ml=_;rw[h3];rfl
def cQ (vd:LS_):LD_:=(let v7:=Qh;((v7++((cut vd none (some (1:Int))).map λvp:Str=>(eS (vp++("q" : Str)))))++((cut vd none (some (1:Int))).map λvp:Str=>((eL eS) [vp]))))
def iU (vd:LS_):Prop:=(let v7:=Qh;(((((cut vd none (some (1:Int))).length<=100000/\(∀ vp∈(cut vd none (some (1:Int))),Aa (vp.length+("q" : Str).length)))/\Aa (v7.length+((cut vd none (some (1:Int))).map λvp:Str=>(eS (vp++("q" : Str)))).length))/\(cut vd none (some (1:Int))).length<=100000)/\Aa ((v7++((cut vd none (some (1:Int))).map λvp:Str=>(eS (vp++("q" : Str))))).length+((cut vd none (some (1:Int))).map λvp:Str=>((eL eS) [vp])).length)))
theorem zF (vd:LS_):RP iM [some ((zE (eT eS)) vd),none] (λr=>Out.rt ((oE eD) r)) (cQ vd) (some (iU vd)):=R.tp (bR 1 (jq (bx (x_k .non) (bx (x_k (.bl true)) (bx (x_k (.int 0)) (bx (x_k (.str "")) (bx (x_k (.str "Zz")) (bx (Li (aaR (jq (bx (x_s "a") (fH eS)) (Zl rfl)))) (bx (yL .emp eD .emp rfl) (bx (adY (bx (x_k (.str "a")) (fH eD)) (Zl rfl)) (bx (x_k (.str "aaaaaaaaaaaaaaaaaaaa")) (bx (x_k (.int 1)) (fH eD))))))))))) (Zl rfl)) (λ_=>rfl) λv7=>(gq (λr=>r) (Cy (iu (Cy (dW (au 1 (lE eD) v7 rfl)) (iu (xZ (Xz (ab6 (au 0 (zE (eT eS)) vd rfl) zj (zm (x_i 1)))) _ (λ_=>rfl) (λvp:Str=>(Li (iD (qt (au 0 (zE eS) vp rfl) (x_s "q"))))))))) (iu (qw (Xz (ab6 (au 0 (zE (eT eS)) vd rfl) zj (zm (x_i 1)))) _ (λ_=>rfl) (λvp:Str=>(Li (aaR (jq (bx (au 0 (zE eS) vp rfl) (fH eS)) (Zl rfl))))) λ_=>rfl))) (λ_=>rfl) λ_=>rfl))
theorem zG:∀ v bs,(aZ (eT eS) aN) v bs->bs.length=1/\(hold (some (iU v.1))->iQ (bs.map lend)=some ((oE eD) (cQ v.1))):=by
 rintro⟨vd,_⟩ _ ⟨_,rfl,rfl⟩;exact⟨rfl,λh=>cZ (g:=iM) (n:=2) (bs:=[.z ((eT eS) vd)]) (zF vd) h⟩
def pW (v1:gj) (vu:LS_) (s2:Unit) (vp:Str):uG (Unit) Bool:=(if(!decide ((ux v1 vp)=vu))=true then(uG.rt false) else(uG.nx ()))
def DN (v1:gj) (vu:LS_) (s2:Unit) (vp:Str):Prop:=(uy v1 vp)
theorem Yy (v0:LI_) {fV:Bx} (kh:Lp fV (v0.map eI)) (v1:gj) (vs:List LS_) (v7:List LS_) (vu:LS_) (s2:Unit) (vp:Str):RP Mp [some fV,some ((zE cR) v1),some ((lE (eT eS)) vs),some ((oE (eT eS)) v7),some ((zE (eT eS)) vu),some ((zE eS) vp),none,none] (cC (λs2:Unit=>[some fV,some ((zE cR) v1),some ((lE (eT eS)) vs),some ((oE (eT eS)) v7),some ((zE (eT eS)) vu),none,none,none]) (zE eB)) (pW v1 vu s2 vp) (some (DN v1 vu s2 vp)):=R.tp (bW (CK (g8 (adX (by decide) (x_call U0 (cL (au 1 (zE cR) v1 rfl) (cL (au 5 (zE eS) vp rfl) bQ))) (au 4 (zE (eT eS)) vu rfl))) (bW (gq .rt (yL (.bl false) eB false rfl) (λ_=>rfl) λ_=>rfl)) (dj (dj (bV (.nx ()) rfl)))))
def nO (v1:gj) (s1:Unit) (vu:LS_):uG (Unit) Bool:=(behind (lJ (λ(s2:Unit) (vp:Str)=>((pW v1 vu s2 vp):uG (Unit) Bool)) vu ()) (λr=>uG.rt r) λs2:Unit=>(uG.nx ()))
def tM (v1:gj) (s1:Unit) (vu:LS_):Prop:=(sX (λ(s2:Unit) (vp:Str)=>((pW v1 vu s2 vp):uG (Unit) Bool)) (λ(s2:Unit) (vp:Str)=>some (DN v1 vu s2 vp)) vu ()/\(Ad (lJ (λ(s2:Unit) (vp:Str)=>((pW v1 vu s2 vp):uG (Unit) Bool)) vu ()) λs2:Unit=>True))
theorem Yz (v0:LI_) {fV:Bx} (kh:Lp fV (v0.map eI)) (v1:gj) (vs:List LS_) (v7:List LS_) (s1:Unit) (vu:LS_):RP Mq [some fV,some ((zE cR) v1),some ((lE (eT eS)) vs),some ((oE (eT eS)) v7),some ((zE (eT eS)) vu),none,none,none] (cC (λs1:Unit=>[some fV,some ((zE cR) v1),some ((lE (eT eS)) vs),some ((oE (eT eS)) v7),none,none,none,none]) (zE eB)) (nO v1 s1 vu) (some (tM v1 s1 vu)):=R.tp (bW (RM 4 vu (PJ rfl) (λs2:Unit=>[some fV,some ((zE cR) v1),some ((lE (eT eS)) vs),some ((oE (eT eS)) v7),some ((zE (eT eS)) vu),none,none,none]) () rfl _ (λ_ _=>rfl) (λ(s2:Unit) (vp:Str)=>((Yy v0 kh v1 vs v7 vu s2 vp).r:R _ _ (cC (λs2:Unit=>[some fV,some ((zE cR) v1),some ((lE (eT eS)) vs),some ((oE (eT eS)) v7),some ((zE (eT eS)) vu),none,none,none]) (zE eB)))) .rt (λ_=>rfl) λs2=>(dj (bV (.nx ()) rfl))))
def nP (v1:gj) (vm:LI_) (s3:Unit) (v3:Int):uG (Unit) Bool:=(let vp:=(mR (at' v1.1 ((at' vm v3) % (v1.1.length:Int))) (at' vm ((4:Int)+v3)) ((at' vm ((3:Int) - v3)) / (30:Int)));(if((!decide (vp∈v1.1))&&(!(iI v1 (eS vp))))=true then(uG.rt false) else(uG.nx ())))
def DP (v1:gj) (vm:LI_) (s3:Unit) (v3:Int):Prop:=(((((In vm.length v3/\0 < (v1.1.length:Int))/\In v1.1.length ((at' vm v3) % (v1.1.length:Int)))/\(In vm.length ((4:Int)+v3)/\In vm.length ((3:Int) - v3)))/\(mU (at' v1.1 ((at' vm v3) % (v1.1.length:Int))) (at' vm ((4:Int)+v3)) ((at' vm ((3:Int) - v3)) / (30:Int))))/\(let vp:=(mR (at' v1.1 ((at' vm v3) % (v1.1.length:Int))) (at' vm ((4:Int)+v3)) ((at' vm ((3:Int) - v3)) / (30:Int)));((!decide (vp∈v1.1))=true->(dI v1 (eS vp)))))
theorem YB (v0:LI_) {fV:Bx} (kh:Lp fV (v0.map eI)) (v1:gj) (vs:List LS_) (v7:List LS_) (vm:LI_) (s3:Unit) (v3:Int):RP Mr [some fV,some ((zE cR) v1),some ((lE (eT eS)) vs),some ((oE (eT eS)) v7),none,none,some ((oE eI) vm),some ((zE eI) v3)] (cC (λs3:Unit=>[some fV,some ((zE cR) v1),some ((lE (eT eS)) vs),some ((oE (eT eS)) v7),none,none,some ((oE eI) vm),none]) (zE eB)) (nP v1 vm s3 v3) (some (DP v1 vm s3 v3)):=R.tp (bW (bR 5 (x_call JB (cL (afZ (pN (au 1 (zE cR) v1 rfl) (λq=>q.1) (eT eS) 0 λ_=>rfl) (yM (fj (dW (au 6 (lE eI) vm rfl)) (au 7 (zE eI) v3 rfl)) (Xu (pN (au 1 (zE cR) v1 rfl) (λq=>q.1) (eT eS) 0 λ_=>rfl)))) (cL (fj (dW (au 6 (lE eI) vm rfl)) (fG (x_i 4) (au 7 (zE eI) v3 rfl))) (cL (nZ (fj (dW (au 6 (lE eI) vm rfl)) (Gx (x_i 3) (au 7 (zE eI) v3 rfl))) 30 (by decide)) bQ)))) (λ_=>rfl) λvp=>(bW (CK (afY (g8 (Py (au 5 (zE eS) vp rfl) (pN (au 1 (zE cR) v1 rfl) (λq=>q.1) (eT eS) 0 λ_=>rfl))) (Lj (Xm (x_call uQ (cL (au 1 (zE cR) v1 rfl) (cL (Li (au 5 (zE eS) vp rfl)) bQ)))))) (bW (gq .rt (yL (.bl false) eB false rfl) (λ_=>rfl) λ_=>rfl)) (dj (dj (bV (.nx ()) rfl)))))))
def M9 (v0:LI_):Bool:=(let v1:=(gw v0);(let vs:=(cX v1.1 v1.2.1);(let v7:=(gB v1);(if((!true)||((!decide (v7=vs))||(!((v7.map λvu:LS_=>(jY ((eT eS) vu))).all id))))=true then false else(let v7:=v7++[([]:LS_)];(if((!decide ((gB v1)=vs))||(!decide (v7=(vs++[([]:LS_)]))))=true then false else(behind (lJ (λ(s1:Unit) (vu:LS_)=>((nO v1 s1 vu):uG (Unit) Bool)) vs ()) (λr=>r) λs1:Unit=>(let vm:=(cut (aP (aR v0 (0:Int)) (20:Int)) (some (12:Int)) none);(behind (lJ (λ(s3:Unit) (v3:Int)=>((nP v1 vm s3 v3):uG (Unit) Bool)) (rng 0 (if(v1.1.length:Int) < (4:Int) then(v1.1.length:Int) else(4:Int)).toNat) ()) (λr=>r) λs3:Unit=>(((cQ v1.1).map λvp:Dt=>(iI v1 vp)).all id))))))))))
def Nb (v0:LI_):Prop:=((j7 v0)/\(let v1:=(gw v0);((j8 v1.1 v1.2.1)/\(let vs:=(cX v1.1 v1.2.1);((nM v1)/\(let v7:=(gB v1);(((!true)=false->((!decide (v7=vs))=false->v7.length<=100000))/\(((!true)||((!decide (v7=vs))||(!((v7.map λvu:LS_=>(jY ((eT eS) vu))).all id))))=false->(Aa v7.length/\(let v7:=v7++[([]:LS_)];(((nM v1)/\((!decide ((gB v1)=vs))=false->Aa (vs.length+[([]:LS_)].length)))/\(((!decide ((gB v1)=vs))||(!decide (v7=(vs++[([]:LS_)]))))=false->(sX (λ(s1:Unit) (vu:LS_)=>((nO v1 s1 vu):uG (Unit) Bool)) (λ(s1:Unit) (vu:LS_)=>some (tM v1 s1 vu)) vs ()/\(Ad (lJ (λ(s1:Unit) (vu:LS_)=>((nO v1 s1 vu):uG (Unit) Bool)) vs ()) λs1:Unit=>(((fM v0 (0:Int))/\(dH (aR v0 (0:Int)) (20:Int)))/\(let vm:=(cut (aP (aR v0 (0:Int)) (20:Int)) (some (12:Int)) none);((Rg (if(v1.1.length:Int) < (4:Int) then(v1.1.length:Int) else(4:Int))/\sX (λ(s3:Unit) (v3:Int)=>((nP v1 vm s3 v3):uG (Unit) Bool)) (λ(s3:Unit) (v3:Int)=>some (DP v1 vm s3 v3)) (rng 0 (if(v1.1.length:Int) < (4:Int) then(v1.1.length:Int) else(4:Int)).toNat) ())/\(Ad (lJ (λ(s3:Unit) (v3:Int)=>((nP v1 vm s3 v3):uG (Unit) Bool)) (rng 0 (if(v1.1.length:Int) < (4:Int) then(v1.1.length:Int) else(4:Int)).toNat) ()) λs3:Unit=>(((iU v1.1)/\(cQ v1.1).length<=100000)/\(∀ vp∈(cQ v1.1),(dI v1 vp)))))))))))))))))))))
theorem agy (v0:LI_) {fV:Bx} (kh:Lp fV (v0.map eI)):RP R4 [some fV,none,none,none,none,none,none,none] (λr=>Out.rt ((zE eB) r)) (M9 v0) (some (Nb v0)):=R.tp (bR 1 (x_call M6 (Lr (nj 0 eI v0 kh rfl) bQ)) (λ_=>rfl) λv1=>(bR 2 (x_call M8 (cL (pN (au 1 (zE cR) v1 rfl) (λq=>q.1) (eT eS) 0 λ_=>rfl) (cL (pN (au 1 (zE cR) v1 rfl) (λq=>q.2.1) (eT cY) 1 λ_=>rfl) bQ))) (λ_=>rfl) λvs=>(bR 3 (x_call DK (cL (au 1 (zE cR) v1 rfl) bQ)) (λ_=>rfl) λv7=>(CK (Pn (Lj (Xm (ad1 is_list (dW (au 3 (lE (eT eS)) v7 rfl)) true λ_=>rfl))) (Pn (g8 (Rz (by decide) (dW (au 3 (lE (eT eS)) v7 rfl)) (dW (au 2 (lE (eT eS)) vs rfl)))) (Lj (Xm (Xx (iu (qw (Ly (dW (au 3 (lE (eT eS)) v7 rfl))) _ (λ_=>rfl) (λvu:LS_=>(iD (ab7 jY (au 0 (zE (eT eS)) vu rfl)))) λ_=>rfl))))))) (bW (gq (λr=>r) (yL (.bl false) eB false rfl) (λ_=>rfl) λ_=>rfl)) (dj (GC 3 v7 rfl (Pq eS) λv7=>(CK (Pn (g8 (Rz (by decide) (iu (x_call DK (cL (au 1 (zE cR) v1 rfl) bQ))) (dW (au 2 (lE (eT eS)) vs rfl)))) (g8 (Rz (by decide) (dW (au 3 (lE (eT eS)) v7 rfl)) (iu (Cy (dW (au 2 (lE (eT eS)) vs rfl)) (iu (jq (bx (Pq eS) (fH (eT eS))) (Zl rfl)))))))) (bW (gq (λr=>r) (yL (.bl false) eB false rfl) (λ_=>rfl) λ_=>rfl)) (dj (RM 2 vs (ad7 rfl) (λs1:Unit=>[some fV,some ((zE cR) v1),some ((lE (eT eS)) vs),some ((oE (eT eS)) v7),none,none,none,none]) () rfl _ (λ_ _=>rfl) (λ(s1:Unit) (vu:LS_)=>((Yz v0 kh v1 vs v7 s1 vu).r:R _ _ (cC (λs1:Unit=>[some fV,some ((zE cR) v1),some ((lE (eT eS)) vs),some ((oE (eT eS)) v7),none,none,none,none]) (zE eB)))) (λr=>r) (λ_=>rfl) λs1=>(bR 6 (af0 (iu (x_call iH (cL (iD (x_call nG (Lr (nj 0 eI v0 kh rfl) (cL (x_i 0) bQ)))) (cL (x_i 20) bQ)))) (zm (x_i 12)) zj) (λ_=>rfl) λvm=>(ad6 (λs3:Unit=>[some fV,some ((zE cR) v1),some ((lE (eT eS)) vs),some ((oE (eT eS)) v7),none,none,some ((oE eI) vm),none]) () rfl (CJ (Xy (x_i 4) (Xu (pN (au 1 (zE cR) v1 rfl) (λq=>q.1) (eT eS) 0 λ_=>rfl)))) _ (λ_ _=>rfl) (λ(s3:Unit) (v3:Int)=>((YB v0 kh v1 vs v7 vm s3 v3).r:R _ _ (cC (λs3:Unit=>[some fV,some ((zE cR) v1),some ((lE (eT eS)) vs),some ((oE (eT eS)) v7),none,none,some ((oE eI) vm),none]) (zE eB)))) (λr=>r) (λ_=>rfl) λs3=>(gq (λr=>r) (Xx (iu (xZ (Ly (iu (x_call zG (cL (pN (au 1 (zE cR) v1 rfl) (λq=>q.1) (eT eS) 0 λ_=>rfl) bQ)))) _ (λ_=>rfl) (λvp:Dt=>(iD (x_call uQ (cL (au 0 (zE cR) v1 rfl) (cL (au 1 (zE eD) vp rfl) bQ)))))))) (λ_=>rfl) λ_=>rfl))))))))))))
theorem acn:∀ v bs,(aL eI aN) v bs->bs.length=1/\(hold (some (Nb v.1))->F_law (bs.map lend)=some ((zE eB) (M9 v.1))):=by
 rintro⟨v0,_⟩ _ ⟨fV,_,rfl,kh,rfl⟩;exact⟨rfl,λh=>cZ (g:=R4) (n:=8) (bs:=[lend fV]) (agy v0 (Lh kh)) h⟩
theorem aco (h:∀ ns:List Int,ns.length<=63->Nb ns/\M9 ns=true):(∀ ns:List Int,ns.length<=63->F_law [.z (.lst (ns.map .int))]=some (.z (.bl true)))/\∀ ns:List Int,ns.length<=63->F_law [.l (ns.map .int)]=some (.z (.bl true)):=
 ⟨λns hn=>((acn (ns,()) [.z (.lst (ns.map .int))] ⟨_,_,rfl,rfl,rfl⟩).2 (h ns hn).1).trans (by rw[(h ns hn).2]),λns hn=>((acn (ns,()) [.l (ns.map .int)] ⟨_,_,rfl,rfl,rfl⟩).2 (h ns hn).1).trans (by rw[(h ns hn).2])⟩
end
end G12
end
section
set_option synthInstance.maxSize 100000
namespace G12
open PySem PySem.Spec PyProof.Rows L2 P1
theorem DR (script:List Int) (k:Int) (h0:0<=k) (h1:k<=1000):fM script k:=by
 unfold fM;exact⟨λh=>in_of h0 (by simpa using h),λ_=>X6 h0 (by omega)⟩
theorem YC (k:Nat) (s:Int×List Int×Int) (hk:k < 1000) (h:(0<=s.1/\s.1 < 1999999973)/\s.2.1.length=k/\(∀ x∈s.2.1,0<=x)/\0<=s.2.2):gU s k/\(0<=(bT s k).1/\(bT s k).1 < 1999999973)/\(bT s k).2.1.length=k+1/\(∀ x∈(bT s k).2.1,0<=x)/\0<=(bT s k).2.2:=by
 obtain⟨h1,h2,h3,h4⟩:=h;have hin:In 2 (if(decide ((0:Int) < s.2.2))=true then(1:Int) else 0):=by split<;>exact in_of (by omega) (by omega)
 refine⟨⟨X6 h1.1 (by omega),hin,?_⟩,ig _ (by decide),?_,?_,Int.ediv_nonneg h4 (by decide)⟩
 ·show s.2.1.length<=1000000;omega
 ·show(s.2.1++[_]).length=k+1;rw[Zp,h2];rfl
 ·intro x hx;rcases List.mem_append.mp hx with hx|hx
  ·exact h3 x hx
  ·cases List.mem_singleton.mp hx;have:=nu (xs:=[((((s.1 * ((s.1 % (65521:Int))+(40487:Int)))+((7:Int) * k))+(5:Int)) % (1999999973:Int)),(s.2.2 % (1000000:Int))]) hin;simp only[QR,Q4,or_false] at this;rcases this with e|e<;>rw[e]
   ·exact(ig _ (by decide)).1
   ·exact(ig _ (by decide)).1
theorem DW (c m:Int) (h0:0<=m) (h1:m<=1000):dH c m/\(aP c m).length=m.toNat/\∀ x∈aP c m,0<=x:=by
 have key:∀ st dg:Int,(0<=st/\st < 1999999973)->0<=dg->jO c m [] st dg/\(gW c m [] st dg).length=m.toNat/\∀ x∈gW c m [] st dg,0<=x:=λst dg hs hd=>by
  have:=sY (P:=λs k=>some (gU s k)) (λk s=>(0<=s.1/\s.1 < 1999999973)/\s.2.1.length=k/\(∀ x∈s.2.1,0<=x)/\0<=s.2.2) (step:=λs k=>bT s k) m.toNat (st,[],dg) ⟨hs,rfl,λx h=>(by cases h),hd⟩ λk s hk h=>YC k s (by omega) h;exact⟨⟨CP h0 (by omega),this.1⟩,this.2.2.1,this.2.2.2.1⟩
 refine key _ _ (ig _ (by decide)) ?_;dsimp only;split<;>(try split)<;>omega
theorem qT {α:Type} {m:List (Str×α)} {x:Str}:has m x=true↔x∈m.map (·.1):=by
 unfold has;rw[kq,Kb];constructor
 ·rintro⟨q,hq,h⟩;exact⟨q,hq,kb h⟩
 ·rintro⟨q,hq,h⟩;exact⟨q,hq,QN h⟩
theorem Nf {α:Type} [Inhabited α] {pre rest:List (Str×α)} {n:Str} {h:α} (hn:n∉pre.map (·.1)):look (pre++(n,h)::rest) n=h:=by
 unfold look;have:pre.find? (λq=>decide (q.1=n))=none:=List.find?_eq_none.mpr λq hq e=>hn (List.mem_map.mpr ⟨q,hq,kb e⟩);rw[List.find?_append,this];simp
theorem aby {α:Type} {pre rest:List (Str×α)} {n:Str} {h v:α} (hn:n∉pre.map (·.1)) (hr:n∉rest.map (·.1)):put (pre++(n,h)::rest) n v=pre++(n,v)::rest:=by
 unfold put;rw[zl (qT.mpr (by simp))];have fix:∀ l:List (Str×α),n∉l.map (·.1)->l.map (λq=>if q.1=n then(q.1,v) else q)=l:=λl hl=>by
  conv=>rhs;rw[<-List.map_id l]
  refine j0 λq hq=>?_;rw[zw λe=>hl (List.mem_map.mpr ⟨q,hq,e⟩)];rfl
 rw[Q2,zo,fix pre hn,fix rest hr];simp
theorem U4 {α:Type} [Inhabited α] {m:List (Str×α)} {x:Str} (h:x∈m.map (·.1)):(x,look m x)∈m:=by
 unfold look;cases hf:m.find? λq=>decide (q.1=x) with
 |none=>
  obtain⟨q,hq,rfl⟩:=List.mem_map.mp h;have:=List.find?_eq_none.mp hf q hq;simp at this
 |some q=>
  have h1:=List.mem_of_find?_eq_some hf;have h2:q.1=x:=by simpa using List.find?_some hf
  show(x,q.2)∈m;rw[<-h2];exact h1
theorem JC {α:Type} [Inhabited α] {m:List (Str×α)} (nd:(m.map (·.1)).Nodup) {q:Str×α} (h:q∈m):look m q.1=q.2:=by
 obtain⟨pre,rest,rfl⟩:=List.append_of_mem h;have:q.1∉pre.map (·.1):=λe=>by
  rw[Q2,zo,Kk] at nd;exact nd.2.2 _ e _ (zi ..) rfl
 exact Nf this
def mn (one other:Str):Str:=if Nj other one=true then other else one
def jn (one other h:Str):Str:=if h=one\/h=other then mn one other else h
theorem Ng (a b:Str):mn a b=a\/mn a b=b:=by unfold mn;split;exact .inr rfl;exact .inl rfl
def jm (m:List (Str×Str)) (one other:Str):List (Str×Str):=m.map λq=>(q.1,jn one other q.2)
theorem R8 (m:List (Str×Str)) (one other:Str):(jm m one other).map (·.1)=m.map (·.1):=by unfold jm;rw[Qb];rfl
theorem abz {m:List (Str×Str)} {one other x:Str} (nd:(m.map (·.1)).Nodup) (h:x∈m.map (·.1)):look (jm m one other) x=jn one other (look m x):=by
 have h1:=U4 h;have:(x,jn one other (look m x))∈jm m one other:=List.mem_map.mpr ⟨_,h1,rfl⟩;exact JC (by rw[R8];exact nd) this
theorem join_loop (one other:Str):∀ (post pre:List (Str×Str)),((pre++post).map (·.1)).Nodup->(pre++post).length < 1000 →
  pP (λ(heads:(List (Str×Str))) (name:Str)=>(cP one other (mn one other) heads name)) (λ(heads:(List (Str×Str))) (name:Str)=>some (lD one other (mn one other) heads name)) (post.map (·.1)) (pre++post) ∧
  (post.map (·.1)).foldl (λ(heads:(List (Str×Str))) (name:Str)=>(cP one other (mn one other) heads name)) (pre++post)=pre++jm post one other
 |[],pre,_,_=>⟨trivial,rfl⟩
 |(n,h)::rest,pre,nd,hl=>by
  have hn:n∉pre.map (·.1):=λe=>by
   rw[Q2,zo,Kk] at nd;exact nd.2.2 _ e _ (zi ..) rfl
  have hr:n∉rest.map (·.1):=by
   rw[Q2,zo,Kk,List.nodup_cons] at nd;exact nd.2.1.1
  have hh:has (pre++(n,h)::rest) n=true:=qT.mpr (by simp);have e:cP one other (mn one other) (pre++(n,h)::rest) n=pre++(n,jn one other h)::rest:=by
   unfold cP;dsimp only;rw[Nf hn];unfold jn;by_cases q:h=one\/h=other
   ·rw[zl q,zl (by simpa using q),aby hn hr]
   ·rw[zw q,zw (by simpa using q)]
  have ih:=join_loop one other rest (pre++[(n,jn one other h)]) (by simpa using nd) (by simpa using hl);rw[kK] at ih;refine⟨⟨⟨⟨hh,λ_=>hh⟩,λ_=>hl⟩,?_⟩,?_⟩
  ·show pP _ _ _ (cP one other (mn one other) (pre++(n,h)::rest) n);rw[e];exact ih.1
  ·rw[zo,QO,e];rw[show pre++(n,jn one other h)::rest=pre++([(n,jn one other h)]++rest) by simp,ih.2];unfold jm;simp
theorem abA {m:List (Str×Str)} (one other:Str) (nd:(m.map (·.1)).Nodup) (hl:m.length < 1000):mO m one other/\mL m one other=jm m one other:=join_loop one other m [] nd hl
theorem R9:∀ (qs m:List (Str×Str)),((m++qs).map (·.1)).Nodup->qs.foldl (λm q=>put m q.1 q.2) m=m++qs
 |[],m,_=>by simp
 |q::qs,m,nd=>by
  rw[QO];have:put m q.1 q.2=m++[q]:=by
   unfold put;rw[zw];intro e;have e:=qT.mp e;rw[Q2,zo,Kk] at nd;exact nd.2.2 _ e _ (zi ..) rfl
  rw[this,R9 qs (m++[q]) (by simpa using nd)];simp
theorem Ah (n_:LS_) (nd:n_.Nodup) (hl:n_.length < 1000):mK n_/\cU n_=n_.map λn=>(n,n):=by
 refine⟨⟨hl,by omega⟩,?_⟩;unfold cU mkD;rw[R9 _ [] (by rw[kB,Qb];show(n_.map id).Nodup;rw[List.map_id];exact nd)];rfl
structure Hd (n_:LS_) (m:List (Str×Str)):Prop where
 keys:m.map (·.1)=n_
 nd:n_.Nodup
 len:n_.length < 1000
 mem:∀ x∈n_,look m x∈n_
 idem:∀ x∈n_,look m (look m x)=look m x
theorem Hd.kn {n_:LS_} {m:List (Str×Str)} (h:Hd n_ m):(m.map (·.1)).Nodup:=by rw[h.keys];exact h.nd
theorem Hd.ml {n_:LS_} {m:List (Str×Str)} (h:Hd n_ m):m.length < 1000:=by rw[<-zh (f:=(·.1)),h.keys];exact h.len
theorem Hd.has {n_:LS_} {m:List (Str×Str)} (h:Hd n_ m) {x:Str} (hx:x∈n_):has m x=true:=qT.mpr (by rw[h.keys];exact hx)
theorem Hd.lone {n_:LS_} (nd:n_.Nodup) (hl:n_.length < 1000):Hd n_ (n_.map λn=>(n,n)):=by
 have k:(n_.map λn=>(n,n)).map (·.1)=n_:=by rw[Qb];show n_.map id=n_;rw[List.map_id]
 have lk:∀ x∈n_,look (n_.map λn=>(n,n)) x=x:=λx hx=>JC (q:=(x,x)) (by rw[k];exact nd) (List.mem_map.mpr ⟨x,hx,rfl⟩);exact⟨k,nd,hl,λx hx=>by rw[lk x hx];exact hx,λx hx=>by rw[lk x hx,lk x hx]⟩
theorem yC {n_:LS_} (nd:n_.Nodup) {x:Str} (hx:x∈n_):look (n_.map λn=>(n,n)) x=x:=
 JC (q:=(x,x)) (by rw[Qb];show(n_.map id).Nodup;rw[List.map_id];exact nd) (List.mem_map.mpr ⟨x,hx,rfl⟩)
theorem Hd.yU {n_:LS_} {m:List (Str×Str)} (h:Hd n_ m) {one other x:Str} (hx:x∈n_):look (jm m one other) x=jn one other (look m x):=abz h.kn (by rw[h.keys];exact hx)
theorem Hd.join {n_:LS_} {m:List (Str×Str)} (h:Hd n_ m) {a b:Str} (ha:a∈n_) (hb:b∈n_):Hd n_ (jm m (look m a) (look m b)):=by
 have m1:=h.mem a ha;have m2:=h.mem b hb;refine⟨(R8 _ _ _).trans h.keys,h.nd,h.len,λx hx=>?_,λx hx=>?_⟩
 ·rw[h.yU hx];unfold jn;split
  ·rcases Ng (look m a) (look m b) with e|e<;>rw[e]<;>assumption
  ·exact h.mem x hx
 ·have hx':jn (look m a) (look m b) (look m x)∈n_:=by
   unfold jn;split
   ·rcases Ng (look m a) (look m b) with e|e<;>rw[e]<;>assumption
   ·exact h.mem x hx
  rw[h.yU hx,h.yU hx'];unfold jn;by_cases q:look m x=look m a\/look m x=look m b
  ·rw[zl q];rcases Ng (look m a) (look m b) with e|e
   ·rw[e,h.idem a ha,zl (.inl rfl)]
   ·rw[e,h.idem b hb,zl (.inr rfl)]
  ·rw[zw q,h.idem x hx,zw q]
theorem abB {m:List (Str×Str)} (a:Str):jm m a a=m:=by
 unfold jm
 conv=>rhs;rw[<-List.map_id m]
 refine j0 λq _=>?_;unfold jn mn;have:Nj a a=false:=by simp[Nj]
 rw[this];by_cases e:q.2=a
 ·rw[zl (.inl e),zw (by decide),<-e];rfl
 ·rw[zw (by simp[e])];rfl
def agz (n_:LS_) (m:List (Str×Str)):LS_:=n_.filter λx=>decide (look m x=x)
theorem abC {n_:LS_} {m:List (Str×Str)} (h:Hd n_ m):mQ m/\(cV m).length=(agz n_ m).length:=by
 have hl:=h.len;refine⟨⟨by rw[h.keys];omega,λx hx=>⟨qT.mpr hx,λ_=>⟨by rw[h.keys];omega,λy hy=>qT.mpr hy⟩⟩⟩,?_⟩;unfold cV agz;rw[zh,h.keys]
abbrev JK:=Int×Str×Str×Int
def Rs (n_:LS_) (rs:List JK):Prop:=∀ r∈rs,r.2.1∈n_/\r.2.2.1∈n_
def jb (m:List (Str×Str)) (r:JK):List (Str×Str):=jm m (look m r.2.1) (look m r.2.2.1)
def hb (n_:LS_) (rs:List JK):List (Str×Str):=rs.foldl jb (cU n_)
theorem hd0 {n_:LS_} (nd:n_.Nodup) (hl:n_.length < 1000):Hd n_ (cU n_):=by rw[(Ah n_ nd hl).2];exact Hd.lone nd hl
theorem pig:∀ {xs ys:LS_},xs.Nodup->(∀ x∈xs,x∈ys)->xs.length<=ys.length
 |[],_,_,_=>QP _
 |x::xs,ys,nd,h=>by
  obtain⟨n1,n2⟩:=List.nodup_cons.mp nd;have hx:=h x (zi ..);have:=pig (ys:=ys.erase x) n2 λz hz=>(List.mem_erase_of_ne (λe:z=x=>n1 (e▸hz))).mpr (h z (zr _ hz));rw[List.length_erase_of_mem hx] at this;have:=List.length_pos_of_mem hx;rw[qS];omega
structure PH (n_:LS_) (P:List LS_) (m:List (Str×Str)):Prop where
 sub:∀ p∈P,∀ y∈p,y∈n_
 cov:∀ x∈n_,∃ p∈P,x∈p
 cls:∀ p∈P,∀ x∈p,∀ y∈n_,(y∈p↔look m x=look m y)
 ne:∀ p∈P,p≠[]
 nd:∀ p∈P,p.Nodup
 uni:∀ p∈P,∀ q∈P,∀ x,x∈p->x∈q->p=q
 len:P.length<=n_.length
 pn:P.Nodup
 srt:∀ p∈P,p.Pairwise rE
theorem ph0 {n_:LS_} (nd:n_.Nodup) (hl:n_.length < 1000):PH n_ (n_.map λname:Str=>[name]) (cU n_):=by
 rw[(Ah n_ nd hl).2];have inv:∀ p,p∈(n_.map λname:Str=>[name])->∃ n∈n_,p=[n]:=λp hp=>by
  obtain⟨n,hn,e⟩:=List.mem_map.mp hp;exact⟨n,hn,e.symm⟩
 refine⟨λp hp y hy=>?_,λx hx=>⟨[x],List.mem_map.mpr ⟨x,hx,rfl⟩,List.mem_singleton.mpr rfl⟩,λp hp x hx y hy=>?_,λp hp e=>?_,λp hp=>?_,λp hp q hq x h1 h2=>?_,by rw[zh];exact zg _,?_,λp hp=>?_⟩
 ·obtain⟨n,hn,rfl⟩:=inv p hp;cases List.mem_singleton.mp hy;exact hn
 ·obtain⟨n,hn,rfl⟩:=inv p hp;cases List.mem_singleton.mp hx;rw[yC nd hn,yC nd hy,List.mem_singleton];exact⟨λe=>e.symm,λe=>e.symm⟩
 ·obtain⟨n,hn,rfl⟩:=inv p hp;cases e
 ·obtain⟨n,hn,rfl⟩:=inv p hp;exact List.nodup_cons.mpr ⟨λz=>(by cases z),ya⟩
 ·obtain⟨n,hn,rfl⟩:=inv p hp;obtain⟨n',hn',rfl⟩:=inv q hq;cases List.mem_singleton.mp h1;cases List.mem_singleton.mp h2;rfl
 ·unfold List.Nodup;rw[yk];exact nd.imp λh e=>h (by injection e)
 ·obtain⟨n,hn,rfl⟩:=inv p hp;exact List.pairwise_singleton _ _
theorem pick {P:List LS_} {a:Str} (h:∃ p∈P,a∈p):In ((P.filter λpart:LS_=>(decide (a∈part))).map λpart:LS_=>part).length (0:Int)/\at' ((P.filter λpart:LS_=>(decide (a∈part))).map λpart:LS_=>part) (0:Int)∈P/\a∈at' ((P.filter λpart:LS_=>(decide (a∈part))).map λpart:LS_=>part) (0:Int):=by
 obtain⟨p,hp,ha⟩:=h;have m:p∈((P.filter λpart:LS_=>(decide (a∈part))).map λpart:LS_=>part):=List.mem_map.mpr ⟨p,List.mem_filter.mpr ⟨hp,QN ha⟩,rfl⟩;have i:In ((P.filter λpart:LS_=>(decide (a∈part))).map λpart:LS_=>part).length (0:Int):=CN (k:=0) (List.length_pos_of_mem m);refine⟨i,?_⟩;obtain⟨q,hq,e⟩:=List.mem_map.mp (nu i);rw[<-e];exact⟨(List.mem_filter.mp hq).1,kb (List.mem_filter.mp hq).2⟩
theorem comb {n_:LS_} {P:List LS_} {m:List (Str×Str)} (h:Hd n_ m) (p:PH n_ P m) {one other:LS_} {a b:Str} (h1:one∈P) (h2:other∈P) (ha:a∈one) (hb:b∈other) (hne:one≠other) :
  (one++other).length<=n_.length/\PH n_ (((P.filter λpart:LS_=>(!Ja part [one,other])).map λpart:LS_=>part)++[(jA (one++other))]) (jm m (look m a) (look m b)):=by
 have an:=p.sub _ h1 _ ha;have bn:=p.sub _ h2 _ hb;have ndq:(one++other).Nodup:=List.nodup_append.mpr ⟨p.nd _ h1,p.nd _ h2,λx hx y hy e=>hne (p.uni _ h1 _ h2 x hx (e▸hy))⟩;have aeA:∀ x∈one++other,x∈n_:=λx hx=>(List.mem_append.mp hx).elim (p.sub _ h1 _) (p.sub _ h2 _);have c1:∀ y∈n_,(y∈one↔look m y=look m a):=λy hy=>(p.cls _ h1 _ ha y hy).trans ⟨Eq.symm,Eq.symm⟩;have c2:∀ y∈n_,(y∈other↔look m y=look m b):=λy hy=>(p.cls _ h2 _ hb y hy).trans ⟨Eq.symm,Eq.symm⟩;have old:∀ q,q∈((P.filter λpart:LS_=>(!Ja part [one,other])).map λpart:LS_=>part)↔q∈P/\q≠one/\q≠other:=λq=>by
  rw[ky,jS,qv,<-Bool.not_eq_true,LR];simp
 have mq:∀ y,y∈jA (one++other)↔y∈one\/y∈other:=λy=>(dO _).mem_iff.trans KS;have far:∀ q,q∈P->q≠one->q≠other->∀ x∈q,look m x≠look m a/\look m x≠look m b:=λq hq n1 n2 x hx=>by
  have xn:=p.sub _ hq _ hx;exact⟨λe=>n1 (p.uni _ hq _ h1 x hx ((c1 x xn).mpr e)),λe=>n2 (p.uni _ hq _ h2 x hx ((c2 x xn).mpr e))⟩
 refine⟨pig ndq aeA,⟨λq hq y hy=>?_,λx hx=>?_,λq hq x hx y hy=>?_,λq hq=>?_,λq hq=>?_,λq hq q' hq' x hx hx'=>?_,?_,?_,λq hq=>?_⟩⟩
 ·rcases List.mem_append.mp hq with hq|hq
  ·exact p.sub _ ((old q).mp hq).1 _ hy
  ·cases List.mem_singleton.mp hq;exact aeA y ((dO _).mem_iff.mp hy)
 ·obtain⟨q,hq,hx'⟩:=p.cov x hx;by_cases e:q=one\/q=other
  ·refine⟨_,List.mem_append.mpr (.inr (List.mem_singleton.mpr rfl)),(mq x).mpr ?_⟩;rcases e with rfl|rfl
   ·exact .inl hx'
   ·exact .inr hx'
  ·exact⟨q,List.mem_append.mpr (.inl ((old q).mpr ⟨hq,λz=>e (.inl z),λz=>e (.inr z)⟩)),hx'⟩
 ·rcases List.mem_append.mp hq with hq|hq
  ·obtain⟨hq,n1,n2⟩:=(old q).mp hq;have xn:=p.sub _ hq _ hx;have f:=far q hq n1 n2 x hx;rw[h.yU xn,h.yU hy,p.cls _ hq _ hx y hy];unfold jn;rw[zw (λz=>z.elim f.1 f.2)];by_cases e:look m y=look m a\/look m y=look m b
   ·rw[zl e];constructor
    ·intro z;rw[z] at f;exact absurd e (λw=>w.elim f.1 f.2)
    ·intro z;rcases Ng (look m a) (look m b) with w|w<;>rw[w] at z
     ·exact absurd z f.1
     ·exact absurd z f.2
   ·rw[zw e]
  ·cases List.mem_singleton.mp hq;have xq:=(mq x).mp hx;have xn:=aeA x (List.mem_append.mpr xq);rw[mq,h.yU xn,h.yU hy,c1 y hy,c2 y hy];unfold jn;rw[zl (xq.elim (λz=>.inl ((c1 x xn).mp z)) (λz=>.inr ((c2 x xn).mp z)))];by_cases e:look m y=look m a\/look m y=look m b
   ·rw[zl e];exact⟨λ_=>rfl,λ_=>e⟩
   ·rw[zw e];refine⟨λz=>absurd z e,λz=>?_⟩;rcases Ng (look m a) (look m b) with w|w<;>rw[w] at z
    ·exact .inl z.symm
    ·exact .inr z.symm
 ·rcases List.mem_append.mp hq with hq|hq
  ·exact p.ne _ ((old q).mp hq).1
  ·cases List.mem_singleton.mp hq;intro e;have:=(mq a).mpr (.inl ha);rw[e] at this;cases this
 ·rcases List.mem_append.mp hq with hq|hq
  ·exact p.nd _ ((old q).mp hq).1
  ·cases List.mem_singleton.mp hq;exact(dO _).nodup_iff.mpr ndq
 ·have key:∀ q,q∈P->q≠one->q≠other->x∈q->x∈jA (one++other)->False:=λq hq n1 n2 e1 e2=>
   ((mq x).mp e2).elim (λz=>n1 (p.uni _ hq _ h1 x e1 z)) (λz=>n2 (p.uni _ hq _ h2 x e1 z))
  rcases List.mem_append.mp hq with hq|hq<;>rcases List.mem_append.mp hq' with hq'|hq'
  ·exact p.uni _ ((old q).mp hq).1 _ ((old q').mp hq').1 x hx hx'
  ·cases List.mem_singleton.mp hq';obtain⟨z,n1,n2⟩:=(old q).mp hq;exact(key q z n1 n2 hx hx').elim
  ·cases List.mem_singleton.mp hq;obtain⟨z,n1,n2⟩:=(old q').mp hq';exact(key q' z n1 n2 hx' hx).elim
  ·exact(List.mem_singleton.mp hq).trans (List.mem_singleton.mp hq').symm
 ·rw[Zp,ky];have:(P.filter λpart:LS_=>(!Ja part [one,other])).length < P.length:=by
   rw[List.length_filter_lt_length_iff_exists];refine⟨one,h1,?_⟩;rw[qv,Bool.not_eq_false];exact LR.mpr (zi ..)
  have:=p.len;show _+1<=_;omega
 ·rw[Kk];refine⟨by rw[ky];exact p.pn.filter _,List.nodup_cons.mpr ⟨λz=>(by cases z),ya⟩,λx hx y hy e=>?_⟩;cases List.mem_singleton.mp hy;obtain⟨z,n1,n2⟩:=(old x).mp hx;have:a∈x:=by rw[e];exact(mq a).mpr (.inl ha)
  exact n1 (p.uni _ z _ h1 a this ha)
 ·rcases List.mem_append.mp hq with hq|hq
  ·exact p.srt _ ((old q).mp hq).1
  ·cases List.mem_singleton.mp hq;exact qg _
theorem Qy {n_:LS_} {P:List LS_} {m:List (Str×Str)} (h:Hd n_ m) (hl:n_.length < 64) (p:PH n_ P m) {r:JK} (ha:r.2.1∈n_) (hb:r.2.2.1∈n_) :
  gA P r/\PH n_ (cJ P r) (jm m (look m r.2.1) (look m r.2.2.1)):=by
 obtain⟨i1,o1,a1⟩:=pick (p.cov _ ha);obtain⟨i2,o2,a2⟩:=pick (p.cov _ hb);have pl:=p.len;unfold gA cJ;dsimp only;generalize at' ((P.filter λpart:LS_=>(decide (r.2.1∈part))).map λpart:LS_=>part) (0:Int)=one at *
 generalize at' ((P.filter λpart:LS_=>(decide (r.2.2.1∈part))).map λpart:LS_=>part) (0:Int)=other at *
 by_cases e:one=other
 ·subst e;refine⟨⟨⟨by omega,i1⟩,⟨by omega,i2⟩,λz=>by simp at z⟩,?_⟩;rw[zw (by simp),(p.cls _ o1 _ a1 _ hb).mp a2,abB];exact p
 ·obtain⟨c1,c2⟩:=comb h p o1 o2 a1 a2 e;rw[Zp] at c1;refine⟨⟨⟨by omega,i1⟩,⟨by omega,i2⟩,λ_=>⟨⟨by omega,?_,?_⟩,?_⟩⟩,?_⟩
  ·show _<=1000000;omega
  ·rw[Zp];omega
  ·have:=c2.len;rw[Zp] at this;show _<=1000000;omega
  ·rw[zl (by simp[e])];exact c2
theorem DX {n_:LS_} (hl:n_.length < 64):∀ (rs:List JK) (P:List LS_) (m:List (Str×Str)),Rs n_ rs->Hd n_ m->PH n_ P m →
  pP (λ(found:List LS_) (q1:JK)=>(cJ found q1)) (λ(found:List LS_) (q1:JK)=>some (gA found q1)) rs P/\PH n_ (rs.foldl (λ(found:List LS_) (q1:JK)=>(cJ found q1)) P) (rs.foldl jb m)
 |[],_,_,_,_,p=>⟨trivial,p⟩
 |r::rs,P,m,hr,h,p=>by
  obtain⟨ha,hb⟩:=hr r (zi ..);obtain⟨d,q⟩:=Qy h hl p ha hb;have ih:=DX hl rs (cJ P r) (jb m r) (λx hx=>hr x (zr _ hx)) (h.join ha hb) q;exact⟨⟨d,ih.1⟩,ih.2⟩
theorem YD {n_:LS_} (nd:n_.Nodup) (hl:n_.length < 64) {rs:List JK} (hr:Rs n_ rs):j8 n_ rs/\∃ P,cX n_ rs=qx P/\PH n_ P (hb n_ rs):=by
 obtain⟨d,p⟩:=DX hl rs _ _ hr (hd0 nd (by omega)) (ph0 nd (by omega));have pl:=p.len;refine⟨⟨by omega,d,by show List.length _<=100000;exact Zs pl (by omega),by show(List.map _ _).length < 64;rw[zh];exact k6 pl hl,λx hx=>?_⟩,_,congrArg qx (ky _),p⟩;obtain⟨y,hy,rfl⟩:=List.mem_map.mp hx;have:=p.ne _ hy;cases y
 ·exact absurd rfl this
 ·rfl
theorem DY (a:Str):rE a a:=by unfold rE;rw[ltCps_eq];simp
theorem G8 {a b c:Str} (h:rE a b) (h':rE b c):rE a c:=by
 unfold rE at *
 rw[ltCps_eq] at *
 simp only[QU] at *
 exact List.le_trans (α:=Nat) h h'
theorem acp (a b:Str):rE (mn a b) a/\rE (mn a b) b:=by
 unfold mn;by_cases h:Nj b a=true
 ·rw[zl h];exact⟨((lt_iff b a).mp h).1,DY b⟩
 ·rw[zw h];refine⟨DY a,?_⟩;have h:Nj b a=false:=by simpa using h
  unfold Nj at h;unfold rE;rw[ltCps_eq];exact h
def Lst (n_:LS_) (m:List (Str×Str)):Prop:=∀ x∈n_,rE (look m x) x
theorem aix {n_:LS_} (nd:n_.Nodup) (hl:n_.length < 1000):Lst n_ (cU n_):=λx hx=>by
 rw[(Ah n_ nd hl).2,yC nd hx];exact DY x
theorem Lst.jb {n_:LS_} {m:List (Str×Str)} (l:Lst n_ m) (h:Hd n_ m) (r:JK):Lst n_ (jb m r):=λx hx=>by
 show rE (look (jm m (look m r.2.1) (look m r.2.2.1)) x) x;rw[h.yU hx];unfold jn;split
 ·rename_i e;rcases e with e|e
  ·exact G8 (acp _ _).1 (e▸l x hx)
  ·exact G8 (acp _ _).2 (e▸l x hx)
 ·exact l x hx
theorem Ai {α:Type} [DecidableEq α]:∀ {xs ys:List α},xs.Nodup->ys.Nodup->(∀ x,x∈xs↔x∈ys)->xs.Perm ys
 |[],ys,_,_,h=>by
  cases ys with
  |nil=>exact .refl _
  |cons y ys=>exact absurd ((h y).mpr (zi ..)) (by simp)
 |x::xs,ys,nx,ny,h=>by
  obtain⟨n1,n2⟩:=List.nodup_cons.mp nx;have hx:=(h x).mp (zi ..);refine(List.Perm.cons x (Ai (ys:=ys.erase x) n2 (ny.erase x) λz=>?_)).trans (List.perm_cons_erase hx).symm;constructor
  ·intro hz;have:z≠x:=λe=>n1 (e▸hz);exact(List.mem_erase_of_ne this).mpr ((h z).mp (zr _ hz))
  ·intro hz;have hne:z≠x:=λe=>by subst e;exact(List.Nodup.not_mem_erase ny) hz
   have:=(h z).mpr (List.mem_of_mem_erase hz);rcases List.mem_cons.mp this with e|e
   ·exact absurd e hne
   ·exact e
theorem abD {a b:Str} {xs ys:LS_} (h:rE a b) (hne:a≠b):Mf (a::xs) (b::ys)=true:=by
 unfold Mf S1.sI;show(!S1.kE (Sum.inr b::kT ys) (Sum.inr a::kT xs))=true;unfold S1.kE;rw[zw (λe=>hne (Sum.inr.inj e).symm)];unfold S1.Rb;unfold rE at h;rw[ltCps_eq] at h;simpa using h
theorem abE {n_:LS_} (so:n_.Pairwise rE) {m:List (Str×Str)} (h:Hd n_ m) (l:Lst n_ m) {P:List LS_} (p:PH n_ P m):cV m=qx P:=by
 have ks:=h.keys;have under:∀ q∈P,∀ x∈q,bA m (look m x)=q:=λq hq x hx=>by
  unfold bA;rw[ky,ks];refine zY (Ai (h.nd.filter _) (p.nd _ hq) λz=>?_) (so.filter _) (p.srt _ hq);rw[jS,ZU];constructor
  ·rintro⟨hz,e⟩;exact(p.cls q hq x hx z hz).mpr e.symm
  ·intro hz;have zn:=p.sub _ hq _ hz;exact⟨zn,((p.cls q hq x hx z zn).mp hz).symm⟩
 have first:∀ n∈n_,look m n=n->∃ t,bA m n=n::t:=λn hn e=>by
  have hmem:n∈bA m n:=by
   unfold bA;rw[ky,ks,jS,ZU];exact⟨hn,e⟩
  have hso:(bA m n).Pairwise rE:=by
   unfold bA;rw[ky,ks];exact so.filter _
  cases hc:bA m n with
  |nil=>rw[hc] at hmem;cases hmem
  |cons y t=>
   have hy:y∈bA m n:=by rw[hc];exact zi ..
   unfold bA at hy;rw[ky,ks,jS,ZU] at hy;have h1:rE n y:=by have:=l y hy.1;rw[hy.2] at this;exact this
   rw[hc] at hmem hso;rcases List.mem_cons.mp hmem with e2|e2
   ·exact⟨t,by rw[e2]⟩
   ·have:=BJ h1 ((List.pairwise_cons.mp hso).1 n e2);exact⟨t,by rw[this]⟩
 refine Uk (Ai ?_ p.pn λq=>?_) ?_
 ·unfold cV List.Nodup;rw[ks,yk];refine kf ?_ (h.nd.filter _);intro a b ha hb hne e;rw[jS,ZU] at ha hb;obtain⟨t1,e1⟩:=first a ha.1 ha.2;obtain⟨t2,e2⟩:=first b hb.1 hb.2;rw[e1,e2] at e;exact hne (by injection e)
 ·unfold cV;rw[ks,Kb];constructor
  ·rintro⟨n,hn,rfl⟩;rw[jS,ZU] at hn;obtain⟨q,hq,hx⟩:=p.cov n hn.1;have:=under q hq n hx;rw[hn.2] at this;rw[this];exact hq
  ·intro hq;cases hc:q with
   |nil=>exact absurd hc (p.ne _ hq)
   |cons x t=>
    have hx:x∈q:=by rw[hc];exact zi ..
    have xn:=p.sub _ hq _ hx;refine⟨look m x,List.mem_filter.mpr ⟨h.mem x xn,QN (h.idem x xn)⟩,?_⟩;rw[under q hq x hx,hc]
 ·unfold cV;rw[ks,yk];have both:(n_.filter λname:Str=>decide (look m name=name)).Pairwise λa b=>rE a b/\a≠b:=(so.filter _).and (h.nd.filter _);refine kf ?_ both;intro a b ha hb hab;rw[jS,ZU] at ha hb;obtain⟨t1,e1⟩:=first a ha.1 ha.2;obtain⟨t2,e2⟩:=first b hb.1 hb.2;rw[e1,e2];exact abD hab.1 hab.2
theorem foldl_size {α:Type} (c:Array α):∀ (n:Nat) (a:Array α),((List.replicate n c).foldl (·++·) a).size=a.size+n * c.size
 |0,a=>by simp
 |n+1,a=>by
  rw[KW,QO,foldl_size c n,Kx,Nat.succ_mul];omega
theorem HS (x:Str) (k:Int):(Txt.mul x k).length<=x.length * k.toNat:=by
 unfold Txt.mul;split
 ·exact QP _
 split
 ·rename_i h0 h;simp only[Bool.or_eq_true,beq_iff_eq] at h;rcases h with h|h
  ·subst h;simp
  ·rw[h];simp
 ·show(Array.size _)<=_;rw[foldl_size];have:x.cps.size=x.length:=rfl;rw[this,Nat.mul_comm];simp
def LT:Str:=("abcdefghijklmnopqrstuvwxyz" : Str)
theorem Qz:LT.length=26:=by decide +kernel
theorem gC {n:Nat} (h:n<=1000):Aa n:=Zs h (by decide)
theorem QC (xs:List Int) (hl:6<=xs.length) (stem:Str) (hs:stem.length<=5) (at_:Int) (k:Nat) (found:LS_) (hk:k < 200) (h:found.length=k/\∀ n∈found,n.length<=12):jw xs LT stem at_ found k/\(dU xs LT stem at_ found k).length=k+1/\∀ n∈dU xs LT stem at_ found k,n.length<=12:=by
 have s1:=Zs (slice_le stem none (some at_)) hs;have s2:=Zs (slice_le stem (some at_) none) hs;have c1:=kO LT ((↑k+at' xs 2) % 15);have m8:=ig (k:Int) (m:=8) (by decide);have hd:(0:Int)<=(k:Int) / 8/\(k:Int) / 8 < 26:=by omega
 refine⟨⟨⟨in_of (by decide) (by omega),jG (by decide) (by rw[Qz];decide)⟩,⟨gC (by omega),gC (by rw[dG];omega)⟩,⟨in_of (by decide) (by omega),λ_=>⟨in_of hd.1 (by rw[Qz];exact hd.2),by omega,by omega,by rw[kO];decide⟩⟩,gC (by omega)⟩,?_⟩;have key:∀ n:Str,n.length<=12->(found++[n]).length=k+1/\∀ m∈found++[n],m.length<=12:=λn hn=>⟨by simp[h.1],λm hm=>by
  rcases List.mem_append.mp hm with hm|hm
  ·exact h.2 m hm
  ·cases List.mem_singleton.mp hm;exact hn⟩
 unfold dU;dsimp only;split
 ·exact key _ (by have:=HS (ch LT ((k:Int) / 8)) (1+(k:Int) % 8);rw[kO] at this;exact Zs this (by omega))
 ·exact key _ (by rw[dG,dG,c1];omega)
theorem YF (xs:LS_) (n:Nat) (h:∀ x∈xs,x.length<=n):(Txt.join "" xs).length<=xs.length * n:=by
 have h1:=StrLaws.join_length_le ("" : Str) xs;rw[<-StrLaws.glued_eq_join] at h1;have h2:(xs.map (·.length)).sum<=xs.length * n:=by
  clear h1
  induction xs with
  |nil=>simp
  |cons a l ih=>
   have:=ih λx hx=>h x (zr _ hx);have:=h a (zi ..);simp only[zo,List.sum_cons,qS,Nat.succ_mul];omega
 have h3:("" : Str).length=0:=rfl;rw[h3,Nat.mul_zero] at h1;exact Zs h1 (by omega)
theorem aiy (xs:LS_) (h:∀ x∈xs,x.length=1):(xs.map (·.length)).sum=xs.length:=by
 induction xs with
 |nil=>rfl
 |cons a l ih=>
  have:=ih λx hx=>h x (zr _ hx);have:=h a (zi ..);simp only[zo,List.sum_cons,qS];omega
theorem YG (xs:List Int) (hl:6<=xs.length) (many:Int) (h0:0<=many) (h1:many<=200):oW xs many/\(bM xs many).length=many.toNat/\∀ n∈bM xs many,n.length<=12:=by
 have m6:=ig (at' xs 0) (m:=6) (by decide);have st:∀ stem:Str,stem.length<=5->nH xs many LT stem/\(jy xs many LT stem).length=many.toNat/\∀ n∈jy xs many LT stem,n.length<=12:=λstem hs=>by
  have:=sY (P:=λf k=>some (jw xs LT stem (at' xs 1 % ((stem.length:Int)+1)) f k)) (step:=λf k=>dU xs LT stem (at' xs 1 % ((stem.length:Int)+1)) f k) (λk s=>s.length=k/\∀ n∈s,n.length<=12) many.toNat [] ⟨rfl,λn h=>(by cases h)⟩ λk s hk h=>QC xs hl stem hs _ k s (by omega) h;exact⟨⟨⟨in_of (by decide) (by omega),by omega⟩,CP h0 (by omega),this.1⟩,this.2⟩
 have c1:∀ x∈((rng 0 (at' xs 0 % 6).toNat).map λk_:Int=>ch LT (at' xs k_ / 40 % 26)),x.length=1:=λx hx=>by
  obtain⟨k,_,rfl⟩:=List.mem_map.mp hx;exact kO _ _
 have:=st (Txt.join "" ((rng 0 (at' xs 0 % 6).toNat).map λk_:Int=>ch LT (at' xs k_ / 40 % 26))) (by
  have:=YF _ 1 λx hx=>Nat.le_of_eq (c1 x hx);rw[zh,oh] at this;omega)
 refine⟨⟨⟨⟨⟨⟨in_of (by decide) (by omega),CP m6.1 (by omega)⟩,by rw[oh];omega⟩,λk hk=>?_⟩,?_⟩,this.1⟩,this.2⟩
 ·obtain⟨j,hj,rfl⟩:=uf hk;exact⟨in_of (by omega) (by omega),jG (by decide) (by rw[show("abcdefghijklmnopqrstuvwxyz" : Str)=LT from rfl,Qz];decide)⟩
 ·rw[show("abcdefghijklmnopqrstuvwxyz" : Str)=LT from rfl,aiy _ c1,zh,oh];have h3:("" : Str).length=0:=rfl;rw[h3];omega
def Za (xs:List Int) (stem:Str) (at_:Int) (k:Int):Str:=if(decide (((at' xs (3:Int)) % (3:Int))=(1:Int)))=true then(Txt.mul (ch LT (k / (8:Int))) ((1:Int)+(k % (8:Int)))) else(((Txt.slice stem none (some at_))++(ch LT ((k+(at' xs (2:Int))) % (15:Int))))++(Txt.slice stem (some at_) none))
theorem vG {α β:Type} (g:β->α):∀ (l:List β) (f:List α),l.foldl (λf k=>f++[g k]) f=f++l.map g
 |[],f=>by simp
 |k::l,f=>by rw[QO,vG g l];simp
theorem YH (xs:List Int) (many:Int):∃ stem at_,bM xs many=(rng 0 many.toNat).map (Za xs stem at_):=by
 refine⟨_,_,(vG (Za xs _ _) _ []).trans (kB _)⟩
theorem QD {a b m m':Str} (h:(a++m)++b=(a++m')++b):m=m':=by
 have h:=congrArg (λs:Str=>s.cps.toList) h;have h:((a.cps++m.cps)++b.cps).toList=((a.cps++m'.cps)++b.cps).toList:=h;simp only[Array.toList_append] at h;have:=List.append_cancel_left (List.append_cancel_right h);cases m;cases m';congr 1;exact Array.ext' this
theorem YJ:∀ i:Fin 30,∀ j:Fin 30,Txt.mul (ch LT ((i.val:Int) / 8)) (1+(i.val:Int) % 8)=Txt.mul (ch LT ((j.val:Int) / 8)) (1+(j.val:Int) % 8)->i=j:=by decide +kernel
theorem agA:∀ i:Fin 15,∀ j:Fin 15,ch LT (i.val:Int)=ch LT (j.val:Int)->i=j:=by decide +kernel
theorem aeB {x y:Int} (hx:0<=x/\x < 15) (hy:0<=y/\y < 15) (h:ch LT x=ch LT y):x=y:=by
 have:=agA ⟨x.toNat,by omega⟩ ⟨y.toNat,by omega⟩ (by
  show ch LT ((x.toNat:Nat):Int)=ch LT ((y.toNat:Nat):Int);rw[Int.toNat_of_nonneg hx.1,Int.toNat_of_nonneg hy.1];exact h)
 have:=congrArg Fin.val this;have:x.toNat=y.toNat:=this;omega
theorem aeC {xs:List Int} {stem:Str} {at_:Int} {i j:Nat} (hi:i < 15) (hj:j < 15) (h:Za xs stem at_ i=Za xs stem at_ j):i=j:=by
 unfold Za at h;by_cases e:(decide (((at' xs (3:Int)) % (3:Int))=(1:Int)))=true
 ·rw[zl e,zl e] at h;exact congrArg Fin.val (YJ ⟨i,by omega⟩ ⟨j,by omega⟩ h)
 ·rw[zw e,zw e] at h;have:=aeB (ig _ (by decide)) (ig _ (by decide)) (QD h);omega
theorem Qf {n:Nat} {g:Int->Str} (h:∀ i j:Nat,i < n->j < n->g i=g j->i=j):((rng 0 n).map g).Nodup:=by
 unfold rng;rw[Qb];unfold List.Nodup;rw[yk];refine kf ?_ (yA (n:=n));intro a b ha hb hne e;refine hne (h a b (List.mem_range.mp ha) (List.mem_range.mp hb) ?_);have e:g (0+(a:Int))=g (0+(b:Int)):=e;rwa [Int.zero_add,Int.zero_add] at e
theorem YK (xs:List Int) (many:Int) (h:many<=15):(bM xs many).Nodup:=by
 obtain⟨stem,at_,e⟩:=YH xs many;rw[e];exact Qf λi j hi hj=>aeC (by omega) (by omega)
def Lw (c:Nat):Prop:=97<=c/\c<=122
def Nm (s:Str):Prop:=1<=s.length/\s.length<=8/\∀ c∈cs s,Lw c
theorem agB {c:Nat} (h:Lw c):c∈cs LT:=by
 have:∀ i:Fin 26,97+i.val∈cs LT:=by decide +kernel
 have:=this ⟨c - 97,by unfold Lw at h;omega⟩;unfold Lw at h;rwa [show 97+(c - 97)=c by omega] at this
theorem abF {s:Str} (h:Nm s):cT (.str s)=true:=by
 unfold cT gY;rw[show kj (.str s)=true from rfl,show Pu (.str s)=(s.length:Int) from rfl,QN (show(1:Int)<=s.length by have:=h.1;omega),QN (show(s.length:Int)<=8 by have:=h.2.1;omega)];show List.all _ id=true;rw[Z3];intro b hb;obtain⟨d,hd,rfl⟩:=List.mem_map.mp hb;obtain⟨c,hc,rfl⟩:=List.mem_map.mp (show d∈P1.signs s from hd);exact Uu (agB (h.2.2 c hc))
theorem aeD (c:Nat) (n:Int) (h:1<=n):cs (Txt.mul ⟨#[c]⟩ n)=List.replicate n.toNat c:=by
 unfold Txt.mul;split
 ·omega
 split
 ·rename_i h;simp only[Bool.or_eq_true,beq_iff_eq] at h;rcases h with h|h
  ·subst h;rfl
  ·cases h
 ·have:∀ (k:Nat) (a:Array Nat),((List.replicate k (#[c]:Array Nat)).foldl (·++·) a).toList=a.toList++List.replicate k c:=by
   intro k
   induction k with
   |zero=>intro a;simp
   |succ k ih=>
    intro a;rw[KW,QO,ih,Array.toList_append,KW];simp
  exact(this _ _).trans (by simp)
theorem YL {i:Int} (h:0<=i/\i < 26):ch LT i=⟨#[97+i.toNat]⟩:=by
 have:∀ i:Fin 26,ch LT (i.val:Int)=⟨#[97+i.val]⟩:=by decide +kernel
 have:=this ⟨i.toNat,by omega⟩;rwa [show((⟨i.toNat,by omega⟩:Fin 26).val:Int)=i by show(i.toNat:Int)=i;omega] at this
theorem Sd {i n:Int} (h:0<=i/\i < 26) (h1:1<=n) (h8:n<=8):Nm (Txt.mul (ch LT i) n):=by
 have e:=aeD (97+i.toNat) n h1;rw[<-YL h] at e;refine⟨?_,?_,λc hc=>?_⟩
 ·rw[CW,e,List.length_replicate];omega
 ·rw[CW,e,List.length_replicate];omega
 ·rw[e] at hc;rw[(List.mem_replicate.mp hc).2];unfold Lw;omega
theorem YM {l:LS_} {c:Nat} (h:c∈cs (Txt.join "" l)):∃ q∈l,c∈cs q:=by
 cases l with
 |nil=>cases h
 |cons p ps=>
  rw[abt] at h;rcases List.mem_append.mp h with h|h
  ·exact⟨p,zi ..,h⟩
  ·obtain⟨q,hq,h⟩:=List.mem_flatMap.mp h;exact⟨q,zr _ hq,h⟩
theorem U5 (xs:List Int) (many:Int):∃ (stem:Str) (at_:Int),(∀ c∈cs stem,Lw c)/\stem.length<=5/\0<=at_/\at_<=(stem.length:Int)/\bM xs many=(rng 0 many.toNat).map (Za xs stem at_):=by
 have m6:=ig (at' xs 0) (m:=6) (by decide);have mem:∀ x∈((rng 0 (at' xs 0 % 6).toNat).map λk_:Int=>ch LT (at' xs k_ / 40 % 26)),x.length=1/\∀ c∈cs x,Lw c:=λx hx=>by
  obtain⟨k,_,rfl⟩:=List.mem_map.mp hx;refine⟨kO _ _,λc hc=>?_⟩;rw[YL (ig _ (by decide))] at hc;cases List.mem_singleton.mp hc;have:=ig (at' xs k / 40) (m:=26) (by decide);unfold Lw;omega
 refine⟨Txt.join "" ((rng 0 (at' xs 0 % 6).toNat).map λk_:Int=>ch LT (at' xs k_ / 40 % 26)),at' xs 1 % (((Txt.join "" ((rng 0 (at' xs 0 % 6).toNat).map λk_:Int=>ch LT (at' xs k_ / 40 % 26))).length:Int)+1),λc hc=>?_,?_,?_,?_,(vG (Za xs _ _) _ []).trans (kB _)⟩
 ·obtain⟨q,hq,h⟩:=YM hc;exact(mem q hq).2 c h
 ·have:=YF _ 1 λx hx=>Nat.le_of_eq (mem x hx).1;rw[zh,oh] at this;omega
 ·exact(ig _ (by omega)).1
 ·have:=(ig (at' xs 1) (m:=((Txt.join "" ((rng 0 (at' xs 0 % 6).toNat).map λk_:Int=>ch LT (at' xs k_ / 40 % 26))).length:Int)+1) (by omega)).2;omega
theorem aeE {xs:List Int} {stem:Str} {at_:Int} (h1:∀ c∈cs stem,Lw c) (h2:stem.length<=5) (h3:0<=at_) (h4:at_<=(stem.length:Int)) {k:Int} (hk:0<=k/\k < 15):Nm (Za xs stem at_ k):=by
 unfold Za;split
 ·exact Sd (by omega) (by omega) (by omega)
 ·have s1:=Yq (x:=stem) (n:=at_.toNat) (by omega);have s2:=Yp (x:=stem) (n:=at_.toNat) (by omega);rw[Int.toNat_of_nonneg h3] at s1 s2;have c1:=YL (i:=(k+at' xs 2) % 15) (by have:=ig (k+at' xs 2) (m:=15) (by decide);omega);have m:=ig (k+at' xs 2) (m:=15) (by decide);have e:cs ((Txt.slice stem none (some at_)++ch LT ((k+at' xs 2) % 15))++Txt.slice stem (some at_) none)=((cs stem).take at_.toNat++[97+((k+at' xs 2) % 15).toNat])++(cs stem).drop at_.toNat:=by
   rw[Jf,Jf,s1,s2,c1]
  have hl:((Txt.slice stem none (some at_)++ch LT ((k+at' xs 2) % 15))++Txt.slice stem (some at_) none).length=stem.length+1:=by
   rw[CW,e,Zp,Zp,km,ko,<-CW];show _+1+_=_;omega
  refine⟨by rw[hl];omega,by rw[hl];omega,λc hc=>?_⟩;rw[e] at hc;rcases List.mem_append.mp hc with hc|hc
  ·rcases List.mem_append.mp hc with hc|hc
   ·exact h1 c (List.mem_of_mem_take hc)
   ·cases List.mem_singleton.mp hc;unfold Lw;omega
  ·exact h1 c (List.mem_of_mem_drop hc)
def NQ (n_:LS_):Prop:=∀ x∈n_,∀ y∈n_,x++("q" : Str)≠y
theorem YQ:∀ i:Fin 30,∀ j:Fin 30,Txt.mul (ch LT ((i.val:Int) / 8)) (1+(i.val:Int) % 8)++("q" : Str)≠Txt.mul (ch LT ((j.val:Int) / 8)) (1+(j.val:Int) % 8):=by decide +kernel
theorem YS (xs:List Int) (many:Int) (h:many<=15):(∀ n∈bM xs many,Nm n)/\NQ (bM xs many):=by
 obtain⟨stem,at_,h1,h2,h3,h4,e⟩:=U5 xs many;rw[e];constructor
 ·intro n hn;obtain⟨k,hk,rfl⟩:=List.mem_map.mp hn;obtain⟨j,hj,rfl⟩:=uf hk;exact aeE h1 h2 h3 h4 (by omega)
 ·intro x hx y hy he;obtain⟨k,hk,rfl⟩:=List.mem_map.mp hx;obtain⟨i,hi,rfl⟩:=uf hk;obtain⟨k,hk,rfl⟩:=List.mem_map.mp hy;obtain⟨j,hj,rfl⟩:=uf hk;unfold Za at he;by_cases e:(decide (((at' xs (3:Int)) % (3:Int))=(1:Int)))=true
  ·rw[zl e,zl e] at he;exact YQ ⟨i,by omega⟩ ⟨j,by omega⟩ he
  ·rw[zw e,zw e] at he;have:=congrArg Str.length he;rw[dG,dG,dG,dG,dG,kO,kO] at this;have:("q" : Str).length=1:=rfl;omega
theorem JD {n:Nat} {a b:Int} (ha:0<=a/\a < n) (hb:0<=b/\b < n):In n (if b < a then b else a):=by split<;>exact in_of (by omega) (by omega)
theorem JF {n:Nat} {a b:Int} (ha:0<=a/\a < n) (hb:0<=b/\b < n):In n (if b > a then b else a):=by split<;>exact in_of (by omega) (by omega)
theorem Sg {many:Int} {n:Nat} (hn:n=many.toNat) {x y:Int} (h:(!decide (x % (if many > (1:Int) then many else(1:Int))=y % (if many > (1:Int) then many else(1:Int))))=true):(0<=x % (if many > (1:Int) then many else(1:Int))/\x % (if many > (1:Int) then many else(1:Int)) < n)/\(0<=y % (if many > (1:Int) then many else(1:Int))/\y % (if many > (1:Int) then many else(1:Int)) < n):=by
 by_cases e:many > 1
 ·rw[zl e] at h ⊢;have h1:=ig x (m:=many) (by omega);have h2:=ig y (m:=many) (by omega);omega
 ·rw[zw e] at h;simp at h
theorem Nh {many:Int}:0 < (if many > (1:Int) then many else(1:Int)):=by split<;>omega
theorem U6 (script:List Int) (at_ many:Int) (a0:0<=at_) (a1:at_<=500) (head:List Int) (hh:6<=head.length) (n_:LS_) (hn:n_.length=many.toNat) (k:Nat) (hk:k < 60) (told:List JK) (h:told.length<=k/\Rs n_ told) :
  fW script at_ many head n_ told k/\(cM script at_ many head n_ told k).length<=k+1/\Rs n_ (cM script at_ many head n_ told k):=by
 obtain⟨n1,n2,n3⟩:=DW (aR script ((at_+(1:Int))+k)) 4 (by decide) (by decide);have n2:(aP (aR script ((at_+(1:Int))+k)) 4).length=4:=n2;unfold fW cM;dsimp only;generalize aP (aR script ((at_+(1:Int))+k)) 4=xs at *
 have en:=λx y=>Sg (x:=x) (y:=y) hn;have pm:=@Nh many;generalize (if many > (1:Int) then many else(1:Int))=mm at *
 have ix:∀ i:Nat,i < 4->In xs.length (i:Int):=λi hi=>CN (by omega);refine⟨⟨⟨DR _ _ (by omega) (by omega),n1⟩,⟨⟨ix 0 (by decide),pm⟩,ix 1 (by decide),pm⟩,⟨⟨⟨ix 2 (by decide),ix 2 (by decide),ix 2 (by decide)⟩,in_of (by decide) (by omega)⟩,jG (by decide) (Int.le_refl 3)⟩,λhne=>?_⟩,?_⟩
 ·have:=en _ _ hne;exact⟨⟨JD this.1 this.2,JF this.1 this.2,ix 3 (by decide),jG (by decide) (by decide)⟩,gC (by omega)⟩
 ·split
  ·rename_i hne;have:=en _ _ hne;refine⟨by rw[Zp];show _+1<=_;omega,λr hr=>?_⟩;rcases List.mem_append.mp hr with hr|hr
   ·exact h.2 r hr
   ·cases List.mem_singleton.mp hr;exact⟨nu (JD this.1 this.2),nu (JF this.1 this.2)⟩
  ·exact⟨by omega,h.2⟩
theorem U7 (script:List Int) (at_ many:Int) (a0:0<=at_) (a1:at_<=500) (n_:LS_) (hn:n_.length=many.toNat) (k:Nat) (hk:k < 60) (shut:List (Str×Str×Int)) (h:shut.length<=k/\∀ b∈shut,b.1∈n_/\b.2.1∈n_) :
  fX script at_ many n_ shut k/\(cN script at_ many n_ shut k).length<=k+1/\∀ b∈cN script at_ many n_ shut k,b.1∈n_/\b.2.1∈n_:=by
 obtain⟨n1,n2,n3⟩:=DW (aR script ((at_+(1:Int))+k)) 8 (by decide) (by decide);have n2:(aP (aR script ((at_+(1:Int))+k)) 8).length=8:=n2;unfold fX cN;dsimp only;generalize aP (aR script ((at_+(1:Int))+k)) 8=xs at *
 have en:=λx y=>Sg (x:=x) (y:=y) hn;have pm:=@Nh many;generalize (if many > (1:Int) then many else(1:Int))=mm at *
 have ix:∀ i:Nat,i < 8->In xs.length (i:Int):=λi hi=>CN (by omega);refine⟨⟨⟨DR _ _ (by omega) (by omega),n1⟩,⟨⟨ix 5 (by decide),pm⟩,ix 6 (by decide),pm⟩,λhne=>?_⟩,?_⟩
 ·have:=en _ _ hne;exact⟨⟨JD this.1 this.2,JF this.1 this.2,ix 7 (by decide),jG (by decide) (by decide)⟩,gC (by omega)⟩
 ·split
  ·rename_i hne;have:=en _ _ hne;refine⟨by rw[Zp];show _+1<=_;omega,λr hr=>?_⟩;rcases List.mem_append.mp hr with hr|hr
   ·exact h.2 r hr
   ·cases List.mem_singleton.mp hr;exact⟨nu (JD this.1 this.2),nu (JF this.1 this.2)⟩
  ·exact⟨by omega,h.2⟩
structure Gr (g:LS_×(List JK)×(List (Str×Str×Int))):Prop where
 nd:g.1.Nodup
 len:g.1.length < 64
 rs:Rs g.1 g.2.1
 bs:∀ b∈g.2.2,b.1∈g.1/\b.2.1∈g.1
 rl:g.2.1.length < 64
 bl:g.2.2.length < 64
 so:g.1.Pairwise rE
 nm:∀ n∈g.1,Nm n
 nq:NQ g.1
theorem Rs.turn {n_:LS_} {rs:List JK} (h:Rs n_ rs):Rs n_ (rs.map λq3:(Int×Str×Str×Int)=>(((0:Int) - q3.1),q3.2.1,q3.2.2.1,q3.2.2.2)):=λr hr=>by
 obtain⟨q,hq,rfl⟩:=List.mem_map.mp hr;exact h q hq
theorem U8 (script:List Int) (at_ many reasons zH:Int) (a0:0<=at_) (a1:at_<=500) (m0:0<=many) (m1:many<=15) (r0:0<=reasons) (r1:reasons < 60) (b0:0<=zH) (b1:zH < 60):mJ script at_ many reasons zH/\Gr (mH script at_ many reasons zH):=by
 obtain⟨n1,n2,n3⟩:=DW (aR script at_) 6 (by decide) (by decide);have n2:(aP (aR script at_) 6).length=6:=n2;have key:∀ head:List Int,6<=head.length->lC script at_ many reasons zH head/\Gr (lB script at_ many reasons zH head):=λhead hh=>by
  obtain⟨k1,k2,k3⟩:=YG head hh many m0 (by omega);have knd:=YK head many m1;have hn:(jA (bM head many)).length=many.toNat:=by rw[(dO _).length_eq,k2]
  have nd:(jA (bM head many)).Nodup:=(dO _).nodup_iff.mpr knd;have c8:∀ n_:LS_,n_.length=many.toNat->n_.Nodup->n_.Pairwise rE->(∀ n∈n_,Nm n)->NQ n_->lA script at_ many reasons zH head n_/\Gr (lu script at_ many reasons zH head n_):=λn_ hn nd so nm nq=>by
   obtain⟨t1,t2,t3⟩:=sY (P:=λf k=>some (fW script at_ many head n_ f k)) (step:=λf k=>cM script at_ many head n_ f k) (λk s=>s.length<=k/\Rs n_ s) reasons.toNat [] ⟨zg 0,λr h=>(by cases h)⟩ λk s hk h=>U6 script at_ many a0 a1 head hh n_ hn k (by omega) s h;obtain⟨s1,s2,s3⟩:=sY (P:=λf k=>some (fX script at_ many n_ f k)) (step:=λf k=>cN script at_ many n_ f k) (λk s=>s.length<=k/\∀ b∈s,b.1∈n_/\b.2.1∈n_) zH.toNat [] ⟨zg 0,λr h=>(by cases h)⟩ λk s hk h=>U7 script at_ many a0 a1 n_ hn k (by omega) s h;have sl:=k6 s2 (show zH.toNat < 64 by omega);have c6:∀ told:List JK,told.length<=reasons.toNat->Rs n_ told->lq script at_ many reasons zH head n_ told/\Gr (lg script at_ many reasons zH head n_ told):=λtold tl tr=>by
    have dl:=z9 told;have sp:=(iW (e:=eP4 eI eS eS eI) (Gv told)).length_eq;refine⟨⟨⟨⟨by omega,by omega⟩,by rw[sp];omega⟩,⟨CP b0 (by omega),s1⟩,ja sl,sl⟩,nd,?_,?_,?_,?_,?_,so,nm,nq⟩
    ·show n_.length < 64;omega
    ·exact Rs.turn λr hr=>tr r (qm.mp ((iW _).mem_iff.mp hr))
    ·exact λb hb=>s3 b (qm.mp ((iW _).mem_iff.mp hb))
    ·show(List.map _ _).length < 64;rw[zh,sp];omega
    ·show(qY _ _).length < 64;rw[(iW _).length_eq];exact k6 (z9 _) sl
   have:=c6 _ t2 t3;exact⟨⟨⟨CP r0 (by omega),t1⟩,this.1⟩,this.2⟩
  have mem:∀ n,n∈jA (bM head many)->n∈bM head many:=λn h=>(dO _).mem_iff.mp h;obtain⟨w1,w2⟩:=YS head many m1;have:=c8 _ hn nd (qg _) (λn h=>w1 n (mem n h)) λx hx y hy=>w2 x (mem x hx) y (mem y hy);exact⟨⟨⟨k1,by rw[k2];omega⟩,this.1⟩,this.2⟩
 have:=key _ (Nat.le_of_eq n2.symm);exact⟨⟨⟨DR _ _ a0 (by omega),n1⟩,this.1⟩,this.2⟩
def LC:Str:=("abcd" : Str)
theorem aeF:LC.length=4:=by decide +kernel
theorem YT {i:Nat} (h:i < 30):ch LC ((i:Int) / 8)=ch LT ((i:Int) / 8):=by
 have:∀ i:Fin 30,ch LC ((i.val:Int) / 8)=ch LT ((i.val:Int) / 8):=by decide +kernel
 exact this ⟨i,h⟩
theorem QF (weigh:Int) (order n_:LS_) (ol:order.length=30) (hs:∀ x∈order,x∈n_) (k:Nat) (hk:k < 30) (so:List JK) (h:so.length<=k/\Rs n_ so):ju weigh order so k/\(cW weigh order so k).length<=k+1/\Rs n_ (cW weigh order so k):=by
 have i1:In order.length (k:Int):=CN (by omega);have i2:In order.length (((k:Int)+1) % 30):=jG (by decide) (by omega);have a1:=hs _ (nu i1);have a2:=hs _ (nu i2);refine⟨⟨⟨i1,i2⟩,⟨X6 (by omega) (by omega),jG (by decide) (Int.le_refl 4)⟩,gC (by omega)⟩,?_,?_⟩
 ·show(so++[_]).length<=k+1;rw[Zp];show _+1<=_;omega
 ·intro r hr;rcases List.mem_append.mp (show r∈so++[_] from hr) with hr|hr
  ·exact h.2 r hr
  ·cases List.mem_singleton.mp hr;refine⟨?_,?_⟩
   ·show(if Nj _ _=true then _ else _)∈n_;split
    ·exact a2
    ·exact a1
   ·show(if Nj _ _=true then _ else _)∈n_;split
    ·exact a2
    ·exact a1
theorem YW:(((rng 0 (kN 30)).map λv3:Int=>(Txt.mul (ch LC (v3 / (8:Int))) ((1:Int)+(v3 % (8:Int))))).length=30/\((rng 0 (kN 30)).map λv3:Int=>(Txt.mul (ch LC (v3 / (8:Int))) ((1:Int)+(v3 % (8:Int))))).Nodup)/\(∀ n∈((rng 0 (kN 30)).map λv3:Int=>(Txt.mul (ch LC (v3 / (8:Int))) ((1:Int)+(v3 % (8:Int))))),Nm n)/\NQ ((rng 0 (kN 30)).map λv3:Int=>(Txt.mul (ch LC (v3 / (8:Int))) ((1:Int)+(v3 % (8:Int))))):=by
 rw[LK];have mm:∀ n,n∈((rng 0 30).map λv3:Int=>(Txt.mul (ch LC (v3 / (8:Int))) ((1:Int)+(v3 % (8:Int)))))->∃ i:Nat,i < 30/\n=Txt.mul (ch LT ((i:Int) / 8)) (1+(i:Int) % 8):=λn h=>by
  obtain⟨k,hk,rfl⟩:=List.mem_map.mp h;obtain⟨i,hi,rfl⟩:=uf hk;exact⟨i,hi,by rw[YT hi]⟩
 refine⟨⟨by rw[zh,oh],Qf λi j hi hj e=>?_⟩,λn h=>?_,λx hx y hy=>?_⟩
 ·rw[YT hi,YT hj] at e;exact congrArg Fin.val (YJ ⟨i,hi⟩ ⟨j,hj⟩ e)
 ·obtain⟨i,hi,rfl⟩:=mm n h;exact Sd (by omega) (by omega) (by omega)
 ·obtain⟨i,hi,rfl⟩:=mm x hx;obtain⟨j,hj,rfl⟩:=mm y hy;exact YQ ⟨i,hi⟩ ⟨j,hj⟩
theorem YX (x turn weigh:Int):j6 x turn weigh/\Gr (j5 x turn weigh):=by
 have m2:=ig x (m:=2) (by decide);obtain⟨⟨hn,nd⟩,nm,nq⟩:=YW;unfold j6 j5;dsimp only;rw[show("abcd" : Str)=LC from rfl];have d0:(rng 0 (kN 30)).length<=100000:=by rw[oh,LK];decide
 have d1:∀ v3∈rng 0 (kN 30),In LC.length (v3 / 8)/\(1+v3 % 8<=1000 ∧ -1000<=1+v3 % 8/\(ch LC (v3 / 8)).length<=1000):=λk hk=>by
  rw[LK] at hk;obtain⟨h1,h2⟩:=aa5 hk;have m8:=ig k (m:=8) (by decide);refine⟨in_of (by omega) (by rw[aeF];omega),by omega,by omega,by rw[kO];decide⟩
 generalize ((rng 0 (kN 30)).map λv3:Int=>(Txt.mul (ch LC (v3 / (8:Int))) ((1:Int)+(v3 % (8:Int)))))=n_ at *
 have ix:∀ k_:Int,In n_.length ((((7:Int) * k_)+turn) % (30:Int)):=λk_=>jG (by decide) (by omega);have ol:((rng 0 (kN 30)).map λv3:Int=>(at' n_ ((((7:Int) * v3)+turn) % (30:Int)))).length=30:=by rw[zh,oh,LK]
 have os:∀ y∈((rng 0 (kN 30)).map λv3:Int=>(at' n_ ((((7:Int) * v3)+turn) % (30:Int)))),y∈n_:=λy hy=>by
  obtain⟨k,_,rfl⟩:=List.mem_map.mp hy;exact nu (ix k)
 generalize ((rng 0 (kN 30)).map λv3:Int=>(at' n_ ((((7:Int) * v3)+turn) % (30:Int))))=order at *
 obtain⟨t1,t2,t3⟩:=sY (P:=λf k=>some (ju weigh order f k)) (step:=λf k=>cW weigh order f k) (λk s=>s.length<=k/\Rs n_ s) ((29:Int)+(x % (2:Int))).toNat [] ⟨zg 0,λr h=>(by cases h)⟩ λk s hk h=>QF weigh order n_ ol os k (by omega) s h;generalize (rng 0 ((29:Int)+(x % (2:Int))).toNat).foldl (λf k=>cW weigh order f k) []=so at *
 have sp:=(iW (e:=cY) so).length_eq;have mem:∀ y,y∈jA n_↔y∈n_:=λy=>(dO n_).mem_iff;refine⟨⟨⟨d0,d1⟩,⟨d0,λk _=>ix k⟩,⟨CP (by omega) (by omega),t1⟩,by omega,by omega,by rw[sp];omega⟩,(dO n_).nodup_iff.mpr nd,?_,?_,?_,?_,?_,qg _,λn h=>nm n ((mem n).mp h),λx hx y hy=>nq x ((mem x).mp hx) y ((mem y).mp hy)⟩
 ·show(jA n_).length < 64;rw[(dO n_).length_eq];omega
 ·exact Rs.turn λr hr=>by
   have:=t3 r ((iW _).mem_iff.mp hr);exact⟨(mem _).mpr this.1,(mem _).mpr this.2⟩
 ·exact λb hb=>(by cases hb)
 ·show(List.map _ _).length < 64;rw[zh,sp];omega
 ·show 0 < 64;decide
theorem YZ (script:List Int):j7 script/\Gr (gw script):=by
 obtain⟨n1,n2,n3⟩:=DW (aR script 0) 12 (by decide) (by decide);have n2:(aP (aR script 0) 12).length=12:=n2;unfold j7 gw;dsimp only;generalize aP (aR script 0) 12=head at *
 have ix:∀ i:Nat,i < 12->In head.length (i:Int):=λi hi=>CN (by omega);have c:=YX (at' head 9 / 16) (at' head 10) (at' head 11);have m1:=ig (at' head 6) (m:=15) (by decide);have m2:=ig (at' head 7) (m:=22) (by decide);have m3:=ig (at' head 8) (m:=4) (by decide);have g:=U8 script 0 (at' head 6 % 15) (at' head 7 % 22) (at' head 8 % 4) (by decide) (by decide) m1.1 (by omega) m2.1 (by omega) m3.1 (by omega);refine⟨⟨⟨DR _ _ (by decide) (by decide),n1⟩,ix 9 (by decide),λ_=>⟨⟨ix 9 (by decide),ix 10 (by decide),ix 11 (by decide)⟩,c.1⟩,λ_=>⟨ix 6 (by decide),⟨ix 7 (by decide),ix 8 (by decide)⟩,g.1⟩⟩,?_⟩;split
 ·exact c.2
 ·exact g.2
theorem U9 (d:Dt) (sg:Str) (n:Int) (h:n<=1000):jz d sg n:=by
 unfold jz;intro hs;obtain⟨x,rfl⟩:=Ut hs;refine⟨⟨rfl,λ_=>rfl⟩,λhl=>⟨⟨rfl,?_⟩,λs h=>abp h⟩⟩;rw[abq];have h2:(x.length:Int)<=n:=kb ((Zz _ _).mp hl).2;omega
theorem Ni {d:Dt} {sg:Str} {n:Int} (h:gY d sg n=true):kj d=true:=by
 unfold gY at h;rw[Zz] at h;exact h.1
theorem QG (d:Dt):pR d:=U9 d _ 8 (by decide)
theorem Y0 {d:Dt} (h:cT d=true):kj d=true:=Ni h
theorem acq (n_:LS_):∀ (rs:List JK) (m:List (Str×Str)),Rs n_ rs->Hd n_ m →
  pP (λ(vz:(List (Str×Str))) (q1:bL)=>(eU vz q1)) (λ(vz:(List (Str×Str))) (q1:bL)=>some (o7 vz q1)) rs m/\rs.foldl (λ(vz:(List (Str×Str))) (q1:bL)=>(eU vz q1)) m=rs.foldl jb m/\Hd n_ (rs.foldl jb m)
 |[],m,_,h=>⟨trivial,rfl,h⟩
 |r::rs,m,hr,h=>by
  obtain⟨ha,hb⟩:=hr r (zi ..);obtain⟨d,e⟩:=abA (look m r.2.1) (look m r.2.2.1) h.kn h.ml;have e:eU m r=jb m r:=e;obtain⟨i1,i2,i3⟩:=acq n_ rs (jb m r) (λx hx=>hr x (zr _ hx)) (h.join ha hb);refine⟨⟨⟨⟨h.has ha,h.has hb⟩,d⟩,?_⟩,?_,i3⟩
  ·show pP _ _ rs (eU m r);rw[e];exact i1
  ·rw[QO,QO,e];exact i2
theorem agC {n_:LS_} (nd:n_.Nodup) (hl:n_.length < 1000) {rs:List JK} (hr:Rs n_ rs):nJ n_ rs/\eV n_ rs=hb n_ rs/\Hd n_ (hb n_ rs):=by
 obtain⟨i1,i2,i3⟩:=acq n_ rs _ hr (hd0 nd hl);exact⟨⟨(Ah n_ nd hl).1,i1⟩,i2,i3⟩
theorem Y4 {n_:LS_} (nd:n_.Nodup) (hl:n_.length < 1000):∀ (rs:List JK) (m:List (Str×Str)),Rs n_ rs->Hd n_ m->Lst n_ m->Lst n_ (rs.foldl jb m)
 |[],m,_,_,l=>l
 |r::rs,m,hr,h,l=>by
  obtain⟨ha,hb⟩:=hr r (zi ..);exact Y4 nd hl rs (jb m r) (λx hx=>hr x (zr _ hx)) (h.join ha hb) (l.jb h r)
theorem G9 {g:gj} (s:Gr g):j8 g.1 g.2.1/\nM g/\gB g=cX g.1 g.2.1/\(cX g.1 g.2.1).length < 64/\(∀ p∈cX g.1 g.2.1,∀ x∈p,x∈g.1/\uy g x/\ux g x=p):=by
 obtain⟨nd,hl,hr,_,_,_,so,nm,_⟩:=s;obtain⟨d1,P,e1,p⟩:=YD nd hl hr;obtain⟨b1,b2,b3⟩:=agC nd (by omega) hr;have l:=Y4 nd (by omega) g.2.1 _ hr (hd0 nd (by omega)) (aix nd (by omega));have se:=abE so b3 l p;refine⟨d1,⟨b1,?_⟩,?_,?_,?_⟩
 ·rw[b2];exact(abC b3).1
 ·show cV (eV g.1 g.2.1)=_;rw[b2,e1,se]
 ·rw[e1,(n8 P).length_eq];exact k6 p.len hl
 ·intro q hq x hx;rw[e1] at hq;have hq:=(n8 P).mem_iff.mp hq;have xn:=p.sub _ hq _ hx;have nx:=abF (nm x xn);have h3:((!(cT (eS x)))||(!decide (x∈g.1)))=false:=by
   rw[show cT (eS x)=true from nx,QN xn];rfl
  refine⟨xn,⟨⟨QG _,λh=>by rw[h3] at h;cases h⟩,b1,?_⟩,?_⟩
  ·rw[b2];refine⟨b3.has xn,?_,λy hy=>qT.mpr hy⟩;rw[b3.keys];omega
  ·show bA (eV g.1 g.2.1) (look (eV g.1 g.2.1) x)=q;rw[b2];unfold bA;rw[ky,b3.keys];refine zY (Ai (nd.filter _) (p.nd _ hq) λz=>?_) (so.filter _) (p.srt _ hq);rw[jS,ZU];constructor
   ·rintro⟨hz,e⟩;exact(p.cls q hq x hx z hz).mpr e.symm
   ·intro hz;have zn:=p.sub _ hq _ hz;exact⟨zn,((p.cls q hq x hx z zn).mp hz).symm⟩
theorem eq_self {d:Dt} (h:(wX d d).isSome=true) (hd:rJ d<=100):eqB (.z d) (.z d)=some (.z (.bl true)):=by
 obtain⟨k,hk⟩:=Option.isSome_iff_exists.mp h;unfold eqB;rw[zw (by intro z;rcases z with z|z<;>cases z)];show(if min (rJ d) (rJ d)<=100 then _ else _)=_;rw[zl (by omega)];show(wX d d).bind _=_;rw[hk,Bk hk];rfl
theorem Sh {g:gj} {x:Str} (h:x∉g.1):dI g (eS x):=by
 refine⟨⟨QG _,λ_=>rfl⟩,?_,eq_self rfl (by show 1<=100;decide)⟩;unfold uz;rw[show asS (eS x)=x from rfl,qa h];cases cT (eS x)<;>rfl
theorem nQ {g:gj} {d:Dt} (h:cT d=false) (h1:(wX d d).isSome=true) (h2:rJ d<=100):dI g d:=by
 refine⟨⟨QG _,λe=>?_⟩,?_,eq_self h1 h2⟩
 ·rw[h] at e;cases e
 ·unfold uz;rw[h];rfl
theorem j9 {d:Dt} (h:kj d=false):cT d=false:=by
 cases e:cT d with
 |false=>rfl
 |true=>rw[Y0 e] at h;cases h
theorem aeG {g:gj}:∀ d∈Qh,dI g d:=by
 intro d hd;unfold Qh at hd;simp only[QR,Q4,or_false] at hd;rcases hd with rfl|rfl|rfl|rfl|rfl|rfl|rfl|rfl|rfl|rfl
 ·exact nQ (j9 rfl) rfl (by decide)
 ·exact nQ (j9 rfl) rfl (by decide)
 ·exact nQ (j9 rfl) rfl (by decide)
 ·exact nQ (by decide +kernel) rfl (by decide)
 ·exact nQ (by decide +kernel) rfl (by decide)
 ·exact nQ (j9 rfl) rfl (by decide)
 ·exact nQ (j9 rfl) rfl (by decide)
 ·exact nQ (j9 rfl) rfl (by decide)
 ·exact nQ (by decide +kernel) rfl (by decide)
 ·exact nQ (j9 rfl) rfl (by decide)
theorem aeH {g:gj} (s:Gr g):iU g.1/\(cQ g.1).length<=100000/\∀ d∈cQ g.1,dI g d:=by
 have hl:=s.len;have sub:∀ x,x∈cut g.1 none (some (1:Int))->x∈g.1:=λx h=>aa6 h;have cl:(cut g.1 none (some (1:Int))).length<=g.1.length:=aa7 _ _ _;have kl:Qh.length=10:=rfl;refine⟨⟨⟨⟨⟨by omega,λx hx=>?_⟩,?_⟩,by omega⟩,?_⟩,?_,?_⟩
 ·have:=(s.nm x (sub x hx)).2.1;exact gC (by rw[show("q" : Str).length=1 from rfl];omega)
 ·exact gC (by rw[zh,kl];omega)
 ·exact gC (by rw[Zp,zh,zh,kl];omega)
 ·show((Qh++List.map _ _)++List.map _ _).length<=100000;rw[Zp,Zp,zh,zh,kl];omega
 ·intro d hd;rcases List.mem_append.mp (show d∈(Qh++List.map _ _)++List.map _ _ from hd) with hd|hd
  ·rcases List.mem_append.mp hd with hd|hd
   ·exact aeG d hd
   ·obtain⟨x,hx,rfl⟩:=List.mem_map.mp hd;exact Sh λh=>s.nq x (sub x hx) _ h rfl
  ·obtain⟨x,hx,rfl⟩:=List.mem_map.mp hd;refine nQ (j9 rfl) ?_ (by show 2<=100;decide);rw[Eqs.eq];rfl
theorem Va {f:Str} (h:Nm f) (t x:Int):mU f t x:=by
 have:=h.1;have:=h.2.1;have s1:=slice_le f none (some (t % ((f.length:Int)+1)));have s2:=slice_le f (some (t % ((f.length:Int)+1))) none;have s3:=slice_le f (some (t % ((f.length:Int)+1)+1)) none;have o:at' [(36:Int),94] (x / 3 % 2)=36\/at' [(36:Int),94] (x / 3 % 2)=94:=by
  have:=nu (xs:=[(36:Int),94]) (i:=x / 3 % 2) (jG (by decide) (by decide));simpa using this
 refine⟨gC (by decide +kernel),⟨⟨jG (by decide) (by decide),by omega⟩,jG (by omega) ?_⟩,by omega,⟨⟨gC ?_,gC ?_⟩,⟨gC ?_,gC ?_⟩,gC ?_⟩,jG (by decide) (Int.le_refl 3)⟩
 ·rcases o with o|o<;>rw[o]<;>decide +kernel
 ·rw[kO];omega
 ·rw[dG,kO];omega
 ·rw[kO];omega
 ·rw[dG,kO];omega
 ·omega
theorem Vb {g:gj} (s:Gr g):lJ (λ(s1:Unit) (vu:LS_)=>((nO g s1 vu):uG (Unit) Bool)) (cX g.1 g.2.1) ()=.nx ()/\sX (λ(s1:Unit) (vu:LS_)=>((nO g s1 vu):uG (Unit) Bool)) (λ(s1:Unit) (vu:LS_)=>some (tM g s1 vu)) (cX g.1 g.2.1) ():=by
 obtain⟨_,_,_,_,h⟩:=G9 s;refine wI _ λq hq=>?_;have L:=wI (step:=λ(s2:Unit) (vp:Str)=>((pW g q s2 vp):uG (Unit) Bool)) (P:=λ(s2:Unit) (vp:Str)=>some (DN g q s2 vp)) q λx hx=>by
  obtain⟨_,d,e⟩:=h q hq x hx;refine⟨d,.inl ?_⟩;unfold pW;rw[e,QN rfl];rfl
 unfold nO;rw[L.1];refine⟨?_,.inl rfl⟩;show tM g () q;unfold tM;rw[L.1];exact⟨L.2,trivial⟩
theorem Vc {g:gj} (s:Gr g) {xs:List Int} (hx:xs.length=8):lJ (λ(s3:Unit) (v3:Int)=>((nP g xs s3 v3):uG (Unit) Bool)) (rng 0 (if(g.1.length:Int) < (4:Int) then(g.1.length:Int) else(4:Int)).toNat) ()=.nx ()/\sX (λ(s3:Unit) (v3:Int)=>((nP g xs s3 v3):uG (Unit) Bool)) (λ(s3:Unit) (v3:Int)=>some (DP g xs s3 v3)) (rng 0 (if(g.1.length:Int) < (4:Int) then(g.1.length:Int) else(4:Int)).toNat) ():=by
 refine wI _ λk hk=>?_;obtain⟨i,hi,rfl⟩:=uf hk;have h4:i < 4/\0 < g.1.length:=by split at hi<;>omega
 have i1:In g.1.length (at' xs i % (g.1.length:Int)):=jG (by omega) (Int.le_refl _);have n1:=s.nm _ (nu i1);refine⟨⟨⟨⟨⟨⟨in_of (by omega) (by omega),by omega⟩,i1⟩,in_of (by omega) (by omega),in_of (by omega) (by omega)⟩,Va n1 _ _⟩,?_⟩,?_⟩
 ·intro vp h;exact Sh (by simpa using h)
 ·refine .inl ?_;unfold nP iI;dsimp only;rw[zw (by simp)]
theorem Y5 (ns:List Int) (_:ns.length<=63):Nb ns/\M9 ns=true:=by
 obtain⟨d,s⟩:=YZ ns;obtain⟨n1,n2,n3⟩:=DW (aR ns 0) 20 (by decide) (by decide);have n2:(aP (aR ns 0) 20).length=20:=n2;unfold Nb M9;dsimp only;generalize gw ns=g at *
 obtain⟨p1,p2,p3,p4,_⟩:=G9 s;obtain⟨l1,l2⟩:=Vb s;have hx:(cut (aP (aR ns 0) 20) (some 12) none).length=8:=by
  rw[show cut (aP (aR ns 0) 20) (some 12) none=_ from X7 (k:=12) (by omega),ko,n2]
 obtain⟨m1,m2⟩:=Vc s hx;obtain⟨o1,o2,o3⟩:=aeH s;have al:((cX g.1 g.2.1).map λvu:LS_=>(jY ((eT eS) vu))).all id=true:=by
  rw[Z3];intro x hx;obtain⟨o,ho,rfl⟩:=List.mem_map.mp hx;rfl
 have ao:((cQ g.1).map λvp:Dt=>(iI g vp)).all id=true:=by
  rw[Z3];intro x hx;obtain⟨o,ho,rfl⟩:=List.mem_map.mp hx;rfl
 rw[p3,l1,m1,al,ao];refine⟨⟨d,p1,p2,⟨λ_ _=>by omega,λ_=>⟨gC (by omega),⟨p2,λ_=>gC (by show _+1<=1000;omega)⟩,λ_=>⟨l2,⟨DR _ _ (by decide) (by decide),n1⟩,⟨CP (by split<;>omega) (by split<;>omega),m2⟩,⟨o1,o2⟩,o3⟩⟩⟩⟩,?_⟩;rw[zw (by simp),zw (by simp)];rfl
theorem H1:∀ ns:List Int,ns.length<=63->F_law [.z (.lst (ns.map .int))]=some (.z (.bl true)):=(aco Y5).1
theorem H2:∀ ns:List Int,ns.length<=63->F_law [.l (ns.map .int)]=some (.z (.bl true)):=(aco Y5).2
end G12
end
open PySem PySem.W PyProof.Rows
namespace PySem.W.Fast
def tw8130885269770989840:=0
def tw10958849710805276327:=0
def tw9838756829489669749:=0
def tw14594188264218708262:=0
def tw15602322441325295177:=0
def tw7726195852780141668:=0
def tw12440855813525946918:=0
def tw17053193899305500626:=0
def tw16082357753656468318:=0
def tw13829669792589612165:=0
def tw17907075059585207439:=0
def tw2009803762093504834:=0
def tw3083424593964529882:=0
def tw10443219028049434450:=0
def tw9666464652660695811:=0
def tw14679188896476891133:=0
def tw17346842894842165999:=0
def tw2833927543364672181:=0
def tw1168132305487211677:=0
def tw13298256361991977404:=0
def tw9447204656523620182:=0
def tw2945753383914797006:=0
def tw14201574187319864370:=0
def tw5365799391942733874:=0
def tw8137234173617870174:=0
def tw16841734843793762563:=0
def tw18066894553013691764:=0
def tw663569001575737743:=0
def tw10815565965978638818:=0
def tw3261635604983363459:=0
def tw8702645410353695043:=0
def tw7348157379753688720:=0
def tw1852013127207294594:=0
def tw3816206752972220824:=0
def tw13191364207607182020:=0
def tw10366602924162961114:=0
def tw12246549747453342107:=0
def tw7941502896879003171:=0
def tw1721792443161723358:=0
def tw2348871001496722964:=0
def tw5619963852819377484:=0
def tw6227940690341821934:=0
def tw4873724755455611951:=0
def tw7403016926184202799:=0
def tw13913316650502619396:=0
def tw18041380436814435839:=0
def tw13815002406156261159:=0
def tw16099872128253834831:=0
def tw13871898497676700029:=0
def tw10206509245786295678:=0
def tw2635345597291656850:=0
def tw16781726646216241532:=0
def tw6782473310304844203:=0
def tw12689517099244158825:=0
def tw6220696849931744455:=0
def tw11455844952747483947:=0
end PySem.W.Fast
set_option maxRecDepth 100000 in
set_option maxHeartbeats 0 in
theorem PySem.Challenge.cw_onefolk_k12_parts_told_holds : PySem.Challenge.rw_onefolk_k12_parts_told.Holds := by
 w_on;refine PySem.W.holds_law (by decide +kernel) λsaid=>?_
 k_head;(case hw=>w_witness2)
 k_fill
 refine P1.walkT (l:=PySem.Challenge.rw_onefolk_k12_parts_told) (T:=G12.T) (k:=7) (x := "_law_script") (st:=G12.s_law) (F_law:=G12.F_law) (λt=>t.x_law) ⟨rfl,by decide,by decide⟩ rfl (λw mg base t=>G12.all_ok t) rfl rfl G12.H1 G12.H2 (λ_ _ _ _ _ _ _=>rfl) (λw h Y=>PySem.W.kIn_of Y) ?F
 case F=>
  intro w mg h KX G
  refine' ⟨JA KX G _,JA KX G _,JA KX G _,JA KX G _,JA KX G _,JA KX G _,JA KX G _,JA KX G _,P1.aie _ _ _ _,P1.lK KX G _ _ _ _,⟨_,_,_⟩,_,_,_,_,_,_,_,_,_,_,_,_,_,_,_,qf KX G _,P1.lK KX G _ _ _ _,P1.lK KX G _ _ _ _,P1.lK KX G _ _ _ _,P1.lK KX G _ _ _ _,P1.lK KX G _ _ _ _,P1.lK KX G _ _ _ _,P1.lK KX G _ _ _ _,P1.lK KX G _ _ _ _,P1.lK KX G _ _ _ _,P1.lK KX G _ _ _ _,P1.lK KX G _ _ _ _,P1.lK KX G _ _ _ _,P1.lK KX G _ _ _ _,P1.lK KX G _ _ _ _,P1.lK KX G _ _ _ _,P1.lK KX G _ _ _ _,P1.lK KX G _ _ _ _,P1.lK KX G _ _ _ _,P1.lK KX G _ _ _ _,P1.lK KX G _ _ _ _,P1.lK KX G _ _ _ _,P1.lK KX G _ _ _ _,P1.lK KX G _ _ _ _,qf KX G _,qf KX G _,qf KX G _,qf KX G _,qf KX G _,qf KX G _,qf KX G _,qf KX G _,qf KX G _,qf KX G _,qf KX G _,qf KX G _,qf KX G _,P1.mgT KX G _,P1.mgT KX G _⟩
  all_goals try (show _=_;k_is)
  all_goals try kernel_rfl
