import PyProof.Rows.All
import Wide.All
import OpenK.AllK
import Wide.FinOn
import PyProof.EqAt
import PyProof.EqKinds
import PyProof.TupleCall
import PyProof.StrLoop
import PyProof.StrWalks
import PyProof.CompFree
import PyProof.NeKinds
import PyProof.Rows.RuleN_isinstance
import PyProof.ConsumeWalk
import PyProof.IsiPairs
import PyProof.IsiSeqPairs
import PyProof.IsiHeapPairs
import PyProof.IsiNone
import PyProof.PureStr
import PyProof.StrCalls
import PyProof.Rows.SortStr
import PyProof.Rows.StrJoin2
import PyProof.CallStr
import PyProof.WalkInts
import PyProof.Rows.StrDigits
import PyProof.DictWalks
import PyProof.DictTruth
import PyProof.CollectWalk
import PyProof.WalkLemmas
import PyProof.Rows.SortShellK
import PyProof.Rows.SortWalk
import PyProof.SetKind
import PyProof.FactsAll.set
import PyProof.Rows.SetFrom
import PyProof.TupleKey
import PyProof.IsRules
import PyProof.WalksMore
import PyProof.SetRoads
import PyProof.DictCompW
import PyProof.ListRange
import PyProof.FString5
import PyProof.MeetsSeq2
import PyProof.FactsAll.tuple_0
import PyProof.FactsAll.tuple_2
import PyProof.FactsAll.tuple_3
import PyProof.EnumFor
import PyProof.EnumMake
import PyProof.EnumStmt
import PyProof.Rows.EnumRows
import PyProof.SumWalk
import PyProof.Rows.SeqCalls
import KE.KRevSl
import PyProof.ZipIter
import PyProof.TupleIter
import PyProof.AttrMiss
import KE.KDictOf
import KE.KDictLaws
import PyProof.TupleOfStr
import PyProof.StrCalls2
import PyProof.Rows.StrNews2
import PyProof.Rows.StrItems
import PyProof.Rows.StrSplitAre
import PyProof.Rows.StrGen4
import PyProof.Rows.RegStrFacts
import PyProof.Rows.FStr
import PyProof.SetNew
import PyProof.Rows.SetObj
import PyProof.Seq
import PyProof.Rows.SortShell
import PyProof.FactsAll.list_3
import KE.KIntText
import PyProof.StrCalls6
import PyProof.FitsReplace
import PyProof.ToksMono
import PyProof.FactsAll.str_4
import PyProof.StrBlock
import PyProof.RangeIter
import PyProof.CodeObj
import PyProof.Rows.CallKwBuiltin
import PyProof.StrLawsTight
import PyProof.Rows.StrPartPair
import PyProof.Rows.CatFin
import PyProof.Rows.StrClose
import PyProof.Rows.StrNext
import PyProof.Rows.StrBetween
import Lean
import PySem.Challenge.RW_onefolk_k51_grounds_written
open PySem.W (instObj methodObj keepIn cellsFrom_some fnOf codeIn nsIn mg_of)
set_option maxRecDepth 100000
set_option maxHeartbeats 4000000
set_option linter.all false
set_option Elab.async false
open PySem PySem.Spec PyProof.Rows
variable {w:World} {i:Nat} {t:SetTable} {x:Str} {a:Addr} {prog:Program} {us:List Value} {κ:Type} {h:Heap} {items:Array Value} {u:Value} {P:Program} {α β:Type} {k:Nat} {e:Expr} {n:Nat} {mg:Str->Option Value} {base:Heap} {l:Addr} {m:Nat} {pins:List (Addr×Obj)} {s:Shared} {it:Addr} {j:Nat} {M:Model} {A:Around} {v:Value} {Q:Option Value->Shared->Prop} {hi:Option Int} {es:List Expr} {st:Stmt} {pos:Pos} {c:Nat} {y:Str} {hs:List Int} {tg:Expr} {fp:List Addr} {tn:Nat->Heap->Prop} {iter:Expr} {lo:Option Int} {pl:List Nat} {body:List Stmt} {C:Addr} {op:CmpOp} {its:List Value} {name:Str} {tpos:Pos} {fd:FuncData} {apos:Pos} {qual:Str} {scope:Scope} {osl:Array (Option Value)} {p2 cpos:Pos} {XP:(Str->Option Value)->Heap->Prop} {YP:World->Heap->Prop} {cl:List (Str×Addr)} {is:List Nat} {ifs:List Expr} {elt tgt:Expr} {el:Addr->Env->Sem Unit} {B:Around->Bool->Prop} {RR:Value->Addr->Result->Shared->Prop} {ep mask:Nat} {owner:Array (Option Nat)} {elts:List Expr} {x1:Nat} {γ δ:Type} {os:OsState} {bmB:List Value} {newId initId:String}
abbrev LS_:=List PySem.Str
abbrev VP_:=PySem.Value->PySem.Shared->Prop
abbrev FG_:=PySem.W.Frag
abbrev LI_:=List Int
abbrev zb:=@wpAny_bind
abbrev zd:=@wpAny_pure
abbrev ze:=@Heap.get?_push_of_some
abbrev zg:=@List.length_map
abbrev zh:=@Bool.false_eq_true
abbrev zi:=@Nat.le_refl
abbrev zk:=@List.mem_cons_self
abbrev zl:=@List.length_append
abbrev zo:=@List.mem_cons_of_mem
abbrev zr:=@if_pos
abbrev zt:=@List.size_toArray
abbrev zv:=@Heap.get?_push_size
abbrev zw:=@Heap.lt_size
abbrev zz:=@if_neg
abbrev zC:=@List.map_cons
abbrev zD:=@Nat.le_trans
abbrev zI:=@List.getElem?_eq_getElem
abbrev zS:=@decide_eq_true
abbrev z4:=@Nat.le_of_ble_eq_true
abbrev z5:=@Nat.ne_of_lt
abbrev Zl:=@if_false
abbrev Zp:=@Bool.false_ne_true
abbrev Zs:=@Nat.lt_of_lt_of_le
abbrev ZA:=@List.getElem?_map
abbrev ZE:=@Bool.and_eq_true
abbrev ZH:=@Array.getElem?_eq_getElem
abbrev ZI:=@PySem.W.mg_none_of
abbrev ZN:=@List.length_cons
abbrev ZO:=@List.mem_append_right
abbrev ZT:=@decide_eq_false
abbrev ZU:=@List.getElem?_append_left
abbrev ZY:=@Array.length_toList
abbrev ZZ:=@if_true
abbrev Z3:=@List.getElem?_eq_none
abbrev qa:=@Array.getElem?_toList
abbrev qc:=@Heap.size_push
abbrev qf:=@List.all_eq_true
abbrev qh:=@List.mem_cons
abbrev qi:=@wpAny_truthy_bool
abbrev qk:=@wpAny_newObj_type
abbrev qo:=@wpAny_mono
abbrev qq:=@Nat.lt_succ_self
abbrev qr:=@List.not_mem_nil
abbrev qs:=@List.getElem?_cons_succ
abbrev qv:=@List.mem_of_getElem?
abbrev qA:=@List.getElem?_append_right
abbrev qB:=@wpAny_setState_of
abbrev qE:=@decide_eq_true_eq
abbrev qS:=@Nat.lt_succ_of_lt
abbrev qV:=@List.append_assoc
abbrev Qb:=@List.map_map
abbrev Qr:=@wpAny_holding
abbrev QA:=@List.append_nil
abbrev QE:=@List.rel_of_pairwise_cons
abbrev QI:=@wpAny_call_entry
abbrev QN:=@List.length_drop
abbrev QO:=@wpAny_typeOf
abbrev QP:=@Nat.zero_le
abbrev QQ:=@decide_eq_false_iff_not
abbrev QR:=@List.getElem?_replicate
abbrev QU:=@Nat.le_of_lt
abbrev QY:=@Bool.not_true
abbrev Q2:=@wpAny_isInstance
abbrev Q3:=@Option.some.inj
abbrev Q4:=@Bool.not_eq_true'
abbrev ja:=@Nat.lt_irrefl
abbrev jn:=@List.all_cons
abbrev js:=@PySem.mem_of_lookup
abbrev jv:=@List.getElem_of_mem
abbrev jI:=@Bool.not_false
abbrev jS:=@wpAny_callSpecial?_slot
abbrev j0:=@List.map_nil
abbrev j3:=@codeAny_builtin
abbrev Jn:=@Nat.not_lt_zero
abbrev JA:=@List.foldl_cons
abbrev JE:=@List.lookup_cons_self
abbrev JI:=@wpAny_pyIter_list
abbrev JJ:=@List.flatMap_cons
abbrev JO:=@wpAny_rule
abbrev JP:=@wpAny_field
abbrev JS:=@Bool.false_and
abbrev JU:=@decide_false
abbrev JY:=@Nat.ne_of_gt
abbrev ka:=@List.length_take
abbrev kb:=@List.map_congr_left
abbrev kc:=@List.filterMap_cons
abbrev ke:=@List.cons.injEq
abbrev kf:=@wpAny_setField_rec
abbrev kg:=@wpAny_getItem_str_slice
abbrev ki:=@codeAny_mono
abbrev kl:=@List.length_range
abbrev km:=@Int.toNat_natCast
abbrev kn:=@List.take_of_length_le
abbrev ko:=@Array.getElem?_eq_none
abbrev kq:=@List.take_append_drop
abbrev kr:=@F.slot_enumerate_next
abbrev ku:=@Or.inr
abbrev kv:=@Ne.symm
abbrev ky:=@List.cons.inj
abbrev kz:=@Bool.and_true
abbrev kA:=@decide_true
abbrev kB:=@Nat.le_succ
abbrev kC:=@wpAny_passesOwn
abbrev kD:=@List.length_set
abbrev kF:=@Bool.or_eq_true
abbrev kK:=@List.replicate_succ
abbrev kL:=@List.getElem?_range
abbrev kM:=@Heap.get?_update_ne
abbrev kN:=@Nat.zero_add
abbrev kP:=@List.mem_range
abbrev kQ:=@wpAny_Call_Name_kw
abbrev kR:=@Obj.data_mapFields
abbrev kT:=@List.zip_cons_cons
abbrev kU:=@of_decide_eq_true
abbrev kX:=@List.pairwise_map
abbrev k4:=@List.getElem?_set
abbrev k8:=@List.ext_getElem?
abbrev k9:=@List.Pairwise.nil
abbrev Kb:=@Array.size_append
abbrev Ki:=@wpAny_standAt
abbrev Kj:=@List.sum_cons
abbrev Kk:=@PySem.F.args_tuple_add_2
abbrev Kn:=@List.Pairwise.imp_of_mem
abbrev Kt:=@wpAny_forIn_list
abbrev Kx:=@Option.bind_some
abbrev KA:=@Nat.zero_lt_succ
abbrev KB:=@List.nodup_range
abbrev KF:=@F.slot_str_split
abbrev KG:=@PySem.F.entry_tuple_add
abbrev KI:=@Nat.toDigits_of_lt_base
abbrev KL:=@List.pairwise_mergeSort
abbrev KM:=@F.plain_set_update_loop
variable {K:FG_} {N:LS_} {E:VP_} {ts ps n_:LS_}
namespace L2
abbrev Key:=Sum Int Str
def j7:Key->Value->Bool
 |.inl k,v=>Value.isInt k v
 |.inr x,v=>Value.isStrOf x v
def agm (w:World):Key->Int
 |.inl k=>hashInt k
 |.inr x=>hashStr w x
theorem bI:∀ {k:Key} {v:Value},j7 k v=true->(∃ i t,k=Sum.inl i/\v=Value.int i t)\/(∃ x t,k=Sum.inr x/\v=Value.str x t)
 |.inl i,v,h=>by
  obtain⟨t,e⟩:=Value.isInt_shape (k:=i) (v:=v) h;exact .inl ⟨i,t,rfl,e⟩
 |.inr x,v,h=>by
  obtain⟨t,e⟩:=Value.isStrOf_shape (x:=x) (v:=v) h;exact .inr ⟨x,t,rfl,e⟩
theorem Tw (i:Int) (t:Tok):j7 (.inl i) (.int i t)=true:=by simp[j7,Value.isInt]
theorem Tz (x:Str) (t:Tok):j7 (.inr x) (.str x t)=true:=by simp[j7,Value.isStrOf]
theorem abW (a b:Int):decide ((Sum.inl a:Key)=Sum.inl b)=(a==b):=by
 by_cases e:a=b
 ·subst e;simp
 ·have h:¬ (Sum.inl a:Key)=Sum.inl b:=λq=>e (Sum.inl.inj q);rw[ZT h];exact(beq_eq_false_iff_ne.mpr e).symm
theorem abX (a b:Str):decide ((Sum.inr a:Key)=Sum.inr b)=decide (a=b):=by
 by_cases e:a=b
 ·subst e;simp
 ·have h:¬ (Sum.inr a:Key)=Sum.inr b:=λq=>e (Sum.inr.inj q);rw[ZT h,ZT e]
theorem abY (a:Int) (b:Str):decide ((Sum.inl a:Key)=Sum.inr b)=false:=ZT (λq=>nomatch q)
theorem abZ (a:Str) (b:Int):decide ((Sum.inr a:Key)=Sum.inl b)=false:=ZT (λq=>nomatch q)
def cH (prog:Program) (w:World):PySem.KeyKind prog w Key where
 is:=j7
 hash:=agm w
 inj:=λv a b ha hb=>by
  rcases bI ha with⟨i,t,rfl,rfl⟩|⟨x,t,rfl,rfl⟩
  ·rcases bI hb with⟨j,u,rfl,e⟩|⟨y,u,rfl,e⟩
   ·injection e with e1 _;rw[e1]
   ·exact nomatch e
  ·rcases bI hb with⟨j,u,rfl,e⟩|⟨y,u,rfl,e⟩
   ·exact nomatch e
   ·injection e with e1 _;rw[e1]
 byValue:=λk v h=>by
  rcases bI h with⟨i,t,rfl,rfl⟩|⟨x,t,rfl,rfl⟩<;>rfl
 pyHash:=λhv h=>by
  rcases bI hv with⟨i,t,rfl,rfl⟩|⟨x,t,rfl,rfl⟩
  ·exact wpAny_pyHash_int h
  ·exact wpAny_pyHash_str h
 eqBool:=λhu hv h=>by
  rcases bI hu with⟨i,t,rfl,rfl⟩|⟨x,t,rfl,rfl⟩
  ·rcases bI hv with⟨j,u,rfl,rfl⟩|⟨y,u,rfl,rfl⟩
   ·rw[abW] at h;exact wpAny_eqBool_int h
   ·rw[abY] at h;exact SeqAt.EqAt.int_str i t y u _ _ _ _ h
  ·rcases bI hv with⟨j,u,rfl,rfl⟩|⟨y,u,rfl,rfl⟩
   ·rw[abZ] at h;exact SeqAt.EqAt.str_int x t j u _ _ _ _ h
   ·rw[abX] at h;exact wpAny_eqBool_str h
 «strs»:=λk x t v h=>by
  rcases bI h with⟨i,u,rfl,e⟩|⟨y,u,rfl,e⟩
  ·exact nomatch e
  ·injection e with e1 _;subst e1;cases v<;>rfl
theorem Lz (prog:Program) (w:World) (i:Int) (t:Tok):(cH prog w).is (.inl i) (.int i t)=true:=Tw i t
theorem LC (prog:Program) (w:World) (x:Str) (t:Tok):(cH prog w).is (.inr x) (.str x t)=true:=Tz x t
end L2
namespace L2
inductive V where
 |non|bl (b:Bool)|int (i:Int)|str (x:Str)|byt (b:Array UInt8)|flt (b:UInt64)|ref (a:Addr)|ty (n:String)
 deriving DecidableEq
def RelV:V->Value->Prop
 |.non,u=>u=Value.none
 |.bl b,u=>u=Value.bool b
 |.int i,u=>∃ t,u=Value.int i t
 |.str x,u=>∃ t,u=Value.str x t
 |.byt b,u=>∃ t,u=Value.bytes b t
 |.flt b,u=>∃ t,u=Value.float b t
 |.ref a,u=>u=Value.ref a
 |.ty n,u=>u=Value.type n
abbrev Vals:List V->List Value->Prop:=Paired RelV
theorem Vals.length {xs:List V} {us:List Value} (r:Vals xs us):xs.length=us.length:=Paired.length r
theorem Vals.get:∀ {xs:List V} {us:List Value} {i:Nat} {x:V},Vals xs us->xs[i]?=some x->∃ u,us[i]?=some u/\RelV x u
 |_,_,_,_,.nil,e=>by simp at e
 |_,_,0,_,.cons r _,e=>by simp at e;subst e;exact⟨_,rfl,r⟩
 |_,_,i+1,x,.cons _ t,e=>by
  obtain⟨u,h1,h2⟩:=Vals.get (i:=i) (x:=x) t (by simpa using e);exact⟨u,by simpa using h1,h2⟩
theorem Vals.append:∀ {xs ys:List V} {us ws:List Value},Vals xs us->Vals ys ws->Vals (xs++ys) (us++ws)
 |_,_,_,_,.nil,s=>s
 |_,_,_,_,.cons r t,s=>.cons r (Vals.append t s)
theorem Vals.take:∀ {xs:List V} {us:List Value} (n:Nat),Vals xs us->Vals (xs.take n) (us.take n)
 |_,_,0,_=>.nil
 |_,_,_+1,.nil=>.nil
 |_,_,n+1,.cons r t=>.cons r (Vals.take n t)
theorem Vals.drop:∀ {xs:List V} {us:List Value} (n:Nat),Vals xs us->Vals (xs.drop n) (us.drop n)
 |_,_,0,r=>r
 |_,_,_+1,.nil=>.nil
 |_,_,n+1,.cons _ t=>Vals.drop n t
def ab0:Option V->Option Value->Prop
 |some v,some u=>RelV v u
 |none,none=>True
 |_,_=>False
def KV:List (κ×V)->List (κ×Value)->Prop:=Paired λ(p:κ×V) (q:κ×Value)=>p.1=q.1/\RelV p.2 q.2
def kV:Key->V
 |.inl i=>.int i
 |.inr x=>.str x
inductive HO where
 |lst (xs:List V)
 |tup (xs:List V)
 |dK (kvs:List (Key×V))|dT (kvs:List (List Key×V))
 |set (S:Int->Bool) (n:Nat)
 |ins (C dx:Addr) (fs:List (Str×V))
 |own (x:Addr)
 |xd (fs:List (Str×V))
 |met (f x:Addr)
 |rng (lo hi:Int)
 |Jo (o:Obj) (u:HO)
 |tbl (ps:Array Value)
 |ext (φ:Heap->Prop)
abbrev Hp:=Addr->Option HO
def upd (H:Hp) (a:Addr) (o:HO):Hp:=λb=>if b=a then some o else H b
theorem cL {H:Hp} {o:HO}:upd H a o a=some o:=by unfold upd;rw[zr rfl]
theorem bA {H:Hp} {b:Addr} {o:HO} (h:b≠a):upd H a o b=H b:=by unfold upd;rw[zz h]
def pC (h:Heap) (a:Addr) (items:Array Value):Prop:=∃ o,h.get? a=some o/\o.cls=.type "tuple" ∧ (∃ n,o.data=.seq items n)/\o.dict=none
theorem pC.weak (x:pC h a items):IsTup h a items:=let ⟨o,e,c,d,_⟩:=x;⟨o,e,c,d⟩
theorem pC.new (h:Heap) (items:Array Value):pC (h.push { cls:=.type "tuple", data:=.seq items }) h.objs.size items:=⟨_,zv _ rfl,rfl,⟨_,rfl⟩,rfl⟩
theorem CP {H:Hp} {b:Addr} {o u:HO} (h:H a=some o) (h':H b=some u) (d:o≠u):a≠b:=by
 intro e;subst e;rw[h] at h';exact d (Q3 h')
theorem c7 {H:Hp} {b:Addr} {o:HO} (h:H a=some o) (h':H b=none):a≠b:=by
 intro e;subst e;rw[h] at h';cases h'
section
variable (P:Program) (w:World)
def jP (H:Hp) (h:Heap) (a:Addr):HO->Prop
 |.lst xs=>xs.length<=sizeLine/\∃ (its:List Value) (n:Nat),Vals xs its/\h.get? a=some { cls:=.type "list", data:=.seq its.toArray n }
 |.tup xs=>xs.length<=sizeLine/\∃ its:List Value,Vals xs its/\pC h a its.toArray
 |.dK kvs=>kvs.length<=sizeLine/\(a==sysModules)=false/\∃ vs,KV kvs vs/\h.DictOf (cH P w) a vs
 |.dT kvs=>kvs.length<=sizeLine/\(a==sysModules)=false/\∃ xs:List (List Key×Addr×Value),
   Paired (λ(p:List Key×V) (q:List Key×Addr×Value)=>p.1=q.1/\H q.2.1=some (.tup (p.1.map kV))/\RelV p.2 q.2.2) kvs xs ∧
   ∃ o es ep,h.get? a=some o/\o.ExactDict/\o.data=.dict es ep/\es.toList=xs.map (entryOfKey (tupleKind (cH P w)))/\(xs.map (·.1)).Nodup
 |.set S n=>h.SetOf (intKind P w) a S n
 |.ins C dx fs=>H dx=some (.own a)/\fs.length<=1000/\dx≠a/\h.get? a=some (instObj C dx) ∧
   ∃ mA,h.Ns1 dx mA/\(∀ f,ab0 (fs.lookup f) (mA f))/\PySem.Within mA (fs.map (·.1))
 |.own _=>∃ o,h.get? a=some o
 |.xd fs=>∃ mA,h.Ns1 a mA/\∀ f,ab0 (fs.lookup f) (mA f)
 |.rng lo hi=>∃ t u v,h.get? a=some { cls:=.type "range", data:=.fields #[.int lo t,.int hi u,.int 1 v] }
 |.Jo o u=>h.get? a=some o/\jP H h a u
 |.tbl ps=>h.get? a=some { cls:=.none,data:=.fields ps }
 |.met f x=>h.get? a=some (methodObj (.ref f) (.ref x))
 |.ext φ=>φ h/\(∃ o,h.get? a=some o)/\∀ h1 h2:Heap,φ h1->(∀ o,h1.get? a=some o->h2.get? a=some o)->φ h2
def Ae (H:Hp) (h:Heap):Prop:=∀ a o,H a=some o->jP P w H h a o
end
section
variable {H H':Hp} {h':Heap} {o:HO}
theorem jP.lt (x:jP P w H h a o):a < h.objs.size:=by
 cases o with
 |lst xs=>obtain⟨_,_,_,_,e⟩:=x;exact zw e
 |tup xs=>obtain⟨_,_,_,p⟩:=x;exact p.weak.lt
 |dK kvs=>obtain⟨_,_,_,_,o,_,_,e,_⟩:=x;exact zw e
 |dT kvs=>obtain⟨_,_,_,_,o,_,_,e,_⟩:=x;exact zw e
 |set S n=>obtain⟨o,_,_,_,e,_⟩:=x;exact zw e
 |ins C dx fs=>obtain⟨_,_,_,e,_⟩:=x;exact zw e
 |own y=>obtain⟨_,e⟩:=x;exact zw e
 |xd fs=>obtain⟨_,⟨_,_,_,e,_⟩,_⟩:=x;exact zw e
 |rng lo hi=>obtain⟨_,_,_,e⟩:=x;exact zw e
 |Jo ob u=>obtain⟨e,_⟩:=x;exact zw e
 |tbl ps=>exact zw (show h.get? a=some _ from x)
 |met f y=>exact zw (show h.get? a=some _ from x)
 |ext φ=>obtain⟨_,⟨_,e⟩,_⟩:=x;exact zw e
theorem Paired.ab2 {α β:Type} {F G:α->β->Prop}:∀ {l₁:List α} {l₂:List β},Paired F l₁ l₂->(∀ a b,F a b->G a b)->Paired G l₁ l₂
 |_,_,.nil,_=>.nil
 |_,_,.cons r t,f=>.cons (f _ _ r) (Paired.ab2 t f)
theorem Paired.imp' {F G:α->β->Prop} (f:∀ a b,F a b->G a b) {l₁:List α} {l₂:List β} (r:Paired F l₁ l₂):Paired G l₁ l₂:=Paired.ab2 r f
theorem jP.stay (x:jP P w H h a o) (k:∀ b u,(b=a\/H b=some (.own a))->h.get? b=some u->h'.get? b=some u)
  (ho:∀ b,H b=some (.own a)->H' b=some (.own a)) (ht:∀ b xs,H b=some (.tup xs)->H' b=some (.tup xs)):jP P w H' h' a o:=by
 induction o with
 |lst xs=>obtain⟨z,its,n,r,e⟩:=x;exact⟨z,its,n,r,k _ _ (.inl rfl) e⟩
 |tup xs=>obtain⟨z,its,r,ob,e,c⟩:=x;exact⟨z,its,r,ob,k _ _ (.inl rfl) e,c⟩
 |dK kvs=>obtain⟨z,y,vs,r,ob,es,ep,e,c⟩:=x;exact⟨z,y,vs,r,ob,es,ep,k _ _ (.inl rfl) e,c⟩
 |dT kvs=>
  obtain⟨z,y,xs,r,ob,es,ep,e,c⟩:=x;exact⟨z,y,xs,Paired.ab2 r λp q z=>⟨z.1,ht _ _ z.2.1,z.2.2⟩,ob,es,ep,k _ _ (.inl rfl) e,c⟩
 |set S n=>obtain⟨ob,es,ep,t,e,c⟩:=x;exact⟨ob,es,ep,t,k _ _ (.inl rfl) e,c⟩
 |ins C dx fs=>
  obtain⟨d,z,ne,e,mA,⟨od,es,ep,e2,c⟩,r⟩:=x;exact⟨ho _ d,z,ne,k _ _ (.inl rfl) e,mA,⟨od,es,ep,k _ _ (.inr d) e2,c⟩,r⟩
 |own y=>obtain⟨ob,e⟩:=x;exact⟨ob,k _ _ (.inl rfl) e⟩
 |xd fs=>obtain⟨mA,⟨od,es,ep,e,c⟩,r⟩:=x;exact⟨mA,⟨od,es,ep,k _ _ (.inl rfl) e,c⟩,r⟩
 |rng lo hi=>obtain⟨t,u,v,e⟩:=x;exact⟨t,u,v,k _ _ (.inl rfl) e⟩
 |Jo ob u ih=>obtain⟨e,q⟩:=x;exact⟨k _ _ (.inl rfl) e,ih q⟩
 |tbl ps=>
  have e:h.get? a=some { cls:=.none,data:=.fields ps }:=x;show h'.get? a=some { cls:=.none,data:=.fields ps };exact k a _ (.inl rfl) e
 |met f y=>
  have e:h.get? a=some (methodObj (.ref f) (.ref y)):=x;show h'.get? a=some (methodObj (.ref f) (.ref y));exact k a _ (.inl rfl) e
 |ext φ=>obtain⟨p,⟨o,e⟩,st⟩:=x;exact⟨st _ _ p λo q=>k _ _ (.inl rfl) q,⟨o,k _ _ (.inl rfl) e⟩,st⟩
theorem Ae.lt (x:Ae P w H h) (e:H a=some o):a < h.objs.size:=(x a o e).lt
theorem Ae.fresh (x:Ae P w H h) (e:h.objs.size<=a):H a=none:=by
 cases q:H a with
 |none=>rfl
 |some u=>exact absurd (Zs (x.lt q) e) (ja _)
theorem Ae.kept (x:Ae P w H h) (k:∀ b u,h.get? b=some u->h'.get? b=some u):Ae P w H h':=λa o e=>
 (x a o e).stay (λb u _ q=>k b u q) (λ_ q=>q) λ_ _ q=>q
theorem Ae.laid (x:Ae P w H h) (k:∀ b u,h.get? b=some u->h'.get? b=some u) (hp:h.objs.size<=a) (new:jP P w (upd H a o) h' a o):Ae P w (upd H a o) h':=λb u e=>by
 have hn:=x.fresh hp;by_cases hb:b=a
 ·subst hb;rw[cL] at e;cases e;exact new
 ·rw[bA hb] at e;exact(x b u e).stay (λc v _ q=>k c v q) (λc q=>by rw[bA (c7 q hn)];exact q) λc xs q=>by rw[bA (c7 q hn)];exact q
end
def Rd (H:Hp) (a:Addr) (u:HO):Prop:=H a=some u\/∃ o,H a=some (.Jo o u)
theorem Rd.ok {H:Hp} {u:HO} (r:Rd H a u) (x:Ae P w H h):jP P w H h a u:=by
 rcases r with r|⟨o,r⟩
 ·exact x a u r
 ·obtain⟨_,q⟩:=x a _ r;exact q
def Mut:Option HO->Prop
 |some (.lst _)=>True
 |some (.dK _)=>True
 |some (.dT _)=>True
 |some (.set _ _)=>True
 |some (.ins _ _ _)=>True
 |some (.ext _)=>True
 |_=>False
section
variable {H:Hp} {h':Heap} {x e:Addr} {o':HO}
theorem Ae.write (ok:Ae P w H h) (mu:Mut (H x)) (he:e=x\/H e=some (.own x)) (k:∀ b u,b≠e->h.get? b=some u->h'.get? b=some u) (heo:∃ u,h'.get? e=some u)
  (new:jP P w (upd H x o') h' x o'):Ae P w (upd H x o') h':=λb u q=>by
 have aei:∀ c y,H c=some (.own y)->c≠x:=λc y r z=>by subst z;rw[r] at mu;exact mu
 have agn:∀ c xs,H c=some (.tup xs)->c≠x:=λc xs r z=>by subst z;rw[r] at mu;exact mu
 by_cases hb:b=x
 ·subst hb;rw[cL] at q;cases q;exact new
 ·rw[bA hb] at q;by_cases hbe:b=e
  ·have q':H b=some (.own x):=by
    rcases he with z|z
    ·exact absurd (hbe.trans z) hb
    ·rw[hbe];exact z
   rw[q] at q';cases q';obtain⟨v,hv⟩:=heo;exact⟨v,by rw[hbe];exact hv⟩
  ·refine(ok b u q).stay (λc v hc r=>k c v ?_ r) (λc r=>by rw[bA (aei c b r)];exact r) λc xs r=>by rw[bA (agn c xs r)];exact r
   rcases hc with rfl|hc
   ·exact hbe
   ·rintro rfl;rcases he with z|z
    ·exact aei c b hc z
    ·rw[hc] at z;cases z;exact hb rfl
end
structure Un (fs ex:List Addr) (H H':Hp) (h h':Heap):Prop where
 keep:∀ b o,h.get? b=some o->H b=none->b∉fs->b∉ex->h'.get? b=some o
 slot:∀ b o,h.get? b=some o->H b=none->b∈fs->b∉ex->∃ sl,h'.get? b=some { o with slots:=sl }
 free:∀ b o,h.get? b=some o->H b=none->b∉ex->H' b=none
 there:∀ b o,h.get? b=some o->b∉ex->∃ o',h'.get? b=some o'
 tups:∀ b xs,H b=some (.tup xs)->H' b=some (.tup xs)
 Gu:∀ b o u,H b=some (.Jo o u)->H' b=some (.Jo o u)
 Jp:∀ b ps,H b=some (.tbl ps)->∃ more,H' b=some (.tbl (ps++more))
section
variable {fs fs' ex ex':List Addr} {H H1 H2:Hp} {h1 h2 h':Heap} {x e:Addr} {o:HO}
theorem Un.any (u:Un fs ex H H1 h h1) {b:Addr} {ob:Obj} (q:h.get? b=some ob) (n:H b=none) (hx:b∉ex):∃ sl,h1.get? b=some { ob with slots:=sl }:=by
 by_cases hb:b∈fs
 ·exact u.slot b ob q n hb hx
 ·exact⟨ob.slots,u.keep b ob q n hb hx⟩
theorem Un.kept (k:∀ b u,h.get? b=some u->h'.get? b=some u):Un fs ex H H h h':=
 ⟨λb ob q _ _ _=>k b ob q,λb ob q _ _ _=>⟨ob.slots,k b ob q⟩,λ_ _ _ n _=>n,λb ob q _=>⟨ob,k b ob q⟩,λ_ _ q=>q,λ_ _ _ q=>q,λ_ ps q=>⟨#[],by rw[q];simp⟩⟩
theorem Un.refl:Un fs ex H H h h:=Un.kept λ_ _ q=>q
theorem Un.laid (k:∀ b u,h.get? b=some u->h'.get? b=some u) (hp:h.objs.size<=a) (hn:H a=none):Un fs ex H (upd H a o) h h' where
 keep:=λb u q _ _ _=>k b u q
 slot:=λb u q _ _ _=>⟨u.slots,k b u q⟩
 free:=λb u q n _=>by rw[bA (z5 (Zs (zw q) hp))];exact n
 there:=λb u q _=>⟨u,k b u q⟩
 tups:=λb xs q=>by rw[bA (c7 q hn)];exact q
 Gu:=λb u xs q=>by rw[bA (c7 q hn)];exact q
 Jp:=λb ps q=>⟨#[],by rw[bA (c7 q hn),q];simp⟩
theorem Un.write (mu:Mut (H x)) (he:e=x\/H e=some (.own x)) (k:∀ b u,b≠e->h.get? b=some u->h'.get? b=some u) (heo:∃ u,h'.get? e=some u):Un fs ex H (upd H x o) h h':=by
 have hx:∀ b,H b=none->b≠x:=λb n z=>by subst z;rw[n] at mu;exact mu
 have hb:∀ b,H b=none->b≠e:=λb n z=>by
  subst z;rcases he with r|r
  ·exact hx b n r
  ·rw[n] at r;cases r
 have hm:∀ b u,H b=some u->¬ Mut (some u)->b≠x:=λb u q nm z=>by subst z;rw[q] at mu;exact nm mu
 refine⟨λb u q n _ _=>k b u (hb b n) q,λb u q n _ _=>⟨u.slots,k b u (hb b n) q⟩,λb u q n _=>by rw[bA (hx b n)];exact n,λb u q _=>?_,
  λb xs q=>by rw[bA (hm b _ q λz=>z)];exact q,λb u xs q=>by rw[bA (hm b _ q λz=>z)];exact q,λb ps q=>⟨#[],by rw[bA (hm b _ q λz=>z),q];simp⟩⟩
 by_cases hbe:b=e
 ·subst hbe;exact heo
 ·exact⟨u,k b u hbe q⟩
end
def trk (h:Heap) (H:Hp):List Addr:=(List.range h.objs.size).filter λa=>(H a).isSome
def Jq (h:Heap) (H:Hp):Heap:=PySem.W.hideAll h (trk h H)
theorem TF (h:Heap) (H:Hp):(Jq h H).objs.size=h.objs.size:=PySem.W.hideAll_size _ _
theorem Vw {H:Hp} {b:Addr} {o:Obj} (e:h.get? b=some o) (n:H b=none):(Jq h H).get? b=some o:=
 PySem.W.hideAll_get _ e λhm=>by
  have q:(H b).isSome=true:=(List.mem_filter.mp hm).2;rw[n] at q;simp at q
theorem YX {H:Hp} {b:Addr} {o:Obj} (e:(Jq h H).get? b=some o):h.get? b=some o/\H b=none:=by
 have e':h.get? b=some o:=PySem.W.of_hideAll (trk h H) e;refine⟨e',?_⟩;cases q:H b with
 |none=>rfl
 |some x=>
  have hm:b∈trk h H:=List.mem_filter.mpr ⟨List.mem_range.mpr (zw e'),by simp[q]⟩;have z:(Jq h H).get? b=none:=PySem.W.hideAll_none (trk h H) hm;rw[z] at e;cases e
def YZ (g h:Heap) (L:Addr):List (Addr×Obj):=(List.range h.objs.size).filterMap λa=>if a=L\/(g.get? a).isSome=true then none else(h.get? a).map λo=>(a,o)
def rest (g h:Heap) (L d:Addr):List (Addr×Obj):=(YZ g h L).filter λp=>decide (p.1≠d)
end L2
namespace L2
structure Mod (K:FG_) (mg:Str->Option Value) (base:Heap):Prop where
 kin:K.In base
 glob:base.Ns mainGlobals mg
 blt:∃ mb,base.Ns builtinsNs mb/\∀ x:Str,x ≠ "__name__" → mb x=bootBuiltins x
 nolimit:base.NoLimit
structure Cx where
 prog:Program
 w:World
 K:FG_
 mg:Str->Option Value
 base:Heap
 A:Around
 N:LS_
 s₀:Shared
 H₀:Hp
 env:Env
 outer:List Env
 stack:List Env
 ex:List Addr
 fn:Str->Bool
 calm:Bool
 pn:List (Addr×Obj)
 xe:VP_
def frs (l:List Env):List Addr:=l.filterMap (·.frame)
abbrev Cx.fs (X:Cx):List Addr:=frs X.outer
def Vis (sc:Scope) (x:Str):Prop:=sc.names.lookup x=some .local\/sc.names.lookup x=some .cell\/sc.names.lookup x=some .free
def Loc (sc:Scope) (x:Str):Prop:=sc.names.lookup x=some .local\/sc.names.lookup x=some .cell
def Look (env:Env) (h:Heap) (m:Str->Option Value) (x:Str) (u:Value):Prop:=
 (env.kindOf x=some .local/\m x=some u)\/((env.kindOf x=some .cell\/env.kindOf x=some .free)/\∃ c,env.cells.lookup x=some c/\h.IsCell c (some u))
structure Cx.Ok (X:Cx):Prop where
 mod:Mod X.K X.mg X.base
 kind:X.env.scope.kind=.function
 glob:X.env.globals=mainGlobals
 blt:X.env.builtins=builtinsNs
 above:X.s₀.heap.objs.size<=X.env.locals
 inj:∀ x y c,X.env.cells.lookup x=some c->X.env.cells.lookup y=some c->x=y
 has:∀ x,(X.env.kindOf x=some .cell\/X.env.kindOf x=some .free)->∃ c,X.env.cells.lookup x=some c
 cab:∀ x c,X.fn x=true->X.env.cells.lookup x=some c->X.s₀.heap.objs.size<=c
 hd:X.calm=true->X.A.handled=none
 frames:X.A.frames=some X.stack
 stk:X.stack=X.outer\/(X.stack=X.env::X.outer/\X.env.frame=some X.env.locals)
 exf:∀ b∈X.ex,b≠X.env.locals/\∀ x c,X.env.cells.lookup x=some c->c≠b
 bs:∀ b o,X.base.get? b=some o->X.s₀.heap.get? b=some o/\X.H₀ b=none
 bsz:X.base.objs.size<=X.s₀.heap.objs.size
 Vx:∀ b o,X.base.get? b=some o->b∉X.ex
 Y0:∀ b∈X.ex,b∉X.fs
 CQ:X.s₀.heap.FunFrames X.base X.outer
 frf:∀ b∈X.fs,X.H₀ b=none
structure Inv (X:Cx) (pins:List (Addr×Obj)) (σ:List (Option V)) (H:Hp) (s:Shared):Prop where
 ok:X.Ok
 os:s.os=X.s₀.os
 bare:AllBare s.gens
 base:Un X.fs X.ex X.H₀ H X.s₀.heap s.heap
 loc:∃ m,s.heap.Ns X.env.locals m/\∀ (i:Nat) (x:Str) (v:V),X.N[i]?=some x->σ[i]?=some (some v)->Vis X.env.scope x->∃ u,RelV v u/\Look X.env s.heap m x u
 cell:∀ x c,X.env.cells.lookup x=some c->∃ v,s.heap.IsCell c v
 free:H X.env.locals=none
 q9:∀ x c,X.env.cells.lookup x=some c->H c=none
 pin:∀ p∈X.pn++pins,s.heap.get? p.1=some p.2/\H p.1=none/\p.1≠X.env.locals/\p.1∉X.fs/\∀ v,p.2.data≠.cell v
 hok:Ae X.prog X.w H s.heap
 len:σ.length=X.N.length
section
variable {X:Cx} {σ:List (Option V)} {H H':Hp} {h':Heap}
theorem Cx.Ok.agp (ok:X.Ok) {b:Addr} {o:Obj} (e:X.base.get? b=some o):b∉X.fs:=λhb=>by
 have:=(ok.CQ.mem hb).1;rw[e] at this;cases this
theorem Inv.bs (I:Inv X pins σ H s):∀ b o,X.base.get? b=some o->s.heap.get? b=some o/\H b=none:=λb o e=>
 ⟨I.base.keep b o (I.ok.bs b o e).1 (I.ok.bs b o e).2 (I.ok.agp e) (I.ok.Vx b o e),I.base.free b o (I.ok.bs b o e).1 (I.ok.bs b o e).2 (I.ok.Vx b o e)⟩
theorem Inv.bk (I:Inv X pins σ H s):∀ b o,X.base.get? b=some o->s.heap.get? b=some o:=λb o e=>(I.bs b o e).1
theorem Inv.mod (I:Inv X pins σ H s):Mod X.K X.mg X.base:=I.ok.mod
theorem Inv.kIn (I:Inv X pins σ H s):X.K.In s.heap:=I.ok.mod.kin.keeps I.bk
theorem Inv.lt (I:Inv X pins σ H s):X.env.locals < s.heap.objs.size:=let ⟨_,hn,_⟩:=I.loc;hn.lt
theorem Inv.sz (I:Inv X pins σ H s):X.s₀.heap.objs.size<=s.heap.objs.size:=zD I.ok.above (QU I.lt)
theorem Inv.agq (I:Inv X pins σ H s) (h:s.heap.objs.size<=a):a∉X.fs:=λhb=>by
 obtain⟨_,o,ho,_⟩:=I.ok.CQ.mem hb;exact absurd (Zs (zw ho) (zD I.sz h)) (ja _)
theorem Inv.cne (I:Inv X pins σ H s):∀ x c,X.env.cells.lookup x=some c->c≠X.env.locals:=λx c e z=>by
 obtain⟨v,o,ho,hd⟩:=I.cell x c e;obtain⟨m,⟨o',es,ep,ho',hd',_⟩,_⟩:=I.loc;rw[z,ho'] at ho;cases ho;rw[hd'] at hd;cases hd
theorem Inv.CQ (I:Inv X pins σ H s):s.heap.FunFrames X.base X.outer:=by
 have all:∀ (l:List Env),(∀ b∈frs l,b∈X.fs)->X.s₀.heap.FunFrames X.base l->s.heap.FunFrames X.base l:=by
  intro l
  induction l with
  |nil=>intro _ _;trivial
  |cons env r ih=>
   intro hs hl;obtain⟨hk,⟨L,o,hf,hn,ho,hd⟩,hr⟩:=hl;have hL:L∈X.fs:=hs L (by unfold frs;rw[kc,hf];exact zk);obtain⟨sl,e⟩:=I.base.slot L o ho (I.ok.frf L hL) hL λz=>I.ok.Y0 L z hL;exact⟨hk,⟨L,_,hf,hn,e,hd⟩,ih (λb hb=>hs b (by unfold frs;rw[kc,hf];exact zo _ hb)) hr⟩
 exact all X.outer (λ_ hb=>hb) I.ok.CQ
theorem Inv.stack (I:Inv X pins σ H s):s.heap.FunFrames X.base X.stack:=by
 rcases I.ok.stk with e|⟨e,hf⟩
 ·rw[e];exact I.CQ
 ·rw[e];obtain⟨m,hn,_⟩:=I.loc;refine .cons (by rw[I.ok.kind];decide) hf hn ?_ I.CQ;exact Heap.get?_none_of_le (zD I.ok.bsz I.ok.above)
theorem Inv.Jr (I:Inv X pins σ H s):∀ b∈frs X.stack,b∈X.env.locals::X.fs:=λb hb=>by
 rcases I.ok.stk with e|⟨e,hf⟩
 ·rw[e] at hb;exact zo _ hb
 ·rw[e] at hb;unfold frs at hb;rw[kc,hf] at hb;exact hb
theorem Inv.Rx (I:Inv X pins σ H s):∀ b∈frs X.stack,H b=none:=λb hb=>by
 rcases List.mem_cons.mp (I.Jr b hb) with e|hb
 ·rw[e];exact I.free
 ·obtain⟨_,o,ho,_⟩:=I.ok.CQ.mem hb;exact I.base.free b o ho (I.ok.frf b hb) λz=>I.ok.Y0 b z hb
theorem Inv.step {g':Array GenState} {t':Nat} {d':Drawn} {ch:List Addr} (I:Inv X pins σ H s)
  (hch:∀ b∈ch,(b∈X.ex\/X.s₀.heap.objs.size<=b)/\b≠X.env.locals/\(∀ x c,X.env.cells.lookup x=some c->c≠b)/\∀ p∈X.pn++pins,p.1≠b)
  (keep:∀ b o,b≠X.env.locals->b∉X.fs->b∉ch->s.heap.get? b=some o->H b=none->h'.get? b=some o)
  (slot:∀ b o,b≠X.env.locals->b∈X.fs->b∉ch->s.heap.get? b=some o->H b=none->∃ sl,h'.get? b=some { o with slots:=sl }) (free:∀ b o,b∉ch->s.heap.get? b=some o->H b=none->H' b=none)
  (there:∀ b o,b∉ch->s.heap.get? b=some o->∃ o',h'.get? b=some o')
  (tups:∀ b xs,H b=some (.tup xs)->H' b=some (.tup xs)) (Gu:∀ b o u,H b=some (.Jo o u)->H' b=some (.Jo o u)) (Jp:∀ b ps,H b=some (.tbl ps)->∃ more,H' b=some (.tbl (ps++more)))
  (ns:∀ m,s.heap.Ns X.env.locals m->h'.Ns X.env.locals m) (hok:Ae X.prog X.w H' h') (hg:AllBare g') :
  Inv X pins σ H' { s with heap:=h',gens:=g',drawn:=d',toks:=t' }:=by
 have neL:∀ b o,X.s₀.heap.get? b=some o->b≠X.env.locals:=λb o e=>z5 (Zs (zw e) I.ok.above);have neC:∀ b o,X.s₀.heap.get? b=some o->b∉X.ex->b∉ch:=λb o e hx hb=>by
  rcases(hch b hb).1 with z|z
  ·exact hx z
  ·exact absurd (Zs (zw e) z) (ja _)
 have cellK:∀ x c,X.env.cells.lookup x=some c->∀ v,s.heap.IsCell c v->h'.IsCell c v:=λx c e v ⟨o,ho,hd⟩=>by
  have nch:c∉ch:=λz=>(hch c z).2.2.1 x c e rfl;by_cases hc:c∈X.fs
  ·obtain⟨sl,q⟩:=slot c o (I.cne x c e) hc nch ho (I.q9 x c e);exact⟨_,q,hd⟩
  ·exact⟨o,keep c o (I.cne x c e) hc nch ho (I.q9 x c e),hd⟩
 refine⟨I.ok,I.os,hg,⟨λb o e n hb hx=>?_,λb o e n hb hx=>?_,λb o e n hx=>?_,λb o e hx=>?_,λb xs e=>tups b xs (I.base.tups b xs e),λb o xs e=>Gu b o xs (I.base.Gu b o xs e),λb ps e=>?_⟩,?_,λx c e=>?_,?_,λx c e=>?_,λp hp=>?_,hok,I.len⟩
 ·exact keep b o (neL b o e) hb (neC b o e hx) (I.base.keep b o e n hb hx) (I.base.free b o e n hx)
 ·obtain⟨sl,e1⟩:=I.base.slot b o e n hb hx;obtain⟨sl',e2⟩:=slot b _ (neL b o e) hb (neC b o e hx) e1 (I.base.free b o e n hx);exact⟨sl',e2⟩
 ·obtain⟨o',e1⟩:=I.base.there b o e hx;exact free b o' (neC b o e hx) e1 (I.base.free b o e n hx)
 ·obtain⟨o',e1⟩:=I.base.there b o e hx;exact there b o' (neC b o e hx) e1
 ·obtain⟨m1,e1⟩:=I.base.Jp b ps e;obtain⟨m2,e2⟩:=Jp b _ e1;exact⟨m1++m2,by rw[e2,Array.append_assoc]⟩
 ·obtain⟨m,hn,hl⟩:=I.loc;refine⟨m,ns m hn,λi x v e1 e2 e3=>?_⟩;obtain⟨u,r,l⟩:=hl i x v e1 e2 e3;refine⟨u,r,?_⟩;rcases l with l|⟨k,c,e,z⟩
  ·exact .inl l
  ·exact .inr ⟨k,c,e,cellK x c e _ z⟩
 ·obtain⟨v,z⟩:=I.cell x c e;exact⟨v,cellK x c e v z⟩
 ·obtain⟨m,⟨o,_,_,ho,_⟩,_⟩:=I.loc;exact free _ o (λz=>(hch _ z).2.1 rfl) ho I.free
 ·obtain⟨v,o,ho,hd⟩:=I.cell x c e;exact free c o (λz=>(hch c z).2.2.1 x c e rfl) ho (I.q9 x c e)
 ·obtain⟨e,n,ne,nf,d⟩:=I.pin p hp;have nch:p.1∉ch:=λz=>(hch p.1 z).2.2.2 p hp rfl;exact⟨keep p.1 p.2 ne nf nch e n,free p.1 p.2 nch e n,ne,nf,d⟩
theorem Inv.un {t':Nat} (I:Inv X pins σ H s) (u:Un X.fs [] H H' s.heap h') (hok:Ae X.prog X.w H' h'):Inv X pins σ H' { s with heap:=h',toks:=t' }:=by
 obtain⟨m,⟨o,es,ep,ho,r⟩,_⟩:=id I.loc;obtain⟨sl,hL⟩:=u.any ho I.free (by simp);exact I.step (g':=s.gens) (d':=s.drawn) (ch:=[]) (λ_ z=>nomatch z) (λb o _ hb _ e n=>u.keep b o e n hb (by simp)) (λb o _ hb _ e n=>u.slot b o e n hb (by simp)) (λb o _ e n=>u.free b o e n (by simp)) (λb o _ e=>u.there b o e (by simp)) u.tups u.Gu u.Jp (λm' hm=>by
  obtain⟨o',es',ep',ho',r'⟩:=hm;rw[ho] at ho';cases ho';exact⟨_,es',ep',hL,r'⟩) hok I.bare
theorem Inv.call {g':Array GenState} {t':Nat} {d':Drawn} {ch:List Addr} (I:Inv X pins σ H s) (u:Un (frs X.stack) ch H H' s.heap h') (hok:Ae X.prog X.w H' h') (hg:AllBare g')
  (hch:∀ b∈ch,(b∈X.ex\/X.s₀.heap.objs.size<=b)/\b≠X.env.locals/\(∀ x c,X.env.cells.lookup x=some c->c≠b)/\∀ p∈X.pn++pins,p.1≠b) :
  Inv X pins σ H' { s with heap:=h',gens:=g',drawn:=d',toks:=t' }:=by
 obtain⟨m,⟨o,es,ep,ho,r⟩,_⟩:=id I.loc;obtain⟨sl,hL⟩:=u.any ho I.free λz=>(hch _ z).2.1 rfl;exact I.step (ch:=ch) hch (λb o hL hb hc e n=>u.keep b o e n (λz=>(List.mem_cons.mp (I.Jr b z)).elim hL hb) hc) (λb o _ _ hc e n=>u.any e n hc) (λb o hc e n=>u.free b o e n hc) (λb o hc e=>u.there b o e hc) u.tups u.Gu u.Jp (λm' hm=>by
  obtain⟨o',es',ep',ho',r'⟩:=hm;rw[ho] at ho';cases ho';exact⟨_,es',ep',hL,r'⟩) hok hg
theorem Inv.turned {t':Nat} (I:Inv X pins σ H s) (k:∀ b o,b≠it->s.heap.get? b=some o->h'.get? b=some o) (hn:H it=none) (hL:it≠X.env.locals) (h1:it∈X.ex\/X.s₀.heap.objs.size<=it) (h2:∀ x c,X.env.cells.lookup x=some c->c≠it) (h3:∀ p∈X.pn++pins,p.1≠it):Inv X pins σ H { s with heap:=h',toks:=t' }:=by
 have nit:∀ b u,H b=some u->b≠it:=λb u e z=>by rw[z,hn] at e;cases e
 refine I.step (g':=s.gens) (d':=s.drawn) (ch:=[it]) (λb hb=>?_) (λb o _ _ hc e _=>k b o (λz=>hc (by simp[z])) e) (λb o _ _ hc e _=>⟨o.slots,k b o (λz=>hc (by simp[z])) e⟩) (λ_ _ _ _ n=>n)
  (λb o hc e=>⟨o,k b o (λz=>hc (by simp[z])) e⟩) (λ_ _ e=>e) (λ_ _ _ e=>e) (λb ps e=>⟨#[],by rw[e];simp⟩) (λm hm=>?_) (λb u e=>?_) I.bare
 ·have e:b=it:=by simpa using hb
  subst e;exact⟨h1,hL,h2,h3⟩
 ·obtain⟨o,es,ep,ho,r⟩:=hm;exact⟨o,es,ep,k _ o (kv hL) ho,r⟩
 ·refine(I.hok b u e).stay (λc v hc q=>k c v ?_ q) (λ_ q=>q) λ_ _ q=>q;rcases hc with z|z
  ·rw[z];exact nit b u e
  ·exact nit c _ z
theorem Inv.tok (I:Inv X pins σ H s) (t:Nat):Inv X pins σ H { s with toks:=t }:=I.un (h':=s.heap) (t':=t) Un.refl I.hok
theorem Inv.kept {t':Nat} (I:Inv X pins σ H s) (k:∀ b u,s.heap.get? b=some u->h'.get? b=some u):Inv X pins σ H { s with heap:=h',toks:=t' }:=I.un (Un.kept k) (I.hok.kept k)
theorem Inv.laid {a:Addr} {o:HO} {t':Nat} (I:Inv X pins σ H s) (k:∀ b u,s.heap.get? b=some u->h'.get? b=some u) (hp:s.heap.objs.size<=a) (new:jP X.prog X.w (upd H a o) h' a o) :
  Inv X pins σ (upd H a o) { s with heap:=h',toks:=t' }:=I.un (Un.laid k hp (I.hok.fresh hp)) (I.hok.laid k hp new)
theorem Inv.write {x e:Addr} {o:HO} {t':Nat} (I:Inv X pins σ H s) (mu:Mut (H x)) (he:e=x\/H e=some (.own x)) (k:∀ b u,b≠e->s.heap.get? b=some u->h'.get? b=some u) (heo:∃ u,h'.get? e=some u)
  (new:jP X.prog X.w (upd H x o) h' x o):Inv X pins σ (upd H x o) { s with heap:=h',toks:=t' }:=I.un (Un.write mu he k heo) (I.hok.write mu he k heo new)
theorem Inv.Js {aa5:List (Addr×Obj)} (I:Inv X pins σ H s) (h:∀ p∈aa5,s.heap.get? p.1=some p.2/\H p.1=none/\p.1≠X.env.locals/\p.1∉X.fs/\∀ v,p.2.data≠.cell v):Inv X aa5 σ H s:=
 ⟨I.ok,I.os,I.bare,I.base,I.loc,I.cell,I.free,I.q9,λp hp=>(List.mem_append.mp hp).elim (λz=>I.pin p (List.mem_append_left _ z)) (h p),I.hok,I.len⟩
theorem LK (hN:N.Nodup) (a:N[i]?=some x) (b:N[j]?=some x):i=j:=by
 obtain⟨h1,e1⟩:=List.getElem?_eq_some_iff.mp a;obtain⟨h2,e2⟩:=List.getElem?_eq_some_iff.mp b;exact(List.getElem_inj hN).mp (e1.trans e2.symm)
theorem TJ {v:V} {Q:Unit->Shared->Prop} (I:Inv X pins σ H s) (hN:X.N.Nodup) (hi:X.N[i]?=some x) (hx:Loc X.env.scope x) (r:RelV v u) (h:∀ s',Inv X pins (σ.set i (some v)) H s'->(∃ a,Heap.SameBut a s.heap s'.heap/\(a=X.env.locals\/X.env.cells.lookup x=some a))->Q () s') (hf:X.fn x=true\/X.env.scope.names.lookup x=some .local:=by first|exact .inl rfl|exact .inr rfl|assumption):wpAny M A (storeName X.env x u) Q E s:=by
 obtain⟨m,hn,hl⟩:=id I.loc;have hcls:(X.env.scope.kind==.class||(X.env.scope.kind==.module&&X.env.locals != X.env.globals))=false:=by rw[I.ok.kind];rfl
 have hiσ:i < σ.length:=by rw[I.len];exact(List.getElem?_eq_some_iff.mp hi).1
 have cne:=I.cne;have tracked:∀ {a:Addr} {h':Heap},(∃ o,s.heap.get? a=some o/\H a=none)->Heap.SameBut a s.heap h'->Ae X.prog X.w H h':=λ{a h'} ha hs b ob e=>by
  obtain⟨_,_,hfree⟩:=ha;refine(I.hok b ob e).stay (λc w' hc q=>(hs.2 c ?_).trans q) (λ_ q=>q) λ_ _ q=>q;rintro rfl;rcases hc with rfl|hc
  ·rw[hfree] at e;cases e
  ·rw[hfree] at hc;cases hc
 rcases hx with hk|hk
 ·refine wpAny_storeName_local hk hn (λh' hn' hs=>?_) hcls;obtain⟨oL,_,_,hoL,_⟩:=id hn;refine h _ ⟨I.ok,I.os,I.bare,⟨λb o e n hb hx=>?_,λb o e n hb hx=>?_,I.base.free,λb o e hx=>?_,I.base.tups,I.base.Gu,I.base.Jp⟩,⟨_,hn',λj y v' e1 e2 e3=>?_⟩,λy c e=>?_,I.free,I.q9,λp hp=>?_,tracked ⟨oL,hoL,I.free⟩ hs,by simpa using I.len⟩ ⟨_,hs,.inl rfl⟩
  ·exact(hs.2 b (z5 (Zs (zw e) I.ok.above))).trans (I.base.keep b o e n hb hx)
  ·obtain⟨sl,e1⟩:=I.base.slot b o e n hb hx;exact⟨sl,(hs.2 b (z5 (Zs (zw e) I.ok.above))).trans e1⟩
  ·obtain⟨o',e1⟩:=I.base.there b o e hx;exact⟨o',(hs.2 b (z5 (Zs (zw e) I.ok.above))).trans e1⟩
  ·by_cases hj:j=i
   ·subst hj;rw[hi] at e1;cases e1;rw[List.getElem?_set_self hiσ] at e2;cases e2;exact⟨u,r,.inl ⟨hk,by simp⟩⟩
   ·rw[List.getElem?_set_ne (kv hj)] at e2;obtain⟨u',r',q⟩:=hl j y v' e1 e2 e3;refine⟨u',r',?_⟩;rcases q with⟨k,e⟩|⟨k,c,e,z⟩
    ·refine .inl ⟨k,?_⟩;have:y≠x:=λe=>hj (LK hN e1 (e▸hi));simp[this,e]
    ·exact .inr ⟨k,c,e,z.sameBut hs (cne y c e)⟩
  ·obtain⟨w',z⟩:=I.cell y c e;exact⟨w',z.sameBut hs (cne y c e)⟩
  ·obtain⟨e,n,ne,nf,d⟩:=I.pin p hp;exact⟨(hs.2 p.1 ne).trans e,n,ne,nf,d⟩
 ·have hfn:X.fn x=true:=by
   rcases hf with z|z
   ·exact z
   ·rw[z] at hk;cases hk
  obtain⟨c,hc⟩:=I.ok.has x (.inl hk);obtain⟨w',z⟩:=I.cell x c hc;refine wpAny_storeName_cell I.ok.kind hk hc z (λh' hc' hs=>?_);obtain⟨oc,hoc,agr⟩:=id z;refine h { s with heap:=h' } ⟨I.ok,I.os,I.bare,⟨λb o e n hb hx=>?_,λb o e n hb hx=>?_,I.base.free,λb o e hx=>?_,I.base.tups,I.base.Gu,I.base.Jp⟩,⟨m,hn.sameBut hs (kv (cne x c hc)),λj y v' e1 e2 e3=>?_⟩,λy c' e=>?_,I.free,I.q9,λp hp=>?_,tracked ⟨oc,hoc,I.q9 x c hc⟩ hs,by simpa using I.len⟩ ⟨c,hs,.inr hc⟩
  ·exact(hs.2 b (z5 (Zs (zw e) (I.ok.cab x c hfn hc)))).trans (I.base.keep b o e n hb hx)
  ·obtain⟨sl,e1⟩:=I.base.slot b o e n hb hx;exact⟨sl,(hs.2 b (z5 (Zs (zw e) (I.ok.cab x c hfn hc)))).trans e1⟩
  ·obtain⟨o',e1⟩:=I.base.there b o e hx;exact⟨o',(hs.2 b (z5 (Zs (zw e) (I.ok.cab x c hfn hc)))).trans e1⟩
  ·by_cases hj:j=i
   ·subst hj;rw[hi] at e1;cases e1;rw[List.getElem?_set_self hiσ] at e2;cases e2;exact⟨u,r,.inr ⟨.inl hk,c,hc,hc'⟩⟩
   ·rw[List.getElem?_set_ne (kv hj)] at e2;obtain⟨u',r',q⟩:=hl j y v' e1 e2 e3;refine⟨u',r',?_⟩;rcases q with q|⟨k,c',e,z'⟩
    ·exact .inl q
    ·refine .inr ⟨k,c',e,z'.sameBut hs ?_⟩;rintro rfl;exact hj (LK hN e1 (I.ok.inj _ _ _ e hc▸hi))
  ·by_cases hcc:c'=c
   ·subst hcc;exact⟨_,hc'⟩
   ·obtain⟨w2,z2⟩:=I.cell y c' e;exact⟨w2,z2.sameBut hs hcc⟩
  ·obtain⟨e,n,ne,nf,d⟩:=I.pin p hp;refine⟨(hs.2 p.1 ?_).trans e,n,ne,nf,d⟩;intro q;rw[q,hoc] at e;have q':oc=p.2:=Q3 e;exact d w' (by rw[<-q'];exact agr)
theorem xZ {v:V} {Q:Unit->Shared->Prop} (I:Inv X pins σ H s) (hN:X.N.Nodup) (hi:X.N[i]?=some x) (hx:Loc X.env.scope x) (r:RelV v u) (h:∀ s',Inv X pins (σ.set i (some v)) H s'->Q () s') (hf:X.fn x=true\/X.env.scope.names.lookup x=some .local:=by first|exact .inl rfl|exact .inr rfl|assumption):wpAny M A (storeName X.env x u) Q E s:=
 TJ I hN hi hx r (λs' I' _=>h s' I') hf
theorem Inv.call' {s':Shared} {ch:List Addr} (I:Inv X pins σ H s) (ho:s'.os=s.os) (u:Un (frs X.stack) ch H H' s.heap s'.heap) (hok:Ae X.prog X.w H' s'.heap) (hg:AllBare s'.gens)
  (hch:∀ b∈ch,(b∈X.ex\/X.s₀.heap.objs.size<=b)/\b≠X.env.locals/\(∀ x c,X.env.cells.lookup x=some c->c≠b)/\∀ p∈X.pn++pins,p.1≠b):Inv X pins σ H' s':=by
 obtain⟨h',g',d',t',o'⟩:=s';have e:o'=s.os:=ho;subst e;exact I.call (g':=g') (t':=t') (d':=d') u hok hg hch
end
abbrev XK:=Value->Option Addr->Hp->Prop
abbrev St:=List (Option V)
abbrev VK:=V->Hp->Prop
abbrev TE:=St->Hp->VK->Prop
abbrev TT:=St->Hp->(Bool->Hp->Prop)->Prop
abbrev TA:=St->Hp->(List V->Hp->Prop)->Prop
structure Ends where
 nx:St->Hp->Prop
 rt:VK
 bk:St->Hp->Prop:=λ_ _=>False
 ct:St->Hp->Prop:=λ_ _=>False
abbrev TS:=Ends->St->Hp->Prop
def EP (X:Cx) (pins:List (Addr×Obj)) (σ:St) (Q:VK) (u:Value) (s':Shared):Prop:=∃ v H',Inv X pins σ H' s'/\RelV v u/\Q v H'
def TP (X:Cx) (pins:List (Addr×Obj)) (σ:St) (Q:Bool->Hp->Prop) (b:Bool) (s':Shared):Prop:=∃ H',Inv X pins σ H' s'/\Q b H'
def AP (X:Cx) (pins:List (Addr×Obj)) (σ:St) (Q:List V->Hp->Prop) (us:List Value) (s':Shared):Prop:=∃ vs H',Inv X pins σ H' s'/\Vals vs us/\Q vs H'
def SP (X:Cx) (pins:List (Addr×Obj)) (D:Ends) (f:Flow) (s':Shared):Prop:=
 match f with
 |.next=>∃ σ' H',Inv X pins σ' H' s'/\D.nx σ' H'
 |.brk=>∃ σ' H',Inv X pins σ' H' s'/\D.bk σ' H'
 |.cont=>∃ σ' H',Inv X pins σ' H' s'/\D.ct σ' H'
 |.ret u=>∃ v σ' H',Inv X pins σ' H' s'/\RelV v u/\D.rt v H'
def PE (X:Cx) (e:Expr) (t:TE):Prop:=
 ∀ (pins:List (Addr×Obj)) (s:Shared) (σ:St) (H:Hp) (Q:VK),Inv X pins σ H s->t σ H Q->wpAny (model X.prog X.w) X.A (eval e X.env) (EP X pins σ Q) X.xe s
def PT (X:Cx) (e:Expr) (t:TT):Prop:=
 ∀ (pins:List (Addr×Obj)) (s:Shared) (σ:St) (H:Hp) (Q:Bool->Hp->Prop),Inv X pins σ H s->t σ H Q->wpAny (model X.prog X.w) X.A (isTrue e X.env (eval e X.env)) (TP X pins σ Q) X.xe s
def PW (X:Cx) (e:Expr) (t:TT):Prop:=
 ∀ (whole:Sem Value) (pins:List (Addr×Obj)) (s:Shared) (σ:St) (H:Hp) (Q:Bool->Hp->Prop),Inv X pins σ H s->t σ H Q->wpAny (model X.prog X.w) X.A (isTrue e X.env whole) (TP X pins σ Q) X.xe s
theorem PW.pt {X:Cx} {t:TT} (h:PW X e t):PT X e t:=h _
def PA (X:Cx) (es:List Expr) (t:TA):Prop:=
 ∀ (pos:Pos) (pins:List (Addr×Obj)) (s:Shared) (σ:St) (H:Hp) (Q:List V->Hp->Prop),Inv X pins σ H s->t σ H Q->wpAny (model X.prog X.w) X.A (spliced (backTo pos (starEach es X.env))) (AP X pins σ Q) X.xe s
def PS (X:Cx) (st:Stmt) (t:TS):Prop:=
 ∀ (pins:List (Addr×Obj)) (s:Shared) (σ:St) (H:Hp) (D:Ends),Inv X pins σ H s->t D σ H->wpAny (model X.prog X.w) X.A (exec st X.env) (SP X pins D) X.xe s
def Ry (X:Cx) (st:List Stmt) (t:TS):Prop:=
 ∀ (pins:List (Addr×Obj)) (s:Shared) (σ:St) (H:Hp) (D:Ends),Inv X pins σ H s->t D σ H->wpAny (model X.prog X.w) X.A (execs st X.env) (SP X pins D) X.xe s
theorem jq {t:Sem α} {Q Q':α->Shared->Prop} (h:wpAny M A t Q E s) (hQ:∀ a s,Q a s->Q' a s):wpAny M A t Q' E s:=qo h hQ λ_ _ x=>x
end L2
namespace L2
section
variable {X:Cx}
def aek (i:Nat):TE:=λσ H Q=>∃ v,σ[i]?=some (some v)/\Q v H
def tC (v:V):TE:=λ_ H Q=>Q v H
theorem Jt (hN:X.N[i]?=some x) (hv:Vis X.env.scope x) (hd:(x==("__debug__" : Str))=false:=by decide) (hcd:(x==("__classdict__" : Str))=false:=by decide):PE X (.Name x pos) (aek i):=by
 intro pins s σ H Q I h;obtain⟨v,e,h⟩:=h;obtain⟨m,hn,hl⟩:=I.loc;obtain⟨u,r,l⟩:=hl i x v hN e hv;have fin:EP X pins σ Q u s:=⟨v,H,I,r,h⟩;rcases l with⟨hk,hm⟩|⟨hk,c,hc,hcell⟩
 ·exact wpAny_Name (wpAny_loadName_local I.ok.kind hk hn hm fin) hd
 ·rcases hk with hk|hk
  ·exact wpAny_Name (wpAny_loadName_cell I.ok.kind hk hc hcell fin) hd
  ·exact wpAny_Name (wpAny_loadName_free I.ok.kind hk hc hcell fin hcd) hd
theorem ab6 {i j pos}:PE X (.Constant (.int i) j pos) (tC (.int i)):=λ_ _ _ H _ I h=>wpAny_Constant_int ⟨.int i,H,I.tok _,⟨_,rfl⟩,h⟩
theorem ael {b j pos}:PE X (.Constant (.bool b) j pos) (tC (.bl b)):=λ_ _ _ H _ I h=>Constant_bool ⟨.bl b,H,I,rfl,h⟩
theorem ab7 {j pos}:PE X (.Constant .none j pos) (tC .non):=λ_ _ _ H _ I h=>Constant_none ⟨.non,H,I,rfl,h⟩
theorem ab8 {x j pos}:PE X (.Constant (.str x) j pos) (tC (.str x)):=λ_ _ _ H _ I h=>Calls.Constant_str ⟨.str x,H,I.tok _,⟨_,rfl⟩,h⟩
def Gl (X:Cx) (x:Str):Prop:=X.env.kindOf x=some .globalImplicit
theorem Rz {σ:St} {H:Hp} {Q:VP_} (I:Inv X pins σ H s) (hg:Gl X x) (hm:X.mg x=some u) (h:Q u s) (hd:(x==("__debug__" : Str))=false:=by decide):wpAny (model X.prog X.w) X.A (eval (.Name x pos) X.env) Q E s:=
 Calls.Name_function_global I.ok.kind hg (Calls.loadGlobal_global (by rw[I.ok.glob];exact I.mod.glob.keeps I.bk) hm h) hd
theorem CT {σ:St} {H:Hp} {Q:VP_} (I:Inv X pins σ H s) (hg:Gl X x) (hm:X.mg x=none) (hv:bootBuiltins x=some u) (h:Q u s) (hn:x ≠ "__name__" := by decide) (hd:(x==("__debug__" : Str))=false:=by decide):wpAny (model X.prog X.w) X.A (eval (.Name x pos) X.env) Q E s:=by
 obtain⟨mb,h1,h2⟩:=I.mod.blt;exact Calls.Name_function_global I.ok.kind hg (Calls.loadGlobal_builtin (by rw[I.ok.glob];exact I.mod.glob.keeps I.bk) hm (by rw[I.ok.blt];exact h1.keeps I.bk) ((h2 x hn).trans hv) h) hd
theorem RB {v:V} (hg:Gl X x) (hm:X.mg x=some u) (r:RelV v u) (hd:(x==("__debug__" : Str))=false:=by decide):PE X (.Name x pos) (tC v):=
 λ_ _ _ H _ I h=>Rz I hg hm ⟨v,H,I,r,h⟩ hd
theorem BZ {v:V} (hg:Gl X x) (hm:X.mg x=none) (hv:bootBuiltins x=some u) (r:RelV v u) (hn:x ≠ "__name__" := by decide) (hd:(x==("__debug__" : Str))=false:=by decide):PE X (.Name x pos) (tC v):=
 λ_ _ _ H _ I h=>CT I hg hm hv ⟨v,H,I,r,h⟩ hn hd
variable {a b:Expr} {ta tb:TE}
variable {tA tB':TT} {rest:List Expr}
def aem (t u:TT):TT:=λσ H Q=>t σ H λc H1=>if c=true then u σ H1 Q else Q false H1
def tOr (t u:TT):TT:=λσ H Q=>t σ H λc H1=>if c=true then Q true H1 else u σ H1 Q
def ags (t:TT):TT:=λσ H Q=>t σ H λc H1=>Q (!c) H1
theorem Y4 (ha:PT X a tA):PW X (.BoolOp .And [a] pos) tA:=by
 intro wh pins s σ H Q I h;refine isTrue_and (jq (ha pins s σ H Q I h) λc s1 e=>?_);cases c with
 |true=>exact isTrue_and_nil e
 |false=>exact e
theorem ab9 (ha:PT X a tA):PW X (.BoolOp .Or [a] pos) tA:=by
 intro wh pins s σ H Q I h;refine isTrue_or (jq (ha pins s σ H Q I h) λc s1 e=>?_);cases c with
 |false=>exact isTrue_or_nil e
 |true=>exact e
theorem acd (ha:PT X a tA) (hb:PW X (.BoolOp .And (b::rest) pos) tB'):PW X (.BoolOp .And (a::b::rest) pos) (aem tA tB'):=by
 intro wh pins s σ H Q I h;refine isTrue_and (jq (ha pins s σ H _ I h) λc s1 ⟨H1,I1,q1⟩=>?_);cases c with
 |true=>exact hb wh pins s1 σ H1 Q I1 q1
 |false=>exact⟨H1,I1,q1⟩
theorem aen (ha:PT X a tA) (hb:PW X (.BoolOp .Or (b::rest) pos) tB'):PW X (.BoolOp .Or (a::b::rest) pos) (tOr tA tB'):=by
 intro wh pins s σ H Q I h;refine isTrue_or (jq (ha pins s σ H _ I h) λc s1 ⟨H1,I1,q1⟩=>?_);cases c with
 |true=>exact⟨H1,I1,q1⟩
 |false=>exact hb wh pins s1 σ H1 Q I1 q1
theorem ace (ha:PT X a tA):PT X (.UnaryOp .Not a pos) (ags tA):=by
 intro pins s σ H Q I h;exact isTrue_not (ha pins s σ H (λc H1=>Q (!c) H1) I h)
def aeo (ta tb:TE):TE:=λσ H Q=>ta σ H λx H1=>∃ c,x=.bl c/\if c=true then tb σ H1 Q else Q (.bl false) H1
def agt (ta tb:TE):TE:=λσ H Q=>ta σ H λx H1=>∃ c,x=.bl c/\if c=true then Q (.bl true) H1 else tb σ H1 Q
def aep (ta:TE):TE:=λσ H Q=>ta σ H λx H1=>∃ c,x=.bl c/\Q (.bl (!c)) H1
theorem acf {op} {t:TE} (h:PE X a t):PE X (.BoolOp op [a] pos) t:=λpins s σ H Q I hw=>BoolOp_one (h pins s σ H Q I hw)
theorem acg (ha:PE X a ta) (hb:PE X (.BoolOp .And (b::rest) pos) tb):PE X (.BoolOp .And (a::b::rest) pos) (aeo ta tb):=by
 intro pins s σ H Q I h;refine BoolOp_and (jq (ha pins s σ H _ I h) λv s1 ⟨x,H1,I1,r1,q1⟩=>?_);obtain⟨c,rfl,q1⟩:=q1;cases r1;refine qi ?_;cases c with
 |true=>exact hb pins s1 σ H1 Q I1 q1
 |false=>exact⟨.bl false,H1,I1,rfl,q1⟩
theorem aer (ha:PE X a ta) (hb:PE X (.BoolOp .Or (b::rest) pos) tb):PE X (.BoolOp .Or (a::b::rest) pos) (agt ta tb):=by
 intro pins s σ H Q I h;refine BoolOp_or (jq (ha pins s σ H _ I h) λv s1 ⟨x,H1,I1,r1,q1⟩=>?_);obtain⟨c,rfl,q1⟩:=q1;cases r1;refine qi ?_;cases c with
 |false=>exact hb pins s1 σ H1 Q I1 q1
 |true=>exact⟨.bl true,H1,I1,rfl,q1⟩
theorem ach (ha:PE X a ta):PE X (.UnaryOp .Not a pos) (aep ta):=by
 intro pins s σ H Q I h;refine UnaryOp_ (jq (ha pins s σ H _ I h) λv s1 ⟨x,H1,I1,r1,q1⟩=>?_);obtain⟨c,rfl,q1⟩:=q1;cases r1;exact not_of (qi ⟨.bl (!c),H1,I1,rfl,q1⟩)
def tIf (t:TT) (ta tb:TE):TE:=λσ H Q=>t σ H λc H1=>if c=true then ta σ H1 Q else tb σ H1 Q
theorem Vy {c:Expr} (hc:PT X c tA) (ha:PE X a ta) (hb:PE X b tb):PE X (.IfExp c a b pos) (tIf tA ta tb):=by
 intro pins s σ H Q I h;refine wpAny_IfExp (jq (hc pins s σ H _ I h) λd s1 ⟨H1,I1,q1⟩=>?_);cases d with
 |true=>exact ha pins s1 σ H1 Q I1 q1
 |false=>exact hb pins s1 σ H1 Q I1 q1
end
end L2
namespace L2
def rY (K:FG_) (H:Hp) (a:Addr) (xs:List V):Prop:=
 Rd H a (.lst xs) ∨
  ∃ (o:Obj) (its:Array Value) (n:Nat),K.lookup a=some o/\o.cls=.type "list" ∧ o.dict=none/\o.data=.seq its n/\its.size<=sizeLine/\Vals xs its.toList
def xX (K:FG_) (H:Hp) (a:Addr) (xs:List V):Prop:=
 Rd H a (.tup xs) ∨
  ∃ (o:Obj) (its:Array Value) (n:Nat),K.lookup a=some o/\(o.cls=.type "tuple" ∧ o.dict=none)/\o.data=.seq its n/\its.size<=sizeLine/\Vals xs its.toList
def aci:Value->Option V
 |.none=>some .non
 |.bool b=>some (.bl b)
 |.int i _=>some (.int i)
 |.str x _=>some (.str x)
 |.bytes b _=>some (.byt b)
 |.float b _=>some (.flt b)
 |.ref a=>some (.ref a)
 |.type n=>some (.ty n)
 |_=>none
theorem RelV.abs {x:V} (r:RelV x u):aci u=some x:=by
 cases x with
 |non=>cases r;rfl
 |bl _=>cases r;rfl
 |int _=>obtain⟨t,rfl⟩:=r;rfl
 |str _=>obtain⟨t,rfl⟩:=r;rfl
 |byt _=>obtain⟨t,rfl⟩:=r;rfl
 |flt _=>obtain⟨t,rfl⟩:=r;rfl
 |ref _=>cases r;rfl
 |ty _=>cases r;rfl
theorem RelV.inj {x y:V} {u:Value} (r:RelV x u) (q:RelV y u):x=y:=Q3 (r.abs.symm.trans q.abs)
theorem Vals.inj:∀ {xs ys:List V} {us:List Value},Vals xs us->Vals ys us->xs=ys
 |_,_,_,.nil,.nil=>rfl
 |_,_,_,.cons r t,.cons r' t'=>by rw[r.inj r',Vals.inj t t']
section
variable {X:Cx} {σ:St} {H:Hp} {xs ys:List V}
theorem Inv.list (I:Inv X pins σ H s) (h:rY X.K H a xs):∃ its:List Value,Vals xs its/\PlainL s.heap a its.toArray/\xs.length<=sizeLine:=by
 rcases h with h|⟨o,its,n,hk,hc,hd,hs,hz,r⟩
 ·obtain⟨z,its,n,r,e⟩:=h.ok I.hok;exact⟨its,r,⟨_,n,e,rfl,rfl,rfl⟩,z⟩
 ·refine⟨its.toList,r,⟨o,n,I.kIn a o hk,hc,hd,by simpa using hs⟩,?_⟩;have e:=r.length;simp only[ZY] at e;omega
theorem Inv.tuple (I:Inv X pins σ H s) (h:xX X.K H a xs):∃ its:List Value,Vals xs its/\IsTup s.heap a its.toArray/\xs.length<=sizeLine:=by
 rcases h with h|⟨o,its,n,hk,hc,hs,hz,r⟩
 ·obtain⟨z,its,r,p⟩:=h.ok I.hok;exact⟨its,r,p.weak,z⟩
 ·refine⟨its.toList,r,⟨o,I.kIn a o hk,hc.1,n,by simpa using hs⟩,?_⟩;have e:=r.length;simp only[ZY] at e;omega
theorem Inv.CW (I:Inv X pins σ H s) (h:rY X.K H a xs) (h':rY X.K H a ys):xs=ys:=by
 obtain⟨its,r,⟨o,n,e,_,_,d⟩,_⟩:=I.list h;obtain⟨its',r',⟨o',n',e',_,_,d'⟩,_⟩:=I.list h';rw[e] at e';cases e';rw[d] at d';injection d' with d1 _;have:its=its':=by simpa using congrArg Array.toList d1
 subst this;exact r.inj r'
theorem Inv.Hz (I:Inv X pins σ H s) (h:xX X.K H a xs) (h':xX X.K H a ys):xs=ys:=by
 obtain⟨its,r,⟨o,e,_,n,d⟩,_⟩:=I.tuple h;obtain⟨its',r',⟨o',e',_,n',d'⟩,_⟩:=I.tuple h';rw[e] at e';cases e';rw[d] at d';injection d' with d1 _;have:its=its':=by simpa using congrArg Array.toList d1
 subst this;exact r.inj r'
end
abbrev Cx.wish (X:Cx) (E:VP_):Cx:={ X with xe:=E }
abbrev Cx.nox (X:Cx):Cx:=X.wish λ_ _=>False
theorem Cx.Ok.wish {X:Cx} (ok:X.Ok) (E:VP_):(X.wish E).Ok:=
 ⟨ok.mod,ok.kind,ok.glob,ok.blt,ok.above,ok.inj,ok.has,ok.cab,ok.hd,ok.frames,ok.stk,ok.exf,ok.bs,ok.bsz,ok.Vx,ok.Y0,ok.CQ,ok.frf⟩
theorem Cx.Ok.uN {X:Cx} (ok:(X.wish E).Ok):X.Ok:=
 ⟨ok.mod,ok.kind,ok.glob,ok.blt,ok.above,ok.inj,ok.has,ok.cab,ok.hd,ok.frames,ok.stk,ok.exf,ok.bs,ok.bsz,ok.Vx,ok.Y0,ok.CQ,ok.frf⟩
section
variable {X:Cx} {σ:St} {H:Hp}
theorem Inv.wish (I:Inv X pins σ H s) (E:VP_):Inv (X.wish E) pins σ H s:=⟨I.ok.wish E,I.os,I.bare,I.base,I.loc,I.cell,I.free,I.q9,I.pin,I.hok,I.len⟩
theorem Inv.uN (I:Inv (X.wish E) pins σ H s):Inv X pins σ H s:=⟨I.ok.uN,I.os,I.bare,I.base,I.loc,I.cell,I.free,I.q9,I.pin,I.hok,I.len⟩
theorem SP.uN {D:Ends} {f:Flow} {s':Shared} (h:SP (X.wish E) pins D f s'):SP X pins D f s':=by
 cases f with
 |next=>obtain⟨σ',H',I,q⟩:=h;exact⟨σ',H',I.uN,q⟩
 |brk=>obtain⟨σ',H',I,q⟩:=h;exact⟨σ',H',I.uN,q⟩
 |cont=>obtain⟨σ',H',I,q⟩:=h;exact⟨σ',H',I.uN,q⟩
 |ret u=>obtain⟨v,σ',H',I,r,q⟩:=h;exact⟨v,σ',H',I.uN,r,q⟩
theorem Ry.nox {st:List Stmt} {t:TS} (h:Ry X.nox st t):Ry X st t:=λpins s σ H D I hw=>
 qo (h pins s σ H D (I.wish _) hw) (λ_ _ q=>q.uN) λ_ _ z=>False.elim z
end
section
variable {X:Cx} {rest:List Stmt} {t u:TS} {te:TE}
def aes:TS:=λD σ H=>D.nx σ H
def agu (t u:TS):TS:=λD σ H=>t { D with nx:=u D } σ H
theorem Y5:Ry X [] aes:=λ_ _ σ H _ I h=>wpAny_execs_nil ⟨σ,H,I,h⟩
theorem Vz (h1:PS X st t) (h2:Ry X rest u):Ry X (st::rest) (agu t u):=by
 intro pins s σ H D I h;refine wpAny_execs_cons (jq (h1 pins s σ H { D with nx:=u D } I h) λf s1 q=>?_);cases f with
 |next=>
  obtain⟨σ',H',I',q⟩:=q;exact h2 pins s1 σ' H' D I' q
 |ret v=>exact q
 |brk=>exact q
 |cont=>exact q
theorem Inv.quiet {σ:St} {H:Hp} (I:Inv X pins σ H s):interactive X.env=false:=by simp[interactive,I.ok.kind]
def aeu (te:TE):TS:=λD σ H=>te σ H λ_ H1=>D.nx σ H1
theorem Y6 (he:PE X e te) (hs:swapsWith e none pos.line X.env=pure false:=by rfl):PS X (.Expr e pos) (aeu te):=by
 intro pins s σ H D I h;exact wpAny_Expr_any (jq (he pins s σ H _ I h) λv s1 ⟨x,H1,I1,r1,q1⟩=>⟨σ,H1,I1,q1⟩) I.quiet hs
def agv (te:TE):TS:=λD σ H=>te σ H D.rt
theorem VB (he:PE X e te):PS X (.Return (some e) pos) (agv te):=by
 intro pins s σ H D I h;exact wpAny_Return_some (jq (he pins s σ H _ I h) λv s1 ⟨x,H1,I1,r1,q1⟩=>⟨x,σ,H1,I1,r1,q1⟩)
def agw (c:TT) (t u:TS):TS:=λD σ H=>c σ H λb H1=>if b=true then t D σ H1 else u D σ H1
theorem aev {c:Expr} {a b:List Stmt} {tc:TT} (hc:PT X c tc) (ha:Ry X a t) (hb:Ry X b u):PS X (.If c a b pos) (agw tc t u):=by
 intro pins s σ H D I h;refine wpAny_If (jq (hc pins s σ H _ I h) λd s1 ⟨H1,I1,q1⟩=>?_);cases d with
 |true=>exact ha pins s1 σ H1 D I1 q1
 |false=>exact hb pins s1 σ H1 D I1 q1
end
abbrev TG:=V->St->Hp->(St->Hp->Prop)->Prop
abbrev TGs:=List V->St->Hp->(St->Hp->Prop)->Prop
def PG (X:Cx) (target:Expr) (t:TG):Prop:=
 ∀ (pins:List (Addr×Obj)) (s:Shared) (σ:St) (H:Hp) (v:V) (u:Value) (Q:St->Hp->Prop),Inv X pins σ H s->RelV v u->t v σ H Q →
  wpAny (model X.prog X.w) X.A (assign target X.env u) (λ_ s'=>∃ σ' H',Inv X pins σ' H' s'/\Q σ' H') X.xe s
def VD (X:Cx) (ts:List Expr) (t:TGs):Prop:=
 ∀ (pins:List (Addr×Obj)) (s:Shared) (σ:St) (H:Hp) (vs:List V) (us:List Value) (Q:St->Hp->Prop),Inv X pins σ H s->Vals vs us->t vs σ H Q →
  wpAny (model X.prog X.w) X.A (assignInOrder ((assignEach ts X.env).map (·.2)) us) (λ_ s'=>∃ σ' H',Inv X pins σ' H' s'/\Q σ' H') X.xe s
section
variable {X:Cx}
def aa8 (i:Nat):TG:=λv σ H Q=>Q (σ.set i (some v)) H
theorem RD (hN:X.N.Nodup) (hi:X.N[i]?=some x) (hx:Loc X.env.scope x) (hf:X.fn x=true\/X.env.scope.names.lookup x=some .local:=by first|exact .inl rfl|exact .inr rfl|assumption):PG X (.Name x pos) (aa8 i):=by
 intro pins s σ H v u Q I r h;exact wpAny_assign_Name (xZ I hN hi hx r (λs' I'=>⟨_,H,I',h⟩) hf)
def agx:TGs:=λvs σ H Q=>vs=[]/\Q σ H
def aew (t:TG) (u:TGs):TGs:=λvs σ H Q=>∃ v r,vs=v::r/\t v σ H λσ' H'=>u r σ' H' Q
theorem Y7:VD X [] agx:=by
 intro pins s σ H vs us Q I r h;obtain⟨e,h⟩:=h;subst e;cases r;exact assignInOrder_nil ⟨σ,H,I,h⟩
theorem VF {t:TG} {u:TGs} (h1:PG X e t) (h2:VD X es u) (hs:(assignEach (e::es) X.env).map (·.2)=assign e X.env::(assignEach es X.env).map (·.2):=by rfl):VD X (e::es) (aew t u):=by
 intro pins s σ H vs us Q I r h;obtain⟨v,vr,e1,h⟩:=h;subst e1;cases r with
 |cons r rr=>
  rw[hs];refine assignInOrder_cons (jq (h1 pins s σ H _ _ _ I r h) λ_ s1 ⟨σ1,H1,I1,q1⟩=>?_);exact h2 pins s1 σ1 H1 _ _ Q I1 rr q1
def agy (K:FG_) (n:Nat) (t:TGs):TG:=λv σ H Q=>∃ a xs,v=.ref a/\xX K H a xs/\xs.length=n/\t xs σ H Q
theorem acj {t:TGs} (hc:X.calm=true) (h:VD X es t) (hn:(assignEach es X.env).length=n:=by rfl) (hst:(assignEach es X.env).findIdx? (·.1)=none:=by rfl):PG X (.Tuple es k pos) (agy X.K n t):=by
 intro pins s σ H v u Q I r hw;obtain⟨a,xs,e1,hq,hl,hw⟩:=hw;subst e1;cases r;obtain⟨its,rv,ht,hz⟩:=I.tuple hq;refine assign_Tuple_tuple (I.ok.hd hc) ht (by simp[hn,<-hl,rv.length]) hst λh' hx=>?_;have I1:Inv X pins σ H { s with heap:=h' }:=I.kept (t':=s.toks) λb o e=>hx b o (z5 (zw e)) e;exact h pins _ σ H xs _ Q I1 (by simpa using rv) hw
def aex (te:TE) (g:TG):TS:=λD σ H=>te σ H λx H1=>g x σ H1 D.nx
theorem acn {te:TE} {g:TG} (he:PE X e te) (hg:PG X tg g) (hs:swapsWithSole [tg] e pos.line X.env=pure false:=by rfl) (hw:swappedStores [tg] e X.env=pure none:=by rfl) (h1:(assignEach [tg] X.env).map (·.2)=[assign tg X.env]:=by rfl):PS X (.Assign [tg] e pos) (aex te g):=by
 intro pins s σ H D I h;refine wpAny_Assign_stores (jq (he pins s σ H _ I h) λv s1 ⟨x,H1,I1,r1,q1⟩=>?_) hs hw;rw[h1];exact jq (hg pins s1 σ H1 x v _ I1 r1 q1) λ_ s2 q=>q
theorem aco {te:TE} {pos':Pos} (hN:X.N.Nodup) (hi:X.N[i]?=some x) (hx:Loc X.env.scope x) (he:PE X e te) (hs:swapsWith e (some (.Name x pos')) pos.line X.env=pure false:=by rfl) (hf:X.fn x=true\/X.env.scope.names.lookup x=some .local:=by first|exact .inl rfl|exact .inr rfl|assumption) :
  PS X (.Assign [.Name x pos'] e pos) (aex te (aa8 i)):=by
 intro pins s σ H D I h;refine wpAny_Assign_Name (jq (he pins s σ H _ I h) λv s1 ⟨y,H1,I1,r1,q1⟩=>?_) hs;exact xZ I1 hN hi hx r1 (λs2 I2=>⟨_,H1,I2,q1⟩) hf
def agz (i j:Nat) (ta:TA):TS:=λD σ H=>ta σ H λvs H1=>∃ v w,vs=[v,w]/\D.nx ((σ.set i (some v)).set j (some w)) H1
theorem acp {a b:Expr} {ta:TA} {px py pt:Pos} {kt k2 pt2} (hc:X.calm=true) (hN:X.N.Nodup) (hi:X.N[i]?=some x) (hj:X.N[j]?=some y) (hij:i≠j) (hx:X.env.scope.names.lookup x=some .local) (hy:X.env.scope.names.lookup y=some .local) (ha:PA X [a,b] ta) (hw:swappedStores [.Tuple [.Name x px,.Name y py] kt pt] (.Tuple [a,b] k2 pt2) X.env=pure (some [x,y])) (hs:swapsWithSole [.Tuple [.Name x px,.Name y py] kt pt] (.Tuple [a,b] k2 pt2) pos.line X.env=pure false:=by rfl) :
  PS X (.Assign [.Tuple [.Name x px,.Name y py] kt pt] (.Tuple [a,b] k2 pt2) pos) (agz i j ta):=by
 intro pins s σ H D I h;rw[exec_Assign_arm];refine zb (Ki ?_);rw[hs];refine zb (zd ?_);rw[zz (by decide)];refine zb (Tuple_ (jq (ha _ pins s σ H _ I h) λus s1 ⟨vs,H1,I1,r1,q1⟩=>?_));obtain⟨v,w,e1,q1⟩:=q1;subst e1;obtain⟨u1,u2,rfl,rv,rw'⟩:∃ u1 u2,us=[u1,u2]/\RelV v u1/\RelV w u2:=by
  cases r1 with
  |cons p q=>
   cases q with
   |cons p' q'=>
    cases q';exact⟨_,_,rfl,p,p'⟩
 refine qk ?_ (by show 2<=sizeLine;decide);have I2:Inv X pins σ H1 { s1 with heap:=s1.heap.push { cls:=.type "tuple", data:=.seq [u1,u2].toArray } }:=I1.kept (t':=s1.toks) λb o e=>ze _ e;rw[hw];refine zb (zd ?_);show wpAny (model X.prog X.w) X.A (do rule "assign.swapped-stores"; let items <-unpackItems (.ref s1.heap.objs.size) 2 none;assignInOrder [λv=>bindName X.env y v,λv=>bindName X.env x v] items.reverse;pure Flow.next) _ _ _;refine zb (JO (zb (unpackItems_tuple (items:=#[u1,u2]) (I.ok.hd hc) (IsTup.new s1.heap _) λh' hx'=>?_)));have I3:=I2.kept (h':=h') (t':=s1.toks) λb o e=>hx' b o (z5 (zw e)) e;show wpAny _ _ (assignInOrder [λv=>bindName X.env y v,λv=>bindName X.env x v] [u2,u1] >>= λ_=>pure Flow.next) _ _ _;refine zb (assignInOrder_cons (wpAny_bindName (xZ I3 hN hj (.inl hy) rw' (λs2 I4=>?_) (.inr hy))));refine assignInOrder_cons (wpAny_bindName (xZ I4 hN hi (.inl hx) rv (λs3 I5=>assignInOrder_nil (zd ?_)) (.inr hx)));rw[List.set_comm _ _ (kv hij)] at I5;exact⟨_,H1,I5,q1⟩
end
structure It where
 go:Nat->Hp->Prop
 yld:Nat->Hp->V->Hp->Prop
 stop:Nat->Hp->Prop
def rz (X:Cx) (pins:List (Addr×Obj)) (H:Hp) (b:Addr):Prop:=
 H b=none/\b≠X.env.locals/\b∉X.fs/\(b∈X.ex\/X.s₀.heap.objs.size<=b)/\(∀ x c,X.env.cells.lookup x=some c->c≠b)/\∀ p∈X.pn++pins,p.1≠b
theorem Inv.TQ {X:Cx} {σ:St} {H H':Hp} {b:Addr} (I:Inv X pins σ H s) (hb:s.heap.objs.size<=b) (hn:H' b=none):rz X pins H' b:=by
 refine⟨hn,JY (Zs I.lt hb),I.agq hb,.inr (zD I.sz hb),λx c e z=>?_,λp hp z=>?_⟩
 ·obtain⟨v,q⟩:=I.cell x c e;exact absurd (Zs q.lt (by rw[z];exact hb)) (ja _)
 ·exact absurd (Zs (zw (I.pin p hp).1) (by rw[z];exact hb)) (ja _)
structure Turn (P:Program) (w:World) (K:FG_) (tg:Expr) (J:It) (fp:List Addr) (it:Addr) (tn:Nat->Heap->Prop):Prop where
 mem:it∈fp
 obj:∀ i h,tn i h->∀ b∈fp,∃ o,h.get? b=some o/\∀ v,o.data≠.cell v
 keep:∀ i h h',tn i h->(∀ b∈fp,∀ o,h.get? b=some o->h'.get? b=some o)->tn i h'
 item:∀ (X:Cx),X.prog=P->X.w=w->X.K=K->X.calm=true->∀ (i:Nat) (pins:List (Addr×Obj)) (s:Shared) (σ:St) (H:Hp) (E:VP_),Inv X pins σ H s->(∀ b∈fp,rz X pins H b)->tn i s.heap->J.go i H →
  wpAny (model P w) X.A (pyNext (.ref it)) (λr s1=>∃ u,r=some u ∧
   wpAny (model P w) X.A (letOwnedTupleGo tg (.ref it) u) (λ_ s2=>∃ x H',Inv X pins σ H' s2/\RelV x u/\J.yld i H x H'/\tn (i+1) s2.heap/\∀ b∈fp,H' b=none) E s1) E s
 done:∀ (X:Cx),X.prog=P->X.w=w->X.K=K->X.calm=true->∀ (i:Nat) (pins:List (Addr×Obj)) (s:Shared) (σ:St) (H:Hp) (E:VP_),Inv X pins σ H s->(∀ b∈fp,rz X pins H b)->tn i s.heap->J.stop i H →
  wpAny (model P w) X.A (pyNext (.ref it)) (λr s1=>r=none/\Inv X pins σ H s1) E s
 self:∀ (A:Around) (i:Nat) (s:Shared) (Q:VP_) (E:VP_),tn i s.heap->Q (.ref it) s->wpAny (model P w) A (pyIter (.ref it)) Q E s
abbrev TI:=St->Hp->(It->Hp->Prop)->Prop
def PIE (X:Cx) (pins:List (Addr×Obj)) (σ:St) (tg:Expr) (R:It->Hp->Prop) (itv:Value) (s2:Shared):Prop:=
 ∃ (it:Addr) (fp:List Addr) (tn:Nat->Heap->Prop) (J:It) (H':Hp),itv=.ref it/\Inv X pins σ H' s2/\Turn X.prog X.w X.K tg J fp it tn/\tn 0 s2.heap/\(∀ b∈fp,rz X pins H' b)/\R J H'
def PI (X:Cx) (tg iter:Expr) (wi:TI):Prop:=
 ∀ (pins:List (Addr×Obj)) (s:Shared) (σ:St) (H:Hp) (R:It->Hp->Prop),Inv X pins σ H s->wi σ H R →
  wpAny (model X.prog X.w) X.A (eval iter X.env) (λv s1=>wpAny (model X.prog X.w) X.A (pyIter v) (PIE X pins σ tg R) X.xe s1) X.xe s
theorem LQ {o:Obj} {n:String} {vs:Array Value} {Q:Unit->Shared->Prop} (ho:s.heap.get? it=some o) (hc:o.cls=.type n) (hd:o.data=.fields vs) (hn:["enumerate", "zip", "dict_itemiterator", "dict_reverseitemiterator", "odict_iterator", "itertools.zip_longest", "itertools.pairwise"].contains n=false) (hQ:Q () s):wpAny M A (letOwnedTupleGo tg (.ref it) u) Q E s:=by
 unfold letOwnedTupleGo;cases tg<;>first
  |exact zd hQ
  |(cases u<;>first
    |exact zd hQ
    |(refine zb (wpAny_load ho ?_)
      rw[hc,hd];show wpAny M A (if(["enumerate", "zip", "dict_itemiterator", "dict_reverseitemiterator", "odict_iterator", "itertools.zip_longest", "itertools.pairwise"].contains n&&vs[0]?==some (rawInt _))=true then _ else _) Q E s;rw[zz (by intro h;rw[hn,JS] at h;cases h)];exact zd hQ))
def Itl (K:FG_) (a:Addr):It:=
 ⟨λi H=>∃ xs x,rY K H a xs/\xs[i]?=some x,λi H x H'=>H'=H/\∀ xs,rY K H a xs->xs[i]?=some x,λi H=>∃ xs,rY K H a xs/\xs.length<=i⟩
def Itt (K:FG_) (a:Addr):It:=
 ⟨λi H=>∃ xs x,xX K H a xs/\xs[i]?=some x,λi H x H'=>H'=H/\∀ xs,xX K H a xs->xs[i]?=some x,λi H=>∃ xs,xX K H a xs/\xs.length<=i⟩
def Itr (lo:Int) (n:Nat):It:=⟨λi _=>i < n,λi H x H'=>H'=H/\x=.int (lo+i),λi _=>n<=i⟩
theorem TV (a it:Addr):Turn P w K tg (Itl K a) [it] it (λi h=>h.IsListIter it a i) where
 mem:=by simp
 obj:=λi h st b hb=>by
  have e:b=it:=by simpa using hb
  subst e;obtain⟨o,e,c,d⟩:=st;exact⟨o,e,λv z=>by rw[d] at z;cases z⟩
 keep:=λi h h' st k=>st.at λo e=>k it (by simp) o e
 item:=by
  intro X hP hw hK hc i pins s σ H E I hf st hg;subst hP hw hK;obtain⟨xs,x,hq,hx⟩:=hg;obtain⟨its,rv,p,hz⟩:=I.list hq;obtain⟨u,hu,ru⟩:=rv.get hx;obtain⟨f0,f1,f2,f3,f4,f5⟩:=hf it (by simp);refine wpAny_pyNext_list_item st p.isList (x:=u) (by simpa using hu) λh' st' sb=>?_;have I1:Inv X pins σ H { s with heap:=h' }:=I.turned (t':=s.toks) (λb o hb e=>(sb.2 b hb).trans e) f0 f1 f3 f4 f5;obtain⟨o,e,c,d⟩:=id st';exact⟨u,rfl,LQ (s:={ s with heap:=h' }) e c d (by decide) ⟨x,H,I1,ru,⟨rfl,λys hy=>by rw[I.CW hy hq];exact hx⟩,st',λb hb=>(hf b hb).1⟩⟩
 done:=by
  intro X hP hw hK hc i pins s σ H E I hf st hg;subst hP hw hK;obtain⟨xs,hq,hx⟩:=hg;obtain⟨its,rv,p,hz⟩:=I.list hq;obtain⟨f0,f1,f2,f3,f4,f5⟩:=hf it (by simp);have hl:=rv.length;exact wpAny_pyNext_list_end (I.ok.hd hc) st p.isList (by simp;omega) λh' eb=>⟨rfl,I.turned (t':=s.toks) (λb o hb e=>eb b o hb e) f0 f1 f3 f4 f5⟩
 self:=λ_ _ _ _ _ st h=>wpAny_pyIter_listiter st h
theorem PL (a it:Addr):Turn P w K tg (Itt K a) [it] it (λi h=>h.IsTupleIter it a i) where
 mem:=by simp
 obj:=λi h st b hb=>by
  have e:b=it:=by simpa using hb
  subst e;obtain⟨o,e,c,d⟩:=st;exact⟨o,e,λv z=>by rw[d] at z;cases z⟩
 keep:=λi h h' st k=>st.at λo e=>k it (by simp) o e
 item:=by
  intro X hP hw hK hc i pins s σ H E I hf st hg;subst hP hw hK;obtain⟨xs,x,hq,hx⟩:=hg;obtain⟨its,rv,p,hz⟩:=I.tuple hq;obtain⟨u,hu,ru⟩:=rv.get hx;obtain⟨f0,f1,f2,f3,f4,f5⟩:=hf it (by simp);refine wpAny_pyNext_tuple_item st (show s.heap.IsTuple a its.toArray from p) (x:=u) (by simpa using hu) λh' st' sb=>?_;have I1:Inv X pins σ H { s with heap:=h' }:=I.turned (t':=s.toks) (λb o hb e=>(sb.2 b hb).trans e) f0 f1 f3 f4 f5;obtain⟨o,e,c,d⟩:=id st';exact⟨u,rfl,LQ (s:={ s with heap:=h' }) e c d (by decide) ⟨x,H,I1,ru,⟨rfl,λys hy=>by rw[I.Hz hy hq];exact hx⟩,st',λb hb=>(hf b hb).1⟩⟩
 done:=by
  intro X hP hw hK hc i pins s σ H E I hf st hg;subst hP hw hK;obtain⟨xs,hq,hx⟩:=hg;obtain⟨its,rv,p,hz⟩:=I.tuple hq;obtain⟨f0,f1,f2,f3,f4,f5⟩:=hf it (by simp);have hl:=rv.length;exact wpAny_pyNext_tuple_end (I.ok.hd hc) st (show s.heap.IsTuple a its.toArray from p) (by simp;omega) λh' eb=>⟨rfl,I.turned (t':=s.toks) (λb o hb e=>eb b o hb e) f0 f1 f3 f4 f5⟩
 self:=λ_ _ _ _ _ st h=>wpAny_pyIter_tupleiter st h
theorem PN (it:Addr) (lo:Int) (n:Nat):Turn P w K tg (Itr lo n) [it] it (λi h=>IsRangeIter h it (lo+(i:Nat) * 1) ((n:Int) - (i:Nat)) 1) where
 mem:=by simp
 obj:=λi h st b hb=>by
  have e:b=it:=by simpa using hb
  subst e;exact⟨_,st,λv z=>by
   have z':Data.fields _=Data.cell v:=z;cases z'⟩
 keep:=λi h h' st k=>k it (by simp) _ st
 item:=by
  intro X hP hw hK hc i pins s σ H E I hf st hg;subst hP hw hK;obtain⟨f0,f1,f2,f3,f4,f5⟩:=hf it (by simp);have W:=Walks.range (prog:=X.prog) (w:=X.w) (I.ok.hd hc) it lo 1 n;refine W.item i s _ _ hg st λv h' tk hv st' kk=>?_;obtain⟨t,rfl⟩:=hv;have I1:Inv X pins σ H { s with heap:=h',toks:=tk }:=I.turned (λb o hb e=>kk b o (by simpa using hb) e) f0 f1 f3 f4 f5;refine⟨_,rfl,LQ (s:={ s with heap:=h',toks:=tk }) (n := "range_iterator") st' rfl rfl (by decide) ⟨.int (lo+i),H,I1,⟨t,?_⟩,⟨rfl,rfl⟩,st',λb hb=>(hf b hb).1⟩⟩;rw[Int.mul_one]
 done:=by
  intro X hP hw hK hc i pins s σ H E I hf st hg;subst hP hw hK;obtain⟨f0,f1,f2,f3,f4,f5⟩:=hf it (by simp);exact wpAny_pyNext_range_end (I.ok.hd hc) st (by have:n<=i:=hg;omega) λh' eb=>⟨rfl,I.turned (t':=s.toks) (λb o hb e=>eb b o hb e) f0 f1 f3 f4 f5⟩
 self:=λ_ _ _ _ _ st h=>wpAny_pyIter_rangeiter st h
end L2
namespace L2
section
variable {X:Cx}
theorem VG {σ:St} {H:Hp} {R:It->Hp->Prop} {lo hi:Int} {t u v:Tok} {tk:Nat} (I:Inv X pins σ H s) (h1 : -(2 ^ 62)<=lo) (h2:lo < 2 ^ 62) (h3 : -(2 ^ 62)<=hi) (h4:hi < 2 ^ 62) (q:R (Itr lo (hi - lo).toNat) H):wpAny (model X.prog X.w) X.A (pyIter (.ref s.heap.objs.size)) (PIE X pins σ tg R) E { s with heap:=s.heap.push { cls:=.type "range", data:=.fields #[.int lo t,.int hi u,.int 1 v] },toks:=tk }:=by
 refine wpAny_pyIter_range (IsRange.new ..) (small_one h1 h2 h3 h4) ?_;have I1:Inv X pins σ H { s with heap:=s.heap.push { cls:=.type "range", data:=.fields #[.int lo t,.int hi u,.int 1 v] },toks:=tk }:=I.kept λb o e=>ze _ e;refine⟨(s.heap.push { cls:=.type "range", data:=.fields #[.int lo t,.int hi u,.int 1 v] }).objs.size,[(s.heap.push { cls:=.type "range", data:=.fields #[.int lo t,.int hi u,.int 1 v] }).objs.size],_,_,H,rfl,
  I1.kept (t':=tk) λb o e=>ze _ e,PN _ lo (hi - lo).toNat,?_,λb hb=>?_,q⟩
 ·have e1:lo+((0:Nat):Int) * 1=lo:=by simp
  have e2:(((hi - lo).toNat:Nat):Int) - ((0:Nat):Int)=Builtin.Range.rangeSize lo hi 1:=by rw[rangeSize_one];split<;>omega
  show IsRangeIter _ _ (lo+((0:Nat):Int) * 1) ((((hi - lo).toNat:Nat):Int) - ((0:Nat):Int)) 1;rw[e1,e2];exact zv _ rfl
 ·have e:b=(s.heap.push { cls:=.type "range", data:=.fields #[.int lo t,.int hi u,.int 1 v] }).objs.size:=by simpa using hb
  subst e;exact I1.TQ (zi _) (I1.hok.fresh (zi _))
def aey (ta:TA):TI:=λσ H R=>ta σ H λvs H1=>∃ j:Int,vs=[.int j] ∧ -(2 ^ 62)<=j/\j < 2 ^ 62/\R (Itr 0 j.toNat) H1
theorem TX {a:Expr} {ta:TA} {p:Pos} (hg:Gl X "range") (hm:X.mg "range" = none) (ha:PA X [a] ta) (hs:starEach [a] X.env=[(false,eval a X.env)]:=by rfl):PI X tg (.Call (.Name "range" p) [a] [] pos) (aey ta):=by
 intro pins s σ H R I h;refine Call_ (CT I hg hm boot_range (PyProof.Rows.callWith_type1 (jq (ha pos pins s σ H _ I h) λus s1 ⟨vs,H1,I1,r1,q1⟩=>?_) hs rfl));obtain⟨j,e,q1,q2,q⟩:=q1;subst e;cases r1 with
 |cons r rr=>
  cases rr;obtain⟨t,rfl⟩:=r;exact call_range_1 (VG I1 (by omega) (by omega) q1 q2 (by simpa using q))
def agC (wi:TI) (g:TG) (tb:TS):TS:=λD σ H=>wi σ H λJ H1=>∃ W:Nat->Nat->St->Hp->Prop,(∃ m,W 0 m σ H1)/\∀ i m σ H,W i m σ H →
 (J.stop i H/\D.nx σ H)\/(J.go i H/\∃ N:St->Hp->Prop,(∀ σ' H',N σ' H'->∃ m',m' < m/\W (i+1) m' σ' H')/\∀ x H',J.yld i H x H'->g x σ H' λσ2 H2=>tb { D with nx:=N,ct:=N,bk:=D.nx } σ2 H2)
def zx (fp:List Addr) (h:Heap):List (Addr×Obj):=fp.filterMap λb=>(h.get? b).map λo=>(b,o)
theorem rZ {b:Addr} {o:Obj} (hb:b∈fp) (e:h.get? b=some o):(b,o)∈zx fp h:=List.mem_filterMap.mpr ⟨b,hb,by rw[e];rfl⟩
theorem TY {p:Addr×Obj} (hp:p∈zx fp h):p.1∈fp/\h.get? p.1=some p.2:=by
 obtain⟨b,hb,e⟩:=List.mem_filterMap.mp hp;cases q:h.get? b with
 |none=>rw[q] at e;cases e
 |some o=>
  rw[q] at e;have e':(b,o)=p:=Q3 e;subst e';exact⟨hb,q⟩
theorem Inv.pinned {σ:St} {H:Hp} (I:Inv X pins σ H s) (hf:∀ b∈fp,rz X pins H b) (ho:∀ b∈fp,∃ o,s.heap.get? b=some o/\∀ v,o.data≠.cell v):Inv X (pins++zx fp s.heap) σ H s:=
 I.Js λp hp=>(List.mem_append.mp hp).elim (λz=>I.pin p (ZO _ z)) λz=>by
  obtain⟨hb,e⟩:=TY z;obtain⟨f0,f1,f2,_⟩:=hf p.1 hb;obtain⟨o,e',d⟩:=ho p.1 hb;rw[e] at e';cases e';exact⟨e,f0,f1,f2,d⟩
theorem Inv.uO {pl:List (Addr×Obj)} {σ:St} {H:Hp} (I:Inv X (pins++pl) σ H s):Inv X pins σ H s:=I.Js λp hp=>I.pin p (ZO _ (List.mem_append_left _ hp))
theorem acr {wi:TI} {g:TG} {tb:TS} (hp:PassesOwn (model X.prog X.w) X.A X.env X.xe) (hc:X.calm=true) (hi:PI X tg iter wi) (hg:PG X tg g) (hb:Ry X body tb) (hs:∀ x,foldedSetIterable iter X.env x=pure x:=by intro _;rfl):PS X (.For tg iter body [] pos) (agC wi g tb):=by
 intro pins s σ H D I h;refine wpAny_For (jq (hi pins s σ H _ I h) λv s1 h1=>jq h1 λitv s2 h2=>?_) hs;obtain⟨it,fp,tn,J,H2,e,I2,T,st2,f2,W,⟨m0,w0⟩,turn⟩:=h2;subst e;have stat:∀ {H':Hp},(∀ b∈fp,H' b=none)->∀ b∈fp,rz X pins H' b:=λhn b hb=>⟨hn b hb,(f2 b hb).2⟩;refine codeAny_forLoop_any (λn s'=>∃ i σ' H',Inv X pins σ' H' s'/\tn i s'.heap/\(∀ b∈fp,H' b=none)/\W i n σ' H') ?_ m0 ⟨0,σ,H2,I2,st2,λb hb=>(f2 b hb).1,w0⟩;rintro n s3 ⟨i,σ3,H3,I3,st3,fr3,w3⟩;rcases turn i n σ3 H3 w3 with⟨stop,qn⟩|⟨go,N,hN,step⟩
 ·refine kC hp (jq (T.done X rfl rfl rfl hc i pins s3 σ3 H3 X.xe I3 (stat fr3) st3 stop) λr s4 ⟨hr,I4⟩=>?_);subst hr;exact wpAny_execs_nil ⟨σ3,H3,I4,qn⟩
 ·refine kC hp (jq (T.item X rfl rfl rfl hc i pins s3 σ3 H3 X.xe I3 (stat fr3) st3 go) λr s4 ⟨u,hr,h4⟩=>?_);subst hr;refine kC hp (jq h4 λ_ s5 ⟨x,H5,I5,r5,y5,st5,fr5⟩=>?_);have I5':=I5.pinned (stat fr5) (T.obj _ _ st5);refine kC hp (jq (hg _ s5 σ3 H5 x u _ I5' r5 (step x H5 y5)) λ_ s6 ⟨σ6,H6,I6,q6⟩=>?_);refine kC hp (jq (hb _ s6 σ6 H6 _ I6 q6) λf s7 q7=>?_);have again:∀ {σ7:St} {H7:Hp},Inv X (pins++zx fp s5.heap) σ7 H7 s7->N σ7 H7->∃ m,m < n/\∃ i σ' H',Inv X pins σ' H' s7/\tn i s7.heap/\(∀ b∈fp,H' b=none)/\W i m σ' H':=λ{σ7 H7} I7 n7=>by
   obtain⟨m',hm,w7⟩:=hN σ7 H7 n7;refine⟨m',hm,i+1,σ7,H7,I7.uO,T.keep _ _ _ st5 λb hb o e=>(I7.pin (b,o) (ZO _ (ZO _ (rZ hb e)))).1,λb hb=>?_,w7⟩;obtain⟨o,e,d⟩:=T.obj _ _ st5 b hb;exact(I7.pin (b,o) (ZO _ (ZO _ (rZ hb e)))).2.1
  cases f with
  |next=>obtain⟨σ7,H7,I7,n7⟩:=q7;exact again I7 n7
  |cont=>obtain⟨σ7,H7,I7,n7⟩:=q7;exact again I7 n7
  |brk=>obtain⟨σ7,H7,I7,q7⟩:=q7;exact⟨σ7,H7,I7.uO,q7⟩
  |ret v=>obtain⟨x7,σ7,H7,I7,r7,q7⟩:=q7;exact⟨x7,σ7,H7,I7.uO,r7,q7⟩
end
end L2
namespace L2
abbrev R2:=V->V->Hp->VK->Prop
def uL (X:Cx) (f:Value->Value->Sem Value) (r:R2):Prop:=
 ∀ (pins:List (Addr×Obj)) (s:Shared) (σ:St) (H:Hp) (x y:V) (v u:Value) (Q:VK),Inv X pins σ H s->RelV x v->RelV y u->r x y H Q →
  wpAny (model X.prog X.w) X.A (f v u) (EP X pins σ Q) X.xe s
def UnR (X:Cx) (f:Value->Sem Value) (r:V->Hp->VK->Prop):Prop:=
 ∀ (pins:List (Addr×Obj)) (s:Shared) (σ:St) (H:Hp) (x:V) (v:Value) (Q:VK),Inv X pins σ H s->RelV x v->r x H Q →
  wpAny (model X.prog X.w) X.A (f v) (EP X pins σ Q) X.xe s
def fj (X:Cx) (f:Value) (r:List V->Hp->VK->Prop):Prop:=
 ∀ (pins:List (Addr×Obj)) (s:Shared) (σ:St) (H:Hp) (xs:List V) (us:List Value) (Q:VK),Inv X pins σ H s->Vals xs us->r xs H Q →
  wpAny (model X.prog X.w) X.A (call f us) (EP X pins σ Q) X.xe s
def agE (X:Cx) (r:V->Hp->(Bool->Hp->Prop)->Prop):Prop:=
 ∀ (pins:List (Addr×Obj)) (s:Shared) (σ:St) (H:Hp) (x:V) (v:Value) (Q:Bool->Hp->Prop),Inv X pins σ H s->RelV x v->r x H Q →
  wpAny (model X.prog X.w) X.A (truthy v) (TP X pins σ Q) X.xe s
def tOp (r:R2) (ta tb:TE):TE:=λσ H Q=>ta σ H λx H1=>tb σ H1 λy H2=>r x y H2 Q
def tUn (r:V->Hp->VK->Prop) (ta:TE):TE:=λσ H Q=>ta σ H λx H1=>r x H1 Q
def rI (C:Int->Int->Prop) (g:Int->Int->V):R2:=λx y H Q=>∃ i j,x=.int i/\y=.int j/\C i j/\Q (g i j) H
def rI0 (g:Int->Int->V):R2:=λx y H Q=>∃ i j,x=.int i/\y=.int j/\Q (g i j) H
def rU (g:Int->V):V->Hp->VK->Prop:=λx H Q=>∃ i,x=.int i/\Q (g i) H
section
variable {X:Cx} {a b c:Expr} {ta tb tc:TE}
theorem acs (ha:PE X a ta) (hb:PE X b tb) {σ:St} {H:Hp} {R:V->V->Hp->Prop} (I:Inv X pins σ H s) (h:ta σ H λx H1=>tb σ H1 λy H2=>R x y H2) {Q:VP_} {f:Value->Value->Sem Value} (hf:∀ v u s2 x y H2,Inv X pins σ H2 s2->RelV x v->RelV y u->R x y H2->wpAny (model X.prog X.w) X.A (f v u) Q X.xe s2) :
  wpAny (model X.prog X.w) X.A (eval a X.env) (λv s₁=>wpAny (model X.prog X.w) X.A (eval b X.env) (λu s₂=>wpAny (model X.prog X.w) X.A (f v u) Q X.xe s₂) X.xe s₁) X.xe s:=by
 refine jq (ha pins s σ H _ I h) λv s1 ⟨x,H1,I1,r1,q1⟩=>?_;refine jq (hb pins s1 σ H1 _ I1 q1) λu s2 ⟨y,H2,I2,r2,q2⟩=>?_;exact hf v u s2 x y H2 I2 r1 r2 q2
theorem aeA {op:Operator} {r:R2} (ho:uL X (binaryOp op) r) (ha:PE X a ta) (hb:PE X b tb):PE X (.BinOp a op b pos) (tOp r ta tb):=by
 intro pins s σ H Q I h;exact wpAny_BinOp (acs ha hb I h λv u s2 x y H2 I2 rx ry q=>ho pins s2 σ H2 x y v u Q I2 rx ry q)
theorem aeB {op:UnaryOp} {r:V->Hp->VK->Prop} (ho:UnR X (unaryOp op) r) (ha:PE X a ta):PE X (.UnaryOp op a pos) (tUn r ta):=by
 intro pins s σ H Q I h;exact UnaryOp_ (jq (ha pins s σ H _ I h) λv s1 ⟨x,H1,I1,r1,q1⟩=>ho pins s1 σ H1 x v Q I1 r1 q1)
theorem opI {f:Value->Value->Sem Value} {C:Int->Int->Prop} {g:Int->Int->Int}
  (rule:∀ (i j:Int) (t u:Tok) (s:Shared) (Q:VP_) (E:VP_),C i j->Q (.int (g i j) s.toks) { s with toks:=s.toks+1 }->wpAny (model X.prog X.w) X.A (f (.int i t) (.int j u)) Q E s) :
  uL X f (rI C λi j=>.int (g i j)):=by
 intro pins s σ H x y v u Q I rx ry h;obtain⟨i,j,rfl,rfl,hc,q⟩:=h;obtain⟨t,rfl⟩:=rx;obtain⟨t',rfl⟩:=ry;exact rule i j t t' s _ _ hc ⟨.int (g i j),H,I.tok _,⟨_,rfl⟩,q⟩
theorem aeC {f:Value->Value->Sem Value} {g:Int->Int->Int}
  (rule:∀ (i j:Int) (t u:Tok) (s:Shared) (Q:VP_) (E:VP_),Q (.int (g i j) s.toks) { s with toks:=s.toks+1 }->wpAny (model X.prog X.w) X.A (f (.int i t) (.int j u)) Q E s) :
  uL X f (rI0 λi j=>.int (g i j)):=by
 intro pins s σ H x y v u Q I rx ry h;obtain⟨i,j,rfl,rfl,q⟩:=h;obtain⟨t,rfl⟩:=rx;obtain⟨t',rfl⟩:=ry;exact rule i j t t' s _ _ ⟨.int (g i j),H,I.tok _,⟨_,rfl⟩,q⟩
theorem Y8 {f:Value->Value->Sem Value} {g:Int->Int->Bool}
  (rule:∀ (i j:Int) (t u:Tok) (s:Shared) (Q:VP_) (E:VP_),Q (.bool (g i j)) s->wpAny (model X.prog X.w) X.A (f (.int i t) (.int j u)) Q E s) :
  uL X f (rI0 λi j=>.bl (g i j)):=by
 intro pins s σ H x y v u Q I rx ry h;obtain⟨i,j,rfl,rfl,q⟩:=h;obtain⟨t,rfl⟩:=rx;obtain⟨t',rfl⟩:=ry;exact rule i j t t' s _ _ ⟨.bl (g i j),H,I,rfl,q⟩
def agF (i j:Int):Prop:=0 < j/\j < 1073741824
def agG (i j:Int):Prop:=0<=j/\j<=1000000/\i.natAbs < 2 ^ 64
def acu (i j:Int):Prop:=(-(2 ^ 64) < i/\i < 2 ^ 64)\/(-(2 ^ 64) < j/\j < 2 ^ 64)
theorem acu.ok {i j:Int} (h:acu i j):IntMulOk i j:=by
 rcases h with⟨h1,h2⟩|⟨h1,h2⟩
 ·exact .of_left (intBits_le_64 h1 h2)
 ·exact .of_right (intBits_le_64 h1 h2)
theorem acv:uL X (binaryOp .Add) (rI0 λi j=>.int (i+j)):=aeC λ_ _ _ _ _ _ _ q=>add_int q
theorem acw:uL X (binaryOp .Sub) (rI0 λi j=>.int (i - j)):=aeC λ_ _ _ _ _ _ _ q=>sub_int q
theorem acy:uL X (binaryOp .Mult) (rI acu λi j=>.int (i * j)):=opI λ_ _ _ _ _ _ _ hc q=>mul_int q hc.ok
theorem Y9:uL X (binaryOp .FloorDiv) (rI agF λi j=>.int (i / j)):=opI λi j _ _ _ _ _ hc q=>by
 have h1:(0:Int) < j:=hc.1;have h2:j < 1073741824:=hc.2;exact floordiv_int (by omega) (by rw[Int.fdiv_eq_ediv_of_nonneg i (by omega)];exact q) (.inl (PyProof.noPylong_small (by omega)))
theorem acz:uL X (binaryOp .Mod) (rI (λ_ j=>0 < j) λi j=>.int (i % j)):=opI λi j _ _ _ _ _ hc q=>by
 have h1:(0:Int) < j:=hc;exact mod_int' (by omega) (by rw[Int.fmod_eq_emod_of_nonneg i (by omega)];exact q)
theorem acA:uL X (binaryOp .Pow) (rI agG λi j=>.int (i ^ j.toNat)):=opI λ_ _ _ _ _ _ _ hc q=>pow_int_small hc.1 hc.2.1 hc.2.2 q
theorem unI {f:Value->Sem Value} {g:Int->Int}
  (rule:∀ (i:Int) (t:Tok) (s:Shared) (Q:VP_) (E:VP_),Q (.int (g i) s.toks) { s with toks:=s.toks+1 }->wpAny (model X.prog X.w) X.A (f (.int i t)) Q E s) :
  UnR X f (rU λi=>.int (g i)):=by
 intro pins s σ H x v Q I rx h;obtain⟨i,rfl,q⟩:=h;obtain⟨t,rfl⟩:=rx;exact rule i t s _ _ ⟨.int (g i),H,I.tok _,⟨_,rfl⟩,q⟩
theorem acB:UnR X (unaryOp .USub) (rU λi=>.int (-i)):=unI λ_ _ _ _ _ q=>neg_int q
theorem PX {σ:St} {H:Hp} {Q:VK} {k k':Bool} (I:Inv X pins σ H s) (q:Q (.bl k) H) (e:k=k'):EP X pins σ Q (.bool k') s:=by
 subst e;exact⟨.bl k,H,I,rfl,q⟩
theorem aeD:uL X (compareOp .Lt) (rI0 λi j=>.bl (decide (i < j))):=Y8 λ_ _ _ _ _ _ _ q=>lt_int q
theorem aeE:uL X (compareOp .LtE) (rI0 λi j=>.bl (decide (i<=j))):=Y8 λ_ _ _ _ _ _ _ q=>le_int q
theorem aeF:uL X (compareOp .Gt) (rI0 λi j=>.bl (decide (j < i))):=Y8 λ_ _ _ _ _ _ _ q=>gt_int q
theorem aeG:uL X (compareOp .GtE) (rI0 λi j=>.bl (decide (j<=i))):=Y8 λ_ _ _ _ _ _ _ q=>ge_int q
theorem T3:uL X (compareOp .In) (λx y H Q=>∃ i j,x=.str i/\y=.str j/\Q (.bl (!(Builtin.Str.occurrences j i 0 j.length 1).isEmpty)) H):=by
 intro pins s σ H x y v u Q I rx ry h;obtain⟨i,j,rfl,rfl,q⟩:=h;obtain⟨t,rfl⟩:=rx;obtain⟨t',rfl⟩:=ry;exact in_str (PX I q rfl)
theorem acC:uL X (compareOp .Is) (λx y H Q=>y=.non/\Q (.bl (decide (x=.non))) H):=by
 intro pins s σ H x y v u Q I rx ry h;obtain⟨rfl,q⟩:=h;cases ry;refine is_none_gen (PX I q ?_);cases x<;>first
  |(cases rx;rfl)
  |(obtain⟨t,rfl⟩:=rx;rfl)
theorem Za:uL X (compareOp .IsNot) (λx y H Q=>y=.non/\Q (.bl (!decide (x=.non))) H):=by
 intro pins s σ H x y v u Q I rx ry h;obtain⟨rfl,q⟩:=h;cases ry;refine isnot_none_gen (PX I q ?_);cases x<;>first
  |(cases rx;rfl)
  |(obtain⟨t,rfl⟩:=rx;rfl)
theorem cM (b:Expr) (h:op≠.In:=by decide) (h2:op≠.NotIn:=by decide):behindInMarks op b=false:=by
 have e1:(op==CmpOp.In)=false:=by cases op<;>first|rfl|exact absurd rfl h
 have e2:(op==CmpOp.NotIn)=false:=by cases op<;>first|rfl|exact absurd rfl h2
 cases b<;>simp[behindInMarks,e1,e2]
theorem Zb {r:R2} (ho:uL X (compareOp op) r) (ha:PE X a ta) (hb:PE X b tb) (hm:behindInMarks op b=false):PE X (.Compare a [op] [b] pos) (tOp r ta tb):=by
 intro pins s σ H Q I h;exact wpAny_Compare1 (acs ha hb I h λv u s2 x y H2 I2 rx ry q=>ho pins s2 σ H2 x y v u Q I2 rx ry q) hm
def abe (t:TE):TT:=λσ H Q=>t σ H λx H'=>∃ k,x=.bl k/\Q k H'
theorem Zc {r:R2} (ho:uL X (compareOp op) r) (ha:PE X a ta) (hb:PE X b tb) (hm:behindInMarks op b=false):PT X (.Compare a [op] [b] pos) (abe (tOp r ta tb)):=by
 intro pins s σ H Q I h;refine wpAny_isTrue_Compare1 (jq (ha pins s σ H _ I h) λv s1 ⟨x,H1,I1,r1,q1⟩=>jq (hb pins s1 σ H1 _ I1 q1) λu s2 ⟨y,H2,I2,r2,q2⟩=>
  jq (ho pins s2 σ H2 x y v u _ I2 r1 r2 q2) λc s3 ⟨z,H3,I3,r3,k,e,q3⟩=>?_) hm
 subst e;cases r3;exact qi ⟨H3,I3,q3⟩
def Qa (r r':R2) (ta tb tc:TE):TE:=λσ H Q=>ta σ H λx H1=>tb σ H1 λy H2=>r x y H2 λz H3=>∃ k,z=.bl k ∧
 (if k=true then tc σ H3 λw' H4=>r' y w' H4 Q else Q (.bl false) H3)
theorem VH {op':CmpOp} {r r':R2} (ho:uL X (compareOp op) r) (ho':uL X (compareOp op') r') (ha:PE X a ta) (hb:PE X b tb) (hc:PE X c tc) (hm:lastMarks [op,op'] [b,c]=false:=by with_unfolding_all rfl):PE X (.Compare a [op,op'] [b,c] pos) (Qa r r' ta tb tc):=by
 intro pins s σ H Q I h;refine Compare_chain (jq (ha pins s σ H _ I h) λv s1 ⟨x,H1,I1,r1,q1⟩=>chain_link (jq (hb pins s1 σ H1 _ I1 q1) λu s2 ⟨y,H2,I2,r2,q2⟩=>
  jq (ho pins s2 σ H2 x y v u _ I2 r1 r2 q2) λd s3 ⟨z,H3,I3,r3,k,e,q3⟩=>?_)) hm
 subst e;cases r3;refine qi ?_;cases k with
 |false=>exact ite_ff ⟨.bl false,H3,I3,rfl,q3⟩
 |true=>exact ite_tt (chain_last (jq (hc pins s3 σ H3 _ I3 q3) λw' s4 ⟨z',H4,I4,r4,q4⟩=>ho' pins s4 σ H4 y z' u w' Q I4 r2 r4 q4))
theorem VJ {op':CmpOp} {r r':R2} (ho:uL X (compareOp op) r) (ho':uL X (compareOp op') r') (ha:PE X a ta) (hb:PE X b tb) (hc:PE X c tc) (hm:lastMarks [op,op'] [b,c]=false:=by with_unfolding_all rfl):PT X (.Compare a [op,op'] [b,c] pos) (abe (Qa r r' ta tb tc)):=by
 intro pins s σ H Q I h;refine isTrue_chain (jq (ha pins s σ H _ I h) λv s1 ⟨x,H1,I1,r1,q1⟩=>test_link (jq (hb pins s1 σ H1 _ I1 q1) λu s2 ⟨y,H2,I2,r2,q2⟩=>
  jq (ho pins s2 σ H2 x y v u _ I2 r1 r2 q2) λd s3 ⟨z,H3,I3,r3,k,e,q3⟩=>?_)) hm
 subst e;cases r3;refine qi ?_;cases k with
 |false=>
  obtain⟨k',e',q'⟩:=q3;cases e';exact ite_ff ⟨H3,I3,q'⟩
 |true=>
  refine ite_tt (test_last (jq (hc pins s3 σ H3 _ I3 q3) λw' s4 ⟨z',H4,I4,r4,q4⟩=>jq (ho' pins s4 σ H4 y z' u w' _ I4 r2 r4 q4) λd' s5 ⟨z2,H5,I5,r5,k2,e2,q5⟩=>?_));subst e2;cases r5;exact qi ⟨H5,I5,q5⟩
def acD (K:FG_) (x:V) (H:Hp) (k:Bool):Prop:=
 match x with
 |.non=>k=false
 |.bl b=>k=b
 |.int i=>k=(i != 0)
 |.str y=>y.length<=sizeLine/\k=((y.length:Int) != 0)
 |.byt y=>y.size<=sizeLine/\k=((y.size:Int) != 0)
 |.ref p=>(∃ xs,rY K H p xs/\k=!xs.isEmpty)\/(∃ xs,xX K H p xs/\k=!xs.isEmpty)\/∃ kvs,H p=some (.dK kvs)/\k=!kvs.isEmpty
 |_=>False
theorem Qc {kvs:List (κ×V)} {vs:List (κ×Value)} (r:KV kvs vs):(!vs.isEmpty)=!kvs.isEmpty:=by
 cases r<;>rfl
theorem CZ {xs:List V} (r:Vals xs its):(!its.toArray.isEmpty)=!xs.isEmpty:=by
 cases r<;>simp
theorem zy:(sizeLine:Nat) < 2 ^ 63:=by rw[sizeLine_eq];decide
theorem VL:agE X (λx H Q=>∃ k,acD X.K x H k/\Q k H):=by
 intro pins s σ H x v Q I rx h;obtain⟨k,e,q⟩:=h;have hl:=zy;have hs:sizeLine=16777216:=sizeLine_eq;cases x with
 |non=>
  cases rx;have e':k=false:=e;subst e';exact truthy_none ⟨H,I,q⟩
 |bl b=>
  cases rx;have e':k=b:=e;subst e';exact qi ⟨H,I,q⟩
 |int i=>
  obtain⟨t,rfl⟩:=rx;have e':k=(i != 0):=e;subst e';exact PySem.P.truthy_int ⟨H,I,q⟩
 |str y=>
  obtain⟨t,rfl⟩:=rx;obtain⟨hy,e'⟩:y.length<=sizeLine/\k=((y.length:Int) != 0):=e;subst e';exact PySem.P.truthy_str (by omega) ⟨H,I.tok _,q⟩
 |byt y=>
  obtain⟨t,rfl⟩:=rx;obtain⟨hy,e'⟩:y.size<=sizeLine/\k=((y.size:Int) != 0):=e;subst e';exact PySem.W.truthy_bytes (by omega) ⟨H,I.tok _,q⟩
 |ref p=>
  cases rx;have e':(∃ xs,rY X.K H p xs/\k=!xs.isEmpty)\/(∃ xs,xX X.K H p xs/\k=!xs.isEmpty)\/∃ kvs,H p=some (.dK kvs)/\k=!kvs.isEmpty:=e;rcases e' with⟨xs,hx,e'⟩|⟨xs,hx,e'⟩|⟨kvs,hx,e'⟩
  ·subst e';obtain⟨its,r,pl,hz⟩:=I.list hx;have hlen:=r.length;exact wpAny_truthy_list pl.isList (by simp only[zt];omega) ⟨H,I.tok _,by rw[CZ r];exact q⟩
  ·subst e';obtain⟨its,r,pl,hz⟩:=I.tuple hx;have hlen:=r.length;exact truthy_tuple pl (by simp only[zt];omega) ⟨H,I.tok _,by rw[CZ r];exact q⟩
  ·subst e';obtain⟨hz,hS,vs,r,m⟩:kvs.length<=sizeLine/\(p==sysModules)=false/\∃ vs,KV kvs vs/\s.heap.DictOf (cH X.prog X.w) p vs:=I.hok p _ hx;have hlen:kvs.length=vs.length:=Paired.length r;exact wpAny_truthy_dict hS m (by omega) ⟨H,I.tok _,by rw[Qc r];exact q⟩
 |_=>exact(show False from e).elim
theorem VN (ha:PE X a ta) (he:∀ whole,isTrue a X.env whole=(do let v <-whole;standAt a.pos;holding [v] (truthy v))) :
  PT X a (λσ H Q=>ta σ H λx H'=>∃ k,acD X.K x H' k/\Q k H'):=by
 intro pins s σ H Q I h;exact isTrue_plain (jq (ha pins s σ H _ I h) λv s1 ⟨x,H1,I1,r1,q1⟩=>VL pins s1 σ H1 x v Q I1 r1 q1) (he _)
theorem Qd:uL X (binaryOp .Add) (λx y H Q=>∃ i j,x=.str i/\y=.str j/\i.length+j.length<=sizeLine/\Q (.str (i++j)) H):=by
 intro pins s σ H x y v u Q I rx ry h;obtain⟨i,j,rfl,rfl,hz,q⟩:=h;obtain⟨t,rfl⟩:=rx;obtain⟨t',rfl⟩:=ry;exact add_str (λt' tk=>⟨.str (i++j),H,I.tok _,⟨_,rfl⟩,q⟩) hz
theorem vals1 {x:V} (r:Vals [x] us):∃ u,us=[u]/\RelV x u:=by
 cases r with
 |cons r1 r2=>cases r2;exact⟨_,rfl,r1⟩
theorem vals2 {x y:V} (r:Vals [x,y] us):∃ u w',us=[u,w']/\RelV x u/\RelV y w':=by
 cases r with
 |cons r1 r2=>
  cases r2 with
  |cons r3 r4=>cases r4;exact⟨_,_,rfl,r1,r3⟩
theorem VP:fj X (.builtin "abs") (λxs H Q=>∃ i,xs=[.int i]/\Q (.int (if i < 0 then -i else i)) H):=by
 intro pins s σ H xs us Q I r h;obtain⟨i,rfl,q⟩:=h;obtain⟨u,rfl,t,rfl⟩:=vals1 r;exact call_abs_int λu tk=>⟨.int (if i < 0 then -i else i),H,I.tok _,⟨_,rfl⟩,q⟩
theorem T4:fj X (.type "int") (λxs H Q=>(∃ i,xs=[.int i]/\Q (.int i) H)\/∃ k,xs=[.bl k]/\Q (.int (if k then 1 else 0)) H):=by
 intro pins s σ H xs us Q I r h;rcases h with⟨i,rfl,q⟩|⟨k,rfl,q⟩
 ·obtain⟨u,rfl,t,rfl⟩:=vals1 r;exact call_int_int ⟨.int i,H,I,⟨_,rfl⟩,q⟩
 ·obtain⟨u,rfl,r1⟩:=vals1 r;cases r1;exact call_int_bool ⟨.int (if k then 1 else 0),H,I.tok _,⟨_,rfl⟩,q⟩
end
end L2
namespace L2
structure agH (h:Heap) (x dx C:Addr) (mA:Str->Option Value):Prop where
 obj:h.get? x=some (instObj C dx)
 ns:h.Ns1 dx mA
 ne:dx≠x
section
variable {x dx f:Addr} {mA:Str->Option Value}
end
section
variable {H H':Hp} {h':Heap} {dx:Addr} {fs fs':List (Str×V)}
theorem Ca (hok:Ae P w H h) (e:H a=some (.ins C dx fs)):∃ mA,agH h a dx C mA/\(∀ f,ab0 (fs.lookup f) (mA f))/\PySem.Within mA (fs.map (·.1))/\fs.length<=1000/\H dx=some (.own a):=by
 obtain⟨d,z,ne,ob,mA,n,r,q⟩:=(show jP P w H h a (.ins C dx fs) from hok a _ e);exact⟨mA,⟨ob,n,ne⟩,r,q,z,d⟩
end
section
variable {X:Cx} {σ:St} {H:Hp} {dx:Addr} {fs:List (Str×V)} {f:Str} {v:V}
end
section
variable {X:Cx} {o value:Expr} {f:Str} {pos':Pos} {ta tv:TE}
end
section
variable {X:Cx} {σ:St} {H:Hp} {Q:VP_} {c:Value} {b:Bool}
end
end L2
namespace L2
structure oM (k:Nat) (A:Around):Prop where
 hd:A.handled=none
 dp:A.depth+3 * k+5 < recursionLimit
 un:A.units+16 * k+200 < cLine
theorem oM.mono (r:oM k A) (h:j<=k):oM j A:=⟨r.hd,by have:=r.dp;omega,by have:=r.un;omega⟩
theorem oM.deeper (r:oM (k+1) A) (env:Env):oM k (A.deeper env):=
 ⟨r.hd,by have:=r.dp;show A.depth+1+3 * k+5 < _;omega,by have:=r.un;show A.units+3+16 * k+200 < _;omega⟩
theorem oM.depth (r:oM k A):A.depth < recursionLimit:=by have:=r.dp;omega
def VR:TA:=λ_ H Q=>Q [] H
def yc (ta:TE) (tr:TA):TA:=λσ H Q=>ta σ H λx H1=>tr σ H1 λxs H2=>Q (x::xs) H2
section
variable {X:Cx} {te:TE} {t:TA}
theorem uP:PA X [] VR:=λ_ _ _ _ H Q I h=>Calls.spliced_nil ⟨[],H,I,.nil,h⟩
theorem jG (ha:PE X e te) (hr:PA X es t) (hs:starEach (e::es) X.env=(false,eval e X.env)::starEach es X.env:=by rfl):PA X (e::es) (yc te t):=by
 intro pos pins s σ H Q I h;rw[hs];show wpAny _ _ (spliced ((false,eval e X.env)::backTo pos (starEach es X.env))) _ _ s;refine Calls.spliced_cons (jq (ha pins s σ H _ I h) λu s1 ⟨x,H1,I1,r1,q1⟩=>?_);exact jq (hr pos pins s1 σ H1 _ I1 q1) λus s2 ⟨xs,H2,I2,r2,q2⟩=>⟨x::xs,H2,I2,.cons r1 r2,q2⟩
def agI (t:TA):TE:=λσ H Q=>t σ H λxs H1=>xs.length<=sizeLine/\∀ p,H1 p=none->Q (.ref p) (upd H1 p (.tup xs))
def agJ (t:TA):TE:=λσ H Q=>t σ H λxs H1=>xs.length<=sizeLine/\∀ p,H1 p=none->Q (.ref p) (upd H1 p (.lst xs))
theorem acE {x1} (h:PA X es t):PE X (.Tuple es x1 pos) (agI t):=by
 intro pins s σ H Q I hq;refine wpAny_Tuple_spliced (jq (h pos pins s σ H _ I hq) λus s1 ⟨xs,H1,I1,r,z,q⟩=>⟨by rw[<-r.length];exact z,?_⟩);have hf:H1 s1.heap.objs.size=none:=I1.hok.fresh (zi _);refine⟨.ref s1.heap.objs.size,upd H1 s1.heap.objs.size (.tup xs),I1.laid (t':=s1.toks) (λb u e=>ze _ e) (zi _) ?_,rfl,q _ hf⟩;exact⟨z,us,r,⟨_,zv _ rfl,rfl,⟨_,rfl⟩,rfl⟩⟩
theorem acF (h:PA X es t):PE X (.List es pos) (agJ t):=by
 intro pins s σ H Q I hq;refine wpAny_List_spliced (jq (h pos pins s σ H _ I hq) λus s1 ⟨xs,H1,I1,r,z,q⟩=>⟨by rw[<-r.length];exact z,?_⟩);have hf:H1 s1.heap.objs.size=none:=I1.hok.fresh (zi _);refine⟨.ref s1.heap.objs.size,upd H1 s1.heap.objs.size (.lst xs),I1.laid (t':=s1.toks) (λb u e=>ze _ e) (zi _) ?_,rfl,q _ hf⟩;exact⟨z,us,0,r,zv _ rfl⟩
end
abbrev Sp:=List V->Hp->VK->XK->Prop
abbrev Vq:=List Env->Hp->Shared->XK->Value->Shared->Prop
structure Zd (P:Program) (w:World) (K:FG_) (mg:Str->Option Value) (base:Heap) (A:Around) (outer:List Env) (s:Shared) (H:Hp):Prop where
 frames:A.frames=some outer
 mod:Mod K mg base
 bs:∀ b o,base.get? b=some o->s.heap.get? b=some o/\H b=none
 bsz:base.objs.size<=s.heap.objs.size
 CQ:s.heap.FunFrames base outer
 frf:∀ b∈frs outer,H b=none
 hok:Ae P w H s.heap
 bare:AllBare s.gens
def CE (outer:List Env) (P:Program) (w:World) (H:Hp) (s:Shared) (Q:VK) (u:Value) (s':Shared):Prop:=
 ∃ v H',s'.os=s.os/\AllBare s'.gens/\Un (frs outer) [] H H' s.heap s'.heap/\Ae P w H' s'.heap/\RelV v u/\Q v H'
def CR (CX:Vq) (outer:List Env) (P:Program) (w:World) (H:Hp) (s:Shared) (Q:VK) (E:XK) (r:Result) (s':Shared):Prop:=
 match r with
 |.ok (.ret u)=>CE outer P w H s Q u s'
 |.ok _=>False
 |.error e=>CX outer H s E e s'
structure Bh (P:Program) (w:World) (K:FG_) (mg:Str->Option Value) (base:Heap) (CX:Vq) (k:Nat) (f:Addr) (fd:FuncData) (ps:LS_) (sp:Sp):Prop where
 len:∀ vs H Q E,sp vs H Q E->vs.length=ps.length
 run:∀ (A:Around) (outer:List Env) (s:Shared) (H:Hp) (args:Args) (us:List Value) (vs:List V) (Q:VK) (E:XK),oM k A->Zd P w K mg base A outer s H->BindsTo s fd args (ps.zip us)->Vals vs us->sp vs H Q E →
  codeAny (model P w) A (.call (.ref f) args) (CR CX outer P w H s Q E) s
section
variable {X:Cx} {σ:St} {H:Hp} {s':Shared}
theorem Inv.env0 (I:Inv X pins σ H s):Zd X.prog X.w X.K X.mg X.base X.A X.stack s H:=
 ⟨I.ok.frames,I.ok.mod,I.bs,zD I.ok.bsz I.sz,I.stack,I.Rx,I.hok,I.bare⟩
theorem Inv.after {Q:VK} (I:Inv X pins σ H s) (h:CE X.stack X.prog X.w H s Q u s'):EP X pins σ Q u s':=by
 obtain⟨v,H',os,bare,un,hok,r,q⟩:=h;obtain⟨hh,g,d,t,os'⟩:=s';obtain rfl:os'=s.os:=os;exact⟨v,H',I.call (h':=hh) (g':=g) (d':=d) (t':=t) (ch:=[]) un hok bare (λb z=>absurd z (by simp)),r,q⟩
end
def aeH (sp:Sp) (dvs:List V) (E:XK) (t:TA):TE:=λσ H Q=>t σ H λvs H1=>sp (vs++dvs) H1 Q E
def Binds (K:FG_) (fd:FuncData) (ps:LS_) (ds:List Value):Prop:=
 ∀ (s:Shared) (us:List Value),K.In s.heap->(us++ds).length=ps.length->BindsTo s fd ⟨us,[]⟩ (ps.zip (us++ds))
theorem Binds.all (h:∀ us:List Value,us.length=ps.length->bindArgs fd ⟨us,[]⟩=pure (ps.zip us)):Binds K fd ps []:=λs us _ hl=>by
 rw[QA] at hl ⊢;exact .of_eq (h us hl)
def Passes (CX:Vq) (X:Cx) (E:XK):Prop:=∀ (pins:List (Addr×Obj)) (σ:St) (H:Hp) (s:Shared) (e:Value) (s':Shared),Inv X pins σ H s->CX X.stack H s E e s'->X.xe e s'
section
variable {X:Cx} {CX:Vq} {f:Addr} {sp:Sp} {dvs:List V} {ds:List Value} {E:XK} {m:Str} {p:Pos} {o:Expr} {ta:TE} {t:TA}
theorem acG {σ:St} {H:Hp} {Q:VK} {vs:List V} (F:Bh X.prog X.w X.K X.mg X.base CX k f fd ps sp) (hr:oM k X.A) (hb:Binds X.K fd ps ds) (hd:Vals dvs ds) (hx:Passes CX X E) (I:Inv X pins σ H s) (r:Vals vs us) (h:sp (vs++dvs) H Q E):wpAny (model X.prog X.w) X.A (call (.ref f) us) (EP X pins σ Q) X.xe s:=by
 have r2:Vals (vs++dvs) (us++ds):=r.append hd;have hl:(us++ds).length=ps.length:=by rw[<-r2.length];exact F.len _ _ _ _ h
 refine wpAny_call (ki (F.run X.A X.stack s H ⟨us,[]⟩ (us++ds) (vs++dvs) Q E hr I.env0 (hb s us I.kIn hl) r2 h) λr s' hq=>?_);cases r with
 |error e=>exact hx pins σ H s e s' I hq
 |ok fl=>
  cases fl with
  |ret u=>exact I.after hq
  |next=>exact False.elim hq
  |brk=>exact False.elim hq
  |cont=>exact False.elim hq
theorem Ze (F:Bh X.prog X.w X.K X.mg X.base CX k f fd ps sp) (hr:oM k X.A) (hg:Gl X x) (hm:X.mg x=some (.ref f)) (hk:keepIn X.K (.ref f)=true) (hb:Binds X.K fd ps ds) (hd:Vals dvs ds) (hx:Passes CX X E)
  (ha:PA X (e::es) t) (hdb:(x==("__debug__" : Str))=false:=by decide) (he:starEach (e::es) X.env=(false,eval e X.env)::starEach es X.env:=by rfl) (hpl:(backTo pos (starEach es X.env)).any (·.1)=false:=by rfl) :
  PE X (.Call (.Name x p) (e::es) [] pos) (aeH sp dvs E t):=by
 intro pins s σ H Q I h;refine kQ (Rz I hg hm ?_ hdb);refine PySem.W.callWith_K (h₀:=X.base) I.ok.mod.kin hk (jq (ha pos pins s σ H _ I h) λus s1 ⟨vs,H1,I1,r,q⟩=>⟨I1.kIn,?_⟩) he hpl;exact acG F hr hb hd hx I1 r q
end
section
variable {X:Cx} {CX:Vq} {f:Addr} {ks:LS_} {sp:Sp} {E:XK} {m:Str} {p kpos:Pos} {o:Expr} {kws:List Keyword} {te ta:TE} {t tk:TA} {nm:Option Str}
variable {g:List Value->List Value->List Value} {gV:List V->List V->List V}
end
structure bF (N P:LS_) (sc:Scope):Prop where
 kind:sc.kind=.function
 co:sc.isCoroutine=false
 gen:sc.isGenerator=false
 nd:N.Nodup
 pre:N.take P.length=P
 par:∀ x∈P,sc.names.lookup x=some .local\/sc.names.lookup x=some .cell
 acH:∀ y∈sc.names,y.2≠.free
theorem HB {kindOf:Str->Option NameKind} {x:Str}:∀ {binds:List (Str×Value)} {m:Str->Option Value},(∀ v,(x,v)∉binds)->bindL kindOf binds m x=m x
 |[],_,_=>rfl
 |(n,v)::r,m,h=>by
  unfold bindL;rw[HB λw hw=>h w (zo _ hw)];split
  ·have:x≠n:=by rintro rfl;exact h v zk
   simp[this]
  ·rfl
theorem HD {kindOf:Str->Option NameKind} {x:Str}:∀ {binds:List (Str×Value)} {m:Str->Option Value},(∀ v,(x,v)∉binds)->bindC kindOf binds m x=m x
 |[],_,_=>rfl
 |(n,v)::r,m,h=>by
  unfold bindC;rw[HD λw hw=>h w (zo _ hw)];split
  ·rfl
  ·have:x≠n:=by rintro rfl;exact h v zk
   simp[this]
theorem HF {kindOf:Str->Option NameKind} {x:Str} {v:Value}:∀ {P:LS_} {vs:List Value} {i:Nat} {m:Str->Option Value},P.Nodup->P[i]?=some x->vs[i]?=some v->kindOf x=some .local →
  bindL kindOf (P.zip vs) m x=some v
 |[],_,_,_,_,h,_,_=>by simp at h
 |_::_,[],_,_,_,_,h,_=>by simp at h
 |p::P,w::vs,0,m,nd,h1,h2,hk=>by
  simp at h1 h2;subst h1;subst h2;show bindL kindOf ((p,w)::P.zip vs) m p=_;unfold bindL;rw[HB λv hv=>(List.nodup_cons.mp nd).1 (List.of_mem_zip hv).1,zr hk];simp
 |p::P,w::vs,i+1,m,nd,h1,h2,hk=>by
  show bindL kindOf ((p,w)::P.zip vs) m x=_;unfold bindL;exact HF (i:=i) (List.nodup_cons.mp nd).2 (by simpa using h1) (by simpa using h2) hk
theorem HJ {kindOf:Str->Option NameKind} {x:Str} {v:Value}:∀ {P:LS_} {vs:List Value} {i:Nat} {m:Str->Option Value},P.Nodup->P[i]?=some x->vs[i]?=some v->kindOf x≠some .local →
  bindC kindOf (P.zip vs) m x=some v
 |[],_,_,_,_,h,_,_=>by simp at h
 |_::_,[],_,_,_,_,h,_=>by simp at h
 |p::P,w::vs,0,m,nd,h1,h2,hk=>by
  simp at h1 h2;subst h1;subst h2;show bindC kindOf ((p,w)::P.zip vs) m p=_;unfold bindC;rw[HD λv hv=>(List.nodup_cons.mp nd).1 (List.of_mem_zip hv).1,zz hk];simp
 |p::P,w::vs,i+1,m,nd,h1,h2,hk=>by
  show bindC kindOf ((p,w)::P.zip vs) m x=_;unfold bindC;exact HJ (i:=i) (List.nodup_cons.mp nd).2 (by simpa using h1) (by simpa using h2) hk
def start (N:LS_) (vs:List V):St:=vs.map some++List.replicate (N.length - vs.length) none
def Gv (CX:Vq) (P:Program) (w:World) (K:FG_) (mg:Str->Option Value) (base:Heap) (N:LS_) (qual:Str) (scope:Scope) (f:Addr) (cd:Value) (A:Around) (outer:List Env) (s:Shared) (H:Hp) (E:XK):Cx where
 prog:=P
 w:=w
 K:=K
 mg:=mg
 base:=base
 A:=A.deeper (envOfC qual scope s.heap.objs.size f cd)
 N:=N
 s₀:=s
 H₀:=H
 env:=envOfC qual scope s.heap.objs.size f cd
 outer:=outer
 stack:=envOfC qual scope s.heap.objs.size f cd::outer
 ex:=[]
 calm:=true
 fn:=λ_=>true
 pn:=[]
 xe:=λe s'=>wpAny (model P w) (A.deeper (envOfC qual scope s.heap.objs.size f cd)) (leaving (envOfC qual scope s.heap.objs.size f cd) e) (λ_ s''=>CX outer H s E e s'') (λe' s''=>CX outer H s E e' s'') s'
theorem LR {sc:Scope} (h:sc.names.lookup x=some .cell):∃ c,(cellsFrom n sc.names []).lookup x=some c:=by
 have q:=cellsFrom_some sc.names n [] (.inl h);exact Option.isSome_iff_exists.mp q
theorem T5 {CX:Vq} {f:Addr} {cd:Value} {outer:List Env} {s1:Shared} {H:Hp} {E:XK} {vs:List V} (S:bF N ps scope) (hd:A.handled=none) (e0:Zd P w K mg base A outer s H) (hl:vs.length=ps.length) (r:Vals vs us) (x:InCallC s s.heap.objs.size (bindL (envOfC qual scope s.heap.objs.size f cd).kindOf (ps.zip us) λ_=>none) (cellsFrom (s.heap.objs.size+1) scope.names []) (bindC (envOfC qual scope s.heap.objs.size f cd).kindOf (ps.zip us) λ_=>none) s1) :
  Inv (Gv CX P w K mg base N qual scope f cd A outer s H E) [] (start N vs) H s1:=by
 have hpl:ps.length<=N.length:=by have:=congrArg List.length S.pre;rw[ka] at this;omega
 obtain⟨h1,tk,rfl,hk⟩:=x.done;have noA:∀ b:Addr,b∉(Gv CX P w K mg base N qual scope f cd A outer s H E).ex:=λb z=>absurd (show b∈([]:List Addr) from z) (by simp);refine⟨⟨e0.mod,S.kind,rfl,rfl,zi _,λy z c h1 h2=>?_,λy hy=>?_,λy c _ h=>?_,λ_=>hd,Around.frames_deeper e0.frames,.inr ⟨rfl,rfl⟩,λb z=>absurd z (noA b),e0.bs,e0.bsz,λb _ _=>noA b,λb z=>absurd z (noA b),e0.CQ,e0.frf⟩,
  rfl,e0.bare,Un.kept hk,⟨_,x.toInCall.ns,λi y v h1 h2 h3=>?_⟩,λy c h=>⟨_,x.cell y c h⟩,e0.hok.fresh (zi _),λy c h=>?_,λp hp=>absurd (show p∈([]:List (Addr×Obj)) from hp) (by simp),e0.hok.kept hk,?_⟩
 ·exact name_of_addr x.apart (js h1) (js h2)
 ·have hy:scope.names.lookup y=some .cell\/scope.names.lookup y=some .free:=hy;rcases hy with hy|hy
  ·exact LR hy
  ·exact absurd rfl (S.acH _ (js hy))
 ·exact QU (x.above y c (js h))
 ·have hi:i < vs.length:=by
   unfold start at h2;by_cases hi:i < vs.length
   ·exact hi
   ·rw[qA (by simpa using hi)] at h2;rw[QR] at h2;split at h2<;>cases h2
  have ha:vs[i]?=some v:=by
   unfold start at h2;rw[ZU (by simpa using hi),ZA] at h2;cases e:vs[i]? with
   |none=>rw[e] at h2;cases h2
   |some a=>rw[e] at h2;cases h2;rfl
  obtain⟨u,hu,rv⟩:=r.get ha;have hp:ps[i]?=some y:=by
   rw[<-S.pre,List.getElem?_take_of_lt (by omega)];exact h1
  have ndP:ps.Nodup:=by rw[<-S.pre];exact S.nd.sublist (List.take_sublist _ _)
  refine⟨u,rv,?_⟩;rcases S.par y (qv hp) with k|k
  ·exact .inl ⟨k,HF ndP hp hu k⟩
  ·obtain⟨c,e⟩:=LR (n:=s.heap.objs.size+1) k;refine .inr ⟨.inl k,c,e,?_⟩;have q:=x.cell y c e;rw[HJ ndP hp hu (by show scope.names.lookup y≠_;rw[k];decide)] at q;exact q
 ·exact e0.hok.fresh (QU (x.above y c (js h)))
 ·unfold start;show _=N.length;rw[zl,zg,List.length_replicate];omega
theorem aeJ {CX:Vq} {f:Addr} {params:Arguments} {dV kV doc pm cdv ct oc:Value} {an od:Option Addr} {sp:Sp} (lk:K.lookup f=some ⟨oc,od,.func (fnOf name qual params body scope dV kV doc pm an cdv ct),osl⟩) (hcd:codeIn K cdv qual=true) (S:bF N ps scope) (len:∀ vs H Q E,sp vs H Q E->vs.length=ps.length) (hbody:∀ (A:Around) (outer:List Env) (s:Shared) (H:Hp) (vs:List V) (Q:VK) (E:XK),oM k (A.deeper (envOfC qual scope s.heap.objs.size f cdv))->sp vs H Q E →
   ∃ t,Ry (Gv CX P w K mg base N qual scope f cdv A outer s H E) body t/\t { nx:=λ_ H'=>Q .non H',rt:=Q } (start N vs) H) :
  Bh P w K mg base CX (k+1) f (fnOf name qual params body scope dV kV doc pm an cdv ct) ps sp:=by
 refine⟨len,λA outer s H args us vs Q E hr e0 hb r hsp=>?_⟩;have hl:=len _ _ _ _ hsp;have KX:K.In s.heap:=e0.mod.kin.keeps λb o e=>(e0.bs b o e).1;have lim:s.heap.NoLimit:=e0.mod.nolimit.keeps λb o e=>(e0.bs b o e).1;have hkind:∀ y∈ps.zip us,scope.names.lookup y.1=some .local\/(scope.names.lookup y.1=some .cell/\((cellsFrom (s.heap.objs.size+1) scope.names []).lookup y.1).isSome=true):=λ⟨n,v⟩ hy=>by
  rcases S.par n (List.of_mem_zip hy).1 with q|q
  ·exact .inl q
  ·exact .inr ⟨q,cellsFrom_some _ _ _ (.inl q)⟩
 refine codeAny_call_function hr.depth (KX _ _ lk) rfl S.co S.gen rfl (PySem.W.codeRec_of KX hcd) (hb _ _ _ _ ?_);refine wpAny_newFunctionEnv_cells S.kind hkind λenv he s1 x=>?_;subst he;refine⟨lim.keeps x.toInCall.keep,codeAny_func ?_⟩;obtain⟨t,ht,hq⟩:=hbody A outer s H vs Q E (hr.deeper _) hsp;have I:Inv (Gv CX P w K mg base N qual scope f cdv A outer s H E) [] (start N vs) H s1:=T5 S hr.hd e0 hl r x;refine qo (ht [] s1 (start N vs) H _ I hq) (λfl s' hs=>?_) λe s' hs=>hs;have fin:∀ {σ':St} {H':Hp} {v:V} {u:Value},Inv (Gv CX P w K mg base N qual scope f cdv A outer s H E) [] σ' H' s'->RelV v u->Q v H'->CE outer P w H s Q u s':=
  λ{σ' H' v u} J rv q=>⟨v,H',J.os,J.bare,J.base,J.hok,rv,q⟩
 cases fl with
 |ret u=>
  obtain⟨v,σ',H',J,rv,q⟩:=hs;exact fin J rv q
 |next=>
  obtain⟨σ',H',J,q⟩:=hs;exact fin (v:=V.non) (u:=Value.none) J rfl q
 |brk=>
  obtain⟨_,_,_,q⟩:=hs;exact False.elim q
 |cont=>
  obtain⟨_,_,_,q⟩:=hs;exact False.elim q
end L2
namespace L2
section
variable {X:Cx} {p:Pos} {t:TA} {id T:String} {r:List V->Hp->VK->Prop}
def tCB (r:List V->Hp->VK->Prop) (t:TA):TE:=λσ H Q=>t σ H λvs H1=>r vs H1 Q
theorem rA (hc:fj X (.builtin id) r) (hg:Gl X x) (hm:X.mg x=none) (hv:bootBuiltins x=some (.builtin id)) (ha:PA X (e::es) t) (hn:x ≠ "__name__" := by decide) (hdb:(x==("__debug__" : Str))=false:=by decide)
  (he:starEach (e::es) X.env=(false,eval e X.env)::starEach es X.env:=by rfl) (hpl:(backTo pos (starEach es X.env)).any (·.1)=false:=by rfl):PE X (.Call (.Name x p) (e::es) [] pos) (tCB r t):=by
 intro pins s σ H Q I h;refine kQ (CT I hg hm hv ?_ hn hdb);exact PyProof.Rows.callWith_builtin1 (jq (ha pos pins s σ H _ I h) λus s1 ⟨vs,H1,I1,r1,q1⟩=>hc pins s1 σ H1 vs us Q I1 r1 q1) he hpl
theorem HN (hc:fj X (.type T) r) (hg:Gl X x) (hm:X.mg x=none) (hv:bootBuiltins x=some (.type T)) (ha:PA X (e::es) t) (hn:x ≠ "__name__" := by decide) (hdb:(x==("__debug__" : Str))=false:=by decide)
  (he:starEach (e::es) X.env=(false,eval e X.env)::starEach es X.env:=by rfl) (hpl:(backTo pos (starEach es X.env)).any (·.1)=false:=by rfl):PE X (.Call (.Name x p) (e::es) [] pos) (tCB r t):=by
 intro pins s σ H Q I h;refine kQ (CT I hg hm hv ?_ hn hdb);exact PyProof.Rows.callWith_type1 (jq (ha pos pins s σ H _ I h) λus s1 ⟨vs,H1,I1,r1,q1⟩=>hc pins s1 σ H1 vs us Q I1 r1 q1) he hpl
end
end L2
namespace HT
open PySem PyProof.Rows
section
open PySem.SeqAt
open PySem.AutoSeq1 (wpAny_loadPart')
open PySem.MeetsSeq PySem.MeetsSeq2 PySem.MeetsSeq3
end
theorem Zf {t b:Addr} {vs ws:List Value} {Q:VP_} (ht:IsTup s.heap t vs.toArray) (hb:IsTup s.heap b ws.toArray) (hv:vs≠[])
  (h1:ws=[]->Q (.ref t) s) (h2:ws≠[]->Q (.ref s.heap.objs.size) { s with heap:=s.heap.push { cls:=.type "tuple", data:=.seq (vs++ws).toArray } })
  (hsz:vs.length+ws.length<=sizeLine):wpAny (model prog w) A (binaryOp .Add (.ref t) (.ref b)) Q E s:=by
 obtain⟨⟨cls,dd,data,sl⟩,ho,hc,n,hd⟩:=id ht;obtain⟨⟨cls2,dd2,data2,sl2⟩,ho2,hc2,n2,hd2⟩:=id hb;simp only at hc hd hc2 hd2;subst hc hd hc2 hd2;have e:vs.toArray++ws.toArray=(vs++ws).toArray:=by simp
 by_cases hw:ws=[]
 ·exact concat_meets ⟨_,ho,rfl⟩ ⟨_,ho2,rfl⟩ noFill_tuple_add seq_tuple_add PySem.F.slot_tuple_add KG (Kk _ _)
   (tuple_addW1 t b vs.toArray ws.toArray n n2 dd dd2 sl sl2 (by simpa using hv) (by simp[hw])) ⟨ho,ho2,h1 hw⟩
 ·refine concat_meets ⟨_,ho,rfl⟩ ⟨_,ho2,rfl⟩ noFill_tuple_add seq_tuple_add PySem.F.slot_tuple_add KG (Kk _ _)
   (tuple_addW2 t b vs.toArray ws.toArray n n2 dd dd2 sl sl2 (by simpa using hv) (by simpa using hw) (by rw[zt,zt];exact hsz)) ⟨ho,ho2,?_⟩
  rw[e];exact h2 hw
def iu (n d:Nat):Option Int->Nat
 |none=>d
 |some v=>if v < 0 then(v+(n:Int)).toNat else min v.toNat n
theorem V0 (n d:Nat):iu n d none=d:=rfl
theorem Zg (n d k:Nat):iu n d (some (k:Int))=min k n:=by
 show(if(k:Int) < 0 then((k:Int)+(n:Int)).toNat else min (k:Int).toNat n)=min k n;rw[zz (by omega),km]
theorem acI (n d:Nat) (hd:d<=n) (o:Option Int):iu n d o<=n:=by
 cases o with
 |none=>exact hd
 |some v=>
  show(if v < 0 then(v+(n:Int)).toNat else min v.toNat n)<=n;by_cases hv:v < 0
  ·rw[zr hv];omega
  ·rw[zz hv];exact Nat.min_le_right _ _
theorem RG (v:Int) (n d:Nat):(if v < 0 then max (v+(n:Int)) 0 else min v (n:Int))=((iu n d (some v):Nat):Int):=by
 show(if v < 0 then max (v+(n:Int)) 0 else min v (n:Int))=(((if v < 0 then(v+(n:Int)).toNat else min v.toNat n):Nat):Int);by_cases hv:v < 0
 ·simp only[zr hv];omega
 ·simp only[zz hv];omega
theorem Qe (lo hi:Option Int) (n:Nat):Builtin.Slice.sliceAdjust lo hi 1 (n:Int)=(((iu n 0 lo:Nat):Int),((iu n n hi:Nat):Int)):=by
 have h1:¬ ((1:Int) < 0):=by omega
 unfold Builtin.Slice.sliceAdjust;simp only[h1,Zl];refine Prod.ext ?_ ?_
 ·cases lo with
  |none=>rfl
  |some v=>exact RG v n 0
 ·cases hi with
  |none=>rfl
  |some v=>exact RG v n n
theorem Qf (i j:Nat):Builtin.Slice.slicePlaces (i:Int) (j:Int) 1=j - i:=by
 unfold Builtin.Slice.slicePlaces;have h1:(1:Int) > 0:=by omega
 simp only[h1,ZZ,Int.ediv_one];split<;>omega
theorem Dc {o:Option Int} {Q:Option Int->Shared->Prop} (p:IsPart v o) (h:Q o s):wpAny (model prog w) A (Builtin.Slice.slicePartIndex v) Q E s:=by
 cases p with
 |none=>exact slicePart_none h
 |int i t=>exact slicePart_int h
theorem rC {sl:Addr} {vl vu:Value} {Q:Int×Int×Nat->Shared->Prop} (hs:s.heap.IsSliceOf sl vl vu .none) (pl:IsPart vl lo) (pu:IsPart vu hi) (h:Q (((iu n 0 lo:Nat):Int),1,iu n n hi - iu n 0 lo) s):wpAny (model prog w) A (Builtin.Slice.sliceApplied (.ref sl) (pure (n:Int))) Q E s:=by
 obtain⟨os,hos,hcs,hds⟩:=id hs;unfold Builtin.Slice.sliceApplied Builtin.Slice.sliceFields;refine zb (zb (JP hos hds (x:=vl) rfl (zb (JP hos hds (x:=vu) rfl (zb (JP hos hds (x:=.none) rfl (zd ?_)))))));refine zb (slicePart_none ?_);show wpAny _ _ (if((1:Int)==0)=true then _ else _) _ _ s;rw[zz (by decide)];refine zb (Dc pl (zb (Dc pu (zb (zd ?_)))));show wpAny _ _ (match Builtin.Slice.sliceAdjust lo hi 1 (n:Int) with|(lo,hi)=>pure (lo,(1:Int),Builtin.Slice.slicePlaces lo hi 1)) _ _ s;rw[Qe lo hi n];show wpAny _ _ (pure (((iu n 0 lo:Nat):Int),(1:Int),Builtin.Slice.slicePlaces ((iu n 0 lo:Nat):Int) ((iu n n hi:Nat):Int) 1)) _ _ s;rw[Qf];exact zd h
theorem V1 (xs:Array Value) (i k:Nat):((List.range k).filterMap λ(m:Nat)=>xs[((i:Int)+(m:Int) * 1).toNat]?).toArray=((xs.toList.drop i).take k).toArray:=by
 have e:(λ(m:Nat)=>xs[((i:Int)+(m:Int) * 1).toNat]?)=λm=>xs[i+m]?:=by
  funext m;have:((i:Int)+(m:Int) * 1).toNat=i+m:=by omega
  rw[this]
 rw[e];have:=pick_run xs i k;rw[List.filterMap_map] at this;have e2:((λx=>xs[x]?) ∘ λx=>i+x)=λm=>xs[i+m]?:=rfl;rw[e2] at this;rw[this]
theorem yd {t sl:Addr} {vl vu:Value} {Q:VP_} (ht:IsTup s.heap t items) (hs:s.heap.IsSliceOf sl vl vu .none) (pl:IsPart vl lo) (pu:IsPart vu hi) (hw:¬ (iu items.size 0 lo=0/\iu items.size items.size hi=items.size)) (h:Q (.ref s.heap.objs.size) { s with heap:=s.heap.push { cls:=.type "tuple", data:=.seq ((items.toList.drop (iu items.size 0 lo)).take (iu items.size items.size hi - iu items.size 0 lo)).toArray } }) (hsz:items.size<=sizeLine):wpAny (model prog w) A (getItem (.ref t) (.ref sl)) Q E s:=by
 have RJ:sizeOk (.seq ((items.toList.drop (iu items.size 0 lo)).take (iu items.size items.size hi - iu items.size 0 lo)).toArray):=by
  show((items.toList.drop (iu items.size 0 lo)).take (iu items.size items.size hi - iu items.size 0 lo)).toArray.size<=sizeLine;rw[zt,ka,QN,ZY];omega
 have hj:iu items.size items.size hi<=items.size:=acI _ _ (zi _) hi;obtain⟨os,hos,hcs,hds⟩:=id hs;have hTs:s.TypeIs (.ref sl) "slice" := ⟨os,hos,hcs⟩;unfold getItem
 try with_reducible refine Qr ?_
 first|refine zb (zd ?_)|skip
 refine zb (wpAny_sequenceKey ht.typeIs (by decide) ?_);refine zb (jS (name:=Str.ofString "__getitem__") ht.typeIs PyProof.Rows.slot_tuple_getitem
  (QI PyProof.Rows.slot_tuple_getitem ht.typeIs entry_tuple_getitem ?_ (args_tuple_getitem _ _)))
 show wpAny _ _ (Builtin.Tuple.tupleItemsOf (.ref t) >>= _) _ _ s;refine zb (tupleItemsOf_ ht ?_);refine zb (QO hTs ?_);rw[zr (by decide)];refine zb (rC hs pl pu ?_);have hno:¬ ((((iu items.size 0 lo:Nat):Int)==0&&(1:Int)==1&&(iu items.size items.size hi - iu items.size 0 lo)==items.size)=true):=by
  intro q;rw[ZE,ZE] at q;have q1:((iu items.size 0 lo:Nat):Int)=0:=eq_of_beq q.1.1;have q2:iu items.size items.size hi - iu items.size 0 lo=items.size:=eq_of_beq q.2;exact hw ⟨by omega,by omega⟩
 show wpAny _ _ (if(((iu items.size 0 lo:Nat):Int)==0&&(1:Int)==1&&(iu items.size items.size hi - iu items.size 0 lo)==items.size)=true then _ else _) _ _ s;rw[zz hno,V1]
 first
  |exact zb (m:=Builtin.Tuple.tupleExact _) (qk (zd ⟨_,rfl,zd h⟩) RJ)
  |exact zb (m:=Builtin.Tuple.tupleExact _) (qk (zb (zd (zd ⟨_,rfl,zd h⟩))) RJ)
  |exact zb (zb (m:=Builtin.Tuple.tupleExact _) (qk (zd (zd ⟨_,rfl,zd h⟩)) RJ))
  |exact zb (zb (m:=Builtin.Tuple.tupleExact _) (qk (zd ⟨_,rfl,zd h⟩) RJ))
end HT
namespace L2
abbrev TO:=St->Hp->(Option Int->Hp->Prop)->Prop
def PO (X:Cx) (e:Option Expr) (t:TO):Prop:=
 ∀ (pins:List (Addr×Obj)) (s:Shared) (σ:St) (H:Hp) (Q:Option Int->Hp->Prop),Inv X pins σ H s->t σ H Q →
  wpAny (model X.prog X.w) X.A (evalPart e X.env) (λu s'=>∃ o H',Inv X pins σ H' s'/\IsPart u o/\Q o H') X.xe s
def Zh:TO:=λ_ H Q=>Q none H
def aeK (t:TE):TO:=λσ H Q=>t σ H λx H1=>∃ i,x=.int i/\Q (some i) H1
section
variable {X:Cx} {te:TE} {lo hi:Option Expr} {tl th:TO}
theorem Zi:PO X none Zh:=by
 intro pins s σ H Q I h;rw[evalPart_none];exact zd ⟨none,H,I,.none,h⟩
theorem Zj (h:PE X e te):PO X (some e) (aeK te):=by
 intro pins s σ H Q I hw;rw[evalPart_some];refine jq (h pins s σ H _ I hw) λu s1 ⟨x,H1,I1,r1,q1⟩=>?_;obtain⟨i,rfl,q⟩:=q1;obtain⟨t,rfl⟩:=r1;exact⟨some i,H1,I1,.int i t,q⟩
def SlR (X:Cx) (r:V->Option Int->Option Int->Hp->VK->Prop):Prop:=
 ∀ (pins:List (Addr×Obj)) (s:Shared) (σ:St) (H:Hp) (x:V) (v vl vu:Value) (lo hi:Option Int) (sl:Addr) (Q:VK),Inv X pins σ H s->RelV x v->s.heap.IsSliceOf sl vl vu .none->IsPart vl lo->IsPart vu hi->r x lo hi H Q →
  ∃ T id,typeLookup (.type T) "__getitem__" = pure (some (.builtin id))/\s.TypeIs v T/\wpAny (model X.prog X.w) X.A (getItem v (.ref sl)) (EP X pins σ Q) X.xe s
def tSl (r:V->Option Int->Option Int->Hp->VK->Prop) (te:TE) (tl th:TO):TE:=λσ H Q=>te σ H λx H1=>tl σ H1 λl H2=>th σ H2 λu H3=>r x l u H3 Q
theorem V2 {r:V->Option Int->Option Int->Hp->VK->Prop} (hr:SlR X r) (he:PE X e te) (hl:PO X lo tl) (hu:PO X hi th):PE X (.Subscript e (.Slice lo hi none p2) pos) (tSl r te tl th):=by
 intro pins s σ H Q I h;refine Subscript_ (jq (he pins s σ H _ I h) λv s1 ⟨x,H1,I1,r1,q1⟩=>?_);refine wpAny_Slice (jq (hl pins s1 σ H1 _ I1 q1) λvl s2 ⟨l,H2,I2,pl,q2⟩=>jq (hu pins s2 σ H2 _ I2 q2) λvu s3 ⟨u,H3,I3,pu,q3⟩=>?_);rw[evalPart_none];refine zd ?_;have I4:Inv X pins σ H3 { s3 with heap:=s3.heap.push { cls:=.type "slice", data:=.fields #[vl,vu,.none] } }:=I3.kept (t':=s3.toks) λb ob q=>ze _ q;obtain⟨T,id,hT,ht,hg⟩:=hr pins { s3 with heap:=s3.heap.push { cls:=.type "slice", data:=.fields #[vl,vu,.none] } } σ H3 x v vl vu l u s3.heap.objs.size Q I4 r1 (Heap.IsSliceOf.new ..) pl pu q3;show wpAny (model X.prog X.w) X.A (subscriptTail e (.Slice lo hi none p2) v (.ref s3.heap.objs.size)) (EP X pins σ Q) X.xe { s3 with heap:=s3.heap.push { cls:=.type "slice", data:=.fields #[vl,vu,.none] } };exact tail_any (ops:=[.ref s3.heap.objs.size,v]) ht hT hg (by with_unfolding_all rfl)
def Ma (xs:List V) (lo hi:Option Int):List V:=(xs.drop (HT.iu xs.length 0 lo)).take (HT.iu xs.length xs.length hi - HT.iu xs.length 0 lo)
theorem Af (xs:List V) (lo hi:Option Int):(Ma xs lo hi).length<=xs.length:=by
 unfold Ma;rw[ka,QN];omega
def agL (K:FG_):V->Option Int->Option Int->Hp->VK->Prop:=λx lo hi H Q=>∃ a xs,x=.ref a/\xX K H a xs ∧
 ¬ (HT.iu xs.length 0 lo=0/\HT.iu xs.length xs.length hi=xs.length)/\∀ p,H p=none->Q (.ref p) (upd H p (.tup (Ma xs lo hi)))
theorem acJ:SlR X (agL X.K):=by
 intro pins s σ H x v vl vu lo hi sl Q I rx hs pl pu h;obtain⟨a,xs,rfl,hx,hw,q⟩:=h;cases rx;obtain⟨its,r,ht,hz⟩:=I.tuple hx;have hlen:its.toArray.size=xs.length:=by rw[zt];exact r.length.symm
 refine⟨"tuple", _,PyProof.Rows.slot_tuple_getitem.lookup,ht.typeIs,?_⟩;refine HT.yd ht hs pl pu (by rw[hlen];exact hw) ?_ (by rw[hlen];exact hz);rw[hlen];refine⟨.ref s.heap.objs.size,_,I.laid (t':=s.toks) (o:=.tup (Ma xs lo hi)) (λb ob q=>ze _ q) (zi _) ?_,rfl,q _ (I.hok.fresh (zi _))⟩;exact⟨zD (Af xs lo hi) hz,_,(r.drop (HT.iu xs.length 0 lo)).take (HT.iu xs.length xs.length hi - HT.iu xs.length 0 lo),pC.new _ _⟩
def aeL (K:FG_):R2:=λx y H Q=>∃ a b xs ys,x=.ref a/\y=.ref b/\xX K H a xs/\xX K H b ys/\xs≠[]/\xs.length+ys.length<=sizeLine ∧
 (ys=[]->Q (.ref a) H)/\(ys≠[]->∀ p,H p=none->Q (.ref p) (upd H p (.tup (xs++ys))))
theorem Vals.Cd {xs:List V} (r:Vals xs us):us=[]↔xs=[]:=by
 cases r with
 |nil=>simp
 |cons _ _=>simp
theorem Zk:uL X (binaryOp .Add) (aeL X.K):=by
 intro pins s σ H x y v u Q I rx ry h;obtain⟨a,b,xs,ys,rfl,rfl,ha,hb,hx,hz,q1,q2⟩:=h;cases rx;cases ry;obtain⟨its,r1,p1,_⟩:=I.tuple ha;obtain⟨its2,r2,p2,_⟩:=I.tuple hb;refine HT.Zf p1 p2 (λz=>hx (r1.Cd.mp z)) (λz=>⟨.ref a,H,I,rfl,q1 (r2.Cd.mp z)⟩) (λz=>?_) (by rw[<-r1.length,<-r2.length];exact hz);refine⟨.ref s.heap.objs.size,_,I.laid (t':=s.toks) (o:=.tup (xs++ys)) (λb ob q=>ze _ q) (zi _) ?_,rfl,q2 (λw=>z (r2.Cd.mpr w)) _ (I.hok.fresh (zi _))⟩;exact⟨by rw[zl];exact hz,_,r1.append r2,pC.new _ _⟩
end
end L2
namespace L2
def ixN (n:Nat) (i:Int):Option Nat:=if 0<=i then(if i < n then some i.toNat else none) else if -(n:Int)<=i then some (i+n).toNat else none
def Bj (xs:List α) (i:Int):Option α:=(ixN xs.length i).bind λj=>xs[j]?
theorem Zm {i:Int} (h:ixN n i=some j):seqIndex? i n=some j/\j < n ∧ -(n:Int)<=i/\i < n:=by
 unfold ixN at h;by_cases h0:0<=i
 ·rw[zr h0] at h;by_cases h1:i < n
  ·rw[zr h1] at h;have e:i.toNat=j:=Q3 h;exact⟨by rw[seqIndex_of h0 h1,e],by omega,by omega,h1⟩
  ·rw[zz h1] at h;cases h
 ·rw[zz h0] at h;by_cases h1 : -(n:Int)<=i
  ·rw[zr h1] at h;have e:(i+n).toNat=j:=Q3 h;exact⟨by rw[seqIndex_neg (by omega) h1,e],by omega,h1,by omega⟩
  ·rw[zz h1] at h;cases h
theorem Ju {xs:List α} {i:Int} {v:α} (h:Bj xs i=some v):∃ j,seqIndex? i xs.length=some j/\xs[j]?=some v/\j < xs.length ∧ -(xs.length:Int)<=i/\i < xs.length:=by
 unfold Bj at h;cases e:ixN xs.length i with
 |none=>rw[e] at h;cases h
 |some j=>
  rw[e] at h;obtain⟨h1,h2,h3,h4⟩:=Zm e;exact⟨j,h1,h,h2,h3,h4⟩
def RK (b:Expr):Prop:=∀ o i,subscripted b false o i=operate [o,i] (getItem o i)
def Zn (X:Cx) (r:R2):Prop:=
 ∀ (value slice:Expr) (pins:List (Addr×Obj)) (s:Shared) (σ:St) (H:Hp) (x y:V) (v u:Value) (Q:VK),Inv X pins σ H s->RelV x v->RelV y u->r x y H Q →
  subscripted slice false v u=operate [v,u] (getItem v u)->wpAny (model X.prog X.w) X.A (subscriptTail value slice v u) (EP X pins σ Q) X.xe s
def MtR (X:Cx) (id:String) (r:V->List V->Hp->VK->Prop):Prop:=
 ∀ (pins:List (Addr×Obj)) (s:Shared) (σ:St) (H:Hp) (x:V) (xs:List V) (v:Value) (us:List Value) (Q:VK),Inv X pins σ H s->RelV x v->Vals xs us->r x xs H Q →
  wpAny (model X.prog X.w) X.A (call (.builtin id) (v::us)) (EP X pins σ Q) X.xe s
section
variable {X:Cx} {a b:Expr} {ta tb:TE}
theorem Zn.or {r r':R2} (h:Zn X r) (h':Zn X r'):Zn X (λx y H Q=>r x y H Q\/r' x y H Q):=by
 intro value slice pins s σ H x y v u Q I rx ry q hs;rcases q with q|q
 ·exact h value slice pins s σ H x y v u Q I rx ry q hs
 ·exact h' value slice pins s σ H x y v u Q I rx ry q hs
theorem aeM {r:R2} (hr:Zn X r) (ha:PE X a ta) (hb:PE X b tb) (hs:RK b):PE X (.Subscript a b pos) (tOp r ta tb):=by
 intro pins s σ H Q I h;exact Subscript_ (acs ha hb I h λv u s2 x y H2 I2 rx ry q=>hr a b pins s2 σ H2 x y v u Q I2 rx ry q (hs _ _))
def aeN (K:FG_):R2:=λx y H Q=>∃ p xs i v,x=.ref p/\y=.int i/\rY K H p xs/\Bj xs i=some v/\Q v H
def aeO (K:FG_):R2:=λx y H Q=>∃ p xs i v,x=.ref p/\y=.int i/\xX K H p xs/\Bj xs i=some v/\Q v H
def aeP:R2:=λx y H Q=>∃ z i c,x=.str z/\y=.int i/\z.length<=sizeLine/\Bj z.cps.toList i=some c/\Q (.str ⟨#[c]⟩) H
theorem Zo:Zn X (aeN X.K):=by
 intro value slice pins s σ H x y v u Q I rx ry h hs;obtain⟨p,xs,i,z,rfl,rfl,hq,he,q⟩:=h;cases rx;obtain⟨t,rfl⟩:=ry;obtain⟨its,r,pl,hz⟩:=I.list hq;obtain⟨j,h1,h2,h3,h4,h5⟩:=Ju he;obtain⟨w,ew,rw'⟩:=r.get h2;have hl:=r.length;have hn:=zy;have fin:EP X pins σ Q w s:=⟨z,H,I,rw',q⟩;by_cases h0:0<=i
 ·have hj:i.toNat=j:=by
   rw[seqIndex_of h0 h5] at h1;exact Q3 h1
  exact item_listR pl.isList h0 (by omega) (by rw[hj];simpa using ew) fin hs
 ·have hj:(i+(its.toArray.size:Int)).toNat=j:=by
   rw[seqIndex_neg (by omega) h4] at h1;rw[zt,<-hl];exact Q3 h1
  exact subscriptTail_builtinR (x:=w) pl.isList.typeIs slot_list_getitem.lookup
   (wpAny_getItem_list_neg (Q:=λr s'=>r=w/\EP X pins σ Q r s') pl.isList (by omega) (by rw[zt]<;>omega) (by omega) (by rw[hj];simpa using ew) ⟨rfl,fin⟩) hs
theorem acK:Zn X (aeO X.K):=by
 intro value slice pins s σ H x y v u Q I rx ry h hs;obtain⟨p,xs,i,z,rfl,rfl,hq,he,q⟩:=h;cases rx;obtain⟨t,rfl⟩:=ry;obtain⟨its,r,pl,hz⟩:=I.tuple hq;obtain⟨j,h1,h2,h3,h4,h5⟩:=Ju he;obtain⟨w,ew,rw'⟩:=r.get h2;have hl:=r.length;have hn:=zy;have fin:EP X pins σ Q w s:=⟨z,H,I,rw',q⟩;exact subscriptTail_builtinR (x:=w) pl.typeIs slot_tuple_getitem.lookup
  (getItem_tuple (j:=j) (Q:=λr s'=>r=w/\EP X pins σ Q r s') pl (by omega) (by omega) (by rw[zt,<-hl];exact h1) (by simpa using ew) ⟨rfl,fin⟩) hs
theorem acL:Zn X aeP:=by
 intro value slice pins s σ H x y v u Q I rx ry h hs;obtain⟨z,i,c,rfl,rfl,hz,he,q⟩:=h;obtain⟨t,rfl⟩:=rx;obtain⟨t',rfl⟩:=ry;obtain⟨j,h1,h2,h3,h4,h5⟩:=Ju he;have hl:z.cps.toList.length=z.length:=by simp[Str.length]
 rw[hl] at h1 h4 h5;have hn:=zy;exact tail_any (typeIs_str s z t) slot_str_getitem.lookup (getItem_str (c:=c) (by
  have e1:decide (i < -(2 ^ 63:Int))=false:=ZT (by omega);have e2:decide (i>=2 ^ 63)=false:=ZT (by omega);rw[e1,e2,Bool.or_false]) (by rw[h1];simpa using h2) ⟨.str ⟨#[c]⟩,H,I.tok _,⟨_,rfl⟩,q⟩) hs
def rIx (K:FG_):R2:=λx y H Q=>aeN K x y H Q\/aeO K x y H Q\/aeP x y H Q
theorem acM:Zn X (rIx X.K):=Zo.or (acK.or acL)
theorem Inv.lst {σ:St} {H:Hp} {p:Addr} {xs:List V} (I:Inv X pins σ H s) (h:H p=some (.lst xs)) :
  ∃ (its:List Value) (n:Nat),Vals xs its/\s.heap.get? p=some { cls:=.type "list", data:=.seq its.toArray n }/\xs.length<=sizeLine:=by
 obtain⟨z,its,n,r,e⟩:=I.hok p _ h;exact⟨its,n,r,e,z⟩
theorem Jv (lo hi:Option Int) (n:Nat):(sliceBounds lo hi none n).1=((HT.iu n 0 lo:Nat):Int)/\(sliceBounds lo hi none n).2.1=((HT.iu n n hi:Nat):Int)/\(sliceBounds lo hi none n).2.2=1:=by
 refine⟨?_,?_,rfl⟩
 ·cases lo with
  |none=>simp[sliceBounds,HT.iu]
  |some i=>
   simp only[sliceBounds,HT.iu,Option.getD_none,show(1:Int) > 0 by decide,ZZ];by_cases h:i < 0
   ·simp only[h,ZZ]<;>omega
   ·simp only[h,Zl]<;>omega
 ·cases hi with
  |none=>simp[sliceBounds,HT.iu]
  |some i=>
   simp only[sliceBounds,HT.iu,Option.getD_none,show(1:Int) > 0 by decide,ZZ];by_cases h:i < 0
   ·simp only[h,ZZ]<;>omega
   ·simp only[h,Zl]<;>omega
theorem Gw (its:List Value) (lo hi:Option Int):slicePick its.toArray lo hi none=((its.drop (HT.iu its.length 0 lo)).take (HT.iu its.length its.length hi - HT.iu its.length 0 lo)).toArray:=by
 obtain⟨h1,h2,h3⟩:=Jv lo hi its.toArray.size;unfold slicePick;rw[h1,h2,h3];simp only[sliceRange_one,pick_run,zt]<;>rfl
def agN (K:FG_):V->Option Int->Option Int->Hp->VK->Prop:=λx lo hi H Q=>∃ a xs,x=.ref a/\rY K H a xs/\∀ p,H p=none->Q (.ref p) (upd H p (.lst (Ma xs lo hi)))
theorem Zq:SlR X (agN X.K):=by
 intro pins s σ H x v vl vu lo hi sl Q I rx hs pl pu h;obtain⟨a,xs,rfl,hx,q⟩:=h;cases rx;obtain⟨its,r,ht,hz⟩:=I.list hx;have hlen:=r.length;refine⟨"list", _,slot_list_getitem.lookup,ht.isList.typeIs,?_⟩;refine wpAny_getItem_list_slice ht.isList hs pl pu .none (by simp) ?_ (by rw[zt]<;>omega);rw[Gw,<-hlen];refine⟨.ref s.heap.objs.size,_,I.laid (t':=s.toks) (o:=.lst (Ma xs lo hi)) (λb ob q=>ze _ q) (zi _) ?_,rfl,q _ (I.hok.fresh (zi _))⟩;exact⟨zD (Af xs lo hi) hz,_,0,(r.drop (HT.iu xs.length 0 lo)).take (HT.iu xs.length xs.length hi - HT.iu xs.length 0 lo),zv _ rfl⟩
def uD:V->Bool
 |.non=>true
 |.bl _=>true
 |.int _=>true
 |.str _=>true
 |_=>false
def Zr:V->V->Bool
 |.non,.non=>true
 |.bl a,.bl b=>a==b
 |.bl a,.int b=>(if a then 1 else 0)==b
 |.int a,.bl b=>a==(if b then 1 else 0)
 |.int a,.int b=>a==b
 |.str a,.str b=>a==b
 |_,_=>false
theorem acN {y x:V} (ry:RelV y u) (rx:RelV x v) (fy:uD y=true) (fx:uD x=true):SeqAt.EqAt A s u v (Zr y x):=by
 cases y with
 |non=>
  cases ry;cases x with
  |non=>cases rx;exact SeqAt.EqAt.same _
  |bl b=>cases rx;exact SeqAt.EqAt.none_bool b
  |int b=>obtain⟨t,rfl⟩:=rx;exact SeqAt.EqAt.none_int b t
  |str b=>obtain⟨t,rfl⟩:=rx;exact SeqAt.EqAt.none_str b t
  |_=>exact absurd (show false=true from fx) Zp
 |bl a=>
  cases ry;cases x with
  |non=>cases rx;exact SeqAt.EqAt.bool_none a
  |bl b=>cases rx;exact SeqAt.EqAt.bool_bool a b
  |int b=>obtain⟨t,rfl⟩:=rx;exact SeqAt.EqAt.bool_int a b t
  |str b=>obtain⟨t,rfl⟩:=rx;exact SeqAt.EqAt.bool_str a b t
  |_=>exact absurd (show false=true from fx) Zp
 |int a=>
  obtain⟨t',rfl⟩:=ry;cases x with
  |non=>cases rx;exact SeqAt.EqAt.int_none a t'
  |bl b=>cases rx;exact SeqAt.EqAt.int_bool a t' b
  |int b=>obtain⟨t,rfl⟩:=rx;exact SeqAt.EqAt.int_int a t' b t
  |str b=>obtain⟨t,rfl⟩:=rx;exact SeqAt.EqAt.int_str a t' b t
  |_=>exact absurd (show false=true from fx) Zp
 |str a=>
  obtain⟨t',rfl⟩:=ry;cases x with
  |non=>cases rx;exact SeqAt.EqAt.str_none a t'
  |bl b=>cases rx;exact SeqAt.EqAt.str_bool a t' b
  |int b=>obtain⟨t,rfl⟩:=rx;exact SeqAt.EqAt.str_int a t' b t
  |str b=>obtain⟨t,rfl⟩:=rx;exact SeqAt.EqAt.str_str a t' b t
  |_=>exact absurd (show false=true from fx) Zp
 |_=>exact absurd (show false=true from fy) Zp
def Qg (x:V) (u:Value):Bool:=match u with
 |.none=>Zr .non x
 |.bool b=>Zr (.bl b) x
 |.int i _=>Zr (.int i) x
 |.str z _=>Zr (.str z) x
 |_=>false
theorem V3 {x y:V} (r:RelV y u) (f:uD y=true):Qg x u=Zr y x:=by
 cases y with
 |non=>cases r;rfl
 |bl b=>cases r;rfl
 |int i=>obtain⟨t,rfl⟩:=r;rfl
 |str z=>obtain⟨t,rfl⟩:=r;rfl
 |_=>exact absurd (show false=true from f) Zp
theorem yg {x:V}:∀ {xs:List V} {us:List Value},Vals xs us->xs.all uD=true->us.any (Qg x)=xs.any λy=>Zr y x
 |_,_,.nil,_=>rfl
 |y::xs,u::us,.cons r t,f=>by
  rw[jn,ZE] at f;rw[List.any_cons,List.any_cons,V3 r f.1,yg t f.2]
theorem uQ {A:Around} {s:Shared} {x:V} {v:Value} (rx:RelV x v) (fx:uD x=true):∀ {xs:List V} {us:List Value},Vals xs us->xs.all uD=true->∀ u∈us,SeqAt.EqAt A s u v (Qg x u)
 |_,_,.nil,_=>λu hu=>by cases hu
 |y::xs,u::us,.cons r t,f=>λu' hu=>by
  rw[jn,ZE] at f;rcases List.mem_cons.mp hu with rfl|hu
  ·rw[V3 r f.1];exact acN r rx f.1 fx
  ·exact uQ rx fx t f.2 u' hu
def inV (x:V) (xs:List V):Bool:=xs.any λy=>Zr y x
def rIn (K:FG_) (neg:Bool):R2:=λx y H Q=>∃ p xs,y=.ref p/\(rY K H p xs\/xX K H p xs)/\uD x=true/\xs.all uD=true/\Q (.bl (if neg then !inV x xs else inV x xs)) H
theorem T6:uL X (compareOp .In) (rIn X.K false):=by
 intro pins s σ H x y v u Q I rx ry h;obtain⟨p,xs,rfl,hq,fx,fs,q⟩:=h;cases ry;rcases hq with hq|hq
 ·obtain⟨its,r,pl,hz⟩:=I.list hq;refine SeqAt.in_listAt (Qg x) pl.isList (λw hw=>uQ rx fx r fs w (by simpa using hw)) ⟨.bl _,H,I,rfl,?_⟩;rw[show its.toArray.any (Qg x)=its.any (Qg x) by simp,yg r fs];exact q
 ·obtain⟨its,r,pl,hz⟩:=I.tuple hq;refine SeqAt.in_tupleAt (Qg x) pl (λw hw=>uQ rx fx r fs w (by simpa using hw)) ⟨.bl _,H,I,rfl,?_⟩;rw[show its.toArray.any (Qg x)=its.any (Qg x) by simp,yg r fs];exact q
theorem Jw:uL X (compareOp .NotIn) (rIn X.K true):=by
 intro pins s σ H x y v u Q I rx ry h;obtain⟨p,xs,rfl,hq,fx,fs,q⟩:=h;cases ry;rcases hq with hq|hq
 ·obtain⟨its,r,pl,hz⟩:=I.list hq;refine SeqAt.notIn_listAt (Qg x) pl.isList (λw hw=>uQ rx fx r fs w (by simpa using hw)) ⟨.bl _,H,I,rfl,?_⟩;rw[show its.toArray.any (Qg x)=its.any (Qg x) by simp,yg r fs];exact q
 ·obtain⟨its,r,pl,hz⟩:=I.tuple hq;refine SeqAt.notIn_tupleAt (Qg x) pl (λw hw=>uQ rx fx r fs w (by simpa using hw)) ⟨.bl _,H,I,rfl,?_⟩;rw[show its.toArray.any (Qg x)=its.any (Qg x) by simp,yg r fs];exact q
theorem Jx:uL X (compareOp .NotIn) (λx y H Q=>∃ i j,x=.str i/\y=.str j/\Q (.bl (!(!(Builtin.Str.occurrences j i 0 j.length 1).isEmpty))) H):=by
 intro pins s σ H x y v u Q I rx ry h;obtain⟨i,j,rfl,rfl,q⟩:=h;obtain⟨t,rfl⟩:=rx;obtain⟨t',rfl⟩:=ry;exact notIn_str ⟨.bl _,H,I,rfl,q⟩
theorem Jy:fj X (.builtin "len") (λxs H Q=>∃ p ys,xs=[.ref p]/\(rY X.K H p ys\/xX X.K H p ys)/\Q (.int ys.length) H):=by
 intro pins s σ H xs us Q I r h;obtain⟨p,ys,rfl,hq,q⟩:=h;obtain⟨u,rfl,rx⟩:=vals1 r;cases rx;have hn:=zy;rcases hq with hq|hq
 ·obtain⟨its,r',pl,hz⟩:=I.list hq;have hlen:=r'.length;exact Calls.call_len_list pl.isList (by simp only[zt]<;>omega) ⟨.int ys.length,H,I.tok _,⟨s.toks+1,by rw[zt,hlen]⟩,q⟩
 ·obtain⟨its,r',pl,hz⟩:=I.tuple hq;have hlen:=r'.length;exact len_tuple pl (by simp only[zt]<;>omega) ⟨.int ys.length,H,I.tok _,⟨s.toks+1,by rw[zt,hlen]⟩,q⟩
theorem Jz:fj X (.builtin "len") (λxs H Q=>∃ z,xs=[.str z]/\z.length<=sizeLine/\Q (.int z.length) H):=by
 intro pins s σ H xs us Q I r h;obtain⟨z,rfl,hz,q⟩:=h;obtain⟨u,rfl,t,rfl⟩:=vals1 r;have hn:=zy;exact len_str (by omega) ⟨.int z.length,H,I.tok _,⟨_,rfl⟩,q⟩
theorem fj.or {f:Value} {r r':List V->Hp->VK->Prop} (h:fj X f r) (h':fj X f r'):fj X f (λxs H Q=>r xs H Q\/r' xs H Q):=by
 intro pins s σ H xs us Q I rs q;rcases q with q|q
 ·exact h pins s σ H xs us Q I rs q
 ·exact h' pins s σ H xs us Q I rs q
theorem JB:fj X (.type "list") (λxs H Q=>∃ p ys,xs=[.ref p]/\(rY X.K H p ys\/xX X.K H p ys)/\∀ l,H l=none->Q (.ref l) (upd H l (.lst ys))):=by
 intro pins s σ H xs us Q I r h;obtain⟨p,ys,rfl,hq,q⟩:=h;obtain⟨u,rfl,rx⟩:=vals1 r;cases rx;have fin:∀ (its:List Value),Vals ys its->ys.length<=sizeLine->∀ (h':Heap) (c':Nat),(∀ b o',s.heap.get? b=some o'->h'.get? b=some o') →
   h'.get? s.heap.objs.size=some { cls:=.type "list", dict:=none,data:=.seq its.toArray c',slots:=#[] }->EP X pins σ Q (.ref s.heap.objs.size) { s with heap:=h' }:=λits r' hz h' c' kp e=>
  ⟨.ref s.heap.objs.size,_,I.laid (t':=s.toks) kp (zi _) (show jP X.prog X.w _ h' _ (.lst ys) from⟨hz,its,c',r',e⟩),rfl,q _ (I.hok.fresh (zi _))⟩
 rcases hq with hq|hq
 ·obtain⟨its,r',pl,hz⟩:=I.list hq;have hlen:=r'.length;obtain⟨o,ho,hc,n,hd⟩:=pl.isList;exact call_list_seq p (.inl rfl) ho hc hd (λh' c' kp e=>fin its r' hz h' c' kp e) (by simp only[zt]<;>omega)
 ·obtain⟨its,r',pl,hz⟩:=I.tuple hq;have hlen:=r'.length;obtain⟨o,ho,hc,n,hd⟩:=pl;exact call_list_seq p (.inr rfl) ho hc hd (λh' c' kp e=>fin its r' hz h' c' kp e) (by simp only[zt]<;>omega)
theorem Gx:fj X (.type "tuple") (λxs H Q=>∃ p ys,xs=[.ref p]/\((rY X.K H p ys/\∀ l,H l=none->Q (.ref l) (upd H l (.tup ys)))\/(xX X.K H p ys/\Q (.ref p) H))):=by
 intro pins s σ H xs us Q I r h;obtain⟨p,ys,rfl,h⟩:=h;obtain⟨u,rfl,rx⟩:=vals1 r;cases rx;rcases h with⟨hq,q⟩|⟨hq,q⟩
 ·obtain⟨its,r',pl,hz⟩:=I.list hq;have hlen:=r'.length;refine call_tuple_list pl.isList (λh' kp=>?_) (by simp only[zt]<;>omega);have I1:Inv X pins σ H { s with heap:=h' }:=I.kept (t':=s.toks) kp;have I2:Inv X pins σ (upd H h'.objs.size (.tup ys)) { s with heap:=h'.push { cls:=.type "tuple", data:=.seq its.toArray } }:=
   I1.laid (t':=s.toks) (λb o e=>ze _ e) (zi _) (show jP X.prog X.w _ _ _ (.tup ys) from⟨hz,its,r',pC.new _ _⟩)
  exact⟨.ref h'.objs.size,_,I2,rfl,q _ (I1.hok.fresh (zi _))⟩
 ·obtain⟨its,r',pl,hz⟩:=I.tuple hq;exact call_tuple_same pl ⟨.ref p,H,I,rfl,q⟩
def tyV (K:FG_) (T:String) (x:V) (H:Hp):Prop:=match x with
 |.str _=>T = "str"
 |.int _=>T = "int"
 |.ref p=>(T = "list" ∧ ∃ xs,rY K H p xs)\/(T = "tuple" ∧ ∃ o,K.lookup p=some o/\o.cls=.type "tuple" ∧ o.dict=none) ∨
   (T = "dict" ∧ ((∃ kvs,H p=some (.dK kvs))\/∃ kvs,H p=some (.dT kvs)))\/(T = "set" ∧ ∃ S n,H p=some (.set S n))
 |_=>False
theorem acO {σ:St} {H:Hp} {T:String} {x:V} (I:Inv X pins σ H s) (r:RelV x v) (ty:tyV X.K T x H) :
  s.TypeIs v T/\∀ a,v=.ref a->∃ ob,s.heap.get? a=some ob/\ob.dict=none:=by
 cases x with
 |str z=>
  obtain⟨t,rfl⟩:=r;cases(show T = "str" from ty);exact⟨typeIs_str s z t,λ_ e=>nomatch e⟩
 |int i=>
  obtain⟨t,rfl⟩:=r;cases(show T = "int" from ty);exact⟨typeIs_int s i t,λ_ e=>nomatch e⟩
 |ref p=>
  cases r;rcases ty with⟨rfl,xs,hq⟩|⟨rfl,o,hk,hc,hd⟩|⟨rfl,hk⟩|⟨rfl,S,n,hk⟩
  ·obtain⟨its,_,pl,_⟩:=I.list hq;refine⟨pl.isList.typeIs,λa e=>?_⟩;cases e;obtain⟨o,n,e,c,hd,_⟩:=pl;exact⟨o,e,hd⟩
  ·refine⟨⟨o,I.kIn p o hk,hc⟩,λa e=>?_⟩;cases e;exact⟨o,I.kIn _ o hk,hd⟩
  ·have z:∃ o,s.heap.get? p=some o/\o.ExactDict:=by
    rcases hk with⟨kvs,hk⟩|⟨kvs,hk⟩
    ·obtain⟨_,_,_,_,o,_,_,e,ex,_⟩:=I.hok p _ hk;exact⟨o,e,ex⟩
    ·obtain⟨_,_,_,_,o,_,_,e,ex,_⟩:=I.hok p _ hk;exact⟨o,e,ex⟩
   obtain⟨o,e,ex⟩:=z;refine⟨⟨o,e,ex.1⟩,λa e2=>?_⟩;cases e2;exact⟨o,e,ex.2.1⟩
  ·obtain⟨o,_,_,_,e,ex,_⟩:=I.hok p _ hk;refine⟨⟨o,e,ex.1⟩,λa e2=>?_⟩;cases e2;exact⟨o,e,ex.2.1⟩
 |_=>exact False.elim ty
def tBM (K:FG_) (T:String) (r:V->List V->Hp->VK->Prop) (to:TE) (t:TA):TE:=λσ H Q=>to σ H λx H1=>tyV K T x H1/\t σ H1 λxs H2=>r x xs H2 Q
variable {o:Expr} {to:TE} {t:TA} {T id:String} {r:V->List V->Hp->VK->Prop}
theorem V4 (pa:PlainAttrs T) (slot:Slot T name id) (hty:typeOf (.builtin id)=pure (.type "method_descriptor")) (hm:MtR X id r) (ho:PE X o to) (ha:PA X (e::es) t)
  (hbase:attributeBase o name X.env (eval o X.env)=eval o X.env:=by rfl)
  (hfew:((backTo cpos (starEach (e::es) X.env)).all (λx=>!x.1)&&(backToKw cpos (keywordEach [] X.env)).all (λx=>x.1.isSome)
   && decide ((e::es).length+([]:List Keyword).length+(if([]:List Keyword).isEmpty then 0 else 1) < 30))=true:=by rfl)
  (hline:(apos.endLine==cpos.line)=true:=by rfl) (hs:starEach (e::es) X.env=(false,eval e X.env)::starEach es X.env:=by rfl) (hplain:(backTo cpos (starEach es X.env)).any (·.1)=false:=by rfl) :
  PE X (.Call (.Attribute o name apos) (e::es) [] cpos) (tBM X.K T r to t):=by
 intro pins s σ H Q I h;refine wpAny_Call_method_late hbase hfew hline rfl (jq (ho pins s σ H _ I h) λv s1 ⟨x,H1,I1,r1,ty,q1⟩=>?_);obtain⟨h1,h2⟩:=acO I1 r1 ty;refine⟨T,id,pa,slot,hty,h1,h2,?_⟩;have hA:=ha cpos pins s1 σ H1 _ I1 q1;rw[hs] at hA ⊢;refine Calls.callWith_builtin (by show(false||(backTo cpos (starEach es X.env)).any (·.1))=false;rw[hplain]<;>rfl) (Calls.evalArgs_plain ?_);exact jq hA λus s2 ⟨vs,H2,I2,r2,q2⟩=>hm pins s2 σ H2 x vs v us Q I2 r1 r2 q2
end
end L2
namespace L2
def MtM (X:Cx) (id:String) (r:V->List V->Hp->VK->Prop):Prop:=
 ∀ (pins:List (Addr×Obj)) (s:Shared) (σ:St) (H:Hp) (x:V) (xs:List V) (v:Value) (us:List Value) (Q:VK),Inv X pins σ H s->RelV x v->Vals xs us->r x xs H Q →
  wpAny (model X.prog X.w) X.A (call (.builtin id) (v::us)) (EP X pins σ Q) X.xe s
theorem Vals.one:∀ {x:V} {us:List Value},Vals [x] us->∃ u,us=[u]/\RelV x u
 |_,_,.cons r .nil=>⟨_,rfl,r⟩
theorem Vals.two:∀ {x y:V} {us:List Value},Vals [x,y] us->∃ u v,us=[u,v]/\RelV x u/\RelV y v
 |_,_,_,.cons r (.cons q .nil)=>⟨_,_,rfl,r,q⟩
section
variable {X:Cx} {σ:St} {H:Hp} {b:Addr} {xs ys zs:List V}
theorem Inv.acP {its':List Value} {f:Array Value->Array Value} {t':Nat} (I:Inv X pins σ H s) (hH:H l=some (.lst xs)) (e:s.heap.get? l=some { cls:=.type "list", data:=.seq its.toArray n }) (hf:f its.toArray=its'.toArray) (hv:Vals ys its') (hz:ys.length<=sizeLine) :
  Inv X pins σ (upd H l (.lst ys)) { s with heap:=s.heap.update l (Obj.mapSeq f),toks:=t' }:=by
 have q:=PySem.IsL.update e f;rw[hf] at q;refine I.write (x:=l) (e:=l) (by rw[hH];exact trivial) (.inl rfl) (λb' u hb hu=>(Heap.get?_update_other s.heap (Obj.mapSeq f) (kv hb)).trans hu) ⟨_,q⟩ ?_;exact⟨hz,its',_,hv,q⟩
theorem Inv.agO (I:Inv X pins σ H s) (hH:H l=some (.lst xs)):xs.length<=sizeLine/\∃ (its:List Value) (n:Nat),Vals xs its/\xs.length=its.length/\s.heap.get? l=some { cls:=.type "list", data:=.seq its.toArray n }:=by
 obtain⟨z,its,n,r,e⟩:=I.hok l _ hH;exact⟨z,its,n,r,r.length,e⟩
end
section
variable {X:Cx}
def Zt:V->List V->Hp->VK->Prop:=λx vs H Q=>∃ l xs y,x=.ref l/\vs=[y]/\H l=some (.lst xs)/\xs.length < sizeLine/\Q .non (upd H l (.lst (xs++[y])))
theorem HS:MtM X "list.append" Zt:=by
 intro pins s σ H x vs v us Q I rx rv h;obtain⟨l,xs,y,rfl,rfl,hH,hz,q⟩:=h;cases rx;obtain⟨u,rfl,ru⟩:=rv.one;obtain⟨z,its,n,r,hl,e⟩:=I.agO hH;refine call_meets F.slot_list_append ⟨_,e,rfl⟩ F.entry_list_append (F.args_list_append_2 _ _) (PySem.list_append l its.toArray n u (by rw[zt];omega)) ⟨e,?_⟩;refine⟨.non,_,I.acP (its':=its++[u]) hH e (by simp) (r.append (.cons ru .nil)) ?_,rfl,q⟩;rw[zl,List.length_singleton];omega
end
section
variable {X:Cx}
end
end L2
namespace L2
section
variable [DecidableEq κ]
end
theorem aeQ {k:Key} (r:RelV (kV k) u):(cH P w).is k u=true:=by
 cases k with
 |inl i=>obtain⟨t,e⟩:=(show ∃ t,u=Value.int i t from r);subst e;exact Lz P w i t
 |inr x=>obtain⟨t,e⟩:=(show ∃ t,u=Value.str x t from r);subst e;exact LC P w x t
section
variable {H:Hp}
theorem aeR {u:HO} (ok:Ae P w H h) (e:Rd H a u):jP P w H h a u:=e.ok ok
theorem HW {kvs:List (Key×V)} (ok:Ae P w H h) (e:Rd H a (.dK kvs)):kvs.length<=sizeLine/\(a==sysModules)=false/\∃ vs,KV kvs vs/\h.DictOf (cH P w) a vs:=
 show jP P w H h a (.dK kvs) from aeR ok e
end
section
variable {X:Cx} {σ:St} {H:Hp} {y v:V} {r:Value} {o:Option V}
end
section
variable {X:Cx} {σ:St} {H:Hp} {kvs:List (Key×V)} {k:Key}
end
section
variable {X:Cx} {o i value:Expr} {pos':Pos} {td ty tv:TE}
end
section
variable {X:Cx}
end
structure M1 (X:Cx) (o:Expr) (m:Str) (apos:Pos) (e:Expr) (cpos:Pos):Prop where
 base:attributeBase o m X.env (eval o X.env)=eval o X.env
 few:((backTo cpos (starEach [e] X.env)).all (λx=>!x.1)&&(backToKw cpos (keywordEach [] X.env)).all (λx=>x.1.isSome)
  && decide (([e]:List Expr).length+([]:List Keyword).length+(if([]:List Keyword).isEmpty then 0 else 1) < 30))=true
 line:(apos.endLine==cpos.line)=true
 trees:backTo cpos (starEach [e] X.env)=[(false,eval e X.env)]
structure M2 (X:Cx) (o:Expr) (m:Str) (apos:Pos) (e f:Expr) (cpos:Pos):Prop where
 base:attributeBase o m X.env (eval o X.env)=eval o X.env
 few:((backTo cpos (starEach [e,f] X.env)).all (λx=>!x.1)&&(backToKw cpos (keywordEach [] X.env)).all (λx=>x.1.isSome)
  && decide (([e,f]:List Expr).length+([]:List Keyword).length+(if([]:List Keyword).isEmpty then 0 else 1) < 30))=true
 line:(apos.endLine==cpos.line)=true
 trees:backTo cpos (starEach [e,f] X.env)=[(false,eval e X.env),(false,eval f X.env)]
section
variable {X:Cx} {σ:St} {H:Hp} {y d:V} {r:Value} {o:Option V}
end
section
variable {X:Cx} {o f:Expr} {td ty tx:TE}
end
section
variable {X:Cx} {σ:St} {H:Hp} {kvs:List (Key×V)}
end
section
variable {X:Cx} {σ:St} {H:Hp} {y:V}
end
end L2
namespace Att
open PySem PySem.W PySem.Calls PyProof.Rows
theorem Bk {P:Params}:∀ (ns:List Int) (vs:List Value),WellAll P h vs (ns.map WData.int)->IntsAre vs ns:=by
 intro ns
 induction ns with
 |nil=>
  intro vs w;rw[j0] at w;cases w;exact .nil
 |cons n ns ih=>
  intro vs w;rw[zC] at w;cases w with
  |cons a b=>
   cases a;exact .cons _ _ (ih _ b)
theorem T7 {l:OpenLaw} (hn:l.most=some n) {P:Params} {args:List WData} {vals:List Value} (hpre:l.row.toRowW.claim.pre args=true) (hwl:WellAll P h vals args) :
  ∃ a vs ns,vals=[Value.ref a]/\args=[WData.list (ns.map WData.int)]/\h.get? a=some { cls:=.type "list", data:=.seq vs.toArray }/\IntsAre vs ns/\ns.length<=n:=by
 have hsh:WShape.hasAll [] args [.list .int]=true:=(pre_splitW hpre).1;have hc:l.pre.holds [] { args:=args }=true:=(pre_splitW hpre).2;obtain⟨d,r,rfl,h1,h2⟩:=hasAllW_cons hsh;obtain rfl:=hasAllW_nil h2;obtain⟨xs,rfl,h3⟩:=hasW_list h1;obtain⟨ns,rfl⟩:=items_int h3;have hlen:ns.length<=n:=by
  unfold OpenLaw.pre at hc;have h4:(WTm.not (.lt (.lit (.int (n:Int))) (.len (.arg 0)))).holds [] { args:=[.list (ns.map .int)] }=true:=by
   have h4:=(holds_andW hc).1;rw[hn] at h4;exact h4
  have h5:=condW_of h4 (w_not (w_lt w_lit (w_len_list (w_arg rfl))));rw[zg] at h5;refine Nat.le_of_not_lt λq=>?_;have q':(n:Int) < ((ns.length:Nat):Int):=by omega
  first
   |(rw[zS q'] at h5;exact absurd h5 (by decide))
   |(simp at h5;omega)
 cases hwl with
 |cons w1 w2=>
  cases w2;cases w1 with
  |list ho hall=>exact⟨_,_,ns,rfl,rfl,ho,Bk ns _ hall,hlen⟩
theorem T8 (l:OpenLaw) (args:List WData):l.row.toRowW.claim.post args (.bool true) args=true:=
 postW_of (r:=l.row.toRowW) (X:=(true==true))
  (show WShape.has [] (.bool true) .bool=true by first|rfl|decide|simp[WShape.has,WShape.arms,WShape.armsAll])
  (show(WTm.eq .res (.lit (.bool true))).value [] { args:=args,res:=some (.bool true),after:=args }=some (.bool (true==true)) from w_eq_bool (w_res rfl) w_lit) rfl
theorem Mf {l:OpenLaw} {q:Program} {loose:LS_} {d:DefRec} (hn:l.most=some n) (hdf:d.params.defaults=[]) (call:∀ (w:World) (s₀ s₁:Shared) (mg mb:Str->Option Value) (fa:Addr) (o:Obj) (pm cd doc:Value) (a:Addr) (vs:List Value) (ns:List Int),
   Ground q loose [] XP w s₀ mg mb s₁.heap->YP w s₁.heap →
   s₁.heap.get? fa=some o->o.data=.func (docDef d.name d.params d.body d.scope pm cd doc)->s₁.heap.CodeRec cd d.name->mg d.name=some (.ref fa) →
   s₁.heap.get? a=some { cls:=.type "list", data:=.seq vs.toArray }->IntsAre vs ns->ns.length<=n->s₁.gens=#[] →
   codeAny (model l.prog w) callerA (.call (.ref fa) ⟨[.ref a],[]⟩) (λr s'=>r=.ok (.ret (.bool true))/\OldK s₁.heap s'.heap/\s'.os=s₁.os/\AllBare s'.gens) s₁) :
  WalkO q loose XP YP l.row.toRowW d [] (λf vs=>PySem.call f vs):=by
 intro w s₀ s₁ mg mb G Y fa o pm cd doc dV kV ho hd hcd hD hmg hg args vals as hpre hlay hrd hwl hlo;obtain rfl:dV=.none:=Dflts.none hD hdf;obtain rfl:kV=.none:=Dflts.noKw hD;obtain⟨a,vs,ns,rfl,rfl,hobj,hints,hlen⟩:=T7 hn hpre hwl;refine enter_call (ki (call w s₀ s₁ mg mb fa o pm cd doc a vs ns G Y ho (fd_plain hd) hcd hmg hobj hints hlen hg) λr s' hq=>?_);obtain⟨rfl,h2,h3,h4⟩:=hq;exact⟨.inl ⟨.bool true,.bool true,[],rfl,λ_=>rfl,.bool true,T8 l _,λ_=>⟨k9,λ_ hm=>(nomatch hm)⟩⟩,h2,h3,h4⟩
section
variable {K:Frag}
end
end Att
namespace L2
theorem vV:∀ {vs:List Value} {ns:List Int},IntsAre vs ns->Vals (ns.map V.int) vs
 |_,_,.nil=>.nil
 |_,_,.cons n t h=>.cons ⟨t,rfl⟩ (vV h)
def Only (H:Hp):Prop:=∀ b,H b=none\/∃ o xs,H b=some (.Jo o (.lst xs))
theorem V5 {mb:Str->Option Value} {CX:Vq} {fa:Addr} {sp:Sp} {s₁:Shared} {vs:List Value} {ns:List Int} (KX:K.In s₁.heap) (hns:s₁.heap.Ns mainGlobals mg) (hb:s₁.heap.Ns builtinsNs mb) (hbb:∀ x:Str,x ≠ "__name__" → mb x=bootBuiltins x) (hlim:s₁.heap.NoLimit) (hg:s₁.gens=#[]) (ha:s₁.heap.get? a=some { cls:=.type "list", data:=.seq vs.toArray }) (hi:IntsAre vs ns) (hl:ns.length<=sizeLine) (hr:oM k callerA) (F:∀ base:Heap,K.In base->base.Ns mainGlobals mg->Bh P w K mg base CX k fa fd [x] sp) (hbind:∀ (s:Shared) (u:Value),BindsTo s fd ⟨[u],[]⟩ [(x,u)]) (hsp:∀ H:Hp,Only H->rY K H a (ns.map V.int)->sp [.ref a] H (λv _=>v=.bl true) λ_ _ _=>False) (hCX:∀ H e s',CX [] H s₁ (λ_ _ _=>False) e s'->False) :
  codeAny (model P w) callerA (.call (.ref fa) ⟨[.ref a],[]⟩) (λr s'=>r=.ok (.ret (.bool true))/\OldK s₁.heap s'.heap/\s'.os=s₁.os/\AllBare s'.gens) s₁:=by
 have rv:=vV hi;have lenV:=hi.length;have core:∀ H:Hp,Only H->rY K H a (ns.map V.int)->Ae P w H s₁.heap->(∀ b,H b≠none->b=a)->(H a≠none->K.lookup a=none) →
   codeAny (model P w) callerA (.call (.ref fa) ⟨[.ref a],[]⟩) (λr s'=>r=.ok (.ret (.bool true))/\OldK s₁.heap s'.heap/\s'.os=s₁.os/\AllBare s'.gens) s₁:=by
  intro H hO hS hok hA hK;have RM:∀ {b:Addr} {o:Obj},s₁.heap.get? b=some o->H b=none->(Jq s₁.heap H).get? b=some o:=λe n=>Vw e n;have noA:∀ {b:Addr} {o:Obj} {es:Array DictEntry} {ep:Nat},s₁.heap.get? b=some o->o.data=.dict es ep->H b=none:=λ{b o es ep} e d=>by
   cases q:H b with
   |none=>rfl
   |some u=>
    have e':b=a:=hA b (by rw[q];simp);subst e';rw[ha] at e;cases e;have d':Data.seq vs.toArray _=Data.dict es ep:=d;cases d'
  have nsK:∀ {b:Addr} {m:Str->Option Value},s₁.heap.Ns b m->(Jq s₁.heap H).Ns b m:=λ{b m} ⟨o,es,ep,e,d,r⟩=>⟨o,es,ep,RM e (noA e d),d,r⟩;have hKb:K.In (Jq s₁.heap H):=λb o e=>RM (KX b o e) (by
   cases q:H b with
   |none=>rfl
   |some u=>
    have e':b=a:=hA b (by rw[q];simp);subst e';rw[hK (by rw[q];simp)] at e;cases e)
  have hM:Mod K mg (Jq s₁.heap H):=⟨hKb,nsK hns,⟨mb,nsK hb,hbb⟩,let ⟨mc,h1,h2⟩:=hlim;⟨mc,nsK h1,h2⟩⟩;have e0:Zd P w K mg (Jq s₁.heap H) callerA [] s₁ H:=⟨rfl,hM,λb o e=>YX e,Nat.le_of_eq (TF _ _),trivial,λb hb=>absurd (show b∈([]:List Addr) from hb) (by simp),hok,.of_eq hg⟩;refine ki ((F _ hKb (nsK hns)).run callerA [] s₁ H ⟨[.ref a],[]⟩ [.ref a] [.ref a] _ _ hr e0 (hbind s₁ (.ref a)) (.cons rfl .nil) (hsp H hO hS)) λr s' h=>?_;cases r with
  |error e=>exact(hCX H e s' h).elim
  |ok fl=>
   cases fl with
   |next=>exact False.elim h
   |brk=>exact False.elim h
   |cont=>exact False.elim h
   |ret u=>
    obtain⟨v,H',os,bare,un,hok',r',q⟩:=h;have q':v=.bl true:=q;subst q';obtain rfl:u=Value.bool true:=r';refine⟨rfl,OldK.of_keep λb o e=>?_,os,bare⟩;cases q:H b with
    |none=>exact un.keep b o e q (by intro z;exact absurd (show b∈([]:List Addr) from z) (by simp)) (by simp)
    |some u=>
     rcases hO b with z|⟨ob,xs,z⟩
     ·rw[q] at z;cases z
     ·have z2:=un.Gu b ob _ z;obtain⟨e1,_⟩:=hok b _ z;obtain⟨e2,_⟩:=hok' b _ z2;rw[e] at e1;cases e1;exact e2
 cases hk:K.lookup a with
 |some o=>
  have e:=KX a o hk;rw[ha] at e;cases e;refine core (λ_=>none) (λ_=>.inl rfl) (.inr ⟨_,vs.toArray,_,hk,rfl,rfl,rfl,by rw[zt,lenV];exact hl,by simpa using rv⟩) (λb u z=>by have z':(none:Option HO)=some u:=z;cases z') (λb z=>absurd rfl z) λz=>absurd rfl z
 |none=>
  refine core (λb=>if b=a then some (.Jo { cls:=.type "list", data:=.seq vs.toArray } (.lst (ns.map V.int))) else none) (λb=>?_) (.inl (.inr ⟨{ cls:=.type "list", data:=.seq vs.toArray },zr rfl⟩)) (λb u z=>?_) (λb z=>?_) λ_=>hk
  ·by_cases hb:b=a
   ·exact .inr ⟨_,_,zr hb⟩
   ·exact .inl (zz hb)
  ·by_cases hb:b=a
   ·have z':=(zr hb).symm.trans z;cases z';subst hb;exact⟨ha,by rw[zg];exact hl,vs,_,rv,ha⟩
   ·have z':=(zz hb).symm.trans z;cases z'
  ·by_cases hb:b=a
   ·exact hb
   ·exact absurd (zz hb) z
end L2
namespace L2
theorem Zu {l:PySem.W.OpenLaw} {q:Program} {loose:LS_} {d:DefRec} {K:Params->FG_} {CX:World->Vq} {sp:World->Sp} (hn:l.most=some n) (hn2:n<=sizeLine) (hdf:d.params.defaults=[]) (hr:oM k callerA) (hY:∀ (w:World) (h:Heap),YP w h->(K w.params).In h) (F:∀ (w:World) (mg:Str->Option Value) (fa:Addr) (h:Heap),(K w.params).In h->h.Ns mainGlobals mg->mg d.name=some (.ref fa) →
   ∃ fd:FuncData,(∀ (s:Shared) (u:Value),BindsTo s fd ⟨[u],[]⟩ [(x,u)]) ∧
    ∀ base:Heap,(K w.params).In base->base.Ns mainGlobals mg->Bh l.prog w (K w.params) mg base (CX w) k fa fd [x] (sp w)) (hsp:∀ (w:World) (H:Hp) (a:Addr) (ns:List Int),ns.length<=n->Only H->rY (K w.params) H a (ns.map V.int)->sp w [.ref a] H (λv _=>v=.bl true) λ_ _ _=>False) (hCX:∀ (w:World) (H:Hp) (s:Shared) (e:Value) (s':Shared),CX w [] H s (λ_ _ _=>False) e s'->False) :
  PySem.W.WalkO q loose XP YP l.row.toRowW d [] (λf vs=>PySem.call f vs):=by
 refine Att.Mf hn hdf λw s₀ s₁ mg mb fa o pm cd doc a vs ns G Y ho hd hcd hmg hobj hints hlen hg=>?_;have KX:=hY w _ Y;obtain⟨fd,hb,hF⟩:=F w mg fa _ KX G.T.g hmg;exact V5 KX G.T.g G.T.b G.T.builtins G.T.nolimit hg hobj hints (zD hlen hn2) hr hF hb (λH hO hS=>hsp w H a ns hlen hO hS) λH e s'=>hCX w H s₁ e s'
theorem V6 {l:PySem.W.OpenLaw} {q:Program} {loose:LS_} {d:DefRec} {K:Params->FG_} {CX:Vq} {sp:FG_->Sp} (hn:l.most=some n) (hn2:n<=sizeLine) (hdf:d.params.defaults=[]) (hr:oM k callerA) (hY:∀ (w:World) (h:Heap),YP w h->(K w.params).In h) (F:∀ (w:World) (mg:Str->Option Value) (fa:Addr) (h:Heap),(K w.params).In h->h.Ns mainGlobals mg->mg d.name=some (.ref fa) →
   ∃ fd:FuncData,(∀ (s:Shared) (u:Value),BindsTo s fd ⟨[u],[]⟩ [(x,u)]) ∧
    ∀ base:Heap,(K w.params).In base->base.Ns mainGlobals mg->Bh l.prog w (K w.params) mg base CX k fa fd [x] (sp (K w.params))) (hsp:∀ (K:FG_) (H:Hp) (a:Addr) (ns:List Int),ns.length<=n->Only H->rY K H a (ns.map V.int)->sp K [.ref a] H (λv _=>v=.bl true) λ_ _ _=>False) (hCX:∀ (H:Hp) (s:Shared) (e:Value) (s':Shared),CX [] H s (λ_ _ _=>False) e s'->False) :
  PySem.W.WalkO q loose XP YP l.row.toRowW d [] (λf vs=>PySem.call f vs):=
 Zu (K:=K) (CX:=λ_=>CX) (sp:=λw=>sp (K w.params)) hn hn2 hdf hr hY F (λw H a ns h1 h2 h3=>hsp (K w.params) H a ns h1 h2 h3) λ_ H s e s'=>hCX H s e s'
end L2
namespace L2
def su (s:Stmt):Arguments:=match s with
 |.FunctionDef _ a _ _ _ _ _ _ _ _=>a
 |_=>{ posonlyargs:=[],args:=[],vararg:=none,kwonlyargs:=[],kw_defaults:=[],kwarg:=none,defaults:=[] }
def jH (s:Stmt):List Stmt:=match s with
 |.FunctionDef _ _ b _ _ _ _ _ _ _=>b
 |_=>[]
def aK (s:Stmt):Scope:=match s with
 |.FunctionDef _ _ _ _ _ _ sc _ _ _=>sc
 |_=>{ kind:=.function,names:=[],isGenerator:=false,isCoroutine:=false }
abbrev T9:Vq:=λ_ _ _ _ _ _=>False
abbrev E0:XK:=λ_ _ _=>False
theorem aeT {X:Cx}:Passes T9 X E0:=λ_ _ _ _ _ _ _ h=>h.elim
structure Zv (K:FG_) (x qual:Str) (st:Stmt) (f:Addr) (fd:FuncData):Prop where
 ex:∃ (oc:Value) (od:Option Addr) (kV doc pm:Value) (an:Option Addr) (cdv ct:Value) (osl:Array (Option Value)),
  fd=fnOf x qual (su st) (jH st) (aK st) .none kV doc pm an cdv ct/\K.lookup f=some ⟨oc,od,.func fd,osl⟩/\codeIn K cdv qual=true
 kp:keepIn K (.ref f)=true
theorem Zv.ok {f:Addr} {sp:Sp} (F:Zv K x qual st f fd) (S:bF N ps (aK st)) (len:∀ vs H Q E,sp vs H Q E->vs.length=ps.length) (hbody:∀ (cdv:Value) (A:Around) (outer:List Env) (s:Shared) (H:Hp) (vs:List V) (Q:VK) (E:XK),oM k (A.deeper (envOfC qual (aK st) s.heap.objs.size f cdv))->sp vs H Q E →
   ∃ t,Ry (Gv T9 P w K mg base N qual (aK st) f cdv A outer s H E).nox (jH st) t/\t { nx:=λ_ H'=>Q .non H',rt:=Q } (start N vs) H):Bh P w K mg base T9 (k+1) f fd ps sp:=by
 obtain⟨oc,od,kV,doc,pm,an,cdv,ct,osl,rfl,lk,hcd⟩:=F.ex;refine aeJ lk hcd S len λA outer s H vs Q E hr hsp=>?_;obtain⟨t,h,q⟩:=hbody cdv A outer s H vs Q E hr hsp;exact⟨t,h.nox,q⟩
theorem Zv.binds {f:Addr} (F:Zv K x qual st f fd) (h:∀ (kV doc pm:Value) (an:Option Addr) (cdv ct:Value) (us:List Value),us.length=ps.length->bindArgs (fnOf x qual (su st) (jH st) (aK st) .none kV doc pm an cdv ct) ⟨us,[]⟩=pure (ps.zip us)):Binds K fd ps []:=by
 obtain⟨oc,od,kV,doc,pm,an,cdv,ct,osl,rfl,lk,hcd⟩:=F.ex;exact .all (h kV doc pm an cdv ct)
theorem V7 {f:Addr} {oc:Value} {od an:Option Addr} {kV doc pm cdv ct:Value} (l:K.lookup f=some ⟨oc,od,.func (fnOf x qual (su st) (jH st) (aK st) .none kV doc pm an cdv ct),osl⟩) (c:codeIn K cdv qual=true) (k:keepIn K (.ref f)=true):Zv K x qual st f (fnOf x qual (su st) (jH st) (aK st) .none kV doc pm an cdv ct):=⟨⟨oc,od,kV,doc,pm,an,cdv,ct,osl,rfl,l,c⟩,k⟩
section
variable {X:Cx}
theorem pv (i:Nat) (hN:X.N[i]?=some x:=by rfl) (hv:Vis X.env.scope x:=by first|exact Or.inl rfl|exact ku (Or.inl rfl)|exact ku (ku rfl)) (hd:(x==("__debug__" : Str))=false:=by decide) (hcd:(x==("__classdict__" : Str))=false:=by decide):PE X (.Name x pos) (aek i):=Jt hN hv hd hcd
end
def Same (H H':Hp):Prop:=∀ b o,H b=some o->H' b=some o
theorem Same.refl (H:Hp):Same H H:=λ_ _ h=>h
theorem Same.trans {H H1 H2:Hp} (a:Same H H1) (b:Same H1 H2):Same H H2:=λc o h=>b c o (a c o h)
theorem Same.free {H H':Hp} (e:Same H H') (h:H' l=Option.none):H l=Option.none:=by
 cases q:H l with
 |none=>rfl
 |some o=>
  rw[e l o q] at h;cases h
theorem Same.seq {H H':Hp} {xs:List V} (e:Same H H') (h:rY K H a xs):rY K H' a xs:=by
 rcases h with (h|⟨o,h⟩)|h
 ·exact .inl (.inl (e _ _ h))
 ·exact .inl (.inr ⟨o,e _ _ h⟩)
 ·exact .inr h
end L2
variable {xs:List L2.V} {H:L2.Hp} {o:L2.HO} {X:L2.Cx} {σ:L2.St} {ta te:L2.TE} {J:L2.It} {vs:List L2.V} {kvs:List (L2.Key×L2.V)} {sp:L2.Sp} {ks:List L2.Key} {zs:List (List L2.Key×Addr)} {H0 Hs:L2.Hp} {cR:List (List L2.Key)}
namespace P1
open L2
inductive Dt where
 |non|bl (b:Bool)|int (i:Int)|str (x:Str)|tup (xs:List Dt)|lst (xs:List Dt)|emp
inductive Bx where
 |z (d:Dt)|l (ds:List Dt)|o (ds:List Dt)|n (kvs:List (Key×Dt))|m (kvs:List (Key×Dt)) (w:Option Addr)
abbrev Ev:=List (Option Bx)
def FzL (K:FG_) (H:Hp) (a:Addr) (xs:List V):Prop:=
 (∃ o,H a=some (.Jo o (.lst xs))) ∨
  ∃ (o:Obj) (its:Array Value) (n:Nat),K.lookup a=some o/\o.cls=.type "list" ∧ o.dict=none/\o.data=.seq its n/\its.size<=sizeLine/\Vals xs its.toList
theorem FzL.sq (h:FzL K H a xs):rY K H a xs:=by
 rcases h with h|h
 ·exact .inl (.inr h)
 ·exact .inr h
mutual
def Rep (K:FG_) (H:Hp):Dt->V->Prop
 |.non,v=>v=.non
 |.bl b,v=>v=.bl b
 |.int i,v=>v=.int i
 |.str x,v=>v=.str x/\x.length<=sizeLine
 |.tup ds,v=>∃ a vs,v=.ref a/\xX K H a vs/\aM K H ds vs
 |.lst ds,v=>∃ a vs,v=.ref a/\FzL K H a vs/\aM K H ds vs
 |.emp,v=>∃ a o,v=.ref a/\H a=some (.Jo o (.dK []))
def aM (K:FG_) (H:Hp):List Dt->List V->Prop
 |[],vs=>vs=[]
 |d::ds,vs=>∃ v r,vs=v::r/\Rep K H d v/\aM K H ds r
end
structure Kp (H H':Hp):Prop where
 t:∀ a xs,H a=some (.tup xs)->H' a=some (.tup xs)
 f:∀ a o u,H a=some (.Jo o u)->H' a=some (.Jo o u)
theorem Kp.of {H':Hp} (s:Same H H'):Kp H H':=⟨λa _ h=>s a _ h,λa _ _ h=>s a _ h⟩
theorem Kp.sqT {H':Hp} (k:Kp H H') (h:xX K H a xs):xX K H' a xs:=by
 rcases h with (h|⟨o,h⟩)|h
 ·exact .inl (.inl (k.t _ _ h))
 ·exact .inl (.inr ⟨o,k.f _ _ _ h⟩)
 ·exact .inr h
theorem Kp.fzL {H':Hp} (k:Kp H H') (h:FzL K H a xs):FzL K H' a xs:=by
 rcases h with⟨o,h⟩|h
 ·exact .inl ⟨o,k.f _ _ _ h⟩
 ·exact .inr h
theorem Kp.lst (h:H a=some (.lst xs)):Kp H (upd H a o):=by
 refine⟨λb ys e=>?_,λb ob u e=>?_⟩
 ·rw[bA (CP e h (by intro z;cases z))];exact e
 ·rw[bA (CP e h (by intro z;cases z))];exact e
mutual
theorem Rep.kp {K:FG_} {H H':Hp} (k:Kp H H'):∀ {d:Dt} {v:V},Rep K H d v->Rep K H' d v
 |.non,_,h=>by simpa only[Rep] using h
 |.bl _,_,h=>by simpa only[Rep] using h
 |.int _,_,h=>by simpa only[Rep] using h
 |.str _,_,h=>by simpa only[Rep] using h
 |.tup ds,_,h=>by
  simp only[Rep] at h ⊢;obtain⟨a,vs,e,q,r⟩:=h;exact⟨a,vs,e,k.sqT q,aM.kp k r⟩
 |.lst ds,_,h=>by
  simp only[Rep] at h ⊢;obtain⟨a,vs,e,q,r⟩:=h;exact⟨a,vs,e,k.fzL q,aM.kp k r⟩
 |.emp,_,h=>by
  simp only[Rep] at h ⊢;obtain⟨a,o,e,q⟩:=h;exact⟨a,o,e,k.f _ _ _ q⟩
theorem aM.kp {K:FG_} {H H':Hp} (k:Kp H H'):∀ {ds:List Dt} {vs:List V},aM K H ds vs->aM K H' ds vs
 |[],_,h=>by simpa only[aM] using h
 |d::ds,_,h=>by
  simp only[aM] at h ⊢;obtain⟨v,r,e,q,t⟩:=h;exact⟨v,r,e,Rep.kp k q,aM.kp k t⟩
end
theorem aM.length {K:FG_} {H:Hp}:∀ {ds:List Dt} {vs:List V},aM K H ds vs->vs.length=ds.length
 |[],_,h=>by simp only[aM] at h;subst h;rfl
 |d::ds,_,h=>by
  simp only[aM] at h;obtain⟨v,r,rfl,_,t⟩:=h;simp[aM.length t]
theorem aM.nil {K:FG_} {H:Hp}:aM K H [] []:=by simp only[aM]
theorem aM.cons {K:FG_} {H:Hp} {d:Dt} {v:V} {ds:List Dt} {vs:List V} (h:Rep K H d v) (t:aM K H ds vs):aM K H (d::ds) (v::vs):=by
 simp only[aM];exact⟨v,vs,rfl,h,t⟩
theorem aM.append {K:FG_} {H:Hp}:∀ {ds es:List Dt} {vs us:List V},aM K H ds vs->aM K H es us->aM K H (ds++es) (vs++us)
 |[],_,_,_,h,t=>by simp only[aM] at h;subst h;exact t
 |d::ds,_,_,_,h,t=>by
  simp only[aM] at h;obtain⟨v,r,rfl,q,h⟩:=h;exact aM.cons q (aM.append h t)
theorem aM.drop {K:FG_} {H:Hp}:∀ (n:Nat) {ds:List Dt} {vs:List V},aM K H ds vs->aM K H (ds.drop n) (vs.drop n)
 |0,_,_,h=>h
 |n+1,[],_,h=>by simp only[aM] at h;subst h;exact aM.nil
 |n+1,d::ds,_,h=>by
  simp only[aM] at h;obtain⟨v,r,rfl,q,h⟩:=h;exact aM.drop n h
theorem aM.take {K:FG_} {H:Hp}:∀ (n:Nat) {ds:List Dt} {vs:List V},aM K H ds vs->aM K H (ds.take n) (vs.take n)
 |0,_,_,_=>aM.nil
 |n+1,[],_,h=>by simp only[aM] at h;subst h;exact aM.nil
 |n+1,d::ds,_,h=>by
  simp only[aM] at h;obtain⟨v,r,rfl,q,h⟩:=h;exact aM.cons q (aM.take n h)
theorem aM.get {K:FG_} {H:Hp}:∀ {ds:List Dt} {vs:List V} {i:Nat} {d:Dt},aM K H ds vs->ds[i]?=some d->∃ v,vs[i]?=some v/\Rep K H d v
 |[],_,_,_,_,e=>by simp at e
 |d::ds,_,0,_,h,e=>by
  simp only[aM] at h;obtain⟨v,r,rfl,q,h⟩:=h;simp at e;subst e;exact⟨v,rfl,q⟩
 |d::ds,_,i+1,_,h,e=>by
  simp only[aM] at h;obtain⟨v,r,rfl,q,h⟩:=h;obtain⟨u,e1,e2⟩:=aM.get h (i:=i) (by simpa using e);exact⟨u,by simpa using e1,e2⟩
def okK:Key->Prop
 |.inl _=>True
 |.inr x=>x.length<=sizeLine
def V8 (K:FG_) (H:Hp) (kvs:List (Key×Dt)) (ks:List (Key×V)):Prop:=ks.map (·.1)=kvs.map (·.1)/\aM K H (kvs.map (·.2)) (ks.map (·.2))/\∀ p∈kvs,okK p.1
theorem V8.kp {K:FG_} {H H':Hp} {kvs:List (Key×Dt)} {ks:List (Key×V)} (h:V8 K H kvs ks) (k:Kp H H'):V8 K H' kvs ks:=⟨h.1,h.2.1.kp k,h.2.2⟩
def bh (K:FG_) (H:Hp):Bx->V->Prop
 |.z d,v=>Rep K H d v
 |.l ds,v=>∃ a vs,v=.ref a/\Rd H a (.lst vs)/\aM K H ds vs
 |.o ds,v=>∃ a vs,v=.ref a/\H a=some (.lst vs)/\aM K H ds vs
 |.n kvs,v=>∃ a ks,v=.ref a/\Rd H a (.dK ks)/\V8 K H kvs ks
 |.m kvs w,v=>∃ a ks,v=.ref a/\H a=some (.dK ks)/\V8 K H kvs ks/\∀ b,w=some b->b=a
theorem bh.same {H':Hp} (s:Same H H') {b:Bx} {v:V} (h:bh K H b v):bh K H' b v:=by
 cases b with
 |z d=>exact Rep.kp (.of s) h
 |l ds=>
  obtain⟨a,vs,e,q,r⟩:=h;refine⟨a,vs,e,?_,r.kp (.of s)⟩;rcases q with q|⟨o,q⟩
  ·exact .inl (s _ _ q)
  ·exact .inr ⟨o,s _ _ q⟩
 |o ds=>
  obtain⟨a,vs,e,q,r⟩:=h;exact⟨a,vs,e,s _ _ q,r.kp (.of s)⟩
 |n kvs=>
  obtain⟨a,vs,e,q,r⟩:=h;refine⟨a,vs,e,?_,r.kp (.of s)⟩;rcases q with q|⟨o,q⟩
  ·exact .inl (s _ _ q)
  ·exact .inr ⟨o,s _ _ q⟩
 |m kvs _=>
  obtain⟨a,vs,e,q,r⟩:=h;exact⟨a,vs,e,s _ _ q,r.1.kp (.of s),r.2⟩
def uJ:Bx->Option (List Dt)
 |.z (.lst ds)=>some ds
 |.l ds=>some ds
 |.o ds=>some ds
 |_=>none
theorem bh.HX {b:Bx} {v:V} {ds:List Dt} (h:bh K H b v) (e:uJ b=some ds):∃ a vs,v=.ref a/\rY K H a vs/\aM K H ds vs:=by
 cases b with
 |z d=>
  cases d<;>first|(cases e;done)|skip;cases e;simp only[bh,Rep] at h;obtain⟨a,vs,e,q,r⟩:=h;exact⟨a,vs,e,q.sq,r⟩
 |l ds'=>
  cases e;obtain⟨a,vs,e,q,r⟩:=h;exact⟨a,vs,e,.inl q,r⟩
 |o ds'=>
  cases e;obtain⟨a,vs,e,q,r⟩:=h;exact⟨a,vs,e,.inl (.inl q),r⟩
 |n _=>cases e
 |m _ _=>cases e
abbrev yh (K:FG_) (H:Hp):List Bx->List V->Prop:=Paired (bh K H)
def Nw (H:Hp):Bx->V->Prop
 |.o _,v=>∀ a,v=.ref a->H a=none
 |.m _ _,v=>∀ a,v=.ref a->H a=none
 |_,_=>True
theorem Nw.old {H1:Hp} (s:Same H H1) {b:Bx} {v:V} (h:Nw H1 b v):Nw H b v:=by
 cases b with
 |o ds=>exact λa e=>s.free (h a e)
 |m ds _=>exact λa e=>s.free (h a e)
 |_=>trivial
def loose:Bx->Bool
 |.z _=>false
 |_=>true
def yj:Bx->Bool
 |.o _=>true
 |.m _ _=>true
 |_=>false
structure bV (K:FG_) (H0 H:Hp) (σ:L2.St) (ρ:Ev):Prop where
 len:σ.length=ρ.length
 val:∀ (i:Nat) b,ρ[i]?=some (some b)->∃ v,σ[i]?=some (some v)/\bh K H b v
 own:∀ (i j:Nat) c a b,ρ[i]?=some (some c)->yj c=true->σ[i]?=some (some (.ref a))->ρ[j]?=some (some b)->loose b=true->σ[j]?=some (some (.ref a))->i=j
 base:Same H0 H
 new:∀ (i:Nat) c a,ρ[i]?=some (some c)->yj c=true->σ[i]?=some (some (.ref a))->H0 a=none
theorem bV.grow {H':Hp} {ρ:Ev} (r:bV K H0 H σ ρ) (s:Same H H'):bV K H0 H' σ ρ:=
 ⟨r.len,λi b e=>let ⟨v,e1,h⟩:=r.val i b e;⟨v,e1,h.same s⟩,r.own,r.base.trans s,r.new⟩
def tF (K:FG_) (f:Ev->Option Bx):TE:=λσ H Q=>∃ H0 ρ b,bV K H0 H σ ρ/\f ρ=some b/\∀ v H',Same H H'->Nw H b v->bh K H' b v->Q v H'
def tFA (K:FG_) (f:Ev->Option (List Bx)):TA:=λσ H Q=>∃ H0 ρ bs,bV K H0 H σ ρ/\f ρ=some bs/\∀ vs H',Same H H'->yh K H' bs vs->Q vs H'
def Zw (K:FG_) (f:Ev->Option Bool):TT:=λσ H Q=>∃ H0 ρ b,bV K H0 H σ ρ/\f ρ=some b/\∀ H',Same H H'->Q b H'
def PV (X:Cx) (e:Expr) (f:Ev->Option Bx):Prop:=PE X e (tF X.K f)
structure QV (X:Cx) (e:Expr) (f:Ev->Option Bx):Prop where
 run:PV X e f
def PVs (X:Cx) (es:List Expr) (f:Ev->Option (List Bx)):Prop:=PA X es (tFA X.K f)
structure Vr (X:Cx) (es:List Expr) (f:Ev->Option (List Bx)):Prop where
 run:PVs X es f
def PB (X:Cx) (e:Expr) (f:Ev->Option Bool):Prop:=PT X e (Zw X.K f)
structure QB (X:Cx) (e:Expr) (f:Ev->Option Bool):Prop where
 run:PB X e f
theorem Bl {t t':TE} (h:PE X e t) (m:∀ σ H Q,t' σ H Q->t σ H Q):PE X e t':=λpins s σ H Q I q=>h pins s σ H Q I (m σ H Q q)
theorem paM {e:List Expr} {t t':TA} (h:PA X e t) (m:∀ σ H Q,t' σ H Q->t σ H Q):PA X e t':=λpos pins s σ H Q I q=>h pos pins s σ H Q I (m σ H Q q)
theorem ptM {t t':TT} (h:PT X e t) (m:∀ σ H Q,t' σ H Q->t σ H Q):PT X e t':=λpins s σ H Q I q=>h pins s σ H Q I (m σ H Q q)
theorem pwM {t t':TT} (h:PW X e t) (m:∀ σ H Q,t' σ H Q->t σ H Q):PW X e t':=λwh pins s σ H Q I q=>h wh pins s σ H Q I (m σ H Q q)
theorem psM {e:Stmt} {t t':TS} (h:PS X e t) (m:∀ D σ H,t' D σ H->t D σ H):PS X e t':=λpins s σ H D I q=>h pins s σ H D I (m D σ H q)
theorem acQ {e:List Stmt} {t t':TS} (h:Ry X e t) (m:∀ D σ H,t' D σ H->t D σ H):Ry X e t':=λpins s σ H D I q=>h pins s σ H D I (m D σ H q)
def rF (K:FG_) (g:Bx->Bx->Option Bx):R2:=λx y H Q=>∃ a b c,bh K H a x/\bh K H b y/\g a b=some c/\∀ w H',Same H H'->Nw H c w->bh K H' c w->Q w H'
def rF1 (K:FG_) (g:Bx->Option Bx):V->Hp->VK->Prop:=λx H Q=>∃ a c,bh K H a x/\g a=some c/\∀ w H',Same H H'->Nw H c w->bh K H' c w->Q w H'
def rFs (K:FG_) (g:List Bx->Option Bx):List V->Hp->VK->Prop:=λxs H Q=>∃ bs c,yh K H bs xs/\g bs=some c/\∀ w H',Same H H'->Nw H c w->bh K H' c w->Q w H'
abbrev yp (X:Cx) (f:Value->Value->Sem Value) (g:Bx->Bx->Option Bx):Prop:=uL X f (rF X.K g)
abbrev UnF (X:Cx) (f:Value->Sem Value) (g:Bx->Option Bx):Prop:=UnR X f (rF1 X.K g)
abbrev rD (X:Cx) (f:Value) (g:List Bx->Option Bx):Prop:=fj X f (rFs X.K g)
theorem uL.imp {f:Value->Value->Sem Value} {r r':R2} (h:uL X f r) (m:∀ x y H Q,r' x y H Q->r x y H Q):uL X f r':=λpins s σ H x y v u Q I rx ry q=>h pins s σ H x y v u Q I rx ry (m x y H Q q)
theorem UnR.imp {f:Value->Sem Value} {r r':V->Hp->VK->Prop} (h:UnR X f r) (m:∀ x H Q,r' x H Q->r x H Q):UnR X f r':=λpins s σ H x v Q I rx q=>h pins s σ H x v Q I rx (m x H Q q)
theorem fj.imp {f:Value} {r r':List V->Hp->VK->Prop} (h:fj X f r) (m:∀ x H Q,r' x H Q->r x H Q):fj X f r':=λpins s σ H xs us Q I rx q=>h pins s σ H xs us Q I rx (m xs H Q q)
def b2 (g:Bx->Bx->Option Bx) (fa fb:Ev->Option Bx):Ev->Option Bx:=λρ=>(fa ρ).bind λx=>(fb ρ).bind λy=>g x y
def b1 (g:Bx->Option Bx) (fa:Ev->Option Bx):Ev->Option Bx:=λρ=>(fa ρ).bind g
def bR (g:List Bx->Option Bx) (fs:Ev->Option (List Bx)):Ev->Option Bx:=λρ=>(fs ρ).bind g
theorem bind_some {α β:Type} {o:Option α} {f:α->Option β} {b:β} (h:o.bind f=some b):∃ a,o=some a/\f a=some b:=by
 cases o with
 |none=>cases h
 |some a=>exact⟨a,rfl,h⟩
theorem V9 {g:Bx->Bx->Option Bx} {fa fb:Ev->Option Bx} (σ:L2.St) (H:Hp) (Q:VK) (h:tF K (b2 g fa fb) σ H Q):tOp (rF K g) (tF K fa) (tF K fb) σ H Q:=by
 obtain⟨H0,ρ,c,E,e,q⟩:=h;obtain⟨a,ea,e⟩:=bind_some e;obtain⟨b,eb,e⟩:=bind_some e;refine⟨H0,ρ,a,E,ea,λv H1 s1 n1 r1=>⟨H0,ρ,b,E.grow s1,eb,λu H2 s2 n2 r2=>?_⟩⟩;exact⟨a,b,c,r1.same s2,r2,e,λw H3 s3 n3 r3=>q w H3 ((s1.trans s2).trans s3) (n3.old (s1.trans s2)) r3⟩
theorem aeV {g:Bx->Option Bx} {fa:Ev->Option Bx} (σ:L2.St) (H:Hp) (Q:VK) (h:tF K (b1 g fa) σ H Q):tUn (rF1 K g) (tF K fa) σ H Q:=by
 obtain⟨H0,ρ,c,E,e,q⟩:=h;obtain⟨a,ea,e⟩:=bind_some e;exact⟨H0,ρ,a,E,ea,λv H1 s1 n1 r1=>⟨a,c,r1,e,λw H3 s3 n3 r3=>q w H3 (s1.trans s3) (n3.old s1) r3⟩⟩
theorem convs {g:List Bx->Option Bx} {fs:Ev->Option (List Bx)} (σ:L2.St) (H:Hp) (Q:VK) (h:tF K (bR g fs) σ H Q):tCB (rFs K g) (tFA K fs) σ H Q:=by
 obtain⟨H0,ρ,c,E,e,q⟩:=h;obtain⟨a,ea,e⟩:=bind_some e;exact⟨H0,ρ,a,E,ea,λv H1 s1 r1=>⟨a,c,r1,e,λw H3 s3 n3 r3=>q w H3 (s1.trans s3) (n3.old s1) r3⟩⟩
section
variable {a b c:Expr} {fa fb fc f:Ev->Option Bx} {fs:Ev->Option (List Bx)}
theorem aO {op:Operator} {g:Bx->Bx->Option Bx} (ho:yp X (binaryOp op) g) (ha:QV X a fa) (hb:QV X b fb):QV X (.BinOp a op b pos) (b2 g fa fb):=⟨have ha:=ha.run;have hb:=hb.run;Bl (aeA ho ha hb) V9⟩
theorem Wa {op:UnaryOp} {g:Bx->Option Bx} (ho:UnF X (unaryOp op) g) (ha:QV X a fa):QV X (.UnaryOp op a pos) (b1 g fa):=⟨have ha:=ha.run;Bl (aeB ho ha) aeV⟩
theorem lJ {g:Bx->Bx->Option Bx} (ho:yp X (compareOp op) g) (ha:QV X a fa) (hb:QV X b fb) (hm:behindInMarks op b=false):QV X (.Compare a [op] [b] pos) (b2 g fa fb):=⟨have ha:=ha.run;have hb:=hb.run;Bl (Zb ho ha hb hm) V9⟩
def wC:Bx->Option Bool
 |.z (.bl b)=>some b
 |_=>none
theorem uR {b:Bx} {v:V} {k:Bool} (h:bh K H b v) (e:wC b=some k):v=.bl k:=by
 cases b with
 |z d=>
  cases d<;>first|(cases e;done)|skip;cases e;simpa only[bh,Rep] using h
 |_=>cases e
theorem abj (σ:L2.St) (H:Hp) (Q:Bool->Hp->Prop) (h:Zw K (λρ=>(f ρ).bind wC) σ H Q):tF K f σ H (λx H'=>∃ k,x=.bl k/\Q k H'):=by
 obtain⟨H0,ρ,k,E,e,q⟩:=h;obtain⟨b,eb,e⟩:=bind_some e;exact⟨H0,ρ,b,E,eb,λv H1 s1 n1 r1=>⟨k,uR r1 e,q H1 s1⟩⟩
theorem dh {g:Bx->Bx->Option Bx} (ho:yp X (compareOp op) g) (ha:QV X a fa) (hb:QV X b fb) (hm:behindInMarks op b=false):QB X (.Compare a [op] [b] pos) (λρ=>(b2 g fa fb ρ).bind wC):=⟨have ha:=ha.run;have hb:=hb.run;ptM (Zc ho ha hb hm) λσ H Q h=>V9 σ H _ (abj σ H Q h)⟩
def Zx (g g':Bx->Bx->Option Bx) (fa fb fc:Ev->Option Bx):Ev->Option Bx:=λρ=>(fa ρ).bind λx=>(fb ρ).bind λy=>(g x y).bind λr=>(wC r).bind λk=>if k=true then(fc ρ).bind λw=>g' y w else some (.z (.bl false))
theorem abk {g g':Bx->Bx->Option Bx} (σ:L2.St) (H:Hp) (Q:VK) (h:tF K (Zx g g' fa fb fc) σ H Q):Qa (rF K g) (rF K g') (tF K fa) (tF K fb) (tF K fc) σ H Q:=by
 obtain⟨H0,ρ,d,E,e,q⟩:=h;obtain⟨a,ea,e⟩:=bind_some e;obtain⟨b,eb,e⟩:=bind_some e;obtain⟨r,er,e⟩:=bind_some e;obtain⟨k,ek,e⟩:=bind_some e;refine⟨H0,ρ,a,E,ea,λv H1 s1 n1 r1=>⟨H0,ρ,b,E.grow s1,eb,λu H2 s2 n2 r2=>?_⟩⟩;refine⟨a,b,r,r1.same s2,r2,er,λw H3 s3 n3 r3=>⟨k,uR r3 ek,?_⟩⟩;have s03:=(s1.trans s2).trans s3;cases k with
 |false=>
  rw[zz Zp] at e ⊢;cases e;exact q _ H3 s03 trivial (by simp only[bh,Rep])
 |true=>
  rw[zr rfl] at e ⊢;obtain⟨w',ew,e⟩:=bind_some e;refine⟨H0,ρ,w',E.grow s03,ew,λx H4 s4 n4 r4=>?_⟩;exact⟨b,w',d,(r2.same s3).same s4,r4,e,λy H5 s5 n5 r5=>q y H5 ((s03.trans s4).trans s5) (n5.old (s03.trans s4)) r5⟩
theorem Mg {op':CmpOp} {g g':Bx->Bx->Option Bx} (ho:yp X (compareOp op) g) (ho':yp X (compareOp op') g') (ha:QV X a fa) (hb:QV X b fb) (hc:QV X c fc) (hm:lastMarks [op,op'] [b,c]=false:=by with_unfolding_all rfl):QV X (.Compare a [op,op'] [b,c] pos) (Zx g g' fa fb fc):=⟨have ha:=ha.run;have hb:=hb.run;have hc:=hc.run;Bl (VH ho ho' ha hb hc hm) abk⟩
theorem Wb {op':CmpOp} {g g':Bx->Bx->Option Bx} (ho:yp X (compareOp op) g) (ho':yp X (compareOp op') g') (ha:QV X a fa) (hb:QV X b fb) (hc:QV X c fc) (hm:lastMarks [op,op'] [b,c]=false:=by with_unfolding_all rfl):QB X (.Compare a [op,op'] [b,c] pos) (λρ=>(Zx g g' fa fb fc ρ).bind wC):=⟨have ha:=ha.run;have hb:=hb.run;have hc:=hc.run;ptM (VJ ho ho' ha hb hc hm) λσ H Q h=>abk σ H _ (abj σ H Q h)⟩
def Bm (ρ:Ev) (i:Nat):Option Bx:=match ρ[i]? with
 |some (some (.o ds))=>some (.l ds)
 |some (some (.m kvs _))=>some (.n kvs)
 |some (some b)=>some b
 |_=>none
theorem Mh {ρ:Ev} {b:Bx} (E:bV K H0 H σ ρ) (e:Bm ρ i=some b):∃ v,σ[i]?=some (some v)/\bh K H b v:=by
 unfold Bm at e;split at e
 ·rename_i ds h;cases e;obtain⟨v,e1,a,vs,e2,q,r⟩:=E.val i _ h;exact⟨v,e1,a,vs,e2,.inl q,r⟩
 ·rename_i ds h;cases e;obtain⟨v,e1,a,vs,e2,q,r⟩:=E.val i _ h;exact⟨v,e1,a,vs,e2,.inl q,r.1⟩
 ·rename_i b' h;cases e;exact E.val i _ h
 ·cases e
theorem Ce {ρ:Ev} {b:Bx} (e:Bm ρ i=some b):yj b=false:=by
 unfold Bm at e;split at e
 ·cases e;rfl
 ·cases e;rfl
 ·rename_i b' h1 h2 h3;cases e;cases b with
  |o ds=>exact absurd rfl (h1 ds)
  |m ds _=>exact absurd rfl (h2 ds _)
  |_=>rfl
 ·cases e
theorem ak (i:Nat) (hN:X.N[i]?=some x:=by rfl) (hv:Vis X.env.scope x:=by first|exact Or.inl rfl|exact ku (Or.inl rfl)|exact ku (ku rfl)) (hd:(x==("__debug__" : Str))=false:=by decide) (hcd:(x==("__classdict__" : Str))=false:=by decide):QV X (.Name x pos) (λρ=>Bm ρ i):=⟨Bl (Jt hN hv hd hcd) λσ H Q h=>by
 obtain⟨H0,ρ,b,E,e,q⟩:=h;obtain⟨v,e1,r⟩:=Mh E e;refine⟨v,e1,q v H (Same.refl H) ?_ r⟩;cases b with
 |o ds=>have:=Ce e;cases this
 |m ds _=>have:=Ce e;cases this
 |_=>trivial⟩
def cB (d:Dt):Ev->Option Bx:=λ_=>some (.z d)
theorem Ua {v:V} {d:Dt} (h:PE X e (tC v)) (r:∀ H,Rep X.K H d v):PV X e (cB d):=Bl h λσ H Q q=>by
 obtain⟨H0,ρ,b,E,e,q⟩:=q;cases e;exact q v H (Same.refl H) trivial (r H)
theorem aB {i j}:QV X (.Constant (.int i) j pos) (cB (.int i)):=⟨Ua ab6 λH=>by simp only[Rep]⟩
theorem rE {i j}:QV X (.Constant (.bool i) j pos) (cB (.bl i)):=⟨Ua ael λH=>by simp only[Rep]⟩
theorem pD {j}:QV X (.Constant .none j pos) (cB .non):=⟨Ua ab7 λH=>by simp only[Rep]⟩
theorem Wc {j} (hx:x.length<=sizeLine:=by decide):PV X (.Constant (.str x) j pos) (cB (.str x)):=Ua ab8 λH=>by unfold Rep;exact⟨rfl,hx⟩
theorem Dd {i:Int} {t:Tok} (hg:Gl X x) (hm:X.mg x=some (.int i t)) (hd:(x==("__debug__" : Str))=false:=by decide):QV X (.Name x pos) (cB (.int i)):=⟨Ua (RB hg hm (v:=.int i) ⟨t,rfl⟩ hd) λH=>by simp only[Rep]⟩
theorem yq {t:Tok} (hg:Gl X x) (hm:X.mg x=some (.str y t)) (hy:y.length<=sizeLine:=by decide) (hd:(x==("__debug__" : Str))=false:=by decide):QV X (.Name x pos) (cB (.str y)):=⟨Ua (RB hg hm (v:=.str y) ⟨t,rfl⟩ hd) λH=>by unfold Rep;exact⟨rfl,hy⟩⟩
def Qh:Bx->Option Bool
 |.z .non=>some false
 |.z (.bl b)=>some b
 |.z (.int i)=>some (i != 0)
 |.z (.str x)=>some ((x.length:Int) != 0)
 |.z (.tup ds)=>some (!ds.isEmpty)
 |.z (.lst ds)=>some (!ds.isEmpty)
 |.l ds=>some (!ds.isEmpty)
 |.o ds=>some (!ds.isEmpty)
 |.z .emp=>none
 |.n _=>none
 |.m _ _=>none
theorem aM.isEmpty {ds:List Dt} (h:aM K H ds vs):(!ds.isEmpty)=!vs.isEmpty:=by
 have:=h.length;cases ds<;>cases vs<;>simp_all
theorem RN {b:Bx} {v:V} {k:Bool} (r:bh K H b v) (e:Qh b=some k):acD K v H k:=by
 cases b with
 |z d=>
  cases d with
  |non=>cases e;simp only[bh,Rep] at r;subst r;rfl
  |bl b=>cases e;simp only[bh,Rep] at r;subst r;rfl
  |int b=>cases e;simp only[bh,Rep] at r;subst r;rfl
  |str x=>cases e;simp only[bh,Rep] at r;obtain⟨rfl,h⟩:=r;exact⟨h,rfl⟩
  |tup ds=>
   cases e;simp only[bh,Rep] at r;obtain⟨a,vs,rfl,q,r⟩:=r;exact .inr (.inl ⟨vs,q,r.isEmpty⟩)
  |lst ds=>
   cases e;obtain⟨a,vs,rfl,q,r⟩:=r.HX rfl;exact .inl ⟨vs,q,r.isEmpty⟩
  |emp=>cases e
 |l ds=>
  cases e;obtain⟨a,vs,rfl,q,r⟩:=r.HX rfl;exact .inl ⟨vs,q,r.isEmpty⟩
 |o ds=>
  cases e;obtain⟨a,vs,rfl,q,r⟩:=r.HX rfl;exact .inl ⟨vs,q,r.isEmpty⟩
 |n _=>cases e
 |m _ _=>cases e
theorem eY (h:QV X e f) (he:∀ whole,isTrue e X.env whole=(do let v <-whole;standAt e.pos;holding [v] (truthy v)):=by intro _;rfl):QB X e (λρ=>(f ρ).bind Qh):=⟨have h:=h.run;ptM (VN h he) λσ H Q q=>by
 obtain⟨H0,ρ,k,E,e,q⟩:=q;obtain⟨b,eb,e⟩:=bind_some e;exact⟨H0,ρ,b,E,eb,λv H1 s1 n1 r1=>⟨k,RN r1 e,q H1 s1⟩⟩⟩
def Gy (p q:Ev->Option Bool):Ev->Option Bool:=λρ=>(p ρ).bind λc=>if c=true then q ρ else some false
def Mi (p q:Ev->Option Bool):Ev->Option Bool:=λρ=>(p ρ).bind λc=>if c=true then some true else q ρ
def sy (p:Ev->Option Bool):Ev->Option Bool:=λρ=>(p ρ).bind λc=>some (!c)
def PBW (X:Cx) (e:Expr) (f:Ev->Option Bool):Prop:=PW X e (Zw X.K f)
structure QBW (X:Cx) (e:Expr) (f:Ev->Option Bool):Prop where
 run:PBW X e f
variable {p q:Ev->Option Bool} {rest:List Expr}
theorem uT (ha:QB X a p):QBW X (.BoolOp .And [a] pos) p:=⟨have ha:=ha.run;Y4 ha⟩
theorem j8 (ha:QB X a p):QBW X (.BoolOp .Or [a] pos) p:=⟨have ha:=ha.run;ab9 ha⟩
theorem Zy (σ:L2.St) (H:Hp) (Q:Bool->Hp->Prop) (h:Zw K (Gy p q) σ H Q):aem (Zw K p) (Zw K q) σ H Q:=by
 obtain⟨H0,ρ,k,E,e,w⟩:=h;obtain⟨c,ec,e⟩:=bind_some e;refine⟨H0,ρ,c,E,ec,λH1 s1=>?_⟩;cases c with
 |true=>rw[zr rfl] at e ⊢;exact⟨H0,ρ,k,E.grow s1,e,λH2 s2=>w H2 (s1.trans s2)⟩
 |false=>rw[zz Zp] at e ⊢;cases e;exact w H1 s1
theorem acS (σ:L2.St) (H:Hp) (Q:Bool->Hp->Prop) (h:Zw K (Mi p q) σ H Q):tOr (Zw K p) (Zw K q) σ H Q:=by
 obtain⟨H0,ρ,k,E,e,w⟩:=h;obtain⟨c,ec,e⟩:=bind_some e;refine⟨H0,ρ,c,E,ec,λH1 s1=>?_⟩;cases c with
 |true=>rw[zr rfl] at e ⊢;cases e;exact w H1 s1
 |false=>rw[zz Zp] at e ⊢;exact⟨H0,ρ,k,E.grow s1,e,λH2 s2=>w H2 (s1.trans s2)⟩
theorem vW (ha:QB X a p) (hb:QBW X (.BoolOp .And (b::rest) pos) q):QBW X (.BoolOp .And (a::b::rest) pos) (Gy p q):=⟨have ha:=ha.run;have hb:=hb.run;pwM (acd ha hb) Zy⟩
theorem lK (ha:QB X a p) (hb:QBW X (.BoolOp .Or (b::rest) pos) q):QBW X (.BoolOp .Or (a::b::rest) pos) (Mi p q):=⟨have ha:=ha.run;have hb:=hb.run;pwM (aen ha hb) acS⟩
theorem wD (h:QBW X e p):QB X e p:=⟨have h:=h.run;h.pt⟩
theorem jr (ha:QB X a p):QB X (.UnaryOp .Not a pos) (sy p):=⟨have ha:=ha.run;ptM (ace ha) λσ H Q h=>by
 obtain⟨H0,ρ,k,E,e,w⟩:=h;obtain⟨c,ec,e⟩:=bind_some e;cases e;exact⟨H0,ρ,c,E,ec,λH1 s1=>w H1 s1⟩⟩
def qL (fa fb:Ev->Option Bx):Ev->Option Bx:=λρ=>((fa ρ).bind wC).bind λc=>if c=true then fb ρ else some (.z (.bl false))
def orV (fa fb:Ev->Option Bx):Ev->Option Bx:=λρ=>((fa ρ).bind wC).bind λc=>if c=true then some (.z (.bl true)) else fb ρ
def Zz (fa:Ev->Option Bx):Ev->Option Bx:=λρ=>((fa ρ).bind wC).bind λc=>some (.z (.bl (!c)))
theorem lM {op} (h:QV X a fa):QV X (.BoolOp op [a] pos) fa:=⟨have h:=h.run;acf h⟩
theorem gY (ha:QV X a fa) (hb:QV X (.BoolOp .And (b::rest) pos) fb):QV X (.BoolOp .And (a::b::rest) pos) (qL fa fb):=⟨have ha:=ha.run;have hb:=hb.run;Bl (acg ha hb) λσ H Q h=>by
 obtain⟨H0,ρ,k,E,e,w⟩:=h;obtain⟨c,ec,e⟩:=bind_some e;obtain⟨x,ex,ec⟩:=bind_some ec;refine⟨H0,ρ,x,E,ex,λv H1 s1 n1 r1=>⟨c,uR r1 ec,?_⟩⟩;cases c with
 |true=>rw[zr rfl] at e ⊢;exact⟨H0,ρ,k,E.grow s1,e,λv H2 s2 n2 r2=>w v H2 (s1.trans s2) (n2.old s1) r2⟩
 |false=>rw[zz Zp] at e ⊢;cases e;exact w _ H1 s1 trivial (by simp only[bh,Rep])⟩
theorem abl (ha:QV X a fa) (hb:QV X (.BoolOp .Or (b::rest) pos) fb):QV X (.BoolOp .Or (a::b::rest) pos) (orV fa fb):=⟨have ha:=ha.run;have hb:=hb.run;Bl (aer ha hb) λσ H Q h=>by
 obtain⟨H0,ρ,k,E,e,w⟩:=h;obtain⟨c,ec,e⟩:=bind_some e;obtain⟨x,ex,ec⟩:=bind_some ec;refine⟨H0,ρ,x,E,ex,λv H1 s1 n1 r1=>⟨c,uR r1 ec,?_⟩⟩;cases c with
 |false=>rw[zz Zp] at e ⊢;exact⟨H0,ρ,k,E.grow s1,e,λv H2 s2 n2 r2=>w v H2 (s1.trans s2) (n2.old s1) r2⟩
 |true=>rw[zr rfl] at e ⊢;cases e;exact w _ H1 s1 trivial (by simp only[bh,Rep])⟩
theorem acT (ha:QV X a fa):QV X (.UnaryOp .Not a pos) (Zz fa):=⟨have ha:=ha.run;Bl (ach ha) λσ H Q h=>by
 obtain⟨H0,ρ,k,E,e,w⟩:=h;obtain⟨c,ec,e⟩:=bind_some e;obtain⟨x,ex,ec⟩:=bind_some ec;cases e;exact⟨H0,ρ,x,E,ex,λv H1 s1 n1 r1=>⟨c,uR r1 ec,w _ H1 s1 trivial (by simp only[bh,Rep])⟩⟩⟩
def ifV (p:Ev->Option Bool) (fa fb:Ev->Option Bx):Ev->Option Bx:=λρ=>(p ρ).bind λc=>if c=true then fa ρ else fb ρ
theorem Dg (hc:QB X c p) (ha:QV X a fa) (hb:QV X b fb):QV X (.IfExp c a b pos) (ifV p fa fb):=⟨have hc:=hc.run;have ha:=ha.run;have hb:=hb.run;Bl (Vy hc ha hb) λσ H Q h=>by
 obtain⟨H0,ρ,k,E,e,w⟩:=h;obtain⟨c,ec,e⟩:=bind_some e;refine⟨H0,ρ,c,E,ec,λH1 s1=>?_⟩;cases c with
 |true=>rw[zr rfl] at e ⊢;exact⟨H0,ρ,k,E.grow s1,e,λv H2 s2 n2 r2=>w v H2 (s1.trans s2) (n2.old s1) r2⟩
 |false=>rw[zz Zp] at e ⊢;exact⟨H0,ρ,k,E.grow s1,e,λv H2 s2 n2 r2=>w v H2 (s1.trans s2) (n2.old s1) r2⟩⟩
theorem JC:PVs X [] (λ_=>some []):=paM uP λσ H Q h=>by
 obtain⟨H0,ρ,bs,E,e,q⟩:=h;cases e;exact q [] H (Same.refl H) .nil
def aq (f:Ev->Option Bx) (fs:Ev->Option (List Bx)):Ev->Option (List Bx):=λρ=>(f ρ).bind λb=>(fs ρ).bind λbs=>some (b::bs)
theorem Dh (h1:PV X e f) (h2:PVs X es fs) (hs:starEach (e::es) X.env=(false,eval e X.env)::starEach es X.env:=by rfl):PVs X (e::es) (aq f fs):=paM (jG h1 h2 hs) λσ H Q h=>by
 obtain⟨H0,ρ,bs,E,e,q⟩:=h;obtain⟨b,eb,e⟩:=bind_some e;obtain⟨bs',ebs,e⟩:=bind_some e;cases e;refine⟨H0,ρ,b,E,eb,λv H1 s1 n1 r1=>⟨H0,ρ,bs',E.grow s1,ebs,λvs H2 s2 r2=>?_⟩⟩;exact q (v::vs) H2 (s1.trans s2) (.cons (r1.same s2) r2)
def uM:Bx->Option Bx
 |.z d=>some (.z d)
 |.o ds=>some (.z (.lst ds))
 |.l _=>none
 |.n _=>none
 |.m _ _=>none
theorem Qi {a:Addr} (I:L2.Inv X pins σ H s) (h:H a=some (.lst vs)):∃ o,L2.Inv X pins σ (upd H a (.Jo o (.lst vs))) s:=by
 obtain⟨z,its,n,r,e⟩:=I.hok a _ h;refine⟨{ cls:=.type "list", data:=.seq its.toArray n },⟨I.ok,I.os,I.bare,⟨I.base.keep,I.base.slot,λb ob q1 q2 q3=>?_,I.base.there,λb xs q=>?_,λb ob u q=>?_,λb ps q=>?_⟩,I.loc,I.cell,?_,λx c q=>?_,λp hp=>?_,?_,I.len⟩⟩
 ·have:=I.base.free b ob q1 q2 q3;rw[bA (c7 h this).symm];exact this
 ·have:=I.base.tups b xs q;rw[bA (CP this h (by intro z;cases z))];exact this
 ·have:=I.base.Gu b ob u q;rw[bA (CP this h (by intro z;cases z))];exact this
 ·obtain⟨m,this⟩:=I.base.Jp b ps q;rw[bA (CP this h (by intro z;cases z))];exact⟨m,this⟩
 ·rw[bA (c7 h I.free).symm];exact I.free
 ·rw[bA (c7 h (I.q9 x c q)).symm];exact I.q9 x c q
 ·obtain⟨q1,q2,q3⟩:=I.pin p hp;refine⟨q1,?_,q3⟩;rw[bA (c7 h q2).symm];exact q2
 ·intro b u q;by_cases hb:b=a
  ·subst hb;rw[cL] at q;cases q;exact⟨e,z,its,n,r,e⟩
  ·rw[bA hb] at q;refine(I.hok b u q).stay (λc v _ w=>w) (λc w=>?_) λc xs w=>?_
   ·rw[bA (CP w h (by intro z;cases z))];exact w
   ·rw[bA (CP w h (by intro z;cases z))];exact w
theorem eG (h:QV X e f):QV X e (b1 uM f):=⟨by
 have h:=h.run;intro pins s σ H Q I q;obtain⟨H0,ρ,b,E,e,q⟩:=q;obtain⟨x,ex,e⟩:=bind_some e;cases x with
 |z d=>
  cases e;exact h pins s σ H Q I ⟨H0,ρ,_,E,ex,λv H' s' n' r'=>q v H' s' trivial r'⟩
 |l ds=>cases e
 |n ds=>cases e
 |m ds _=>cases e
 |o ds=>
  cases e;refine jq (h pins s σ H (λv H'=>Same H H'/\Nw H (.o ds) v/\bh X.K H' (.o ds) v) I ⟨H0,ρ,_,E,ex,λv H' s' n' r'=>⟨s',n',r'⟩⟩) λu s1 hq=>?_;obtain⟨v,H1,I1,rv,s',n',r'⟩:=hq;obtain⟨a,vs,rfl,ha,rs⟩:=r';obtain⟨o,I2⟩:=Qi I1 ha;refine⟨.ref a,_,I2,rv,q _ _ (λc ob hc=>?_) trivial ?_⟩
  ·rw[bA (c7 hc (n' a rfl))];exact s' c ob hc
  ·simp only[bh,Rep];exact⟨a,vs,rfl,.inl ⟨o,cL⟩,rs.kp (.lst ha)⟩⟩
def JD:List Bx->Option (List Dt)
 |[]=>some []
 |.z d::r=>(JD r).bind λds=>some (d::ds)
 |_=>none
theorem Di {K:FG_} {H:Hp}:∀ {bs:List Bx} {vs:List V} {ds:List Dt},yh K H bs vs->JD bs=some ds->aM K H ds vs
 |_,_,_,.nil,e=>by cases e;exact aM.nil
 |b::bs,_,_,.cons h t,e=>by
  cases b with
  |z d=>
   simp only[JD] at e;obtain⟨ds',e1,e2⟩:=bind_some e;cases e2;exact aM.cons h (Di t e1)
  |_=>cases e
theorem Dj:∀ {bs:List Bx} {ds:List Dt},JD bs=some ds->ds.length=bs.length
 |[],_,e=>by cases e;rfl
 |.z d::r,_,e=>by
  simp only[JD] at e;obtain⟨ds',e1,e2⟩:=bind_some e;cases e2;simp[Dj e1]
 |.l _::_,_,e=>by cases e
 |.o _::_,_,e=>by cases e
 |.n _::_,_,e=>by cases e
 |.m _ _::_,_,e=>by cases e
def gj (bs:List Bx):Option Bx:=if bs.length<=1000 then(JD bs).bind λds=>some (.z (.tup ds)) else none
def oN (bs:List Bx):Option Bx:=if bs.length<=1000 then(JD bs).bind λds=>some (.o ds) else none
theorem cF {p:Addr} (h:H p=none):Same H (upd H p o):=λb u e=>by rw[bA (c7 e h)];exact e
theorem abn (h:n<=1000):n<=sizeLine:=zD h (by decide)
theorem cX {x1} (h:Vr X es fs):QV X (.Tuple es x1 pos) (bR gj fs):=⟨have h:=h.run;Bl (acE h) λσ H Q q=>by
 obtain⟨H0,ρ,c,E,e,q⟩:=q;obtain⟨bs,ebs,e⟩:=bind_some e;refine⟨H0,ρ,bs,E,ebs,λvs H1 s1 r1=>?_⟩;unfold gj at e;split at e
 ·rename_i hl;obtain⟨ds,e1,e⟩:=bind_some e;cases e;have r2:=Di r1 e1;refine⟨abn (by rw[r2.length,Dj e1];exact hl),λp hp=>q _ _ (s1.trans (cF hp)) trivial ?_⟩;simp only[bh,Rep];exact⟨p,vs,rfl,.inl (.inl cL),r2.kp (.of (cF hp))⟩
 ·cases e⟩
theorem iw (h:Vr X es fs):QV X (.List es pos) (bR oN fs):=⟨have h:=h.run;Bl (acF h) λσ H Q q=>by
 obtain⟨H0,ρ,c,E,e,q⟩:=q;obtain⟨bs,ebs,e⟩:=bind_some e;refine⟨H0,ρ,bs,E,ebs,λvs H1 s1 r1=>?_⟩;unfold oN at e;split at e
 ·rename_i hl;obtain⟨ds,e1,e⟩:=bind_some e;cases e;have r2:=Di r1 e1;refine⟨abn (by rw[r2.length,Dj e1];exact hl),λp hp=>q _ _ (s1.trans (cF hp)) (λa ea=>by cases ea;exact s1.free hp) ?_⟩;exact⟨p,vs,rfl,cL,r2.kp (.of (cF hp))⟩
 ·cases e⟩
theorem bH {id:String} {g:List Bx->Option Bx} {p:Pos} (hc:rD X (.builtin id) g) (hg:Gl X x) (hm:X.mg x=none) (hv:bootBuiltins x=some (.builtin id)) (ha:Vr X (e::es) fs) (hn:x ≠ "__name__" := by decide) (hdb:(x==("__debug__" : Str))=false:=by decide) (he:starEach (e::es) X.env=(false,eval e X.env)::starEach es X.env:=by rfl) (hpl:(backTo pos (starEach es X.env)).any (·.1)=false:=by rfl):QV X (.Call (.Name x p) (e::es) [] pos) (bR g fs):=⟨have ha:=ha.run;Bl (rA hc hg hm hv ha hn hdb he hpl) convs⟩
theorem bY {T:String} {g:List Bx->Option Bx} {p:Pos} (hc:rD X (.type T) g) (hg:Gl X x) (hm:X.mg x=none) (hv:bootBuiltins x=some (.type T)) (ha:Vr X (e::es) fs) (hn:x ≠ "__name__" := by decide) (hdb:(x==("__debug__" : Str))=false:=by decide) (he:starEach (e::es) X.env=(false,eval e X.env)::starEach es X.env:=by rfl) (hpl:(backTo pos (starEach es X.env)).any (·.1)=false:=by rfl):QV X (.Call (.Name x p) (e::es) [] pos) (bR g fs):=⟨have ha:=ha.run;Bl (HN hc hg hm hv ha hn hdb he hpl) convs⟩
end
inductive Out where
 |nx (ρ:Ev)|rt (b:Bx)|bk (ρ:Ev)|ct (ρ:Ev)
def Wd (K:FG_) (H0:Hp) (D:Ends):Out->Prop
 |.nx ρ=>∀ σ H,bV K H0 H σ ρ->D.nx σ H
 |.rt b=>∀ v H,Same H0 H->Nw H0 b v->bh K H b v->D.rt v H
 |.bk ρ=>∀ σ H,bV K H0 H σ ρ->D.bk σ H
 |.ct ρ=>∀ σ H,bV K H0 H σ ρ->D.ct σ H
def tG (K:FG_) (g:Ev->Option Out):TS:=λD σ H=>∃ H0 ρ r,bV K H0 H σ ρ/\g ρ=some r/\Wd K H0 D r
def PG1 (X:Cx) (st:Stmt) (g:Ev->Option Out):Prop:=PS X st (tG X.K g)
structure Wf (X:Cx) (st:Stmt) (g:Ev->Option Out):Prop where
 run:PG1 X st g
def VD (X:Cx) (st:List Stmt) (g:Ev->Option Out):Prop:=Ry X st (tG X.K g)
structure YM (X:Cx) (st:List Stmt) (g:Ev->Option Out):Prop where
 run:VD X st g
def aF (g1 g2:Ev->Option Out):Ev->Option Out:=λρ=>(g1 ρ).bind λr=>match r with
 |.nx ρ'=>g2 ρ'
 |r=>some r
section
variable {a b c:Expr} {fa fb fc f:Ev->Option Bx} {fs:Ev->Option (List Bx)} {rest:List Stmt} {g g1 g2:Ev->Option Out}
theorem aG  : YM X [] (λρ=>some (.nx ρ)):=⟨acQ Y5 λD σ H h=>by
 obtain⟨H0,ρ,r,E,e,q⟩:=h;cases e;exact q σ H E⟩
theorem aA (h1:Wf X st g1) (h2:YM X rest g2):YM X (st::rest) (aF g1 g2):=⟨have h1:=h1.run;have h2:=h2.run;acQ (Vz h1 h2) λD σ H h=>by
 obtain⟨H0,ρ,r,E,e,q⟩:=h;obtain⟨r1,e1,e⟩:=bind_some e;refine⟨H0,ρ,r1,E,e1,?_⟩;cases r1 with
 |nx ρ'=>exact λσ' H' E'=>⟨H0,ρ',r,E',e,q⟩
 |rt b=>cases e;exact q
 |bk ρ'=>cases e;exact q
 |ct ρ'=>cases e;exact q⟩
def Wg:Bx->Option Out
 |.l _=>none
 |.n _=>none
 |b=>some (.rt b)
theorem bK (h:QV X e f):Wf X (.Return (some e) pos) (λρ=>(f ρ).bind Wg):=⟨have h:=h.run;psM (VB h) λD σ H h=>by
 obtain⟨H0,ρ,r,E,e,q⟩:=h;obtain⟨b,eb,e⟩:=bind_some e;refine⟨H0,ρ,b,E,eb,λv H1 s1 n1 r1=>?_⟩;cases b with
 |l ds=>cases e
 |z d=>cases e;exact q v H1 (E.base.trans s1) trivial r1
 |o ds=>cases e;exact q v H1 (E.base.trans s1) (n1.old E.base) r1
 |n ds=>cases e
 |m ds _=>cases e;exact q v H1 (E.base.trans s1) (n1.old E.base) r1⟩
def JF (i:Nat) (ρ:Ev):Option Out:=match ρ[i]? with
 |some (some b)=>Wg b
 |_=>none
theorem RQ (i:Nat) {p:Pos} (hN:X.N[i]?=some x:=by rfl) (hv:Vis X.env.scope x:=by first|exact Or.inl rfl|exact ku (Or.inl rfl)|exact ku (ku rfl)) (hd:(x==("__debug__" : Str))=false:=by decide) (hcd:(x==("__classdict__" : Str))=false:=by decide):Wf X (.Return (some (.Name x p)) pos) (JF i):=⟨psM (VB (Jt hN hv hd hcd)) λD σ H h=>by
 obtain⟨H0,ρ,r,E,e,q⟩:=h;unfold JF at e;split at e
 ·rename_i b hb;obtain⟨v,e1,r1⟩:=E.val i b hb;refine⟨v,e1,?_⟩;cases b with
  |l ds=>cases e
  |z d=>cases e;exact q v H E.base trivial r1
  |o ds=>cases e;exact q v H E.base (λa ea=>E.new i _ a hb rfl (by rw[e1,ea])) r1
  |n ds=>cases e
  |m ds _=>cases e;exact q v H E.base (λa ea=>E.new i _ a hb rfl (by rw[e1,ea])) r1
 ·cases e⟩
def wJ (p:Ev->Option Bool) (g1 g2:Ev->Option Out):Ev->Option Out:=λρ=>(p ρ).bind λk=>if k=true then g1 ρ else g2 ρ
theorem gn {p:Ev->Option Bool} {u v:List Stmt} (hc:QB X c p) (ha:YM X u g1) (hb:YM X v g2):Wf X (.If c u v pos) (wJ p g1 g2):=⟨have hc:=hc.run;have ha:=ha.run;have hb:=hb.run;psM (aev hc ha hb) λD σ H h=>by
 obtain⟨H0,ρ,r,E,e,q⟩:=h;obtain⟨k,ek,e⟩:=bind_some e;refine⟨H0,ρ,k,E,ek,λH1 s1=>?_⟩;cases k with
 |true=>rw[zr rfl] at e ⊢;exact⟨H0,ρ,r,E.grow s1,e,q⟩
 |false=>rw[zz Zp] at e ⊢;exact⟨H0,ρ,r,E.grow s1,e,q⟩⟩
theorem getset {l:List α} {x y:α} (h:(l.set i x)[j]?=some y):(j=i/\y=x/\i < l.length)\/(j≠i/\l[j]?=some y):=by
 rw[k4] at h;by_cases e:i=j
 ·subst e;rw[zr rfl] at h;split at h
  ·cases h;exact .inl ⟨rfl,rfl,by assumption⟩
  ·cases h
 ·rw[zz e] at h;exact .inr ⟨λz=>e z.symm,h⟩
theorem JG {l:List α} (x:α) (h:i < l.length):(l.set i x)[i]?=some x:=by
 rw[k4,zr rfl,zr h]
theorem Dk {l:List α} (x:α) (h:j≠i):(l.set i x)[j]?=l[j]?:=by
 rw[k4,zz (kv h)]
theorem bV.set {H1:Hp} {ρ:Ev} {b:Bx} {v:V} (E:bV K H0 H σ ρ) (s:Same H H1) (r:bh K H1 b v) (hl:yj b=true\/loose b=false) (n:Nw H b v):bV K H0 H1 (σ.set i (some v)) (ρ.set i (some b)):=by
 have E1:=E.grow s;have apart:∀ (j:Nat) (b':Bx) (a:Addr),ρ[j]?=some (some b')->loose b'=true->σ[j]?=some (some (.ref a))->H a≠none:=λj b' a e1 e2 e3 z=>by
  obtain⟨v',e4,r'⟩:=E.val j b' e1;rw[e3] at e4;cases e4;cases b' with
  |z d=>cases e2
  |l ds=>
   obtain⟨a',vs,e5,q,_⟩:=r';cases e5;rcases q with q|⟨o,q⟩<;>(rw[z] at q;cases q)
  |o ds=>
   obtain⟨a',vs,e5,q,_⟩:=r';cases e5;rw[z] at q;cases q
  |n ds=>
   obtain⟨a',vs,e5,q,_⟩:=r';cases e5;rcases q with q|⟨o,q⟩<;>(rw[z] at q;cases q)
  |m ds _=>
   obtain⟨a',vs,e5,q,_⟩:=r';cases e5;rw[z] at q;cases q
 have nw:yj b=true->∀ a,v=.ref a->H a=none:=λho=>by
  cases b with
  |o ds=>exact n
  |m ds _=>exact n
  |_=>cases ho
 refine⟨by rw[kD,kD];exact E.len,λj b' e=>?_,λj k c a b' e1 ec e2 e3 e4 e5=>?_,E1.base,λj c a e1 ec e2=>?_⟩
 ·rcases getset e with⟨rfl,e',hi⟩|⟨hne,e'⟩
  ·cases e';exact⟨v,JG _ (by rw[E.len];exact hi),r⟩
  ·rw[Dk _ hne];exact E1.val j b' e'
 ·rcases getset e1 with⟨rfl,e',hi⟩|⟨hne,e'⟩
  ·cases e';rw[JG _ (by rw[E.len];exact hi)] at e2;cases e2;rcases getset e3 with⟨rfl,e3',_⟩|⟨acU,e3'⟩
   ·rfl
   ·rw[Dk _ acU] at e5;exact absurd (nw ec a rfl) (apart k b' a e3' e4 e5)
  ·rw[Dk _ hne] at e2;rcases getset e3 with⟨rfl,e3',hi⟩|⟨acU,e3'⟩
   ·cases e3';rw[JG _ (by rw[E.len];exact hi)] at e5;cases e5;have hlo:loose c=true:=by cases c<;>first|rfl|cases ec
    rcases hl with hl|hl
    ·exact absurd (nw hl a rfl) (apart j _ a e' hlo e2)
    ·rw[hl] at e4;cases e4
   ·rw[Dk _ acU] at e5;exact E.own j k c a b' e' ec e2 e3' e4 e5
 ·rcases getset e1 with⟨rfl,e',hi⟩|⟨hne,e'⟩
  ·cases e';rw[JG _ (by rw[E.len];exact hi)] at e2;cases e2;exact E.base.free (nw ec a rfl)
  ·rw[Dk _ hne] at e2;exact E.new j c a e' ec e2
def Wh (ρ:Ev) (i:Nat):Bx->Option Ev
 |.l _=>none
 |.n _=>none
 |b=>some (ρ.set i (some b))
theorem ZC {H1:Hp} {ρ ρ':Ev} {b:Bx} {v:V} (E:bV K H0 H σ ρ) (s:Same H H1) (r:bh K H1 b v) (n:Nw H b v) (e:Wh ρ i b=some ρ'):bV K H0 H1 (σ.set i (some v)) ρ':=by
 cases b with
 |l ds=>cases e
 |z d=>cases e;exact E.set s r (.inr rfl) n
 |o d=>cases e;exact E.set s r (.inl rfl) n
 |n ds=>cases e
 |m d _=>cases e;exact E.set s r (.inl rfl) n
theorem bw (i:Nat) {p:Pos} (hN:X.N.Nodup) (he:QV X e f) (hi:X.N[i]?=some x:=by rfl) (hx:Loc X.env.scope x:=by first|exact Or.inl rfl|exact ku rfl) (hs:swapsWith e (some (.Name x p)) pos.line X.env=pure false:=by rfl) (hf:X.fn x=true\/X.env.scope.names.lookup x=some .local:=by first|exact .inl rfl|exact .inr rfl):Wf X (.Assign [.Name x p] e pos) (λρ=>(f ρ).bind λb=>(Wh ρ i b).bind λρ'=>some (.nx ρ')):=⟨have he:=he.run;psM (aco hN hi hx he hs hf) λD σ H h=>by
 obtain⟨H0,ρ,r,E,e,q⟩:=h;obtain⟨b,eb,e⟩:=bind_some e;obtain⟨ρ',eρ,e⟩:=bind_some e;cases e;exact⟨H0,ρ,b,E,eb,λv H1 s1 n1 r1=>q _ _ (ZC E s1 r1 n1 eρ)⟩⟩
def Lo (σ:L2.St) (ρ:Ev) (σ':L2.St) (ρ':Ev):Prop:=∀ (j:Nat) b,loose b=true->ρ'[j]?=some (some b)->ρ[j]?=some (some b)/\σ'[j]?=σ[j]?
theorem Lo.refl {ρ:Ev}:Lo σ ρ σ ρ:=λ_ _ _ e=>⟨e,rfl⟩
theorem Lo.trans {σ σ1 σ2:L2.St} {ρ ρ1 ρ2:Ev} (a:Lo σ ρ σ1 ρ1) (b:Lo σ1 ρ1 σ2 ρ2):Lo σ ρ σ2 ρ2:=λj c l e=>by
 obtain⟨e1,e2⟩:=b j c l e;obtain⟨e3,e4⟩:=a j c l e1;exact⟨e3,e2.trans e4⟩
theorem Lo.set {ρ:Ev} (i:Nat) (v:V) (d:Dt):Lo σ ρ (σ.set i (some v)) (ρ.set i (some (.z d))):=λj b l e=>by
 rcases getset e with⟨rfl,e',_⟩|⟨hne,e'⟩
 ·cases e';cases l
 ·exact⟨e',Dk _ hne⟩
def tgF (K:FG_) (g:Dt->Ev->Option Ev):TG:=λv σ H Q=>∃ H0 ρ d ρ',bV K H0 H σ ρ/\Rep K H d v/\g d ρ=some ρ'/\∀ σ',bV K H0 H σ' ρ'->Lo σ ρ σ' ρ'->Q σ' H
def PTg (X:Cx) (t:Expr) (g:Dt->Ev->Option Ev):Prop:=PG X t (tgF X.K g)
structure QTg (X:Cx) (t:Expr) (g:Dt->Ev->Option Ev):Prop where
 run:PTg X t g
theorem aH (i:Nat) (hN:X.N.Nodup) (hi:X.N[i]?=some x:=by rfl) (hx:Loc X.env.scope x:=by first|exact Or.inl rfl|exact ku rfl) (hf:X.fn x=true\/X.env.scope.names.lookup x=some .local:=by first|exact .inl rfl|exact .inr rfl):QTg X (.Name x pos) (λd ρ=>some (ρ.set i (some (.z d)))):=⟨λpins s σ H v u Q I r h=>by
 obtain⟨H0,ρ,d,ρ',E,rd,e,q⟩:=h;cases e;exact RD hN hi hx hf pins s σ H v u Q I r (q _ (E.set (b:=.z d) (Same.refl H) rd (.inr rfl) trivial) (Lo.set i v d))⟩
def agP (K:FG_) (g:List Dt->Ev->Option Ev):TGs:=λvs σ H Q=>∃ H0 ρ ds ρ',bV K H0 H σ ρ/\aM K H ds vs/\g ds ρ=some ρ'/\∀ σ',bV K H0 H σ' ρ'->Lo σ ρ σ' ρ'->Q σ' H
def agQ (X:Cx) (t:List Expr) (g:List Dt->Ev->Option Ev):Prop:=L2.VD X t (agP X.K g)
structure ZD (X:Cx) (t:List Expr) (g:List Dt->Ev->Option Ev):Prop where
 run:agQ X t g
def nC:List Dt->Ev->Option Ev
 |[],ρ=>some ρ
 |_,_=>none
def bf (g:Dt->Ev->Option Ev) (gs:List Dt->Ev->Option Ev):List Dt->Ev->Option Ev
 |d::ds,ρ=>(g d ρ).bind (gs ds)
 |_,_=>none
theorem g8  : ZD X [] nC:=⟨λpins s σ H vs us Q I r h=>by
 obtain⟨H0,ρ,ds,ρ',E,rd,e,q⟩:=h;cases ds with
 |nil=>cases e;unfold aM at rd;exact Y7 pins s σ H vs us Q I r ⟨rd,q _ E Lo.refl⟩
 |cons d ds=>cases e⟩
theorem aP {t:Expr} {ts:List Expr} {gt:Dt->Ev->Option Ev} {gs:List Dt->Ev->Option Ev} (h1:QTg X t gt) (h2:ZD X ts gs) (hs:(assignEach (t::ts) X.env).map (·.2)=assign t X.env::(assignEach ts X.env).map (·.2):=by rfl):ZD X (t::ts) (bf gt gs):=⟨have h1:=h1.run;have h2:=h2.run;λpins s σ H vs us Q I r h=>by
 obtain⟨H0,ρ,ds,ρ',E,rd,e,q⟩:=h;cases ds with
 |nil=>cases e
 |cons d ds=>
  unfold aM at rd;obtain⟨v,vr,rfl,r1,r2⟩:=rd;simp only[bf] at e;obtain⟨ρ1,e1,e⟩:=bind_some e;exact VF h1 h2 hs pins s σ H _ us Q I r ⟨v,vr,rfl,H0,ρ,d,ρ1,E,r1,e1,λσ1 E1 L1=>⟨H0,ρ1,ds,ρ',E1,r2,e,λσ2 E2 L2=>q σ2 E2 (L1.trans L2)⟩⟩⟩
def j9 (n:Nat) (gs:List Dt->Ev->Option Ev):Dt->Ev->Option Ev
 |.tup ds,ρ=>if ds.length=n then gs ds ρ else none
 |_,_=>none
theorem kh {ts:List Expr} {gs:List Dt->Ev->Option Ev} (hc:X.calm=true) (h:ZD X ts gs) (hn:(assignEach ts X.env).length=n:=by rfl) (hst:(assignEach ts X.env).findIdx? (·.1)=none:=by rfl):QTg X (.Tuple ts k pos) (j9 n gs):=⟨have h:=h.run;λpins s σ H v u Q I r hw=>by
 obtain⟨H0,ρ,d,ρ',E,rd,e,q⟩:=hw;cases d with
 |tup ds=>
  simp only[j9] at e;split at e
  ·rename_i hl;unfold Rep at rd;obtain⟨a,vs,rfl,hq,rs⟩:=rd;exact acj hc h hn hst pins s σ H _ u Q I r ⟨a,vs,rfl,hq,by rw[rs.length];exact hl,H0,ρ,ds,ρ',E,rs,e,q⟩
  ·cases e
 |_=>cases e⟩
theorem uU {gt:Dt->Ev->Option Ev} (he:QV X e f) (hg:QTg X tg gt) (hs:swapsWithSole [tg] e pos.line X.env=pure false:=by rfl) (hw:swappedStores [tg] e X.env=pure none:=by rfl) (h1:(assignEach [tg] X.env).map (·.2)=[assign tg X.env]:=by rfl):Wf X (.Assign [tg] e pos) (λρ=>(f ρ).bind λb=>match b with|.z d=>(gt d ρ).bind λρ'=>some (.nx ρ')|_=>none):=⟨have he:=he.run;have hg:=hg.run;psM (acn he hg hs hw h1) λD σ H h=>by
 obtain⟨H0,ρ,r,E,e,q⟩:=h;obtain⟨b,eb,e⟩:=bind_some e;refine⟨H0,ρ,b,E,eb,λv H1 s1 n1 r1=>?_⟩;cases b with
 |z d=>
  obtain⟨ρ',eρ,e⟩:=bind_some e;cases e;exact⟨H0,ρ,d,ρ',E.grow s1,r1,eρ,λσ' E' _=>q _ _ E'⟩
 |_=>cases e⟩
def ZF (i j:Nat) (ρ:Ev):List Bx->Option Out
 |[.z d,.z d']=>some (.nx ((ρ.set i (some (.z d))).set j (some (.z d'))))
 |_=>none
theorem Wi (i j:Nat) {px py pt:Pos} {kt k2 pt2} (hc:X.calm=true) (hN:X.N.Nodup) (ha:Vr X [a,b] fs) (hi:X.N[i]?=some x:=by rfl) (hj:X.N[j]?=some y:=by rfl) (hij:i≠j:=by decide) (hx:X.env.scope.names.lookup x=some .local:=by rfl) (hy:X.env.scope.names.lookup y=some .local:=by rfl) (hw:swappedStores [.Tuple [.Name x px,.Name y py] kt pt] (.Tuple [a,b] k2 pt2) X.env=pure (some [x,y]):=by rfl) (hs:swapsWithSole [.Tuple [.Name x px,.Name y py] kt pt] (.Tuple [a,b] k2 pt2) pos.line X.env=pure false:=by rfl):Wf X (.Assign [.Tuple [.Name x px,.Name y py] kt pt] (.Tuple [a,b] k2 pt2) pos) (λρ=>(fs ρ).bind (ZF i j ρ)):=⟨have ha:=ha.run;psM (acp hc hN hi hj hij hx hy ha hw hs) λD σ H h=>by
 obtain⟨H0,ρ,r,E,e,q⟩:=h;obtain⟨bs,eb,e⟩:=bind_some e;refine⟨H0,ρ,bs,E,eb,λvs H1 s1 r1=>?_⟩;unfold ZF at e;split at e
 ·rename_i d d';cases e;cases r1 with
  |cons p t=>
   cases t with
   |cons p' t'=>
    cases t';refine⟨_,_,rfl,q _ _ ?_⟩;exact((E.grow s1).set (b:=.z d) (Same.refl H1) p (.inr rfl) trivial).set (b:=.z d') (Same.refl H1) p' (.inr rfl) trivial
 ·cases e⟩
def ZG (ρ:Ev) (i:Nat):Bx->Option Out
 |.z d=>match ρ[i]? with
  |some (some (.o ds))=>if ds.length < sizeLine then some (.nx (ρ.set i (some (.o (ds++[d]))))) else none
  |_=>none
 |_=>none
theorem bV.agR {ρ:Ev} {c0 c1:Bx} {a:Addr} {u:HO} (E:bV K H0 H σ ρ) (h:ρ[i]?=some (some c0)) (ho:yj c0=true) (hs:σ[i]?=some (some (.ref a))) (k:Kp H (upd H a u)) (r:bh K (upd H a u) c1 (.ref a)) :
  bV K H0 (upd H a u) σ (ρ.set i (some c1)):=by
 have hi:i < ρ.length:=(List.getElem?_eq_some_iff.mp h).1;have hb:H0 a=none:=E.new i c0 a h ho hs;have lo:∀ c,yj c=true->loose c=true:=λc hc=>by cases c<;>first|rfl|cases hc
 refine⟨by rw[kD];exact E.len,λj b' e=>?_,λj k' c a' b' e1 ec e2 e3 e4 e5=>?_,λc o e=>?_,λj c a' e1 ec e2=>?_⟩
 ·rcases getset e with⟨rfl,e',_⟩|⟨hne,e'⟩
  ·cases e';exact⟨_,hs,r⟩
  ·obtain⟨v,e1,r'⟩:=E.val j b' e';refine⟨v,e1,?_⟩;have away:∀ a',v=.ref a'->loose b'=true->a'≠a:=λa' ev hl z=>by
    subst z;exact hne (E.own i j c0 _ _ h ho hs e' hl (by rw[e1,ev])).symm
   cases b' with
   |z d=>exact Rep.kp k r'
   |l ds'=>
    obtain⟨a',vs',rfl,q,rr⟩:=r';refine⟨a',vs',rfl,?_,rr.kp k⟩;have hn:=away a' rfl rfl;rcases q with q|⟨o,q⟩
    ·exact .inl (by rw[bA hn];exact q)
    ·exact .inr ⟨o,by rw[bA hn];exact q⟩
   |o ds'=>
    obtain⟨a',vs',rfl,q,rr⟩:=r';have hn:=away a' rfl rfl;exact⟨a',vs',rfl,by rw[bA hn];exact q,rr.kp k⟩
   |n ds'=>
    obtain⟨a',vs',rfl,q,rr⟩:=r';refine⟨a',vs',rfl,?_,rr.kp k⟩;have hn:=away a' rfl rfl;rcases q with q|⟨o,q⟩
    ·exact .inl (by rw[bA hn];exact q)
    ·exact .inr ⟨o,by rw[bA hn];exact q⟩
   |m ds'=>
    obtain⟨a',vs',rfl,q,rr⟩:=r';have hn:=away a' rfl rfl;exact⟨a',vs',rfl,by rw[bA hn];exact q,rr.1.kp k,rr.2⟩
 ·have back:∀ (m:Nat) (b:Bx),(ρ.set i (some c1))[m]?=some (some b)->loose b=true->∃ b0,ρ[m]?=some (some b0)/\loose b0=true/\(yj b=true->yj b0=true):=λm b e l=>by
   rcases getset e with⟨rfl,e',_⟩|⟨hne,e'⟩
   ·exact⟨_,h,lo _ ho,λ_=>ho⟩
   ·exact⟨b,e',l,λz=>z⟩
  obtain⟨b0,q1,q2,q3⟩:=back j _ e1 (lo _ ec);obtain⟨b1,q4,q5,_⟩:=back k' _ e3 e4;exact E.own j k' b0 a' b1 q1 (q3 ec) e2 q4 q5 e5
 ·rw[bA (c7 e hb)];exact E.base c o e
 ·rcases getset e1 with⟨rfl,e',_⟩|⟨hne,e'⟩
  ·exact E.new _ c0 a' h ho e2
  ·exact E.new j c a' e' ec e2
theorem bV.acP {ρ:Ev} {ds es:List Dt} {a:Addr} {us:List V} (E:bV K H0 H σ ρ) (h:ρ[i]?=some (some (.o ds))) (hs:σ[i]?=some (some (.ref a))) (ha:H a=some (.lst vs)) (r:aM K H es us) :
  bV K H0 (upd H a (.lst us)) σ (ρ.set i (some (.o es))):=E.agR h rfl hs (.lst ha) ⟨a,us,rfl,cL,r.kp (.lst ha)⟩
theorem uV (i:Nat) {p:Pos} (he:QV X e f) (hN:X.N[i]?=some x:=by rfl) (hv:Vis X.env.scope x:=by first|exact Or.inl rfl|exact ku (Or.inl rfl)|exact ku (ku rfl)) (hd:(x==("__debug__" : Str))=false:=by decide) (hcd:(x==("__classdict__" : Str))=false:=by decide) (hst:starEach [e] X.env=[(false,eval e X.env)]:=by rfl) (hbase:attributeBase (.Name x p) "append" X.env (eval (.Name x p) X.env)=eval (.Name x p) X.env:=by rfl) (hfew:((backTo cpos (starEach [e] X.env)).all (λx=>!x.1)&&(backToKw cpos (keywordEach [] X.env)).all (λx=>x.1.isSome)&&decide ([e].length+([]:List Keyword).length+(if([]:List Keyword).isEmpty then 0 else 1) < 30))=true:=by rfl) (hline:(apos.endLine==cpos.line)=true:=by rfl) (hs:swapsWith (.Call (.Attribute (.Name x p) "append" apos) [e] [] cpos) none pos.line X.env=pure false:=by rfl):Wf X (.Expr (.Call (.Attribute (.Name x p) "append" apos) [e] [] cpos) pos) (λρ=>(f ρ).bind (ZG ρ i)):=⟨have he:=he.run;psM (Y6 (V4 PySem.F.plainAttrs_list PySem.F.slot_list_append PySem.F.type_list_append HS (Jt (i:=i) hN hv hd hcd) (jG he uP (by rw[hst]<;>rfl)) hbase hfew hline (by rw[hst]<;>rfl) rfl) hs) λD σ H h=>by
  obtain⟨H0,ρ,r,E,e,q⟩:=h;obtain⟨b,eb,e⟩:=bind_some e;cases b with
  |z d=>
   simp only[ZG] at e;split at e
   ·rename_i ds hρ;split at e
    ·rename_i hl;cases e;obtain⟨v,e1,a,vs,rfl,ha,rs⟩:=E.val i _ hρ;refine⟨_,e1,.inl ⟨rfl,vs,.inl (.inl ha)⟩,H0,ρ,_,E,eb,λu H1 s1 n1 r1=>?_⟩;have E1:=E.grow s1;refine⟨a,vs,u,rfl,rfl,s1 _ _ ha,by rw[rs.length];exact hl,q _ _ ?_⟩;exact E1.acP hρ e1 (s1 _ _ ha) ((rs.kp (.of s1)).append (aM.cons r1 aM.nil))
    ·cases e
   ·cases e
  |_=>cases e⟩
end
def Its (x:Str):It:=⟨λi _=>i < x.cps.size,λi H v H'=>H'=H/\∃ c,x.cps[i]?=some c/\v=.str ⟨#[c]⟩,λi _=>x.cps.size<=i⟩
def agS (h:Heap) (it:Addr) (x:Str) (i:Nat):Prop:=∃ t,h.IsStrIter it "str_ascii_iterator" x t i\/h.IsStrIter it "str_iterator" x t i
theorem Mj (it:Addr) (x:Str):Turn P w K tg (Its x) [it] it (λi h=>agS h it x i) where
 mem:=by simp
 obj:=λi h st b hb=>by
  have e:b=it:=by simpa using hb
  subst e;obtain⟨t,⟨o,e,c,d⟩|⟨o,e,c,d⟩⟩:=st
  ·exact⟨o,e,λv z=>by rw[d] at z;cases z⟩
  ·exact⟨o,e,λv z=>by rw[d] at z;cases z⟩
 keep:=λi h h' st k=>by
  obtain⟨t,⟨o,e,c⟩|⟨o,e,c⟩⟩:=st
  ·exact⟨t,.inl ⟨o,k it (by simp) o e,c⟩⟩
  ·exact⟨t,.inr ⟨o,k it (by simp) o e,c⟩⟩
 item:=by
  intro X hP hw hK hc i pins s σ H E I hf st hg;subst hP hw hK;obtain⟨f0,f1,f2,f3,f4,f5⟩:=hf it (by simp);have hi:i < x.cps.size:=hg;have hx:x.cps[i]?=some x.cps[i]:=by simp[hi]
  obtain⟨t,st|st⟩:=st
  ·refine wpAny_pyNext_ascii_item st hx λh' st' sb=>?_;have I1:L2.Inv X pins σ H { s with heap:=h',toks:=s.toks+1 }:=I.turned (λb o hb e=>(sb.2 b hb).trans e) f0 f1 f3 f4 f5;obtain⟨o,e,c,d⟩:=id st';exact⟨_,rfl,LQ (s:={ s with heap:=h',toks:=s.toks+1 }) e c d (by decide) ⟨.str ⟨#[x.cps[i]]⟩,H,I1,⟨_,rfl⟩,⟨rfl,_,hx,rfl⟩,⟨t,.inl st'⟩,λb hb=>(hf b hb).1⟩⟩
  ·refine wpAny_pyNext_wide_item st hx λh' st' sb=>?_;have I1:L2.Inv X pins σ H { s with heap:=h',toks:=s.toks+1 }:=I.turned (λb o hb e=>(sb.2 b hb).trans e) f0 f1 f3 f4 f5;obtain⟨o,e,c,d⟩:=id st';exact⟨_,rfl,LQ (s:={ s with heap:=h',toks:=s.toks+1 }) e c d (by decide) ⟨.str ⟨#[x.cps[i]]⟩,H,I1,⟨_,rfl⟩,⟨rfl,_,hx,rfl⟩,⟨t,.inr st'⟩,λb hb=>(hf b hb).1⟩⟩
 done:=by
  intro X hP hw hK hc i pins s σ H E I hf st hg;subst hP hw hK;obtain⟨f0,f1,f2,f3,f4,f5⟩:=hf it (by simp);have hx:x.cps[i]?=none:=by have:x.cps.size<=i:=hg;simp[this]
  obtain⟨t,st|st⟩:=st
  ·exact wpAny_pyNext_ascii_end (I.ok.hd hc) st hx λh' eb=>⟨rfl,I.turned (t':=s.toks) (λb o hb e=>eb b o hb e) f0 f1 f3 f4 f5⟩
  ·exact wpAny_pyNext_wide_end (I.ok.hd hc) st hx λh' eb=>⟨rfl,I.turned (t':=s.toks) (λb o hb e=>eb b o hb e) f0 f1 f3 f4 f5⟩
 self:=λ_ _ _ _ _ st h=>by
  obtain⟨t,st|st⟩:=st
  ·exact wpAny_pyIter_striter_ascii st h
  ·exact wpAny_pyIter_striter_wide st h
def agT (K:FG_) (tl:TE):TI:=λσ H R=>tl σ H λx H1=>(∃ a,x=.ref a/\(∃ xs,rY K H1 a xs)/\R (Itl K a) H1)\/(∃ a,x=.ref a/\(∃ xs,xX K H1 a xs)/\R (Itt K a) H1)\/∃ y,x=.str y/\R (Its y) H1
theorem Wj {l:Expr} {tl:TE} (hl:PE X l tl):PI X tg l (agT X.K tl):=by
 intro pins s σ H R I h;refine jq (hl pins s σ H _ I h) λv s1 ⟨x,H1,I1,r1,q1⟩=>?_;have fp1:∀ (o:Obj) (b:Addr),b∈[s1.heap.objs.size]->rz X pins H1 b:=λo b hb=>by
  have e:b=s1.heap.objs.size:=by simpa using hb
  subst e;exact I1.TQ (zi _) (I1.hok.fresh (zi _))
 rcases q1 with⟨a,e,⟨xs,hq⟩,q⟩|⟨a,e,⟨xs,hq⟩,q⟩|⟨y,e,q⟩
 ·subst e;cases r1;obtain⟨its,rv,p,hz⟩:=I1.list hq;refine JI p.isList ?_;exact⟨s1.heap.objs.size,[s1.heap.objs.size],_,_,H1,rfl,I1.kept (t':=s1.toks) λb o e=>ze _ e,TV a _,⟨_,zv _ rfl,rfl,rfl⟩,fp1 default,q⟩
 ·subst e;cases r1;obtain⟨its,rv,p,hz⟩:=I1.tuple hq;refine wpAny_pyIter_tuple (show s1.heap.IsTuple a its.toArray from p) ?_;exact⟨s1.heap.objs.size,[s1.heap.objs.size],_,_,H1,rfl,I1.kept (t':=s1.toks) λb o e=>ze _ e,PL a _,⟨_,zv _ rfl,rfl,rfl⟩,fp1 default,q⟩
 ·subst e;obtain⟨t,rfl⟩:=r1;cases ha:y.cps.all (· < 128) with
  |true=>
   refine wpAny_pyIter_ascii ha ?_;exact⟨s1.heap.objs.size,[s1.heap.objs.size],_,_,H1,rfl,I1.kept (t':=s1.toks) λb o e=>ze _ e,Mj _ y,⟨t,.inl ⟨_,zv _ rfl,rfl,rfl⟩⟩,fp1 default,q⟩
  |false=>
   refine wpAny_pyIter_wide ha ?_;exact⟨s1.heap.objs.size,[s1.heap.objs.size],_,_,H1,rfl,I1.kept (t':=s1.toks) λb o e=>ze _ e,Mj _ y,⟨t,.inr ⟨_,zv _ rfl,rfl,rfl⟩⟩,fp1 default,q⟩
def Yields (K:FG_) (J:It) (ds:List Dt) (Hs:Hp):Prop:=∀ (i:Nat) (H:Hp),Same Hs H →
 (∀ d,ds[i]?=some d->J.go i H/\∀ x H',J.yld i H x H'->Same H H'/\Rep K H' d x)/\(ds.length<=i->J.stop i H)
theorem Yields.of {ds:List Dt} (h:∀ (i:Nat) (H:Hp),Same Hs H →
  (∀ d,ds[i]?=some d->J.go i H/\∀ x H',J.yld i H x H'->H'=H/\Rep K H d x)/\(ds.length<=i->J.stop i H)):Yields K J ds Hs:=λi H s=>
 ⟨λd e=>⟨((h i H s).1 d e).1,λx H' y=>by
  obtain⟨rfl,r⟩:=((h i H s).1 d e).2 x H' y;exact⟨Same.refl _,r⟩⟩,(h i H s).2⟩
def signs (x:Str):List Dt:=x.cps.toList.map λc=>.str ⟨#[c]⟩
theorem Yields.list {ds:List Dt} (h:rY K Hs a vs) (r:aM K Hs ds vs):Yields K (Itl K a) ds Hs:=.of λi H s=>by
 have h':=s.seq h;have r':=r.kp (.of s);refine⟨λd e=>?_,λe=>⟨vs,h',by rw[r.length];exact e⟩⟩;obtain⟨v,ev,rv⟩:=r'.get e;refine⟨⟨vs,v,h',ev⟩,λx H' y=>?_⟩;obtain⟨y1,y2⟩:=y;have:=y2 vs h';rw[ev] at this;cases this;exact⟨y1,rv⟩
theorem Yields.tup {ds:List Dt} (h:xX K Hs a vs) (r:aM K Hs ds vs):Yields K (Itt K a) ds Hs:=.of λi H s=>by
 have h':=(Kp.of s).sqT h;have r':=r.kp (.of s);refine⟨λd e=>?_,λe=>⟨vs,h',by rw[r.length];exact e⟩⟩;obtain⟨v,ev,rv⟩:=r'.get e;refine⟨⟨vs,v,h',ev⟩,λx H' y=>?_⟩;obtain⟨y1,y2⟩:=y;have:=y2 vs h';rw[ev] at this;cases this;exact⟨y1,rv⟩
theorem Yields.str (x:Str):Yields K (Its x) (signs x) Hs:=.of λi H s=>by
 refine⟨λd e=>?_,λe=>?_⟩
 ·unfold signs at e;rw[ZA] at e;cases h:x.cps.toList[i]? with
  |none=>rw[h] at e;cases e
  |some c=>
   rw[h] at e;cases e;have hc:x.cps[i]?=some c:=by simpa using h
   have hi:i < x.cps.size:=by
    have:=(List.getElem?_eq_some_iff.mp h).1;simpa using this
   refine⟨hi,λv H' y=>?_⟩;obtain⟨y1,c',hc',rfl⟩:=y;rw[hc] at hc';cases hc';refine⟨y1,?_⟩;unfold Rep;exact⟨rfl,by show(1:Nat)<=sizeLine;decide⟩
 ·have:(signs x).length=x.cps.size:=by simp[signs]
  show x.cps.size<=i;omega
def Ml (lo:Int) (n:Nat):List Dt:=(List.range n).map λk=>.int (lo+(k:Nat))
theorem Yields.rng (lo:Int) (n:Nat):Yields K (Itr lo n) (Ml lo n) Hs:=.of λi H s=>by
 refine⟨λd e=>?_,λe=>?_⟩
 ·unfold Ml at e;rw[ZA] at e;by_cases hi:i < n
  ·rw[kL hi] at e;cases e;refine⟨hi,λv H' y=>?_⟩;obtain⟨y1,y2⟩:=y;refine⟨y1,?_⟩;unfold Rep;exact y2
  ·rw[Z3 (by simp;omega)] at e;cases e
 ·have:(Ml lo n).length=n:=by simp[Ml]
  show n<=i;omega
def iF (K:FG_) (f:Ev->Option (List Dt)):TI:=λσ H R=>∃ H0 ρ ds,bV K H0 H σ ρ/\f ρ=some ds/\∀ J H',Same H H' →
 (∀ Hs,Same Hs H'->(∀ a,H a=none->Hs a=H' a)->(∀ a o u,H' a=some (.Jo o u)->Hs a=H' a)->(∀ a vs,H' a=some (.tup vs)->Hs a=H' a)->Yields K J ds Hs)->R J H'
def PIF (X:Cx) (tg iter:Expr) (f:Ev->Option (List Dt)):Prop:=PI X tg iter (iF X.K f)
structure QIF (X:Cx) (tg iter:Expr) (f:Ev->Option (List Dt)):Prop where
 run:PIF X tg iter f
def ZJ:Bx->Option (List Dt)
 |.z (.lst ds)=>some ds
 |.z (.tup ds)=>some ds
 |.z (.str x)=>some (signs x)
 |.o ds=>some ds
 |_=>none
section
variable {f:Ev->Option Bx} {fs:Ev->Option (List Bx)}
mutual
theorem Rep.part {K:FG_} {H Hs:Hp} (hf:∀ a o u,H a=some (.Jo o u)->Hs a=H a) (ht:∀ a vs,H a=some (.tup vs)->Hs a=H a):∀ {d:Dt} {v:V},Rep K H d v->Rep K Hs d v
 |.non,_,h=>by simpa only[Rep] using h
 |.bl _,_,h=>by simpa only[Rep] using h
 |.int _,_,h=>by simpa only[Rep] using h
 |.str _,_,h=>by simpa only[Rep] using h
 |.tup ds,_,h=>by
  simp only[Rep] at h ⊢;obtain⟨a,vs,e,q,r⟩:=h;refine⟨a,vs,e,?_,aM.part hf ht r⟩;rcases q with (q|⟨o,q⟩)|q
  ·exact .inl (.inl ((ht _ _ q).trans q))
  ·exact .inl (.inr ⟨o,(hf _ _ _ q).trans q⟩)
  ·exact .inr q
 |.lst ds,_,h=>by
  simp only[Rep] at h ⊢;obtain⟨a,vs,e,q,r⟩:=h;refine⟨a,vs,e,?_,aM.part hf ht r⟩;rcases q with⟨o,q⟩|q
  ·exact .inl ⟨o,(hf _ _ _ q).trans q⟩
  ·exact .inr q
 |.emp,_,h=>by
  simp only[Rep] at h ⊢;obtain⟨a,o,e,q⟩:=h;exact⟨a,o,e,(hf _ _ _ q).trans q⟩
theorem aM.part {K:FG_} {H Hs:Hp} (hf:∀ a o u,H a=some (.Jo o u)->Hs a=H a) (ht:∀ a vs,H a=some (.tup vs)->Hs a=H a):∀ {ds:List Dt} {vs:List V},aM K H ds vs->aM K Hs ds vs
 |[],_,h=>by simpa only[aM] using h
 |d::ds,_,h=>by
  simp only[aM] at h ⊢;obtain⟨v,r,e,q,t⟩:=h;exact⟨v,r,e,Rep.part hf ht q,aM.part hf ht t⟩
end
theorem Cg (h:QV X e f):QIF X tg e (λρ=>(f ρ).bind ZJ):=⟨have h:=h.run;λpins s σ H R I q=>by
 refine Wj h pins s σ H R I ?_;obtain⟨H0,ρ,ds,E,e,q⟩:=q;obtain⟨b,eb,e⟩:=bind_some e;refine⟨H0,ρ,b,E,eb,λv H1 s1 n1 r1=>?_⟩;cases b with
 |z d=>
  cases d with
  |tup ds'=>
   cases e;simp only[bh,Rep] at r1;obtain⟨a,vs,rfl,hq,rs⟩:=r1;refine .inr (.inl ⟨a,rfl,⟨vs,hq⟩,q _ _ s1 λHs hs hn hf ht=>.tup ?_ (rs.part hf ht)⟩);rcases hq with (hq|⟨o,hq⟩)|hq
   ·exact .inl (.inl ((ht _ _ hq).trans hq))
   ·exact .inl (.inr ⟨o,(hf _ _ _ hq).trans hq⟩)
   ·exact .inr hq
  |lst ds'=>
   cases e;simp only[bh,Rep] at r1;obtain⟨a,vs,rfl,hq,rs⟩:=r1;refine .inl ⟨a,rfl,⟨vs,hq.sq⟩,q _ _ s1 λHs hs hn hf ht=>.list ?_ (rs.part hf ht)⟩;rcases hq with⟨o,hq⟩|hq
   ·exact .inl (.inr ⟨o,(hf _ _ _ hq).trans hq⟩)
   ·exact .inr hq
  |str x=>
   cases e;simp only[bh,Rep] at r1;obtain⟨rfl,_⟩:=r1;exact .inr (.inr ⟨x,rfl,q _ _ s1 λHs hs hn hf ht=>.str x⟩)
  |_=>cases e
 |l ds'=>cases e
 |n ds'=>cases e
 |m ds'=>cases e
 |o ds'=>
  cases e;obtain⟨a,vs,rfl,hq,rs⟩:=r1;refine .inl ⟨a,rfl,⟨vs,.inl (.inl hq)⟩,q _ _ s1 λHs hs hn hf ht=>.list (.inl (.inl ((hn a (n1 a rfl)).trans hq))) (rs.part hf ht)⟩⟩
def acW:List Bx->Option (List Dt)
 |[.z (.int j)]=>if -(2 ^ 62)<=j/\j < 2 ^ 62 then some (Ml 0 j.toNat) else none
 |_=>none
theorem nD {p:Pos} (hg:Gl X "range") (hm:X.mg "range" = none) (ha:Vr X [e] fs) (hs:starEach [e] X.env=[(false,eval e X.env)]:=by rfl):QIF X tg (.Call (.Name "range" p) [e] [] pos) (λρ=>(fs ρ).bind acW):=⟨have ha:=ha.run;λpins s σ H R I q=>by
 refine TX hg hm ha hs pins s σ H R I ?_;obtain⟨H0,ρ,ds,E,e,q⟩:=q;obtain⟨bs,eb,e⟩:=bind_some e;refine⟨H0,ρ,bs,E,eb,λvs H1 s1 r1=>?_⟩;unfold acW at e;split at e
 ·rename_i j;split at e
  ·rename_i hj;cases e;cases r1 with
   |cons p t=>
    cases t;simp only[bh,Rep] at p;subst p;exact⟨j,rfl,hj.1,hj.2,q _ _ s1 λHs _ _ _ _=>.rng 0 _⟩
  ·cases e
 ·cases e⟩
def Bo (gt:Dt->Ev->Option Ev) (gb:Ev->Option Out):List Dt->Ev->Option Out
 |[],ρ=>some (.nx ρ)
 |d::ds,ρ=>(gt d ρ).bind λρ1=>(gb ρ1).bind λr=>match r with
  |.nx ρ2=>Bo gt gb ds ρ2
  |.ct ρ2=>Bo gt gb ds ρ2
  |.bk ρ2=>some (.nx ρ2)
  |.rt b=>some (.rt b)
noncomputable def kj (H:Hp) (σ:L2.St) (ρ:Ev):Hp:=λa=>@ite _ (∃ (i:Nat) (c:Bx),ρ[i]?=some (some c)/\yj c=true/\σ[i]?=some (some (.ref a))) (Classical.propDecidable _) none (H a)
theorem yr {ρ:Ev}:Same (kj H σ ρ) H:=λa o e=>by
 unfold kj at e;split at e
 ·cases e
 ·exact e
theorem bV.rebase {ρ:Ev} (E:bV K Hs H σ ρ) (s:Same H0 Hs):bV K H0 H σ ρ:=⟨E.len,E.val,E.own,s.trans E.base,λi c a e1 ec e2=>s.free (E.new i c a e1 ec e2)⟩
theorem bV.sans {ρ:Ev} (E:bV K H0 H σ ρ):bV K (kj H σ ρ) H σ ρ:=⟨E.len,E.val,E.own,yr,λi c a e1 ec e2=>by
 unfold kj;rw[zr ⟨i,c,e1,ec,e2⟩]⟩
theorem bV.sub {ρ:Ev} (E:bV K H0 H σ ρ):Same H0 (kj H σ ρ):=λa o e=>by
 unfold kj;split
 ·rename_i h;obtain⟨i,c,e1,ec,e2⟩:=h;rw[E.new i c a e1 ec e2] at e;cases e
 ·exact E.base a o e
theorem yt {ρ:Ev} (E:bV K H0 H σ ρ) (h:∀ vs,H a≠some (.lst vs)) (h2:∀ vs,H a≠some (.dK vs)):kj H σ ρ a=H a:=by
 unfold kj;split
 ·rename_i hh;obtain⟨i,c,e1,ec,e2⟩:=hh;obtain⟨v,e3,rc⟩:=E.val i _ e1;rw[e2] at e3;cases e3;cases c with
  |o ds=>obtain⟨a',vs,e4,q,_⟩:=rc;cases e4;exact absurd q (h vs)
  |m ds _=>obtain⟨a',vs,e4,q,_⟩:=rc;cases e4;exact absurd q (h2 vs)
  |_=>cases ec
 ·rfl
theorem Wd.rebase {K:FG_} {H0 Hs:Hp} {D:Ends} {r:Out} (s:Same H0 Hs) (h:Wd K H0 D r):Wd K Hs D r:=by
 cases r with
 |nx ρ=>exact λσ H E=>h σ H (E.rebase s)
 |bk ρ=>exact λσ H E=>h σ H (E.rebase s)
 |ct ρ=>exact λσ H E=>h σ H (E.rebase s)
 |rt b=>exact λv H s' n r=>h v H (s.trans s') (n.old s) r
theorem Wm {gt:Dt->Ev->Option Ev} {gb:Ev->Option Out} {ds:List Dt} {H1:Hp} {ρ:Ev} {D:Ends} {r:Out} (E1:bV X.K H0 H1 σ ρ) (Y:Yields X.K J ds (kj H1 σ ρ)) (e:Bo gt gb ds ρ=some r) (q:Wd X.K H0 D r) :
  ∃ W:Nat->Nat->L2.St->Hp->Prop,(∃ m,W 0 m σ H1)/\∀ i m σ H,W i m σ H →
   (J.stop i H/\D.nx σ H)\/(J.go i H/\∃ N:L2.St->Hp->Prop,(∀ σ' H',N σ' H'->∃ m',m' < m/\W (i+1) m' σ' H')/\∀ x H',J.yld i H x H'->tgF X.K gt x σ H' λσ2 H2=>tG X.K gb { D with nx:=N,ct:=N,bk:=D.nx } σ2 H2):=by
 have E2:=E1.sans;have q2:=q.rebase E1.sub;generalize kj H1 σ ρ=Hs at Y E2 q2;refine⟨λi m σ' H'=>m=ds.length - i/\i<=ds.length/\∃ ρ',bV X.K Hs H' σ' ρ'/\Bo gt gb (ds.drop i) ρ'=some r,⟨ds.length,by simp,QP _,ρ,E2,by simpa using e⟩,?_⟩;rintro i m σ' H' ⟨rfl,hi',ρ',E',e'⟩;obtain⟨y1,y2⟩:=Y i H' E'.base;by_cases hlt:i < ds.length
 ·right;have hd:ds[i]?=some ds[i]:=by simp[hlt]
  obtain⟨go,yl⟩:=y1 _ hd;rw[List.drop_eq_getElem_cons hlt] at e';simp only[Bo] at e';obtain⟨ρ1,e1,e'⟩:=bind_some e';obtain⟨r1,e2,e'⟩:=bind_some e';refine⟨go,λσ2 H2=>∃ ρ2,bV X.K Hs H2 σ2 ρ2/\Bo gt gb (ds.drop (i+1)) ρ2=some r,λσ2 H2 ⟨ρ2,E3,e3⟩=>⟨ds.length - (i+1),by omega,rfl,hlt,ρ2,E3,e3⟩,λx H2 yy=>?_⟩;obtain⟨sm,rx⟩:=yl x H2 yy;refine⟨Hs,ρ',ds[i],ρ1,E'.grow sm,rx,e1,λσ1 E3 _=>⟨Hs,ρ1,r1,E3,e2,?_⟩⟩;cases r1 with
  |nx ρ2=>exact λσ2 H3 E4=>⟨ρ2,E4,e'⟩
  |ct ρ2=>exact λσ2 H3 E4=>⟨ρ2,E4,e'⟩
  |bk ρ2=>cases e';exact q2
  |rt b=>cases e';exact q2
 ·left;have hge:ds.length<=i:=by omega
  refine⟨y2 hge,?_⟩;rw[List.drop_eq_nil_of_le hge] at e';cases e';exact q2 σ' H' E'
theorem sE {fi:Ev->Option (List Dt)} {gt:Dt->Ev->Option Ev} {gb:Ev->Option Out} (hp:PassesOwn (model X.prog X.w) X.A X.env X.xe) (hc:X.calm=true) (hi:QIF X tg iter fi) (hg:QTg X tg gt) (hb:YM X body gb) (hs:∀ x,foldedSetIterable iter X.env x=pure x:=by intro _;rfl):Wf X (.For tg iter body [] pos) (λρ=>(fi ρ).bind λds=>Bo gt gb ds ρ):=⟨have hi:=hi.run;have hg:=hg.run;have hb:=hb.run;psM (acr hp hc hi hg hb hs) λD σ H h=>by
 obtain⟨H0,ρ,r,E,e,q⟩:=h;obtain⟨ds,ed,e⟩:=bind_some e;refine⟨H0,ρ,ds,E,ed,λJ H1 s1 y=>?_⟩;have E1:=E.grow s1;refine Wm E1 ?_ e q;refine y _ yr (λa ha=>?_) (λa o u ha=>yt E1 (λvs z=>by rw[ha] at z;cases z) (λvs z=>by rw[ha] at z;cases z)) λa vs ha=>yt E1 (λvs z=>by rw[ha] at z;cases z) (λvs z=>by rw[ha] at z;cases z);unfold kj;split
 ·rename_i hh;obtain⟨i,c,e1,ec,e2⟩:=hh;obtain⟨v,e3,rc⟩:=E.val i _ e1;rw[e2] at e3;cases e3;cases c with
  |o ds=>obtain⟨a',vs,e4,q,_⟩:=rc;cases e4;rw[ha] at q;cases q
  |m ds _=>obtain⟨a',vs,e4,q,_⟩:=rc;cases e4;rw[ha] at q;cases q
  |_=>cases ec
 ·rfl⟩
end
def SubL (cells:List (Str×Addr)):List (Str×Addr)->Prop
 |[]=>True
 |(n,c)::r=>cells.lookup n=some c/\SubL cells r
theorem SubL.get {cells:List (Str×Addr)}:∀ {cl:List (Str×Addr)},SubL cells cl->∀ {x:Str} {c:Addr},cl.lookup x=some c->cells.lookup x=some c
 |[],_,_,_,e=>by cases e
 |(n,d)::r,h,x,c,e=>by
  rw[List.lookup_cons] at e;by_cases hx:x==n
  ·simp only[hx] at e;cases e;have:x=n:=by simpa using hx
   rw[this];exact h.1
  ·have hx:(x==n)=false:=by simpa using hx
   simp only[hx] at e;exact SubL.get h.2 e
structure Cap (X:Cx) (scope:Scope) (cl:List (Str×Addr)) (x:Str) (i:Nat):Prop where
 n:X.N[i]?=some x
 k:X.env.kindOf x=some .cell\/X.env.kindOf x=some .free
 k':(relabel scope X.env).names.lookup x=some .cell\/(relabel scope X.env).names.lookup x=some .free
 c:∃ c,cl.lookup x=some c
def Gz (X:Cx) (scope:Scope) (cl:List (Str×Addr)):LS_->List Nat->Prop
 |[],[]=>True
 |x::xs,i::is=>Cap X scope cl x i/\Gz X scope cl xs is
 |_,_=>False
theorem Gz.get {X:Cx} {scope:Scope} {cl:List (Str×Addr)}:∀ {xs:LS_} {is:List Nat},Gz X scope cl xs is->xs.length=is.length/\∀ (j:Nat) (x:Str),xs[j]?=some x->∃ i,is[j]?=some i/\Cap X scope cl x i
 |[],[],_=>⟨rfl,λj x e=>by simp at e⟩
 |x::xs,i::is,h=>by
  obtain⟨h1,h2⟩:=h;obtain⟨l,g⟩:=Gz.get h2;refine⟨by simp[l],λj y e=>?_⟩;cases j with
  |zero=>simp at e;subst e;exact⟨i,rfl,h1⟩
  |succ j=>obtain⟨k,e1,e2⟩:=g j y (by simpa using e);exact⟨k,by simpa using e1,e2⟩
 |[],_::_,h=>h.elim
 |_::_,[],h=>h.elim
def acX (names:List (Str×NameKind)) (x:Str):Bool:=match names.lookup x with
 |some .cell=>true
 |_=>false
def Qj (X:Cx) (N':LS_) (scope:Scope) (cl:List (Str×Addr)) (C:Addr) (s₀:Shared) (H₀:Hp) (fp:List Addr):Cx:=
 { X with N:=N',s₀:=s₀,H₀:=H₀,env:=compEnvC scope (cellsFrom (C+1) scope.names cl) C X.env,outer:=X.stack,ex:=fp,fn:=acX scope.names,pn:=[],xe:=λ_ _=>False }
structure acY (h:Heap) (cs:List (Str×Addr)):Prop where
 inj:∀ x y c,cs.lookup x=some c->cs.lookup y=some c->x=y
 cell:∀ x c,cs.lookup x=some c->∃ v,h.IsCell c v
theorem jQ {n:Str} {a:α} {l:List (Str×α)} (h:x≠n):((n,a)::l).lookup x=l.lookup x:=by
 rw[List.lookup_cons,beq_eq_false_iff_ne.mpr h]
theorem Wn:∀ (names:List (Str×NameKind)) (h:Heap) (acc:List (Str×Addr)),acY h acc->acY (pushCells h names) (cellsFrom h.objs.size names acc)
 |[],_,_,x=>x
 |(n,k)::r,h,acc,x=>by
  unfold pushCells cellsFrom;split
  ·have hlt:∀ y c,acc.lookup y=some c->c≠h.objs.size:=λy c e=>let ⟨_,q⟩:=x.cell y c e;z5 q.lt;have:=Wn r (h.push { cls:=.type "cell", data:=.cell none }) ((n,h.objs.size)::acc) ⟨λy z c e1 e2=>?_,λy c e=>?_⟩
   ·rwa [qc] at this
   ·by_cases hy:y=n<;>by_cases hz:z=n
    ·rw[hy,hz]
    ·subst hy;rw[JE] at e1;rw[jQ hz] at e2;cases e1;exact absurd rfl (hlt _ _ e2)
    ·subst hz;rw[JE] at e2;rw[jQ hy] at e1;cases e2;exact absurd rfl (hlt _ _ e1)
    ·rw[jQ hy] at e1;rw[jQ hz] at e2;exact x.inj y z c e1 e2
   ·by_cases hy:y=n
    ·subst hy;rw[JE] at e;cases e;exact⟨none,_,zv _ rfl,rfl⟩
    ·rw[jQ hy] at e;obtain⟨v,q⟩:=x.cell y c e;exact⟨v,q.keeps λb o e=>ze _ e⟩
  ·exact Wn r h acc x
theorem yu:∀ (names:List (Str×NameKind)) (n:Nat) (acc:List (Str×Addr)) (x:Str) (c:Addr),(cellsFrom n names acc).lookup x=some c->acc.lookup x=some c\/n<=c
 |[],_,_,_,_,e=>.inl e
 |(m,k)::r,n,acc,x,c,e=>by
  unfold cellsFrom at e;split at e
  ·rcases yu r _ _ x c e with h|h
   ·by_cases hx:x=m
    ·subst hx;rw[JE] at h;cases h;exact .inr (zi _)
    ·rw[jQ hx] at h;exact .inl h
   ·exact .inr (by omega)
  ·exact yu r _ _ x c e
theorem JH:∀ (names:List (Str×NameKind)) (n:Nat) (acc:List (Str×Addr)) (x:Str),(x,NameKind.cell)∉names->(cellsFrom n names acc).lookup x=acc.lookup x
 |[],_,_,_,_=>rfl
 |(m,k)::r,n,acc,x,h=>by
  unfold cellsFrom;have hr:(x,NameKind.cell)∉r:=λz=>h (zo _ z);split
  ·rename_i hk;rw[JH r _ _ x hr,jQ λz=>h (by rw[z,<-beq_iff_eq.mp hk];exact zk ..)]
  ·exact JH r _ _ x hr
theorem Qk:∀ (names:List (Str×NameKind)) (n:Nat) (acc:List (Str×Addr)) (x:Str),((x,NameKind.cell)∈names\/∃ c,acc.lookup x=some c)->∃ c,(cellsFrom n names acc).lookup x=some c
 |[],_,_,_,h=>h.elim (λz=>by simp at z) λz=>z
 |(m,k)::r,n,acc,x,h=>by
  unfold cellsFrom;split
  ·refine Qk r _ _ x ?_;by_cases hx:x=m
   ·exact .inr ⟨n,by rw[hx,JE]⟩
   ·rw[jQ hx];exact h.imp_left λz=>(List.mem_cons.mp z).elim (λz=>absurd (congrArg Prod.fst z) hx) λz=>z
  ·rename_i hk;exact Qk r _ _ x (h.imp_left λz=>(List.mem_cons.mp z).elim (λz=>by cases z;exact absurd rfl hk) λz=>z)
theorem Ub {g:Addr} {env:Env} {Q:Env->Shared->Prop} (h:Q (newEnv scope s.heap.objs.size g (cellsFrom (s.heap.objs.size+1) scope.names cl) qual none .none (some env) builtinsNs) { s with heap:=pushCells (s.heap.push { cls:=.type "dict", data:=.dict #[] }) scope.names }) :
  wpAny M A (newFunctionEnv scope g cl [] qual none .none (some env)) Q E s:=by
 simp only[newFunctionEnv,Option.isSome_some,ZZ];refine zb (wpAny_alloc ?_);refine zb (wpAny_layCells _ (λname kind cells=>by cases kind==NameKind.cell<;>simp) _ _ _ _ ?_);rw[show({ s with heap:=s.heap.push { cls:=.type "dict", data:=.dict #[] } }:Shared).heap.objs.size=s.heap.objs.size+1 from qc ..];rw[List.forIn_nil];exact zb (zd (zd h))
structure xu (X:Cx) (scope:Scope) (cl:List (Str×Addr)) (xs:LS_) (is:List Nat):Prop where
 clos:closureFor scope X.env=pure cl
 kind:scope.kind=.function
 cell:∀ y∈scope.names,y.2=.cell->cl.lookup y.1=none
 names:∀ y∈scope.names,y.2=.local->scope.names.lookup y.1=some .local
 sub:SubL X.env.cells cl
 has:∀ x,((relabel scope X.env).names.lookup x=some .cell\/(relabel scope X.env).names.lookup x=some .free)->(x,NameKind.cell)∈scope.names\/∃ c,cl.lookup x=some c
 cap:Gz X scope cl xs is
def zA (is:List Nat) (σ:L2.St):L2.St:=is.map λi=>(σ[i]?).bind λv=>v
def pF (is:List Nat) (ρ:Ev):Ev:=is.map λi=>Bm ρ i
def TgK (n m:Nat) (g:Dt->Ev->Option Ev):Prop:=∀ d ρ ρ',g d ρ=some ρ'->ρ'.length=ρ.length/\∀ j,j < n\/m<=j->ρ'[j]?=ρ[j]?
def ZK (n m:Nat) (g:List Dt->Ev->Option Ev):Prop:=∀ d ρ ρ',g d ρ=some ρ'->ρ'.length=ρ.length/\∀ j,j < n\/m<=j->ρ'[j]?=ρ[j]?
theorem cj (h:n<=i:=by decide) (h':i < m:=by decide):TgK n m (λd ρ=>some (ρ.set i (some (.z d)))):=λd ρ ρ' e=>by
 cases e;exact⟨by rw[kD],λj hj=>Dk _ (by omega)⟩
theorem JK:ZK n m nC:=λd ρ ρ' e=>by
 cases d with
 |nil=>cases e;exact⟨rfl,λ_ _=>rfl⟩
 |cons=>cases e
theorem iz {g:Dt->Ev->Option Ev} {gs:List Dt->Ev->Option Ev} (h:TgK n m g) (hs:ZK n m gs):ZK n m (bf g gs):=λd ρ ρ' e=>by
 cases d with
 |nil=>cases e
 |cons d ds=>
  simp only[bf] at e;obtain⟨ρ1,e1,e⟩:=bind_some e;obtain⟨a,b⟩:=h _ _ _ e1;obtain⟨a',b'⟩:=hs _ _ _ e;exact⟨a'.trans a,λj hj=>(b' j hj).trans (b j hj)⟩
theorem Ql {gs:List Dt->Ev->Option Ev} (hs:ZK n m gs):TgK n m (j9 k gs):=λd ρ ρ' e=>by
 cases d with
 |tup ds=>
  simp only[j9] at e;split at e
  ·exact hs _ _ _ e
  ·cases e
 |_=>cases e
def Bp (gt:Dt->Ev->Option Ev) (p:Ev->Option Bool) (fs:Ev->Option (List Dt)) (ρ:Ev):List Dt->Option (List Dt)
 |[]=>some []
 |d::ds=>(gt d ρ).bind λρ1=>(p ρ1).bind λk=>if k=true then(fs ρ1).bind λys=>(Bp gt p fs ρ ds).bind λzs=>some (ys++zs) else Bp gt p fs ρ ds
def acZ:Bx->Option (List Dt)
 |.z y=>some [y]
 |_=>none
def HY (gt:Dt->Ev->Option Ev) (p:Ev->Option Bool) (fe:Ev->Option Bx) (ρ:Ev):List Dt->Option (List Dt):=Bp gt p (λρ=>(fe ρ).bind acZ) ρ
theorem Ia {b:Bx} {ys:List Dt} (h:acZ b=some ys):∃ y,b=.z y/\ys=[y]:=by
 cases b<;>cases h;exact⟨_,rfl,rfl⟩
theorem zB {gt:Dt->Ev->Option Ev} {p:Ev->Option Bool} {fe:Ev->Option Bx} {ρ:Ev}:∀ {ds out:List Dt},HY gt p fe ρ ds=some out->out.length<=ds.length
 |[],_,e=>by cases e;exact zi _
 |d::ds,out,e=>by
  simp only[HY,Bp] at e;obtain⟨ρ1,_,e⟩:=bind_some e;obtain⟨k,_,e⟩:=bind_some e;cases k with
  |false=>
   rw[zz Zp] at e;exact zD (zB (gt:=gt) (p:=p) (fe:=fe) e) (by simp)
  |true=>
   rw[zr rfl] at e;obtain⟨ys,ey,e⟩:=bind_some e;obtain⟨zs,ez,e⟩:=bind_some e;obtain⟨b,_,ey⟩:=bind_some ey;obtain⟨y,_,rfl⟩:=Ia ey;cases e;simpa using zB (gt:=gt) (p:=p) (fe:=fe) ez
def Tests (X:Cx) (ifs:List Expr) (p:Ev->Option Bool):Prop:=(ifs=[]/\p=λ_=>some true)\/∃ c,ifs=[c]/\PB X c p
structure JL (X:Cx) (ifs:List Expr) (p:Ev->Option Bool):Prop where
 run:Tests X ifs p
section
variable {xs:LS_} {gt:Dt->Ev->Option Ev} {p:Ev->Option Bool} {fe:Ev->Option Bx} {fi:Ev->Option (List Dt)}
theorem Wo {H3:Hp} {s3:Shared} (I3:L2.Inv X pins σ H3 s3) (O:xu X scope cl xs is) (hf:∀ b∈fp,rz X pins H3 b) (hfl:∀ b∈fp,b < s3.heap.objs.size) :
  L2.Inv (Qj X (xs++ts) scope cl s3.heap.objs.size s3 H3 fp) [] (zA is σ++List.replicate ts.length none) H3 { s3 with heap:=pushCells (s3.heap.push { cls:=.type "dict", data:=.dict #[] }) scope.names }:=by
 obtain⟨hl,hc⟩:=O.cap.get;have hsub:=O.sub;have hsz:(s3.heap.push { cls:=.type "dict", data:=.dict #[] }).objs.size=s3.heap.objs.size+1:=qc ..;have hk:∀ b o,s3.heap.get? b=some o->(pushCells (s3.heap.push { cls:=.type "dict", data:=.dict #[] }) scope.names).get? b=some o:=λb o e=>pushCells_keeps _ _ b o (ze _ e);have cf:acY (pushCells (s3.heap.push { cls:=.type "dict", data:=.dict #[] }) scope.names) (cellsFrom (s3.heap.objs.size+1) scope.names cl):=by
  rw[<-hsz];refine Wn _ _ _ ⟨λx y c e1 e2=>I3.ok.inj x y c (hsub.get e1) (hsub.get e2),λx c e=>?_⟩;obtain⟨v,q⟩:=I3.cell x c (hsub.get e);exact⟨v,q.keeps λb o e=>ze _ e⟩
 have from':∀ x c,(cellsFrom (s3.heap.objs.size+1) scope.names cl).lookup x=some c->X.env.cells.lookup x=some c\/s3.heap.objs.size < c:=λx c e=>(yu _ _ _ x c e).imp_left hsub.get;refine⟨⟨I3.ok.mod,O.kind,I3.ok.glob,I3.ok.blt,zi _,cf.inj,λx hx=>Qk _ _ _ x (O.has x hx),λx c hx e=>?_,I3.ok.hd,I3.ok.frames,.inl rfl,λb hb=>⟨z5 (hfl b hb),λx c e=>?_⟩,I3.bs,zD I3.ok.bsz I3.sz,λb o e hb=>?_,λb hb hb'=>?_,I3.stack,I3.Rx⟩,
  rfl,I3.bare,Un.kept hk,⟨_,(Heap.Ns.new s3.heap (.type "dict")).keeps (pushCells_keeps _ _),λj x v e1 e2 _=>?_⟩,cf.cell,I3.hok.fresh (zi _),λx c e=>(from' x c e).elim (I3.q9 x c) λh=>I3.hok.fresh (QU h),λq hq=>absurd (show q∈([]:List (Addr×Obj)) from hq) (by simp),I3.hok.kept hk,?_⟩
 ·refine(yu _ _ _ x c e).elim (λh=>?_) λh=>QU h;have hx:(x,NameKind.cell)∈scope.names:=by
   have hx:acX scope.names x=true:=hx;unfold acX at hx;split at hx
   ·rename_i q;exact mem_of_lookup q
   ·cases hx
  rw[O.cell _ hx rfl] at h;cases h
 ·rcases from' x c e with h|h
  ·exact(hf b hb).2.2.2.2.1 x c h
  ·exact JY (Nat.lt_trans (hfl b hb) h)
 ·obtain⟨_,_,_,z,_⟩:=hf b hb;rcases z with z|z
  ·exact I3.ok.Vx b o e z
  ·exact absurd (Zs (zw e) (zD I3.ok.bsz z)) (ja _)
 ·obtain⟨_,n1,n2,_⟩:=hf b hb;rcases List.mem_cons.mp (I3.Jr b hb') with z|z
  ·exact n1 z
  ·exact n2 z
 ·have hj:j < is.length:=by
   by_cases hj:j < is.length
   ·exact hj
   ·rw[qA (by simp[zA];omega)] at e2;rw[QR] at e2;split at e2<;>cases e2
  have e1':xs[j]?=some x:=by
   have e1:(xs++ts)[j]?=some x:=e1;rw[ZU (by omega)] at e1;exact e1
  obtain⟨i,ei,hcp⟩:=hc j x e1';have e3:σ[i]?=some (some v):=by
   rw[ZU (by simp[zA];omega)] at e2;unfold zA at e2;rw[ZA,ei] at e2;cases q:σ[i]? with
   |none=>rw[Option.map_some,q] at e2;cases e2
   |some o=>
    rw[Option.map_some,q] at e2;have:o=some v:=by simpa using e2
    rw[this]
  have vis:Vis X.env.scope x:=by
   rcases hcp.k with k|k
   ·exact .inr (.inl k)
   ·exact .inr (.inr k)
  obtain⟨m',hn',hlk⟩:=I3.loc;obtain⟨u,r,l⟩:=hlk i x v hcp.n e3 vis;refine⟨u,r,?_⟩;rcases l with⟨k,_⟩|⟨k,c,ec,ic⟩
  ·rcases hcp.k with k'|k'<;>(rw[k] at k';cases k')
  ·obtain⟨c',ec'⟩:=hcp.c;have:=hsub.get ec';rw[ec] at this;cases this;refine .inr ⟨hcp.k',c,(JH _ _ _ x λz=>by rw[O.cell _ z rfl] at ec';cases ec').trans ec',?_⟩;obtain⟨o,ho,hd⟩:=ic;exact⟨o,hk c o ho,hd⟩
 ·show(zA is σ++List.replicate ts.length none).length=(xs++ts).length;simp[zA,hl]
theorem bV.caps {ρ:Ev} (E:bV K H0 H σ ρ) (is:List Nat) (n:Nat):bV K H H (zA is σ++List.replicate n none) (pF is ρ++List.replicate n none):=by
 have noO:∀ (j:Nat) c,(pF is ρ++List.replicate n none)[j]?=some (some c)->yj c=false:=λj c e=>by
  by_cases hj:j < is.length
  ·rw[ZU (by simp[pF];omega)] at e;unfold pF at e;rw[ZA] at e;cases q:is[j]? with
   |none=>rw[q] at e;cases e
   |some i=>
    rw[q] at e;have:Bm ρ i=some c:=by simpa using e
    exact Ce this
  ·rw[qA (by simp[pF];omega),QR] at e;split at e<;>cases e
 refine⟨by simp[zA,pF],λj b e=>?_,λj k c a b e ec=>absurd ec (by rw[noO j c e];exact Zp),Same.refl H,λj c a e ec=>absurd ec (by rw[noO j c e];exact Zp)⟩;by_cases hj:j < is.length
 ·rw[ZU (by simp[pF];omega)] at e;rw[ZU (by simp[zA];omega)];unfold pF at e;unfold zA;rw[ZA] at e ⊢;cases q:is[j]? with
  |none=>rw[q] at e;cases e
  |some i=>
   rw[q] at e;have:Bm ρ i=some b:=by simpa using e
   obtain⟨v,e1,r⟩:=Mh E this;exact⟨v,by simp[e1],r⟩
 ·rw[qA (by simp[pF];omega),QR] at e;split at e<;>cases e
theorem bV.forget {ρ ρ':Ev} (E:bV K H0 H σ ρ') (hl:ρ'.length=ρ.length) (h:∀ (j:Nat) b,ρ[j]?=some (some b)->ρ'[j]?=some (some b)):bV K H0 H σ ρ:=
 ⟨E.len.trans hl,λj b e=>E.val j b (h j b e),λi j c a b e1 ec e2 e3 e4 e5=>E.own i j c a b (h _ _ e1) ec e2 (h _ _ e3) e4 e5,E.base,λi c a e1 ec e2=>E.new i c a (h _ _ e1) ec e2⟩
structure Apt (Hb:Hp) (σ:L2.St) (ρ:Ev) (n:Nat):Prop where
 own:∀ (j:Nat) c,ρ[j]?=some (some c)->yj c=false
 lt:∀ (j:Nat) b,ρ[j]?=some (some b)->j < n
 old:∀ (j:Nat) c a,ρ[j]?=some (some c)->loose c=true->σ[j]?=some (some (.ref a))->Hb a≠none
def Fx (σ σ':L2.St) (ρ:Ev):Prop:=∀ (j:Nat) c,loose c=true->ρ[j]?=some (some c)->σ'[j]?=σ[j]?
theorem Apt.fx {Hb:Hp} {σ':L2.St} {ρ:Ev} (P:Apt Hb σ ρ n) (f:Fx σ σ' ρ):Apt Hb σ' ρ n:=⟨P.own,P.lt,λj c a e hl ea=>P.old j c a e hl (by rw[<-f j c hl e];exact ea)⟩
theorem known {ρ:Ev} (E:bV K H0 H σ ρ) (j:Nat) (c:Bx) (a:Addr) (e:ρ[j]?=some (some c)) (hl:loose c=true) (ea:σ[j]?=some (some (.ref a))):H a≠none:=λz=>by
 obtain⟨v,e1,rc⟩:=E.val j _ e;rw[ea] at e1;cases e1;cases c with
 |z d=>cases hl
 |l dz=>
  obtain⟨a',vs,e2,q,_⟩:=rc;cases e2;rcases q with q|⟨o,q⟩<;>(rw[z] at q;cases q)
 |n dz=>
  obtain⟨a',vs,e2,q,_⟩:=rc;cases e2;rcases q with q|⟨o,q⟩<;>(rw[z] at q;cases q)
 |o dz=>
  obtain⟨a',vs,e2,q,_⟩:=rc;cases e2;rw[z] at q;cases q
 |m dz _=>
  obtain⟨a',vs,e2,q,_⟩:=rc;cases e2;rw[z] at q;cases q
theorem bV.grown {Hb:Hp} {ρ:Ev} {D:Addr} (E:bV K Hb H σ ρ) (P:Apt Hb σ ρ n) (hD:Hb D=none) (kp:Kp H (upd H D o)):bV K Hb (upd H D o) σ ρ:=by
 refine⟨E.len,λj b e=>?_,λj k c a b e ec=>absurd ec (by rw[P.own j c e];exact Zp),λc o e=>?_,λj c a e ec=>absurd ec (by rw[P.own j c e];exact Zp)⟩
 ·obtain⟨v,ev,rb⟩:=E.val j b e;refine⟨v,ev,?_⟩;cases b with
  |z d=>exact Rep.kp kp rb
  |o dz=>have:=P.own j _ e;cases this
  |m dz _=>have:=P.own j _ e;cases this
  |n dz=>
   obtain⟨a,vs,rfl,q,rr⟩:=rb;refine⟨a,vs,rfl,?_,rr.kp kp⟩;have ha:a≠D:=λz=>P.old j _ _ e rfl ev (by rw[z];exact hD);exact q.imp (λq=>by rw[bA ha];exact q) λ⟨o,q⟩=>⟨o,by rw[bA ha];exact q⟩
  |l dz=>
   obtain⟨a,vs,rfl,q,rr⟩:=rb;refine⟨a,vs,rfl,?_,rr.kp kp⟩;have ha:a≠D:=λz=>P.old j _ _ e rfl ev (by rw[z];exact hD);exact q.imp (λq=>by rw[bA ha];exact q) λ⟨o,q⟩=>⟨o,by rw[bA ha];exact q⟩
 ·rw[bA (c7 e hD)];exact E.base c o e
def ZL (X:Cx) (el:Addr->Env->Sem Unit) (fs:Ev->Option (List Dt)) (Ac:Addr->Hp->List Dt->HO->Prop) (N n:Nat):Prop:=∀ (pins:List (Addr×Obj)) (s:Shared) (σ:L2.St) (H Hb:Hp) (ρ:Ev) (D:Addr) (o:HO) (o1 ys:List Dt),L2.Inv X pins σ H s->bV X.K Hb H σ ρ->Apt Hb σ ρ n->Hb D=none->fs ρ=some ys->H D=some o->Ac D H o1 o->o1.length+ys.length<=N →
 wpAny (model X.prog X.w) X.A (el D X.env) (λ_ s'=>∃ σ' H' o',L2.Inv X pins σ' H' s'/\bV X.K Hb H' σ' ρ/\Fx σ σ' ρ/\H' D=some o'/\Ac D H' (o1++ys) o') X.xe s
theorem ac0 {fs:Ev->Option (List Dt)} {Ac:Addr->Hp->List Dt->HO->Prop} {N:Nat} (h:∀ (pins:List (Addr×Obj)) (s:Shared) (σ:L2.St) (H Hb:Hp) (ρ:Ev) (D:Addr) (o:HO) (o1 ys:List Dt),L2.Inv X pins σ H s->bV X.K Hb H σ ρ->fs ρ=some ys->H D=some o->Ac D H o1 o->o1.length+ys.length<=N →
  wpAny (model X.prog X.w) X.A (el D X.env) (λ_ s'=>∃ H9 o',L2.Inv X pins σ (upd H9 D o') s'/\Same H H9/\Kp H9 (upd H9 D o')/\Ac D (upd H9 D o') (o1++ys) o') X.xe s):ZL X el fs Ac N n:=λpins s σ H Hb ρ D o o1 ys I E P hD e1 e2 a1 l=>by
 refine qo (h pins s σ H Hb ρ D o o1 ys I E e1 e2 a1 l) (λ_ s' ⟨H9,o',I',s9,kp,a'⟩=>?_) λ_ _ z=>z;exact⟨σ,_,o',I',(E.grow s9).grown P hD kp,λ_ _ _ _=>rfl,cL,a'⟩
structure RW (B:Around->Bool->Prop) (P:Program) (w:World) (K:FG_) (tg:Expr) (J:It) (fp:List Addr) (it:Addr) (tn:Nat->Heap->Prop):Prop where
 obj:∀ i h,tn i h->∀ b∈fp,∃ o,h.get? b=some o/\∀ v,o.data≠.cell v
 keep:∀ i h h',tn i h->(∀ b∈fp,∀ o,h.get? b=some o->h'.get? b=some o)->tn i h'
 item:∀ (X:Cx),X.prog=P->X.w=w->X.K=K->B X.A X.calm->∀ (i:Nat) (pins:List (Addr×Obj)) (s:Shared) (σ:L2.St) (H:Hp) (E:VP_),L2.Inv X pins σ H s->(∀ b∈fp,rz X pins H b)->tn i s.heap->J.go i H →
  wpAny (model P w) X.A (pyNext (.ref it)) (λr s1=>∃ u,r=some u ∧
   wpAny (model P w) X.A (letOwnedTupleGo tg (.ref it) u) (λ_ s2=>∃ x H',L2.Inv X pins σ H' s2/\RelV x u/\J.yld i H x H'/\tn (i+1) s2.heap/\∀ b∈fp,H' b=none) E s1) E s
 done:∀ (X:Cx),X.prog=P->X.w=w->X.K=K->B X.A X.calm->∀ (i:Nat) (pins:List (Addr×Obj)) (s:Shared) (σ:L2.St) (H:Hp) (E:VP_),L2.Inv X pins σ H s->(∀ b∈fp,rz X pins H b)->tn i s.heap->J.stop i H →
  wpAny (model P w) X.A (pyNext (.ref it)) (λr s1=>r=none/\L2.Inv X pins σ H s1) E s
 self:∀ (A:Around) (i:Nat) (s:Shared) (Q:VP_) (E:VP_),tn i s.heap->Q (.ref it) s->wpAny (model P w) A (pyIter (.ref it)) Q E s
abbrev Wq:Around->Bool->Prop:=λ_ c=>c=true
theorem abq (T:Turn P w K tg J fp it tn):RW Wq P w K tg J fp it tn:=⟨T.obj,T.keep,T.item,T.done,T.self⟩
theorem Uc {comp:Expr} {d:Nat} {ipos:Pos} {Ac:Addr->Hp->List Dt->HO->Prop} {fs:Ev->Option (List Dt)} {N:Nat} {Hb:Hp} {D:Addr} {ds o0 out:List Dt} {ρ:Ev} {R:Result->Shared->Prop} (hcalm:B X.A X.calm) (hx:X.xe=λ_ _=>False) (Ud:PTg X tgt gt) (hif:Tests X ifs p) (hel:ZL X el fs Ac N m) (htk:TgK n m gt) (hnm:n<=m) (I:L2.Inv X pins σ H s) (E:bV X.K Hb H σ ρ) (P:Apt Hb σ ρ n) (hD:Hb D=none) (hHD:H D=some o) (hA:Ac D H o0 o) (T:RW B X.prog X.w X.K tgt J fp it tn) (st:tn 0 s.heap) (hf:∀ b∈fp,rz X pins H b) (Y:Yields X.K J ds Hb) (hout:Bp gt p fs ρ ds=some out) (hN:o0.length+out.length<=N) (hAk:∀ {D:Addr} {H H':Hp} {o1:List Dt} {o:HO},Kp H H'->Ac D H o1 o->Ac D H' o1 o) (hturn:∀ (it:Value) (D:Addr) (env:Env),compTurn comp d it (.ref D) env=(standAt ipos >>= λ_=>pyNext it >>= λr=>match r with
   |none=>pure (.done .next)
   |some v=>letOwnedTupleGo tgt it v >>= λ_=>assign tgt env v >>= λ_=>(forIn ifs true λc r=>if r=true then isTrue c env (eval c env) >>= λok=>pure (ForInStep.yield ok) else pure (ForInStep.yield r)) >>= λok=>if ok=true then el D env >>= λ_=>again (.compLoop comp d it (.ref D) env) else again (.compLoop comp d it (.ref D) env))) (hsh:∀ {it acc:Value} {env:Env} {Q:Fin->Shared->Prop} {E:VP_} {s:Shared},wpAny (model X.prog X.w) X.A ((compTurn comp d it acc env).onRaise (λx=>noteFrame x env >>= λ_=>theTreesLotGoes x)) Q E s->wpAny (model X.prog X.w) (X.A.under (.compLoop comp d it acc env)) ((model X.prog X.w).den (.compLoop comp d it acc env)) Q E s) (hR:∀ s' σ' H' o',L2.Inv X pins σ' H' s'->bV X.K Hb H' σ' ρ->Fx σ σ' ρ->H' D=some o'->Ac D H' (o0++out) o'->R (.ok .next) s') :
  codeAny (model X.prog X.w) X.A (.compLoop comp d (.ref it) (.ref D) X.env) R s:=by
 have hfC:∀ {H':Hp},(∀ b∈fp,H' b=none)->∀ b∈fp,rz X pins H' b:=λ{H'} hn b hb=>⟨hn b hb,(hf b hb).2⟩;refine codeAny_loop rfl (λk s'=>∃ (i:Nat) (σ':L2.St) (H':Hp) (o1 o2:List Dt) (o:HO),k=ds.length - i/\i<=ds.length/\L2.Inv X pins σ' H' s'/\tn i s'.heap/\(∀ b∈fp,H' b=none)/\bV X.K Hb H' σ' ρ/\Fx σ σ' ρ/\H' D=some o/\Ac D H' o1 o/\Bp gt p fs ρ (ds.drop i)=some o2/\o1++o2=o0++out) ?_ ds.length
  ⟨0,σ,H,o0,out,o,by simp,QP _,I,st,λb hb=>(hf b hb).1,E,λ_ _ _ _=>rfl,hHD,hA,by simpa using hout,rfl⟩
 rintro k s4 ⟨i,σ4,H4,o1,o2,o,rfl,hi,I4,st4,fr4,E4,F4,hD4,r4,e4,ho⟩;have P4:=P.fx F4;refine hsh (wpAny_noted ?_);rw[hturn];obtain⟨y1,y2⟩:=Y i H4 E4.base;by_cases hlt:i < ds.length
 ·have hd:ds[i]?=some ds[i]:=by simp[hlt]
  obtain⟨go,yl⟩:=y1 _ hd;rw[List.drop_eq_getElem_cons hlt] at e4;simp only[Bp] at e4;obtain⟨ρ1,e1,e4⟩:=bind_some e4;obtain⟨k,ek,e4⟩:=bind_some e4;obtain⟨hl1,hk1⟩:=htk _ _ _ e1;have back:∀ {σ5:L2.St} {H5:Hp},bV X.K Hb H5 σ5 ρ1->bV X.K Hb H5 σ5 ρ:=λE5=>E5.forget hl1 λj b e=>by rw[hk1 j (.inl (P.lt j b e))];exact e
  refine zb (Ki (zb ?_));refine jq (T.item X rfl rfl rfl hcalm i pins s4 σ4 H4 _ I4 (hfC fr4) st4 go) λr s5 ⟨u,hr,h5⟩=>?_;subst hr;refine zb (jq h5 λ_ s6 ⟨x,H6,I6,r6,y6,st6,fr6⟩=>?_);obtain⟨sm,rx⟩:=yl x H6 y6;have E4:=E4.grow sm;have hD4:=sm _ _ hD4;have r4:=hAk (.of sm) r4;have I6':=I6.pinned (hfC fr6) (T.obj _ _ st6);have ha:=Ud _ s6 σ4 H6 x u (λσ' H'=>H'=H6/\bV X.K Hb H6 σ' ρ1/\Lo σ4 ρ σ' ρ1) I6' r6 ⟨Hb,ρ,ds[i],ρ1,E4,rx,e1,λσ' E' L'=>⟨rfl,E',L'⟩⟩;rw[hx] at ha;refine zb (qo ha (λ_ s7 h7=>?_) λ_ _ z=>z.elim);obtain⟨σ7,H7,I7,rfl,E7,L7⟩:=h7;have P7:Apt Hb σ7 ρ1 m:=by
   refine⟨λj c e=>?_,λj c e=>?_,λj c a e hl ea=>?_⟩
   ·cases c with
    |o ds=>exact P.own j _ (L7 j _ rfl e).1
    |m ds _=>exact P.own j _ (L7 j _ rfl e).1
    |_=>rfl
   ·refine Nat.lt_of_not_le λh=>?_;rw[hk1 j (.inr h)] at e;exact absurd (Zs (P.lt j c e) hnm) (Nat.not_lt.mpr h)
   ·obtain⟨e',ee⟩:=L7 j c hl e;exact P4.old j c a e' hl (by rw[<-ee];exact ea)
  have abr:∀ {σ5:L2.St},Fx σ7 σ5 ρ1->Fx σ σ5 ρ:=λf j c hl e=>by
   have e':ρ1[j]?=some (some c):=by rw[hk1 j (.inl (P.lt j c e))];exact e
   exact(f j c hl e').trans ((L7 j c hl e').2.trans (F4 j c hl e))
  have ht:wpAny (model X.prog X.w) X.A (forIn ifs true λc r=>if r=true then do let ok <-isTrue c X.env (eval c X.env);pure (ForInStep.yield ok) else pure (ForInStep.yield r))
    (λok s8=>ok=k/\∃ H8,L2.Inv X (pins++zx fp s6.heap) σ7 H8 s8/\Same H7 H8) (notedBy (model X.prog X.w) X.A X.env λe s'=>R (.error e) s') s7:=by
   rcases hif with⟨rfl,rfl⟩|⟨c,rfl,hc⟩
   ·cases ek;exact wpAny_tests_nil ⟨rfl,H7,I7,Same.refl H7⟩
   ·refine wpAny_tests_one ?_;have:=hc _ s7 σ7 H7 (λb H8=>b=k/\Same H7 H8) I7 ⟨Hb,ρ1,k,E7,ek,λH8 s8=>⟨rfl,s8⟩⟩;rw[hx] at this;exact qo this (λb s8 ⟨H8,I8,eb,s8'⟩=>⟨eb,H8,I8,s8'⟩) λ_ _ z=>z.elim
  refine zb (qo ht (λok s8 h8=>?_) λ_ _ z=>z);obtain⟨rfl,H8,I8,s78⟩:=h8;have Wr:∀ {σ9:L2.St} {H9:Hp} {s9:Shared},L2.Inv X (pins++zx fp s6.heap) σ9 H9 s9->L2.Inv X pins σ9 H9 s9/\tn (i+1) s9.heap/\∀ b∈fp,H9 b=none:=λ{σ9 H9 s9} I9=>by
   refine⟨I9.uO,T.keep _ _ _ st6 λb hb o e=>(I9.pin (b,o) (ZO _ (ZO _ (rZ hb e)))).1,λb hb=>?_⟩;obtain⟨o,e,d⟩:=T.obj _ _ st6 b hb;exact(I9.pin (b,o) (ZO _ (ZO _ (rZ hb e)))).2.1
  cases ok with
  |false=>
   rw[zz Zp] at e4;obtain⟨I9,st9,fr9⟩:=Wr I8;exact zd ⟨rfl,ds.length - (i+1),by omega,i+1,σ7,H8,o1,o2,o,rfl,hlt,I9,st9,fr9,back (E7.grow s78),abr (λ_ _ _ _=>rfl),s78 _ _ hD4,hAk (.of s78) r4,e4,ho⟩
  |true=>
   rw[zr rfl] at e4;obtain⟨ys,eb,e4⟩:=bind_some e4;obtain⟨zs,e5,e4⟩:=bind_some e4;cases e4;have hl:=congrArg List.length ho;simp only[zl] at hl;have he:=hel _ s8 σ7 H8 Hb ρ1 D o o1 ys I8 (E7.grow s78) P7 hD eb (s78 _ _ hD4) (hAk (.of s78) r4) (by omega);rw[hx] at he;refine zb (qo he (λ_ s10 h10=>?_) λ_ _ z=>z.elim);obtain⟨σ9,H9,o',I10,E9,F9,hD9,a5⟩:=h10;obtain⟨I11,agW,agX⟩:=Wr I10;exact zd ⟨rfl,ds.length - (i+1),by omega,i+1,σ9,H9,o1++ys,zs,o',rfl,hlt,I11,agW,agX,back E9,abr F9,hD9,a5,e5,by rw[qV];exact ho⟩
 ·have hge:ds.length<=i:=by omega
  rw[List.drop_eq_nil_of_le hge] at e4;cases e4;refine zb (Ki (zb ?_));refine jq (T.done X rfl rfl rfl hcalm i pins s4 σ4 H4 _ I4 (hfC fr4) st4 (y2 hge)) λr s5 ⟨hr,I5⟩=>?_;subst hr;rw[QA] at ho;exact zd (hR s5 σ4 H4 o I5 E4 F4 hD4 (by rw[<-ho];exact r4))
theorem Ue {comp:Expr} {mk:Sem Value} {o0:Obj} {O0:HO} {Ac:Addr->Hp->List Dt->HO->Prop} {fs:Ev->Option (List Dt)} {N:Nat} {H2:Hp} {s2:Shared} {ds out:List Dt} {ρ:Ev} (O:xu X scope cl xs is) (hcalm:B X.A X.calm) (Ud:∀ C s₀ H₀ fp,PTg (Qj X (xs++ts) scope cl C s₀ H₀ fp) tgt gt) (hif:∀ C s₀ H₀ fp,Tests (Qj X (xs++ts) scope cl C s₀ H₀ fp) ifs p) (helt:∀ C s₀ H₀ fp,ZL (Qj X (xs++ts) scope cl C s₀ H₀ fp) el fs Ac N m) (htk:TgK is.length m gt) (hnm:is.length<=m) (I2:L2.Inv X pins σ H2 s2) (Ec:bV X.K H2 H2 (zA is σ++List.replicate ts.length none) (pF is ρ++List.replicate ts.length none)) (T:RW B X.prog X.w X.K tgt J fp it tn) (st:tn 0 s2.heap) (hf:∀ b∈fp,rz X pins H2 b) (Y:Yields X.K J ds H2) (hout:Bp gt p fs (pF is ρ++List.replicate ts.length none) ds=some out) (hlen:out.length<=N) (hRR:∀ (D C:Addr) (s':Shared) (H':Hp) (o:HO),H2 D=none->L2.Inv X pins σ H' s'->rz X pins H' C->(∃ m,s'.heap.Ns C m)->Same H2 H'->H' D=some o->Ac D H' out o->RR (.ref D) C (.ok .next) s') (hmk:∀ {Q:VP_},Q (.ref s2.heap.objs.size) { s2 with heap:=s2.heap.push o0 }->wpAny (model X.prog X.w) X.A mk Q E s2) (hO0:∀ H,jP X.prog X.w H (s2.heap.push o0) s2.heap.objs.size O0) (hA0:∀ H,Ac s2.heap.objs.size H [] O0) (hAk:∀ {D:Addr} {H H':Hp} {o1:List Dt} {o:HO},Kp H H'->Ac D H o1 o->Ac D H' o1 o) (hturn:∀ (it:Value) (D:Addr) (env:Env),compTurn comp 0 it (.ref D) env=(standAt iter.pos >>= λ_=>pyNext it >>= λr=>match r with
   |none=>pure (.done .next)
   |some v=>letOwnedTupleGo tgt it v >>= λ_=>assign tgt env v >>= λ_=>(forIn ifs true λc r=>if r=true then isTrue c env (eval c env) >>= λok=>pure (ForInStep.yield ok) else pure (ForInStep.yield r)) >>= λok=>if ok=true then el D env >>= λ_=>again (.compLoop comp 0 it (.ref D) env) else again (.compLoop comp 0 it (.ref D) env))) (hstart:∀ {it acc:Value} {env:Env} {R:Result->Shared->Prop} {s:Shared},codeAny (model X.prog X.w) X.A (.compLoop comp 0 it acc env) R s->wpAny (model X.prog X.w) X.A (pyIter it) (λit' s'=>codeAny (model X.prog X.w) X.A (.compLoop comp 0 it' acc env) R s') (notedBy (model X.prog X.w) X.A env λx s'=>R (.error x) s') s->codeAny (model X.prog X.w) X.A (.compStart comp 0 it acc env) R s) (hsh:∀ {it acc:Value} {env:Env} {Q:Fin->Shared->Prop} {E:VP_} {s:Shared},wpAny (model X.prog X.w) X.A ((compTurn comp 0 it acc env).onRaise (λx=>noteFrame x env >>= λ_=>theTreesLotGoes x)) Q E s->wpAny (model X.prog X.w) (X.A.under (.compLoop comp 0 it acc env)) ((model X.prog X.w).den (.compLoop comp 0 it acc env)) Q E s) :
  wpAny (model X.prog X.w) X.A mk (λacc s₃=>wpAny (model X.prog X.w) X.A (newFunctionEnv scope X.env.globals cl [] X.env.qual none .none (some X.env)) (λcenv s₄=>
   codeAny (model X.prog X.w) X.A (.compStart comp 0 (.ref it) acc { cenv with scope:=relabel scope X.env }) (RR acc cenv.locals) s₄) E s₃) E s2:=by
 refine hmk (Ub ?_);have hD:H2 s2.heap.objs.size=none:=I2.hok.fresh (zi _);have I3:L2.Inv X pins σ (upd H2 s2.heap.objs.size O0) { s2 with heap:=s2.heap.push o0 }:=
  I2.laid (t':=s2.toks) (λb o e=>ze _ e) (zi _) (hO0 _)
 have ae2:∀ b∈fp,b < s2.heap.objs.size:=λb hb=>let ⟨o,e,_⟩:=T.obj 0 _ st b hb;zw e;have hf3:∀ b∈fp,rz X pins (upd H2 s2.heap.objs.size O0) b:=λb hb=>⟨by rw[bA (z5 (ae2 b hb))];exact(hf b hb).1,(hf b hb).2⟩;have st3:tn 0 (s2.heap.push o0):=T.keep 0 _ _ st λb hb o e=>ze _ e;have ZM:∀ b∈fp,b < (s2.heap.push o0).objs.size:=λb hb=>by rw[qc];exact qS (ae2 b hb)
 generalize hs3:({ s2 with heap:=s2.heap.push o0 }:Shared)=s3 at *
 have agZ:s3.heap=s2.heap.push o0:=by rw[<-hs3]
 rw[<-agZ] at st3 ZM;have IC:=Wo (ts:=ts) I3 O hf3 ZM;have st1:tn 0 (pushCells (s3.heap.push { cls:=.type "dict", data:=.dict #[] }) scope.names):=T.keep 0 _ _ st3 λb hb o e=>pushCells_keeps _ _ b o (ze _ e);have hfC:∀ b∈fp,rz (Qj X (xs++ts) scope cl s3.heap.objs.size s3 (upd H2 s2.heap.objs.size O0) fp) [] (upd H2 s2.heap.objs.size O0) b:=λb hb=>by
  obtain⟨f0,f1,f2,f3,f4,f5⟩:=hf3 b hb;refine⟨f0,z5 (ZM b hb),λz=>?_,.inl hb,λx c e z=>?_,λq hq=>absurd (show q∈([]:List (Addr×Obj)) from hq) (by simp)⟩
  ·rcases List.mem_cons.mp (I3.Jr b z) with q|q
   ·exact f1 q
   ·exact f2 q
  ·rcases yu _ _ _ x c e with h|h
   ·exact f4 x c (O.sub.get h) z
   ·rw[z] at h;exact absurd (Zs (ZM b hb) (Nat.le_of_succ_le h)) (ja _)
 have P0:Apt H2 (zA is σ++List.replicate ts.length none) (pF is ρ++List.replicate ts.length none) is.length:=by
  have g:∀ (j:Nat) c,(pF is ρ++List.replicate ts.length none)[j]?=some (some c)->j < is.length/\yj c=false:=λj c e=>by
   by_cases hj:j < is.length
   ·refine⟨hj,?_⟩;rw[ZU (by simp[pF];omega)] at e;unfold pF at e;rw[ZA] at e;cases q:is[j]? with
    |none=>rw[q] at e;cases e
    |some i=>rw[q] at e;exact Ce (by simpa using e)
   ·rw[qA (by simp[pF];omega),QR] at e;split at e<;>cases e
  exact⟨λj c e=>(g j c e).2,λj c e=>(g j c e).1,known Ec⟩
 have h:=Uc (B:=B) (X:=Qj X (xs++ts) scope cl s3.heap.objs.size s3 (upd H2 s2.heap.objs.size O0) fp) (R:=RR (.ref s2.heap.objs.size) s3.heap.objs.size) (o0:=[]) hcalm rfl (Ud _ _ _ _) (hif _ _ _ _) (helt _ _ _ _) htk hnm IC (Ec.grow (cF hD)) P0 hD cL (hA0 _) T st1 hfC Y hout (by simpa using hlen) hAk hturn hsh λs5 σ5 H5 o5 I5 E5 _ hD5 a5=>by
  have IB:L2.Inv X pins σ H5 s5:=I3.call' (ch:=fp) I5.os I5.base I5.hok I5.bare λb hb=>by
   obtain⟨f0,f1,f2,f3,f4,f5⟩:=hf3 b hb;exact⟨f3,f1,f4,f5⟩
  obtain⟨m,hn,_⟩:=I5.loc;exact hRR _ _ s5 H5 o5 hD IB (I3.TQ (zi _) I5.free) ⟨m,hn⟩ E5.base hD5 a5
 exact hstart h (T.self _ 0 _ _ _ st1 h)
def AcL (K:FG_) (_:Addr) (H:Hp) (o1:List Dt) (o:HO):Prop:=∃ us,o=.lst us/\aM K H o1 us
theorem AcL.kp {K:FG_} {D:Addr} {H H':Hp} {o1:List Dt} {o:HO} (k:Kp H H'):AcL K D H o1 o->AcL K D H' o1 o:=λ⟨us,e,r⟩=>⟨us,e,r.kp k⟩
def ag0 (fe:Ev->Option Bx):Ev->Option (List Dt):=λρ=>(fe ρ).bind acZ
theorem ZP (h:PV X elt fe):ZL X (λD env=>do let _ <-call (.builtin "list.append") [.ref D,<-eval elt env]) (ag0 fe) (AcL X.K) 100000 n:=by
 refine ac0 λpins s σ H Hb ρ D o o1 ys I En ee hD ⟨us,e,r4⟩ hl=>?_;subst e;obtain⟨b,eb,ee⟩:=bind_some ee;obtain⟨y,rfl,rfl⟩:=Ia ee;refine zb (qo (h pins s σ H (λv H9=>Same H H9/\Rep X.K H9 y v) I ⟨Hb,ρ,_,En,eb,λv H9 s9 _ r9=>⟨s9,r9⟩⟩) (λv s9 h9=>?_) λ_ _ z=>z);obtain⟨v',H9,I9,rv,s89,r9⟩:=h9;have hD9:=s89 _ _ hD;refine zb (qo ((HS (X:=X)) _ s9 σ H9 (.ref D) [v'] (.ref D) [v] (λw H10=>H10=upd H9 D (.lst (us++[v']))) I9 rfl (.cons rv .nil) ⟨_,us,v',rfl,rfl,hD9,by rw[r4.length];have h0:(100000:Nat) < sizeLine:=(by decide);simp at hl;omega,rfl⟩) (λw s10 h10=>?_) λ_ _ z=>z);obtain⟨w',H10,I10,_,rfl⟩:=h10;have kp:Kp H9 (upd H9 D (.lst (us++[v']))):=.lst hD9;exact zd ⟨H9,_,I10,s89,kp,us++[v'],rfl,((r4.kp (.of s89)).append (aM.cons r9 aM.nil)).kp kp⟩
theorem Mp {H2:Hp} {s2:Shared} {ds out:List Dt} {ρ:Ev} (O:xu X scope cl xs is) (hcalm:B X.A X.calm) (Ud:∀ C s₀ H₀ fp,PTg (Qj X (xs++ts) scope cl C s₀ H₀ fp) tgt gt) (hif:∀ C s₀ H₀ fp,Tests (Qj X (xs++ts) scope cl C s₀ H₀ fp) ifs p) (helt:∀ C s₀ H₀ fp,PV (Qj X (xs++ts) scope cl C s₀ H₀ fp) elt fe) (htk:TgK is.length (is.length+ts.length) gt) (I2:L2.Inv X pins σ H2 s2) (Ec:bV X.K H2 H2 (zA is σ++List.replicate ts.length none) (pF is ρ++List.replicate ts.length none)) (T:RW B X.prog X.w X.K tgt J fp it tn) (st:tn 0 s2.heap) (hf:∀ b∈fp,rz X pins H2 b) (Y:Yields X.K J ds H2) (hlen:ds.length<=100000) (hout:HY gt p fe (pF is ρ++List.replicate ts.length none) ds=some out) (hRR:∀ (D C:Addr) (s':Shared) (H':Hp) (us:List V),H2 D=none->L2.Inv X pins σ H' s'->rz X pins H' C->(∃ m,s'.heap.Ns C m)->Same H2 H'->H' D=some (.lst us)->aM X.K H' out us->RR (.ref D) C (.ok .next) s') :
  wpAny (model X.prog X.w) X.A (newList []) (λacc s₃=>wpAny (model X.prog X.w) X.A (newFunctionEnv scope X.env.globals cl [] X.env.qual none .none (some X.env)) (λcenv s₄=>
   codeAny (model X.prog X.w) X.A (.compStart (.ListComp elt [⟨tgt,iter,ifs,0⟩] scope pos) 0 (.ref it) acc { cenv with scope:=relabel scope X.env }) (RR acc cenv.locals) s₄) E s₃) E s2:=
 Ue (B:=B) (Ac:=AcL X.K) (O0:=.lst []) (N:=100000) O hcalm Ud hif (λC s₀ H₀ fp=>ZP (helt C s₀ H₀ fp)) htk (Nat.le_add_right ..) I2 Ec T st hf Y hout (zD (zB hout) hlen) (λD C s' H' o a b c d e f g=>by obtain⟨us,rfl,r⟩:=g;exact hRR D C s' H' us a b c d e f r)
  qk (λ_=>⟨QP _,[],0,.nil,zv _ rfl⟩) (λ_=>⟨[],rfl,aM.nil⟩) AcL.kp (λ_ _ _=>rfl) codeAny_compStart_list λh=>h
end
def iC (K:FG_) (f:Ev->Option (List Dt)):TI:=λσ H R=>∃ H0 ρ ds,bV K H0 H σ ρ/\f ρ=some ds/\∀ J H',Same H H'->Yields K J ds H'->R J H'
def PIC (X:Cx) (tg iter:Expr) (f:Ev->Option (List Dt)):Prop:=PI X tg iter (iC X.K f)
structure QIC (X:Cx) (tg iter:Expr) (f:Ev->Option (List Dt)):Prop where
 run:PIC X tg iter f
def Ug:Bx->Option (List Dt)
 |.z (.lst ds)=>some ds
 |.z (.tup ds)=>some ds
 |.z (.str x)=>some (signs x)
 |.o ds=>some ds
 |.l ds=>some ds
 |_=>none
section
variable {f:Ev->Option Bx} {fs:Ev->Option (List Bx)} {xs:LS_} {gt:Dt->Ev->Option Ev} {p:Ev->Option Bool} {fe:Ev->Option Bx} {fi:Ev->Option (List Dt)}
theorem JM (h:QIF X tgt iter fi):QIC X tgt iter fi:=⟨have h:=h.run;λpins s σ H R I q=>by
 obtain⟨H0,ρ,ds,E,e,q⟩:=q;exact h pins s σ H R I ⟨H0,ρ,ds,E,e,λJ H' s' y=>q J H' s' (y H' (Same.refl H') (λ_ _=>rfl) (λ_ _ _ _=>rfl) λ_ _ _=>rfl)⟩⟩
theorem fV (h:QV X e f):QIC X tgt e (λρ=>(f ρ).bind Ug):=⟨have h:=h.run;λpins s σ H R I q=>by
 refine Wj h pins s σ H R I ?_;obtain⟨H0,ρ,ds,E,e,q⟩:=q;obtain⟨b,eb,e⟩:=bind_some e;refine⟨H0,ρ,b,E,eb,λv H1 s1 n1 r1=>?_⟩;cases b with
 |z d=>
  cases d with
  |tup ds'=>
   cases e;simp only[bh,Rep] at r1;obtain⟨a,vs,rfl,hq,rs⟩:=r1;exact .inr (.inl ⟨a,rfl,⟨vs,hq⟩,q _ _ s1 (.tup hq rs)⟩)
  |lst ds'=>
   cases e;obtain⟨a,vs,rfl,hq,rs⟩:=r1.HX rfl;exact .inl ⟨a,rfl,⟨vs,hq⟩,q _ _ s1 (.list hq rs)⟩
  |str x=>
   cases e;simp only[bh,Rep] at r1;obtain⟨rfl,_⟩:=r1;exact .inr (.inr ⟨x,rfl,q _ _ s1 (.str x)⟩)
  |_=>cases e
 |l ds'=>
  cases e;obtain⟨a,vs,rfl,hq,rs⟩:=r1.HX rfl;exact .inl ⟨a,rfl,⟨vs,hq⟩,q _ _ s1 (.list hq rs)⟩
 |o ds'=>
  cases e;obtain⟨a,vs,rfl,hq,rs⟩:=r1.HX rfl;exact .inl ⟨a,rfl,⟨vs,hq⟩,q _ _ s1 (.list hq rs)⟩
 |n _=>cases e
 |m _ _=>cases e⟩
def fu (fi:Ev->Option (List Dt)) (gt:Dt->Ev->Option Ev) (p:Ev->Option Bool) (fe:Ev->Option Bx) (is:List Nat) (n:Nat):Ev->Option Bx:=λρ=>(fi ρ).bind λds=>
 if ds.length<=100000 then(HY gt p fe (pF is ρ++List.replicate n none) ds).bind λout=>some (.o out) else none
theorem d7 (ts:LS_) (O:xu X scope cl xs is) (hcalm:X.calm=true) (hi:QIC X tgt iter fi) (Ud:∀ C s₀ H₀ fp,QTg (Qj X (xs++ts) scope cl C s₀ H₀ fp) tgt gt) (hif:∀ C s₀ H₀ fp,JL (Qj X (xs++ts) scope cl C s₀ H₀ fp) ifs p) (helt:∀ C s₀ H₀ fp,QV (Qj X (xs++ts) scope cl C s₀ H₀ fp) elt fe) (htk:TgK is.length (is.length+ts.length) gt) (hs:∀ x,foldedSetIterable iter X.env x=pure x:=by intro _;rfl):QV X (.ListComp elt [⟨tgt,iter,ifs,0⟩] scope pos) (fu fi gt p fe is ts.length):=⟨have hi:=hi.run;have Ud:=λC s₀ H₀ fp=>(Ud C s₀ H₀ fp).run;have hif:=λC s₀ H₀ fp=>(hif C s₀ H₀ fp).run;have helt:=λC s₀ H₀ fp=>(helt C s₀ H₀ fp).run;λpins s σ H Q I h=>by
 obtain⟨H0,ρ,b,E,e,q⟩:=h;obtain⟨ds,ed,e⟩:=bind_some e;split at e
 ·rename_i hlen;obtain⟨out,eo,e⟩:=bind_some e;cases e;rw[eval_ListComp];refine wpAny_comprehension_free (use:=none) rfl hs O.clos O.kind O.names ?_;refine jq (hi pins s σ H (λJ H'=>Same H H'/\Yields X.K J ds H') I ⟨H0,ρ,ds,E,ed,λJ H' s' y=>⟨s',y⟩⟩) λv s1 h1=>jq h1 λitv s2 h2=>?_;obtain⟨it,fp,tn,J,H2,rfl,I2,T,st,hf,s12,Y⟩:=h2;refine Mp (B:=Wq) (RR:=λacc C=>compPost (model X.prog X.w) X.A X.xe none (EP X pins σ Q) acc C) (ts:=ts) (xs:=xs) O hcalm Ud hif helt htk I2 ((E.grow s12).caps is ts.length) (abq T) st hf Y hlen eo ?_;intro D C s' H' us hD I' fC ⟨m,hn⟩ s2' hD' r';refine⟨m,hn,λh' sb=>⟨.ref D,H',?_,rfl,q _ _ (s12.trans s2') (λa ea=>by cases ea;exact s12.free hD) ⟨D,us,rfl,hD',r'⟩⟩⟩;obtain⟨f0,f1,f2,f3,f4,f5⟩:=fC;exact I'.turned (t':=s'.toks) (λb o hb e=>(sb.2 b hb).trans e) f0 f1 f3 f4 f5
 ·cases e⟩
theorem ZQ (i:Nat) {py spos:Pos} (ts:LS_) (O:xu X scope cl xs is) (hcalm:X.calm=true) (hN:X.N.Nodup) (hi:QIC X tgt iter fi) (Ud:∀ C s₀ H₀ fp,QTg (Qj X (xs++ts) scope cl C s₀ H₀ fp) tgt gt) (hif:∀ C s₀ H₀ fp,JL (Qj X (xs++ts) scope cl C s₀ H₀ fp) ifs p) (helt:∀ C s₀ H₀ fp,QV (Qj X (xs++ts) scope cl C s₀ H₀ fp) elt fe) (htk:TgK is.length (is.length+ts.length) gt) (hsw:swapsWith (.ListComp elt [⟨tgt,iter,ifs,0⟩] scope pos) (some (.Name y py)) spos.line X.env=pure true:=by with_unfolding_all rfl) (hy:X.N[i]?=some y:=by rfl) (hx:Loc X.env.scope y:=by first|exact Or.inl rfl|exact ku rfl) (hf:X.fn y=true\/X.env.scope.names.lookup y=some .local:=by first|exact .inl rfl|exact .inr rfl) (hs:∀ x,foldedSetIterable iter X.env x=pure x:=by intro _;rfl):Wf X (.Assign [.Name y py] (.ListComp elt [⟨tgt,iter,ifs,0⟩] scope pos) spos) (λρ=>(fu fi gt p fe is ts.length ρ).bind λb=>(Wh ρ i b).bind λρ'=>some (.nx ρ')):=⟨have hi:=hi.run;have Ud:=λC s₀ H₀ fp=>(Ud C s₀ H₀ fp).run;have hif:=λC s₀ H₀ fp=>(hif C s₀ H₀ fp).run;have helt:=λC s₀ H₀ fp=>(helt C s₀ H₀ fp).run;λpins s σ H D I h=>by
 obtain⟨H0,ρ,r,E,e,q⟩:=h;obtain⟨b,eb,e⟩:=bind_some e;obtain⟨ds,ed,eb⟩:=bind_some eb;split at eb
 ·rename_i hlen;obtain⟨out,eo,eb⟩:=bind_some eb;cases eb;cases e;rw[exec_Assign_Name_used _ _ _ _ hsw];refine zb (Ki (zb ?_));show wpAny _ X.A (do let _ <-comprehension (.ListComp elt [⟨tgt,iter,ifs,0⟩] scope pos) scope X.env _ (newList []) false (eval iter X.env) (some (assign (.Name y py) X.env))) _ _ s;refine zb (qo (wpAny_comprehension_free (use:=some (assign (.Name y py) X.env)) (Q:=λ_ s'=>SP X pins D .next s') rfl hs O.clos O.kind O.names ?_) (λ_ s' hq=>zd (zd hq)) λ_ _ e=>e);refine jq (hi pins s σ H (λJ H'=>Same H H'/\Yields X.K J ds H') I ⟨H0,ρ,ds,E,ed,λJ H' s' y=>⟨s',y⟩⟩) λv s1 h1=>jq h1 λitv s2 h2=>?_;obtain⟨it,fp,tn,J,H2,rfl,I2,T,st,hf',s12,Y⟩:=h2;refine Mp (B:=Wq) (RR:=λacc C=>compPost (model X.prog X.w) X.A X.xe (some (assign (.Name y py) X.env)) (λ_ s'=>SP X pins D .next s') acc C) (ts:=ts) (xs:=xs) O hcalm Ud hif helt htk I2 ((E.grow s12).caps is ts.length) (abq T) st hf' Y hlen eo ?_;intro Da C s' H' us hD I' fC ⟨m,hn⟩ s2' hD' r';show wpAny _ X.A (assign (.Name y py) X.env (.ref Da)) _ _ s';obtain⟨f0,f1,f2,f3,f4,f5⟩:=fC;obtain⟨oC,es',ep,hoC,hdC,hrest⟩:=id hn;have I'':L2.Inv X (pins++[(C,oC)]) σ H' s':=I'.Js λpp hp=>by
   rcases List.mem_append.mp hp with z|z
   ·exact I'.pin pp (ZO _ z)
   ·have:pp=(C,oC):=by simpa using z
    subst this;exact⟨hoC,f0,f1,f2,λv z=>by rw[hdC] at z;cases z⟩
  refine jq (L2.RD hN hy hx hf (pins++[(C,oC)]) s' σ H' (.ref Da) (.ref Da) (λσ' H''=>σ'=σ.set i (some (.ref Da))/\H''=H') I'' rfl ⟨rfl,rfl⟩) λ_ s'' ⟨σ',H'',J',e1,e2⟩=>?_;subst e1 e2;have hC':=(J'.pin (C,oC) (by simp)).1;refine⟨m,⟨oC,es',ep,hC',hdC,hrest⟩,λh' sb=>?_⟩;refine⟨σ.set i (some (.ref Da)),H'',J'.uO.turned (t':=s''.toks) (λb o hb e=>(sb.2 b hb).trans e) f0 f1 f3 f4 f5,q _ _ ?_⟩;exact E.set (s12.trans s2') (b:=.o out) ⟨Da,us,rfl,hD',r'⟩ (.inl rfl) λa ea=>by cases ea;exact s12.free hD
 ·cases eb⟩
def lend:Bx->Bx
 |.o ds=>.l ds
 |.m ds _=>.n ds
 |b=>b
def isO:Bx->Bool
 |.o _=>true
 |.m _ _=>true
 |_=>false
def spF (K:FG_) (n:Nat) (F:List Bx->Option Bx):Sp:=λvs H Q _=>vs.length=n/\∃ bs r,yh K H bs vs/\bs.all (λb=>!isO b)=true/\F bs=some r/\∀ v H',Same H H'->Nw H r v->bh K H' r v->Q v H'
def dj (n:Nat) (g:Ev->Option Out):List Bx->Option Bx:=λbs=>(g (bs.map some++List.replicate (n - bs.length) none)).bind λr=>match r with
 |.rt b=>some b
 |.nx _=>some (.z .non)
 |_=>none
theorem bV.start {K:FG_} {H:Hp} {N:LS_} {bs:List Bx} {vs:List V} (r:yh K H bs vs) (ho:bs.all (λb=>!isO b)=true):bV K H H (L2.start N vs) (bs.map some++List.replicate (N.length - bs.length) none):=by
 have hl:bs.length=vs.length:=Paired.length r;have get:∀ (i:Nat) b,(bs.map some++List.replicate (N.length - bs.length) none)[i]?=some (some b)->bs[i]?=some b:=λi b e=>by
  by_cases hi:i < bs.length
  ·rw[ZU (by simpa using hi),ZA] at e;cases q:bs[i]? with
   |none=>rw[q] at e;cases e
   |some b'=>rw[q] at e;simpa using e
  ·rw[qA (by simp;omega),QR] at e;split at e<;>cases e
 have noO:∀ (i:Nat) c,(bs.map some++List.replicate (N.length - bs.length) none)[i]?=some (some c)->yj c=true->False:=λi c e ec=>by
  have:=List.all_eq_true.mp ho _ (qv (get i _ e));cases c with
  |o ds=>cases this
  |m ds _=>cases this
  |_=>cases ec
 refine⟨?_,λi b e=>?_,λi j c a b e ec=>(noO i c e ec).elim,Same.refl H,λi c a e ec=>(noO i c e ec).elim⟩
 ·unfold L2.start;simp[hl]
 ·have e':=get i b e;have hi:i < bs.length:=(List.getElem?_eq_some_iff.mp e').1;have:∀ {bs:List Bx} {vs:List V} {i:Nat} {b:Bx},Paired (bh K H) bs vs->bs[i]?=some b->∃ v,vs[i]?=some v/\bh K H b v:=by
   intro bs vs i b r
   induction r generalizing i with
   |nil=>intro e;simp at e
   |cons p t ih=>
    intro e;cases i with
    |zero=>simp at e;subst e;exact⟨_,rfl,p⟩
    |succ i=>obtain⟨v,e1,e2⟩:=ih (i:=i) (by simpa using e);exact⟨v,by simpa using e1,e2⟩
  obtain⟨v,e1,e2⟩:=this r e';refine⟨v,?_,e2⟩;unfold L2.start;rw[ZU (by simp;omega),ZA,e1];rfl
end
theorem ag4 {f:Addr} {g:Ev->Option Out} (F:Zv K x qual st f fd) (S:bF N ps (aK st)) (hbody:∀ (cdv:Value) (A:Around) (outer:List Env) (s:Shared) (H:Hp) (E:XK),oM k (A.deeper (envOfC qual (aK st) s.heap.objs.size f cdv))->VD (Gv T9 P w K mg base N qual (aK st) f cdv A outer s H E).nox (jH st) g) :
  Bh P w K mg base T9 (k+1) f fd ps (spF K ps.length (dj N.length g)):=by
 refine F.ok S (λvs H Q E h=>h.1) λcdv A outer s H vs Q E hr h=>?_;obtain⟨hl,bs,r,rb,ho,e,q⟩:=h;refine⟨_,hbody cdv A outer s H E hr,?_⟩;obtain⟨r',er,e⟩:=bind_some e;refine⟨H,_,r',bV.start rb ho,er,?_⟩;cases r' with
 |rt b=>cases e;exact λv H' s' n' r'=>q v H' s' n' r'
 |nx ρ=>cases e;exact λσ H' E'=>q _ H' E'.base trivial (by unfold bh Rep;rfl)
 |bk ρ=>cases e
 |ct ρ=>cases e
section
variable {f:Addr} {F:List Bx->Option Bx} {p:Pos} {fs:Ev->Option (List Bx)}
theorem Mq {K:FG_} {H:Hp}:∀ {bs:List Bx} {vs:List V},yh K H bs vs->yh K H (bs.map lend) vs
 |_,_,.nil=>.nil
 |b::bs,_,.cons h t=>by
  refine .cons ?_ (Mq t);cases b with
  |z d=>exact h
  |l ds=>exact h
  |o ds=>obtain⟨a,vs,e,q,r⟩:=h;exact⟨a,vs,e,.inl q,r⟩
  |n ds=>exact h
  |m ds _=>obtain⟨a,vs,e,q,r⟩:=h;exact⟨a,vs,e,.inl q,r.1⟩
theorem RX:∀ bs:List Bx,(bs.map lend).all (λb=>!isO b)=true
 |[]=>rfl
 |b::bs=>by
  rw[zC,jn,RX bs];cases b<;>rfl
def bJ (n:Nat) (F:List Bx->Option Bx) (fs:Ev->Option (List Bx)):Ev->Option Bx:=λρ=>(fs ρ).bind λbs=>if bs.length=n then F (bs.map lend) else none
theorem ZR (G:Bh X.prog X.w X.K X.mg X.base T9 k f fd ps (spF X.K n F)) (hr:oM k X.A) (hg:Gl X x) (hm:X.mg x=some (.ref f)) (hk:keepIn X.K (.ref f)=true) (hb:Binds X.K fd ps []) (ha:Vr X (e::es) fs) (hdb:(x==("__debug__" : Str))=false:=by decide) (he:starEach (e::es) X.env=(false,eval e X.env)::starEach es X.env:=by rfl) (hpl:(backTo pos (starEach es X.env)).any (·.1)=false:=by rfl):QV X (.Call (.Name x p) (e::es) [] pos) (bJ n F fs):=⟨have ha:=ha.run;Bl (Ze G hr hg hm hk hb .nil (aeT) ha hdb he hpl) λσ H Q h=>by
 obtain⟨H0,ρ,r,E,e,q⟩:=h;obtain⟨bs,eb,e⟩:=bind_some e;refine⟨H0,ρ,bs,E,eb,λvs H1 s1 r1=>?_⟩;split at e
 ·rename_i hn;rw[QA];exact⟨by rw[<-Paired.length r1];exact hn,_,r,Mq r1,RX bs,e,λv H2 s2 n2 r2=>q v H2 (s1.trans s2) (n2.old s1) r2⟩
 ·cases e⟩
end
end P1
variable {b:P1.Bx} {d:P1.Dt} {F:List P1.Bx->Option P1.Bx} {f:P1.Ev->Option P1.Bx} {q:P1.Ev->Option Bool} {g:P1.Ev->Option P1.Out} {p:P1.Ev->Option Bool} {ds:List P1.Dt} {fa:P1.Ev->Option P1.Bx} {ρ:P1.Ev} {fb fc:P1.Ev->Option P1.Bx} {gt:P1.Dt->P1.Ev->Option P1.Ev} {gb:P1.Ev->Option P1.Out} {fi:P1.Ev->Option (List P1.Dt)} {fe:P1.Ev->Option P1.Bx} {Ac:Addr->L2.Hp->List P1.Dt->L2.HO->Prop} {fk fo fv f1:P1.Ev->Option P1.Bx} {gx:P1.Ev->Option P1.Dt} {f9:P1.Bx}
namespace P1
open L2 SeqAt
open AutoSeq1 (wpAny_loadPart')
def GC (h:Heap) (a:Addr):Prop:=∃ o ep,h.get? a=some o/\o.ExactDict/\o.data=.dict #[] ep
section
variable {b:Addr}
theorem yw {vs:List (Key×Value)} (q:kvs=[]) (r:KV kvs vs) (d:h.DictOf (cH P w) a vs):GC h a:=by
 subst q;cases r;obtain⟨o,es,ep,h1,h2,h3,_,h5,_⟩:=d;have:es=#[]:=by
  have:=h5.length;apply Array.eq_empty_of_size_eq_zero;simpa using this
 subst this;exact⟨o,ep,h1,h2,h3⟩
theorem GC.dict (P:Program) (w:World) (x:GC h a):h.DictOf (strKind P w) a []:=by
 obtain⟨o,ep,h1,h2,h3⟩:=x;exact⟨o,#[],ep,h1,h2,h3,λe he=>by simp at he,.nil,List.nodup_nil⟩
theorem abt (ha:(a==sysModules)=false) (hb:(b==sysModules)=false) (da:GC s.heap a) (db:GC s.heap b) (hu:A.units < cLine):RcAt A s (.ref a) (.ref b) true:=λprog w E Q h=>
 PySem.W.keq_eq (knd:=strKind prog w) ha hb (da.dict prog w) (db.dict prog w) hu (λ_=>.nil) h
theorem ae3 (ha:(a==sysModules)=false) (hb:(b==sysModules)=false) (da:GC s.heap a) (db:GC s.heap b) (hu:A.units < cLine):RcNeAt A s (.ref a) (.ref b) false:=λprog w E Q h=>
 PySem.W.keq_ne (r:=true) (knd:=strKind prog w) ha hb (da.dict prog w) (db.dict prog w) hu (λ_=>.nil) h
theorem Mr (o:Obj) (b:Str) (u:Tok):Meets (Builtin.«dict.__eq__» ⟨[.ref a,.str b u],[]⟩) (λ_ R s=>(s.heap.get? a=some o/\o.cls=.type "dict")/\R (.ok (.ret .notImplemented)) s):=
 .of_wp λprog w A R s h=>by
  have ht:s.TypeIs (.ref a) "dict" := ⟨o,h.1.1,h.1.2⟩;show wpAny _ _ (Builtin.Dict.dictSlotArgs "__eq__" ⟨[.ref a,.str b u],[]⟩ >>= _) _ _ s;refine zb ?_;unfold Builtin.Dict.dictSlotArgs;refine zb (wpAny_notOrdered_dict ht ?_);show wpAny _ _ (pure (Value.ref a,Value.str b u)) _ _ s;refine zd ?_;refine zb (Q2 (T := "str") (typeIs_str s b u) PySem.F.sub_str_dict ?_);simp only[jI,ZZ];refine zb (JO ?_);exact zd ⟨_,rfl,h.2⟩
theorem Ms (b:Str) (u:Tok) (es:Array DictEntry) (ep:Nat) (dd:Option Addr) (sl:Array (Option Value)):Meets (Builtin.«str.__eq__» ⟨[.str b u,.ref a],[]⟩) (λ_ R s=>s.heap.get? a=some { cls:=.type "dict", dict:=dd,data:=.dict es ep,slots:=sl }/\R (.ok (.ret .notImplemented)) s):=
 .of_wp λprog w A R s h=>by obtain⟨hp,g,d,tk,os⟩:=s;obtain⟨hl,h⟩:=h;wp_walk using wpAny_loadPart' hl,wpAny_load hl;exact⟨_,rfl,h⟩
theorem Ib (x:Str) (t:Tok) (d:GC s.heap a) (hu:A.units < cLine):RcAt A s (.str x t) (.ref a) false:=λprog w E Q h=>by
 obtain⟨⟨cls,dd,data,sl⟩,ep,ho,⟨hc,hd,hs⟩,he⟩:=d;simp only at hc he;subst hc he;exact rc_eq_decline_or (k:=false) (typeIs_str s x t) ⟨_,ho,rfl⟩ (by decide) PySem.F.sub_dict_str PySem.F.slot_str_eq PySem.F.slot_dict_eq_refl
  (λ_ hq=>call_meets PySem.F.slot_str_eq (typeIs_str s x t) PySem.F.entry_str_eq (PySem.F.args_str_eq_2 _ _) (Ms x t #[] ep dd sl) ⟨ho,hq⟩)
  (λ_ hq=>call_meets PySem.F.slot_dict_eq_refl ⟨_,ho,rfl⟩ PySem.F.entry_dict_eq (PySem.F.args_dict_eq_2 _ _) (Mr _ x t) ⟨⟨ho,rfl⟩,hq⟩)
  (λ_ hq=>wpAny_of_eq (rfl:isSame (.str x t) (.ref a)=pure false) hq) (.inr hu) h
theorem Mt (o:Obj) (b:Str) (u:Tok):Meets (Builtin.«dict.__ne__» ⟨[.ref a,.str b u],[]⟩) (λ_ R s=>(s.heap.get? a=some o/\o.cls=.type "dict")/\R (.ok (.ret .notImplemented)) s):=
 .of_wp λprog w A R s h=>by
  have ht:s.TypeIs (.ref a) "dict" := ⟨o,h.1.1,h.1.2⟩;show wpAny _ _ (Builtin.Dict.dictSlotArgs "__ne__" ⟨[.ref a,.str b u],[]⟩ >>= _) _ _ s;refine zb ?_;unfold Builtin.Dict.dictSlotArgs;refine zb (wpAny_notOrdered_dict ht ?_);show wpAny _ _ (pure (Value.ref a,Value.str b u)) _ _ s;refine zd ?_;refine zb (Q2 (T := "str") (typeIs_str s b u) PySem.F.sub_str_dict ?_);simp only[jI,ZZ];refine zb (JO ?_);exact zd ⟨_,rfl,h.2⟩
theorem Mu (b:Str) (u:Tok) (es:Array DictEntry) (ep:Nat) (dd:Option Addr) (sl:Array (Option Value)):Meets (Builtin.«str.__ne__» ⟨[.str b u,.ref a],[]⟩) (λ_ R s=>s.heap.get? a=some { cls:=.type "dict", dict:=dd,data:=.dict es ep,slots:=sl }/\R (.ok (.ret .notImplemented)) s):=
 .of_wp λprog w A R s h=>by obtain⟨hp,g,d,tk,os⟩:=s;obtain⟨hl,h⟩:=h;wp_walk using wpAny_loadPart' hl,wpAny_load hl;exact⟨_,rfl,h⟩
theorem Uh (x:Str) (t:Tok) (d:GC s.heap a) (hu:A.units < cLine):RcNeAt A s (.str x t) (.ref a) true:=λprog w E Q h=>by
 obtain⟨⟨cls,dd,data,sl⟩,ep,ho,⟨hc,hd,hs⟩,he⟩:=d;simp only at hc he;subst hc he;exact rc_ne_decline_or (k:=false) (typeIs_str s x t) ⟨_,ho,rfl⟩ (by decide) PySem.F.sub_dict_str PySem.F.slot_str_ne PySem.F.slot_dict_ne_refl
  (λ_ hq=>call_meets PySem.F.slot_str_ne (typeIs_str s x t) PySem.F.entry_str_ne (PySem.F.args_str_ne_2 _ _) (Mu x t #[] ep dd sl) ⟨ho,hq⟩)
  (λ_ hq=>call_meets PySem.F.slot_dict_ne_refl ⟨_,ho,rfl⟩ PySem.F.entry_dict_ne (PySem.F.args_dict_ne_2 _ _) (Mt _ x t) ⟨⟨ho,rfl⟩,hq⟩)
  (λ_ hq=>wpAny_of_eq (rfl:isSame (.str x t) (.ref a)=pure false) hq) (.inr hu) h
theorem Ui (x:Str) (t:Tok) (d:GC s.heap a) (hu:A.units < cLine):EqAt A s (.str x t) (.ref a) false:=λprog w E Q h=>by
 unfold eqBool;refine Qr ?_;refine wpAny_ite_split (λhab=>absurd (eq_of_beq hab) nofun) (λ_=>?_);exact zb (Ib x t d hu prog w E _ (qi h))
end
mutual
def xY:Dt->Nat
 |.tup xs=>uW xs+1
 |.lst xs=>uW xs+1
 |_=>1
def uW:List Dt->Nat
 |[]=>0
 |d::ds=>max (xY d) (uW ds)
end
mutual
def Ls:Dt->Dt->Option Bool
 |.non,.non=>some true
 |.non,.bl _=>some false|.non,.int _=>some false|.non,.str _=>some false|.non,.tup _=>some false|.non,.lst _=>some false
 |.bl a,.bl b=>some (a==b)
 |.bl a,.int b=>some ((if a then 1 else 0)==b)
 |.bl _,.non=>some false|.bl _,.str _=>some false|.bl _,.tup _=>some false|.bl _,.lst _=>some false
 |.int a,.int b=>some (a==b)
 |.int a,.bl b=>some (a==(if b then 1 else 0))
 |.int _,.non=>some false|.int _,.str _=>some false|.int _,.tup _=>some false|.int _,.lst _=>some false
 |.str a,.str b=>some (a==b)
 |.str _,.non=>some false|.str _,.bl _=>some false|.str _,.int _=>some false|.str _,.tup _=>some false|.str _,.lst _=>some false|.str _,.emp=>some false
 |.tup xs,.tup ys=>lN xs ys
 |.tup _,.non=>some false|.tup _,.bl _=>some false|.tup _,.int _=>some false|.tup _,.str _=>some false|.tup _,.lst _=>some false
 |.lst xs,.lst ys=>lN xs ys
 |.emp,.emp=>some true
 |.lst _,.non=>some false|.lst _,.bl _=>some false|.lst _,.int _=>some false|.lst _,.str _=>some false|.lst _,.tup _=>some false
 |_,_=>none
def lN:List Dt->List Dt->Option Bool
 |[],[]=>some true
 |[],_::_=>some false
 |_::_,[]=>some false
 |x::xs,y::ys=>match Ls x y with
  |some b=>match lN xs ys with
   |some c=>some (b&&c)
   |none=>none
  |none=>none
end
mutual
theorem Mv:∀ {d:Dt} {k:Bool},Ls d d=some k->k=true
 |.non,_,e=>by cases e;rfl
 |.bl b,_,e=>by cases e;simp
 |.int b,_,e=>by cases e;simp
 |.str b,_,e=>by cases e;simp
 |.tup xs,_,e=>zF (ds:=xs) e
 |.lst xs,_,e=>zF (ds:=xs) e
 |.emp,_,e=>by cases e;rfl
theorem zF:∀ {ds:List Dt} {k:Bool},lN ds ds=some k->k=true
 |[],_,e=>by simp only[lN] at e;cases e;rfl
 |d::ds,_,e=>by
  simp only[lN] at e;cases h:Ls d d with
  |none=>rw[h] at e;cases e
  |some b=>
   rw[h] at e;simp only at e;cases h2:lN ds ds with
   |none=>rw[h2] at e;cases e
   |some c=>
    rw[h2] at e;cases e;rw[Mv h,zF h2];rfl
end
theorem Ci (xs ys:List Dt):Ls (.tup xs) (.tup ys)=lN xs ys:=rfl
theorem uX:∀ {xs ys:List Dt} {k:Bool},lN xs ys=some k->∃ e:Nat->Bool,(∀ (j:Nat) x y,xs[j]?=some x->ys[j]?=some y->Ls x y=some (e j))/\k=((List.range (min xs.length ys.length)).all e&&xs.length==ys.length)
 |[],[],k,h=>by simp only[lN] at h;cases h;exact⟨λ_=>true,λj x y e=>by simp at e,by simp⟩
 |[],y::ys,k,h=>by simp only[lN] at h;cases h;exact⟨λ_=>true,λj x y e=>by simp at e,by simp⟩
 |x::xs,[],k,h=>by simp only[lN] at h;cases h;exact⟨λ_=>true,λj x y _ e=>by simp at e,by simp⟩
 |x::xs,y::ys,k,h=>by
  simp only[lN] at h;cases h1:Ls x y with
  |none=>rw[h1] at h;cases h
  |some b=>
   rw[h1] at h;simp only at h;cases h2:lN xs ys with
   |none=>rw[h2] at h;cases h
   |some c=>
    rw[h2] at h;cases h;obtain⟨e,g,hc⟩:=uX h2;refine⟨λj=>match j with|0=>b|j+1=>e j,λj u v eu ev=>?_,?_⟩
    ·cases j with
     |zero=>simp at eu ev;subst eu ev;exact h1
     |succ j=>exact g j u v (by simpa using eu) (by simpa using ev)
    ·have:min (x::xs).length (y::ys).length=min xs.length ys.length+1:=by simp only[ZN];omega
     rw[this,List.range_succ_eq_map,jn,List.all_map,hc];have hb:((x::xs).length==(y::ys).length)=(xs.length==ys.length):=by
      rw[Bool.eq_iff_iff];simp
     rw[hb,Bool.and_assoc];rfl
theorem uY:∀ {ds:List Dt} {j:Nat} {d:Dt},ds[j]?=some d->xY d<=uW ds
 |[],_,_,e=>by simp at e
 |d::ds,0,_,e=>by simp at e;subst e;simp only[uW];exact Nat.le_max_left _ _
 |d::ds,j+1,_,e=>by
  simp only[uW];exact zD (uY (ds:=ds) (j:=j) (by simpa using e)) (Nat.le_max_right _ _)
theorem Cj (I:L2.Inv X pins σ H s) (h:xX X.K H a vs):∃ ob,s.heap.get? a=some ob/\ob.cls=.type "tuple" := by
 obtain⟨its,_,⟨ob,e,c,_⟩,_⟩:=I.tuple h;exact⟨ob,e,c⟩
theorem Ck (I:L2.Inv X pins σ H s) (h:rY X.K H a vs):∃ ob,s.heap.get? a=some ob/\ob.cls=.type "list" := by
 obtain⟨its,_,⟨ob,n,e,c,_⟩,_⟩:=I.list h;exact⟨ob,e,c⟩
theorem pX (I:L2.Inv X pins σ H s) {o:Obj} (h:H a=some (.Jo o (.dK []))):∃ ob,s.heap.get? a=some ob/\ob.cls=.type "dict" := by
 obtain⟨e,_,_,vs,_,ob,es,ep,e2,ex,_⟩:=I.hok a _ h;exact⟨ob,e2,ex.1⟩
theorem zG {n m:String} (h:∃ ob,s.heap.get? a=some ob/\ob.cls=.type n) (q:∃ ob,s.heap.get? a=some ob/\ob.cls=.type m) (hn:n≠m):False:=by
 obtain⟨o,e,c⟩:=h;obtain⟨o',e',c'⟩:=q;rw[e] at e';cases e';rw[c] at c';exact hn (by injection c')
mutual
theorem Rep.inj (I:L2.Inv X pins σ H s):∀ {d e:Dt} {v:V},Rep X.K H d v->Rep X.K H e v->d=e
 |.non,e,v,h,q=>by
  simp only[Rep] at h;subst h;cases e<;>simp only[Rep] at q<;>first|rfl|(cases q;done)|(obtain⟨a,b,z,_⟩:=q;cases z;done)|(obtain⟨z,_⟩:=q;cases z;done)
 |.bl _,e,v,h,q=>by
  simp only[Rep] at h;subst h;cases e<;>simp only[Rep] at q<;>first|(cases q;rfl)|(cases q;done)|(obtain⟨a,b,z,_⟩:=q;cases z;done)|(obtain⟨z,_⟩:=q;cases z;done)
 |.int _,e,v,h,q=>by
  simp only[Rep] at h;subst h;cases e<;>simp only[Rep] at q<;>first|(cases q;rfl)|(cases q;done)|(obtain⟨a,b,z,_⟩:=q;cases z;done)|(obtain⟨z,_⟩:=q;cases z;done)
 |.str x,e,v,h,q=>by
  simp only[Rep] at h;have hv:v=.str x:=h.1;subst hv;cases e with
  |str y=>
   simp only[Rep] at q;have z:V.str x=V.str y:=q.1;injection z with z;rw[z]
  |tup es=>simp only[Rep] at q;obtain⟨a,b,z,_⟩:=q;cases z
  |lst es=>simp only[Rep] at q;obtain⟨a,b,z,_⟩:=q;cases z
  |emp=>simp only[Rep] at q;obtain⟨a,b,z,_⟩:=q;cases z
  |_=>simp only[Rep] at q;cases q
 |.tup ds,e,v,h,q=>by
  simp only[Rep] at h;obtain⟨a,vs,rfl,sq,r⟩:=h;cases e with
  |tup es=>
   simp only[Rep] at q;obtain⟨b,us,z,Mw,r'⟩:=q;cases z;have:=I.Hz sq Mw;subst this;rw[aM.inj I r r']
  |lst es=>
   simp only[Rep] at q;obtain⟨b,us,z,Mw,r'⟩:=q;cases z;exact(zG (Cj I sq) (Ck I Mw.sq) (by decide)).elim
  |emp=>
   simp only[Rep] at q;obtain⟨b,o,z,Mw⟩:=q;cases z;exact(zG (Cj I sq) (pX I Mw) (by decide)).elim
  |str x=>simp only[Rep] at q;have z:=q.1;cases z
  |_=>simp only[Rep] at q;cases q
 |.lst ds,e,v,h,q=>by
  simp only[Rep] at h;obtain⟨a,vs,rfl,sq,r⟩:=h;cases e with
  |lst es=>
   simp only[Rep] at q;obtain⟨b,us,z,Mw,r'⟩:=q;cases z;have:=I.CW sq.sq Mw.sq;subst this;rw[aM.inj I r r']
  |tup es=>
   simp only[Rep] at q;obtain⟨b,us,z,Mw,r'⟩:=q;cases z;exact(zG (Ck I sq.sq) (Cj I Mw) (by decide)).elim
  |emp=>
   simp only[Rep] at q;obtain⟨b,o,z,Mw⟩:=q;cases z;exact(zG (Ck I sq.sq) (pX I Mw) (by decide)).elim
  |str x=>simp only[Rep] at q;have z:=q.1;cases z
  |_=>simp only[Rep] at q;cases q
 |.emp,e,v,h,q=>by
  simp only[Rep] at h;obtain⟨a,o,rfl,sq⟩:=h;cases e with
  |emp=>rfl
  |tup es=>
   simp only[Rep] at q;obtain⟨b,us,z,Mw,r'⟩:=q;cases z;exact(zG (pX I sq) (Cj I Mw) (by decide)).elim
  |lst es=>
   simp only[Rep] at q;obtain⟨b,us,z,Mw,r'⟩:=q;cases z;exact(zG (pX I sq) (Ck I Mw.sq) (by decide)).elim
  |str x=>simp only[Rep] at q;have z:=q.1;cases z
  |_=>simp only[Rep] at q;cases q
theorem aM.inj (I:L2.Inv X pins σ H s):∀ {ds es:List Dt} {vs:List V},aM X.K H ds vs->aM X.K H es vs->ds=es
 |[],es,vs,h,q=>by
  simp only[aM] at h;subst h;cases es with
  |nil=>rfl
  |cons e es=>simp only[aM] at q;obtain⟨_,_,z,_⟩:=q;cases z
 |d::ds,es,vs,h,q=>by
  simp only[aM] at h;obtain⟨v,r,rfl,h1,h2⟩:=h;cases es with
  |nil=>simp only[aM] at q;cases q
  |cons e es=>
   simp only[aM] at q;obtain⟨v',r',z,q1,q2⟩:=q;cases z;rw[Rep.inj I h1 q1,aM.inj I h2 q2]
end
theorem ae4 (I:L2.Inv X pins σ H s):∀ (n:Nat) {A:Around} {d e:Dt} {x y:V} {u v:Value} {k:Bool},min (xY d) (xY e)<=n->A.units+n < cLine->Rep X.K H d x->Rep X.K H e y->RelV x u->RelV y v->Ls d e=some k->EqAt A s u v k:=by
 intro n
 induction n with
 |zero=>
  intro A d e x y u v k hn;have h1:1<=xY d:=by cases d<;>simp only[xY]<;>omega
  have h2:1<=xY e:=by cases e<;>simp only[xY]<;>omega
  omega
 |succ n ih=>
  intro A d e x y u v k hn hA rd re ru rv ek;have hu:A.units < cLine:=by omega
  by_cases hxy:u=v/\∃ a,u=.ref a
  ·obtain⟨rfl,a,rfl⟩:=hxy;have hx:x=.ref a:=by have:=ru.abs;simpa[aci] using this.symm
   have hy:y=.ref a:=by have:=rv.abs;simpa[aci] using this.symm
   subst hx hy;have:=Rep.inj I rd re;subst this;rw[Mv ek];exact EqAt.same _
  ·have items:∀ {ds es:List Dt} {vs us:List V} {its its2:List Value} {f:Nat->Bool},min (uW ds) (uW es)<=n->aM X.K H ds vs->aM X.K H es us->Vals vs its->Vals us its2->(∀ (j:Nat) x y,ds[j]?=some x->es[j]?=some y->Ls x y=some (f j)) →
     ∀ j (h1:j < its.toArray.size) (h2:j < its2.toArray.size),EqAt A.in1 s its.toArray[j] its2.toArray[j] (f j):=by
    intro ds es vs us its its2 f hm r1 r2 w1 w2 hf j h1 h2;have l1:=w1.length;have l2:=w2.length;have l3:=r1.length;have l4:=r2.length;have j1:j < its.length:=by simpa using h1
    have j2:j < its2.length:=by simpa using h2
    have d1:ds[j]?=some ds[j]:=by simp
    have d2:es[j]?=some es[j]:=by simp
    obtain⟨a,ea,ra⟩:=r1.get d1;obtain⟨b,eb,rb⟩:=r2.get d2;obtain⟨p,ep,rp⟩:=w1.get ea;obtain⟨q,eq,rq⟩:=w2.get eb;have e1:its.toArray[j]=p:=by simpa[j1] using ep
    have e2:its2.toArray[j]=q:=by simpa[j2] using eq
    rw[e1,e2];have m1:=uY d1;have m2:=uY d2;exact ih (by omega) (by rw[units_in1];omega) ra rb rp rq (hf j _ _ d1 d2)
   cases d with
   |non=>
    cases rd;cases ru;cases e with
    |non=>cases re;cases rv;cases ek;exact EqAt.same _
    |bl b=>cases re;cases rv;cases ek;exact EqAt.none_bool b
    |int b=>cases re;obtain⟨t,rfl⟩:=rv;cases ek;exact EqAt.none_int b t
    |str b=>obtain⟨rfl,_⟩:=re;obtain⟨t,rfl⟩:=rv;cases ek;exact EqAt.none_str b t
    |tup es=>obtain⟨b,us,rfl,sq,_⟩:=re;cases rv;cases ek;obtain⟨_,_,p,_⟩:=I.tuple sq;exact EqAt.none_tuple p hu
    |lst es=>obtain⟨b,us,rfl,sq,_⟩:=re;cases rv;cases ek;obtain⟨_,_,p,_⟩:=I.list sq.sq;exact EqAt.none_list p.isList hu
    |emp=>cases ek
   |bl a=>
    cases rd;cases ru;cases e with
    |non=>cases re;cases rv;cases ek;exact EqAt.bool_none a
    |bl b=>cases re;cases rv;cases ek;exact EqAt.bool_bool a b
    |int b=>cases re;obtain⟨t,rfl⟩:=rv;cases ek;exact EqAt.bool_int a b t
    |str b=>obtain⟨rfl,_⟩:=re;obtain⟨t,rfl⟩:=rv;cases ek;exact EqAt.bool_str a b t
    |tup es=>obtain⟨b,us,rfl,sq,_⟩:=re;cases rv;cases ek;obtain⟨_,_,p,_⟩:=I.tuple sq;exact EqAt.bool_tuple a p hu
    |lst es=>obtain⟨b,us,rfl,sq,_⟩:=re;cases rv;cases ek;obtain⟨_,_,p,_⟩:=I.list sq.sq;exact EqAt.bool_list a p.isList hu
    |emp=>cases ek
   |int a=>
    cases rd;obtain⟨t',rfl⟩:=ru;cases e with
    |non=>cases re;cases rv;cases ek;exact EqAt.int_none a t'
    |bl b=>cases re;cases rv;cases ek;exact EqAt.int_bool a t' b
    |int b=>cases re;obtain⟨t,rfl⟩:=rv;cases ek;exact EqAt.int_int a t' b t
    |str b=>obtain⟨rfl,_⟩:=re;obtain⟨t,rfl⟩:=rv;cases ek;exact EqAt.int_str a t' b t
    |tup es=>obtain⟨b,us,rfl,sq,_⟩:=re;cases rv;cases ek;obtain⟨_,_,p,_⟩:=I.tuple sq;exact EqAt.int_tuple a t' p hu
    |lst es=>obtain⟨b,us,rfl,sq,_⟩:=re;cases rv;cases ek;obtain⟨_,_,p,_⟩:=I.list sq.sq;exact EqAt.int_list a t' p.isList hu
    |emp=>cases ek
   |str a=>
    obtain⟨rfl,_⟩:=rd;obtain⟨t',rfl⟩:=ru;cases e with
    |non=>cases re;cases rv;cases ek;exact EqAt.str_none a t'
    |bl b=>cases re;cases rv;cases ek;exact EqAt.str_bool a t' b
    |int b=>cases re;obtain⟨t,rfl⟩:=rv;cases ek;exact EqAt.str_int a t' b t
    |str b=>obtain⟨rfl,_⟩:=re;obtain⟨t,rfl⟩:=rv;cases ek;exact EqAt.str_str a t' b t
    |tup es=>obtain⟨b,us,rfl,sq,_⟩:=re;cases rv;cases ek;obtain⟨_,_,p,_⟩:=I.tuple sq;exact EqAt.str_tuple a t' p hu
    |lst es=>obtain⟨b,us,rfl,sq,_⟩:=re;cases rv;cases ek;obtain⟨_,_,p,_⟩:=I.list sq.sq;exact EqAt.str_list a t' p.isList hu
    |emp=>
     simp only[Rep] at re;obtain⟨p,o,rfl,e⟩:=re;cases rv;cases ek;obtain⟨_,_,vs,r,q⟩:=HW I.hok (.inr ⟨o,e⟩);exact Ui a t' (yw rfl r q) hu
   |tup ds=>
    obtain⟨a,vs,rfl,sa,ra⟩:=rd;cases ru;obtain⟨its,wv,p,_⟩:=I.tuple sa;cases e with
    |non=>cases re;cases rv;cases ek;exact EqAt.tuple_none p hu
    |bl b=>cases re;cases rv;cases ek;exact EqAt.tuple_bool b p hu
    |int b=>cases re;obtain⟨t,rfl⟩:=rv;cases ek;exact EqAt.tuple_int b t p hu
    |str b=>obtain⟨rfl,_⟩:=re;obtain⟨t,rfl⟩:=rv;cases ek;exact EqAt.tuple_str b t p hu
    |lst es=>obtain⟨b,us,rfl,sq,_⟩:=re;cases rv;cases ek;obtain⟨_,_,p2,_⟩:=I.list sq.sq;exact EqAt.tuple_list p p2.isList hu
    |tup es=>
     obtain⟨b,us,rfl,sb,rb⟩:=re;cases rv;obtain⟨its2,wu,p2,_⟩:=I.tuple sb;change lN _ _=some _ at ek;obtain⟨f,hf,rfl⟩:=uX ek;have hne:a≠b:=λz=>hxy ⟨by rw[z],a,rfl⟩;have z:=EqAt.of_refs hne (RcAt.tuples (A:=A) (e:=f) p p2 hu (items (by simp only[xY] at hn;omega) ra rb wv wu hf));have q1:its.toArray.size=ds.length:=by rw[zt,<-wv.length,ra.length]
     have q2:its2.toArray.size=es.length:=by rw[zt,<-wu.length,rb.length]
     rw[q1,q2] at z;exact z
    |emp=>cases ek
   |lst ds=>
    obtain⟨a,vs,rfl,sa,ra⟩:=rd;cases ru;obtain⟨its,wv,p,_⟩:=I.list sa.sq;cases e with
    |non=>cases re;cases rv;cases ek;exact EqAt.list_none p.isList hu
    |bl b=>cases re;cases rv;cases ek;exact EqAt.list_bool b p.isList hu
    |int b=>cases re;obtain⟨t,rfl⟩:=rv;cases ek;exact EqAt.list_int b t p.isList hu
    |str b=>obtain⟨rfl,_⟩:=re;obtain⟨t,rfl⟩:=rv;cases ek;exact EqAt.list_str b t p.isList hu
    |tup es=>obtain⟨b,us,rfl,sq,_⟩:=re;cases rv;cases ek;obtain⟨_,_,p2,_⟩:=I.tuple sq;exact EqAt.list_tuple p.isList p2 hu
    |lst es=>
     obtain⟨b,us,rfl,sb,rb⟩:=re;cases rv;obtain⟨its2,wu,p2,_⟩:=I.list sb.sq;change lN _ _=some _ at ek;obtain⟨f,hf,rfl⟩:=uX ek;have hne:a≠b:=λz=>hxy ⟨by rw[z],a,rfl⟩;have q1:its.toArray.size=ds.length:=by rw[zt,<-wv.length,ra.length]
     have q2:its2.toArray.size=es.length:=by rw[zt,<-wu.length,rb.length]
     by_cases hsz:its.toArray.size=its2.toArray.size
     ·have z:=EqAt.of_refs hne (RcAt.lists (A:=A) (e:=f) p.isList p2.isList hsz hu (items (by simp only[xY] at hn;omega) ra rb wv wu hf));have hl:ds.length=es.length:=by omega
      rw[q1] at z;rw[hl,Nat.min_self,beq_self_eq_true,kz,<-hl];exact z
     ·have hl:(ds.length==es.length)=false:=by rw[beq_eq_false_iff_ne];omega
      rw[hl,Bool.and_false];exact EqAt.of_refs hne (RcAt.lists_lengths p.isList p2.isList (by simpa using hsz) hu)
    |emp=>cases ek
   |emp=>
    cases e<;>first|(cases ek;done)|skip;simp only[Rep] at rd re;obtain⟨a,o,rfl,e1⟩:=rd;obtain⟨b,o',rfl,e2⟩:=re;cases ru;cases rv;cases ek;obtain⟨_,m1,vs,r,q⟩:=HW I.hok (.inr ⟨o,e1⟩);obtain⟨_,m2,vs',r',q'⟩:=HW I.hok (.inr ⟨o',e2⟩);exact EqAt.of_refs (λz=>hxy ⟨by rw[z],a,rfl⟩) (abt m1 m2 (yw rfl r q) (yw rfl r' q') hu)
theorem Mx (I:L2.Inv X pins σ H s) {es:List Dt} {us:List V} {its2:List Value} {f:Nat->Bool} (hm:min (uW ds) (uW es)<=n) (hA:A.units+n+1 < cLine) (r1:aM X.K H ds vs) (r2:aM X.K H es us) (w1:Vals vs its) (w2:Vals us its2) (hf:∀ (j:Nat) x y,ds[j]?=some x->es[j]?=some y->Ls x y=some (f j)):∀ j (h1:j < its.toArray.size) (h2:j < its2.toArray.size),EqAt A.in1 s its.toArray[j] its2.toArray[j] (f j):=by
 intro j h1 h2;have l1:=w1.length;have l2:=w2.length;have l3:=r1.length;have l4:=r2.length;have j1:j < its.length:=by simpa using h1
 have j2:j < its2.length:=by simpa using h2
 have d1:ds[j]?=some (ds[j]'(by omega)):=by simp
 have d2:es[j]?=some (es[j]'(by omega)):=by simp
 obtain⟨a,ea,ra⟩:=r1.get d1;obtain⟨b,eb,rb⟩:=r2.get d2;obtain⟨p,ep,rp⟩:=w1.get ea;obtain⟨q,eq,rq⟩:=w2.get eb;have e1:its.toArray[j]=p:=by simpa[j1] using ep
 have e2:its2.toArray[j]=q:=by simpa[j2] using eq
 rw[e1,e2];have m1:=uY d1;have m2:=uY d2;exact ae4 I n (by omega) (by rw[units_in1];omega) ra rb rp rq (hf j _ _ d1 d2)
def gZ (K:FG_) (H:Hp):Dt->V->Prop
 |.lst ds,v=>∃ a vs,v=.ref a/\rY K H a vs/\aM K H ds vs
 |d,v=>Rep K H d v
def nW:Bx->Bool
 |.n _=>true
 |.m _ _=>true
 |_=>false
def toD:Bx->Dt
 |.z d=>d
 |.l ds=>.lst ds
 |.o ds=>.lst ds
 |.n _=>.non
 |.m _ _=>.non
theorem bh.toD {v:V} (h:bh K H b v) (hm:nW b=false):gZ K H (toD b) v:=by
 cases b with
 |z d=>
  cases d with
  |lst ds=>exact h.HX rfl
  |_=>exact h
 |l ds=>exact h.HX rfl
 |o ds=>exact h.HX rfl
 |n _=>cases hm
 |m _ _=>cases hm
theorem RZ (I:L2.Inv X pins σ H s) {e:Dt} {x y:V} {k:Bool} (hm:min (xY d) (xY e)<=100) (hA:X.A.units+100 < cLine) (rd:gZ X.K H d x) (re:gZ X.K H e y) (ru:RelV x u) (rv:RelV y v) (ek:Ls d e=some k):RcAt X.A s u v k/\RcNeAt X.A s u v (!k):=by
 have hu:X.A.units < cLine:=by omega
 cases d with
 |non=>
  cases rd;cases ru;cases e with
  |non=>
   cases re;cases rv;cases ek;exact⟨.none_none,.none_none⟩
  |bl x2=>
   cases re;cases rv;cases ek;exact⟨.none_bool x2,.none_bool x2⟩
  |int x2=>
   cases re;obtain⟨t2,rfl⟩:=rv;cases ek;exact⟨.none_int x2 t2,.none_int x2 t2⟩
  |str x2=>
   obtain⟨rfl,_⟩:=re;obtain⟨t2,rfl⟩:=rv;cases ek;exact⟨.none_str x2 t2,.none_str x2 t2⟩
  |tup x2=>
   obtain⟨a2,vs2,rfl,Dl,Qm⟩:=re;cases rv;obtain⟨its2,w2,p2,_⟩:=I.tuple Dl;cases ek;exact⟨.none_tuple p2 hu,.none_tuple p2 hu⟩
  |lst x2=>
   obtain⟨a2,vs2,rfl,Dl,Qm⟩:=re;cases rv;obtain⟨its2,w2,p2,_⟩:=I.list Dl;cases ek;exact⟨.none_list p2.isList hu,.none_list p2.isList hu⟩
  |emp=>cases ek
 |bl x1=>
  cases rd;cases ru;cases e with
  |non=>
   cases re;cases rv;cases ek;exact⟨.bool_none x1,.bool_none x1⟩
  |bl x2=>
   cases re;cases rv;cases ek;exact⟨.bool_bool x1 x2,.bool_bool x1 x2⟩
  |int x2=>
   cases re;obtain⟨t2,rfl⟩:=rv;cases ek;exact⟨.bool_int x1 x2 t2,.bool_int x1 x2 t2⟩
  |str x2=>
   obtain⟨rfl,_⟩:=re;obtain⟨t2,rfl⟩:=rv;cases ek;exact⟨.bool_str x1 x2 t2,.bool_str x1 x2 t2⟩
  |tup x2=>
   obtain⟨a2,vs2,rfl,Dl,Qm⟩:=re;cases rv;obtain⟨its2,w2,p2,_⟩:=I.tuple Dl;cases ek;exact⟨.bool_tuple x1 p2 hu,.bool_tuple x1 p2 hu⟩
  |lst x2=>
   obtain⟨a2,vs2,rfl,Dl,Qm⟩:=re;cases rv;obtain⟨its2,w2,p2,_⟩:=I.list Dl;cases ek;exact⟨.bool_list x1 p2.isList hu,.bool_list x1 p2.isList hu⟩
  |emp=>cases ek
 |int x1=>
  cases rd;obtain⟨t1,rfl⟩:=ru;cases e with
  |non=>
   cases re;cases rv;cases ek;exact⟨.int_none x1 t1,.int_none x1 t1⟩
  |bl x2=>
   cases re;cases rv;cases ek;exact⟨.int_bool x1 t1 x2,.int_bool x1 t1 x2⟩
  |int x2=>
   cases re;obtain⟨t2,rfl⟩:=rv;cases ek;exact⟨.int_int x1 t1 x2 t2,.int_int x1 t1 x2 t2⟩
  |str x2=>
   obtain⟨rfl,_⟩:=re;obtain⟨t2,rfl⟩:=rv;cases ek;exact⟨.int_str x1 t1 x2 t2,.int_str x1 t1 x2 t2⟩
  |tup x2=>
   obtain⟨a2,vs2,rfl,Dl,Qm⟩:=re;cases rv;obtain⟨its2,w2,p2,_⟩:=I.tuple Dl;cases ek;exact⟨.int_tuple x1 t1 p2 hu,.int_tuple x1 t1 p2 hu⟩
  |lst x2=>
   obtain⟨a2,vs2,rfl,Dl,Qm⟩:=re;cases rv;obtain⟨its2,w2,p2,_⟩:=I.list Dl;cases ek;exact⟨.int_list x1 t1 p2.isList hu,.int_list x1 t1 p2.isList hu⟩
  |emp=>cases ek
 |str x1=>
  obtain⟨rfl,_⟩:=rd;obtain⟨t1,rfl⟩:=ru;cases e with
  |non=>
   cases re;cases rv;cases ek;exact⟨.str_none x1 t1,.str_none x1 t1⟩
  |bl x2=>
   cases re;cases rv;cases ek;exact⟨.str_bool x1 t1 x2,.str_bool x1 t1 x2⟩
  |int x2=>
   cases re;obtain⟨t2,rfl⟩:=rv;cases ek;exact⟨.str_int x1 t1 x2 t2,.str_int x1 t1 x2 t2⟩
  |str x2=>
   obtain⟨rfl,_⟩:=re;obtain⟨t2,rfl⟩:=rv;cases ek;exact⟨.str_str x1 t1 x2 t2,.str_str x1 t1 x2 t2⟩
  |tup x2=>
   obtain⟨a2,vs2,rfl,Dl,Qm⟩:=re;cases rv;obtain⟨its2,w2,p2,_⟩:=I.tuple Dl;cases ek;exact⟨.str_tuple x1 t1 p2 hu,.str_tuple x1 t1 p2 hu⟩
  |lst x2=>
   obtain⟨a2,vs2,rfl,Dl,Qm⟩:=re;cases rv;obtain⟨its2,w2,p2,_⟩:=I.list Dl;cases ek;exact⟨.str_list x1 t1 p2.isList hu,.str_list x1 t1 p2.isList hu⟩
  |emp=>
   simp only[gZ,Rep] at re;obtain⟨p,o,rfl,e⟩:=re;cases rv;cases ek;obtain⟨_,_,vs,r,q⟩:=HW I.hok (.inr ⟨o,e⟩);exact⟨Ib x1 t1 (yw rfl r q) hu,Uh x1 t1 (yw rfl r q) hu⟩
 |tup x1=>
  obtain⟨a1,vs1,rfl,sq1,rr1⟩:=rd;cases ru;obtain⟨ZS,w1,p1,_⟩:=I.tuple sq1;cases e with
  |non=>
   cases re;cases rv;cases ek;exact⟨.tuple_none p1 hu,.tuple_none p1 hu⟩
  |bl x2=>
   cases re;cases rv;cases ek;exact⟨.tuple_bool x2 p1 hu,.tuple_bool x2 p1 hu⟩
  |int x2=>
   cases re;obtain⟨t2,rfl⟩:=rv;cases ek;exact⟨.tuple_int x2 t2 p1 hu,.tuple_int x2 t2 p1 hu⟩
  |str x2=>
   obtain⟨rfl,_⟩:=re;obtain⟨t2,rfl⟩:=rv;cases ek;exact⟨.tuple_str x2 t2 p1 hu,.tuple_str x2 t2 p1 hu⟩
  |tup x2=>
   obtain⟨a2,vs2,rfl,Dl,Qm⟩:=re;cases rv;obtain⟨its2,w2,p2,_⟩:=I.tuple Dl;change lN _ _=some _ at ek;obtain⟨f,hf,rfl⟩:=uX ek;have q1:ZS.toArray.size=x1.length:=by rw[zt,<-w1.length,rr1.length]
   have q2:its2.toArray.size=x2.length:=by rw[zt,<-w2.length,Qm.length]
   have it:=Mx I (n:=99) (A:=X.A) (by simp only[xY] at hm;omega) (by omega) rr1 Qm w1 w2 hf;rw[<-q1,<-q2];exact⟨.tuples p1 p2 hu it,.tuples p1 p2 hu it⟩
  |lst x2=>
   obtain⟨a2,vs2,rfl,Dl,Qm⟩:=re;cases rv;obtain⟨its2,w2,p2,_⟩:=I.list Dl;cases ek;exact⟨.tuple_list p1 p2.isList hu,.tuple_list p1 p2.isList hu⟩
  |emp=>cases ek
 |lst x1=>
  obtain⟨a1,vs1,rfl,sq1,rr1⟩:=rd;cases ru;obtain⟨ZS,w1,p1,_⟩:=I.list sq1;cases e with
  |non=>
   cases re;cases rv;cases ek;exact⟨.list_none p1.isList hu,.list_none p1.isList hu⟩
  |bl x2=>
   cases re;cases rv;cases ek;exact⟨.list_bool x2 p1.isList hu,.list_bool x2 p1.isList hu⟩
  |int x2=>
   cases re;obtain⟨t2,rfl⟩:=rv;cases ek;exact⟨.list_int x2 t2 p1.isList hu,.list_int x2 t2 p1.isList hu⟩
  |str x2=>
   obtain⟨rfl,_⟩:=re;obtain⟨t2,rfl⟩:=rv;cases ek;exact⟨.list_str x2 t2 p1.isList hu,.list_str x2 t2 p1.isList hu⟩
  |tup x2=>
   obtain⟨a2,vs2,rfl,Dl,Qm⟩:=re;cases rv;obtain⟨its2,w2,p2,_⟩:=I.tuple Dl;cases ek;exact⟨.list_tuple p1.isList p2 hu,.list_tuple p1.isList p2 hu⟩
  |lst x2=>
   obtain⟨a2,vs2,rfl,Dl,Qm⟩:=re;cases rv;obtain⟨its2,w2,p2,_⟩:=I.list Dl;change lN _ _=some _ at ek;obtain⟨f,hf,rfl⟩:=uX ek;have q1:ZS.toArray.size=x1.length:=by rw[zt,<-w1.length,rr1.length]
   have q2:its2.toArray.size=x2.length:=by rw[zt,<-w2.length,Qm.length]
   have it:=Mx I (n:=99) (A:=X.A) (by simp only[xY] at hm;omega) (by omega) rr1 Qm w1 w2 hf;by_cases hsz:ZS.toArray.size=its2.toArray.size
   ·have hl:x1.length=x2.length:=by omega
    rw[hl,Nat.min_self,beq_self_eq_true,kz,<-hl,<-q1];exact⟨.lists p1.isList p2.isList hsz hu it,.lists p1.isList p2.isList hsz hu it⟩
   ·have hl:(x1.length==x2.length)=false:=by rw[beq_eq_false_iff_ne];omega
    rw[hl,Bool.and_false];exact⟨.lists_lengths p1.isList p2.isList (by simpa using hsz) hu,.lists_lengths p1.isList p2.isList (by simpa using hsz) hu⟩
  |emp=>cases ek
 |emp=>
  cases e<;>first|(cases ek;done)|skip;simp only[gZ,Rep] at rd re;obtain⟨a,o,rfl,e1⟩:=rd;obtain⟨b,o',rfl,e2⟩:=re;cases ru;cases rv;cases ek;obtain⟨_,m1,vs,r,q⟩:=HW I.hok (.inr ⟨o,e1⟩);obtain⟨_,m2,vs',r',q'⟩:=HW I.hok (.inr ⟨o',e2⟩);exact⟨abt m1 m2 (yw rfl r q) (yw rfl r' q') hu,ae3 m1 m2 (yw rfl r q) (yw rfl r' q') hu⟩
def eqB (a b:Bx):Option Bx:=if nW a=true\/nW b=true then none else if min (xY (toD a)) (xY (toD b))<=100 then(Ls (toD a) (toD b)).bind λk=>some (.z (.bl k)) else none
def Qn (a b:Bx):Option Bx:=if nW a=true\/nW b=true then none else if min (xY (toD a)) (xY (toD b))<=100 then(Ls (toD a) (toD b)).bind λk=>some (.z (.bl (!k))) else none
theorem of_eq (hu:X.A.units+100 < cLine):yp X (compareOp .Eq) eqB:=by
 intro pins s σ H x y v u Q I rx ry h;obtain⟨a,b,c,ra,rb,e,q⟩:=h;unfold eqB at e;split at e
 ·cases e
 rename_i hz;have ha:nW a=false:=by cases h:nW a with|false=>rfl|true=>exact absurd (.inl h) hz
 have hb:nW b=false:=by cases h:nW b with|false=>rfl|true=>exact absurd (.inr h) hz
 split at e
 ·rename_i hm;obtain⟨k,ek,e⟩:=bind_some e;cases e;exact(RZ I hm hu (ra.toD ha) (rb.toD hb) rx ry ek).1 X.prog X.w X.xe _ ⟨.bl k,H,I,rfl,q _ H (Same.refl H) trivial (by unfold bh Rep;rfl)⟩
 ·cases e
theorem uZ (hu:X.A.units+100 < cLine):yp X (compareOp .NotEq) Qn:=by
 intro pins s σ H x y v u Q I rx ry h;obtain⟨a,b,c,ra,rb,e,q⟩:=h;unfold Qn at e;split at e
 ·cases e
 rename_i hz;have ha:nW a=false:=by cases h:nW a with|false=>rfl|true=>exact absurd (.inl h) hz
 have hb:nW b=false:=by cases h:nW b with|false=>rfl|true=>exact absurd (.inr h) hz
 split at e
 ·rename_i hm;obtain⟨k,ek,e⟩:=bind_some e;cases e;exact(RZ I hm hu (ra.toD ha) (rb.toD hb) rx ry ek).2 X.prog X.w X.xe _ ⟨.bl (!k),H,I,rfl,q _ H (Same.refl H) trivial (by unfold bh Rep;rfl)⟩
 ·cases e
theorem zH {i:Int}:bh K H (.z (.int i)) (.int i):=by unfold bh Rep;rfl
theorem Dm {b:Bool}:bh K H (.z (.bl b)) (.bl b):=by unfold bh Rep;rfl
theorem ZV (h:x.length<=sizeLine):bh K H (.z (.str x)) (.str x):=by unfold bh Rep;exact⟨rfl,h⟩
theorem Ie {i:Int} {v:V} (h:bh K H (.z (.int i)) v):v=.int i:=by simpa only[bh,Rep] using h
theorem Mz {v:V} (h:bh K H (.z (.str x)) v):v=.str x/\x.length<=sizeLine:=by simpa only[bh,Rep] using h
theorem inT {v:V} (h:bh K H (.z (.tup ds)) v):∃ a vs,v=.ref a/\xX K H a vs/\aM K H ds vs:=by simpa only[bh,Rep] using h
def i2 (g:Int->Int->Option Dt):Bx->Bx->Option Bx
 |.z (.int i),.z (.int j)=>(g i j).bind λd=>some (.z d)
 |_,_=>none
theorem Dp {f:Value->Value->Sem Value} {r:R2} {g:Int->Int->Option Dt} (ho:uL X f r) (h:∀ i j d H Q,g i j=some d->(∀ v,Rep X.K H d v->Q v H)->r (.int i) (.int j) H Q):yp X f (i2 g):=uL.imp ho λx y H Q q=>by
 obtain⟨a,b,c,ra,rb,e,q⟩:=q;unfold i2 at e;split at e
 ·rename_i i j;obtain⟨d,ed,e⟩:=bind_some e;cases e;rw[Ie ra,Ie rb];exact h i j d H Q ed λv rv=>q v H (Same.refl H) trivial rv
 ·cases e
theorem okI {i:Int}:Rep K H (.int i) (.int i):=by unfold Rep;rfl
theorem okT {b:Bool}:Rep K H (.bl b) (.bl b):=by unfold Rep;rfl
abbrev subB:=i2 λi j=>some (.int (i - j))
abbrev leB:=i2 λi j=>some (.bl (decide (i<=j)))
abbrev gtB:=i2 λi j=>some (.bl (decide (j < i)))
abbrev geB:=i2 λi j=>some (.bl (decide (j<=i)))
abbrev Ig:=i2 λi j=>if 0 < j/\j < 1073741824 then some (.int (i / j)) else none
abbrev iB:=i2 λi j=>if 0 < j then some (.int (i % j)) else none
abbrev ac2:=i2 λi j=>if 0<=j/\j<=1000/\i.natAbs < 2 ^ 64 then some (.int (i ^ j.toNat)) else none
theorem sI:yp X (binaryOp .Sub) subB:=Dp acw λi j d H Q e q=>by cases e;exact⟨i,j,rfl,rfl,q _ okI⟩
theorem of_le:yp X (compareOp .LtE) leB:=Dp aeE λi j d H Q e q=>by cases e;exact⟨i,j,rfl,rfl,q _ okT⟩
theorem R0:yp X (compareOp .Gt) gtB:=Dp aeF λi j d H Q e q=>by cases e;exact⟨i,j,rfl,rfl,q _ okT⟩
theorem abu:yp X (compareOp .GtE) geB:=Dp aeG λi j d H Q e q=>by cases e;exact⟨i,j,rfl,rfl,q _ okT⟩
theorem Cm:yp X (binaryOp .FloorDiv) Ig:=Dp Y9 λi j d H Q e q=>by
 split at e
 ·rename_i h;cases e;exact⟨i,j,rfl,rfl,h,q _ okI⟩
 ·cases e
theorem cU:yp X (binaryOp .Mod) iB:=Dp acz λi j d H Q e q=>by
 split at e
 ·rename_i h;cases e;exact⟨i,j,rfl,rfl,h,q _ okI⟩
 ·cases e
theorem ac3:yp X (binaryOp .Pow) ac2:=Dp acA λi j d H Q e q=>by
 split at e
 ·rename_i h;cases e;exact⟨i,j,rfl,rfl,⟨h.1,by omega,h.2.2⟩,q _ okI⟩
 ·cases e
def Qo:Bx->Option Bx
 |.z (.int i)=>some (.z (.int (-i)))
 |_=>none
theorem Qp:UnF X (unaryOp .USub) Qo:=UnR.imp acB λx H Q q=>by
 obtain⟨a,c,ra,e,q⟩:=q;unfold Qo at e;split at e
 ·rename_i i;cases e;exact⟨i,Ie ra,q _ H (Same.refl H) trivial zH⟩
 ·cases e
def Uj:Nat:=1000000
theorem ZW:Uj<=sizeLine:=by decide
theorem ac4 {b:Addr} {us:List V} {Q:VK} (I:L2.Inv X pins σ H s) (hl:rY X.K H l vs) (hb:rY X.K H b us) (hz:vs.length+us.length<=sizeLine) (q:∀ p,H p=none->Q (.ref p) (upd H p (.lst (vs++us)))) :
  wpAny (model X.prog X.w) X.A (binaryOp .Add (.ref l) (.ref b)) (EP X pins σ Q) X.xe s:=by
 obtain⟨its,r1,⟨⟨cls,dd,data,sl⟩,n1,e1,c1,d1,dd1⟩,z1⟩:=I.list hl;obtain⟨its2,r2,⟨⟨cls2,dd2,data2,sl2⟩,n2,e2,c2,d2,Ws⟩,z2⟩:=I.list hb;simp only at c1 d1 dd1 c2 d2 Ws;subst c1 d1 dd1 c2 d2 Ws;have l1:=r1.length;have l2:=r2.length;have e:its.toArray++its2.toArray=(its++its2).toArray:=by simp
 refine concat_meets ⟨_,e1,rfl⟩ ⟨_,e2,rfl⟩ noFill_list_add seq_list_add PySem.F.slot_list_add PySem.F.entry_list_add (PySem.F.args_list_add_2 _ _) (list_addW l b its.toArray its2.toArray n1 n2 none none sl sl2 (by rw[zt,zt];omega)) ⟨e1,e2,?_⟩;rw[e];exact⟨.ref s.heap.objs.size,_,I.laid (t':=s.toks) (o:=.lst (vs++us)) (λb ob q=>ze _ q) (zi _) ⟨by rw[zl];exact hz,_,0,r1.append r2,zv _ rfl⟩,rfl,q _ (I.hok.fresh (zi _))⟩
theorem ac5 {b:Addr} {us:List V} {Q:VK} (I:L2.Inv X pins σ H s) (hl:xX X.K H l vs) (hb:xX X.K H b us) (hz:vs.length+us.length<=sizeLine) (q0:vs=[]->Q (.ref b) H) (q1:us=[]->Q (.ref l) H) (q2:∀ p,H p=none->Q (.ref p) (upd H p (.tup (vs++us)))) :
  wpAny (model X.prog X.w) X.A (binaryOp .Add (.ref l) (.ref b)) (EP X pins σ Q) X.xe s:=by
 by_cases hv:vs=[]
 ·obtain⟨its,r1,⟨⟨cls,dd,data,sl⟩,e1,c1,n1,dd1⟩,z1⟩:=I.tuple hl;obtain⟨its2,r2,⟨⟨cls2,dd2,data2,sl2⟩,e2,c2,n2,Ws⟩,z2⟩:=I.tuple hb;simp only at c1 dd1 c2 Ws;subst c1 dd1 c2 Ws;have:its=[]:=r1.Cd.mpr hv;exact concat_meets ⟨_,e1,rfl⟩ ⟨_,e2,rfl⟩ noFill_tuple_add seq_tuple_add PySem.F.slot_tuple_add KG (Kk _ _)
   (tuple_addW0 l b its.toArray its2.toArray n1 n2 dd dd2 sl sl2 (by simp[this])) ⟨e1,e2,⟨.ref b,H,I,rfl,q0 hv⟩⟩
 ·exact Zk pins s σ H (.ref l) (.ref b) (.ref l) (.ref b) Q I rfl rfl ⟨l,b,vs,us,rfl,rfl,hl,hb,hv,hz,q1,λ_=>q2⟩
def dD:Bx->Bx->Option Bx
 |.z (.int i),.z (.int j)=>some (.z (.int (i+j)))
 |.z (.str i),.z (.str j)=>if i.length+j.length<=Uj then some (.z (.str (i++j))) else none
 |.z (.tup xs),.z (.tup ys)=>if xs.length+ys.length<=Uj then some (.z (.tup (xs++ys))) else none
 |a,b=>(uJ a).bind λxs=>(uJ b).bind λys=>if xs.length+ys.length<=Uj then some (.o (xs++ys)) else none
theorem str_len (i j:Str):(i++j).length=i.length+j.length:=by
 show(i.cps++j.cps).size=_;rw[Kb];rfl
theorem bO:yp X (binaryOp .Add) dD:=by
 intro pins s σ H x y v u Q I rx ry h;obtain⟨a,b,c,ra,rb,e,q⟩:=h;have hbig:=ZW;unfold dD at e;split at e
 ·rename_i i j;cases e;exact acv pins s σ H x y v u Q I rx ry ⟨i,j,Ie ra,Ie rb,q _ H (Same.refl H) trivial zH⟩
 ·rename_i i j;split at e
  ·rename_i hl;cases e;exact Qd pins s σ H x y v u Q I rx ry ⟨i,j,(Mz ra).1,(Mz rb).1,by omega,q _ H (Same.refl H) trivial (ZV (by rw[str_len];omega))⟩
  ·cases e
 ·rename_i xs ys;split at e
  ·rename_i hl;cases e;obtain⟨l,vs,rfl,sl,rl⟩:=inT ra;obtain⟨m,us,rfl,sm,rm⟩:=inT rb;cases rx;cases ry;have h1:=rl.length;have h2:=rm.length;refine ac5 I sl sm (by omega) (λz=>q _ H (Same.refl H) trivial ?_) (λz=>q _ H (Same.refl H) trivial ?_) λp hp=>q _ _ (cF hp) trivial ?_
   ·unfold bh Rep;refine⟨m,us,rfl,sm,?_⟩;have:xs=[]:=by subst z;exact List.eq_nil_of_length_eq_zero (by simpa using h1.symm)
    rw[this,List.nil_append];exact rm
   ·unfold bh Rep;refine⟨l,vs,rfl,sl,?_⟩;have:ys=[]:=by subst z;exact List.eq_nil_of_length_eq_zero (by simpa using h2.symm)
    rw[this,QA];exact rl
   ·unfold bh Rep;exact⟨p,_,rfl,.inl (.inl cL),(rl.append rm).kp (.of (cF hp))⟩
  ·cases e
 ·obtain⟨xs,ea,e⟩:=bind_some e;obtain⟨ys,eb,e⟩:=bind_some e;split at e
  ·rename_i hl;cases e;obtain⟨l,vs,rfl,sl,rl⟩:=ra.HX ea;obtain⟨m,us,rfl,sm,rm⟩:=rb.HX eb;cases rx;cases ry;have h1:=rl.length;have h2:=rm.length;refine ac4 I sl sm (by omega) λp hp=>q _ _ (cF hp) (λa ea=>by cases ea;exact hp) ⟨p,_,rfl,cL,(rl.append rm).kp (.of (cF hp))⟩
  ·cases e
def wF:Bx->Bx->Option Bx
 |.z (.int i),.z (.int j)=>if(-(2 ^ 64) < i/\i < 2 ^ 64)\/(-(2 ^ 64) < j/\j < 2 ^ 64) then some (.z (.int (i * j))) else none
 |.z (.str x),.z (.int n)=>if n<=1000 ∧ -1000<=n/\x.length<=1000 then some (.z (.str (Txt.mul x n))) else none
 |_,_=>none
theorem wK (x:Array Nat):∀ (n:Nat) (acc:Array Nat),((List.replicate n x).foldl (·++·) acc).size=acc.size+n * x.size
 |0,acc=>by simp
 |n+1,acc=>by
  rw[kK,JA,wK x n,Kb,Nat.succ_mul];omega
theorem JN (x:Str) (n:Int):(Txt.mul x n).length<=n.toNat * x.length+x.length:=by
 unfold Txt.mul;split
 ·exact QP _
 ·split
  ·exact Nat.le_add_left _ _
  ·show((List.replicate n.toNat x.cps).foldl (·++·) #[]).size<=_;rw[wK];show(#[]:Array Nat).size+n.toNat * x.cps.size<=n.toNat * x.cps.size+x.cps.size;simp
theorem qM:yp X (binaryOp .Mult) wF:=by
 intro pins s σ H x y v u Q I rx ry h;obtain⟨a,b,c,ra,rb,e,q⟩:=h;unfold wF at e;split at e
 ·rename_i i j;split at e
  ·rename_i hl;cases e;exact acy pins s σ H x y v u Q I rx ry ⟨i,j,Ie ra,Ie rb,hl,q _ H (Same.refl H) trivial zH⟩
  ·cases e
 ·rename_i x' n;split at e
  ·rename_i hl;cases e;obtain⟨rfl,hx⟩:=Mz ra;have hy:=Ie rb;subst hy;obtain⟨t,rfl⟩:=rx;obtain⟨t',rfl⟩:=ry;have hs:sizeLine=16777216:=sizeLine_eq;have hm:n.toNat * x'.length<=1000 * 1000:=Nat.mul_le_mul (by omega) hl.2.2;refine SB.mul ⟨?_,λh1 h2=>?_,λh1 h2=>?_⟩ λt' k=>⟨.str _,H,I.tok _,⟨_,rfl⟩,q _ H (Same.refl H) trivial (ZV (zD (JN x' n) (by omega)))⟩
   ·have e1:decide (n < -(2 ^ 63:Int))=false:=ZT (by omega);have e2:decide (n>=2 ^ 63)=false:=ZT (by omega);rw[e1,e2];rfl
   ·have hn:0 < n:=by omega
    have:(1000:Int)<=(2 ^ 63 - 1) / n:=(Int.le_ediv_iff_mul_le hn).mpr (by omega);omega
   ·show decide (x'.length * n.toNat > sizeLine)=false;rw[Nat.mul_comm];exact ZT (by omega)
  ·cases e
 ·cases e
def yx (i j:Str):Bool:=!(Builtin.Str.occurrences j i 0 j.length 1).isEmpty
def yC:Dt->Bool
 |.non=>true
 |.bl _=>true
 |.int _=>true
 |.str _=>true
 |_=>false
def memD (x:Dt) (ys:List Dt):Option Bool:=if yC x=true/\ys.all yC=true then some (ys.any λy=>match Ls y x with|some true=>true|_=>false) else none
def wG:Bx->Option (List Dt)
 |.z (.lst ds)=>some ds
 |.z (.tup ds)=>some ds
 |.l ds=>some ds
 |.o ds=>some ds
 |_=>none
def inB:Bx->Bx->Option Bool
 |.z (.str i),.z (.str j)=>some (yx i j)
 |.z d,b=>(wG b).bind λys=>memD d ys
 |_,_=>none
def inF (a b:Bx):Option Bx:=(inB a b).bind λk=>some (.z (.bl k))
def Qq (a b:Bx):Option Bx:=(inB a b).bind λk=>some (.z (.bl (!k)))
theorem MF {v:V} (r:Rep K H d v) (f:yC d=true):uD v=true:=by
 cases d<;>first|(cases f;done)|skip
 all_goals simp only[Rep] at r
 ·subst r;rfl
 ·subst r;rfl
 ·subst r;rfl
 ·obtain⟨rfl,_⟩:=r;rfl
theorem Ih {K:FG_} {H:Hp}:∀ {ds:List Dt} {vs:List V},aM K H ds vs->ds.all yC=true->vs.all uD=true
 |[],_,h,_=>by simp only[aM] at h;subst h;rfl
 |d::ds,_,h,f=>by
  simp only[aM] at h;obtain⟨v,r,rfl,h1,h2⟩:=h;rw[jn,ZE] at f;rw[jn,MF h1 f.1,Ih h2 f.2];rfl
theorem JQ (b:Bool):(match some b with|some true=>true|_=>false)=b:=by cases b<;>rfl
theorem ZX {e:Dt} {x y:V} (rd:Rep K H d x) (re:Rep K H e y) (fd:yC d=true) (fe:yC e=true):Zr x y=(match Ls d e with|some true=>true|_=>false):=by
 cases d<;>first|(cases fd;done)|skip
 all_goals (cases e<;>first|(cases fe;done)|skip)
 all_goals simp only[Rep] at rd re
 all_goals first
  |(subst rd;subst re;exact(JQ _).symm)
  |(obtain⟨rfl,_⟩:=rd;subst re;exact(JQ _).symm)
  |(subst rd;obtain⟨rfl,_⟩:=re;exact(JQ _).symm)
  |(obtain⟨rfl,_⟩:=rd;obtain⟨rfl,_⟩:=re;exact(JQ _).symm)
theorem R3 {K:FG_} {H:Hp} {d:Dt} {x:V} (rd:Rep K H d x) (fd:yC d=true):∀ {ds:List Dt} {vs:List V},aM K H ds vs->ds.all yC=true->inV x vs=ds.any λy=>match Ls y d with|some true=>true|_=>false
 |[],_,h,_=>by simp only[aM] at h;subst h;rfl
 |e::ds,_,h,f=>by
  simp only[aM] at h;obtain⟨v,r,rfl,h1,h2⟩:=h;rw[jn,ZE] at f;have:=R3 rd fd h2 f.2;unfold inV at this ⊢;rw[List.any_cons,List.any_cons,ZX h1 rd f.1 fd,this]
theorem u0 {v:V} (h:bh K H b v) (e:wG b=some ds):∃ a vs,v=.ref a/\(rY K H a vs\/xX K H a vs)/\aM K H ds vs:=by
 cases b with
 |z d=>
  cases d<;>first|(cases e;done)|skip
  ·cases e;obtain⟨a,vs,e,q,r⟩:=inT h;exact⟨a,vs,e,.inr q,r⟩
  ·cases e;obtain⟨a,vs,e,q,r⟩:=h.HX rfl;exact⟨a,vs,e,.inl q,r⟩
 |l ds'=>
  cases e;obtain⟨a,vs,e,q,r⟩:=h.HX rfl;exact⟨a,vs,e,.inl q,r⟩
 |o ds'=>
  cases e;obtain⟨a,vs,e,q,r⟩:=h.HX rfl;exact⟨a,vs,e,.inl q,r⟩
 |n _=>cases e
 |m _ _=>cases e
theorem Ii {a:Bx} {x y:V} {k:Bool} (ra:bh X.K H a x) (rb:bh X.K H b y) (e:inB a b=some k) :
  (∃ i j,x=.str i/\y=.str j/\k=yx i j)\/(∃ p xs,y=.ref p/\(rY X.K H p xs\/xX X.K H p xs)/\uD x=true/\xs.all uD=true/\k=inV x xs):=by
 unfold inB at e;split at e
 ·rename_i i j;cases e;exact .inl ⟨i,j,(Mz ra).1,(Mz rb).1,rfl⟩
 ·rename_i d _;obtain⟨ys,ey,e⟩:=bind_some e;unfold memD at e;split at e
  ·rename_i hf;cases e;obtain⟨p,vs,rfl,sq,rs⟩:=u0 rb ey;have ra':Rep X.K H d x:=ra;exact .inr ⟨p,vs,rfl,sq,MF ra' hf.1,Ih rs hf.2,(R3 ra' hf.1 rs hf.2).symm⟩
  ·cases e
 ·cases e
theorem Ij:yp X (compareOp .In) inF:=by
 intro pins s σ H x y v u Q I rx ry h;obtain⟨a,b,c,ra,rb,e,q⟩:=h;obtain⟨k,ek,e⟩:=bind_some e;cases e;rcases Ii ra rb ek with⟨i,j,rfl,rfl,rfl⟩|⟨p,xs,rfl,sq,f1,f2,rfl⟩
 ·exact T3 pins s σ H _ _ v u Q I rx ry ⟨i,j,rfl,rfl,q _ H (Same.refl H) trivial Dm⟩
 ·exact T6 pins s σ H _ _ v u Q I rx ry ⟨p,xs,rfl,sq,f1,f2,q _ H (Same.refl H) trivial Dm⟩
theorem yD:yp X (compareOp .NotIn) Qq:=by
 intro pins s σ H x y v u Q I rx ry h;obtain⟨a,b,c,ra,rb,e,q⟩:=h;obtain⟨k,ek,e⟩:=bind_some e;cases e;rcases Ii ra rb ek with⟨i,j,rfl,rfl,rfl⟩|⟨p,xs,rfl,sq,f1,f2,rfl⟩
 ·exact Jx pins s σ H _ _ v u Q I rx ry ⟨i,j,rfl,rfl,q _ H (Same.refl H) trivial Dm⟩
 ·exact Jw pins s σ H _ _ v u Q I rx ry ⟨p,xs,rfl,sq,f1,f2,q _ H (Same.refl H) trivial Dm⟩
def Dq:Bx->Bool
 |.z .non=>true
 |_=>false
theorem Ik {v:V} (h:bh K H b v):decide (v=.non)=Dq b:=by
 cases b with
 |z d=>
  cases d<;>simp only[bh,Rep] at h
  ·subst h;rfl
  ·subst h;rfl
  ·subst h;rfl
  ·obtain⟨rfl,_⟩:=h;rfl
  ·obtain⟨_,_,rfl,_⟩:=h;rfl
  ·obtain⟨_,_,rfl,_⟩:=h;rfl
  ·obtain⟨_,_,rfl,_⟩:=h;rfl
 |l ds=>obtain⟨_,_,rfl,_⟩:=h;rfl
 |o ds=>obtain⟨_,_,rfl,_⟩:=h;rfl
 |n ds=>obtain⟨_,_,rfl,_⟩:=h;rfl
 |m ds _=>obtain⟨_,_,rfl,_⟩:=h;rfl
def isB (a:Bx):Bx->Option Bx
 |.z .non=>some (.z (.bl (Dq a)))
 |_=>none
def Il (a:Bx):Bx->Option Bx
 |.z .non=>some (.z (.bl (!Dq a)))
 |_=>none
theorem of_is:yp X (compareOp .Is) isB:=uL.imp acC λx y H Q q=>by
 obtain⟨a,b,c,ra,rb,e,q⟩:=q;unfold isB at e;split at e
 ·cases e;simp only[bh,Rep] at rb;exact⟨rb,by rw[Ik ra];exact q _ H (Same.refl H) trivial Dm⟩
 ·cases e
theorem R5:yp X (compareOp .IsNot) Il:=uL.imp Za λx y H Q q=>by
 obtain⟨a,b,c,ra,rb,e,q⟩:=q;unfold Il at e;split at e
 ·cases e;simp only[bh,Rep] at rb;exact⟨rb,by rw[Ik ra];exact q _ H (Same.refl H) trivial Dm⟩
 ·cases e
def eX:Bx->Bx->Option Bx
 |.z (.str x),.z (.int i)=>(Bj x.cps.toList i).bind λc=>some (.z (.str ⟨#[c]⟩))
 |b,.z (.int i)=>(wG b).bind λds=>(Bj ds i).bind λd=>some (.z d)
 |_,_=>none
theorem Z0 {i:Int} (r:aM K H ds vs) (e:Bj ds i=some d):∃ v,Bj vs i=some v/\Rep K H d v:=by
 unfold Bj at e ⊢;rw[r.length];obtain⟨j,ej,e⟩:=bind_some e;rw[ej];exact r.get e
theorem aY {a b:Expr} (ha:QV X a fa) (hb:QV X b fb) (hs:RK b:=by intro _ _;with_unfolding_all rfl):QV X (.Subscript a b pos) (b2 eX fa fb):=⟨have ha:=ha.run;have hb:=hb.run;Bl (aeM acM ha hb hs) λσ H Q h=>by
 obtain⟨H0,ρ,c,E,e,q⟩:=h;obtain⟨a,ea,e⟩:=bind_some e;obtain⟨b,eb,e⟩:=bind_some e;refine⟨H0,ρ,a,E,ea,λv H1 s1 n1 r1=>⟨H0,ρ,b,E.grow s1,eb,λu H2 s2 n2 r2=>?_⟩⟩;have r1':=r1.same s2;unfold eX at e;split at e
 ·rename_i x i;obtain⟨c',ec,e⟩:=bind_some e;cases e;exact .inr (.inr ⟨_,_,c',(Mz r1').1,Ie r2,(Mz r1').2,ec,q _ _ (s1.trans s2) trivial (ZV (by show(1:Nat)<=sizeLine;decide))⟩)
 ·obtain⟨ds,ed,e⟩:=bind_some e;obtain⟨d,ei,e⟩:=bind_some e;cases e;obtain⟨p,vs,rfl,sq,rs⟩:=u0 r1' ed;obtain⟨w,ew,rw'⟩:=Z0 rs ei;have hi:=Ie r2;rcases sq with sq|sq
  ·exact .inl ⟨p,vs,_,w,rfl,hi,sq,ew,q _ _ (s1.trans s2) trivial rw'⟩
  ·exact .inr (.inl ⟨p,vs,_,w,rfl,hi,sq,ew,q _ _ (s1.trans s2) trivial rw'⟩)
 ·cases e⟩
theorem Z1:bootBuiltins "bool" = some (.type "bool"):=by decide +kernel
theorem Qs:bootBuiltins "int" = some (.type "int"):=by decide +kernel
theorem JR:bootBuiltins "str" = some (.type "str"):=by decide +kernel
theorem fW:bootBuiltins "tuple" = some (.type "tuple"):=by decide +kernel
theorem JT:bootBuiltins "list" = some (.type "list"):=by decide +kernel
theorem mG:bootBuiltins "isinstance" = some (.builtin "isinstance"):=by decide +kernel
theorem lO:bootBuiltins "len" = some (.builtin "len"):=by decide +kernel
theorem ac6:bootBuiltins "abs" = some (.builtin "abs"):=by decide +kernel
theorem sJ:bootBuiltins "all" = some (.builtin "all"):=by decide +kernel
theorem Wt:bootBuiltins "min" = some (.builtin "min"):=by decide +kernel
theorem zJ:bootBuiltins "max" = some (.builtin "max"):=by decide +kernel
theorem Uk:bootBuiltins "sorted" = some (.builtin "sorted"):=by decide +kernel
def is_bool:Dt->Bool
 |.bl _=>true
 |_=>false
theorem Wu (I:L2.Inv X pins σ H s) {x:V} {Q:VK} (rd:gZ X.K H d x) (rv:RelV x v) (q:Q (.bl (is_bool d)) H):wpAny (model X.prog X.w) X.A (call (.builtin "isinstance") [v,.type "bool"]) (EP X pins σ Q) X.xe s:=by
 cases d with
 |non=>simp only[gZ,Rep] at rd;subst rd;cases rv;exact IsiPair.NoneType_bool ⟨.bl _,H,I.tok _,rfl,q⟩
 |bl b=>simp only[gZ,Rep] at rd;subst rd;cases rv;exact IsiPair.bool_bool ⟨.bl _,H,I,rfl,q⟩
 |int b=>simp only[gZ,Rep] at rd;subst rd;obtain⟨t,rfl⟩:=rv;exact IsiPair.int_bool ⟨.bl _,H,I.tok _,rfl,q⟩
 |str b=>simp only[gZ,Rep] at rd;obtain⟨rfl,_⟩:=rd;obtain⟨t,rfl⟩:=rv;exact IsiPair.str_bool ⟨.bl _,H,I.tok _,rfl,q⟩
 |tup ds=>simp only[gZ,Rep] at rd;obtain⟨a,vs,rfl,sq,_⟩:=rd;cases rv;obtain⟨_,_,p,_⟩:=I.tuple sq;exact IsiPair.isTuple_bool p (λ_ _ e=>e) ⟨.bl _,H,I.tok _,rfl,q⟩
 |lst ds=>simp only[gZ] at rd;obtain⟨a,vs,rfl,sq,_⟩:=rd;cases rv;obtain⟨_,_,p,_⟩:=I.list sq;exact IsiPair.isList_bool p.isList (λ_ _ e=>e) ⟨.bl _,H,I.tok _,rfl,q⟩
 |emp=>simp only[gZ,Rep] at rd;obtain⟨a,o,rfl,sq⟩:=rd;cases rv;obtain⟨ob,e,c⟩:=pX I sq;exact IsiPair.dict_bool e c ⟨.bl _,H,I.tok _,rfl,q⟩
theorem MJ {p:Pos} (he:QV X e f) (hg:Gl X "isinstance") (hm:X.mg "isinstance" = none) (hg2:Gl X "bool") (hm2:X.mg "bool" = none) (hs:starEach [e,.Name "bool" p2] X.env=[(false,eval e X.env),(false,eval (.Name "bool" p2) X.env)]:=by rfl):QV X (.Call (.Name "isinstance" p) [e,.Name "bool" p2] [] pos) (b1 (λb=>if nW b=true then none else some (.z (.bl (is_bool (toD b))))) f):=⟨by
 have he:=he.run;have hc:fj X (.builtin "isinstance") (λxs H Q=>∃ b x,xs=[x,.ty "bool"]/\bh X.K H b x/\nW b=false/\Q (.bl (is_bool (toD b))) H):=by
  intro pins s σ H xs us Q I r h;obtain⟨b,x,rfl,rb,hmb,q⟩:=h;obtain⟨u,w',rfl,r1,r2⟩:=vals2 r;cases r2;exact Wu I (rb.toD hmb) r1 q
 have ha:PA X [e,.Name "bool" p2] (yc (tF X.K f) (yc (tC (.ty "bool")) VR)):=jG he (jG (BZ hg2 hm2 (v:=.ty "bool") (u:=.type "bool") Z1 rfl) uP) (by rw[hs]<;>rfl);refine Bl (rA hc hg hm mG ha (by decide) (by decide) (by rw[hs]<;>rfl) rfl) λσ H Q h=>?_;obtain⟨H0,ρ,c,E,e,q⟩:=h;obtain⟨b,eb,e⟩:=bind_some e;split at e
 ·cases e
 rename_i hz;cases e;exact⟨H0,ρ,b,E,eb,λv H1 s1 n1 r1=>⟨b,v,rfl,r1,by simpa using hz,q _ _ s1 trivial Dm⟩⟩⟩
def zK:Dt->Bool
 |.bl _=>true
 |.int _=>true
 |_=>false
theorem Z2 (I:L2.Inv X pins σ H s) {x:V} {Q:VK} (rd:gZ X.K H d x) (rv:RelV x v) (q:Q (.bl (zK d)) H):wpAny (model X.prog X.w) X.A (call (.builtin "isinstance") [v,.type "int"]) (EP X pins σ Q) X.xe s:=by
 cases d with
 |non=>simp only[gZ,Rep] at rd;subst rd;cases rv;exact IsiPair.NoneType_int ⟨.bl _,H,I.tok _,rfl,q⟩
 |bl b=>simp only[gZ,Rep] at rd;subst rd;cases rv;exact IsiPair.bool_int ⟨.bl _,H,I,rfl,q⟩
 |int b=>simp only[gZ,Rep] at rd;subst rd;obtain⟨t,rfl⟩:=rv;exact IsiPair.int_int ⟨.bl _,H,I,rfl,q⟩
 |str b=>simp only[gZ,Rep] at rd;obtain⟨rfl,_⟩:=rd;obtain⟨t,rfl⟩:=rv;exact IsiPair.str_int ⟨.bl _,H,I.tok _,rfl,q⟩
 |tup ds=>simp only[gZ,Rep] at rd;obtain⟨a,vs,rfl,sq,_⟩:=rd;cases rv;obtain⟨_,_,p,_⟩:=I.tuple sq;exact IsiPair.isTuple_int p (λ_ _ e=>e) ⟨.bl _,H,I.tok _,rfl,q⟩
 |lst ds=>simp only[gZ] at rd;obtain⟨a,vs,rfl,sq,_⟩:=rd;cases rv;obtain⟨_,_,p,_⟩:=I.list sq;exact IsiPair.isList_int p.isList (λ_ _ e=>e) ⟨.bl _,H,I.tok _,rfl,q⟩
 |emp=>simp only[gZ,Rep] at rd;obtain⟨a,o,rfl,sq⟩:=rd;cases rv;obtain⟨ob,e,c⟩:=pX I sq;exact IsiPair.dict_int e c ⟨.bl _,H,I.tok _,rfl,q⟩
theorem Qt {p:Pos} (he:QV X e f) (hg:Gl X "isinstance") (hm:X.mg "isinstance" = none) (hg2:Gl X "int") (hm2:X.mg "int" = none) (hs:starEach [e,.Name "int" p2] X.env=[(false,eval e X.env),(false,eval (.Name "int" p2) X.env)]:=by rfl):QV X (.Call (.Name "isinstance" p) [e,.Name "int" p2] [] pos) (b1 (λb=>if nW b=true then none else some (.z (.bl (zK (toD b))))) f):=⟨by
 have he:=he.run;have hc:fj X (.builtin "isinstance") (λxs H Q=>∃ b x,xs=[x,.ty "int"]/\bh X.K H b x/\nW b=false/\Q (.bl (zK (toD b))) H):=by
  intro pins s σ H xs us Q I r h;obtain⟨b,x,rfl,rb,hmb,q⟩:=h;obtain⟨u,w',rfl,r1,r2⟩:=vals2 r;cases r2;exact Z2 I (rb.toD hmb) r1 q
 have ha:PA X [e,.Name "int" p2] (yc (tF X.K f) (yc (tC (.ty "int")) VR)):=jG he (jG (BZ hg2 hm2 (v:=.ty "int") (u:=.type "int") Qs rfl) uP) (by rw[hs]<;>rfl);refine Bl (rA hc hg hm mG ha (by decide) (by decide) (by rw[hs]<;>rfl) rfl) λσ H Q h=>?_;obtain⟨H0,ρ,c,E,e,q⟩:=h;obtain⟨b,eb,e⟩:=bind_some e;split at e
 ·cases e
 rename_i hz;cases e;exact⟨H0,ρ,b,E,eb,λv H1 s1 n1 r1=>⟨b,v,rfl,r1,by simpa using hz,q _ _ s1 trivial Dm⟩⟩⟩
def eZ:Dt->Bool
 |.str _=>true
 |_=>false
theorem Z4 (I:L2.Inv X pins σ H s) {x:V} {Q:VK} (rd:gZ X.K H d x) (rv:RelV x v) (q:Q (.bl (eZ d)) H):wpAny (model X.prog X.w) X.A (call (.builtin "isinstance") [v,.type "str"]) (EP X pins σ Q) X.xe s:=by
 cases d with
 |non=>simp only[gZ,Rep] at rd;subst rd;cases rv;exact IsiPair.NoneType_str ⟨.bl _,H,I.tok _,rfl,q⟩
 |bl b=>simp only[gZ,Rep] at rd;subst rd;cases rv;exact IsiPair.bool_str ⟨.bl _,H,I.tok _,rfl,q⟩
 |int b=>simp only[gZ,Rep] at rd;subst rd;obtain⟨t,rfl⟩:=rv;exact IsiPair.int_str ⟨.bl _,H,I.tok _,rfl,q⟩
 |str b=>simp only[gZ,Rep] at rd;obtain⟨rfl,_⟩:=rd;obtain⟨t,rfl⟩:=rv;exact IsiPair.str_str ⟨.bl _,H,I,rfl,q⟩
 |tup ds=>simp only[gZ,Rep] at rd;obtain⟨a,vs,rfl,sq,_⟩:=rd;cases rv;obtain⟨_,_,p,_⟩:=I.tuple sq;exact IsiPair.isTuple_str p (λ_ _ e=>e) ⟨.bl _,H,I.tok _,rfl,q⟩
 |lst ds=>simp only[gZ] at rd;obtain⟨a,vs,rfl,sq,_⟩:=rd;cases rv;obtain⟨_,_,p,_⟩:=I.list sq;exact IsiPair.isList_str p.isList (λ_ _ e=>e) ⟨.bl _,H,I.tok _,rfl,q⟩
 |emp=>simp only[gZ,Rep] at rd;obtain⟨a,o,rfl,sq⟩:=rd;cases rv;obtain⟨ob,e,c⟩:=pX I sq;exact IsiPair.dict_str e c ⟨.bl _,H,I.tok _,rfl,q⟩
theorem xG {p:Pos} (he:QV X e f) (hg:Gl X "isinstance") (hm:X.mg "isinstance" = none) (hg2:Gl X "str") (hm2:X.mg "str" = none) (hs:starEach [e,.Name "str" p2] X.env=[(false,eval e X.env),(false,eval (.Name "str" p2) X.env)]:=by rfl):QV X (.Call (.Name "isinstance" p) [e,.Name "str" p2] [] pos) (b1 (λb=>if nW b=true then none else some (.z (.bl (eZ (toD b))))) f):=⟨by
 have he:=he.run;have hc:fj X (.builtin "isinstance") (λxs H Q=>∃ b x,xs=[x,.ty "str"]/\bh X.K H b x/\nW b=false/\Q (.bl (eZ (toD b))) H):=by
  intro pins s σ H xs us Q I r h;obtain⟨b,x,rfl,rb,hmb,q⟩:=h;obtain⟨u,w',rfl,r1,r2⟩:=vals2 r;cases r2;exact Z4 I (rb.toD hmb) r1 q
 have ha:PA X [e,.Name "str" p2] (yc (tF X.K f) (yc (tC (.ty "str")) VR)):=jG he (jG (BZ hg2 hm2 (v:=.ty "str") (u:=.type "str") JR rfl) uP) (by rw[hs]<;>rfl);refine Bl (rA hc hg hm mG ha (by decide) (by decide) (by rw[hs]<;>rfl) rfl) λσ H Q h=>?_;obtain⟨H0,ρ,c,E,e,q⟩:=h;obtain⟨b,eb,e⟩:=bind_some e;split at e
 ·cases e
 rename_i hz;cases e;exact⟨H0,ρ,b,E,eb,λv H1 s1 n1 r1=>⟨b,v,rfl,r1,by simpa using hz,q _ _ s1 trivial Dm⟩⟩⟩
def is_tuple:Dt->Bool
 |.tup _=>true
 |_=>false
theorem Ul (I:L2.Inv X pins σ H s) {x:V} {Q:VK} (rd:gZ X.K H d x) (rv:RelV x v) (q:Q (.bl (is_tuple d)) H):wpAny (model X.prog X.w) X.A (call (.builtin "isinstance") [v,.type "tuple"]) (EP X pins σ Q) X.xe s:=by
 cases d with
 |non=>simp only[gZ,Rep] at rd;subst rd;cases rv;exact IsiPair.NoneType_tuple ⟨.bl _,H,I.tok _,rfl,q⟩
 |bl b=>simp only[gZ,Rep] at rd;subst rd;cases rv;exact IsiPair.bool_tuple ⟨.bl _,H,I.tok _,rfl,q⟩
 |int b=>simp only[gZ,Rep] at rd;subst rd;obtain⟨t,rfl⟩:=rv;exact IsiPair.int_tuple ⟨.bl _,H,I.tok _,rfl,q⟩
 |str b=>simp only[gZ,Rep] at rd;obtain⟨rfl,_⟩:=rd;obtain⟨t,rfl⟩:=rv;exact IsiPair.str_tuple ⟨.bl _,H,I.tok _,rfl,q⟩
 |tup ds=>simp only[gZ,Rep] at rd;obtain⟨a,vs,rfl,sq,_⟩:=rd;cases rv;obtain⟨_,_,p,_⟩:=I.tuple sq;exact IsiPair.isTuple_tuple p (λ_ _ e=>e) ⟨.bl _,H,I,rfl,q⟩
 |lst ds=>simp only[gZ] at rd;obtain⟨a,vs,rfl,sq,_⟩:=rd;cases rv;obtain⟨_,_,p,_⟩:=I.list sq;exact IsiPair.isList_tuple p.isList (λ_ _ e=>e) ⟨.bl _,H,I.tok _,rfl,q⟩
 |emp=>simp only[gZ,Rep] at rd;obtain⟨a,o,rfl,sq⟩:=rd;cases rv;obtain⟨ob,e,c⟩:=pX I sq;exact IsiPair.dict_tuple e c ⟨.bl _,H,I.tok _,rfl,q⟩
theorem kE {p:Pos} (he:QV X e f) (hg:Gl X "isinstance") (hm:X.mg "isinstance" = none) (hg2:Gl X "tuple") (hm2:X.mg "tuple" = none) (hs:starEach [e,.Name "tuple" p2] X.env=[(false,eval e X.env),(false,eval (.Name "tuple" p2) X.env)]:=by rfl):QV X (.Call (.Name "isinstance" p) [e,.Name "tuple" p2] [] pos) (b1 (λb=>if nW b=true then none else some (.z (.bl (is_tuple (toD b))))) f):=⟨by
 have he:=he.run;have hc:fj X (.builtin "isinstance") (λxs H Q=>∃ b x,xs=[x,.ty "tuple"]/\bh X.K H b x/\nW b=false/\Q (.bl (is_tuple (toD b))) H):=by
  intro pins s σ H xs us Q I r h;obtain⟨b,x,rfl,rb,hmb,q⟩:=h;obtain⟨u,w',rfl,r1,r2⟩:=vals2 r;cases r2;exact Ul I (rb.toD hmb) r1 q
 have ha:PA X [e,.Name "tuple" p2] (yc (tF X.K f) (yc (tC (.ty "tuple")) VR)):=jG he (jG (BZ hg2 hm2 (v:=.ty "tuple") (u:=.type "tuple") fW rfl) uP) (by rw[hs]<;>rfl);refine Bl (rA hc hg hm mG ha (by decide) (by decide) (by rw[hs]<;>rfl) rfl) λσ H Q h=>?_;obtain⟨H0,ρ,c,E,e,q⟩:=h;obtain⟨b,eb,e⟩:=bind_some e;split at e
 ·cases e
 rename_i hz;cases e;exact⟨H0,ρ,b,E,eb,λv H1 s1 n1 r1=>⟨b,v,rfl,r1,by simpa using hz,q _ _ s1 trivial Dm⟩⟩⟩
def tFO (K:FG_) (f:Ev->Option (Option Int)):TO:=λσ H Q=>∃ H0 ρ o,bV K H0 H σ ρ/\f ρ=some o/\∀ H',Same H H'->Q o H'
def PVo (X:Cx) (e:Option Expr) (f:Ev->Option (Option Int)):Prop:=PO X e (tFO X.K f)
structure QVo (X:Cx) (e:Option Expr) (f:Ev->Option (Option Int)):Prop where
 run:PVo X e f
theorem poM {e:Option Expr} {t t':TO} (h:PO X e t) (m:∀ σ H Q,t' σ H Q->t σ H Q):PO X e t':=λpins s σ H Q I q=>h pins s σ H Q I (m σ H Q q)
def qN:Ev->Option (Option Int):=λ_=>some none
theorem nF  : QVo X none qN:=⟨poM Zi λσ H Q h=>by
 obtain⟨H0,ρ,o,E,e,q⟩:=h;cases e;exact q H (Same.refl H)⟩
def ac7:Bx->Option (Option Int)
 |.z (.int i)=>some (some i)
 |_=>none
def rG (f:Ev->Option Bx):Ev->Option (Option Int):=λρ=>(f ρ).bind ac7
theorem ju (h:QV X e f):QVo X (some e) (rG f):=⟨have h:=h.run;poM (Zj h) λσ H Q q=>by
 obtain⟨H0,ρ,o,E,e,q⟩:=q;obtain⟨b,eb,e⟩:=bind_some e;refine⟨H0,ρ,b,E,eb,λv H1 s1 n1 r1=>?_⟩;unfold ac7 at e;split at e
 ·rename_i i;cases e;exact⟨i,Ie r1,q H1 s1⟩
 ·cases e⟩
def cutD (xs:List Dt) (lo hi:Option Int):List Dt:=(xs.drop (HT.iu xs.length 0 lo)).take (HT.iu xs.length xs.length hi - HT.iu xs.length 0 lo)
theorem MK (r:aM K H ds vs) (lo hi:Option Int):aM K H (cutD ds lo hi) (Ma vs lo hi):=by
 unfold cutD Ma;rw[r.length];exact(r.drop _).take _
theorem Wv (ds:List Dt) (h1:HT.iu ds.length 0 lo=0) (h2:HT.iu ds.length ds.length hi=ds.length):cutD ds lo hi=ds:=by
 unfold cutD;rw[h1,h2];simp
theorem yE {t sl:Addr} {vl vu:Value} {Q:VP_} (ht:IsTup s.heap t items) (hs:s.heap.IsSliceOf sl vl vu .none) (pl:IsPart vl lo) (pu:IsPart vu hi) (h1:HT.iu items.size 0 lo=0) (h2:HT.iu items.size items.size hi=items.size) (h:Q (.ref t) s):wpAny (model prog w) A (getItem (.ref t) (.ref sl)) Q E s:=by
 obtain⟨os,hos,hcs,hds⟩:=id hs;have hTs:s.TypeIs (.ref sl) "slice" := ⟨os,hos,hcs⟩;unfold getItem
 try with_reducible refine Qr ?_
 first|refine zb (zd ?_)|skip
 refine zb (wpAny_sequenceKey ht.typeIs (by decide) ?_);refine zb (jS (name:=Str.ofString "__getitem__") ht.typeIs PyProof.Rows.slot_tuple_getitem
  (QI PyProof.Rows.slot_tuple_getitem ht.typeIs entry_tuple_getitem ?_ (args_tuple_getitem _ _)))
 show wpAny _ _ (Builtin.Tuple.tupleItemsOf (.ref t) >>= _) _ _ s;refine zb (tupleItemsOf_ ht ?_);refine zb (QO hTs ?_);rw[zr (by decide)];refine zb (HT.rC hs pl pu ?_);have hyes:(((HT.iu items.size 0 lo:Nat):Int)==0&&(1:Int)==1&&(HT.iu items.size items.size hi - HT.iu items.size 0 lo)==items.size)=true:=by
  rw[h1,h2];simp
 show wpAny _ _ (if(((HT.iu items.size 0 lo:Nat):Int)==0&&(1:Int)==1&&(HT.iu items.size items.size hi - HT.iu items.size 0 lo)==items.size)=true then _ else _) _ _ s;rw[zr hyes]
 first
  |refine zb (zb (QO ht.typeIs (zd ?_)))
  |refine zb (QO ht.typeIs (zb (zd ?_)))
  |refine zb (QO ht.typeIs ?_)
 rw[zr (by decide)]
 first
  |exact zb (JO (zd ⟨_,rfl,zd h⟩))
  |exact zb (JO (zb (zd (zd ⟨_,rfl,zd h⟩))))
def slB (b:Bx) (lo hi:Option Int):Option Bx:=match b with
 |.z (.str x)=>some (.z (.str (Txt.slice x lo hi)))
 |.z (.tup ds)=>some (.z (.tup (cutD ds lo hi)))
 |b=>(uJ b).bind λds=>some (.o (cutD ds lo hi))
def rSl (K:FG_):V->Option Int->Option Int->Hp->VK->Prop:=λx lo hi H Q=>∃ b c,bh K H b x/\slB b lo hi=some c/\∀ w H',Same H H'->Nw H c w->bh K H' c w->Q w H'
theorem ac8:SlR X (rSl X.K):=by
 intro pins s σ H x v vl vu lo hi sl Q I rx hs pl pu h;obtain⟨b,c,rb,e,q⟩:=h;unfold slB at e;split at e
 ·rename_i y;cases e;obtain⟨rfl,hy⟩:=Mz rb;obtain⟨t,rfl⟩:=rx;refine⟨"str", _,F.slot_str_getitem.lookup,typeIs_str _ _ _,?_⟩;obtain⟨o,e1,e2,e3⟩:=hs;have fin:∀ t' k,EP X pins σ Q (.str (Txt.slice y lo hi) t') { s with toks:=k }:=λt' k=>⟨.str _,H,I.tok _,⟨_,rfl⟩,q _ H (Same.refl H) trivial (ZV (zD (Txt.slice_le y _ _) hy))⟩;cases pl with
  |none=>
   cases pu with
   |none=>exact kg (l:=none) (u:=none) (st:=none) ⟨o,e1,e2,e3⟩ rfl (post_val_or_str ⟨zD (Txt.slice_le y _ _) hy,fin⟩)
   |int j uj=>exact kg (l:=none) (u:=some (j,uj)) (st:=none) ⟨o,e1,e2,e3⟩ rfl (post_val_or_str ⟨zD (Txt.slice_le y _ _) hy,fin⟩)
  |int i ui=>
   cases pu with
   |none=>exact kg (l:=some (i,ui)) (u:=none) (st:=none) ⟨o,e1,e2,e3⟩ rfl (post_val_or_str ⟨zD (Txt.slice_le y _ _) hy,fin⟩)
   |int j uj=>exact kg (l:=some (i,ui)) (u:=some (j,uj)) (st:=none) ⟨o,e1,e2,e3⟩ rfl (post_val_or_str ⟨zD (Txt.slice_le y _ _) hy,fin⟩)
 ·rename_i ds;cases e;obtain⟨a,vs,rfl,sq,rs⟩:=inT rb;by_cases hw:HT.iu vs.length 0 lo=0/\HT.iu vs.length vs.length hi=vs.length
  ·cases rx;obtain⟨its,r,ht,hz⟩:=I.tuple sq;have hlen:its.toArray.size=vs.length:=by rw[zt];exact r.length.symm
   refine⟨"tuple", _,PyProof.Rows.slot_tuple_getitem.lookup,ht.typeIs,yE ht hs pl pu (by rw[hlen];exact hw.1) (by rw[hlen];exact hw.2) ⟨.ref a,H,I,rfl,q _ H (Same.refl H) trivial ?_⟩⟩;rw[Wv ds (by rw[<-rs.length];exact hw.1) (by rw[<-rs.length];exact hw.2)];exact rb
  ·refine acJ pins s σ H _ v vl vu lo hi sl Q I rx hs pl pu ⟨a,vs,rfl,sq,hw,λp hp=>q _ _ (cF hp) trivial ?_⟩;unfold bh Rep;exact⟨p,_,rfl,.inl (.inl cL),(MK rs lo hi).kp (.of (cF hp))⟩
 ·obtain⟨ds,ed,e⟩:=bind_some e;cases e;obtain⟨a,vs,rfl,sq,rs⟩:=rb.HX ed;exact Zq pins s σ H _ v vl vu lo hi sl Q I rx hs pl pu ⟨a,vs,rfl,sq,λp hp=>q _ _ (cF hp) (λa ea=>by cases ea;exact hp) ⟨p,_,rfl,cL,(MK rs lo hi).kp (.of (cF hp))⟩⟩
def Lx (f:Ev->Option Bx) (fl fh:Ev->Option (Option Int)):Ev->Option Bx:=λρ=>(f ρ).bind λb=>(fl ρ).bind λlo=>(fh ρ).bind λhi=>slB b lo hi
theorem yF {lo hi:Option Expr} {fl fh:Ev->Option (Option Int)} (he:QV X e f) (hl:QVo X lo fl) (hh:QVo X hi fh):QV X (.Subscript e (.Slice lo hi none p2) pos) (Lx f fl fh):=⟨have he:=he.run;have hl:=hl.run;have hh:=hh.run;Bl (V2 ac8 he hl hh) λσ H Q h=>by
 obtain⟨H0,ρ,c,E,e,q⟩:=h;obtain⟨b,eb,e⟩:=bind_some e;obtain⟨lo,el,e⟩:=bind_some e;obtain⟨hi,eh,e⟩:=bind_some e;refine⟨H0,ρ,b,E,eb,λv H1 s1 n1 r1=>⟨H0,ρ,lo,E.grow s1,el,λH2 s2=>⟨H0,ρ,hi,E.grow (s1.trans s2),eh,λH3 s3=>?_⟩⟩⟩;have s13:=(s1.trans s2).trans s3;exact⟨b,c,(r1.same s2).same s3,e,λw H4 s4 n4 r4=>q w H4 (s13.trans s4) (n4.old s13) r4⟩⟩
def pG:List Bx->Option Bx
 |[.z (.str x)]=>some (.z (.int x.length))
 |[b]=>(wG b).bind λds=>some (.z (.int ds.length))
 |_=>none
theorem rep1 (r:yh K H [b] vs):∃ v,vs=[v]/\bh K H b v:=by
 cases r with
 |cons p t=>cases t;exact⟨_,rfl,p⟩
theorem lQ:rD X (.builtin "len") pG:=fj.imp (Jy.or Jz) λxs H Q q=>by
 obtain⟨bs,c,rb,e,q⟩:=q;unfold pG at e;split at e
 ·rename_i x;cases e;obtain⟨v,rfl,r1⟩:=rep1 rb;obtain⟨rfl,hx⟩:=Mz r1;exact .inr ⟨x,rfl,hx,q _ H (Same.refl H) trivial zH⟩
 ·obtain⟨ds,ed,e⟩:=bind_some e;cases e;obtain⟨v,rfl,r1⟩:=rep1 rb;obtain⟨p,vs,rfl,sq,rs⟩:=u0 r1 ed;exact .inl ⟨p,vs,rfl,sq,by rw[rs.length];exact q _ H (Same.refl H) trivial zH⟩
 ·cases e
def Ww:List Bx->Option Bx
 |[.z (.int i)]=>some (.z (.int (if i < 0 then -i else i)))
 |_=>none
theorem ac9:rD X (.builtin "abs") Ww:=fj.imp VP λxs H Q q=>by
 obtain⟨bs,c,rb,e,q⟩:=q;unfold Ww at e;split at e
 ·rename_i i;cases e;obtain⟨v,rfl,r1⟩:=rep1 rb;have:=Ie r1;subst this;exact⟨i,rfl,q _ H (Same.refl H) trivial zH⟩
 ·cases e
def Wx:List Bx->Option Bx
 |[.z (.int i)]=>some (.z (.int i))
 |[.z (.bl k)]=>some (.z (.int (if k then 1 else 0)))
 |_=>none
theorem ada:rD X (.type "int") Wx:=fj.imp T4 λxs H Q q=>by
 obtain⟨bs,c,rb,e,q⟩:=q;unfold Wx at e;split at e
 ·rename_i i;cases e;obtain⟨v,rfl,r1⟩:=rep1 rb;have:=Ie r1;subst this;exact .inl ⟨i,rfl,q _ H (Same.refl H) trivial zH⟩
 ·rename_i k;cases e;obtain⟨v,rfl,r1⟩:=rep1 rb;simp only[bh,Rep] at r1;subst r1;exact .inr ⟨k,rfl,q _ H (Same.refl H) trivial zH⟩
 ·cases e
def Dr:List Bx->Option Bx
 |[b]=>(wG b).bind λds=>some (.o ds)
 |_=>none
theorem JV:rD X (.type "list") Dr:=fj.imp JB λxs H Q q=>by
 obtain⟨bs,c,rb,e,q⟩:=q;unfold Dr at e;split at e
 ·obtain⟨ds,ed,e⟩:=bind_some e;cases e;obtain⟨v,rfl,r1⟩:=rep1 rb;obtain⟨p,vs,rfl,sq,rs⟩:=u0 r1 ed;exact⟨p,vs,rfl,sq,λl hl=>q _ _ (cF hl) (λa ea=>by cases ea;exact hl) ⟨l,vs,rfl,cL,rs.kp (.of (cF hl))⟩⟩
 ·cases e
def gC:List Bx->Option Bx
 |[b]=>(wG b).bind λds=>some (.z (.tup ds))
 |_=>none
theorem gP:rD X (.type "tuple") gC:=fj.imp Gx λxs H Q q=>by
 obtain⟨bs,c,rb,e,q⟩:=q;unfold gC at e;split at e
 ·obtain⟨ds,ed,e⟩:=bind_some e;cases e;obtain⟨v,rfl,r1⟩:=rep1 rb;obtain⟨p,vs,rfl,sq,rs⟩:=u0 r1 ed;refine⟨p,vs,rfl,?_⟩;rcases sq with sq|sq
  ·refine .inl ⟨sq,λl hl=>q _ _ (cF hl) trivial ?_⟩;unfold bh Rep;exact⟨l,vs,rfl,.inl (.inl cL),rs.kp (.of (cF hl))⟩
  ·refine .inr ⟨sq,q _ H (Same.refl H) trivial ?_⟩;unfold bh Rep;exact⟨p,vs,rfl,sq,rs⟩
 ·cases e
def Im:List Dt->Option (List Bool)
 |[]=>some []
 |.bl b::ds=>(Im ds).bind λbs=>some (b::bs)
 |_=>none
theorem Ds {K:FG_} {H:Hp}:∀ {ds:List Dt} {bs:List Bool} {vs:List V} {us:List Value},Im ds=some bs->aM K H ds vs->Vals vs us->us=bs.map Value.bool
 |[],_,_,_,e,r,w=>by
  cases e;simp only[aM] at r;subst r;cases w;rfl
 |d::ds,_,_,_,e,r,w=>by
  simp only[aM] at r;obtain⟨v,r',rfl,h1,h2⟩:=r;cases d<;>first|(cases e;done)|skip;simp only[Im] at e;obtain⟨bs,e1,e⟩:=bind_some e;cases e;simp only[Rep] at h1;subst h1;cases w with
  |cons p t=>
   cases p;rw[Ds e1 h2 t];rfl
theorem all_range (bs:List Bool):((List.range bs.length).all λi=>bs.getD i false)=bs.all id:=by
 rw[Bool.eq_iff_iff,qf,qf];constructor
 ·intro h b hb;obtain⟨i,hi,rfl⟩:=List.mem_iff_getElem.mp hb;have:=h i (by simpa using hi);simpa[List.getD,hi] using this
 ·intro h i hi;have hi:i < bs.length:=by simpa using hi
  have:=h bs[i] (List.getElem_mem hi);simpa[List.getD,hi] using this
def allB:List Bx->Option Bx
 |[b]=>(uJ b).bind λds=>(Im ds).bind λbs=>some (.z (.bl (bs.all id)))
 |_=>none
theorem MN (bs:List Bool):TruthOf prog w A (λi v=>(bs.map Value.bool).toArray[i]?=some v) λi=>bs.getD i false:=λi v s Q E h q=>by
 have h':(bs.map Value.bool)[i]?=some v:=by simpa using h
 rw[ZA] at h';cases e:bs[i]? with
 |none=>rw[e] at h';cases h'
 |some b=>
  rw[e] at h';cases h';have:bs.getD i false=b:=by simp[List.getD,e]
  have q':Q b s:=by rw[<-this];exact q
  exact qi q'
theorem sO (hc:X.calm=true):rD X (.builtin "all") allB:=by
 intro pins s σ H xs us Q I r h;obtain⟨bs,c,rb,e,q⟩:=h;unfold allB at e;split at e
 ·obtain⟨ds,ed,e⟩:=bind_some e;obtain⟨ks,ek,e⟩:=bind_some e;cases e;obtain⟨v,rfl,r1⟩:=rep1 rb;obtain⟨a,vs,rfl,sq,rs⟩:=r1.HX ed;obtain⟨u,rfl,ru⟩:=vals1 r;cases ru;obtain⟨its,w,pl,hz⟩:=I.list sq;have hv:=Ds ek rs w;have hlt:a < s.heap.objs.size:=by obtain⟨o,n,e,_⟩:=pl;exact zw e
  refine call_all_walk (JI pl.isList ?_);refine⟨s.heap.objs.size,_,_,_,_,_,λi=>ks.getD i false,rfl,Walks.list (by show X.A.handled=none;exact I.ok.hd hc) s.heap.objs.size a (z5 hlt) its.toArray,⟨⟨_,zv _ rfl,rfl,rfl⟩,pl.isList.push _⟩,?_,λh' tk k=>?_⟩
  ·rw[hv];exact MN ks
  ·have hn:its.toArray.size=ks.length:=by rw[hv];simp
   rw[hn,all_range];have I1:L2.Inv X pins σ H { s with heap:=s.heap.push { cls:=.type "list_iterator", data:=.fields #[.ref a,.int 0 0] } }:=I.kept (t':=s.toks) λb o e=>ze _ e;refine⟨.bl _,H,?_,rfl,q _ H (Same.refl H) trivial Dm⟩;obtain⟨f0,f1,f2,f3,f4,f5⟩:=I.TQ (b:=s.heap.objs.size) (H':=H) (zi _) (I.hok.fresh (zi _));exact I1.turned (it:=s.heap.objs.size) (λb o hb e=>k b o (by simpa using hb) e) f0 f1 f3 f4 f5
 ·cases e
end P1
namespace P1
open L2
def gv (i:Nat):Ev->Option Bx:=λρ=>Bm ρ i
def xH (g:Bx->Bx->Option Bx) (fa fb:Ev->Option Bx):Ev->Option Bool:=λρ=>(b2 g fa fb ρ).bind wC
def tC3 (g g':Bx->Bx->Option Bx) (fa fb fc:Ev->Option Bx):Ev->Option Bool:=λρ=>(Zx g g' fa fb fc ρ).bind wC
def tV (f:Ev->Option Bx):Ev->Option Bool:=λρ=>(f ρ).bind Qh
def aD:Ev->Option (List Bx):=λ_=>some []
def uF (p:Dt->Bool) (f:Ev->Option Bx):Ev->Option Bx:=b1 (λb=>if nW b=true then none else some (.z (.bl (p (toD b))))) f
def eF:Ev->Option Out:=λρ=>some (.nx ρ)
def dZ (f:Ev->Option Bx):Ev->Option Out:=λρ=>(f ρ).bind Wg
def setG (i:Nat) (f:Ev->Option Bx):Ev->Option Out:=λρ=>(f ρ).bind λb=>(Wh ρ i b).bind λρ'=>some (.nx ρ')
def GD (gt:Dt->Ev->Option Ev) (f:Ev->Option Bx):Ev->Option Out:=λρ=>(f ρ).bind λb=>match b with|.z d=>(gt d ρ).bind λρ'=>some (.nx ρ')|_=>none
def Z5 (i j:Nat) (fs:Ev->Option (List Bx)):Ev->Option Out:=λρ=>(fs ρ).bind (ZF i j ρ)
def GF (i:Nat) (f:Ev->Option Bx):Ev->Option Out:=λρ=>(f ρ).bind (ZG ρ i)
def qO (fi:Ev->Option (List Dt)) (gt:Dt->Ev->Option Ev) (gb:Ev->Option Out):Ev->Option Out:=λρ=>(fi ρ).bind λds=>Bo gt gb ds ρ
def itF (f:Ev->Option Bx):Ev->Option (List Dt):=λρ=>(f ρ).bind ZJ
def Bq (f:Ev->Option Bx):Ev->Option (List Dt):=λρ=>(f ρ).bind Ug
def R6 (fs:Ev->Option (List Bx)):Ev->Option (List Dt):=λρ=>(fs ρ).bind acW
def gO (i:Nat):Dt->Ev->Option Ev:=λd ρ=>some (ρ.set i (some (.z d)))
def pH:Ev->Option Bool:=λ_=>some true
theorem bU:JL X [] pH:=⟨.inl ⟨rfl,rfl⟩⟩
theorem Du {c:Expr} (h:QB X c p):JL X [c] p:=⟨have h:=h.run;.inr ⟨c,rfl,h⟩⟩
theorem adb:Gz X scope cl [] []:=trivial
theorem Z6 {xs:LS_} (n:X.N[i]?=some x) (k:X.env.kindOf x=some .cell\/X.env.kindOf x=some .free) (k':(relabel scope X.env).names.lookup x=some .cell\/(relabel scope X.env).names.lookup x=some .free) (c:∃ c,cl.lookup x=some c) (r:Gz X scope cl xs is):Gz X scope cl (x::xs) (i::is):=⟨⟨n,k,k',c⟩,r⟩
theorem mem_of_lookup {names:List (Str×NameKind)} {x:Str} {k:NameKind}:names.lookup x=some k->(x,k)∈names:=js
theorem ade {xs:LS_} (clos:closureFor scope X.env=pure cl) (kind:scope.kind=.function) (cell:scope.names.all (λy=>decide (y.2≠.cell)||(cl.lookup y.1).isNone)=true) (names:scope.names.all (λy=>decide (y.2=.local->scope.names.lookup y.1=some .local))=true) (sub:SubL X.env.cells cl) (has:(relabel scope X.env).names.all (λy=>!(y.2==.cell||y.2==.free)||(cl.lookup y.1).isSome||scope.names.contains (y.1,.cell))=true) (cap:Gz X scope cl xs is):xu X scope cl xs is where
 clos:=clos
 kind:=kind
 cell:=λy hy hc=>by
  have:=List.all_eq_true.mp cell y hy;simp only[hc,ne_eq,not_true_eq_false,JU,Bool.false_or,Option.isNone_iff_eq_none] at this;exact this
 names:=λy hy=>kU (List.all_eq_true.mp names y hy)
 sub:=sub
 has:=λx hx=>by
  have h:∃ k,(relabel scope X.env).names.lookup x=some k/\(k==NameKind.cell||k==NameKind.free)=true:=by
   rcases hx with hx|hx
   ·exact⟨_,hx,rfl⟩
   ·exact⟨_,hx,rfl⟩
  obtain⟨k,e,hk⟩:=h;have:=List.all_eq_true.mp has _ (mem_of_lookup e);simp only[hk,QY,Bool.false_or,kF] at this;rcases this with h|h
  ·exact .inr (Option.isSome_iff_exists.mp h)
  ·exact .inl (List.contains_iff_mem.mp h)
 cap:=cap
theorem Z7 (r:oM k A):A.units+100 < cLine:=by have:=r.un;omega
theorem adf (h:∀ ns:List Int,ns.length<=63->F [.z (.lst (ns.map .int))]=some (.z (.bl true))) (hl:∀ ns:List Int,ns.length<=63->F [.l (ns.map .int)]=some (.z (.bl true))) (K:FG_) (H:Hp) (a:Addr) (ns:List Int) (hn:ns.length<=63) (_:Only H) (hS:rY K H a (ns.map V.int)) :
  spF K 1 F [.ref a] H (λv _=>v=.bl true) λ_ _ _=>False:=by
 have rs:∀ ms:List Int,aM K H (ms.map Dt.int) (ms.map V.int):=λms=>by
  induction ms with
  |nil=>exact aM.nil
  |cons m ms ih=>exact aM.cons (by unfold Rep;rfl) ih
 have fin:∀ v (H':Hp),Same H H'->Nw H (.z (.bl true)) v->bh K H' (.z (.bl true)) v->v=.bl true:=λv H' _ _ r=>by simpa only[bh,Rep] using r
 rcases hS with hS|hS
 ·exact⟨rfl,[.l (ns.map .int)],_,.cons ⟨a,_,rfl,hS,rs ns⟩ .nil,rfl,hl ns hn,fin⟩
 ·refine⟨rfl,[.z (.lst (ns.map .int))],_,.cons ?_ .nil,rfl,h ns hn,fin⟩;unfold bh Rep;exact⟨a,_,rfl,.inr hS,rs ns⟩
theorem ag7 {f:Addr} (F:Zv K x qual st f fd) (S:bF N ps (aK st)) (hn:N.length=n) (hm:ps.length=m) (hbody:∀ (cdv:Value) (A:Around) (outer:List Env) (s:Shared) (H:Hp) (E:XK),oM k (A.deeper (envOfC qual (aK st) s.heap.objs.size f cdv))->VD (Gv T9 P w K mg base N qual (aK st) f cdv A outer s H E).nox (jH st) g) :
  Bh P w K mg base T9 (k+1) f fd ps (spF K m (dj n g)):=by
 subst hn hm;exact ag4 F S hbody
section
variable {st:Expr} {fs:Ev->Option Bx}
theorem JW {α β:Type} {f:α->Option β} {g:α->β}:∀ l:List α,(∀ a∈l,f a=some (g a))->l.filterMap f=l.map g
 |[],_=>rfl
 |a::l,h=>by
  rw[kc,h a (zk ..),zC,JW l λb hb=>h b (zo _ hb)]
end
def R7:Bx->Bx->Option Bx
 |.z (.int i),.z (.int j)=>some (.z (.bl (decide (i < j))))
 |.z (.str x),.z (.str y)=>some (.z (.bl (decide (x.cps.toList < y.cps.toList))))
 |_,_=>none
theorem JX:yp X (compareOp .Lt) R7:=by
 intro pins s σ H x y v u Q I rx ry h;obtain⟨a,b,c,ra,rb,e,q⟩:=h;unfold R7 at e;split at e
 ·rename_i i j;cases e;exact aeD pins s σ H x y v u Q I rx ry ⟨i,j,Ie ra,Ie rb,q _ H (Same.refl H) trivial (by unfold bh;exact okT)⟩
 ·rename_i i j;cases e;obtain⟨rfl,_⟩:=Mz ra;obtain⟨rfl,_⟩:=Mz rb;obtain⟨t,rfl⟩:=rx;obtain⟨t',rfl⟩:=ry;exact PySem.P.lt_str ⟨.bl _,H,I,rfl,q _ H (Same.refl H) trivial (by unfold bh;exact okT)⟩
 ·cases e
def Dv:List Dt->Option LS_
 |[]=>some []
 |.str x::r=>(Dv r).bind λys=>some (x::ys)
 |_=>none
theorem zL {K:FG_} {H:Hp}:∀ {ds:List Dt} {vs:List V} {ys:LS_},aM K H ds vs->Dv ds=some ys->vs=ys.map V.str/\∀ y∈ys,y.length<=sizeLine
 |[],_,_,h,e=>by cases e;simp only[aM] at h;subst h;exact⟨rfl,λy hy=>by cases hy⟩
 |.str x::ds,_,_,h,e=>by
  simp only[Dv] at e;obtain⟨ys,e1,e2⟩:=bind_some e;cases e2;simp only[aM] at h;obtain⟨v,r,rfl,hd,hr⟩:=h;obtain⟨rfl,hx⟩:v=.str x/\x.length<=sizeLine:=by simpa only[Rep] using hd
  obtain⟨rfl,h2⟩:=zL hr e1;refine⟨rfl,λy hy=>?_⟩;rcases List.mem_cons.mp hy with rfl|hy
  ·exact hx
  ·exact h2 y hy
 |.non::_,_,_,_,e=>by cases e
 |.bl _::_,_,_,_,e=>by cases e
 |.int _::_,_,_,_,e=>by cases e
 |.tup _::_,_,_,_,e=>by cases e
 |.lst _::_,_,_,_,e=>by cases e
 |.emp::_,_,_,_,e=>by cases e
theorem Dw {K:FG_} {H:Hp}:∀ {ys:LS_},(∀ y∈ys,y.length<=sizeLine)->aM K H (ys.map Dt.str) (ys.map V.str)
 |[],_=>aM.nil
 |y::ys,h=>aM.cons (by unfold Rep;exact⟨rfl,h y (zk ..)⟩) (Dw λz hz=>h z (zo _ hz))
theorem xJ:∀ {ys:LS_} {its:List Value},Vals (ys.map V.str) its->StrsAre its ys
 |[],_,h=>by cases h;exact .nil
 |y::ys,_,h=>by
  cases h with
  |cons r t=>
   obtain⟨tk,rfl⟩:=r;exact .cons y tk (xJ t)
theorem zM:∀ {its:List Value} {ys:LS_},StrsAre its ys->Vals (ys.map V.str) its
 |_,_,.nil=>.nil
 |_,_,.cons y t h=>.cons ⟨t,rfl⟩ (zM h)
theorem JZ:fj X (.builtin "sorted") (λxs H Q=>∃ p ys,xs=[.ref p]/\rY X.K H p (ys.map V.str)/\ys.length < 64/\∀ l zs,H l=none->zs.Perm ys->sortedS zs=true->Q (.ref l) (upd H l (.lst (zs.map V.str)))):=by
 intro pins s σ H xs us Q I r h;obtain⟨p,ys,rfl,hq,h64,q⟩:=h;obtain⟨u,rfl,rx⟩:=vals1 r;cases rx;obtain⟨its,r',pl,hz⟩:=I.list hq;have hlen:=r'.length;rw[zg] at hlen hz;refine sorted_strs pl.isList (xJ r') (by omega) λout zs hs hp ae9=>?_;obtain⟨n,en⟩:=sortedAll_at s.heap its out;refine⟨.ref (s.heap.objs.size+1),_,I.laid (t':=s.toks) (a:=s.heap.objs.size+1) (o:=.lst (zs.map V.str)) (λb o e=>sortedAll_old e) (kB _) ?_,rfl,q _ zs (I.hok.fresh (kB _)) hp ae9⟩;refine⟨by rw[zg,hp.length_eq];exact hz,out.toList,n,zM hs,?_⟩;rw[en]
def Ly (a b:Str):Prop:=ltCps b.cps.toList a.cps.toList=false
theorem yG:∀ (p:Str) (l:LS_),risingS p l=true->(p::l).Pairwise Ly
 |p,[],_=>by simp
 |p,x::r,h=>by
  have h':(!ltCps x.cps.toList p.cps.toList&&risingS x r)=true:=h;rw[ZE] at h';have ih:=yG x r h'.2;have hx:Ly p x:=by simpa[Ly] using h'.1
  refine List.pairwise_cons.mpr ⟨λy hy=>?_,ih⟩;rcases List.mem_cons.mp hy with rfl|hy
  ·exact hx
  ·have hxy:Ly x y:=QE ih hy;unfold Ly at hx hxy ⊢;rw[ltCps_eq] at hx hxy ⊢;simp only[QQ] at hx hxy ⊢;exact List.le_trans (α:=Nat) hx hxy
theorem J0 {l:LS_} (h:sortedS l=true):l.Pairwise Ly:=by
 cases l with
 |nil=>exact .nil
 |cons p l=>exact yG p l h
theorem MP {a b:Str} (h:Ly a b) (h':Ly b a):a=b:=by
 unfold Ly at h h';rw[ltCps_eq] at h h';simp only[QQ] at h h';have:=List.le_antisymm (as:=a.cps.toList) (bs:=b.cps.toList) h h';cases a;cases b;simp only[Str.mk.injEq];exact Array.toList_inj.mp this
theorem R8:∀ {l l':LS_},l.Perm l'->l.Pairwise Ly->l'.Pairwise Ly->l=l'
 |[],l',h,_,_=>by rw[List.nil_perm.mp h]
 |a::l,[],h,_,_=>by cases List.perm_nil.mp h
 |a::l,b::l',h,p,p'=>by
  have e:a=b:=by
   have ha:a∈b::l':=h.mem_iff.mp (zk ..);have hb:b∈a::l:=h.mem_iff.mpr (zk ..);rcases List.mem_cons.mp ha with h1|h1
   ·exact h1
   ·rcases List.mem_cons.mp hb with h2|h2
    ·exact h2.symm
    ·exact MP (QE p h2) (QE p' h1)
  subst e;rw[R8 ((List.perm_cons a).mp h) (List.pairwise_cons.mp p).2 (List.pairwise_cons.mp p').2]
def Um (a b:Str):Bool:=!ltCps b.cps.toList a.cps.toList
def wL (ys:LS_):LS_:=ys.mergeSort Um
theorem pI (ys:LS_):(wL ys).Perm ys:=List.mergeSort_perm ys Um
theorem Dy (ys:LS_):(wL ys).Pairwise Ly:=by
 have h:=KL (le:=Um) (λa b c h1 h2=>by
  unfold Um at *
  rw[ltCps_eq] at *
  simp only[Q4,QQ] at *
  exact List.le_trans (α:=Nat) h1 h2) (λa b=>by
  unfold Um;rw[ltCps_eq,ltCps_eq];simp only[kF,Q4,QQ];exact List.le_total a.cps.toList b.cps.toList) ys
 exact h.imp λ{a b} hh=>by simpa[Um,Ly] using hh
theorem Wy {ys zs:LS_} (hp:zs.Perm ys) (hs:sortedS zs=true):zs=wL ys:=R8 (hp.trans (pI ys).symm) (J0 hs) (Dy ys)
def Io:List Bx->Option Bx
 |[b]=>(uJ b).bind λds=>(Dv ds).bind λys=>if ys.length < 64 then some (.o ((wL ys).map Dt.str)) else none
 |_=>none
theorem Uo:rD X (.builtin "sorted") Io:=fj.imp JZ λxs H Q q=>by
 obtain⟨bs,c,rb,e,q⟩:=q;unfold Io at e;split at e
 ·rename_i b;obtain⟨ds,ed,e⟩:=bind_some e;obtain⟨ys,ey,e⟩:=bind_some e;split at e
  ·rename_i h64;cases e;obtain⟨v,rfl,r1⟩:=rep1 rb;obtain⟨p,vs,rfl,sq,rs⟩:=r1.HX ed;obtain⟨rfl,hy⟩:=zL rs ey;refine⟨p,ys,rfl,sq,h64,λl zs hl hp hs=>?_⟩;rw[Wy hp hs];refine q _ _ (cF hl) (λa ea=>by cases ea;exact hl) ⟨l,_,rfl,cL,Dw λy h=>hy y ((pI ys).mem_iff.mp h)⟩
  ·cases e
 ·cases e
def yH (x:Str) (b:Bx):Option Bx:=(uJ b).bind λds=>(Dv ds).bind λys=>if(ys.map (·.length)).sum+ys.length * x.length<=100000 then some (.z (.str (Txt.join x ys))) else none
theorem Z8:MtR X "str.join" (λx xs H Q=>∃ y p ys,x=.str y/\xs=[.ref p]/\rY X.K H p (ys.map V.str)/\(ys.map (·.length)).sum+ys.length * y.length<=100000/\Q (.str (Txt.join y ys)) H):=by
 intro pins s σ H x xs v us Q I rx rs h;obtain⟨y,p,ys,rfl,rfl,sq,hb,q⟩:=h;obtain⟨t,rfl⟩:=rx;obtain⟨u,rfl,ru⟩:=vals1 rs;cases ru;obtain⟨its,r',pl,hz⟩:=I.list sq;exact join_list pl.isList (xJ r') (by omega) λt' k=>⟨.str _,H,I.tok _,⟨_,rfl⟩,q⟩
theorem yI {p1:Pos} (h:QV X e f) (hx:x.length<=sizeLine:=by decide) (hbase:attributeBase (.Constant (.str x) j p1) "join" X.env (eval (.Constant (.str x) j p1) X.env)=eval (.Constant (.str x) j p1) X.env:=by rfl) (hfew:((backTo cpos (starEach [e] X.env)).all (λx=>!x.1)&&(backToKw cpos (keywordEach [] X.env)).all (λx=>x.1.isSome)&&decide ([e].length+([]:List Keyword).length+(if([]:List Keyword).isEmpty then 0 else 1) < 30))=true:=by rfl) (hline:(apos.endLine==cpos.line)=true:=by rfl) (hs:starEach [e] X.env=(false,eval e X.env)::starEach [] X.env:=by rfl):QV X (.Call (.Attribute (.Constant (.str x) j p1) "join" apos) [e] [] cpos) (b1 (yH x) f):=⟨have h:=h.run;Bl (V4 (T := "str") F.plainAttrs_str F.slot_str_join F.type_str_join Z8 (Wc (hx:=hx)) (Dh h JC hs) hbase hfew hline hs rfl) λσ H Q q=>by
  obtain⟨H0,ρ,c,E,e,q⟩:=q;obtain⟨a,ea,e⟩:=bind_some e;refine⟨H0,ρ,_,E,rfl,λv H1 s1 n1 r1=>?_⟩;obtain⟨rfl,hx'⟩:v=.str x/\x.length<=sizeLine:=by simpa only[bh,Rep] using r1
  refine⟨rfl,H0,ρ,[a],E.grow s1,by simp only[aq,ea,Kx],λvs H2 s2 r2=>?_⟩;obtain⟨w,rfl,rw1⟩:=rep1 r2;unfold yH at e;obtain⟨ds,ed,e⟩:=bind_some e;obtain⟨ys,ey,e⟩:=bind_some e;split at e
  ·rename_i hb;cases e;obtain⟨p,ws,rfl,sq,rs⟩:=rw1.HX ed;obtain⟨rfl,hy⟩:=zL rs ey;refine⟨x,p,ys,rfl,rfl,sq,hb,q _ _ (s1.trans s2) trivial ?_⟩;unfold bh Rep;exact⟨rfl,joinOk_length (joinOk_of (by omega))⟩
  ·cases e⟩
def Uq:List Bx->Option Bx
 |[.z (.str x)]=>some (.z (.str x))
 |[.z (.int i)]=>if i.natAbs<=1000000 then some (.z (.str (Str.ofString (toString i)))) else none
 |_=>none
theorem Qu:rD X (.type "str") Uq:=by
 intro pins s σ H xs us Q I r h;obtain⟨bs,c,rb,e,q⟩:=h;unfold Uq at e;split at e
 ·rename_i x;cases e;obtain⟨v,rfl,r1⟩:=rep1 rb;obtain⟨rfl,hx⟩:=Mz r1;obtain⟨u,rfl,ru⟩:=vals1 r;obtain⟨t,rfl⟩:=ru;exact PySem.P.str_of_str ⟨.str x,H,I,⟨t,rfl⟩,q _ H (Same.refl H) trivial r1⟩
 ·rename_i i;split at e
  ·rename_i hi;cases e;obtain⟨v,rfl,r1⟩:=rep1 rb;have hv:=Ie r1;subst hv;obtain⟨u,rfl,ru⟩:=vals1 r;obtain⟨t,rfl⟩:=ru;have ag9:i.natAbs.log2 < 1920:=by
    have:i.natAbs < 2 ^ 20:=by omega
    have h2:i.natAbs.log2 < 20:=by
     by_cases h0:i.natAbs=0
     ·rw[h0];decide
     ·exact(Nat.log2_lt h0).mpr this
    omega
   refine PySem.P.str_of_int ag9 ⟨.str _,H,I.tok _,⟨_,rfl⟩,q _ H (Same.refl H) trivial ?_⟩;have hl:=len_str_of_int i;unfold bh Rep;refine⟨rfl,?_⟩;have:(Str.ofString (toString i)).length<=1000002:=by omega
   exact zD this (by decide)
  ·cases e
 ·cases e
def GJ:List Bx->Option Bx
 |[.z (.int a),.z (.int b)]=>some (.z (.int (if b > a then b else a)))
 |_=>none
def Ur:List Bx->Option Bx
 |[.z (.int a),.z (.int b)]=>some (.z (.int (if b < a then b else a)))
 |_=>none
theorem abw {a:Bx} (h:yh K H [a,b] vs):∃ v w,vs=[v,w]/\bh K H a v/\bh K H b w:=by
 cases h with
 |cons p t=>
  cases t with
  |cons p' t'=>cases t';exact⟨_,_,rfl,p,p'⟩
theorem zN (hc:X.calm=true):rD X (.builtin "max") GJ:=by
 intro pins s σ H xs us Q I r h;obtain⟨bs,c,rb,e,q⟩:=h;unfold GJ at e;split at e
 ·rename_i a b;cases e;obtain⟨v,w,rfl,r1,r2⟩:=abw rb;have hv:=Ie r1;have hw:=Ie r2;subst hv hw;obtain⟨u,u',rfl,ru,ru'⟩:=Vals.two r;obtain⟨t,rfl⟩:=ru;obtain⟨t',rfl⟩:=ru';refine max_two_ints (I.ok.hd hc) λh' tk kp=>?_;by_cases hb:b > a
  ·rw[zr hb] at q ⊢;exact⟨.int b,H,I.kept kp,⟨_,rfl⟩,q _ H (Same.refl H) trivial zH⟩
  ·rw[zz hb] at q ⊢;exact⟨.int a,H,I.kept kp,⟨_,rfl⟩,q _ H (Same.refl H) trivial zH⟩
 ·cases e
theorem Wz (hc:X.calm=true):rD X (.builtin "min") Ur:=by
 intro pins s σ H xs us Q I r h;obtain⟨bs,c,rb,e,q⟩:=h;unfold Ur at e;split at e
 ·rename_i a b;cases e;obtain⟨v,w,rfl,r1,r2⟩:=abw rb;have hv:=Ie r1;have hw:=Ie r2;subst hv hw;obtain⟨u,u',rfl,ru,ru'⟩:=Vals.two r;obtain⟨t,rfl⟩:=ru;obtain⟨t',rfl⟩:=ru';refine min_two_ints (I.ok.hd hc) λh' tk kp=>?_;by_cases hb:b < a
  ·rw[zr hb] at q ⊢;exact⟨.int b,H,I.kept kp,⟨_,rfl⟩,q _ H (Same.refl H) trivial zH⟩
  ·rw[zz hb] at q ⊢;exact⟨.int a,H,I.kept kp,⟨_,rfl⟩,q _ H (Same.refl H) trivial zH⟩
 ·cases e
section
variable {ek o:Expr} {pos':Pos}
end
section
variable {a b c:Expr} {fs:Ev->Option (List Bx)}
theorem fX {j} (hx:x.length<=sizeLine:=by decide):QV X (.Constant (.str x) j pos) (cB (.str x)):=⟨P1.Wc (hx:=hx)⟩
end
section
variable {a b c:Expr} {fs:Ev->Option (List Bx)}
variable {rest:List Expr}
theorem aj (h1:QV X e f) (h2:Vr X es fs) (hs:starEach (e::es) X.env=(false,eval e X.env)::starEach es X.env:=by rfl):Vr X (e::es) (aq f fs):=⟨P1.Dh (h1:=h1.run) (h2:=h2.run) (hs:=hs)⟩
theorem au  : Vr X [] (λ_=>some []):=⟨P1.JC ⟩
end
theorem ahb {f:Addr} (F:Zv K x qual st f fd) (S:bF N ps (aK st)) (hn:N.length=n) (hm:ps.length=m) (hbody:∀ (cdv:Value) (A:Around) (outer:List Env) (s:Shared) (H:Hp) (E:XK),oM k (A.deeper (envOfC qual (aK st) s.heap.objs.size f cdv))->YM (Gv T9 P w K mg base N qual (aK st) f cdv A outer s H E).nox (jH st) g) :
  Bh P w K mg base T9 (k+1) f fd ps (spF K m (dj n g)):=ag7 F S hn hm λcdv A outer s H E hr=>(hbody cdv A outer s H E hr).run
theorem bV.afa (E:bV K H0 H σ ρ) (i:Nat):bV K H0 H σ (ρ.set i none):=by
 have back:∀ (j:Nat) (b:Bx),(ρ.set i none)[j]?=some (some b)->ρ[j]?=some (some b):=λj b e=>by
  rw[k4] at e;split at e
  ·split at e<;>cases e
  ·exact e
 refine⟨by rw[kD];exact E.len,λj b e=>E.val j b (back j b e),λj k c a b e1 ec e2 e3 e4 e5=>E.own j k c a b (back _ _ e1) ec e2 (back _ _ e3) e4 e5,E.base,λj c a e1 ec e2=>E.new j c a (back _ _ e1) ec e2⟩
def kill (is:List Nat) (ρ:Ev):Ev:=is.foldl (λρ i=>ρ.set i none) ρ
theorem bV.kill {K:FG_} {H0 H:Hp} {σ:L2.St}:∀ (is:List Nat) {ρ:Ev},bV K H0 H σ ρ->bV K H0 H σ (P1.kill is ρ)
 |[],_,E=>E
 |i::is,_,E=>bV.kill is (E.afa i)
def ig (is:List Nat):Ev->Option Out:=λρ=>some (.nx (kill is ρ))
theorem WD {ss:List Stmt} (is:List Nat) (h:VD X ss g):VD X ss (aF g (ig is)):=acQ h λD σ H q=>by
 obtain⟨H0,ρ,r,E,e,q⟩:=q;obtain⟨r1,e1,e⟩:=bind_some e;refine⟨H0,ρ,r1,E,e1,?_⟩;cases r1 with
 |nx ρ1=>cases e;exact λσ' H' E'=>q σ' H' (E'.kill is)
 |rt b=>cases e;exact q
 |bk b=>cases e;exact q
 |ct b=>cases e;exact q
theorem cN {ss:List Stmt} (is:List Nat) (h:YM X ss g):YM X ss (aF g (ig is)):=⟨WD is h.run⟩
end P1
namespace S1
section
variable (rk:Value->Nat)
def at_ (xs:Array Keyed) (i:Nat):Nat:=match xs[i]? with
 |some p=>rk p.1
 |none=>0
def Up (xs:Array Keyed) (k:Nat):Prop:=∀ i j,i<=j->j < k->at_ rk xs i<=at_ rk xs j
def Down (xs:Array Keyed) (k:Nat):Prop:=∀ i j,i<=j->j < k->at_ rk xs j<=at_ rk xs i
structure Bs (kd:SortKind) (b:Array Keyed) (st:SortSt):Prop where
 pm:(arrOf st).Perm b
 kd:kindOf st=kd
 fl:failedOf st=none
 pd:pendingOf st=#[]
variable {rk} {kd:SortKind} {b:Array Keyed}
theorem Bs.sz {st:SortSt} (h:Bs kd b st):(arrOf st).size=b.size:=h.pm.size_eq
theorem Bs.arr {st:SortSt} {xs:Array Keyed} (h:Bs kd b st) (hp:xs.Perm (arrOf st)):Bs kd b (PyProof.Rows.setArr st xs):=⟨hp.trans h.pm,h.kd,h.fl,h.pd⟩
theorem u5 {xs ys:Array Keyed} (h:xs[i]?=ys[j]?):at_ rk xs i=at_ rk ys j:=by unfold at_;rw[h]
theorem WK {xs:Array Keyed} {p d:Nat} (hs:p < xs.size) (hd:d<=p) (k:Nat):at_ rk (bubble xs p d) k=if k=p - d then at_ rk xs p else if p - d < k/\k<=p then at_ rk xs (k - 1) else at_ rk xs k:=by
 have e:=getElem?_bubble hs d hd k;by_cases q:k=p - d
 ·simp only[zr q] at e ⊢;exact u5 e
 ·simp only[zz q] at e ⊢;by_cases q2:p - d < k/\k<=p
  ·simp only[zr q2] at e ⊢;exact u5 e
  ·simp only[zz q2] at e ⊢;exact u5 e
theorem Qv {xs:Array Keyed} (hj:j<=xs.size) (k:Nat):at_ rk (mirror xs i j ((j - i) / 2)) k=if i<=k/\k < j then at_ rk xs (i+j - 1 - k) else at_ rk xs k:=by
 have e:=getElem?_mirror_all (i:=i) hj k;by_cases q:i<=k/\k < j
 ·simp only[zr q] at e ⊢;exact u5 e
 ·simp only[zz q] at e ⊢;exact u5 e
theorem yJ {xs:Array Keyed} (hj:j<=xs.size) (he:∀ k,i<=k->k < j->at_ rk xs k=at_ rk xs (j - 1)) (k:Nat):at_ rk (mirror xs i j ((j - i) / 2)) k=at_ rk xs k:=by
 rw[Qv hj];by_cases q:i<=k/\k < j
 ·rw[zr q,he (i+j - 1 - k) (by omega) (by omega),he k q.1 q.2]
 ·rw[zz q]
end
section
variable {b:Array Keyed} {kd:SortKind} {rk:Value->Nat}
def WL (prog:Program) (w:World) (A:Around) (s:Shared) (kd:SortKind) (rk:Value->Nat) (b:Array Keyed):Prop:=
 ∀ (E:VP_) (p q:Keyed) (Q:Bool->Shared->Prop),p∈b.toList->q∈b.toList->Q (decide (rk p.1 < rk q.1)) s->wpAny (model prog w) A (keyLt' kd p.1 q.1) Q E s
theorem M4 {st:SortSt} {Q:Option Bool->SortSt->Prop} (hC:WL prog w A s kd rk b) (B:Bs kd b st) (hi:i < b.size) (hj:j < b.size) (h:Q (some (decide (at_ rk (arrOf st) i < at_ rk (arrOf st) j))) st):wpS (model prog w) A E s (ltAt' i j) Q st:=by
 have get:∀ k,k < b.size->∃ p,(arrOf st)[k]?=some p/\p∈b.toList:=λk hk=>by
  have hk':k < (arrOf st).size:=by rw[B.sz];exact hk
  exact⟨(arrOf st)[k],getElem?_pos _ k hk',(Array.perm_iff_toList_perm.mp B.pm).mem_iff.mp (by simp)⟩
 obtain⟨p,e1,m1⟩:=get i hi;obtain⟨q,e2,m2⟩:=get j hj;have h:Q (some (decide (rk p.1 < rk q.1))) st:=by unfold at_ at h;rw[e1,e2] at h;exact h
 rw[ltAt'_eq];refine wpS_bind (wpS_get ?_);show wpS _ _ _ _ (elem' (arrOf st) i >>= λx=>elem' (arrOf st) j >>= λy=>lt' x y) Q st;rw[elem'_eq,elem'_eq,e1,e2];refine wpS_bind (wpS_pure ?_);refine wpS_bind (wpS_pure ?_);rw[lt'_eq];refine wpS_bind (wpS_get ?_);rw[B.kd];exact wpS_bind (wpS_lift (wpAny_attempt (hC _ p q _ m1 m2 ⟨rfl,wpS_pure h⟩)))
theorem asc {st:SortSt} {a:Nat} {Q:AscSt->SortSt->Prop} (hC:WL prog w A s kd rk b) (hn:n<=b.size) (ha:1<=a) (han:a<=n) (B:Bs kd b st) (hs:Up rk (arrOf st) a) (h:∀ m,a<=m->m<=n->Up rk (arrOf st) m->(m=n\/at_ rk (arrOf st) m < at_ rk (arrOf st) (m - 1))->Q (none,m) st):wpS (model prog w) A E s (ascLoop a n) Q st:=by
 unfold ascLoop;refine wpS_forRange (I:=λx c t=>t=st/\c=(none,x)/\Up rk (arrOf st) x) ?_ ?_ ⟨rfl,rfl,hs⟩
 ·rintro x c t hax hxn ⟨rfl,rfl,up⟩;refine wpS_bind (M4 hC B (by omega) (by omega) ?_);by_cases q:at_ rk (arrOf t) x < at_ rk (arrOf t) (x - 1)
  ·simp only[q,kA,ZZ];exact wpS_pure (h x hax (by omega) up (.inr q))
  ·simp only[q,JU,zh,Zl];refine wpS_pure ⟨rfl,rfl,λi j hij hj=>?_⟩;by_cases hx:j < x
   ·exact up i j hij hx
   ·have e:j=x:=by omega
    subst e;by_cases hi:i=j
    ·rw[hi];exact zi _
    ·have:=up i (j - 1) (by omega) (by omega);omega
 ·rintro c t ⟨rfl,rfl,up⟩;rw[show max a n=n by omega] at up ⊢;exact h n han (zi _) up (.inl rfl)
theorem t3 {st:SortSt} {Q:Option Nat->SortSt->Prop} (hC:WL prog w A s kd rk b) (hn:n<=b.size) (h1:1<=m) (hmn:m<=n) (B:Bs kd b st) (hs:Down rk (arrOf st) m) (h:∀ k t,Bs kd b t->1<=k->k<=n->Up rk (arrOf t) k->Q (some k) t):wpS (model prog w) A E s (tail3 m n) Q st:=by
 unfold tail3;have hz:m<=(arrOf st).size:=by rw[B.sz];omega
 refine wpS_bind (wpS_reverse ?_);have B':Bs kd b (PyProof.Rows.setArr st (mirror (arrOf st) 0 m ((m - 0) / 2))):=B.arr (mirror_perm _ _ _ _);refine wpS_bind (asc hC hn h1 hmn B' (λi j hij hj=>?_) λk k1 k2 up _=>wpS_pure (h k _ B' (by omega) k2 up));show at_ rk (mirror (arrOf st) 0 m ((m - 0) / 2)) i<=at_ rk (mirror (arrOf st) 0 m ((m - 0) / 2)) j;rw[Qv hz,Qv hz,zr ⟨by omega,by omega⟩,zr ⟨by omega,by omega⟩];exact hs _ _ (by omega) (by omega)
theorem dsc {st:SortSt} {Q:DescSt->SortSt->Prop} (hC:WL prog w A s kd rk b) (hn:n<=b.size) (h1:1<=m) (hmn:m<=n) (B:Bs kd b st) (hs:Down rk (arrOf st) m) (h:∀ k e t,Bs kd b t->m<=k->k<=n->Down rk (arrOf t) k->e+1<=k->(∀ i,k - (e+1)<=i->i < k->at_ rk (arrOf t) i=at_ rk (arrOf t) (k - 1))->Q (none,k,e) t):wpS (model prog w) A E s (descLoop m n) Q st:=by
 unfold descLoop;refine wpS_forRange (I:=λx c t=>∃ e,c=(none,x,e)/\Bs kd b t/\Down rk (arrOf t) x/\e+1<=x/\∀ i,x - (e+1)<=i->i < x->at_ rk (arrOf t) i=at_ rk (arrOf t) (x - 1)) ?_ ?_ ⟨0,rfl,B,hs,by omega,λi q1 q2=>by rw[show i=m - 1 by omega]⟩
 ·rintro x c t hax hxn ⟨e,rfl,B',dn,he,eq⟩;have hz:x<=(arrOf t).size:=by rw[B'.sz];omega
  have grow:∀ xs:Array Keyed,(∀ k,at_ rk xs k=at_ rk (arrOf t) k)->at_ rk (arrOf t) x<=at_ rk (arrOf t) (x - 1)->Down rk xs (x+1):=λxs hk hl i j hij hj=>by
   rw[hk,hk];by_cases hx:j < x
   ·exact dn i j hij hx
   ·have ej:j=x:=by omega
    subst ej;by_cases hi:i=j
    ·rw[hi];exact zi _
    ·have:=dn i (j - 1) (by omega) (by omega);omega
  dsimp only;refine wpS_bind (M4 hC B' (by omega) (by omega) ?_);by_cases q:at_ rk (arrOf t) x < at_ rk (arrOf t) (x - 1)
  ·simp only[q,kA,ZZ];by_cases h0:e > 0
   ·rw[zr h0];exact wpS_bind (wpS_reverse (wpS_pure ⟨0,rfl,B'.arr (mirror_perm _ _ _ _),grow _ (yJ hz eq) (by omega),by omega,λi q1 q2=>by rw[show i=x by omega];rfl⟩))
   ·rw[zz h0];exact wpS_pure ⟨0,rfl,B',grow _ (λ_=>rfl) (by omega),by omega,λi q1 q2=>by rw[show i=x by omega];rfl⟩
  ·simp only[q,JU,zh,Zl];refine wpS_bind (M4 hC B' (by omega) (by omega) ?_);by_cases q2:at_ rk (arrOf t) (x - 1) < at_ rk (arrOf t) x
   ·simp only[q2,kA,ZZ];exact wpS_pure (h x e t B' hax (by omega) dn he eq)
   ·simp only[q2,JU,zh,Zl];refine wpS_pure ⟨e+1,rfl,B',grow _ (λ_=>rfl) (by omega),by omega,λi q3 q4=>?_⟩;rw[show x+1 - 1=x by omega];by_cases hi:i=x
    ·rw[hi]
    ·rw[eq i (by omega) (by omega)];omega
 ·rintro c t ⟨e,rfl,B',dn,he,eq⟩;rw[show max m n=n by omega] at dn he eq ⊢;exact h n e t B' hmn (zi _) dn he eq
theorem abx {st:SortSt} {Q:Option Nat->SortSt->Prop} (hC:WL prog w A s kd rk b) (hn:n<=b.size) (hmn:m+1<=n) (B:Bs kd b st) (hs:Down rk (arrOf st) (m+1)) (h:∀ k t,Bs kd b t->1<=k->k<=n->Up rk (arrOf t) k->Q (some k) t):wpS (model prog w) A E s (descPart m n) Q st:=by
 unfold descPart;refine wpS_bind (wpS_lift (JO ⟨rfl,?_⟩));refine wpS_bind (dsc hC hn (by omega) hmn B hs λk e t B' k1 k2 dn he eq=>?_);have hz:k<=(arrOf t).size:=by rw[B'.sz];omega
 by_cases h0:e > 0
 ·simp only[zr h0];refine wpS_bind (wpS_reverse (t3 hC hn (by omega) k2 (B'.arr (mirror_perm _ _ _ _)) (λi j hij hj=>?_) h));show at_ rk (mirror (arrOf t) _ _ _) j<=at_ rk (mirror (arrOf t) _ _ _) i;rw[yJ hz eq,yJ hz eq];exact dn i j hij hj
 ·simp only[zz h0];exact t3 hC hn (by omega) k2 B' dn h
theorem ahc {st:SortSt} {Q:Option Nat->SortSt->Prop} (hC:WL prog w A s kd rk b) (hn:n<=b.size) (h1:1<=n) (B:Bs kd b st) (h:∀ k t,Bs kd b t->1<=k->k<=n->Up rk (arrOf t) k->Q (some k) t):wpS (model prog w) A E s (countRun' 0 n) Q st:=by
 rw[countRun0_eq];refine wpS_bind (asc hC hn (zi 1) h1 B (λi j hij hj=>by rw[show i=j by omega];exact zi _) λm m1 m2 up or=>?_);by_cases hm:m=n
 ·simp only[zr (show(m==n)=true by simpa using hm)];exact wpS_pure (h m st B m1 m2 up)
 ·simp only[zz (show ¬ (m==n)=true by simpa using hm)];have lt:=or.resolve_left hm;have hz:m<=(arrOf st).size:=by rw[B.sz];omega
  by_cases g1:m > 1
  ·rw[zr g1];refine wpS_bind (M4 hC B (by omega) (by omega) ?_);by_cases q:at_ rk (arrOf st) 0 < at_ rk (arrOf st) (m - 1)
   ·simp only[q,kA,ZZ];exact wpS_pure (h m st B m1 m2 up)
   ·simp only[q,JU,zh,Zl];have all:∀ k,0<=k->k < m->at_ rk (arrOf st) k=at_ rk (arrOf st) (m - 1):=λk _ hk=>by
     have a1:=up 0 k (by omega) hk;have a2:=up k (m - 1) (by omega) (by omega);omega
    refine wpS_bind (wpS_reverse (abx hC hn (by omega) (B.arr (mirror_perm _ _ _ _)) (λi j hij hj=>?_) h));show at_ rk (mirror (arrOf st) _ _ _) j<=at_ rk (mirror (arrOf st) _ _ _) i;rw[yJ hz all,yJ hz all];by_cases hj':j < m
    ·rw[all i (by omega) (by omega),all j (by omega) hj'];exact zi _
    ·have ej:j=m:=by omega
     subst ej;by_cases hi:i=j
     ·rw[hi];exact zi _
     ·rw[all i (by omega) (by omega)];omega
  ·rw[zz g1];have e1:m=1:=by omega
   subst e1;refine abx hC hn (by omega) B (λi j hij hj=>?_) h;by_cases hi:i=j
   ·rw[hi];exact zi _
   ·rw[show i=0 by omega,show j=1 by omega];exact QU lt
theorem bins {st:SortSt} {k0:Nat} {Q:Bool->SortSt->Prop} (hC:WL prog w A s kd rk b) (hn:n<=b.size) (hk0:k0<=n) (B:Bs kd b st) (hs:Up rk (arrOf st) k0) (h:∀ t,Bs kd b t->Up rk (arrOf t) n->Q true t):wpS (model prog w) A E s (binarySort' 0 n k0) Q st:=by
 rw[binarySort'_eq];simp only[kN];refine wpS_bind (wpS_mono (wpS_forRange (I:=λk c t=>c=(none,())/\Bs kd b t/\Up rk (arrOf t) (min k n)) (Q:=λc t=>c=(none,())/\Bs kd b t/\Up rk (arrOf t) n) ?_ ?_ ?_) ?_)
 ·rintro k c t hak hkn ⟨rfl,B',up⟩;rw[show min k n=k by omega] at up;have hk:k < b.size:=by omega
  refine wpS_bind (wpS_mono (wpS_forRange (I:=λx c t'=>t'=t/\∃ l r,c=(none,l,r)/\l<=r/\r<=k/\r - l<=k - x/\(∀ i,i < l->at_ rk (arrOf t) i<=at_ rk (arrOf t) k)/\(∀ i,r<=i->i < k->at_ rk (arrOf t) k < at_ rk (arrOf t) i))
   (Q:=λc t'=>t'=t/\∃ l r,c=(none,l,r)/\l<=k/\(∀ i,i < l->at_ rk (arrOf t) i<=at_ rk (arrOf t) k)/\(∀ i,l<=i->i < k->at_ rk (arrOf t) k < at_ rk (arrOf t) i)) ?_ ?_ ?_) ?_)
  ·rintro x c t' _ hx ⟨rfl,l,r,rfl,lr,rk',mm,lo,hi⟩;dsimp only;by_cases ge:l>=r
   ·rw[zr ge];have e:l=r:=by omega
    subst e;exact wpS_pure ⟨rfl,l,l,rfl,rk',lo,hi⟩
   ·rw[zz ge];refine wpS_bind (M4 hC B' hk (by omega) ?_);by_cases q:at_ rk (arrOf t') k < at_ rk (arrOf t') ((l+r) / 2)
    ·simp only[q,kA,ZZ];refine wpS_pure ⟨rfl,l,(l+r) / 2,rfl,by omega,by omega,by omega,lo,λi q1 q2=>?_⟩;have:=up ((l+r) / 2) i q1 q2;omega
    ·simp only[q,JU,zh,Zl];refine wpS_pure ⟨rfl,(l+r) / 2+1,r,rfl,by omega,by omega,by omega,λi q1=>?_,hi⟩;have:=up i ((l+r) / 2) (by omega) (by omega);omega
  ·rintro c t' ⟨rfl,l,r,rfl,lr,rk',mm,lo,hi⟩;have e:l=r:=by omega
   subst e;exact⟨rfl,l,l,rfl,rk',lo,hi⟩
  ·exact⟨rfl,0,k,rfl,by omega,by omega,by omega,λi hi=>by omega,λi q1 q2=>by omega⟩
  ·rintro c t' ⟨rfl,l,r,rfl,lk,lo,hi⟩;show wpS _ _ _ _ (moveDown' k l >>= λ_=>pure (ForInStep.yield (none,()))) _ _;rw[moveDown'_eq];refine wpS_bind (wpS_modify (wpS_pure ⟨rfl,B'.arr (bubble_perm _ _ _),?_⟩));rw[show min (k+1) n=k+1 by omega];have hz:k < (arrOf t').size:=by rw[B'.sz];exact hk
   intro i j hij hj;show at_ rk (bubble (arrOf t') k (k - l)) i<=at_ rk (bubble (arrOf t') k (k - l)) j;rw[WK hz (by omega),WK hz (by omega),show k - (k - l)=l by omega]
   repeat' split
   all_goals first
    |(exfalso;omega)
    |exact zi _
    |exact lo _ (by omega)
    |exact QU (hi _ (by omega) (by omega))
    |exact up _ _ (by omega) (by omega)
 ·rintro c t ⟨hc,B',up⟩;refine⟨hc,B',?_⟩;rwa [show min (max (max k0 1) n) n=n by omega] at up
 ·refine⟨rfl,B,λi j hij hj=>?_⟩;by_cases z:k0=0
  ·rw[show i=j by omega];exact zi _
  ·exact hs i j hij (by omega)
 ·rintro c t ⟨rfl,B',up⟩;exact wpS_pure (h t B' up)
def Dn (kd:SortKind) (rk:Value->Nat) (b:Array Keyed) (st:SortSt):Prop:=(arrOf st).Perm b/\failedOf st=none/\pendingOf st=#[(0,b.size,0)]/\Up rk (arrOf st) b.size
theorem Bs.dn {st:SortSt} (B:Bs kd b st) (up:Up rk (arrOf st) b.size):Dn kd rk b (setPending st ((pendingOf st).push (0,b.size,0))):=⟨B.pm,B.fl,(by show(pendingOf st).push _=_;rw[B.pd];rfl),up⟩
theorem runs {st:SortSt} {Q:Unit->SortSt->Prop} (hC:WL prog w A s kd rk b) (B:Bs kd b st) (h2:2<=b.size) (h64:b.size < 64)
  (h:∀ t,(arrOf t).Perm b->failedOf t=none->Up rk (arrOf t) b.size->Q () t):wpS (model prog w) A E s sortRuns' Q st:=by
 rw[sortRuns'_eq];refine wpS_bind (wpS_get ?_);have mr:minRun' b.size b.size 0=b.size:=by
  obtain⟨f,hf⟩:∃ f,b.size=f+1:=⟨b.size - 1,by omega⟩;have q:minRun' (f+1) b.size 0=b.size:=(minRun'_succ f b.size 0).trans (zr h64);rwa [<-hf] at q
 simp only[B.sz,mr];have back:∀ {t:SortSt},Bs kd b t->(pendingOf t).back?=none:=λB=>by rw[B.pd];rfl
 refine wpS_bind (wpS_mono (wpS_forRange (I:=λx c t=>(x=0/\c=(none,0)/\Bs kd b t)\/(1<=x/\c=(none,b.size)/\Dn kd rk b t)) (Q:=λc t=>c=(none,b.size)/\Dn kd rk b t) ?_ ?_ (.inl ⟨rfl,rfl,B⟩)) ?_)
 ·rintro x c t _ hx (⟨rfl,rfl,B'⟩|⟨hx1,rfl,D⟩)
  ·dsimp only;rw[zz (by omega)];simp only[Nat.sub_zero,Nat.min_self,kN];refine wpS_bind (ahc hC (zi _) (by omega) B' λm t2 B2 m1 m2 up2=>?_);dsimp only;by_cases lt:m < b.size
   ·rw[zr lt];refine wpS_bind (wpS_lift (JO ⟨rfl,wpS_bind (bins hC (zi _) m2 B2 up2 λt3 B3 up3=>?_)⟩));simp only[QY,zh,Zl];refine wpS_bind (wpS_get ?_);rw[back B3];exact wpS_bind (wpS_modify (wpS_pure (.inr ⟨by omega,rfl,B3.dn up3⟩)))
   ·rw[zz lt];have e:m=b.size:=by omega
    subst e;refine wpS_bind (wpS_get ?_);rw[back B2];exact wpS_bind (wpS_modify (wpS_pure (.inr ⟨by omega,rfl,B2.dn up2⟩)))
  ·dsimp only;rw[zr (zi _)];exact wpS_pure ⟨rfl,D⟩
 ·rintro c t (⟨hx,_,_⟩|⟨_,hc,D⟩)
  ·omega
  ·exact⟨hc,D⟩
 ·rintro c t ⟨rfl,D⟩;dsimp only;refine wpS_bind (wpS_mono (wpS_forRange (I:=λ_ c u=>u=t/\c=(none,())) (Q:=λc u=>u=t/\c=(none,())) ?_ (λ_ _ q=>q) ⟨rfl,rfl⟩) ?_)
  ·rintro x c u _ _ ⟨rfl,rfl⟩;refine wpS_bind (wpS_get ?_);rw[zr (by rw[D.2.2.1];exact zi 1)];exact wpS_pure ⟨rfl,rfl⟩
  ·rintro c u ⟨rfl,rfl⟩;exact wpS_pure (h _ D.1 D.2.1 D.2.2.2)
def Old (a:Addr) (s s':Shared):Prop:=∀ c o,c≠a->s.heap.get? c=some o->s'.heap.get? c=some o
theorem afb {vs:List Value} {P:Fin->Shared->Prop} (ho:s.heap.get? a=some (seqObj "list" vs.toArray n)) (hK:2<=vs.length->∀ s',Old a s s'->∀ Q:SortKind->Shared->Prop,Q kd s'->wpAny (model prog w) A (keyKind' vs.toArray) Q E s') (hC:∀ s',Old a s s'->WL prog w A s' kd rk (pairsOf vs)) (h64:vs.length < 64) (h:∀ st:SortSt,(arrOf st).Perm (pairsOf vs)->Up rk (arrOf st) (pairsOf vs).size->P (.done (.ret .none)) { s with heap:=sortedHeap s.heap a vs ((arrOf st).map (·.2)) }) :
  wpAny (model prog w) A (Builtin.«list.sort» ⟨[.ref a],[]⟩) P E s:=by
 rw[list_sort_plain];have ha:=zw ho;refine zb (listItems_at ho rfl (zb (listUpdate_at ho rfl ?_)));obtain⟨e1,g1⟩:∃ e1,(s.heap.update a (Obj.mapSeq λ_=>#[])).get? a=some (seqObj "list" #[] e1):=⟨_,get?_update_seq ho λ_=>#[]⟩;refine zb (seqEpoch_at g1 rfl (zb (wpAny_newTuple (zb (wpAny_newList (Qr ?_))))));have z1:(s.heap.update a (Obj.mapSeq λ_=>#[])).objs.size=s.heap.objs.size:=Heap.size_update ..;have keep:∀ c,c < s.heap.objs.size->(((s.heap.update a (Obj.mapSeq λ_=>#[])).push (seqObj "tuple" vs.toArray 0)).push (seqObj "list" #[] 0)).get? c=(s.heap.update a (Obj.mapSeq λ_=>#[])).get? c:=λc hc=>by
  rw[Heap.get?_push_ne _ _ _ (by rw[size_push',z1];exact z5 (qS hc)),Heap.get?_push_ne _ _ _ (by rw[z1];exact z5 hc)]
 have g6:=(keep a ha).trans g1;have old:Old a s { s with heap:=((s.heap.update a (Obj.mapSeq λ_=>#[])).push (seqObj "tuple" vs.toArray 0)).push (seqObj "list" #[] 0) }:=λc o hc e=>by
  show(((s.heap.update a (Obj.mapSeq λ_=>#[])).push (seqObj "tuple" vs.toArray 0)).push (seqObj "list" #[] 0)).get? c=some o;rw[keep c (zw e),kM _ _ _ _ hc];exact e
 show wpAny _ _ _ _ _ { s with heap:=((s.heap.update a (Obj.mapSeq λ_=>#[])).push (seqObj "tuple" vs.toArray 0)).push (seqObj "list" #[] 0) };have hz:vs.toArray.size=vs.length:=by simp
 have lz:∀ st:SortSt,(arrOf st).Perm (pairsOf vs)->((arrOf st).map (·.2)).size<=sizeLine+1:=λst hp=>by
  have q:((arrOf st).map (·.2)).size=vs.length:=(Array.size_map ..).trans (hp.size_eq.trans (pairsOf_size _));rw[q,sizeLine_eq];omega
 by_cases h2:vs.toArray.size < 2
 ·simp only[zr h2];refine zb (zd ?_);rw[StateT.run_pure];refine zb (zd (zb (seqEpoch_at g6 rfl (zb (listUpdate_at g6 rfl ?_ (hsz2:=lz (SortSt.mk' general' (pairsOf vs) #[] 7 none) (Array.Perm.refl _)))))));simp only[bne_self_eq_false,zh,Zl];refine zd (h (SortSt.mk' general' (pairsOf vs) #[] 7 none) (Array.Perm.refl _) λi j hij hj=>?_);rw[pairsOf_size] at hj;rw[show i=j by omega];exact zi _
 ·simp only[zz h2];refine zb (hK (by omega) _ old _ ?_);refine zb (qo (runs (hC _ old) (st:=SortSt.mk' kd (pairsOf vs) #[] 7 none) (Q:=λ_ t=>(arrOf t).Perm (pairsOf vs)/\failedOf t=none/\Up rk (arrOf t) (pairsOf vs).size) ⟨Array.Perm.refl _,rfl,rfl,rfl⟩ (by rw[pairsOf_size];omega) (by rw[pairsOf_size];exact h64) λt q1 q2 q3=>⟨q1,q2,q3⟩) ?_ λ_ _ q=>q);rintro⟨⟨⟩,t⟩ s' ⟨rfl,hp,hf,up⟩;dsimp only;refine zb (seqEpoch_at g6 rfl (zb (listUpdate_at g6 rfl ?_ (hsz2:=lz t hp))));rw[hf];simp only[bne_self_eq_false,zh,Zl];exact zd (h t hp up)
end
end S1
namespace S1
open L2
theorem Us (fb:Bool) (x y:Value):keyLt' (tuples' fb) x y=(do
  let xs <-Builtin.List.listItems x
  let ys <-Builtin.List.listItems y
  for ((p,q),i) in (xs.toList.zip ys.toList).zipIdx do
   if !(<-eqBool p q) then return <-oneLt' (fb&&i==0) p q
  return decide (xs.size < ys.size)):=rfl
def R9:Key->Key->Bool
 |.inl a,.inl b=>decide (a < b)
 |.inr x,.inr y=>decide (x.cps.toList < y.cps.toList)
 |.inl _,.inr _=>true
 |.inr _,.inl _=>false
def M5:Key->Key->Bool
 |.inl _,.inl _=>true
 |.inr _,.inr _=>true
 |_,_=>false
def gk:List Key->List Key->Bool
 |[],[]=>false
 |[],_::_=>true
 |_::_,[]=>false
 |x::xs,y::ys=>if x=y then gk xs ys else R9 x y
def WM:List Key->List Key->Prop
 |x::xs,y::ys=>M5 x y=true/\WM xs ys
 |_,_=>True
theorem key_eq {x y:Key} {p q:Value} {Q:Bool->Shared->Prop} (hp:j7 x p=true) (hq:j7 y q=true) (h:Q (decide (x=y)) s):wpAny (model prog w) A (eqBool p q) Q E s:=
 (cH prog w).eqBool (a:=x) (b:=y) hp hq h
theorem adg {fb:Bool} {x y:Key} {p q:Value} {Q:Bool->Shared->Prop} (hs:M5 x y=true) (hp:j7 x p=true) (hq:j7 y q=true) (h:Q (R9 x y) s):wpAny (model prog w) A (oneLt' fb p q) Q E s:=by
 rcases bI hp with⟨i,t,rfl,rfl⟩|⟨z,t,rfl,rfl⟩
 ·rcases bI hq with⟨j,u,rfl,rfl⟩|⟨z,u,rfl,rfl⟩
  ·cases fb with
   |true=>exact oneLt_int h
   |false=>
    rw[oneLt'_eq];simp only[zh,Zl];refine zb (show wpAny _ _ (compareOp .Lt (.int i t) (.int j u)) _ _ _ from lt_int ?_);exact qi h
  ·cases hs
 ·rcases bI hq with⟨j,u,rfl,rfl⟩|⟨z',u,rfl,rfl⟩
  ·cases hs
  ·cases fb with
   |true=>exact oneLt_str h
   |false=>
    rw[oneLt'_eq];simp only[zh,Zl];refine zb (show wpAny _ _ (compareOp .Lt (.str z t) (.str z' u)) _ _ _ from PySem.P.lt_str ?_);exact qi h
def Ks (ks:List Key) (its:List Value):Prop:=Paired (λk v=>j7 k v=true) ks its
def dif:List Key->List Key->Option Bool
 |x::xs,y::ys=>if x=y then dif xs ys else some (R9 x y)
 |_,_=>none
theorem WQ:∀ ks ls:List Key,gk ks ls=match dif ks ls with|some r=>r|none=>decide (ks.length < ls.length)
 |[],[]=>rfl
 |[],_::_=>by simp[gk,dif]
 |_::_,[]=>rfl
 |x::xs,y::ys=>by
  simp only[gk,dif];by_cases e:x=y
  ·rw[zr e,zr e,WQ xs ys];simp only[ZN,Nat.add_lt_add_iff_right]
  ·rw[zz e,zz e]
def turn (fb:Bool):(Value×Value)×Nat->Option Bool×Unit->Sem (ForInStep (Option Bool×Unit)):=λx _=>match x with
 |((p,q),i)=>do
  let e <-eqBool p q
  if(!e)=true then do
    let r <-oneLt' (fb&&i==0) p q
    pure (ForInStep.done (some r,()))
   else pure (ForInStep.yield (none,()))
theorem walk (fb:Bool):∀ (ks ls:List Key) (its jts:List Value) (i:Nat) (R:Option Bool×Unit->Shared->Prop),Ks ks its->Ks ls jts->WM ks ls->R (dif ks ls,()) s->wpAny (model prog w) A (forIn ((its.zip jts).zipIdx i) ((none,()):Option Bool×Unit) (turn fb)) R E s
 |[],_,_,_,_,R,.nil,_,_,h=>zd h
 |_::_,[],_::_,_,_,R,_,.nil,_,h=>zd h
 |x::xs,y::ys,p::its,q::jts,i,R,.cons hp hk,.cons hq hl,hs,h=>by
  rw[kT,List.zipIdx_cons,List.forIn_cons];refine zb ?_;show wpAny _ _ (eqBool p q >>= _) _ _ _;refine zb (key_eq hp hq ?_);by_cases e:x=y
  ·simp only[e,kA,QY,zh,Zl];refine zd (walk fb xs ys its jts (i+1) R hk hl hs.2 ?_);simp only[dif,zr e] at h;exact h
  ·simp only[e,JU,jI,ZZ];refine zb (adg hs.1 hp hq (zd (zd ?_)));simp only[dif,zz e] at h;exact h
theorem adh {fb:Bool} {c:Addr} {oa oc:Obj} {jts:List Value} {ls:List Key} {Q:Bool->Shared->Prop} (ha:s.heap.get? a=some oa) (da:oa.data=.seq its.toArray n) (hc:s.heap.get? c=some oc) (dc:oc.data=.seq jts.toArray m) (hk:Ks ks its) (hl:Ks ls jts) (hs:WM ks ls) (h:Q (gk ks ls) s):wpAny (model prog w) A (keyLt' (tuples' fb) (.ref a) (.ref c)) Q E s:=by
 rw[Us];refine zb (listItems_at ha da (zb (listItems_at hc dc ?_)));have hl1:its.length=ks.length:=(Paired.length hk).symm;have hl2:jts.length=ls.length:=(Paired.length hl).symm;refine zb (walk fb ks ls its jts 0 _ hk hl hs ?_);rw[WQ] at h;cases e:dif ks ls with
 |some r=>rw[e] at h;exact zd h
 |none=>
  rw[e] at h;refine zd ?_;simpa[hl1,hl2] using h
theorem Z9 (x:Key):R9 x x=false:=by
 cases x with
 |inl a=>simp[R9]
 |inr a=>simp[R9]
theorem Ut {x y z:Key} (h:R9 x y=true) (h':R9 y z=true):R9 x z=true:=by
 cases x<;>cases y<;>cases z<;>simp only[R9,qE,zh,reduceCtorEq] at h h' ⊢
 ·omega
 ·exact List.lt_trans h h'
theorem aac {x y:Key} (h:R9 x y=false) (h':R9 y x=false):x=y:=by
 cases x<;>cases y<;>simp only[R9,QQ,Bool.true_eq_false,reduceCtorEq] at h h'
 ·congr 1;omega
 ·rename_i a b;have:=List.le_antisymm (as:=a.cps.toList) (bs:=b.cps.toList) h' h;cases a;cases b;simp only at this;rw[Array.toList_inj.mp this]
theorem u6:∀ xs:List Key,gk xs xs=false
 |[]=>rfl
 |x::xs=>by simp only[gk,ZZ];exact u6 xs
theorem jL:∀ {xs ys zs:List Key},gk xs ys=true->gk ys zs=true->gk xs zs=true
 |[],[],_,h,_=>by cases h
 |[],_::_,[],_,h'=>by cases h'
 |[],_::_,_::_,_,_=>rfl
 |_::_,[],_,h,_=>by cases h
 |_::_,_::_,[],_,h'=>by cases h'
 |x::xs,y::ys,z::zs,h,h'=>by
  simp only[gk] at h h' ⊢;by_cases e1:x=y
  ·subst e1;rw[zr rfl] at h;by_cases e2:x=z
   ·subst e2;rw[zr rfl] at h' ⊢;exact jL h h'
   ·rw[zz e2] at h' ⊢;exact h'
  ·rw[zz e1] at h;by_cases e2:y=z
   ·subst e2;rw[zz e1];exact h
   ·rw[zz e2] at h';have:=Ut h h';rw[zz (λe=>by subst e;rw[Z9] at this;cases this)];exact this
theorem u9:∀ {xs ys:List Key},gk xs ys=false->gk ys xs=false->xs=ys
 |[],[],_,_=>rfl
 |[],_::_,h,_=>by cases h
 |_::_,[],_,h'=>by cases h'
 |x::xs,y::ys,h,h'=>by
  simp only[gk] at h h';by_cases e:x=y
  ·subst e;rw[zr rfl] at h h';rw[u9 h h']
  ·rw[zz e] at h;rw[zz (kv e)] at h';exact absurd (aac h h') e
def wH (xs ys:List Key):Bool:=!gk ys xs
theorem Dz (a b c:List Key) (h:wH a b=true) (h':wH b c=true):wH a c=true:=by
 unfold wH at *
 simp only[Q4] at *
 cases hc:gk c a with
 |false=>rfl
 |true=>
  cases hab:gk a b with
  |true=>rw[jL hc hab] at h';cases h'
  |false=>
   have e:=u9 hab h;subst e;rw[hc] at h';cases h'
theorem DG (a b:List Key):(wH a b||wH b a)=true:=by
 unfold wH;cases h:gk b a with
 |false=>rfl
 |true=>
  cases h':gk a b with
  |false=>rfl
  |true=>have:=jL h h';rw[u6] at this;cases this
theorem Uu {a b:List Key} (h:wH a b=true) (h':wH b a=true):a=b:=by
 unfold wH at *
 simp only[Q4] at *
 exact u9 h' h
theorem Ag {α:Type} {le:α->α->Prop} (anti:∀ a b,le a b->le b a->a=b):∀ {l l':List α},l.Perm l'->l.Pairwise le->l'.Pairwise le->l=l'
 |[],l',h,_,_=>by rw[List.nil_perm.mp h]
 |a::l,[],h,_,_=>by cases List.perm_nil.mp h
 |a::l,b::l',h,p,p'=>by
  have e:a=b:=by
   have ha:a∈b::l':=h.mem_iff.mp (zk ..);have hb:b∈a::l:=h.mem_iff.mpr (zk ..);rcases List.mem_cons.mp ha with h1|h1
   ·exact h1
   ·rcases List.mem_cons.mp hb with h2|h2
    ·exact h2.symm
    ·exact anti a b (QE p h2) (QE p' h1)
  subst e;rw[Ag anti ((List.perm_cons a).mp h) (List.pairwise_cons.mp p).2 (List.pairwise_cons.mp p').2]
def nY (cR:List (List Key)):List (List Key):=cR.mergeSort wH
theorem pY (cR:List (List Key)):(nY cR).Perm cR:=List.mergeSort_perm ..
theorem vA (cR:List (List Key)):(nY cR).Pairwise (λa b=>wH a b=true):=KL Dz DG cR
theorem vX {out:List (List Key)} (hp:out.Perm cR) (hs:out.Pairwise (λa b=>wH a b=true)):out=nY cR:=Ag (λ_ _=>Uu) (hp.trans (pY cR).symm) hs (vA cR)
def rank (cR:List (List Key)) (k:List Key):Nat:=cR.countP λu=>gk u k
theorem Ip {α:Type} {p q:α->Bool}:∀ {l:List α},(∀ x∈l,p x=true->q x=true)->(∃ x∈l,p x=false/\q x=true)->l.countP p < l.countP q
 |[],_,⟨x,hx,_⟩=>by cases hx
 |a::l,h,⟨x,hx,h1,h2⟩=>by
  have le:l.countP p<=l.countP q:=List.countP_mono_left λy hy=>h y (zo _ hy);rw[List.countP_cons,List.countP_cons];rcases List.mem_cons.mp hx with rfl|hx
  ·rw[h1,h2];simp;omega
  ·have:=Ip (λy hy=>h y (zo _ hy)) ⟨x,hx,h1,h2⟩;have ha:=h a (zk ..);cases hp:p a with
   |true=>rw[ha hp];simp;omega
   |false=>simp;omega
theorem Sd {a b:List Key} (ha:a∈cR):decide (rank cR a < rank cR b)=gk a b:=by
 cases h:gk a b with
 |true=>
  refine zS (Ip (λu _ hu=>jL hu h) ⟨a,ha,u6 a,h⟩)
 |false=>
  refine ZT (Nat.not_lt.mpr (List.countP_mono_left λu _ hu=>?_));cases hb:gk b a with
  |true=>exact jL hu hb
  |false=>rw[u9 h hb];exact hu
def j5 (h:Heap) (ks:List Key) (v:Value):Prop:=∃ (a:Addr) (o:Obj) (its:List Value) (n:Nat),v=.ref a/\h.get? a=some o/\o.cls=.type "tuple" ∧ o.data=.seq its.toArray n/\Ks ks its
theorem j5.keep {h':Heap} (q:j5 h ks v) (k:∀ c o,h.get? c=some o->h'.get? c=some o):j5 h' ks v:=by
 obtain⟨a,o,its,n,e,g,c,d,p⟩:=q;exact⟨a,o,its,n,e,k _ _ g,c,d,p⟩
theorem aad {k l:Key} (h:j7 k v=true) (h':j7 l v=true):k=l:=by
 rcases bI h with⟨i,t,rfl,rfl⟩|⟨x,t,rfl,rfl⟩
 ·rcases bI h' with⟨j,u,rfl,e⟩|⟨y,u,rfl,e⟩
  ·cases e;rfl
  ·cases e
 ·rcases bI h' with⟨j,u,rfl,e⟩|⟨y,u,rfl,e⟩
  ·cases e
  ·cases e;rfl
theorem Ks.inj:∀ {ks ls:List Key} {its:List Value},Ks ks its->Ks ls its->ks=ls
 |_,_,[],h,h'=>by cases h;cases h';rfl
 |_,_,v::its,h,h'=>by
  cases h with
  |cons p t=>cases h' with
   |cons p' t'=>rw[aad p p',Ks.inj t t']
theorem j5.inj {h:Heap} {ks ls:List Key} {v:Value} (q:j5 h ks v) (q':j5 h ls v):ks=ls:=by
 obtain⟨a,o,its,n,rfl,g,c,d,p⟩:=q;obtain⟨a',o',its',n',e,g',c',d',p'⟩:=q';cases e;rw[g] at g';cases g';rw[d] at d';injection d' with e1 e2;have e3:its=its':=by simpa using congrArg Array.toList e1
 subst e3;exact p.inj p'
theorem J1 {α β:Type} {f:α->Sem β}:∀ (xs:List α) (ys:List β) (Q:List β->Shared->Prop),Paired (λx y=>∀ (E':VP_) (Q':β->Shared->Prop),Q' y s->wpAny (model prog w) A (f x) Q' E' s) xs ys->Q ys s->wpAny (model prog w) A (xs.mapM f) Q E s
 |[],_,Q,.nil,h=>by rw[List.mapM_nil];exact zd h
 |x::xs,y::ys,Q,.cons h t,q=>by
  rw[List.mapM_cons];exact zb (h _ _ (zb (J1 xs ys _ t (zd q))))
theorem WR (v:Value):firstOfTuple' v=(do
  if(<-typeOf v) != .type "tuple" then return none
  return (<-Builtin.List.listItems v)[0]?):=rfl
theorem Uv {k:Key} (q:j5 s.heap (k::ks) v):∃ u,j7 k u=true/\∀ (E':VP_) (Q':Option Value->Shared->Prop),Q' (some u) s->wpAny (model prog w) A (firstOfTuple' v) Q' E' s:=by
 obtain⟨a,o,its,n,rfl,g,c,d,p⟩:=q;cases p with
 |@cons _ u _ its hp t=>
  refine⟨u,hp,λE' Q' h=>?_⟩;rw[WR];refine zb (QO (T := "tuple") ⟨o,g,c⟩ ?_);rw[zz (by decide)];exact zb (listItems_at g d (zd h))
theorem WT {k:Key} (h:j7 k u=true) (E':VP_) (Q':VP_) (q:Q' (.type (if k.isLeft then "int" else "str")) s):wpAny (model prog w) A (typeOf u) Q' E' s:=by
 rcases bI h with⟨i,t,rfl,rfl⟩|⟨x,t,rfl,rfl⟩
 ·exact QO (typeIs_int s i t) q
 ·exact QO (typeIs_str s x t) q
theorem Uw {vs:List Value} {Q:SortKind->Shared->Prop} (hv:Paired (j5 s.heap) cR vs) (hne:∀ k∈cR,k≠[]) (hsh:∀ k∈cR,∀ l∈cR,WM k l) (h2:1<=vs.length) (h:Q (tuples' true) s):wpAny (model prog w) A (keyKind' vs.toArray) Q E s:=by
 have step:∀ (cR:List (List Key)) (vs:List Value),Paired (j5 s.heap) cR vs->(∀ k∈cR,k≠[])->∃ us:List Value,Paired (λv u=>∀ (E':VP_) (Q':Option Value->Shared->Prop),Q' (some u) s->wpAny (model prog w) A (firstOfTuple' v) Q' E' s) vs us/\Paired (λ(k:List Key) u=>∃ x r,k=x::r/\j7 x u=true) cR us:=by
  intro cR vs hv
  induction hv with
  |nil=>intro _;exact⟨[],.nil,.nil⟩
  |@cons k v cR vs q t ih=>
   intro hne;obtain⟨us,p1,p2⟩:=ih λk hk=>hne k (zo _ hk);cases k with
   |nil=>exact absurd rfl (hne _ (zk ..))
   |cons x r=>
    obtain⟨u,hu,hw⟩:=Uv (prog:=prog) (w:=w) (A:=A) q;exact⟨u::us,.cons hw p1,.cons ⟨x,r,rfl,hu⟩ p2⟩
 obtain⟨us,p1,p2⟩:=step cR vs hv hne;have hlen:us.length=vs.length:=(Paired.length p1).symm;have lift:∀ {l:List Value} {ws:List Value},Paired (λv u=>∀ (E':VP_) (Q':Option Value->Shared->Prop),Q' (some u) s->wpAny (model prog w) A (firstOfTuple' v) Q' E' s) l ws->Paired (λv u=>∀ (E':VP_) (Q':Option Value->Shared->Prop),Q' u s->wpAny (model prog w) A (firstOfTuple' v) Q' E' s) l (ws.map some):=λh=>by
  induction h with
  |nil=>exact .nil
  |cons q t ih=>exact .cons q ih
 rw[keyKind'_eq,List.mapM_toArray,map_eq_pure_bind];refine zb (zb (J1 vs (us.map some) _ (lift p1) (zd ?_)));have hall:(us.map some).toArray.all (·.isSome)=true:=by simp
 rw[zr hall];refine zb (JO ?_);have hf:(us.map some).toArray.filterMap id=us.toArray:=by simp
 rw[hf,oneTypeOnly'_eq,List.mapM_toArray,map_eq_pure_bind];have ty:∀ (cR:List (List Key)) (us:List Value),Paired (λ(k:List Key) u=>∃ x r,k=x::r/\j7 x u=true) cR us->∃ ts:List Value,Paired (λu t=>∀ (E':VP_) (Q':VP_),Q' t s->wpAny (model prog w) A (typeOf u) Q' E' s) us ts/\Paired (λ(k:List Key) t=>∃ x r,k=x::r/\t=.type (if x.isLeft then "int" else "str")) cR ts:=by
  intro cR us hp
  induction hp with
  |nil=>exact⟨[],.nil,.nil⟩
  |@cons k u cR us q t ih=>
   obtain⟨ts,q1,q2⟩:=ih;obtain⟨x,r,rfl,hx⟩:=q;exact⟨_::ts,.cons (λE' Q' h=>WT hx E' Q' h) q1,.cons ⟨x,r,rfl,rfl⟩ q2⟩
 obtain⟨ts,q1,q2⟩:=ty cR us p2;refine zb (zb (zb (J1 us ts _ q1 (zd ?_))));have lt:ts.length=vs.length:=by rw[<-Paired.length q1,hlen]
 cases q2 with
 |nil=>simp at lt;omega
 |@cons k0 t0 aiW ts' h0 r0=>
  obtain⟨x0,r,rfl,rfl⟩:=h0;have same:∀ t∈ts',t=Value.type (if x0.isLeft then "int" else "str"):=by
   have aux:∀ (cR:List (List Key)) (ts:List Value),Paired (λ(k:List Key) t=>∃ x r,k=x::r/\t=Value.type (if x.isLeft then "int" else "str")) cR ts->(∀ k∈cR,WM (x0::r) k)->∀ t∈ts,t=Value.type (if x0.isLeft then "int" else "str"):=by
    intro cR ts hp
    induction hp with
    |nil=>intro _ t ht;cases ht
    |@cons k t cR ts q _ ih=>
     intro hs u hu;rcases List.mem_cons.mp hu with rfl|hu
     ·obtain⟨x,r',rfl,rfl⟩:=q;have:=(hs _ (zk ..)).1;cases x0<;>cases x<;>first|rfl|cases this
     ·exact ih (λk hk=>hs k (zo _ hk)) u hu
   exact aux _ _ r0 λk hk=>hsh _ (zk ..) k (zo _ hk)
  have e0:(Value.type (if x0.isLeft then "int" else "str")::ts').toArray[0]?=some (Value.type (if x0.isLeft then "int" else "str")):=by simp
  have e1:((Value.type (if x0.isLeft then "int" else "str")::ts').toArray.all λx=>x==Value.type (if x0.isLeft then "int" else "str"))=true:=by
   simp only[List.all_toArray,qf];intro t ht;rcases List.mem_cons.mp ht with rfl|ht
   ·simp
   ·rw[same t ht];simp
  rw[e0];simp only[e1,ZZ];refine zd (zd ?_);have e2:((some (Value.type (if x0.isLeft then "int" else "str"))).any λx=>x != Value.type "tuple")=true:=by
   cases x0 with
   |inl _=>exact(by decide:((some (Value.type "int")).any λx=>x != Value.type "tuple")=true)
   |inr _=>exact(by decide:((some (Value.type "str")).any λx=>x != Value.type "tuple")=true)
  rw[e2];exact h
def keyOf (cR:List (List Key)) (vs:List Value) (v:Value):List Key:=match (vs.zip cR).find? (λp=>p.1==v) with
 |some p=>p.2
 |none=>[]
theorem lR {h:Heap}:∀ {cR:List (List Key)} {vs:List Value},Paired (j5 h) cR vs->∀ v∈vs,keyOf cR vs v∈cR/\j5 h (keyOf cR vs v) v
 |_,_,.nil,v,hv=>by cases hv
 |k::cR,u::vs,.cons q t,v,hv=>by
  unfold keyOf;rw[kT,List.find?_cons];by_cases e:u=v
  ·subst e;simp only[beq_self_eq_true];exact⟨zk ..,q⟩
  ·have e':(u==v)=false:=by simpa using e
   simp only[e'];have hv':v∈vs:=by
    rcases List.mem_cons.mp hv with h|h
    ·exact absurd h.symm e
    ·exact h
   have ih:=lR t v hv';exact⟨zo _ ih.1,ih.2⟩
theorem Ah {h:Heap}:∀ {cR:List (List Key)} {vs:List Value},Paired (j5 h) cR vs->∀ (K:Value->List Key),(∀ v∈vs,j5 h (K v) v)->vs.map K=cR
 |_,_,.nil,_,_=>rfl
 |k::cR,v::vs,.cons q t,K,hK=>by
  rw[zC,(hK v (zk ..)).inj q,Ah t K λu hu=>hK u (zo _ hu)]
theorem xK {h:Heap}:∀ {vs:List Value} {K:Value->List Key},(∀ v∈vs,j5 h (K v) v)->Paired (j5 h) (vs.map K) vs
 |[],_,_=>.nil
 |v::vs,K,hK=>.cons (hK v (zk ..)) (xK λu hu=>hK u (zo _ hu))
theorem WW {vs:List Value} (hv:Paired (j5 s.heap) cR vs) (hsh:∀ k∈cR,∀ l∈cR,WM k l):WL prog w A s (tuples' true) (λv=>rank cR (keyOf cR vs v)) (pairsOf vs):=by
 intro E p q Q hp hq h;rw[pairsOf_toList] at hp hq;obtain⟨m1,t1⟩:=lR hv p.1 (mem_zip_self hp).2;obtain⟨m2,t2⟩:=lR hv q.1 (mem_zip_self hq).2;rw[Sd m1] at h;have sh:=hsh _ m1 _ m2;obtain⟨a,o,its,n,e,g,c,d,k⟩:=t1;obtain⟨a',o',its',n',e',g',c',d',k'⟩:=t2;rw[e,e'];exact adh g d g' d' k k' sh h
theorem WX {vs:List Value} (hv:Paired (j5 h) cR vs) {xs:Array Keyed} (hp:xs.Perm (pairsOf vs)) (up:Up (λv=>rank cR (keyOf cR vs v)) xs (pairsOf vs).size):Paired (j5 h) (nY cR) (xs.map (·.2)).toList:=by
 have hl:xs.toList.Perm (vs.zip vs):=by rw[<-pairsOf_toList];exact Array.perm_iff_toList_perm.mp hp
 have hm:∀ p∈xs.toList,p.1=p.2/\p.1∈vs:=λp q=>mem_zip_self (hl.mem_iff.mp q);have e:(xs.map (·.2)).toList=xs.toList.map (·.1):=by
  rw[Array.toList_map];exact kb λp q=>(hm p q).1.symm
 have pv:(xs.toList.map (·.1)).Perm vs:=by
  have:=hl.map Prod.fst;rwa [List.map_fst_zip (zi _)] at this
 have key:nY cR=(xs.toList.map (·.1)).map (keyOf cR vs):=by
  refine(vX ?_ ?_).symm
  ·have:=pv.map (keyOf cR vs);rwa [Ah hv _ λv q=>(lR hv v q).2] at this
  ·rw[List.pairwise_iff_getElem];intro i j hi hj hij;have hi':i < xs.size:=by simpa using hi
   have hj':j < xs.size:=by simpa using hj
   have u:=up i j (QU hij) (by rw[<-hp.size_eq];exact hj');unfold at_ at u;rw[getElem?_pos xs i hi',getElem?_pos xs j hj'] at u;have m2:=(lR hv xs[j].1 (hm xs[j] (by simp)).2).1;simp only[List.getElem_map,Array.getElem_toList];unfold wH;rw[<-Sd m2,ZT (Nat.not_lt.mpr u)];rfl
 rw[key,e];refine xK λv q=>(lR hv v ?_).2;exact pv.mem_iff.mp q
end S1
namespace P1
open L2 S1
def adi:Dt->Option Key
 |.int i=>some (.inl i)
 |.str x=>some (.inr x)
 |_=>none
def Ir:List Dt->Option (List Key)
 |[]=>some []
 |d::ds=>(adi d).bind λk=>(Ir ds).bind λks=>some (k::ks)
def Ai:Dt->Option (List Key)
 |.tup ds=>Ir ds
 |_=>none
def zO:List Dt->Option (List (List Key))
 |[]=>some []
 |d::ds=>(Ai d).bind λk=>(zO ds).bind λks=>some (k::ks)
def dK:Key->Dt
 |.inl i=>.int i
 |.inr x=>.str x
def tupK (ks:List Key):Dt:=.tup (ks.map dK)
theorem aae {k:Key} (h:adi d=some k):d=dK k:=by
 cases d<;>cases h<;>rfl
theorem M6:∀ {ds:List Dt} {ks:List Key},Ir ds=some ks->ds=ks.map dK
 |[],_,h=>by cases h;rfl
 |d::ds,_,h=>by
  obtain⟨k,e1,h⟩:=bind_some h;obtain⟨ks,e2,h⟩:=bind_some h;cases h;rw[zC,aae e1,M6 e2]
theorem rH (h:Ai d=some ks):d=tupK ks:=by
 cases d with
 |tup ds=>exact congrArg Dt.tup (M6 h)
 |_=>cases h
theorem Iu:∀ {ds:List Dt} {cR:List (List Key)},zO ds=some cR->ds=cR.map tupK
 |[],_,h=>by cases h;rfl
 |d::ds,_,h=>by
  obtain⟨k,e1,h⟩:=bind_some h;obtain⟨ks,e2,h⟩:=bind_some h;cases h;rw[zC,rH e1,Iu e2]
theorem aaf {k:Key} {v:V} (h:Rep K H (dK k) v):v=kV k:=by
 cases k with
 |inl i=>exact(show v=.int i by simpa only[dK,Rep] using h)
 |inr x=>exact(show v=.str x/\x.length<=sizeLine by simpa only[dK,Rep] using h).1
theorem vY {K:FG_} {H:Hp}:∀ {ks:List Key} {vs:List V},aM K H (ks.map dK) vs->vs=ks.map kV
 |[],_,h=>by simp only[j0,aM] at h;exact h
 |k::ks,_,h=>by
  simp only[zC,aM] at h;obtain⟨v,r,rfl,h1,h2⟩:=h;rw[aaf h1,vY h2,zC]
theorem WY (X:Cx):∀ {us:List Value},Vals (ks.map kV) us->Ks ks us:=by
 induction ks with
 |nil=>intro us h;cases h;exact .nil
 |cons k ks ih=>
  intro us h;cases h with
  |cons r t=>exact .cons (aeQ (P:=X.prog) (w:=X.w) r) (ih t)
theorem sS {pins:List (Addr×Obj)} {σ:L2.St} {H:Hp} {s:Shared} (I:Inv X pins σ H s):∀ {cR:List (List Key)} {vs:List V} {its:List Value},aM X.K H (cR.map tupK) vs->Vals vs its->Paired (j5 s.heap) cR its
 |[],_,_,h,r=>by
  simp only[j0,aM] at h;subst h;cases r;exact .nil
 |k::cR,_,_,h,r=>by
  simp only[zC,aM] at h;obtain⟨v,vs,rfl,h1,h2⟩:=h;cases r with
  |cons r1 r2=>
   refine .cons ?_ (sS I h2 r2);simp only[tupK,Rep] at h1;obtain⟨a,ws,rfl,sq,rs⟩:=h1;obtain⟨its,rv,⟨o,g,c,n,d⟩,_⟩:=I.tuple sq;cases r1;rw[vY rs] at rv;exact⟨a,o,its,n,rfl,g,c,d,WY X rv⟩
theorem Iv {pins:List (Addr×Obj)} {σ:L2.St} {H:Hp} {s:Shared} (I:Inv X pins σ H s) {cR:List (List Key)} {vs:List V} {its:List Value} (h:aM X.K H (cR.map tupK) vs) (r:Vals vs its):∀ {Vs:List (List Key)} {out:List Value},Paired (j5 s.heap) Vs out->(∀ u∈out,u∈its)->∃ zs,Vals zs out/\aM X.K H (Vs.map tupK) zs
 |_,_,.nil,_=>⟨[],.nil,aM.nil⟩
 |l::Vs,u::out,.cons q t,hm=>by
  obtain⟨zs,z1,z2⟩:=Iv I h r t λx hx=>hm x (zo _ hx);have aux:∀ (cR:List (List Key)) (vs:List V) (its:List Value),aM X.K H (cR.map tupK) vs->Vals vs its->u∈its->∃ v,RelV v u/\Rep X.K H (tupK l) v:=by
   intro cR
   induction cR with
   |nil=>
    intro vs its h r hu;simp only[j0,aM] at h;subst h;cases r;cases hu
   |cons k cR ih=>
    intro vs its h r hu;simp only[zC,aM] at h;obtain⟨v,vs,rfl,h1,h2⟩:=h;cases r with
    |@cons _ u' _ _ r1 r2=>
     rcases List.mem_cons.mp hu with rfl|hu
     ·have e:k=l:=by
       have:=sS I (cR:=[k]) (vs:=[v]) (its:=[u]) (by simp only[zC,j0];exact aM.cons h1 aM.nil) (.cons r1 .nil);cases this with
       |cons q' _=>exact q'.inj q
      subst e;exact⟨v,r1,h1⟩
     ·exact ih vs _ h2 r2 hu
  obtain⟨v,r1,h1⟩:=aux cR vs its h r (hm u (zk ..));exact⟨v::zs,.cons r1 z1,by rw[zC];exact aM.cons h1 z2⟩
def M7 (k l:List Key):Bool:=((k.zip l).all λp=>M5 p.1 p.2)
theorem J2:∀ {k l:List Key},M7 k l=true->WM k l
 |[],_,_=>by simp[WM]
 |_::_,[],_=>by simp[WM]
 |x::k,y::l,h=>by
  unfold M7 at h;rw[kT,jn,ZE] at h;exact⟨h.1,J2 h.2⟩
def M8 (cR:List (List Key)):Bool:=decide (cR.length < 64)&&(cR.all (λk=>!k.isEmpty)&&cR.all λk=>cR.all λl=>M7 k l)
theorem aag {v:V} (h:bh K H b v) (e:wG b=some ds):∃ a vs,v=.ref a/\(rY K H a vs\/xX K H a vs)/\aM K H ds vs:=by
 cases b with
 |z d=>
  cases d<;>first|(cases e;done)|skip
  ·cases e;simp only[bh,Rep] at h;obtain⟨a,vs,e,q,r⟩:=h;exact⟨a,vs,e,.inr q,r⟩
  ·cases e;simp only[bh,Rep] at h;obtain⟨a,vs,e,q,r⟩:=h;exact⟨a,vs,e,.inl q.sq,r⟩
 |l ds'=>cases e;obtain⟨a,vs,e,q,r⟩:=h;exact⟨a,vs,e,.inl (.inl q),r⟩
 |o ds'=>cases e;obtain⟨a,vs,e,q,r⟩:=h;exact⟨a,vs,e,.inl (.inl (.inl q)),r⟩
 |n _=>cases e
 |m _ _=>cases e
end P1
namespace S6
theorem Ux {src:Source} {Q:Nat->Shared->Prop} (hn:n≠0) (h:∀ i d,i < n->Q i { s with drawn:=d }):wpAny M A (choose src n) Q E s:=
 λΓ p hΓ=>⟨hn,h _ _ (Nat.mod_lt _ (Nat.pos_of_ne_zero hn))⟩
theorem J3 {α:Type}:∀ {xs:List α} {i:Nat} (hi:i < xs.length),(xs[i]::xs.eraseIdx i).Perm xs
 |x::xs,0,_=>List.Perm.refl _
 |x::xs,i+1,h=>by
  rw[List.eraseIdx_cons_succ,List.getElem_cons_succ];exact(List.Perm.swap _ _ _).trans ((J3 (xs:=xs) (i:=i) (by simpa using h)).cons x)
theorem aah:∀ (n:Nat) (xs:List α) (s:Shared) (Q:List α->Shared->Prop),xs.length=n->(∀ ys d,ys.Perm xs->Q ys { s with drawn:=d })->wpAny M A (drawOrder n xs) Q E s:=by
 intro n
 induction n with
 |zero=>
  intro xs s Q hl h;cases xs with
  |nil=>
   unfold drawOrder;exact zd (h [] s.drawn (List.Perm.refl _))
  |cons x xs=>simp at hl
 |succ n ih=>
  intro xs s Q hl h;cases xs with
  |nil=>simp at hl
  |cons x xs=>
   unfold drawOrder;refine zb (Ux (by simp) λi d hi=>?_);have e:(x::xs)[i]?=some (x::xs)[i]:=by simp[hi]
   rw[e];dsimp only;refine zb (ih ((x::xs).eraseIdx i) _ _ (by rw[List.length_eraseIdx,zr hi];simp at hl ⊢;omega) λys d' hp=>zd ?_);exact h _ d' ((List.Perm.cons _ hp).trans (J3 hi))
theorem Sg {α:Type} (next:Nat->Nat):∀ (n k:Nat) (xs:List α) (out:Array α),xs.length=n->(pickOrder.go next n k xs out).toList.Perm (out.toList++xs)
 |0,k,[],out,_=>by unfold pickOrder.go;simp
 |n+1,k,x::xs,out,hl=>by
  unfold pickOrder.go;have hi:next k % (x::xs).length < (x::xs).length:=Nat.mod_lt _ (by simp);have e:(x::xs)[next k % (x::xs).length]?=some (x::xs)[next k % (x::xs).length]:=by rw[zI hi]
  rw[e];dsimp only;refine(Sg next n (k+1) _ _ (by rw[List.length_eraseIdx,zr hi];simp at hl ⊢;omega)).trans ?_;rw[Array.toList_push,qV];exact(List.Perm.refl _).append (J3 hi)
theorem Uy (next:Nat->Nat) (xs:Array α):(pickOrder next xs).toList.Perm xs.toList:=by
 have:=Sg next xs.size 0 xs.toList #[] (by simp);simpa[pickOrder] using this
structure Wk (w:World) (h:Heap) (a:Addr) (es:Array (Int×Value)) (ep:Nat) (t:SetTable):Prop where
 at_:∃ o,h.get? a=some o/\o.cls=.type "set" ∧ o.data=.set es ep t
 fit:t.fits es.size=true
 led:w.params.followText "set-order" = false->t.led=true
 non:1 < es.size->t.plain=false
theorem Wk.keep {h':Heap} {es:Array (Int×Value)} (x:Wk w h a es ep t) (k:∀ o,h.get? a=some o->h'.get? a=some o):Wk w h' a es ep t:=
 ⟨let ⟨o,e,r⟩:=x.at_;⟨o,k o e,r⟩,x.fit,x.led,x.non⟩
def It (h:Heap) (it a:Addr) (first:Value) (i n ep:Nat):Prop:=∃ o,h.get? it=some o/\o.cls=.type "set_iterator" ∧ o.data=.fields #[first,.int (i:Int) 0,.ref a,.int (n:Int) 0,.int (ep:Int) 0]
theorem It.keep {h':Heap} {f:Value} (x:It h it a f i n ep) (k:∀ o,h.get? it=some o->h'.get? it=some o):It h' it a f i n ep:=
 let ⟨o,e,r⟩:=x;⟨o,k o e,r⟩
theorem It.ty {f:Value} (x:It s.heap it a f i n ep):s.TypeIs (.ref it) "set_iterator" := let ⟨o,e,c,_⟩:=x;⟨o,e,c⟩
theorem jd:Slot "set_iterator" "__next__" "set_iterator.__next__" :=
 .of (owner := "set_iterator") (n := "__next__") (by rw[typeLookup_type,builtinLookup_eq_fast];kernel_rfl) (by decide +kernel) (by decide +kernel) (by decide +kernel)
  (by first|exact .inl (by decide +kernel)|exact .inr (by decide +kernel)) (by rw[isSubtype_type];kernel_rfl)
theorem yK:Slot "set_iterator" "__iter__" "set_iterator.__iter__" :=
 .of (owner := "set_iterator") (n := "__iter__") (by rw[typeLookup_type,builtinLookup_eq_fast];kernel_rfl) (by decide +kernel) (by decide +kernel) (by decide +kernel)
  (by first|exact .inl (by decide +kernel)|exact .inr (by decide +kernel)) (by rw[isSubtype_type];kernel_rfl)
theorem GK:entryFor table "set_iterator.__next__" = some Builtin.«set_iterator.__next__»:=entryFor_of_tree (by kernel_rfl)
theorem Br:entryFor table "set.__iter__" = some Builtin.«frozenset.__iter__»:=entryFor_alias (id' := "frozenset.__iter__") (by kernel_rfl) rfl (by decide +kernel) (by kernel_rfl)
theorem GP:entryFor table "set_iterator.__iter__" = some Builtin.«dict_keyiterator.__iter__»:=entryFor_alias (id' := "dict_keyiterator.__iter__") (by kernel_rfl) rfl (by decide +kernel) (by kernel_rfl)
theorem W0:Manifest.owners.lookup (String.ofList "rotareti_tes".toList.reverse)=some Manifest.sig_set_iterator:=by kernel_rfl
theorem J4 (a:Value):argsOk "set_iterator.__next__" ⟨[a],[]⟩:=by
 unfold argsOk;rw[signature?_of (id := "set_iterator.__next__") (n := "__txen__".toList) (o := "rotareti_tes".toList) (by kernel_rfl) W0];kernel_rfl
theorem J5 (a:Value):argsOk "set_iterator.__iter__" ⟨[a],[]⟩:=by
 unfold argsOk;rw[signature?_of (id := "set_iterator.__iter__") (n := "__reti__".toList) (o := "rotareti_tes".toList) (by kernel_rfl) W0];kernel_rfl
section
variable {es:Array (Int×Value)}
theorem Cp {first:Value} (hit:It s.heap it a first i es.size ep) (hw:Wk w s.heap a es ep t) (h:wpAny (model prog w) A.in1 (if let .int slot _:=first then(do
    match <-setNext a slot.toNat (i:Int).toNat (ep:Int).toNat with
    |some (x,next)=>
     setField (.ref it) 0 (rawInt next)
     setField (.ref it) 1 (rawInt ((i:Int)+1))
     ret x
    |none=>setField (.ref it) 2 .none;raiseNew (<-newExc (.type "StopIteration") []))
   else(do
    let some places <-seqItems? first|unsupported "internal:set_iterator"
    match places[(i:Int).toNat]? with
    |some (.int place _)=>
     let x <-setNextDrawn a place.toNat (ep:Int).toNat
     setField (.ref it) 1 (rawInt ((i:Int)+1))
     ret x
    |some _=>unsupported "internal:set_iterator"
    |none=>setField (.ref it) 0 (rawInt 0);setField (.ref it) 2 .none;raiseNew (<-newExc (.type "StopIteration") []))) (λfin s'=>∃ v,fin=.done (.ret v)/\Q (some v) s') (λe s'=>s'.TypeIs e "StopIteration" ∧ Q none s') s):wpAny (model prog w) A (pyNext (.ref it)) Q E s:=by
 obtain⟨o,ho,hc,hd⟩:=id hit;obtain⟨oa,hoa,hca,hda⟩:=hw.at_;unfold pyNext;refine zb (wpAny_attempt (jS (name:=Str.ofString "__next__") hit.ty jd (QI jd hit.ty GK ?_ (J4 _))));unfold Builtin.«set_iterator.__next__»;refine zb (zd ?_);refine zb (wpAny_fieldsOf ho hd ?_);show wpAny _ _ (setEntries a >>= _) _ _ s;refine zb (wpAny_setEntries_of hoa hda hw.fit ?_);rw[zz (by simp)];refine qo h (λfin s' hq=>?_) λe s' hq=>?_
 ·obtain⟨v,rfl,hv⟩:=hq;exact⟨v,rfl,zd hv⟩
 ·refine zb (Q2 (T := "StopIteration") (b:=true) hq.1 isSubtype_stop ?_);exact zd hq.2
theorem Sh {hp:Heap} (hh:A.handled=none) (h:∀ h',(∀ b o,hp.get? b=some o->h'.get? b=some o)->Q none { s with heap:=h' }) :
  wpAny (model prog w) A.in1 (do raiseNew (<-newExc (.type "StopIteration") [])) (λ(fin:Fin) s'=>∃ v,fin=.done (.ret v)/\Q (some v) s') (λe s'=>s'.TypeIs e "StopIteration" ∧ Q none s') { s with heap:=hp }:=by
 refine zb ?_;simp only[newExc,newTuple];refine zb (qk ?_ (by size_fits));refine zb (m:=firstArgMember _ _) (wpAny_of_eq (a:=Value.none) (by first|rfl|(simp only[firstArgMember];rfl)) ?_);refine qk ?_ (by size_fits);simp only[raiseNew];refine zb (wpAny_handled ?_);rw[show A.in1.handled=none from hh];refine zb (zd (wpAny_throw ⟨⟨_,zv _ rfl,rfl⟩,?_⟩));exact h _ λb o e=>ze _ (ze _ e)
theorem It.put {f:Value} (hit:It h it a f i n ep) (x:Value):It (h.update it (Obj.mapFields (·.setIfInBounds 0 x))) it a x i n ep:=by
 obtain⟨o,ho,hc,hd⟩:=hit;exact⟨_,Heap.get?_update_self _ ho (Obj.isFreed_of_fields (kR hd _)),(Obj.cls_mapFields ..).trans hc,by rw[kR hd];simp⟩
theorem It.step {f:Value} (hit:It h it a f i n ep):It (h.update it (Obj.mapFields (·.setIfInBounds 1 (rawInt ((i:Int)+1))))) it a f (i+1) n ep:=by
 obtain⟨o,ho,hc,hd⟩:=hit;exact⟨_,Heap.get?_update_self _ ho (Obj.isFreed_of_fields (kR hd _)),(Obj.cls_mapFields ..).trans hc,by rw[kR hd];simp[rawInt]⟩
theorem It.field {f:Value} {x:Value} {Q:Unit->Shared->Prop} (hit:It s.heap it a f i n ep) (hk:k < 5) (h:Q () { s with heap:=s.heap.update it (Obj.mapFields (·.setIfInBounds k x)) }):wpAny (model prog w) A (setField (.ref it) k x) Q E s:=by
 obtain⟨o,ho,hc,hd⟩:=hit;exact wpAny_setField ho hd (by simpa using hk) h
theorem rJ {f:Obj->Obj} {b:Addr} {o:Obj} (hb:b≠it) (e:h.get? b=some o):(h.update it f).get? b=some o:=by rw[kM _ _ _ _ hb];exact e
theorem W2 {slot next:Nat} {x:Value} (hit:It s.heap it a (.int (slot:Int) 0) i es.size ep) (hw:Wk w s.heap a es ep t) (hS:∀ {A':Around} {E':VP_} {Q':Option (Value×Nat)->Shared->Prop},Q' (some (x,next)) s->wpAny (model prog w) A' (setNext a slot i ep) Q' E' s) (h:∀ h',It h' it a (.int (next:Int) 0) (i+1) es.size ep->(∀ b o,b≠it->s.heap.get? b=some o->h'.get? b=some o)->Q (some x) { s with heap:=h' }):wpAny (model prog w) A (pyNext (.ref it)) Q E s:=by
 refine Cp hit hw ?_;show wpAny _ _ (setNext a slot i ep >>= _) _ _ s;refine zb (hS ?_);refine zb (hit.field (by decide) ?_);refine zb ((hit.put _).field (s:={ s with heap:=_ }) (by decide) ?_);exact zd ⟨x,rfl,h _ ((hit.put _).step) λb o hb e=>rJ hb (rJ hb e)⟩
theorem DK {slot:Nat} (hh:A.handled=none) (hit:It s.heap it a (.int (slot:Int) 0) i es.size ep) (hw:Wk w s.heap a es ep t) (hS:∀ {A':Around} {E':VP_} {Q':Option (Value×Nat)->Shared->Prop},Q' none s->wpAny (model prog w) A' (setNext a slot i ep) Q' E' s) (h:∀ h',(∀ b o,b≠it->s.heap.get? b=some o->h'.get? b=some o)->Q none { s with heap:=h' }):wpAny (model prog w) A (pyNext (.ref it)) Q E s:=by
 refine Cp hit hw ?_;show wpAny _ _ (setNext a slot i ep >>= _) _ _ s;refine zb (hS ?_);refine zb (hit.field (by decide) (Sh hh λh' k=>h h' λb o hb e=>k b o (rJ hb e)))
theorem aai {tp:Addr} {ot:Obj} {x:Int×Value} (hit:It s.heap it a (.ref tp) i es.size ep) (hw:Wk w s.heap a es ep t) (ht:s.heap.get? tp=some ot) (hd:ot.data=.seq (pl.map λ(k:Nat)=>rawInt (k:Int)).toArray c) (hj:pl[i]?=some j) (hx:es[j]?=some x) (h:∀ h',It h' it a (.ref tp) (i+1) es.size ep->(∀ b o,b≠it->s.heap.get? b=some o->h'.get? b=some o)->Q (some x.2) { s with heap:=h' }):wpAny (model prog w) A (pyNext (.ref it)) Q E s:=by
 refine Cp hit hw ?_;show wpAny _ _ (seqItems? (.ref tp) >>= _) _ _ s;refine zb (m:=seqItems? (.ref tp)) ?_;unfold seqItems?;refine zb (wpAny_load ht ?_);rw[hd];refine zd ?_;dsimp only;rw[km,show((pl.map λ(k:Nat)=>rawInt (k:Int)).toArray)[i]?=some (rawInt (j:Int)) by simp[hj]];show wpAny _ _ (setNextDrawn a j ep >>= _) _ _ s;obtain⟨oa,hoa,hca,hda⟩:=hw.at_;refine zb (m:=setNextDrawn a j ep) ?_;unfold setNextDrawn;refine zb (qB hoa hda hw.fit ?_);dsimp only;rw[zz (by simp),hx];refine zd ?_;refine zb (hit.field (by decide) ?_);exact zd ⟨x.2,rfl,h _ hit.step λb o hb e=>rJ hb e⟩
theorem M9 {tp:Addr} {ot:Obj} (hh:A.handled=none) (hit:It s.heap it a (.ref tp) i es.size ep) (hw:Wk w s.heap a es ep t) (ht:s.heap.get? tp=some ot) (hd:ot.data=.seq (pl.map λ(k:Nat)=>rawInt (k:Int)).toArray c) (hj:pl[i]?=none) (h:∀ h',(∀ b o,b≠it->s.heap.get? b=some o->h'.get? b=some o)->Q none { s with heap:=h' }):wpAny (model prog w) A (pyNext (.ref it)) Q E s:=by
 refine Cp hit hw ?_;show wpAny _ _ (seqItems? (.ref tp) >>= _) _ _ s;refine zb (m:=seqItems? (.ref tp)) ?_;unfold seqItems?;refine zb (wpAny_load ht ?_);rw[hd];refine zd ?_;dsimp only;rw[km,show((pl.map λ(k:Nat)=>rawInt (k:Int)).toArray)[i]?=none by simpa using hj];refine zb (hit.field (by decide) ?_);refine zb ((hit.put _).field (s:={ s with heap:=_ }) (by decide) (Sh hh λh' k=>h h' λb o hb e=>k b o (rJ hb (rJ hb e))))
theorem vZ {Q:Bool->Shared->Prop} (h:Q (w.params.followText "set-order") s):wpAny (model prog w) A setsByText Q E s:=by
 unfold setsByText;exact zb (wpAny_askSetting (zd h))
theorem J6 {f:Value} {Q:VP_} (hit:It s.heap it a f i n ep) (h:Q (.ref it) s):wpAny (model prog w) A (pyIter (.ref it)) Q E s:=by
 refine wpAny_pyIter_slot hit.ty yK (QI yK hit.ty GP ?_ (J5 _));show wpAny _ _ (ret (.ref it)) _ _ s;exact zd ⟨_,rfl, "set_iterator", _,hit.ty,jd.lookup,h⟩
def J7 (w:World) (a:Addr) (ep:Nat) (es:Array (Int×Value)):List Value:=(pickOrder (w.params.setOrder a ep) es).toList.map (·.2)
theorem zP:(J7 w a ep es).Perm (es.toList.map (·.2)):=(Uy _ _).map _
theorem Iw {slot:Nat} {Q:Option (Value×Nat)->Shared->Prop} (hf:w.params.followText "set-order" = true) (hw:Wk w s.heap a es ep t) (h:Q (((J7 w a ep es)[i]?).map λv=>(v,slot)) s):wpAny (model prog w) A (setNext a slot i ep) Q E s:=by
 obtain⟨oa,hoa,hca,hda⟩:=hw.at_;unfold setNext;refine zb (qB hoa hda hw.fit (zb (vZ ?_)));rw[hf];simp only[↓reduceIte,bne_self_eq_false,zh];refine zb (m:=setWalk a) ?_;unfold setWalk;refine zb (qB hoa hda hw.fit (zb (vZ ?_)));rw[hf];simp only[↓reduceIte];refine zb (wpAny_askSetting (zd (zd ?_)));have e:(pickOrder (w.params.setOrder a ep) es)[i]?.map (λe=>(e.2,slot))=((J7 w a ep es)[i]?).map λv=>(v,slot):=by
  unfold J7;rw[ZA,Option.map_map,qa];rfl
 rw[<-e] at h;exact h
theorem Qw (hh:A.handled=none) (hf:w.params.followText "set-order" = true) (hne:a≠it) (c:es.size<=sizeLine):Walks prog w A it [it,a] [it] es.size (λi v=>(J7 w a ep es)[i]?=some v) (λi h=>It h it a (.int 0 0) i es.size ep/\Wk w h a es ep t) where
 sub:=λb hb=>by simp at hb;simp[hb]
 frame:=λ_ _ _ st hk=>⟨st.1.keep λo e=>hk it (by simp) o e,st.2.keep λo e=>hk a (by simp) o e⟩
 item:=λi s Q E hi st hQ=>by
  have hl:(J7 w a ep es).length=es.size:=by rw[zP.length_eq];simp
  obtain⟨v,hv⟩:∃ v,(J7 w a ep es)[i]?=some v:=⟨(J7 w a ep es)[i]'(by omega),by rw[zI]⟩;refine W2 (slot:=0) (next:=0) (x:=v) st.1 st.2 (λ{A' E' Q'} hq=>Iw hf st.2 (by rw[hv];exact hq)) λh' hi' k=>?_;exact hQ v h' s.toks hv ⟨hi',st.2.keep λo e=>k a o hne e⟩ λb o hb e=>k b o (λx=>hb (by simp[x])) e
 done:=λs Q E st hQ=>by
  have hl:(J7 w a ep es).length=es.size:=by rw[zP.length_eq];simp
  refine DK (slot:=0) hh st.1 st.2 (λ{A' E' Q'} hq=>Iw hf st.2 (by rw[Z3 (by omega)];exact hq)) λh' k=>?_;exact hQ h' s.toks λb o hb e=>k b o (λx=>hb (by simp[x])) e
 self:=λ_ _ _ _ st hQ=>J6 st.1 hQ
def Uz (pl:List Nat) (es:Array (Int×Value)):List Value:=pl.filterMap λj=>es[j]?.map (·.2)
theorem UG (h:pl.Perm (List.range es.size)):(Uz pl es).Perm (es.toList.map (·.2)):=by
 refine(h.filterMap _).trans ?_;rw[show(List.range es.size).filterMap (λj=>es[j]?.map (·.2))=((List.range es.size).filterMap λj=>es[j]?).map (·.2) by rw[List.map_filterMap],filterMap_getElem?_range]
theorem Nb:∀ {pl:List Nat},(∀ j∈pl,j < es.size)->∀ (i:Nat) (j:Nat),pl[i]?=some j->(Uz pl es)[i]?=es[j]?.map (·.2)
 |[],_,_,_,h=>by simp at h
 |k::pl,hb,i,j,h=>by
  have hk:=hb k (zk ..);have e:Uz (k::pl) es=es[k].2::Uz pl es:=by simp[Uz,hk]
  rw[e];cases i with
  |zero=>cases(show k=j by simpa using h);simp[hk]
  |succ i=>rw[qs];exact Nb (λj hj=>hb j (zo _ hj)) i j (by simpa using h)
theorem Qx {tp:Addr} (hh:A.handled=none) (hne:a≠it) (htp:tp≠it) (hp:pl.Perm (List.range es.size)):Walks prog w A it [it,a,tp] [it] es.size (λi v=>(Uz pl es)[i]?=some v)
  (λi h=>It h it a (.ref tp) i es.size ep/\Wk w h a es ep t/\∃ ot c,h.get? tp=some ot/\ot.data=.seq (pl.map λ(k:Nat)=>rawInt (k:Int)).toArray c) where
 sub:=λb hb=>by simp at hb;simp[hb]
 frame:=λ_ _ _ st hk=>⟨st.1.keep λo e=>hk it (by simp) o e,st.2.1.keep λo e=>hk a (by simp) o e,let ⟨ot,c,e,r⟩:=st.2.2;⟨ot,c,hk tp (by simp) ot e,r⟩⟩
 item:=λi s Q E hi st hQ=>by
  obtain⟨ot,c,e1,e2⟩:=st.2.2;have hl:pl.length=es.size:=by rw[hp.length_eq];simp
  have hb:∀ j∈pl,j < es.size:=λj hj=>List.mem_range.mp (hp.mem_iff.mp hj);have hj:pl[i]?=some (pl[i]'(by omega)):=by rw[zI]
  have hx:es[pl[i]'(by omega)]?=some (es[pl[i]'(by omega)]'(hb _ (List.getElem_mem _))):=by rw[ZH]
  refine aai st.1 st.2.1 e1 e2 hj hx λh' hi' k=>?_;exact hQ _ h' s.toks (by rw[Nb hb i _ hj,hx];rfl) ⟨hi',st.2.1.keep λo e=>k a o hne e,ot,c,k tp ot htp e1,e2⟩ λb o hb e=>k b o (λx=>hb (by simp[x])) e
 done:=λs Q E st hQ=>by
  obtain⟨ot,c,e1,e2⟩:=st.2.2;have hl:pl.length=es.size:=by rw[hp.length_eq];simp
  refine M9 hh st.1 st.2.1 e1 e2 (by rw[Z3 (by omega)]) λh' k=>?_;exact hQ h' s.toks λb o hb e=>k b o (λx=>hb (by simp[x])) e
 self:=λ_ _ _ _ st hQ=>J6 st.1 hQ
def vB (t:SetTable) (i:Nat):Nat:=if i=0 then 0 else t.place.getD 0 0+1
theorem aaj (j:Nat):SetTable.below #[j] 0=0:=by
 show SetTable.below.go #[j] 0 1 0 1=0;unfold SetTable.below.go;rw[zr (by decide)];show(if #[j].getD 0 0 < 0 then _ else SetTable.below.go #[j] 0 0 0 0)=0;rw[zz (Jn _)];rfl
theorem aak (j:Nat):SetTable.below #[j] (j+1)=1:=by
 show SetTable.below.go #[j] (j+1) 1 0 1=1;unfold SetTable.below.go;rw[zr (by decide)];show(if j < j+1 then SetTable.below.go #[j] (j+1) 0 1 1 else _)=1;rw[zr (qq _)];rfl
theorem UJ {P:Option (Value×Nat)->Prop} {r:Option (Value×Nat)} (hp:t.place.size=es.size) (hn:es.size<=1) (hi:i<=es.size)
  (hr:r=match es[SetTable.below t.place (vB t i)]?,t.place[SetTable.below t.place (vB t i)]? with
   |some (_,x),some j=>some (x,j+1)
   |_,_=>none) (h:P (((es.toList.map (·.2))[i]?).map λv=>(v,vB t (i+1)))):P r:=by
 subst hr;by_cases h0:es.size=0
 ·have e:es=#[]:=Array.eq_empty_of_size_eq_zero h0;subst e;simpa using h
 ·have h1:es.size=1:=by omega
  obtain⟨x,rfl⟩:=Array.size_eq_one_iff.mp h1;obtain⟨j,hj⟩:=Array.size_eq_one_iff.mp (hp.trans h1);have hi:i=0\/i=1:=by omega
  rcases hi with rfl|rfl
  ·have e1:vB t 0=0:=rfl;have e2:vB t (0+1)=j+1:=by unfold vB;rw[hj];rfl
   rw[e2] at h;rw[e1,hj,aaj];exact h
  ·have e2:vB t 1=j+1:=by unfold vB;rw[hj];rfl
   rw[e2,hj,aak];exact h
theorem DN {Q:Option (Value×Nat)->Shared->Prop} (hf:w.params.followText "set-order" = false) (hw:Wk w s.heap a es ep t) (hn:es.size<=1) (hi:i<=es.size) (h:Q (((es.toList.map (·.2))[i]?).map λv=>(v,vB t (i+1))) s):wpAny (model prog w) A (setNext a (vB t i) i ep) Q E s:=by
 obtain⟨oa,hoa,hca,hda⟩:=hw.at_;have hp:t.place.size=es.size:=by
  have:=hw.fit;simp only[SetTable.fits,ZE,beq_iff_eq] at this;exact this.1
 unfold setNext;refine zb (qB hoa hda hw.fit (zb (vZ ?_)));rw[hf];simp only[zh,↓reduceIte];split
 ·rename_i hc;have hc:(!t.plain&&decide (es.size > 1))=true:=hc;simp at hc;omega
 ·have hl:wpAny (model prog w) A (if(!t.led&&!es.isEmpty)=true then unsupported "set:maker-not-led" else pure PUnit.unit) (λ_ s'=>s'=s) E s:=by
   rw[hw.led hf];exact zd rfl
  refine zb (qo hl (λ_ s' e=>?_) λ_ _ x=>x);subst e;refine zd ?_;exact UJ (P:=λr=>Q r s') hp hn hi rfl h
theorem Nf (hh:A.handled=none) (hf:w.params.followText "set-order" = false) (hn:es.size<=1) (hne:a≠it):Walks prog w A it [it,a] [it] es.size (λi v=>(es.toList.map (·.2))[i]?=some v) (λi h=>It h it a (.int (vB t i:Nat) 0) i es.size ep/\Wk w h a es ep t) where
 sub:=λb hb=>by simp at hb;simp[hb]
 frame:=λ_ _ _ st hk=>⟨st.1.keep λo e=>hk it (by simp) o e,st.2.keep λo e=>hk a (by simp) o e⟩
 item:=λi s Q E hi st hQ=>by
  obtain⟨v,hv⟩:∃ v,(es.toList.map (·.2))[i]?=some v:=⟨(es.toList.map (·.2))[i]'(by simpa using hi),by rw[zI]⟩;refine W2 (x:=v) st.1 st.2 (λ{A' E' Q'} hq=>DN hf st.2 hn (QU hi) (by rw[hv];exact hq)) λh' hi' k=>?_;exact hQ v h' s.toks hv ⟨hi',st.2.keep λo e=>k a o hne e⟩ λb o hb e=>k b o (λx=>hb (by simp[x])) e
 done:=λs Q E st hQ=>by
  refine DK hh st.1 st.2 (λ{A' E' Q'} hq=>DN hf st.2 hn (zi _) (by rw[Z3 (by simp)];exact hq)) λh' k=>?_;exact hQ h' s.toks λb o hb e=>k b o (λx=>hb (by simp[x])) e
 self:=λ_ _ _ _ st hQ=>J6 st.1 hQ
theorem W3 (hw:Wk w s.heap a es ep t) (hc:es.size<=sizeLine) {Q:VP_}
  (h:∀ (it:Addr) (h':Heap) (d:Drawn) (fp:List Addr) (St:Nat->Heap->Prop) (ord:List Value),ord.Perm (es.toList.map (·.2))->(∀ A':Around,A'.handled=none->Walks prog w A' it fp [it] es.size (λi v=>ord[i]?=some v) St)->St 0 h'->s.heap.objs.size<=it->it < h'.objs.size →
   (∀ b∈fp,b=a\/s.heap.objs.size<=b)->(∀ b∈fp,b < h'.objs.size)->(∀ b o,s.heap.get? b=some o->h'.get? b=some o)->Q (.ref it) { s with heap:=h',drawn:=d }):wpAny (model prog w) A (pyIter (.ref a)) Q E s:=by
 obtain⟨oa,hoa,hca,hda⟩:=id hw.at_;have hT:s.TypeIs (.ref a) "set" := ⟨oa,hoa,hca⟩;have hlt:a < s.heap.objs.size:=zw hoa;refine wpAny_pyIter_slot hT F.slot_set_iter (QI F.slot_set_iter hT Br ?_ (F.args_set_iter_1 _));show wpAny _ _ (Builtin.Frozenset.sizeOf a >>= _) _ _ s;refine zb (m:=Builtin.Frozenset.sizeOf a) (zb (wpAny_setEntries_of hoa hda hw.fit (zd ?_)));have hd:wpAny (model prog w) A.in1 (setDrawn a) (λb s'=>s'=s/\b=(!(w.params.followText "set-order")&&(!t.plain&&decide (es.size > 1)))) E s:=by
  unfold setDrawn;exact zb (qB hoa hda hw.fit (zb (vZ (zd ⟨rfl,rfl⟩))))
 refine zb (qo hd (λb s' e=>?_) λ_ _ x=>x);obtain⟨rfl,rfl⟩:=e;dsimp only;by_cases hf:w.params.followText "set-order" = true
 ·rw[hf];simp only[QY,JS,zh,Zl];refine zb (zd ?_);refine zb (m:=setEpoch a) (wpAny_setEpoch_of hoa hda hw.fit ?_);refine zb (qk (zd ⟨_,rfl, "set_iterator", _,⟨_,zv _ rfl,rfl⟩,jd.lookup,?_⟩));have:=h s'.heap.objs.size (s'.heap.push { cls:=.type "set_iterator", data:=.fields #[.int 0 0,.int 0 0,.ref a,.int es.size 0,.int ep 0] }) s'.drawn [s'.heap.objs.size,a] _ _ zP (λA' hh=>Qw hh hf (t:=t) (ep:=ep) (z5 hlt) hc)
   ⟨⟨_,zv _ rfl,rfl,rfl⟩,hw.keep λo e=>ze _ e⟩ (zi _) (by rw[qc];exact qq _) (λb hb=>by simp at hb;rcases hb with rfl|rfl;exact .inr (zi _);exact .inl rfl)
   (λb hb=>by simp at hb;rw[qc];rcases hb with rfl|rfl;exact qq _;exact qS hlt) λb o e=>ze _ e
  exact this
 ·have hf:w.params.followText "set-order" = false:=by simpa using hf
  rw[hf];simp only[jI,Bool.true_and];by_cases hn:es.size<=1
  ·rw[zz (by simp;omega)];refine zb (zd ?_);refine zb (m:=setEpoch a) (wpAny_setEpoch_of hoa hda hw.fit ?_);refine zb (qk (zd ⟨_,rfl, "set_iterator", _,⟨_,zv _ rfl,rfl⟩,jd.lookup,?_⟩));have:=h s'.heap.objs.size (s'.heap.push { cls:=.type "set_iterator", data:=.fields #[.int 0 0,.int 0 0,.ref a,.int es.size 0,.int ep 0] }) s'.drawn [s'.heap.objs.size,a] _ _ (List.Perm.refl _) (λA' hh=>Nf hh hf hn (t:=t) (ep:=ep) (z5 hlt))
    ⟨⟨_,zv _ rfl,rfl,rfl⟩,hw.keep λo e=>ze _ e⟩ (zi _) (by rw[qc];exact qq _) (λb hb=>by simp at hb;rcases hb with rfl|rfl;exact .inr (zi _);exact .inl rfl)
    (λb hb=>by simp at hb;rw[qc];rcases hb with rfl|rfl;exact qq _;exact qS hlt) λb o e=>ze _ e
   exact this
  ·rw[zr (by rw[hw.non (by omega)];simp;omega)];refine zb (aah _ _ _ _ (by simp) λpl d hp=>?_);refine zb (wpAny_newTuple ?_ (by rw[zg,hp.length_eq,kl];exact hc));refine zb (m:=setEpoch a) (wpAny_setEpoch_of (ze _ hoa) hda hw.fit ?_);refine zb (qk (zd ⟨_,rfl, "set_iterator", _,⟨_,zv _ rfl,rfl⟩,jd.lookup,?_⟩));generalize hG:s'.heap.push { cls:=.type "tuple", data:=.seq (pl.map λ(k:Nat)=>rawInt (k:Int)).toArray }=G;have sG:G.objs.size=s'.heap.objs.size+1:=by rw[<-hG,qc]
   have gG:G.get? s'.heap.objs.size=some { cls:=.type "tuple", data:=.seq (pl.map λ(k:Nat)=>rawInt (k:Int)).toArray }:=by rw[<-hG];exact zv _ rfl
   have kG:∀ b o,s'.heap.get? b=some o->G.get? b=some o:=λb o e=>by rw[<-hG];exact ze _ e
   have ltG:a < G.objs.size:=by rw[sG];exact qS hlt
   have:=h G.objs.size (G.push { cls:=.type "set_iterator", data:=.fields #[.ref s'.heap.objs.size,.int 0 0,.ref a,.int es.size 0,.int ep 0] }) d [G.objs.size,a,s'.heap.objs.size] _ _ (UG hp) (λA' hh=>Qx hh (t:=t) (ep:=ep) (tp:=s'.heap.objs.size) (z5 ltG) (by rw[sG];exact z5 (qq _)) hp)
    ⟨⟨_,zv _ rfl,rfl,rfl⟩,hw.keep λo e=>ze _ (kG _ _ e),_,0,ze _ gG,rfl⟩ (by rw[sG];exact kB _) (by rw[qc];exact qq _)
    (λb hb=>by simp at hb;rcases hb with rfl|rfl|rfl;exact .inr (by rw[sG];exact kB _);exact .inl rfl;exact .inr (zi _))
    (λb hb=>by
     simp at hb;rw[qc];rcases hb with rfl|rfl|rfl
     ·exact qq _
     ·exact qS ltG
     ·exact qS (by rw[sG];exact qq _)) λb o e=>ze _ (kG _ _ e)
   exact this
end
end S6
namespace S6
open P1
section
variable {es:Array (Int×Value)}
theorem UL {ord:List Value} {acc:Array Value} (hn:ord.length=n) (h:ItemsOf (λi v=>ord[i]?=some v) acc n):acc.toList=ord:=by
 apply k8;intro j;by_cases hj:j < n
 ·have hl:j < acc.size:=by rw[h.1];exact hj
  have e:acc.toList[j]?=some acc[j]:=by simp[hl]
  rw[e,h.2 j acc[j] (by simp[hl])]
 ·rw[Z3 (by rw[ZY,h.1];omega),Z3 (by omega)]
theorem Ng {Q:List Value->Shared->Prop} (hh:A.handled=none) (hw:Wk w s.heap a es ep t) (hc:es.size<=sizeLine)
  (hQ:∀ ord h' d tk,ord.Perm (es.toList.map (·.2))->s.heap.objs.size<=h'.objs.size->(∀ b o,s.heap.get? b=some o->h'.get? b=some o)->Q ord { s with heap:=h',drawn:=d,toks:=tk }) :
  wpAny (model prog w) A (collect (.ref a)) Q E s:=by
 obtain⟨oa,hoa,hca,hda⟩:=id hw.at_;have hT:s.TypeIs (.ref a) "set" := ⟨oa,hoa,hca⟩;have hlt:a < s.heap.objs.size:=zw hoa;unfold collect;refine zb (wpAny_runValue (j3 F.entry_proto_collect ?_));rw[Around.under_plainId F.plain_proto_collect _];show wpAny _ A.in1 (newList [] >>= λq=>again (.builtin "list.__iadd__" ⟨[q,.ref a],[]⟩)) _ _ s;refine zb (qk (zd ⟨plainId_quiet F.plain_list_iadd _,j3 F.entry_list_iadd ?_⟩));rw[Around.under_plainId F.plain_list_iadd _];show wpAny _ A.in1 (Builtin.List.listExtendWith (.ref s.heap.objs.size) (.ref a) (.ref s.heap.objs.size)) _ _ _;unfold Builtin.List.listExtendWith;generalize hH:(s.heap.push { cls:=.type "list", data:=.seq ([]:List Value).toArray })=H;have kH:∀ b o,s.heap.get? b=some o->H.get? b=some o:=λb o e=>by rw[<-hH];exact ze _ e
 have sH:H.objs.size=s.heap.objs.size+1:=by rw[<-hH,qc]
 have gH:H.get? s.heap.objs.size=some (seqObj "list" #[] 0):=by rw[<-hH];exact zv _ rfl
 have hw1:Wk w H a es ep t:=hw.keep λo e=>kH a o e;refine zb (QO (T := "set") ⟨oa,kH _ _ hoa,hca⟩ ?_);have h1:Builtin.List.listSameRef (.ref s.heap.objs.size) (.ref a)=false:=by simp[Builtin.List.listSameRef];exact JY hlt
 simp only[h1,show(Value.type "set" == Value.type "list")=false by decide,show(Value.type "set" == Value.type "tuple")=false by decide,Bool.or_false,zh,Zl];refine zb (W3 (s:={ s with heap:=H }) hw1 hc λit G d fp St ord hp W st0 hit hit2 hfp aiX kG=>?_);refine zb (Qr ?_);unfold Builtin.List.listLengthHint;have hT2:Shared.TypeIs { s with heap:=G,drawn:=d } (.ref a) "set" := ⟨oa,kG _ _ (kH _ _ hoa),hca⟩;refine zb (wpAny_specialOf (T := "set") hT2 F.slot_set_len.lookup ?_)
 wp_delta
 refine zb (Q2 (T := "set") (b:=true) hT2 (by rw[isSubtype_type];kernel_rfl) ?_);show wpAny _ A.in1 (typeOf (Value.ref a) >>= _) _ _ _;refine zb (QO (T := "set") hT2 (zd ?_));rw[zr (by decide)];show wpAny _ A.in1 (Builtin.List.listTouch (Value.ref s.heap.objs.size) >>= λ_=>again (Code.builtin "list.extend.loop" ⟨[Value.ref s.heap.objs.size,Value.ref it,Value.ref s.heap.objs.size],[]⟩)) _ _ _;have hS:G.get? s.heap.objs.size=some (seqObj "list" #[] 0):=kG _ _ gH;unfold Builtin.List.listTouch;refine zb (zb (listUpdate_at hS rfl (listUpdate_at (get?_update_seq hS _) rfl ?_ (by show _<=_;decide) (by show _<=_;decide)) (by show _<=_;decide) (by show _<=_;decide)));have hSf:s.heap.objs.size∉fp:=λhm=>by
  rcases hfp _ hm with e|e
  ·exact JY hlt e
  ·have e:H.objs.size<=s.heap.objs.size:=e;rw[sH] at e;exact absurd e (Nat.not_succ_le_self _)
 have hS3:=get?_update_seq (get?_update_seq hS (λx=>x.push Value.none)) (λx=>x.pop);generalize hU:(G.update s.heap.objs.size (Obj.mapSeq λx=>x.push Value.none)).update s.heap.objs.size (Obj.mapSeq λx=>x.pop)=U at hS3;have keep:∀ b,b≠s.heap.objs.size->U.get? b=G.get? b:=λb hb=>by rw[<-hU,kM _ _ _ _ hb,kM _ _ _ _ hb]
 have st1:St 0 U:=(W A hh).frame 0 G U st0 λb hb o e=>by rw[keep b λx=>hSf (x▸hb)];exact e
 show wpAny _ A.in1 (again _) _ _ { s with heap:=U,drawn:=d };have ho:ord.length=es.size:=by rw[hp.length_eq];simp
 refine zd ⟨plainId_quiet F.plain_extend_loop _,codeAny_extend_loopS (W A.in1 hh).toS hc s.heap.objs.size hSf _ es.size 0 { s with heap:=U,drawn:=d } #[] _ rfl (QP _) st1 hS3 (ItemsOf.nil _) λs' acc' c' mv hS' hacc=>?_⟩;show wpAny _ A (load s.heap.objs.size >>= _) _ _ s';refine zb (wpAny_load hS' (zd ?_));show Q acc'.toList s';rw[UL ho hacc];have key:=hQ ord s'.heap s'.drawn s'.toks hp (QU (zw hS')) λb ob e=>by
  have hb:=zw e;refine mv.heap b ob (λhm=>?_) ((keep b (z5 hb)).trans (kG _ _ (kH _ _ e)));simp only[qh,qr,or_false] at hm;rcases hm with hm|hm
  ·exact z5 hb hm
  ·have:H.objs.size<=it:=hit;rw[sH,<-hm] at this;exact absurd hb (Nat.not_lt.mpr (Nat.le_of_succ_le this))
 have e1:s'.gens=s.gens:=mv.gens;have e2:s'.os=s.os:=mv.os;rw[<-e1,<-e2] at key;exact key
end
theorem Cq {α:Type} [DecidableEq α]:∀ {xs ys:List α},xs.Nodup->ys.Nodup->(∀ z,z∈xs↔z∈ys)->xs.Perm ys
 |[],ys,_,_,h=>by
  have:ys=[]:=List.eq_nil_iff_forall_not_mem.mpr λz hz=>by simpa using(h z).mpr hz
  subst this;exact .refl _
 |x::xs,ys,hx,hy,h=>by
  have hm:x∈ys:=(h x).mp (zk ..);have hc:=List.nodup_cons.mp hx;refine((Cq hc.2 (hy.erase x) λz=>?_).cons x).trans (List.perm_cons_erase hm).symm;rw[hy.mem_erase_iff];constructor
  ·intro hz;exact⟨λe=>hc.1 (e▸hz),(h z).mp (zo _ hz)⟩
  ·intro⟨hn,hz⟩;rcases List.mem_cons.mp ((h z).mpr hz) with e|e
   ·exact absurd e hn
   ·exact e
theorem Aj {R:α->β->Prop}:∀ {l l':List β},l'.Perm l->∀ {ys:List α},Paired R ys l->∃ ys',ys'.Perm ys/\Paired R ys' l':=by
 intro l l' hp
 replace hp:=hp.symm
 induction hp with
 |nil=>intro ys h;exact⟨ys,.refl _,h⟩
 |cons x _ ih=>intro ys h;cases h with|cons r t=>obtain⟨zs,z1,z2⟩:=ih t;exact⟨_::zs,z1.cons _,.cons r z2⟩
 |swap x y l=>intro ys h;cases h with|cons r t=>cases t with|cons r' t'=>exact⟨_,List.Perm.swap _ _ _,.cons r' (.cons r t')⟩
 |trans _ _ ih1 ih2=>intro ys h;obtain⟨zs,z1,z2⟩:=ih1 h;obtain⟨us,u1,u2⟩:=ih2 z2;exact⟨us,u1.trans z1,u2⟩
theorem Qy {R:α->β->Prop} {xs:List α} {us:List β} {ys:List α} {vs:List β} (h:Paired R xs us) (k:Paired R ys vs):Paired R (xs++ys) (us++vs):=by
 induction h with
 |nil=>exact k
 |cons r _ ih=>exact .cons r ih
def blank (w:World):Obj:={ cls:=.type "set", dict:=none,data:=.set #[] 0 (.fresh 0 0 (!w.params.followText "set-order")) }
structure Adds (prog:Program) (w:World) (S:Addr) (wr:List Addr) {κ:Type} (C:Heap->List κ->Prop) (P:Nat->Value->Prop) (val:Nat->κ) (n:Nat):Prop where
 keep:∀ h h' ys,C h ys->(∀ b o,b∉wr->h.get? b=some o->h'.get? b=some o)->C h' ys
 add:∀ (A:Around) (E:VP_) (s:Shared) (i:Nat) (v:Value) (ys:List κ) (Q:Bool->Shared->Prop),A.units < cLine->i < n->P i v->C s.heap ys->ys.length<=i →
  (∀ b h' tk ys',Heap.SameBut S s.heap h'->C h' ys'->(∀ z,z∈ys'↔z∈ys\/z=val i)->ys'.length<=i+1->s.toks<=tk->Q b { s with heap:=h',toks:=tk })->wpAny (model prog w) A (setAdd S v) Q E s
section
variable {R:Result->Shared->Prop} {I:Addr} {wr:List Addr} {P:Nat->Value->Prop} {St:Nat->Shared->Prop} {C:Heap->List κ->Prop} {val:Nat->κ}
theorem W4 (W:WalksS prog w A.in1 I fp wr (λa b=>b=a) n P St) (S:Addr) (hSf:S∉fp) (ad:Adds prog w S wr C P val n) (hU:A.units+1 < cLine) :
  ∀ (k i:Nat) (s:Shared) (ys:List κ),n - i=k->i<=n->St i s->C s.heap ys->(∀ z,z∈ys↔∃ j,j < i/\z=val j)->ys.length<=i →
   (∀ s' ys',Moved (S::wr) (λa b=>b=a) s s'->C s'.heap ys'->(∀ z,z∈ys'↔∃ j,j < n/\z=val j)->R (.ok (.ret .none)) s') →
   codeAny (model prog w) A (.builtin "set.update.loop" ⟨[.ref S,.ref I],[]⟩) R s:=by
 have sub:∀ b,b∈wr->b∈S::wr:=λb q=>zo _ q;intro k
 induction k with
 |zero=>
  intro i s ys hk hi st hc hm hl hR;have:i=n:=by omega
  subst this;refine j3 F.entry_set_update_loop ?_;rw[Around.under_plainId KM _];show wpAny _ A.in1 (pyNext (.ref I) >>= _) _ _ s;refine zb (W.done s _ _ st λs' mv=>?_);show wpAny _ A.in1 (ret Value.none) _ _ s';exact zd (hR s' ys (mv.mono sub) (ad.keep _ _ _ hc mv.heap) hm)
 |succ k ih=>
  intro i s ys hk hi st hc hm hl hR;have hlt:i < n:=by omega
  refine j3 F.entry_set_update_loop ?_;rw[Around.under_plainId KM _];show wpAny _ A.in1 (pyNext (.ref I) >>= _) _ _ s;refine zb (W.item i s _ _ hlt st λv s' hP st' mv=>?_);show wpAny _ A.in1 (holding [v] (setAdd S v) >>= _) _ _ s';refine zb (Qr (ad.add _ _ s' i v ys _ hU hlt hP (ad.keep _ _ _ hc mv.heap) hl λb h' tk ys' sb hc' hm' hl' htk=>?_));refine zd ⟨plainId_quiet KM _,ih (i+1) _ ys' (by omega) hlt (W.frame _ s' _ _ st' htk λb hb o e=>?_) hc' (λz=>?_) hl' λs'' ys'' ahd hc'' hm''=>?_⟩
  ·rw[sb.2 b λq=>hSf (q▸hb)];exact e
  ·rw[hm' z,hm z];constructor
   ·rintro(⟨j,hj,e⟩|e)
    ·exact⟨j,by omega,e⟩
    ·exact⟨i,by omega,e⟩
   ·rintro⟨j,hj,e⟩;by_cases q:j=i
    ·exact .inr (q▸e)
    ·exact .inl ⟨j,by omega,e⟩
  ·refine hR s'' ys'' (Moved.trans W.gtrans ((mv.mono sub).then_heap htk λb o hb e=>?_) ahd) hc'' hm'';rw[sb.2 b λq=>hb (by rw[q];exact zk)];exact e
end
theorem Qz (x:Value) {Q₁:VP_} (h:Q₁ (.ref s.heap.objs.size) { s with heap:=s.heap.push (blank w) }) :
  codeAny (model prog w) A (.call (.builtin "set.__new__") ⟨[.type "set", x],[]⟩) (wants Q₁ E) s:=by
 refine codeAny_of_tree ?_;show wpAny _ A.in1 (do checkBuiltinCall "set.__new__" ⟨[.type "set", x],[]⟩;again (.builtin "set.__new__" ⟨[.type "set", x],[]⟩)) _ _ s;refine zb (wpAny_of_eq (F.newCall_set_1 x) (zd ⟨plainId_quiet F.plain_set_new _,j3 F.entry_set_new ?_⟩));rw[Around.under_plainId F.plain_set_new _];unfold Builtin.«set.__new__» Builtin.Frozenset.newClass;have hsub:=sub_set_self;obtain⟨hp,g,d,tk,os⟩:=s;dsimp only
 wp_walk
 refine wpAny_askSetting (zd ?_);dsimp only;simp only[newObj];refine zb (wpAny_alloc (zd ?_));exact zd h
theorem sub_tuple_set:isSubtype (.type "tuple") (.type "set")=pure false:=by rw[isSubtype_type];kernel_rfl
theorem sub_tuple_frozenset:isSubtype (.type "tuple") (.type "frozenset")=pure false:=by rw[isSubtype_type];kernel_rfl
theorem W5 (hU:A.units+60 < cLine) {T:String} {o:Obj} {C:Heap->List κ->Prop} {P:Nat->Value->Prop} {val:Nat->κ} {Q:VP_} (hh:A.handled=none) (ho:s.heap.get? l=some o) (hcl:o.cls=.type T) (hT:T = "list" ∨ T = "tuple") (hit:∀ (A':Around) (E':VP_) (Q':VP_) (h0:Heap),A'.handled=none->(∀ b ob,s.heap.get? b=some ob->h0.get? b=some ob) →
   (∀ (h':Heap) (St:Nat->Heap->Prop),(∀ A',A'.handled=none->Walks prog w A' h0.objs.size [h0.objs.size,l] [h0.objs.size] n P St)->St 0 h'->(∀ b ob,h0.get? b=some ob->h'.get? b=some ob)->Q' (.ref h0.objs.size) { s with heap:=h' })->wpAny (model prog w) A' (pyIter (.ref l)) Q' E' { s with heap:=h0 }) (ad:Adds prog w s.heap.objs.size [s.heap.objs.size+1] C P val n) (hc0:∀ h',h'.get? s.heap.objs.size=some (blank w)->(∀ b ob,s.heap.get? b=some ob->h'.get? b=some ob)->C h' []) (h:∀ (h':Heap) (tk:Nat) (ys:List κ),C h' ys->(∀ z,z∈ys↔∃ j,j < n/\z=val j)->(∀ b ob,s.heap.get? b=some ob->h'.get? b=some ob)->Q (.ref s.heap.objs.size) { s with heap:=h',toks:=tk }) :
  wpAny (model prog w) A (call (.type "set") [.ref l]) Q E s:=by
 obtain⟨c,tl,hmro⟩:=F.called_set.mro;have hmade:=F.called_set.made;have hsub:=F.called_set.sub;have hlS:l < s.heap.objs.size:=zw ho;refine wpAny_call (codeAny_of_tree ?_);show wpAny _ _ (callAny (.type "set") _) _ _ _;refine zd ⟨Code.quiet_builtin _ (by decide +kernel),j3 F.entry_type_call ?_⟩;rw[Around.under_plain (weight_type_call_type "set" [.ref l] []) rfl];have h1:=F.called_set.notType;have h2:=F.called_set.canCreate;have hct:=F.typeCall_set_1 (.ref l)
 repeat (any_goals (first|assumption|wp_step))
 refine ki (Qz (.ref l) (E:=E) (Q₁:=λobj s₁=>obj=.ref s.heap.objs.size/\s₁={ s with heap:=s.heap.push (blank w) }) ⟨rfl,rfl⟩) λr s₁ hr=>?_;cases r with
 |error e=>exact hr
 |ok fl=>
  cases fl with
  |ret obj=>
   obtain⟨rfl,rfl⟩:=hr;generalize hH:s.heap.push (blank w)=H;have sH:H.objs.size=s.heap.objs.size+1:=by rw[<-hH,qc]
   have hS:H.get? s.heap.objs.size=some (blank w):=by rw[<-hH];exact zv _ rfl
   have kH:∀ b ob,s.heap.get? b=some ob->H.get? b=some ob:=λb ob e=>by rw[<-hH];exact ze _ e
   have hTS:Shared.TypeIs { s with heap:=H } (.ref s.heap.objs.size) "set" := ⟨_,hS,rfl⟩;have hli:=F.called_set.init.lookup;have hbi:=F.called_set.init.bind (.ref s.heap.objs.size)
   repeat (any_goals (first|assumption|wp_step))
   refine ki (codeAny_call_builtin (R:=wants (λr s₂=>r=.none/\∃ h' tk ys,s₂={ s with heap:=h',toks:=tk }/\C h' ys/\(∀ z,z∈ys↔∃ j,j < n/\z=val j)/\(∀ b ob,s.heap.get? b=some ob->h'.get? b=some ob)) E) F.called_set.init.plain F.entry_set_init (check_set_init_1 hTS ?_)) λr₂ s₂ hr₂=>?_
   ·have hT2:Shared.TypeIs { s with heap:=H } (.ref l) T:=⟨o,kH _ _ ho,hcl⟩;have i1:isSubtype (.type T) (.type "set")=pure false:=by rcases hT with rfl|rfl;exact F.sub_list_set;exact sub_tuple_set
    have i2:isSubtype (.type T) (.type "frozenset")=pure false:=by rcases hT with rfl|rfl;exact F.sub_list_frozenset;exact sub_tuple_frozenset
    have i3:(Value.type T==Value.type "dict")=false:=by rcases hT with rfl|rfl<;>decide
    show wpAny _ _ (Builtin.«set.__init__» ⟨[.ref s.heap.objs.size,.ref l],[]⟩) _ _ _;have hup:∀ A':Around,A'.handled=none->A'.units+4 < cLine->wpAny (model prog w) A' (Builtin.Frozenset.updateFrom "set.__init__" s.heap.objs.size (.ref l)) (λ_ s₂=>∃ h' tk ys,s₂={ s with heap:=h',toks:=tk }/\C h' ys/\(∀ z,z∈ys↔∃ j,j < n/\z=val j)/\(∀ b ob,s.heap.get? b=some ob->h'.get? b=some ob)) E { s with heap:=H }:=by
     intro A' hA hA4;unfold Builtin.Frozenset.updateFrom Builtin.Frozenset.isAnySet;refine zb (zb (Q2 hT2 i1 ?_));refine Q2 hT2 i2 ?_;simp only[zh,Zl];refine zb (QO hT2 ?_);simp only[i3,zh,Zl];refine zb (hit A' _ _ H hA kH λG St W st0 kG=>?_);rw[sH] at W;rw[sH];have hSf:s.heap.objs.size∉[s.heap.objs.size+1,l]:=λq=>by
      simp only[qh,qr,or_false] at q;rcases q with q|q
      ·exact z5 (qq _) q
      ·exact JY hlS q
     refine zb (wpAny_runValue (W4 (W A'.in1 hA).toS s.heap.objs.size hSf ad (by omega) (n - 0) 0 _ [] rfl (QP _) st0 (hc0 G (kG _ _ hS) λb ob e=>kG _ _ (kH _ _ e)) (λz=>⟨λq=>(by cases q),λ⟨j,q,_⟩=>absurd q (Jn _)⟩) (zi _) λs' ys mv c1 c2=>?_));refine zd ⟨s'.heap,s'.toks,ys,?_,c1,c2,λb ob e=>?_⟩
     ·have e1:s'.gens=s.gens:=mv.gens;have e2:s'.os=s.os:=mv.os;have e3:s'.drawn=s.drawn:=mv.drawn;rw[<-e1,<-e2,<-e3]
     ·have hb:=zw e;refine mv.heap b ob (λq=>?_) (kG _ _ (kH _ _ e));simp only[qh,qr,or_false] at q;rcases q with q|q
      ·exact z5 hb q
      ·exact z5 (qS hb) q
    have hb:(blank w).data=.set #[] 0 (.fresh 0 0 (!w.params.followText "set-order")):=rfl;unfold Builtin.«set.__init__» noKeywords;generalize hUF:Builtin.Frozenset.updateFrom=UF at hup ⊢;unfold blank at hS
    wp_walk
    refine qo (hup _ (by simp[hh]) (by simp;omega)) (λu s₂ q=>?_) λ_ _ q=>q;obtain⟨h',tk,ys,rfl,q⟩:=q;show wpAny _ _ (ret Value.none) _ _ _;exact zd ⟨rfl,h',tk,ys,rfl,q⟩
   ·cases r₂ with
    |error e=>exact hr₂
    |ok fl₂=>
     cases fl₂ with
     |ret r=>
      obtain⟨rfl,h',tk,ys,rfl,c1,c2,c3⟩:=hr₂
      repeat (any_goals (first|assumption|wp_step))
      exact h _ _ _ c1 c2 c3
     |_=>exact False.elim hr₂
  |_=>exact False.elim hr
end S6
namespace S6
open PySem
def QC (xs:Array Nat):Prop:=∀ i j,i < j->j < xs.size->xs.getD i 0 < xs.getD j 0
theorem getD_in {xs:Array Nat} {a b:Nat} (h:k < xs.size):xs.getD k a=xs.getD k b:=by simp[Array.getD,h]
theorem aal {xs:Array Nat} {a:Nat} (h:xs[k]?=some j):k < xs.size/\xs.getD k a=j:=by
 have hk:k < xs.size:=by
  by_cases q:k < xs.size
  ·exact q
  ·rw[ko (by omega)] at h;cases h
 refine⟨hk,?_⟩;rw[ZH hk] at h;cases h;simp[Array.getD,hk]
theorem aam {xs:Array Nat} {a:Nat} (hk:k < xs.size) (h:xs.getD k a=j):xs[k]?=some j:=by
 rw[ZH hk];simp[Array.getD,hk] at h;rw[h]
theorem DP (xs:Array Nat) (j:Nat) (hr:QC xs):∀ (fuel lo hi:Nat),lo<=hi->hi<=xs.size->hi - lo<=fuel->(∀ k,k < lo->xs.getD k 0 < j)->(∀ k,hi<=k->k < xs.size->j<=xs.getD k 0) →
  SetTable.below.go xs j fuel lo hi<=xs.size/\(∀ k,k < SetTable.below.go xs j fuel lo hi->xs.getD k 0 < j)/\∀ k,SetTable.below.go xs j fuel lo hi<=k->k < xs.size->j<=xs.getD k 0
 |0,lo,hi,h1,h2,h3,h4,h5=>by
  have e:lo=hi:=by omega
  subst e;unfold SetTable.below.go;exact⟨h2,h4,h5⟩
 |fuel+1,lo,hi,h1,h2,h3,h4,h5=>by
  unfold SetTable.below.go;by_cases hl:lo < hi
  ·rw[zr hl];dsimp only;have hm:(lo+hi) / 2 < xs.size:=by omega
   rw[getD_in (b:=0) hm];by_cases q:xs.getD ((lo+hi) / 2) 0 < j
   ·rw[zr q];refine DP xs j hr fuel _ hi (by omega) h2 (by omega) (λk hk=>?_) h5;by_cases e:k=(lo+hi) / 2
    ·rw[e];exact q
    ·exact Nat.lt_trans (hr k _ (by omega) hm) q
   ·rw[zz q];refine DP xs j hr fuel lo _ (by omega) (by omega) (by omega) h4 λk hk hs=>?_;by_cases e:k=(lo+hi) / 2
    ·rw[e];omega
    ·have:=hr _ k (by omega:(lo+hi) / 2 < k) hs;omega
  ·rw[zz hl];have e:lo=hi:=by omega
   subst e;exact⟨h2,h4,h5⟩
theorem below_at {xs:Array Nat} (hr:QC xs) (j:Nat):SetTable.below xs j<=xs.size/\(∀ k,k < SetTable.below xs j->xs.getD k 0 < j)/\∀ k,SetTable.below xs j<=k->k < xs.size->j<=xs.getD k 0:=
 DP xs j hr xs.size 0 xs.size (QP _) (zi _) (by omega) (λk h=>absurd h (Jn _)) λk h h'=>absurd h' (by omega)
theorem DR {xs:Array Nat} (hr:QC xs) (h:xs[i]?=some j):SetTable.below xs j=i:=by
 obtain⟨h1,h2,h3⟩:=below_at hr j;obtain⟨hi,e⟩:=aal (a:=0) h;rcases Nat.lt_trichotomy (SetTable.below xs j) i with q|q|q
 ·have:=h3 _ (zi _) (by omega);have:=hr _ _ q hi;omega
 ·exact q
 ·have:=h2 _ q;omega
theorem Sq (j:Nat):SetTable.has #[] j=false:=by
 unfold SetTable.has;simp
structure Tb (t:SetTable):Prop where
 mask:t.mask=7\/t.mask=31\/t.mask=127
 dum:t.dummies=#[]
 rise:QC t.place
 bd:∀ j:Nat,j∈t.place->j<=t.mask
 full:t.place.size<=t.mask
theorem zQ (h:Tb t) (e:t.place[i]?=some j):t.slot j=.live i:=by
 unfold SetTable.slot;simp only[DR h.rise e,e,beq_self_eq_true,ZZ]
theorem UW (h:Tb t) (e:j∉t.place):t.slot j=.empty:=by
 unfold SetTable.slot;have:(t.place[SetTable.below t.place j]?==some j)=false:=by
  cases q:t.place[SetTable.below t.place j]? with
  |none=>rfl
  |some x=>
   by_cases hx:x=j
   ·subst hx;exact absurd (Array.mem_of_getElem? q) e
   ·simp[hx]
 simp only[this,zh,Zl,h.dum,Sq]
def GQ (mask:Nat) (p:SetTable.Probe):SetTable.Probe:=
 if p.more > 0 then { p with j:=p.j+1,more:=p.more - 1 } else
 { p with j:=(SetTable.leap mask p.i p.perturb).1,more:=SetTable.runEnd mask (SetTable.leap mask p.i p.perturb).1 - (SetTable.leap mask p.i p.perturb).1,i:=(SetTable.leap mask p.i p.perturb).1,perturb:=(SetTable.leap mask p.i p.perturb).2 }
theorem W6 (t:SetTable) (p:SetTable.Probe):t.advance p=GQ t.mask p:=rfl
def at0 (mask i perturb:Nat):SetTable.Probe:={ j:=i,more:=SetTable.runEnd mask i - i,i,perturb,dummy:=none }
def gq (mask:Nat) (h:Int):Nat->SetTable.Probe
 |0=>at0 mask (SetTable.bits h % (mask+1)) (SetTable.bits h)
 |n+1=>GQ mask (gq mask h n)
theorem Ss (mask:Nat) (h:Int):∀ n,(gq mask h n).dummy=none
 |0=>rfl
 |n+1=>by
  have:=Ss mask h n;unfold gq GQ;split<;>exact this
theorem Nh {t:SetTable} (ht:Tb t) (hashAt:Nat->Int) (h:Int):∀ (d fuel n:Nat),d < fuel->(∀ m,n<=m->m < n+d->∃ i,t.place[i]?=some (gq t.mask h m).j/\hashAt i≠h) →
  ((gq t.mask h (n+d)).j∉t.place->SetTable.probe.go t hashAt h fuel (gq t.mask h n)=some (.empty (gq t.mask h (n+d)).j none)) ∧
  ∀ i,t.place[i]?=some (gq t.mask h (n+d)).j->hashAt i=h->SetTable.probe.go t hashAt h fuel (gq t.mask h n)=some (.candidate (gq t.mask h (n+d)).j i (gq t.mask h (n+d+1)))
 |0,fuel+1,n,_,_=>by
  refine⟨λe=>?_,λi e1 e2=>?_⟩
  ·unfold SetTable.probe.go;rw[Nat.add_zero] at e ⊢;rw[UW ht e];simp only[Ss]
  ·unfold SetTable.probe.go;rw[Nat.add_zero] at e1 ⊢;rw[zQ ht e1];simp only[e2,beq_self_eq_true,ZZ,W6];rfl
 |d+1,fuel+1,n,hd,hp=>by
  obtain⟨i,e1,e2⟩:=hp n (zi _) (by omega);have ih:=Nh ht hashAt h d fuel (n+1) (by omega) λm h1 h2=>hp m (by omega) (by omega);have e:SetTable.probe.go t hashAt h (fuel+1) (gq t.mask h n)=SetTable.probe.go t hashAt h fuel (gq t.mask h (n+1)):=by
   conv=>lhs;unfold SetTable.probe.go
   rw[zQ ht e1];simp only[beq_iff_eq,e2,Zl,W6];rfl
  rw[e,show n+(d+1)=n+1+d by omega];exact ih
theorem QD:∀ (xs ys:List Nat),xs.Nodup->(∀ x,x∈xs->x∈ys)->xs.length<=ys.length
 |[],_,_,_=>QP _
 |x::xs,ys,hn,hs=>by
  have hc:=List.nodup_cons.mp hn;have hm:=hs x (zk ..);have:=QD xs (ys.erase x) hc.2 λz hz=>(List.mem_erase_of_ne (λe:z=x=>hc.1 (by rw[<-e];exact hz))).mpr (hs z (zo _ hz));have:=List.length_erase_of_mem hm;have:0 < ys.length:=List.length_pos_of_mem hm;simp only[ZN];omega
def nx (M i:Nat):Nat:=(i * 5+1) % M
def Ni (M:Nat):Nat->Nat->Nat
 |0,i=>i
 |k+1,i=>Ni M k (nx M i)
theorem Cr (M:Nat):∀ (a b i:Nat),Ni M (a+b) i=Ni M b (Ni M a i)
 |0,b,i=>by rw[kN];rfl
 |a+1,b,i=>by rw[Nat.succ_add];exact Cr M a b _
theorem ahe:(∀ r,r < 8->∃ k,k < 8/\Ni 8 k 0=r)/\Ni 8 8 0=0:=by decide +kernel
theorem afc:(∀ r,r < 32->∃ k,k < 32/\Ni 32 k 0=r)/\Ni 32 32 0=0:=by decide +kernel
theorem adk:(∀ r,r < 128->∃ k,k < 128/\Ni 128 k 0=r)/\Ni 128 128 0=0:=by decide +kernel
theorem cyc {M:Nat} (h:(∀ r,r < M->∃ k,k < M/\Ni M k 0=r)/\Ni M M 0=0) {r:Nat} (hi:i < M) (hr:r < M):∃ k,k < M/\Ni M k i=r:=by
 obtain⟨a,ha,rfl⟩:=h.1 i hi;obtain⟨b,hb,rfl⟩:=h.1 r hr;by_cases q:a<=b
 ·exact⟨b - a,by omega,by rw[<-Cr,show a+(b - a)=b by omega]⟩
 ·exact⟨M - a+b,by omega,by rw[<-Cr,show a+(M - a+b)=M+b by omega,Cr,h.2]⟩
theorem ahg (h:mask=7\/mask=31\/mask=127) {r:Nat} (hi:i < mask+1) (hr:r < mask+1):∃ k,k < mask+1/\Ni (mask+1) k i=r:=by
 rcases h with rfl|rfl|rfl
 ·exact cyc ahe hi hr
 ·exact cyc afc hi hr
 ·exact cyc adk hi hr
def lp (mask:Nat) (h:Int):Nat->Nat×Nat
 |0=>(SetTable.bits h % (mask+1),SetTable.bits h)
 |l+1=>SetTable.leap mask (lp mask h l).1 (lp mask h l).2
theorem DW (mask i:Nat):i<=SetTable.runEnd mask i/\SetTable.runEnd mask i<=i+9:=by unfold SetTable.runEnd;split<;>omega
theorem W7 (h:i<=mask):SetTable.runEnd mask i<=mask:=by unfold SetTable.runEnd;split<;>omega
theorem yL {mask:Nat} {h:Int} {s i p:Nat} (e:gq mask h s=at0 mask i p):∀ k,k<=SetTable.runEnd mask i - i->gq mask h (s+k)={ at0 mask i p with j:=i+k,more:=SetTable.runEnd mask i - i - k }
 |0,_=>by rw[Nat.add_zero,e];rfl
 |k+1,hk=>by
  have ih:=yL e k (by omega);show GQ mask (gq mask h (s+k))=_;rw[ih];unfold GQ;rw[zr (by dsimp only;omega)];rfl
theorem Nj {h:Int} {s p:Nat} (e:gq mask h s=at0 mask i p):gq mask h (s+(SetTable.runEnd mask i - i)+1)=at0 mask (SetTable.leap mask i p).1 (SetTable.leap mask i p).2:=by
 show GQ mask (gq mask h (s+(SetTable.runEnd mask i - i)))=_;rw[yL e _ (zi _)];unfold GQ;rw[zz (by dsimp only;omega)];rfl
theorem W8 (mask:Nat) (h:Int):∀ l,∃ s,s<=10 * l/\gq mask h s=at0 mask (lp mask h l).1 (lp mask h l).2
 |0=>⟨0,by omega,rfl⟩
 |l+1=>by
  obtain⟨s,hs,e⟩:=W8 mask h l;have:=DW mask (lp mask h l).1;exact⟨_,by omega,Nj e⟩
theorem afd (mask:Nat) (h:Int):∀ l,(lp mask h l).1 < mask+1
 |0=>Nat.mod_lt _ (Nat.succ_pos _)
 |l+1=>Nat.mod_lt _ (Nat.succ_pos _)
theorem Nk (mask:Nat) (h:Int):∀ l,(lp mask h l).2 * 32 ^ l<=SetTable.bits h
 |0=>by simp[lp]
 |l+1=>by
  have ih:=Nk mask h l;show(lp mask h l).2 / 32 * 32 ^ (l+1)<=_;have h1:(lp mask h l).2 / 32 * 32<=(lp mask h l).2:=Nat.div_mul_le_self _ _;have h2:=Nat.mul_le_mul_right (32 ^ l) h1;rw[Nat.pow_succ,Nat.mul_comm (32 ^ l) 32,<-Nat.mul_assoc];exact zD h2 ih
theorem aao (h:Int):SetTable.bits h < 18446744073709551616:=by
 unfold SetTable.bits;have h1:h % 18446744073709551616 < 18446744073709551616:=Int.emod_lt_of_pos _ (by decide);have h2:0<=h % 18446744073709551616:=Int.emod_nonneg _ (by decide);show(h % 18446744073709551616).toNat < _;omega
theorem Sv (mask:Nat) (h:Int):∀ k,(lp mask h (12+k)).2 < 32
 |0=>by
  have h1:=Nk mask h 12;have h2:=aao h;rw[show(32:Nat) ^ 12=1152921504606846976 from rfl] at h1;show(lp mask h 12).2 < 32;omega
 |k+1=>by
  have:=Sv mask h k;show(lp mask h (12+k)).2 / 32 < 32;omega
theorem afe (mask:Nat) (h:Int):∀ k,(lp mask h (12+k)).1=Ni (mask+1) k (lp mask h 12).1:=by
 have step:∀ k,(lp mask h (12+k+1)).1=nx (mask+1) (lp mask h (12+k)).1:=λk=>by
  have:=Sv mask h k;show((lp mask h (12+k)).1 * 5+1+(lp mask h (12+k)).2 / 32) % (mask+1)=_;rw[show(lp mask h (12+k)).2 / 32=0 by omega];rfl
 have comm:∀ k i,Ni (mask+1) k (nx (mask+1) i)=nx (mask+1) (Ni (mask+1) k i):=λk=>by
  induction k with
  |zero=>intro i;rfl
  |succ k ih=>intro i;exact ih _
 intro k
 induction k with
 |zero=>rfl
 |succ k ih=>
  rw[show 12+(k+1)=12+k+1 by omega,step,ih];exact(comm k _).symm
theorem W9 (hm:mask=7\/mask=31\/mask=127) (h:Int) {r:Nat} (hr:r < mask+1):∃ l,l < mask+13/\(lp mask h l).1=r:=by
 obtain⟨k,hk,e⟩:=ahg hm (afd mask h 12) hr;exact⟨12+k,by omega,by rw[afe,e]⟩
theorem gap (h:Tb t):∃ r,r < t.mask+1/\r∉t.place:=by
 by_cases q:∃ r,r < t.mask+1/\r∉t.place
 ·exact q
 ·exfalso;have:=QD (List.range (t.mask+1)) t.place.toList KB λx hx=>by
   rw[kP] at hx;by_cases q':x∈t.place
   ·exact Array.mem_toList_iff.mpr q'
   ·exact absurd ⟨x,hx,q'⟩ q
  rw[kl,ZY] at this;have:=h.full;omega
theorem Xa (ht:Tb t) (h:Int):∃ n,n < 10 * SetTable.turns t.mask/\(gq t.mask h n).j∉t.place:=by
 obtain⟨r,hr,hn⟩:=gap ht;obtain⟨l,hl,e⟩:=W9 ht.mask h hr;obtain⟨s,hs,e'⟩:=W8 t.mask h l;refine⟨s,by unfold SetTable.turns;omega,?_⟩;rw[e'];show(lp t.mask h l).1∉_;rw[e];exact hn
theorem QF (ht:Tb t) (h:Int):∃ n,n < 10 * SetTable.turns t.mask/\(gq t.mask h n).j∉t.place/\∀ m,m < n->(gq t.mask h m).j∈t.place:=by
 obtain⟨n,hn,hf⟩:=Xa ht h;have:∀ k,(∃ n,n<=k/\(gq t.mask h n).j∉t.place/\∀ m,m < n->(gq t.mask h m).j∈t.place)\/∀ m,m<=k->(gq t.mask h m).j∈t.place:=λk=>by
  induction k with
  |zero=>
   by_cases q:(gq t.mask h 0).j∈t.place
   ·exact .inr λm hm=>by rw[show m=0 by omega];exact q
   ·exact .inl ⟨0,zi _,q,λm hm=>absurd hm (Jn _)⟩
  |succ k ih=>
   rcases ih with⟨n,h1,h2⟩|ih
   ·exact .inl ⟨n,by omega,h2⟩
   ·by_cases q:(gq t.mask h (k+1)).j∈t.place
    ·exact .inr λm hm=>by
      by_cases e:m=k+1
      ·rw[e];exact q
      ·exact ih m (by omega)
    ·exact .inl ⟨k+1,zi _,q,λm hm=>ih m (by omega)⟩
 rcases this n with⟨m,h1,h2,h3⟩|q
 ·exact⟨m,by omega,h2,h3⟩
 ·exact absurd (q n (zi _)) hf
theorem gD (xs:Array α) (k:Nat) (a:α):xs.getD k a=xs[k]?.getD a:=by
 by_cases h:k < xs.size
 ·rw[ZH h];simp[Array.getD,h]
 ·rw[ko (by omega)];simp[Array.getD,h]
structure Tok (t:SetTable) (es:Array (Int×Value)):Prop extends Tb t where
 size:t.place.size=es.size
 reach:∀ (i j:Nat) e,t.place[i]?=some j->es[i]?=some e->∃ n,n < 10 * SetTable.turns t.mask/\(gq t.mask e.1 n).j=j/\∀ m,m < n->(gq t.mask e.1 m).j∈t.place
theorem yM (xs:Array α) (p:Nat) (x:α):(SetTable.insertAt xs p x).toList=xs.toList.take p++x::xs.toList.drop p:=by
 unfold SetTable.insertAt;simp[Array.toList_extract,kn]
theorem Ca {xs:Array α} {p:Nat} (hp:p<=xs.size) (x:α) (i:Nat):(SetTable.insertAt xs p x)[i]?=if i < p then xs[i]? else if i=p then some x else xs[i - 1]?:=by
 rw[<-qa,yM,List.getElem?_append];have hl:(xs.toList.take p).length=p:=by rw[ka,ZY];omega
 rw[hl];by_cases h1:i < p
 ·rw[zr h1,zr h1,List.getElem?_take,zr h1,qa]
 ·rw[zz h1,zz h1];by_cases h2:i=p
  ·rw[zr h2,h2,Nat.sub_self];rfl
  ·rw[zz h2,show i - p=(i - p - 1)+1 by omega,qs,List.getElem?_drop,qa,show p+(i - p - 1)=i - 1 by omega]
theorem vC (xs:Array α) (p:Nat) (x:α):(SetTable.insertAt xs p x).size=xs.size+1:=by
 rw[<-ZY,yM,zl,ZN,ka,QN,ZY];omega
theorem Sw {xs:Array α} {p:Nat} {x y:α}:y∈SetTable.insertAt xs p x↔y∈xs\/y=x:=by
 rw[<-Array.mem_toList_iff,yM,List.mem_append,qh,<-Array.mem_toList_iff];constructor
 ·rintro(h|h|h)
  ·exact .inl (List.mem_of_mem_take h)
  ·exact .inr h
  ·exact .inl (List.mem_of_mem_drop h)
 ·rintro(h|h)
  ·rw[<-kq p xs.toList,List.mem_append] at h;rcases h with h|h
   ·exact .inl h
   ·exact .inr (.inr h)
  ·exact .inr (.inl h)
theorem Xb {xs:Array Nat} (hr:QC xs) (hj:j∉xs):QC (SetTable.insertAt xs (SetTable.below xs j) j):=by
 obtain⟨h1,h2,h3⟩:=below_at hr j;intro a b hab hb;rw[vC] at hb;have ga:∀ i,i < xs.size+1->(SetTable.insertAt xs (SetTable.below xs j) j).getD i 0=if i < SetTable.below xs j then xs.getD i 0 else if i=SetTable.below xs j then j else xs.getD (i - 1) 0:=λi hi=>by
  rw[gD,Ca h1];by_cases q1:i < SetTable.below xs j
  ·rw[zr q1,zr q1,<-gD]
  ·rw[zz q1,zz q1];by_cases q2:i=SetTable.below xs j
   ·rw[zr q2,zr q2];rfl
   ·rw[zz q2,zz q2,<-gD]
 have gt:∀ k,SetTable.below xs j<=k->k < xs.size->j < xs.getD k 0:=λk hk hs=>by
  have q:=h3 k hk hs;rcases Nat.lt_or_eq_of_le q with q|q
  ·exact q
  ·exact absurd (Array.mem_of_getElem? (aam hs q.symm)) hj
 rw[ga a (by omega),ga b hb];by_cases a1:a < SetTable.below xs j
 ·rw[zr a1];by_cases b1:b < SetTable.below xs j
  ·rw[zr b1];exact hr a b hab (by omega)
  ·rw[zz b1];have:=h2 a a1;by_cases b2:b=SetTable.below xs j
   ·rw[zr b2];exact this
   ·rw[zz b2];exact Nat.lt_trans this (gt _ (by omega) (by omega))
 ·rw[zz a1];by_cases a2:a=SetTable.below xs j
  ·rw[zr a2,zz (by omega),zz (by omega)];exact gt _ (by omega) (by omega)
  ·rw[zz a2,zz (by omega),zz (by omega)];exact hr _ _ (by omega) (by omega)
theorem aap {es:Array (Int×Value)} (h:Tok t es) {hh:Int} {x:Value} (hn:n < 10 * SetTable.turns t.mask) (hf:(gq t.mask hh n).j∉t.place) (hp:∀ m,m < n->(gq t.mask hh m).j∈t.place) (hj:(gq t.mask hh n).j<=t.mask) (hs:es.size+1<=t.mask) :
  Tok (t.put (gq t.mask hh n).j).1 (SetTable.insertAt es (t.put (gq t.mask hh n).j).2 (hh,x))/\(t.put (gq t.mask hh n).j).1.led=t.led/\(t.put (gq t.mask hh n).j).1.plain=t.plain/\(t.put (gq t.mask hh n).j).1.mask=t.mask:=by
 have hd:=h.dum;have he:t.put (gq t.mask hh n).j=({ t with place:=SetTable.insertAt t.place (SetTable.below t.place (gq t.mask hh n).j) (gq t.mask hh n).j,dummies:=#[] },SetTable.below t.place (gq t.mask hh n).j):=by
  unfold SetTable.put;rw[hd];simp only[Sq,zh,Zl]
 rw[he];have hz:=h.size;have hb:=(below_at h.rise (gq t.mask hh n).j).1;refine⟨{ mask:=h.mask,dum:=rfl,rise:=Xb h.rise hf,bd:=λj hj'=>?_,full:=?_,size:=?_,reach:=λi j e h1 h2=>?_ },rfl,rfl,rfl⟩
 ·rcases Sw.mp hj' with q|q
  ·exact h.bd j q
  ·rw[q];exact hj
 ·show(SetTable.insertAt _ _ _).size<=t.mask;rw[vC];omega
 ·show(SetTable.insertAt _ _ _).size=_;rw[vC,vC,hz]
 ·have h1:(SetTable.insertAt t.place (SetTable.below t.place (gq t.mask hh n).j) (gq t.mask hh n).j)[i]?=some j:=h1;rw[Ca hb] at h1;rw[Ca (by rw[<-hz];exact hb)] at h2;have up:∀ e':Int×Value,(∃ n,n < 10 * SetTable.turns t.mask/\(gq t.mask e'.1 n).j=j/\∀ m,m < n->(gq t.mask e'.1 m).j∈t.place)->∃ n',n' < 10 * SetTable.turns t.mask/\(gq t.mask e'.1 n').j=j/\∀ m,m < n'->(gq t.mask e'.1 m).j∈SetTable.insertAt t.place (SetTable.below t.place (gq t.mask hh n).j) (gq t.mask hh n).j:=
   λe' ⟨n,a,b,c⟩=>⟨n,a,b,λm hm=>Sw.mpr (.inl (c m hm))⟩
  by_cases q1:i < SetTable.below t.place (gq t.mask hh n).j
  ·rw[zr q1] at h1 h2;exact up e (h.reach i j e h1 h2)
  ·rw[zz q1] at h1 h2;by_cases q2:i=SetTable.below t.place (gq t.mask hh n).j
   ·rw[zr q2] at h1 h2;cases h1;cases h2;exact up (hh,x) ⟨n,hn,rfl,hp⟩
   ·rw[zz q2] at h1 h2;exact up e (h.reach (i - 1) j e h1 h2)
theorem Xc {mask:Nat} (h:Int):∀ n,(gq mask h n).j+(gq mask h n).more<=mask
 |0=>by
  have h1:SetTable.bits h % (mask+1) < mask+1:=Nat.mod_lt _ (Nat.succ_pos _);have:=W7 (mask:=mask) (i:=SetTable.bits h % (mask+1)) (by omega);have:=DW mask (SetTable.bits h % (mask+1));show SetTable.bits h % (mask+1)+(SetTable.runEnd mask (SetTable.bits h % (mask+1)) - SetTable.bits h % (mask+1))<=mask;omega
 |n+1=>by
  have ih:=Xc (mask:=mask) h n;show(GQ mask (gq mask h n)).j+(GQ mask (gq mask h n)).more<=mask;unfold GQ;split
  ·dsimp only;omega
  ·dsimp only;generalize hl:(SetTable.leap mask (gq mask h n).i (gq mask h n).perturb).1=i;have h1:i < mask+1:=by rw[<-hl];exact Nat.mod_lt _ (Nat.succ_pos _)
   have:=W7 (mask:=mask) (i:=i) (by omega);have:=DW mask i;omega
theorem QG (h:Int) (n:Nat):(gq mask h n).j<=mask:=by have:=Xc (mask:=mask) h n;omega
def QH (owner:Array (Option Nat)) (j:Nat):Prop:=(owner.getD j (some 0)).isNone=false
theorem Iz {mask:Nat} {h:Int} {owner:Array (Option Nat)}:∀ (fuel l s j:Nat),gq mask h s=at0 mask (lp mask h l).1 (lp mask h l).2->s<=10 * l->(∀ m,m < s->QH owner (gq mask h m).j) →
  SetTable.layClean.free mask owner fuel (lp mask h l).1 (lp mask h l).2=some j->∃ n,n < 10 * (l+fuel)/\(gq mask h n).j=j/\(owner.getD j (some 0)).isNone=true/\∀ m,m < n->QH owner (gq mask h m).j
 |0,l,s,j,_,_,_,e=>by unfold SetTable.layClean.free at e;cases e
 |fuel+1,l,s,j,hs,hl,ho,e=>by
  have hr:=DW mask (lp mask h l).1;unfold SetTable.layClean.free at e;cases hf:(List.range (SetTable.runEnd mask (lp mask h l).1+1 - (lp mask h l).1)).find? λk=>(owner.getD ((lp mask h l).1+k) (some 0)).isNone with
  |some k=>
   rw[hf] at e;cases e;obtain⟨h1,h2,h3⟩:=List.find?_range_eq_some.mp hf;rw[kP] at h2;refine⟨s+k,by omega,?_,h1,λm hm=>?_⟩
   ·rw[yL hs k (by omega)]
   ·by_cases q:m < s
    ·exact ho m q
    ·have h4:=h3 (m - s) (by omega);rw[show m=s+(m - s) by omega,yL hs (m - s) (by omega)];simpa[QH] using h4
  |none=>
   rw[hf] at e;have h3:=List.find?_range_eq_none.mp hf;obtain⟨n,a,b⟩:=Iz fuel (l+1) _ j (Nj hs) (by omega) (λm hm=>by
    by_cases q:m < s
    ·exact ho m q
    ·have h4:=h3 (m - s) (by omega);rw[show m=s+(m - s) by omega,yL hs (m - s) (by omega)];simpa[QH] using h4) e
   exact⟨n,by omega,b⟩
theorem IK {mask:Nat} {h:Int} {owner:Array (Option Nat)}:∀ (fuel l:Nat),SetTable.layClean.free mask owner fuel (lp mask h l).1 (lp mask h l).2=none->∀ l',l<=l'->l' < l+fuel->QH owner (lp mask h l').1
 |0,l,_,l',h1,h2=>by omega
 |fuel+1,l,e,l',h1,h2=>by
  have hr:=DW mask (lp mask h l).1;unfold SetTable.layClean.free at e;cases hf:(List.range (SetTable.runEnd mask (lp mask h l).1+1 - (lp mask h l).1)).find? λk=>(owner.getD ((lp mask h l).1+k) (some 0)).isNone with
  |some k=>rw[hf] at e;cases e
  |none=>
   rw[hf] at e;have h3:=List.find?_range_eq_none.mp hf;by_cases q:l'=l
   ·subst q;have h4:=h3 0 (by omega);simpa[QH] using h4
   ·exact IK fuel (l+1) e l' (by omega) (by omega)
structure Ow (mask:Nat) (hs:List Int) (owner:Array (Option Nat)):Prop where
 size:owner.size=mask+1
 lt:∀ (j idx:Nat),owner[j]?=some (some idx)->idx < hs.length
 all:∀ (idx:Nat) h,hs[idx]?=some h->∃ j,owner[j]?=some (some idx)/\∃ n,n < 10 * SetTable.turns mask/\(gq mask h n).j=j/\∀ m,m < n->QH owner (gq mask h m).j
 inj:∀ (j j' idx:Nat),owner[j]?=some (some idx)->owner[j']?=some (some idx)->j=j'
theorem Xd (o:Ow mask hs owner) (hj:j<=mask):QH owner j↔∃ idx,owner[j]?=some (some idx):=by
 unfold QH;have hlt:j < owner.size:=by rw[o.size];omega
 rw[gD,ZH hlt];cases owner[j] with
 |none=>simp
 |some i=>simp
theorem U0 {f:Nat->Nat}:∀ {xs:List Nat},xs.Nodup->(∀ x∈xs,∀ y∈xs,f x=f y->x=y)->(xs.map f).Nodup:=λ{xs} hn hi=>
 List.pairwise_map.mpr (Kn (λha hb hne e=>hne (hi _ ha _ hb e)) hn)
theorem aaq (o:Ow mask hs owner) (hl:hs.length<=mask):∃ r,r < mask+1/\¬ QH owner r:=by
 by_cases q:∃ r,r < mask+1/\¬ QH owner r
 ·exact q
 ·exfalso;have all:∀ r,r < mask+1->∃ idx,owner[r]?=some (some idx):=λr hr=>by
   by_cases q':QH owner r
   ·exact(Xd o (by omega)).mp q'
   ·exact absurd ⟨r,hr,q'⟩ q
  have f:∀ r,r < mask+1->owner[r]?=some (some ((owner[r]?.getD none).getD 0)):=λr hr=>by
   obtain⟨idx,e⟩:=all r hr;rw[e];rfl
  have:=QD ((List.range (mask+1)).map λr=>(owner[r]?.getD none).getD 0) (List.range hs.length) (U0 KB λx hx y hy e=>by
   rw[kP] at hx hy;have e1:=f x hx;have e2:=f y hy;rw[e] at e1;exact o.inj x y _ e1 e2) λx hx=>by
    obtain⟨r,hr,rfl⟩:=List.mem_map.mp hx;rw[kP] at hr;exact List.mem_range.mpr (o.lt r _ (f r hr))
  rw[zg,kl,kl] at this;omega
theorem aar (hm:mask=7\/mask=31\/mask=127) (o:Ow mask hs owner) (hl:hs.length<=mask) (h:Int) :
  ∃ j,SetTable.layClean.free mask owner (SetTable.turns mask) (SetTable.bits h % (mask+1)) (SetTable.bits h)=some j/\Ow mask (hs++[h]) (owner.setIfInBounds j (some hs.length)):=by
 obtain⟨r,hr,hn⟩:=aaq o hl;cases hf:SetTable.layClean.free mask owner (SetTable.turns mask) (SetTable.bits h % (mask+1)) (SetTable.bits h) with
 |none=>
  obtain⟨l,hl',e⟩:=W9 hm h hr;have:=IK (h:=h) (owner:=owner) (SetTable.turns mask) 0 hf l (QP _) (by unfold SetTable.turns;omega);rw[e] at this;exact absurd this hn
 |some j=>
  obtain⟨n,h1,h2,h3,h4⟩:=Iz (h:=h) (owner:=owner) (SetTable.turns mask) 0 0 j rfl (zi _) (λm hm=>absurd hm (Jn _)) hf;rw[kN] at h1;have hj:j<=mask:=by rw[<-h2];exact QG h n
  have hjs:j < owner.size:=by rw[o.size];omega
  have get:∀ k:Nat,(owner.setIfInBounds j (some hs.length))[k]?=if k=j then some (some hs.length) else owner[k]?:=λk=>by
   rw[Array.getElem?_setIfInBounds];by_cases q:k=j
   ·rw[zr q,zr q.symm,zr hjs]
   ·rw[zz q,zz (λe=>q e.symm)]
  have old:∀ k idx:Nat,owner[k]?=some (some idx)->k≠j:=λk idx e q=>by
   subst q;rw[gD,e] at h3;cases h3
  have up:∀ k,QH owner k->QH (owner.setIfInBounds j (some hs.length)) k:=λk q=>by
   unfold QH at q ⊢;rw[gD] at q ⊢;rw[get];by_cases e:k=j
   ·rw[zr e];rfl
   ·rw[zz e];exact q
  refine⟨j,rfl,⟨by rw[Array.size_setIfInBounds];exact o.size,λk idx e=>?_,λidx g e=>?_,λa b idx e1 e2=>?_⟩⟩
  ·rw[get] at e;rw[zl];by_cases q:k=j
   ·rw[zr q] at e;cases e;simp
   ·rw[zz q] at e;have:=o.lt k idx e;simp;omega
  ·by_cases q:idx < hs.length
   ·rw[ZU q] at e;obtain⟨k,e1,n',a,b,c⟩:=o.all idx g e;exact⟨k,by rw[get,zz (old k idx e1)];exact e1,n',a,b,λm hm=>up _ (c m hm)⟩
   ·rw[qA (by omega)] at e;have:idx - hs.length=0:=by
     by_cases q':idx - hs.length=0
     ·exact q'
     ·rw[Z3 (by simp;omega)] at e;cases e
    rw[this] at e;cases e;have:idx=hs.length:=by omega
    subst this;exact⟨j,by rw[get,zr rfl],n,h1,h2,λm hm=>up _ (h4 m hm)⟩
  ·rw[get] at e1 e2;by_cases q1:a=j
   ·by_cases q2:b=j
    ·rw[q1,q2]
    ·rw[zr q1] at e1;rw[zz q2] at e2;cases e1;have:=o.lt b _ e2;omega
   ·by_cases q2:b=j
    ·rw[zz q1] at e1;rw[zr q2] at e2;cases e2;have:=o.lt a _ e1;omega
    ·rw[zz q1] at e1;rw[zz q2] at e2;exact o.inj a b idx e1 e2
theorem adl (mask:Nat):Ow mask [] (Array.replicate (mask+1) none):=by
 have no:∀ (j idx:Nat),(Array.replicate (mask+1) (none:Option Nat))[j]?≠some (some idx):=λj idx e=>by
  rw[Array.getElem?_replicate] at e;split at e<;>cases e
 exact⟨Array.size_replicate,λj idx e=>absurd e (no j idx),λidx h e=>by simp at e,λj j' idx e=>absurd e (no j idx)⟩
theorem adn (hm:mask=7\/mask=31\/mask=127) (hs:List Int) (hl:hs.length<=mask):∃ owner,SetTable.layClean mask hs.toArray=some owner/\Ow mask hs owner:=by
 have key:∀ (ys xs:List Int) (owner:Array (Option Nat)),Ow mask xs owner->xs.length+ys.length<=mask->∃ Xe,ys.foldl (λ(acc:Option (Array (Option Nat)×Nat)) h=>do
   let (owner,k) <-acc
   let j <-SetTable.layClean.free mask owner (SetTable.turns mask) (SetTable.bits h % (mask+1)) (SetTable.bits h)
   pure (owner.setIfInBounds j (some k),k+1)) (some (owner,xs.length))=some (Xe,xs.length+ys.length)/\Ow mask (xs++ys) Xe:=by
  intro ys
  induction ys with
  |nil=>intro xs owner o _;exact⟨owner,rfl,by rw[QA];exact o⟩
  |cons y ys ih=>
   intro xs owner o hl;rw[ZN] at hl;obtain⟨j,e,o'⟩:=aar hm o (by omega) y;obtain⟨ow,e2,o2⟩:=ih (xs++[y]) _ o' (by simp;omega);refine⟨ow,?_,by rw[qV] at o2;exact o2⟩;rw[JA];simp only[Option.bind_eq_bind,Kx,e,pure];rw[show(xs++[y]).length=xs.length+1 by simp] at e2;rw[ZN,show xs.length+(ys.length+1)=xs.length+1+ys.length by omega];exact e2
 obtain⟨ow,e,o⟩:=key hs [] _ (adl mask) (by simpa using hl);refine⟨ow,?_,by simpa using o⟩;unfold SetTable.layClean;rw[List.foldl_toArray];exact congrArg (Option.map (·.1)) e
theorem JW {α β:Type} {f:α->Option β} {g:α->β}:∀ {xs:List α},(∀ x∈xs,f x=some (g x))->xs.filterMap f=xs.map g
 |[],_=>rfl
 |x::xs,h=>by
  rw[kc,h x (zk ..),zC,JW λy hy=>h y (zo _ hy)]
theorem aas {xs:List Nat} (h:xs.Pairwise (· < ·)):QC xs.toArray:=by
 intro i j hij hj;have hj':j < xs.length:=by simpa using hj
 rw[gD,gD,List.getElem?_toArray,List.getElem?_toArray,zI hj',zI (by omega)];exact List.pairwise_iff_getElem.mp h i j (by omega) hj' hij
theorem U3 {es:Array (Int×Value)} {wanted:Nat} (hm:SetTable.sizeAbove wanted - 1=7\/SetTable.sizeAbove wanted - 1=31\/SetTable.sizeAbove wanted - 1=127) (hl:es.size<=SetTable.sizeAbove wanted - 1) :
  ∃ t' order,t.relaid (es.map (·.1)) wanted=some (t',order)/\(order.filterMap (es[·]?)).toList.Perm es.toList/\Tok t' (order.filterMap (es[·]?))/\t'.led=t.led/\t'.plain=t.plain/\t'.mask=SetTable.sizeAbove wanted - 1:=by
 generalize hM:SetTable.sizeAbove wanted - 1=mask at hm hl ⊢;have hs:(es.toList.map (·.1)).length=es.size:=by simp
 obtain⟨ow,e,o⟩:=adn hm (es.toList.map (·.1)) (by omega);have ea:es.map (·.1)=(es.toList.map (·.1)).toArray:=by
  apply Array.ext';simp
 let L:List (Nat×Nat):=(List.range (mask+1)).filterMap λj=>(ow.getD j none).map λk=>(j,k)
 have hL:∀ j k,(j,k)∈L↔ow[j]?=some (some k):=λj k=>by
  show(j,k)∈List.filterMap _ _↔_;rw[List.mem_filterMap];constructor
  ·rintro⟨a,ha,q⟩;rw[gD] at q;cases h1:ow[a]? with
   |none=>rw[h1] at q;cases q
   |some x=>
    rw[h1] at q;cases x with
    |none=>cases q
    |some y=>cases q;exact h1
  ·intro q;refine⟨j,List.mem_range.mpr ?_,?_⟩
   ·by_cases h:j < ow.size
    ·rw[<-o.size];exact h
    ·rw[ko (by omega)] at q;cases q
   ·rw[gD,q];rfl
 have pL:L.Pairwise λa b=>a.1 < b.1:=by
  refine List.pairwise_filterMap.mpr (List.pairwise_lt_range.imp λ{a b} hab x hx y hy=>?_);cases h1:ow.getD a none with
  |none=>rw[h1] at hx;cases hx
  |some u=>
   cases h2:ow.getD b none with
   |none=>rw[h2] at hy;cases hy
   |some v=>rw[h1] at hx;rw[h2] at hy;cases hx;cases hy;exact hab
 have ndO:(L.map (·.2)).Nodup:=by
  refine List.pairwise_map.mpr (Kn (λ{a b} ha hb hab e=>?_) pL);have h1:=(hL a.1 a.2).mp ha;have h2:=(hL b.1 b.2).mp hb;rw[e] at h1;have:=o.inj _ _ _ h1 h2;omega
 have pO:(L.map (·.2)).Perm (List.range es.size):=Cq ndO KB λz=>by
  rw[List.mem_map,kP];constructor
  ·rintro⟨a,ha,rfl⟩;have:=o.lt _ _ ((hL a.1 a.2).mp ha);omega
  ·intro hz;obtain⟨j,h1,_⟩:=o.all z ((es.toList.map (·.1))[z]'(by omega)) (zI (by omega));exact⟨(j,z),(hL j z).mpr h1,rfl⟩
 let g:Nat->Int×Value:=λk=>es.getD k (0,.none)
 have hg:∀ k,k < es.size->es[k]?=some (g k):=λk hk=>by
  show _=some (es.getD k _);rw[gD,ZH hk];rfl
 have fO:(L.map (·.2)).filterMap (λk=>es[k]?)=(L.map (·.2)).map g:=JW λk hk=>hg k (List.mem_range.mp (pO.mem_iff.mp hk));have eL:((L.map (·.2)).toArray.filterMap (λk=>es[k]?)).toList=L.map λp=>g p.2:=by
  rw[Array.toList_filterMap,fO,Qb];rfl
 refine⟨{ mask:=mask,place:=(L.map (·.1)).toArray,dummies:=#[],finger:=t.finger,led:=t.led,moves:=t.movedTo mask,plain:=t.plain },(L.map (·.2)).toArray,?_,?_,?_,rfl,rfl,rfl⟩
 ·unfold SetTable.relaid SetTable.laid;rw[hM,ea,e];rfl
 ·rw[Array.toList_filterMap,fO];refine(pO.map g).trans ?_;have:(List.range es.size).map g=es.toList:=by
   apply k8;intro i;rw[ZA];by_cases h:i < es.size
   ·rw[kL h,qa,hg i h];rfl
   ·rw[Z3 (by simp;omega),Z3 (by simp;omega)];rfl
  rw[this]
 ·have sz:L.length=es.size:=by
   have:=pO.length_eq;rw[zg,kl] at this;exact this
  refine { mask:=hm,dum:=rfl,rise:=aas (List.pairwise_map.mpr pL),bd:=λj hj=>?_,full:=?_,size:=?_,reach:=λi j x h1 h2=>?_ }
  ·have hj:j∈L.map (·.1):=by simpa using hj
   obtain⟨a,ha,rfl⟩:=List.mem_map.mp hj;have q:=(hL a.1 a.2).mp ha;have:a.1 < ow.size:=by
    by_cases h:a.1 < ow.size
    ·exact h
    ·rw[ko (by omega)] at q;cases q
   have:=o.size;show a.1<=mask;omega
  ·show(L.map (·.1)).toArray.size<=mask;simp only[zt,zg];omega
  ·rw[<-ZY (xs:=Array.filterMap _ _),eL];simp
  ·have h1:(L.map (·.1)).toArray[i]?=some j:=h1;rw[List.getElem?_toArray,ZA] at h1;rw[<-qa,eL,ZA] at h2;cases hi:L[i]? with
   |none=>rw[hi] at h1;cases h1
   |some p=>
    rw[hi] at h1 h2;cases h1;cases h2;have hp:(p.1,p.2)∈L:=qv hi;have q:=(hL p.1 p.2).mp hp;have hk:p.2 < es.size:=List.mem_range.mp (pO.mem_iff.mp (List.mem_map.mpr ⟨p,hp,rfl⟩));have hh:(es.toList.map (·.1))[p.2]?=some (g p.2).1:=by
     rw[ZA,qa,hg _ hk];rfl
    obtain⟨j',q1,n,a,b,c⟩:=o.all _ _ hh;have:j'=p.1:=o.inj _ _ _ q1 q;subst this;refine⟨n,a,b,λm hm'=>?_⟩;obtain⟨k,q2⟩:=(Xd o (QG _ _)).mp (c m hm');show _∈(L.map (·.1)).toArray;rw[List.mem_toArray];exact List.mem_map.mpr ⟨(_,k),(hL _ _).mpr q2,rfl⟩
end S6
namespace S6
open P1 L2
abbrev bW (prog:Program) (w:World) (ks:List Key):Int:=tupleKeyHash (cH prog w) ks
def TE (prog:Program) (w:World) (h:Heap) (z:List Key×Addr) (e:Int×Value):Prop:=e=(bW prog w z.1,.ref z.2)/\IsTupleKey (cH prog w) h z.1 z.2
structure aat (prog:Program) (w:World) (h:Heap) (zs:List (List Key×Addr)) (es:Array (Int×Value)) (t:SetTable):Prop where
 rel:Paired (TE prog w h) zs es.toList
 nd:(zs.map (·.1)).Nodup
 tok:Tok t es
 load:es.size * 5 < t.mask * 3
 led:w.params.followText "set-order" = false->t.led=true
 non:0 < es.size->t.plain=false
def Tu (prog:Program) (w:World) (h:Heap) (a:Addr) (zs:List (List Key×Addr)):Prop:=∃ o es ep t,h.get? a=some o/\o.ExactSet/\o.data=.set es ep t/\aat prog w h zs es t
theorem Sx {h':Heap} {b:Addr} (x:IsTupleKey (cH prog w) h ks b) (k:∀ o,h.get? b=some o->o.cls=.type "tuple" → h'.get? b=some o):IsTupleKey (cH prog w) h' ks b:=
 let ⟨o,its,n,e,c,r⟩:=x;⟨o,its,n,k o e c,c,r⟩
theorem Np {h':Heap} {l:List (Int×Value)} (k:∀ b o,h.get? b=some o->o.cls=.type "tuple" → h'.get? b=some o) (r:Paired (TE prog w h) zs l):Paired (TE prog w h') zs l:=by
 induction r with
 |nil=>exact .nil
 |cons q _ ih=>exact .cons ⟨q.1,Sx q.2 λo e c=>k _ o e c⟩ ih
theorem aat.size {es:Array (Int×Value)} (x:aat prog w h zs es t):es.size=zs.length:=by rw[x.rel.length];simp
theorem Tok.fits {t:SetTable} {es:Array (Int×Value)} (h:Tok t es):t.fits es.size=true:=by
 unfold SetTable.fits SetTable.fill;have h1:=h.full;have h2:=h.size;rw[h.dum];simp[h2];omega
theorem Tok.odd {es:Array (Int×Value)} (h:Tok t es):t.gaveWay=false:=by
 unfold SetTable.gaveWay;rcases h.mask with e|e|e<;>rw[e]<;>rfl
theorem IV {d:Nat} {b:Addr} {Q:Bool->Shared->Prop} (hk:IsTupleKey (cH prog w) s.heap ks b) (h:Q false s):wpAny (model prog w) A (ofAClassStatement (d+1) (.ref b)) Q E s:=by
 have hT:=hk.typeIs;obtain⟨o,items,n,ho,_,hd,hi⟩:=hk;unfold ofAClassStatement;refine zb (QO hT ?_);dsimp only;refine zb (zd ?_);simp only[QY,zh,Zl];refine zb (wpAny_seqItems ho hd ?_);dsimp only;refine zb ?_;rw[<-Array.forIn_toList];refine Kt _ (λrest r s'=>r.1=none/\s'=s/\∀ v∈rest,carriedByValue v=true) _ ?_ ?_ _ _ ⟨rfl,rfl,hi.byValue⟩
 ·rintro v rest r s' ⟨hr,rfl,hall⟩;have hv:ofAClassStatement d v=pure false:=by
   have:=hall v zk;cases v with
   |ref a=>simp[carriedByValue] at this
   |_=>unfold ofAClassStatement;rfl
  rw[hv];refine zb (zd ?_);simp only[zh,Zl];exact zd ⟨rfl,rfl,λu hu'=>hall u (zo _ hu')⟩
 ·rintro⟨r1,r2⟩ s' ⟨hr,rfl,_⟩;simp only at hr;subst hr;exact zd h
theorem ado {b:Addr} {Q:Bool->Shared->Prop} (hk:IsTupleKey (cH prog w) s.heap ks b) (vs:List Value) (hv:∀ v∈vs,∃ c ls,v=.ref c/\IsTupleKey (cH prog w) s.heap ls c) (h:Q false s):wpAny (model prog w) A (searchCouldBeSeen (.ref b) vs) Q E s:=by
 unfold searchCouldBeSeen;refine zb ?_;refine Kt _ (λrest r s'=>r.1=none/\s'=s/\∀ v∈rest,∃ c ls,v=.ref c/\IsTupleKey (cH prog w) s.heap ls c) _ ?_ ?_ _ _ ⟨rfl,rfl,hv⟩
 ·rintro v rest r s' ⟨hr,rfl,hall⟩;obtain⟨c,ls,rfl,hc⟩:=hall v zk;have rest':∀ v∈rest,∃ c ls,v=.ref c/\IsTupleKey (cH prog w) s'.heap ls c:=λu hu=>hall u (zo _ hu);dsimp only;split
  ·exact zd ⟨rfl,rfl,rest'⟩
  ·refine zb (wpAny_eqIsQuiet_tuple hk ?_);simp only[QY,zh,Zl];refine zb (wpAny_eqIsQuiet_tuple hc ?_);simp only[QY,zh,Zl];refine zb (IV hk ?_);simp only[zh,Zl];refine zb (IV hc ?_);simp only[zh,Zl];exact zd ⟨rfl,rfl,rest'⟩
 ·rintro⟨r1,r2⟩ s' ⟨hr,rfl,_⟩;simp only at hr;subst hr;exact zd h
theorem J8 {h:Heap}:∀ {zs:List (List Key×Addr)} {l:List (Int×Value)},Paired (TE prog w h) zs l->∀ {i:Nat} {e},l[i]?=some e->∃ z,zs[i]?=some z/\TE prog w h z e
 |_,_,.nil,i,e,q=>by simp at q
 |_,_,.cons r _,0,e,q=>by simp at q;subst q;exact⟨_,rfl,r⟩
 |_,_,.cons _ t,i+1,e,q=>by
  rw[qs] at q;obtain⟨z,z1,z2⟩:=J8 t q;exact⟨z,by rw[qs];exact z1,z2⟩
theorem yN {h:Heap}:∀ {zs:List (List Key×Addr)} {l:List (Int×Value)},Paired (TE prog w h) zs l->∀ {i:Nat} {z},zs[i]?=some z->∃ e,l[i]?=some e/\TE prog w h z e
 |_,_,.nil,i,e,q=>by simp at q
 |_,_,.cons r _,0,e,q=>by simp at q;subst q;exact⟨_,rfl,r⟩
 |_,_,.cons _ t,i+1,e,q=>by
  rw[qs] at q;obtain⟨z,z1,z2⟩:=yN t q;exact⟨z,by rw[qs];exact z1,z2⟩
theorem least (p:Nat->Prop):∀ (k n:Nat),p (n+k)->∃ d,d<=k/\p (n+d)/\∀ m,n<=m->m < n+d->¬ p m
 |0,n,h=>⟨0,zi _,h,λm h1 h2=>absurd h2 (by omega)⟩
 |k+1,n,h=>by
  by_cases q:p n
  ·exact⟨0,QP _,q,λm h1 h2=>absurd h2 (by omega)⟩
  ·obtain⟨d,h1,h2,h3⟩:=least p k (n+1) (by rw[show n+1+k=n+(k+1) by omega];exact h);refine⟨d+1,by omega,by rw[show n+(d+1)=n+1+d by omega];exact h2,λm a b=>?_⟩;by_cases e:m=n
   ·rw[e];exact q
   ·exact h3 m (by omega) (by omega)
theorem search {o:Obj} {es:Array (Int×Value)} {b:Addr} (hu:A.units < cLine) (ho:s.heap.get? a=some o) (hd:o.data=.set es ep t) (x:aat prog w s.heap zs es t) (hk:IsTupleKey (cH prog w) s.heap ks b) {N:Nat} (hN:N < 10 * SetTable.turns t.mask) (hf:(gq t.mask (bW prog w ks) N).j∉t.place) (hp:∀ m,m < N->(gq t.mask (bW prog w ks) m).j∈t.place) {Q:SetFound->Shared->Prop} (h1:ks∈zs.map (·.1)->Q (.there none) s) (h2:ks∉zs.map (·.1)->Q (.free (gq t.mask (bW prog w ks) N).j false) s) :
  ∀ (k n fuel:Nat) (stand:Option SetTable.Probe),n+k=N->k < fuel->stand.getD (t.probeStart (bW prog w ks))=gq t.mask (bW prog w ks) n->(∀ m,m < n->∀ i:Nat,t.place[i]?=some (gq t.mask (bW prog w ks) m).j->∀ z:List Key×Addr,zs[i]?=some z->z.1≠ks) →
   wpAny (model prog w) A (setSearchFrom a (.ref b) (bW prog w ks) true fuel stand) Q E s:=by
 have get:∀ {i:Nat} {e},es[i]?=some e->∃ z,zs[i]?=some z/\TE prog w s.heap z e:=λ{i e} q=>J8 x.rel (by rw[qa];exact q);have fit:=x.tok.fits;intro k
 induction k using Nat.strongRecOn with
 |ind k ih=>
  intro n fuel stand hn hfu hst hb;cases fuel with
  |zero=>omega
  |succ fuel=>
  unfold setSearchFrom;refine zb (qB ho hd fit ?_);dsimp only;rw[zz (by rw[x.tok.odd];decide)];refine zb (zd ?_);rw[hst];obtain⟨d,d1,d2,d3⟩:=least (λm=>m=N\/∃ i:Nat,t.place[i]?=some (gq t.mask (bW prog w ks) m).j/\∃ e:Int×Value,es[i]?=some e/\e.1=bW prog w ks) k n (.inl hn);have live:∀ m,m < N->∃ i:Nat,t.place[i]?=some (gq t.mask (bW prog w ks) m).j/\∃ e,es[i]?=some e:=λm hm=>by
   obtain⟨i,hi,e⟩:=Array.getElem_of_mem (hp m hm);have hi':i < es.size:=by rw[<-x.tok.size];exact hi
   exact⟨i,by rw[ZH hi,e],es[i],ZH hi'⟩
  have pr:=Nh x.tok.toTb (λi=>(es[i]?.map (·.1)).getD 0) (bW prog w ks) d (10 * SetTable.turns t.mask) n (by omega) λm a1 a2=>by
   have q:=d3 m a1 a2;obtain⟨i,e1,e,e2⟩:=live m (by omega);refine⟨i,e1,λq'=>q (.inr ⟨i,e1,e,e2,?_⟩)⟩;simpa[e2] using q'
  have prb:t.probe (λi=>(es[i]?.map (·.1)).getD 0) (bW prog w ks) (gq t.mask (bW prog w ks) n)=SetTable.probe.go t (λi=>(es[i]?.map (·.1)).getD 0) (bW prog w ks) (10 * SetTable.turns t.mask) (gq t.mask (bW prog w ks) n):=rfl;by_cases hE:n+d=N
  ·have p1:=pr.1 (by rw[hE];exact hf);rw[hE] at p1;show wpAny _ _ (match t.probe (λi=>(es[i]?.map (·.1)).getD 0) (bW prog w ks) (gq t.mask (bW prog w ks) n) with|some met=>_|_=>_) _ _ _;rw[prb,p1];dsimp only;refine zd (h2 λhm=>?_);obtain⟨z,hz,ez⟩:=List.mem_map.mp hm;obtain⟨i,hi,e⟩:=jv hz;obtain⟨ee,e1,e2⟩:=yN x.rel (show zs[i]?=some z by rw[zI hi,e]);rw[qa] at e1;have hi':i < t.place.size:=by rw[x.tok.size,x.size];exact hi
   obtain⟨n0,b1,b2,b3⟩:=x.tok.reach i _ ee (ZH hi') e1;rw[e2.1,ez] at b2 b3;have lt:n0 < N:=by
    rcases Nat.lt_trichotomy n0 N with q|q|q
    ·exact q
    ·exfalso;rw[<-q] at hf;rw[b2] at hf;exact hf (Array.getElem_mem hi')
    ·exact absurd (b3 N q) hf
   by_cases q:n0 < n
   ·exact hb n0 q i (by rw[b2];exact ZH hi') z (by rw[zI hi,e]) ez
   ·exact d3 n0 (by omega) (by omega) (.inr ⟨i,by rw[b2];exact ZH hi',ee,e1,by rw[e2.1,ez]⟩)
  ·rcases d2 with q|⟨i,i1,e,i2,i3⟩
   ·exact absurd q hE
   ·have p2:=pr.2 i i1 (by simpa[i2] using i3);show wpAny _ _ (match t.probe (λi=>(es[i]?.map (·.1)).getD 0) (bW prog w ks) (gq t.mask (bW prog w ks) n) with|some met=>_|_=>_) _ _ _;rw[prb,p2];dsimp only;obtain⟨z,z1,z2⟩:=get i2;have hv:∀ v∈((es.filter (·.1==bW prog w ks)).toList.map (·.2)),∃ c ls,v=.ref c/\IsTupleKey (cH prog w) s.heap ls c:=λv hv=>by
     obtain⟨u,hu',rfl⟩:=List.mem_map.mp hv;rw[Array.toList_filter,List.mem_filter] at hu';obtain⟨jj,hj,ej⟩:=jv hu'.1;obtain⟨y,y1,y2⟩:=J8 x.rel (show es.toList[jj]?=some u by rw[zI hj,ej]);exact⟨y.2,y.1,by rw[y2.1],y2.2⟩
    have go:wpAny (model prog w) A (do
      let some (_,y):=es[i]?|unsupported "internal:set-entry"
      let equal <-holding [y] (eqBool y (.ref b))
      let (es',_,t') <-setState a
      if(true&&equal)=true then return SetFound.there none
      let some same:=t'.sameMemory t.moves t.mask|unsupported "set.changed-during-lookup:is-the-new-block-at-the-old-address"
      let still <-match (if same then t'.slot (gq t.mask (bW prog w ks) (n+d)).j else .empty) with
       |.live i'=>match es'[i']? with
        |some (_,y')=>do pure (if <-isSame y' y then some i' else none)
        |none=>pure none
       |_=>pure none
      match still with
      |none=>rule "set.search.anew"; setSearchFrom a (.ref b) (bW prog w ks) true fuel none
      |some i'=>if equal then return .there (some i') else setSearchFrom a (.ref b) (bW prog w ks) true fuel (some (gq t.mask (bW prog w ks) (n+d+1)))) Q E s:=by
     rw[i2,z2.1];dsimp only;refine zb (Qr (wpAny_eqBool_tuple hu z2.2 hk ?_));refine zb (qB ho hd fit ?_);dsimp only;by_cases hq:z.1=ks
     ·rw[zS hq];simp only[Bool.and_self,ZZ];exact zd (h1 (List.mem_map.mpr ⟨z,qv z1,hq⟩))
     ·rw[ZT hq];simp only[Bool.and_false,zh,Zl];have sm:t.sameMemory t.moves t.mask=some true:=by unfold SetTable.sameMemory;simp
      rw[sm];dsimp only;simp only[ZZ];rw[zQ x.tok.toTb i1];dsimp only;rw[i2,z2.1];dsimp only;refine zb (wpAny_isSame_ref_self (zb (zd ?_)));simp only[ZZ];refine ih (N - (n+d+1)) (by omega) (n+d+1) fuel _ (by omega) (by omega) rfl λm hm i' j1 y y1=>?_;by_cases c1:m < n
      ·exact hb m c1 i' j1 y y1
      ·by_cases c2:m=n+d
       ·subst c2;have:i'=i:=by
         have s1:=DR x.tok.rise j1;have s2:=DR x.tok.rise i1;omega
        subst this;rw[z1] at y1;cases y1;exact hq
       ·have q:=d3 m (by omega) (by omega);intro e';obtain⟨ee,e1,e2⟩:=yN x.rel y1;rw[qa] at e1;exact q (.inr ⟨i',j1,ee,e1,by rw[e2.1,e']⟩)
    split
    ·refine zb (ado hk _ hv ?_);simp only[zh,Zl];exact go
    ·exact go
def Txs (ks:List Key):Prop:=∃ x:Str,(Sum.inr x:Key)∈ks
theorem Xf {b:Addr} {Q:Bool->Shared->Prop} (hk:IsTupleKey (cH prog w) s.heap ks b) (hx:Txs ks) (h:Q false s):wpAny (model prog w) A (hashByValue 8 (.ref b)) Q E s:=by
 have hT:=hk.typeIs;obtain⟨o,items,n,ho,_,hd,hi⟩:=hk;unfold hashByValue;refine zb (wpAny_specialOf hT F.slot_tuple_hash.lookup ?_);dsimp only;refine zb (wpAny_seqItems ho hd ?_);show wpAny _ _ (forIn items _ _ >>= _) _ _ s;refine zb ?_;rw[<-Array.forIn_toList];refine Kt _ (λrest r s'=>r.1=none/\s'=s/\∃ left,ItemsAre (cH prog w) left rest/\Txs left) _ ?_ ?_ _ _ ⟨rfl,rfl,ks,hi,hx⟩
 ·rintro v rest r s' ⟨hr,rfl,left,hl,x,hx⟩;cases hl with
  |@cons k _ ks' _ h1 hl'=>
   rcases bI h1 with⟨i,t,rfl,rfl⟩|⟨y,t,rfl,rfl⟩
   ·have e:hashByValue 7 (.int i t)=pure true:=by unfold hashByValue;rfl
    rw[e];refine zb (zd ?_);simp only[QY,zh,Zl];refine zd ⟨rfl,rfl,ks',hl',x,?_⟩;rcases List.mem_cons.mp hx with q|q
    ·cases q
    ·exact q
   ·have e:hashByValue 7 (.str y t)=pure false:=by unfold hashByValue;rfl
    rw[e];refine zb (zd ?_);simp only[jI,ZZ];exact zd (zd h)
 ·rintro⟨r1,r2⟩ s' ⟨hr,rfl,left,hl,x,hx⟩;cases hl;cases hx
theorem U4 {es:Array (Int×Value)} (h:Tok t es):Tok { t with plain:=false } es:={ mask:=h.mask,dum:=h.dum,rise:=h.rise,bd:=h.bd,full:=h.full,size:=h.size,reach:=h.reach }
theorem aau {b:Addr} {Q:Bool->Shared->Prop} (hu:A.units < cLine) (hS:Tu prog w s.heap a zs) (hk:IsTupleKey (cH prog w) s.heap ks b) (hx:Txs ks) (hroom:zs.length+1<=70) (h:∀ r h' zs',Heap.SameBut a s.heap h'->Tu prog w h' a zs'->(∀ z,z∈zs'↔z∈zs\/(z=(ks,b)/\ks∉zs.map (·.1)))->zs'.length<=zs.length+1->Q r { s with heap:=h' }):wpAny (model prog w) A (setAddHashed a (.ref b) (bW prog w ks)) Q E s:=by
 obtain⟨o,es,ep,t,ho,hex,hd,x⟩:=id hS;have hsz:=x.size;have fit:=x.tok.fits;have hld:=x.load;have hcl:o.cls≠.type "tuple" := by rw[hex.1];decide
 obtain⟨N,n1,n2,n3⟩:=QF x.tok.toTb (bW prog w ks);have hturn:10 * SetTable.turns t.mask < 100000:=by
  unfold SetTable.turns;rcases x.tok.mask with e|e|e<;>rw[e]<;>decide
 unfold setAddHashed setAddHashedIn;refine Qr (zb (qB ho hd fit ?_));dsimp only;have hb:byScan (.ref b) es=false:=by unfold byScan;rfl
 rw[hb];simp only[zh,Zl];unfold setSearch;refine zb (search hu ho hd x hk n1 n2 n3 (λhm=>?_) (λhm=>?_) N 0 100000 none (by omega) (by omega) rfl λm hm=>absurd hm (Jn _))
 ·dsimp only;exact zd (h _ s.heap zs (Heap.SameBut.refl a s.heap) hS (λz=>⟨.inl,λq=>q.elim id λq=>absurd hm q.2⟩) (kB _))
 ·dsimp only;refine zb (qB ho hd fit ?_);dsimp only;have hj:=QG (mask:=t.mask) (bW prog w ks) N;have hm7:es.size+1<=t.mask:=by rcases x.tok.mask with e|e|e<;>rw[e] at hld ⊢<;>omega
  obtain⟨pt,pl,pp,pm⟩:=aap (x:=.ref b) x.tok n1 n2 n3 hj hm7;generalize hP:t.put (gq t.mask (bW prog w ks) N).j=P at pt pl pp pm ⊢;obtain⟨t1,p⟩:=P;dsimp only at pt pl pp pm ⊢;have hil:(SetTable.insertAt es p (bW prog w ks,.ref b)).toList.Perm (es.toList++[(bW prog w ks,.ref b)]):=by
   rw[yM];refine(List.perm_middle).trans ?_;rw[kq];exact(List.perm_append_singleton _ _).symm
  have r0:Paired (TE prog w s.heap) (zs++[(ks,b)]) (es.toList++[(bW prog w ks,.ref b)]):=Qy x.rel (.cons ⟨rfl,hk⟩ .nil);obtain⟨zs1,q1,r1⟩:=Aj hil r0;have nd1:(zs1.map (·.1)).Nodup:=(q1.map (·.1)).nodup_iff.mpr (by
   rw[List.map_append];exact List.nodup_append.mpr ⟨x.nd,by simp,λu hu' v hv=>by simp at hv;subst hv;exact λe=>hm (e▸hu')⟩)
  have m1:∀ z,z∈zs1↔z∈zs\/(z=(ks,b)/\ks∉zs.map (·.1)):=λz=>by
   rw[q1.mem_iff,List.mem_append,List.mem_singleton];exact⟨λq=>q.imp id λe=>⟨e,hm⟩,λq=>q.imp id λe=>e.1⟩
  have l1:zs1.length=zs.length+1:=by rw[q1.length_eq];simp
  have s1:(SetTable.insertAt es p (bW prog w ks,Value.ref b)).size=es.size+1:=vC _ _ _;have up:∀ (hp:Heap) (ob:Obj) (e1 e2:Array (Int×Value)) (n1:Nat) (u1 u2:SetTable),hp.get? a=some ob->ob.data=.set e1 n1 u1->(hp.update a (Obj.putSet e2 u2)).get? a=some { ob with data:=.set e2 (n1+1) u2 }:=λhp ob e1 e2 n1 u1 u2 g q=>by
   have:=Heap.get?_update_self (Obj.putSet e2 u2) g (by rw[putSet_of e2 u2 q];rfl);rw[putSet_of e2 u2 q] at this;exact this
  have kp:∀ {h':Heap},Heap.SameBut a s.heap h'->∀ c oc,s.heap.get? c=some oc->oc.cls=.type "tuple" → h'.get? c=some oc:=λsb c oc e ec=>by
   rw[sb.2 c λq=>by subst q;rw[ho] at e;cases e;exact hcl ec];exact e
  have fin:∀ t2:SetTable,Tok t2 (SetTable.insertAt es p (bW prog w ks,.ref b))->t2.led=t1.led->t2.plain=false->t2.mask=t1.mask->wpAny (model prog w) A (do
    storeSet a (SetTable.insertAt es p (bW prog w ks,.ref b)) t2
    if(!false&&t2.tooFull)=true then setRelay a (SetTable.grown (es.size+1))
    pure true) Q E s:=by
   intro t2 k2 l2 p2 m2;have g1:=up s.heap o es (SetTable.insertAt es p (bW prog w ks,.ref b)) ep t t2 ho hd;refine zb (wpAny_storeSet_of ho hd ?_ (fits_of_scanBound (by rw[s1];have:scanBound=4096:=rfl;omega)));have sb1:Heap.SameBut a s.heap (s.heap.update a (Obj.putSet (SetTable.insertAt es p (bW prog w ks,.ref b)) t2)):=Heap.SameBut.update ..;have hfill:t2.fill=es.size+1:=by unfold SetTable.fill;rw[k2.dum,k2.size,s1];rfl
   have afg:w.params.followText "set-order" = false->t2.led=true:=λq=>l2.trans (pl.trans (x.led q));by_cases yO:t2.tooFull=true
   ·rw[yO];simp only[jI,Bool.and_self,ZZ];have hf:t2.fill * 5>=t2.mask * 3:=by unfold SetTable.tooFull at yO;simpa using yO
    rw[hfill,m2,pm] at hf;have hg:SetTable.grown (es.size+1)=(es.size+1) * 4:=by unfold SetTable.grown;rw[zz (by omega)]
    have cas:(es.size=4/\t.mask=7)\/(es.size=18/\t.mask=31):=by
     rcases x.tok.mask with e|e|e<;>rw[e] at hf hld
     ·exact .inl ⟨by omega,e⟩
     ·exact .inr ⟨by omega,e⟩
     ·omega
    have hsa:(es.size=4->SetTable.sizeAbove (SetTable.grown (es.size+1))=32)/\(es.size=18->SetTable.sizeAbove (SetTable.grown (es.size+1))=128):=by
     rw[hg];exact⟨λe=>by rw[e];decide,λe=>by rw[e];decide⟩
    have hms:SetTable.sizeAbove (SetTable.grown (es.size+1)) - 1=31/\es.size=4\/SetTable.sizeAbove (SetTable.grown (es.size+1)) - 1=127/\es.size=18:=by
     rcases cas with⟨e,_⟩|⟨e,_⟩
     ·exact .inl ⟨by rw[hsa.1 e],e⟩
     ·exact .inr ⟨by rw[hsa.2 e],e⟩
    obtain⟨t3,order,e3,pr3,k3,l3,p3,m3⟩:=U3 (t:=t2) (es:=SetTable.insertAt es p (bW prog w ks,.ref b)) (wanted:=SetTable.grown (es.size+1)) (by rcases hms with⟨e,_⟩|⟨e,_⟩<;>rw[e]<;>simp) (by rw[s1];rcases hms with⟨e,e'⟩|⟨e,e'⟩<;>rw[e,e']<;>decide);unfold setRelay;refine zb (zb (qB g1 rfl k2.fits ?_));dsimp only;have hsl:¬ (SetTable.sizeAbove (SetTable.grown (es.size+1)) > sizeLine):=by
     rcases cas with⟨e,_⟩|⟨e,_⟩
     ·rw[hsa.1 e];decide
     ·rw[hsa.2 e];decide
    rw[zz hsl];have sz3:(order.filterMap (λi=>(SetTable.insertAt es p (bW prog w ks,Value.ref b))[i]?)).size=(SetTable.insertAt es p (bW prog w ks,Value.ref b)).size:=by
     rw[<-ZY,pr3.length_eq,ZY]
    rw[e3];refine zb ?_;show wpAny _ _ (if((order.filterMap (λi=>(SetTable.insertAt es p (bW prog w ks,Value.ref b))[i]?)).size != (SetTable.insertAt es p (bW prog w ks,Value.ref b)).size)=true then _ else pure (order.filterMap (λi=>(SetTable.insertAt es p (bW prog w ks,Value.ref b))[i]?),t3)) _ _ _;rw[zz (by rw[sz3];simp)];refine zd ?_;dsimp only;refine wpAny_storeSet_of g1 rfl ?_ (fits_of_scanBound (by rw[sz3,s1];have:scanBound=4096:=rfl;omega));have g2:=up _ _ (SetTable.insertAt es p (bW prog w ks,.ref b)) (order.filterMap (λi=>(SetTable.insertAt es p (bW prog w ks,Value.ref b))[i]?)) _ t2 t3 g1 rfl;have sb2:Heap.SameBut a s.heap ((s.heap.update a (Obj.putSet (SetTable.insertAt es p (bW prog w ks,.ref b)) t2)).update a (Obj.putSet (order.filterMap (λi=>(SetTable.insertAt es p (bW prog w ks,Value.ref b))[i]?)) t3)):=sb1.trans (Heap.SameBut.update ..);obtain⟨zs2,q2,r2⟩:=Aj pr3 r1;refine zd (h _ _ zs2 sb2 ⟨_,_,_,t3,g2,hex,rfl,⟨Np (kp sb2) r2,(q2.map (·.1)).nodup_iff.mpr nd1,k3,?_,λq=>l3.trans (afg q),λ_=>p3.trans p2⟩⟩ (λz=>by rw[q2.mem_iff];exact m1 z) (by rw[q2.length_eq];omega));rw[sz3,s1,m3];rcases hms with⟨e,e'⟩|⟨e,e'⟩<;>rw[e,e']<;>decide
   ·have yO:t2.tooFull=false:=by simpa using yO
    rw[yO];simp only[Bool.and_false,zh,Zl];refine zb (zd ?_);refine zd (h _ _ zs1 sb1 ⟨_,_,_,t2,g1,hex,rfl,⟨Np (kp sb1) r1,nd1,k2,?_,afg,λ_=>p2⟩⟩ m1 (by omega));unfold SetTable.tooFull at yO;rw[hfill] at yO;rw[s1];simpa using yO
  split
  ·refine zb (Xf hk hx ?_);simp only[zh,Zl];exact fin { t1 with plain:=false } (U4 pt) rfl rfl rfl
  ·rename_i hp;refine zb (zd ?_);simp only[ZZ];exact fin t1 pt rfl (by simpa using hp) rfl
end S6
namespace S1
open L2
theorem QK {x:Value} (G:List Value->Prop) (kd:SortKind) (rk:List Value->Value->Nat) {Q:VP_} (ahj:∀ (E':VP_) (Q':List Value->Shared->Prop),(∀ vs h' d tk,G vs->s.heap.objs.size<=h'.objs.size->(∀ c o,s.heap.get? c=some o->h'.get? c=some o)->Q' vs { s with heap:=h',drawn:=d,toks:=tk })->wpAny (model prog w) A.in1 (collect x) Q' E' s)
  (hK:∀ vs,G vs->2<=vs.length->∀ (E':VP_) (A':Around) (s':Shared),(∀ c o,s.heap.get? c=some o->s'.heap.get? c=some o)->∀ Q:SortKind->Shared->Prop,Q kd s'->wpAny (model prog w) A' (keyKind' vs.toArray) Q E' s') (hC:∀ vs,G vs->∀ (A':Around) (s':Shared),(∀ c o,s.heap.get? c=some o->s'.heap.get? c=some o)->WL prog w A' s' kd (rk vs) (pairsOf vs)) (h64:∀ vs,G vs->vs.length < 64)
  (h:∀ vs,G vs->∀ (l:Addr) (h':Heap) (d:Drawn) (tk n:Nat) (st:SortSt),(arrOf st).Perm (pairsOf vs)->Up (rk vs) (arrOf st) (pairsOf vs).size->s.heap.objs.size<=l->(∀ c o,s.heap.get? c=some o->h'.get? c=some o)->h'.get? l=some (seqObj "list" ((arrOf st).map (·.2)) n)->Q (.ref l) { s with heap:=h',drawn:=d,toks:=tk }) :
  wpAny (model prog w) A (call (.builtin "sorted") [x]) Q E s:=by
 refine Calls.call_function_entry kind_sorted plain_sorted entry_sorted (args_sorted1 _) ?_;unfold Builtin.«sorted»;refine zb (m:=checkCount "sorted" 1 1 _) (zd (zb (ahj _ _ λvs h1 d tk hG hle ext=>?_)));have ai1:=h64 vs hG;refine zb (wpAny_newList ?_);have hoL:(h1.push (seqObj "list" vs.toArray 0)).get? h1.objs.size=some (seqObj "list" vs.toArray 0):=zv _ rfl;have old:∀ s':Shared,Old h1.objs.size { s with heap:=h1.push (seqObj "list" vs.toArray 0),drawn:=d,toks:=tk } s'->∀ c o,s.heap.get? c=some o->s'.heap.get? c=some o:=λs' q c o e=>
  q c o (z5 (zw (ext c o e))) (ze _ (ext c o e))
 refine zb (Qr (QI slot_list_sort ⟨_,hoL,rfl⟩ entry_list_sort (afb hoL (λq s' o=>hK vs hG q _ _ s' (old s' o)) (λs' o=>hC vs hG _ s' (old s' o)) (h64 vs hG) λst q1 q2=>⟨_,rfl,zd ⟨_,rfl,?_⟩⟩) (args_list_sort _)));obtain⟨n,en⟩:=sortedHeap_at (out:=(arrOf st).map (·.2)) hoL;refine h vs hG h1.objs.size _ d tk n st q1 q2 hle (λc o e=>?_) en;have hb:=zw (ext c o e);rw[sortedHeap_old (z5 hb) (by rw[qc];exact qS hb)];exact ze _ (ext c o e)
end S1
namespace P1
open L2 S6
section
theorem U5 {d:Drawn} (I:Inv X pins σ H s):Inv X pins σ H { s with drawn:=d }:=⟨I.ok,I.os,I.bare,I.base,I.loc,I.cell,I.free,I.q9,I.pin,I.hok,I.len⟩
variable {fs:Ev->Option LS_} {p:Pos}
end
section
variable {xs:LS_}
end
section
variable {xs:LS_}
variable {fs:Ev->Option LS_} {p':Pos}
end
end P1
namespace P1
open L2 S1 S6
def Ts (prog:Program) (w:World) (h:Heap) (a:Addr) (zs:List (List Key×Addr)):Prop:=∃ o es ep t,h.get? a=some o/\o.ExactSet/\o.data=.set es ep t/\es.toList=zs.map (λz=>(bW prog w z.1,(.ref z.2:Value)))/\t.fits es.size=true/\(w.params.followText "set-order" = false->t.led=true)/\(0 < es.size->t.plain=false)
theorem Nq {prog:Program} {w:World} {h:Heap}:∀ {zs:List (List Key×Addr)} {l:List (Int×Value)},Paired (TE prog w h) zs l->l=zs.map (λz=>(bW prog w z.1,(.ref z.2:Value)))
 |_,_,.nil=>rfl
 |_,_,.cons r t=>by rw[zC,<-Nq t,r.1]
theorem Ts.of (x:Tu prog w h a zs):Ts prog w h a zs:=
 let ⟨o,es,ep,t,e,r,d,q⟩:=x;⟨o,es,ep,t,e,r,d,Nq q.rel,q.tok.fits,q.led,q.non⟩
theorem Ts.keep {h':Heap} (x:Ts prog w h a zs) (k:∀ o,h.get? a=some o->h'.get? a=some o):Ts prog w h' a zs:=
 let ⟨o,es,ep,t,e,r⟩:=x;⟨o,es,ep,t,k o e,r⟩
def hoU (X:Cx) (a:Addr) (zs:List (List Key×Addr)):HO:=.ext λh=>Ts X.prog X.w h a zs
theorem Xg (X:Cx) (h:Ks ks us):ItemsAre (cH X.prog X.w) ks us:=by
 induction h with
 |nil=>exact .nil
 |cons r _ ih=>exact .cons r ih
theorem Xh (X:Cx) (h:ItemsAre (cH X.prog X.w) ks us):Ks ks us:=by
 induction h with
 |nil=>exact .nil
 |cons r _ ih=>exact .cons r ih
theorem Nr (X:Cx) (q:j5 h ks v):∃ b,v=.ref b/\IsTupleKey (cH X.prog X.w) h ks b:=by
 obtain⟨a,o,its,n,e,g,c,d,p⟩:=q;exact⟨a,e,o,its.toArray,n,g,c,d,by simpa using Xg X p⟩
theorem Xi (X:Cx) {b:Addr} (q:IsTupleKey (cH X.prog X.w) h ks b):j5 h ks (.ref b):=by
 obtain⟨o,its,n,g,c,d,p⟩:=q;exact⟨b,o,its.toList,n,rfl,g,c,by simpa using d,Xh X p⟩
def afi (X:Cx):List V->Hp->VK->Prop:=λxs H Q=>∃ v b ds cR,xs=[v]/\bh X.K H b v/\wG b=some ds/\zO ds=some cR/\cR.length<=64/\(∀ k∈cR,Txs k) ∧
 ∀ a zs H',Same H H'->H' a=some (hoU X a zs)->(∀ k,k∈zs.map (·.1)↔k∈cR)->(zs.map (·.1)).Nodup->(∀ z∈zs,Rep X.K H' (tupK z.1) (.ref z.2))->Q (.ref a) H'
def CU (X:Cx) (S:Addr) (its:List Value) (h:Heap) (ys:List (List Key)):Prop:=∃ zs,zs.map (·.1)=ys/\Tu X.prog X.w h S zs/\∀ z∈zs,(.ref z.2:Value)∈its
theorem yP {h:Heap}:∀ {cR:List (List Key)} {vs:List Value},Paired (j5 h) cR vs->∀ {i:Nat} {v:Value},vs[i]?=some v->∃ k,cR[i]?=some k/\j5 h k v
 |_,_,.nil,i,v,q=>by simp at q
 |_,_,.cons r _,0,v,q=>by simp at q;subst q;exact⟨_,rfl,r⟩
 |_,_,.cons _ t,i+1,v,q=>by
  rw[qs] at q;obtain⟨z,z1,z2⟩:=yP t q;exact⟨z,by rw[qs];exact z1,z2⟩
theorem Nt {h0:Heap} {S:Addr} (hs:Paired (j5 h0) cR its) (hl:cR.length<=64) (hx:∀ k∈cR,Txs k) (hS:h0.objs.size=S):Adds X.prog X.w S [S+1] (λh zs=>(∀ b o,h0.get? b=some o->h.get? b=some o)/\CU X S its h zs) (λi v=>its.toArray[i]?=some v) (λi=>cR.getD i []) its.length where
 keep:=λh h' ys t k=>by
  obtain⟨t0,zs,e,t,m⟩:=t;have k':∀ b o,(b=S\/b < S)->h.get? b=some o->h'.get? b=some o:=λb o hb e=>k b o (by
   simp only[qh,qr,or_false];rcases hb with rfl|hb
   ·exact z5 (qq _)
   ·exact z5 (qS hb)) e
  have old:∀ b o,h0.get? b=some o->h'.get? b=some o:=λb o e=>k' b o (.inr (by rw[<-hS];exact zw e)) (t0 b o e);refine⟨old,zs,e,?_,m⟩;obtain⟨o,es,ep,tt,g,r,d,q⟩:=t;refine⟨o,es,ep,tt,k' S o (.inl rfl) g,r,d,⟨?_,q.nd,q.tok,q.load,q.led,q.non⟩⟩;have key:∀ {zs:List (List Key×Addr)} {l:List (Int×Value)},Paired (TE X.prog X.w h) zs l->(∀ z∈zs,(.ref z.2:Value)∈its)->Paired (TE X.prog X.w h') zs l:=by
   intro zs l r
   induction r with
   |nil=>intro _;exact .nil
   |cons q _ ih=>
    intro m;refine .cons ⟨q.1,Sx q.2 λo e c=>?_⟩ (ih λz hz=>m z (zo _ hz));obtain⟨i,hi,ei⟩:=jv (m _ (zk ..));obtain⟨kk,_,tv⟩:=yP hs (show its[i]?=some _ by rw[zI hi,ei]);obtain⟨b,eb,⟨ob,_,_,gb,_⟩⟩:=Nr X tv;cases eb;exact k' _ o (.inr (by rw[<-hS];exact zw gb)) e
  exact key q.rel m
 add:=λA E s i v ys Q hu hi hP hC hz h=>by
  obtain⟨t0,zs,e,t,m⟩:=hC;have hP:its[i]?=some v:=by simpa using hP
  obtain⟨ks,e1,tv⟩:=yP hs hP;have tv':=tv.keep t0;obtain⟨b,rfl,hk⟩:=Nr X tv';have hv:cR.getD i []=ks:=by simp[List.getD,e1]
  have hlen:its.length=cR.length:=hs.length.symm;have hyl:zs.length=ys.length:=by rw[<-e,zg]
  unfold setAdd;refine Qr (zb (wpAny_pyHash_tuple hu hk ?_));refine aau (s:={ s with toks:=s.toks+(ks.length+1) }) hu t hk (hx ks (qv e1)) (by omega) λr h' zs' sb t' mm l=>?_;refine h r h' _ (zs'.map (·.1)) sb ⟨λc o g=>?_,zs',rfl,t',λz hz=>?_⟩ (λz=>?_) (by rw[zg];omega) (Nat.le_add_right _ _)
  ·rw[sb.2 c λq=>by subst q;have:=zw g;rw[hS] at this;exact ja _ this];exact t0 c o g
  ·rcases(mm z).mp hz with q|⟨q,_⟩
   ·exact m z q
   ·subst q;exact qv hP
  ·rw[hv,<-e,List.mem_map,List.mem_map];constructor
   ·rintro⟨y,hy,rfl⟩;rcases(mm y).mp hy with q|⟨q,_⟩
    ·exact .inl ⟨y,q,rfl⟩
    ·exact .inr (congrArg Prod.fst q)
   ·rintro(⟨y,hy,ey⟩|ez)
    ·exact⟨y,(mm y).mpr (.inl hy),ey⟩
    ·rw[ez];by_cases q:ks∈zs.map (·.1)
     ·obtain⟨y,hy,ey⟩:=List.mem_map.mp q;exact⟨y,(mm y).mpr (.inl hy),ey⟩
     ·exact⟨(ks,b),(mm _).mpr (.inr ⟨rfl,q⟩),rfl⟩
theorem aav (hc:X.calm=true) (hu:X.A.units+100 < cLine):fj X (.type "set") (afi X):=by
 intro pins s σ H xs us Q I r h;obtain⟨v,b,ds,cR,rfl,rb,ed,ek,hl,hx,q⟩:=h;obtain⟨u,rfl,ru⟩:=vals1 r;obtain⟨p,vs,rfl,sq,rs⟩:=aag rb ed;have eds:=Iu ek;subst eds;cases ru;have hh:=I.ok.hd hc;have fin:∀ (h':Heap) (tk:Nat) (ys:List (List Key)) (its:List Value),Vals vs its->((∀ b o,s.heap.get? b=some o->h'.get? b=some o)/\CU X s.heap.objs.size its h' ys)->(∀ z,z∈ys↔∃ j,j < its.length/\z=cR.getD j [])->(∀ b ob,s.heap.get? b=some ob->h'.get? b=some ob)->EP X pins σ Q (.ref s.heap.objs.size) { s with heap:=h',toks:=tk }:=by
  intro h' tk ys its rv cu hm k;obtain⟨_,zs,e,t,m⟩:=cu;have hfr:=I.hok.fresh (zi s.heap.objs.size);have hlen:its.length=cR.length:=by rw[<-rv.length,rs.length,zg]
  have tv:=sS I rs rv;refine⟨.ref s.heap.objs.size,_,I.laid (t':=tk) (a:=s.heap.objs.size) (o:=hoU X s.heap.objs.size zs) k (zi _) ?_,rfl,q _ zs _ (cF hfr) cL (λz=>?_) ?_ λz hz=>?_⟩
  ·obtain⟨o,es,ep,t',ho,_⟩:=id t;exact⟨Ts.of t,⟨o,ho⟩,λh1 h2 t1 k1=>Ts.keep t1 k1⟩
  ·rw[e,hm z];constructor
   ·rintro⟨j,hj,rfl⟩;rw[hlen] at hj;simp[List.getD,hj]
   ·intro hz;obtain⟨j,hj,e⟩:=jv hz;exact⟨j,by rw[hlen];exact hj,by simp[List.getD,hj,e]⟩
  ·obtain⟨o,es,ep,t',ho,_,_,x⟩:=t;exact x.nd
  ·obtain⟨o,es,ep,t',ho,_,_,x⟩:=t;obtain⟨i,hi,ei⟩:=jv hz;obtain⟨ee,_,te⟩:=yN x.rel (show zs[i]?=some z by rw[zI hi,ei]);have tz:=Xi X te.2;have hz':=m z hz;obtain⟨j,hj,ej⟩:=jv hz';obtain⟨kk,_,tv1⟩:=yP tv (show its[j]?=some (.ref z.2) by rw[zI hj,ej]);have ek:kk=z.1:=(tv1.keep k).inj tz;obtain⟨w1,r1,r2⟩:=Iv I rs rv (Vs:=[kk]) (out:=[.ref z.2]) (.cons tv1 .nil) (λu hu=>by cases List.mem_singleton.mp hu;exact hz');cases r1 with
   |@cons w0 _ _ _ r0 r1=>
    cases r1;simp only[zC,j0,aM] at r2;obtain⟨v0,r',ev,q0,_⟩:=r2;simp only[ke] at ev;rw[<-ev.1] at q0;have hw:w0=V.ref z.2:=by
     have q1:=q0;simp only[tupK,Rep] at q1;obtain⟨a0,ws,e0,_⟩:=q1;subst e0;cases r0;rfl
    rw[<-ek,<-hw];exact q0.kp (.of (cF hfr))
 have Xj:∀ h':Heap,h'.get? s.heap.objs.size=some (blank X.w)->∀ its:List Value,CU X s.heap.objs.size its h' []:=λh' e its=>
  ⟨[],rfl,⟨_,#[],0,_,e,⟨rfl,rfl,rfl⟩,rfl,⟨.nil,List.nodup_nil,{ mask:=.inl rfl,dum:=rfl,rise:=λi j _ hj=>absurd hj (Jn _),bd:=λj hj=>by simp[SetTable.fresh] at hj,full:=QP _,size:=rfl,reach:=λi j e h1=>by simp[SetTable.fresh] at h1 },(show 0 * 5 < 7 * 3 by decide),λq=>by simp[SetTable.fresh,q],λq=>absurd q (ja _)⟩⟩,λz hz=>by cases hz⟩
 rcases sq with sq|sq
 ·obtain⟨its,r',pl,hz⟩:=I.list sq;obtain⟨o,g,c,n,d⟩:=pl.isList;refine W5 (by omega) (T := "list") hh g c (.inl rfl) (P:=λi v=>its.toArray[i]?=some v) (n:=its.length) (λA' E' Q' h0 hA k0 hq=>?_) (Nt (sS I rs r') hl hx rfl) (λh' e k=>⟨k,Xj h' e its⟩) λh' tk zs tx hm k=>fin h' tk zs its r' tx hm k;refine JI (items:=its.toArray) ⟨o,k0 _ _ g,c,n,d⟩ ?_;have hne:p≠h0.objs.size:=z5 (zw (k0 _ _ g));refine hq _ (λi h=>h.IsListIter h0.objs.size p i/\h.IsList p its.toArray) (λA' hA=>by have:=Walks.list (prog:=X.prog) (w:=X.w) hA h0.objs.size p hne its.toArray;rw[zt] at this;exact this) ⟨⟨_,zv _ rfl,rfl,rfl⟩,⟨o,ze _ (k0 _ _ g),c,n,d⟩⟩ λb ob e=>ze _ e
 ·obtain⟨its,r',pl,hz⟩:=I.tuple sq;obtain⟨o,g,c,n,d⟩:=id pl;refine W5 (by omega) (T := "tuple") hh g c (.inr rfl) (P:=λi v=>its.toArray[i]?=some v) (n:=its.length) (λA' E' Q' h0 hA k0 hq=>?_) (Nt (sS I rs r') hl hx rfl) (λh' e k=>⟨k,Xj h' e its⟩) λh' tk zs tx hm k=>fin h' tk zs its r' tx hm k;refine wpAny_pyIter_tuple (items:=its.toArray) ⟨o,k0 _ _ g,c,n,d⟩ ?_;have hne:p≠h0.objs.size:=z5 (zw (k0 _ _ g));refine hq _ (λi h=>h.IsTupleIter h0.objs.size p i/\h.IsTuple p its.toArray) (λA' hA=>by have:=Walks.tuple (prog:=X.prog) (w:=X.w) hA h0.objs.size p hne its.toArray;rw[zt] at this;exact this) ⟨⟨_,zv _ rfl,rfl,rfl⟩,⟨o,ze _ (k0 _ _ g),c,n,d⟩⟩ λb ob e=>ze _ e
theorem adp (I:Inv X pins σ H s) (h:H a=some (hoU X a zs)):Ts X.prog X.w s.heap a zs:=(I.hok _ _ h).1
def afj (X:Cx):List V->Hp->VK->Prop:=λxs H Q=>∃ a zs,xs=[.ref a]/\H a=some (hoU X a zs)/\M8 (zs.map (·.1))=true/\(∀ z∈zs,Rep X.K H (tupK z.1) (.ref z.2))/\∀ l H' us,Same H H'->H l=none->H' l=some (.lst us)->aM X.K H' ((nY (zs.map (·.1))).map tupK) us->Q (.ref l) H'
theorem aaw (hc:X.calm=true):fj X (.builtin "sorted") (afj X):=by
 intro pins s σ H xs us Q I r h;obtain⟨a,zs,rfl,ha,hs,hrep,q⟩:=h;obtain⟨u,rfl,ru⟩:=vals1 r;cases ru;simp only[M8,ZE,qE,qf,Q4] at hs;obtain⟨h64,hne,hsh⟩:=hs;rw[zg] at h64;obtain⟨o,es,ep,t,ho,hex,hd,hl',ft,ahk,afk⟩:=adp I ha;have hz:es.size=zs.length:=by rw[<-ZY,hl',zg]
 have wk:Wk X.w s.heap a es ep t:=⟨⟨o,ho,hex.1,hd⟩,ft,ahk,λq=>afk (by omega)⟩;have rs0:aM X.K H ((zs.map (·.1)).map tupK) (zs.map λz=>(V.ref z.2))/\Vals (zs.map λz=>(V.ref z.2)) (zs.map λz=>(.ref z.2:Value)):=by
  clear hl' ha q h64 hne hsh hz wk afk
  induction zs with
  |nil=>exact⟨aM.nil,.nil⟩
  |cons z zs ih=>
   obtain⟨i1,i2⟩:=ih λy hy=>hrep y (zo _ hy);exact⟨aM.cons (hrep z (zk ..)) i1,.cons rfl i2⟩
 have tv0:=sS I rs0.1 rs0.2;have tz:∀ z∈zs,j5 s.heap z.1 (.ref z.2):=λz hz'=>by
  have:=sS I (cR:=[z.1]) (vs:=[V.ref z.2]) (its:=[.ref z.2]) (aM.cons (hrep z hz') aM.nil) (.cons rfl .nil);cases this with
  |cons q' _=>exact q'
 refine QK (λvs=>∃ ys:List (List Key×Addr),ys.Perm zs/\vs=ys.map λz=>(.ref z.2:Value)) (tuples' true) (λvs v=>rank (vs.map λu=>keyOf (zs.map (·.1)) (zs.map λz=>(.ref z.2:Value)) u) (keyOf (vs.map λu=>keyOf (zs.map (·.1)) (zs.map λz=>(.ref z.2:Value)) u) vs v))
  (λE' Q' hq=>Ng (by exact I.ok.hd hc) wk (by rw[hz,sizeLine_eq];omega) λord h1 d tk hp hle ext=>hq ord h1 d tk ?_ hle ext) ?_ ?_ ?_ ?_
 ·rw[hl',Qb] at hp;have:∀ {ord vs:List Value},ord.Perm vs->∀ zs:List (List Key×Addr),vs=zs.map (λz=>(.ref z.2:Value))->∃ ys:List (List Key×Addr),ys.Perm zs/\ord=ys.map λz=>(.ref z.2:Value):=by
   intro ord vs hp
   induction hp with
   |nil=>intro zs e;cases zs with|nil=>exact⟨[],.refl _,rfl⟩|cons _ _=>cases e
   |cons y _ ih=>
    intro zs e;cases zs with
    |nil=>cases e
    |cons z zs=>
     rw[zC] at e;injection e with e1 e2;obtain⟨ys,p1,p2⟩:=ih zs e2;exact⟨z::ys,p1.cons _,by rw[zC,e1,p2]⟩
   |swap y1 y2 l=>
    intro zs e
    match zs,e with
    |z1::z2::zs,e=>
     simp only[zC,ke] at e;exact⟨z2::z1::zs,List.Perm.swap _ _ _,by simp only[zC];rw[e.1,e.2.1,e.2.2]⟩
    |[_],e=>simp at e
    |[],e=>cases e
   |trans _ _ ih1 ih2=>
    intro zs e;obtain⟨ys,p1,p2⟩:=ih2 zs e;obtain⟨us,q1,q2⟩:=ih1 ys p2;exact⟨us,q1.trans p1,q2⟩
  exact this hp zs rfl
 all_goals
  intro vs hG;obtain⟨ys,py,rfl⟩:=hG;have hm:∀ v∈(ys.map λz=>(.ref z.2:Value)),v∈(zs.map λz=>(.ref z.2:Value)):=λv hv=>((py.map _).mem_iff).mp hv;have tvK:∀ v∈(ys.map λz=>(.ref z.2:Value)),j5 s.heap (keyOf (zs.map (·.1)) (zs.map λz=>(.ref z.2:Value)) v) v:=λv hv=>(lR tv0 v (hm v hv)).2;have tv:=xK tvK;have eks:(ys.map λz=>(.ref z.2:Value)).map (λu=>keyOf (zs.map (·.1)) (zs.map λz=>(.ref z.2:Value)) u)=ys.map (·.1):=by
   rw[Qb];refine kb λz hz=>?_;have hz':=py.mem_iff.mp hz;exact(tvK (.ref z.2) (List.mem_map.mpr ⟨z,hz,rfl⟩)).inj (tz z hz')
  have mk:∀ k∈(ys.map λz=>(.ref z.2:Value)).map (λu=>keyOf (zs.map (·.1)) (zs.map λz=>(.ref z.2:Value)) u),k∈zs.map (·.1):=λk hk=>by
   rw[eks] at hk;exact((py.map _).mem_iff).mp hk
 ·intro h2 E' A' s' k Q' hq;exact Uw (Paired.imp' (λ_ _ z=>j5.keep z k) tv) (λk hk=>by have:=hne k (mk k hk);cases k with|nil=>cases this|cons _ _=>exact List.cons_ne_nil _ _) (λk hk l hl=>J2 (hsh k (mk k hk) l (mk l hl))) (by omega) hq
 ·intro A' s' k;exact WW (Paired.imp' (λ_ _ z=>j5.keep z k) tv) λk hk l hl=>J2 (hsh k (mk k hk) l (mk l hl))
 ·rw[zg,py.length_eq];exact h64
 ·intro l h' d tk n st hp up hl ext hL;have out:=WX tv hp up;have mem:∀ u∈((arrOf st).map (·.2)).toList,u∈(ys.map λz=>(.ref z.2:Value)):=λu hu=>by
   rw[Array.toList_map] at hu;obtain⟨pr,hpr,rfl⟩:=List.mem_map.mp hu;have ahl:pr∈(ys.map λz=>(.ref z.2:Value)).zip (ys.map λz=>(.ref z.2:Value)):=by rw[<-pairsOf_toList];exact(Array.perm_iff_toList_perm.mp hp).mem_iff.mp hpr
   have:=mem_zip_self ahl;rw[<-this.1];exact this.2
  have hH:H l=none:=I.hok.fresh hl;have back:∀ {Vs:List (List Key)} {out:List Value},Paired (j5 s.heap) Vs out->(∀ u∈out,u∈(ys.map λz=>(.ref z.2:Value)))->∃ ws,Vals ws out/\aM X.K H (Vs.map tupK) ws:=by
   intro Vs out pr
   induction pr with
   |nil=>intro _;exact⟨[],.nil,aM.nil⟩
   |cons q0 _ ih=>
    intro hm';obtain⟨ws,w1,w2⟩:=ih λu hu=>hm' u (zo _ hu);obtain⟨z,hz,ez⟩:=List.mem_map.mp (hm' _ (zk ..));subst ez;have hz':=py.mem_iff.mp hz;have ek:=q0.inj (tz z hz');refine⟨.ref z.2::ws,.cons rfl w1,?_⟩;rw[zC,ek];exact aM.cons (hrep z hz') w2
  obtain⟨ws,w1,w2⟩:=back out mem;rw[eks] at w2;have es:nY (ys.map (·.1))=nY (zs.map (·.1)):=vX ((pY _).trans (py.map _)) (vA _);rw[es] at w2;have hzl:ws.length=zs.length:=by rw[w2.length,zg,(pY _).length_eq,zg]
  refine⟨.ref l,_,U5 (d:=d) (I.laid (t':=tk) (a:=l) (o:=.lst ws) ext hl ⟨by rw[hzl,sizeLine_eq];omega,_,n,w1,?_⟩),rfl,q _ _ ws (cF hH) hH cL (w2.kp (.of (cF hH)))⟩;rw[hL]
def wM {α:Type} [DecidableEq α]:List α->List α
 |[]=>[]
 |y::ys=>if y∈ys then wM ys else y::wM ys
section
variable [DecidableEq α]
theorem oO:∀ {ys:List α} {z:α},z∈wM ys↔z∈ys
 |[],z=>by simp[wM]
 |y::ys,z=>by
  unfold wM;split
  ·rename_i h;rw[oO,qh];exact⟨.inr,λq=>q.elim (λe=>e▸h) id⟩
  ·rw[qh,qh,oO]
theorem DX:∀ (ys:List α),(wM ys).Nodup
 |[]=>List.nodup_nil
 |y::ys=>by
  unfold wM;split
  ·exact DX ys
  ·rename_i h;exact List.nodup_cons.mpr ⟨λq=>h (oO.mp q),DX ys⟩
theorem sU:∀ (ys:List α),(wM ys).length<=ys.length
 |[]=>zi _
 |y::ys=>by
  have:=sU ys;unfold wM;split<;>simp<;>omega
theorem J9 {β:Type} [DecidableEq β] {f:α->β} (hi:∀ a b,f a=f b->a=b):∀ (ys:List α),wM (ys.map f)=(wM ys).map f
 |[]=>rfl
 |y::ys=>by
  have hm:f y∈ys.map f↔y∈ys:=⟨λq=>by obtain⟨z,hz,e⟩:=List.mem_map.mp q;rw[<-hi _ _ e];exact hz,λq=>List.mem_map.mpr ⟨y,q,rfl⟩⟩;rw[zC];unfold wM;by_cases q:y∈ys
  ·rw[zr q,zr (hm.mpr q),J9 hi ys]
  ·rw[zz q,zz λh=>q (hm.mp h),zC,J9 hi ys]
end
section
def Nv (ks:List Key):Bool:=ks.any λk=>k.isRight
theorem adq (h:Nv ks=true):Txs ks:=by
 unfold Nv at h;rw[List.any_eq_true] at h;obtain⟨k,hk,e⟩:=h;cases k with
 |inl i=>cases e
 |inr x=>exact⟨x,hk⟩
def tU (X:Cx) (f:Ev->Option (List (List Key))):L2.TE:=λσ H Q=>∃ H0 ρ cR,bV X.K H0 H σ ρ/\f ρ=some cR/\∀ a zs H',Same H H'->H' a=some (hoU X a zs)->(∀ k,k∈zs.map (·.1)↔k∈cR)->(zs.map (·.1)).Nodup->(∀ z∈zs,Rep X.K H' (tupK z.1) (.ref z.2))->Q (.ref a) H'
def PVU (X:Cx) (e:Expr) (f:Ev->Option (List (List Key))):Prop:=PE X e (tU X f)
structure QVU (X:Cx) (e:Expr) (f:Ev->Option (List (List Key))):Prop where
 run:PVU X e f
def aby (b:Bx):Option (List (List Key)):=(wG b).bind λds=>(zO ds).bind λcR=>if cR.length<=64/\cR.all Nv=true then some cR else none
def Ka (f:Ev->Option Bx):Ev->Option (List (List Key)):=λρ=>(f ρ).bind aby
def yQ (fs:Ev->Option (List (List Key))):Ev->Option Bx:=λρ=>(fs ρ).bind λcR=>if M8 cR=true then some (.o ((nY (wM cR)).map tupK)) else none
variable {fs:Ev->Option (List (List Key))} {p:Pos}
theorem Cu (hc:X.calm=true) (hu:X.A.units+100 < cLine) (hg:Gl X "set") (hm:X.mg "set" = none) (ha:QV X e f) (he:starEach (e::[]) X.env=(false,eval e X.env)::starEach [] X.env:=by rfl):QVU X (.Call (.Name "set" p) [e] [] pos) (Ka f):=by
 refine⟨Bl (HN (T := "set") (aav hc hu) hg hm rfl (jG ha.run uP he) (he:=he)) λσ H Q h=>?_⟩;obtain⟨H0,ρ,cR,E,ef,q⟩:=h;obtain⟨b,eb,ef⟩:=bind_some ef;obtain⟨ds,ed,ef⟩:=bind_some ef;obtain⟨ks',ek,ef⟩:=bind_some ef;split at ef
 ·rename_i hl;cases ef;rw[qf] at hl;exact⟨H0,ρ,b,E,eb,λv H1 s1 n1 r1=>⟨v,b,ds,cR,rfl,r1,ed,ek,hl.1,λk hk=>adq (hl.2 k hk),λa zs H2 s2 e2 m nd hz=>q a zs H2 (s1.trans s2) e2 m nd hz⟩⟩
 ·cases ef
theorem Xk {Vs:List (List Key)} (h:M8 cR=true) (hl:Vs.length<=cR.length) (hm:∀ k∈Vs,k∈cR):M8 Vs=true:=by
 simp only[M8,ZE,qE,qf,Q4] at h ⊢;exact⟨by omega,λk hk=>h.2.1 k (hm k hk),λk hk l hl'=>h.2.2 k (hm k hk) l (hm l hl')⟩
theorem Cv (hc:X.calm=true) (hg:Gl X "sorted") (hm:X.mg "sorted" = none) (ha:QVU X e fs) (he:starEach (e::[]) X.env=(false,eval e X.env)::starEach [] X.env:=by rfl):QV X (.Call (.Name "sorted" p) [e] [] pos) (yQ fs):=by
 refine⟨Bl (rA (id := "sorted") (aaw hc) hg hm rfl (jG ha.run uP he) (he:=he)) λσ H Q h=>?_⟩;obtain⟨H0,ρ,b,E,ef,q⟩:=h;obtain⟨cR,ey,ef⟩:=bind_some ef;split at ef
 ·rename_i hl;cases ef;refine⟨H0,ρ,cR,E,ey,λa zs H1 s1 e1 m nd hy=>⟨a,zs,rfl,e1,?_,hy,λl H2 us s2 hfr e2 rp=>?_⟩⟩
  ·have e3:=(Cq nd (DX cR) λz=>by rw[m z,oO]).length_eq;have:=sU cR;exact Xk hl (by omega) λk hk=>(m k).mp hk
  ·have pm:=Cq nd (DX cR) λz=>by rw[m z,oO]
   have es:nY (zs.map (·.1))=nY (wM cR):=vX ((pY _).trans pm) (vA _);rw[es] at rp;exact q _ H2 (s1.trans s2) (λa ea=>by cases ea;exact s1.free hfr) ⟨l,us,rfl,e2,rp⟩
 ·cases ef
end
end P1
namespace P1
open L2
section
variable {kx vx:Expr} {xs:LS_}
end
section
variable {ks:List (Key×V)} {o:Obj}
end
section
variable {fd:Ev->Option Bx} {xs:LS_}
end
def two (a b:Str) (i:Nat):Str:=if i=0 then a else b
section
variable {fs:Ev->Option (List Bx)} {p px spos:Pos} {f:Addr} {G:Addr->List (Key×Dt)->List Bx->Option (List (Key×Dt))}
end
section
variable {st:List Stmt}
end
open AutoSeq1 (wpAny_loadPart')
open SeqAt
theorem afl (I:L2.Inv X pins σ H s) (h:xX X.K H a xs):∃ its:List Value,Vals xs its/\pC s.heap a its.toArray:=by
 rcases h with h|⟨o,its,n,hk,hc,hs,hz,r⟩
 ·obtain⟨z,its,r,p⟩:=h.ok I.hok;exact⟨its,r,p⟩
 ·exact⟨its.toList,r,o,I.kIn a o hk,hc.1,⟨n,by simpa using hs⟩,hc.2⟩
section
variable {o:Expr} {fx:Ev->Option Bx}
end
section
variable {c:Expr} {t:Ev->Option Bool}
end
section
variable {h':Heap}
theorem aax {t':Nat} {e:Addr} (I:L2.Inv X pins σ H s) (k:∀ b o,b≠e->b≠it->s.heap.get? b=some o->h'.get? b=some o) (fe:rz X pins H e) (fi:rz X pins H it) (he:∃ o,h'.get? e=some o) (hi:∃ o,h'.get? it=some o) (new:jP X.prog X.w (upd H s.heap.objs.size (.tup xs)) h' s.heap.objs.size (.tup xs)):L2.Inv X pins σ (upd H s.heap.objs.size (.tup xs)) { s with heap:=h',toks:=t' }:=by
 have hf:H s.heap.objs.size=none:=I.hok.fresh (zi _);have nd:∀ b u,H b=some u->b≠s.heap.objs.size:=λb u q z=>by rw[z,hf] at q;cases q
 have ne:∀ b u,H b=some u->b≠e/\b≠it:=λb u q=>⟨λz=>(by rw[z,fe.1] at q;cases q),λz=>(by rw[z,fi.1] at q;cases q)⟩;have nc:∀ b,b∉[e,it]->b≠e/\b≠it:=λb hb=>⟨λz=>hb (by simp[z]),λz=>hb (by simp[z])⟩;refine I.step (g':=s.gens) (d':=s.drawn) (ch:=[e,it]) (λb hb=>?_) (λb o _ _ hc q _=>k b o (nc b hc).1 (nc b hc).2 q) (λb o _ _ hc q _=>⟨o.slots,k b o (nc b hc).1 (nc b hc).2 q⟩) (λb o _ q n=>?_)
  (λb o hc q=>⟨o,k b o (nc b hc).1 (nc b hc).2 q⟩) (λb ys q=>?_) (λb o u q=>?_) (λb ps q=>⟨#[],?_⟩) (λm hm=>?_) (λb u q=>?_) I.bare
 ·rcases List.mem_cons.mp hb with rfl|hb
  ·exact⟨fe.2.2.2.1,fe.2.1,fe.2.2.2.2.1,fe.2.2.2.2.2⟩
  ·cases List.mem_singleton.mp hb;exact⟨fi.2.2.2.1,fi.2.1,fi.2.2.2.2.1,fi.2.2.2.2.2⟩
 ·rw[bA (z5 (zw q))];exact n
 ·rw[bA (nd b _ q)];exact q
 ·rw[bA (nd b _ q)];exact q
 ·rw[bA (nd b _ q),q];simp
 ·obtain⟨o,es,ep,ho,r⟩:=hm;exact⟨o,es,ep,k _ o (kv fe.2.1) (kv fi.2.1) ho,r⟩
 ·by_cases hb:b=s.heap.objs.size
  ·subst hb;rw[cL] at q;cases q;exact new
  ·rw[bA hb] at q;refine(I.hok b u q).stay (λc v hc w=>k c v ?_ ?_ w) (λc w=>?_) λc ys w=>?_
   ·rcases hc with rfl|z
    ·exact(ne _ _ q).1
    ·exact(ne _ _ z).1
   ·rcases hc with rfl|z
    ·exact(ne _ _ q).2
    ·exact(ne _ _ z).2
   ·rw[bA (nd c _ w)];exact w
   ·rw[bA (nd c _ w)];exact w
end
section
variable {p:Pos} {fs:Ev->Option (List Bx)}
end
section
variable {ek ev:Expr}
def noG:Ev->Option Out:=λ_=>none
theorem Kc:Wf X st noG:=⟨λD pins s σ H I q=>by
 obtain⟨H0,ρ,r,E,e,q⟩:=q;cases e⟩
end
section
variable {st:Expr} {fs:Ev->Option Bx}
end
theorem ad {a b:Nat} (h:a≠b):@Ne Addr a b:=h
section
variable {K:Type} [DecidableEq K] {knd:KeyKind prog w K}
end
section
variable {ea eb:Expr} {p1 pos1 pos2:Pos}
end
theorem rK (xs:LS_) (is:List Nat) (clos:closureFor scope X.env=pure cl:=by with_unfolding_all rfl) (kind:scope.kind=.function:=by rfl) (cell:scope.names.all (λy=>decide (y.2≠.cell)||(cl.lookup y.1).isNone)=true:=by rfl) (names:scope.names.all (λy=>decide (y.2=.local->scope.names.lookup y.1=some .local))=true:=by decide +kernel) (sub:SubL X.env.cells cl:=by repeat (first|exact trivial|refine⟨rfl,?_⟩)) (has:(relabel scope X.env).names.all (λy=>!(y.2==.cell||y.2==.free)||(cl.lookup y.1).isSome||scope.names.contains (y.1,.cell))=true:=by rfl) (cap:Gz X scope cl xs is:=by repeat (first|exact adb|refine Z6 rfl (by first|exact .inl rfl|exact .inr rfl) (by first|exact .inl rfl|exact .inr rfl) ⟨_,rfl⟩ ?_)):xu X scope cl xs is:=ade clos kind cell names sub has cap
theorem jw {sc:Scope} (h1:sc.kind=.function:=by rfl) (h2:sc.isCoroutine=false:=by rfl) (h3:sc.isGenerator=false:=by rfl) (h4:N.Nodup:=by decide +kernel) (h5:N.take ps.length=ps:=by rfl) (h6:∀ x∈ps,sc.names.lookup x=some .local\/sc.names.lookup x=some .cell:=by decide +kernel) (h7:∀ y∈sc.names,y.2≠.free:=by decide +kernel):bF N ps sc:=⟨h1,h2,h3,h4,h5,h6,h7⟩
instance:Inhabited Dt:=⟨.non⟩
theorem bnd (a:α) (f:α->Option β):(some a).bind f=f a:=(Kx a f).trans (Eq.refl _)
def hold:Option Prop->Prop
 |none=>True
 |some p=>p
def bB:Option Prop->Option Prop->Option Prop
 |none,q=>q
 |some p,none=>some p
 |some p,some q=>some (p/\q)
def yR (c:Prop):Option Prop->Option Prop
 |none=>none
 |some p=>some (c->p)
theorem aC {p q:Option Prop} (h:hold (bB p q)):hold p/\hold q:=by
 cases p with
 |none=>exact⟨trivial,h⟩
 |some p=>cases q with
  |none=>exact⟨h,trivial⟩
  |some q=>exact h
theorem gQ {c:Prop} {p:Option Prop} (h:hold (yR c p)) (hc:c):hold p:=by
 cases p with
 |none=>trivial
 |some p=>exact h hc
structure R {α β:Type} (f:Ev->Option β) (ρ:Ev) (c:α->β) where
 v:α
 D:Option Prop
 ok:hold D->f ρ=some (c v)
abbrev zE (e:α->Dt):α->Bx:=λa=>.z (e a)
abbrev oE (e:α->Dt):List α->Bx:=λxs=>.o (xs.map e)
abbrev lE (e:α->Dt):List α->Bx:=λxs=>.l (xs.map e)
abbrev tE:Bool->Bool:=λb=>b
abbrev iE (e:α->Dt):List α->List Dt:=λxs=>xs.map e
abbrev eI:Int->Dt:=Dt.int
abbrev eB:Bool->Dt:=Dt.bl
abbrev eS:Str->Dt:=Dt.str
abbrev eD:Dt->Dt:=λd=>d
abbrev eN:Unit->Dt:=λ_=>.non
abbrev eL (e:α->Dt):List α->Dt:=λxs=>.lst (xs.map e)
abbrev eT (e:α->Dt):List α->Dt:=λxs=>.tup (xs.map e)
abbrev eO (e:α->Dt):Option α->Dt:=λo=>match o with|none=>.non|some a=>e a
abbrev eP1 (a:α->Dt):α->Dt:=λx=>.tup [a x]
abbrev eP2 (a:α->Dt) (b:β->Dt):α×β->Dt:=λx=>.tup [a x.1,b x.2]
abbrev eP3 (a:α->Dt) (b:β->Dt) (c:γ->Dt):α×β×γ->Dt:=λx=>.tup [a x.1,b x.2.1,c x.2.2]
abbrev eP4 (a:α->Dt) (b:β->Dt) (c:γ->Dt) (d:δ->Dt):α×β×γ×δ->Dt:=λx=>.tup [a x.1,b x.2.1,c x.2.2.1,d x.2.2.2]
structure RL {α:Type} (f:Ev->Option Bx) (ρ:Ev) (e:α->Dt) where
 v:List α
 D:Option Prop
 b:Bx
 lk:uJ b=some (v.map e)
 ok:hold D->f ρ=some b
section
variable {fs:Ev->Option (List Bx)} {e:α->Dt} {e':β->Dt}
def fU (a:R f ρ (oE e)):RL f ρ e:=⟨a.v,a.D,_,rfl,a.ok⟩
def dU (a:R f ρ (lE e)):RL f ρ e:=⟨a.v,a.D,_,rfl,a.ok⟩
def ahn (a:R f ρ (zE (eL e))):RL f ρ e:=⟨a.v,a.D,_,rfl,a.ok⟩
def Lp (b:Bx) (ds:List Dt):Prop:=b=.z (.lst ds)\/b=.l ds
theorem Lp.HX (h:Lp b ds):uJ b=some ds:=by rcases h with rfl|rfl<;>rfl
theorem Lp.get {b:Bx} {ds:List Dt} {i:Nat} (h:Lp b ds) (hi:ρ[i]?=some (some b)):Bm ρ i=some b:=by
 rcases h with rfl|rfl<;>(unfold Bm;rw[hi])
theorem Ak (h:uJ b=some ds):Lp (P1.lend b) ds:=by
 cases b with
 |z d=>cases d<;>cases h;exact .inl rfl
 |l d=>cases h;exact .inr rfl
 |o d=>cases h;exact .inr rfl
 |n d=>cases h
 |m d _=>cases h
def ao (i:Nat) (c:α->Bx) (a:α) (h:Bm ρ i=some (c a)):R (gv i) ρ c:=⟨a,none,λ_=>h⟩
def jo (i:Nat) (e:α->Dt) (a:List α) (h:Lp b (a.map e)) (hi:ρ[i]?=some (some b)):RL (gv i) ρ e:=⟨a,none,b,h.HX,λ_=>h.get hi⟩
def oJ (d:Dt) (e:α->Dt) (a:α) (h:d=e a):R (cB d) ρ (zE e):=⟨a,none,λ_=>by rw[h];rfl⟩
def nG (a:R f ρ (zE e)):R f ρ (zE eD):=⟨e a.v,a.D,a.ok⟩
def Kd (a:R f ρ (zE e)):R f ρ (zE (eO e)):=⟨some a.v,a.D,a.ok⟩
def zR:R (cB .non) ρ (zE (eO e)):=⟨none,none,λ_=>rfl⟩
def DY [Inhabited α] (a:R f ρ (zE (eO e))):R f ρ (zE e):=⟨a.v.getD default,bB a.D (some (a.v.isSome=true)),λh=>by
 obtain⟨h1,h2⟩:=aC h;rw[a.ok h1];have h2:a.v.isSome=true:=h2;cases hv:a.v with
 |none=>rw[hv] at h2;cases h2
 |some x=>rfl⟩
def afn (a:R f ρ (oE e)):R (b1 uM f) ρ (zE (eL e)):=⟨a.v,a.D,λh=>by simp only[b1,a.ok h,bnd,uM]⟩
def fB (a:R f ρ (zE e)):R (b1 uM f) ρ (zE e):=⟨a.v,a.D,λh=>by simp only[b1,a.ok h,bnd,uM]⟩
def Xl (a:R f ρ (zE eI)):R (b1 Qo f) ρ (zE eI):=⟨-a.v,a.D,λh=>by simp only[b1,a.ok h,bnd,Qo]⟩
def jx (a:R fa ρ (zE eI)) (b:R fb ρ (zE eI)):R (b2 dD fa fb) ρ (zE eI):=⟨a.v+b.v,bB a.D b.D,λh=>by
 obtain⟨h1,h2⟩:=aC h;simp only[b2,a.ok h1,b.ok h2,bnd,dD]⟩
def vD (a:R fa ρ (zE eI)) (b:R fb ρ (zE eI)):R (b2 subB fa fb) ρ (zE eI):=⟨a.v - b.v,bB a.D b.D,λh=>by
 obtain⟨h1,h2⟩:=aC h;simp only[b2,a.ok h1,b.ok h2,bnd,i2]⟩
def Mul (a b:Int):Prop:=(-18446744073709551616 < a/\a < 18446744073709551616)\/(-18446744073709551616 < b/\b < 18446744073709551616)
def abA (a:R fa ρ (zE eI)) (b:R fb ρ (zE eI)):R (b2 wF fa fb) ρ (zE eI):=⟨a.v * b.v,bB (bB a.D b.D) (some (Mul a.v b.v)),λh=>by
 obtain⟨h,h3⟩:=aC h;obtain⟨h1,h2⟩:=aC h;simp only[b2,a.ok h1,b.ok h2,bnd];exact zr h3⟩
def QL (n:Int) (hn : -18446744073709551616 < n/\n < 18446744073709551616) (b:R fb ρ (zE eI)):R (b2 wF (cB (.int n)) fb) ρ (zE eI):=⟨n * b.v,b.D,λh=>by
 simp only[b2,b.ok h,bnd,cB];exact zr (.inl hn)⟩
def Cw (a:R fa ρ (zE eI)) (n:Int) (hn : -18446744073709551616 < n/\n < 18446744073709551616):R (b2 wF fa (cB (.int n))) ρ (zE eI):=⟨a.v * n,a.D,λh=>by
 simp only[b2,a.ok h,bnd,cB];exact zr (.inr hn)⟩
def Cy (a:R fa ρ (zE eI)) (n:Int) (hn:0 < n/\n < 1073741824):R (b2 Ig fa (cB (.int n))) ρ (zE eI):=⟨a.v / n,a.D,λh=>by
 simp only[b2,a.ok h,bnd,i2,cB,zr hn]⟩
def IW (a:R fa ρ (zE eI)) (b:R fb ρ (zE eI)):R (b2 iB fa fb) ρ (zE eI):=⟨a.v % b.v,bB (bB a.D b.D) (some (0 < b.v)),λh=>by
 obtain⟨h,h3⟩:=aC h;obtain⟨h1,h2⟩:=aC h;have h3:0 < b.v:=h3;simp only[b2,a.ok h1,b.ok h2,bnd,i2,zr h3]⟩
def dX (a:R fa ρ (zE eI)) (n:Int) (hn:0 < n):R (b2 iB fa (cB (.int n))) ρ (zE eI):=⟨a.v % n,a.D,λh=>by
 simp only[b2,a.ok h,bnd,i2,cB,zr hn]⟩
def adu (a b:Int) (n:Nat) (h:0<=b/\b<=1000/\a.natAbs < 18446744073709551616) (hb:b.toNat=n):R (b2 ac2 (cB (.int a)) (cB (.int b))) ρ (zE eI):=⟨a ^ n,none,λ_=>by
 simp only[b2,bnd,cB];show((if 0<=b/\b<=1000/\a.natAbs < 2 ^ 64 then some (Dt.int (a ^ b.toNat)) else none).bind λd=>some (Bx.z d))=_;rw[zr h,hb];rfl⟩
def U6 (a:R fa ρ (zE eI)) (b:R fb ρ (zE eI)):R (b2 leB fa fb) ρ (zE eB):=⟨decide (a.v<=b.v),bB a.D b.D,λh=>by
 obtain⟨h1,h2⟩:=aC h;simp only[b2,a.ok h1,b.ok h2,bnd,i2]⟩
def aay (a:R fa ρ (zE eI)) (b:R fb ρ (zE eI)):R (b2 gtB fa fb) ρ (zE eB):=⟨decide (b.v < a.v),bB a.D b.D,λh=>by
 obtain⟨h1,h2⟩:=aC h;simp only[b2,a.ok h1,b.ok h2,bnd,i2]⟩
def x_ge (a:R fa ρ (zE eI)) (b:R fb ρ (zE eI)):R (b2 geB fa fb) ρ (zE eB):=⟨decide (b.v<=a.v),bB a.D b.D,λh=>by
 obtain⟨h1,h2⟩:=aC h;simp only[b2,a.ok h1,b.ok h2,bnd,i2]⟩
def abB (a:R fa ρ (zE eI)) (b:R fb ρ (zE eI)):R (b2 R7 fa fb) ρ (zE eB):=⟨decide (a.v < b.v),bB a.D b.D,λh=>by
 obtain⟨h1,h2⟩:=aC h;simp only[b2,a.ok h1,b.ok h2,bnd,R7]⟩
def wg (x y:Str):Bool:=decide (x.cps.toList < y.cps.toList)
def afo (a:R fa ρ (zE eS)) (b:R fb ρ (zE eS)):R (b2 R7 fa fb) ρ (zE eB):=⟨wg a.v b.v,bB a.D b.D,λh=>by
 obtain⟨h1,h2⟩:=aC h;simp only[b2,a.ok h1,b.ok h2,bnd,R7,wg]⟩
end
class Eqs {α:Type} [DecidableEq α] (e:α->Dt) (n:outParam Nat):Prop where
 eq:∀ a b,Ls (e a) (e b)=some (decide (a=b))
 dp:∀ a,xY (e a)<=n
class Non {α:Type} (e:α->Dt):Prop where
 l:∀ a,Ls .non (e a)=some false
 r:∀ a,Ls (e a) .non=some false
instance:Eqs eI 1:=⟨λa b=>rfl,λa=>by simp[xY]⟩
instance:Eqs eB 1:=⟨λa b=>rfl,λa=>by simp[xY]⟩
instance:Eqs eS 1:=⟨λa b=>rfl,λa=>by simp[xY]⟩
instance:Non eI:=⟨λa=>rfl,λa=>rfl⟩
instance:Non eB:=⟨λa=>rfl,λa=>rfl⟩
instance:Non eS:=⟨λa=>rfl,λa=>rfl⟩
section
variable [DecidableEq α] [DecidableEq β] [DecidableEq γ] [DecidableEq δ] {e:α->Dt} {e':β->Dt} {e'':γ->Dt} {e3:δ->Dt} {l:Nat}
theorem Ea [Eqs e n]:∀ xs ys:List α,lN (xs.map e) (ys.map e)=some (decide (xs=ys))
 |[],[]=>by simp[lN]
 |[],y::ys=>by simp[lN]
 |x::xs,[]=>by simp[lN]
 |x::xs,y::ys=>by
  simp only[zC,lN,Eqs.eq,Ea xs ys];congr 1;by_cases h:x=y<;>by_cases h':xs=ys<;>simp[h,h']
theorem Eb [Eqs e n]:∀ xs:List α,uW (xs.map e)<=n
 |[]=>by simp[uW]
 |x::xs=>by
  have:=Eqs.dp (e:=e) x;have:=Eb xs;simp only[zC,uW];omega
instance [Eqs e n]:Eqs (eL e) (n+1):=⟨λa b=>Ea a b,λa=>by simp only[xY];have:=Eb (e:=e) a;omega⟩
instance [Eqs e n]:Eqs (eT e) (n+1):=⟨λa b=>Ea a b,λa=>by simp only[xY];have:=Eb (e:=e) a;omega⟩
instance:Non (eL e):=⟨λa=>rfl,λa=>rfl⟩
instance:Non (eT e):=⟨λa=>rfl,λa=>rfl⟩
instance:Non (eP1 e):=⟨λa=>rfl,λa=>rfl⟩
instance:Non (eP2 e e'):=⟨λa=>rfl,λa=>rfl⟩
instance:Non (eP3 e e' e''):=⟨λa=>rfl,λa=>rfl⟩
instance:Non (eP4 e e' e'' e3):=⟨λa=>rfl,λa=>rfl⟩
instance [Eqs e n]:Eqs (eP1 e) (n+1):=⟨λa b=>by
 simp only[Ci,lN,Eqs.eq,kz],λa=>by
 have:=Eqs.dp (e:=e) a;simp only[xY,uW];omega⟩
instance [Eqs e n] [Eqs e' m]:Eqs (eP2 e e') (max n m+1):=⟨λa b=>by
 obtain⟨a,a'⟩:=a;obtain⟨b,b'⟩:=b;simp only[Ci,lN,Eqs.eq,Prod.mk.injEq,Bool.decide_and,kz],λa=>by
 have:=Eqs.dp (e:=e) a.1;have:=Eqs.dp (e:=e') a.2;simp only[xY,uW];omega⟩
instance [Eqs e n] [Eqs e' m] [Eqs e'' k]:Eqs (eP3 e e' e'') (max n (max m k)+1):=⟨λa b=>by
 obtain⟨a,a',a2⟩:=a;obtain⟨b,b',b2⟩:=b;simp only[Ci,lN,Eqs.eq,Prod.mk.injEq,Bool.decide_and,kz],λa=>by
 have:=Eqs.dp (e:=e) a.1;have:=Eqs.dp (e:=e') a.2.1;have:=Eqs.dp (e:=e'') a.2.2;simp only[xY,uW];omega⟩
instance [Eqs e n] [Eqs e' m] [Eqs e'' k] [Eqs e3 l]:Eqs (eP4 e e' e'' e3) (max n (max m (max k l))+1):=⟨λa b=>by
 obtain⟨a,a',a2,a3⟩:=a;obtain⟨b,b',b2,b3⟩:=b;simp only[Ci,lN,Eqs.eq,Prod.mk.injEq,Bool.decide_and,kz],λa=>by
 have:=Eqs.dp (e:=e) a.1;have:=Eqs.dp (e:=e') a.2.1;have:=Eqs.dp (e:=e'') a.2.2.1;have:=Eqs.dp (e:=e3) a.2.2.2;simp only[xY,uW];omega⟩
instance [Eqs e n] [Non e]:Eqs (eO e) (n+1):=⟨λa b=>by
 cases a with
 |none=>cases b with
  |none=>exact rfl
  |some b=>exact(Non.l (e:=e) b).trans (by simp)
 |some a=>cases b with
  |none=>exact(Non.r (e:=e) a).trans (by simp)
  |some b=>exact(Eqs.eq (e:=e) a b).trans (by simp),λa=>by
 cases a with
 |none=>show xY .non<=n+1;simp[xY]
 |some a=>exact Nat.le_succ_of_le (Eqs.dp (e:=e) a)⟩
end
section
variable {fs:Ev->Option (List Bx)} {e:α->Dt} {e':β->Dt}
def x_eq [DecidableEq α] [Eqs e n] (hn:n<=100) (a:R fa ρ (zE e)) (b:R fb ρ (zE e)):R (b2 eqB fa fb) ρ (zE eB):=⟨decide (a.v=b.v),bB a.D b.D,λh=>by
 obtain⟨h1,h2⟩:=aC h;have:=Eqs.dp (e:=e) a.v;simp only[b2,a.ok h1,b.ok h2,bnd,eqB,nW,toD,zh,or_self,Zl,Eqs.eq];rw[zr (by omega)]⟩
def Ed [DecidableEq α] [Eqs e n] (hn:n<=100) (a:R fa ρ (zE e)) (b:R fb ρ (zE e)):R (b2 Qn fa fb) ρ (zE eB):=⟨!decide (a.v=b.v),bB a.D b.D,λh=>by
 obtain⟨h1,h2⟩:=aC h;have:=Eqs.dp (e:=e) a.v;simp only[b2,a.ok h1,b.ok h2,bnd,Qn,nW,toD,zh,or_self,Zl,Eqs.eq];rw[zr (by omega)]⟩
def afp (a:R fa ρ (zE (eO e))) (hn:∀ x,Dq (.z (e x))=false):R (b2 isB fa (cB .non)) ρ (zE eB):=⟨a.v.isNone,a.D,λh=>by
 simp only[b2,a.ok h,bnd,cB,isB];cases hv:a.v with
 |none=>rfl
 |some x=>simp only[Option.isNone_some,hn]⟩
def Sy (a:R fa ρ (zE (eO e))) (hn:∀ x,Dq (.z (e x))=false):R (b2 Il fa (cB .non)) ρ (zE eB):=⟨a.v.isSome,a.D,λh=>by
 simp only[b2,a.ok h,bnd,cB,Il];cases hv:a.v with
 |none=>rfl
 |some x=>simp only[Option.isSome_some,hn,jI]⟩
def lH (a:R fa ρ (zE eB)) (b:R fb ρ (zE eB)):R (qL fa fb) ρ (zE eB):=⟨a.v&&b.v,bB a.D (yR (a.v=true) b.D),λh=>by
 obtain⟨h1,h2⟩:=aC h;simp only[qL,a.ok h1,bnd,wC];cases hv:a.v with
 |true=>simp only[ZZ,Bool.true_and];exact b.ok (gQ h2 hv)
 |false=>simp only[zh,Zl,JS]⟩
def afq (a:R fa ρ (zE eB)) (b:R fb ρ (zE eB)):R (orV fa fb) ρ (zE eB):=⟨a.v||b.v,bB a.D (yR (a.v=false) b.D),λh=>by
 obtain⟨h1,h2⟩:=aC h;simp only[orV,a.ok h1,bnd,wC];cases hv:a.v with
 |true=>simp only[ZZ,Bool.true_or]
 |false=>simp only[zh,Zl,Bool.false_or];exact b.ok (gQ h2 hv)⟩
def afr (a:R fa ρ (zE eB)):R (Zz fa) ρ (zE eB):=⟨!a.v,a.D,λh=>by simp only[Zz,a.ok h,bnd,wC]⟩
def sV (a:R fa ρ (zE eB)):R (tV fa) ρ tE:=⟨a.v,a.D,λh=>by simp only[tV,a.ok h,bnd,Qh]⟩
def afs (a:R fa ρ (zE eS)):R (tV fa) ρ tE:=⟨decide (a.v.length≠0),a.D,λh=>by
 simp only[tV,a.ok h,bnd,Qh];congr 1;exact Bool.eq_iff_iff.mpr (by simp)⟩
def SJ (a:RL fa ρ e):R (tV fa) ρ tE:=⟨!a.v.isEmpty,a.D,λh=>by
 have:Qh a.b=some (!(a.v.map e).isEmpty):=by
  have:=a.lk;generalize a.v.map e=ds at this
  revert this
  generalize a.b=b;intro this;cases b with
  |z d=>cases d<;>cases this;rfl
  |l d=>cases this;rfl
  |o d=>cases this;rfl
  |n d=>cases this
  |m d _=>cases this
 simp only[tV,a.ok h,bnd,this,List.isEmpty_map]⟩
def fD {g:Bx->Bx->Option Bx} (a:R (b2 g fa fb) ρ (zE eB)):R (xH g fa fb) ρ tE:=⟨a.v,a.D,λh=>by simp only[xH,a.ok h,bnd,wC]⟩
def aho {g g':Bx->Bx->Option Bx} (a:R (Zx g g' fa fb fc) ρ (zE eB)):R (tC3 g g' fa fb fc) ρ tE:=⟨a.v,a.D,λh=>by simp only[tC3,a.ok h,bnd,wC]⟩
def Ja (a:R p ρ tE) (b:R q ρ tE):R (Gy p q) ρ tE:=⟨a.v&&b.v,bB a.D (yR (a.v=true) b.D),λh=>by
 obtain⟨h1,h2⟩:=aC h;simp only[Gy,a.ok h1,bnd];cases hv:a.v with
 |true=>simp only[ZZ,Bool.true_and];exact b.ok (gQ h2 hv)
 |false=>simp only[zh,Zl,JS]⟩
def zT (a:R p ρ tE) (b:R q ρ tE):R (Mi p q) ρ tE:=⟨a.v||b.v,bB a.D (yR (a.v=false) b.D),λh=>by
 obtain⟨h1,h2⟩:=aC h;simp only[Mi,a.ok h1,bnd];cases hv:a.v with
 |true=>simp only[ZZ,Bool.true_or]
 |false=>simp only[zh,Zl,Bool.false_or];exact b.ok (gQ h2 hv)⟩
def oK (a:R p ρ tE):R (sy p) ρ tE:=⟨!a.v,a.D,λh=>by simp only[sy,a.ok h,bnd]⟩
def adv {g g':Bx->Bx->Option Bx} (ab:R (b2 g fa fb) ρ (zE eB)) (bc:R (b2 g' fb fc) ρ (zE eB)):R (Zx g g' fa fb fc) ρ (zE eB):=⟨ab.v&&bc.v,bB ab.D (yR (ab.v=true) bc.D),λh=>by
 obtain⟨h1,h3⟩:=aC h;have e1:=ab.ok h1;simp only[b2] at e1;obtain⟨x,ex,e1⟩:=bind_some e1;obtain⟨y,ey,e1⟩:=bind_some e1;simp only[Zx,ex,ey,bnd,e1,wC];cases hv:ab.v with
 |true=>
  have e2:=bc.ok (gQ h3 hv);simp only[b2,ey,bnd] at e2;simp only[ZZ,Bool.true_and];exact e2
 |false=>simp only[zh,Zl,JS]⟩
def Xm {c:α->Bx} (t:R p ρ tE) (a:R fa ρ c) (b:R fb ρ c):R (ifV p fa fb) ρ c:=⟨if t.v=true then a.v else b.v,bB t.D (bB (yR (t.v=true) a.D) (yR (t.v=false) b.D)),λh=>by
 obtain⟨h1,h2⟩:=aC h;obtain⟨h2,h3⟩:=aC h2;simp only[ifV,t.ok h1,bnd];cases hv:t.v with
 |true=>simp only[ZZ];exact a.ok (gQ h2 hv)
 |false=>simp only[zh,Zl];exact b.ok (gQ h3 hv)⟩
end
section
variable {ε:Type} {fd:Ev->Option Bx} {fs:Ev->Option (List Bx)} {e:α->Dt} {e':β->Dt} {e'':γ->Dt} {e3:δ->Dt}
def zU (e:α->Dt):R (bR gj aD) ρ (zE (eT e)):=⟨[],none,λ_=>rfl⟩
def QM (a:R fa ρ (zE e)):R (bR gj (aq fa aD)) ρ (zE (eP1 e)):=⟨a.v,a.D,λh=>by
 simp only[bR,aq,aD,a.ok h,bnd];rfl⟩
def pJ (a:R fa ρ (zE e)) (b:R fb ρ (zE e')) (c:R fc ρ (zE e'')):R (bR gj (aq fa (aq fb (aq fc aD)))) ρ (zE (eP3 e e' e'')):=⟨(a.v,b.v,c.v),bB a.D (bB b.D c.D),λh=>by
 obtain⟨h1,h⟩:=aC h;obtain⟨h2,h3⟩:=aC h;simp only[bR,aq,aD,a.ok h1,b.ok h2,c.ok h3,bnd];rfl⟩
def vG (a:R fa ρ (zE e)) (b:R fb ρ (zE e')) (c:R fc ρ (zE e'')) (d:R fd ρ (zE e3)):R (bR gj (aq fa (aq fb (aq fc (aq fd aD))))) ρ (zE (eP4 e e' e'' e3)):=⟨(a.v,b.v,c.v,d.v),bB a.D (bB b.D (bB c.D d.D)),λh=>by
 obtain⟨h1,h⟩:=aC h;obtain⟨h2,h⟩:=aC h;obtain⟨h3,h4⟩:=aC h;simp only[bR,aq,aD,a.ok h1,b.ok h2,c.ok h3,d.ok h4,bnd];rfl⟩
def gF (e:α->Dt):R aD ρ (λxs:List α=>xs.map (zE e)):=⟨[],none,λ_=>rfl⟩
def cD (a:R fa ρ (zE e)) (t:R fs ρ (λxs:List α=>xs.map (zE e))):R (aq fa fs) ρ (λxs:List α=>xs.map (zE e)):=⟨a.v::t.v,bB a.D t.D,λh=>by
 obtain⟨h1,h2⟩:=aC h;simp only[aq,a.ok h1,t.ok h2,bnd,zC]⟩
theorem Ef:∀ xs:List α,JD (xs.map (zE e))=some (xs.map e)
 |[]=>rfl
 |x::xs=>by simp only[zC,JD,Ef xs,bnd]
def nH (t:R fs ρ (λxs:List α=>xs.map (zE e))) (hl:t.v.length<=1000):R (bR oN fs) ρ (oE e):=⟨t.v,t.D,λh=>by
 simp only[bR,t.ok h,bnd,oN,zg,zr hl,Ef]⟩
def Xn (t:R fs ρ (λxs:List Dt=>xs.map (zE eD))) (hl:t.v.length<=1000):R (bR gj fs) ρ (zE eD):=⟨.tup t.v,t.D,λh=>by
 simp only[bR,t.ok h,bnd,gj,zg,zr hl,Ef,List.map_id_fun',id]⟩
def at' [Inhabited α] (xs:List α) (i:Int):α:=(Bj xs i).getD default
def In (n:Nat) (i:Int):Prop:=-(n:Int)<=i/\i < n
theorem wj {xs:List α} {i:Int} (h:In xs.length i):∃ x,Bj xs i=some x:=by
 obtain⟨h1,h2⟩:=h;unfold Bj ixN;by_cases h0:0<=i
 ·rw[zr h0,zr h2];exact⟨xs[i.toNat]'(by omega),zI (by omega)⟩
 ·rw[zz h0,zr h1];exact⟨xs[(i+xs.length).toNat]'(by omega),zI (by omega)⟩
theorem adw {xs:List α} {i:Int} {x:α} (h:Bj xs i=some x):Bj (xs.map e) i=some (e x):=by
 unfold Bj at h ⊢;rw[zg];obtain⟨j,ej,h⟩:=bind_some h;rw[ej,bnd,ZA,h];rfl
theorem Xo [Inhabited α] {xs:List α} {i:Int} (h:In xs.length i):Bj (xs.map e) i=some (e (at' xs i)):=by
 obtain⟨x,hx⟩:=wj h;rw[adw hx];unfold at';rw[hx];rfl
theorem aaz {i:Int} (h:uJ b=some ds):eX b (.z (.int i))=(Bj ds i).bind λd=>some (.z d):=by
 cases b with
 |z d=>cases d<;>cases h;rfl
 |l d=>cases h;rfl
 |o d=>cases h;rfl
 |n d=>cases h
 |m d _=>cases h
def eH [Inhabited α] (a:RL fa ρ e) (b:R fb ρ (zE eI)):R (b2 eX fa fb) ρ (zE e):=⟨at' a.v b.v,bB (bB a.D b.D) (some (In a.v.length b.v)),λh=>by
 obtain⟨h,h3⟩:=aC h;obtain⟨h1,h2⟩:=aC h;simp only[b2,a.ok h1,b.ok h2,bnd,aaz a.lk,Xo (show In a.v.length b.v from h3)]⟩
def Eh [Inhabited α] (a:R fa ρ (zE (eT e))) (b:R fb ρ (zE eI)):R (b2 eX fa fb) ρ (zE e):=⟨at' a.v b.v,bB (bB a.D b.D) (some (In a.v.length b.v)),λh=>by
 obtain⟨h,h3⟩:=aC h;obtain⟨h1,h2⟩:=aC h;simp only[b2,a.ok h1,b.ok h2,bnd,eX,wG,Xo (show In a.v.length b.v from h3)]⟩
def ch (x:Str) (i:Int):Str:=⟨#[(Bj x.cps.toList i).getD 0]⟩
def SM (a:R fa ρ (zE eS)) (b:R fb ρ (zE eI)):R (b2 eX fa fb) ρ (zE eS):=⟨ch a.v b.v,bB (bB a.D b.D) (some (In a.v.length b.v)),λh=>by
 obtain⟨h,h3⟩:=aC h;obtain⟨h1,h2⟩:=aC h;obtain⟨x,hx⟩:=wj (xs:=a.v.cps.toList) (i:=b.v) (show In a.v.length b.v from h3);simp only[b2,a.ok h1,b.ok h2,bnd,eX,hx,ch,Option.getD_some]⟩
def PK (d:Dt) (i:Int):Dt:=match eX (.z d) (.z (.int i)) with|some (.z y)=>y|_=>.non
def IxD (d:Dt) (i:Int):Prop:=match d with
 |.tup ds=>In ds.length i
 |.lst ds=>In ds.length i
 |.str x=>In x.length i
 |_=>False
def aft (a:R fa ρ (zE eD)) (b:R fb ρ (zE eI)):R (b2 eX fa fb) ρ (zE eD):=⟨PK a.v b.v,bB (bB a.D b.D) (some (IxD a.v b.v)),λh=>by
 obtain⟨h,h3⟩:=aC h;obtain⟨h1,h2⟩:=aC h;have h3:IxD a.v b.v:=h3;simp only[b2,a.ok h1,b.ok h2,bnd];show eX (.z a.v) (.z (.int b.v))=some (.z (PK a.v b.v));unfold PK;cases hv:a.v with
 |tup ds=>
  rw[hv] at h3;obtain⟨x,hx⟩:=wj (show In ds.length b.v from h3);simp only[eX,wG,bnd,hx]
 |lst ds=>
  rw[hv] at h3;obtain⟨x,hx⟩:=wj (show In ds.length b.v from h3);simp only[eX,wG,bnd,hx]
 |str x=>
  rw[hv] at h3;obtain⟨c,hx⟩:=wj (xs:=x.cps.toList) (show In x.length b.v from h3);simp only[eX,bnd,hx]
 |non=>rw[hv] at h3;exact absurd h3 id
 |bl _=>rw[hv] at h3;exact absurd h3 id
 |int _=>rw[hv] at h3;exact absurd h3 id
 |emp=>rw[hv] at h3;exact absurd h3 id⟩
def jy (a:R fa ρ (zE e)) (g:α->β) (e':β->Dt) (i:Int) (h:∀ x,eX (.z (e x)) (.z (.int i))=some (.z (e' (g x)))):R (b2 eX fa (cB (.int i))) ρ (zE e'):=⟨g a.v,a.D,λhd=>by
 simp only[b2,a.ok hd,bnd,cB,h]⟩
def cut (xs:List α) (lo hi:Option Int):List α:=(xs.drop (HT.iu xs.length 0 lo)).take (HT.iu xs.length xs.length hi - HT.iu xs.length 0 lo)
theorem aaA (xs:List α) (lo hi:Option Int):cutD (xs.map e) lo hi=(cut xs lo hi).map e:=by
 unfold cutD cut;rw[zg,List.map_take,List.map_drop]
abbrev pE:Option Int->Option Int:=λo=>o
def U7:R qN ρ pE:=⟨none,none,λ_=>rfl⟩
def Nx (a:R fa ρ (zE eI)):R (rG fa) ρ pE:=⟨some a.v,a.D,λh=>by simp only[rG,a.ok h,bnd,ac7]⟩
variable {fl fh:Ev->Option (Option Int)}
theorem aaB (h:uJ b=some ds):slB b lo hi=some (.o (cutD ds lo hi)):=by
 cases b with
 |z d=>cases d<;>cases h;rfl
 |l d=>cases h;rfl
 |o d=>cases h;rfl
 |n d=>cases h
 |m d _=>cases h
def aaC (a:RL fa ρ e) (l:R fl ρ pE) (u:R fh ρ pE):R (Lx fa fl fh) ρ (oE e):=⟨cut a.v l.v u.v,bB a.D (bB l.D u.D),λh=>by
 obtain⟨h1,h⟩:=aC h;obtain⟨h2,h3⟩:=aC h;simp only[Lx,a.ok h1,l.ok h2,u.ok h3,bnd,aaB a.lk,aaA]⟩
def abC (a:R fa ρ (zE eS)) (l:R fl ρ pE) (u:R fh ρ pE):R (Lx fa fl fh) ρ (zE eS):=⟨Txt.slice a.v l.v u.v,bB a.D (bB l.D u.D),λh=>by
 obtain⟨h1,h⟩:=aC h;obtain⟨h2,h3⟩:=aC h;simp only[Lx,a.ok h1,l.ok h2,u.ok h3,bnd,slB]⟩
def wI:Dt->List Dt
 |.tup ds=>ds
 |.lst ds=>ds
 |_=>[]
def afu (a:R fa ρ (zE eD)) (l:R fl ρ pE) (u:R fh ρ pE):R (Lx fa fl fh) ρ (zE eD):=⟨.tup (cut (wI a.v) l.v u.v),bB (bB a.D (bB l.D u.D)) (some (is_tuple a.v=true)),λh=>by
 obtain⟨h,h4⟩:=aC h;obtain⟨h1,h⟩:=aC h;obtain⟨h2,h3⟩:=aC h;have h4:is_tuple a.v=true:=h4;simp only[Lx,a.ok h1,l.ok h2,u.ok h3,bnd];cases hv:a.v<;>rw[hv] at h4<;>first|(cases h4;done)|rfl⟩
def vH (n:Nat):Prop:=n<=1000000
def nZ (a:R fa ρ (zE eS)) (b:R fb ρ (zE eS)):R (b2 dD fa fb) ρ (zE eS):=⟨a.v++b.v,bB (bB a.D b.D) (some (vH (a.v.length+b.v.length))),λh=>by
 obtain⟨h,h3⟩:=aC h;obtain⟨h1,h2⟩:=aC h;simp only[b2,a.ok h1,b.ok h2,bnd,dD,zr (show a.v.length+b.v.length<=Uj from h3)]⟩
def Xp (a:R fa ρ (zE eD)) (b:R fb ρ (zE eD)):R (b2 dD fa fb) ρ (zE eD):=⟨.tup (wI a.v++wI b.v),bB (bB a.D b.D) (some (is_tuple a.v=true/\is_tuple b.v=true/\vH ((wI a.v).length+(wI b.v).length))),λh=>by
 obtain⟨h,h3⟩:=aC h;obtain⟨h1,h2⟩:=aC h;obtain⟨h3,h4,h5⟩:is_tuple a.v=true/\is_tuple b.v=true/\vH ((wI a.v).length+(wI b.v).length):=h3;simp only[b2,a.ok h1,b.ok h2,bnd]
 revert h3 h4 h5
 show is_tuple a.v=true->is_tuple b.v=true->vH ((wI a.v).length+(wI b.v).length)->dD (.z a.v) (.z b.v)=some (.z (.tup (wI a.v++wI b.v)));generalize a.v=x;generalize b.v=y;intro h3 h4 h5;cases x<;>first|(cases h3;done)|skip;cases y<;>first|(cases h4;done)|skip;exact zr h5⟩
theorem Xq {b':Bx} {ds':List Dt} (h:uJ b=some ds) (h':uJ b'=some ds') (hl:ds.length+ds'.length<=Uj):dD b b'=some (.o (ds++ds')):=by
 cases b with
 |z d=>
  cases d<;>cases h;cases b' with
  |z d'=>cases d'<;>cases h';exact zr hl
  |l d'=>cases h';exact zr hl
  |o d'=>cases h';exact zr hl
  |n d'=>cases h'
  |m d'=>cases h'
 |l d=>
  cases h;cases b' with
  |z d'=>cases d'<;>cases h';exact zr hl
  |l d'=>cases h';exact zr hl
  |o d'=>cases h';exact zr hl
  |n d'=>cases h'
  |m d'=>cases h'
 |o d=>
  cases h;cases b' with
  |z d'=>cases d'<;>cases h';exact zr hl
  |l d'=>cases h';exact zr hl
  |o d'=>cases h';exact zr hl
  |n d'=>cases h'
  |m d'=>cases h'
 |n d=>cases h
 |m d _=>cases h
def zV (a:RL fa ρ e) (b:RL fb ρ e):R (b2 dD fa fb) ρ (oE e):=⟨a.v++b.v,bB (bB a.D b.D) (some (vH (a.v.length+b.v.length))),λh=>by
 obtain⟨h,h3⟩:=aC h;obtain⟨h1,h2⟩:=aC h;simp only[b2,a.ok h1,b.ok h2,bnd];rw[Xq a.lk b.lk (by rw[zg,zg];exact h3)];simp only[oE,List.map_append]⟩
def adx (a:R fa ρ (zE eS)) (b:R fb ρ (zE eI)):R (b2 wF fa fb) ρ (zE eS):=⟨Txt.mul a.v b.v,bB (bB a.D b.D) (some (b.v<=1000 ∧ -1000<=b.v/\a.v.length<=1000)),λh=>by
 obtain⟨h,h3⟩:=aC h;obtain⟨h1,h2⟩:=aC h;simp only[b2,a.ok h1,b.ok h2,bnd];exact zr h3⟩
theorem Xr (h:uJ b=some ds):pG [b]=some (.z (.int ds.length)):=by
 cases b with
 |z d=>cases d<;>cases h;rfl
 |l d=>cases h;rfl
 |o d=>cases h;rfl
 |n d=>cases h
 |m d _=>cases h
theorem Xu (h:uJ b=some ds):wG b=some ds:=by
 cases b with
 |z d=>cases d<;>cases h;rfl
 |l d=>cases h;rfl
 |o d=>cases h;rfl
 |n d=>cases h
 |m d _=>cases h
def x_len (a:RL fa ρ e):R (bR pG (aq fa aD)) ρ (zE eI):=⟨(a.v.length:Int),a.D,λh=>by
 simp only[bR,aq,aD,a.ok h,bnd,Xr a.lk,zg]⟩
def Ei (a:R fa ρ (zE (eT e))):R (bR pG (aq fa aD)) ρ (zE eI):=⟨(a.v.length:Int),a.D,λh=>by
 simp only[bR,aq,aD,a.ok h,bnd,pG,wG,zg]⟩
def QS (a:R fa ρ (zE eS)):R (bR pG (aq fa aD)) ρ (zE eI):=⟨(a.v.length:Int),a.D,λh=>by
 simp only[bR,aq,aD,a.ok h,bnd,pG]⟩
def Ke:Dt->Int
 |.tup ds=>ds.length
 |.lst ds=>ds.length
 |.str x=>x.length
 |_=>0
def GR:Dt->Bool
 |.tup _=>true
 |.lst _=>true
 |.str _=>true
 |_=>false
def QT (a:R fa ρ (zE eD)):R (bR pG (aq fa aD)) ρ (zE eI):=⟨Ke a.v,bB a.D (some (GR a.v=true)),λh=>by
 obtain⟨h,h4⟩:=aC h;have h4:GR a.v=true:=h4;simp only[bR,aq,aD,a.ok h,bnd];cases hv:a.v<;>rw[hv] at h4<;>first|(cases h4;done)|rfl⟩
def jJ (a:RL fa ρ e):R (bR gC (aq fa aD)) ρ (zE (eT e)):=⟨a.v,a.D,λh=>by
 simp only[bR,aq,aD,a.ok h,bnd,gC,Xu a.lk]⟩
def Kf (a:R fa ρ (zE (eT e))):R (bR Dr (aq fa aD)) ρ (oE e):=⟨a.v,a.D,λh=>by
 simp only[bR,aq,aD,a.ok h,bnd,Dr,wG]⟩
def afv (a:R fa ρ (zE eI)):R (bR Ww (aq fa aD)) ρ (zE eI):=⟨if a.v < 0 then -a.v else a.v,a.D,λh=>by
 simp only[bR,aq,aD,a.ok h,bnd,Ww]⟩
def ady (a:R fa ρ (zE eB)):R (bR Wx (aq fa aD)) ρ (zE eI):=⟨if a.v=true then 1 else 0,a.D,λh=>by
 simp only[bR,aq,aD,a.ok h,bnd,Wx]⟩
theorem Jb:∀ l:List Bool,Im (l.map eB)=some l
 |[]=>rfl
 |a::l=>by simp only[zC,Im,Jb l,bnd]
def vI (a:RL fa ρ eB):R (bR allB (aq fa aD)) ρ (zE eB):=⟨a.v.all id,a.D,λh=>by
 simp only[bR,aq,aD,a.ok h,bnd,allB,a.lk,Jb]⟩
def Jc (a:R fa ρ (zE eI)) (b:R fb ρ (zE eI)):R (bR GJ (aq fa (aq fb aD))) ρ (zE eI):=⟨if b.v > a.v then b.v else a.v,bB a.D b.D,λh=>by
 obtain⟨h1,h2⟩:=aC h;simp only[bR,aq,aD,a.ok h1,b.ok h2,bnd,GJ]⟩
def abD (a:R fa ρ (zE eI)) (b:R fb ρ (zE eI)):R (bR Ur (aq fa (aq fb aD))) ρ (zE eI):=⟨if b.v < a.v then b.v else a.v,bB a.D b.D,λh=>by
 obtain⟨h1,h2⟩:=aC h;simp only[bR,aq,aD,a.ok h1,b.ok h2,bnd,Ur]⟩
def wN (P:Dt->Bool) (a:R fa ρ (zE e)):R (uF P fa) ρ (zE eB):=⟨P (e a.v),a.D,λh=>by
 simp only[uF,b1,a.ok h,bnd,nW,toD,zh,Zl]⟩
theorem strs_map:∀ l:LS_,Dv (l.map eS)=some l
 |[]=>rfl
 |a::l=>by simp only[zC,Dv,strs_map l,bnd]
def Ej (s:Str) (a:RL fa ρ eS):R (b1 (yH s) fa) ρ (zE eS):=⟨Txt.join s a.v,bB a.D (some ((a.v.map (·.length)).sum+a.v.length * s.length<=100000)),λh=>by
 obtain⟨h,h4⟩:=aC h;simp only[b1,a.ok h,bnd,yH,a.lk,strs_map];exact zr h4⟩
def aaD (a:RL fa ρ eS):R (bR Io (aq fa aD)) ρ (oE eS):=⟨wL a.v,bB a.D (some (a.v.length < 64)),λh=>by
 obtain⟨h,h4⟩:=aC h;simp only[bR,aq,aD,a.ok h,bnd,Io,a.lk,strs_map];exact zr h4⟩
def abE (a:R fa ρ (zE e)) (g:α->β) (e':β->Dt) (lo hi:Option Int) (hl:fl ρ=some lo) (hh:fh ρ=some hi) (h:∀ x,slB (.z (e x)) lo hi=some (.z (e' (g x)))):R (Lx fa fl fh) ρ (zE e'):=⟨g a.v,a.D,λhd=>by
 simp only[Lx,a.ok hd,hl,hh,bnd,h]⟩
def QW:Dt->Int
 |.int i=>i
 |_=>0
def Kg:Dt->Str
 |.str x=>x
 |_=>⟨#[]⟩
def oR (a:R f ρ (zE eD)) (g:Dt->α) (e:α->Dt):R f ρ (zE e):=⟨g a.v,bB a.D (some (a.v=e (g a.v))),λhd=>by
 obtain⟨h1,h2⟩:=aC hd;have h2:a.v=e (g a.v):=h2;rw[a.ok h1];show some (Bx.z a.v)=some (Bx.z (e (g a.v)));rw[<-h2]⟩
class Flat {α:Type} (e:α->Dt):Prop where
 f:∀ a,yC (e a)=true
instance:Flat eI:=⟨λ_=>rfl⟩
instance:Flat eB:=⟨λ_=>rfl⟩
instance:Flat eS:=⟨λ_=>rfl⟩
theorem Ny [DecidableEq α] [Eqs e n] [Flat e] (x:α) (ys:List α):memD (e x) (ys.map e)=some (decide (x∈ys)):=by
 unfold memD;rw[zr ⟨Flat.f x,by rw[List.all_map];exact List.all_eq_true.mpr λy _=>Flat.f y⟩,List.any_map];congr 1;rw[Bool.eq_iff_iff,List.any_eq_true,decide_eq_true_iff];constructor
 ·rintro⟨y,hy,h⟩;simp only[Function.comp,Eqs.eq] at h;by_cases e1:y=x
  ·rw[<-e1];exact hy
  ·simp only[e1,JU] at h;cases h
 ·intro h;exact⟨x,h,by simp only[Function.comp,Eqs.eq,kA]⟩
theorem SN:inB (.z d) (.z (.tup ds))=memD d ds:=by cases d<;>rfl
def SQ [DecidableEq α] [Eqs e n] [Flat e] (a:R fa ρ (zE e)) (b:R fb ρ (zE (eT e))):R (b2 inF fa fb) ρ (zE eB):=⟨decide (a.v∈b.v),bB a.D b.D,λh=>by
 obtain⟨h1,h2⟩:=aC h;simp only[b2,a.ok h1,b.ok h2,bnd,inF,SN,Ny]⟩
def Kh [DecidableEq α] [Eqs e n] [Flat e] (a:R fa ρ (zE e)) (b:R fb ρ (zE (eT e))):R (b2 Qq fa fb) ρ (zE eB):=⟨!decide (a.v∈b.v),bB a.D b.D,λh=>by
 obtain⟨h1,h2⟩:=aC h;simp only[b2,a.ok h1,b.ok h2,bnd,Qq,SN,Ny]⟩
def abF (a:R fa ρ (zE eS)) (b:R fb ρ (zE eS)):R (b2 inF fa fb) ρ (zE eB):=⟨yx a.v b.v,bB a.D b.D,λh=>by
 obtain⟨h1,h2⟩:=aC h;simp only[b2,a.ok h1,b.ok h2,bnd,inF,inB]⟩
end
structure AR {γ:Type} (cA:γ->List Bx->Prop) (fs:Ev->Option (List Bx)) (ρ:Ev) where
 v:γ
 D:Option Prop
 bs:List Bx
 h:cA v bs
 ok:hold D->fs ρ=some bs
section
variable {ε σ:Type} {fd:Ev->Option Bx} {fs:Ev->Option (List Bx)} {e:α->Dt} {e':β->Dt} {e'':γ->Dt} {e3:δ->Dt}
def aN:Unit->List Bx->Prop:=λ_ bs=>bs=[]
def aZ (e:α->Dt) (t:γ->List Bx->Prop):α×γ->List Bx->Prop:=λx bs=>∃ r,bs=.z (e x.1)::r/\t x.2 r
def aL (e:α->Dt) (t:γ->List Bx->Prop):List α×γ->List Bx->Prop:=λx bs=>∃ b r,bs=b::r/\uJ b=some (x.1.map e)/\t x.2 r
def aX:AR aN aD ρ:=⟨(),none,[],rfl,λ_=>rfl⟩
def cg {t:γ->List Bx->Prop} (a:R fa ρ (zE e)) (r:AR t fs ρ):AR (aZ e t) (aq fa fs) ρ:=⟨(a.v,r.v),bB a.D r.D,_,⟨_,rfl,r.h⟩,λh=>by
 obtain⟨h1,h2⟩:=aC h;simp only[aq,a.ok h1,r.ok h2,bnd]⟩
def GX {t:γ->List Bx->Prop} (a:RL fa ρ e) (r:AR t fs ρ):AR (aL e t) (aq fa fs) ρ:=⟨(a.v,r.v),bB a.D r.D,_,⟨_,_,rfl,a.lk,r.h⟩,λh=>by
 obtain⟨h1,h2⟩:=aC h;simp only[aq,a.ok h1,r.ok h2,bnd]⟩
def x_call {cA:γ->List Bx->Prop} {c:α->Bx} {T:γ->α} {Df:γ->Option Prop} (S:∀ v bs,cA v bs->bs.length=n/\(hold (Df v)->F (bs.map lend)=some (c (T v)))) (a:AR cA fs ρ):R (bJ n F fs) ρ c:=⟨T a.v,bB a.D (Df a.v),λh=>by
 obtain⟨h1,h2⟩:=aC h;obtain⟨h3,h4⟩:=S a.v a.bs a.h;simp only[bJ,a.ok h1,bnd,zr h3,h4 h2]⟩
theorem adz {bs:List Bx} {c:α->Bx} (x:R g (bs.map some++List.replicate (n - bs.length) none) (λr=>Out.rt (c r))) (h:hold x.D):dj n g bs=some (c x.v):=by
 unfold dj;rw[x.ok h];rfl
def afw (xs:List α) (P:α->Option Prop):Option Prop:=some (∀ x∈xs,hold (P x))
theorem Nz {fs:Ev->Option (List Dt)} {ρ1:Ev} {g:α->List Dt} {π:α->Bool}:∀ xs:List α,(∀ x∈xs,∃ ρ2,gt (e x) ρ1=some ρ2/\p ρ2=some (π x)/\(π x=true->fs ρ2=some (g x)))->Bp gt p fs ρ1 (xs.map e)=some ((xs.filter π).flatMap g)
 |[],_=>rfl
 |x::xs,h=>by
  obtain⟨ρ2,h1,h2,h3⟩:=h x (zk ..);have ih:=Nz (g:=g) (π:=π) xs λy hy=>h y (zo _ hy);cases hp:π x with
  |true=>simp only[zC,Bp,h1,bnd,h2,hp,ZZ,h3 hp,ih,List.filter_cons,JJ]
  |false=>simp only[zC,Bp,h1,bnd,h2,hp,ih,List.filter_cons,zh,Zl]
theorem NK {g:α->β}:∀ xs:List α,xs.flatMap (λx=>[e' (g x)])=(xs.map g).map e'
 |[]=>rfl
 |x::xs=>by rw[JJ,NK xs];rfl
theorem NP {ρ1:Ev} {g:α->β} {π:α->Bool} (xs:List α) (h:∀ x∈xs,∃ ρ2,gt (e x) ρ1=some ρ2/\p ρ2=some (π x)/\(π x=true->fe ρ2=some (.z (e' (g x))))):HY gt p fe ρ1 (xs.map e)=some (((xs.filter π).map g).map e'):=by
 rw[<-NK];exact Nz xs λx hx=>let ⟨ρ2,h1,h2,h3⟩:=h x hx;⟨ρ2,h1,h2,λhp=>by rw[h3 hp];rfl⟩
theorem comp_map {ρ1:Ev} {g:α->β} (xs:List α) (h:∀ x∈xs,∃ ρ2,gt (e x) ρ1=some ρ2/\fe ρ2=some (.z (e' (g x)))):HY gt pH fe ρ1 (xs.map e)=some ((xs.map g).map e'):=
 (NP (π:=λ_=>true) xs λx hx=>let ⟨ρ2,h1,h2⟩:=h x hx;⟨ρ2,h1,rfl,λ_=>h2⟩).trans (by rw[List.filter_eq_self.mpr λ_ _=>rfl])
def qP (it:R fi ρ (iE e)) (ρ2:α->Ev) (hg:∀ x,gt (e x) (pF is ρ++List.replicate n none)=some (ρ2 x)) (b:∀ x,R fe (ρ2 x) (zE e')):R (fu fi gt pH fe is n) ρ (oE e'):=⟨it.v.map λx=>(b x).v,bB (bB it.D (some (it.v.length<=100000))) (afw it.v λx=>(b x).D),λh=>by
 obtain⟨h,h3⟩:=aC h;obtain⟨h1,h2⟩:=aC h;have h3:∀ x∈it.v,hold (b x).D:=h3;simp only[fu,it.ok h1,bnd,zg,zr (show it.v.length<=100000 from h2),comp_map it.v λx hx=>⟨ρ2 x,hg x,(b x).ok (h3 x hx)⟩]⟩
def mH (it:R fi ρ (iE e)) (ρ2:α->Ev) (hg:∀ x,gt (e x) (pF is ρ++List.replicate n none)=some (ρ2 x)) (b:∀ x,R fe (ρ2 x) (zE e')) (hb:∀ x,(b x).D=none):R (fu fi gt pH fe is n) ρ (oE e'):=⟨it.v.map λx=>(b x).v,bB it.D (some (it.v.length<=100000)),λh=>by
 obtain⟨h1,h2⟩:=aC h;simp only[fu,it.ok h1,bnd,zg,zr (show it.v.length<=100000 from h2),comp_map it.v λx hx=>⟨ρ2 x,hg x,(b x).ok (by rw[hb x];trivial)⟩]⟩
def SX (it:R fi ρ (iE e)) (ρ2:α->Ev) (hg:∀ x,gt (e x) (pF is ρ++List.replicate n none)=some (ρ2 x)) (t:∀ x,R p (ρ2 x) tE) (b:∀ x,R fe (ρ2 x) (zE e')):R (fu fi gt p fe is n) ρ (oE e'):=⟨(it.v.filter λx=>(t x).v).map λx=>(b x).v,bB (bB it.D (some (it.v.length<=100000))) (afw it.v λx=>bB (t x).D (yR ((t x).v=true) (b x).D)),λh=>by
 obtain⟨h,h3⟩:=aC h;obtain⟨h1,h2⟩:=aC h;have h3:∀ x∈it.v,hold (bB (t x).D (yR ((t x).v=true) (b x).D)):=h3;simp only[fu,it.ok h1,bnd,zg,zr (show it.v.length<=100000 from h2),NP it.v λx hx=>⟨ρ2 x,hg x,(t x).ok (aC (h3 x hx)).1,λht=>(b x).ok (gQ (aC (h3 x hx)).2 ht)⟩]⟩
def afx (a:RL fa ρ e):R (Bq fa) ρ (iE e):=⟨a.v,a.D,λh=>by
 have:Ug a.b=some (a.v.map e):=by
  have:=a.lk
  revert this
  generalize a.b=b;generalize a.v.map e=ds;intro this;cases b with
  |z d=>cases d<;>cases this;rfl
  |l d=>cases this;rfl
  |o d=>cases this;rfl
  |n d=>cases this
  |m d _=>cases this
 simp only[Bq,a.ok h,bnd,this]⟩
def Ek (a:R fa ρ (zE (eT e))):R (Bq fa) ρ (iE e):=⟨a.v,a.D,λh=>by simp only[Bq,a.ok h,bnd,Ug]⟩
def chars (x:Str):LS_:=x.cps.toList.map λc=>⟨#[c]⟩
theorem NQ (x:Str):signs x=(chars x).map eS:=by
 unfold signs chars;rw[Qb];rfl
def ahq (a:R fa ρ (zE eS)):R (Bq fa) ρ (iE eS):=⟨chars a.v,a.D,λh=>by simp only[Bq,a.ok h,bnd,Ug,NQ]⟩
def YQ:Dt->List Dt
 |.tup ds=>ds
 |.lst ds=>ds
 |.str x=>signs x
 |_=>[]
def afy (a:R fa ρ (zE eD)):R (Bq fa) ρ (iE eD):=⟨YQ a.v,bB a.D (some (GR a.v=true)),λh=>by
 obtain⟨h,h4⟩:=aC h;have h4:GR a.v=true:=h4;simp only[Bq,a.ok h,bnd];cases hv:a.v<;>rw[hv] at h4<;>first|(cases h4;done)|(simp only[Ug,YQ,iE,eD,List.map_id_fun',id])⟩
def afz (a:R fa ρ (oE e)):R (itF fa) ρ (iE e):=⟨a.v,a.D,λh=>by simp only[itF,a.ok h,bnd,ZJ]⟩
def afA (a:R fa ρ (zE (eT e))):R (itF fa) ρ (iE e):=⟨a.v,a.D,λh=>by simp only[itF,a.ok h,bnd,ZJ]⟩
def rng (i:Int) (n:Nat):List Int:=(List.range n).map λk:Nat=>i+(k:Int)
theorem aaE (i:Int) (n:Nat):Ml i n=(rng i n).map eI:=by
 unfold Ml rng;rw[Qb];rfl
def Rg (j:Int):Prop:=-4611686018427387904<=j/\j < 4611686018427387904
def wO (a:R fa ρ (zE eI)):R (R6 (aq fa aD)) ρ (iE eI):=⟨rng 0 a.v.toNat,bB a.D (some (Rg a.v)),λh=>by
 obtain⟨h,h4⟩:=aC h;simp only[R6,aq,aD,a.ok h,bnd];show(if -(2 ^ 62)<=a.v/\a.v < 2 ^ 62 then some (Ml 0 a.v.toNat) else none)=_;exact(zr h4).trans (by rw[aaE])⟩
end
section
variable {ε σ τ:Type} {fd:Ev->Option Bx} {fs:Ev->Option (List Bx)} {e:α->Dt} {e':β->Dt} {g1 g2 k:Ev->Option Out} {cO:γ->Out}
theorem vJ {ρ':Ev} (h:g1 ρ=some (.nx ρ')):aF g1 k ρ=k ρ':=by
 unfold aF;rw[h];rfl
def bM (x:R (aF g (aF g1 k)) ρ cO):R (aF (aF g g1) k) ρ cO:=⟨x.v,x.D,λh=>by
 rw[<-x.ok h];unfold aF;cases g ρ with
 |none=>rfl
 |some o=>cases o<;>rfl⟩
def cP (x:R k ρ cO):R (aF eF k) ρ cO:=⟨x.v,x.D,λh=>x.ok h⟩
def dB (x:γ) (h:cO x=.nx (kill is ρ)):R (ig is) ρ cO:=⟨x,none,λ_=>by rw[h];rfl⟩
def bZ {c:α->Bx} (inj:α->γ) (a:R f ρ c) (h:∀ x,cO (inj x)=.rt (c x)) (hc:∀ x,Wg (c x)=some (.rt (c x))):R (aF (dZ f) k) ρ cO:=⟨inj a.v,a.D,λhd=>by
 have:dZ f ρ=some (.rt (c a.v)):=by unfold dZ;rw[a.ok hd,bnd,hc]
 unfold aF;rw[this,h];rfl⟩
def Xv {c:α->Bx} (i:Nat) (inj:α->γ) (a:α) (hi:ρ[i]?=some (some (c a))) (h:∀ x,cO (inj x)=.rt (c x)) (hc:∀ x,Wg (c x)=some (.rt (c x))):R (aF (JF i) k) ρ cO:=⟨inj a,none,λhd=>by
 have:JF i ρ=some (.rt (c a)):=by unfold JF;rw[hi];exact hc a
 unfold aF;rw[this,h];rfl⟩
def bQ {c:α->Bx} (i:Nat) (a:R f ρ c) (hc:∀ x,Wh ρ i (c x)=some (ρ.set i (some (c x)))) (K:∀ x,R k (ρ.set i (some (c x))) cO):R (aF (setG i f) k) ρ cO:=⟨(K a.v).v,bB a.D (K a.v).D,λhd=>by
 obtain⟨h1,h2⟩:=aC hd;rw[vJ (ρ':=ρ.set i (some (c a.v))) (by unfold setG;rw[a.ok h1,bnd,hc,bnd])];exact(K a.v).ok h2⟩
def Al (a:R f ρ (zE e)) (ρ2:α->Ev) (hg:∀ x,gt (e x) ρ=some (ρ2 x)) (K:∀ x,R k (ρ2 x) cO):R (aF (GD gt f) k) ρ cO:=⟨(K a.v).v,bB a.D (K a.v).D,λhd=>by
 obtain⟨h1,h2⟩:=aC hd;rw[vJ (ρ':=ρ2 a.v) (by unfold GD;rw[a.ok h1,bnd];simp only[hg,bnd])];exact(K a.v).ok h2⟩
def abG (i j:Nat) (a:R fa ρ (zE e)) (b:R fb ρ (zE e')) (K:∀ x y,R k ((ρ.set i (some (.z (e x)))).set j (some (.z (e' y)))) cO):R (aF (Z5 i j (aq fa (aq fb aD))) k) ρ cO:=⟨(K a.v b.v).v,bB (bB a.D b.D) (K a.v b.v).D,λhd=>by
 obtain⟨h1,h3⟩:=aC hd;obtain⟨h1,h2⟩:=aC h1;rw[vJ (ρ':=(ρ.set i (some (.z (e a.v)))).set j (some (.z (e' b.v)))) (by unfold Z5;simp only[aq,aD,a.ok h1,b.ok h2,bnd,ZF])];exact(K a.v b.v).ok h3⟩
def Am (i:Nat) (xs:List α) (hi:ρ[i]?=some (some (.o (xs.map e)))) (a:R f ρ (zE e)) (K:∀ ys:List α,R k (ρ.set i (some (.o (ys.map e)))) cO):R (aF (GF i f) k) ρ cO:=⟨(K (xs++[a.v])).v,bB (bB a.D (some (vH xs.length))) (K (xs++[a.v])).D,λhd=>by
 obtain⟨h1,h3⟩:=aC hd;obtain⟨h1,h2⟩:=aC h1;have h2:xs.length<=1000000:=h2;rw[vJ (ρ':=ρ.set i (some (.o ((xs++[a.v]).map e)))) (by
  unfold GF;rw[a.ok h1,bnd];simp only[ZG,hi,zg,List.map_append,zC,j0];rw[zr (Nat.lt_of_le_of_lt h2 (by decide))])]
 exact(K _).ok h3⟩
def jR (t:R p ρ tE) (a:R (aF g1 k) ρ cO) (b:R (aF g2 k) ρ cO):R (aF (wJ p g1 g2) k) ρ cO:=⟨if t.v=true then a.v else b.v,bB t.D (bB (yR (t.v=true) a.D) (yR (t.v=false) b.D)),λhd=>by
 obtain⟨h1,h2⟩:=aC hd;obtain⟨h2,h3⟩:=aC h2;have e1:∀ c,t.v=c->aF (wJ p g1 g2) k ρ=aF (if c=true then g1 else g2) k ρ:=λc hc=>by
  unfold aF wJ;rw[t.ok h1,bnd,hc];cases c<;>rfl
 cases hv:t.v with
 |true=>rw[e1 true hv];simp only[ZZ];exact a.ok (gQ h2 hv)
 |false=>rw[e1 false hv];simp only[zh,Zl];exact b.ok (gQ h3 hv)⟩
def Jd (E:σ->Ev) (t:R p ρ tE) (a:R g1 ρ (λs=>Out.nx (E s))) (b:R g2 ρ (λs=>Out.nx (E s))) (K:∀ s,R k (E s) cO):R (aF (wJ p g1 g2) k) ρ cO:=⟨(K (if t.v=true then a.v else b.v)).v,bB (bB t.D (bB (yR (t.v=true) a.D) (yR (t.v=false) b.D))) (K (if t.v=true then a.v else b.v)).D,λhd=>by
 obtain⟨h,h4⟩:=aC hd;obtain⟨h1,h2⟩:=aC h;obtain⟨h2,h3⟩:=aC h2;rw[vJ (ρ':=E (if t.v=true then a.v else b.v)) (by
  unfold wJ;rw[t.ok h1,bnd];cases hv:t.v with
  |true=>simp only[ZZ];exact a.ok (gQ h2 hv)
  |false=>simp only[zh,Zl];exact b.ok (gQ h3 hv))]
 exact(K _).ok h4⟩
def Bt (step:σ->α->σ) (P:σ->α->Option Prop):List α->σ->Prop
 |[],_=>True
 |x::xs,s=>hold (P s x)/\Bt step P xs (step s x)
theorem El {gb:Ev->Option Out} (E:σ->Ev) (ρ2:σ->α->Ev) (hg:∀ s x,gt (e x) (E s)=some (ρ2 s x)) (body:∀ s x,R gb (ρ2 s x) (λs=>Out.nx (E s))):∀ (xs:List α) (s:σ),Bt (λs x=>(body s x).v) (λs x=>(body s x).D) xs s->Bo gt gb (xs.map e) (E s)=some (.nx (E (xs.foldl (λs x=>(body s x).v) s)))
 |[],s,_=>rfl
 |x::xs,s,h=>by
  simp only[zC,Bo,hg,bnd,(body s x).ok h.1,JA];exact El E ρ2 hg body xs _ h.2
def Je (E:σ->Ev) (s0:σ) (hE:ρ=E s0) (it:R fi ρ (iE e)) (ρ2:σ->α->Ev) (hg:∀ s x,gt (e x) (E s)=some (ρ2 s x)) (body:∀ s x,R gb (ρ2 s x) (λs=>Out.nx (E s))) (K:∀ s,R k (E s) cO):R (aF (qO fi gt gb) k) ρ cO:=⟨(K (it.v.foldl (λs x=>(body s x).v) s0)).v,bB (bB it.D (some (Bt (λs x=>(body s x).v) (λs x=>(body s x).D) it.v s0))) (K (it.v.foldl (λs x=>(body s x).v) s0)).D,λhd=>by
 obtain⟨h,h4⟩:=aC hd;obtain⟨h1,h2⟩:=aC h;rw[vJ (ρ':=E (it.v.foldl (λs x=>(body s x).v) s0)) (by
  unfold qO;rw[it.ok h1,bnd];subst hE;exact El E ρ2 hg body it.v s0 h2)]
 exact(K _).ok h4⟩
def adA (E:σ->Ev) (s0:σ) (hE:ρ=E s0) (it:R fi ρ (iE e)) (ρ2:σ->α->Ev) (hg:∀ s x,gt (e x) (E s)=some (ρ2 s x)) (body:∀ s x,R gb (ρ2 s x) (λs=>Out.nx (E s))) (hb:∀ s x,(body s x).D=none) (K:∀ s,R k (E s) cO):R (aF (qO fi gt gb) k) ρ cO:=⟨(K (it.v.foldl (λs x=>(body s x).v) s0)).v,bB it.D (K (it.v.foldl (λs x=>(body s x).v) s0)).D,λhd=>by
 obtain⟨h1,h4⟩:=aC hd;have h2:∀ (xs:List α) (s:σ),Bt (λs x=>(body s x).v) (λs x=>(body s x).D) xs s:=λxs=>by
  induction xs with
  |nil=>intro s;trivial
  |cons x xs ih=>intro s;exact⟨by show hold (body s x).D;rw[hb s x];trivial,ih _⟩
 rw[vJ (ρ':=E (it.v.foldl (λs x=>(body s x).v) s0)) (by
  unfold qO;rw[it.ok h1,bnd];subst hE;exact El E ρ2 hg body it.v s0 (h2 _ _))]
 exact(K _).ok h4⟩
inductive Bu (σ τ:Type) where
 |nx (s:σ)|rt (r:τ)|bk (s:σ)|ct (s:σ)
def cC (E:σ->Ev) (c:τ->Bx):Bu σ τ->Out
 |.nx s=>.nx (E s)
 |.rt r=>.rt (c r)
 |.bk s=>.bk (E s)
 |.ct s=>.ct (E s)
def rM (step:σ->α->Bu σ τ):List α->σ->Bu σ τ
 |[],s=>.nx s
 |x::xs,s=>match step s x with
  |.nx s'=>rM step xs s'
  |.ct s'=>rM step xs s'
  |.bk s'=>.nx s'
  |.rt r=>.rt r
def Ao (step:σ->α->Bu σ τ) (P:σ->α->Option Prop):List α->σ->Prop
 |[],_=>True
 |x::xs,s=>hold (P s x)/\match step s x with
  |.nx s'=>Ao step P xs s'
  |.ct s'=>Ao step P xs s'
  |.bk _=>True
  |.rt _=>True
theorem Kl {c:τ->Bx} (E:σ->Ev) (ρ2:σ->α->Ev) (hg:∀ s x,gt (e x) (E s)=some (ρ2 s x)) (body:∀ s x,R gb (ρ2 s x) (cC E c)):∀ (xs:List α) (s:σ),Ao (λs x=>(body s x).v) (λs x=>(body s x).D) xs s->Bo gt gb (xs.map e) (E s)=some (cC E c (rM (λs x=>(body s x).v) xs s))
 |[],s,_=>rfl
 |x::xs,s,h=>by
  obtain⟨h1,h2⟩:=h;dsimp only at h2;simp only[zC,Bo,hg,bnd,(body s x).ok h1,rM]
  revert h2
  cases(body s x).v with
  |nx s'=>intro h2;exact Kl E ρ2 hg body xs s' h2
  |ct s'=>intro h2;exact Kl E ρ2 hg body xs s' h2
  |bk s'=>intro _;rfl
  |rt r=>intro _;rfl
theorem Em (step:σ->α->Bu σ τ):∀ (xs:List α) (s:σ),(∃ s',rM step xs s=.nx s')\/∃ r,rM step xs s=.rt r
 |[],s=>.inl ⟨s,rfl⟩
 |x::xs,s=>by
  unfold rM;cases step s x with
  |nx s'=>exact Em step xs s'
  |ct s'=>exact Em step xs s'
  |bk s'=>exact .inl ⟨s',rfl⟩
  |rt r=>exact .inr ⟨r,rfl⟩
def behind (r:Bu σ τ) (inj:τ->γ) (K:σ->γ):γ:=match r with
 |.rt r=>inj r
 |.nx s=>K s
 |.bk s=>K s
 |.ct s=>K s
def Km (r:Bu σ τ) (K:σ->Prop):Prop:=match r with
 |.rt _=>True
 |.nx s=>K s
 |.bk s=>K s
 |.ct s=>K s
def aaF (r:Bu σ τ) (K:σ->Option Prop):Option Prop:=some (Km r λs=>hold (K s))
def Xw {c:τ->Bx} (E:σ->Ev) (s0:σ) (hE:ρ=E s0) (it:R fi ρ (iE e)) (ρ2:σ->α->Ev) (hg:∀ s x,gt (e x) (E s)=some (ρ2 s x)) (body:∀ s x,R gb (ρ2 s x) (cC E c)) (inj:τ->γ) (hj:∀ r,cO (inj r)=.rt (c r)) (K:∀ s,R k (E s) cO):R (aF (qO fi gt gb) k) ρ cO:=⟨behind (rM (λs x=>(body s x).v) it.v s0) inj λs=>(K s).v,bB (bB it.D (some (Ao (λs x=>(body s x).v) (λs x=>(body s x).D) it.v s0))) (aaF (rM (λs x=>(body s x).v) it.v s0) λs=>(K s).D),λhd=>by
 obtain⟨h,h4⟩:=aC hd;obtain⟨h1,h2⟩:=aC h;have e1:qO fi gt gb ρ=some (cC E c (rM (λs x=>(body s x).v) it.v s0)):=by
  unfold qO;rw[it.ok h1,bnd];subst hE;exact Kl E ρ2 hg body it.v s0 h2
 rcases Em (λs x=>(body s x).v) it.v s0 with⟨s',es⟩|⟨r,es⟩
 ·rw[es] at e1 h4 ⊢;rw[vJ e1];exact(K s').ok h4
 ·rw[es] at e1 ⊢;show aF (qO fi gt gb) k ρ=some (cO (inj r));unfold aF;rw[e1,hj];rfl⟩
class Ky {κ:Type} (c:κ->Key):Prop where
 inj:∀ a b,c a=c b->a=b
abbrev kS:Str->Key:=Sum.inr
abbrev kI:Int->Key:=Sum.inl
instance:Ky kS:=⟨λ_ _ h=>by cases h;rfl⟩
instance:Ky kI:=⟨λ_ _ h=>by cases h;rfl⟩
section
variable [DecidableEq κ] {c:κ->Key}
def has (m:List (κ×α)) (x:κ):Bool:=m.any λq=>decide (q.1=x)
def put (m:List (κ×α)) (x:κ) (a:α):List (κ×α):=if has m x=true then m.map (λq=>if q.1=x then(q.1,a) else q) else m++[(x,a)]
end
end
section
variable {fs:Ev->Option LS_} {e:α->Dt}
theorem aaG (h:uJ b=some ds):wG b=some ds:=by
 cases b with
 |z d=>cases d<;>first|exact h|(cases h;done)
 |l _=>exact h
 |o _=>exact h
 |n _=>cases h
 |m _ _=>cases h
end
end P1
namespace P1
open L2 S1 S6
class pZ {α:Type} (e:α->Dt) where
 k:α->Key
 ok:∀ a,adi (e a)=some (k a)
 inj:∀ a b,k a=k b->a=b
 same:∀ a b,M5 (k a) (k b)=true
instance:pZ eI:=⟨λi=>.inl i,λ_=>rfl,λa b h=>by cases h;rfl,λ_ _=>rfl⟩
instance:pZ eS:=⟨λi=>.inr i,λ_=>rfl,λa b h=>by cases h;rfl,λ_ _=>rfl⟩
class j6 {α:Type} (e:α->Dt) where
 k:α->List Key
 ok:∀ a,Ai (e a)=some (k a)
 inj:∀ a b,k a=k b->a=b
 shp:∀ a b,M7 (k a) (k b)=true
 ne:∀ a,(k a).isEmpty=false
class Xx {α:Type} (e:α->Dt) [j6 e]:Prop where
 tx:∀ a,Nv (j6.k e a)=true
section
variable {e:α->Dt} {e':β->Dt} {e'':γ->Dt} {e3:δ->Dt}
instance [pZ e] [pZ e']:j6 (eP2 e e'):=⟨λq=>[pZ.k e q.1,pZ.k e' q.2],λq=>by simp only[Ai,Ir,pZ.ok,bnd],λa b h=>by
 simp only[ke,and_true] at h;exact Prod.ext (pZ.inj _ _ h.1) (pZ.inj _ _ h.2),λa b=>by simp[M7,pZ.same],λ_=>rfl⟩
instance [pZ e] [pZ e'] [pZ e'']:j6 (eP3 e e' e''):=⟨λq=>[pZ.k e q.1,pZ.k e' q.2.1,pZ.k e'' q.2.2],λq=>by simp only[Ai,Ir,pZ.ok,bnd],λa b h=>by
 simp only[ke,and_true] at h;exact Prod.ext (pZ.inj _ _ h.1) (Prod.ext (pZ.inj _ _ h.2.1) (pZ.inj _ _ h.2.2)),λa b=>by simp[M7,pZ.same],λ_=>rfl⟩
instance [pZ e] [pZ e'] [pZ e''] [pZ e3]:j6 (eP4 e e' e'' e3):=⟨λq=>[pZ.k e q.1,pZ.k e' q.2.1,pZ.k e'' q.2.2.1,pZ.k e3 q.2.2.2],λq=>by simp only[Ai,Ir,pZ.ok,bnd],λa b h=>by
 simp only[ke,and_true] at h;exact Prod.ext (pZ.inj _ _ h.1) (Prod.ext (pZ.inj _ _ h.2.1) (Prod.ext (pZ.inj _ _ h.2.2.1) (pZ.inj _ _ h.2.2.2))),λa b=>by simp[M7,pZ.same],λ_=>rfl⟩
instance [pZ e]:Xx (eP2 e eS):=⟨λa=>by simp[j6.k,Nv,pZ.k]⟩
instance [pZ e] [pZ e']:Xx (eP3 e eS e'):=⟨λa=>by simp[j6.k,Nv,pZ.k]⟩
instance [pZ e] [pZ e'] [pZ e'']:Xx (eP4 e eS e' e''):=⟨λa=>by simp[j6.k,Nv,pZ.k]⟩
variable {fs:Ev->Option (List (List Key))}
theorem Eo [j6 e]:∀ xs:List α,zO (xs.map e)=some (xs.map (j6.k e))
 |[]=>rfl
 |x::xs=>by simp only[zC,zO,j6.ok,bnd,Eo xs]
def leT (e:α->Dt) [j6 e] (a b:α):Bool:=wH (j6.k e a) (j6.k e b)
def Jf (e:α->Dt) [j6 e] (a b:α):Bool:=gk (j6.k e a) (j6.k e b)
def kJ (e:α->Dt) [j6 e] (xs:List α):List α:=xs.mergeSort (leT e)
theorem eU [j6 e] (xs:List α):(kJ e xs).Perm xs:=List.mergeSort_perm ..
theorem Ep [j6 e] (xs:List α):(kJ e xs).Pairwise (λa b=>leT e a b=true):=KL (le:=leT e) (λa b c=>Dz (j6.k e a) (j6.k e b) (j6.k e c)) (λa b=>DG (j6.k e a) (j6.k e b)) xs
theorem U8 [j6 e] (xs:List α):nY (xs.map (j6.k e))=(kJ e xs).map (j6.k e):=by
 refine(vX ((eU xs).map _) (List.pairwise_map.mpr (Ep xs))).symm
theorem adB [j6 e] (xs:List α):(xs.map (j6.k e)).map tupK=xs.map e:=by
 rw[Qb];exact kb λa _=>(rH (j6.ok a)).symm
theorem Xy [j6 e] (xs:List α) (h:xs.length < 64):M8 (xs.map (j6.k e))=true:=by
 simp only[M8,ZE,qE,qf,Q4,zg,List.mem_map,forall_exists_index,and_imp,forall_apply_eq_imp_iff₂];exact⟨h,λa _=>j6.ne a,λa _ b _=>j6.shp a b⟩
abbrev uE (e:α->Dt) [j6 e]:List α->List (List Key):=λxs=>xs.map (j6.k e)
def Ko [j6 e] [Xx e] (a:RL fa ρ e):R (Ka fa) ρ (uE e):=⟨a.v,bB a.D (some (a.v.length<=64)),λh=>by
 obtain⟨h,h4⟩:=aC h;have h4:a.v.length<=64:=h4;have ht:(a.v.map (j6.k e)).all Nv=true:=by
  rw[List.all_map,qf];exact λx _=>Xx.tx x
 simp only[Ka,a.ok h,bnd,aby,aaG a.lk,Eo];rw[zr ⟨by rw[zg];exact h4,ht⟩]⟩
def Kq [DecidableEq α] [j6 e] (a:R fs ρ (uE e)):R (yQ fs) ρ (oE e):=⟨kJ e (wM a.v),bB a.D (some (a.v.length < 64)),λh=>by
 obtain⟨h,h4⟩:=aC h;simp only[yQ,a.ok h,bnd,Xy a.v h4,ZZ,J9 j6.inj,U8,adB]⟩
end
end P1
namespace P1
open L2
section
variable {fd:Ev->Option Bx} {fs:Ev->Option (List Bx)} {e:α->Dt} {e':β->Dt} {k:Ev->Option Out} {cO:γ->Out}
end
section
variable {e:α->Dt}
end
end P1
namespace P1
open L2 S1 S6
section
variable {e:α->Dt}
theorem map_some (e:α->Dt) (xs:List α):(xs.map some).map (eO e)=xs.map e:=by rw[Qb];rfl
end
end P1
namespace P1
open L2
section
variable {k:Ev->Option Out} {cO:α->Out}
end
section
variable {e:α->Dt}
end
section
variable {σ τ:Type} {k:Ev->Option Out} {cO:γ->Out}
end
section
variable {e:α->Dt}
end
section
variable {σ τ:Type}
theorem Cz {step:σ->α->σ} {P:σ->α->Option Prop} (I:Nat->σ->Prop):∀ (xs:List α) (m:Nat) (s0:σ),I m s0->(∀ k x s,xs[k]?=some x->I (m+k) s->hold (P s x)/\I (m+k+1) (step s x))->Bt step P xs s0/\I (m+xs.length) (xs.foldl step s0)
 |[],m,s0,h0,_=>⟨trivial,h0⟩
 |x::xs,m,s0,h0,hs=>by
  obtain⟨h1,h2⟩:=hs 0 x s0 rfl h0;have:=Cz I xs (m+1) (step s0 x) h2 λk y s e h=>by
   have:=hs (k+1) y s (by simpa using e) (by rw[show m+(k+1)=m+1+k by omega];exact h);rw[show m+(k+1)+1=m+1+k+1 by omega] at this;exact this
  refine⟨⟨h1,this.1⟩,?_⟩;rw[ZN,show m+(xs.length+1)=m+1+xs.length by omega];exact this.2
theorem aaH {i:Int} {x:Int} (h:(rng i n)[k]?=some x):x=i+k/\k < n:=by
 unfold rng at h;rw[ZA] at h;cases hk:(List.range n)[k]? with
 |none=>rw[hk] at h;cases h
 |some j=>
  rw[hk] at h;have hl:k < n:=by simpa using(List.getElem?_eq_some_iff.mp hk).1
  have:j=k:=by
   rw[kL hl] at hk;cases hk;rfl
  subst this;cases h;exact⟨rfl,hl⟩
theorem mJ (i:Int) (n:Nat):(rng i n).length=n:=by unfold rng;simp
theorem yS {step:σ->Int->σ} {P:σ->Int->Option Prop} (I:Nat->σ->Prop) (n:Nat) (s0:σ) (h0:I 0 s0) (hs:∀ (k:Nat) s,k < n->I k s->hold (P s k)/\I (k+1) (step s k)):Bt step P (rng 0 n) s0/\I n ((rng 0 n).foldl step s0):=by
 have:=Cz (P:=P) I (rng 0 n) 0 s0 h0 λk x s e h=>by
  obtain⟨rfl,hk⟩:=aaH e;rw[kN] at h ⊢;rw[Int.zero_add];exact hs k s hk h
 rw[mJ,kN] at this;exact this
theorem NT {step:Unit->α->Bu Unit Bool} {P:Unit->α->Option Prop}:∀ xs:List α,(∀ x∈xs,hold (P () x)/\(step () x=.nx ()\/step () x=.ct ()))->rM step xs ()=.nx ()/\Ao step P xs ()
 |[],_=>⟨rfl,trivial⟩
 |x::xs,h=>by
  obtain⟨h1,h2⟩:=h x (zk ..);have ih:=NT (P:=P) xs λy hy=>h y (zo _ hy);rcases h2 with h2|h2
  ·exact⟨by unfold rM;rw[h2];exact ih.1,h1,by rw[h2];exact ih.2⟩
  ·exact⟨by unfold rM;rw[h2];exact ih.1,h1,by rw[h2];exact ih.2⟩
theorem sW [Inhabited α] {xs:List α} {i:Int} (h:In xs.length i):at' xs i∈xs:=by
 obtain⟨x,hx⟩:=wj h;unfold at';rw[hx];unfold Bj at hx;obtain⟨j,_,hx⟩:=bind_some hx;exact qv hx
theorem adC [Inhabited α] {xs:List α} {x:α} (h:xs[k]?=some x):at' xs (k:Int)=x:=by
 have hl:k < xs.length:=(List.getElem?_eq_some_iff.mp h).1;unfold at' Bj ixN;rw[zr (by omega),zr (by omega),bnd,km,h];rfl
theorem sX [Inhabited α] (xs:List α) (k:Nat) (h:k < xs.length):at' xs (k:Int)=xs[k]:=adC (zI h)
theorem in_of {i:Int} (h0:0<=i) (h1:i < n):In n i:=⟨by omega,h1⟩
theorem qQ (h:k < n):In n (k:Int):=⟨by omega,by omega⟩
theorem sY {x m:Int} (hm:0 < m) (h:m<=n):In n (x % m):=in_of (Int.emod_nonneg _ (by omega)) (Int.lt_of_lt_of_le (Int.emod_lt_of_pos _ hm) h)
theorem iD (x:Int) {m:Int} (hm:0 < m):0<=x % m/\x % m < m:=⟨Int.emod_nonneg _ (by omega),Int.emod_lt_of_pos _ hm⟩
theorem Er {j:Int} (h0:0<=j) (h1:j<=1000000):Rg j:=⟨by omega,by omega⟩
theorem abH {a b:Int} (h0:0<=a) (h1:a < 18446744073709551616):Mul a b:=.inl ⟨by omega,h1⟩
theorem NZ {xs:List α} (h:k<=xs.length):cut xs (some (k:Int)) none=xs.drop k:=by
 unfold cut;rw[HT.Zg,HT.V0,Nat.min_eq_left h,kn (by simp)]
theorem aV (x y:Str):(x++y).length=x.length+y.length:=by
 show(x.cps++y.cps).size=_;rw[Kb];rfl
theorem Es (x:Str) (i:Int):(ch x i).length=1:=rfl
theorem slice_le (x:Str) (l u:Option Int):(Txt.slice x l u).length<=x.length:=PyProof.Txt.length_slice_le x l u
theorem Jg (x:Str):(chars x).length=x.length:=by unfold chars;rw[zg,ZY];rfl
theorem U9 (x:Str):(signs x).length=x.length:=by rw[NQ,zg,Jg]
end
section
variable [Inhabited α] {e:α->Dt} {k:Ev->Option Out} {cO:γ->Out}
end
section
variable {e:α->Dt} {k:Ev->Option Out} {cO:γ->Out}
end
section
variable {e:α->Dt} {k:Ev->Option Out} {cO:γ->Out}
def Kr [Inhabited γ]:R (aF noG k) ρ cO:=⟨default,some False,λh=>absurd h id⟩
end
section
variable {e:α->Dt}
end
section
variable {e:α->Dt} {e':β->Dt}
def QX {e3:γ->Dt} (a:R fa ρ (zE e)) (b:R fb ρ (zE e')) (g:α->β->γ) (h:∀ x y,dD (.z (e x)) (.z (e' y))=some (.z (e3 (g x y)))):R (b2 dD fa fb) ρ (zE e3):=⟨g a.v b.v,bB a.D b.D,λhd=>by
 obtain⟨h1,h2⟩:=aC hd;simp only[b2,a.ok h1,b.ok h2,bnd,zE,h]⟩
end
def RP (f:Ev->Option β) (ρ:Ev) (c:α->β) (v:α) (D:Option Prop):Prop:=hold D->f ρ=some (c v)
theorem R.tp {f:Ev->Option β} {c:α->β} {v':α} {D':Option Prop} (x:R f ρ c) (hv:x.v=v':=by kernel_rfl) (hD:x.D=D':=by kernel_rfl):RP f ρ c v' D':=λh=>by
 subst hv hD;exact x.ok h
def RP.r {f:Ev->Option β} {c:α->β} {v:α} {D:Option Prop} (h:RP f ρ c v D):R f ρ c:=⟨v,D,h⟩
theorem len1 {p:List α->Prop} (h:∀ a,p [a]):∀ us:List α,us.length=1->p us
 |[a],_=>h a
theorem len2 {p:List α->Prop} (h:∀ a b,p [a,b]):∀ us:List α,us.length=2->p us
 |[a,b],_=>h a b
theorem ahs {p:List α->Prop} (h:∀ a b c,p [a,b,c]):∀ us:List α,us.length=3->p us
 |[a,b,c],_=>h a b c
theorem aht {p:List α->Prop} (h:∀ a b c d,p [a,b,c,d]):∀ us:List α,us.length=4->p us
 |[a,b,c,d],_=>h a b c d
theorem ahu {p:List α->Prop} (h:∀ a b c d e,p [a,b,c,d,e]):∀ us:List α,us.length=5->p us
 |[a,b,c,d,e],_=>h a b c d e
end P1
namespace P1
open L2 S1
end P1
namespace P1
open L2
section
variable {fs:Ev->Option (List Bx)} {g1 g2:Ev->Option Out}
end
section
variable {rest:List Stmt} {g1 g2:Ev->Option Out}
end
section
variable {ks:List V} {o:Obj}
end
section
variable {M0 M1 M2 er:Expr} {f0 f2:Ev->Option Bx} {d0 d2:Dt} {z0 z1 z2 z3:Pos}
end
section
variable {st:List Stmt} {fr:Ev->Option Bx} {i':Nat} {W:List Nat} {c:Expr} {z:Pos}
end
section
variable {a b c g1 g2:Ev->Option Out}
end
end P1
namespace P1
open L2 S6
section
variable {kx vx t1 i1 t2 i2:Expr} {f1 f2:List Expr} {xs:LS_} {g1 g2:Dt->Ev->Option Ev} {p1 p2:Ev->Option Bool} {fi1 fi2:Ev->Option (List Dt)} {fs:Ev->Option (List Dt)} {N:Nat}
def cls2 (fi:Ev->Option (List Dt)) (gt:Dt->Ev->Option Ev) (p:Ev->Option Bool) (fs:Ev->Option (List Dt)) (is:List Nat) (n:Nat):Ev->Option (List Dt):=λρ=>(fi ρ).bind λds=>Bp gt p fs (pF is ρ++List.replicate n none) ds
end
end P1
namespace P1
open L2
section
variable {e:α->Dt} {e':β->Dt} {fs:Ev->Option (List Dt)}
end
def hx (h:Heap) (a:Addr):HO:=.ext λh'=>h'.get? a=h.get? a
section
variable {H2:Hp} {as:List Addr}
end
section
variable {D:Addr} {gs:List (Int×Addr×List Dt)} {k:Int} {x:Dt} {u:V}
end
section
variable {e1 e2 c ev:Expr} {f2:Ev->Option Bx} {w:Str} {pw py py2 py3 px p1 p3 p4 pl a1 a2 c1 c2:Pos}
end
end P1
namespace P1
open L2 S6
section
variable {kx vx t1 i1 t2 i2:Expr} {f1 f2:List Expr} {xs:LS_} {g1 g2:Dt->Ev->Option Ev} {p1 p2:Ev->Option Bool} {fi1 fi2:Ev->Option (List Dt)}
end
end P1
namespace P1
open L2
section
variable {e:α->Dt} {e0:β->Dt} {fd f2:Ev->Option Bx} {kk:Ev->Option Out} {cO:γ->Out}
end
section
variable {e:α->Dt} {fs:Ev->Option (List Dt)}
end
section
variable {a:Expr}
def Xz (fa:Ev->Option Bx):Ev->Option Bx:=λρ=>((fa ρ).bind Qh).bind λc=>some (.z (.bl (!c)))
theorem S5 (ha:QV X a fa):QV X (.UnaryOp .Not a pos) (Xz fa):=⟨λpins s σ H Q I h=>by
 obtain⟨H0,ρ,k,E,e,w⟩:=h;obtain⟨c,ec,e⟩:=bind_some e;obtain⟨x,ex,ec⟩:=bind_some ec;cases e;refine UnaryOp_ (jq (ha.run pins s σ H (λv H1=>Same H H1/\bh X.K H1 x v) I ⟨H0,ρ,x,E,ex,λv H1 s1 _ r1=>⟨s1,r1⟩⟩) λv s1 ⟨x',H1,I1,r1,s1',q1⟩=>?_);exact not_of (jq (VL pins s1 σ H1 x' v (λk H2=>k=c/\H2=H1) I1 r1 ⟨c,RN q1 ec,rfl,rfl⟩) λk s2 h2=>by
  obtain⟨H2,I2,rfl,rfl⟩:=h2;exact⟨.bl (!k),H2,I2,rfl,w _ H2 s1' trivial (by simp only[bh,Rep])⟩)⟩
end
theorem bL {bs:List Bx} {c:α->Bx} {v:α} {D:Option Prop} (x:RP g (bs.map some++List.replicate (n - bs.length) none) (λr=>Out.rt (c r)) v D) (h:hold D):dj n g bs=some (c v):=adz x.r h
section
variable {e:α->Dt}
def XC (a:RL fa ρ e):R (Xz fa) ρ (zE eB):=⟨a.v.isEmpty,a.D,λh=>by
 have h1:=(SJ a).ok h;unfold tV at h1;unfold Xz;rw[h1];simp[SJ,bnd]⟩
end
open PySem.Builtin PySem.Builtin.Str
section
theorem XD:MtR X "str.split" (λx xs H Q=>∃ y z,x=.str y/\xs=[.str z]/\(z.length==0)=false/\y.length<=100000/\∀ l H',Same H H'->H l=none->H' l=some (.lst ((Txt.split y z).map V.str))->Q (.ref l) H'):=by
 intro pins s σ H x xs v us Q I rx rs h;obtain⟨y,z,rfl,rfl,hz,hy,q⟩:=h;obtain⟨t,rfl⟩:=rx;obtain⟨u,rfl,ru⟩:=vals1 rs;obtain⟨t2,rfl⟩:=ru;have sl:(100002:Nat)<=sizeLine:=by decide
 have hl:=split_le y z;have fin:∀ (l:List (Str×Tok)) (tk:Nat),l.map (·.1)=Txt.split y z->EP X pins σ Q (.ref s.heap.objs.size) { s with toks:=tk,heap:=s.heap.push { cls:=.type "list", data:=.seq (strValues l).toArray } }:=λl tk e=>by
  have I2:Inv X pins σ (upd H s.heap.objs.size (.lst ((Txt.split y z).map V.str))) { s with toks:=tk,heap:=s.heap.push { cls:=.type "list", data:=.seq (strValues l).toArray } }:=
   I.laid (t':=tk) (λb o e=>ze _ e) (zi _) (show jP X.prog X.w _ _ _ (.lst _) from⟨by rw[zg];omega,strValues l,0,zM (by rw[<-e];exact strsAre_of_values l),zv _ rfl⟩)
  have hfr:=I.hok.fresh (zi _);exact⟨.ref s.heap.objs.size,_,I2,rfl,q _ _ (cF hfr) hfr cL⟩
 cases h1:(decide (y.length < z.length)||decide (strKind y < strKind z))
 ·cases hf:(occurrences y z 0 y.length (y.length+1)).isEmpty
  ·have e:Txt.split y z=partsBetween y (occurrences y z 0 y.length (y.length+1)) z.length:=(zz (ne_true_of_eq_false h1)).trans (zz (ne_true_of_eq_false hf));refine call_meets KF (typeIs_str _ _ _) F.entry_str_split (F.args_str_split_2 _ _) (meets_str_split_sep y z t t2 h1 hz hf (by omega) (by rw[<-e];omega)) ?_;show EP X pins σ Q _ { s with toks:=_,heap:=s.heap.push { cls:=.type "list", data:=.seq (strsFrom s.toks (partsBetween y (occurrences y z 0 y.length (y.length+1)) z.length)).toArray } };rw[strsFrom_eq];exact fin _ _ ((numbered_texts _ _).trans e.symm)
  ·exact call_meets KF (typeIs_str _ _ _) F.entry_str_split (F.args_str_split_2 _ _) (meets_str_split_not_found y z t t2 h1 hz hf) (fin [(y,t)] s.toks ((zz (ne_true_of_eq_false h1)).trans (zr hf)).symm)
 ·exact call_meets KF (typeIs_str _ _ _) F.entry_str_split (F.args_str_split_2 _ _) (meets_str_split_cannot_occur y z t t2 h1) (fin [(y,t)] s.toks (zr h1).symm)
def GZ:Bx->Bx->Option Bx
 |.z (.str y),.z (.str z)=>if(z.length==0)=false/\y.length<=100000 then some (.o ((Txt.split y z).map Dt.str)) else none
 |_,_=>none
variable {o:Expr} {fx:Ev->Option Bx}
theorem rN (ho:QV X o fo) (hx:QV X e fx) (hbase:attributeBase o "split" X.env (eval o X.env)=eval o X.env:=by rfl) (hfew:((backTo cpos (starEach [e] X.env)).all (λx=>!x.1)&&(backToKw cpos (keywordEach [] X.env)).all (λx=>x.1.isSome)&&decide ([e].length+([]:List Keyword).length+(if([]:List Keyword).isEmpty then 0 else 1) < 30))=true:=by rfl) (hline:(apos.endLine==cpos.line)=true:=by rfl) (hs:starEach [e] X.env=(false,eval e X.env)::starEach [] X.env:=by rfl):QV X (.Call (.Attribute o "split" apos) [e] [] cpos) (b2 GZ fo fx):=
 ⟨Bl (V4 (T := "str") F.plainAttrs_str KF F.type_str_split XD ho.run (Dh hx.run JC hs) hbase hfew hline hs rfl) λσ H Q q=>by
  obtain⟨H0,ρ,c,E,e,q⟩:=q;obtain⟨a,ea,e⟩:=bind_some e;obtain⟨b,eb,e⟩:=bind_some e;unfold GZ at e;split at e
  ·rename_i y z _;split at e
   ·rename_i hb;cases e;refine⟨H0,ρ,_,E,ea,λv H1 s1 n1 r1=>?_⟩;obtain⟨rfl,hy⟩:=Mz r1;refine⟨rfl,H0,ρ,[_],E.grow s1,by simp only[aq,eb,Kx];rfl,λvs H2 s2 r2=>?_⟩;obtain⟨w,rfl,rw1⟩:=rep1 r2;obtain⟨rfl,hz⟩:=Mz rw1;refine⟨y,z,rfl,rfl,hb.1,hb.2,λl H3 s3 n3 e3=>q _ _ ((s1.trans s2).trans s3) (λa ea=>by cases ea;exact(s1.trans s2).free n3) ⟨l,_,rfl,e3,Dw λp hp=>zD (part_short hp) hy⟩⟩
   ·cases e
  ·cases e⟩
def txB:Bx->Option Str
 |.z (.str x)=>some x
 |_=>none
theorem XF (h:txB b=some x):b=.z (.str x):=by
 unfold txB at h;split at h
 ·cases h;rfl
 ·cases h
def aaI:Ev->Option Str:=λ_=>some Str.empty
def kO (f:Ev->Option Bx) (g:Ev->Option Str):Ev->Option Str:=λρ=>(f ρ).bind λb=>(txB b).bind λx=>(g ρ).bind λt=>some (x++t)
def N5 (g:Ev->Option Str):Ev->Option Bx:=λρ=>(g ρ).bind λt=>if t.length<=100000 then some (.z (.str t)) else none
structure QJ (X:Cx) (es:List Expr) (f:Ev->Option Str):Prop where
 run:∀ (acc:Str) (pins:List (Addr×Obj)) (s:Shared) (σ:L2.St) (H:Hp) (Q:VK),Inv X pins σ H s->(∃ H0 ρ t,bV X.K H0 H σ ρ/\f ρ=some t/\(acc++t).length<=sizeLine/\∀ H',Same H H'->Q (.str (acc++t)) H') →
  wpAny (model X.prog X.w) X.A (joinParts acc (evalEach es X.env)) (EP X pins σ Q) X.xe s
theorem XH:QJ X [] aaI:=⟨λacc pins s σ H Q I h=>by
 obtain⟨H0,ρ,t,E,e,hl,q⟩:=h;cases e;rw[Str.append_empty] at hl q;exact joinParts_nil ⟨.str acc,H,I.tok _,⟨_,rfl⟩,q H (Same.refl H)⟩ hl⟩
theorem jK {g:Ev->Option Str} (h1:QV X e fx) (h2:QJ X es g):QJ X (e::es) (kO fx g):=⟨λacc pins s σ H Q I h=>by
 obtain⟨H0,ρ,t,E,e,hl,q⟩:=h;obtain⟨b,eb,e⟩:=bind_some e;obtain⟨x,ex,e⟩:=bind_some e;obtain⟨t',et,e⟩:=bind_some e;cases e;have hb:=XF ex;subst hb;rw[<-Str.append_assoc] at hl q;have hl2:(acc++x).length<=sizeLine:=by rw[strLen_append] at hl;omega
 refine joinParts_cons (qo (h1.run pins s σ H (λv H'=>Same H H'/\v=.str x) I ⟨H0,ρ,_,E,eb,λv H' s' n' r'=>⟨s',(Mz r').1⟩⟩) (λv s1 hq=>?_) λ_ _ z=>z);obtain⟨w,H1,I1,r1,s1',rfl⟩:=hq;obtain⟨tk,rfl⟩:=r1;exact⟨hl2,h2.run (acc++x) pins s1 σ H1 Q I1 ⟨H0,ρ,t',E.grow s1',et,hl,λH2 s2=>q H2 (s1'.trans s2)⟩⟩⟩
theorem S7 {e1 e2:Expr} {g:Ev->Option Str} (h:QJ X (e1::e2::es) g):QV X (.JoinedStr (e1::e2::es) pos) (N5 g):=⟨λpins s σ H Q I q=>by
 obtain⟨H0,ρ,b,E,e,q⟩:=q;obtain⟨t,et,e⟩:=bind_some e;split at e
 ·rename_i hl;cases e;have sl:(100000:Nat)<=sizeLine:=by decide
  refine JoinedStr_many (h.run Str.empty pins s σ H Q I ⟨H0,ρ,t,E,et,by rw[Str.empty_append];omega,λH' s'=>by rw[Str.empty_append];exact q _ H' s' trivial (by unfold bh Rep;exact⟨rfl,by omega⟩)⟩)
 ·cases e⟩
def hoF (f:Ev->Option Bx):Ev->Option Bx:=λρ=>(f ρ).bind λb=>(txB b).bind λx=>some (.z (.str x))
theorem CG {v:Expr} (h:QV X v fx):QV X (.FormattedValue v (-1) none pos) (hoF fx):=⟨λpins s σ H Q I q=>by
 obtain⟨H0,ρ,b,E,e,q⟩:=q;obtain⟨b',eb,e⟩:=bind_some e;obtain⟨x,ex,e⟩:=bind_some e;cases e;have hb:=XF ex;subst hb;refine FormattedValue_plain (qo (h.run pins s σ H (λv H'=>Same H H'/\bh X.K H' (.z (.str x)) v) I ⟨H0,ρ,_,E,eb,λv H' s' n' r'=>⟨s',r'⟩⟩) (λv s1 hq=>?_) λ_ _ z=>z);obtain⟨w,H1,I1,r1,s1',rb⟩:=hq;obtain⟨rfl,hx⟩:=Mz rb;obtain⟨tk,rfl⟩:=r1;exact formatField_str (λt' k=>⟨.str x,H1,I1.tok _,⟨_,rfl⟩,q _ H1 s1' trivial rb⟩) hx⟩
end
section
variable {g:Ev->Option Str}
def wz (a:R fa ρ (zE eS)) (b:R fb ρ (zE eS)):R (b2 GZ fa fb) ρ (oE eS):=⟨Txt.split a.v b.v,bB (bB a.D b.D) (some ((b.v.length==0)=false/\a.v.length<=100000)),λh=>by
 obtain⟨h,h3⟩:=aC h;obtain⟨h1,h2⟩:=aC h;simp only[b2,a.ok h1,b.ok h2,bnd,GZ,zE,eS];exact zr h3⟩
def abI:R aaI ρ (λt:Str=>t):=⟨Str.empty,none,λ_=>rfl⟩
def N6 (c:Str) (b:R g ρ (λt:Str=>t)):R (kO (cB (.str c)) g) ρ (λt:Str=>t):=⟨c++b.v,b.D,λh=>by
 simp only[kO,cB,bnd,txB,b.ok h]⟩
def S8 (a:R fa ρ (zE eS)) (b:R g ρ (λt:Str=>t)):R (kO (hoF fa) g) ρ (λt:Str=>t):=⟨a.v++b.v,bB a.D b.D,λh=>by
 obtain⟨h1,h2⟩:=aC h;simp only[kO,hoF,a.ok h1,bnd,txB,zE,eS,b.ok h2]⟩
def XJ (b:R g ρ (λt:Str=>t)):R (N5 g) ρ (zE eS):=⟨b.v,bB b.D (some (b.v.length<=100000)),λh=>by
 obtain⟨h1,h2⟩:=aC h;simp only[N5,b.ok h1,bnd,zE,eS];exact zr h2⟩
end
section
variable {e1 e2 e3 c:Expr} {gr:Ev->Option Out} {fx:Ev->Option Dt} {tR tQ:TS} {xr xj y1 y2:Str} {rest no:List Stmt} {kk:Nat} {p0 p00 p01 p02 q1 q2 pt pj pa px pb pif pf2 px3 a1 c1 pe1 pr a2 pj2 c2 pe2:Pos}
end
section
variable {e:α->Dt} {ea:β->Dt} {eb:δ->Dt} {kk:Ev->Option Out} {cO:γ->Out}
end
end P1
namespace P1
open L2 S1
theorem aaJ {x y:Key} {p q:Value} {Q:VP_} (hs:M5 x y=true) (hp:j7 x p=true) (hq:j7 y q=true) (h:Q (.bool (R9 x y)) s):wpAny (model prog w) A (compareOp .Lt p q) Q E s:=by
 rcases bI hp with⟨i,t,rfl,rfl⟩|⟨z,t,rfl,rfl⟩
 ·rcases bI hq with⟨j,u,rfl,rfl⟩|⟨z,u,rfl,rfl⟩
  ·exact lt_int h
  ·cases hs
 ·rcases bI hq with⟨j,u,rfl,rfl⟩|⟨z',u,rfl,rfl⟩
  ·cases hs
  ·exact PySem.P.lt_str h
theorem XM {ls:List Key} {b:Addr} {jts:List Value} {Q:VP_} (ha:pC s.heap a its.toArray) (hb:pC s.heap b jts.toArray) (hk:Ks ks its) (hl:Ks ls jts) (hs:WM ks ls) (hu:A.units < cLine) (h:Q (.bool (gk ks ls)) s):wpAny (model prog w) A (compareOp .Lt (.ref a) (.ref b)) Q E s:=by
 obtain⟨oa,ea,ca,⟨na,da⟩,_⟩:=ha;obtain⟨ob,eb,cb,⟨nb,db⟩,_⟩:=hb;show wpAny _ _ (richCompare .Lt (.ref a) (.ref b)) _ _ _;refine wpAny_richCompare_same_room ⟨oa,ea,ca⟩ ⟨ob,eb,cb⟩ F.slot_tuple_lt (QI F.slot_tuple_lt ⟨oa,ea,ca⟩ F.entry_tuple_lt ?_ (F.args_tuple_lt_2 _ _)) hu;show wpAny _ _ (isInstance (.ref b) (.type "tuple") >>= _) _ _ s;refine zb (Q2 ⟨ob,eb,cb⟩ isSubtype_tuple_tuple ?_);simp only[QY,zh,Zl];refine zb (wpAny_tupleItemsOf ea da ?_);refine zb (wpAny_tupleItemsOf eb db ?_);refine zb ?_;refine Kt _
  (λrest r s'=>r.1=none/\s'=s/\∃ x' y' xs' ys',rest=List.zip xs' ys'/\Ks x' xs'/\Ks y' ys'/\WM x' y'/\gk x' y'=gk ks ls/\(xs'.length < ys'.length↔its.length < jts.length))
  _ ?_ ?_ _ _ ⟨rfl,rfl,ks,ls,its,jts,by simp,hk,hl,hs,rfl,Iff.rfl⟩
 ·rintro⟨u,v⟩ rest r s' ⟨hr,rfl,x',y',xs',ys',hz,hx',hy',hsh,hdec,hlen⟩;cases hx' with
  |nil=>simp at hz
  |@cons k1 u' x'' xs'' h1 hx''=>
   cases hy' with
   |nil=>simp at hz
   |@cons k2 v' y'' ys'' h2 hy''=>
    simp only[kT,ke,Prod.mk.injEq] at hz;obtain⟨⟨rfl,rfl⟩,rfl⟩:=hz;refine zb (key_eq h1 h2 ?_);simp only[gk] at hdec;by_cases e:k1=k2
    ·rw[zr e] at hdec;rw[zS e];simp only[QY,zh,Zl];exact zd ⟨rfl,rfl,x'',y'',xs'',ys'',rfl,hx'',hy'',hsh.2,hdec,by simpa using hlen⟩
    ·rw[zz e] at hdec;rw[ZT e];simp only[jI,ZZ];refine zb (JO ?_);refine zb (show wpAny _ _ (compareOp .Lt u v) _ _ _ from aaJ hsh.1 h1 h2 ?_);rw[hdec];exact zb (zd (zd (zd ⟨_,rfl,by simp,h⟩)))
 ·rintro⟨r1,r2⟩ s' ⟨hr,rfl,x',y',xs',ys',hz,hx',hy',hsh,hdec,hlen⟩;simp only at hr;subst hr;have hfin:decide (its.length < jts.length)=gk ks ls:=by
   rw[<-hdec,<-decide_eq_decide.mpr hlen];cases hx' with
   |nil=>cases hy' with
    |nil=>rfl
    |cons _ _=>rfl
   |cons _ _=>cases hy' with
    |nil=>rfl
    |cons _ _=>simp at hz
  refine zd ⟨_,rfl,?_⟩;show Value.bool (decide (its.toArray.size < jts.toArray.size))≠_/\Q (Value.bool (decide (its.toArray.size < jts.toArray.size))) _;rw[zt,zt,hfin];exact⟨by simp,h⟩
def Bv:Bx->Bx->Option Bx
 |.z a,.z b=>(Ai a).bind λks=>(Ai b).bind λls=>if M7 ks ls=true then some (.z (.bl (gk ks ls))) else none
 |_,_=>none
theorem QZ (hu:X.A.units+100 < cLine):yp X (compareOp .Lt) Bv:=by
 intro pins s σ H x y v u Q I rx ry h;obtain⟨a,b,c,ra,rb,e,q⟩:=h;unfold Bv at e;split at e
 ·rename_i d1 d2;obtain⟨ks,ek,e⟩:=bind_some e;obtain⟨ls,el,e⟩:=bind_some e;split at e
  ·rename_i hs;cases e;rw[rH ek] at ra;rw[rH el] at rb;simp only[bh,tupK,Rep] at ra rb;obtain⟨p,vs,rfl,sq,rs⟩:=ra;obtain⟨p',vs',rfl,Mw,rs'⟩:=rb;cases rx;cases ry;obtain⟨its,rv,t1⟩:=afl I sq;obtain⟨jts,rv',t2⟩:=afl I Mw;rw[vY rs] at rv;rw[vY rs'] at rv';exact XM t1 t2 (WY X rv) (WY X rv') (J2 hs) (by omega) ⟨.bl _,H,I,rfl,q _ H (Same.refl H) trivial (by simp only[bh,Rep])⟩
  ·cases e
 ·cases e
theorem or_some {a b:Option β} {c:β} (h:a.or b=some c):a=some c\/b=some c:=by
 cases a with
 |none=>exact .inr h
 |some x=>exact .inl h
def orB (f g:Bx->Bx->Option Bx):Bx->Bx->Option Bx:=λa b=>(f a b).or (g a b)
theorem afD {fn:Value->Value->Sem Value} {f g:Bx->Bx->Option Bx} (h1:yp X fn f) (h2:yp X fn g):yp X fn (orB f g):=λpins s σ H x y v u Q I rx ry h=>by
 obtain⟨a,b,c,ra,rb,e,q⟩:=h;rcases or_some e with e|e
 ·exact h1 pins s σ H x y v u Q I rx ry ⟨a,b,c,ra,rb,e,q⟩
 ·exact h2 pins s σ H x y v u Q I rx ry ⟨a,b,c,ra,rb,e,q⟩
section
variable {f:Addr} {p:Pos}
end
end P1
namespace P1
open L2 S1 S6
theorem len0 {p:List α->Prop} (h:p []):∀ us:List α,us.length=0->p us
 |[],_=>h
section
variable {e:α->Dt} {g:Ev->Option Bx} {c:α->Bx}
def adE (a:R fa ρ (zE eS)) (b:R fb ρ (zE eS)):R (b2 (orB R7 Bv) fa fb) ρ (zE eB):=⟨wg a.v b.v,bB a.D b.D,λh=>by
 obtain⟨h1,h2⟩:=aC h;simp only[b2,a.ok h1,b.ok h2,bnd];rfl⟩
def XQ [j6 e] (a:R fa ρ (zE e)) (b:R fb ρ (zE e)):R (b2 (orB R7 Bv) fa fb) ρ (zE eB):=⟨Jf e a.v b.v,bB a.D b.D,λh=>by
 obtain⟨h1,h2⟩:=aC h;simp only[b2,a.ok h1,b.ok h2,bnd,orB];have k1:=rH (j6.ok (e:=e) a.v);have k2:=rH (j6.ok (e:=e) b.v);have n:R7 (zE e a.v) (zE e b.v)=none:=by
  show R7 (.z (e a.v)) (.z (e b.v))=none;rw[k1];rfl
 rw[n];show Bv (.z (e a.v)) (.z (e b.v))=_;unfold Bv;simp only[j6.ok,bnd,j6.shp,ZZ];rfl⟩
end
def x_k (d:Dt):R (cB d) ρ (zE eD):=oJ d eD d rfl
def x_i (i:Int):R (cB (.int i)) ρ (zE eI):=oJ (.int i) eI i rfl
def Ku (s:Str):R (cB (.str s)) ρ (zE eS):=oJ (.str s) eS s rfl
abbrev Nn (K:FG_) (n:Str) (f:Addr):Prop:=nsIn K mainGlobals n=some (some (.ref f))
abbrev Lk (K:FG_) (f:Addr) (n:Str) (st:Stmt) (oc:Value) (od:Option Addr) (sl:Array (Option Value)) (kV dc pm:Value) (an:Option Addr) (cd ct:Value):Prop:=K.lookup f=some ⟨oc,od,.func (fnOf n n (su st) (jH st) (aK st) .none kV dc pm an cd ct),sl⟩
end P1
namespace P1
open L2
section
variable {e:α->Dt}
end
section
variable {Ex:VP_} {env:Env} {outer:List Env} {L e T:Addr} {C fl:Value} {dx:Option Addr} {Q:Unit->Shared->Prop}
end
section
variable {H':Hp} {h':Heap} {ch:List Addr}
end
section
variable {g:Array GenState} {d:Drawn} {t:Nat} {fI e:Addr} {rest:List Value} {B:String}
end
section
variable {g:Array GenState} {d:Drawn} {t:Nat} {e:Addr}
end
section
variable {g:Array GenState} {d:Drawn} {t:Nat} {e dx:Addr} {vs:Array Value} {sl:Array (Option Value)} {m:Str->Option Value}
end
section
variable {o value:Expr} {tv:TE} {f:Str} {pos' p:Pos} {B:String} {t:TA}
end
section
variable {f:Str} {p:Pos} {B:String}
end
section
variable {E:XK}
end
section
variable {Cn f:Addr} {iv iy:Nat} {n cn:Str} {np hp p py pa:Pos} {b0:Stmt} {suite:List Stmt} {ts:Addr->TS} {tf:TE} {t:TA}
end
section
variable {d:Addr} {fs:List (Str×V)} {f:Str} {o:Expr}
end
section
variable {f:Str} {E:XK} {c:Expr} {gy:Ev->Option Dt} {p:Pos} {rest a b:List Stmt} {B:String} {pc:Ev->Option Bool}
end
section
variable {f h:Addr} {fs:Ev->Option (List Bx)} {p q:Pos}
end
end P1
namespace P1
open L2 S6
section
variable {xs:LS_}
end
section
variable {e2 se:Expr} {fS:Ev->Option LS_} {fx:Ev->Option Dt} {no rest:List Stmt} {tR tQ:TS} {p0 p02 px pb pif pk:Pos} {f:Str} {E:XK}
end
end P1
namespace P1
open L2
section
variable {e1 e2 e3 c:Expr} {gr:Ev->Option Out} {xr xj y1 y2:Str} {rest no:List Stmt} {kk:Nat} {p0 p00 p01 p02 q1 q2 pt pj pa px pb pif pf2 px3 a1 c1 pe1 pr a2 pj2 c2 pe2:Pos} {fx:Ev->Option Dt} {f:Str} {E:XK}
end
section
variable {Cn f:Addr} {iv:Nat} {n cn:Str} {np hp p pa:Pos} {b0:Stmt} {suite:List Stmt} {ts:Addr->TS} {tf:TE} {t:TA}
end
section
variable {fx:Ev->Option Bx}
def hoI (f:Ev->Option Bx):Ev->Option Bx:=λρ=>(f ρ).bind λb=>match b with
 |.z (.int i)=>if 0<=i/\i < 1000000 then some (.z (.str (toString i))) else none
 |_=>none
theorem Et {v:Expr} (h:QV X v fx):QV X (.FormattedValue v (-1) none pos) (hoI fx):=⟨λpins s σ H Q I q=>by
 obtain⟨H0,ρ,b,E,e,q⟩:=q;obtain⟨b',eb,e⟩:=bind_some e;split at e;rotate_left
 ·cases e
 rename_i i;split at e;rotate_left
 ·cases e
 rename_i hi;cases e;have hd:i.natAbs.log2 < 1920:=by
  by_cases h0:i.natAbs=0
  ·rw[h0];decide
  ·rw[Nat.log2_lt h0];exact Zs (show i.natAbs < 2 ^ 20 by omega) (Nat.pow_le_pow_right (by decide) (by decide))
 refine FormattedValue_plain (qo (h.run pins s σ H (λv H'=>Same H H'/\bh X.K H' (.z (.int i)) v) I ⟨H0,ρ,_,E,eb,λv H' s' n' r'=>⟨s',r'⟩⟩) (λv s1 hq=>?_) λ_ _ z=>z);obtain⟨w,H1,I1,r1,s1',rb⟩:=hq;obtain rfl:w=.int i:=by simpa only[bh,Rep] using rb
 obtain⟨tk,rfl⟩:=r1;exact formatField_int_small hd ⟨.str (toString i),H1,I1.tok _,⟨_,rfl⟩,q _ H1 s1' trivial (by unfold bh Rep;exact⟨rfl,int_text_fits hd⟩)⟩⟩
end
section
variable {xs:Array Value}
end
theorem vV:∀ {its:List Value} {ns:List Int},IntsAre its ns->Vals (ns.map V.int) its
 |_,_,.nil=>.nil
 |_,_,.cons y t h=>.cons ⟨t,rfl⟩ (vV h)
def N7:Bx->Bx->Option Bx
 |.z (.bl a),.z (.bl b)=>some (.z (.bl (!(a==b))))
 |_,_=>none
theorem XR:yp X (compareOp .IsNot) N7:=by
 intro pins s σ H x y v u Q I rx ry h;obtain⟨a,b,c,ra,rb,e,q⟩:=h;unfold N7 at e;split at e
 ·rename_i k j;cases e;obtain rfl:x=.bl k:=by simpa only[bh,Rep] using ra
  obtain rfl:y=.bl j:=by simpa only[bh,Rep] using rb
  cases rx;cases ry;exact zd ⟨.bl (!(k==j)),H,I,(by cases k<;>cases j<;>rfl),q _ H (Same.refl H) trivial (by simp only[bh,Rep])⟩
 ·cases e
section
variable {e:α->Dt}
def aaK (a:R fa ρ (zE eB)) (b:R fb ρ (zE eB)):R (b2 N7 fa fb) ρ (zE eB):=⟨!(a.v==b.v),bB a.D b.D,λh=>by
 obtain⟨h1,h2⟩:=aC h;simp only[b2,a.ok h1,b.ok h2,bnd,N7]⟩
end
section
variable {e:α->Dt} {ea:β->Dt} {eb:δ->Dt} {fx:Ev->Option Dt}
end
section
variable {e:α->Dt} {g:Ev->Option β} {c:γ->β}
end
section
variable {E:XK}
end
section
variable {f:Str} {E:XK} {fs:Ev->Option (List Bx)} {gy:Ev->Option Dt} {p p1 epos:Pos} {rest:List Stmt}
end
section
variable {o:Expr}
def N8:List Bx->Option Bx
 |[.z (.str x)]=>if x.length<=640 then(intText? x).bind λn=>some (.z (.int n)) else none
 |_=>none
theorem aaL:rD X (.type "int") N8:=by
 intro pins s σ H xs us Q I rx h;obtain⟨bs,c,rb,e,q⟩:=h;unfold N8 at e;split at e
 ·rename_i x;split at e
  ·rename_i hx;obtain⟨n,en,e⟩:=bind_some e;cases e;obtain⟨v,rfl,r1⟩:=rep1 rb;obtain⟨rfl,_⟩:=Mz r1;obtain⟨u,rfl,ru⟩:=vals1 rx;obtain⟨t,rfl⟩:=ru;exact PySem.W.KIN.call_text en hx ⟨.int n,H,I.tok _,⟨_,rfl⟩,q _ H (Same.refl H) trivial zH⟩
  ·cases e
 ·cases e
def XS:Dt->Bool
 |.non=>true
 |.tup _=>true
 |_=>false
def afE:Dt->Bool
 |.non=>true
 |_=>false
end
section
variable {o l:Expr} {fs:Ev->Option (List Bx)} {z:Str}
end
instance {σ τ:Type} [Inhabited σ]:Inhabited (Bu σ τ):=⟨.nx default⟩
section
variable {e:α->Dt}
def dM:Dt->Str
 |.str x=>x
 |.int i=>Str.ofString (toString i)
 |_=>Str.empty
def X3:Dt->Prop
 |.str _=>True
 |.int i=>i.natAbs<=1000000
 |_=>False
def Q0 (a:R fa ρ (zE eD)):R (bR Uq (aq fa aD)) ρ (zE eS):=⟨dM a.v,bB a.D (some (X3 a.v)),λh=>by
 obtain⟨h1,h2⟩:=aC h;have h2:X3 a.v:=h2;simp only[bR,aq,aD,a.ok h1,bnd,eD];generalize a.v=d at h2;cases d<;>first|exact h2.elim|rfl|exact zr h2⟩
def adF (a:R fa ρ (zE eS)):R (bR N8 (aq fa aD)) ρ (zE eI):=⟨(intText? a.v).getD 0,bB a.D (some (a.v.length<=640/\(intText? a.v).isSome=true)),λh=>by
 obtain⟨h1,h2⟩:=aC h;have h2:a.v.length<=640/\(intText? a.v).isSome=true:=h2;simp only[bR,aq,aD,a.ok h1,bnd,eS,N8,zr h2.1];obtain⟨n,en⟩:=Option.isSome_iff_exists.mp h2.2;rw[en];rfl⟩
theorem X4 (ht:∀ x,∃ ds,e x=.tup ds) (ys:List (Option α)):(ys.map (eO e)).all XS=true/\(afE ∘ eO e)=Option.isNone:=by
 refine⟨?_,?_⟩
 ·rw[qf];intro d hd;obtain⟨o,_,rfl⟩:=List.mem_map.mp hd;cases o with
  |none=>rfl
  |some x=>obtain⟨ds,q⟩:=ht x;show XS (e x)=true;rw[q];rfl
 ·funext o;cases o with
  |none=>rfl
  |some x=>obtain⟨ds,q⟩:=ht x;show afE (e x)=false;rw[q];rfl
end
section
variable {o e2:Expr} {fx fy:Ev->Option Bx}
end
section
variable {f:Str} {E:XK} {gy:Ev->Option Dt} {sts rest:List Stmt} {p0 p00 p01 p02:Pos}
end
structure DQ (K:FG_) (mg:Str->Option Value) (x:Str) (st:Stmt) (ps:LS_) where
 f:Addr
 fd:FuncData
 F:Zv K x x st f fd
 b:Binds K fd ps []
 m:mg x=some (.ref f)
 k:keepIn K (.ref f)=true
def jz {f:Addr} {od an:Option Addr} {sl:Array (Option Value)} {oc kV dc pm cd ct:Value} (X:K.In h) (G:h.Ns mainGlobals mg) (a:Nn K x f) (l:Lk K f x st oc od sl kV dc pm an cd ct) (c:codeIn K cd x=true) (k:keepIn K (.ref f)=true) (hb:∀ (kV doc pm:Value) (an:Option Addr) (cdv ct:Value) (us:List Value),us.length=ps.length->bindArgs (fnOf x x (su st) (jH st) (aK st) .none kV doc pm an cdv ct) ⟨us,[]⟩=pure (ps.zip us):=by intro _ _ _ _ _ _;first|exact P1.len1 λ_=>rfl|exact P1.len2 λ_ _=>rfl|exact P1.ahs λ_ _ _=>rfl|exact P1.aht λ_ _ _ _=>rfl|exact P1.ahu λ_ _ _ _ _=>rfl|exact P1.len0 rfl):DQ K mg x st ps:=
 ⟨f,_,V7 l c k,(V7 l c k).binds hb,mg_of X G a,k⟩
theorem mgT {v:Tok->Value} {tk:Tok} (X:K.In h) (G:h.Ns mainGlobals mg) (c:nsIn K mainGlobals x=some (some (v tk))):∃ tk,mg x=some (v tk):=⟨tk,mg_of X G c⟩
abbrev Ok (P:Program) (w:World) (base:Heap) (d:DQ K mg x st ps) (k n:Nat) (F:List Bx->Option Bx):Prop:=Bh P w K mg base T9 k d.f d.fd ps (spF K n F)
theorem wQ (d:DQ K mg x st ps) (S:bF N ps (aK st)) (hbody:∀ (cdv:Value) (A:Around) (outer:List Env) (s:Shared) (H:Hp) (E:XK),oM k (A.deeper (envOfC x (aK st) s.heap.objs.size d.f cdv))->(A.deeper (envOfC x (aK st) s.heap.objs.size d.f cdv)).units+100 < cLine->N.Nodup->YM (Gv T9 P w K mg base N x (aK st) d.f cdv A outer s H E).nox (jH st) g) (hn:N.length=n:=by rfl) (hm:ps.length=m:=by rfl):Ok P w base d (k+1) m (dj n g):=ahb d.F S hn hm λcdv A outer s H E hr=>hbody cdv A outer s H E hr (Z7 hr) S.nd
section
variable {fs:Ev->Option (List Bx)} {p:Pos}
theorem bN (d:DQ X.K X.mg x st ps) (G:Ok X.prog X.w X.base d k n F) (hr:oM m X.A) (ha:Vr X (e::es) fs) (hg:Gl X x:=by rfl) (hl:k<=m:=by decide) (hdb:(x==("__debug__" : Str))=false:=by decide) (he:starEach (e::es) X.env=(false,eval e X.env)::starEach es X.env:=by rfl) (hpl:(backTo pos (starEach es X.env)).any (·.1)=false:=by rfl):QV X (.Call (.Name x p) (e::es) [] pos) (bJ n F fs):=
 ZR G (hr.mono hl) hg d.m d.k d.b ha hdb he hpl
end
theorem walkT {l:PySem.W.OpenLaw} {q:Program} {loose:LS_} {d:DefRec} {K:Params->FG_} {T:FG_->(Str->Option Value)->Type} {F_law:List Bx->Option Bx} (dq:∀ {K mg},T K mg->DQ K mg "law" st [x]) (hk:oM k callerA) (hd:d.name = "law") (G:∀ (w:World) (mg:Str->Option Value) (base:Heap) (t:T (K w.params) mg),Ok l.prog w base (dq t) k 1 F_law) (hn:l.most=some 63) (hdf:d.params.defaults=[]) (h1:∀ ns:List Int,ns.length<=63->F_law [.z (.lst (ns.map .int))]=some (.z (.bl true))) (h2:∀ ns:List Int,ns.length<=63->F_law [.l (ns.map .int)]=some (.z (.bl true))) (hb:∀ (kV doc pm:Value) (an:Option Addr) (cdv ct u:Value),bindArgs (fnOf "law" "law" (su st) (jH st) (aK st) .none kV doc pm an cdv ct) ⟨[u],[]⟩=pure [(x,u)]) (hY:∀ (w:World) (h:Heap),YP w h->(K w.params).In h) (F:∀ (w:World) (mg:Str->Option Value) (h:Heap),(K w.params).In h->h.Ns mainGlobals mg->T (K w.params) mg) :
  PySem.W.WalkO q loose XP YP l.row.toRowW d [] (λf vs=>PySem.call f vs):=
 L2.V6 (n:=63) (k:=k) (x:=x) (CX:=T9) (sp:=λK=>spF K 1 F_law) hn (by decide) hdf hk hY (λw mg fa h X N e=>by
  have t:=F w mg h X N;have em:=(dq t).m;rw[hd,em] at e;cases e;refine⟨(dq t).fd,λs u=>?_,λbase _ _=>G w mg base t⟩;obtain⟨oc,od,kV,doc,pm,an,cdv,ct,osl,e,lk,hcd⟩:=(dq t).F.ex;rw[e];exact .of_eq (hb kV doc pm an cdv ct u)) (λK H a ns hl hO hS=>adf h1 h2 K H a ns hl hO hS) λ_ _ _ _ z=>z
section
variable {f:Addr} {sp:Addr->List V->Hp->VK->Prop} {p:Pos} {t:TA}
end
section
variable {p0 p1:Pos} {xs:LS_} {e:Addr} {a:Expr} {ta:TA}
end
section
variable {f:Str} {E:XK} {fs:Ev->Option (List Bx)} {p:Pos}
end
section
variable {g:Array GenState} {d:Drawn} {t:Nat} {rest:List Value} {B:String}
end
section
variable {E:XK} {p:Pos} {B:String} {t:TA}
end
theorem aaM {T nId iId:String} {Bn Bi:Builtin} {xs:List Value} {kw:List (Str×Value)} {S:PySem.Spec} {Q Q1:VP_} (ft:TypeCalled T nId iId) (c1:checkTypeCall T ⟨xs,kw⟩=pure ()) (c2:checkBuiltinCall nId ⟨.type T::xs,kw⟩=pure ())
  (eN:entryFor table nId=some Bn) (eI:entryFor table iId=some Bi) (mN:Meets (Bn ⟨.type T::xs,kw⟩) S) (hS:S A.in1 (wants Q1 E) s)
  (nx:∀ o s1,Q1 o s1->s1.TypeIs o T/\argsOk iId ⟨o::xs,kw⟩/\∃ Si,Meets (Bi ⟨o::xs,kw⟩) Si/\Si A.in1 (wants (λr s2=>r=.none/\Q o s2) E) s1):wpAny (model prog w) A (call (.type T) xs kw) Q E s:=by
 obtain⟨c,tl,m1⟩:=ft.mro;have m2:=ft.made;have m3:=ft.sub;refine wpAny_call (codeAny_of_tree ?_);show wpAny _ _ (callAny (.type T) _) _ _ _;refine zd ⟨Code.quiet_builtin _ (by decide +kernel),j3 F.entry_type_call ?_⟩;rw[Around.under_plain (weight_type_call_type T xs kw) (units_type_call_type T xs kw)];have m4:=ft.notType;have m5:=ft.canCreate
 repeat (any_goals (first|assumption|wp_step))
 refine ki (codeAny_call_builtin ft.plain eN (wpAny_of_eq c2 (mN prog w A.in1 _ s hS))) λr s1 z=>?_;cases r with
 |error e=>exact z
 |ok fl=>
  cases fl with
  |ret o=>
   obtain⟨t1,t2,Si,t3,t4⟩:=nx _ _ z;have m6:=ft.init.lookup;have m7:=ft.init.bind o
   repeat (any_goals (first|assumption|wp_step))
   refine ki (codeAny_call_builtin ft.init.plain eI (ft.init.check _ _ _ _ _ _ _ _ t1 t2 (t3 prog w A.in1 _ s1 t4))) λr2 s2 z2=>?_;cases r2 with
   |error e=>exact z2
   |ok fl2=>
    cases fl2 with
    |ret r=>
     obtain⟨rfl,q⟩:=z2
     repeat (any_goals (first|assumption|wp_step))
    |next=>exact z2.elim
    |brk=>exact z2.elim
    |cont=>exact z2.elim
  |next=>exact z.elim
  |brk=>exact z.elim
  |cont=>exact z.elim
theorem X5 {T nId:String} {o:Value} {xs:List Value} {kw:List (Str×Value)} (hl:typeLookup (.type T) "__init__" = pure (some (.builtin "object.__init__"))) (hm:Bind.madeBy (.type T)=pure (some nId)) (hne:(some nId != some "object.__new__")=true) :
  Meets (Builtin.«object.__init__» ⟨o::xs,kw⟩) (λ_ R s=>s.TypeIs o T/\R (.ok (.ret .none)) s):=by
 refine Meets.of_wp λprog w A R s ⟨hT,q⟩=>?_;cases xs with
 |nil=>
  cases kw with
  |nil=>exact zd ⟨_,rfl,q⟩
  |cons a l=>
   repeat (any_goals (first|assumption|wp_step))
   exact⟨_,rfl,q⟩
 |cons a l=>
  repeat (any_goals (first|assumption|wp_step))
  exact⟨_,rfl,q⟩
theorem X6 (l:Addr) (items:Array Value) (n:Nat) (dct:Option Addr) (sl:Array (Option Value)) (j:Int) (hj:Builtin.SmallTypes.fitsIndex j=true) (tj:Tok) :
  Meets (Builtin.«enumerate.__new__» ⟨[.type "enumerate", .ref l],[("start", .int j tj)]⟩) (λ_ R s=>s.heap.get? l=some ⟨.type "list", dct,.seq items n,sl⟩ ∧
   R (.ok (.ret (.ref (s.heap.push { cls:=.type "list_iterator", data:=.fields #[.ref l,.int 0 0] }).objs.size)))
    { s with heap:=(s.heap.push { cls:=.type "list_iterator", data:=.fields #[.ref l,.int 0 0] }).push { cls:=.type "enumerate", data:=.fields #[.none,.bool false,.ref s.heap.objs.size,rawInt j,.none,.none] } }):=
 .of_wp λprog w A R s ⟨hl,h⟩=>by
  obtain⟨hp,g,d,tk,os⟩:=s;have m1:=sub_enumerate;have m2:Heap.IsList (Shared.heap ⟨hp,g,d,tk,os⟩) l items:=⟨_,hl,rfl,n,rfl⟩
  wp_walk using AutoSeq1.wpAny_loadPart' hl
  refine wpAny_stack_any λst=>zd ?_;split
  ·rename_i c _ _ _ _ _;cases(c==Value.type "enumerate")
   ·wp_walk using AutoSeq1.wpAny_loadPart' hl,JI m2
    exact⟨_,rfl,h⟩
   ·wp_walk using AutoSeq1.wpAny_loadPart' hl,JI m2
    exact⟨_,rfl,h⟩
  ·wp_walk using AutoSeq1.wpAny_loadPart' hl,JI m2
   exact⟨_,rfl,h⟩
theorem aaN {j:Int} {tj:Tok} {Q:VP_} (hj:Builtin.SmallTypes.fitsIndex j=true) (c1:checkTypeCall "enumerate" ⟨[.ref l],[("start", .int j tj)]⟩=pure ()) (c2:checkBuiltinCall "enumerate.__new__" ⟨[.type "enumerate", .ref l],[("start", .int j tj)]⟩=pure ()) (c3:∀ o,argsOk "object.__init__" ⟨[o,.ref l],[("start", .int j tj)]⟩) (hL:s.heap.IsList l items) (h:∀ h',IsEnum h' (s.heap.objs.size+1) s.heap.objs.size j .none->h'.IsListIter s.heap.objs.size l 0->(∀ b o,s.heap.get? b=some o->h'.get? b=some o)->Q (.ref (s.heap.objs.size+1)) { s with heap:=h' }) :
  wpAny (model prog w) A (call (.type "enumerate") [.ref l] [("start", .int j tj)]) Q E s:=by
 obtain⟨⟨c,dct,dt,sl⟩,hl,hc,n,hd⟩:=hL;cases hc;cases hd;refine aaM F.called_enumerate c1 c2 F.entry_enumerate_new F.entry_object_init (X6 l items n dct sl j hj tj) (Q1:=λo s1=>s1.TypeIs o "enumerate" ∧ Q o s1) ⟨hl,?_⟩ λo s1 q=>⟨q.1,c3 o,_,X5 F.called_enumerate.init.lookup F.called_enumerate.made (by decide),q.1,rfl,q.2⟩;have hz:(s.heap.push { cls:=.type "list_iterator", data:=.fields #[.ref l,.int 0 0] }).objs.size=s.heap.objs.size+1:=qc ..;show _/\_;rw[hz];have he:=zv (s.heap.push { cls:=.type "list_iterator", data:=.fields #[.ref l,.int 0 0] }) (o:={ cls:=.type "enumerate", data:=.fields #[.none,.bool false,.ref s.heap.objs.size,rawInt j,.none,.none] }) rfl;rw[hz] at he;exact⟨⟨_,he,rfl⟩,h _ he ⟨_,ze _ (zv _ rfl),rfl,rfl⟩ λb o x=>ze _ (ze _ x)⟩
theorem afF (a b v:Value):argsOk "object.__init__" ⟨[a,b],[("start", v)]⟩:=by
 unfold argsOk;rw[signature?_of (id := "object.__init__") (n := "__tini__".toList) (o := "tcejbo".toList) (by kernel_rfl) F.owner_object]
 kernel_rfl
theorem afG (a v:Value):checkTypeCall "enumerate" ⟨[a],[("start", v)]⟩=pure ():=by kernel_rfl
theorem afH (a v:Value):checkBuiltinCall "enumerate.__new__" ⟨[.type "enumerate", a],[("start", v)]⟩=pure ():=by kernel_rfl
theorem aaO {e:Addr} {j:Int} {x old:Value} {Q:VP_} (he:IsEnum s.heap e it j old) (hit:s.heap.IsListIter it l i) (hl:s.heap.IsList l items) (hx:items[i]?=some x) (ne:e≠it) (q:∀ h',IsEnumOut h' e it (j+1) x s.heap.objs.size->h'.IsListIter it l (i+1)->h'.get? s.heap.objs.size=some { cls:=.type "tuple", data:=.seq #[.int j s.toks,x] }->(∀ b o,b≠e->b≠it->s.heap.get? b=some o->h'.get? b=some o)->Q (.ref s.heap.objs.size) { s with heap:=h',toks:=s.toks+1 }) :
  wpAny (model prog w) A (Builtin.«enumerate.__next__» ⟨[.ref e],[]⟩) (λfin s'=>∃ v,fin=.done (.ret v)/\Q v s') E s:=by
 obtain⟨hh,g,d,tk,os⟩:=s;have nit:it≠e:=kv ne;show wpAny _ _ (field (.ref e) 2 >>= _) _ _ _;refine zb (JP he rfl (x:=.ref it) rfl (zb (wpAny_nextOf_list_item hit hl hx λa1 it1 (k1:Heap.SameBut it hh a1)=>?_)));have e1:IsEnum a1 e it j old:=(k1.2 e ne).trans he;show wpAny _ _ (field (.ref e) 3 >>= _) _ _ ⟨a1,g,d,tk,os⟩;refine zb (JP e1 rfl (x:=rawInt j) rfl ?_);show wpAny _ _ (field (.ref e) 4 >>= _) _ _ ⟨a1,g,d,tk,os⟩;refine zb (JP e1 rfl (x:=.none) rfl ?_);show wpAny _ _ (mkInt j >>= _) _ _ ⟨a1,g,d,tk,os⟩;refine zb (wpAny_mkInt ?_);show wpAny _ _ (setField (.ref e) 3 (rawInt (j+1)) >>= _) _ _ ⟨a1,g,d,tk+1,os⟩;refine zb (kf e1 (by simp) λa2 e2 (k2:Heap.SameBut e a1 a2)=>?_);have e2:IsEnum a2 e it (j+1) old:=e2;show wpAny _ _ (setField (.ref e) 4 .none >>= _) _ _ ⟨a2,g,d,tk+1,os⟩;refine zb (kf e2 (by simp) λa3 e3 (k3:Heap.SameBut e a2 a3)=>?_);have e3:IsEnum a3 e it (j+1) old:=e3;have z3:a3.objs.size=hh.objs.size:=by rw[k3.1,k2.1,k1.1]
 show wpAny _ _ (newTuple [.int j tk,x] >>= _) _ _ ⟨a3,g,d,tk+1,os⟩;refine zb (wpAny_newTuple ?_);have le:e < hh.objs.size:=zw he;obtain⟨a4,h4,e4,t4,c4,i4⟩:∃ a4,a3.push { cls:=.type "tuple", data:=.seq #[.int j tk,x] }=a4/\IsEnum a4 e it (j+1) old/\a4.get? hh.objs.size=some { cls:=.type "tuple", data:=.seq #[.int j tk,x] }/\(∀ b o,b≠e->b≠it->hh.get? b=some o->a4.get? b=some o)/\a4.IsListIter it l (i+1):=by
  refine⟨_,rfl,ze _ e3,by rw[<-z3];exact zv _ rfl,λb o b1 b2 z=>ze _ (k3.extBut b o b1 (k2.extBut b o b1 (k1.extBut b o b2 z))),?_⟩;obtain⟨o,ho,r⟩:=(it1.extBut k2.extBut nit).extBut k3.extBut nit;exact⟨o,ze _ ho,r⟩
 rw[show({ heap:=a3,gens:=g,drawn:=d,toks:=tk+1,os:=os }:Shared).heap.push { cls:=.type "tuple", data:=.seq #[.int j tk,x] }=a4 from h4,show({ heap:=a3,gens:=g,drawn:=d,toks:=tk+1,os:=os }:Shared).heap.objs.size=hh.objs.size from z3];show wpAny _ _ (Builtin.SmallTypes.ownedTupleIsFree (.ref e) >>= _) _ _ ⟨a4,g,d,tk+1,os⟩;refine zb ?_;unfold Builtin.SmallTypes.ownedTupleIsFree;refine zb (JP e4 rfl (x:=.none) rfl (zd ?_));simp only[ZZ];refine zb (JO (zb (JP e4 rfl (x:=old) rfl (zb (kf e4 (by simp) λa5 e5 (k5:Heap.SameBut e a4 a5)=>?_)))));have e5:IsEnum a5 e it (j+1) x:=e5;show wpAny _ _ (Builtin.SmallTypes.ownedTupleHandOut (.ref e) (.ref hh.objs.size) >>= _) _ _ ⟨a5,g,d,tk+1,os⟩;refine zb ?_;unfold Builtin.SmallTypes.ownedTupleHandOut;refine zb (kf e5 (by simp) λa6 e6 (k6:Heap.SameBut e a5 a6)=>?_);have e6:IsEnumOut a6 e it (j+1) x hh.objs.size:=e6;refine kf e6 (by simp) λa7 e7 (k7:Heap.SameBut e a6 a7)=>?_;have kk:∀ b o,b≠e->a4.get? b=some o->a7.get? b=some o:=λb o hb z=>k7.extBut b o hb (k6.extBut b o hb (k5.extBut b o hb z));exact zb (wpAny_letGo (zd ⟨_,rfl,q a7 e7 (((i4.extBut k5.extBut nit).extBut k6.extBut nit).extBut k7.extBut nit) (kk _ _ (JY le) t4) λb o b1 b2 z=>kk b o b1 (c4 b o b1 b2 z)⟩))
theorem aaP {e:Addr} {j:Int} {x old:Value} (he:IsEnum s.heap e it j old) (hit:s.heap.IsListIter it l i) (hl:s.heap.IsList l items) (hx:items[i]?=some x) (ne:e≠it) (q:∀ h',IsEnumOut h' e it (j+1) x s.heap.objs.size->h'.IsListIter it l (i+1)->h'.get? s.heap.objs.size=some { cls:=.type "tuple", data:=.seq #[.int j s.toks,x] }->(∀ b o,b≠e->b≠it->s.heap.get? b=some o->h'.get? b=some o)->Q (some (.ref s.heap.objs.size)) { s with heap:=h',toks:=s.toks+1 }) :
  wpAny (model prog w) A (pyNext (.ref e)) Q E s:=by
 have hT:s.TypeIs (.ref e) "enumerate" := ⟨_,he,rfl⟩;unfold pyNext;exact zb (wpAny_attempt (jS (name:=Str.ofString "__next__") hT kr (QI kr hT F.entry_enumerate_next (aaO he hit hl hx ne λh' a b c k=>zd (q h' a b c k)) (F.args_enumerate_next_1 _))))
theorem adG {e:Addr} {j:Int} {old:Value} (hh:A.handled=none) (he:IsEnum s.heap e it j old) (hit:s.heap.IsListIter it l i) (hl:s.heap.IsList l items) (hx:items[i]?=none) (q:∀ h',Heap.ExtBut it s.heap h'->Q none { s with heap:=h' }):wpAny (model prog w) A (pyNext (.ref e)) Q E s:=by
 have hT:s.TypeIs (.ref e) "enumerate" := ⟨_,he,rfl⟩;unfold pyNext;refine zb (wpAny_attempt (jS (name:=Str.ofString "__next__") hT kr (QI kr hT F.entry_enumerate_next ?_ (F.args_enumerate_next_1 _))));show wpAny _ _ (field (.ref e) 2 >>= _) _ _ _;refine zb (JP he rfl (x:=.ref it) rfl (zb (wpAny_nextOf_list_end hh hit hl hx λh' x he' ⟨o,ho,hc⟩=>?_)));exact zb (Q2 (T := "StopIteration") (b:=true) ⟨o,ho,hc⟩ isSubtype_stop (zd (q _ he')))
def adH (K:FG_) (l:Addr) (j:Int):It:=
 ⟨λi H=>∃ xs x,rY K H l xs/\xs[i]?=some x,λi H v H'=>∃ p x,H p=none/\(∀ xs,rY K H l xs->xs[i]?=some x)/\v=.ref p/\H'=upd H p (.tup [.int (j+i),x]),λi H=>∃ xs,rY K H l xs/\xs.length<=i⟩
theorem X7 (l e it:Addr) (j:Int) (ne:e≠it) :
  Turn P w K (.Tuple elts x1 tpos) (adH K l j) [e,it] e (λi h=>(∃ old,IsEnum h e it (j+(i:Nat)) old)/\h.IsListIter it l i) where
 mem:=by simp
 obj:=λi h st b hb=>by
  obtain⟨⟨old,h1⟩,o,h2,_,h3⟩:=st;rcases List.mem_cons.mp hb with rfl|hb
  ·exact⟨_,h1,λv z=>by cases z⟩
  ·cases List.mem_singleton.mp hb;exact⟨o,h2,λv z=>by rw[h3] at z;cases z⟩
 keep:=λi h h' st k=>by
  obtain⟨⟨old,h1⟩,h2⟩:=st;exact⟨⟨old,k e (by simp) _ h1⟩,h2.at λo q=>k it (by simp) o q⟩
 item:=by
  intro X hP hw hK hc i pins s σ H E I hf st hg;subst hP hw hK;obtain⟨⟨old,h1⟩,h2⟩:=st;obtain⟨xs,x,hq,hx⟩:=hg;obtain⟨its,rv,p,hz⟩:=I.list hq;obtain⟨u,hu,ru⟩:=rv.get hx;have fe:=hf e (by simp);have fi:=hf it (by simp);refine aaP h1 h2 p.isList (x:=u) (by simpa using hu) ne λh1' ho hit' hT hk=>⟨_,rfl,?_⟩;refine wpAny_letOwnedTupleGo_enum ho λh2' afI hsb=>?_;have elt:e < s.heap.objs.size:=zw h1;have ilt:it < s.heap.objs.size:=by obtain⟨_,q,_⟩:=h2;exact zw q
  have hT2:h2'.get? s.heap.objs.size=some { cls:=.type "tuple", data:=.seq #[.int (j+(i:Nat)) s.toks,u] }:=(hsb.2 _ (JY elt)).trans hT;have hit2:h2'.IsListIter it l (i+1):=hit'.at λo q=>(hsb.2 it (kv ne)).trans q;have ej:j+(i:Nat)+1=j+((i+1:Nat):Int):=by omega
  refine⟨.ref s.heap.objs.size,upd H s.heap.objs.size (.tup [.int (j+i),x]),aax (t':=s.toks+1) I (λb o n1 n2 q=>(hsb.2 b n1).trans (hk b o n1 n2 q)) fe fi ⟨_,afI⟩ (by obtain⟨o,q,_⟩:=hit2;exact⟨o,q⟩) ?_,rfl,⟨_,x,I.hok.fresh (zi _),λys hy=>by rw[I.CW hy hq];exact hx,rfl,rfl⟩,⟨⟨_,by rw[<-ej];exact afI⟩,hit2⟩,λb hb=>?_⟩
  ·exact⟨by show 2<=sizeLine;decide,[.int (j+(i:Nat)) s.toks,u],.cons ⟨_,rfl⟩ (.cons ru .nil),_,hT2,rfl,⟨_,rfl⟩,rfl⟩
  ·rcases List.mem_cons.mp hb with rfl|hb
   ·rw[bA (z5 elt)];exact fe.1
   ·cases List.mem_singleton.mp hb;rw[bA (z5 ilt)];exact fi.1
 done:=by
  intro X hP hw hK hc i pins s σ H E I hf st hg;subst hP hw hK;obtain⟨⟨old,h1⟩,h2⟩:=st;obtain⟨xs,hq,hx⟩:=hg;obtain⟨its,rv,p,hz⟩:=I.list hq;obtain⟨f0,f1,f2,f3,f4,f5⟩:=hf it (by simp);have hl:=rv.length;exact adG (I.ok.hd hc) h1 h2 p.isList (by simp;omega) λh' eb=>⟨rfl,I.turned (t':=s.toks) (λb o hb e=>eb b o hb e) f0 f1 f3 f4 f5⟩
 self:=λ_ _ _ _ _ st h=>by
  obtain⟨⟨old,h1⟩,_⟩:=st;exact wpAny_pyIter_enum h1 h
def enJ (j:Int) (ds:List Dt):List Dt:=(List.range ds.length).zipWith (λk d=>.tup [.int (j+(k:Nat)),d]) ds
theorem S9 (j:Int) (ds:List Dt):(enJ j ds).length=ds.length:=by simp[enJ]
theorem Yields.enJ {K:FG_} {Hs:Hp} {l:Addr} {vs:List V} {ds:List Dt} (j:Int) (h:rY K Hs l vs) (r:aM K Hs ds vs):Yields K (adH K l j) (enJ j ds) Hs:=λi H s=>by
 have h':=s.seq h;have r':=r.kp (.of s);refine⟨λd e=>?_,λe=>⟨vs,h',by rw[S9] at e;rw[r.length];exact e⟩⟩;have hi:i < ds.length:=by
  have:=(List.getElem?_eq_some_iff.mp e).1;rwa [S9] at this
 have ec:ds[i]?=some ds[i]:=by simp[hi]
 unfold P1.enJ at e;rw[List.getElem?_zipWith] at e;simp[hi] at e;subst e;obtain⟨v,ev,rv⟩:=r'.get ec;refine⟨⟨vs,v,h',ev⟩,λx H' y=>?_⟩;obtain⟨p,x0,hp,hq,rfl,rfl⟩:=y;have:=hq vs h';rw[ev] at this;cases this;have sm:Same H (upd H p (.tup [.int (j+i),v])):=λb o q=>by rw[bA (c7 q hp)];exact q
 refine⟨sm,?_⟩;simp only[Rep];exact⟨p,_,rfl,.inl (.inl cL),aM.cons (by simp only[Rep]) (aM.cons (Rep.kp (.of sm) rv) aM.nil)⟩
section
variable {env:Env}
theorem afJ {T:String} {kws:List Keyword} {Q:VP_} (h:wpAny M A (spliced (backTo pos (starEach [e] env))) (λvs s1=>wpAny M A (evalAll ((backToKw pos (keywordEach kws env)).map (·.2))) (λkvs s2=>wpAny M A (call (.type T) vs (((backToKw pos (keywordEach kws env)).filterMap (·.1)).zip kvs)) Q E s2) E s1) E s) (he:starEach [e] env=[(false,eval e env)]) (h1:(backToKw pos (keywordEach kws env)).all (·.1.isSome)=true) (h2:(backToKw pos (keywordEach kws env)).any (·.1.isNone)=false) :
  wpAny M A (callWith pos (.type T) [] (backTo pos (starEach [e] env)) (backToKw pos (keywordEach kws env))) Q E s:=by
 rw[he] at h ⊢;have ev:=evalArgs_kwB (f:=.type T) (Q:=λa s2=>wpAny M A (call (.type T) a.pos a.kw) Q E s2) h1 (show wpAny M A (spliced ((false,_)::[])) _ E s from h);unfold callWith;refine zb (Qr (qo ev (λa s1 z=>zb (Ki ?_)) λ_ _ x=>x));rw[h2,show(backTo pos [(false,eval e env)]).any (·.1)=false from rfl];refine zb (zd ?_);exact zb (qo z (λr s2 hr=>zb (Qr (wpAny_point (zd hr)))) λ_ _ x=>x)
end
section
variable {p kp cp:Pos} {fs:Ev->Option (List Bx)} {j:Int} {kk:Nat}
def ahx (K:FG_) (j:Int) (ta:TA):TI:=λσ H R=>ta σ H λvs H1=>∃ l,vs=[.ref l]/\(∃ xs,rY K H1 l xs)/\R (adH K l j) H1
theorem adI {ta:TA} (hj:Builtin.SmallTypes.fitsIndex j=true) (hg:Gl X "enumerate") (hm:X.mg "enumerate" = none) (ha:PA X [e] ta) (hs:starEach [e] X.env=[(false,eval e X.env)]:=by rfl):PI X (.Tuple elts x1 tpos) (.Call (.Name "enumerate" p) [e] [⟨some "start", .Constant (.int j) kk cp,kp⟩] pos) (ahx X.K j ta):=by
 intro pins s σ H R I h;refine kQ (CT I hg hm boot_enumerate (afJ (jq (ha pos pins s σ H _ I h) λus s1 ⟨vs,H1,I1,r1,q1⟩=>?_) hs rfl rfl));refine kws_cons (wpAny_Constant_int (kws_nil ?_));obtain⟨l,rfl,⟨xs,hq⟩,q⟩:=q1;obtain⟨u,rfl,ru⟩:=vals1 r1;cases ru;have I2:=I1.tok (s1.toks+1);obtain⟨its,rv,p,hz⟩:=I2.list hq;refine aaN (s:={ s1 with toks:=s1.toks+1 }) hj (afG _ _) (afH _ _) (λo=>afF o _ _) p.isList λh' he hit hk=>?_;refine wpAny_pyIter_enum he ?_;refine⟨s1.heap.objs.size+1,[s1.heap.objs.size+1,s1.heap.objs.size],_,_,H1,rfl,I2.kept (t':=s1.toks+1) hk,X7 l _ _ j (JY (qq _)),⟨⟨_,by rw[show j+((0:Nat):Int)=j by simp];exact he⟩,hit⟩,λb hb=>?_,q⟩;rcases List.mem_cons.mp hb with rfl|hb
 ·exact I2.TQ (kB _) (I2.hok.fresh (kB _))
 ·cases List.mem_singleton.mp hb;exact I2.TQ (zi _) (I2.hok.fresh (zi _))
def aaR (j:Int):List Bx->Option (List Dt)
 |[.z (.lst ds)]=>some (enJ j ds)
 |_=>none
theorem aaS (hj:Builtin.SmallTypes.fitsIndex j=true) (hg:Gl X "enumerate") (hm:X.mg "enumerate" = none) (ha:Vr X [e] fs) (hs:starEach [e] X.env=[(false,eval e X.env)]:=by rfl):QIF X (.Tuple elts x1 tpos) (.Call (.Name "enumerate" p) [e] [⟨some "start", .Constant (.int j) kk cp,kp⟩] pos) (λρ=>(fs ρ).bind (aaR j)):=⟨λpins s σ H R I q=>by
 refine adI hj hg hm ha.run hs pins s σ H R I ?_;obtain⟨H0,ρ,ds,E,e,q⟩:=q;obtain⟨bs,eb,e⟩:=bind_some e;refine⟨H0,ρ,bs,E,eb,λvs H1 s1 r1=>?_⟩;unfold aaR at e;split at e
 ·rename_i ds';cases e;obtain⟨v,rfl,rb⟩:=rep1 r1;simp only[bh,Rep] at rb;obtain⟨a,ws,rfl,hq,rs⟩:=rb;refine⟨a,rfl,⟨ws,hq.sq⟩,q _ _ s1 λHs hs hn hf ht=>.enJ j ?_ (rs.part hf ht)⟩;rcases hq with⟨o,hq⟩|hq
  ·exact .inl (.inr ⟨o,(hf _ _ _ hq).trans hq⟩)
  ·exact .inr hq
 ·cases e⟩
end
section
variable {e:α->Dt}
def adJ (j:Int) (fs:Ev->Option (List Bx)):Ev->Option (List Dt):=λρ=>(fs ρ).bind (aaR j)
def yU (j:Int) (xs:List α):List (Int×α):=(List.range xs.length).zipWith (λ(k:Nat) x=>(j+(k:Int),x)) xs
def afK (j:Int) (a:R fa ρ (zE (eL e))):R (adJ j (aq fa aD)) ρ (iE (eP2 eI e)):=⟨yU j a.v,a.D,λh=>by
 have em:enJ j (a.v.map e)=(yU j a.v).map (eP2 eI e):=by
  unfold enJ yU;rw[zg,List.zipWith_map_right,List.map_zipWith]
 simp only[adJ,aq,aD,a.ok h,bnd,zE,eL,aaR,em]⟩
end
section
variable {g:Ev->Option Str}
def Q5 (a:R fa ρ (zE eI)) (b:R g ρ (λt:Str=>t)):R (kO (hoI fa) g) ρ (λt:Str=>t):=⟨dM (.int a.v)++b.v,bB (bB a.D (some (0<=a.v/\a.v < 1000000))) b.D,λh=>by
 obtain⟨h1,h2⟩:=aC h;obtain⟨h1,h3⟩:=aC h1;have h3:0<=a.v/\a.v < 1000000:=h3;simp only[kO,hoI,a.ok h1,bnd,zE,eI,b.ok h2,zr h3];rfl⟩
variable {e:α->Dt}
def abJ [j6 e] (a:R fa ρ (zE e)) (b:R fb ρ (zE e)):R (b2 Bv fa fb) ρ (zE eB):=⟨Jf e a.v b.v,bB a.D b.D,λh=>by
 obtain⟨h1,h2⟩:=aC h;simp only[b2,a.ok h1,b.ok h2,bnd];show Bv (.z (e a.v)) (.z (e b.v))=_;unfold Bv;simp only[j6.ok,bnd,j6.shp,ZZ];rfl⟩
end
theorem Jh (h:eZ d=true):∃ x,d=.str x:=by
 cases d with
 |str x=>exact⟨x,rfl⟩
 |_=>cases h
theorem Aq (h:is_tuple d=true):∃ ds,d=.tup ds:=by
 cases d with
 |tup x=>exact⟨x,rfl⟩
 |_=>cases h
theorem aaT (h:is_tuple d=true):GR d=true:=by
 obtain⟨ds,rfl⟩:=Aq h;rfl
theorem aaU (h:d∈YQ (.str x)):d=eS (Kg d):=by
 unfold YQ signs at h;obtain⟨c,_,rfl⟩:=List.mem_map.mp h;rfl
theorem aaV (x:Str):(YQ (.str x)).length=x.length:=U9 x
theorem lt_iff (a b:Str):wg a b=true↔Ly a b/\a≠b:=by
 unfold wg Ly;rw[ltCps_eq];simp only[qE,QQ];constructor
 ·intro h;exact⟨List.lt_asymm h,λe=>by subst e;exact List.lt_irrefl _ h⟩
 ·intro⟨h,hn⟩;by_cases q:a.cps.toList < b.cps.toList
  ·exact q
  ·exact absurd (MP (a:=a) (b:=b) (by unfold Ly;rw[ltCps_eq];simpa using h) (by unfold Ly;rw[ltCps_eq];simpa using q)) hn
theorem X8 (n:Nat):rng 0 (n+1)=0::(rng 0 n).map (·+1):=by
 unfold rng;rw[List.range_succ_eq_map,zC,Qb,Qb];refine congr (congrArg _ ?_) ?_
 ·simp
 ·apply kb;intro k _;simp only[Function.comp];omega
theorem p7 {i:Int} (h:i∈rng 0 n):∃ k:Nat,k < n/\i=(k:Int):=by
 unfold rng at h;obtain⟨k,hk,rfl⟩:=List.mem_map.mp h;exact⟨k,List.mem_range.mp hk,by omega⟩
end P1
namespace P1
open L2 S1 S6
def same (w:List LS_) (x y:Str):Prop:=∃ s∈w,x∈s/\y∈s
end P1
section
set_option maxHeartbeats 1000000
namespace P1
open L2
open PySem.Builtin PySem.Builtin.Str
abbrev cs (s:Str):List Nat:=s.cps.toList
theorem qR (a b:Str):cs (a++b)=cs a++cs b:=Array.toList_append
theorem zW {a b:Str} (h:cs a=cs b):a=b:=Str.ext' (Array.toList_inj.mp h)
theorem dF (a:Str):a.length=(cs a).length:=by simp[Str.length]
theorem Kv (y p q:Str) (ps:LS_):Str.join y (p::q::ps)=p++y++Str.join y (q::ps):=rfl
theorem Yb (h:StrLaws.At x y x.length k):∃ r,(cs x).drop k=cs y++r:=by
 have e:=h.2;rw[StrLaws.subAt_eq] at e;have e:((cs x).drop k).take y.length=cs y:=eq_of_beq e;exact⟨((cs x).drop k).drop y.length,by rw[<-e];exact(kq _ _).symm⟩
theorem adK {r:List Nat} (h:(cs x).drop k=cs y++r) (hk:k<=(cs x).length):StrLaws.At x y x.length k:=by
 refine⟨?_,?_⟩
 ·have:=congrArg List.length h;rw[QN,zl,<-dF,<-dF] at this;rw[<-dF] at hk;omega
 ·rw[StrLaws.subAt_eq];apply beq_iff_eq.mpr;show((cs x).drop k).take y.length=cs y;rw[h,dF,List.take_left]
theorem Eu {x y:Str} {c:Nat} {y':List Nat} (hy:cs y=c::y'):∀ (ps:LS_) (p:Str) (cuts:List Nat) (a f:Nat),(∀ q∈p::ps,c∉cs q)->a<=(cs x).length->(cs x).drop a=cs (Str.join y (p::ps))->StrLaws.ChainG x y x.length a cuts f->(∀ k,f<=k->¬ StrLaws.At x y x.length k) →
  StrLaws.partsFrom x y.length a cuts=p::ps
 |[],p,cuts,a,f,hc,ha,hx,hG,hn=>by
  have hx:(cs x).drop a=cs p:=hx;have hp:=hc p (zk ..);cases cuts with
  |nil=>
   show[strSub x a x.length]=[p];congr 1;refine zW ?_;show(strSub x a x.length).cps.toList=_;rw[StrLaws.strSub_toList];show((cs x).drop a).take (x.length - a)=_;rw[kn (by rw[QN,dF];exact zi _),hx]
  |cons d r=>
   obtain⟨g1,g2,_,_⟩:=hG;obtain⟨t,et⟩:=Yb g2;refine absurd ?_ hp;rw[<-hx,show(cs x).drop a=((cs x).drop a).take (d - a)++(cs x).drop d by
    rw[show(cs x).drop d=((cs x).drop a).drop (d - a) by rw[List.drop_drop];congr 1;omega,kq],et,hy]
   exact ZO _ (zk ..)
 |q::ps,p,cuts,a,f,hc,ha,hx,hG,hn=>by
  have hx:(cs x).drop a=cs p++(cs y++cs (Str.join y (q::ps))):=by
   rw[hx,Kv,qR,qR,qV]
  have hp:=hc p (zk ..);have hl:=congrArg List.length hx;rw[QN,zl,zl] at hl;have hy1:1<=(cs y).length:=by rw[hy];simp
  have e1:(cs x).drop (a+(cs p).length)=cs y++cs (Str.join y (q::ps)):=by
   rw[<-List.drop_drop,hx,List.drop_left]
  have A1:StrLaws.At x y x.length (a+(cs p).length):=adK e1 (by omega);have no:∀ d,a<=d->d < a+(cs p).length->¬ StrLaws.At x y x.length d:=λd h1 h2 hA=>by
   obtain⟨t,et⟩:=Yb hA;refine hp ?_;have:(cs x).drop d=((cs p).drop (d - a))++(cs y++cs (Str.join y (q::ps))):=by
    rw[show(cs x).drop d=((cs x).drop a).drop (d - a) by rw[List.drop_drop];congr 1;omega,hx,List.drop_append_of_le_length (by omega)]
   rw[et,hy] at this;have h3:(cs p).drop (d - a)≠[]:=λz=>by
    have:=congrArg List.length z;rw[QN,List.length_nil] at this;omega
   cases hz:(cs p).drop (d - a) with
   |nil=>exact absurd hz h3
   |cons u v=>
    rw[hz] at this;injection this with e _;rw[e];exact List.mem_of_mem_drop (i:=d - a) (by rw[hz];exact zk ..)
  cases cuts with
  |nil=>
   have hG:f=a:=hG;exact absurd A1 (hn _ (by omega))
  |cons d r=>
   obtain⟨g1,g2,g3,g4⟩:=hG;have hd:d=a+(cs p).length:=by
    apply Decidable.byContradiction;intro hne;by_cases h:d < a+(cs p).length
    ·exact no d g1 h g2
    ·exact g3 _ (by omega) (by omega) A1
   subst hd;show strSub x a (a+(cs p).length)::StrLaws.partsFrom x y.length (a+(cs p).length+y.length) r=p::q::ps;rw[Eu hy ps q r _ f (λz hz=>hc z (zo _ hz)) (by rw[dF];omega) (by rw[<-List.drop_drop,e1,dF,List.drop_left]) g4 hn];congr 1;refine zW ?_;show(strSub x a (a+(cs p).length)).cps.toList=_;rw[StrLaws.strSub_toList];show((cs x).drop a).take (a+(cs p).length - a)=_;rw[hx,show a+(cs p).length - a=(cs p).length by omega,List.take_left]
theorem Yc (x:Str):1<=Builtin.Str.strKind x:=by
 unfold Builtin.Str.strKind;split
 ·exact zi _
 ·split<;>decide
theorem pK {y':List Nat} (hy:cs y=c::y') (hk:Builtin.Str.strKind y=1) (p:Str) (ps:LS_) (hc:∀ q∈p::ps,c∉cs q):Txt.split (Txt.join y (p::ps)) y=p::ps:=by
 have ej:Txt.join y (p::ps)=Str.join y (p::ps):=StrLaws.glued_eq_join y _;rw[ej];have hl:1<=y.length:=by rw[dF,hy];simp
 generalize hx:Str.join y (p::ps)=x;obtain⟨f,hG,hn⟩:=StrLaws.occ_tight x y hl;have key:=Eu (x:=x) hy ps p _ 0 f hc (QP _) (by rw[hx];rfl) hG hn;unfold Txt.split;split
 ·rename_i h;rw[kF,qE,qE] at h;have:=Yc x;have h:x.length < y.length:=by omega
  cases ps with
  |nil=>rw[<-hx];rfl
  |cons q ps=>
   rw[<-hx,Kv,aV,aV] at h;omega
 ·split
  ·rename_i h;rw[List.isEmpty_iff.mp h] at key;have key:[strSub x 0 x.length]=p::ps:=key;rw[StrLaws.sub_whole] at key;exact key
  ·rw[StrLaws.partsBetween_eq];exact key
theorem Ji {s:Str} (h:c∈cs s):yx ⟨#[c]⟩ s=true:=by
 unfold yx;obtain⟨i,hi⟩:=(mem_iff_at s c).mp h;rcases StrLaws.occ_head s ⟨#[c]⟩ 1 (zi 1) with⟨h0,hn⟩|⟨i,r,h0,_,_⟩
 ·exact absurd hi (hn i)
 ·rw[h0];rfl
theorem Yd (h:n<=x.length):cs (Txt.slice x (some (n:Int)) none)=(cs x).drop n:=by
 rw[slice_from_eq (b:=x.length) (by omega) (by omega) rfl];show((cs x).drop ((n:Int).toNat)).take _=_;rw[km,kn (by rw[QN,<-dF];omega)]
theorem Ye (h:n<=x.length):cs (Txt.slice x none (some (n:Int)))=(cs x).take n:=by
 have:=slice_closes_to (x:=x) (j:=(n:Int)) ⟨by omega,by rw[show x.cps.toList.length=x.length by simp[Str.length]];omega⟩;rw[eq_of_beq this];show((cs x).drop 0).take _=_;simp
theorem Yg (x:Str):chars x=(cs x).map λc=>⟨#[c]⟩:=rfl
theorem mK:∀ (y p:Str) (ps:LS_),cs (Txt.join y (p::ps))=cs p++ps.flatMap λq=>cs y++cs q:=by
 intro y p ps;rw[show Txt.join y (p::ps)=Str.join y (p::ps) from StrLaws.glued_eq_join y _]
 induction ps generalizing p with
 |nil=>simp[Str.join]
 |cons q ps ih=>rw[Kv,qR,qR,ih,JJ,qV,qV]
end P1
end
section
set_option maxHeartbeats 1000000
namespace P1
open L2 S1 S6
section
variable [Inhabited α]
def Va (lt:α->α->Bool) (xs:List α):Bool:=((rng 0 ((xs.length:Int) - 1).toNat).map λi:Int=>lt (at' xs i) (at' xs (i+1))).all id
theorem Oa (a:α) (l:List α) (h:k < l.length):at' (a::l) ((k:Int)+1)=at' l (k:Int):=by
 have e:=sX (a::l) (k+1) (by simp;omega);rw[sX l k h,show((k:Int)+1)=((k+1:Nat):Int) by omega,e];rfl
theorem Vb (lt:α->α->Bool) (a b:α) (l:List α):Va lt (a::b::l)=(lt a b&&Va lt (b::l)):=by
 unfold Va;rw[show(((a::b::l).length:Int) - 1).toNat=l.length+1 by simp only[ZN];omega,show(((b::l).length:Int) - 1).toNat=l.length by simp only[ZN];omega,X8,zC,jn,Qb];refine congr (congrArg _ ?_) (congrArg (λl:List Bool=>l.all id) ?_)
 ·have e0:=sX (a::b::l) 0 (by simp);have e1:=sX (a::b::l) 1 (by simp);show lt (at' (a::b::l) ((0:Nat):Int)) (at' (a::b::l) ((1:Nat):Int))=lt a b;rw[e0,e1];rfl
 ·apply kb;intro i hi;obtain⟨k,hk,rfl⟩:=p7 hi;have e1:=Oa a (b::l) (k:=k) (by simp;omega);have e2:=Oa a (b::l) (k:=k+1) (by simp;omega);have e3:((k+1:Nat):Int)=(k:Int)+1:=by omega
  rw[e3] at e2;simp only[Function.comp];rw[e1,e2]
theorem wA {lt:α->α->Bool} (tr:∀ a b c,lt a b=true->lt b c=true->lt a c=true):∀ (xs:List α),Va lt xs=true↔xs.Pairwise λa b=>lt a b=true
 |[]=>by simp[Va,rng]
 |[a]=>by simp[Va,rng]
 |a::b::l=>by
  rw[Vb,ZE,wA tr (b::l),@List.pairwise_cons _ _ a (b::l)];constructor
  ·intro⟨h1,h2⟩;refine⟨λy hy=>?_,h2⟩;rcases List.mem_cons.mp hy with rfl|hy
   ·exact h1
   ·exact tr _ _ _ h1 (QE h2 hy)
  ·intro⟨h1,h2⟩;exact⟨h1 b (zk ..),h2⟩
end
theorem adL (a b c:Str) (h1:wg a b=true) (h2:wg b c=true):wg a c=true:=by
 unfold wg at *
 simp only[qE] at *
 exact List.lt_trans h1 h2
section
variable {e:α->Dt} [j6 e]
theorem Yh (a b c:α) (h1:Jf e a b=true) (h2:Jf e b c=true):Jf e a c=true:=jL h1 h2
theorem aaW (a b:α):Jf e a b=true↔leT e a b=true/\a≠b:=by
 unfold Jf leT wH;constructor
 ·intro h;refine⟨?_,λz=>?_⟩
  ·cases q:gk (j6.k e b) (j6.k e a) with
   |false=>rfl
   |true=>have:=jL h q;rw[u6] at this;cases this
  ·rw[z,u6] at h;cases h
 ·rintro⟨h1,h2⟩;cases q:gk (j6.k e a) (j6.k e b) with
  |true=>rfl
  |false=>
   have h1:gk (j6.k e b) (j6.k e a)=false:=by
    cases z:gk (j6.k e b) (j6.k e a) with
    |false=>rfl
    |true=>rw[z] at h1;cases h1
   exact absurd (j6.inj _ _ (u9 q h1)) h2
end
end P1
end
namespace P1
open L2
open PySem.Builtin PySem.Builtin.Str
theorem join_split (x y:Str):Txt.join y (Txt.split x y)=x:=(StrLaws.glued_eq_join y _).trans (StrLaws.join_split x y)
end P1
section
set_option maxHeartbeats 1000000
namespace P1
open L2
open PySem.Builtin PySem.Builtin.Str
end P1
end
section
set_option synthInstance.maxSize 100000
namespace G51
open L2 P1
noncomputable section
abbrev LD_:=List P1.Dt
abbrev aR:Type:=Int×Str×Str×Int
abbrev aU:aR->Dt:=eP4 eI eS eS eI
abbrev bC:Type:=Str×Str×Int
abbrev bG:bC->Dt:=eP3 eS eS eI
abbrev gJ:Type:=LS_×(List aR)×(List bC)
abbrev cV:gJ->Dt:=eP3 (eT eS) (eT aU) (eT bG)
abbrev afL:Type:=Dt×Dt×Dt
abbrev afM:afL->Dt:=eP3 eD eD eD
abbrev Ew:Type:=Int×Str
abbrev ahy:Type:=gJ×LS_×(List aR)×(List bC)
abbrev Ob:ahy->Dt:=eP4 cV (eT eS) (eT aU) (eT bG)
def aaX (d:Dt):afL:=(PK d 0,PK d 1,PK d 2)
def adM (d:Dt):aR:=(QW (PK d 0),Kg (PK d 1),Kg (PK d 2),QW (PK d 3))
def adN (d:Dt):bC:=(Kg (PK d 0),Kg (PK d 1),QW (PK d 2))
def top (i:Nat):Stmt:=PySem.Challenge.pw_onefolk_k51_grounds_written.main.body.getD i (.Pass ⟨0,0,0,0⟩)
abbrev Ey:Stmt:=top 39
abbrev wR:Stmt:=top 40
abbrev Ar:Stmt:=top 41
abbrev yV:Stmt:=top 42
abbrev Av:Stmt:=top 43
abbrev Ez:Stmt:=top 44
abbrev wU:Stmt:=top 30
abbrev EY:Stmt:=top 31
abbrev wV:Stmt:=top 29
abbrev Fb:Stmt:=top 10
abbrev yW:Stmt:=top 15
abbrev Jj:Stmt:=top 14
abbrev yX:Stmt:=top 9
abbrev Aw:Stmt:=top 23
abbrev vK:Stmt:=top 33
abbrev Ax:Stmt:=top 8
abbrev Fd:Stmt:=top 7
abbrev Fe:Stmt:=top 6
abbrev Ay:Stmt:=top 18
abbrev Oc:Stmt:=top 21
abbrev Az:Stmt:=top 20
abbrev Ba:Stmt:=top 34
abbrev Od:Stmt:=top 35
abbrev Fg:Stmt:=top 26
abbrev rO:Stmt:=top 36
abbrev wW:Stmt:=top 37
abbrev wX:Stmt:=top 32
abbrev wY:Stmt:=top 24
abbrev Fi:Stmt:=top 25
abbrev Bb:Stmt:=top 22
abbrev Bc:Stmt:=top 45
abbrev s_law:Stmt:=top 46
def fuel:Nat:=4
def wZ:Ev->Option Out:=(aF (aF (setG 2 (b2 iB (b2 dD (b2 wF (gv 2) (cB (.int 69621))) (gv 3)) (cB (.int 2147483647)))) eF) (ig [3]))
def sZ:Ev->Option Out:=(aF (wJ (xH R7 (gv 1) (bR pG (aq (gv 0) aD))) (aF (dZ (b2 eX (gv 0) (gv 1))) eF) eF) (aF (setG 2 (b2 iB (b2 wF (cB (.int 48271)) (b2 dD (b2 dD (b2 wF (gv 1) (gv 1)) (b2 wF (cB (.int 7)) (gv 1))) (cB (.int 11)))) (cB (.int 2147483647)))) (aF (qO (itF (Lx (gv 0) qN (rG (cB (.int 3))))) (gO 3) wZ) (aF (dZ (gv 2)) eF))))
def iG:List Bx->Option Bx:=dj 4 sZ
def lU:Ev->Option Out:=(aF (aF (setG 3 (b2 iB (b2 dD (b2 dD (b2 wF (gv 3) (b2 dD (b2 iB (gv 3) (cB (.int 65521))) (cB (.int 40487)))) (b2 wF (cB (.int 7)) (gv 5))) (cB (.int 5))) (cB (.int 1999999973)))) (aF (GF 2 (b2 eX (bR oN (aq (gv 3) (aq (b2 iB (gv 4) (cB (.int 1000000))) aD))) (bR Wx (aq (b2 gtB (gv 4) (cB (.int 0))) aD)))) (aF (setG 4 (b2 Ig (gv 4) (cB (.int 1000000)))) eF))) (ig [5]))
def mL:Ev->Option Out:=(aF (setG 2 (bR oN aD)) (aF (setG 3 (b2 iB (b2 wF (b2 dD (b2 iB (gv 0) (cB (.int 1999999973))) (cB (.int 31))) (cB (.int 765432101))) (cB (.int 1999999973)))) (aF (setG 4 (cB (.int 0))) (aF (wJ (Mi (xH R7 (gv 0) (cB (.int 0))) (xH geB (gv 0) (b2 ac2 (cB (.int 10)) (cB (.int 18))))) (aF (aF (setG 4 (bR Ww (aq (gv 0) aD))) eF) (ig [])) (aF eF (ig []))) (aF (qO (R6 (aq (gv 1) aD)) (gO 5) lU) (aF (JF 2) eF))))))
def cY:List Bx->Option Bx:=dj 6 mL
def pN:Ev->Option Out:=(aF (aF (setG 7 (b2 eX (gv 2) (b2 iB (b2 dD (gv 6) (b2 eX (gv 0) (cB (.int 2)))) (cB (.int 15))))) (aF (setG 8 (b2 dD (b2 dD (Lx (gv 3) qN (rG (gv 4))) (gv 7)) (Lx (gv 3) (rG (gv 4)) qN))) (aF (wJ (xH eqB (b2 iB (b2 eX (gv 0) (cB (.int 3))) (cB (.int 3))) (cB (.int 1))) (aF (aF (setG 8 (b2 wF (b2 eX (gv 2) (b2 Ig (gv 6) (cB (.int 8)))) (b2 dD (cB (.int 1)) (b2 iB (gv 6) (cB (.int 8)))))) eF) (ig [])) (aF eF (ig []))) (aF (GF 5 (gv 8)) eF)))) (ig [6,7,8]))
def p8:Ev->Option Out:=(aF (setG 2 (cB (.str "abcdefghijklmnopqrstuvwxyz"))) (aF (setG 3 (b1 (yH "") (fu (R6 (aq (b2 iB (b2 eX (gv 0) (cB (.int 0))) (cB (.int 6))) aD)) (gO 2) pH (b2 eX (gv 0) (b2 iB (b2 Ig (b2 eX (gv 1) (gv 2)) (cB (.int 40))) (cB (.int 26)))) [2,0] 1))) (aF (setG 4 (b2 iB (b2 eX (gv 0) (cB (.int 1))) (b2 dD (bR pG (aq (gv 3) aD)) (cB (.int 1))))) (aF (setG 5 (bR oN aD)) (aF (qO (R6 (aq (gv 1) aD)) (gO 6) pN) (aF (JF 5) eF))))))
def nJ:List Bx->Option Bx:=dj 9 p8
def n6:Ev->Option Out:=(aF (aF (setG 9 (bJ 2 cY (aq (b1 uM (bJ 2 iG (aq (gv 0) (aq (b1 uM (b2 dD (b2 dD (gv 1) (cB (.int 1))) (gv 8))) aD)))) (aq (cB (.int 4)) aD)))) (aF (Z5 10 11 (aq (b2 iB (b2 eX (gv 9) (cB (.int 0))) (bR GJ (aq (cB (.int 1)) (aq (gv 2) aD)))) (aq (b2 iB (b2 eX (gv 9) (cB (.int 1))) (bR GJ (aq (cB (.int 1)) (aq (gv 2) aD)))) aD))) (aF (setG 12 (b2 eX (bR oN (aq (b1 uM (b2 dD (cB (.int 1)) (b2 iB (b2 eX (gv 9) (cB (.int 2))) (cB (.int 3))))) (aq (b1 uM (b2 dD (cB (.int 1)) (b2 iB (b2 eX (gv 9) (cB (.int 2))) (cB (.int 9))))) (aq (b1 uM (b2 dD (cB (.int 1)) (b2 iB (b2 eX (gv 9) (cB (.int 2))) (cB (.int 1000))))) aD)))) (b2 iB (b2 eX (gv 5) (cB (.int 4))) (cB (.int 3))))) (aF (wJ (xH Qn (gv 10) (gv 11)) (aF (aF (GF 7 (bR gj (aq (b2 subB (cB (.int 0)) (gv 12)) (aq (b2 eX (gv 6) (bR Ur (aq (gv 10) (aq (gv 11) aD)))) (aq (b2 eX (gv 6) (bR GJ (aq (gv 10) (aq (gv 11) aD)))) (aq (b2 eX (bR oN (aq (cB (.int 0)) (aq (cB (.int 2)) (aq (cB (.int 10)) aD)))) (b2 iB (b2 eX (gv 9) (cB (.int 3))) (cB (.int 3)))) aD)))))) eF) (ig [])) (aF eF (ig []))) eF)))) (ig [8,9,10,11,12]))
def n8:Ev->Option Out:=(aF (aF (setG 9 (bJ 2 cY (aq (b1 uM (bJ 2 iG (aq (gv 0) (aq (b1 uM (b2 dD (b2 dD (gv 1) (cB (.int 1))) (gv 8))) aD)))) (aq (cB (.int 8)) aD)))) (aF (Z5 10 11 (aq (b2 iB (b2 eX (gv 9) (cB (.int 5))) (bR GJ (aq (cB (.int 1)) (aq (gv 2) aD)))) (aq (b2 iB (b2 eX (gv 9) (cB (.int 6))) (bR GJ (aq (cB (.int 1)) (aq (gv 2) aD)))) aD))) (aF (wJ (xH Qn (gv 10) (gv 11)) (aF (aF (GF 14 (bR gj (aq (b2 eX (gv 6) (bR Ur (aq (gv 10) (aq (gv 11) aD)))) (aq (b2 eX (gv 6) (bR GJ (aq (gv 10) (aq (gv 11) aD)))) (aq (b2 eX (bR oN (aq (cB (.int 2)) (aq (cB (.int 10)) aD))) (b2 iB (b2 eX (gv 9) (cB (.int 7))) (cB (.int 2)))) aD))))) eF) (ig [])) (aF eF (ig []))) eF))) (ig [8,9,10,11]))
def oU:Ev->Option Out:=(aF (setG 5 (bJ 2 cY (aq (b1 uM (bJ 2 iG (aq (gv 0) (aq (gv 1) aD)))) (aq (cB (.int 6)) aD)))) (aF (setG 6 (bR Io (aq (bJ 2 nJ (aq (gv 5) (aq (gv 2) aD))) aD))) (aF (setG 7 (bR oN aD)) (aF (qO (R6 (aq (gv 3) aD)) (gO 8) n6) (aF (setG 13 (fu (Bq (yQ (Ka (gv 7)))) (j9 4 (bf (gO 0) (bf (gO 1) (bf (gO 2) (bf (gO 3) nC))))) pH (bR gj (aq (b2 subB (cB (.int 0)) (gv 0)) (aq (gv 1) (aq (gv 2) (aq (gv 3) aD))))) [] 4)) (aF (setG 14 (bR oN aD)) (aF (qO (R6 (aq (gv 4) aD)) (gO 8) n8) (aF (dZ (bR gj (aq (bR gC (aq (gv 6) aD)) (aq (bR gC (aq (gv 13) aD)) (aq (bR gC (aq (yQ (Ka (gv 14))) aD)) aD))))) eF))))))))
def oV:List Bx->Option Bx:=dj 15 oU
def qb:Ev->Option Out:=(aF (setG 1 (bJ 2 cY (aq (b1 uM (bJ 2 iG (aq (gv 0) (aq (cB (.int 0)) aD)))) (aq (cB (.int 9)) aD)))) (aF (GD (j9 3 (bf (gO 2) (bf (gO 3) (bf (gO 4) nC)))) (bJ 5 oV (aq (gv 0) (aq (cB (.int 0)) (aq (b2 iB (b2 eX (gv 1) (cB (.int 6))) (cB (.int 9))) (aq (b2 iB (b2 eX (gv 1) (cB (.int 7))) (cB (.int 13))) (aq (b2 iB (b2 eX (gv 1) (cB (.int 8))) (cB (.int 6))) aD))))))) (aF (wJ (xH eqB (b2 iB (b2 eX (gv 1) (cB (.int 5))) (cB (.int 4))) (cB (.int 1))) (aF (aF (setG 3 (bR gC (aq (fu (Bq (gv 3)) (j9 4 (bf (gO 0) (bf (gO 1) (bf (gO 2) (bf (gO 3) nC))))) pH (bR gj (aq (gv 0) (aq (gv 1) (aq (gv 2) (aq (b2 wF (gv 3) (cB (.int 49999))) aD))))) [] 4) aD))) (aF (setG 4 (bR gC (aq (fu (Bq (gv 4)) (j9 3 (bf (gO 0) (bf (gO 1) (bf (gO 2) nC)))) pH (bR gj (aq (gv 0) (aq (gv 1) (aq (b2 wF (gv 2) (cB (.int 50000))) aD)))) [] 3) aD))) eF)) (ig [])) (aF eF (ig []))) (aF (wJ (Gy (xH gtB (b2 iB (b2 eX (gv 1) (cB (.int 5))) (cB (.int 4))) (cB (.int 1))) (xH Qn (gv 3) (bR gj aD))) (aF (aF (GD (j9 4 (bf (gO 5) (bf (gO 6) (bf (gO 7) (bf (gO 8) nC))))) (b2 eX (gv 3) (b2 iB (b2 Ig (b2 eX (gv 1) (cB (.int 5))) (cB (.int 4))) (bR pG (aq (gv 3) aD))))) (aF (setG 9 (bR oN (aq (bR gj (aq (b2 subB (cB (.int 0)) (gv 5)) (aq (gv 6) (aq (gv 7) (aq (cB (.int 2)) aD))))) (aq (bR gj (aq (b2 subB (cB (.int 0)) (gv 5)) (aq (gv 6) (aq (gv 7) (aq (cB (.int 9)) aD))))) (aq (bR gj (aq (b2 subB (cB (.int 0)) (gv 5)) (aq (gv 6) (aq (gv 7) (aq (cB (.int 10)) aD))))) (aq (bR gj (aq (b2 subB (cB (.int 0)) (gv 5)) (aq (gv 6) (aq (gv 7) (aq (cB (.int 100)) aD))))) aD)))))) (aF (setG 9 (yQ (Ka (b2 dD (gv 9) (fu (Bq (gv 3)) (gO 0) pH (b1 uM (b2 dD (bR gj (aq (b2 subB (cB (.int 0)) (b2 eX (gv 0) (cB (.int 0)))) aD)) (Lx (gv 0) (rG (cB (.int 1))) qN))) [] 1))))) (aF (setG 3 (bR gC (aq (fu (Bq (gv 9)) (gO 0) pH (b1 uM (b2 dD (bR gj (aq (b2 subB (cB (.int 0)) (b2 eX (gv 0) (cB (.int 0)))) aD)) (Lx (gv 0) (rG (cB (.int 1))) qN))) [] 1) aD))) (aF (setG 4 (bR gC (aq (yQ (Ka (b2 dD (bR Dr (aq (gv 4) aD)) (bR oN (aq (bR gj (aq (gv 6) (aq (gv 7) (aq (cB (.int 2)) aD)))) (aq (bR gj (aq (gv 6) (aq (gv 7) (aq (cB (.int 10)) aD)))) (aq (bR gj (aq (gv 6) (aq (gv 7) (aq (cB (.int 100)) aD)))) aD))))))) aD))) eF))))) (ig [5,6,7,8,9])) (aF eF (ig [5,6,7,8,9]))) (aF (dZ (bR gj (aq (gv 2) (aq (gv 3) (aq (gv 4) aD))))) eF)))))
def qd:List Bx->Option Bx:=dj 10 qb
def w5:Ev->Option Out:=(aF (aF (GF 1 (b1 uM (b2 dD (b2 dD (b2 dD (b2 dD (b2 dD (b2 dD (gv 3) (cB (.str "-"))) (gv 4)) (cB (.str " "))) (bR Uq (aq (gv 2) aD))) (cB (.str " "))) (bR Uq (aq (gv 5) aD))))) eF) (ig [2,3,4,5]))
def w6:Ev->Option Out:=(aF (aF (GF 1 (b1 uM (b2 dD (b2 dD (b2 dD (b2 dD (gv 3) (cB (.str "/"))) (gv 4)) (cB (.str " "))) (bR Uq (aq (gv 5) aD))))) eF) (ig [3,4,5]))
def tB:Ev->Option Out:=(aF (setG 1 (bR oN (aq (b1 uM (b1 (yH " ") (b2 dD (bR oN (aq (cB (.str "names")) aD)) (bR Dr (aq (b2 eX (gv 0) (cB (.int 0))) aD))))) aD))) (aF (qO (itF (b2 eX (gv 0) (cB (.int 1)))) (j9 4 (bf (gO 2) (bf (gO 3) (bf (gO 4) (bf (gO 5) nC))))) w5) (aF (qO (itF (b2 eX (gv 0) (cB (.int 2)))) (j9 3 (bf (gO 3) (bf (gO 4) (bf (gO 5) nC)))) w6) (aF (dZ (b1 (yH "\n") (gv 1))) eF))))
def tD:List Bx->Option Bx:=dj 6 tB
def mO:Ev->Option Out:=(aF (GD (j9 4 (bf (gO 1) (bf (gO 2) (bf (gO 3) (bf (gO 4) nC))))) (gv 0)) (aF (dZ (N5 (kO (hoF (gv 2)) (kO (cB (.str "-")) (kO (hoF (gv 3)) (kO (cB (.str " ")) (kO (hoI (gv 1)) (kO (cB (.str " ")) (kO (hoI (gv 4)) aaI))))))))) eF))
def mQ:List Bx->Option Bx:=dj 5 mO
def tH:Ev->Option Out:=(aF (GD (j9 3 (bf (gO 1) (bf (gO 2) (bf (gO 3) nC)))) (gv 0)) (aF (dZ (N5 (kO (hoF (gv 1)) (kO (cB (.str "/")) (kO (hoF (gv 2)) (kO (cB (.str " ")) (kO (hoI (gv 3)) aaI))))))) eF))
def tK:List Bx->Option Bx:=dj 4 tH
def mR:Ev->Option Out:=(aF (GD (j9 3 (bf (gO 1) (bf (gO 2) (bf (gO 3) nC)))) (gv 0)) (aF (setG 4 (b1 (yH " ") (b2 dD (bR oN (aq (cB (.str "names")) aD)) (bR Dr (aq (gv 1) aD))))) (aF (dZ (b1 (yH "\n") (b2 dD (b2 dD (bR oN (aq (gv 4) aD)) (fu (Bq (gv 2)) (gO 0) pH (b1 uM (bJ 1 mQ (aq (gv 0) aD))) [] 1)) (fu (Bq (gv 3)) (gO 0) pH (b1 uM (bJ 1 tK (aq (gv 0) aD))) [] 1)))) eF)))
def jA:List Bx->Option Bx:=dj 5 mR
def tL:Ev->Option Out:=(aF (wJ (sy (tV (uF eZ (gv 0)))) (aF noG eF) eF) (aF (dZ (ifV (tV (gv 0)) (b2 GZ (gv 0) (cB (.str "\n"))) (bR oN aD))) eF))
def tM:List Bx->Option Bx:=dj 1 tL
def oW:Ev->Option Out:=(aF (dZ (qL (uF eZ (gv 0)) (qL (Zx leB leB (cB (.int 1)) (bR pG (aq (gv 0) aD)) (gv 2)) (bR allB (aq (fu (Bq (gv 0)) (gO 1) pH (b2 inF (gv 1) (gv 0)) [1] 1) aD))))) eF)
def oX:List Bx->Option Bx:=dj 3 oW
def wB:Ev->Option Out:=(aF (dZ (bJ 3 oX (aq (gv 0) (aq (cB (.str "abcdefghijklmnopqrstuvwxyz")) (aq (cB (.int 8)) aD))))) eF)
def lV:List Bx->Option Bx:=dj 1 wB
def fG:Ev->Option Out:=(aF (dZ (bR allB (aq (fu (R6 (aq (b2 subB (bR pG (aq (gv 0) aD)) (cB (.int 1))) aD)) (gO 1) pH (b2 (orB R7 Bv) (b2 eX (gv 0) (gv 1)) (b2 eX (gv 0) (b2 dD (gv 1) (cB (.int 1))))) [0] 1) aD))) eF)
def dN:List Bx->Option Bx:=dj 1 fG
def qe:Ev->Option Out:=(aF (dZ (qL (uF is_tuple (gv 0)) (qL (bR allB (aq (fu (Bq (gv 0)) (gO 0) pH (b1 uM (bJ 1 lV (aq (gv 0) aD))) [] 1) aD)) (bJ 1 dN (aq (gv 0) aD))))) eF)
def jT:List Bx->Option Bx:=dj 1 qe
def kW:Ev->Option Out:=(aF (setG 1 (b2 GZ (gv 0) (cB (.str " ")))) (aF (setG 2 (bR gC (aq (Lx (gv 1) (rG (cB (.int 1))) qN) aD))) (aF (dZ (b1 uM (ifV (Gy (xH eqB (b2 eX (gv 1) (cB (.int 0))) (cB (.str "names"))) (tV (bJ 1 jT (aq (gv 2) aD)))) (gv 2) (cB .non)))) eF)))
def kY:List Bx->Option Bx:=dj 3 kW
def qg:Ev->Option Out:=(aF (wJ (Mi (sy (tC3 leB leB (cB (.int 1)) (bR pG (aq (gv 0) aD)) (cB (.int 6)))) (sy (tV (bR allB (aq (fu (Bq (gv 0)) (gO 0) pH (b2 inF (gv 0) (cB (.str "0123456789"))) [] 1) aD))))) (aF (dZ (cB .non)) eF) eF) (aF (wJ (Gy (xH eqB (b2 eX (gv 0) (cB (.int 0))) (cB (.str "0"))) (xH Qn (gv 0) (cB (.str "0")))) (aF (dZ (cB .non)) eF) eF) (aF (dZ (b1 uM (bR N8 (aq (gv 0) aD)))) eF)))
def iH:List Bx->Option Bx:=dj 1 qg
def tO:Ev->Option Out:=(aF (dZ (qL (uF is_tuple (gv 0)) (b2 eqB (bR pG (aq (gv 0) aD)) (gv 1)))) eF)
def iI:List Bx->Option Bx:=dj 2 tO
def tW:Ev->Option Out:=(aF (dZ (qL (uF zK (gv 0)) (Zz (uF is_bool (gv 0))))) eF)
def lW:List Bx->Option Bx:=dj 1 tW
def qj:Ev->Option Out:=(aF (dZ (qL (bJ 1 lW (aq (gv 0) aD)) (Zx leB leB (cB (.int 1)) (gv 0) (cB (.int 1000))))) eF)
def ql:List Bx->Option Bx:=dj 1 qj
def yZ:Ev->Option Out:=(aF (wJ (sy (tV (bJ 2 iI (aq (gv 0) (aq (cB (.int 3)) aD))))) (aF (dZ (cB (.bl false))) eF) eF) (aF (GD (j9 3 (bf (gO 1) (bf (gO 2) (bf (gO 3) nC)))) (gv 0)) (aF (dZ (qL (bJ 1 lV (aq (gv 1) aD)) (qL (bJ 1 lV (aq (gv 2) aD)) (qL (b2 R7 (gv 1) (gv 2)) (qL (bJ 1 lW (aq (gv 3) aD)) (b2 geB (gv 3) (cB (.int 0)))))))) eF)))
def nM:List Bx->Option Bx:=dj 4 yZ
def qm:Ev->Option Out:=(aF (dZ (qL (bJ 2 iI (aq (gv 0) (aq (cB (.int 4)) aD))) (qL (bJ 1 ql (aq (b2 eX (gv 0) (cB (.int 0))) aD)) (bJ 1 nM (aq (b1 uM (Lx (gv 0) (rG (cB (.int 1))) qN)) aD))))) eF)
def jU:List Bx->Option Bx:=dj 1 qm
def qp:Ev->Option Out:=(aF (setG 1 (b2 GZ (gv 0) (cB (.str " ")))) (aF (setG 2 (b2 GZ (b2 eX (gv 1) (cB (.int 0))) (cB (.str "-")))) (aF (wJ (Mi (xH Qn (bR pG (aq (gv 1) aD)) (cB (.int 3))) (xH Qn (bR pG (aq (gv 2) aD)) (cB (.int 2)))) (aF (dZ (cB .non)) eF) eF) (aF (setG 3 (bR gj (aq (b1 uM (bJ 1 iH (aq (b2 eX (gv 1) (cB (.int 1))) aD))) (aq (b2 eX (gv 2) (cB (.int 0))) (aq (b2 eX (gv 2) (cB (.int 1))) (aq (b1 uM (bJ 1 iH (aq (b2 eX (gv 1) (cB (.int 2))) aD))) aD)))))) (aF (dZ (b1 uM (ifV (tV (bJ 1 jU (aq (gv 3) aD))) (gv 3) (cB .non)))) eF)))))
def qt:List Bx->Option Bx:=dj 4 qp
def za:Ev->Option Out:=(aF (setG 1 (b2 GZ (gv 0) (cB (.str " ")))) (aF (setG 2 (b2 GZ (b2 eX (gv 1) (cB (.int 0))) (cB (.str "/")))) (aF (wJ (Mi (xH Qn (bR pG (aq (gv 1) aD)) (cB (.int 2))) (xH Qn (bR pG (aq (gv 2) aD)) (cB (.int 2)))) (aF (dZ (cB .non)) eF) eF) (aF (setG 3 (bR gj (aq (b2 eX (gv 2) (cB (.int 0))) (aq (b2 eX (gv 2) (cB (.int 1))) (aq (b1 uM (bJ 1 iH (aq (b2 eX (gv 1) (cB (.int 1))) aD))) aD))))) (aF (dZ (b1 uM (ifV (tV (bJ 1 nM (aq (gv 3) aD))) (gv 3) (cB .non)))) eF)))))
def zc:List Bx->Option Bx:=dj 4 za
def tX:Ev->Option Out:=(aF (GD (j9 4 (bf (gO 1) (bf (gO 2) (bf (gO 3) (bf (gO 4) nC))))) (gv 0)) (aF (dZ (bR gj (aq (b1 Qo (gv 1)) (aq (gv 2) (aq (gv 3) (aq (gv 4) aD)))))) eF))
def jM:List Bx->Option Bx:=dj 5 tX
def je:Ev->Option Out:=(aF (wJ (Mi (xH Qq (b2 eX (gv 1) (cB (.int 1))) (gv 2)) (xH Qq (b2 eX (gv 1) (cB (.int 2))) (gv 2))) (aF (dZ (cB (.bl false))) eF) eF) (aF (dZ (orV (Xz (gv 0)) (b2 Bv (bJ 1 jM (aq (b2 eX (gv 0) (b1 Qo (cB (.int 1)))) aD)) (bJ 1 jM (aq (gv 1) aD))))) eF))
def jf:List Bx->Option Bx:=dj 3 je
def mU:Ev->Option Out:=(aF (wJ (Mi (xH Qq (b2 eX (gv 1) (cB (.int 0))) (gv 2)) (xH Qq (b2 eX (gv 1) (cB (.int 1))) (gv 2))) (aF (dZ (cB (.bl false))) eF) eF) (aF (dZ (orV (Xz (gv 0)) (b2 Bv (b2 eX (gv 0) (b1 Qo (cB (.int 1)))) (gv 1)))) eF))
def mV:List Bx->Option Bx:=dj 3 mU
def rP:Ev->Option Out:=(aF (aF (setG 7 (bJ 1 qt (aq (gv 6) aD))) (aF (setG 8 (bJ 1 zc (aq (gv 6) aD))) (aF (wJ (Gy (xH Il (gv 7) (cB .non)) (Gy (sy (tV (gv 4))) (tV (bJ 3 jf (aq (gv 3) (aq (gv 7) (aq (gv 2) aD))))))) (aF (GF 3 (gv 7)) eF) (aF (wJ (Gy (xH Il (gv 8) (cB .non)) (tV (bJ 3 mV (aq (gv 4) (aq (gv 8) (aq (gv 2) aD)))))) (aF (GF 4 (gv 8)) eF) (aF noG eF)) eF)) eF))) (ig [5,6,7,8]))
def mW:Ev->Option Out:=(aF (setG 1 (bJ 1 tM (aq (gv 0) aD))) (aF (setG 2 (ifV (tV (gv 1)) (bJ 1 kY (aq (b2 eX (gv 1) (cB (.int 0))) aD)) (cB .non))) (aF (wJ (xH isB (gv 2) (cB .non)) (aF noG eF) eF) (aF (setG 3 (bR oN aD)) (aF (setG 4 (bR oN aD)) (aF (qO (adJ 1 (aq (b1 uM (Lx (gv 1) (rG (cB (.int 1))) qN)) aD)) (j9 2 (bf (gO 5) (bf (gO 6) nC))) rP) (aF (dZ (bR gj (aq (gv 2) (aq (bR gC (aq (gv 3) aD)) (aq (bR gC (aq (gv 4) aD)) aD))))) eF)))))))
def mX:List Bx->Option Bx:=dj 9 mW
def mY:Ev->Option Out:=(aF (wJ (Mi (sy (tV (uF is_tuple (gv 0)))) (sy (tV (bR allB (aq (fu (Bq (gv 0)) (gO 0) pH (b1 uM (bJ 1 jU (aq (gv 0) aD))) [] 1) aD))))) (aF (dZ (cB (.bl false))) eF) eF) (aF (wJ (sy (tV (bR allB (aq (fu (Bq (gv 0)) (gO 1) pH (qL (b2 inF (b2 eX (gv 1) (cB (.int 1))) (gv 0)) (b2 inF (b2 eX (gv 1) (cB (.int 2))) (gv 0))) [1] 1) aD)))) (aF (dZ (cB (.bl false))) eF) eF) (aF (dZ (bJ 1 dN (aq (b1 uM (fu (Bq (gv 0)) (gO 0) pH (b1 uM (bJ 1 jM (aq (gv 0) aD))) [] 1)) aD))) eF)))
def mZ:List Bx->Option Bx:=dj 2 mY
def tY:Ev->Option Out:=(aF (wJ (Mi (sy (tV (uF is_tuple (gv 0)))) (sy (tV (bR allB (aq (fu (Bq (gv 0)) (gO 0) pH (b1 uM (bJ 1 nM (aq (gv 0) aD))) [] 1) aD))))) (aF (dZ (cB (.bl false))) eF) eF) (aF (dZ (qL (bR allB (aq (fu (Bq (gv 0)) (gO 1) pH (qL (b2 inF (b2 eX (gv 1) (cB (.int 0))) (gv 0)) (b2 inF (b2 eX (gv 1) (cB (.int 1))) (gv 0))) [1] 1) aD)) (bJ 1 dN (aq (gv 0) aD)))) eF))
def tZ:List Bx->Option Bx:=dj 2 tY
def qu:Ev->Option Out:=(aF (wJ (sy (tV (bJ 2 iI (aq (gv 0) (aq (cB (.int 3)) aD))))) (aF (dZ (cB (.bl false))) eF) eF) (aF (GD (j9 3 (bf (gO 1) (bf (gO 2) (bf (gO 3) nC)))) (gv 0)) (aF (dZ (qL (bJ 1 jT (aq (gv 1) aD)) (qL (bJ 2 mZ (aq (gv 2) (aq (gv 1) aD))) (bJ 2 tZ (aq (gv 3) (aq (gv 1) aD)))))) eF)))
def qw:List Bx->Option Bx:=dj 4 qu
def qx:Ev->Option Out:=(aF (setG 1 (bJ 1 tD (aq (gv 0) aD))) (aF (setG 2 (bJ 1 jA (aq (gv 0) aD))) (aF (wJ (Mi (sy (tV (uF eZ (gv 2)))) (xH Qn (gv 2) (gv 1))) (aF (dZ (cB (.bl false))) eF) eF) (aF (setG 3 (bJ 1 mX (aq (gv 1) aD))) (aF (wJ (Mi (xH Qn (gv 3) (gv 0)) (Mi (xH N7 (bJ 1 qw (aq (gv 3) aD)) (cB (.bl true))) (xH Qn (bJ 1 jA (aq (gv 3) aD)) (gv 1)))) (aF (dZ (cB (.bl false))) eF) eF) (aF (dZ (bR allB (aq (fu (Bq (b2 dD (b2 dD (b2 dD (bR gj (aq (gv 3) aD)) (gv 3)) (b2 eX (gv 3) (cB (.int 1)))) (b2 eX (gv 3) (cB (.int 2))))) (gO 0) pH (b1 uM (uF is_tuple (gv 0))) [] 1) aD))) eF))))))
def iJ:List Bx->Option Bx:=dj 4 qx
def Oe:Ev->Option Out:=(aF (aF (setG 3 (bJ 2 cY (aq (gv 2) (aq (cB (.int 28)) aD)))) (aF (setG 4 (bR gC (aq (fu (R6 (aq (bR pG (aq (b2 eX (gv 1) (cB (.int 1))) aD)) aD)) (gO 2) (xH gtB (b2 iB (b2 eX (gv 1) (gv 2)) (cB (.int 3))) (cB (.int 0))) (b2 eX (b2 eX (gv 0) (cB (.int 1))) (gv 2)) [1,3] 1) aD))) (aF (setG 5 (bR gC (aq (fu (R6 (aq (bR pG (aq (b2 eX (gv 1) (cB (.int 2))) aD)) aD)) (gO 2) (xH gtB (b2 iB (b2 eX (gv 1) (b2 dD (cB (.int 17)) (gv 2))) (cB (.int 3))) (cB (.int 0))) (b2 eX (b2 eX (gv 0) (cB (.int 2))) (gv 2)) [1,3] 1) aD))) (aF (wJ (sy (tV (bJ 1 iJ (aq (bR gj (aq (b2 eX (gv 1) (cB (.int 0))) (aq (gv 4) (aq (gv 5) aD)))) aD)))) (aF (dZ (cB (.bl false))) eF) eF) eF)))) (ig [2,3,4,5]))
def Tc:Ev->Option Out:=(aF (setG 1 (bJ 1 qd (aq (gv 0) aD))) (aF (wJ (Mi (sy (tV (bJ 1 iJ (aq (gv 1) aD)))) (Mi (sy (tV (bJ 1 iJ (aq (bR gj (aq (bR gj aD) (aq (bR gj aD) (aq (bR gj aD) aD)))) aD)))) (sy (tV (bJ 1 iJ (aq (bR gj (aq (b2 eX (gv 1) (cB (.int 0))) (aq (bR gj aD) (aq (bR gj aD) aD)))) aD)))))) (aF (dZ (cB (.bl false))) eF) eF) (aF (qO (itF (Lx (gv 0) (rG (cB (.int 1))) (rG (cB (.int 20))))) (gO 2) Oe) (aF (dZ (cB (.bl true))) eF))))
def F_law:List Bx->Option Bx:=dj 6 Tc
end
end G51
end
section
set_option synthInstance.maxSize 100000
namespace G51
open L2 P1
structure T (K:FG_) (mg:Str->Option Value) where
 iK:DQ K mg "_law_cell" Ey ["_law_script", "_law_k"]
 cZ:DQ K mg "_law_numbers" wR ["_law_cell_here", "_law_many"]
 qy:DQ K mg "_law_names" Ar ["_law_xs", "_law_many"]
 oY:DQ K mg "_law_ground" yV ["_law_script", "_law_at", "_law_many", "_law_reasons", "_law_bars"]
 qz:DQ K mg "_law_drawn" Av ["_law_script"]
 uc:DQ K mg "_law_text" Ez ["_law_ground_here"]
 m9:DQ K mg "show_reason" wU ["reason"]
 ud:DQ K mg "show_bar" EY ["bar"]
 jB:DQ K mg "show_ground" wV ["ground"]
 uf:DQ K mg "lines_in" Fb ["text"]
 oZ:DQ K mg "is_text_of" yW ["thing", "signs", "longest"]
 lX:DQ K mg "is_name" Jj ["thing"]
 fH:DQ K mg "are_rising" yX ["things"]
 jV:DQ K mg "are_names" Aw ["thing"]
 kZ:DQ K mg "names_row_in" vK ["line"]
 iM:DQ K mg "number_in" Ax ["text"]
 iQ:DQ K mg "is_tuple" Fd ["thing", "many"]
 lY:DQ K mg "is_whole" Fe ["thing"]
 qC:DQ K mg "is_weight" Ay ["thing"]
 nO:DQ K mg "is_bar" Oc ["thing"]
 jW:DQ K mg "is_reason" Az ["thing"]
 qD:DQ K mg "reason_in" Ba ["text"]
 zf:DQ K mg "bar_in" Od ["text"]
 jN:DQ K mg "place_of" Fg ["reason"]
 jg:DQ K mg "reason_follows" rO ["reasons", "reason", "names"]
 ni:DQ K mg "bar_follows" wW ["bars", "bar", "names"]
 nj:DQ K mg "read_ground" wX ["text"]
 nq:DQ K mg "are_reasons" wY ["thing", "names"]
 ug:DQ K mg "are_bars" Fi ["thing", "names"]
 qF:DQ K mg "is_ground" Bb ["thing"]
 iR:DQ K mg "_law_right" Bc ["_law_ground_here"]
 x_law:DQ K mg "law" s_law ["_law_script"]
 afN:mg "abs" = none
 zj:mg "all" = none
 adO:mg "bool" = none
 Og:mg "enumerate" = none
 Yi:mg "int" = none
 dO:mg "isinstance" = none
 rQ:mg "len" = none
 Q6:mg "list" = none
 Jk:mg "max" = none
 abK:mg "min" = none
 qG:mg "range" = none
 Td:mg "set" = none
 vL:mg "sorted" = none
 Jl:mg "str" = none
 fJ:mg "tuple" = none
 Vc:∃ tk,mg "FIGURES" = some (.str "0123456789" tk)
 Vd:∃ tk,mg "LETTERS" = some (.str "abcdefghijklmnopqrstuvwxyz" tk)
 Fj:∃ tk,mg "LONGEST_NAME" = some (.int 8 tk)
 Fl:∃ tk,mg "MOST_FIGURES" = some (.int 6 tk)
 G3:∃ tk,mg "MOST_WEIGHT" = some (.int 1000 tk)
 zm:∃ tk,mg "NAMES_WORD" = some (.str "names" tk)
section
variable (t:T K mg)
theorem Oh:bF ["_law_script", "_law_k", "_law_state", "_law_cell_here"] ["_law_script", "_law_k"] (aK Ey):=jw
theorem Oi:Ok P w base t.iK 1 2 iG:=wQ (g:=sZ) t.iK Oh λ_ _ _ _ _ _ hr hu nd=>(aA (gn (dh JX (ak 1) (bH lQ rfl t.rQ lO (aj (ak 0) au)) (cM _)) (aA (bK (aY (ak 0) (ak 1))) aG) aG) (aA (bw 2 nd (aO cU (aO qM aB (aO bO (aO bO (aO qM (ak 1) (ak 1)) (aO qM aB (ak 1))) aB)) aB)) (aA (sE PassesOwn.never rfl (Cg (yF (ak 0) nF (ju aB))) (aH 3 nd) (cN [3] (aA (bw 2 nd (aO cU (aO bO (aO qM (ak 2) aB) (ak 3)) aB)) aG))) (aA (bK (ak 2)) aG))))
theorem Fo:bF ["_law_cell_here", "_law_many", "_law_found", "_law_state", "_law_digits", "_law_k"] ["_law_cell_here", "_law_many"] (aK wR):=jw
theorem Fp:Ok P w base t.cZ 1 2 cY:=wQ (g:=mL) t.cZ Fo λ_ _ _ _ _ _ hr hu nd=>(aA (bw 2 nd (iw au)) (aA (bw 3 nd (aO cU (aO qM (aO bO (aO cU (ak 0) aB) aB) aB) aB)) (aA (bw 4 nd aB) (aA (gn (wD (lK (dh JX (ak 0) aB (cM _)) (j8 (dh abu (ak 0) (aO ac3 aB aB) (cM _))))) (cN [] (aA (bw 4 nd (bH ac9 rfl t.afN ac6 (aj (ak 0) au))) aG)) (cN [] aG)) (aA (sE PassesOwn.never rfl (nD rfl t.qG (aj (ak 1) au)) (aH 5 nd) (cN [5] (aA (bw 3 nd (aO cU (aO bO (aO bO (aO qM (ak 3) (aO bO (aO cU (ak 3) aB) aB)) (aO qM aB (ak 5))) aB) aB)) (aA (uV 2 (aY (iw (aj (ak 3) (aj (aO cU (ak 4) aB) au))) (bY ada rfl t.Yi Qs (aj (lJ R0 (ak 4) aB (cM _)) au)))) (aA (bw 4 nd (aO Cm (ak 4) aB)) aG))))) (aA (RQ 2) aG))))))
theorem Kw:bF ["_law_xs", "_law_many", "_law_letters", "_law_stem", "_law_at", "_law_found", "_law_k", "_law_mark", "_law_name"] ["_law_xs", "_law_many"] (aK Ar):=jw
theorem Kz:Ok P w base t.qy 1 2 nJ:=wQ (g:=p8) t.qy Kw λ_ _ _ _ _ _ hr hu nd=>(aA (bw 2 nd fX) (aA (bw 3 nd (yI (d7 ["_law_k"] (rK ["_law_letters", "_law_xs"] [2,0]) rfl (JM (nD rfl t.qG (aj (aO cU (aY (ak 0) aB) aB) au))) (λ_ _ _ _=>(aH 2 (by show List.Nodup (_++_);decide +kernel))) (λ_ _ _ _=>bU) (λ_ _ _ _=>(aY (ak 0) (aO cU (aO Cm (aY (ak 1) (ak 2)) aB) aB))) (cj)))) (aA (bw 4 nd (aO cU (aY (ak 0) aB) (aO bO (bH lQ rfl t.rQ lO (aj (ak 3) au)) aB))) (aA (bw 5 nd (iw au)) (aA (sE PassesOwn.never rfl (nD rfl t.qG (aj (ak 1) au)) (aH 6 nd) (cN [6,7,8] (aA (bw 7 nd (aY (ak 2) (aO cU (aO bO (ak 6) (aY (ak 0) aB)) aB))) (aA (bw 8 nd (aO bO (aO bO (yF (ak 3) nF (ju (ak 4))) (ak 7)) (yF (ak 3) (ju (ak 4)) nF))) (aA (gn (dh (of_eq hu) (aO cU (aY (ak 0) aB) aB) aB (cM _)) (cN [] (aA (bw 8 nd (aO qM (aY (ak 2) (aO Cm (ak 6) aB)) (aO bO aB (aO cU (ak 6) aB)))) aG)) (cN [] aG)) (aA (uV 5 (ak 8)) aG)))))) (aA (RQ 5) aG))))))
theorem G4:bF ["_law_script", "_law_at", "_law_many", "_law_reasons", "_law_bars", "_law_head", "_law_names_here", "_law_told", "_law_k", "_law_xs", "_law_a", "_law_b", "_law_weight", "_law_found", "_law_shut"] ["_law_script", "_law_at", "_law_many", "_law_reasons", "_law_bars"] (aK yV):=jw
theorem G5 (iT:Ok P w base t.iK 1 2 iG) (vM:Ok P w base t.qy 1 2 nJ) (cQ:Ok P w base t.cZ 1 2 cY):Ok P w base t.oY 2 5 oV:=wQ (g:=oU) t.oY G4 λ_ _ _ _ _ _ hr hu nd=>(aA (bw 5 nd (bN t.cZ cQ hr (aj (eG (bN t.iK iT hr (aj (ak 0) (aj (ak 1) au)))) (aj aB au)))) (aA (bw 6 nd (bH Uo rfl t.vL Uk (aj (bN t.qy vM hr (aj (ak 5) (aj (ak 2) au))) au))) (aA (bw 7 nd (iw au)) (aA (sE PassesOwn.never rfl (nD rfl t.qG (aj (ak 3) au)) (aH 8 nd) (cN [8,9,10,11,12] (aA (bw 9 nd (bN t.cZ cQ hr (aj (eG (bN t.iK iT hr (aj (ak 0) (aj (eG (aO bO (aO bO (ak 1) aB) (ak 8))) au)))) (aj aB au)))) (aA (Wi 10 11 rfl nd (aj (aO cU (aY (ak 9) aB) (bH (zN rfl) rfl t.Jk zJ (aj aB (aj (ak 2) au)))) (aj (aO cU (aY (ak 9) aB) (bH (zN rfl) rfl t.Jk zJ (aj aB (aj (ak 2) au)))) au))) (aA (bw 12 nd (aY (iw (aj (eG (aO bO aB (aO cU (aY (ak 9) aB) aB))) (aj (eG (aO bO aB (aO cU (aY (ak 9) aB) aB))) (aj (eG (aO bO aB (aO cU (aY (ak 9) aB) aB))) au)))) (aO cU (aY (ak 5) aB) aB))) (aA (gn (dh (uZ hu) (ak 10) (ak 11) (cM _)) (cN [] (aA (uV 7 (cX (aj (aO sI aB (ak 12)) (aj (aY (ak 6) (bH (Wz rfl) rfl t.abK Wt (aj (ak 10) (aj (ak 11) au)))) (aj (aY (ak 6) (bH (zN rfl) rfl t.Jk zJ (aj (ak 10) (aj (ak 11) au)))) (aj (aY (iw (aj aB (aj aB (aj aB au)))) (aO cU (aY (ak 9) aB) aB)) au)))))) aG)) (cN [] aG)) aG)))))) (aA (ZQ 13 ["_law_weight", "_law_a", "_law_b", "_law_k"] (rK [] []) rfl nd (fV (Cv rfl rfl t.vL (Cu rfl hu rfl t.Td (ak 7)))) (λ_ _ _ _=>(kh rfl (aP (aH 0 (by show List.Nodup (_++_);decide +kernel)) (aP (aH 1 (by show List.Nodup (_++_);decide +kernel)) (aP (aH 2 (by show List.Nodup (_++_);decide +kernel)) (aP (aH 3 (by show List.Nodup (_++_);decide +kernel)) g8)))))) (λ_ _ _ _=>bU) (λ_ _ _ _=>(cX (aj (aO sI aB (ak 0)) (aj (ak 1) (aj (ak 2) (aj (ak 3) au)))))) (Ql (iz (cj) (iz (cj) (iz (cj) (iz (cj) JK)))))) (aA (bw 14 nd (iw au)) (aA (sE PassesOwn.never rfl (nD rfl t.qG (aj (ak 4) au)) (aH 8 nd) (cN [8,9,10,11] (aA (bw 9 nd (bN t.cZ cQ hr (aj (eG (bN t.iK iT hr (aj (ak 0) (aj (eG (aO bO (aO bO (ak 1) aB) (ak 8))) au)))) (aj aB au)))) (aA (Wi 10 11 rfl nd (aj (aO cU (aY (ak 9) aB) (bH (zN rfl) rfl t.Jk zJ (aj aB (aj (ak 2) au)))) (aj (aO cU (aY (ak 9) aB) (bH (zN rfl) rfl t.Jk zJ (aj aB (aj (ak 2) au)))) au))) (aA (gn (dh (uZ hu) (ak 10) (ak 11) (cM _)) (cN [] (aA (uV 14 (cX (aj (aY (ak 6) (bH (Wz rfl) rfl t.abK Wt (aj (ak 10) (aj (ak 11) au)))) (aj (aY (ak 6) (bH (zN rfl) rfl t.Jk zJ (aj (ak 10) (aj (ak 11) au)))) (aj (aY (iw (aj aB (aj aB au))) (aO cU (aY (ak 9) aB) aB)) au))))) aG)) (cN [] aG)) aG))))) (aA (bK (cX (aj (bY gP rfl t.fJ fW (aj (ak 6) au)) (aj (bY gP rfl t.fJ fW (aj (ak 13) au)) (aj (bY gP rfl t.fJ fW (aj (Cv rfl rfl t.vL (Cu rfl hu rfl t.Td (ak 14))) au)) au))))) aG))))))))
theorem KC:bF ["_law_script", "_law_head", "_law_names_here", "_law_reasons", "_law_bars", "_law_weight", "_law_a", "_law_b", "_law_number", "_law_more"] ["_law_script"] (aK Av):=jw
theorem KD (iT:Ok P w base t.iK 1 2 iG) (uh:Ok P w base t.oY 2 5 oV) (cQ:Ok P w base t.cZ 1 2 cY):Ok P w base t.qz 3 1 qd:=wQ (g:=qb) t.qz KC λ_ _ _ _ _ _ hr hu nd=>(aA (bw 1 nd (bN t.cZ cQ hr (aj (eG (bN t.iK iT hr (aj (ak 0) (aj aB au)))) (aj aB au)))) (aA (uU (bN t.oY uh hr (aj (ak 0) (aj aB (aj (aO cU (aY (ak 1) aB) aB) (aj (aO cU (aY (ak 1) aB) aB) (aj (aO cU (aY (ak 1) aB) aB) au)))))) (kh rfl (aP (aH 2 nd) (aP (aH 3 nd) (aP (aH 4 nd) g8))))) (aA (gn (dh (of_eq hu) (aO cU (aY (ak 1) aB) aB) aB (cM _)) (cN [] (aA (bw 3 nd (bY gP rfl t.fJ fW (aj (d7 ["_law_weight", "_law_a", "_law_b", "_law_number"] (rK [] []) rfl (fV (ak 3)) (λ_ _ _ _=>(kh rfl (aP (aH 0 (by show List.Nodup (_++_);decide +kernel)) (aP (aH 1 (by show List.Nodup (_++_);decide +kernel)) (aP (aH 2 (by show List.Nodup (_++_);decide +kernel)) (aP (aH 3 (by show List.Nodup (_++_);decide +kernel)) g8)))))) (λ_ _ _ _=>bU) (λ_ _ _ _=>(cX (aj (ak 0) (aj (ak 1) (aj (ak 2) (aj (aO qM (ak 3) aB) au)))))) (Ql (iz (cj) (iz (cj) (iz (cj) (iz (cj) JK)))))) au))) (aA (bw 4 nd (bY gP rfl t.fJ fW (aj (d7 ["_law_a", "_law_b", "_law_number"] (rK [] []) rfl (fV (ak 4)) (λ_ _ _ _=>(kh rfl (aP (aH 0 (by show List.Nodup (_++_);decide +kernel)) (aP (aH 1 (by show List.Nodup (_++_);decide +kernel)) (aP (aH 2 (by show List.Nodup (_++_);decide +kernel)) g8))))) (λ_ _ _ _=>bU) (λ_ _ _ _=>(cX (aj (ak 0) (aj (ak 1) (aj (aO qM (ak 2) aB) au))))) (Ql (iz (cj) (iz (cj) (iz (cj) JK))))) au))) aG))) (cN [] aG)) (aA (gn (wD (vW (dh R0 (aO cU (aY (ak 1) aB) aB) aB (cM _)) (uT (dh (uZ hu) (ak 3) (cX au) (cM _))))) (cN [5,6,7,8,9] (aA (uU (aY (ak 3) (aO cU (aO Cm (aY (ak 1) aB) aB) (bH lQ rfl t.rQ lO (aj (ak 3) au)))) (kh rfl (aP (aH 5 nd) (aP (aH 6 nd) (aP (aH 7 nd) (aP (aH 8 nd) g8)))))) (aA (bw 9 nd (iw (aj (cX (aj (aO sI aB (ak 5)) (aj (ak 6) (aj (ak 7) (aj aB au))))) (aj (cX (aj (aO sI aB (ak 5)) (aj (ak 6) (aj (ak 7) (aj aB au))))) (aj (cX (aj (aO sI aB (ak 5)) (aj (ak 6) (aj (ak 7) (aj aB au))))) (aj (cX (aj (aO sI aB (ak 5)) (aj (ak 6) (aj (ak 7) (aj aB au))))) au)))))) (aA (bw 9 nd (Cv rfl rfl t.vL (Cu rfl hu rfl t.Td (aO bO (ak 9) (d7 ["_law_one"] (rK [] []) rfl (fV (ak 3)) (λ_ _ _ _=>(aH 0 (by show List.Nodup (_++_);decide +kernel))) (λ_ _ _ _=>bU) (λ_ _ _ _=>(eG (aO bO (cX (aj (aO sI aB (aY (ak 0) aB)) au)) (yF (ak 0) (ju aB) nF)))) (cj)))))) (aA (bw 3 nd (bY gP rfl t.fJ fW (aj (d7 ["_law_one"] (rK [] []) rfl (fV (ak 9)) (λ_ _ _ _=>(aH 0 (by show List.Nodup (_++_);decide +kernel))) (λ_ _ _ _=>bU) (λ_ _ _ _=>(eG (aO bO (cX (aj (aO sI aB (aY (ak 0) aB)) au)) (yF (ak 0) (ju aB) nF)))) (cj)) au))) (aA (bw 4 nd (bY gP rfl t.fJ fW (aj (Cv rfl rfl t.vL (Cu rfl hu rfl t.Td (aO bO (bY JV rfl t.Q6 JT (aj (ak 4) au)) (iw (aj (cX (aj (ak 6) (aj (ak 7) (aj aB au)))) (aj (cX (aj (ak 6) (aj (ak 7) (aj aB au)))) (aj (cX (aj (ak 6) (aj (ak 7) (aj aB au)))) au))))))) au))) aG)))))) (cN [5,6,7,8,9] aG)) (aA (bK (cX (aj (ak 2) (aj (ak 3) (aj (ak 4) au))))) aG)))))
theorem Oj:bF ["_law_ground_here", "_law_rows", "_law_weight", "_law_one", "_law_other", "_law_number"] ["_law_ground_here"] (aK Ez):=jw
theorem Ol:Ok P w base t.uc 1 1 tD:=wQ (g:=tB) t.uc Oj λ_ _ _ _ _ _ hr hu nd=>(aA (bw 1 nd (iw (aj (eG (yI (aO bO (iw (aj fX au)) (bY JV rfl t.Q6 JT (aj (aY (ak 0) aB) au))))) au))) (aA (sE PassesOwn.never rfl (Cg (aY (ak 0) aB)) (kh rfl (aP (aH 2 nd) (aP (aH 3 nd) (aP (aH 4 nd) (aP (aH 5 nd) g8))))) (cN [2,3,4,5] (aA (uV 1 (eG (aO bO (aO bO (aO bO (aO bO (aO bO (aO bO (ak 3) fX) (ak 4)) fX) (bY Qu rfl t.Jl JR (aj (ak 2) au))) fX) (bY Qu rfl t.Jl JR (aj (ak 5) au))))) aG))) (aA (sE PassesOwn.never rfl (Cg (aY (ak 0) aB)) (kh rfl (aP (aH 3 nd) (aP (aH 4 nd) (aP (aH 5 nd) g8)))) (cN [3,4,5] (aA (uV 1 (eG (aO bO (aO bO (aO bO (aO bO (ak 3) fX) (ak 4)) fX) (bY Qu rfl t.Jl JR (aj (ak 5) au))))) aG))) (aA (bK (yI (ak 1))) aG))))
theorem Fq:bF ["reason", "weight", "one", "other", "number"] ["reason"] (aK wU):=jw
theorem Ft:Ok P w base t.m9 1 1 mQ:=wQ (g:=mO) t.m9 Fq λ_ _ _ _ _ _ hr hu nd=>(aA (uU (ak 0) (kh rfl (aP (aH 1 nd) (aP (aH 2 nd) (aP (aH 3 nd) (aP (aH 4 nd) g8)))))) (aA (bK (S7 (jK (CG (ak 2)) (jK fX (jK (CG (ak 3)) (jK fX (jK (Et (ak 1)) (jK fX (jK (Et (ak 4)) XH))))))))) aG))
theorem Om:bF ["bar", "one", "other", "number"] ["bar"] (aK EY):=jw
theorem Oo:Ok P w base t.ud 1 1 tK:=wQ (g:=tH) t.ud Om λ_ _ _ _ _ _ hr hu nd=>(aA (uU (ak 0) (kh rfl (aP (aH 1 nd) (aP (aH 2 nd) (aP (aH 3 nd) g8))))) (aA (bK (S7 (jK (CG (ak 1)) (jK fX (jK (CG (ak 2)) (jK fX (jK (Et (ak 3)) XH))))))) aG))
theorem Fv:bF ["ground", "names", "reasons", "bars", "first"] ["ground"] (aK wV):=jw
theorem Fw (xM:Ok P w base t.ud 1 1 tK) (qT:Ok P w base t.m9 1 1 mQ):Ok P w base t.jB 2 1 jA:=wQ (g:=mR) t.jB Fv λ_ _ _ _ _ _ hr hu nd=>by
 obtain⟨G6,um⟩:=t.zm;exact(aA (uU (ak 0) (kh rfl (aP (aH 1 nd) (aP (aH 2 nd) (aP (aH 3 nd) g8))))) (aA (bw 4 nd (yI (aO bO (iw (aj (yq rfl um) au)) (bY JV rfl t.Q6 JT (aj (ak 1) au))))) (aA (bK (yI (aO bO (aO bO (iw (aj (ak 4) au)) (d7 ["reason"] (rK [] []) rfl (fV (ak 2)) (λ_ _ _ _=>(aH 0 (by show List.Nodup (_++_);decide +kernel))) (λ_ _ _ _=>bU) (λ_ _ _ _=>(eG (bN t.m9 qT hr (aj (ak 0) au)))) (cj))) (d7 ["bar"] (rK [] []) rfl (fV (ak 3)) (λ_ _ _ _=>(aH 0 (by show List.Nodup (_++_);decide +kernel))) (λ_ _ _ _=>bU) (λ_ _ _ _=>(eG (bN t.ud xM hr (aj (ak 0) au)))) (cj))))) aG)))
theorem Oq:bF ["text"] ["text"] (aK Fb):=jw
theorem Ot:Ok P w base t.uf 1 1 tM:=wQ (g:=tL) t.uf Oq λ_ _ _ _ _ _ hr hu nd=>(aA (gn (jr (eY (xG (ak 0) rfl t.dO rfl t.Jl))) (aA Kc aG) aG) (aA (bK (Dg (eY (ak 0)) (rN (ak 0) fX) (iw au))) aG))
theorem G7:bF ["thing", "signs", "longest"] ["thing", "signs", "longest"] (aK yW):=jw
theorem G8:Ok P w base t.oZ 1 3 oX:=wQ (g:=oW) t.oZ G7 λ_ _ _ _ _ _ hr hu nd=>(aA (bK (gY (xG (ak 0) rfl t.dO rfl t.Jl) (gY (Mg of_le of_le aB (bH lQ rfl t.rQ lO (aj (ak 0) au)) (ak 2)) (lM (bH (sO rfl) rfl t.zj sJ (aj (d7 ["sign"] (rK ["signs"] [1]) rfl (fV (ak 0)) (λ_ _ _ _=>(aH 1 (by show List.Nodup (_++_);decide +kernel))) (λ_ _ _ _=>bU) (λ_ _ _ _=>(lJ Ij (ak 1) (ak 0) (by with_unfolding_all rfl))) (cj)) au)))))) aG)
theorem Q7:bF ["thing"] ["thing"] (aK Jj):=jw
theorem Q8 (uo:Ok P w base t.oZ 1 3 oX):Ok P w base t.lX 2 1 lV:=wQ (g:=wB) t.lX Q7 λ_ _ _ _ _ _ hr hu nd=>by
 obtain⟨adP,Ve⟩:=t.Vd;obtain⟨Vt,Fy⟩:=t.Fj;exact(aA (bK (bN t.oZ uo hr (aj (ak 0) (aj (yq rfl Ve) (aj (Dd rfl Fy) au))))) aG)
theorem G9:bF ["things"] ["things"] (aK yX):=jw
theorem Hf:Ok P w base t.fH 1 1 dN:=wQ (g:=fG) t.fH G9 λ_ _ _ _ _ _ hr hu nd=>(aA (bK (bH (sO rfl) rfl t.zj sJ (aj (d7 ["at"] (rK ["things"] [0]) rfl (JM (nD rfl t.qG (aj (aO sI (bH lQ rfl t.rQ lO (aj (ak 0) au)) aB) au))) (λ_ _ _ _=>(aH 1 (by show List.Nodup (_++_);decide +kernel))) (λ_ _ _ _=>bU) (λ_ _ _ _=>(lJ (afD JX (QZ hu)) (aY (ak 0) (ak 1)) (aY (ak 0) (aO bO (ak 1) aB)) (cM _))) (cj)) au))) aG)
theorem KH:bF ["thing"] ["thing"] (aK Aw):=jw
theorem KJ (d8:Ok P w base t.fH 1 1 dN) (lZ:Ok P w base t.lX 2 1 lV):Ok P w base t.jV 3 1 jT:=wQ (g:=qe) t.jV KH λ_ _ _ _ _ _ hr hu nd=>(aA (bK (gY (kE (ak 0) rfl t.dO rfl t.fJ) (gY (bH (sO rfl) rfl t.zj sJ (aj (d7 ["name"] (rK [] []) rfl (fV (ak 0)) (λ_ _ _ _=>(aH 0 (by show List.Nodup (_++_);decide +kernel))) (λ_ _ _ _=>bU) (λ_ _ _ _=>(eG (bN t.lX lZ hr (aj (ak 0) au)))) (cj)) au)) (lM (bN t.fH d8 hr (aj (ak 0) au)))))) aG)
theorem Bw:bF ["line", "words", "names"] ["line"] (aK vK):=jw
theorem BJ (jX:Ok P w base t.jV 3 1 jT):Ok P w base t.kZ 4 1 kY:=wQ (g:=kW) t.kZ Bw λ_ _ _ _ _ _ hr hu nd=>by
 obtain⟨G6,um⟩:=t.zm;exact(aA (bw 1 nd (rN (ak 0) fX)) (aA (bw 2 nd (bY gP rfl t.fJ fW (aj (yF (ak 1) (ju aB) nF) au))) (aA (bK (eG (Dg (wD (vW (dh (of_eq hu) (aY (ak 1) aB) (yq rfl um) (cM _)) (uT (eY (bN t.jV jX hr (aj (ak 2) au)))))) (ak 2) pD))) aG)))
theorem KN:bF ["text"] ["text"] (aK Ax):=jw
theorem KQ:Ok P w base t.iM 1 1 iH:=wQ (g:=qg) t.iM KN λ_ _ _ _ _ _ hr hu nd=>by
 obtain⟨adQ,Vf⟩:=t.Vc;obtain⟨Vu,Fz⟩:=t.Fl;exact(aA (gn (wD (lK (jr (Wb of_le of_le aB (bH lQ rfl t.rQ lO (aj (ak 0) au)) (Dd rfl Fz))) (j8 (jr (eY (bH (sO rfl) rfl t.zj sJ (aj (d7 ["sign"] (rK [] []) rfl (fV (ak 0)) (λ_ _ _ _=>(aH 0 (by show List.Nodup (_++_);decide +kernel))) (λ_ _ _ _=>bU) (λ_ _ _ _=>(lJ Ij (ak 0) (yq rfl Vf) (by with_unfolding_all rfl))) (cj)) au))))))) (aA (bK pD) aG) aG) (aA (gn (wD (vW (dh (of_eq hu) (aY (ak 0) aB) fX (cM _)) (uT (dh (uZ hu) (ak 0) fX (cM _))))) (aA (bK pD) aG) aG) (aA (bK (eG (bY aaL rfl t.Yi Qs (aj (ak 0) au)))) aG)))
theorem Ou:bF ["thing", "many"] ["thing", "many"] (aK Fd):=jw
theorem Ov:Ok P w base t.iQ 1 2 iI:=wQ (g:=tO) t.iQ Ou λ_ _ _ _ _ _ hr hu nd=>(aA (bK (gY (kE (ak 0) rfl t.dO rfl t.fJ) (lM (lJ (of_eq hu) (bH lQ rfl t.rQ lO (aj (ak 0) au)) (ak 1) (cM _))))) aG)
theorem Ox:bF ["thing"] ["thing"] (aK Fe):=jw
theorem Oz:Ok P w base t.lY 1 1 lW:=wQ (g:=tW) t.lY Ox λ_ _ _ _ _ _ hr hu nd=>(aA (bK (gY (Qt (ak 0) rfl t.dO rfl t.Yi) (lM (acT (MJ (ak 0) rfl t.dO rfl t.adO))))) aG)
theorem KR:bF ["thing"] ["thing"] (aK Ay):=jw
theorem KY (mj:Ok P w base t.lY 1 1 lW):Ok P w base t.qC 2 1 ql:=wQ (g:=qj) t.qC KR λ_ _ _ _ _ _ hr hu nd=>by
 obtain⟨Yj,Hg⟩:=t.G3;exact(aA (bK (gY (bN t.lY mj hr (aj (ak 0) au)) (lM (Mg of_le of_le aB (ak 0) (Dd rfl Hg))))) aG)
theorem Vg:bF ["thing", "one", "other", "number"] ["thing"] (aK Oc):=jw
theorem Vh (lZ:Ok P w base t.lX 2 1 lV) (gK:Ok P w base t.iQ 1 2 iI) (mj:Ok P w base t.lY 1 1 lW):Ok P w base t.nO 3 1 nM:=wQ (g:=yZ) t.nO Vg λ_ _ _ _ _ _ hr hu nd=>(aA (gn (jr (eY (bN t.iQ gK hr (aj (ak 0) (aj aB au))))) (aA (bK rE) aG) aG) (aA (uU (ak 0) (kh rfl (aP (aH 1 nd) (aP (aH 2 nd) (aP (aH 3 nd) g8))))) (aA (bK (gY (bN t.lX lZ hr (aj (ak 1) au)) (gY (bN t.lX lZ hr (aj (ak 2) au)) (gY (lJ JX (ak 1) (ak 2) (cM _)) (gY (bN t.lY mj hr (aj (ak 3) au)) (lM (lJ abu (ak 3) aB (cM _)))))))) aG)))
theorem KZ:bF ["thing"] ["thing"] (aK Az):=jw
theorem K1 (lg:Ok P w base t.nO 3 1 nM) (gK:Ok P w base t.iQ 1 2 iI) (vN:Ok P w base t.qC 2 1 ql):Ok P w base t.jW 4 1 jU:=wQ (g:=qm) t.jW KZ λ_ _ _ _ _ _ hr hu nd=>(aA (bK (gY (bN t.iQ gK hr (aj (ak 0) (aj aB au))) (gY (bN t.qC vN hr (aj (aY (ak 0) aB) au)) (lM (bN t.nO lg hr (aj (eG (yF (ak 0) (ju aB) nF)) au)))))) aG)
theorem K3:bF ["text", "words", "ends", "reason"] ["text"] (aK Ba):=jw
theorem K4 (jY:Ok P w base t.jW 4 1 jU) (iU:Ok P w base t.iM 1 1 iH):Ok P w base t.qD 5 1 qt:=wQ (g:=qp) t.qD K3 λ_ _ _ _ _ _ hr hu nd=>(aA (bw 1 nd (rN (ak 0) fX)) (aA (bw 2 nd (rN (aY (ak 1) aB) fX)) (aA (gn (wD (lK (dh (uZ hu) (bH lQ rfl t.rQ lO (aj (ak 1) au)) aB (cM _)) (j8 (dh (uZ hu) (bH lQ rfl t.rQ lO (aj (ak 2) au)) aB (cM _))))) (aA (bK pD) aG) aG) (aA (bw 3 nd (cX (aj (eG (bN t.iM iU hr (aj (aY (ak 1) aB) au))) (aj (aY (ak 2) aB) (aj (aY (ak 2) aB) (aj (eG (bN t.iM iU hr (aj (aY (ak 1) aB) au))) au)))))) (aA (bK (eG (Dg (eY (bN t.jW jY hr (aj (ak 3) au))) (ak 3) pD))) aG)))))
theorem Vi:bF ["text", "words", "ends", "bar"] ["text"] (aK Od):=jw
theorem Vj (lg:Ok P w base t.nO 3 1 nM) (iU:Ok P w base t.iM 1 1 iH):Ok P w base t.zf 4 1 zc:=wQ (g:=za) t.zf Vi λ_ _ _ _ _ _ hr hu nd=>(aA (bw 1 nd (rN (ak 0) fX)) (aA (bw 2 nd (rN (aY (ak 1) aB) fX)) (aA (gn (wD (lK (dh (uZ hu) (bH lQ rfl t.rQ lO (aj (ak 1) au)) aB (cM _)) (j8 (dh (uZ hu) (bH lQ rfl t.rQ lO (aj (ak 2) au)) aB (cM _))))) (aA (bK pD) aG) aG) (aA (bw 3 nd (cX (aj (aY (ak 2) aB) (aj (aY (ak 2) aB) (aj (eG (bN t.iM iU hr (aj (aY (ak 1) aB) au))) au))))) (aA (bK (eG (Dg (eY (bN t.nO lg hr (aj (ak 3) au))) (ak 3) pD))) aG)))))
theorem OD:bF ["reason", "weight", "one", "other", "number"] ["reason"] (aK Fg):=jw
theorem OJ:Ok P w base t.jN 1 1 jM:=wQ (g:=tX) t.jN OD λ_ _ _ _ _ _ hr hu nd=>(aA (uU (ak 0) (kh rfl (aP (aH 1 nd) (aP (aH 2 nd) (aP (aH 3 nd) (aP (aH 4 nd) g8)))))) (aA (bK (cX (aj (Wa Qp (ak 1)) (aj (ak 2) (aj (ak 3) (aj (ak 4) au)))))) aG))
theorem zp:bF ["reasons", "reason", "names"] ["reasons", "reason", "names"] (aK rO):=jw
theorem zq (jO:Ok P w base t.jN 1 1 jM):Ok P w base t.jg 2 3 jf:=wQ (g:=je) t.jg zp λ_ _ _ _ _ _ hr hu nd=>(aA (gn (wD (lK (dh yD (aY (ak 1) aB) (ak 2) (by with_unfolding_all rfl)) (j8 (dh yD (aY (ak 1) aB) (ak 2) (by with_unfolding_all rfl))))) (aA (bK rE) aG) aG) (aA (bK (abl (S5 (ak 0)) (lM (lJ (QZ hu) (bN t.jN jO hr (aj (aY (ak 0) (Wa Qp aB)) au)) (bN t.jN jO hr (aj (ak 1) au)) (cM _))))) aG))
theorem FJ:bF ["bars", "bar", "names"] ["bars", "bar", "names"] (aK wW):=jw
theorem FN:Ok P w base t.ni 1 3 mV:=wQ (g:=mU) t.ni FJ λ_ _ _ _ _ _ hr hu nd=>(aA (gn (wD (lK (dh yD (aY (ak 1) aB) (ak 2) (by with_unfolding_all rfl)) (j8 (dh yD (aY (ak 1) aB) (ak 2) (by with_unfolding_all rfl))))) (aA (bK rE) aG) aG) (aA (bK (abl (S5 (ak 0)) (lM (lJ (QZ hu) (aY (ak 0) (Wa Qp aB)) (ak 1) (cM _))))) aG))
theorem FP:bF ["text", "lines", "names", "reasons", "bars", "at", "line", "reason", "bar"] ["text"] (aK wX):=jw
theorem FQ (qU:Ok P w base t.ni 1 3 mV) (FT:Ok P w base t.zf 4 1 zc) (xO:Ok P w base t.uf 1 1 tM) (pP:Ok P w base t.kZ 4 1 kY) (mq:Ok P w base t.jg 2 3 jf) (vO:Ok P w base t.qD 5 1 qt):Ok P w base t.nj 6 1 mX:=wQ (g:=mW) t.nj FP λ_ _ _ _ _ _ hr hu nd=>(aA (bw 1 nd (bN t.uf xO hr (aj (ak 0) au))) (aA (bw 2 nd (Dg (eY (ak 1)) (bN t.kZ pP hr (aj (aY (ak 1) aB) au)) pD)) (aA (gn (dh of_is (ak 2) pD (cM _)) (aA Kc aG) aG) (aA (bw 3 nd (iw au)) (aA (bw 4 nd (iw au)) (aA (sE PassesOwn.never rfl (aaS (by decide) rfl t.Og (aj (eG (yF (ak 1) (ju aB) nF)) au)) (kh rfl (aP (aH 5 nd) (aP (aH 6 nd) g8))) (cN [5,6,7,8] (aA (bw 7 nd (bN t.qD vO hr (aj (ak 6) au))) (aA (bw 8 nd (bN t.zf FT hr (aj (ak 6) au))) (aA (gn (wD (vW (dh R5 (ak 7) pD (cM _)) (vW (jr (eY (ak 4))) (uT (eY (bN t.jg mq hr (aj (ak 3) (aj (ak 7) (aj (ak 2) au))))))))) (aA (uV 3 (ak 7)) aG) (aA (gn (wD (vW (dh R5 (ak 8) pD (cM _)) (uT (eY (bN t.ni qU hr (aj (ak 4) (aj (ak 8) (aj (ak 2) au)))))))) (aA (uV 4 (ak 8)) aG) (aA Kc aG)) aG)) aG))))) (aA (bK (cX (aj (ak 2) (aj (bY gP rfl t.fJ fW (aj (ak 3) au)) (aj (bY gP rfl t.fJ fW (aj (ak 4) au)) au))))) aG)))))))
theorem FW:bF ["thing", "names"] ["thing", "names"] (aK wY):=jw
theorem FZ (d8:Ok P w base t.fH 1 1 dN) (jY:Ok P w base t.jW 4 1 jU) (jO:Ok P w base t.jN 1 1 jM):Ok P w base t.nq 5 2 mZ:=wQ (g:=mY) t.nq FW λ_ _ _ _ _ _ hr hu nd=>(aA (gn (wD (lK (jr (eY (kE (ak 0) rfl t.dO rfl t.fJ))) (j8 (jr (eY (bH (sO rfl) rfl t.zj sJ (aj (d7 ["reason"] (rK [] []) rfl (fV (ak 0)) (λ_ _ _ _=>(aH 0 (by show List.Nodup (_++_);decide +kernel))) (λ_ _ _ _=>bU) (λ_ _ _ _=>(eG (bN t.jW jY hr (aj (ak 0) au)))) (cj)) au))))))) (aA (bK rE) aG) aG) (aA (gn (jr (eY (bH (sO rfl) rfl t.zj sJ (aj (d7 ["reason"] (rK ["names"] [1]) rfl (fV (ak 0)) (λ_ _ _ _=>(aH 1 (by show List.Nodup (_++_);decide +kernel))) (λ_ _ _ _=>bU) (λ_ _ _ _=>(gY (lJ Ij (aY (ak 1) aB) (ak 0) (by with_unfolding_all rfl)) (lM (lJ Ij (aY (ak 1) aB) (ak 0) (by with_unfolding_all rfl))))) (cj)) au)))) (aA (bK rE) aG) aG) (aA (bK (bN t.fH d8 hr (aj (eG (d7 ["reason"] (rK [] []) rfl (fV (ak 0)) (λ_ _ _ _=>(aH 0 (by show List.Nodup (_++_);decide +kernel))) (λ_ _ _ _=>bU) (λ_ _ _ _=>(eG (bN t.jN jO hr (aj (ak 0) au)))) (cj))) au))) aG)))
theorem O1:bF ["thing", "names"] ["thing", "names"] (aK Fi):=jw
theorem O2 (d8:Ok P w base t.fH 1 1 dN) (lg:Ok P w base t.nO 3 1 nM):Ok P w base t.ug 4 2 tZ:=wQ (g:=tY) t.ug O1 λ_ _ _ _ _ _ hr hu nd=>(aA (gn (wD (lK (jr (eY (kE (ak 0) rfl t.dO rfl t.fJ))) (j8 (jr (eY (bH (sO rfl) rfl t.zj sJ (aj (d7 ["bar"] (rK [] []) rfl (fV (ak 0)) (λ_ _ _ _=>(aH 0 (by show List.Nodup (_++_);decide +kernel))) (λ_ _ _ _=>bU) (λ_ _ _ _=>(eG (bN t.nO lg hr (aj (ak 0) au)))) (cj)) au))))))) (aA (bK rE) aG) aG) (aA (bK (gY (bH (sO rfl) rfl t.zj sJ (aj (d7 ["bar"] (rK ["names"] [1]) rfl (fV (ak 0)) (λ_ _ _ _=>(aH 1 (by show List.Nodup (_++_);decide +kernel))) (λ_ _ _ _=>bU) (λ_ _ _ _=>(gY (lJ Ij (aY (ak 1) aB) (ak 0) (by with_unfolding_all rfl)) (lM (lJ Ij (aY (ak 1) aB) (ak 0) (by with_unfolding_all rfl))))) (cj)) au)) (lM (bN t.fH d8 hr (aj (ak 0) au))))) aG))
theorem K5:bF ["thing", "names", "reasons", "bars"] ["thing"] (aK Bb):=jw
theorem K6 (xP:Ok P w base t.ug 4 2 tZ) (jX:Ok P w base t.jV 3 1 jT) (qW:Ok P w base t.nq 5 2 mZ) (gK:Ok P w base t.iQ 1 2 iI):Ok P w base t.qF 6 1 qw:=wQ (g:=qu) t.qF K5 λ_ _ _ _ _ _ hr hu nd=>(aA (gn (jr (eY (bN t.iQ gK hr (aj (ak 0) (aj aB au))))) (aA (bK rE) aG) aG) (aA (uU (ak 0) (kh rfl (aP (aH 1 nd) (aP (aH 2 nd) (aP (aH 3 nd) g8))))) (aA (bK (gY (bN t.jV jX hr (aj (ak 1) au)) (gY (bN t.nq qW hr (aj (ak 2) (aj (ak 1) au))) (lM (bN t.ug xP hr (aj (ak 3) (aj (ak 1) au))))))) aG)))
theorem K7:bF ["_law_ground_here", "_law_text_here", "_law_shown", "_law_found"] ["_law_ground_here"] (aK Bc):=jw
theorem K8 (xQ:Ok P w base t.uc 1 1 tD) (vP:Ok P w base t.qF 6 1 qw) (qX:Ok P w base t.nj 6 1 mX) (nu:Ok P w base t.jB 2 1 jA):Ok P w base t.iR 7 1 iJ:=wQ (g:=qx) t.iR K7 λ_ _ _ _ _ _ hr hu nd=>(aA (bw 1 nd (bN t.uc xQ hr (aj (ak 0) au))) (aA (bw 2 nd (bN t.jB nu hr (aj (ak 0) au))) (aA (gn (wD (lK (jr (eY (xG (ak 2) rfl t.dO rfl t.Jl))) (j8 (dh (uZ hu) (ak 2) (ak 1) (cM _))))) (aA (bK rE) aG) aG) (aA (bw 3 nd (bN t.nj qX hr (aj (ak 1) au))) (aA (gn (wD (lK (dh (uZ hu) (ak 3) (ak 0) (cM _)) (lK (dh XR (bN t.qF vP hr (aj (ak 3) au)) rE (cM _)) (j8 (dh (uZ hu) (bN t.jB nu hr (aj (ak 3) au)) (ak 1) (cM _)))))) (aA (bK rE) aG) aG) (aA (bK (bH (sO rfl) rfl t.zj sJ (aj (d7 ["_law_part"] (rK [] []) rfl (fV (aO bO (aO bO (aO bO (cX (aj (ak 3) au)) (ak 3)) (aY (ak 3) aB)) (aY (ak 3) aB))) (λ_ _ _ _=>(aH 0 (by show List.Nodup (_++_);decide +kernel))) (λ_ _ _ _=>bU) (λ_ _ _ _=>(eG (kE (ak 0) rfl t.dO rfl t.fJ))) (cj)) au))) aG))))))
theorem adR:bF ["_law_script", "_law_ground_here", "_law_cell_here", "_law_xs", "_law_reasons", "_law_bars"] ["_law_script"] (aK s_law):=jw
theorem adS (vQ:Ok P w base t.qz 3 1 qd) (cQ:Ok P w base t.cZ 1 2 cY) (jZ:Ok P w base t.iR 7 1 iJ):Ok P w base t.x_law 8 1 F_law:=wQ (g:=Tc) t.x_law adR λ_ _ _ _ _ _ hr hu nd=>(aA (bw 1 nd (bN t.qz vQ hr (aj (ak 0) au))) (aA (gn (wD (lK (jr (eY (bN t.iR jZ hr (aj (ak 1) au)))) (lK (jr (eY (bN t.iR jZ hr (aj (cX (aj (cX au) (aj (cX au) (aj (cX au) au)))) au)))) (j8 (jr (eY (bN t.iR jZ hr (aj (cX (aj (aY (ak 1) aB) (aj (cX au) (aj (cX au) au)))) au)))))))) (aA (bK rE) aG) aG) (aA (sE PassesOwn.never rfl (Cg (yF (ak 0) (ju aB) (ju aB))) (aH 2 nd) (cN [2,3,4,5] (aA (bw 3 nd (bN t.cZ cQ hr (aj (ak 2) (aj aB au)))) (aA (bw 4 nd (bY gP rfl t.fJ fW (aj (d7 ["_law_k"] (rK ["_law_ground_here", "_law_xs"] [1,3]) rfl (JM (nD rfl t.qG (aj (bH lQ rfl t.rQ lO (aj (aY (ak 1) aB) au)) au))) (λ_ _ _ _=>(aH 2 (by show List.Nodup (_++_);decide +kernel))) (λ_ _ _ _=>(Du (dh R0 (aO cU (aY (ak 1) (ak 2)) aB) aB (cM _)))) (λ_ _ _ _=>(aY (aY (ak 0) aB) (ak 2))) (cj)) au))) (aA (bw 5 nd (bY gP rfl t.fJ fW (aj (d7 ["_law_k"] (rK ["_law_ground_here", "_law_xs"] [1,3]) rfl (JM (nD rfl t.qG (aj (bH lQ rfl t.rQ lO (aj (aY (ak 1) aB) au)) au))) (λ_ _ _ _=>(aH 2 (by show List.Nodup (_++_);decide +kernel))) (λ_ _ _ _=>(Du (dh R0 (aO cU (aY (ak 1) (aO bO aB (ak 2))) aB) aB (cM _)))) (λ_ _ _ _=>(aY (aY (ak 0) aB) (ak 2))) (cj)) au))) (aA (gn (jr (eY (bN t.iR jZ hr (aj (cX (aj (aY (ak 1) aB) (aj (ak 4) (aj (ak 5) au)))) au)))) (aA (bK rE) aG) aG) aG)))))) (aA (bK rE) aG))))
theorem all_ok:Ok P w base t.x_law 8 1 F_law:=by
 have iT:=Oi (P:=P) (w:=w) (base:=base) t;have cQ:=Fp (P:=P) (w:=w) (base:=base) t;have vM:=Kz (P:=P) (w:=w) (base:=base) t;have uh:=G5 (P:=P) (w:=w) (base:=base) t iT vM cQ;have vQ:=KD (P:=P) (w:=w) (base:=base) t iT uh cQ;have xQ:=Ol (P:=P) (w:=w) (base:=base) t;have qT:=Ft (P:=P) (w:=w) (base:=base) t;have xM:=Oo (P:=P) (w:=w) (base:=base) t;have nu:=Fw (P:=P) (w:=w) (base:=base) t xM qT;have xO:=Ot (P:=P) (w:=w) (base:=base) t;have uo:=G8 (P:=P) (w:=w) (base:=base) t;have lZ:=Q8 (P:=P) (w:=w) (base:=base) t uo;have d8:=Hf (P:=P) (w:=w) (base:=base) t;have jX:=KJ (P:=P) (w:=w) (base:=base) t d8 lZ;have pP:=BJ (P:=P) (w:=w) (base:=base) t jX;have iU:=KQ (P:=P) (w:=w) (base:=base) t;have gK:=Ov (P:=P) (w:=w) (base:=base) t;have mj:=Oz (P:=P) (w:=w) (base:=base) t;have vN:=KY (P:=P) (w:=w) (base:=base) t mj;have lg:=Vh (P:=P) (w:=w) (base:=base) t lZ gK mj;have jY:=K1 (P:=P) (w:=w) (base:=base) t lg gK vN;have vO:=K4 (P:=P) (w:=w) (base:=base) t jY iU;have FT:=Vj (P:=P) (w:=w) (base:=base) t lg iU;have jO:=OJ (P:=P) (w:=w) (base:=base) t;have mq:=zq (P:=P) (w:=w) (base:=base) t jO;have qU:=FN (P:=P) (w:=w) (base:=base) t;have qX:=FQ (P:=P) (w:=w) (base:=base) t qU FT xO pP mq vO;have qW:=FZ (P:=P) (w:=w) (base:=base) t d8 jY jO;have xP:=O2 (P:=P) (w:=w) (base:=base) t d8 lg;have vP:=K6 (P:=P) (w:=w) (base:=base) t xP jX qW gK;have jZ:=K8 (P:=P) (w:=w) (base:=base) t xQ vP qX nu;have afO:=adS (P:=P) (w:=w) (base:=base) t vQ cQ jZ;exact afO
end
end G51
end
section
set_option synthInstance.maxSize 100000
namespace G51
open L2 P1
noncomputable section
def xg  (v4:Int) (v5:Int):Int:=(let v4:=(((v4 * (69621:Int))+v5) % (2147483647:Int));v4)
theorem Hh (v0:LI_) (jt:Lp f9 (v0.map eI)) (v3:Int) (v4:Int) (v5:Int):RP wZ [some f9,some ((zE eI) v3),some ((zE eI) v4),some ((zE eI) v5)] (λs=>Out.nx ((λv4:Int=>[some f9,some ((zE eI) v3),some ((zE eI) v4),none]) s)) (xg  v4 v5) (none):=R.tp (bM (bQ 2 (dX (jx (Cw (ao 2 (zE eI) v4 rfl) 69621 (by decide)) (ao 3 (zE eI) v5 rfl)) 2147483647 (by decide)) (λ_=>rfl) λv4=>(cP (dB v4 rfl))))
def bD (v0:LI_) (v3:Int):Int:=(if(decide (v3 < (v0.length:Int)))=true then(at' v0 v3) else(let v4:=(((48271:Int) * (((v3 * v3)+((7:Int) * v3))+(11:Int))) % (2147483647:Int));(let v4:Int:=((cut v0 none (some (3:Int))).foldl (λ(v4:Int) (v5:Int)=>(xg  v4 v5)) v4);v4)))
def gM (v0:LI_) (v3:Int):Prop:=(((decide (v3 < (v0.length:Int)))=true->In v0.length v3)/\((decide (v3 < (v0.length:Int)))=false->Mul v3 v3))
theorem Q9 (v0:LI_) (jt:Lp f9 (v0.map eI)) (v3:Int):RP sZ [some f9,some ((zE eI) v3),none,none] (λr=>Out.rt ((zE eI) r)) (bD v0 v3) (some (gM v0 v3)):=R.tp (jR (fD (abB (ao 1 (zE eI) v3 rfl) (x_len (jo 0 eI v0 jt rfl)))) (bM (bZ (λr=>r) (eH (jo 0 eI v0 jt rfl) (ao 1 (zE eI) v3 rfl)) (λ_=>rfl) λ_=>rfl)) (cP (bQ 2 (dX (QL 48271 (by decide) (jx (jx (abA (ao 1 (zE eI) v3 rfl) (ao 1 (zE eI) v3 rfl)) (QL 7 (by decide) (ao 1 (zE eI) v3 rfl))) (x_i 11))) 2147483647 (by decide)) (λ_=>rfl) λv4=>(adA (λv4:Int=>[some f9,some ((zE eI) v3),some ((zE eI) v4),none]) v4 rfl (afz (aaC (jo 0 eI v0 jt rfl) U7 (Nx (x_i 3)))) _ (λ_ _=>rfl) (λ(v4:Int) (v5:Int)=>(Hh v0 jt v3 v4 v5).r) (λ_ _=>rfl) λv4=>(bZ (λr=>r) (ao 2 (zE eI) v4 rfl) (λ_=>rfl) λ_=>rfl)))))
theorem uq:∀ v bs,(aL eI (aZ eI aN)) v bs->bs.length=2/\(hold (some (gM v.1 v.2.1))->iG (bs.map lend)=some ((zE eI) (bD v.1 v.2.1))):=by
 rintro⟨v0,v3,_⟩ _ ⟨f9,_,rfl,jt,⟨_,rfl,rfl⟩⟩;exact⟨rfl,λh=>bL (g:=sZ) (n:=4) (bs:=[lend f9,.z (eI v3)]) (Q9 v0 (Ak jt) v3) h⟩
def cI  (s1:Int×LI_×Int) (v3:Int):Int×LI_×Int:=(let v4:=((((s1.1 * ((s1.1 % (65521:Int))+(40487:Int)))+((7:Int) * v3))+(5:Int)) % (1999999973:Int));(let v7:=s1.2.1++[(at' [v4,(s1.2.2 % (1000000:Int))] (if(decide ((0:Int) < s1.2.2))=true then(1:Int) else 0))];(let v8:=(s1.2.2 / (1000000:Int));(v4,v7,v8))))
def jh  (s1:Int×LI_×Int) (v3:Int):Prop:=(Mul s1.1 ((s1.1 % (65521:Int))+(40487:Int))/\(let v4:=((((s1.1 * ((s1.1 % (65521:Int))+(40487:Int)))+((7:Int) * v3))+(5:Int)) % (1999999973:Int));(In [v4,(s1.2.2 % (1000000:Int))].length (if(decide ((0:Int) < s1.2.2))=true then(1:Int) else 0)/\vH s1.2.1.length)))
theorem zX (v5:Int) (v6:Int) (s1:Int×LI_×Int) (v3:Int):RP lU [some ((zE eI) v5),some ((zE eI) v6),some ((oE eI) s1.2.1),some ((zE eI) s1.1),some ((zE eI) s1.2.2),some ((zE eI) v3)] (λs=>Out.nx ((λs1:Int×LI_×Int=>[some ((zE eI) v5),some ((zE eI) v6),some ((oE eI) s1.2.1),some ((zE eI) s1.1),some ((zE eI) s1.2.2),none]) s)) (cI  s1 v3) (some (jh  s1 v3)):=R.tp (bM (bQ 3 (dX (jx (jx (abA (ao 3 (zE eI) s1.1 rfl) (jx (dX (ao 3 (zE eI) s1.1 rfl) 65521 (by decide)) (x_i 40487))) (QL 7 (by decide) (ao 5 (zE eI) v3 rfl))) (x_i 5)) 1999999973 (by decide)) (λ_=>rfl) λv4=>(bM (Am 2 s1.2.1 rfl (eH (fU (nH (cD (ao 3 (zE eI) v4 rfl) (cD (dX (ao 4 (zE eI) s1.2.2 rfl) 1000000 (by decide)) (gF eI))) (z4 rfl))) (ady (aay (ao 4 (zE eI) s1.2.2 rfl) (x_i 0)))) λv7=>(bM (bQ 4 (Cy (ao 4 (zE eI) s1.2.2 rfl) 1000000 (by decide)) (λ_=>rfl) λv8=>(cP (dB (v4,v7,v8) rfl))))))))
def ji (v5:Int) (v6:Int) (v7:LI_) (v4:Int) (v8:Int):LI_:=(let s1:Int×LI_×Int:=((rng 0 v6.toNat).foldl (λ(s1:Int×LI_×Int) (v3:Int)=>(cI  s1 v3)) (v4,v7,v8));s1.2.1)
def mz (v5:Int) (v6:Int) (v7:LI_) (v4:Int) (v8:Int):Prop:=(Rg v6/\Bt (λ(s1:Int×LI_×Int) (v3:Int)=>(cI  s1 v3)) (λ(s1:Int×LI_×Int) (v3:Int)=>some (jh  s1 v3)) (rng 0 v6.toNat) (v4,v7,v8))
def zY:Ev->Option Out:=(aF (qO (R6 (aq (gv 1) aD)) (gO 5) lU) (aF (JF 2) eF))
theorem zZ (v5:Int) (v6:Int) (v7:LI_) (v4:Int) (v8:Int):RP zY [some ((zE eI) v5),some ((zE eI) v6),some ((oE eI) v7),some ((zE eI) v4),some ((zE eI) v8),none] (λr=>Out.rt ((oE eI) r)) (ji v5 v6 v7 v4 v8) (some (mz v5 v6 v7 v4 v8)):=R.tp (Je (λs1:Int×LI_×Int=>[some ((zE eI) v5),some ((zE eI) v6),some ((oE eI) s1.2.1),some ((zE eI) s1.1),some ((zE eI) s1.2.2),none]) (v4,v7,v8) rfl (wO (ao 1 (zE eI) v6 rfl)) _ (λ_ _=>rfl) (λ(s1:Int×LI_×Int) (v3:Int)=>(zX v5 v6 s1 v3).r) λs1=>(Xv 2 (λr=>r) s1.2.1 rfl (λ_=>rfl) λ_=>rfl))
def aQ (v5:Int) (v6:Int):LI_:=(let v7:=([]:List Int);(let v4:=((((v5 % (1999999973:Int))+(31:Int)) * (765432101:Int)) % (1999999973:Int));(let v8:=(0:Int);(let v8:Int:=(if((decide (v5 < (0:Int)))||(decide (((10:Int) ^ 18)<=v5)))=true then(let v8:=(if v5 < 0 then -v5 else v5);v8) else v8);(ji v5 v6 v7 v4 v8)))))
def d9 (v5:Int) (v6:Int):Prop:=(let v7:=([]:List Int);(let v4:=((((v5 % (1999999973:Int))+(31:Int)) * (765432101:Int)) % (1999999973:Int));(let v8:=(0:Int);(let v8:Int:=(if((decide (v5 < (0:Int)))||(decide (((10:Int) ^ 18)<=v5)))=true then(let v8:=(if v5 < 0 then -v5 else v5);v8) else v8);(mz v5 v6 v7 v4 v8)))))
theorem Hi (v5:Int) (v6:Int):RP mL [some ((zE eI) v5),some ((zE eI) v6),none,none,none,none] (λr=>Out.rt ((oE eI) r)) (aQ v5 v6) (some (d9 v5 v6)):=R.tp (bQ 2 (nH (gF eI) (z4 rfl)) (λ_=>rfl) λv7=>(bQ 3 (dX (Cw (jx (dX (ao 0 (zE eI) v5 rfl) 1999999973 (by decide)) (x_i 31)) 765432101 (by decide)) 1999999973 (by decide)) (λ_=>rfl) λv4=>(bQ 4 (x_i 0) (λ_=>rfl) λv8=>(Jd (λv8:Int=>[some ((zE eI) v5),some ((zE eI) v6),some ((oE eI) v7),some ((zE eI) v4),some ((zE eI) v8),none]) (zT (fD (abB (ao 0 (zE eI) v5 rfl) (x_i 0))) (fD (x_ge (ao 0 (zE eI) v5 rfl) (adu 10 18 18 (by decide) rfl)))) (bM (bQ 4 (afv (ao 0 (zE eI) v5 rfl)) (λ_=>rfl) λv8=>(cP (dB v8 rfl)))) (cP (dB v8 rfl)) λv8=>(zZ v5 v6 v7 v4 v8).r))))
theorem jC:∀ v bs,(aZ eI (aZ eI aN)) v bs->bs.length=2/\(hold (some (d9 v.1 v.2.1))->cY (bs.map lend)=some ((oE eI) (aQ v.1 v.2.1))):=by
 rintro⟨v5,v6,_⟩ _ ⟨_,rfl,⟨_,rfl,rfl⟩⟩;exact⟨rfl,λh=>bL (g:=mL) (n:=6) (bs:=[.z (eI v5),.z (eI v6)]) (Hi v5 v6) h⟩
def eV (vd:LI_) (ve:Str) (vf:Str) (v9:Int) (v7:LS_) (v3:Int):LS_:=(let vg:=(ch ve ((v3+(at' vd (2:Int))) % (15:Int)));(let vh:=(((Txt.slice vf none (some v9))++vg)++(Txt.slice vf (some v9) none));(let vh:Str:=(if(decide (((at' vd (3:Int)) % (3:Int))=(1:Int)))=true then(let vh:=(Txt.mul (ch ve (v3 / (8:Int))) ((1:Int)+(v3 % (8:Int))));vh) else vh);(let v7:=v7++[vh];v7))))
def lq (vd:LI_) (ve:Str) (vf:Str) (v9:Int) (v7:LS_) (v3:Int):Prop:=((In vd.length (2:Int)/\In ve.length ((v3+(at' vd (2:Int))) % (15:Int)))/\(let vg:=(ch ve ((v3+(at' vd (2:Int))) % (15:Int)));((vH ((Txt.slice vf none (some v9)).length+vg.length)/\vH (((Txt.slice vf none (some v9))++vg).length+(Txt.slice vf (some v9) none).length))/\(let vh:=(((Txt.slice vf none (some v9))++vg)++(Txt.slice vf (some v9) none));((In vd.length (3:Int)/\((decide (((at' vd (3:Int)) % (3:Int))=(1:Int)))=true->(In ve.length (v3 / (8:Int))/\(((1:Int)+(v3 % (8:Int)))<=1000 ∧ -1000<=((1:Int)+(v3 % (8:Int)))/\(ch ve (v3 / (8:Int))).length<=1000))))/\(let vh:Str:=(if(decide (((at' vd (3:Int)) % (3:Int))=(1:Int)))=true then(let vh:=(Txt.mul (ch ve (v3 / (8:Int))) ((1:Int)+(v3 % (8:Int))));vh) else vh);vH v7.length))))))
theorem Ga (vd:LI_) (jt:Lp f9 (vd.map eI)) (v6:Int) (ve:Str) (vf:Str) (v9:Int) (v7:LS_) (v3:Int):RP pN [some f9,some ((zE eI) v6),some ((zE eS) ve),some ((zE eS) vf),some ((zE eI) v9),some ((oE eS) v7),some ((zE eI) v3),none,none] (λs=>Out.nx ((λv7:LS_=>[some f9,some ((zE eI) v6),some ((zE eS) ve),some ((zE eS) vf),some ((zE eI) v9),some ((oE eS) v7),none,none,none]) s)) (eV vd ve vf v9 v7 v3) (some (lq vd ve vf v9 v7 v3)):=R.tp (bM (bQ 7 (SM (ao 2 (zE eS) ve rfl) (dX (jx (ao 6 (zE eI) v3 rfl) (eH (jo 0 eI vd jt rfl) (x_i 2))) 15 (by decide))) (λ_=>rfl) λvg=>(bM (bQ 8 (nZ (nZ (abC (ao 3 (zE eS) vf rfl) U7 (Nx (ao 4 (zE eI) v9 rfl))) (ao 7 (zE eS) vg rfl)) (abC (ao 3 (zE eS) vf rfl) (Nx (ao 4 (zE eI) v9 rfl)) U7)) (λ_=>rfl) λvh=>(bM (Jd (λvh:Str=>[some f9,some ((zE eI) v6),some ((zE eS) ve),some ((zE eS) vf),some ((zE eI) v9),some ((oE eS) v7),some ((zE eI) v3),some ((zE eS) vg),some ((zE eS) vh)]) (fD (x_eq (by decide) (dX (eH (jo 0 eI vd jt rfl) (x_i 3)) 3 (by decide)) (x_i 1))) (bM (bQ 8 (adx (SM (ao 2 (zE eS) ve rfl) (Cy (ao 6 (zE eI) v3 rfl) 8 (by decide))) (jx (x_i 1) (dX (ao 6 (zE eI) v3 rfl) 8 (by decide)))) (λ_=>rfl) λvh=>(cP (dB vh rfl)))) (cP (dB vh rfl)) λvh=>(bM (Am 5 v7 rfl (ao 8 (zE eS) vh rfl) λv7=>(cP (dB v7 rfl))))))))))
def lu (vd:LI_) (v6:Int) (ve:Str) (vf:Str):LS_:=(let v9:=((at' vd (1:Int)) % ((vf.length:Int)+(1:Int)));(let v7:=([]:LS_);(let v7:LS_:=((rng 0 v6.toNat).foldl (λ(v7:LS_) (v3:Int)=>(eV vd ve vf v9 v7 v3)) v7);v7)))
def pQ (vd:LI_) (v6:Int) (ve:Str) (vf:Str):Prop:=((In vd.length (1:Int)/\0 < ((vf.length:Int)+(1:Int)))/\(let v9:=((at' vd (1:Int)) % ((vf.length:Int)+(1:Int)));(let v7:=([]:LS_);(Rg v6/\Bt (λ(v7:LS_) (v3:Int)=>(eV vd ve vf v9 v7 v3)) (λ(v7:LS_) (v3:Int)=>some (lq vd ve vf v9 v7 v3)) (rng 0 v6.toNat) v7))))
def Gb:Ev->Option Out:=(aF (setG 4 (b2 iB (b2 eX (gv 0) (cB (.int 1))) (b2 dD (bR pG (aq (gv 3) aD)) (cB (.int 1))))) (aF (setG 5 (bR oN aD)) (aF (qO (R6 (aq (gv 1) aD)) (gO 6) pN) (aF (JF 5) eF))))
theorem Ge (vd:LI_) (jt:Lp f9 (vd.map eI)) (v6:Int) (ve:Str) (vf:Str):RP Gb [some f9,some ((zE eI) v6),some ((zE eS) ve),some ((zE eS) vf),none,none,none,none,none] (λr=>Out.rt ((oE eS) r)) (lu vd v6 ve vf) (some (pQ vd v6 ve vf)):=R.tp (bQ 4 (IW (eH (jo 0 eI vd jt rfl) (x_i 1)) (jx (QS (ao 3 (zE eS) vf rfl)) (x_i 1))) (λ_=>rfl) λv9=>(bQ 5 (nH (gF eS) (z4 rfl)) (λ_=>rfl) λv7=>(Je (λv7:LS_=>[some f9,some ((zE eI) v6),some ((zE eS) ve),some ((zE eS) vf),some ((zE eI) v9),some ((oE eS) v7),none,none,none]) v7 rfl (wO (ao 1 (zE eI) v6 rfl)) _ (λ_ _=>rfl) (λ(v7:LS_) (v3:Int)=>(Ga vd jt v6 ve vf v9 v7 v3).r) λv7=>(Xv 5 (λr=>r) v7 rfl (λ_=>rfl) λ_=>rfl))))
def cG (vd:LI_) (v6:Int):LS_:=(let ve:=("abcdefghijklmnopqrstuvwxyz" : Str);(let vf:=(Txt.join "" ((rng 0 ((at' vd (0:Int)) % (6:Int)).toNat).map λv3:Int=>(ch ve (((at' vd v3) / (40:Int)) % (26:Int)))));(lu vd v6 ve vf)))
def qH (vd:LI_) (v6:Int):Prop:=(let ve:=("abcdefghijklmnopqrstuvwxyz" : Str);(((((In vd.length (0:Int)/\Rg ((at' vd (0:Int)) % (6:Int)))/\(rng 0 ((at' vd (0:Int)) % (6:Int)).toNat).length<=100000)/\(∀ v3∈(rng 0 ((at' vd (0:Int)) % (6:Int)).toNat),(In vd.length v3/\In ve.length (((at' vd v3) / (40:Int)) % (26:Int)))))/\(((rng 0 ((at' vd (0:Int)) % (6:Int)).toNat).map λv3:Int=>(ch ve (((at' vd v3) / (40:Int)) % (26:Int)))).map (·.length)).sum+((rng 0 ((at' vd (0:Int)) % (6:Int)).toNat).map λv3:Int=>(ch ve (((at' vd v3) / (40:Int)) % (26:Int)))).length * ("" : Str).length<=100000)/\(let vf:=(Txt.join "" ((rng 0 ((at' vd (0:Int)) % (6:Int)).toNat).map λv3:Int=>(ch ve (((at' vd v3) / (40:Int)) % (26:Int)))));(pQ vd v6 ve vf))))
theorem O4 (vd:LI_) (jt:Lp f9 (vd.map eI)) (v6:Int):RP p8 [some f9,some ((zE eI) v6),none,none,none,none,none,none,none] (λr=>Out.rt ((oE eS) r)) (cG vd v6) (some (qH vd v6)):=R.tp (bQ 2 (Ku "abcdefghijklmnopqrstuvwxyz") (λ_=>rfl) λve=>(bQ 3 (Ej "" (fU (qP (wO (dX (eH (jo 0 eI vd jt rfl) (x_i 0)) 6 (by decide))) _ (λ_=>rfl) (λv3:Int=>(SM (ao 0 (zE eS) ve rfl) (dX (Cy (eH (jo 1 eI vd jt (congrArg some (jt.get rfl))) (ao 2 (zE eI) v3 rfl)) 40 (by decide)) 26 (by decide))))))) (λ_=>rfl) λvf=>(Ge vd jt v6 ve vf).r))
theorem O5:∀ v bs,(aL eI (aZ eI aN)) v bs->bs.length=2/\(hold (some (qH v.1 v.2.1))->nJ (bs.map lend)=some ((oE eS) (cG v.1 v.2.1))):=by
 rintro⟨vd,v6,_⟩ _ ⟨f9,_,rfl,jt,⟨_,rfl,rfl⟩⟩;exact⟨rfl,λh=>bL (g:=p8) (n:=9) (bs:=[lend f9,.z (eI v6)]) (O4 vd (Ak jt) v6) h⟩
def cT (v0:LI_) (v9:Int) (v6:Int) (v2:LI_) (vc:LS_) (vi:List aR) (v3:Int):(List aR):=(let vd:=(aQ (bD v0 ((v9+(1:Int))+v3)) (4:Int));(let y1:=((at' vd (0:Int)) % (if v6 > (1:Int) then v6 else(1:Int)));let y2:=((at' vd (1:Int)) % (if v6 > (1:Int) then v6 else(1:Int)));let vj:=y1;let vk:=y2;(let vl:=(at' [((1:Int)+((at' vd (2:Int)) % (3:Int))),((1:Int)+((at' vd (2:Int)) % (9:Int))),((1:Int)+((at' vd (2:Int)) % (1000:Int)))] ((at' v2 (4:Int)) % (3:Int)));(let vi:(List aR):=(if(!decide (vj=vk))=true then(let vi:=vi++[(((0:Int) - vl),(at' vc (if vk < vj then vk else vj)),(at' vc (if vk > vj then vk else vj)),(at' [(0:Int),(2:Int),(10:Int)] ((at' vd (3:Int)) % (3:Int))))];vi) else vi);vi))))
def gR (v0:LI_) (v9:Int) (v6:Int) (v2:LI_) (vc:LS_) (vi:List aR) (v3:Int):Prop:=(((gM v0 ((v9+(1:Int))+v3))/\(d9 (bD v0 ((v9+(1:Int))+v3)) (4:Int)))/\(let vd:=(aQ (bD v0 ((v9+(1:Int))+v3)) (4:Int));(((In vd.length (0:Int)/\0 < (if v6 > (1:Int) then v6 else(1:Int)))/\(In vd.length (1:Int)/\0 < (if v6 > (1:Int) then v6 else(1:Int))))/\(let y1:=((at' vd (0:Int)) % (if v6 > (1:Int) then v6 else(1:Int)));let y2:=((at' vd (1:Int)) % (if v6 > (1:Int) then v6 else(1:Int)));let vj:=y1;let vk:=y2;((((In vd.length (2:Int)/\(In vd.length (2:Int)/\In vd.length (2:Int)))/\In v2.length (4:Int))/\In [((1:Int)+((at' vd (2:Int)) % (3:Int))),((1:Int)+((at' vd (2:Int)) % (9:Int))),((1:Int)+((at' vd (2:Int)) % (1000:Int)))].length ((at' v2 (4:Int)) % (3:Int)))/\(let vl:=(at' [((1:Int)+((at' vd (2:Int)) % (3:Int))),((1:Int)+((at' vd (2:Int)) % (9:Int))),((1:Int)+((at' vd (2:Int)) % (1000:Int)))] ((at' v2 (4:Int)) % (3:Int)));((!decide (vj=vk))=true->((In vc.length (if vk < vj then vk else vj)/\(In vc.length (if vk > vj then vk else vj)/\(In vd.length (3:Int)/\In [(0:Int),(2:Int),(10:Int)].length ((at' vd (3:Int)) % (3:Int)))))/\vH vi.length))))))))
theorem BK (v0:LI_) (jt:Lp f9 (v0.map eI)) (v9:Int) (v6:Int) (va:Int) (vb:Int) (v2:LI_) (vc:LS_) (vi:List aR) (v3:Int):RP n6 [some f9,some ((zE eI) v9),some ((zE eI) v6),some ((zE eI) va),some ((zE eI) vb),some ((oE eI) v2),some ((oE eS) vc),some ((oE aU) vi),some ((zE eI) v3),none,none,none,none,none,none] (λs=>Out.nx ((λvi:(List aR)=>[some f9,some ((zE eI) v9),some ((zE eI) v6),some ((zE eI) va),some ((zE eI) vb),some ((oE eI) v2),some ((oE eS) vc),some ((oE aU) vi),none,none,none,none,none,none,none]) s)) (cT v0 v9 v6 v2 vc vi v3) (some (gR v0 v9 v6 v2 vc vi v3)):=R.tp (bM (bQ 9 (x_call jC (cg (fB (x_call uq (GX (jo 0 eI v0 jt rfl) (cg (fB (jx (jx (ao 1 (zE eI) v9 rfl) (x_i 1)) (ao 8 (zE eI) v3 rfl))) aX)))) (cg (x_i 4) aX))) (λ_=>rfl) λvd=>(bM (abG 10 11 (IW (eH (dU (ao 9 (lE eI) vd rfl)) (x_i 0)) (Jc (x_i 1) (ao 2 (zE eI) v6 rfl))) (IW (eH (dU (ao 9 (lE eI) vd rfl)) (x_i 1)) (Jc (x_i 1) (ao 2 (zE eI) v6 rfl))) λvj vk=>(bM (bQ 12 (eH (fU (nH (cD (fB (jx (x_i 1) (dX (eH (dU (ao 9 (lE eI) vd rfl)) (x_i 2)) 3 (by decide)))) (cD (fB (jx (x_i 1) (dX (eH (dU (ao 9 (lE eI) vd rfl)) (x_i 2)) 9 (by decide)))) (cD (fB (jx (x_i 1) (dX (eH (dU (ao 9 (lE eI) vd rfl)) (x_i 2)) 1000 (by decide)))) (gF eI)))) (z4 rfl))) (dX (eH (dU (ao 5 (lE eI) v2 rfl)) (x_i 4)) 3 (by decide))) (λ_=>rfl) λvl=>(bM (Jd (λvi:(List aR)=>[some f9,some ((zE eI) v9),some ((zE eI) v6),some ((zE eI) va),some ((zE eI) vb),some ((oE eI) v2),some ((oE eS) vc),some ((oE aU) vi),some ((zE eI) v3),some ((oE eI) vd),some ((zE eI) vj),some ((zE eI) vk),some ((zE eI) vl),none,none]) (fD (Ed (by decide) (ao 10 (zE eI) vj rfl) (ao 11 (zE eI) vk rfl))) (bM (Am 7 vi rfl (vG (vD (x_i 0) (ao 12 (zE eI) vl rfl)) (eH (dU (ao 6 (lE eS) vc rfl)) (abD (ao 10 (zE eI) vj rfl) (ao 11 (zE eI) vk rfl))) (eH (dU (ao 6 (lE eS) vc rfl)) (Jc (ao 10 (zE eI) vj rfl) (ao 11 (zE eI) vk rfl))) (eH (fU (nH (cD (x_i 0) (cD (x_i 2) (cD (x_i 10) (gF eI)))) (z4 rfl))) (dX (eH (dU (ao 9 (lE eI) vd rfl)) (x_i 3)) 3 (by decide)))) λvi=>(cP (dB vi rfl)))) (cP (dB vi rfl)) λvi=>(cP (dB vi rfl))))))))))
def dw (v0:LI_) (v9:Int) (v6:Int) (vc:LS_) (vm:List bC) (v3:Int):(List bC):=(let vd:=(aQ (bD v0 ((v9+(1:Int))+v3)) (8:Int));(let y4:=((at' vd (5:Int)) % (if v6 > (1:Int) then v6 else(1:Int)));let y5:=((at' vd (6:Int)) % (if v6 > (1:Int) then v6 else(1:Int)));let vj:=y4;let vk:=y5;(let vm:(List bC):=(if(!decide (vj=vk))=true then(let vm:=vm++[((at' vc (if vk < vj then vk else vj)),(at' vc (if vk > vj then vk else vj)),(at' [(2:Int),(10:Int)] ((at' vd (7:Int)) % (2:Int))))];vm) else vm);vm)))
def gU (v0:LI_) (v9:Int) (v6:Int) (vc:LS_) (vm:List bC) (v3:Int):Prop:=(((gM v0 ((v9+(1:Int))+v3))/\(d9 (bD v0 ((v9+(1:Int))+v3)) (8:Int)))/\(let vd:=(aQ (bD v0 ((v9+(1:Int))+v3)) (8:Int));(((In vd.length (5:Int)/\0 < (if v6 > (1:Int) then v6 else(1:Int)))/\(In vd.length (6:Int)/\0 < (if v6 > (1:Int) then v6 else(1:Int))))/\(let y4:=((at' vd (5:Int)) % (if v6 > (1:Int) then v6 else(1:Int)));let y5:=((at' vd (6:Int)) % (if v6 > (1:Int) then v6 else(1:Int)));let vj:=y4;let vk:=y5;((!decide (vj=vk))=true->((In vc.length (if vk < vj then vk else vj)/\(In vc.length (if vk > vj then vk else vj)/\(In vd.length (7:Int)/\In [(2:Int),(10:Int)].length ((at' vd (7:Int)) % (2:Int)))))/\vH vm.length))))))
theorem BL (v0:LI_) (jt:Lp f9 (v0.map eI)) (v9:Int) (v6:Int) (va:Int) (vb:Int) (v2:LI_) (vc:LS_) (vi:List aR) (v7:List aR) (vm:List bC) (v3:Int):RP n8 [some f9,some ((zE eI) v9),some ((zE eI) v6),some ((zE eI) va),some ((zE eI) vb),some ((oE eI) v2),some ((oE eS) vc),some ((oE aU) vi),some ((zE eI) v3),none,none,none,none,some ((oE aU) v7),some ((oE bG) vm)] (λs=>Out.nx ((λvm:(List bC)=>[some f9,some ((zE eI) v9),some ((zE eI) v6),some ((zE eI) va),some ((zE eI) vb),some ((oE eI) v2),some ((oE eS) vc),some ((oE aU) vi),none,none,none,none,none,some ((oE aU) v7),some ((oE bG) vm)]) s)) (dw v0 v9 v6 vc vm v3) (some (gU v0 v9 v6 vc vm v3)):=R.tp (bM (bQ 9 (x_call jC (cg (fB (x_call uq (GX (jo 0 eI v0 jt rfl) (cg (fB (jx (jx (ao 1 (zE eI) v9 rfl) (x_i 1)) (ao 8 (zE eI) v3 rfl))) aX)))) (cg (x_i 8) aX))) (λ_=>rfl) λvd=>(bM (abG 10 11 (IW (eH (dU (ao 9 (lE eI) vd rfl)) (x_i 5)) (Jc (x_i 1) (ao 2 (zE eI) v6 rfl))) (IW (eH (dU (ao 9 (lE eI) vd rfl)) (x_i 6)) (Jc (x_i 1) (ao 2 (zE eI) v6 rfl))) λvj vk=>(bM (Jd (λvm:(List bC)=>[some f9,some ((zE eI) v9),some ((zE eI) v6),some ((zE eI) va),some ((zE eI) vb),some ((oE eI) v2),some ((oE eS) vc),some ((oE aU) vi),some ((zE eI) v3),some ((oE eI) vd),some ((zE eI) vj),some ((zE eI) vk),none,some ((oE aU) v7),some ((oE bG) vm)]) (fD (Ed (by decide) (ao 10 (zE eI) vj rfl) (ao 11 (zE eI) vk rfl))) (bM (Am 14 vm rfl (pJ (eH (dU (ao 6 (lE eS) vc rfl)) (abD (ao 10 (zE eI) vj rfl) (ao 11 (zE eI) vk rfl))) (eH (dU (ao 6 (lE eS) vc rfl)) (Jc (ao 10 (zE eI) vj rfl) (ao 11 (zE eI) vk rfl))) (eH (fU (nH (cD (x_i 2) (cD (x_i 10) (gF eI))) (z4 rfl))) (dX (eH (dU (ao 9 (lE eI) vd rfl)) (x_i 7)) 2 (by decide)))) λvm=>(cP (dB vm rfl)))) (cP (dB vm rfl)) λvm=>(cP (dB vm rfl))))))))
def oh (v0:LI_) (v9:Int) (v6:Int) (va:Int) (vb:Int) (v2:LI_) (vc:LS_) (vi:List aR):gJ:=(let v7:=((kJ aU (wM vi)).map λq3:aR=>(((0:Int) - q3.1),q3.2.1,q3.2.2.1,q3.2.2.2));(let vm:=([]:List bC);(let vm:(List bC):=((rng 0 vb.toNat).foldl (λ(vm:List bC) (v3:Int)=>(dw v0 v9 v6 vc vm v3)) vm);(vc,v7,(kJ bG (wM vm))))))
def ou (v0:LI_) (v9:Int) (v6:Int) (va:Int) (vb:Int) (v2:LI_) (vc:LS_) (vi:List aR):Prop:=(((vi.length<=64/\vi.length < 64)/\(kJ aU (wM vi)).length<=100000)/\(let v7:=((kJ aU (wM vi)).map λq3:aR=>(((0:Int) - q3.1),q3.2.1,q3.2.2.1,q3.2.2.2));(let vm:=([]:List bC);((Rg vb/\Bt (λ(vm:List bC) (v3:Int)=>(dw v0 v9 v6 vc vm v3)) (λ(vm:List bC) (v3:Int)=>some (gU v0 v9 v6 vc vm v3)) (rng 0 vb.toNat) vm)/\(let vm:(List bC):=((rng 0 vb.toNat).foldl (λ(vm:List bC) (v3:Int)=>(dw v0 v9 v6 vc vm v3)) vm);(vm.length<=64/\vm.length < 64))))))
def uG:Ev->Option Out:=(aF (setG 13 (fu (Bq (yQ (Ka (gv 7)))) (j9 4 (bf (gO 0) (bf (gO 1) (bf (gO 2) (bf (gO 3) nC))))) pH (bR gj (aq (b2 subB (cB (.int 0)) (gv 0)) (aq (gv 1) (aq (gv 2) (aq (gv 3) aD))))) [] 4)) (aF (setG 14 (bR oN aD)) (aF (qO (R6 (aq (gv 4) aD)) (gO 8) n8) (aF (dZ (bR gj (aq (bR gC (aq (gv 6) aD)) (aq (bR gC (aq (gv 13) aD)) (aq (bR gC (aq (yQ (Ka (gv 14))) aD)) aD))))) eF))))
theorem BP (v0:LI_) (jt:Lp f9 (v0.map eI)) (v9:Int) (v6:Int) (va:Int) (vb:Int) (v2:LI_) (vc:LS_) (vi:List aR):RP uG [some f9,some ((zE eI) v9),some ((zE eI) v6),some ((zE eI) va),some ((zE eI) vb),some ((oE eI) v2),some ((oE eS) vc),some ((oE aU) vi),none,none,none,none,none,none,none] (λr=>Out.rt ((zE cV) r)) (oh v0 v9 v6 va vb v2 vc vi) (some (ou v0 v9 v6 va vb v2 vc vi)):=R.tp (bQ 13 (mH (afx (fU (Kq (Ko (dU (ao 7 (lE aU) vi rfl)))))) _ (λ_=>rfl) (λq3:aR=>(vG (vD (x_i 0) (ao 0 (zE eI) q3.1 rfl)) (ao 1 (zE eS) q3.2.1 rfl) (ao 2 (zE eS) q3.2.2.1 rfl) (ao 3 (zE eI) q3.2.2.2 rfl))) λ_=>rfl) (λ_=>rfl) λv7=>(bQ 14 (nH (gF bG) (z4 rfl)) (λ_=>rfl) λvm=>(Je (λvm:(List bC)=>[some f9,some ((zE eI) v9),some ((zE eI) v6),some ((zE eI) va),some ((zE eI) vb),some ((oE eI) v2),some ((oE eS) vc),some ((oE aU) vi),none,none,none,none,none,some ((oE aU) v7),some ((oE bG) vm)]) vm rfl (wO (ao 4 (zE eI) vb rfl)) _ (λ_ _=>rfl) (λ(vm:List bC) (v3:Int)=>(BL v0 jt v9 v6 va vb v2 vc vi v7 vm v3).r) λvm=>(bZ (λr=>r) (pJ (jJ (dU (ao 6 (lE eS) vc rfl))) (jJ (dU (ao 13 (lE aU) v7 rfl))) (jJ (fU (Kq (Ko (dU (ao 14 (lE bG) vm rfl))))))) (λ_=>rfl) λ_=>rfl))))
def oA (v0:LI_) (v9:Int) (v6:Int) (va:Int) (vb:Int) (v2:LI_) (vc:LS_):gJ:=(let vi:=([]:List aR);(let vi:(List aR):=((rng 0 va.toNat).foldl (λ(vi:List aR) (v3:Int)=>(cT v0 v9 v6 v2 vc vi v3)) vi);(oh v0 v9 v6 va vb v2 vc vi)))
def oF (v0:LI_) (v9:Int) (v6:Int) (va:Int) (vb:Int) (v2:LI_) (vc:LS_):Prop:=(let vi:=([]:List aR);((Rg va/\Bt (λ(vi:List aR) (v3:Int)=>(cT v0 v9 v6 v2 vc vi v3)) (λ(vi:List aR) (v3:Int)=>some (gR v0 v9 v6 v2 vc vi v3)) (rng 0 va.toNat) vi)/\(let vi:(List aR):=((rng 0 va.toNat).foldl (λ(vi:List aR) (v3:Int)=>(cT v0 v9 v6 v2 vc vi v3)) vi);(ou v0 v9 v6 va vb v2 vc vi))))
def uH:Ev->Option Out:=(aF (setG 7 (bR oN aD)) (aF (qO (R6 (aq (gv 3) aD)) (gO 8) n6) uG))
theorem BR (v0:LI_) (jt:Lp f9 (v0.map eI)) (v9:Int) (v6:Int) (va:Int) (vb:Int) (v2:LI_) (vc:LS_):RP uH [some f9,some ((zE eI) v9),some ((zE eI) v6),some ((zE eI) va),some ((zE eI) vb),some ((oE eI) v2),some ((oE eS) vc),none,none,none,none,none,none,none,none] (λr=>Out.rt ((zE cV) r)) (oA v0 v9 v6 va vb v2 vc) (some (oF v0 v9 v6 va vb v2 vc)):=R.tp (bQ 7 (nH (gF aU) (z4 rfl)) (λ_=>rfl) λvi=>(Je (λvi:(List aR)=>[some f9,some ((zE eI) v9),some ((zE eI) v6),some ((zE eI) va),some ((zE eI) vb),some ((oE eI) v2),some ((oE eS) vc),some ((oE aU) vi),none,none,none,none,none,none,none]) vi rfl (wO (ao 3 (zE eI) va rfl)) _ (λ_ _=>rfl) (λ(vi:List aR) (v3:Int)=>(BK v0 jt v9 v6 va vb v2 vc vi v3).r) λvi=>(BP v0 jt v9 v6 va vb v2 vc vi).r))
def oG (v0:LI_) (v9:Int) (v6:Int) (va:Int) (vb:Int) (v2:LI_):gJ:=(let vc:=(wL (cG v2 v6));(oA v0 v9 v6 va vb v2 vc))
def oH (v0:LI_) (v9:Int) (v6:Int) (va:Int) (vb:Int) (v2:LI_):Prop:=(((qH v2 v6)/\(cG v2 v6).length < 64)/\(let vc:=(wL (cG v2 v6));(oF v0 v9 v6 va vb v2 vc)))
def BW:Ev->Option Out:=(aF (setG 6 (bR Io (aq (bJ 2 nJ (aq (gv 5) (aq (gv 2) aD))) aD))) uH)
theorem BX (v0:LI_) (jt:Lp f9 (v0.map eI)) (v9:Int) (v6:Int) (va:Int) (vb:Int) (v2:LI_):RP BW [some f9,some ((zE eI) v9),some ((zE eI) v6),some ((zE eI) va),some ((zE eI) vb),some ((oE eI) v2),none,none,none,none,none,none,none,none,none] (λr=>Out.rt ((zE cV) r)) (oG v0 v9 v6 va vb v2) (some (oH v0 v9 v6 va vb v2)):=R.tp (bQ 6 (aaD (fU (x_call O5 (GX (dU (ao 5 (lE eI) v2 rfl)) (cg (ao 2 (zE eI) v6 rfl) aX))))) (λ_=>rfl) λvc=>(BR v0 jt v9 v6 va vb v2 vc).r)
def jk (v0:LI_) (v9:Int) (v6:Int) (va:Int) (vb:Int):gJ:=(let v2:=(aQ (bD v0 v9) (6:Int));(oG v0 v9 v6 va vb v2))
def o7 (v0:LI_) (v9:Int) (v6:Int) (va:Int) (vb:Int):Prop:=(((gM v0 v9)/\(d9 (bD v0 v9) (6:Int)))/\(let v2:=(aQ (bD v0 v9) (6:Int));(oH v0 v9 v6 va vb v2)))
theorem K9 (v0:LI_) (jt:Lp f9 (v0.map eI)) (v9:Int) (v6:Int) (va:Int) (vb:Int):RP oU [some f9,some ((zE eI) v9),some ((zE eI) v6),some ((zE eI) va),some ((zE eI) vb),none,none,none,none,none,none,none,none,none,none] (λr=>Out.rt ((zE cV) r)) (jk v0 v9 v6 va vb) (some (o7 v0 v9 v6 va vb)):=R.tp (bQ 5 (x_call jC (cg (fB (x_call uq (GX (jo 0 eI v0 jt rfl) (cg (ao 1 (zE eI) v9 rfl) aX)))) (cg (x_i 6) aX))) (λ_=>rfl) λv2=>(BX v0 jt v9 v6 va vb v2).r)
theorem La:∀ v bs,(aL eI (aZ eI (aZ eI (aZ eI (aZ eI aN))))) v bs->bs.length=5/\(hold (some (o7 v.1 v.2.1 v.2.2.1 v.2.2.2.1 v.2.2.2.2.1))->oV (bs.map lend)=some ((zE cV) (jk v.1 v.2.1 v.2.2.1 v.2.2.2.1 v.2.2.2.2.1))):=by
 rintro⟨v0,v9,v6,va,vb,_⟩ _ ⟨f9,_,rfl,jt,⟨_,rfl,⟨_,rfl,⟨_,rfl,⟨_,rfl,rfl⟩⟩⟩⟩⟩;exact⟨rfl,λh=>bL (g:=oU) (n:=15) (bs:=[lend f9,.z (eI v9),.z (eI v6),.z (eI va),.z (eI vb)]) (K9 v0 (Ak jt) v9 v6 va vb) h⟩
def fK (v0:LI_):gJ:=(let v2:=(aQ (bD v0 (0:Int)) (9:Int));(let q1:=(jk v0 (0:Int) ((at' v2 (6:Int)) % (9:Int)) ((at' v2 (7:Int)) % (13:Int)) ((at' v2 (8:Int)) % (6:Int)));(let s4:(List aR)×(List bC):=(if(decide (((at' v2 (5:Int)) % (4:Int))=(1:Int)))=true then(let va:=(q1.2.1.map λq2:aR=>(q2.1,q2.2.1,q2.2.2.1,(q2.2.2.2 * (49999:Int))));(let vb:=(q1.2.2.map λq3:bC=>(q3.1,q3.2.1,(q3.2.2 * (50000:Int))));(va,vb))) else(q1.2.1,q1.2.2));(let s6:(List aR)×(List bC):=(if((decide ((1:Int) < ((at' v2 (5:Int)) % (4:Int))))&&(!decide (s4.1=([]:List aR))))=true then(let q5:=(at' s4.1 (((at' v2 (5:Int)) / (4:Int)) % (s4.1.length:Int)));(let vn:=[(((0:Int) - q5.1),q5.2.1,q5.2.2.1,(2:Int)),(((0:Int) - q5.1),q5.2.1,q5.2.2.1,(9:Int)),(((0:Int) - q5.1),q5.2.1,q5.2.2.1,(10:Int)),(((0:Int) - q5.1),q5.2.1,q5.2.2.1,(100:Int))];(let vn:=(kJ aU (wM (vn++(s4.1.map λvo:aR=>(((0:Int) - vo.1),(vo.2.1,vo.2.2.1,vo.2.2.2).1,(vo.2.1,vo.2.2.1,vo.2.2.2).2.1,(vo.2.1,vo.2.2.1,vo.2.2.2).2.2)))));(let va:=(vn.map λvo:aR=>(((0:Int) - vo.1),(vo.2.1,vo.2.2.1,vo.2.2.2).1,(vo.2.1,vo.2.2.1,vo.2.2.2).2.1,(vo.2.1,vo.2.2.1,vo.2.2.2).2.2));(let vb:=(kJ bG (wM (s4.2++[(q5.2.1,q5.2.2.1,(2:Int)),(q5.2.1,q5.2.2.1,(10:Int)),(q5.2.1,q5.2.2.1,(100:Int))])));(va,vb)))))) else(s4.1,s4.2));(q1.1,s6.1,s6.2)))))
def nP (v0:LI_):Prop:=(((gM v0 (0:Int))/\(d9 (bD v0 (0:Int)) (9:Int)))/\(let v2:=(aQ (bD v0 (0:Int)) (9:Int));(((In v2.length (6:Int)/\(In v2.length (7:Int)/\In v2.length (8:Int)))/\(o7 v0 (0:Int) ((at' v2 (6:Int)) % (9:Int)) ((at' v2 (7:Int)) % (13:Int)) ((at' v2 (8:Int)) % (6:Int))))/\(let q1:=(jk v0 (0:Int) ((at' v2 (6:Int)) % (9:Int)) ((at' v2 (7:Int)) % (13:Int)) ((at' v2 (8:Int)) % (6:Int)));((In v2.length (5:Int)/\((decide (((at' v2 (5:Int)) % (4:Int))=(1:Int)))=true->(q1.2.1.length<=100000/\(let va:=(q1.2.1.map λq2:aR=>(q2.1,q2.2.1,q2.2.2.1,(q2.2.2.2 * (49999:Int))));q1.2.2.length<=100000))))/\(let s4:(List aR)×(List bC):=(if(decide (((at' v2 (5:Int)) % (4:Int))=(1:Int)))=true then(let va:=(q1.2.1.map λq2:aR=>(q2.1,q2.2.1,q2.2.2.1,(q2.2.2.2 * (49999:Int))));(let vb:=(q1.2.2.map λq3:bC=>(q3.1,q3.2.1,(q3.2.2 * (50000:Int))));(va,vb))) else(q1.2.1,q1.2.2));(In v2.length (5:Int)/\(((decide ((1:Int) < ((at' v2 (5:Int)) % (4:Int))))&&(!decide (s4.1=([]:List aR))))=true->(((In v2.length (5:Int)/\0 < (s4.1.length:Int))/\In s4.1.length (((at' v2 (5:Int)) / (4:Int)) % (s4.1.length:Int)))/\(let q5:=(at' s4.1 (((at' v2 (5:Int)) / (4:Int)) % (s4.1.length:Int)));(let vn:=[(((0:Int) - q5.1),q5.2.1,q5.2.2.1,(2:Int)),(((0:Int) - q5.1),q5.2.1,q5.2.2.1,(9:Int)),(((0:Int) - q5.1),q5.2.1,q5.2.2.1,(10:Int)),(((0:Int) - q5.1),q5.2.1,q5.2.2.1,(100:Int))];((((s4.1.length<=100000/\vH (vn.length+(s4.1.map λvo:aR=>(((0:Int) - vo.1),(vo.2.1,vo.2.2.1,vo.2.2.2).1,(vo.2.1,vo.2.2.1,vo.2.2.2).2.1,(vo.2.1,vo.2.2.1,vo.2.2.2).2.2)).length))/\(vn++(s4.1.map λvo:aR=>(((0:Int) - vo.1),(vo.2.1,vo.2.2.1,vo.2.2.2).1,(vo.2.1,vo.2.2.1,vo.2.2.2).2.1,(vo.2.1,vo.2.2.1,vo.2.2.2).2.2))).length<=64)/\(vn++(s4.1.map λvo:aR=>(((0:Int) - vo.1),(vo.2.1,vo.2.2.1,vo.2.2.2).1,(vo.2.1,vo.2.2.1,vo.2.2.2).2.1,(vo.2.1,vo.2.2.1,vo.2.2.2).2.2))).length < 64)/\(let vn:=(kJ aU (wM (vn++(s4.1.map λvo:aR=>(((0:Int) - vo.1),(vo.2.1,vo.2.2.1,vo.2.2.2).1,(vo.2.1,vo.2.2.1,vo.2.2.2).2.1,(vo.2.1,vo.2.2.1,vo.2.2.2).2.2)))));(vn.length<=100000/\(let va:=(vn.map λvo:aR=>(((0:Int) - vo.1),(vo.2.1,vo.2.2.1,vo.2.2.2).1,(vo.2.1,vo.2.2.1,vo.2.2.2).2.1,(vo.2.1,vo.2.2.1,vo.2.2.2).2.2));((vH (s4.2.length+[(q5.2.1,q5.2.2.1,(2:Int)),(q5.2.1,q5.2.2.1,(10:Int)),(q5.2.1,q5.2.2.1,(100:Int))].length)/\(s4.2++[(q5.2.1,q5.2.2.1,(2:Int)),(q5.2.1,q5.2.2.1,(10:Int)),(q5.2.1,q5.2.2.1,(100:Int))]).length<=64)/\(s4.2++[(q5.2.1,q5.2.2.1,(2:Int)),(q5.2.1,q5.2.2.1,(10:Int)),(q5.2.1,q5.2.2.1,(100:Int))]).length < 64))))))))))))))))
theorem O6 (v0:LI_) (jt:Lp f9 (v0.map eI)):RP qb [some f9,none,none,none,none,none,none,none,none,none] (λr=>Out.rt ((zE cV) r)) (fK v0) (some (nP v0)):=R.tp (bQ 1 (x_call jC (cg (fB (x_call uq (GX (jo 0 eI v0 jt rfl) (cg (x_i 0) aX)))) (cg (x_i 9) aX))) (λ_=>rfl) λv2=>(Al (x_call La (GX (jo 0 eI v0 jt rfl) (cg (x_i 0) (cg (dX (eH (dU (ao 1 (lE eI) v2 rfl)) (x_i 6)) 9 (by decide)) (cg (dX (eH (dU (ao 1 (lE eI) v2 rfl)) (x_i 7)) 13 (by decide)) (cg (dX (eH (dU (ao 1 (lE eI) v2 rfl)) (x_i 8)) 6 (by decide)) aX)))))) _ (λ_=>rfl) λq1=>(Jd (λs4:(List aR)×(List bC)=>[some f9,some ((oE eI) v2),some ((zE (eT eS)) q1.1),some ((zE (eT aU)) s4.1),some ((zE (eT bG)) s4.2),none,none,none,none,none]) (fD (x_eq (by decide) (dX (eH (dU (ao 1 (lE eI) v2 rfl)) (x_i 5)) 4 (by decide)) (x_i 1))) (bM (bQ 3 (jJ (fU (mH (Ek (ao 3 (zE (eT aU)) q1.2.1 rfl)) _ (λ_=>rfl) (λq2:aR=>(vG (ao 0 (zE eI) q2.1 rfl) (ao 1 (zE eS) q2.2.1 rfl) (ao 2 (zE eS) q2.2.2.1 rfl) (Cw (ao 3 (zE eI) q2.2.2.2 rfl) 49999 (by decide)))) λ_=>rfl))) (λ_=>rfl) λva=>(bM (bQ 4 (jJ (fU (mH (Ek (ao 4 (zE (eT bG)) q1.2.2 rfl)) _ (λ_=>rfl) (λq3:bC=>(pJ (ao 0 (zE eS) q3.1 rfl) (ao 1 (zE eS) q3.2.1 rfl) (Cw (ao 2 (zE eI) q3.2.2 rfl) 50000 (by decide)))) λ_=>rfl))) (λ_=>rfl) λvb=>(cP (dB (va,vb) rfl)))))) (cP (dB (q1.2.1,q1.2.2) rfl)) λs4=>(Jd (λs6:(List aR)×(List bC)=>[some f9,some ((oE eI) v2),some ((zE (eT eS)) q1.1),some ((zE (eT aU)) s6.1),some ((zE (eT bG)) s6.2),none,none,none,none,none]) (Ja (fD (aay (dX (eH (dU (ao 1 (lE eI) v2 rfl)) (x_i 5)) 4 (by decide)) (x_i 1))) (fD (Ed (by decide) (ao 3 (zE (eT aU)) s4.1 rfl) (zU aU)))) (bM (Al (Eh (ao 3 (zE (eT aU)) s4.1 rfl) (IW (Cy (eH (dU (ao 1 (lE eI) v2 rfl)) (x_i 5)) 4 (by decide)) (Ei (ao 3 (zE (eT aU)) s4.1 rfl)))) _ (λ_=>rfl) λq5=>(bM (bQ 9 (nH (cD (vG (vD (x_i 0) (ao 5 (zE eI) q5.1 rfl)) (ao 6 (zE eS) q5.2.1 rfl) (ao 7 (zE eS) q5.2.2.1 rfl) (x_i 2)) (cD (vG (vD (x_i 0) (ao 5 (zE eI) q5.1 rfl)) (ao 6 (zE eS) q5.2.1 rfl) (ao 7 (zE eS) q5.2.2.1 rfl) (x_i 9)) (cD (vG (vD (x_i 0) (ao 5 (zE eI) q5.1 rfl)) (ao 6 (zE eS) q5.2.1 rfl) (ao 7 (zE eS) q5.2.2.1 rfl) (x_i 10)) (cD (vG (vD (x_i 0) (ao 5 (zE eI) q5.1 rfl)) (ao 6 (zE eS) q5.2.1 rfl) (ao 7 (zE eS) q5.2.2.1 rfl) (x_i 100)) (gF aU))))) (z4 rfl)) (λ_=>rfl) λvn=>(bM (bQ 9 (Kq (Ko (fU (zV (dU (ao 9 (lE aU) vn rfl)) (fU (mH (Ek (ao 3 (zE (eT aU)) s4.1 rfl)) _ (λ_=>rfl) (λvo:aR=>(fB (QX (e3:=aU) (QM (vD (x_i 0) (jy (ao 0 (zE aU) vo rfl) (λq=>q.1) eI 0 λ_=>rfl))) (abE (ao 0 (zE aU) vo rfl) (λq=>(q.2.1,q.2.2.1,q.2.2.2)) bG (some (1:Int)) none rfl rfl λ_=>rfl) (λx y=>(x,y.1,y.2.1,y.2.2)) λ_ _=>rfl))) λ_=>rfl)))))) (λ_=>rfl) λvn=>(bM (bQ 3 (jJ (fU (mH (afx (dU (ao 9 (lE aU) vn rfl))) _ (λ_=>rfl) (λvo:aR=>(fB (QX (e3:=aU) (QM (vD (x_i 0) (jy (ao 0 (zE aU) vo rfl) (λq=>q.1) eI 0 λ_=>rfl))) (abE (ao 0 (zE aU) vo rfl) (λq=>(q.2.1,q.2.2.1,q.2.2.2)) bG (some (1:Int)) none rfl rfl λ_=>rfl) (λx y=>(x,y.1,y.2.1,y.2.2)) λ_ _=>rfl))) λ_=>rfl))) (λ_=>rfl) λva=>(bM (bQ 4 (jJ (fU (Kq (Ko (fU (zV (fU (Kf (ao 4 (zE (eT bG)) s4.2 rfl))) (fU (nH (cD (pJ (ao 6 (zE eS) q5.2.1 rfl) (ao 7 (zE eS) q5.2.2.1 rfl) (x_i 2)) (cD (pJ (ao 6 (zE eS) q5.2.1 rfl) (ao 7 (zE eS) q5.2.2.1 rfl) (x_i 10)) (cD (pJ (ao 6 (zE eS) q5.2.1 rfl) (ao 7 (zE eS) q5.2.2.1 rfl) (x_i 100)) (gF bG)))) (z4 rfl))))))))) (λ_=>rfl) λvb=>(cP (dB (va,vb) rfl)))))))))))) (cP (dB (s4.1,s4.2) rfl)) λs6=>(bZ (λr=>r) (pJ (ao 2 (zE (eT eS)) q1.1 rfl) (ao 3 (zE (eT aU)) s6.1 rfl) (ao 4 (zE (eT bG)) s6.2 rfl)) (λ_=>rfl) λ_=>rfl)))))
theorem O7:∀ v bs,(aL eI aN) v bs->bs.length=1/\(hold (some (nP v.1))->qd (bs.map lend)=some ((zE cV) (fK v.1))):=by
 rintro⟨v0,_⟩ _ ⟨f9,_,rfl,jt,rfl⟩;exact⟨rfl,λh=>bL (g:=qb) (n:=10) (bs:=[lend f9]) (O6 v0 (Ak jt)) h⟩
def fL  (vq:LS_) (q1:aR):LS_:=(let vq:=vq++[((((((q1.2.1++("-" : Str))++q1.2.2.1)++(" " : Str))++(dM (eI q1.1)))++(" " : Str))++(dM (eI q1.2.2.2)))];vq)
def qY  (vq:LS_) (q1:aR):Prop:=((((((((vH (q1.2.1.length+("-" : Str).length)/\vH ((q1.2.1++("-" : Str)).length+q1.2.2.1.length))/\vH (((q1.2.1++("-" : Str))++q1.2.2.1).length+(" " : Str).length))/\X3 (eI q1.1))/\vH ((((q1.2.1++("-" : Str))++q1.2.2.1)++(" " : Str)).length+(dM (eI q1.1)).length))/\vH (((((q1.2.1++("-" : Str))++q1.2.2.1)++(" " : Str))++(dM (eI q1.1))).length+(" " : Str).length))/\X3 (eI q1.2.2.2))/\vH ((((((q1.2.1++("-" : Str))++q1.2.2.1)++(" " : Str))++(dM (eI q1.1)))++(" " : Str)).length+(dM (eI q1.2.2.2)).length))/\vH vq.length)
theorem Hj (v1:gJ) (vq:LS_) (q1:aR):RP w5 [some ((zE cV) v1),some ((oE eS) vq),some ((zE eI) q1.1),some ((zE eS) q1.2.1),some ((zE eS) q1.2.2.1),some ((zE eI) q1.2.2.2)] (λs=>Out.nx ((λvq:LS_=>[some ((zE cV) v1),some ((oE eS) vq),none,none,none,none]) s)) (fL  vq q1) (some (qY  vq q1)):=R.tp (bM (Am 1 vq rfl (fB (nZ (nZ (nZ (nZ (nZ (nZ (ao 3 (zE eS) q1.2.1 rfl) (Ku "-")) (ao 4 (zE eS) q1.2.2.1 rfl)) (Ku " ")) (Q0 (nG (ao 2 (zE eI) q1.1 rfl)))) (Ku " ")) (Q0 (nG (ao 5 (zE eI) q1.2.2.2 rfl))))) λvq=>(cP (dB vq rfl))))
def fM  (vq:LS_) (q2:bC):LS_:=(let vq:=vq++[((((q2.1++("/" : Str))++q2.2.1)++(" " : Str))++(dM (eI q2.2.2)))];vq)
def qZ  (vq:LS_) (q2:bC):Prop:=(((((vH (q2.1.length+("/" : Str).length)/\vH ((q2.1++("/" : Str)).length+q2.2.1.length))/\vH (((q2.1++("/" : Str))++q2.2.1).length+(" " : Str).length))/\X3 (eI q2.2.2))/\vH ((((q2.1++("/" : Str))++q2.2.1)++(" " : Str)).length+(dM (eI q2.2.2)).length))/\vH vq.length)
theorem Hl (v1:gJ) (vq:LS_) (q2:bC):RP w6 [some ((zE cV) v1),some ((oE eS) vq),none,some ((zE eS) q2.1),some ((zE eS) q2.2.1),some ((zE eI) q2.2.2)] (λs=>Out.nx ((λvq:LS_=>[some ((zE cV) v1),some ((oE eS) vq),none,none,none,none]) s)) (fM  vq q2) (some (qZ  vq q2)):=R.tp (bM (Am 1 vq rfl (fB (nZ (nZ (nZ (nZ (ao 3 (zE eS) q2.1 rfl) (Ku "/")) (ao 4 (zE eS) q2.2.1 rfl)) (Ku " ")) (Q0 (nG (ao 5 (zE eI) q2.2.2 rfl))))) λvq=>(cP (dB vq rfl))))
def mC (v1:gJ):Str:=(let vq:=[(Txt.join " " ([("names" : Str)]++v1.1))];(let vq:LS_:=(v1.2.1.foldl (λ(vq:LS_) (q1:aR)=>(fL  vq q1)) vq);(let vq:LS_:=(v1.2.2.foldl (λ(vq:LS_) (q2:bC)=>(fM  vq q2)) vq);(Txt.join "\n" vq))))
def ur (v1:gJ):Prop:=((vH ([("names" : Str)].length+v1.1.length)/\(([("names" : Str)]++v1.1).map (·.length)).sum+([("names" : Str)]++v1.1).length * (" " : Str).length<=100000)/\(let vq:=[(Txt.join " " ([("names" : Str)]++v1.1))];(Bt (λ(vq:LS_) (q1:aR)=>(fL  vq q1)) (λ(vq:LS_) (q1:aR)=>some (qY  vq q1)) v1.2.1 vq/\(let vq:LS_:=(v1.2.1.foldl (λ(vq:LS_) (q1:aR)=>(fL  vq q1)) vq);(Bt (λ(vq:LS_) (q2:bC)=>(fM  vq q2)) (λ(vq:LS_) (q2:bC)=>some (qZ  vq q2)) v1.2.2 vq/\(let vq:LS_:=(v1.2.2.foldl (λ(vq:LS_) (q2:bC)=>(fM  vq q2)) vq);(vq.map (·.length)).sum+vq.length * ("\n" : Str).length<=100000))))))
theorem Ra (v1:gJ):RP tB [some ((zE cV) v1),none,none,none,none,none] (λr=>Out.rt ((zE eS) r)) (mC v1) (some (ur v1)):=R.tp (bQ 1 (nH (cD (fB (Ej " " (fU (zV (fU (nH (cD (Ku "names") (gF eS)) (z4 rfl))) (fU (Kf (jy (ao 0 (zE cV) v1 rfl) (λq=>q.1) (eT eS) 0 λ_=>rfl))))))) (gF eS)) (z4 rfl)) (λ_=>rfl) λvq=>(Je (λvq:LS_=>[some ((zE cV) v1),some ((oE eS) vq),none,none,none,none]) vq rfl (afA (jy (ao 0 (zE cV) v1 rfl) (λq=>q.2.1) (eT aU) 1 λ_=>rfl)) _ (λ_ _=>rfl) (λ(vq:LS_) (q1:aR)=>(Hj v1 vq q1).r) λvq=>(Je (λvq:LS_=>[some ((zE cV) v1),some ((oE eS) vq),none,none,none,none]) vq rfl (afA (jy (ao 0 (zE cV) v1 rfl) (λq=>q.2.2) (eT bG) 2 λ_=>rfl)) _ (λ_ _=>rfl) (λ(vq:LS_) (q2:bC)=>(Hl v1 vq q2).r) λvq=>(bZ (λr=>r) (Ej "\n" (dU (ao 1 (lE eS) vq rfl))) (λ_=>rfl) λ_=>rfl))))
theorem Rb:∀ v bs,(aZ cV aN) v bs->bs.length=1/\(hold (some (ur v.1))->tD (bs.map lend)=some ((zE eS) (mC v.1))):=by
 rintro⟨v1,_⟩ _ ⟨_,rfl,rfl⟩;exact⟨rfl,λh=>bL (g:=tB) (n:=6) (bs:=[.z (cV v1)]) (Ra v1) h⟩
def aJ (vu:aR):Str:=(let q1:=vu;(q1.2.1++(("-" : Str)++(q1.2.2.1++((" " : Str)++(dM (.int q1.1)++((" " : Str)++(dM (.int q1.2.2.2)++Str.empty))))))))
def q8 (vu:aR):Prop:=(let q1:=vu;(((0<=q1.1/\q1.1 < 1000000)/\(0<=q1.2.2.2/\q1.2.2.2 < 1000000))/\(q1.2.1++(("-" : Str)++(q1.2.2.1++((" " : Str)++(dM (.int q1.1)++((" " : Str)++(dM (.int q1.2.2.2)++Str.empty))))))).length<=100000))
theorem Ho (vu:aR):RP mO [some ((zE aU) vu),none,none,none,none] (λr=>Out.rt ((zE eS) r)) (aJ vu) (some (q8 vu)):=R.tp (Al (ao 0 (zE aU) vu rfl) _ (λ_=>rfl) λq1=>(bZ (λr=>r) (XJ (S8 (ao 2 (zE eS) q1.2.1 rfl) (N6 "-" (S8 (ao 3 (zE eS) q1.2.2.1 rfl) (N6 " " (Q5 (ao 1 (zE eI) q1.1 rfl) (N6 " " (Q5 (ao 4 (zE eI) q1.2.2.2 rfl) abI)))))))) (λ_=>rfl) λ_=>rfl))
theorem Hq:∀ v bs,(aZ aU aN) v bs->bs.length=1/\(hold (some (q8 v.1))->mQ (bs.map lend)=some ((zE eS) (aJ v.1))):=by
 rintro⟨vu,_⟩ _ ⟨_,rfl,rfl⟩;exact⟨rfl,λh=>bL (g:=mO) (n:=5) (bs:=[.z (aU vu)]) (Ho vu) h⟩
def aW (vv:bC):Str:=(let q1:=vv;(q1.1++(("/" : Str)++(q1.2.1++((" " : Str)++(dM (.int q1.2.2)++Str.empty))))))
def xR (vv:bC):Prop:=(let q1:=vv;((0<=q1.2.2/\q1.2.2 < 1000000)/\(q1.1++(("/" : Str)++(q1.2.1++((" " : Str)++(dM (.int q1.2.2)++Str.empty))))).length<=100000))
theorem Rc (vv:bC):RP tH [some ((zE bG) vv),none,none,none] (λr=>Out.rt ((zE eS) r)) (aW vv) (some (xR vv)):=R.tp (Al (ao 0 (zE bG) vv rfl) _ (λ_=>rfl) λq1=>(bZ (λr=>r) (XJ (S8 (ao 1 (zE eS) q1.1 rfl) (N6 "/" (S8 (ao 2 (zE eS) q1.2.1 rfl) (N6 " " (Q5 (ao 3 (zE eI) q1.2.2 rfl) abI)))))) (λ_=>rfl) λ_=>rfl))
theorem Rf:∀ v bs,(aZ bG aN) v bs->bs.length=1/\(hold (some (xR v.1))->tK (bs.map lend)=some ((zE eS) (aW v.1))):=by
 rintro⟨vv,_⟩ _ ⟨_,rfl,rfl⟩;exact⟨rfl,λh=>bL (g:=tH) (n:=4) (bs:=[.z (bG vv)]) (Rc vv) h⟩
def fP (vs:gJ):Str:=(let q1:=vs;(let vt:=(Txt.join " " ([("names" : Str)]++q1.1));(Txt.join "\n" (([vt]++(q1.2.1.map λvu:aR=>(aJ vu)))++(q1.2.2.map λvv:bC=>(aW vv))))))
def jD (vs:gJ):Prop:=(let q1:=vs;((vH ([("names" : Str)].length+q1.1.length)/\(([("names" : Str)]++q1.1).map (·.length)).sum+([("names" : Str)]++q1.1).length * (" " : Str).length<=100000)/\(let vt:=(Txt.join " " ([("names" : Str)]++q1.1));(((((q1.2.1.length<=100000/\(∀ vu∈q1.2.1,(q8 vu)))/\vH ([vt].length+(q1.2.1.map λvu:aR=>(aJ vu)).length))/\(q1.2.2.length<=100000/\(∀ vv∈q1.2.2,(xR vv))))/\vH (([vt]++(q1.2.1.map λvu:aR=>(aJ vu))).length+(q1.2.2.map λvv:bC=>(aW vv)).length))/\((([vt]++(q1.2.1.map λvu:aR=>(aJ vu)))++(q1.2.2.map λvv:bC=>(aW vv))).map (·.length)).sum+(([vt]++(q1.2.1.map λvu:aR=>(aJ vu)))++(q1.2.2.map λvv:bC=>(aW vv))).length * ("\n" : Str).length<=100000))))
theorem Hr (vs:gJ):RP mR [some ((zE cV) vs),none,none,none,none] (λr=>Out.rt ((zE eS) r)) (fP vs) (some (jD vs)):=R.tp (Al (ao 0 (zE cV) vs rfl) _ (λ_=>rfl) λq1=>(bQ 4 (Ej " " (fU (zV (fU (nH (cD (Ku "names") (gF eS)) (z4 rfl))) (fU (Kf (ao 1 (zE (eT eS)) q1.1 rfl)))))) (λ_=>rfl) λvt=>(bZ (λr=>r) (Ej "\n" (fU (zV (fU (zV (fU (nH (cD (ao 4 (zE eS) vt rfl) (gF eS)) (z4 rfl))) (fU (qP (Ek (ao 2 (zE (eT aU)) q1.2.1 rfl)) _ (λ_=>rfl) (λvu:aR=>(fB (x_call Hq (cg (ao 0 (zE aU) vu rfl) aX)))))))) (fU (qP (Ek (ao 3 (zE (eT bG)) q1.2.2 rfl)) _ (λ_=>rfl) (λvv:bC=>(fB (x_call Rf (cg (ao 0 (zE bG) vv rfl) aX))))))))) (λ_=>rfl) λ_=>rfl)))
theorem xq:∀ v bs,(aZ cV aN) v bs->bs.length=1/\(hold (some (jD v.1))->jA (bs.map lend)=some ((zE eS) (fP v.1))):=by
 rintro⟨vs,_⟩ _ ⟨_,rfl,rfl⟩;exact⟨rfl,λh=>bL (g:=mR) (n:=5) (bs:=[.z (cV vs)]) (Hr vs) h⟩
def mD (vw:Str):LS_:=(if(!(eZ (eS vw)))=true then default else(if(decide (vw.length≠0))=true then(Txt.split vw ("\n" : Str)) else([]:LS_)))
def ux (vw:Str):Prop:=(((!(eZ (eS vw)))=true->False)/\((!(eZ (eS vw)))=false->((decide (vw.length≠0))=true->((("\n" : Str).length==0)=false/\vw.length<=100000))))
theorem Rh (vw:Str):RP tL [some ((zE eS) vw)] (λr=>Out.rt ((oE eS) r)) (mD vw) (some (ux vw)):=R.tp (jR (oK (sV (wN eZ (ao 0 (zE eS) vw rfl)))) (bM Kr) (cP (bZ (λr=>r) (Xm (afs (ao 0 (zE eS) vw rfl)) (wz (ao 0 (zE eS) vw rfl) (Ku "\n")) (nH (gF eS) (z4 rfl))) (λ_=>rfl) λ_=>rfl)))
theorem Ri:∀ v bs,(aZ eS aN) v bs->bs.length=1/\(hold (some (ux v.1))->tM (bs.map lend)=some ((oE eS) (mD v.1))):=by
 rintro⟨vw,_⟩ _ ⟨_,rfl,rfl⟩;exact⟨rfl,λh=>bL (g:=tL) (n:=1) (bs:=[.z (eS vw)]) (Rh vw) h⟩
def jm (bx:Dt) (YS:Str) (Yk:Int):Bool:=((eZ bx)&&(((decide ((1:Int)<=(Ke bx)))&&(decide ((Ke bx)<=Yk)))&&(((YQ bx).map λVv:Dt=>(yx (Kg Vv) YS)).all id)))
def lA (bx:Dt) (YS:Str) (Yk:Int):Prop:=((eZ bx)=true->((GR bx=true/\((decide ((1:Int)<=(Ke bx)))=true->GR bx=true))/\(((decide ((1:Int)<=(Ke bx)))&&(decide ((Ke bx)<=Yk)))=true->((GR bx=true/\(YQ bx).length<=100000)/\(∀ Vv∈(YQ bx),Vv=eS (Kg Vv))))))
theorem Lb (bx:Dt) (YS:Str) (Yk:Int):RP oW [some ((zE eD) bx),some ((zE eS) YS),some ((zE eI) Yk)] (λr=>Out.rt ((zE eB) r)) (jm bx YS Yk) (some (lA bx YS Yk)):=R.tp (bZ (λr=>r) (lH (wN eZ (ao 0 (zE eD) bx rfl)) (lH (adv (U6 (x_i 1) (QT (ao 0 (zE eD) bx rfl))) (U6 (QT (ao 0 (zE eD) bx rfl)) (ao 2 (zE eI) Yk rfl))) (vI (fU (qP (afy (ao 0 (zE eD) bx rfl)) _ (λ_=>rfl) (λVv:Dt=>(abF (oR (ao 1 (zE eD) Vv rfl) Kg eS) (ao 0 (zE eS) YS rfl)))))))) (λ_=>rfl) λ_=>rfl)
theorem Ld:∀ v bs,(aZ eD (aZ eS (aZ eI aN))) v bs->bs.length=3/\(hold (some (lA v.1 v.2.1 v.2.2.1))->oX (bs.map lend)=some ((zE eB) (jm v.1 v.2.1 v.2.2.1))):=by
 rintro⟨bx,YS,Yk,_⟩ _ ⟨_,rfl,⟨_,rfl,⟨_,rfl,rfl⟩⟩⟩;exact⟨rfl,λh=>bL (g:=oW) (n:=3) (bs:=[.z (eD bx),.z (eS YS),.z (eI Yk)]) (Lb bx YS Yk) h⟩
def dG (bx:Dt):Bool:=(jm bx ("abcdefghijklmnopqrstuvwxyz" : Str) (8:Int))
def pB (bx:Dt):Prop:=(lA bx ("abcdefghijklmnopqrstuvwxyz" : Str) (8:Int))
theorem Vk (bx:Dt):RP wB [some ((zE eD) bx)] (λr=>Out.rt ((zE eB) r)) (dG bx) (some (pB bx)):=R.tp (bZ (λr=>r) (x_call Ld (cg (ao 0 (zE eD) bx rfl) (cg (Ku "abcdefghijklmnopqrstuvwxyz") (cg (x_i 8) aX)))) (λ_=>rfl) λ_=>rfl)
theorem z6:∀ v bs,(aZ eD aN) v bs->bs.length=1/\(hold (some (pB v.1))->lV (bs.map lend)=some ((zE eB) (dG v.1))):=by
 rintro⟨bx,_⟩ _ ⟨_,rfl,rfl⟩;exact⟨rfl,λh=>bL (g:=wB) (n:=1) (bs:=[.z (eD bx)]) (Vk bx) h⟩
def o8 (lG:LS_):Bool:=(((rng 0 ((lG.length:Int) - (1:Int)).toNat).map λBd:Int=>(wg (at' lG Bd) (at' lG (Bd+(1:Int))))).all id)
def o9 (lG:LS_):Prop:=((Rg ((lG.length:Int) - (1:Int))/\(rng 0 ((lG.length:Int) - (1:Int)).toNat).length<=100000)/\(∀ Bd∈(rng 0 ((lG.length:Int) - (1:Int)).toNat),(In lG.length Bd/\In lG.length (Bd+(1:Int)))))
theorem Le (lG:LS_):RP fG [some ((zE (eT eS)) lG)] (λr=>Out.rt ((zE eB) r)) (o8 lG) (some (o9 lG)):=R.tp (bZ (λr=>r) (vI (fU (qP (wO (vD (Ei (ao 0 (zE (eT eS)) lG rfl)) (x_i 1))) _ (λ_=>rfl) (λBd:Int=>(adE (Eh (ao 0 (zE (eT eS)) lG rfl) (ao 1 (zE eI) Bd rfl)) (Eh (ao 0 (zE (eT eS)) lG rfl) (jx (ao 1 (zE eI) Bd rfl) (x_i 1)))))))) (λ_=>rfl) λ_=>rfl)
theorem Lf:∀ v bs,(aZ (eT eS) aN) v bs->bs.length=1/\(hold (some (o9 v.1))->dN (bs.map lend)=some ((zE eB) (o8 v.1))):=by
 rintro⟨lG,_⟩ _ ⟨_,rfl,rfl⟩;exact⟨rfl,λh=>bL (g:=fG) (n:=1) (bs:=[.z ((eT eS) lG)]) (Le lG) h⟩
def iV (bx:LS_):Bool:=((is_tuple ((eT eS) bx))&&(((bx.map λva2:Str=>(dG (eS va2))).all id)&&(o8 bx)))
def nQ (bx:LS_):Prop:=((is_tuple ((eT eS) bx))=true->((bx.length<=100000/\(∀ va2∈bx,(pB (eS va2))))/\(((bx.map λva2:Str=>(dG (eS va2))).all id)=true->(o9 bx))))
theorem O8 (bx:LS_):RP qe [some ((zE (eT eS)) bx)] (λr=>Out.rt ((zE eB) r)) (iV bx) (some (nQ bx)):=R.tp (bZ (λr=>r) (lH (wN is_tuple (ao 0 (zE (eT eS)) bx rfl)) (lH (vI (fU (qP (Ek (ao 0 (zE (eT eS)) bx rfl)) _ (λ_=>rfl) (λva2:Str=>(fB (x_call z6 (cg (nG (ao 0 (zE eS) va2 rfl)) aX))))))) (x_call Lf (cg (ao 0 (zE (eT eS)) bx rfl) aX)))) (λ_=>rfl) λ_=>rfl)
theorem Bf:∀ v bs,(aZ (eT eS) aN) v bs->bs.length=1/\(hold (some (nQ v.1))->jT (bs.map lend)=some ((zE eB) (iV v.1))):=by
 rintro⟨bx,_⟩ _ ⟨_,rfl,rfl⟩;exact⟨rfl,λh=>bL (g:=qe) (n:=1) (bs:=[.z ((eT eS) bx)]) (O8 bx) h⟩
def fY (vz:Str):(Option LS_):=(let pW:=(Txt.split vz (" " : Str));(let vy:=(cut pW (some (1:Int)) none);(if((decide ((at' pW (0:Int))=("names" : Str)))&&(iV vy))=true then(some vy) else none)))
def iW (vz:Str):Prop:=((((" " : Str).length==0)=false/\vz.length<=100000)/\(let pW:=(Txt.split vz (" " : Str));(let vy:=(cut pW (some (1:Int)) none);(In pW.length (0:Int)/\((decide ((at' pW (0:Int))=("names" : Str)))=true->(nQ vy))))))
theorem Gf (vz:Str):RP kW [some ((zE eS) vz),none,none] (λr=>Out.rt ((zE (eO (eT eS))) r)) (fY vz) (some (iW vz)):=R.tp (bQ 1 (wz (ao 0 (zE eS) vz rfl) (Ku " ")) (λ_=>rfl) λpW=>(bQ 2 (jJ (fU (aaC (dU (ao 1 (lE eS) pW rfl)) (Nx (x_i 1)) U7))) (λ_=>rfl) λvy=>(bZ (λr=>r) (fB (Xm (Ja (fD (x_eq (by decide) (eH (dU (ao 1 (lE eS) pW rfl)) (x_i 0)) (Ku "names"))) (sV (x_call Bf (cg (ao 2 (zE (eT eS)) vy rfl) aX)))) (Kd (ao 2 (zE (eT eS)) vy rfl)) zR)) (λ_=>rfl) λ_=>rfl)))
theorem Gg:∀ v bs,(aZ eS aN) v bs->bs.length=1/\(hold (some (iW v.1))->kY (bs.map lend)=some ((zE (eO (eT eS))) (fY v.1))):=by
 rintro⟨vz,_⟩ _ ⟨_,rfl,rfl⟩;exact⟨rfl,λh=>bL (g:=kW) (n:=3) (bs:=[.z (eS vz)]) (Gf vz) h⟩
def eE (vw:Str):(Option Int):=(if((!((decide ((1:Int)<=(vw.length:Int)))&&(decide ((vw.length:Int)<=(6:Int)))))||(!(((chars vw).map λVv:Str=>(yx Vv ("0123456789" : Str))).all id)))=true then none else(if((decide ((ch vw (0:Int))=("0" : Str)))&&(!decide (vw=("0" : Str))))=true then none else(some ((intText? vw).getD 0))))
def j4 (vw:Str):Prop:=(((!((decide ((1:Int)<=(vw.length:Int)))&&(decide ((vw.length:Int)<=(6:Int)))))=false->(chars vw).length<=100000)/\(((!((decide ((1:Int)<=(vw.length:Int)))&&(decide ((vw.length:Int)<=(6:Int)))))||(!(((chars vw).map λVv:Str=>(yx Vv ("0123456789" : Str))).all id)))=false->(In vw.length (0:Int)/\(((decide ((ch vw (0:Int))=("0" : Str)))&&(!decide (vw=("0" : Str))))=false->(vw.length<=640/\(intText? vw).isSome=true)))))
theorem O9 (vw:Str):RP qg [some ((zE eS) vw)] (λr=>Out.rt ((zE (eO eI)) r)) (eE vw) (some (j4 vw)):=R.tp (jR (zT (oK (aho (adv (U6 (x_i 1) (QS (ao 0 (zE eS) vw rfl))) (U6 (QS (ao 0 (zE eS) vw rfl)) (x_i 6))))) (oK (sV (vI (fU (mH (ahq (ao 0 (zE eS) vw rfl)) _ (λ_=>rfl) (λVv:Str=>(abF (ao 0 (zE eS) Vv rfl) (Ku "0123456789"))) λ_=>rfl)))))) (bM (bZ (λr=>r) zR (λ_=>rfl) λ_=>rfl)) (cP (jR (Ja (fD (x_eq (by decide) (SM (ao 0 (zE eS) vw rfl) (x_i 0)) (Ku "0"))) (fD (Ed (by decide) (ao 0 (zE eS) vw rfl) (Ku "0")))) (bM (bZ (λr=>r) zR (λ_=>rfl) λ_=>rfl)) (cP (bZ (λr=>r) (Kd (fB (adF (ao 0 (zE eS) vw rfl)))) (λ_=>rfl) λ_=>rfl)))))
theorem vR:∀ v bs,(aZ eS aN) v bs->bs.length=1/\(hold (some (j4 v.1))->iH (bs.map lend)=some ((zE (eO eI)) (eE v.1))):=by
 rintro⟨vw,_⟩ _ ⟨_,rfl,rfl⟩;exact⟨rfl,λh=>bL (g:=qg) (n:=1) (bs:=[.z (eS vw)]) (O9 vw) h⟩
def dH (bx:Dt) (YT:Int):Bool:=((is_tuple bx)&&(decide ((Ke bx)=YT)))
def mF (bx:Dt) (YT:Int):Prop:=((is_tuple bx)=true->GR bx=true)
theorem Rj (bx:Dt) (YT:Int):RP tO [some ((zE eD) bx),some ((zE eI) YT)] (λr=>Out.rt ((zE eB) r)) (dH bx YT) (some (mF bx YT)):=R.tp (bZ (λr=>r) (lH (wN is_tuple (ao 0 (zE eD) bx rfl)) (x_eq (by decide) (QT (ao 0 (zE eD) bx rfl)) (ao 1 (zE eI) YT rfl))) (λ_=>rfl) λ_=>rfl)
theorem xT:∀ v bs,(aZ eD (aZ eI aN)) v bs->bs.length=2/\(hold (some (mF v.1 v.2.1))->iI (bs.map lend)=some ((zE eB) (dH v.1 v.2.1))):=by
 rintro⟨bx,YT,_⟩ _ ⟨_,rfl,⟨_,rfl,rfl⟩⟩;exact⟨rfl,λh=>bL (g:=tO) (n:=2) (bs:=[.z (eD bx),.z (eI YT)]) (Rj bx YT) h⟩
def iY (bx:Dt):Bool:=((zK bx)&&(!(is_bool bx)))
theorem Rk (bx:Dt):RP tW [some ((zE eD) bx)] (λr=>Out.rt ((zE eB) r)) (iY bx) none:=R.tp (bZ (λr=>r) (lH (wN zK (ao 0 (zE eD) bx rfl)) (afr (wN is_bool (ao 0 (zE eD) bx rfl)))) (λ_=>rfl) λ_=>rfl)
theorem Gh:∀ v bs,(aZ eD aN) v bs->bs.length=1/\(hold (none)->lW (bs.map lend)=some ((zE eB) (iY v.1))):=by
 rintro⟨bx,_⟩ _ ⟨_,rfl,rfl⟩;exact⟨rfl,λh=>bL (g:=tW) (n:=1) (bs:=[.z (eD bx)]) (Rk bx) h⟩
def nR (bx:Dt):Bool:=((iY bx)&&((decide ((1:Int)<=(QW bx)))&&(decide ((QW bx)<=(1000:Int)))))
def qI (bx:Dt):Prop:=((iY bx)=true->(bx=eI (QW bx)/\((decide ((1:Int)<=(QW bx)))=true->bx=eI (QW bx))))
theorem Pa (bx:Dt):RP qj [some ((zE eD) bx)] (λr=>Out.rt ((zE eB) r)) (nR bx) (some (qI bx)):=R.tp (bZ (λr=>r) (lH (x_call Gh (cg (ao 0 (zE eD) bx rfl) aX)) (adv (U6 (x_i 1) (oR (ao 0 (zE eD) bx rfl) QW eI)) (U6 (oR (ao 0 (zE eD) bx rfl) QW eI) (x_i 1000)))) (λ_=>rfl) λ_=>rfl)
theorem Pb:∀ v bs,(aZ eD aN) v bs->bs.length=1/\(hold (some (qI v.1))->ql (bs.map lend)=some ((zE eB) (nR v.1))):=by
 rintro⟨bx,_⟩ _ ⟨_,rfl,rfl⟩;exact⟨rfl,λh=>bL (g:=qj) (n:=1) (bs:=[.z (eD bx)]) (Pa bx) h⟩
def iZ (bx:Dt):Bool:=(if(!(dH bx (3:Int)))=true then false else(let q1:=(aaX bx);((dG q1.1)&&((dG q1.2.1)&&((wg (Kg q1.1) (Kg q1.2.1))&&((iY q1.2.2)&&(decide ((0:Int)<=(QW q1.2.2)))))))))
def rT (bx:Dt):Prop:=((mF bx (3:Int))/\((!(dH bx (3:Int)))=false->(bx=afM (aaX bx)/\(let q1:=(aaX bx);((pB q1.1)/\((dG q1.1)=true->((pB q1.2.1)/\((dG q1.2.1)=true->((q1.1=eS (Kg q1.1)/\q1.2.1=eS (Kg q1.2.1))/\((wg (Kg q1.1) (Kg q1.2.1))=true->((iY q1.2.2)=true->q1.2.2=eI (QW q1.2.2))))))))))))
theorem Yl (bx:Dt):RP yZ [some ((zE eD) bx),none,none,none] (λr=>Out.rt ((zE eB) r)) (iZ bx) (some (rT bx)):=R.tp (jR (oK (sV (x_call xT (cg (ao 0 (zE eD) bx rfl) (cg (x_i 3) aX))))) (bM (bZ (λr=>r) (oJ (.bl false) eB false rfl) (λ_=>rfl) λ_=>rfl)) (cP (Al (oR (ao 0 (zE eD) bx rfl) aaX afM) _ (λ_=>rfl) λq1=>(bZ (λr=>r) (lH (x_call z6 (cg (ao 1 (zE eD) q1.1 rfl) aX)) (lH (x_call z6 (cg (ao 2 (zE eD) q1.2.1 rfl) aX)) (lH (afo (oR (ao 1 (zE eD) q1.1 rfl) Kg eS) (oR (ao 2 (zE eD) q1.2.1 rfl) Kg eS)) (lH (x_call Gh (cg (ao 3 (zE eD) q1.2.2 rfl) aX)) (x_ge (oR (ao 3 (zE eD) q1.2.2 rfl) QW eI) (x_i 0)))))) (λ_=>rfl) λ_=>rfl))))
theorem Gi:∀ v bs,(aZ eD aN) v bs->bs.length=1/\(hold (some (rT v.1))->nM (bs.map lend)=some ((zE eB) (iZ v.1))):=by
 rintro⟨bx,_⟩ _ ⟨_,rfl,rfl⟩;exact⟨rfl,λh=>bL (g:=yZ) (n:=4) (bs:=[.z (eD bx)]) (Yl bx) h⟩
def dW (bx:Dt):Bool:=((dH bx (4:Int))&&((nR (PK bx (0:Int)))&&(iZ (Dt.tup (cut (wI bx) (some (1:Int)) none)))))
def nT (bx:Dt):Prop:=((mF bx (4:Int))/\((dH bx (4:Int))=true->((IxD bx (0:Int)/\(qI (PK bx (0:Int))))/\((nR (PK bx (0:Int)))=true->(is_tuple bx=true/\(rT (Dt.tup (cut (wI bx) (some (1:Int)) none))))))))
theorem Pg (bx:Dt):RP qm [some ((zE eD) bx)] (λr=>Out.rt ((zE eB) r)) (dW bx) (some (nT bx)):=R.tp (bZ (λr=>r) (lH (x_call xT (cg (ao 0 (zE eD) bx rfl) (cg (x_i 4) aX))) (lH (x_call Pb (cg (aft (ao 0 (zE eD) bx rfl) (x_i 0)) aX)) (x_call Gi (cg (fB (afu (ao 0 (zE eD) bx rfl) (Nx (x_i 1)) U7)) aX)))) (λ_=>rfl) λ_=>rfl)
theorem Bg:∀ v bs,(aZ eD aN) v bs->bs.length=1/\(hold (some (nT v.1))->jU (bs.map lend)=some ((zE eB) (dW v.1))):=by
 rintro⟨bx,_⟩ _ ⟨_,rfl,rfl⟩;exact⟨rfl,λh=>bL (g:=qm) (n:=1) (bs:=[.z (eD bx)]) (Pg bx) h⟩
def gw (vw:Str):(Option aR):=(let pW:=(Txt.split vw (" " : Str));(let z7:=(Txt.split (at' pW (0:Int)) ("-" : Str));(if((!decide ((pW.length:Int)=(3:Int)))||(!decide ((z7.length:Int)=(2:Int))))=true then none else(let vu:=(Dt.tup [((eO eI) (eE (at' pW (1:Int)))),(eS (at' z7 (0:Int))),(eS (at' z7 (1:Int))),((eO eI) (eE (at' pW (2:Int))))]);(some (adM (if(dW vu)=true then vu else Dt.non)))))))
def jc (vw:Str):Prop:=((((" " : Str).length==0)=false/\vw.length<=100000)/\(let pW:=(Txt.split vw (" " : Str));((In pW.length (0:Int)/\((("-" : Str).length==0)=false/\(at' pW (0:Int)).length<=100000))/\(let z7:=(Txt.split (at' pW (0:Int)) ("-" : Str));(((!decide ((pW.length:Int)=(3:Int)))||(!decide ((z7.length:Int)=(2:Int))))=false->(((In pW.length (1:Int)/\(j4 (at' pW (1:Int))))/\(In z7.length (0:Int)/\(In z7.length (1:Int)/\(In pW.length (2:Int)/\(j4 (at' pW (2:Int)))))))/\(let vu:=(Dt.tup [((eO eI) (eE (at' pW (1:Int)))),(eS (at' z7 (0:Int))),(eS (at' z7 (1:Int))),((eO eI) (eE (at' pW (2:Int))))]);((nT vu)/\(if(dW vu)=true then vu else Dt.non)=aU (adM (if(dW vu)=true then vu else Dt.non))))))))))
theorem Ph (vw:Str):RP qp [some ((zE eS) vw),none,none,none] (λr=>Out.rt ((zE (eO aU)) r)) (gw vw) (some (jc vw)):=R.tp (bQ 1 (wz (ao 0 (zE eS) vw rfl) (Ku " ")) (λ_=>rfl) λpW=>(bQ 2 (wz (eH (dU (ao 1 (lE eS) pW rfl)) (x_i 0)) (Ku "-")) (λ_=>rfl) λz7=>(jR (zT (fD (Ed (by decide) (x_len (dU (ao 1 (lE eS) pW rfl))) (x_i 3))) (fD (Ed (by decide) (x_len (dU (ao 2 (lE eS) z7 rfl))) (x_i 2)))) (bM (bZ (λr=>r) zR (λ_=>rfl) λ_=>rfl)) (cP (bQ 3 (Xn (cD (nG (fB (x_call vR (cg (eH (dU (ao 1 (lE eS) pW rfl)) (x_i 1)) aX)))) (cD (nG (eH (dU (ao 2 (lE eS) z7 rfl)) (x_i 0))) (cD (nG (eH (dU (ao 2 (lE eS) z7 rfl)) (x_i 1))) (cD (nG (fB (x_call vR (cg (eH (dU (ao 1 (lE eS) pW rfl)) (x_i 2)) aX)))) (gF eD))))) (z4 rfl)) (λ_=>rfl) λvu=>(bZ (λr=>r) (Kd (oR (fB (Xm (sV (x_call Bg (cg (ao 3 (zE eD) vu rfl) aX))) (ao 3 (zE eD) vu rfl) (x_k .non))) adM aU)) (λ_=>rfl) λ_=>rfl))))))
theorem Pj:∀ v bs,(aZ eS aN) v bs->bs.length=1/\(hold (some (jc v.1))->qt (bs.map lend)=some ((zE (eO aU)) (gw v.1))):=by
 rintro⟨vw,_⟩ _ ⟨_,rfl,rfl⟩;exact⟨rfl,λh=>bL (g:=qp) (n:=4) (bs:=[.z (eS vw)]) (Ph vw) h⟩
def nU (vw:Str):(Option bC):=(let pW:=(Txt.split vw (" " : Str));(let z7:=(Txt.split (at' pW (0:Int)) ("/" : Str));(if((!decide ((pW.length:Int)=(2:Int)))||(!decide ((z7.length:Int)=(2:Int))))=true then none else(let vv:=(Dt.tup [(eS (at' z7 (0:Int))),(eS (at' z7 (1:Int))),((eO eI) (eE (at' pW (1:Int))))]);(some (adN (if(iZ vv)=true then vv else Dt.non)))))))
def pR (vw:Str):Prop:=((((" " : Str).length==0)=false/\vw.length<=100000)/\(let pW:=(Txt.split vw (" " : Str));((In pW.length (0:Int)/\((("/" : Str).length==0)=false/\(at' pW (0:Int)).length<=100000))/\(let z7:=(Txt.split (at' pW (0:Int)) ("/" : Str));(((!decide ((pW.length:Int)=(2:Int)))||(!decide ((z7.length:Int)=(2:Int))))=false->((In z7.length (0:Int)/\(In z7.length (1:Int)/\(In pW.length (1:Int)/\(j4 (at' pW (1:Int))))))/\(let vv:=(Dt.tup [(eS (at' z7 (0:Int))),(eS (at' z7 (1:Int))),((eO eI) (eE (at' pW (1:Int))))]);((rT vv)/\(if(iZ vv)=true then vv else Dt.non)=bG (adN (if(iZ vv)=true then vv else Dt.non))))))))))
theorem Ym (vw:Str):RP za [some ((zE eS) vw),none,none,none] (λr=>Out.rt ((zE (eO bG)) r)) (nU vw) (some (pR vw)):=R.tp (bQ 1 (wz (ao 0 (zE eS) vw rfl) (Ku " ")) (λ_=>rfl) λpW=>(bQ 2 (wz (eH (dU (ao 1 (lE eS) pW rfl)) (x_i 0)) (Ku "/")) (λ_=>rfl) λz7=>(jR (zT (fD (Ed (by decide) (x_len (dU (ao 1 (lE eS) pW rfl))) (x_i 2))) (fD (Ed (by decide) (x_len (dU (ao 2 (lE eS) z7 rfl))) (x_i 2)))) (bM (bZ (λr=>r) zR (λ_=>rfl) λ_=>rfl)) (cP (bQ 3 (Xn (cD (nG (eH (dU (ao 2 (lE eS) z7 rfl)) (x_i 0))) (cD (nG (eH (dU (ao 2 (lE eS) z7 rfl)) (x_i 1))) (cD (nG (fB (x_call vR (cg (eH (dU (ao 1 (lE eS) pW rfl)) (x_i 1)) aX)))) (gF eD)))) (z4 rfl)) (λ_=>rfl) λvv=>(bZ (λr=>r) (Kd (oR (fB (Xm (sV (x_call Gi (cg (ao 3 (zE eD) vv rfl) aX))) (ao 3 (zE eD) vv rfl) (x_k .non))) adN bG)) (λ_=>rfl) λ_=>rfl))))))
theorem Yn:∀ v bs,(aZ eS aN) v bs->bs.length=1/\(hold (some (pR v.1))->zc (bs.map lend)=some ((zE (eO bG)) (nU v.1))):=by
 rintro⟨vw,_⟩ _ ⟨_,rfl,rfl⟩;exact⟨rfl,λh=>bL (g:=za) (n:=4) (bs:=[.z (eS vw)]) (Ym vw) h⟩
def dY (vu:aR):aR:=(let q1:=vu;((-q1.1),q1.2.1,q1.2.2.1,q1.2.2.2))
theorem Rm (vu:aR):RP tX [some ((zE aU) vu),none,none,none,none] (λr=>Out.rt ((zE aU) r)) (dY vu) none:=R.tp (Al (ao 0 (zE aU) vu rfl) _ (λ_=>rfl) λq1=>(bZ (λr=>r) (vG (Xl (ao 1 (zE eI) q1.1 rfl)) (ao 2 (zE eS) q1.2.1 rfl) (ao 3 (zE eS) q1.2.2.1 rfl) (ao 4 (zE eI) q1.2.2.2 rfl)) (λ_=>rfl) λ_=>rfl))
theorem xU:∀ v bs,(aZ aU aN) v bs->bs.length=1/\(hold (none)->jM (bs.map lend)=some ((zE aU) (dY v.1))):=by
 rintro⟨vu,_⟩ _ ⟨_,rfl,rfl⟩;exact⟨rfl,λh=>bL (g:=tX) (n:=5) (bs:=[.z (aU vu)]) (Rm vu) h⟩
def cJ (CJ:List aR) (vu:aR) (vy:LS_):Bool:=(if((!decide (vu.2.1∈vy))||(!decide (vu.2.2.1∈vy)))=true then false else(CJ.isEmpty||(Jf aU (dY (at' CJ (-(1:Int)))) (dY vu))))
def fZ (CJ:List aR) (vu:aR) (vy:LS_):Prop:=(((!decide (vu.2.1∈vy))||(!decide (vu.2.2.1∈vy)))=false->(CJ.isEmpty=false->In CJ.length (-(1:Int))))
theorem z8 (CJ:List aR) (jt:Lp f9 (CJ.map aU)) (vu:aR) (vy:LS_):RP je [some f9,some ((zE aU) vu),some ((zE (eT eS)) vy)] (λr=>Out.rt ((zE eB) r)) (cJ CJ vu vy) (some (fZ CJ vu vy)):=R.tp (jR (zT (fD (Kh (jy (ao 1 (zE aU) vu rfl) (λq=>q.2.1) eS 1 λ_=>rfl) (ao 2 (zE (eT eS)) vy rfl))) (fD (Kh (jy (ao 1 (zE aU) vu rfl) (λq=>q.2.2.1) eS 2 λ_=>rfl) (ao 2 (zE (eT eS)) vy rfl)))) (bM (bZ (λr=>r) (oJ (.bl false) eB false rfl) (λ_=>rfl) λ_=>rfl)) (cP (bZ (λr=>r) (afq (XC (jo 0 aU CJ jt rfl)) (abJ (x_call xU (cg (eH (jo 0 aU CJ jt rfl) (Xl (x_i 1))) aX)) (x_call xU (cg (ao 1 (zE aU) vu rfl) aX)))) (λ_=>rfl) λ_=>rfl)))
theorem z9:∀ v bs,(aL aU (aZ aU (aZ (eT eS) aN))) v bs->bs.length=3/\(hold (some (fZ v.1 v.2.1 v.2.2.1))->jf (bs.map lend)=some ((zE eB) (cJ v.1 v.2.1 v.2.2.1))):=by
 rintro⟨CJ,vu,vy,_⟩ _ ⟨f9,_,rfl,jt,⟨_,rfl,⟨_,rfl,rfl⟩⟩⟩;exact⟨rfl,λh=>bL (g:=je) (n:=3) (bs:=[lend f9,.z (aU vu),.z ((eT eS) vy)]) (z8 CJ (Ak jt) vu vy) h⟩
def dR (CK:List bC) (vv:bC) (vy:LS_):Bool:=(if((!decide (vv.1∈vy))||(!decide (vv.2.1∈vy)))=true then false else(CK.isEmpty||(Jf bG (at' CK (-(1:Int))) vv)))
def jE (CK:List bC) (vv:bC) (vy:LS_):Prop:=(((!decide (vv.1∈vy))||(!decide (vv.2.1∈vy)))=false->(CK.isEmpty=false->In CK.length (-(1:Int))))
theorem Ht (CK:List bC) (jt:Lp f9 (CK.map bG)) (vv:bC) (vy:LS_):RP mU [some f9,some ((zE bG) vv),some ((zE (eT eS)) vy)] (λr=>Out.rt ((zE eB) r)) (dR CK vv vy) (some (jE CK vv vy)):=R.tp (jR (zT (fD (Kh (jy (ao 1 (zE bG) vv rfl) (λq=>q.1) eS 0 λ_=>rfl) (ao 2 (zE (eT eS)) vy rfl))) (fD (Kh (jy (ao 1 (zE bG) vv rfl) (λq=>q.2.1) eS 1 λ_=>rfl) (ao 2 (zE (eT eS)) vy rfl)))) (bM (bZ (λr=>r) (oJ (.bl false) eB false rfl) (λ_=>rfl) λ_=>rfl)) (cP (bZ (λr=>r) (afq (XC (jo 0 bG CK jt rfl)) (abJ (eH (jo 0 bG CK jt rfl) (Xl (x_i 1))) (ao 1 (zE bG) vv rfl))) (λ_=>rfl) λ_=>rfl)))
theorem Hu:∀ v bs,(aL bG (aZ bG (aZ (eT eS) aN))) v bs->bs.length=3/\(hold (some (jE v.1 v.2.1 v.2.2.1))->mV (bs.map lend)=some ((zE eB) (dR v.1 v.2.1 v.2.2.1))):=by
 rintro⟨CK,vv,vy,_⟩ _ ⟨f9,_,rfl,jt,⟨_,rfl,⟨_,rfl,rfl⟩⟩⟩;exact⟨rfl,λh=>bL (g:=mU) (n:=3) (bs:=[lend f9,.z (bG vv),.z ((eT eS) vy)]) (Ht CK (Ak jt) vv vy) h⟩
def bT (vy:(Option LS_)) (s1:(List aR)×(List bC)) (q2:Ew):Bu ((List aR)×(List bC)) gJ:=(let vu:=(gw q2.2);(let vv:=(nU q2.2);(if(vu.isSome&&((!(!s1.2.isEmpty))&&(cJ s1.1 (vu.getD default) (vy.getD default))))=true then(let CJ:=s1.1++[(vu.getD default)];(Bu.nx (CJ,s1.2))) else(if(vv.isSome&&(dR s1.2 (vv.getD default) (vy.getD default)))=true then(let CK:=s1.2++[(vv.getD default)];(Bu.nx (s1.1,CK))) else default))))
def dI (vy:(Option LS_)) (s1:(List aR)×(List bC)) (q2:Ew):Prop:=((jc q2.2)/\(let vu:=(gw q2.2);((pR q2.2)/\(let vv:=(nU q2.2);((vu.isSome=true->((!(!s1.2.isEmpty))=true->((vu.isSome=true/\vy.isSome=true)/\(fZ s1.1 (vu.getD default) (vy.getD default)))))/\(((vu.isSome&&((!(!s1.2.isEmpty))&&(cJ s1.1 (vu.getD default) (vy.getD default))))=true->(vu.isSome=true/\vH s1.1.length))/\((vu.isSome&&((!(!s1.2.isEmpty))&&(cJ s1.1 (vu.getD default) (vy.getD default))))=false->((vv.isSome=true->((vv.isSome=true/\vy.isSome=true)/\(jE s1.2 (vv.getD default) (vy.getD default))))/\(((vv.isSome&&(dR s1.2 (vv.getD default) (vy.getD default)))=true->(vv.isSome=true/\vH s1.2.length))/\((vv.isSome&&(dR s1.2 (vv.getD default) (vy.getD default)))=false->False))))))))))
theorem Aa (vw:Str) (vx:LS_) (vy:(Option LS_)) (s1:(List aR)×(List bC)) (q2:Ew):RP rP [some ((zE eS) vw),some ((oE eS) vx),some ((zE (eO (eT eS))) vy),some ((oE aU) s1.1),some ((oE bG) s1.2),some ((zE eI) q2.1),some ((zE eS) q2.2),none,none] (cC (λs1:(List aR)×(List bC)=>[some ((zE eS) vw),some ((oE eS) vx),some ((zE (eO (eT eS))) vy),some ((oE aU) s1.1),some ((oE bG) s1.2),none,none,none,none]) (zE cV)) (bT vy s1 q2) (some (dI vy s1 q2)):=R.tp (bM (bQ 7 (x_call Pj (cg (ao 6 (zE eS) q2.2 rfl) aX)) (λ_=>rfl) λvu=>(bM (bQ 8 (x_call Yn (cg (ao 6 (zE eS) q2.2 rfl) aX)) (λ_=>rfl) λvv=>(bM (jR (Ja (fD (Sy (ao 7 (zE (eO aU)) vu rfl) λ_=>rfl)) (Ja (oK (SJ (dU (ao 4 (lE bG) s1.2 rfl)))) (sV (x_call z9 (GX (dU (ao 3 (lE aU) s1.1 rfl)) (cg (DY (ao 7 (zE (eO aU)) vu rfl)) (cg (DY (ao 2 (zE (eO (eT eS))) vy rfl)) aX))))))) (bM (Am 3 s1.1 rfl (DY (ao 7 (zE (eO aU)) vu rfl)) λCJ=>(cP (cP (dB (.nx (CJ,s1.2)) rfl))))) (bM (jR (Ja (fD (Sy (ao 8 (zE (eO bG)) vv rfl) λ_=>rfl)) (sV (x_call Hu (GX (dU (ao 4 (lE bG) s1.2 rfl)) (cg (DY (ao 8 (zE (eO bG)) vv rfl)) (cg (DY (ao 2 (zE (eO (eT eS))) vy rfl)) aX)))))) (bM (Am 4 s1.2 rfl (DY (ao 8 (zE (eO bG)) vv rfl)) λCK=>(cP (cP (cP (dB (.nx (s1.1,CK)) rfl)))))) (bM Kr)))))))))
def fQ (vw:Str):gJ:=(let vx:=(mD vw);(let vy:=(if(!vx.isEmpty)=true then(fY (at' vx (0:Int))) else none);(if vy.isNone=true then default else(let CJ:=([]:List aR);(let CK:=([]:List bC);(behind (rM (λ(s1:(List aR)×(List bC)) (q2:Ew)=>((bT vy s1 q2):Bu ((List aR)×(List bC)) gJ)) (yU 1 (cut vx (some (1:Int)) none)) (CJ,CK)) (λr=>r) λs1:(List aR)×(List bC)=>((vy.getD default),s1.1,s1.2)))))))
def jF (vw:Str):Prop:=((ux vw)/\(let vx:=(mD vw);(((!vx.isEmpty)=true->(In vx.length (0:Int)/\(iW (at' vx (0:Int)))))/\(let vy:=(if(!vx.isEmpty)=true then(fY (at' vx (0:Int))) else none);((vy.isNone=true->False)/\(vy.isNone=false->(let CJ:=([]:List aR);(let CK:=([]:List bC);(Ao (λ(s1:(List aR)×(List bC)) (q2:Ew)=>((bT vy s1 q2):Bu ((List aR)×(List bC)) gJ)) (λ(s1:(List aR)×(List bC)) (q2:Ew)=>some (dI vy s1 q2)) (yU 1 (cut vx (some (1:Int)) none)) (CJ,CK)/\(Km (rM (λ(s1:(List aR)×(List bC)) (q2:Ew)=>((bT vy s1 q2):Bu ((List aR)×(List bC)) gJ)) (yU 1 (cut vx (some (1:Int)) none)) (CJ,CK)) λs1:(List aR)×(List bC)=>vy.isSome=true))))))))))
theorem Hv (vw:Str):RP mW [some ((zE eS) vw),none,none,none,none,none,none,none,none] (λr=>Out.rt ((zE cV) r)) (fQ vw) (some (jF vw)):=R.tp (bQ 1 (x_call Ri (cg (ao 0 (zE eS) vw rfl) aX)) (λ_=>rfl) λvx=>(bQ 2 (Xm (SJ (dU (ao 1 (lE eS) vx rfl))) (x_call Gg (cg (eH (dU (ao 1 (lE eS) vx rfl)) (x_i 0)) aX)) zR) (λ_=>rfl) λvy=>(jR (fD (afp (ao 2 (zE (eO (eT eS))) vy rfl) λ_=>rfl)) (bM Kr) (cP (bQ 3 (nH (gF aU) (z4 rfl)) (λ_=>rfl) λCJ=>(bQ 4 (nH (gF bG) (z4 rfl)) (λ_=>rfl) λCK=>(Xw (λs1:(List aR)×(List bC)=>[some ((zE eS) vw),some ((oE eS) vx),some ((zE (eO (eT eS))) vy),some ((oE aU) s1.1),some ((oE bG) s1.2),none,none,none,none]) (CJ,CK) rfl (afK 1 (afn (aaC (dU (ao 1 (lE eS) vx rfl)) (Nx (x_i 1)) U7))) _ (λ_ _=>rfl) (λ(s1:(List aR)×(List bC)) (q2:Ew)=>((Aa vw vx vy s1 q2).r:R _ _ (cC (λs1:(List aR)×(List bC)=>[some ((zE eS) vw),some ((oE eS) vx),some ((zE (eO (eT eS))) vy),some ((oE aU) s1.1),some ((oE bG) s1.2),none,none,none,none]) (zE cV)))) (λr=>r) (λ_=>rfl) λs1=>(bZ (λr=>r) (pJ (DY (ao 2 (zE (eO (eT eS))) vy rfl)) (jJ (dU (ao 3 (lE aU) s1.1 rfl))) (jJ (dU (ao 4 (lE bG) s1.2 rfl)))) (λ_=>rfl) λ_=>rfl))))))))
theorem Hw:∀ v bs,(aZ eS aN) v bs->bs.length=1/\(hold (some (jF v.1))->mX (bs.map lend)=some ((zE cV) (fQ v.1))):=by
 rintro⟨vw,_⟩ _ ⟨_,rfl,rfl⟩;exact⟨rfl,λh=>bL (g:=mW) (n:=9) (bs:=[.z (eS vw)]) (Hv vw) h⟩
def lB (lG:List aR):Bool:=(((rng 0 ((lG.length:Int) - (1:Int)).toNat).map λBd:Int=>(Jf aU (at' lG Bd) (at' lG (Bd+(1:Int))))).all id)
def lC (lG:List aR):Prop:=((Rg ((lG.length:Int) - (1:Int))/\(rng 0 ((lG.length:Int) - (1:Int)).toNat).length<=100000)/\(∀ Bd∈(rng 0 ((lG.length:Int) - (1:Int)).toNat),(In lG.length Bd/\In lG.length (Bd+(1:Int)))))
theorem Gj (lG:List aR) (jt:Lp f9 (lG.map aU)):RP fG [some f9] (λr=>Out.rt ((zE eB) r)) (lB lG) (some (lC lG)):=R.tp (bZ (λr=>r) (vI (fU (qP (wO (vD (x_len (jo 0 aU lG jt rfl)) (x_i 1))) _ (λ_=>rfl) (λBd:Int=>(XQ (eH (jo 0 aU lG jt (congrArg some (jt.get rfl))) (ao 1 (zE eI) Bd rfl)) (eH (jo 0 aU lG jt (congrArg some (jt.get rfl))) (jx (ao 1 (zE eI) Bd rfl) (x_i 1)))))))) (λ_=>rfl) λ_=>rfl)
theorem Gk:∀ v bs,(aL aU aN) v bs->bs.length=1/\(hold (some (lC v.1))->dN (bs.map lend)=some ((zE eB) (lB v.1))):=by
 rintro⟨lG,_⟩ _ ⟨f9,_,rfl,jt,rfl⟩;exact⟨rfl,λh=>bL (g:=fG) (n:=1) (bs:=[lend f9]) (Gj lG (Ak jt)) h⟩
def gW (bx:List aR) (vy:LS_):Bool:=(if((!(is_tuple ((eT aU) bx)))||(!((bx.map λvu:aR=>(dW (aU vu))).all id)))=true then false else(if(!((bx.map λvu:aR=>((decide (vu.2.1∈vy))&&(decide (vu.2.2.1∈vy)))).all id))=true then false else(lB (bx.map λvu:aR=>(dY vu)))))
def nA (bx:List aR) (vy:LS_):Prop:=(((!(is_tuple ((eT aU) bx)))=false->(bx.length<=100000/\(∀ vu∈bx,(nT (aU vu)))))/\(((!(is_tuple ((eT aU) bx)))||(!((bx.map λvu:aR=>(dW (aU vu))).all id)))=false->(bx.length<=100000/\((!((bx.map λvu:aR=>((decide (vu.2.1∈vy))&&(decide (vu.2.2.1∈vy)))).all id))=false->(bx.length<=100000/\(lC (bx.map λvu:aR=>(dY vu))))))))
theorem Hx (bx:List aR) (vy:LS_):RP mY [some ((zE (eT aU)) bx),some ((zE (eT eS)) vy)] (λr=>Out.rt ((zE eB) r)) (gW bx vy) (some (nA bx vy)):=R.tp (jR (zT (oK (sV (wN is_tuple (ao 0 (zE (eT aU)) bx rfl)))) (oK (sV (vI (fU (qP (Ek (ao 0 (zE (eT aU)) bx rfl)) _ (λ_=>rfl) (λvu:aR=>(fB (x_call Bg (cg (nG (ao 0 (zE aU) vu rfl)) aX)))))))))) (bM (bZ (λr=>r) (oJ (.bl false) eB false rfl) (λ_=>rfl) λ_=>rfl)) (cP (jR (oK (sV (vI (fU (mH (Ek (ao 0 (zE (eT aU)) bx rfl)) _ (λ_=>rfl) (λvu:aR=>(lH (SQ (jy (ao 1 (zE aU) vu rfl) (λq=>q.2.1) eS 1 λ_=>rfl) (ao 0 (zE (eT eS)) vy rfl)) (SQ (jy (ao 1 (zE aU) vu rfl) (λq=>q.2.2.1) eS 2 λ_=>rfl) (ao 0 (zE (eT eS)) vy rfl)))) λ_=>rfl))))) (bM (bZ (λr=>r) (oJ (.bl false) eB false rfl) (λ_=>rfl) λ_=>rfl)) (cP (bZ (λr=>r) (x_call Gk (GX (ahn (afn (mH (Ek (ao 0 (zE (eT aU)) bx rfl)) _ (λ_=>rfl) (λvu:aR=>(fB (x_call xU (cg (ao 0 (zE aU) vu rfl) aX)))) λ_=>rfl))) aX)) (λ_=>rfl) λ_=>rfl)))))
theorem Hy:∀ v bs,(aZ (eT aU) (aZ (eT eS) aN)) v bs->bs.length=2/\(hold (some (nA v.1 v.2.1))->mZ (bs.map lend)=some ((zE eB) (gW v.1 v.2.1))):=by
 rintro⟨bx,vy,_⟩ _ ⟨_,rfl,⟨_,rfl,rfl⟩⟩;exact⟨rfl,λh=>bL (g:=mY) (n:=2) (bs:=[.z ((eT aU) bx),.z ((eT eS) vy)]) (Hx bx vy) h⟩
def lD (lG:List bC):Bool:=(((rng 0 ((lG.length:Int) - (1:Int)).toNat).map λBd:Int=>(Jf bG (at' lG Bd) (at' lG (Bd+(1:Int))))).all id)
def lF (lG:List bC):Prop:=((Rg ((lG.length:Int) - (1:Int))/\(rng 0 ((lG.length:Int) - (1:Int)).toNat).length<=100000)/\(∀ Bd∈(rng 0 ((lG.length:Int) - (1:Int)).toNat),(In lG.length Bd/\In lG.length (Bd+(1:Int)))))
theorem Gm (lG:List bC):RP fG [some ((zE (eT bG)) lG)] (λr=>Out.rt ((zE eB) r)) (lD lG) (some (lF lG)):=R.tp (bZ (λr=>r) (vI (fU (qP (wO (vD (Ei (ao 0 (zE (eT bG)) lG rfl)) (x_i 1))) _ (λ_=>rfl) (λBd:Int=>(XQ (Eh (ao 0 (zE (eT bG)) lG rfl) (ao 1 (zE eI) Bd rfl)) (Eh (ao 0 (zE (eT bG)) lG rfl) (jx (ao 1 (zE eI) Bd rfl) (x_i 1)))))))) (λ_=>rfl) λ_=>rfl)
theorem Gn:∀ v bs,(aZ (eT bG) aN) v bs->bs.length=1/\(hold (some (lF v.1))->dN (bs.map lend)=some ((zE eB) (lD v.1))):=by
 rintro⟨lG,_⟩ _ ⟨_,rfl,rfl⟩;exact⟨rfl,λh=>bL (g:=fG) (n:=1) (bs:=[.z ((eT bG) lG)]) (Gm lG) h⟩
def pU (bx:List bC) (vy:LS_):Bool:=(if((!(is_tuple ((eT bG) bx)))||(!((bx.map λvv:bC=>(iZ (bG vv))).all id)))=true then false else(((bx.map λvv:bC=>((decide (vv.1∈vy))&&(decide (vv.2.1∈vy)))).all id)&&(lD bx)))
def uy (bx:List bC) (vy:LS_):Prop:=(((!(is_tuple ((eT bG) bx)))=false->(bx.length<=100000/\(∀ vv∈bx,(rT (bG vv)))))/\(((!(is_tuple ((eT bG) bx)))||(!((bx.map λvv:bC=>(iZ (bG vv))).all id)))=false->(bx.length<=100000/\(((bx.map λvv:bC=>((decide (vv.1∈vy))&&(decide (vv.2.1∈vy)))).all id)=true->(lF bx)))))
theorem Rn (bx:List bC) (vy:LS_):RP tY [some ((zE (eT bG)) bx),some ((zE (eT eS)) vy)] (λr=>Out.rt ((zE eB) r)) (pU bx vy) (some (uy bx vy)):=R.tp (jR (zT (oK (sV (wN is_tuple (ao 0 (zE (eT bG)) bx rfl)))) (oK (sV (vI (fU (qP (Ek (ao 0 (zE (eT bG)) bx rfl)) _ (λ_=>rfl) (λvv:bC=>(fB (x_call Gi (cg (nG (ao 0 (zE bG) vv rfl)) aX)))))))))) (bM (bZ (λr=>r) (oJ (.bl false) eB false rfl) (λ_=>rfl) λ_=>rfl)) (cP (bZ (λr=>r) (lH (vI (fU (mH (Ek (ao 0 (zE (eT bG)) bx rfl)) _ (λ_=>rfl) (λvv:bC=>(lH (SQ (jy (ao 1 (zE bG) vv rfl) (λq=>q.1) eS 0 λ_=>rfl) (ao 0 (zE (eT eS)) vy rfl)) (SQ (jy (ao 1 (zE bG) vv rfl) (λq=>q.2.1) eS 1 λ_=>rfl) (ao 0 (zE (eT eS)) vy rfl)))) λ_=>rfl))) (x_call Gn (cg (ao 0 (zE (eT bG)) bx rfl) aX))) (λ_=>rfl) λ_=>rfl)))
theorem Ro:∀ v bs,(aZ (eT bG) (aZ (eT eS) aN)) v bs->bs.length=2/\(hold (some (uy v.1 v.2.1))->tZ (bs.map lend)=some ((zE eB) (pU v.1 v.2.1))):=by
 rintro⟨bx,vy,_⟩ _ ⟨_,rfl,⟨_,rfl,rfl⟩⟩;exact⟨rfl,λh=>bL (g:=tY) (n:=2) (bs:=[.z ((eT bG) bx),.z ((eT eS) vy)]) (Rn bx vy) h⟩
def gA (bx:gJ):Bool:=(if(!(dH (cV bx) (3:Int)))=true then false else(let q1:=bx;((iV q1.1)&&((gW q1.2.1 q1.1)&&(pU q1.2.2 q1.1)))))
def qJ (bx:gJ):Prop:=((mF (cV bx) (3:Int))/\((!(dH (cV bx) (3:Int)))=false->(let q1:=bx;((nQ q1.1)/\((iV q1.1)=true->((nA q1.2.1 q1.1)/\((gW q1.2.1 q1.1)=true->(uy q1.2.2 q1.1))))))))
theorem Pk (bx:gJ):RP qu [some ((zE cV) bx),none,none,none] (λr=>Out.rt ((zE eB) r)) (gA bx) (some (qJ bx)):=R.tp (jR (oK (sV (x_call xT (cg (nG (ao 0 (zE cV) bx rfl)) (cg (x_i 3) aX))))) (bM (bZ (λr=>r) (oJ (.bl false) eB false rfl) (λ_=>rfl) λ_=>rfl)) (cP (Al (ao 0 (zE cV) bx rfl) _ (λ_=>rfl) λq1=>(bZ (λr=>r) (lH (x_call Bf (cg (ao 1 (zE (eT eS)) q1.1 rfl) aX)) (lH (x_call Hy (cg (ao 2 (zE (eT aU)) q1.2.1 rfl) (cg (ao 1 (zE (eT eS)) q1.1 rfl) aX))) (x_call Ro (cg (ao 3 (zE (eT bG)) q1.2.2 rfl) (cg (ao 1 (zE (eT eS)) q1.1 rfl) aX))))) (λ_=>rfl) λ_=>rfl))))
theorem Pn:∀ v bs,(aZ cV aN) v bs->bs.length=1/\(hold (some (qJ v.1))->qw (bs.map lend)=some ((zE eB) (gA v.1))):=by
 rintro⟨bx,_⟩ _ ⟨_,rfl,rfl⟩;exact⟨rfl,λh=>bL (g:=qu) (n:=4) (bs:=[.z (cV bx)]) (Pk bx) h⟩
def cW (v1:gJ):Bool:=(let vp:=(mC v1);(let vr:=(fP v1);(if((!(eZ (eS vr)))||(!decide (vr=vp)))=true then false else(let v7:=(fQ vp);(if((!decide (v7=v1))||((!((gA v7)==true))||(!decide ((fP v7)=vp))))=true then false else(((YQ (Dt.tup (wI (Dt.tup (wI (Ob (v7,v7.1,v7.2.1,v7.2.2))++wI ((eT aU) v7.2.1)))++wI ((eT bG) v7.2.2)))).map λvac:Dt=>(is_tuple vac)).all id))))))
def gB (v1:gJ):Prop:=((ur v1)/\(let vp:=(mC v1);((jD v1)/\(let vr:=(fP v1);(((!(eZ (eS vr)))||(!decide (vr=vp)))=false->((jF vp)/\(let v7:=(fQ vp);(((!decide (v7=v1))=false->((qJ v7)/\((!((gA v7)==true))=false->(jD v7))))/\(((!decide (v7=v1))||((!((gA v7)==true))||(!decide ((fP v7)=vp))))=false->((((is_tuple (Ob (v7,v7.1,v7.2.1,v7.2.2))=true/\is_tuple ((eT aU) v7.2.1)=true/\vH ((wI (Ob (v7,v7.1,v7.2.1,v7.2.2))).length+(wI ((eT aU) v7.2.1)).length))/\(is_tuple (Dt.tup (wI (Ob (v7,v7.1,v7.2.1,v7.2.2))++wI ((eT aU) v7.2.1)))=true/\is_tuple ((eT bG) v7.2.2)=true/\vH ((wI (Dt.tup (wI (Ob (v7,v7.1,v7.2.1,v7.2.2))++wI ((eT aU) v7.2.1)))).length+(wI ((eT bG) v7.2.2)).length)))/\GR (Dt.tup (wI (Dt.tup (wI (Ob (v7,v7.1,v7.2.1,v7.2.2))++wI ((eT aU) v7.2.1)))++wI ((eT bG) v7.2.2)))=true)/\(YQ (Dt.tup (wI (Dt.tup (wI (Ob (v7,v7.1,v7.2.1,v7.2.2))++wI ((eT aU) v7.2.1)))++wI ((eT bG) v7.2.2)))).length<=100000))))))))))
theorem Pq (v1:gJ):RP qx [some ((zE cV) v1),none,none,none] (λr=>Out.rt ((zE eB) r)) (cW v1) (some (gB v1)):=R.tp (bQ 1 (x_call Rb (cg (ao 0 (zE cV) v1 rfl) aX)) (λ_=>rfl) λvp=>(bQ 2 (x_call xq (cg (ao 0 (zE cV) v1 rfl) aX)) (λ_=>rfl) λvr=>(jR (zT (oK (sV (wN eZ (ao 2 (zE eS) vr rfl)))) (fD (Ed (by decide) (ao 2 (zE eS) vr rfl) (ao 1 (zE eS) vp rfl)))) (bM (bZ (λr=>r) (oJ (.bl false) eB false rfl) (λ_=>rfl) λ_=>rfl)) (cP (bQ 3 (x_call Hw (cg (ao 1 (zE eS) vp rfl) aX)) (λ_=>rfl) λv7=>(jR (zT (fD (Ed (by decide) (ao 3 (zE cV) v7 rfl) (ao 0 (zE cV) v1 rfl))) (zT (fD (aaK (x_call Pn (cg (ao 3 (zE cV) v7 rfl) aX)) (oJ (.bl true) eB true rfl))) (fD (Ed (by decide) (x_call xq (cg (ao 3 (zE cV) v7 rfl) aX)) (ao 1 (zE eS) vp rfl))))) (bM (bZ (λr=>r) (oJ (.bl false) eB false rfl) (λ_=>rfl) λ_=>rfl)) (cP (bZ (λr=>r) (vI (fU (mH (afy (Xp (Xp (nG (QX (e3:=Ob) (QM (ao 3 (zE cV) v7 rfl)) (ao 3 (zE cV) v7 rfl) (λx y=>(x,y.1,y.2.1,y.2.2)) λ_ _=>rfl)) (nG (jy (ao 3 (zE cV) v7 rfl) (λq=>q.2.1) (eT aU) 1 λ_=>rfl))) (nG (jy (ao 3 (zE cV) v7 rfl) (λq=>q.2.2) (eT bG) 2 λ_=>rfl)))) _ (λ_=>rfl) (λvac:Dt=>(fB (wN is_tuple (ao 0 (zE eD) vac rfl)))) λ_=>rfl))) (λ_=>rfl) λ_=>rfl))))))))
theorem qK:∀ v bs,(aZ cV aN) v bs->bs.length=1/\(hold (some (gB v.1))->iJ (bs.map lend)=some ((zE eB) (cW v.1))):=by
 rintro⟨v1,_⟩ _ ⟨_,rfl,rfl⟩;exact⟨rfl,λh=>bL (g:=qx) (n:=4) (bs:=[.z (cV v1)]) (Pq v1) h⟩
def rW (v1:gJ) (s1:Unit) (v5:Int):Bu (Unit) Bool:=(let vd:=(aQ v5 (28:Int));(let va:=(((rng 0 (v1.2.1.length:Int).toNat).filter λv3:Int=>(decide ((0:Int) < ((at' vd v3) % (3:Int))))).map λv3:Int=>(at' v1.2.1 v3));(let vb:=(((rng 0 (v1.2.2.length:Int).toNat).filter λv3:Int=>(decide ((0:Int) < ((at' vd ((17:Int)+v3)) % (3:Int))))).map λv3:Int=>(at' v1.2.2 v3));(if(!(cW (v1.1,va,vb)))=true then(Bu.rt false) else(Bu.nx ())))))
def Gp (v1:gJ) (s1:Unit) (v5:Int):Prop:=((d9 v5 (28:Int))/\(let vd:=(aQ v5 (28:Int));(((Rg (v1.2.1.length:Int)/\(rng 0 (v1.2.1.length:Int).toNat).length<=100000)/\(∀ v3∈(rng 0 (v1.2.1.length:Int).toNat),(In vd.length v3/\((decide ((0:Int) < ((at' vd v3) % (3:Int))))=true->In v1.2.1.length v3))))/\(let va:=(((rng 0 (v1.2.1.length:Int).toNat).filter λv3:Int=>(decide ((0:Int) < ((at' vd v3) % (3:Int))))).map λv3:Int=>(at' v1.2.1 v3));(((Rg (v1.2.2.length:Int)/\(rng 0 (v1.2.2.length:Int).toNat).length<=100000)/\(∀ v3∈(rng 0 (v1.2.2.length:Int).toNat),(In vd.length ((17:Int)+v3)/\((decide ((0:Int) < ((at' vd ((17:Int)+v3)) % (3:Int))))=true->In v1.2.2.length v3))))/\(let vb:=(((rng 0 (v1.2.2.length:Int).toNat).filter λv3:Int=>(decide ((0:Int) < ((at' vd ((17:Int)+v3)) % (3:Int))))).map λv3:Int=>(at' v1.2.2 v3));(gB (v1.1,va,vb))))))))
theorem Yo (v0:LI_) (jt:Lp f9 (v0.map eI)) (v1:gJ) (s1:Unit) (v5:Int):RP Oe [some f9,some ((zE cV) v1),some ((zE eI) v5),none,none,none] (cC (λs1:Unit=>[some f9,some ((zE cV) v1),none,none,none,none]) (zE eB)) (rW v1 s1 v5) (some (Gp v1 s1 v5)):=R.tp (bM (bQ 3 (x_call jC (cg (ao 2 (zE eI) v5 rfl) (cg (x_i 28) aX))) (λ_=>rfl) λvd=>(bM (bQ 4 (jJ (fU (SX (wO (Ei (jy (ao 1 (zE cV) v1 rfl) (λq=>q.2.1) (eT aU) 1 λ_=>rfl))) _ (λ_=>rfl) (λv3:Int=>(fD (aay (dX (eH (dU (ao 1 (lE eI) vd rfl)) (ao 2 (zE eI) v3 rfl)) 3 (by decide)) (x_i 0)))) (λv3:Int=>(Eh (jy (ao 0 (zE cV) v1 rfl) (λq=>q.2.1) (eT aU) 1 λ_=>rfl) (ao 2 (zE eI) v3 rfl)))))) (λ_=>rfl) λva=>(bM (bQ 5 (jJ (fU (SX (wO (Ei (jy (ao 1 (zE cV) v1 rfl) (λq=>q.2.2) (eT bG) 2 λ_=>rfl))) _ (λ_=>rfl) (λv3:Int=>(fD (aay (dX (eH (dU (ao 1 (lE eI) vd rfl)) (jx (x_i 17) (ao 2 (zE eI) v3 rfl))) 3 (by decide)) (x_i 0)))) (λv3:Int=>(Eh (jy (ao 0 (zE cV) v1 rfl) (λq=>q.2.2) (eT bG) 2 λ_=>rfl) (ao 2 (zE eI) v3 rfl)))))) (λ_=>rfl) λvb=>(bM (jR (oK (sV (x_call qK (cg (pJ (jy (ao 1 (zE cV) v1 rfl) (λq=>q.1) (eT eS) 0 λ_=>rfl) (ao 4 (zE (eT aU)) va rfl) (ao 5 (zE (eT bG)) vb rfl)) aX)))) (bM (bZ .rt (oJ (.bl false) eB false rfl) (λ_=>rfl) λ_=>rfl)) (cP (cP (dB (.nx ()) rfl)))))))))))
def Pr (v0:LI_):Bool:=(let v1:=(fK v0);(if((!(cW v1))||((!(cW (([]:LS_),([]:List aR),([]:List bC))))||(!(cW (v1.1,([]:List aR),([]:List bC))))))=true then false else(behind (rM (λ(s1:Unit) (v5:Int)=>((rW v1 s1 v5):Bu (Unit) Bool)) (cut v0 (some (1:Int)) (some (20:Int))) ()) (λr=>r) λs1:Unit=>true)))
def Pu (v0:LI_):Prop:=((nP v0)/\(let v1:=(fK v0);(((gB v1)/\((!(cW v1))=false->((gB (([]:LS_),([]:List aR),([]:List bC)))/\((!(cW (([]:LS_),([]:List aR),([]:List bC))))=false->(gB (v1.1,([]:List aR),([]:List bC)))))))/\(((!(cW v1))||((!(cW (([]:LS_),([]:List aR),([]:List bC))))||(!(cW (v1.1,([]:List aR),([]:List bC))))))=false->(Ao (λ(s1:Unit) (v5:Int)=>((rW v1 s1 v5):Bu (Unit) Bool)) (λ(s1:Unit) (v5:Int)=>some (Gp v1 s1 v5)) (cut v0 (some (1:Int)) (some (20:Int))) ()/\(Km (rM (λ(s1:Unit) (v5:Int)=>((rW v1 s1 v5):Bu (Unit) Bool)) (cut v0 (some (1:Int)) (some (20:Int))) ()) λs1:Unit=>True))))))
theorem afP (v0:LI_) (jt:Lp f9 (v0.map eI)):RP Tc [some f9,none,none,none,none,none] (λr=>Out.rt ((zE eB) r)) (Pr v0) (some (Pu v0)):=R.tp (bQ 1 (x_call O7 (GX (jo 0 eI v0 jt rfl) aX)) (λ_=>rfl) λv1=>(jR (zT (oK (sV (x_call qK (cg (ao 1 (zE cV) v1 rfl) aX)))) (zT (oK (sV (x_call qK (cg (pJ (zU eS) (zU aU) (zU bG)) aX)))) (oK (sV (x_call qK (cg (pJ (jy (ao 1 (zE cV) v1 rfl) (λq=>q.1) (eT eS) 0 λ_=>rfl) (zU aU) (zU bG)) aX)))))) (bM (bZ (λr=>r) (oJ (.bl false) eB false rfl) (λ_=>rfl) λ_=>rfl)) (cP (Xw (λs1:Unit=>[some f9,some ((zE cV) v1),none,none,none,none]) () rfl (afz (aaC (jo 0 eI v0 jt rfl) (Nx (x_i 1)) (Nx (x_i 20)))) _ (λ_ _=>rfl) (λ(s1:Unit) (v5:Int)=>((Yo v0 jt v1 s1 v5).r:R _ _ (cC (λs1:Unit=>[some f9,some ((zE cV) v1),none,none,none,none]) (zE eB)))) (λr=>r) (λ_=>rfl) λs1=>(bZ (λr=>r) (oJ (.bl true) eB true rfl) (λ_=>rfl) λ_=>rfl)))))
theorem abL:∀ v bs,(aL eI aN) v bs->bs.length=1/\(hold (some (Pu v.1))->F_law (bs.map lend)=some ((zE eB) (Pr v.1))):=by
 rintro⟨v0,_⟩ _ ⟨f9,_,rfl,jt,rfl⟩;exact⟨rfl,λh=>bL (g:=Tc) (n:=6) (bs:=[lend f9]) (afP v0 (Ak jt)) h⟩
theorem abM (h:∀ ns:List Int,ns.length<=63->Pu ns/\Pr ns=true):(∀ ns:List Int,ns.length<=63->F_law [.z (.lst (ns.map .int))]=some (.z (.bl true)))/\∀ ns:List Int,ns.length<=63->F_law [.l (ns.map .int)]=some (.z (.bl true)):=
 ⟨λns hn=>((abL (ns,()) [.z (.lst (ns.map .int))] ⟨_,_,rfl,rfl,rfl⟩).2 (h ns hn).1).trans (by rw[(h ns hn).2]),λns hn=>((abL (ns,()) [.l (ns.map .int)] ⟨_,_,rfl,rfl,rfl⟩).2 (h ns hn).1).trans (by rw[(h ns hn).2])⟩
end
end G51
end
section
set_option synthInstance.maxSize 100000
namespace G51
open L2 P1
theorem Lg (script:List Int) (k:Int) (h0:0<=k) (h1:k<=1000):gM script k:=by
 unfold gM;exact⟨λh=>in_of h0 (by simpa using h),λ_=>abH h0 (by omega)⟩
theorem Yp (k:Nat) (s:Int×List Int×Int) (hk:k < 1000) (h:(0<=s.1/\s.1 < 1999999973)/\s.2.1.length=k/\(∀ x∈s.2.1,0<=x)/\0<=s.2.2):jh s k/\(0<=(cI s k).1/\(cI s k).1 < 1999999973)/\(cI s k).2.1.length=k+1/\(∀ x∈(cI s k).2.1,0<=x)/\0<=(cI s k).2.2:=by
 obtain⟨h1,h2,h3,h4⟩:=h;have hin:In 2 (if(decide ((0:Int) < s.2.2))=true then(1:Int) else 0):=by split<;>exact in_of (by omega) (by omega)
 refine⟨⟨abH h1.1 (by omega),hin,?_⟩,iD _ (by decide),?_,?_,Int.ediv_nonneg h4 (by decide)⟩
 ·show s.2.1.length<=1000000;omega
 ·show(s.2.1++[_]).length=k+1;rw[zl,h2];rfl
 ·intro x hx;rcases List.mem_append.mp hx with hx|hx
  ·exact h3 x hx
  ·cases List.mem_singleton.mp hx;have:=sW (xs:=[((((s.1 * ((s.1 % (65521:Int))+(40487:Int)))+((7:Int) * k))+(5:Int)) % (1999999973:Int)),(s.2.2 % (1000000:Int))]) hin;simp only[qh,qr,or_false] at this;rcases this with e|e<;>rw[e]
   ·exact(iD _ (by decide)).1
   ·exact(iD _ (by decide)).1
theorem Gq (c m:Int) (h0:0<=m) (h1:m<=1000):d9 c m/\(aQ c m).length=m.toNat/\∀ x∈aQ c m,0<=x:=by
 have key:∀ st dg:Int,(0<=st/\st < 1999999973)->0<=dg->mz c m [] st dg/\(ji c m [] st dg).length=m.toNat/\∀ x∈ji c m [] st dg,0<=x:=λst dg hs hd=>by
  have:=yS (P:=λs k=>some (jh s k)) (λk s=>(0<=s.1/\s.1 < 1999999973)/\s.2.1.length=k/\(∀ x∈s.2.1,0<=x)/\0<=s.2.2) (step:=λs k=>cI s k) m.toNat (st,[],dg) ⟨hs,rfl,λx h=>(by cases h),hd⟩ λk s hk h=>Yp k s (by omega) h;exact⟨⟨Er h0 (by omega),this.1⟩,this.2.2.1,this.2.2.2.1⟩
 refine key _ _ (iD _ (by decide)) ?_;dsimp only;split<;>(try split)<;>omega
theorem foldl_size {α:Type} (c:Array α):∀ (n:Nat) (a:Array α),((List.replicate n c).foldl (·++·) a).size=a.size+n * c.size
 |0,a=>by simp
 |n+1,a=>by
  rw[kK,JA,foldl_size c n,Kb,Nat.succ_mul];omega
theorem JN (x:Str) (k:Int):(Txt.mul x k).length<=x.length * k.toNat:=by
 unfold Txt.mul;split
 ·exact QP _
 split
 ·rename_i h0 h;simp only[kF,beq_iff_eq] at h;rcases h with h|h
  ·subst h;simp
  ·rw[h];simp
 ·show(Array.size _)<=_;rw[foldl_size];have:x.cps.size=x.length:=rfl;rw[this,Nat.mul_comm];simp
def LT:Str:=("abcdefghijklmnopqrstuvwxyz" : Str)
theorem Rp:LT.length=26:=by decide +kernel
theorem dJ (h:n<=1000):vH n:=zD h (by decide)
theorem Rq (xs:List Int) (hl:6<=xs.length) (stem:Str) (hs:stem.length<=5) (at_:Int) (k:Nat) (found:LS_) (hk:k < 200) (h:found.length=k/\∀ n∈found,n.length<=12):lq xs LT stem at_ found k/\(eV xs LT stem at_ found k).length=k+1/\∀ n∈eV xs LT stem at_ found k,n.length<=12:=by
 have s1:=zD (slice_le stem none (some at_)) hs;have s2:=zD (slice_le stem (some at_) none) hs;have c1:=Es LT ((↑k+at' xs 2) % 15);have m8:=iD (k:Int) (m:=8) (by decide);have hd:(0:Int)<=(k:Int) / 8/\(k:Int) / 8 < 26:=by omega
 refine⟨⟨⟨in_of (by decide) (by omega),sY (by decide) (by rw[Rp];decide)⟩,⟨dJ (by omega),dJ (by rw[aV];omega)⟩,⟨in_of (by decide) (by omega),λ_=>⟨in_of hd.1 (by rw[Rp];exact hd.2),by omega,by omega,by rw[Es];decide⟩⟩,dJ (by omega)⟩,?_⟩;have key:∀ n:Str,n.length<=12->(found++[n]).length=k+1/\∀ m∈found++[n],m.length<=12:=λn hn=>⟨by simp[h.1],λm hm=>by
  rcases List.mem_append.mp hm with hm|hm
  ·exact h.2 m hm
  ·cases List.mem_singleton.mp hm;exact hn⟩
 unfold eV;dsimp only;split
 ·exact key _ (by have:=JN (ch LT ((k:Int) / 8)) (1+(k:Int) % 8);rw[Es] at this;exact zD this (by omega))
 ·exact key _ (by rw[aV,aV,c1];omega)
theorem Yq (xs:LS_) (n:Nat) (h:∀ x∈xs,x.length<=n):(Txt.join "" xs).length<=xs.length * n:=by
 have h1:=StrLaws.join_length_le ("" : Str) xs;rw[<-StrLaws.glued_eq_join] at h1;have h2:(xs.map (·.length)).sum<=xs.length * n:=by
  clear h1
  induction xs with
  |nil=>simp
  |cons a l ih=>
   have:=ih λx hx=>h x (zo _ hx);have:=h a (zk ..);simp only[zC,Kj,ZN,Nat.succ_mul];omega
 have h3:("" : Str).length=0:=rfl;rw[h3,Nat.mul_zero] at h1;exact zD h1 (by omega)
theorem ahA (xs:LS_) (h:∀ x∈xs,x.length=1):(xs.map (·.length)).sum=xs.length:=by
 induction xs with
 |nil=>rfl
 |cons a l ih=>
  have:=ih λx hx=>h x (zo _ hx);have:=h a (zk ..);simp only[zC,Kj,ZN];omega
theorem Yr (xs:List Int) (hl:6<=xs.length) (many:Int) (h0:0<=many) (h1:many<=200):qH xs many/\(cG xs many).length=many.toNat/\∀ n∈cG xs many,n.length<=12:=by
 have m6:=iD (at' xs 0) (m:=6) (by decide);have st:∀ stem:Str,stem.length<=5->pQ xs many LT stem/\(lu xs many LT stem).length=many.toNat/\∀ n∈lu xs many LT stem,n.length<=12:=λstem hs=>by
  have:=yS (P:=λf k=>some (lq xs LT stem (at' xs 1 % ((stem.length:Int)+1)) f k)) (step:=λf k=>eV xs LT stem (at' xs 1 % ((stem.length:Int)+1)) f k) (λk s=>s.length=k/\∀ n∈s,n.length<=12) many.toNat [] ⟨rfl,λn h=>(by cases h)⟩ λk s hk h=>Rq xs hl stem hs _ k s (by omega) h;exact⟨⟨⟨in_of (by decide) (by omega),by omega⟩,Er h0 (by omega),this.1⟩,this.2⟩
 have c1:∀ x∈((rng 0 (at' xs 0 % 6).toNat).map λk_:Int=>ch LT (at' xs k_ / 40 % 26)),x.length=1:=λx hx=>by
  obtain⟨k,_,rfl⟩:=List.mem_map.mp hx;exact Es _ _
 have:=st (Txt.join "" ((rng 0 (at' xs 0 % 6).toNat).map λk_:Int=>ch LT (at' xs k_ / 40 % 26))) (by
  have:=Yq _ 1 λx hx=>Nat.le_of_eq (c1 x hx);rw[zg,mJ] at this;omega)
 refine⟨⟨⟨⟨⟨⟨in_of (by decide) (by omega),Er m6.1 (by omega)⟩,by rw[mJ];omega⟩,λk hk=>?_⟩,?_⟩,this.1⟩,this.2⟩
 ·obtain⟨j,hj,rfl⟩:=p7 hk;exact⟨in_of (by omega) (by omega),sY (by decide) (by rw[show("abcdefghijklmnopqrstuvwxyz" : Str)=LT from rfl,Rp];decide)⟩
 ·rw[show("abcdefghijklmnopqrstuvwxyz" : Str)=LT from rfl,ahA _ c1,zg,mJ];have h3:("" : Str).length=0:=rfl;rw[h3];omega
abbrev uI:=Int×Str×Str×Int
abbrev Bar:=Str×Str×Int
theorem Lh (y:Str) (l:LS_):(Txt.join y l).length<=(l.map (·.length)).sum+l.length * y.length:=by
 have h:=StrLaws.join_length_le y l;rw[<-StrLaws.glued_eq_join] at h;exact h
theorem Ys (y:Str) (l:LS_) (n:Nat) (h:∀ x∈l,x.length<=n):(l.map (·.length)).sum<=l.length * n:=by
 induction l with
 |nil=>simp
 |cons a l ih=>
  have h1:=h a (zk ..);have h2:=ih λx hx=>h x (zo _ hx);rw[zC,Kj,ZN,Nat.add_mul,Nat.one_mul];omega
theorem adU (h:48<=c/\c<=57):c∈cs ("0123456789" : Str):=by
 have:∀ i:Fin 10,48+i.val∈cs ("0123456789" : Str):=by decide +kernel
 have:=this ⟨c - 48,by omega⟩;rwa [show 48+(c - 48)=c by omega] at this
theorem Te:∀ n k:Nat,n < 10 ^ (k+1)->(Nat.toDigits 10 n).length<=k+1
 |n,0,h=>by
  rw[KI (by omega)];exact zi 1
 |n,k+1,h=>by
  by_cases hn:n < 10
  ·rw[KI hn];show 1<=_;omega
  ·have:=Te (n / 10) k (by rw[Nat.pow_succ] at h;omega);rw[Nat.toDigits_of_base_le (by decide) (by omega)];rw[zl];show _+1<=_;omega
theorem Yt:∀ n:Nat,0 < n->∀ c∈(Nat.toDigits 10 n).head?,c≠'0':=by
 intro n
 induction n using Nat.strongRecOn with
 |_ n ih=>
  intro hn c hc;by_cases h:n < 10
  ·rw[KI h] at hc;have:∀ i:Fin 10,0 < i.val->Nat.digitChar i.val≠'0':=by decide
   cases hc;exact this ⟨n,h⟩ hn
  ·rw[Nat.toDigits_of_base_le (by decide) (by omega)] at hc;have hne:Nat.toDigits 10 (n / 10)≠[]:=Nat.toDigits_ne_nil;cases hd:Nat.toDigits 10 (n / 10) with
   |nil=>exact absurd hd hne
   |cons a l=>
    rw[hd] at hc;cases hc;exact ih (n / 10) (by omega) (by omega) _ (by rw[hd];rfl)
structure Nu (n:Int):Prop where
 len:1<=(dM (.int n)).length/\(dM (.int n)).length<=6
 dg:∀ c∈cs (dM (.int n)),48<=c/\c<=57
 t:eE (dM (.int n))=some n
 d:j4 (dM (.int n))
theorem uz {n:Int} (h0:0<=n) (h1:n < 1000000):Nu n:=by
 have hr:=PySem.W.KIN.num_reads (n:=n) (by omega) (by omega);obtain⟨m,rfl⟩:=Int.eq_ofNat_of_zero_le h0;have es:cs (dM (.int (m:Nat)))=(Nat.toDigits 10 m).map Char.toNat:=PySem.W.KIN.signs_num m;have hl:(dM (.int (m:Nat))).length<=6:=by
  rw[dF,es,zg];exact Te m 5 (by omega)
 have h1:1<=(dM (.int (m:Nat))).length:=by
  rw[dF,es,zg];exact List.length_pos_iff.mpr Nat.toDigits_ne_nil
 have hd:∀ c∈cs (dM (.int (m:Nat))),48<=c/\c<=57:=λc hc=>by
  rw[es] at hc;obtain⟨x,hx,rfl⟩:=List.mem_map.mp hc;exact digit_range (Nat.isDigit_of_mem_toDigits (by decide) (by decide) hx)
 have hz:(decide (ch (dM (.int (m:Nat))) 0=("0" : Str))&&(!decide (dM (.int (m:Nat))=("0" : Str))))=false:=by
  by_cases m0:m=0
  ·subst m0;have:dM (.int ((0:Nat):Int))=("0" : Str):=by decide +kernel
   rw[this];simp
  ·have hch:ch (dM (.int (m:Nat))) 0≠("0" : Str):=λe=>by
    cases hq:cs (dM (.int (m:Nat))) with
    |nil=>rw[dF,hq] at h1;cases h1
    |cons a l=>
     have e2:ch (dM (.int (m:Nat))) 0=⟨#[a]⟩:=by
      unfold ch;rw[show(dM (.int (m:Nat))).cps.toList=a::l from hq,show Bj (a::l) 0=some a by simp[Bj,ixN]];rfl
     rw[e2] at e;have e3:[a]=[48]:=(congrArg cs e).trans (by decide +kernel);rw[es] at hq;cases hd:Nat.toDigits 10 m with
     |nil=>rw[hd] at hq;cases hq
     |cons x y=>
      rw[hd] at hq;have e4:x.toNat=a:=(ky hq).1;have e5:x.toNat=48:=e4.trans (ky e3).1;refine Yt m (by omega) x (by rw[hd];rfl) ?_;exact Char.ext (UInt32.toNat_inj.mp e5)
   rw[ZT hch,JS]
 have a1:((chars (dM (.int (m:Nat)))).map λv:Str=>yx v ("0123456789" : Str)).all id=true:=by
  rw[List.all_map,qf];intro v hv;rw[Yg] at hv;obtain⟨c,hc,rfl⟩:=List.mem_map.mp hv;exact Ji (adU (hd c hc))
 have b1:decide ((1:Int)<=((dM (.int (m:Nat))).length:Int))=true:=zS (by omega);have b2:decide (((dM (.int (m:Nat))).length:Int)<=6)=true:=zS (by omega);refine⟨⟨h1,hl⟩,hd,?_,?_⟩
 ·unfold eE;rw[a1,b1,b2,hz];show some ((intText? (Str.ofString (toString ((m:Nat):Int)))).getD 0)=_;rw[hr];rfl
 ·refine⟨λ_=>by rw[Jg];omega,λ_=>⟨in_of (by decide) (by omega),λ_=>⟨by omega,?_⟩⟩⟩;rw[show dM (.int (m:Nat))=Str.ofString (toString ((m:Nat):Int)) from rfl,hr];rfl
theorem Vl (d:Dt) (sg:Str) (n:Int) (h:n<=1000):lA d sg n:=by
 unfold lA;intro hs;obtain⟨x,rfl⟩:=Jh hs;refine⟨⟨rfl,λ_=>rfl⟩,λhl=>⟨⟨rfl,?_⟩,λs h=>aaU h⟩⟩;rw[aaV];have h2:(x.length:Int)<=n:=kU ((ZE _ _).mp hl).2;omega
theorem Px {sg:Str} {n:Int} (h:jm d sg n=true):eZ d=true:=by
 unfold jm at h;rw[ZE] at h;exact h.1
theorem Rr (d:Dt):pB d:=Vl d _ 8 (by decide)
theorem Yu (h:dG d=true):eZ d=true:=Px h
def Lw (c:Nat):Prop:=97<=c/\c<=122
def Nm (s:Str):Prop:=1<=s.length/\s.length<=8/\∀ c∈cs s,Lw c
theorem afQ (h:Lw c):c∈cs LT:=by
 have:∀ i:Fin 26,97+i.val∈cs LT:=by decide +kernel
 have:=this ⟨c - 97,by unfold Lw at h;omega⟩;unfold Lw at h;rwa [show 97+(c - 97)=c by omega] at this
theorem pq {s:Str} (h:Nm s):dG (.str s)=true:=by
 unfold dG jm;rw[show eZ (.str s)=true from rfl,show Ke (.str s)=(s.length:Int) from rfl,zS (show(1:Int)<=s.length by have:=h.1;omega),zS (show(s.length:Int)<=8 by have:=h.2.1;omega)];show List.all _ id=true;rw[qf];intro b hb;obtain⟨d,hd,rfl⟩:=List.mem_map.mp hb;obtain⟨c,hc,rfl⟩:=List.mem_map.mp (show d∈P1.signs s from hd);exact Ji (afQ (h.2.2 c hc))
theorem Tf (h:dG d=true):d=eS (Kg d):=by obtain⟨x,rfl⟩:=Jh (Yu h);rfl
theorem Ab (h:iY d=true):d=eI (QW d):=by
 cases d with
 |int i=>rfl
 |_=>cases h
theorem Yv (d:Dt):qI d:=λh=>⟨Ab h,λ_=>Ab h⟩
theorem Tg (h:is_tuple d=true):∃ ds,d=.tup ds/\Ke d=ds.length:=by
 obtain⟨ds,rfl⟩:=Aq h;exact⟨ds,rfl,rfl⟩
theorem ahB (h:dH d 3=true):∃ a b c,d=.tup [a,b,c]:=by
 unfold dH at h;rw[ZE,qE] at h;obtain⟨ds,rfl,e⟩:=Tg h.1;rw[e] at h;have h:=h.2
 match ds,h with
 |[a,b,c],_=>exact⟨a,b,c,rfl⟩
theorem ahC (h:dH d 4=true):∃ a b c x,d=.tup [a,b,c,x]:=by
 unfold dH at h;rw[ZE,qE] at h;obtain⟨ds,rfl,e⟩:=Tg h.1;rw[e] at h;have h:=h.2
 match ds,h with
 |[a,b,c,x],_=>exact⟨a,b,c,x,rfl⟩
theorem Ti (d:Dt) (n:Int):mF d n:=λh=>aaT h
theorem ahD {b:Bool} (h:(!b)=false):b=true:=by cases b<;>first|rfl|cases h
def B3 (a b c:Dt):Bool:=dG a&&(dG b&&(wg (Kg a) (Kg b)&&(iY c&&decide ((0:Int)<=QW c))))
theorem Yw (d:Dt):rT d:=by
 refine⟨Ti d 3,λh=>?_⟩;obtain⟨a,b,c,rfl⟩:=ahB (ahD h);exact⟨rfl,Rr a,λh1=>⟨Rr b,λh2=>⟨⟨Tf h1,Tf h2⟩,λ_ h3=>Ab h3⟩⟩⟩
def R4 (x a b c:Dt):Bool:=nR x&&B3 a b c
theorem abN (d:Dt):nT d:=by
 refine⟨Ti d 4,λh=>?_⟩;obtain⟨x,a,b,c,rfl⟩:=ahC h;exact⟨⟨in_of (by decide) (by simp),Yv _⟩,λ_=>⟨rfl,Yw _⟩⟩
theorem pA {n:Str} (h:Nm n) (hc:c < 97\/122 < c):c∉cs n:=λz=>by
 have:=h.2.2 c z;unfold Lw at this;omega
theorem Jm:cs (" " : Str)=[32]:=by decide +kernel
theorem abO:cs ("-" : Str)=[45]:=by decide +kernel
theorem abP:cs ("/" : Str)=[47]:=by decide +kernel
theorem afR:cs ("\n" : Str)=[10]:=by decide +kernel
theorem Tj:cs Str.empty=[]:=rfl
theorem vU (y a b:Str):cs (Txt.join y [a,b])=cs a++(cs y++cs b):=by rw[mK];simp
def rR (r:uI):LS_:=[Txt.join "-" [r.2.1,r.2.2.1],dM (.int r.1),dM (.int r.2.2.2)]
def rB (b:Bar):LS_:=[Txt.join "/" [b.1,b.2.1],dM (.int b.2.2)]
theorem Rt (r:uI):aJ r=Txt.join " " (rR r):=by
 apply zW;unfold aJ rR;simp only[qR,mK,vU,Tj,JJ,List.flatMap_nil,qV,QA]
theorem Ru (b:Bar):aW b=Txt.join " " (rB b):=by
 apply zW;unfold aW rB;simp only[qR,mK,vU,Tj,JJ,List.flatMap_nil,qV,QA]
theorem adV (r:uI):((((((r.2.1++("-" : Str))++r.2.2.1)++(" " : Str))++(dM (eI r.1)))++(" " : Str))++(dM (eI r.2.2.2)))=aJ r:=by
 apply zW;unfold aJ;simp only[qR,Tj,qV,QA]
theorem adW (b:Bar):((((b.1++("/" : Str))++b.2.1)++(" " : Str))++(dM (eI b.2.2)))=aW b:=by
 apply zW;unfold aW;simp only[qR,Tj,qV,QA]
structure RV (r:uI):Prop where
 w:1<=r.1/\r.1<=1000
 lt:wg r.2.1 r.2.2.1=true
 n:0<=r.2.2.2/\r.2.2.2 < 1000000
 a:Nm r.2.1
 b:Nm r.2.2.1
structure BV (b:Bar):Prop where
 lt:wg b.1 b.2.1=true
 n:0<=b.2.2/\b.2.2 < 1000000
 a:Nm b.1
 b:Nm b.2.1
theorem sp2 (hy:cs y=[c]) (hk:Builtin.Str.strKind y=1) {a b:Str} (ha:Nm a) (hb:Nm b) (hc:c < 97):Txt.split (Txt.join y [a,b]) y=[a,b]:=pK hy hk a [b] λq hq=>by
 rcases List.mem_cons.mp hq with rfl|hq
 ·exact pA ha (.inl hc)
 ·cases List.mem_singleton.mp hq;exact pA hb (.inl hc)
theorem Li (y a b:Str):(Txt.join y [a,b]).length=a.length+(y.length+b.length):=by
 rw[dF,vU,zl,zl,<-dF,<-dF,<-dF]
theorem Tn {r:uI} (h:RV r):Txt.split (aJ r) (" " : Str)=rR r/\(aJ r).length<=40/\10∉cs (aJ r):=by
 have n1:=uz (n:=r.1) (by have:=h.w;omega) (by have:=h.w;omega);have n2:=uz h.n.1 h.n.2;have free:∀ c,c < 45->c∉cs (Txt.join "-" [r.2.1,r.2.2.1]):=λc hc z=>by
  rw[vU,abO] at z;rcases List.mem_append.mp z with z|z
  ·exact pA h.a (by omega) z
  ·rcases List.mem_append.mp z with z|z
   ·have:=List.mem_singleton.mp z;omega
   ·exact pA h.b (by omega) z
 have fr:∀ c,c < 45->∀ q∈rR r,c∉cs q:=λc hc q hq z=>by
  unfold rR at hq;simp only[qh,qr,or_false] at hq;rcases hq with rfl|rfl|rfl
  ·exact free c hc z
  ·have:=n1.dg c z;omega
  ·have:=n2.dg c z;omega
 refine⟨?_,?_,λz=>?_⟩
 ·rw[Rt];exact pK Jm (by decide +kernel) _ _ λq hq=>fr 32 (by decide) q hq
 ·rw[Rt];have jl:=Lh (" " : Str) (rR r);have l1:=Li "-" r.2.1 r.2.2.1;have a1:=h.a.2.1;have a2:=h.b.2.1;have b1:=n1.len.2;have b2:=n2.len.2;have e1:(" " : Str).length=1:=rfl;have e2:("-" : Str).length=1:=rfl;unfold rR at jl ⊢;simp only[zC,j0,Kj,List.sum_nil,ZN,List.length_nil] at jl;omega
 ·rw[Rt] at z;unfold rR at z;rw[mK] at z;rcases List.mem_append.mp z with z|z
  ·exact fr 10 (by decide) _ (by unfold rR;simp) z
  ·obtain⟨q,hq,z⟩:=List.mem_flatMap.mp z;rcases List.mem_append.mp z with z|z
   ·rw[Jm] at z;cases List.mem_singleton.mp z
   ·exact fr 10 (by decide) q (by unfold rR;exact zo _ hq) z
theorem Tp {b:Bar} (h:BV b):Txt.split (aW b) (" " : Str)=rB b/\(aW b).length<=40/\10∉cs (aW b):=by
 have n2:=uz h.n.1 h.n.2;have free:∀ c,c < 45->c∉cs (Txt.join "/" [b.1,b.2.1]):=λc hc z=>by
  rw[vU,abP] at z;rcases List.mem_append.mp z with z|z
  ·exact pA h.a (by omega) z
  ·rcases List.mem_append.mp z with z|z
   ·have:=List.mem_singleton.mp z;omega
   ·exact pA h.b (by omega) z
 have fr:∀ c,c < 45->∀ q∈rB b,c∉cs q:=λc hc q hq z=>by
  unfold rB at hq;simp only[qh,qr,or_false] at hq;rcases hq with rfl|rfl
  ·exact free c hc z
  ·have:=n2.dg c z;omega
 refine⟨?_,?_,λz=>?_⟩
 ·rw[Ru];exact pK Jm (by decide +kernel) _ _ λq hq=>fr 32 (by decide) q hq
 ·rw[Ru];have jl:=Lh (" " : Str) (rB b);have l1:=Li "/" b.1 b.2.1;have a1:=h.a.2.1;have a2:=h.b.2.1;have b2:=n2.len.2;have e1:(" " : Str).length=1:=rfl;have e2:("/" : Str).length=1:=rfl;unfold rB at jl ⊢;simp only[zC,j0,Kj,List.sum_nil,ZN,List.length_nil] at jl;omega
 ·rw[Ru] at z;unfold rB at z;rw[mK] at z;rcases List.mem_append.mp z with z|z
  ·exact fr 10 (by decide) _ (by unfold rB;simp) z
  ·obtain⟨q,hq,z⟩:=List.mem_flatMap.mp z;rcases List.mem_append.mp z with z|z
   ·rw[Jm] at z;cases List.mem_singleton.mp z
   ·exact fr 10 (by decide) q (by unfold rB;exact zo _ hq) z
theorem abQ (y q:Str):∀ ps:LS_,q∈ps->(cs q).length<=(ps.flatMap λq=>cs y++cs q).length
 |[],h=>by cases h
 |r::ps,h=>by
  rw[JJ,zl,zl];rcases List.mem_cons.mp h with rfl|h
  ·omega
  ·have:=abQ y q ps h;omega
theorem split_le (x y:Str) (h:x.length<=40):∀ q∈Txt.split x y,q.length<=40:=λq hq=>by
 have e:=join_split x y;have hm:∀ (l:LS_),q∈l->q.length<=(Txt.join y l).length:=λl hq=>by
  cases l with
  |nil=>cases hq
  |cons p ps=>
   rw[dF (Txt.join y (p::ps)),mK,zl,<-dF];rcases List.mem_cons.mp hq with rfl|hq
   ·omega
   ·have:=abQ y q ps hq;rw[<-dF] at this;omega
 have:=hm _ hq;rw[e] at this;omega
theorem afS {r:uI} (h:RV r):jc (aJ r)/\gw (aJ r)=some r:=by
 obtain⟨e1,l1,_⟩:=Tn h;have n1:=uz (n:=r.1) (by have:=h.w;omega) (by have:=h.w;omega);have n2:=uz h.n.1 h.n.2;have e2:=sp2 abO (by decide +kernel) h.a h.b (by decide);have l2:=Li "-" r.2.1 r.2.2.1;have a1:=h.a.2.1;have a2:=h.b.2.1;have m1:("-" : Str).length=1:=rfl;have tr:dW (Dt.tup [Dt.int r.1,Dt.str r.2.1,Dt.str r.2.2.1,Dt.int r.2.2.2])=true:=by
  show R4 (.int r.1) (.str r.2.1) (.str r.2.2.1) (.int r.2.2.2)=true;unfold R4 B3;rw[pq h.a,pq h.b];show((true&&(decide ((1:Int)<=r.1)&&decide (r.1<=1000)))&&(true&&(true&&(wg r.2.1 r.2.2.1&&(true&&decide ((0:Int)<=r.2.2.2))))))=true;rw[h.lt,zS h.w.1,zS h.w.2,zS h.n.1];rfl
 unfold jc gw;rw[e1];unfold rR;dsimp only;rw[show at' [Txt.join "-" [r.2.1,r.2.2.1],dM (.int r.1),dM (.int r.2.2.2)] (0:Int)=Txt.join "-" [r.2.1,r.2.2.1] from rfl,e2];rw[show at' [Txt.join "-" [r.2.1,r.2.2.1],dM (.int r.1),dM (.int r.2.2.2)] (1:Int)=dM (.int r.1) from rfl,show at' [Txt.join "-" [r.2.1,r.2.2.1],dM (.int r.1),dM (.int r.2.2.2)] (2:Int)=dM (.int r.2.2.2) from rfl,show at' [r.2.1,r.2.2.1] (0:Int)=r.2.1 from rfl,show at' [r.2.1,r.2.2.1] (1:Int)=r.2.2.1 from rfl,n1.t,n2.t];have i3:∀ {x y z:Str} {k:Nat},k < 3->In [x,y,z].length (k:Int):=λh=>qQ h;have i2:∀ {x y:Str} {k:Nat},k < 2->In [x,y].length (k:Int):=λh=>qQ h;have tr':dW (Dt.tup [(eO eI) (some r.1),(eS r.2.1),(eS r.2.2.1),(eO eI) (some r.2.2.2)])=true:=tr;refine⟨⟨⟨rfl,by omega⟩,⟨i3 (k:=0) (by decide),rfl,by omega⟩,λ_=>⟨⟨⟨i3 (k:=1) (by decide),n1.d⟩,i2 (k:=0) (by decide),i2 (k:=1) (by decide),i3 (k:=2) (by decide),n2.d⟩,abN _,?_⟩⟩,?_⟩
 ·rw[tr',zr rfl];rfl
 ·rw[zz (by simp),tr',zr rfl];rfl
theorem afT {b:Bar} (h:BV b):pR (aW b)/\nU (aW b)=some b:=by
 obtain⟨e1,l1,_⟩:=Tp h;have n2:=uz h.n.1 h.n.2;have e2:=sp2 abP (by decide +kernel) h.a h.b (by decide);have l2:=Li "/" b.1 b.2.1;have a1:=h.a.2.1;have a2:=h.b.2.1;have m1:("/" : Str).length=1:=rfl;have tr:iZ (Dt.tup [(eS b.1),(eS b.2.1),(eO eI) (some b.2.2)])=true:=by
  show B3 (.str b.1) (.str b.2.1) (.int b.2.2)=true;unfold B3;rw[pq h.a,pq h.b];show(true&&(true&&(wg b.1 b.2.1&&(true&&decide ((0:Int)<=b.2.2)))))=true;rw[h.lt,zS h.n.1];rfl
 unfold pR nU;rw[e1];unfold rB;dsimp only;rw[show at' [Txt.join "/" [b.1,b.2.1],dM (.int b.2.2)] (0:Int)=Txt.join "/" [b.1,b.2.1] from rfl,e2];rw[show at' [Txt.join "/" [b.1,b.2.1],dM (.int b.2.2)] (1:Int)=dM (.int b.2.2) from rfl,show at' [b.1,b.2.1] (0:Int)=b.1 from rfl,show at' [b.1,b.2.1] (1:Int)=b.2.1 from rfl,n2.t];have i2:∀ {x y:Str} {k:Nat},k < 2->In [x,y].length (k:Int):=λh=>qQ h;refine⟨⟨⟨rfl,by omega⟩,⟨i2 (k:=0) (by decide),rfl,by omega⟩,λ_=>⟨⟨i2 (k:=0) (by decide),i2 (k:=1) (by decide),i2 (k:=1) (by decide),n2.d⟩,Yw _,?_⟩⟩,?_⟩
 ·rw[tr,zr rfl];rfl
 ·rw[zz (by simp),tr,zr rfl];rfl
theorem afU {r:uI} (h:RV r):pR (aJ r)/\nU (aJ r)=none:=by
 obtain⟨e1,l1,_⟩:=Tn h;have sl:=split_le _ " " l1;unfold pR nU;rw[e1] at sl ⊢;unfold rR at sl ⊢;dsimp only;refine⟨⟨⟨rfl,by omega⟩,⟨qQ (k:=0) (KA _),rfl,zD (sl _ (zk ..)) (by decide)⟩,λz=>?_⟩,?_⟩
 ·simp at z
 ·rw[zr (by simp)]
theorem afV {b:Bar} (h:BV b):jc (aW b)/\gw (aW b)=none:=by
 obtain⟨e1,l1,_⟩:=Tp h;have sl:=split_le _ " " l1;unfold jc gw;rw[e1] at sl ⊢;unfold rB at sl ⊢;dsimp only;refine⟨⟨⟨rfl,by omega⟩,⟨qQ (k:=0) (KA _),rfl,zD (sl _ (zk ..)) (by decide)⟩,λz=>?_⟩,?_⟩
 ·simp at z
 ·rw[zr (by simp)]
structure Gd (n_:LS_) (rs:List uI) (bs:List Bar):Prop where
 ss:n_.Pairwise λa b=>wg a b=true
 nl:n_.length<=15
 nm:∀ n∈n_,Nm n
 rv:∀ r∈rs,RV r
 ri:∀ r∈rs,r.2.1∈n_/\r.2.2.1∈n_
 rp:(rs.map dY).Pairwise λa b=>Jf aU a b=true
 rl:rs.length<=17
 bv:∀ b∈bs,BV b
 bi:∀ b∈bs,b.1∈n_/\b.2.1∈n_
 bp:bs.Pairwise λa b=>Jf bG a b=true
 bl:bs.length<=11
theorem Gr:Nm ("names" : Str):=⟨by decide +kernel,by decide +kernel,by unfold Lw;decide +kernel⟩
def Gs (n_:LS_):Str:=Txt.join " " ([("names" : Str)]++n_)
theorem CN (nl:n_.length<=15) (nm:∀ n∈n_,Nm n):Txt.split (Gs n_) " " = ("names" : Str)::n_/\(Gs n_).length<=200/\10∉cs (Gs n_)/\(([("names" : Str)]++n_).map (·.length)).sum+([("names" : Str)]++n_).length * (" " : Str).length<=200/\1<=(Gs n_).length:=by
 have all:∀ n∈("names" : Str)::n_,Nm n:=λn hn=>by
  rcases List.mem_cons.mp hn with rfl|hn
  ·exact Gr
  ·exact nm n hn
 have jb:=Ys (" " : Str) (("names" : Str)::n_) 8 λx hx=>(all x hx).2.1;have jl:=Lh (" " : Str) (("names" : Str)::n_);have e1:(" " : Str).length=1:=rfl;rw[ZN] at jb;have sm:((("names" : Str)::n_).map (·.length)).sum+(("names" : Str)::n_).length * (" " : Str).length<=200:=by
  rw[e1,ZN];omega
 refine⟨pK Jm (by decide +kernel) _ _ λq hq=>pA (all q hq) (by omega),zD jl sm,λz=>?_,sm,?_⟩
 ·rw[show Gs n_=Txt.join " " (("names" : Str)::n_) from rfl,mK] at z;rcases List.mem_append.mp z with z|z
  ·exact pA Gr (by omega) z
  ·obtain⟨q,hq,z⟩:=List.mem_flatMap.mp z;rcases List.mem_append.mp z with z|z
   ·rw[Jm] at z;cases List.mem_singleton.mp z
   ·exact pA (nm q hq) (by omega) z
 ·rw[dF,show Gs n_=Txt.join " " (("names" : Str)::n_) from rfl,mK,zl,<-dF];have:=Gr.1;omega
def rows (n_:LS_) (rs:List uI) (bs:List Bar):LS_:=([Gs n_]++(rs.map λr:uI=>aJ r))++(bs.map λb:Bar=>aW b)
theorem Lj {rs:List uI} {bs:List Bar} (g:Gd n_ rs bs):(∀ x∈rows n_ rs bs,x.length<=200/\10∉cs x)/\((rows n_ rs bs).map (·.length)).sum+(rows n_ rs bs).length * ("\n" : Str).length<=100000/\(rows n_ rs bs).length<=29 ∧
  Txt.split (Txt.join "\n" (rows n_ rs bs)) "\n" = rows n_ rs bs/\(Txt.join "\n" (rows n_ rs bs)).length<=100000/\(Txt.join "\n" (rows n_ rs bs)).length≠0:=by
 obtain⟨_,r2,r3,_,r5⟩:=CN g.nl g.nm;have all:∀ x∈rows n_ rs bs,x.length<=200/\10∉cs x:=λx hx=>by
  rcases List.mem_append.mp hx with hx|hx
  ·rcases List.mem_append.mp hx with hx|hx
   ·cases List.mem_singleton.mp hx;exact⟨r2,r3⟩
   ·obtain⟨r,hr,rfl⟩:=List.mem_map.mp hx;have:=Tn (g.rv r hr);exact⟨by omega,this.2.2⟩
  ·obtain⟨b,hb,rfl⟩:=List.mem_map.mp hx;have:=Tp (g.bv b hb);exact⟨by omega,this.2.2⟩
 have ln:(rows n_ rs bs).length<=29:=by
  have:=g.rl;have:=g.bl;unfold rows;rw[zl,zl,zg,zg];show 1+_+_<=_;omega
 have jb:=Ys ("\n" : Str) (rows n_ rs bs) 200 λx hx=>(all x hx).1;have e1:("\n" : Str).length=1:=rfl;have sm:((rows n_ rs bs).map (·.length)).sum+(rows n_ rs bs).length * ("\n" : Str).length<=100000:=by rw[e1];omega
 refine⟨all,sm,ln,pK afR (by decide +kernel) _ _ λq hq=>(all q hq).2,zD (Lh _ _) sm,?_⟩;rw[dF,show rows n_ rs bs=Gs n_::((rs.map λr:uI=>aJ r)++(bs.map λb:Bar=>aW b)) from rfl,mK,zl,<-dF];omega
theorem Ad {α:Type} (f:α->Str) (step:LS_->α->LS_) (h:∀ v x,step v x=v++[f x]):∀ (l:List α) (v:LS_),l.foldl step v=v++l.map f
 |[],v=>by simp
 |x::l,v=>by rw[JA,h,Ad f step h l];simp
theorem abR (l:List uI) (v:LS_):l.foldl (λ(vq:LS_) (q1:aR)=>(fL vq q1)) v=v++l.map aJ:=Ad aJ (λ(vq:LS_) (q1:aR)=>(fL vq q1)) (λv x=>congrArg (λz=>v++[z]) (adV x)) l v
theorem abS (l:List Bar) (v:LS_):l.foldl (λ(vq:LS_) (q2:bC)=>(fM vq q2)) v=v++l.map aW:=Ad aW (λ(vq:LS_) (q2:bC)=>(fM vq q2)) (λv x=>congrArg (λz=>v++[z]) (adW x)) l v
theorem aaY (g:gJ):mC g=Txt.join "\n" (rows g.1 g.2.1 g.2.2):=by
 unfold mC;dsimp only;rw[abR,abS];rfl
theorem shown (g:gJ):fP g=Txt.join "\n" (rows g.1 g.2.1 g.2.2):=rfl
theorem Rv {n:Int} (h0:0<=n) (h1:n < 1000000):(dM (eI n)).length<=6:=(uz h0 h1).len.2
theorem adX {g:gJ} (h:Gd g.1 g.2.1 g.2.2):ur g:=by
 obtain⟨_,_,_,r4,_⟩:=CN h.nl h.nm;have nl:=h.nl;have e1:(" " : Str).length=1:=rfl;have e2:("-" : Str).length=1:=rfl;have e3:("/" : Str).length=1:=rfl;have rl:=h.rl;have bl:=h.bl;have A:=Cz (P:=λv r=>some (qY v r)) (step:=λv r=>fL v r) (λk v=>v.length=k) g.2.1 1 [Txt.join " " ([("names" : Str)]++g.1)] rfl λk r v e hv=>by
  have hk:=(List.getElem?_eq_some_iff.mp e).1;have rv:=h.rv r (qv e);have a1:=rv.a.2.1;have a2:=rv.b.2.1;have w:=rv.w;have n:=rv.n;have s1:=Rv (n:=r.1) (by omega) (by omega);have s2:=Rv n.1 n.2;refine⟨⟨⟨⟨⟨⟨⟨⟨⟨dJ ?_,dJ ?_⟩,dJ ?_⟩,?_⟩,dJ ?_⟩,dJ ?_⟩,?_⟩,dJ ?_⟩,dJ (by omega)⟩,?_⟩
  ·omega
  ·rw[aV];omega
  ·rw[aV,aV];omega
  ·show r.1.natAbs<=1000000;omega
  ·rw[aV,aV,aV];omega
  ·rw[aV,aV,aV,aV];omega
  ·show r.2.2.2.natAbs<=1000000;omega
  ·rw[aV,aV,aV,aV,aV];omega
  ·show(v++[_]).length=_;rw[zl,hv];rfl
 have B:=Cz (P:=λv b=>some (qZ v b)) (step:=λv b=>fM v b) (λk v=>v.length=k) g.2.2 (1+g.2.1.length) _ A.2 λk b v e hv=>by
  have hk:=(List.getElem?_eq_some_iff.mp e).1;have rv:=h.bv b (qv e);have a1:=rv.a.2.1;have a2:=rv.b.2.1;have n:=rv.n;have s2:=Rv n.1 n.2;refine⟨⟨⟨⟨⟨⟨dJ ?_,dJ ?_⟩,dJ ?_⟩,?_⟩,dJ ?_⟩,dJ (by omega)⟩,?_⟩
  ·omega
  ·rw[aV];omega
  ·rw[aV,aV];omega
  ·show b.2.2.natAbs<=1000000;omega
  ·rw[aV,aV,aV];omega
  ·show(v++[_]).length=_;rw[zl,hv];rfl
 refine⟨⟨dJ (by show 1+_<=1000;omega),by omega⟩,A.1,B.1,?_⟩;have:=(Lj h).2.1;dsimp only;rw[abR,abS];exact this
theorem adY {g:gJ} (h:Gd g.1 g.2.1 g.2.2):jD g:=by
 obtain⟨_,_,_,r4,_⟩:=CN h.nl h.nm;have nl:=h.nl;have rl:=h.rl;have bl:=h.bl;refine⟨⟨dJ (by show 1+_<=1000;omega),by omega⟩,⟨⟨⟨⟨by omega,λr hr=>?_⟩,dJ ?_⟩,by omega,λb hb=>?_⟩,dJ ?_⟩,(Lj h).2.1⟩
 ·have rv:=h.rv r hr;have w:=rv.w;exact⟨⟨⟨by omega,by omega⟩,rv.n⟩,zD (Tn rv).2.1 (by decide)⟩
 ·show 1+(List.map _ _).length<=1000;rw[zg];omega
 ·have rv:=h.bv b hb;exact⟨rv.n,zD (Tp rv).2.1 (by decide)⟩
 ·rw[zl,zg,zg];show 1+_+_<=1000;omega
theorem adZ {xs:LS_} (h:xs.length<=60):o9 xs:=by
 refine⟨⟨⟨by omega,by omega⟩,by rw[mJ];omega⟩,λz hz=>?_⟩;obtain⟨k,hk,rfl⟩:=p7 hz;exact⟨in_of (by omega) (by omega),in_of (by omega) (by omega)⟩
theorem ad0 {xs:List aR} (h:xs.length<=60):lC xs:=by
 refine⟨⟨⟨by omega,by omega⟩,by rw[mJ];omega⟩,λz hz=>?_⟩;obtain⟨k,hk,rfl⟩:=p7 hz;exact⟨in_of (by omega) (by omega),in_of (by omega) (by omega)⟩
theorem ad1 {xs:List bC} (h:xs.length<=60):lF xs:=by
 refine⟨⟨⟨by omega,by omega⟩,by rw[mJ];omega⟩,λz hz=>?_⟩;obtain⟨k,hk,rfl⟩:=p7 hz;exact⟨in_of (by omega) (by omega),in_of (by omega) (by omega)⟩
theorem Tq (ss:n_.Pairwise λa b=>wg a b=true) (nl:n_.length<=15) (nm:∀ n∈n_,Nm n):nQ n_/\iV n_=true:=by
 refine⟨λ_=>⟨⟨by omega,λn _=>Rr _⟩,λ_=>adZ (by omega)⟩,?_⟩;have e1:((n_.map λn:Str=>(dG (eS n))).all id)=true:=by
  rw[qf];intro x hx;obtain⟨n,hn,rfl⟩:=List.mem_map.mp hx;exact pq (nm n hn)
 unfold iV;rw[e1,show o8 n_=true from(wA adL n_).mpr ss];rfl
theorem Yx (ss:n_.Pairwise λa b=>wg a b=true) (nl:n_.length<=15) (nm:∀ n∈n_,Nm n):iW (Gs n_)/\fY (Gs n_)=some n_:=by
 obtain⟨r1,r2,_⟩:=CN nl nm;obtain⟨n1,n2⟩:=Tq ss nl nm;unfold iW fY;rw[r1];dsimp only;have c:cut (("names" : Str)::n_) (some (1:Int)) none=n_:=(NZ (xs:=("names" : Str)::n_) (k:=1) (by simp)).trans rfl;rw[c,n2,show at' (("names" : Str)::n_) (0:Int)=("names" : Str) from sX _ 0 (by simp)];exact⟨⟨⟨rfl,by omega⟩,qQ (k:=0) (KA _),λ_=>n1⟩,rfl⟩
theorem Tr [Inhabited α] (l:List α) (x:α):at' (l++[x]) (-(1:Int))=x/\In (l++[x]).length (-(1:Int)):=by
 have h:(l++[x]).length=l.length+1:=by simp
 have i:In (l++[x]).length (-(1:Int)):=by rw[h];unfold P1.In;omega
 refine⟨?_,i⟩;have e:Bj (l++[x]) (-(1:Int))=some x:=by
  unfold Bj ixN;rw[h];simp;rw[zr (by omega)];show(l++[x])[(-1+((l.length:Int)+1)).toNat]?=some x;rw[show(-1+((l.length:Int)+1)).toNat=l.length by omega];simp
 unfold at';rw[e];rfl
theorem Tt (l:List α):l=[]\/∃ p x,l=p++[x]:=by
 rcases List.eq_nil_or_concat l with h|⟨p,x,h⟩
 ·exact .inl h
 ·exact .inr ⟨p,x,by rw[h,List.concat_eq_append]⟩
theorem afW {pre:List uI} {r:uI} (h1:r.2.1∈n_) (h2:r.2.2.1∈n_) (hp:∀ x∈pre,Jf aU (dY x) (dY r)=true):fZ pre r n_/\cJ pre r n_=true:=by
 unfold fZ cJ;rw[zS h1,zS h2];rcases Tt pre with rfl|⟨p,x,rfl⟩
 ·exact⟨λ_ z=>(by cases z),rfl⟩
 ·obtain⟨e,i⟩:=Tr p x;refine⟨λ_ _=>i,?_⟩;rw[e,hp x (by simp)];simp
theorem afX {pre:List Bar} {b:Bar} (h1:b.1∈n_) (h2:b.2.1∈n_) (hp:∀ x∈pre,Jf bG x b=true):jE pre b n_/\dR pre b n_=true:=by
 unfold jE dR;rw[zS h1,zS h2];rcases Tt pre with rfl|⟨p,x,rfl⟩
 ·exact⟨λ_ z=>(by cases z),rfl⟩
 ·obtain⟨e,i⟩:=Tr p x;refine⟨λ_ _=>i,?_⟩;rw[e,hp x (by simp)];simp
theorem Ln {n_:LS_} {rs:List uI} {bs:List Bar} (g:Gd n_ rs bs):∀ (L:List (Int×Str)) (YW uK:List uI) (Yy xV:List Bar),L.map (·.2)=(YW.map λr:uI=>aJ r)++(Yy.map λb:Bar=>aW b)->uK++YW=rs->xV++Yy=bs->(YW≠[]->xV=[]) →
  rM (λ(s1:(List aR)×(List bC)) (q2:Ew)=>((bT (some n_) s1 q2):Bu ((List aR)×(List bC)) gJ)) L (uK,xV)=.nx (rs,bs)/\Ao (λ(s1:(List aR)×(List bC)) (q2:Ew)=>((bT (some n_) s1 q2):Bu ((List aR)×(List bC)) gJ)) (λ(s1:(List aR)×(List bC)) (q2:Ew)=>some (dI (some n_) s1 q2)) L (uK,xV)
 |[],YW,uK,Yy,xV,e,e1,e2,_=>by
  have e:=congrArg List.length e;rw[zl,zg,zg,zg] at e;have h1:YW=[]:=List.length_eq_zero_iff.mp (by simp at e;omega);have h2:Yy=[]:=List.length_eq_zero_iff.mp (by simp at e;omega);subst h1 h2;rw[QA] at e1 e2;subst e1 e2;exact⟨rfl,trivial⟩
 |(k,t)::L,YW,uK,Yy,xV,e,e1,e2,hb=>by
  have rl:=g.rl;have bl:=g.bl;cases YW with
  |cons r YW=>
   cases hb (by simp);have et:t=aJ r:=(ky e).1;have eL:L.map (·.2)=(YW.map λr:uI=>aJ r)++(Yy.map λb:Bar=>aW b):=(ky e).2;subst et;have hr:r∈rs:=by rw[<-e1];simp
   have rv:=g.rv r hr;obtain⟨d1,t1⟩:=afS rv;obtain⟨d2,t2⟩:=afU rv;obtain⟨d3,t3⟩:=afW (pre:=uK) (g.ri r hr).1 (g.ri r hr).2 λx hx=>by
    have:=g.rp;rw[<-e1,List.map_append,List.pairwise_append] at this;exact this.2.2 _ (List.mem_map.mpr ⟨x,hx,rfl⟩) _ (List.mem_map.mpr ⟨r,zk ..,rfl⟩)
   have hl:uK.length<=17:=by rw[<-e1,zl] at rl;omega
   have st:bT (some n_) (uK,([]:List Bar)) (k,aJ r)=.nx (uK++[r],[]):=by
    unfold bT;dsimp only;rw[t1,t2,show cJ uK ((some r).getD default) ((some n_).getD default)=true from t3];rfl
   have ih:=Ln g L YW (uK++[r]) Yy [] eL (by rw[<-e1];simp) e2 (λ_=>rfl);refine⟨?_,⟨?_,?_⟩⟩
   ·unfold rM;rw[st];exact ih.1
   ·show dI (some n_) (uK,([]:List Bar)) (k,aJ r);unfold dI;dsimp only;rw[t1,t2,show cJ uK ((some r).getD default) ((some n_).getD default)=true from t3];exact⟨d1,d2,λ_ _=>⟨⟨rfl,rfl⟩,d3⟩,λ_=>⟨rfl,dJ (by show uK.length<=1000;omega)⟩,λz=>by cases z⟩
   ·dsimp only;rw[st];exact ih.2
  |nil=>
   cases Yy with
   |nil=>cases e
   |cons b Yy=>
    have et:t=aW b:=(ky e).1;have eL:L.map (·.2)=(([]:List uI).map λr:uI=>aJ r)++(Yy.map λb:Bar=>aW b):=(ky e).2;subst et;have hr:b∈bs:=by rw[<-e2];simp
    have rv:=g.bv b hr;obtain⟨d1,t1⟩:=afV rv;obtain⟨d2,t2⟩:=afT rv;obtain⟨d3,t3⟩:=afX (pre:=xV) (g.bi b hr).1 (g.bi b hr).2 λx hx=>by
     have:=g.bp;rw[<-e2,List.pairwise_append] at this;exact this.2.2 _ hx _ (zk ..)
    have hl:xV.length<=11:=by rw[<-e2,zl] at bl;omega
    have st:bT (some n_) (uK,xV) (k,aW b)=.nx (uK,xV++[b]):=by
     unfold bT;dsimp only;rw[t1,t2,show dR xV ((some b).getD default) ((some n_).getD default)=true from t3];rfl
    have ih:=Ln g L [] uK Yy (xV++[b]) eL e1 (by rw[<-e2];simp) (λz=>absurd rfl z);refine⟨?_,⟨?_,?_⟩⟩
    ·unfold rM;rw[st];exact ih.1
    ·show dI (some n_) (uK,xV) (k,aW b);unfold dI;dsimp only;rw[t1,t2,show dR xV ((some b).getD default) ((some n_).getD default)=true from t3];exact⟨d1,d2,λz=>by (cases z),λz=>by (cases z),λ_=>⟨λ_=>⟨⟨rfl,rfl⟩,d3⟩,λ_=>⟨rfl,dJ (by show xV.length<=1000;omega)⟩,λz=>by cases z⟩⟩
    ·dsimp only;rw[st];exact ih.2
theorem aaZ (j:Int) (xs:List α):(yU j xs).map (·.2)=xs:=by
 unfold yU;rw[List.map_zipWith];refine k8 λi=>?_;rw[List.getElem?_zipWith];by_cases h:i < xs.length
 ·simp[h]
 ·simp[h]
theorem aa0 {rs:List uI} {bs:List Bar} (g:Gd n_ rs bs):jF (Txt.join "\n" (rows n_ rs bs))/\fQ (Txt.join "\n" (rows n_ rs bs))=(n_,rs,bs):=by
 obtain⟨_,_,r3,r4,r5,r6⟩:=Lj g;obtain⟨n1,n2⟩:=Yx g.ss g.nl g.nm;have tl:mD (Txt.join "\n" (rows n_ rs bs))=rows n_ rs bs:=by
  unfold mD;rw[show eZ (eS (Txt.join "\n" (rows n_ rs bs)))=true from rfl,zS r6,r4];rfl
 have dl:ux (Txt.join "\n" (rows n_ rs bs)):=⟨λz=>(by cases z),λ_ _=>⟨rfl,r5⟩⟩;have c:cut (rows n_ rs bs) (some (1:Int)) none=(rs.map λr:uI=>aJ r)++(bs.map λb:Bar=>aW b):=(NZ (xs:=rows n_ rs bs) (k:=1) (by unfold rows;simp)).trans rfl;have a0:at' (rows n_ rs bs) (0:Int)=Gs n_:=sX _ 0 (by unfold rows;simp);have ne:(rows n_ rs bs).isEmpty=false:=rfl;have lp:=Ln g (yU 1 ((rs.map λr:uI=>aJ r)++(bs.map λb:Bar=>aW b))) rs [] bs [] (aaZ _ _) rfl rfl (λ_=>rfl);unfold jF fQ;rw[tl];dsimp only;rw[ne,a0,n2,c];rw[zr (show(!false)=true from rfl)];rw[lp.1];exact⟨⟨dl,⟨λ_=>⟨qQ (k:=0) (KA _),n1⟩,λz=>by (cases z),λ_=>⟨lp.2,rfl⟩⟩⟩,rfl⟩
theorem ad2 {r:uI} (h:RV r):dW (aU r)=true:=by
 show R4 (.int r.1) (.str r.2.1) (.str r.2.2.1) (.int r.2.2.2)=true;unfold R4 B3;rw[pq h.a,pq h.b];show((true&&(decide ((1:Int)<=r.1)&&decide (r.1<=1000)))&&(true&&(true&&(wg r.2.1 r.2.2.1&&(true&&decide ((0:Int)<=r.2.2.2))))))=true;rw[h.lt,zS h.w.1,zS h.w.2,zS h.n.1];rfl
theorem is_bar {b:Bar} (h:BV b):iZ (bG b)=true:=by
 show B3 (.str b.1) (.str b.2.1) (.int b.2.2)=true;unfold B3;rw[pq h.a,pq h.b];show(true&&(true&&(wg b.1 b.2.1&&(true&&decide ((0:Int)<=b.2.2)))))=true;rw[h.lt,zS h.n.1];rfl
theorem Py {l:List α} {f:α->Bool} (h:∀ x∈l,f x=true):(l.map f).all id=true:=by
 rw[qf];intro y hy;obtain⟨x,hx,rfl⟩:=List.mem_map.mp hy;exact h x hx
theorem Yz {rs:List uI} {bs:List Bar} (g:Gd n_ rs bs):qJ (n_,rs,bs)/\gA (n_,rs,bs)=true:=by
 obtain⟨n1,n2⟩:=Tq g.ss g.nl g.nm;have rl:=g.rl;have bl:=g.bl;have a1:(rs.map λvu:aR=>(dW (aU vu))).all id=true:=Py λr hr=>ad2 (g.rv r hr);have a2:(rs.map λvu:aR=>((decide (vu.2.1∈n_))&&(decide (vu.2.2.1∈n_)))).all id=true:=Py λr hr=>by
  rw[zS (g.ri r hr).1,zS (g.ri r hr).2];rfl
 have a3:lB (rs.map λvu:aR=>(dY vu))=true:=(wA (Yh (e:=aU)) _).mpr g.rp;have b1:(bs.map λvv:bC=>(iZ (bG vv))).all id=true:=Py λr hr=>is_bar (g.bv r hr);have b2:(bs.map λvv:bC=>((decide (vv.1∈n_))&&(decide (vv.2.1∈n_)))).all id=true:=Py λr hr=>by
  rw[zS (g.bi r hr).1,zS (g.bi r hr).2];rfl
 have b3:lD bs=true:=(wA (Yh (e:=bG)) _).mpr g.bp;have tr:gW rs n_=true:=by
  unfold gW;rw[a1,a2,a3];rfl
 have tb:pU bs n_=true:=by
  unfold pU;rw[b1,b2,b3];rfl
 have dr:nA rs n_:=⟨λ_=>⟨by omega,λ_ _=>abN _⟩,λ_=>⟨by omega,λ_=>⟨by omega,ad0 (by rw[zg];omega)⟩⟩⟩;have db:uy bs n_:=⟨λ_=>⟨by omega,λ_ _=>Yw _⟩,λ_=>⟨by omega,λ_=>ad1 (by omega)⟩⟩;refine⟨⟨λ_=>rfl,λ_=>⟨n1,λ_=>⟨dr,λ_=>db⟩⟩⟩,?_⟩;unfold gA;rw[show dH (cV (n_,rs,bs)) 3=true from rfl];dsimp only;rw[n2,tr,tb];rfl
theorem zu {g:gJ} (h:Gd g.1 g.2.1 g.2.2):gB g/\cW g=true:=by
 obtain⟨d1,t1⟩:=aa0 h;obtain⟨d2,t2⟩:=Yz h;have rl:=h.rl;have bl:=h.bl;have t1:fQ (Txt.join "\n" (rows g.1 g.2.1 g.2.2))=g:=t1;have t2:gA g=true:=t2;have dt:=adX h;have ds:=adY h;unfold gB cW;rw[aaY];dsimp only;rw[t1,shown,t2];refine⟨⟨dt,ds,λ_=>⟨d1,λ_=>⟨d2,λ_=>ds⟩,λ_=>⟨⟨⟨⟨rfl,rfl,dJ ?_⟩,rfl,rfl,dJ ?_⟩,rfl⟩,?_⟩⟩⟩,?_⟩
 ·show 4+(g.2.1.map aU).length<=1000;rw[zg];omega
 ·show(_++g.2.1.map aU).length+(g.2.2.map bG).length<=1000;rw[zl,zg,zg];show 4+_+_<=1000;omega
 ·show((_++g.2.1.map aU)++g.2.2.map bG).length<=100000;rw[zl,zl,zg,zg];show 4+_+_<=100000;omega
 ·rw[zS rfl];rw[zz (by simp[show eZ (eS (Txt.join "\n" (rows g.1 g.2.1 g.2.2)))=true from rfl])];rw[zS rfl,zz (by simp)];refine Py λd hd=>?_;rcases List.mem_append.mp (show d∈(_++g.2.1.map aU)++g.2.2.map bG from hd) with hd|hd
  ·rcases List.mem_append.mp hd with hd|hd
   ·have hd:d∈[cV g,(eT eS) g.1,(eT aU) g.2.1,(eT bG) g.2.2]:=hd;simp only[qh,qr,or_false] at hd;rcases hd with rfl|rfl|rfl|rfl<;>rfl
   ·obtain⟨r,_,rfl⟩:=List.mem_map.mp hd;rfl
  ·obtain⟨r,_,rfl⟩:=List.mem_map.mp hd;rfl
def nmF (xs:List Int) (stem:Str) (at_:Int) (k:Int):Str:=if(decide (((at' xs (3:Int)) % (3:Int))=(1:Int)))=true then(Txt.mul (ch LT (k / (8:Int))) ((1:Int)+(k % (8:Int)))) else(((Txt.slice stem none (some at_))++(ch LT ((k+(at' xs (2:Int))) % (15:Int))))++(Txt.slice stem (some at_) none))
theorem xW {α β:Type} (g:β->α):∀ (l:List β) (f:List α),l.foldl (λf k=>f++[g k]) f=f++l.map g
 |[],f=>by simp
 |k::l,f=>by rw[JA,xW g l];simp
theorem YB (xs:List Int) (many:Int):∃ stem at_,cG xs many=(rng 0 many.toNat).map (nmF xs stem at_):=by
 refine⟨_,_,(xW (nmF xs _ _) _ []).trans (List.nil_append _)⟩
theorem Rw {a b m m':Str} (h:(a++m)++b=(a++m')++b):m=m':=by
 have h:=congrArg (λs:Str=>s.cps.toList) h;have h:((a.cps++m.cps)++b.cps).toList=((a.cps++m'.cps)++b.cps).toList:=h;simp only[Array.toList_append] at h;have:=List.append_cancel_left (List.append_cancel_right h);cases m;cases m';congr 1;exact Array.ext' this
theorem ad3:∀ i:Fin 30,∀ j:Fin 30,Txt.mul (ch LT ((i.val:Int) / 8)) (1+(i.val:Int) % 8)=Txt.mul (ch LT ((j.val:Int) / 8)) (1+(j.val:Int) % 8)->i=j:=by decide +kernel
theorem afY:∀ i:Fin 15,∀ j:Fin 15,ch LT (i.val:Int)=ch LT (j.val:Int)->i=j:=by decide +kernel
theorem ad4 {x y:Int} (hx:0<=x/\x < 15) (hy:0<=y/\y < 15) (h:ch LT x=ch LT y):x=y:=by
 have:=afY ⟨x.toNat,by omega⟩ ⟨y.toNat,by omega⟩ (by
  show ch LT ((x.toNat:Nat):Int)=ch LT ((y.toNat:Nat):Int);rw[Int.toNat_of_nonneg hx.1,Int.toNat_of_nonneg hy.1];exact h)
 have:=congrArg Fin.val this;have:x.toNat=y.toNat:=this;omega
theorem ad5 {xs:List Int} {stem:Str} {at_:Int} (hi:i < 15) (hj:j < 15) (h:nmF xs stem at_ i=nmF xs stem at_ j):i=j:=by
 unfold nmF at h;by_cases e:(decide (((at' xs (3:Int)) % (3:Int))=(1:Int)))=true
 ·rw[zr e,zr e] at h;exact congrArg Fin.val (ad3 ⟨i,by omega⟩ ⟨j,by omega⟩ h)
 ·rw[zz e,zz e] at h;have:=ad4 (iD _ (by decide)) (iD _ (by decide)) (Rw h);omega
theorem X4 {g:Int->Str} (h:∀ i j:Nat,i < n->j < n->g i=g j->i=j):((rng 0 n).map g).Nodup:=by
 unfold rng;rw[Qb];unfold List.Nodup;rw[kX];refine Kn ?_ (KB (n:=n));intro a b ha hb hne e;refine hne (h a b (List.mem_range.mp ha) (List.mem_range.mp hb) ?_);have e:g (0+(a:Int))=g (0+(b:Int)):=e;rwa [Int.zero_add,Int.zero_add] at e
theorem YC (xs:List Int) (many:Int) (h:many<=15):(cG xs many).Nodup:=by
 obtain⟨stem,at_,e⟩:=YB xs many;rw[e];exact X4 λi j hi hj=>ad5 (by omega) (by omega)
def Rs (n_:LS_) (rs:List uI):Prop:=∀ r∈rs,r.2.1∈n_/\r.2.2.1∈n_
theorem ad6 (c:Nat) (n:Int) (h:1<=n):cs (Txt.mul ⟨#[c]⟩ n)=List.replicate n.toNat c:=by
 unfold Txt.mul;split
 ·omega
 split
 ·rename_i h;simp only[kF,beq_iff_eq] at h;rcases h with h|h
  ·subst h;rfl
  ·cases h
 ·have:∀ (k:Nat) (a:Array Nat),((List.replicate k (#[c]:Array Nat)).foldl (·++·) a).toList=a.toList++List.replicate k c:=by
   intro k
   induction k with
   |zero=>intro a;simp
   |succ k ih=>
    intro a;rw[kK,JA,ih,Array.toList_append,kK];simp
  exact(this _ _).trans (by simp)
theorem YD {i:Int} (h:0<=i/\i < 26):ch LT i=⟨#[97+i.toNat]⟩:=by
 have:∀ i:Fin 26,ch LT (i.val:Int)=⟨#[97+i.val]⟩:=by decide +kernel
 have:=this ⟨i.toNat,by omega⟩;rwa [show((⟨i.toNat,by omega⟩:Fin 26).val:Int)=i by show(i.toNat:Int)=i;omega] at this
theorem aa2 {i n:Int} (h:0<=i/\i < 26) (h1:1<=n) (h8:n<=8):Nm (Txt.mul (ch LT i) n):=by
 have e:=ad6 (97+i.toNat) n h1;rw[<-YD h] at e;refine⟨?_,?_,λc hc=>?_⟩
 ·rw[dF,e,List.length_replicate];omega
 ·rw[dF,e,List.length_replicate];omega
 ·rw[e] at hc;rw[(List.mem_replicate.mp hc).2];unfold Lw;omega
theorem YF {l:LS_} (h:c∈cs (Txt.join "" l)):∃ q∈l,c∈cs q:=by
 cases l with
 |nil=>cases h
 |cons p ps=>
  rw[mK] at h;rcases List.mem_append.mp h with h|h
  ·exact⟨p,zk ..,h⟩
  ·obtain⟨q,hq,h⟩:=List.mem_flatMap.mp h;exact⟨q,zo _ hq,h⟩
theorem Vm (xs:List Int) (many:Int):∃ (stem:Str) (at_:Int),(∀ c∈cs stem,Lw c)/\stem.length<=5/\0<=at_/\at_<=(stem.length:Int)/\cG xs many=(rng 0 many.toNat).map (nmF xs stem at_):=by
 have m6:=iD (at' xs 0) (m:=6) (by decide);have mem:∀ x∈((rng 0 (at' xs 0 % 6).toNat).map λk_:Int=>ch LT (at' xs k_ / 40 % 26)),x.length=1/\∀ c∈cs x,Lw c:=λx hx=>by
  obtain⟨k,_,rfl⟩:=List.mem_map.mp hx;refine⟨Es _ _,λc hc=>?_⟩;rw[YD (iD _ (by decide))] at hc;cases List.mem_singleton.mp hc;have:=iD (at' xs k / 40) (m:=26) (by decide);unfold Lw;omega
 refine⟨Txt.join "" ((rng 0 (at' xs 0 % 6).toNat).map λk_:Int=>ch LT (at' xs k_ / 40 % 26)),at' xs 1 % (((Txt.join "" ((rng 0 (at' xs 0 % 6).toNat).map λk_:Int=>ch LT (at' xs k_ / 40 % 26))).length:Int)+1),λc hc=>?_,?_,?_,?_,(xW (nmF xs _ _) _ []).trans (List.nil_append _)⟩
 ·obtain⟨q,hq,h⟩:=YF hc;exact(mem q hq).2 c h
 ·have:=Yq _ 1 λx hx=>Nat.le_of_eq (mem x hx).1;rw[zg,mJ] at this;omega
 ·exact(iD _ (by omega)).1
 ·have:=(iD (at' xs 1) (m:=((Txt.join "" ((rng 0 (at' xs 0 % 6).toNat).map λk_:Int=>ch LT (at' xs k_ / 40 % 26))).length:Int)+1) (by omega)).2;omega
theorem ad7 {xs:List Int} {stem:Str} {at_:Int} (h1:∀ c∈cs stem,Lw c) (h2:stem.length<=5) (h3:0<=at_) (h4:at_<=(stem.length:Int)) {k:Int} (hk:0<=k/\k < 15):Nm (nmF xs stem at_ k):=by
 unfold nmF;split
 ·exact aa2 (by omega) (by omega) (by omega)
 ·have s1:=Ye (x:=stem) (n:=at_.toNat) (by omega);have s2:=Yd (x:=stem) (n:=at_.toNat) (by omega);rw[Int.toNat_of_nonneg h3] at s1 s2;have c1:=YD (i:=(k+at' xs 2) % 15) (by have:=iD (k+at' xs 2) (m:=15) (by decide);omega);have m:=iD (k+at' xs 2) (m:=15) (by decide);have e:cs ((Txt.slice stem none (some at_)++ch LT ((k+at' xs 2) % 15))++Txt.slice stem (some at_) none)=((cs stem).take at_.toNat++[97+((k+at' xs 2) % 15).toNat])++(cs stem).drop at_.toNat:=by
   rw[qR,qR,s1,s2,c1]
  have hl:((Txt.slice stem none (some at_)++ch LT ((k+at' xs 2) % 15))++Txt.slice stem (some at_) none).length=stem.length+1:=by
   rw[dF,e,zl,zl,ka,QN,<-dF];show _+1+_=_;omega
  refine⟨by rw[hl];omega,by rw[hl];omega,λc hc=>?_⟩;rw[e] at hc;rcases List.mem_append.mp hc with hc|hc
  ·rcases List.mem_append.mp hc with hc|hc
   ·exact h1 c (List.mem_of_mem_take hc)
   ·cases List.mem_singleton.mp hc;unfold Lw;omega
  ·exact h1 c (List.mem_of_mem_drop hc)
theorem YG (xs:List Int) (many:Int) (h:many<=15):∀ n∈cG xs many,Nm n:=by
 obtain⟨stem,at_,h1,h2,h3,h4,e⟩:=Vm xs many;rw[e];intro n hn;obtain⟨k,hk,rfl⟩:=List.mem_map.mp hn;obtain⟨j,hj,rfl⟩:=p7 hk;exact ad7 h1 h2 h3 h4 (by omega)
theorem Lq {a b:Int} (ha:0<=a/\a < n) (hb:0<=b/\b < n):In n (if b < a then b else a):=by split<;>exact in_of (by omega) (by omega)
theorem Lr {a b:Int} (ha:0<=a/\a < n) (hb:0<=b/\b < n):In n (if b > a then b else a):=by split<;>exact in_of (by omega) (by omega)
theorem Tv {many:Int} (hn:n=many.toNat) {x y:Int} (h:(!decide (x % (if many > (1:Int) then many else(1:Int))=y % (if many > (1:Int) then many else(1:Int))))=true):(0<=x % (if many > (1:Int) then many else(1:Int))/\x % (if many > (1:Int) then many else(1:Int)) < n)/\(0<=y % (if many > (1:Int) then many else(1:Int))/\y % (if many > (1:Int) then many else(1:Int)) < n):=by
 by_cases e:many > 1
 ·rw[zr e] at h ⊢;have h1:=iD x (m:=many) (by omega);have h2:=iD y (m:=many) (by omega);omega
 ·rw[zz e] at h;simp at h
theorem Pz {many:Int}:0 < (if many > (1:Int) then many else(1:Int)):=by split<;>omega
def RT (r:uI):Prop:=((-1000:Int)<=r.1/\r.1 ≤ -1)/\wg r.2.1 r.2.2.1=true/\(0<=r.2.2.2/\r.2.2.2<=10)
theorem abT (ns:n_.Pairwise λa b=>wg a b=true) {i j:Int} (h0:0<=i) (h1:i < j) (h2:j < n_.length):wg (at' n_ i) (at' n_ j)=true:=by
 obtain⟨a,rfl⟩:∃ a:Nat,i=(a:Int):=⟨i.toNat,by omega⟩;obtain⟨b,rfl⟩:∃ b:Nat,j=(b:Int):=⟨j.toNat,by omega⟩;rw[sX n_ a (by omega),sX n_ b (by omega)];exact List.pairwise_iff_getElem.mp ns a b (by omega) (by omega) (by omega)
theorem Vn (script:List Int) (at_ many:Int) (a0:0<=at_) (a1:at_<=500) (head:List Int) (hh:6<=head.length) (n_:LS_) (hn:n_.length=many.toNat) (k:Nat) (hk:k < 60) (told:List uI) (ns:n_.Pairwise λa b=>wg a b=true) (h:told.length<=k/\Rs n_ told/\∀ r∈told,RT r) :
  gR script at_ many head n_ told k/\(cT script at_ many head n_ told k).length<=k+1/\Rs n_ (cT script at_ many head n_ told k)/\∀ r∈cT script at_ many head n_ told k,RT r:=by
 obtain⟨n1,n2,n3⟩:=Gq (bD script ((at_+(1:Int))+k)) 4 (by decide) (by decide);have n2:(aQ (bD script ((at_+(1:Int))+k)) 4).length=4:=n2;unfold gR cT;dsimp only;generalize aQ (bD script ((at_+(1:Int))+k)) 4=xs at *
 have en:=λx y=>Tv (x:=x) (y:=y) hn;have pm:=@Pz many;generalize (if many > (1:Int) then many else(1:Int))=mm at *
 have ix:∀ i:Nat,i < 4->In xs.length (i:Int):=λi hi=>qQ (by omega);refine⟨⟨⟨Lg _ _ (by omega) (by omega),n1⟩,⟨⟨ix 0 (by decide),pm⟩,ix 1 (by decide),pm⟩,⟨⟨⟨ix 2 (by decide),ix 2 (by decide),ix 2 (by decide)⟩,in_of (by decide) (by omega)⟩,sY (by decide) (Int.le_refl 3)⟩,λhne=>?_⟩,?_⟩
 ·have:=en _ _ hne;exact⟨⟨Lq this.1 this.2,Lr this.1 this.2,ix 3 (by decide),sY (by decide) (by decide)⟩,dJ (by omega)⟩
 ·split
  ·rename_i hne;have:=en _ _ hne;refine⟨by rw[zl];show _+1<=_;omega,λr hr=>?_,λr hr=>?_⟩
   ·rcases List.mem_append.mp hr with hr|hr
    ·exact h.2.1 r hr
    ·cases List.mem_singleton.mp hr;exact⟨sW (Lq this.1 this.2),sW (Lr this.1 this.2)⟩
   ·rcases List.mem_append.mp hr with hr|hr
    ·exact h.2.2 r hr
    ·cases List.mem_singleton.mp hr;have w:=sW (xs:=[(1:Int)+at' xs 2 % 3,(1:Int)+at' xs 2 % 9,(1:Int)+at' xs 2 % 1000]) (i:=at' head 4 % 3) (sY (by decide) (Int.le_refl 3));have u:=sW (xs:=[(0:Int),(2:Int),(10:Int)]) (i:=at' xs 3 % 3) (sY (by decide) (Int.le_refl 3));have b3:=iD (at' xs 2) (m:=3) (by decide);have b9:=iD (at' xs 2) (m:=9) (by decide);have bk:=iD (at' xs 2) (m:=1000) (by decide);simp only[qh,qr,or_false] at w u;have hne:at' xs 0 % mm≠at' xs 1 % mm:=by simpa using hne
     refine⟨?_,?_,?_⟩
     ·show _<=(0:Int) - _/\(0:Int) - _<=_;omega
     ·show wg (at' n_ _) (at' n_ _)=true;split<;>split<;>first|exact abT ns (by omega) (by omega) (by omega)|(exfalso;omega)
     ·show 0<=at' _ _/\at' _ _<=10;omega
  ·exact⟨by omega,h.2⟩
def BT (b:Bar):Prop:=wg b.1 b.2.1=true/\(0<=b.2.2/\b.2.2<=10)
theorem Vo (script:List Int) (at_ many:Int) (a0:0<=at_) (a1:at_<=500) (n_:LS_) (hn:n_.length=many.toNat) (k:Nat) (hk:k < 60) (shut:List (Str×Str×Int)) (ns:n_.Pairwise λa b=>wg a b=true) (h:shut.length<=k/\∀ b∈shut,(b.1∈n_/\b.2.1∈n_)/\BT b) :
  gU script at_ many n_ shut k/\(dw script at_ many n_ shut k).length<=k+1/\∀ b∈dw script at_ many n_ shut k,(b.1∈n_/\b.2.1∈n_)/\BT b:=by
 obtain⟨n1,n2,n3⟩:=Gq (bD script ((at_+(1:Int))+k)) 8 (by decide) (by decide);have n2:(aQ (bD script ((at_+(1:Int))+k)) 8).length=8:=n2;unfold gU dw;dsimp only;generalize aQ (bD script ((at_+(1:Int))+k)) 8=xs at *
 have en:=λx y=>Tv (x:=x) (y:=y) hn;have pm:=@Pz many;generalize (if many > (1:Int) then many else(1:Int))=mm at *
 have ix:∀ i:Nat,i < 8->In xs.length (i:Int):=λi hi=>qQ (by omega);refine⟨⟨⟨Lg _ _ (by omega) (by omega),n1⟩,⟨⟨ix 5 (by decide),pm⟩,ix 6 (by decide),pm⟩,λhne=>?_⟩,?_⟩
 ·have:=en _ _ hne;exact⟨⟨Lq this.1 this.2,Lr this.1 this.2,ix 7 (by decide),sY (by decide) (by decide)⟩,dJ (by omega)⟩
 ·split
  ·rename_i hne;have:=en _ _ hne;refine⟨by rw[zl];show _+1<=_;omega,λr hr=>?_⟩;rcases List.mem_append.mp hr with hr|hr
   ·exact h.2 r hr
   ·cases List.mem_singleton.mp hr;have u:=sW (xs:=[(2:Int),(10:Int)]) (i:=at' xs 7 % 2) (sY (by decide) (Int.le_refl 2));simp only[qh,qr,or_false] at u;have hne:at' xs 5 % mm≠at' xs 6 % mm:=by simpa using hne
    refine⟨⟨sW (Lq this.1 this.2),sW (Lr this.1 this.2)⟩,?_,?_⟩
    ·show wg (at' n_ _) (at' n_ _)=true;split<;>split<;>first|exact abT ns (by omega) (by omega) (by omega)|(exfalso;omega)
    ·show 0<=at' _ _/\at' _ _<=10;omega
  ·exact⟨by omega,h.2⟩
def tu (q:uI):uI:=(((0:Int) - q.1),q.2.1,q.2.2.1,q.2.2.2)
theorem afZ (q:uI):dY (tu q)=q:=by
 obtain⟨w,a,b,n⟩:=q;show((-((0:Int) - w)),a,b,n)=(w,a,b,n);rw[show -((0:Int) - w)=w by omega]
theorem YH {e:α->Dt} [j6 e] [DecidableEq α] (l:List α):(kJ e (wM l)).Pairwise λa b=>Jf e a b=true:=
 ((Ep (wM l)).and ((eU (wM l)).nodup_iff.mpr (DX l))).imp λh=>(aaW _ _).mpr h
structure QV (n_:LS_) (q:uI):Prop where
 w : -1000<=q.1/\q.1 ≤ -1
 lt:wg q.2.1 q.2.2.1=true
 n:0<=q.2.2.2/\q.2.2.2 < 1000000
 i:q.2.1∈n_/\q.2.2.1∈n_
structure CV (n_:LS_) (b:Bar):Prop where
 lt:wg b.1 b.2.1=true
 n:0<=b.2.2/\b.2.2 < 1000000
 i:b.1∈n_/\b.2.1∈n_
theorem abU (ss:n_.Pairwise λa b=>wg a b=true) (nl:n_.length<=15) (nm:∀ n∈n_,Nm n) {T:List uI} (hT:∀ q∈T,QV n_ q) (lT:T.length<=17) {S:List Bar} (hS:∀ b∈S,CV n_ b) (lS:S.length<=11) :
  Gd n_ ((kJ aU (wM T)).map tu) (kJ bG (wM S)):=by
 have m1:∀ q,q∈kJ aU (wM T)->QV n_ q:=λq h=>hT q (oO.mp ((eU _).mem_iff.mp h));have m2:∀ q,q∈kJ bG (wM S)->CV n_ q:=λq h=>hS q (oO.mp ((eU _).mem_iff.mp h));have l1:=sU T;have l2:=sU S;refine⟨ss,nl,nm,λr hr=>?_,λr hr=>?_,?_,?_,λb hb=>?_,λb hb=>(m2 b hb).i,YH S,?_⟩
 ·obtain⟨q,hq,rfl⟩:=List.mem_map.mp hr;have v:=m1 q hq;have w:=v.w;exact⟨⟨show(1:Int)<=0 - q.1 by omega,show(0:Int) - q.1<=1000 by omega⟩,v.lt,v.n,nm _ v.i.1,nm _ v.i.2⟩
 ·obtain⟨q,hq,rfl⟩:=List.mem_map.mp hr;exact(m1 q hq).i
 ·rw[Qb,show(dY ∘ tu)=id from funext afZ,List.map_id];exact YH T
 ·rw[zg,(eU _).length_eq];omega
 ·have v:=m2 b hb;exact⟨v.lt,v.n,nm _ v.i.1,nm _ v.i.2⟩
 ·rw[(eU _).length_eq];omega
structure G0 (g:gJ):Prop where
 gd:Gd g.1 g.2.1 g.2.2
 rn:∀ r∈g.2.1,r.2.2.2<=10
 bn:∀ b∈g.2.2,b.2.2<=10
 rl:g.2.1.length<=12
 bl:g.2.2.length<=5
theorem Vp (script:List Int) (many reasons bars:Int) (m0:0<=many) (m1:many<=15) (r0:0<=reasons) (r1:reasons<=12) (b0:0<=bars) (b1:bars<=5):o7 script 0 many reasons bars/\G0 (jk script 0 many reasons bars):=by
 obtain⟨n1,n2,n3⟩:=Gq (bD script 0) 6 (by decide) (by decide);have n2:(aQ (bD script 0) 6).length=6:=n2;have key:∀ head:List Int,6<=head.length->oH script 0 many reasons bars head/\G0 (oG script 0 many reasons bars head):=λhead hh=>by
  obtain⟨k1,k2,k3⟩:=Yr head hh many m0 (by omega);have knd:=YC head many m1;have hn:(wL (cG head many)).length=many.toNat:=by rw[(pI _).length_eq,k2]
  have nd:(wL (cG head many)).Nodup:=(pI _).nodup_iff.mpr knd;have c8:∀ n_:LS_,n_.length=many.toNat->n_.Nodup->n_.Pairwise Ly->(∀ n∈n_,Nm n)->oF script 0 many reasons bars head n_/\G0 (oA script 0 many reasons bars head n_):=λn_ hn nd so nm=>by
   have ss:n_.Pairwise λa b=>wg a b=true:=(so.and nd).imp λh=>(lt_iff _ _).mpr h;obtain⟨t1,t2,t3⟩:=yS (P:=λf k=>some (gR script 0 many head n_ f k)) (step:=λf k=>cT script 0 many head n_ f k) (λk s=>s.length<=k/\Rs n_ s/\∀ r∈s,RT r) reasons.toNat [] ⟨zi 0,λr h=>(by cases h),λr h=>(by cases h)⟩ λk s hk h=>Vn script 0 many (by decide) (by decide) head hh n_ hn k (by omega) s ss h;obtain⟨s1,s2,s3⟩:=yS (P:=λf k=>some (gU script 0 many n_ f k)) (step:=λf k=>dw script 0 many n_ f k) (λk s=>s.length<=k/\∀ b∈s,(b.1∈n_/\b.2.1∈n_)/\BT b) bars.toNat [] ⟨zi 0,λr h=>(by cases h)⟩ λk s hk h=>Vo script 0 many (by decide) (by decide) n_ hn k (by omega) s ss h;have sl:=Nat.lt_of_le_of_lt s2 (show bars.toNat < 64 by omega);have c6:∀ told:List uI,told.length<=reasons.toNat->(Rs n_ told/\∀ r∈told,RT r)->ou script 0 many reasons bars head n_ told/\G0 (oh script 0 many reasons bars head n_ told):=λtold tl ⟨tr,tv⟩=>by
    have dl:=sU told;have sp:=(eU (e:=aU) (wM told)).length_eq;have l2:=zD (sU _) s2;refine⟨⟨⟨⟨by omega,by omega⟩,by rw[sp];omega⟩,⟨Er b0 (by omega),s1⟩,QU sl,sl⟩,abU ss (by omega) nm (λq hq=>?_) (by omega) (λb hb=>?_) (zD s2 (by omega)),λr hr=>?_,λb hb=>?_,?_,?_⟩
    ·obtain⟨v1,v2,v3⟩:=tv q hq;exact⟨v1,v2,⟨v3.1,by omega⟩,tr q hq⟩
    ·obtain⟨v1,v2,v3⟩:=s3 b hb;exact⟨v2,⟨v3.1,by omega⟩,v1⟩
    ·obtain⟨q,hq,rfl⟩:=List.mem_map.mp hr;exact(tv q (oO.mp ((eU _).mem_iff.mp hq))).2.2.2
    ·exact(s3 b (oO.mp ((eU _).mem_iff.mp hb))).2.2.2
    ·show(List.map _ _).length<=12;rw[zg,sp];omega
    ·show(kJ _ _).length<=5;rw[(eU _).length_eq];omega
   have:=c6 _ t2 t3;exact⟨⟨⟨Er r0 (by omega),t1⟩,this.1⟩,this.2⟩
  have mem:∀ n,n∈wL (cG head many)->n∈cG head many:=λn h=>(pI _).mem_iff.mp h;have:=c8 _ hn nd (Dy _) λn h=>YG head many m1 n (mem n h);exact⟨⟨⟨k1,by rw[k2];omega⟩,this.1⟩,this.2⟩
 have:=key _ (Nat.le_of_eq n2.symm);exact⟨⟨⟨Lg _ _ (by decide) (by decide),n1⟩,this.1⟩,this.2⟩
theorem abV {c:Int} (hc:0 < c) {n n':Int} (h:n < n'):n * c < n' * c:=Int.mul_lt_mul_of_pos_right h hc
theorem sc4 {c:Int} (hc:0 < c) {x y:uI} (h:Jf aU x y=true):Jf aU (x.1,x.2.1,x.2.2.1,x.2.2.2 * c) (y.1,y.2.1,y.2.2.1,y.2.2.2 * c)=true:=by
 obtain⟨w,a,b,n⟩:=x;obtain⟨w',a',b',n'⟩:=y;have h:S1.gk [Sum.inl w,Sum.inr a,Sum.inr b,Sum.inl n] [Sum.inl w',Sum.inr a',Sum.inr b',Sum.inl n']=true:=h;show S1.gk [Sum.inl w,Sum.inr a,Sum.inr b,Sum.inl (n * c)] [Sum.inl w',Sum.inr a',Sum.inr b',Sum.inl (n' * c)]=true;simp only[S1.gk] at h ⊢;by_cases e1:(Sum.inl w:Sum Int Str)=Sum.inl w'
 ·rw[zr e1] at h ⊢;by_cases e2:(Sum.inr a:Sum Int Str)=Sum.inr a'
  ·rw[zr e2] at h ⊢;by_cases e3:(Sum.inr b:Sum Int Str)=Sum.inr b'
   ·rw[zr e3] at h ⊢;by_cases e4:(Sum.inl n:Sum Int Str)=Sum.inl n'
    ·rw[zr e4] at h;cases h
    ·rw[zz e4] at h;have h:n < n':=kU h;have h2:=abV hc h;rw[zz (λz=>by have:=Sum.inl.inj z;omega)];exact zS h2
   ·rw[zz e3] at h ⊢;exact h
  ·rw[zz e2] at h ⊢;exact h
 ·rw[zz e1] at h ⊢;exact h
theorem sc3 {c:Int} (hc:0 < c) {x y:Bar} (h:Jf bG x y=true):Jf bG (x.1,x.2.1,x.2.2 * c) (y.1,y.2.1,y.2.2 * c)=true:=by
 obtain⟨a,b,n⟩:=x;obtain⟨a',b',n'⟩:=y;have h:S1.gk [Sum.inr a,Sum.inr b,Sum.inl n] [Sum.inr a',Sum.inr b',Sum.inl n']=true:=h;show S1.gk [Sum.inr a,Sum.inr b,Sum.inl (n * c)] [Sum.inr a',Sum.inr b',Sum.inl (n' * c)]=true;simp only[S1.gk] at h ⊢;by_cases e2:(Sum.inr a:Sum Int Str)=Sum.inr a'
 ·rw[zr e2] at h ⊢;by_cases e3:(Sum.inr b:Sum Int Str)=Sum.inr b'
  ·rw[zr e3] at h ⊢;by_cases e4:(Sum.inl n:Sum Int Str)=Sum.inl n'
   ·rw[zr e4] at h;cases h
   ·rw[zz e4] at h;have h:n < n':=kU h;have h2:=abV hc h;rw[zz (λz=>by have:=Sum.inl.inj z;omega)];exact zS h2
  ·rw[zz e3] at h ⊢;exact h
 ·rw[zz e2] at h ⊢;exact h
theorem scaled {g:gJ} (h:G0 g):Gd g.1 (g.2.1.map λq2:aR=>(q2.1,q2.2.1,q2.2.2.1,(q2.2.2.2 * (49999:Int)))) (g.2.2.map λq3:bC=>(q3.1,q3.2.1,(q3.2.2 * (50000:Int)))):=by
 obtain⟨⟨ss,nl,nm,rv,ri,rp,rl,bv,bi,bp,bl⟩,rn,bn,_,_⟩:=h;refine⟨ss,nl,nm,λr hr=>?_,λr hr=>?_,?_,by rw[zg];exact rl,λb hb=>?_,λb hb=>?_,?_,by rw[zg];exact bl⟩
 ·obtain⟨q,hq,rfl⟩:=List.mem_map.mp hr;have v:=rv q hq;have n:=v.n;have m:=rn q hq;exact⟨v.w,v.lt,⟨show(0:Int)<=q.2.2.2 * 49999 by omega,show q.2.2.2 * (49999:Int) < 1000000 by omega⟩,v.a,v.b⟩
 ·obtain⟨q,hq,rfl⟩:=List.mem_map.mp hr;exact ri q hq
 ·rw[kX] at rp;rw[Qb,kX];exact rp.imp λh=>sc4 (by decide) h
 ·obtain⟨q,hq,rfl⟩:=List.mem_map.mp hb;have v:=bv q hq;have n:=v.n;have m:=bn q hq;exact⟨v.lt,⟨show(0:Int)<=q.2.2 * 50000 by omega,show q.2.2 * (50000:Int) < 1000000 by omega⟩,v.a,v.b⟩
 ·obtain⟨q,hq,rfl⟩:=List.mem_map.mp hb;exact bi q hq
 ·rw[kX];exact bp.imp λh=>sc3 (by decide) h
theorem more {g:gJ} (h:G0 g) {q5:uI} (hq:q5∈g.2.1):Gd g.1 ((kJ aU (wM ([(((0:Int) - q5.1),q5.2.1,q5.2.2.1,(2:Int)),(((0:Int) - q5.1),q5.2.1,q5.2.2.1,(9:Int)),(((0:Int) - q5.1),q5.2.1,q5.2.2.1,(10:Int)),(((0:Int) - q5.1),q5.2.1,q5.2.2.1,(100:Int))]++g.2.1.map tu))).map tu) (kJ bG (wM (g.2.2++[(q5.2.1,q5.2.2.1,(2:Int)),(q5.2.1,q5.2.2.1,(10:Int)),(q5.2.1,q5.2.2.1,(100:Int))]))):=by
 have rl:=h.rl;have bl:=h.bl;have v:=h.gd.rv q5 hq;have w:=v.w;have i5:=h.gd.ri q5 hq;have mk:∀ n:Int,0<=n->n < 1000000->QV g.1 (((0:Int) - q5.1),q5.2.1,q5.2.2.1,n):=λn h0 h1=>⟨⟨show -1000<=(0:Int) - q5.1 by omega,show(0:Int) - q5.1 ≤ -1 by omega⟩,v.lt,⟨h0,h1⟩,i5⟩;have mb:∀ n:Int,0<=n->n < 1000000->CV g.1 (q5.2.1,q5.2.2.1,n):=λn h0 h1=>⟨v.lt,⟨h0,h1⟩,i5⟩;refine abU h.gd.ss h.gd.nl h.gd.nm (λq hq=>?_) ?_ (λb hb=>?_) ?_
 ·rcases List.mem_append.mp hq with hq|hq
  ·simp only[qh,qr,or_false] at hq;rcases hq with rfl|rfl|rfl|rfl<;>exact mk _ (by decide) (by decide)
  ·obtain⟨r,hr,rfl⟩:=List.mem_map.mp hq;have u:=h.gd.rv r hr;have uw:=u.w;exact⟨⟨show -1000<=(0:Int) - r.1 by omega,show(0:Int) - r.1 ≤ -1 by omega⟩,u.lt,u.n,h.gd.ri r hr⟩
 ·rw[zl,zg];show 4+_<=17;omega
 ·rcases List.mem_append.mp hb with hb|hb
  ·have u:=h.gd.bv b hb;exact⟨u.lt,u.n,h.gd.bi b hb⟩
  ·simp only[qh,qr,or_false] at hb;rcases hb with rfl|rfl|rfl<;>exact mb _ (by decide) (by decide)
 ·rw[zl];show _+3<=11;omega
theorem YJ (script:List Int):nP script/\Gd (fK script).1 (fK script).2.1 (fK script).2.2:=by
 obtain⟨n1,n2,n3⟩:=Gq (bD script 0) 9 (by decide) (by decide);have n2:(aQ (bD script 0) 9).length=9:=n2;unfold nP fK;dsimp only;generalize aQ (bD script 0) 9=head at *
 have ix:∀ i:Nat,i < 9->In head.length (i:Int):=λi hi=>qQ (by omega);have m1:=iD (at' head 6) (m:=9) (by decide);have m2:=iD (at' head 7) (m:=13) (by decide);have m3:=iD (at' head 8) (m:=6) (by decide);obtain⟨d,g⟩:=Vp script (at' head 6 % 9) (at' head 7 % 13) (at' head 8 % 6) m1.1 (by omega) m2.1 (by omega) m3.1 (by omega);generalize jk script 0 (at' head 6 % 9) (at' head 7 % 13) (at' head 8 % 6)=q1 at *
 have rl:=g.rl;have bl:=g.bl;have c0:gM script 0:=Lg _ _ (by decide) (by decide);by_cases h1:at' head 5 % 4=1
 ·have e1:decide (at' head 5 % 4=1)=true:=zS h1;have e2:decide ((1:Int) < at' head 5 % 4)=false:=ZT (by omega);rw[e1,e2];simp only[ZZ,JS,zh,Zl];refine⟨⟨⟨c0,n1⟩,⟨⟨ix 6 (by decide),ix 7 (by decide),ix 8 (by decide)⟩,d⟩,⟨ix 5 (by decide),λ_=>⟨by omega,by omega⟩⟩,ix 5 (by decide),λz=>z.elim⟩,scaled g⟩
 ·have e1:decide (at' head 5 % 4=1)=false:=ZT h1;rw[e1];simp only[zh,Zl];by_cases h2:((decide ((1:Int) < at' head 5 % 4))&&(!decide (q1.2.1=([]:List aR))))=true
  ·have hne:q1.2.1≠[]:=by
    rw[ZE] at h2;simpa using h2.2
   have hp:0 < q1.2.1.length:=List.length_pos_iff.mpr hne;have i5:In q1.2.1.length ((at' head 5 / 4) % (q1.2.1.length:Int)):=sY (by omega) (Int.le_refl _);have mm:=more g (sW i5);rw[h2];simp only[ZZ];refine⟨⟨⟨c0,n1⟩,⟨⟨ix 6 (by decide),ix 7 (by decide),ix 8 (by decide)⟩,d⟩,⟨ix 5 (by decide),λz=>z.elim⟩,ix 5 (by decide),λ_=>⟨⟨⟨ix 5 (by decide),by omega⟩,i5⟩,⟨⟨⟨by omega,dJ ?_⟩,?_⟩,?_⟩,?_,⟨dJ ?_,?_⟩,?_⟩⟩,mm⟩
   ·rw[zg];show 4+_<=1000;omega
   ·rw[zl,zg];show 4+_<=64;omega
   ·rw[zl,zg];show 4+_ < 64;omega
   ·rw[(eU _).length_eq];refine zD (sU _) ?_;rw[zl,zg];show 4+_<=100000;omega
   ·show _+3<=1000;omega
   ·rw[zl];show _+3<=64;omega
   ·rw[zl];show _+3 < 64;omega
  ·have h2:((decide ((1:Int) < at' head 5 % 4))&&(!decide (q1.2.1=([]:List aR))))=false:=by simpa using h2
   rw[h2];simp only[zh,Zl];exact⟨⟨⟨c0,n1⟩,⟨⟨ix 6 (by decide),ix 7 (by decide),ix 8 (by decide)⟩,d⟩,⟨ix 5 (by decide),λz=>z.elim⟩,ix 5 (by decide),λz=>z.elim⟩,g.gd⟩
theorem PJ [Inhabited α] (xs:List α) (p:Int->Bool):(((rng 0 (xs.length:Int).toNat).filter p).map λk:Int=>at' xs k).Sublist xs:=by
 have h:(rng 0 (xs.length:Int).toNat).map (λk:Int=>at' xs k)=xs:=by
  refine k8 λi=>?_;unfold rng;rw[Qb,ZA];by_cases hi:i < xs.length
  ·rw[kL (by omega)];simp only[Option.map_some,Function.comp];rw[show(0:Int)+(i:Int)=(i:Int) by omega,sX xs i hi,zI hi]
  ·rw[Z3 (by simp;omega),Z3 (by omega)];rfl
 have:=(List.filter_sublist (p:=p) (l:=rng 0 (xs.length:Int).toNat)).map λk:Int=>at' xs k;rwa [h] at this
theorem YK {rs rs':List uI} {bs bs':List Bar} (g:Gd n_ rs bs) (h1:rs'.Sublist rs) (h2:bs'.Sublist bs):Gd n_ rs' bs':=
 ⟨g.ss,g.nl,g.nm,λr hr=>g.rv r (h1.subset hr),λr hr=>g.ri r (h1.subset hr),g.rp.sublist (h1.map _),zD h1.length_le g.rl,λb hb=>g.bv b (h2.subset hb),λb hb=>g.bi b (h2.subset hb),g.bp.sublist h2,zD h2.length_le g.bl⟩
theorem YL (ns:List Int) (_:ns.length<=63):Pu ns/\Pr ns=true:=by
 obtain⟨d,g⟩:=YJ ns;unfold Pu Pr;dsimp only;generalize fK ns=v at *
 have g0:Gd v.1 [] []:=YK g (List.nil_sublist _) (List.nil_sublist _);have gz:Gd [] [] []:=⟨k9,by decide,λ_ h=>(by cases h),λ_ h=>(by cases h),λ_ h=>(by cases h),k9,by decide,λ_ h=>(by cases h),λ_ h=>(by cases h),k9,by decide⟩;obtain⟨a1,a2⟩:=zu (g:=v) g;obtain⟨b1,b2⟩:=zu (g:=(([]:LS_),([]:List aR),([]:List bC))) gz;obtain⟨c1,c2⟩:=zu (g:=(v.1,([]:List aR),([]:List bC))) g0;have rl:=g.rl;have bl:=g.bl;have L:=NT (step:=λ(s1:Unit) (v5:Int)=>((rW v s1 v5):Bu (Unit) Bool)) (P:=λ(s1:Unit) (v5:Int)=>some (Gp v s1 v5)) (cut ns (some (1:Int)) (some (20:Int))) λx hx=>by
  obtain⟨n1,n2,n3⟩:=Gq x 28 (by decide) (by decide);have n2:(aQ x 28).length=28:=n2;obtain⟨e1,e2⟩:=zu (g:=(v.1,(((rng 0 (v.2.1.length:Int).toNat).filter λv3:Int=>(decide ((0:Int) < ((at' (aQ x 28) v3) % (3:Int))))).map λv3:Int=>(at' v.2.1 v3)),(((rng 0 (v.2.2.length:Int).toNat).filter λv3:Int=>(decide ((0:Int) < ((at' (aQ x 28) ((17:Int)+v3)) % (3:Int))))).map λv3:Int=>(at' v.2.2 v3)))) (YK g (PJ _ _) (PJ _ _));refine⟨⟨n1,⟨⟨Er (by omega) (by omega),by rw[mJ];omega⟩,λk hk=>?_⟩,⟨⟨Er (by omega) (by omega),by rw[mJ];omega⟩,λk hk=>?_⟩,e1⟩,.inl ?_⟩
  ·obtain⟨i,hi,rfl⟩:=p7 hk;exact⟨in_of (by omega) (by omega),λ_=>in_of (by omega) (by omega)⟩
  ·obtain⟨i,hi,rfl⟩:=p7 hk;exact⟨in_of (by omega) (by omega),λ_=>in_of (by omega) (by omega)⟩
  ·unfold rW;dsimp only;rw[e2];rfl
 rw[a2,b2,c2,L.1];exact⟨⟨d,⟨a1,λ_=>⟨b1,λ_=>c1⟩⟩,λ_=>⟨L.2,trivial⟩⟩,rfl⟩
theorem H1:∀ ns:List Int,ns.length<=63->F_law [.z (.lst (ns.map .int))]=some (.z (.bl true)):=(abM YL).1
theorem H2:∀ ns:List Int,ns.length<=63->F_law [.l (ns.map .int)]=some (.z (.bl true)):=(abM YL).2
end G51
end
open PySem PySem.W PyProof.Rows
namespace PySem.W.Fast
def tw8214139495172041767:=0
def tw13872555055643807030:=0
def tw15957597373641384437:=0
def tw2077734937852086358:=0
def tw14760423165176233788:=0
def tw12474205096555435837:=0
def tw299987679467201355:=0
def tw3106510607967831622:=0
def tw9087671662943342444:=0
def tw363537002121805828:=0
def tw2012120447354489456:=0
def tw603148562306910974:=0
def tw13659766470944609412:=0
def tw16017444265037017993:=0
def tw2528750466321425424:=0
def tw10593692413120834840:=0
def tw532210298235006516:=0
def tw8217165039371065217:=0
def tw6346178229720882268:=0
def tw7590427202157744628:=0
def tw18017188726876890663:=0
def tw1143896974336903248:=0
def tw634603368649730586:=0
def tw16984046090590913714:=0
def tw11718146747616934315:=0
def tw17370283918832144161:=0
def tw14621949160226784291:=0
def tw15654894019723929778:=0
def tw15591987613917914050:=0
def tw5765531959264569894:=0
def tw5370817122371035398:=0
def tw17854754050997562917:=0
def tw7085356620242160643:=0
def tw5505743574269241708:=0
def tw11567460788644407885:=0
def tw11749307136715448286:=0
def tw14545975476872606535:=0
def tw3721950931671955384:=0
def tw18157763724415714895:=0
def tw14858510455775493072:=0
def tw9710356741209721811:=0
def tw10696554932580936176:=0
def tw5880330872217500796:=0
def tw8937725686220764565:=0
def tw13110943521182861253:=0
def tw4077779174075809122:=0
def tw15907426820238618146:=0
def tw2227220299803456006:=0
def tw11880789168948364090:=0
def tw9179460129368050782:=0
def tw9943987164031478695:=0
def tw17794422788507394565:=0
def tw16085727825823487990:=0
def tw11652536429874293795:=0
def tw14829710409015214875:=0
def tw15991173192013683760:=0
def tw6528480190812152373:=0
def tw5457249656361830184:=0
def tw8330014011707204395:=0
def tw1903008679737152253:=0
def tw6234930340679479500:=0
def tw14297051502716937728:=0
def tw2587482364749503370:=0
def tw15296034785601123948:=0
def tw17396557866705237794:=0
def tw13938018120474414390:=0
def tw16254779130224796366:=0
def tw4266200875753795696:=0
def tw14996813134440938565:=0
def tw18154013136405184190:=0
def tw11779760747012039559:=0
def tw3550217057678393634:=0
def tw9845152003323632398:=0
def tw16623983604824757141:=0
def tw6011750364607870635:=0
def tw4016489234874661643:=0
def tw668513141404208539:=0
def tw11119481670945865564:=0
def tw11152979332214493854:=0
def tw15158229359420972633:=0
def tw14488466333191530817:=0
def tw6420419059652743507:=0
def tw14862312540622885759:=0
def tw654557166197986227:=0
def tw2463331165518298427:=0
def tw2758220009496827571:=0
def tw13643556032094380037:=0
def tw11403671933597474303:=0
def tw7808694901262380002:=0
def tw9397606646264528444:=0
end PySem.W.Fast
set_option maxRecDepth 100000 in
set_option maxHeartbeats 0 in
theorem PySem.Challenge.cw_onefolk_k51_grounds_written_holds : PySem.Challenge.rw_onefolk_k51_grounds_written.Holds := by
 w_on;refine PySem.W.holds_law (by decide +kernel) λsaid=>?_
 k_head;(case hw=>w_witness2)
 k_fill
 refine P1.walkT (l:=PySem.Challenge.rw_onefolk_k51_grounds_written) (T:=G51.T) (k:=8) (x := "_law_script") (st:=G51.s_law) (F_law:=G51.F_law) (λt=>t.x_law) ⟨rfl,by decide,by decide⟩ rfl (λw mg base t=>G51.all_ok t) rfl rfl G51.H1 G51.H2 (λ_ _ _ _ _ _ _=>rfl) (λw h Y=>PySem.W.kIn_of Y) ?F
 case F=>
  intro w mg h KX G
  refine' ⟨P1.jz KX G _ _ _ _,P1.jz KX G _ _ _ _,P1.jz KX G _ _ _ _,P1.jz KX G _ _ _ _,P1.jz KX G _ _ _ _,P1.jz KX G _ _ _ _,P1.jz KX G _ _ _ _,P1.jz KX G _ _ _ _,P1.jz KX G _ _ _ _,P1.jz KX G _ _ _ _,P1.jz KX G _ _ _ _,P1.jz KX G _ _ _ _,P1.jz KX G _ _ _ _,P1.jz KX G _ _ _ _,P1.jz KX G _ _ _ _,P1.jz KX G _ _ _ _,P1.jz KX G _ _ _ _,P1.jz KX G _ _ _ _,P1.jz KX G _ _ _ _,P1.jz KX G _ _ _ _,P1.jz KX G _ _ _ _,P1.jz KX G _ _ _ _,P1.jz KX G _ _ _ _,P1.jz KX G _ _ _ _,P1.jz KX G _ _ _ _,P1.jz KX G _ _ _ _,P1.jz KX G _ _ _ _,P1.jz KX G _ _ _ _,P1.jz KX G _ _ _ _,P1.jz KX G _ _ _ _,P1.jz KX G _ _ _ _,P1.jz KX G _ _ _ _,ZI KX G _,ZI KX G _,ZI KX G _,ZI KX G _,ZI KX G _,ZI KX G _,ZI KX G _,ZI KX G _,ZI KX G _,ZI KX G _,ZI KX G _,ZI KX G _,ZI KX G _,ZI KX G _,ZI KX G _,P1.mgT KX G _,P1.mgT KX G _,P1.mgT KX G _,P1.mgT KX G _,P1.mgT KX G _,P1.mgT KX G _⟩
  all_goals try (show _=_;k_is)
  all_goals try kernel_rfl
