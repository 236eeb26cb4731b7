import PyProof.Rows.All
import Wide.All
import OpenK.AllK
import Wide.FinOn
import PyProof.EqAt
import PyProof.EqKinds
import PyProof.TupleCall
import PyProof.StrLoop
import PyProof.StrWalks
import PyProof.CompFree
import PyProof.NeKinds
import PyProof.Rows.RuleN_isinstance
import PyProof.ConsumeWalk
import PyProof.IsiPairs
import PyProof.IsiSeqPairs
import PyProof.IsiHeapPairs
import PyProof.IsiNone
import PyProof.PureStr
import PyProof.StrCalls
import PyProof.Rows.SortStr
import PyProof.Rows.StrJoin2
import PyProof.CallStr
import PyProof.WalkInts
import PyProof.Rows.StrDigits
import PyProof.DictWalks
import PyProof.DictTruth
import PyProof.CollectWalk
import PyProof.WalkLemmas
import PyProof.Rows.SortShellK
import PyProof.Rows.SortWalk
import PyProof.SetKind
import PyProof.FactsAll.set
import PyProof.Rows.SetFrom
import PyProof.TupleKey
import PyProof.IsRules
import PyProof.WalksMore
import PyProof.SetRoads
import PyProof.DictCompW
import PyProof.ListRange
import PyProof.FString5
import PyProof.MeetsSeq2
import PyProof.FactsAll.tuple_0
import PyProof.FactsAll.tuple_2
import PyProof.FactsAll.tuple_3
import PyProof.EnumFor
import PyProof.EnumMake
import PyProof.EnumStmt
import PyProof.Rows.EnumRows
import PyProof.SumWalk
import PyProof.Rows.SeqCalls
import KE.KRevSl
import PyProof.ZipIter
import PyProof.TupleIter
import PyProof.AttrMiss
import KE.KDictOf
import KE.KDictLaws
import PyProof.TupleOfStr
import PyProof.StrCalls2
import PyProof.Rows.StrNews2
import PyProof.Rows.StrItems
import PyProof.Rows.StrSplitAre
import PyProof.Rows.StrGen4
import PyProof.Rows.RegStrFacts
import PyProof.Rows.FStr
import PyProof.SetNew
import PyProof.Rows.SetObj
import PyProof.Seq
import PyProof.Rows.SortShell
import PyProof.FactsAll.list_3
import KE.KIntText
import PyProof.StrCalls6
import PyProof.FitsReplace
import PyProof.ToksMono
import PyProof.FactsAll.str_4
import PyProof.StrBlock
import PyProof.RangeIter
import PyProof.CodeObj
import PyProof.StrLawsTight
import PyProof.Rows.StrPartPair
import PyProof.Rows.CatFin
import PyProof.Rows.StrClose
import PyProof.Rows.StrNext
import PyProof.Rows.StrBetween
import Lean
import PySem.Challenge.RW_onefolk_k15_what_hangs_on_a_reason
open PySem.W (instObj methodObj keepIn cellsFrom_some fnOf codeIn codeRec_of nsIn clsIn findIn specialIn takesIn mroIn InstAt findObj looks_findIn exmOne kitOne kia_one)
set_option maxRecDepth 100000
set_option maxHeartbeats 4000000
set_option linter.all false
set_option Elab.async false
open PySem PySem.Spec PyProof.Rows
variable {w:World} {i:Nat} {t:SetTable} {x:Str} {a:Addr} {prog:Program} {us:List Value} {κ:Type} {h:Heap} {items:Array Value} {u:Value} {P:Program} {α β:Type} {e:Expr} {n:Nat} {mg:Str->Option Value} {base:Heap} {l:PySem.W.OpenLaw} {env:Env} {m:List (Str×Str)} {pins:List (Addr×Obj)} {s:Shared} {it:Addr} {j:Nat} {M:Model} {A:Around} {v:Value} {Q:Option Value->Shared->Prop} {hi:Option Int} {D:Addr} {es:List Expr} {st:Stmt} {pos:Pos} {hs:List Int} {c tg:Expr} {fp:List Addr} {tn:Nat->Heap->Prop} {iter:Expr} {lo:Option Int} {pl:List Nat} {body:List Stmt} {C:Addr} {op:CmpOp} {its:List Value} {dx:Option Addr} {name:Str} {outer:List Env} {fd:FuncData} {apos:Pos} {qual:Str} {scope:Scope} {osl sl:Array (Option Value)} {p2 cpos:Pos} {XP:(Str->Option Value)->Heap->Prop} {YP:World->Heap->Prop} {cl:List (Str×Addr)} {is:List Nat} {ifs:List Expr} {elt tgt:Expr} {el:Addr->Env->Sem Unit} {B:Around->Bool->Prop} {RR:Value->Addr->Result->Shared->Prop} {ep mask:Nat} {owner:Array (Option Nat)} {γ δ:Type} {bmB:List Value} {newId:String} {os:OsState} {initId:String} {suite:List Stmt} {a_:Addr}
abbrev LS_:=List PySem.Str
abbrev VP_:=PySem.Value->PySem.Shared->Prop
abbrev FG_:=PySem.W.Frag
abbrev LI_:=List Int
abbrev zb:=@wpAny_bind
abbrev zd:=@Heap.get?_push_of_some
abbrev ze:=@wpAny_pure
abbrev zg:=@Nat.le_refl
abbrev zh:=@Nat.le_of_ble_eq_true
abbrev zi:=@if_pos
abbrev zk:=@Bool.false_eq_true
abbrev zl:=@List.length_map
abbrev zo:=@List.mem_cons_self
abbrev zr:=@List.map_cons
abbrev zt:=@List.mem_cons_of_mem
abbrev zv:=@Heap.get?_push_size
abbrev zw:=@Heap.lt_size
abbrev zz:=@List.size_toArray
abbrev zC:=@if_neg
abbrev zI:=@Nat.ne_of_lt
abbrev zS:=@List.getElem?_eq_getElem
abbrev Zl:=@List.getElem?_map
abbrev Zp:=@Nat.le_trans
abbrev Zs:=@List.length_append
abbrev ZA:=@Bool.false_ne_true
abbrev ZE:=@Bool.and_eq_true
abbrev ZH:=@Nat.lt_of_lt_of_le
abbrev ZI:=@if_false
abbrev ZN:=@List.getElem?_append_left
abbrev ZO:=@List.not_mem_nil
abbrev ZT:=@List.getElem?_cons_succ
abbrev ZU:=@wpAny_mono
abbrev ZY:=@List.mem_append_right
abbrev ZZ:=@List.mem_cons
abbrev Z3:=@Array.getElem?_eq_getElem
abbrev qa:=@wpAny_newObj_type
abbrev qc:=@PySem.W.mg_none_of
abbrev qf:=@decide_eq_false
abbrev qh:=@Array.length_toList
abbrev qi:=@List.all_eq_true
abbrev qk:=@Heap.size_push
abbrev qo:=@wpAny_holding
abbrev qq:=@Nat.lt_succ_of_lt
abbrev qr:=@List.getElem?_append_right
abbrev qv:=@Nat.lt_succ_self
abbrev qA:=@decide_eq_true_eq
abbrev qB:=@Bool.not_eq_true'
abbrev qE:=@List.mem_of_getElem?
abbrev qS:=@if_true
abbrev qV:=@List.getElem?_eq_none
abbrev Qb:=@Array.getElem?_toList
abbrev Qr:=@List.map_map
abbrev QA:=@decide_eq_true
abbrev QE:=@List.length_cons
abbrev QI:=@Heap.get?_update_self
abbrev QN:=@List.getElem?_replicate
abbrev QO:=@Nat.zero_le
abbrev QP:=@List.foldl_cons
abbrev QQ:=@wpAny_typeOf
abbrev QR:=@wpAny_setState_of
abbrev QU:=@Nat.le_of_lt
abbrev QY:=@List.append_nil
abbrev Q1:=@wpAny_truthy_bool
abbrev Q2:=@Heap.get?_update_other
abbrev Q3:=@List.getElem_of_mem
abbrev Q4:=@wpAny_field
abbrev ja:=@List.map_append
abbrev js:=@List.find?_cons
abbrev jv:=@decide_eq_false_iff_not
abbrev jI:=@codeAny_builtin
abbrev jS:=@List.map_congr_left
abbrev j3:=@Heap.get?_update_ne
abbrev Jn:=@PySem.W.mg_of
abbrev JA:=@Nat.lt_irrefl
abbrev JE:=@wpAny_isInstance
abbrev JI:=@wpAny_call_entry
abbrev JJ:=@List.length_take
abbrev JO:=@Obj.data_mapFields
abbrev JP:=@Or.inr
abbrev JS:=@List.rel_of_pairwise_cons
abbrev JU:=@Option.some.inj
abbrev JY:=@List.length_set
abbrev ka:=@of_decide_eq_true
abbrev kb:=@List.any_cons
abbrev kc:=@wpAny_comprehension_free
abbrev ke:=@PySem.mem_of_lookup
abbrev kf:=@Option.bind_some
abbrev kg:=@List.length_drop
abbrev ki:=@List.any_eq_true
abbrev kl:=@Nat.le_succ
abbrev km:=@Ne.symm
abbrev ko:=@List.map_nil
abbrev kq:=@wpAny_Call_Name_kw
abbrev kr:=@Nat.not_lt_zero
abbrev ku:=@List.cons.injEq
abbrev ky:=@List.all_cons
abbrev kz:=@Bool.not_true
abbrev kA:=@List.lookup_cons_self
abbrev kB:=@List.append_assoc
abbrev kC:=@Int.toNat_natCast
abbrev kD:=@Bool.and_false
abbrev kF:=@List.mem_append_left
abbrev kK:=@decide_false
abbrev kL:=@Nat.ne_of_gt
abbrev kM:=@List.filterMap_cons
abbrev kP:=@wpAny_standAt
abbrev kQ:=@List.nil_append
abbrev kR:=@Or.inl
abbrev kU:=@wpAny_rule
abbrev kX:=@Nat.lt_of_le_of_lt
abbrev k4:=@wpAny_getItem_str_slice
abbrev k6:=@wpAny_callSpecial?_slot
abbrev k7:=@List.pairwise_mergeSort
abbrev k8:=@codeAny_mono
abbrev k9:=@Nat.zero_add
abbrev Kb:=@Bool.not_false
abbrev Ki:=@wpAny_loadPart_at
abbrev Kj:=@List.nodup_append
abbrev Kk:=@List.length_range
abbrev Kn:=@List.getElem?_set
abbrev Kt:=@Array.size_append
abbrev Kx:=@Array.getElem?_eq_none
abbrev KA:=@Obj.isFreed_of_fields
abbrev KB:=@wpAny_load
abbrev KF:=@wpAny_call
abbrev KG:=@Bool.and_true
abbrev KI:=@decide_true
abbrev KL:=@wpAny_passesOwn
abbrev KM:=@wpAny_execs_nil
abbrev KO:=@List.of_mem_zip
abbrev KP:=@List.mem_append
abbrev KS:=@Bool.eq_iff_iff
abbrev KU:=@List.replicate_succ
abbrev KW:=@List.mergeSort_perm
abbrev K0:=@List.mem_map
abbrev K2:=@List.map_id'
abbrev ya:=@List.nodup_nil
abbrev yb:=@List.mem_range
abbrev ye:=@Bool.false_and
abbrev yf:=@PySem.W.callWith_K
abbrev yi:=@wpAny_of_eq
abbrev yk:=@Int.le_refl
abbrev ym:=@wpAny_attempt
abbrev yn:=@Bool.true_and
abbrev yo:=@PySem.F.args_tuple_add_2
abbrev yv:=@List.Pairwise.imp_of_mem
abbrev yz:=@wpAny_execs_cons
abbrev yA:=@List.nodup_range
abbrev yB:=@List.getElem_mem
abbrev yT:=@PySem.F.entry_tuple_add
abbrev yY:=@F.plain_set_update_loop
variable {K:FG_} {N:LS_} {E:VP_} {ps:LS_} {Ex:VP_} {n_:LS_}
namespace L2
abbrev Key:=Sum Int Str
def jz:Key->Value->Bool
 |.inl k,v=>Value.isInt k v
 |.inr x,v=>Value.isStrOf x v
def ah3 (w:World):Key->Int
 |.inl k=>hashInt k
 |.inr x=>hashStr w x
theorem bI:∀ {k:Key} {v:Value},jz k v=true->(∃ i t,k=Sum.inl i/\v=Value.int i t)\/(∃ x t,k=Sum.inr x/\v=Value.str x t)
 |.inl i,v,h=>by
  obtain⟨t,e⟩:=Value.isInt_shape (k:=i) (v:=v) h;exact .inl ⟨i,t,rfl,e⟩
 |.inr x,v,h=>by
  obtain⟨t,e⟩:=Value.isStrOf_shape (x:=x) (v:=v) h;exact .inr ⟨x,t,rfl,e⟩
theorem Uj (i:Int) (t:Tok):jz (.inl i) (.int i t)=true:=by simp[jz,Value.isInt]
theorem Uk (x:Str) (t:Tok):jz (.inr x) (.str x t)=true:=by simp[jz,Value.isStrOf]
theorem ado (a b:Int):decide ((Sum.inl a:Key)=Sum.inl b)=(a==b):=by
 by_cases e:a=b
 ·subst e;simp
 ·have h:¬ (Sum.inl a:Key)=Sum.inl b:=λq=>e (Sum.inl.inj q);rw[qf h];exact(beq_eq_false_iff_ne.mpr e).symm
theorem adp (a b:Str):decide ((Sum.inr a:Key)=Sum.inr b)=decide (a=b):=by
 by_cases e:a=b
 ·subst e;simp
 ·have h:¬ (Sum.inr a:Key)=Sum.inr b:=λq=>e (Sum.inr.inj q);rw[qf h,qf e]
theorem adq (a:Int) (b:Str):decide ((Sum.inl a:Key)=Sum.inr b)=false:=qf (λq=>nomatch q)
theorem adt (a:Str) (b:Int):decide ((Sum.inr a:Key)=Sum.inl b)=false:=qf (λq=>nomatch q)
def bx (prog:Program) (w:World):PySem.KeyKind prog w Key where
 is:=jz
 hash:=ah3 w
 inj:=λv a b ha hb=>by
  rcases bI ha with⟨i,t,rfl,rfl⟩|⟨x,t,rfl,rfl⟩
  ·rcases bI hb with⟨j,u,rfl,e⟩|⟨y,u,rfl,e⟩
   ·injection e with e1 _;rw[e1]
   ·exact nomatch e
  ·rcases bI hb with⟨j,u,rfl,e⟩|⟨y,u,rfl,e⟩
   ·exact nomatch e
   ·injection e with e1 _;rw[e1]
 byValue:=λk v h=>by
  rcases bI h with⟨i,t,rfl,rfl⟩|⟨x,t,rfl,rfl⟩<;>rfl
 pyHash:=λhv h=>by
  rcases bI hv with⟨i,t,rfl,rfl⟩|⟨x,t,rfl,rfl⟩
  ·exact wpAny_pyHash_int h
  ·exact wpAny_pyHash_str h
 eqBool:=λhu hv h=>by
  rcases bI hu with⟨i,t,rfl,rfl⟩|⟨x,t,rfl,rfl⟩
  ·rcases bI hv with⟨j,u,rfl,rfl⟩|⟨y,u,rfl,rfl⟩
   ·rw[ado] at h;exact wpAny_eqBool_int h
   ·rw[adq] at h;exact SeqAt.EqAt.int_str i t y u _ _ _ _ h
  ·rcases bI hv with⟨j,u,rfl,rfl⟩|⟨y,u,rfl,rfl⟩
   ·rw[adt] at h;exact SeqAt.EqAt.str_int x t j u _ _ _ _ h
   ·rw[adp] at h;exact wpAny_eqBool_str h
 «strs»:=λk x t v h=>by
  rcases bI h with⟨i,u,rfl,e⟩|⟨y,u,rfl,e⟩
  ·exact nomatch e
  ·injection e with e1 _;subst e1;cases v<;>rfl
theorem K3 (prog:Program) (w:World) (i:Int) (t:Tok):(bx prog w).is (.inl i) (.int i t)=true:=Uj i t
theorem K4 (prog:Program) (w:World) (x:Str) (t:Tok):(bx prog w).is (.inr x) (.str x t)=true:=Uk x t
end L2
namespace L2
inductive V where
 |non|bl (b:Bool)|int (i:Int)|str (x:Str)|byt (b:Array UInt8)|flt (b:UInt64)|ref (a:Addr)|ty (n:String)
 deriving DecidableEq
def RelV:V->Value->Prop
 |.non,u=>u=Value.none
 |.bl b,u=>u=Value.bool b
 |.int i,u=>∃ t,u=Value.int i t
 |.str x,u=>∃ t,u=Value.str x t
 |.byt b,u=>∃ t,u=Value.bytes b t
 |.flt b,u=>∃ t,u=Value.float b t
 |.ref a,u=>u=Value.ref a
 |.ty n,u=>u=Value.type n
abbrev Vals:List V->List Value->Prop:=Paired RelV
theorem Vals.length {xs:List V} {us:List Value} (r:Vals xs us):xs.length=us.length:=Paired.length r
theorem Vals.get:∀ {xs:List V} {us:List Value} {i:Nat} {x:V},Vals xs us->xs[i]?=some x->∃ u,us[i]?=some u/\RelV x u
 |_,_,_,_,.nil,e=>by simp at e
 |_,_,0,_,.cons r _,e=>by simp at e;subst e;exact⟨_,rfl,r⟩
 |_,_,i+1,x,.cons _ t,e=>by
  obtain⟨u,h1,h2⟩:=Vals.get (i:=i) (x:=x) t (by simpa using e);exact⟨u,by simpa using h1,h2⟩
theorem Vals.append:∀ {xs ys:List V} {us ws:List Value},Vals xs us->Vals ys ws->Vals (xs++ys) (us++ws)
 |_,_,_,_,.nil,s=>s
 |_,_,_,_,.cons r t,s=>.cons r (Vals.append t s)
theorem Vals.take:∀ {xs:List V} {us:List Value} (n:Nat),Vals xs us->Vals (xs.take n) (us.take n)
 |_,_,0,_=>.nil
 |_,_,_+1,.nil=>.nil
 |_,_,n+1,.cons r t=>.cons r (Vals.take n t)
theorem Vals.drop:∀ {xs:List V} {us:List Value} (n:Nat),Vals xs us->Vals (xs.drop n) (us.drop n)
 |_,_,0,r=>r
 |_,_,_+1,.nil=>.nil
 |_,_,n+1,.cons _ t=>Vals.drop n t
def Bv:Option V->Option Value->Prop
 |some v,some u=>RelV v u
 |none,none=>True
 |_,_=>False
def KV:List (κ×V)->List (κ×Value)->Prop:=Paired λ(p:κ×V) (q:κ×Value)=>p.1=q.1/\RelV p.2 q.2
def kV:Key->V
 |.inl i=>.int i
 |.inr x=>.str x
inductive HO where
 |lst (xs:List V)
 |tup (xs:List V)
 |dK (kvs:List (Key×V))|dT (kvs:List (List Key×V))
 |set (S:Int->Bool) (n:Nat)
 |ins (C dx:Addr) (fs:List (Str×V))
 |own (x:Addr)
 |xd (fs:List (Str×V))
 |met (f x:Addr)
 |rng (lo hi:Int)
 |qM (o:Obj) (u:HO)
 |tbl (ps:Array Value)
 |ext (φ:Heap->Prop)
abbrev Hp:=Addr->Option HO
def upd (H:Hp) (a:Addr) (o:HO):Hp:=λb=>if b=a then some o else H b
theorem bf {H:Hp} {o:HO}:upd H a o a=some o:=by unfold upd;rw[zi rfl]
theorem aK {H:Hp} {b:Addr} {o:HO} (h:b≠a):upd H a o b=H b:=by unfold upd;rw[zC h]
def sX (h:Heap) (a:Addr) (items:Array Value):Prop:=∃ o,h.get? a=some o/\o.cls=.type "tuple" ∧ (∃ n,o.data=.seq items n)/\o.dict=none
theorem sX.weak (x:sX h a items):IsTup h a items:=let ⟨o,e,c,d,_⟩:=x;⟨o,e,c,d⟩
theorem sX.new (h:Heap) (items:Array Value):sX (h.push { cls:=.type "tuple", data:=.seq items }) h.objs.size items:=⟨_,zv _ rfl,rfl,⟨_,rfl⟩,rfl⟩
theorem iW {H:Hp} {b:Addr} {o u:HO} (h:H a=some o) (h':H b=some u) (d:o≠u):a≠b:=by
 intro e;subst e;rw[h] at h';exact d (JU h')
theorem bD {H:Hp} {b:Addr} {o:HO} (h:H a=some o) (h':H b=none):a≠b:=by
 intro e;subst e;rw[h] at h';cases h'
section
variable (P:Program) (w:World)
def eX (H:Hp) (h:Heap) (a:Addr):HO->Prop
 |.lst xs=>xs.length<=sizeLine/\∃ (its:List Value) (n:Nat),Vals xs its/\h.get? a=some { cls:=.type "list", data:=.seq its.toArray n }
 |.tup xs=>xs.length<=sizeLine/\∃ its:List Value,Vals xs its/\sX h a its.toArray
 |.dK kvs=>kvs.length<=sizeLine/\(a==sysModules)=false/\∃ vs,KV kvs vs/\h.DictOf (bx P w) a vs
 |.dT kvs=>kvs.length<=sizeLine/\(a==sysModules)=false/\∃ xs:List (List Key×Addr×Value),
   Paired (λ(p:List Key×V) (q:List Key×Addr×Value)=>p.1=q.1/\H q.2.1=some (.tup (p.1.map kV))/\RelV p.2 q.2.2) kvs xs ∧
   ∃ o es ep,h.get? a=some o/\o.ExactDict/\o.data=.dict es ep/\es.toList=xs.map (entryOfKey (tupleKind (bx P w)))/\(xs.map (·.1)).Nodup
 |.set S n=>h.SetOf (intKind P w) a S n
 |.ins C dx fs=>H dx=some (.own a)/\fs.length<=1000/\dx≠a/\h.get? a=some (instObj C dx) ∧
   ∃ mA,h.Ns1 dx mA/\(∀ f,Bv (fs.lookup f) (mA f))/\PySem.Within mA (fs.map (·.1))
 |.own _=>∃ o,h.get? a=some o
 |.xd fs=>∃ mA,h.Ns1 a mA/\∀ f,Bv (fs.lookup f) (mA f)
 |.rng lo hi=>∃ t u v,h.get? a=some { cls:=.type "range", data:=.fields #[.int lo t,.int hi u,.int 1 v] }
 |.qM o u=>h.get? a=some o/\eX H h a u
 |.tbl ps=>h.get? a=some { cls:=.none,data:=.fields ps }
 |.met f x=>h.get? a=some (methodObj (.ref f) (.ref x))
 |.ext φ=>φ h/\(∃ o,h.get? a=some o)/\∀ h1 h2:Heap,φ h1->(∀ o,h1.get? a=some o->h2.get? a=some o)->φ h2
def sY (H:Hp) (h:Heap):Prop:=∀ a o,H a=some o->eX P w H h a o
end
section
variable {H H':Hp} {h':Heap} {o:HO}
theorem eX.lt (x:eX P w H h a o):a < h.objs.size:=by
 cases o with
 |lst xs=>obtain⟨_,_,_,_,e⟩:=x;exact zw e
 |tup xs=>obtain⟨_,_,_,p⟩:=x;exact p.weak.lt
 |dK kvs=>obtain⟨_,_,_,_,o,_,_,e,_⟩:=x;exact zw e
 |dT kvs=>obtain⟨_,_,_,_,o,_,_,e,_⟩:=x;exact zw e
 |set S n=>obtain⟨o,_,_,_,e,_⟩:=x;exact zw e
 |ins C dx fs=>obtain⟨_,_,_,e,_⟩:=x;exact zw e
 |own y=>obtain⟨_,e⟩:=x;exact zw e
 |xd fs=>obtain⟨_,⟨_,_,_,e,_⟩,_⟩:=x;exact zw e
 |rng lo hi=>obtain⟨_,_,_,e⟩:=x;exact zw e
 |qM ob u=>obtain⟨e,_⟩:=x;exact zw e
 |tbl ps=>exact zw (show h.get? a=some _ from x)
 |met f y=>exact zw (show h.get? a=some _ from x)
 |ext φ=>obtain⟨_,⟨_,e⟩,_⟩:=x;exact zw e
theorem Paired.Z8 {α β:Type} {F G:α->β->Prop}:∀ {l₁:List α} {l₂:List β},Paired F l₁ l₂->(∀ a b,F a b->G a b)->Paired G l₁ l₂
 |_,_,.nil,_=>.nil
 |_,_,.cons r t,f=>.cons (f _ _ r) (Paired.Z8 t f)
theorem Paired.imp' {F G:α->β->Prop} (f:∀ a b,F a b->G a b) {l₁:List α} {l₂:List β} (r:Paired F l₁ l₂):Paired G l₁ l₂:=Paired.Z8 r f
theorem eX.stay (x:eX P w H h a o) (k:∀ b u,(b=a\/H b=some (.own a))->h.get? b=some u->h'.get? b=some u)
  (ho:∀ b,H b=some (.own a)->H' b=some (.own a)) (ht:∀ b xs,H b=some (.tup xs)->H' b=some (.tup xs)):eX P w H' h' a o:=by
 induction o with
 |lst xs=>obtain⟨z,its,n,r,e⟩:=x;exact⟨z,its,n,r,k _ _ (.inl rfl) e⟩
 |tup xs=>obtain⟨z,its,r,ob,e,c⟩:=x;exact⟨z,its,r,ob,k _ _ (.inl rfl) e,c⟩
 |dK kvs=>obtain⟨z,y,vs,r,ob,es,ep,e,c⟩:=x;exact⟨z,y,vs,r,ob,es,ep,k _ _ (.inl rfl) e,c⟩
 |dT kvs=>
  obtain⟨z,y,xs,r,ob,es,ep,e,c⟩:=x;exact⟨z,y,xs,Paired.Z8 r λp q z=>⟨z.1,ht _ _ z.2.1,z.2.2⟩,ob,es,ep,k _ _ (.inl rfl) e,c⟩
 |set S n=>obtain⟨ob,es,ep,t,e,c⟩:=x;exact⟨ob,es,ep,t,k _ _ (.inl rfl) e,c⟩
 |ins C dx fs=>
  obtain⟨d,z,ne,e,mA,⟨od,es,ep,e2,c⟩,r⟩:=x;exact⟨ho _ d,z,ne,k _ _ (.inl rfl) e,mA,⟨od,es,ep,k _ _ (.inr d) e2,c⟩,r⟩
 |own y=>obtain⟨ob,e⟩:=x;exact⟨ob,k _ _ (.inl rfl) e⟩
 |xd fs=>obtain⟨mA,⟨od,es,ep,e,c⟩,r⟩:=x;exact⟨mA,⟨od,es,ep,k _ _ (.inl rfl) e,c⟩,r⟩
 |rng lo hi=>obtain⟨t,u,v,e⟩:=x;exact⟨t,u,v,k _ _ (.inl rfl) e⟩
 |qM ob u ih=>obtain⟨e,q⟩:=x;exact⟨k _ _ (.inl rfl) e,ih q⟩
 |tbl ps=>
  have e:h.get? a=some { cls:=.none,data:=.fields ps }:=x;show h'.get? a=some { cls:=.none,data:=.fields ps };exact k a _ (.inl rfl) e
 |met f y=>
  have e:h.get? a=some (methodObj (.ref f) (.ref y)):=x;show h'.get? a=some (methodObj (.ref f) (.ref y));exact k a _ (.inl rfl) e
 |ext φ=>obtain⟨p,⟨o,e⟩,st⟩:=x;exact⟨st _ _ p λo q=>k _ _ (.inl rfl) q,⟨o,k _ _ (.inl rfl) e⟩,st⟩
theorem sY.lt (x:sY P w H h) (e:H a=some o):a < h.objs.size:=(x a o e).lt
theorem sY.fresh (x:sY P w H h) (e:h.objs.size<=a):H a=none:=by
 cases q:H a with
 |none=>rfl
 |some u=>exact absurd (ZH (x.lt q) e) (JA _)
theorem sY.kept (x:sY P w H h) (k:∀ b u,h.get? b=some u->h'.get? b=some u):sY P w H h':=λa o e=>
 (x a o e).stay (λb u _ q=>k b u q) (λ_ q=>q) λ_ _ q=>q
theorem sY.laid (x:sY P w H h) (k:∀ b u,h.get? b=some u->h'.get? b=some u) (hp:h.objs.size<=a) (new:eX P w (upd H a o) h' a o):sY P w (upd H a o) h':=λb u e=>by
 have hn:=x.fresh hp;by_cases hb:b=a
 ·subst hb;rw[bf] at e;cases e;exact new
 ·rw[aK hb] at e;exact(x b u e).stay (λc v _ q=>k c v q) (λc q=>by rw[aK (bD q hn)];exact q) λc xs q=>by rw[aK (bD q hn)];exact q
end
def Rd (H:Hp) (a:Addr) (u:HO):Prop:=H a=some u\/∃ o,H a=some (.qM o u)
theorem Rd.ok {H:Hp} {u:HO} (r:Rd H a u) (x:sY P w H h):eX P w H h a u:=by
 rcases r with r|⟨o,r⟩
 ·exact x a u r
 ·obtain⟨_,q⟩:=x a _ r;exact q
def Mut:Option HO->Prop
 |some (.lst _)=>True
 |some (.dK _)=>True
 |some (.dT _)=>True
 |some (.set _ _)=>True
 |some (.ins _ _ _)=>True
 |some (.ext _)=>True
 |_=>False
section
variable {H:Hp} {h':Heap} {x e:Addr} {o':HO}
theorem sY.write (ok:sY P w H h) (mu:Mut (H x)) (he:e=x\/H e=some (.own x)) (k:∀ b u,b≠e->h.get? b=some u->h'.get? b=some u) (heo:∃ u,h'.get? e=some u)
  (new:eX P w (upd H x o') h' x o'):sY P w (upd H x o') h':=λb u q=>by
 have afU:∀ c y,H c=some (.own y)->c≠x:=λc y r z=>by subst z;rw[r] at mu;exact mu
 have ah4:∀ c xs,H c=some (.tup xs)->c≠x:=λc xs r z=>by subst z;rw[r] at mu;exact mu
 by_cases hb:b=x
 ·subst hb;rw[bf] at q;cases q;exact new
 ·rw[aK hb] at q;by_cases hbe:b=e
  ·have q':H b=some (.own x):=by
    rcases he with z|z
    ·exact absurd (hbe.trans z) hb
    ·rw[hbe];exact z
   rw[q] at q';cases q';obtain⟨v,hv⟩:=heo;exact⟨v,by rw[hbe];exact hv⟩
  ·refine(ok b u q).stay (λc v hc r=>k c v ?_ r) (λc r=>by rw[aK (afU c b r)];exact r) λc xs r=>by rw[aK (ah4 c xs r)];exact r
   rcases hc with rfl|hc
   ·exact hbe
   ·rintro rfl;rcases he with z|z
    ·exact afU c b hc z
    ·rw[hc] at z;cases z;exact hb rfl
end
structure Un (fs ex:List Addr) (H H':Hp) (h h':Heap):Prop where
 keep:∀ b o,h.get? b=some o->H b=none->b∉fs->b∉ex->h'.get? b=some o
 slot:∀ b o,h.get? b=some o->H b=none->b∈fs->b∉ex->∃ sl,h'.get? b=some { o with slots:=sl }
 free:∀ b o,h.get? b=some o->H b=none->b∉ex->H' b=none
 there:∀ b o,h.get? b=some o->b∉ex->∃ o',h'.get? b=some o'
 tups:∀ b xs,H b=some (.tup xs)->H' b=some (.tup xs)
 sJ:∀ b o u,H b=some (.qM o u)->H' b=some (.qM o u)
 vQ:∀ b ps,H b=some (.tbl ps)->∃ more,H' b=some (.tbl (ps++more))
section
variable {fs fs' ex ex':List Addr} {H H1 H2:Hp} {h1 h2 h':Heap} {x e:Addr} {o:HO}
theorem Un.any (u:Un fs ex H H1 h h1) {b:Addr} {ob:Obj} (q:h.get? b=some ob) (n:H b=none) (hx:b∉ex):∃ sl,h1.get? b=some { ob with slots:=sl }:=by
 by_cases hb:b∈fs
 ·exact u.slot b ob q n hb hx
 ·exact⟨ob.slots,u.keep b ob q n hb hx⟩
theorem Un.kept (k:∀ b u,h.get? b=some u->h'.get? b=some u):Un fs ex H H h h':=
 ⟨λb ob q _ _ _=>k b ob q,λb ob q _ _ _=>⟨ob.slots,k b ob q⟩,λ_ _ _ n _=>n,λb ob q _=>⟨ob,k b ob q⟩,λ_ _ q=>q,λ_ _ _ q=>q,λ_ ps q=>⟨#[],by rw[q];simp⟩⟩
theorem Un.refl:Un fs ex H H h h:=Un.kept λ_ _ q=>q
theorem Un.laid (k:∀ b u,h.get? b=some u->h'.get? b=some u) (hp:h.objs.size<=a) (hn:H a=none):Un fs ex H (upd H a o) h h' where
 keep:=λb u q _ _ _=>k b u q
 slot:=λb u q _ _ _=>⟨u.slots,k b u q⟩
 free:=λb u q n _=>by rw[aK (zI (ZH (zw q) hp))];exact n
 there:=λb u q _=>⟨u,k b u q⟩
 tups:=λb xs q=>by rw[aK (bD q hn)];exact q
 sJ:=λb u xs q=>by rw[aK (bD q hn)];exact q
 vQ:=λb ps q=>⟨#[],by rw[aK (bD q hn),q];simp⟩
theorem Un.write (mu:Mut (H x)) (he:e=x\/H e=some (.own x)) (k:∀ b u,b≠e->h.get? b=some u->h'.get? b=some u) (heo:∃ u,h'.get? e=some u):Un fs ex H (upd H x o) h h':=by
 have hx:∀ b,H b=none->b≠x:=λb n z=>by subst z;rw[n] at mu;exact mu
 have hb:∀ b,H b=none->b≠e:=λb n z=>by
  subst z;rcases he with r|r
  ·exact hx b n r
  ·rw[n] at r;cases r
 have hm:∀ b u,H b=some u->¬ Mut (some u)->b≠x:=λb u q nm z=>by subst z;rw[q] at mu;exact nm mu
 refine⟨λb u q n _ _=>k b u (hb b n) q,λb u q n _ _=>⟨u.slots,k b u (hb b n) q⟩,λb u q n _=>by rw[aK (hx b n)];exact n,λb u q _=>?_,
  λb xs q=>by rw[aK (hm b _ q λz=>z)];exact q,λb u xs q=>by rw[aK (hm b _ q λz=>z)];exact q,λb ps q=>⟨#[],by rw[aK (hm b _ q λz=>z),q];simp⟩⟩
 by_cases hbe:b=e
 ·subst hbe;exact heo
 ·exact⟨u,k b u hbe q⟩
end
def trk (h:Heap) (H:Hp):List Addr:=(List.range h.objs.size).filter λa=>(H a).isSome
def IV (h:Heap) (H:Hp):Heap:=PySem.W.hideAll h (trk h H)
theorem Ul (h:Heap) (H:Hp):(IV h H).objs.size=h.objs.size:=PySem.W.hideAll_size _ _
theorem Wq {H:Hp} {b:Addr} {o:Obj} (e:h.get? b=some o) (n:H b=none):(IV h H).get? b=some o:=
 PySem.W.hideAll_get _ e λhm=>by
  have q:(H b).isSome=true:=(List.mem_filter.mp hm).2;rw[n] at q;simp at q
theorem Z9 {H:Hp} {b:Addr} {o:Obj} (e:(IV h H).get? b=some o):h.get? b=some o/\H b=none:=by
 have e':h.get? b=some o:=PySem.W.of_hideAll (trk h H) e;refine⟨e',?_⟩;cases q:H b with
 |none=>rfl
 |some x=>
  have hm:b∈trk h H:=List.mem_filter.mpr ⟨List.mem_range.mpr (zw e'),by simp[q]⟩;have z:(IV h H).get? b=none:=PySem.W.hideAll_none (trk h H) hm;rw[z] at e;cases e
def aac (g h:Heap) (L:Addr):List (Addr×Obj):=(List.range h.objs.size).filterMap λa=>if a=L\/(g.get? a).isSome=true then none else(h.get? a).map λo=>(a,o)
def rest (g h:Heap) (L d:Addr):List (Addr×Obj):=(aac g h L).filter λp=>decide (p.1≠d)
end L2
namespace L2
structure Mod (K:FG_) (mg:Str->Option Value) (base:Heap):Prop where
 kin:K.In base
 glob:base.Ns mainGlobals mg
 blt:∃ mb,base.Ns builtinsNs mb/\∀ x:Str,x ≠ "__name__" → mb x=bootBuiltins x
 nolimit:base.NoLimit
structure Cx where
 prog:Program
 w:World
 K:FG_
 mg:Str->Option Value
 base:Heap
 A:Around
 N:LS_
 s₀:Shared
 H₀:Hp
 env:Env
 outer:List Env
 stack:List Env
 ex:List Addr
 fn:Str->Bool
 calm:Bool
 pn:List (Addr×Obj)
 xe:VP_
def frs (l:List Env):List Addr:=l.filterMap (·.frame)
abbrev Cx.fs (X:Cx):List Addr:=frs X.outer
def Z2 (sc:Scope) (x:Str):Prop:=sc.names.lookup x=some .local\/sc.names.lookup x=some .cell\/sc.names.lookup x=some .free
def Loc (sc:Scope) (x:Str):Prop:=sc.names.lookup x=some .local\/sc.names.lookup x=some .cell
def Look (env:Env) (h:Heap) (m:Str->Option Value) (x:Str) (u:Value):Prop:=
 (env.kindOf x=some .local/\m x=some u)\/((env.kindOf x=some .cell\/env.kindOf x=some .free)/\∃ c,env.cells.lookup x=some c/\h.IsCell c (some u))
structure Cx.Ok (X:Cx):Prop where
 mod:Mod X.K X.mg X.base
 kind:X.env.scope.kind=.function
 glob:X.env.globals=mainGlobals
 blt:X.env.builtins=builtinsNs
 above:X.s₀.heap.objs.size<=X.env.locals
 inj:∀ x y c,X.env.cells.lookup x=some c->X.env.cells.lookup y=some c->x=y
 has:∀ x,(X.env.kindOf x=some .cell\/X.env.kindOf x=some .free)->∃ c,X.env.cells.lookup x=some c
 cab:∀ x c,X.fn x=true->X.env.cells.lookup x=some c->X.s₀.heap.objs.size<=c
 hd:X.calm=true->X.A.handled=none
 frames:X.A.frames=some X.stack
 stk:X.stack=X.outer\/(X.stack=X.env::X.outer/\X.env.frame=some X.env.locals)
 exf:∀ b∈X.ex,b≠X.env.locals/\∀ x c,X.env.cells.lookup x=some c->c≠b
 bs:∀ b o,X.base.get? b=some o->X.s₀.heap.get? b=some o/\X.H₀ b=none
 Wr:X.base.objs.size<=X.s₀.heap.objs.size
 Pz:∀ b o,X.base.get? b=some o->b∉X.ex
 Um:∀ b∈X.ex,b∉X.fs
 vA:X.s₀.heap.FunFrames X.base X.outer
 frf:∀ b∈X.fs,X.H₀ b=none
structure Inv (X:Cx) (pins:List (Addr×Obj)) (σ:List (Option V)) (H:Hp) (s:Shared):Prop where
 ok:X.Ok
 os:s.os=X.s₀.os
 bare:AllBare s.gens
 base:Un X.fs X.ex X.H₀ H X.s₀.heap s.heap
 loc:∃ m,s.heap.Ns X.env.locals m/\∀ (i:Nat) (x:Str) (v:V),X.N[i]?=some x->σ[i]?=some (some v)->Z2 X.env.scope x->∃ u,RelV v u/\Look X.env s.heap m x u
 cell:∀ x c,X.env.cells.lookup x=some c->∃ v,s.heap.IsCell c v
 free:H X.env.locals=none
 iU:∀ x c,X.env.cells.lookup x=some c->H c=none
 pin:∀ p∈X.pn++pins,s.heap.get? p.1=some p.2/\H p.1=none/\p.1≠X.env.locals/\p.1∉X.fs/\∀ v,p.2.data≠.cell v
 hok:sY X.prog X.w H s.heap
 len:σ.length=X.N.length
section
variable {X:Cx} {σ:List (Option V)} {H H':Hp} {h':Heap}
theorem Cx.Ok.ah5 (ok:X.Ok) {b:Addr} {o:Obj} (e:X.base.get? b=some o):b∉X.fs:=λhb=>by
 have:=(ok.vA.mem hb).1;rw[e] at this;cases this
theorem Inv.bs (I:Inv X pins σ H s):∀ b o,X.base.get? b=some o->s.heap.get? b=some o/\H b=none:=λb o e=>
 ⟨I.base.keep b o (I.ok.bs b o e).1 (I.ok.bs b o e).2 (I.ok.ah5 e) (I.ok.Pz b o e),I.base.free b o (I.ok.bs b o e).1 (I.ok.bs b o e).2 (I.ok.Pz b o e)⟩
theorem Inv.bk (I:Inv X pins σ H s):∀ b o,X.base.get? b=some o->s.heap.get? b=some o:=λb o e=>(I.bs b o e).1
theorem Inv.mod (I:Inv X pins σ H s):Mod X.K X.mg X.base:=I.ok.mod
theorem Inv.K5 (I:Inv X pins σ H s):X.K.In s.heap:=I.ok.mod.kin.keeps I.bk
theorem Inv.lt (I:Inv X pins σ H s):X.env.locals < s.heap.objs.size:=let ⟨_,hn,_⟩:=I.loc;hn.lt
theorem Inv.sz (I:Inv X pins σ H s):X.s₀.heap.objs.size<=s.heap.objs.size:=Zp I.ok.above (QU I.lt)
theorem Inv.ah6 (I:Inv X pins σ H s) (h:s.heap.objs.size<=a):a∉X.fs:=λhb=>by
 obtain⟨_,o,ho,_⟩:=I.ok.vA.mem hb;exact absurd (ZH (zw ho) (Zp I.sz h)) (JA _)
theorem Inv.cne (I:Inv X pins σ H s):∀ x c,X.env.cells.lookup x=some c->c≠X.env.locals:=λx c e z=>by
 obtain⟨v,o,ho,hd⟩:=I.cell x c e;obtain⟨m,⟨o',es,ep,ho',hd',_⟩,_⟩:=I.loc;rw[z,ho'] at ho;cases ho;rw[hd'] at hd;cases hd
theorem Inv.vA (I:Inv X pins σ H s):s.heap.FunFrames X.base X.outer:=by
 have all:∀ (l:List Env),(∀ b∈frs l,b∈X.fs)->X.s₀.heap.FunFrames X.base l->s.heap.FunFrames X.base l:=by
  intro l
  induction l with
  |nil=>intro _ _;trivial
  |cons env r ih=>
   intro hs hl;obtain⟨hk,⟨L,o,hf,hn,ho,hd⟩,hr⟩:=hl;have hL:L∈X.fs:=hs L (by unfold frs;rw[kM,hf];exact zo);obtain⟨sl,e⟩:=I.base.slot L o ho (I.ok.frf L hL) hL λz=>I.ok.Um L z hL;exact⟨hk,⟨L,_,hf,hn,e,hd⟩,ih (λb hb=>hs b (by unfold frs;rw[kM,hf];exact zt _ hb)) hr⟩
 exact all X.outer (λ_ hb=>hb) I.ok.vA
theorem Inv.stack (I:Inv X pins σ H s):s.heap.FunFrames X.base X.stack:=by
 rcases I.ok.stk with e|⟨e,hf⟩
 ·rw[e];exact I.vA
 ·rw[e];obtain⟨m,hn,_⟩:=I.loc;refine .cons (by rw[I.ok.kind];decide) hf hn ?_ I.vA;exact Heap.get?_none_of_le (Zp I.ok.Wr I.ok.above)
theorem Inv.Bw (I:Inv X pins σ H s):∀ b∈frs X.stack,b∈X.env.locals::X.fs:=λb hb=>by
 rcases I.ok.stk with e|⟨e,hf⟩
 ·rw[e] at hb;exact zt _ hb
 ·rw[e] at hb;unfold frs at hb;rw[kM,hf] at hb;exact hb
theorem Inv.Ay (I:Inv X pins σ H s):∀ b∈frs X.stack,H b=none:=λb hb=>by
 rcases List.mem_cons.mp (I.Bw b hb) with e|hb
 ·rw[e];exact I.free
 ·obtain⟨_,o,ho,_⟩:=I.ok.vA.mem hb;exact I.base.free b o ho (I.ok.frf b hb) λz=>I.ok.Um b z hb
theorem Inv.step {g':Array GenState} {t':Nat} {d':Drawn} {ch:List Addr} (I:Inv X pins σ H s)
  (hch:∀ b∈ch,(b∈X.ex\/X.s₀.heap.objs.size<=b)/\b≠X.env.locals/\(∀ x c,X.env.cells.lookup x=some c->c≠b)/\∀ p∈X.pn++pins,p.1≠b)
  (keep:∀ b o,b≠X.env.locals->b∉X.fs->b∉ch->s.heap.get? b=some o->H b=none->h'.get? b=some o)
  (slot:∀ b o,b≠X.env.locals->b∈X.fs->b∉ch->s.heap.get? b=some o->H b=none->∃ sl,h'.get? b=some { o with slots:=sl }) (free:∀ b o,b∉ch->s.heap.get? b=some o->H b=none->H' b=none)
  (there:∀ b o,b∉ch->s.heap.get? b=some o->∃ o',h'.get? b=some o')
  (tups:∀ b xs,H b=some (.tup xs)->H' b=some (.tup xs)) (sJ:∀ b o u,H b=some (.qM o u)->H' b=some (.qM o u)) (vQ:∀ b ps,H b=some (.tbl ps)->∃ more,H' b=some (.tbl (ps++more)))
  (ns:∀ m,s.heap.Ns X.env.locals m->h'.Ns X.env.locals m) (hok:sY X.prog X.w H' h') (hg:AllBare g') :
  Inv X pins σ H' { s with heap:=h',gens:=g',drawn:=d',toks:=t' }:=by
 have neL:∀ b o,X.s₀.heap.get? b=some o->b≠X.env.locals:=λb o e=>zI (ZH (zw e) I.ok.above);have neC:∀ b o,X.s₀.heap.get? b=some o->b∉X.ex->b∉ch:=λb o e hx hb=>by
  rcases(hch b hb).1 with z|z
  ·exact hx z
  ·exact absurd (ZH (zw e) z) (JA _)
 have cellK:∀ x c,X.env.cells.lookup x=some c->∀ v,s.heap.IsCell c v->h'.IsCell c v:=λx c e v ⟨o,ho,hd⟩=>by
  have nch:c∉ch:=λz=>(hch c z).2.2.1 x c e rfl;by_cases hc:c∈X.fs
  ·obtain⟨sl,q⟩:=slot c o (I.cne x c e) hc nch ho (I.iU x c e);exact⟨_,q,hd⟩
  ·exact⟨o,keep c o (I.cne x c e) hc nch ho (I.iU x c e),hd⟩
 refine⟨I.ok,I.os,hg,⟨λb o e n hb hx=>?_,λb o e n hb hx=>?_,λb o e n hx=>?_,λb o e hx=>?_,λb xs e=>tups b xs (I.base.tups b xs e),λb o xs e=>sJ b o xs (I.base.sJ b o xs e),λb ps e=>?_⟩,?_,λx c e=>?_,?_,λx c e=>?_,λp hp=>?_,hok,I.len⟩
 ·exact keep b o (neL b o e) hb (neC b o e hx) (I.base.keep b o e n hb hx) (I.base.free b o e n hx)
 ·obtain⟨sl,e1⟩:=I.base.slot b o e n hb hx;obtain⟨sl',e2⟩:=slot b _ (neL b o e) hb (neC b o e hx) e1 (I.base.free b o e n hx);exact⟨sl',e2⟩
 ·obtain⟨o',e1⟩:=I.base.there b o e hx;exact free b o' (neC b o e hx) e1 (I.base.free b o e n hx)
 ·obtain⟨o',e1⟩:=I.base.there b o e hx;exact there b o' (neC b o e hx) e1
 ·obtain⟨m1,e1⟩:=I.base.vQ b ps e;obtain⟨m2,e2⟩:=vQ b _ e1;exact⟨m1++m2,by rw[e2,Array.append_assoc]⟩
 ·obtain⟨m,hn,hl⟩:=I.loc;refine⟨m,ns m hn,λi x v e1 e2 e3=>?_⟩;obtain⟨u,r,l⟩:=hl i x v e1 e2 e3;refine⟨u,r,?_⟩;rcases l with l|⟨k,c,e,z⟩
  ·exact .inl l
  ·exact .inr ⟨k,c,e,cellK x c e _ z⟩
 ·obtain⟨v,z⟩:=I.cell x c e;exact⟨v,cellK x c e v z⟩
 ·obtain⟨m,⟨o,_,_,ho,_⟩,_⟩:=I.loc;exact free _ o (λz=>(hch _ z).2.1 rfl) ho I.free
 ·obtain⟨v,o,ho,hd⟩:=I.cell x c e;exact free c o (λz=>(hch c z).2.2.1 x c e rfl) ho (I.iU x c e)
 ·obtain⟨e,n,ne,nf,d⟩:=I.pin p hp;have nch:p.1∉ch:=λz=>(hch p.1 z).2.2.2 p hp rfl;exact⟨keep p.1 p.2 ne nf nch e n,free p.1 p.2 nch e n,ne,nf,d⟩
theorem Inv.un {t':Nat} (I:Inv X pins σ H s) (u:Un X.fs [] H H' s.heap h') (hok:sY X.prog X.w H' h'):Inv X pins σ H' { s with heap:=h',toks:=t' }:=by
 obtain⟨m,⟨o,es,ep,ho,r⟩,_⟩:=id I.loc;obtain⟨sl,hL⟩:=u.any ho I.free (by simp);exact I.step (g':=s.gens) (d':=s.drawn) (ch:=[]) (λ_ z=>nomatch z) (λb o _ hb _ e n=>u.keep b o e n hb (by simp)) (λb o _ hb _ e n=>u.slot b o e n hb (by simp)) (λb o _ e n=>u.free b o e n (by simp)) (λb o _ e=>u.there b o e (by simp)) u.tups u.sJ u.vQ (λm' hm=>by
  obtain⟨o',es',ep',ho',r'⟩:=hm;rw[ho] at ho';cases ho';exact⟨_,es',ep',hL,r'⟩) hok I.bare
theorem Inv.call {g':Array GenState} {t':Nat} {d':Drawn} {ch:List Addr} (I:Inv X pins σ H s) (u:Un (frs X.stack) ch H H' s.heap h') (hok:sY X.prog X.w H' h') (hg:AllBare g')
  (hch:∀ b∈ch,(b∈X.ex\/X.s₀.heap.objs.size<=b)/\b≠X.env.locals/\(∀ x c,X.env.cells.lookup x=some c->c≠b)/\∀ p∈X.pn++pins,p.1≠b) :
  Inv X pins σ H' { s with heap:=h',gens:=g',drawn:=d',toks:=t' }:=by
 obtain⟨m,⟨o,es,ep,ho,r⟩,_⟩:=id I.loc;obtain⟨sl,hL⟩:=u.any ho I.free λz=>(hch _ z).2.1 rfl;exact I.step (ch:=ch) hch (λb o hL hb hc e n=>u.keep b o e n (λz=>(List.mem_cons.mp (I.Bw b z)).elim hL hb) hc) (λb o _ _ hc e n=>u.any e n hc) (λb o hc e n=>u.free b o e n hc) (λb o hc e=>u.there b o e hc) u.tups u.sJ u.vQ (λm' hm=>by
  obtain⟨o',es',ep',ho',r'⟩:=hm;rw[ho] at ho';cases ho';exact⟨_,es',ep',hL,r'⟩) hok hg
theorem Inv.turned {t':Nat} (I:Inv X pins σ H s) (k:∀ b o,b≠it->s.heap.get? b=some o->h'.get? b=some o) (hn:H it=none) (hL:it≠X.env.locals) (h1:it∈X.ex\/X.s₀.heap.objs.size<=it) (h2:∀ x c,X.env.cells.lookup x=some c->c≠it) (h3:∀ p∈X.pn++pins,p.1≠it):Inv X pins σ H { s with heap:=h',toks:=t' }:=by
 have nit:∀ b u,H b=some u->b≠it:=λb u e z=>by rw[z,hn] at e;cases e
 refine I.step (g':=s.gens) (d':=s.drawn) (ch:=[it]) (λb hb=>?_) (λb o _ _ hc e _=>k b o (λz=>hc (by simp[z])) e) (λb o _ _ hc e _=>⟨o.slots,k b o (λz=>hc (by simp[z])) e⟩) (λ_ _ _ _ n=>n)
  (λb o hc e=>⟨o,k b o (λz=>hc (by simp[z])) e⟩) (λ_ _ e=>e) (λ_ _ _ e=>e) (λb ps e=>⟨#[],by rw[e];simp⟩) (λm hm=>?_) (λb u e=>?_) I.bare
 ·have e:b=it:=by simpa using hb
  subst e;exact⟨h1,hL,h2,h3⟩
 ·obtain⟨o,es,ep,ho,r⟩:=hm;exact⟨o,es,ep,k _ o (km hL) ho,r⟩
 ·refine(I.hok b u e).stay (λc v hc q=>k c v ?_ q) (λ_ q=>q) λ_ _ q=>q;rcases hc with z|z
  ·rw[z];exact nit b u e
  ·exact nit c _ z
theorem Inv.tok (I:Inv X pins σ H s) (t:Nat):Inv X pins σ H { s with toks:=t }:=I.un (h':=s.heap) (t':=t) Un.refl I.hok
theorem Inv.kept {t':Nat} (I:Inv X pins σ H s) (k:∀ b u,s.heap.get? b=some u->h'.get? b=some u):Inv X pins σ H { s with heap:=h',toks:=t' }:=I.un (Un.kept k) (I.hok.kept k)
theorem Inv.laid {a:Addr} {o:HO} {t':Nat} (I:Inv X pins σ H s) (k:∀ b u,s.heap.get? b=some u->h'.get? b=some u) (hp:s.heap.objs.size<=a) (new:eX X.prog X.w (upd H a o) h' a o) :
  Inv X pins σ (upd H a o) { s with heap:=h',toks:=t' }:=I.un (Un.laid k hp (I.hok.fresh hp)) (I.hok.laid k hp new)
theorem Inv.write {x e:Addr} {o:HO} {t':Nat} (I:Inv X pins σ H s) (mu:Mut (H x)) (he:e=x\/H e=some (.own x)) (k:∀ b u,b≠e->s.heap.get? b=some u->h'.get? b=some u) (heo:∃ u,h'.get? e=some u)
  (new:eX X.prog X.w (upd H x o) h' x o):Inv X pins σ (upd H x o) { s with heap:=h',toks:=t' }:=I.un (Un.write mu he k heo) (I.hok.write mu he k heo new)
theorem Inv.Az {Ws:List (Addr×Obj)} (I:Inv X pins σ H s) (h:∀ p∈Ws,s.heap.get? p.1=some p.2/\H p.1=none/\p.1≠X.env.locals/\p.1∉X.fs/\∀ v,p.2.data≠.cell v):Inv X Ws σ H s:=
 ⟨I.ok,I.os,I.bare,I.base,I.loc,I.cell,I.free,I.iU,λp hp=>(List.mem_append.mp hp).elim (λz=>I.pin p (kF _ z)) (h p),I.hok,I.len⟩
theorem BJ (hN:N.Nodup) (a:N[i]?=some x) (b:N[j]?=some x):i=j:=by
 obtain⟨h1,e1⟩:=List.getElem?_eq_some_iff.mp a;obtain⟨h2,e2⟩:=List.getElem?_eq_some_iff.mp b;exact(List.getElem_inj hN).mp (e1.trans e2.symm)
theorem Uo {v:V} {Q:Unit->Shared->Prop} (I:Inv X pins σ H s) (hN:X.N.Nodup) (hi:X.N[i]?=some x) (hx:Loc X.env.scope x) (r:RelV v u) (h:∀ s',Inv X pins (σ.set i (some v)) H s'->(∃ a,Heap.SameBut a s.heap s'.heap/\(a=X.env.locals\/X.env.cells.lookup x=some a))->Q () s') (hf:X.fn x=true\/X.env.scope.names.lookup x=some .local:=by first|exact .inl rfl|exact .inr rfl|assumption):wpAny M A (storeName X.env x u) Q E s:=by
 obtain⟨m,hn,hl⟩:=id I.loc;have hcls:(X.env.scope.kind==.class||(X.env.scope.kind==.module&&X.env.locals != X.env.globals))=false:=by rw[I.ok.kind];rfl
 have hiσ:i < σ.length:=by rw[I.len];exact(List.getElem?_eq_some_iff.mp hi).1
 have cne:=I.cne;have tracked:∀ {a:Addr} {h':Heap},(∃ o,s.heap.get? a=some o/\H a=none)->Heap.SameBut a s.heap h'->sY X.prog X.w H h':=λ{a h'} ha hs b ob e=>by
  obtain⟨_,_,hfree⟩:=ha;refine(I.hok b ob e).stay (λc w' hc q=>(hs.2 c ?_).trans q) (λ_ q=>q) λ_ _ q=>q;rintro rfl;rcases hc with rfl|hc
  ·rw[hfree] at e;cases e
  ·rw[hfree] at hc;cases hc
 rcases hx with hk|hk
 ·refine wpAny_storeName_local hk hn (λh' hn' hs=>?_) hcls;obtain⟨oL,_,_,hoL,_⟩:=id hn;refine h _ ⟨I.ok,I.os,I.bare,⟨λb o e n hb hx=>?_,λb o e n hb hx=>?_,I.base.free,λb o e hx=>?_,I.base.tups,I.base.sJ,I.base.vQ⟩,⟨_,hn',λj y v' e1 e2 e3=>?_⟩,λy c e=>?_,I.free,I.iU,λp hp=>?_,tracked ⟨oL,hoL,I.free⟩ hs,by simpa using I.len⟩ ⟨_,hs,.inl rfl⟩
  ·exact(hs.2 b (zI (ZH (zw e) I.ok.above))).trans (I.base.keep b o e n hb hx)
  ·obtain⟨sl,e1⟩:=I.base.slot b o e n hb hx;exact⟨sl,(hs.2 b (zI (ZH (zw e) I.ok.above))).trans e1⟩
  ·obtain⟨o',e1⟩:=I.base.there b o e hx;exact⟨o',(hs.2 b (zI (ZH (zw e) I.ok.above))).trans e1⟩
  ·by_cases hj:j=i
   ·subst hj;rw[hi] at e1;cases e1;rw[List.getElem?_set_self hiσ] at e2;cases e2;exact⟨u,r,.inl ⟨hk,by simp⟩⟩
   ·rw[List.getElem?_set_ne (km hj)] at e2;obtain⟨u',r',q⟩:=hl j y v' e1 e2 e3;refine⟨u',r',?_⟩;rcases q with⟨k,e⟩|⟨k,c,e,z⟩
    ·refine .inl ⟨k,?_⟩;have:y≠x:=λe=>hj (BJ hN e1 (e▸hi));simp[this,e]
    ·exact .inr ⟨k,c,e,z.sameBut hs (cne y c e)⟩
  ·obtain⟨w',z⟩:=I.cell y c e;exact⟨w',z.sameBut hs (cne y c e)⟩
  ·obtain⟨e,n,ne,nf,d⟩:=I.pin p hp;exact⟨(hs.2 p.1 ne).trans e,n,ne,nf,d⟩
 ·have hfn:X.fn x=true:=by
   rcases hf with z|z
   ·exact z
   ·rw[z] at hk;cases hk
  obtain⟨c,hc⟩:=I.ok.has x (.inl hk);obtain⟨w',z⟩:=I.cell x c hc;refine wpAny_storeName_cell I.ok.kind hk hc z (λh' hc' hs=>?_);obtain⟨oc,hoc,ah7⟩:=id z;refine h { s with heap:=h' } ⟨I.ok,I.os,I.bare,⟨λb o e n hb hx=>?_,λb o e n hb hx=>?_,I.base.free,λb o e hx=>?_,I.base.tups,I.base.sJ,I.base.vQ⟩,⟨m,hn.sameBut hs (km (cne x c hc)),λj y v' e1 e2 e3=>?_⟩,λy c' e=>?_,I.free,I.iU,λp hp=>?_,tracked ⟨oc,hoc,I.iU x c hc⟩ hs,by simpa using I.len⟩ ⟨c,hs,.inr hc⟩
  ·exact(hs.2 b (zI (ZH (zw e) (I.ok.cab x c hfn hc)))).trans (I.base.keep b o e n hb hx)
  ·obtain⟨sl,e1⟩:=I.base.slot b o e n hb hx;exact⟨sl,(hs.2 b (zI (ZH (zw e) (I.ok.cab x c hfn hc)))).trans e1⟩
  ·obtain⟨o',e1⟩:=I.base.there b o e hx;exact⟨o',(hs.2 b (zI (ZH (zw e) (I.ok.cab x c hfn hc)))).trans e1⟩
  ·by_cases hj:j=i
   ·subst hj;rw[hi] at e1;cases e1;rw[List.getElem?_set_self hiσ] at e2;cases e2;exact⟨u,r,.inr ⟨.inl hk,c,hc,hc'⟩⟩
   ·rw[List.getElem?_set_ne (km hj)] at e2;obtain⟨u',r',q⟩:=hl j y v' e1 e2 e3;refine⟨u',r',?_⟩;rcases q with q|⟨k,c',e,z'⟩
    ·exact .inl q
    ·refine .inr ⟨k,c',e,z'.sameBut hs ?_⟩;rintro rfl;exact hj (BJ hN e1 (I.ok.inj _ _ _ e hc▸hi))
  ·by_cases hcc:c'=c
   ·subst hcc;exact⟨_,hc'⟩
   ·obtain⟨w2,z2⟩:=I.cell y c' e;exact⟨w2,z2.sameBut hs hcc⟩
  ·obtain⟨e,n,ne,nf,d⟩:=I.pin p hp;refine⟨(hs.2 p.1 ?_).trans e,n,ne,nf,d⟩;intro q;rw[q,hoc] at e;have q':oc=p.2:=JU e;exact d w' (by rw[<-q'];exact ah7)
theorem qd {v:V} {Q:Unit->Shared->Prop} (I:Inv X pins σ H s) (hN:X.N.Nodup) (hi:X.N[i]?=some x) (hx:Loc X.env.scope x) (r:RelV v u) (h:∀ s',Inv X pins (σ.set i (some v)) H s'->Q () s') (hf:X.fn x=true\/X.env.scope.names.lookup x=some .local:=by first|exact .inl rfl|exact .inr rfl|assumption):wpAny M A (storeName X.env x u) Q E s:=
 Uo I hN hi hx r (λs' I' _=>h s' I') hf
theorem Inv.call' {s':Shared} {ch:List Addr} (I:Inv X pins σ H s) (ho:s'.os=s.os) (u:Un (frs X.stack) ch H H' s.heap s'.heap) (hok:sY X.prog X.w H' s'.heap) (hg:AllBare s'.gens)
  (hch:∀ b∈ch,(b∈X.ex\/X.s₀.heap.objs.size<=b)/\b≠X.env.locals/\(∀ x c,X.env.cells.lookup x=some c->c≠b)/\∀ p∈X.pn++pins,p.1≠b):Inv X pins σ H' s':=by
 obtain⟨h',g',d',t',o'⟩:=s';have e:o'=s.os:=ho;subst e;exact I.call (g':=g') (t':=t') (d':=d') u hok hg hch
end
abbrev XK:=Value->Option Addr->Hp->Prop
abbrev St:=List (Option V)
abbrev VK:=V->Hp->Prop
abbrev TE:=St->Hp->VK->Prop
abbrev TT:=St->Hp->(Bool->Hp->Prop)->Prop
abbrev TA:=St->Hp->(List V->Hp->Prop)->Prop
structure Ends where
 nx:St->Hp->Prop
 rt:VK
 bk:St->Hp->Prop:=λ_ _=>False
 ct:St->Hp->Prop:=λ_ _=>False
abbrev TS:=Ends->St->Hp->Prop
def EP (X:Cx) (pins:List (Addr×Obj)) (σ:St) (Q:VK) (u:Value) (s':Shared):Prop:=∃ v H',Inv X pins σ H' s'/\RelV v u/\Q v H'
def TP (X:Cx) (pins:List (Addr×Obj)) (σ:St) (Q:Bool->Hp->Prop) (b:Bool) (s':Shared):Prop:=∃ H',Inv X pins σ H' s'/\Q b H'
def AP (X:Cx) (pins:List (Addr×Obj)) (σ:St) (Q:List V->Hp->Prop) (us:List Value) (s':Shared):Prop:=∃ vs H',Inv X pins σ H' s'/\Vals vs us/\Q vs H'
def SP (X:Cx) (pins:List (Addr×Obj)) (D:Ends) (f:Flow) (s':Shared):Prop:=
 match f with
 |.next=>∃ σ' H',Inv X pins σ' H' s'/\D.nx σ' H'
 |.brk=>∃ σ' H',Inv X pins σ' H' s'/\D.bk σ' H'
 |.cont=>∃ σ' H',Inv X pins σ' H' s'/\D.ct σ' H'
 |.ret u=>∃ v σ' H',Inv X pins σ' H' s'/\RelV v u/\D.rt v H'
def PE (X:Cx) (e:Expr) (t:TE):Prop:=
 ∀ (pins:List (Addr×Obj)) (s:Shared) (σ:St) (H:Hp) (Q:VK),Inv X pins σ H s->t σ H Q->wpAny (model X.prog X.w) X.A (eval e X.env) (EP X pins σ Q) X.xe s
def PT (X:Cx) (e:Expr) (t:TT):Prop:=
 ∀ (pins:List (Addr×Obj)) (s:Shared) (σ:St) (H:Hp) (Q:Bool->Hp->Prop),Inv X pins σ H s->t σ H Q->wpAny (model X.prog X.w) X.A (isTrue e X.env (eval e X.env)) (TP X pins σ Q) X.xe s
def PW (X:Cx) (e:Expr) (t:TT):Prop:=
 ∀ (whole:Sem Value) (pins:List (Addr×Obj)) (s:Shared) (σ:St) (H:Hp) (Q:Bool->Hp->Prop),Inv X pins σ H s->t σ H Q->wpAny (model X.prog X.w) X.A (isTrue e X.env whole) (TP X pins σ Q) X.xe s
theorem PW.pt {X:Cx} {t:TT} (h:PW X e t):PT X e t:=h _
def PA (X:Cx) (es:List Expr) (t:TA):Prop:=
 ∀ (pos:Pos) (pins:List (Addr×Obj)) (s:Shared) (σ:St) (H:Hp) (Q:List V->Hp->Prop),Inv X pins σ H s->t σ H Q->wpAny (model X.prog X.w) X.A (spliced (backTo pos (starEach es X.env))) (AP X pins σ Q) X.xe s
def PS (X:Cx) (st:Stmt) (t:TS):Prop:=
 ∀ (pins:List (Addr×Obj)) (s:Shared) (σ:St) (H:Hp) (D:Ends),Inv X pins σ H s->t D σ H->wpAny (model X.prog X.w) X.A (exec st X.env) (SP X pins D) X.xe s
def Ba (X:Cx) (st:List Stmt) (t:TS):Prop:=
 ∀ (pins:List (Addr×Obj)) (s:Shared) (σ:St) (H:Hp) (D:Ends),Inv X pins σ H s->t D σ H->wpAny (model X.prog X.w) X.A (execs st X.env) (SP X pins D) X.xe s
theorem iI {t:Sem α} {Q Q':α->Shared->Prop} (h:wpAny M A t Q E s) (hQ:∀ a s,Q a s->Q' a s):wpAny M A t Q' E s:=ZU h hQ λ_ _ x=>x
end L2
namespace L2
section
variable {X:Cx}
def afW (i:Nat):TE:=λσ H Q=>∃ v,σ[i]?=some (some v)/\Q v H
def tC (v:V):TE:=λ_ H Q=>Q v H
theorem vR (hN:X.N[i]?=some x) (hv:Z2 X.env.scope x) (hd:(x==("__debug__" : Str))=false:=by decide) (hcd:(x==("__classdict__" : Str))=false:=by decide):PE X (.Name x pos) (afW i):=by
 intro pins s σ H Q I h;obtain⟨v,e,h⟩:=h;obtain⟨m,hn,hl⟩:=I.loc;obtain⟨u,r,l⟩:=hl i x v hN e hv;have fin:EP X pins σ Q u s:=⟨v,H,I,r,h⟩;rcases l with⟨hk,hm⟩|⟨hk,c,hc,hcell⟩
 ·exact wpAny_Name (wpAny_loadName_local I.ok.kind hk hn hm fin) hd
 ·rcases hk with hk|hk
  ·exact wpAny_Name (wpAny_loadName_cell I.ok.kind hk hc hcell fin) hd
  ·exact wpAny_Name (wpAny_loadName_free I.ok.kind hk hc hcell fin hcd) hd
theorem PJ {i j pos}:PE X (.Constant (.int i) j pos) (tC (.int i)):=λ_ _ _ H _ I h=>wpAny_Constant_int ⟨.int i,H,I.tok _,⟨_,rfl⟩,h⟩
theorem acD {b j pos}:PE X (.Constant (.bool b) j pos) (tC (.bl b)):=λ_ _ _ H _ I h=>Constant_bool ⟨.bl b,H,I,rfl,h⟩
theorem adw {j pos}:PE X (.Constant .none j pos) (tC .non):=λ_ _ _ H _ I h=>Constant_none ⟨.non,H,I,rfl,h⟩
theorem adx {x j pos}:PE X (.Constant (.str x) j pos) (tC (.str x)):=λ_ _ _ H _ I h=>Calls.Constant_str ⟨.str x,H,I.tok _,⟨_,rfl⟩,h⟩
def Gl (X:Cx) (x:Str):Prop:=X.env.kindOf x=some .globalImplicit
theorem wJ {σ:St} {H:Hp} {Q:VP_} (I:Inv X pins σ H s) (hg:Gl X x) (hm:X.mg x=some u) (h:Q u s) (hd:(x==("__debug__" : Str))=false:=by decide):wpAny (model X.prog X.w) X.A (eval (.Name x pos) X.env) Q E s:=
 Calls.Name_function_global I.ok.kind hg (Calls.loadGlobal_global (by rw[I.ok.glob];exact I.mod.glob.keeps I.bk) hm h) hd
theorem BK {σ:St} {H:Hp} {Q:VP_} (I:Inv X pins σ H s) (hg:Gl X x) (hm:X.mg x=none) (hv:bootBuiltins x=some u) (h:Q u s) (hn:x ≠ "__name__" := by decide) (hd:(x==("__debug__" : Str))=false:=by decide):wpAny (model X.prog X.w) X.A (eval (.Name x pos) X.env) Q E s:=by
 obtain⟨mb,h1,h2⟩:=I.mod.blt;exact Calls.Name_function_global I.ok.kind hg (Calls.loadGlobal_builtin (by rw[I.ok.glob];exact I.mod.glob.keeps I.bk) hm (by rw[I.ok.blt];exact h1.keeps I.bk) ((h2 x hn).trans hv) h) hd
theorem jA {v:V} (hg:Gl X x) (hm:X.mg x=some u) (r:RelV v u) (hd:(x==("__debug__" : Str))=false:=by decide):PE X (.Name x pos) (tC v):=
 λ_ _ _ H _ I h=>wJ I hg hm ⟨v,H,I,r,h⟩ hd
theorem wK {v:V} (hg:Gl X x) (hm:X.mg x=none) (hv:bootBuiltins x=some u) (r:RelV v u) (hn:x ≠ "__name__" := by decide) (hd:(x==("__debug__" : Str))=false:=by decide):PE X (.Name x pos) (tC v):=
 λ_ _ _ H _ I h=>BK I hg hm hv ⟨v,H,I,r,h⟩ hn hd
variable {a b:Expr} {ta tb:TE}
variable {tA tB':TT} {rest:List Expr}
def afX (t u:TT):TT:=λσ H Q=>t σ H λc H1=>if c=true then u σ H1 Q else Q false H1
def tOr (t u:TT):TT:=λσ H Q=>t σ H λc H1=>if c=true then Q true H1 else u σ H1 Q
def ah8 (t:TT):TT:=λσ H Q=>t σ H λc H1=>Q (!c) H1
theorem aaf (ha:PT X a tA):PW X (.BoolOp .And [a] pos) tA:=by
 intro wh pins s σ H Q I h;refine isTrue_and (iI (ha pins s σ H Q I h) λc s1 e=>?_);cases c with
 |true=>exact isTrue_and_nil e
 |false=>exact e
theorem ady (ha:PT X a tA):PW X (.BoolOp .Or [a] pos) tA:=by
 intro wh pins s σ H Q I h;refine isTrue_or (iI (ha pins s σ H Q I h) λc s1 e=>?_);cases c with
 |false=>exact isTrue_or_nil e
 |true=>exact e
theorem adz (ha:PT X a tA) (hb:PW X (.BoolOp .And (b::rest) pos) tB'):PW X (.BoolOp .And (a::b::rest) pos) (afX tA tB'):=by
 intro wh pins s σ H Q I h;refine isTrue_and (iI (ha pins s σ H _ I h) λc s1 ⟨H1,I1,q1⟩=>?_);cases c with
 |true=>exact hb wh pins s1 σ H1 Q I1 q1
 |false=>exact⟨H1,I1,q1⟩
theorem afY (ha:PT X a tA) (hb:PW X (.BoolOp .Or (b::rest) pos) tB'):PW X (.BoolOp .Or (a::b::rest) pos) (tOr tA tB'):=by
 intro wh pins s σ H Q I h;refine isTrue_or (iI (ha pins s σ H _ I h) λc s1 ⟨H1,I1,q1⟩=>?_);cases c with
 |true=>exact⟨H1,I1,q1⟩
 |false=>exact hb wh pins s1 σ H1 Q I1 q1
theorem adA (ha:PT X a tA):PT X (.UnaryOp .Not a pos) (ah8 tA):=by
 intro pins s σ H Q I h;exact isTrue_not (ha pins s σ H (λc H1=>Q (!c) H1) I h)
def afZ (ta tb:TE):TE:=λσ H Q=>ta σ H λx H1=>∃ c,x=.bl c/\if c=true then tb σ H1 Q else Q (.bl false) H1
def af0 (ta:TE):TE:=λσ H Q=>ta σ H λx H1=>∃ c,x=.bl c/\Q (.bl (!c)) H1
theorem Wt {op} {t:TE} (h:PE X a t):PE X (.BoolOp op [a] pos) t:=λpins s σ H Q I hw=>BoolOp_one (h pins s σ H Q I hw)
theorem PK (ha:PE X a ta) (hb:PE X (.BoolOp .And (b::rest) pos) tb):PE X (.BoolOp .And (a::b::rest) pos) (afZ ta tb):=by
 intro pins s σ H Q I h;refine BoolOp_and (iI (ha pins s σ H _ I h) λv s1 ⟨x,H1,I1,r1,q1⟩=>?_);obtain⟨c,rfl,q1⟩:=q1;cases r1;refine Q1 ?_;cases c with
 |true=>exact hb pins s1 σ H1 Q I1 q1
 |false=>exact⟨.bl false,H1,I1,rfl,q1⟩
theorem adB (ha:PE X a ta):PE X (.UnaryOp .Not a pos) (af0 ta):=by
 intro pins s σ H Q I h;refine UnaryOp_ (iI (ha pins s σ H _ I h) λv s1 ⟨x,H1,I1,r1,q1⟩=>?_);obtain⟨c,rfl,q1⟩:=q1;cases r1;exact not_of (Q1 ⟨.bl (!c),H1,I1,rfl,q1⟩)
end
end L2
namespace L2
def sW (K:FG_) (H:Hp) (a:Addr) (xs:List V):Prop:=
 Rd H a (.lst xs) ∨
  ∃ (o:Obj) (its:Array Value) (n:Nat),K.lookup a=some o/\o.cls=.type "list" ∧ o.dict=none/\o.data=.seq its n/\its.size<=sizeLine/\Vals xs its.toList
def wL (K:FG_) (H:Hp) (a:Addr) (xs:List V):Prop:=
 Rd H a (.tup xs) ∨
  ∃ (o:Obj) (its:Array Value) (n:Nat),K.lookup a=some o/\(o.cls=.type "tuple" ∧ o.dict=none)/\o.data=.seq its n/\its.size<=sizeLine/\Vals xs its.toList
def adC:Value->Option V
 |.none=>some .non
 |.bool b=>some (.bl b)
 |.int i _=>some (.int i)
 |.str x _=>some (.str x)
 |.bytes b _=>some (.byt b)
 |.float b _=>some (.flt b)
 |.ref a=>some (.ref a)
 |.type n=>some (.ty n)
 |_=>none
theorem RelV.abs {x:V} (r:RelV x u):adC u=some x:=by
 cases x with
 |non=>cases r;rfl
 |bl _=>cases r;rfl
 |int _=>obtain⟨t,rfl⟩:=r;rfl
 |str _=>obtain⟨t,rfl⟩:=r;rfl
 |byt _=>obtain⟨t,rfl⟩:=r;rfl
 |flt _=>obtain⟨t,rfl⟩:=r;rfl
 |ref _=>cases r;rfl
 |ty _=>cases r;rfl
theorem RelV.inj {x y:V} {u:Value} (r:RelV x u) (q:RelV y u):x=y:=JU (r.abs.symm.trans q.abs)
theorem Vals.inj:∀ {xs ys:List V} {us:List Value},Vals xs us->Vals ys us->xs=ys
 |_,_,_,.nil,.nil=>rfl
 |_,_,_,.cons r t,.cons r' t'=>by rw[r.inj r',Vals.inj t t']
section
variable {X:Cx} {σ:St} {H:Hp} {xs ys:List V}
theorem Inv.list (I:Inv X pins σ H s) (h:sW X.K H a xs):∃ its:List Value,Vals xs its/\PlainL s.heap a its.toArray/\xs.length<=sizeLine:=by
 rcases h with h|⟨o,its,n,hk,hc,hd,hs,hz,r⟩
 ·obtain⟨z,its,n,r,e⟩:=h.ok I.hok;exact⟨its,r,⟨_,n,e,rfl,rfl,rfl⟩,z⟩
 ·refine⟨its.toList,r,⟨o,n,I.K5 a o hk,hc,hd,by simpa using hs⟩,?_⟩;have e:=r.length;simp only[qh] at e;omega
theorem Inv.tuple (I:Inv X pins σ H s) (h:wL X.K H a xs):∃ its:List Value,Vals xs its/\IsTup s.heap a its.toArray/\xs.length<=sizeLine:=by
 rcases h with h|⟨o,its,n,hk,hc,hs,hz,r⟩
 ·obtain⟨z,its,r,p⟩:=h.ok I.hok;exact⟨its,r,p.weak,z⟩
 ·refine⟨its.toList,r,⟨o,I.K5 a o hk,hc.1,n,by simpa using hs⟩,?_⟩;have e:=r.length;simp only[qh] at e;omega
theorem Inv.K6 (I:Inv X pins σ H s) (h:sW X.K H a xs) (h':sW X.K H a ys):xs=ys:=by
 obtain⟨its,r,⟨o,n,e,_,_,d⟩,_⟩:=I.list h;obtain⟨its',r',⟨o',n',e',_,_,d'⟩,_⟩:=I.list h';rw[e] at e';cases e';rw[d] at d';injection d' with d1 _;have:its=its':=by simpa using congrArg Array.toList d1
 subst this;exact r.inj r'
theorem Inv.G3 (I:Inv X pins σ H s) (h:wL X.K H a xs) (h':wL X.K H a ys):xs=ys:=by
 obtain⟨its,r,⟨o,e,_,n,d⟩,_⟩:=I.tuple h;obtain⟨its',r',⟨o',e',_,n',d'⟩,_⟩:=I.tuple h';rw[e] at e';cases e';rw[d] at d';injection d' with d1 _;have:its=its':=by simpa using congrArg Array.toList d1
 subst this;exact r.inj r'
end
abbrev Cx.wish (X:Cx) (E:VP_):Cx:={ X with xe:=E }
abbrev Cx.Wu (X:Cx):Cx:=X.wish λ_ _=>False
theorem Cx.Ok.wish {X:Cx} (ok:X.Ok) (E:VP_):(X.wish E).Ok:=
 ⟨ok.mod,ok.kind,ok.glob,ok.blt,ok.above,ok.inj,ok.has,ok.cab,ok.hd,ok.frames,ok.stk,ok.exf,ok.bs,ok.Wr,ok.Pz,ok.Um,ok.vA,ok.frf⟩
theorem Cx.Ok.jU {X:Cx} (ok:(X.wish E).Ok):X.Ok:=
 ⟨ok.mod,ok.kind,ok.glob,ok.blt,ok.above,ok.inj,ok.has,ok.cab,ok.hd,ok.frames,ok.stk,ok.exf,ok.bs,ok.Wr,ok.Pz,ok.Um,ok.vA,ok.frf⟩
section
variable {X:Cx} {σ:St} {H:Hp}
theorem Inv.wish (I:Inv X pins σ H s) (E:VP_):Inv (X.wish E) pins σ H s:=⟨I.ok.wish E,I.os,I.bare,I.base,I.loc,I.cell,I.free,I.iU,I.pin,I.hok,I.len⟩
theorem Inv.jU (I:Inv (X.wish E) pins σ H s):Inv X pins σ H s:=⟨I.ok.jU,I.os,I.bare,I.base,I.loc,I.cell,I.free,I.iU,I.pin,I.hok,I.len⟩
theorem SP.jU {D:Ends} {f:Flow} {s':Shared} (h:SP (X.wish E) pins D f s'):SP X pins D f s':=by
 cases f with
 |next=>obtain⟨σ',H',I,q⟩:=h;exact⟨σ',H',I.jU,q⟩
 |brk=>obtain⟨σ',H',I,q⟩:=h;exact⟨σ',H',I.jU,q⟩
 |cont=>obtain⟨σ',H',I,q⟩:=h;exact⟨σ',H',I.jU,q⟩
 |ret u=>obtain⟨v,σ',H',I,r,q⟩:=h;exact⟨v,σ',H',I.jU,r,q⟩
theorem Ba.Wu {st:List Stmt} {t:TS} (h:Ba X.Wu st t):Ba X st t:=λpins s σ H D I hw=>
 ZU (h pins s σ H D (I.wish _) hw) (λ_ _ q=>q.jU) λ_ _ z=>False.elim z
end
section
variable {X:Cx} {rest:List Stmt} {t u:TS} {te:TE}
def af2:TS:=λD σ H=>D.nx σ H
def ah9 (t u:TS):TS:=λD σ H=>t { D with nx:=u D } σ H
theorem aag:Ba X [] af2:=λ_ _ σ H _ I h=>KM ⟨σ,H,I,h⟩
theorem sZ (h1:PS X st t) (h2:Ba X rest u):Ba X (st::rest) (ah9 t u):=by
 intro pins s σ H D I h;refine yz (iI (h1 pins s σ H { D with nx:=u D } I h) λf s1 q=>?_);cases f with
 |next=>
  obtain⟨σ',H',I',q⟩:=q;exact h2 pins s1 σ' H' D I' q
 |ret v=>exact q
 |brk=>exact q
 |cont=>exact q
theorem IW (h1:PS X st t):Ba X [st] t:=by
 intro pins s σ H D I h;refine yz (iI (h1 pins s σ H D I h) λf s1 q=>?_);cases f with
 |next=>exact KM q
 |ret v=>exact q
 |brk=>exact q
 |cont=>exact q
theorem Inv.quiet {σ:St} {H:Hp} (I:Inv X pins σ H s):interactive X.env=false:=by simp[interactive,I.ok.kind]
def af3 (te:TE):TS:=λD σ H=>te σ H λ_ H1=>D.nx σ H1
theorem Ja (he:PE X e te) (hs:swapsWith e none pos.line X.env=pure false:=by rfl):PS X (.Expr e pos) (af3 te):=by
 intro pins s σ H D I h;exact wpAny_Expr_any (iI (he pins s σ H _ I h) λv s1 ⟨x,H1,I1,r1,q1⟩=>⟨σ,H1,I1,q1⟩) I.quiet hs
def aia (te:TE):TS:=λD σ H=>te σ H D.rt
theorem Jb (he:PE X e te):PS X (.Return (some e) pos) (aia te):=by
 intro pins s σ H D I h;exact wpAny_Return_some (iI (he pins s σ H _ I h) λv s1 ⟨x,H1,I1,r1,q1⟩=>⟨x,σ,H1,I1,r1,q1⟩)
def aib (c:TT) (t u:TS):TS:=λD σ H=>c σ H λb H1=>if b=true then t D σ H1 else u D σ H1
theorem acE {a b:List Stmt} {tc:TT} (hc:PT X c tc) (ha:Ba X a t) (hb:Ba X b u):PS X (.If c a b pos) (aib tc t u):=by
 intro pins s σ H D I h;refine wpAny_If (iI (hc pins s σ H _ I h) λd s1 ⟨H1,I1,q1⟩=>?_);cases d with
 |true=>exact ha pins s1 σ H1 D I1 q1
 |false=>exact hb pins s1 σ H1 D I1 q1
end
abbrev TG:=V->St->Hp->(St->Hp->Prop)->Prop
abbrev TGs:=List V->St->Hp->(St->Hp->Prop)->Prop
def PG (X:Cx) (target:Expr) (t:TG):Prop:=
 ∀ (pins:List (Addr×Obj)) (s:Shared) (σ:St) (H:Hp) (v:V) (u:Value) (Q:St->Hp->Prop),Inv X pins σ H s->RelV v u->t v σ H Q →
  wpAny (model X.prog X.w) X.A (assign target X.env u) (λ_ s'=>∃ σ' H',Inv X pins σ' H' s'/\Q σ' H') X.xe s
def Wv (X:Cx) (ts:List Expr) (t:TGs):Prop:=
 ∀ (pins:List (Addr×Obj)) (s:Shared) (σ:St) (H:Hp) (vs:List V) (us:List Value) (Q:St->Hp->Prop),Inv X pins σ H s->Vals vs us->t vs σ H Q →
  wpAny (model X.prog X.w) X.A (assignInOrder ((assignEach ts X.env).map (·.2)) us) (λ_ s'=>∃ σ' H',Inv X pins σ' H' s'/\Q σ' H') X.xe s
section
variable {X:Cx}
def acG (i:Nat):TG:=λv σ H Q=>Q (σ.set i (some v)) H
theorem RN (hN:X.N.Nodup) (hi:X.N[i]?=some x) (hx:Loc X.env.scope x) (hf:X.fn x=true\/X.env.scope.names.lookup x=some .local:=by first|exact .inl rfl|exact .inr rfl|assumption):PG X (.Name x pos) (acG i):=by
 intro pins s σ H v u Q I r h;exact wpAny_assign_Name (qd I hN hi hx r (λs' I'=>⟨_,H,I',h⟩) hf)
def aic:TGs:=λvs σ H Q=>vs=[]/\Q σ H
def af4 (t:TG) (u:TGs):TGs:=λvs σ H Q=>∃ v r,vs=v::r/\t v σ H λσ' H'=>u r σ' H' Q
theorem aah:Wv X [] aic:=by
 intro pins s σ H vs us Q I r h;obtain⟨e,h⟩:=h;subst e;cases r;exact assignInOrder_nil ⟨σ,H,I,h⟩
theorem Ww {t:TG} {u:TGs} (h1:PG X e t) (h2:Wv X es u) (hs:(assignEach (e::es) X.env).map (·.2)=assign e X.env::(assignEach es X.env).map (·.2):=by rfl):Wv X (e::es) (af4 t u):=by
 intro pins s σ H vs us Q I r h;obtain⟨v,vr,e1,h⟩:=h;subst e1;cases r with
 |cons r rr=>
  rw[hs];refine assignInOrder_cons (iI (h1 pins s σ H _ _ _ I r h) λ_ s1 ⟨σ1,H1,I1,q1⟩=>?_);exact h2 pins s1 σ1 H1 _ _ Q I1 rr q1
def aie (K:FG_) (n:Nat) (t:TGs):TG:=λv σ H Q=>∃ a xs,v=.ref a/\wL K H a xs/\xs.length=n/\t xs σ H Q
theorem adD {k:Nat} {t:TGs} (hc:X.calm=true) (h:Wv X es t) (hn:(assignEach es X.env).length=n:=by rfl) (hst:(assignEach es X.env).findIdx? (·.1)=none:=by rfl):PG X (.Tuple es k pos) (aie X.K n t):=by
 intro pins s σ H v u Q I r hw;obtain⟨a,xs,e1,hq,hl,hw⟩:=hw;subst e1;cases r;obtain⟨its,rv,ht,hz⟩:=I.tuple hq;refine assign_Tuple_tuple (I.ok.hd hc) ht (by simp[hn,<-hl,rv.length]) hst λh' hx=>?_;have I1:Inv X pins σ H { s with heap:=h' }:=I.kept (t':=s.toks) λb o e=>hx b o (zI (zw e)) e;exact h pins _ σ H xs _ Q I1 (by simpa using rv) hw
def af5 (te:TE) (g:TG):TS:=λD σ H=>te σ H λx H1=>g x σ H1 D.nx
theorem adE {te:TE} {g:TG} (he:PE X e te) (hg:PG X tg g) (hs:swapsWithSole [tg] e pos.line X.env=pure false:=by rfl) (hw:swappedStores [tg] e X.env=pure none:=by rfl) (h1:(assignEach [tg] X.env).map (·.2)=[assign tg X.env]:=by rfl):PS X (.Assign [tg] e pos) (af5 te g):=by
 intro pins s σ H D I h;refine wpAny_Assign_stores (iI (he pins s σ H _ I h) λv s1 ⟨x,H1,I1,r1,q1⟩=>?_) hs hw;rw[h1];exact iI (hg pins s1 σ H1 x v _ I1 r1 q1) λ_ s2 q=>q
theorem BL {te:TE} {pos':Pos} (hN:X.N.Nodup) (hi:X.N[i]?=some x) (hx:Loc X.env.scope x) (he:PE X e te) (hs:swapsWith e (some (.Name x pos')) pos.line X.env=pure false:=by rfl) (hf:X.fn x=true\/X.env.scope.names.lookup x=some .local:=by first|exact .inl rfl|exact .inr rfl|assumption) :
  PS X (.Assign [.Name x pos'] e pos) (af5 te (acG i)):=by
 intro pins s σ H D I h;refine wpAny_Assign_Name (iI (he pins s σ H _ I h) λv s1 ⟨y,H1,I1,r1,q1⟩=>?_) hs;exact qd I1 hN hi hx r1 (λs2 I2=>⟨_,H1,I2,q1⟩) hf
def aif (i j:Nat) (ta:TA):TS:=λD σ H=>ta σ H λvs H1=>∃ v w,vs=[v,w]/\D.nx ((σ.set i (some v)).set j (some w)) H1
theorem adF {y:Str} {a b:Expr} {ta:TA} {px py pt:Pos} {kt k2 pt2} (hc:X.calm=true) (hN:X.N.Nodup) (hi:X.N[i]?=some x) (hj:X.N[j]?=some y) (hij:i≠j) (hx:X.env.scope.names.lookup x=some .local) (hy:X.env.scope.names.lookup y=some .local) (ha:PA X [a,b] ta) (hw:swappedStores [.Tuple [.Name x px,.Name y py] kt pt] (.Tuple [a,b] k2 pt2) X.env=pure (some [x,y])) (hs:swapsWithSole [.Tuple [.Name x px,.Name y py] kt pt] (.Tuple [a,b] k2 pt2) pos.line X.env=pure false:=by rfl) :
  PS X (.Assign [.Tuple [.Name x px,.Name y py] kt pt] (.Tuple [a,b] k2 pt2) pos) (aif i j ta):=by
 intro pins s σ H D I h;rw[exec_Assign_arm];refine zb (kP ?_);rw[hs];refine zb (ze ?_);rw[zC (by decide)];refine zb (Tuple_ (iI (ha _ pins s σ H _ I h) λus s1 ⟨vs,H1,I1,r1,q1⟩=>?_));obtain⟨v,w,e1,q1⟩:=q1;subst e1;obtain⟨u1,u2,rfl,rv,RQ⟩:∃ u1 u2,us=[u1,u2]/\RelV v u1/\RelV w u2:=by
  cases r1 with
  |cons p q=>
   cases q with
   |cons p' q'=>
    cases q';exact⟨_,_,rfl,p,p'⟩
 refine qa ?_ (by show 2<=sizeLine;decide);have I2:Inv X pins σ H1 { s1 with heap:=s1.heap.push { cls:=.type "tuple", data:=.seq [u1,u2].toArray } }:=I1.kept (t':=s1.toks) λb o e=>zd _ e;rw[hw];refine zb (ze ?_);show wpAny (model X.prog X.w) X.A (do rule "assign.swapped-stores"; let items <-unpackItems (.ref s1.heap.objs.size) 2 none;assignInOrder [λv=>bindName X.env y v,λv=>bindName X.env x v] items.reverse;pure Flow.next) _ _ _;refine zb (kU (zb (unpackItems_tuple (items:=#[u1,u2]) (I.ok.hd hc) (IsTup.new s1.heap _) λh' hx'=>?_)));have I3:=I2.kept (h':=h') (t':=s1.toks) λb o e=>hx' b o (zI (zw e)) e;show wpAny _ _ (assignInOrder [λv=>bindName X.env y v,λv=>bindName X.env x v] [u2,u1] >>= λ_=>pure Flow.next) _ _ _;refine zb (assignInOrder_cons (wpAny_bindName (qd I3 hN hj (.inl hy) RQ (λs2 I4=>?_) (.inr hy))));refine assignInOrder_cons (wpAny_bindName (qd I4 hN hi (.inl hx) rv (λs3 I5=>assignInOrder_nil (ze ?_)) (.inr hx)));rw[List.set_comm _ _ (km hij)] at I5;exact⟨_,H1,I5,q1⟩
end
structure It where
 go:Nat->Hp->Prop
 yld:Nat->Hp->V->Hp->Prop
 stop:Nat->Hp->Prop
def qe (X:Cx) (pins:List (Addr×Obj)) (H:Hp) (b:Addr):Prop:=
 H b=none/\b≠X.env.locals/\b∉X.fs/\(b∈X.ex\/X.s₀.heap.objs.size<=b)/\(∀ x c,X.env.cells.lookup x=some c->c≠b)/\∀ p∈X.pn++pins,p.1≠b
theorem Inv.Uq {X:Cx} {σ:St} {H H':Hp} {b:Addr} (I:Inv X pins σ H s) (hb:s.heap.objs.size<=b) (hn:H' b=none):qe X pins H' b:=by
 refine⟨hn,kL (ZH I.lt hb),I.ah6 hb,.inr (Zp I.sz hb),λx c e z=>?_,λp hp z=>?_⟩
 ·obtain⟨v,q⟩:=I.cell x c e;exact absurd (ZH q.lt (by rw[z];exact hb)) (JA _)
 ·exact absurd (ZH (zw (I.pin p hp).1) (by rw[z];exact hb)) (JA _)
structure Turn (P:Program) (w:World) (K:FG_) (tg:Expr) (J:It) (fp:List Addr) (it:Addr) (tn:Nat->Heap->Prop):Prop where
 mem:it∈fp
 obj:∀ i h,tn i h->∀ b∈fp,∃ o,h.get? b=some o/\∀ v,o.data≠.cell v
 keep:∀ i h h',tn i h->(∀ b∈fp,∀ o,h.get? b=some o->h'.get? b=some o)->tn i h'
 item:∀ (X:Cx),X.prog=P->X.w=w->X.K=K->X.calm=true->∀ (i:Nat) (pins:List (Addr×Obj)) (s:Shared) (σ:St) (H:Hp) (E:VP_),Inv X pins σ H s->(∀ b∈fp,qe X pins H b)->tn i s.heap->J.go i H →
  wpAny (model P w) X.A (pyNext (.ref it)) (λr s1=>∃ u,r=some u ∧
   wpAny (model P w) X.A (letOwnedTupleGo tg (.ref it) u) (λ_ s2=>∃ x H',Inv X pins σ H' s2/\RelV x u/\J.yld i H x H'/\tn (i+1) s2.heap/\∀ b∈fp,H' b=none) E s1) E s
 done:∀ (X:Cx),X.prog=P->X.w=w->X.K=K->X.calm=true->∀ (i:Nat) (pins:List (Addr×Obj)) (s:Shared) (σ:St) (H:Hp) (E:VP_),Inv X pins σ H s->(∀ b∈fp,qe X pins H b)->tn i s.heap->J.stop i H →
  wpAny (model P w) X.A (pyNext (.ref it)) (λr s1=>r=none/\Inv X pins σ H s1) E s
 self:∀ (A:Around) (i:Nat) (s:Shared) (Q:VP_) (E:VP_),tn i s.heap->Q (.ref it) s->wpAny (model P w) A (pyIter (.ref it)) Q E s
abbrev TI:=St->Hp->(It->Hp->Prop)->Prop
def PIE (X:Cx) (pins:List (Addr×Obj)) (σ:St) (tg:Expr) (R:It->Hp->Prop) (itv:Value) (s2:Shared):Prop:=
 ∃ (it:Addr) (fp:List Addr) (tn:Nat->Heap->Prop) (J:It) (H':Hp),itv=.ref it/\Inv X pins σ H' s2/\Turn X.prog X.w X.K tg J fp it tn/\tn 0 s2.heap/\(∀ b∈fp,qe X pins H' b)/\R J H'
def PI (X:Cx) (tg iter:Expr) (wi:TI):Prop:=
 ∀ (pins:List (Addr×Obj)) (s:Shared) (σ:St) (H:Hp) (R:It->Hp->Prop),Inv X pins σ H s->wi σ H R →
  wpAny (model X.prog X.w) X.A (eval iter X.env) (λv s1=>wpAny (model X.prog X.w) X.A (pyIter v) (PIE X pins σ tg R) X.xe s1) X.xe s
theorem BP {o:Obj} {n:String} {vs:Array Value} {Q:Unit->Shared->Prop} (ho:s.heap.get? it=some o) (hc:o.cls=.type n) (hd:o.data=.fields vs) (hn:["enumerate", "zip", "dict_itemiterator", "dict_reverseitemiterator", "odict_iterator", "itertools.zip_longest", "itertools.pairwise"].contains n=false) (hQ:Q () s):wpAny M A (letOwnedTupleGo tg (.ref it) u) Q E s:=by
 unfold letOwnedTupleGo;cases tg<;>first
  |exact ze hQ
  |(cases u<;>first
    |exact ze hQ
    |(refine zb (KB ho ?_)
      rw[hc,hd];show wpAny M A (if(["enumerate", "zip", "dict_itemiterator", "dict_reverseitemiterator", "odict_iterator", "itertools.zip_longest", "itertools.pairwise"].contains n&&vs[0]?==some (rawInt _))=true then _ else _) Q E s;rw[zC (by intro h;rw[hn,ye] at h;cases h)];exact ze hQ))
def Itl (K:FG_) (a:Addr):It:=
 ⟨λi H=>∃ xs x,sW K H a xs/\xs[i]?=some x,λi H x H'=>H'=H/\∀ xs,sW K H a xs->xs[i]?=some x,λi H=>∃ xs,sW K H a xs/\xs.length<=i⟩
def Itt (K:FG_) (a:Addr):It:=
 ⟨λi H=>∃ xs x,wL K H a xs/\xs[i]?=some x,λi H x H'=>H'=H/\∀ xs,wL K H a xs->xs[i]?=some x,λi H=>∃ xs,wL K H a xs/\xs.length<=i⟩
def Itr (lo:Int) (n:Nat):It:=⟨λi _=>i < n,λi H x H'=>H'=H/\x=.int (lo+i),λi _=>n<=i⟩
theorem Ur (a it:Addr):Turn P w K tg (Itl K a) [it] it (λi h=>h.IsListIter it a i) where
 mem:=by simp
 obj:=λi h st b hb=>by
  have e:b=it:=by simpa using hb
  subst e;obtain⟨o,e,c,d⟩:=st;exact⟨o,e,λv z=>by rw[d] at z;cases z⟩
 keep:=λi h h' st k=>st.at λo e=>k it (by simp) o e
 item:=by
  intro X hP hw hK hc i pins s σ H E I hf st hg;subst hP hw hK;obtain⟨xs,x,hq,hx⟩:=hg;obtain⟨its,rv,p,hz⟩:=I.list hq;obtain⟨u,hu,ru⟩:=rv.get hx;obtain⟨f0,f1,f2,f3,f4,f5⟩:=hf it (by simp);refine wpAny_pyNext_list_item st p.isList (x:=u) (by simpa using hu) λh' st' sb=>?_;have I1:Inv X pins σ H { s with heap:=h' }:=I.turned (t':=s.toks) (λb o hb e=>(sb.2 b hb).trans e) f0 f1 f3 f4 f5;obtain⟨o,e,c,d⟩:=id st';exact⟨u,rfl,BP (s:={ s with heap:=h' }) e c d (by decide) ⟨x,H,I1,ru,⟨rfl,λys hy=>by rw[I.K6 hy hq];exact hx⟩,st',λb hb=>(hf b hb).1⟩⟩
 done:=by
  intro X hP hw hK hc i pins s σ H E I hf st hg;subst hP hw hK;obtain⟨xs,hq,hx⟩:=hg;obtain⟨its,rv,p,hz⟩:=I.list hq;obtain⟨f0,f1,f2,f3,f4,f5⟩:=hf it (by simp);have hl:=rv.length;exact wpAny_pyNext_list_end (I.ok.hd hc) st p.isList (by simp;omega) λh' eb=>⟨rfl,I.turned (t':=s.toks) (λb o hb e=>eb b o hb e) f0 f1 f3 f4 f5⟩
 self:=λ_ _ _ _ _ st h=>wpAny_pyIter_listiter st h
theorem PL (a it:Addr):Turn P w K tg (Itt K a) [it] it (λi h=>h.IsTupleIter it a i) where
 mem:=by simp
 obj:=λi h st b hb=>by
  have e:b=it:=by simpa using hb
  subst e;obtain⟨o,e,c,d⟩:=st;exact⟨o,e,λv z=>by rw[d] at z;cases z⟩
 keep:=λi h h' st k=>st.at λo e=>k it (by simp) o e
 item:=by
  intro X hP hw hK hc i pins s σ H E I hf st hg;subst hP hw hK;obtain⟨xs,x,hq,hx⟩:=hg;obtain⟨its,rv,p,hz⟩:=I.tuple hq;obtain⟨u,hu,ru⟩:=rv.get hx;obtain⟨f0,f1,f2,f3,f4,f5⟩:=hf it (by simp);refine wpAny_pyNext_tuple_item st (show s.heap.IsTuple a its.toArray from p) (x:=u) (by simpa using hu) λh' st' sb=>?_;have I1:Inv X pins σ H { s with heap:=h' }:=I.turned (t':=s.toks) (λb o hb e=>(sb.2 b hb).trans e) f0 f1 f3 f4 f5;obtain⟨o,e,c,d⟩:=id st';exact⟨u,rfl,BP (s:={ s with heap:=h' }) e c d (by decide) ⟨x,H,I1,ru,⟨rfl,λys hy=>by rw[I.G3 hy hq];exact hx⟩,st',λb hb=>(hf b hb).1⟩⟩
 done:=by
  intro X hP hw hK hc i pins s σ H E I hf st hg;subst hP hw hK;obtain⟨xs,hq,hx⟩:=hg;obtain⟨its,rv,p,hz⟩:=I.tuple hq;obtain⟨f0,f1,f2,f3,f4,f5⟩:=hf it (by simp);have hl:=rv.length;exact wpAny_pyNext_tuple_end (I.ok.hd hc) st (show s.heap.IsTuple a its.toArray from p) (by simp;omega) λh' eb=>⟨rfl,I.turned (t':=s.toks) (λb o hb e=>eb b o hb e) f0 f1 f3 f4 f5⟩
 self:=λ_ _ _ _ _ st h=>wpAny_pyIter_tupleiter st h
theorem PN (it:Addr) (lo:Int) (n:Nat):Turn P w K tg (Itr lo n) [it] it (λi h=>IsRangeIter h it (lo+(i:Nat) * 1) ((n:Int) - (i:Nat)) 1) where
 mem:=by simp
 obj:=λi h st b hb=>by
  have e:b=it:=by simpa using hb
  subst e;exact⟨_,st,λv z=>by
   have z':Data.fields _=Data.cell v:=z;cases z'⟩
 keep:=λi h h' st k=>k it (by simp) _ st
 item:=by
  intro X hP hw hK hc i pins s σ H E I hf st hg;subst hP hw hK;obtain⟨f0,f1,f2,f3,f4,f5⟩:=hf it (by simp);have W:=Walks.range (prog:=X.prog) (w:=X.w) (I.ok.hd hc) it lo 1 n;refine W.item i s _ _ hg st λv h' tk hv st' kk=>?_;obtain⟨t,rfl⟩:=hv;have I1:Inv X pins σ H { s with heap:=h',toks:=tk }:=I.turned (λb o hb e=>kk b o (by simpa using hb) e) f0 f1 f3 f4 f5;refine⟨_,rfl,BP (s:={ s with heap:=h',toks:=tk }) (n := "range_iterator") st' rfl rfl (by decide) ⟨.int (lo+i),H,I1,⟨t,?_⟩,⟨rfl,rfl⟩,st',λb hb=>(hf b hb).1⟩⟩;rw[Int.mul_one]
 done:=by
  intro X hP hw hK hc i pins s σ H E I hf st hg;subst hP hw hK;obtain⟨f0,f1,f2,f3,f4,f5⟩:=hf it (by simp);exact wpAny_pyNext_range_end (I.ok.hd hc) st (by have:n<=i:=hg;omega) λh' eb=>⟨rfl,I.turned (t':=s.toks) (λb o hb e=>eb b o hb e) f0 f1 f3 f4 f5⟩
 self:=λ_ _ _ _ _ st h=>wpAny_pyIter_rangeiter st h
end L2
namespace L2
section
variable {X:Cx}
theorem Wx {σ:St} {H:Hp} {R:It->Hp->Prop} {lo hi:Int} {t u v:Tok} {tk:Nat} (I:Inv X pins σ H s) (h1 : -(2 ^ 62)<=lo) (h2:lo < 2 ^ 62) (h3 : -(2 ^ 62)<=hi) (h4:hi < 2 ^ 62) (q:R (Itr lo (hi - lo).toNat) H):wpAny (model X.prog X.w) X.A (pyIter (.ref s.heap.objs.size)) (PIE X pins σ tg R) E { s with heap:=s.heap.push { cls:=.type "range", data:=.fields #[.int lo t,.int hi u,.int 1 v] },toks:=tk }:=by
 refine wpAny_pyIter_range (IsRange.new ..) (small_one h1 h2 h3 h4) ?_;have I1:Inv X pins σ H { s with heap:=s.heap.push { cls:=.type "range", data:=.fields #[.int lo t,.int hi u,.int 1 v] },toks:=tk }:=I.kept λb o e=>zd _ e;refine⟨(s.heap.push { cls:=.type "range", data:=.fields #[.int lo t,.int hi u,.int 1 v] }).objs.size,[(s.heap.push { cls:=.type "range", data:=.fields #[.int lo t,.int hi u,.int 1 v] }).objs.size],_,_,H,rfl,
  I1.kept (t':=tk) λb o e=>zd _ e,PN _ lo (hi - lo).toNat,?_,λb hb=>?_,q⟩
 ·have e1:lo+((0:Nat):Int) * 1=lo:=by simp
  have e2:(((hi - lo).toNat:Nat):Int) - ((0:Nat):Int)=Builtin.Range.rangeSize lo hi 1:=by rw[rangeSize_one];split<;>omega
  show IsRangeIter _ _ (lo+((0:Nat):Int) * 1) ((((hi - lo).toNat:Nat):Int) - ((0:Nat):Int)) 1;rw[e1,e2];exact zv _ rfl
 ·have e:b=(s.heap.push { cls:=.type "range", data:=.fields #[.int lo t,.int hi u,.int 1 v] }).objs.size:=by simpa using hb
  subst e;exact I1.Uq (zg _) (I1.hok.fresh (zg _))
def af6 (ta:TA):TI:=λσ H R=>ta σ H λvs H1=>∃ j:Int,vs=[.int j] ∧ -(2 ^ 62)<=j/\j < 2 ^ 62/\R (Itr 0 j.toNat) H1
theorem Us {a:Expr} {ta:TA} {p:Pos} (hg:Gl X "range") (hm:X.mg "range" = none) (ha:PA X [a] ta) (hs:starEach [a] X.env=[(false,eval a X.env)]:=by rfl):PI X tg (.Call (.Name "range" p) [a] [] pos) (af6 ta):=by
 intro pins s σ H R I h;refine Call_ (BK I hg hm boot_range (PyProof.Rows.callWith_type1 (iI (ha pos pins s σ H _ I h) λus s1 ⟨vs,H1,I1,r1,q1⟩=>?_) hs rfl));obtain⟨j,e,q1,q2,q⟩:=q1;subst e;cases r1 with
 |cons r rr=>
  cases rr;obtain⟨t,rfl⟩:=r;exact call_range_1 (Wx I1 (by omega) (by omega) q1 q2 (by simpa using q))
def aij (wi:TI) (g:TG) (tb:TS):TS:=λD σ H=>wi σ H λJ H1=>∃ W:Nat->Nat->St->Hp->Prop,(∃ m,W 0 m σ H1)/\∀ i m σ H,W i m σ H →
 (J.stop i H/\D.nx σ H)\/(J.go i H/\∃ N:St->Hp->Prop,(∀ σ' H',N σ' H'->∃ m',m' < m/\W (i+1) m' σ' H')/\∀ x H',J.yld i H x H'->g x σ H' λσ2 H2=>tb { D with nx:=N,ct:=N,bk:=D.nx } σ2 H2)
def yI (fp:List Addr) (h:Heap):List (Addr×Obj):=fp.filterMap λb=>(h.get? b).map λo=>(b,o)
theorem qN {b:Addr} {o:Obj} (hb:b∈fp) (e:h.get? b=some o):(b,o)∈yI fp h:=List.mem_filterMap.mpr ⟨b,hb,by rw[e];rfl⟩
theorem Ut {p:Addr×Obj} (hp:p∈yI fp h):p.1∈fp/\h.get? p.1=some p.2:=by
 obtain⟨b,hb,e⟩:=List.mem_filterMap.mp hp;cases q:h.get? b with
 |none=>rw[q] at e;cases e
 |some o=>
  rw[q] at e;have e':(b,o)=p:=JU e;subst e';exact⟨hb,q⟩
theorem Inv.pinned {σ:St} {H:Hp} (I:Inv X pins σ H s) (hf:∀ b∈fp,qe X pins H b) (ho:∀ b∈fp,∃ o,s.heap.get? b=some o/\∀ v,o.data≠.cell v):Inv X (pins++yI fp s.heap) σ H s:=
 I.Az λp hp=>(List.mem_append.mp hp).elim (λz=>I.pin p (ZY _ z)) λz=>by
  obtain⟨hb,e⟩:=Ut z;obtain⟨f0,f1,f2,_⟩:=hf p.1 hb;obtain⟨o,e',d⟩:=ho p.1 hb;rw[e] at e';cases e';exact⟨e,f0,f1,f2,d⟩
theorem Inv.tu {pl:List (Addr×Obj)} {σ:St} {H:Hp} (I:Inv X (pins++pl) σ H s):Inv X pins σ H s:=I.Az λp hp=>I.pin p (ZY _ (kF _ hp))
theorem Wy {wi:TI} {g:TG} {tb:TS} (hp:PassesOwn (model X.prog X.w) X.A X.env X.xe) (hc:X.calm=true) (hi:PI X tg iter wi) (hg:PG X tg g) (hb:Ba X body tb) (hs:∀ x,foldedSetIterable iter X.env x=pure x:=by intro _;rfl):PS X (.For tg iter body [] pos) (aij wi g tb):=by
 intro pins s σ H D I h;refine wpAny_For (iI (hi pins s σ H _ I h) λv s1 h1=>iI h1 λitv s2 h2=>?_) hs;obtain⟨it,fp,tn,J,H2,e,I2,T,st2,f2,W,⟨m0,w0⟩,turn⟩:=h2;subst e;have stat:∀ {H':Hp},(∀ b∈fp,H' b=none)->∀ b∈fp,qe X pins H' b:=λhn b hb=>⟨hn b hb,(f2 b hb).2⟩;refine codeAny_forLoop_any (λn s'=>∃ i σ' H',Inv X pins σ' H' s'/\tn i s'.heap/\(∀ b∈fp,H' b=none)/\W i n σ' H') ?_ m0 ⟨0,σ,H2,I2,st2,λb hb=>(f2 b hb).1,w0⟩;rintro n s3 ⟨i,σ3,H3,I3,st3,fr3,w3⟩;rcases turn i n σ3 H3 w3 with⟨stop,qn⟩|⟨go,N,hN,step⟩
 ·refine KL hp (iI (T.done X rfl rfl rfl hc i pins s3 σ3 H3 X.xe I3 (stat fr3) st3 stop) λr s4 ⟨hr,I4⟩=>?_);subst hr;exact KM ⟨σ3,H3,I4,qn⟩
 ·refine KL hp (iI (T.item X rfl rfl rfl hc i pins s3 σ3 H3 X.xe I3 (stat fr3) st3 go) λr s4 ⟨u,hr,h4⟩=>?_);subst hr;refine KL hp (iI h4 λ_ s5 ⟨x,H5,I5,r5,y5,st5,fr5⟩=>?_);have I5':=I5.pinned (stat fr5) (T.obj _ _ st5);refine KL hp (iI (hg _ s5 σ3 H5 x u _ I5' r5 (step x H5 y5)) λ_ s6 ⟨σ6,H6,I6,q6⟩=>?_);refine KL hp (iI (hb _ s6 σ6 H6 _ I6 q6) λf s7 q7=>?_);have again:∀ {σ7:St} {H7:Hp},Inv X (pins++yI fp s5.heap) σ7 H7 s7->N σ7 H7->∃ m,m < n/\∃ i σ' H',Inv X pins σ' H' s7/\tn i s7.heap/\(∀ b∈fp,H' b=none)/\W i m σ' H':=λ{σ7 H7} I7 n7=>by
   obtain⟨m',hm,w7⟩:=hN σ7 H7 n7;refine⟨m',hm,i+1,σ7,H7,I7.tu,T.keep _ _ _ st5 λb hb o e=>(I7.pin (b,o) (ZY _ (ZY _ (qN hb e)))).1,λb hb=>?_,w7⟩;obtain⟨o,e,d⟩:=T.obj _ _ st5 b hb;exact(I7.pin (b,o) (ZY _ (ZY _ (qN hb e)))).2.1
  cases f with
  |next=>obtain⟨σ7,H7,I7,n7⟩:=q7;exact again I7 n7
  |cont=>obtain⟨σ7,H7,I7,n7⟩:=q7;exact again I7 n7
  |brk=>obtain⟨σ7,H7,I7,q7⟩:=q7;exact⟨σ7,H7,I7.tu,q7⟩
  |ret v=>obtain⟨x7,σ7,H7,I7,r7,q7⟩:=q7;exact⟨x7,σ7,H7,I7.tu,r7,q7⟩
end
end L2
namespace L2
abbrev R2:=V->V->Hp->VK->Prop
def wM (X:Cx) (f:Value->Value->Sem Value) (r:R2):Prop:=
 ∀ (pins:List (Addr×Obj)) (s:Shared) (σ:St) (H:Hp) (x y:V) (v u:Value) (Q:VK),Inv X pins σ H s->RelV x v->RelV y u->r x y H Q →
  wpAny (model X.prog X.w) X.A (f v u) (EP X pins σ Q) X.xe s
def eE (X:Cx) (f:Value) (r:List V->Hp->VK->Prop):Prop:=
 ∀ (pins:List (Addr×Obj)) (s:Shared) (σ:St) (H:Hp) (xs:List V) (us:List Value) (Q:VK),Inv X pins σ H s->Vals xs us->r xs H Q →
  wpAny (model X.prog X.w) X.A (call f us) (EP X pins σ Q) X.xe s
def ail (X:Cx) (r:V->Hp->(Bool->Hp->Prop)->Prop):Prop:=
 ∀ (pins:List (Addr×Obj)) (s:Shared) (σ:St) (H:Hp) (x:V) (v:Value) (Q:Bool->Hp->Prop),Inv X pins σ H s->RelV x v->r x H Q →
  wpAny (model X.prog X.w) X.A (truthy v) (TP X pins σ Q) X.xe s
def tOp (r:R2) (ta tb:TE):TE:=λσ H Q=>ta σ H λx H1=>tb σ H1 λy H2=>r x y H2 Q
def rI (C:Int->Int->Prop) (g:Int->Int->V):R2:=λx y H Q=>∃ i j,x=.int i/\y=.int j/\C i j/\Q (g i j) H
def rI0 (g:Int->Int->V):R2:=λx y H Q=>∃ i j,x=.int i/\y=.int j/\Q (g i j) H
section
variable {X:Cx} {a b:Expr} {ta tb tc:TE}
theorem adH (ha:PE X a ta) (hb:PE X b tb) {σ:St} {H:Hp} {R:V->V->Hp->Prop} (I:Inv X pins σ H s) (h:ta σ H λx H1=>tb σ H1 λy H2=>R x y H2) {Q:VP_} {f:Value->Value->Sem Value} (hf:∀ v u s2 x y H2,Inv X pins σ H2 s2->RelV x v->RelV y u->R x y H2->wpAny (model X.prog X.w) X.A (f v u) Q X.xe s2) :
  wpAny (model X.prog X.w) X.A (eval a X.env) (λv s₁=>wpAny (model X.prog X.w) X.A (eval b X.env) (λu s₂=>wpAny (model X.prog X.w) X.A (f v u) Q X.xe s₂) X.xe s₁) X.xe s:=by
 refine iI (ha pins s σ H _ I h) λv s1 ⟨x,H1,I1,r1,q1⟩=>?_;refine iI (hb pins s1 σ H1 _ I1 q1) λu s2 ⟨y,H2,I2,r2,q2⟩=>?_;exact hf v u s2 x y H2 I2 r1 r2 q2
theorem acI {op:Operator} {r:R2} (ho:wM X (binaryOp op) r) (ha:PE X a ta) (hb:PE X b tb):PE X (.BinOp a op b pos) (tOp r ta tb):=by
 intro pins s σ H Q I h;exact wpAny_BinOp (adH ha hb I h λv u s2 x y H2 I2 rx ry q=>ho pins s2 σ H2 x y v u Q I2 rx ry q)
theorem opI {f:Value->Value->Sem Value} {C:Int->Int->Prop} {g:Int->Int->Int}
  (rule:∀ (i j:Int) (t u:Tok) (s:Shared) (Q:VP_) (E:VP_),C i j->Q (.int (g i j) s.toks) { s with toks:=s.toks+1 }->wpAny (model X.prog X.w) X.A (f (.int i t) (.int j u)) Q E s) :
  wM X f (rI C λi j=>.int (g i j)):=by
 intro pins s σ H x y v u Q I rx ry h;obtain⟨i,j,rfl,rfl,hc,q⟩:=h;obtain⟨t,rfl⟩:=rx;obtain⟨t',rfl⟩:=ry;exact rule i j t t' s _ _ hc ⟨.int (g i j),H,I.tok _,⟨_,rfl⟩,q⟩
theorem af8 {f:Value->Value->Sem Value} {g:Int->Int->Int}
  (rule:∀ (i j:Int) (t u:Tok) (s:Shared) (Q:VP_) (E:VP_),Q (.int (g i j) s.toks) { s with toks:=s.toks+1 }->wpAny (model X.prog X.w) X.A (f (.int i t) (.int j u)) Q E s) :
  wM X f (rI0 λi j=>.int (g i j)):=by
 intro pins s σ H x y v u Q I rx ry h;obtain⟨i,j,rfl,rfl,q⟩:=h;obtain⟨t,rfl⟩:=rx;obtain⟨t',rfl⟩:=ry;exact rule i j t t' s _ _ ⟨.int (g i j),H,I.tok _,⟨_,rfl⟩,q⟩
theorem aai {f:Value->Value->Sem Value} {g:Int->Int->Bool}
  (rule:∀ (i j:Int) (t u:Tok) (s:Shared) (Q:VP_) (E:VP_),Q (.bool (g i j)) s->wpAny (model X.prog X.w) X.A (f (.int i t) (.int j u)) Q E s) :
  wM X f (rI0 λi j=>.bl (g i j)):=by
 intro pins s σ H x y v u Q I rx ry h;obtain⟨i,j,rfl,rfl,q⟩:=h;obtain⟨t,rfl⟩:=rx;obtain⟨t',rfl⟩:=ry;exact rule i j t t' s _ _ ⟨.bl (g i j),H,I,rfl,q⟩
def ain (i j:Int):Prop:=0 < j/\j < 1073741824
def aio (i j:Int):Prop:=0<=j/\j<=1000000/\i.natAbs < 2 ^ 64
def adI (i j:Int):Prop:=(-(2 ^ 64) < i/\i < 2 ^ 64)\/(-(2 ^ 64) < j/\j < 2 ^ 64)
theorem adI.ok {i j:Int} (h:adI i j):IntMulOk i j:=by
 rcases h with⟨h1,h2⟩|⟨h1,h2⟩
 ·exact .of_left (intBits_le_64 h1 h2)
 ·exact .of_right (intBits_le_64 h1 h2)
theorem adJ:wM X (binaryOp .Add) (rI0 λi j=>.int (i+j)):=af8 λ_ _ _ _ _ _ _ q=>add_int q
theorem adK:wM X (binaryOp .Sub) (rI0 λi j=>.int (i - j)):=af8 λ_ _ _ _ _ _ _ q=>sub_int q
theorem adL:wM X (binaryOp .Mult) (rI adI λi j=>.int (i * j)):=opI λ_ _ _ _ _ _ _ hc q=>mul_int q hc.ok
theorem aaj:wM X (binaryOp .FloorDiv) (rI ain λi j=>.int (i / j)):=opI λi j _ _ _ _ _ hc q=>by
 have h1:(0:Int) < j:=hc.1;have h2:j < 1073741824:=hc.2;exact floordiv_int (by omega) (by rw[Int.fdiv_eq_ediv_of_nonneg i (by omega)];exact q) (.inl (PyProof.noPylong_small (by omega)))
theorem adM:wM X (binaryOp .Mod) (rI (λ_ j=>0 < j) λi j=>.int (i % j)):=opI λi j _ _ _ _ _ hc q=>by
 have h1:(0:Int) < j:=hc;exact mod_int' (by omega) (by rw[Int.fmod_eq_emod_of_nonneg i (by omega)];exact q)
theorem adN:wM X (binaryOp .Pow) (rI aio λi j=>.int (i ^ j.toNat)):=opI λ_ _ _ _ _ _ _ hc q=>pow_int_small hc.1 hc.2.1 hc.2.2 q
theorem adO {σ:St} {H:Hp} {Q:VK} {k k':Bool} (I:Inv X pins σ H s) (q:Q (.bl k) H) (e:k=k'):EP X pins σ Q (.bool k') s:=by
 subst e;exact⟨.bl k,H,I,rfl,q⟩
theorem af9:wM X (compareOp .Lt) (rI0 λi j=>.bl (decide (i < j))):=aai λ_ _ _ _ _ _ _ q=>lt_int q
theorem aga:wM X (compareOp .LtE) (rI0 λi j=>.bl (decide (i<=j))):=aai λ_ _ _ _ _ _ _ q=>le_int q
theorem agb:wM X (compareOp .Gt) (rI0 λi j=>.bl (decide (j < i))):=aai λ_ _ _ _ _ _ _ q=>gt_int q
theorem agc:wM X (compareOp .GtE) (rI0 λi j=>.bl (decide (j<=i))):=aai λ_ _ _ _ _ _ _ q=>ge_int q
theorem Uu:wM X (compareOp .In) (λx y H Q=>∃ i j,x=.str i/\y=.str j/\Q (.bl (!(Builtin.Str.occurrences j i 0 j.length 1).isEmpty)) H):=by
 intro pins s σ H x y v u Q I rx ry h;obtain⟨i,j,rfl,rfl,q⟩:=h;obtain⟨t,rfl⟩:=rx;obtain⟨t',rfl⟩:=ry;exact in_str (adO I q rfl)
theorem fj (b:Expr) (h:op≠.In:=by decide) (h2:op≠.NotIn:=by decide):behindInMarks op b=false:=by
 have e1:(op==CmpOp.In)=false:=by cases op<;>first|rfl|exact absurd rfl h
 have e2:(op==CmpOp.NotIn)=false:=by cases op<;>first|rfl|exact absurd rfl h2
 cases b<;>simp[behindInMarks,e1,e2]
theorem RV {r:R2} (ho:wM X (compareOp op) r) (ha:PE X a ta) (hb:PE X b tb) (hm:behindInMarks op b=false):PE X (.Compare a [op] [b] pos) (tOp r ta tb):=by
 intro pins s σ H Q I h;exact wpAny_Compare1 (adH ha hb I h λv u s2 x y H2 I2 rx ry q=>ho pins s2 σ H2 x y v u Q I2 rx ry q) hm
def agd (t:TE):TT:=λσ H Q=>t σ H λx H'=>∃ k,x=.bl k/\Q k H'
theorem aak {r:R2} (ho:wM X (compareOp op) r) (ha:PE X a ta) (hb:PE X b tb) (hm:behindInMarks op b=false):PT X (.Compare a [op] [b] pos) (agd (tOp r ta tb)):=by
 intro pins s σ H Q I h;refine wpAny_isTrue_Compare1 (iI (ha pins s σ H _ I h) λv s1 ⟨x,H1,I1,r1,q1⟩=>iI (hb pins s1 σ H1 _ I1 q1) λu s2 ⟨y,H2,I2,r2,q2⟩=>
  iI (ho pins s2 σ H2 x y v u _ I2 r1 r2 q2) λc s3 ⟨z,H3,I3,r3,k,e,q3⟩=>?_) hm
 subst e;cases r3;exact Q1 ⟨H3,I3,q3⟩
def Wz (r r':R2) (ta tb tc:TE):TE:=λσ H Q=>ta σ H λx H1=>tb σ H1 λy H2=>r x y H2 λz H3=>∃ k,z=.bl k ∧
 (if k=true then tc σ H3 λw' H4=>r' y w' H4 Q else Q (.bl false) H3)
theorem WD {op':CmpOp} {r r':R2} (ho:wM X (compareOp op) r) (ho':wM X (compareOp op') r') (ha:PE X a ta) (hb:PE X b tb) (hc:PE X c tc) (hm:lastMarks [op,op'] [b,c]=false:=by with_unfolding_all rfl):PE X (.Compare a [op,op'] [b,c] pos) (Wz r r' ta tb tc):=by
 intro pins s σ H Q I h;refine Compare_chain (iI (ha pins s σ H _ I h) λv s1 ⟨x,H1,I1,r1,q1⟩=>chain_link (iI (hb pins s1 σ H1 _ I1 q1) λu s2 ⟨y,H2,I2,r2,q2⟩=>
  iI (ho pins s2 σ H2 x y v u _ I2 r1 r2 q2) λd s3 ⟨z,H3,I3,r3,k,e,q3⟩=>?_)) hm
 subst e;cases r3;refine Q1 ?_;cases k with
 |false=>exact ite_ff ⟨.bl false,H3,I3,rfl,q3⟩
 |true=>exact ite_tt (chain_last (iI (hc pins s3 σ H3 _ I3 q3) λw' s4 ⟨z',H4,I4,r4,q4⟩=>ho' pins s4 σ H4 y z' u w' Q I4 r2 r4 q4))
def adP (K:FG_) (x:V) (H:Hp) (k:Bool):Prop:=
 match x with
 |.non=>k=false
 |.bl b=>k=b
 |.int i=>k=(i != 0)
 |.str y=>y.length<=sizeLine/\k=((y.length:Int) != 0)
 |.byt y=>y.size<=sizeLine/\k=((y.size:Int) != 0)
 |.ref p=>(∃ xs,sW K H p xs/\k=!xs.isEmpty)\/(∃ xs,wL K H p xs/\k=!xs.isEmpty)\/∃ kvs,H p=some (.dK kvs)/\k=!kvs.isEmpty
 |_=>False
theorem PX {kvs:List (κ×V)} {vs:List (κ×Value)} (r:KV kvs vs):(!vs.isEmpty)=!kvs.isEmpty:=by
 cases r<;>rfl
theorem BR {xs:List V} (r:Vals xs its):(!its.toArray.isEmpty)=!xs.isEmpty:=by
 cases r<;>simp
theorem yJ:(sizeLine:Nat) < 2 ^ 63:=by rw[sizeLine_eq];decide
theorem adQ:ail X (λx H Q=>∃ k,adP X.K x H k/\Q k H):=by
 intro pins s σ H x v Q I rx h;obtain⟨k,e,q⟩:=h;have hl:=yJ;have hs:sizeLine=16777216:=sizeLine_eq;cases x with
 |non=>
  cases rx;have e':k=false:=e;subst e';exact truthy_none ⟨H,I,q⟩
 |bl b=>
  cases rx;have e':k=b:=e;subst e';exact Q1 ⟨H,I,q⟩
 |int i=>
  obtain⟨t,rfl⟩:=rx;have e':k=(i != 0):=e;subst e';exact PySem.P.truthy_int ⟨H,I,q⟩
 |str y=>
  obtain⟨t,rfl⟩:=rx;obtain⟨hy,e'⟩:y.length<=sizeLine/\k=((y.length:Int) != 0):=e;subst e';exact PySem.P.truthy_str (by omega) ⟨H,I.tok _,q⟩
 |byt y=>
  obtain⟨t,rfl⟩:=rx;obtain⟨hy,e'⟩:y.size<=sizeLine/\k=((y.size:Int) != 0):=e;subst e';exact PySem.W.truthy_bytes (by omega) ⟨H,I.tok _,q⟩
 |ref p=>
  cases rx;have e':(∃ xs,sW X.K H p xs/\k=!xs.isEmpty)\/(∃ xs,wL X.K H p xs/\k=!xs.isEmpty)\/∃ kvs,H p=some (.dK kvs)/\k=!kvs.isEmpty:=e;rcases e' with⟨xs,hx,e'⟩|⟨xs,hx,e'⟩|⟨kvs,hx,e'⟩
  ·subst e';obtain⟨its,r,pl,hz⟩:=I.list hx;have hlen:=r.length;exact wpAny_truthy_list pl.isList (by simp only[zz];omega) ⟨H,I.tok _,by rw[BR r];exact q⟩
  ·subst e';obtain⟨its,r,pl,hz⟩:=I.tuple hx;have hlen:=r.length;exact truthy_tuple pl (by simp only[zz];omega) ⟨H,I.tok _,by rw[BR r];exact q⟩
  ·subst e';obtain⟨hz,hS,vs,r,m⟩:kvs.length<=sizeLine/\(p==sysModules)=false/\∃ vs,KV kvs vs/\s.heap.DictOf (bx X.prog X.w) p vs:=I.hok p _ hx;have hlen:kvs.length=vs.length:=Paired.length r;exact wpAny_truthy_dict hS m (by omega) ⟨H,I.tok _,by rw[PX r];exact q⟩
 |_=>exact(show False from e).elim
theorem WK (ha:PE X a ta) (he:∀ whole,isTrue a X.env whole=(do let v <-whole;standAt a.pos;holding [v] (truthy v))) :
  PT X a (λσ H Q=>ta σ H λx H'=>∃ k,adP X.K x H' k/\Q k H'):=by
 intro pins s σ H Q I h;exact isTrue_plain (iI (ha pins s σ H _ I h) λv s1 ⟨x,H1,I1,r1,q1⟩=>adQ pins s1 σ H1 x v Q I1 r1 q1) (he _)
theorem Qa:wM X (binaryOp .Add) (λx y H Q=>∃ i j,x=.str i/\y=.str j/\i.length+j.length<=sizeLine/\Q (.str (i++j)) H):=by
 intro pins s σ H x y v u Q I rx ry h;obtain⟨i,j,rfl,rfl,hz,q⟩:=h;obtain⟨t,rfl⟩:=rx;obtain⟨t',rfl⟩:=ry;exact add_str (λt' tk=>⟨.str (i++j),H,I.tok _,⟨_,rfl⟩,q⟩) hz
theorem vals1 {x:V} (r:Vals [x] us):∃ u,us=[u]/\RelV x u:=by
 cases r with
 |cons r1 r2=>cases r2;exact⟨_,rfl,r1⟩
theorem vals2 {x y:V} (r:Vals [x,y] us):∃ u w',us=[u,w']/\RelV x u/\RelV y w':=by
 cases r with
 |cons r1 r2=>
  cases r2 with
  |cons r3 r4=>cases r4;exact⟨_,_,rfl,r1,r3⟩
theorem WL:eE X (.builtin "abs") (λxs H Q=>∃ i,xs=[.int i]/\Q (.int (if i < 0 then -i else i)) H):=by
 intro pins s σ H xs us Q I r h;obtain⟨i,rfl,q⟩:=h;obtain⟨u,rfl,t,rfl⟩:=vals1 r;exact call_abs_int λu tk=>⟨.int (if i < 0 then -i else i),H,I.tok _,⟨_,rfl⟩,q⟩
theorem Uv:eE X (.type "int") (λxs H Q=>(∃ i,xs=[.int i]/\Q (.int i) H)\/∃ k,xs=[.bl k]/\Q (.int (if k then 1 else 0)) H):=by
 intro pins s σ H xs us Q I r h;rcases h with⟨i,rfl,q⟩|⟨k,rfl,q⟩
 ·obtain⟨u,rfl,t,rfl⟩:=vals1 r;exact call_int_int ⟨.int i,H,I,⟨_,rfl⟩,q⟩
 ·obtain⟨u,rfl,r1⟩:=vals1 r;cases r1;exact call_int_bool ⟨.int (if k then 1 else 0),H,I.tok _,⟨_,rfl⟩,q⟩
end
end L2
namespace L2
structure aip (h:Heap) (x dx C:Addr) (mA:Str->Option Value):Prop where
 obj:h.get? x=some (instObj C dx)
 ns:h.Ns1 dx mA
 ne:dx≠x
section
variable {x dx f:Addr} {mA:Str->Option Value}
end
theorem Bv.some_of {v:V} {o:Option Value} (r:Bv (some v) o):∃ u,o=some u/\RelV v u:=by
 cases o with
 |none=>exact(show False from r).elim
 |some u=>exact⟨u,rfl,r⟩
section
variable {H H':Hp} {h':Heap} {dx:Addr} {fs fs':List (Str×V)}
theorem Bb (hok:sY P w H h) (e:H a=some (.ins C dx fs)):∃ mA,aip h a dx C mA/\(∀ f,Bv (fs.lookup f) (mA f))/\PySem.Within mA (fs.map (·.1))/\fs.length<=1000/\H dx=some (.own a):=by
 obtain⟨d,z,ne,ob,mA,n,r,q⟩:=(show eX P w H h a (.ins C dx fs) from hok a _ e);exact⟨mA,⟨ob,n,ne⟩,r,q,z,d⟩
end
section
variable {X:Cx} {σ:St} {H:Hp} {dx:Addr} {fs:List (Str×V)} {f:Str} {v:V}
end
section
variable {X:Cx} {o value:Expr} {f:Str} {pos' tpos:Pos} {ta tv:TE}
end
section
variable {X:Cx} {σ:St} {H:Hp} {Q:VP_} {c:Value} {b:Bool}
end
end L2
namespace L2
structure g8 (k:Nat) (A:Around):Prop where
 hd:A.handled=none
 dp:A.depth+3 * k+5 < recursionLimit
 un:A.units+16 * k+200 < cLine
theorem g8.mono {k:Nat} (r:g8 k A) (h:j<=k):g8 j A:=⟨r.hd,by have:=r.dp;omega,by have:=r.un;omega⟩
theorem g8.deeper {k:Nat} (r:g8 (k+1) A) (env:Env):g8 k (A.deeper env):=
 ⟨r.hd,by have:=r.dp;show A.depth+1+3 * k+5 < _;omega,by have:=r.un;show A.units+3+16 * k+200 < _;omega⟩
theorem g8.depth {k:Nat} (r:g8 k A):A.depth < recursionLimit:=by have:=r.dp;omega
def WM:TA:=λ_ H Q=>Q [] H
def wN (ta:TE) (tr:TA):TA:=λσ H Q=>ta σ H λx H1=>tr σ H1 λxs H2=>Q (x::xs) H2
section
variable {X:Cx} {te:TE} {t:TA}
theorem dW:PA X [] WM:=λ_ _ _ _ H Q I h=>Calls.spliced_nil ⟨[],H,I,.nil,h⟩
theorem aY (ha:PE X e te) (hr:PA X es t) (hs:starEach (e::es) X.env=(false,eval e X.env)::starEach es X.env:=by rfl):PA X (e::es) (wN te t):=by
 intro pos pins s σ H Q I h;rw[hs];show wpAny _ _ (spliced ((false,eval e X.env)::backTo pos (starEach es X.env))) _ _ s;refine Calls.spliced_cons (iI (ha pins s σ H _ I h) λu s1 ⟨x,H1,I1,r1,q1⟩=>?_);exact iI (hr pos pins s1 σ H1 _ I1 q1) λus s2 ⟨xs,H2,I2,r2,q2⟩=>⟨x::xs,H2,I2,.cons r1 r2,q2⟩
def aiq (t:TA):TE:=λσ H Q=>t σ H λxs H1=>xs.length<=sizeLine/\∀ p,H1 p=none->Q (.ref p) (upd H1 p (.tup xs))
def air (t:TA):TE:=λσ H Q=>t σ H λxs H1=>xs.length<=sizeLine/\∀ p,H1 p=none->Q (.ref p) (upd H1 p (.lst xs))
theorem adR {x1} (h:PA X es t):PE X (.Tuple es x1 pos) (aiq t):=by
 intro pins s σ H Q I hq;refine wpAny_Tuple_spliced (iI (h pos pins s σ H _ I hq) λus s1 ⟨xs,H1,I1,r,z,q⟩=>⟨by rw[<-r.length];exact z,?_⟩);have hf:H1 s1.heap.objs.size=none:=I1.hok.fresh (zg _);refine⟨.ref s1.heap.objs.size,upd H1 s1.heap.objs.size (.tup xs),I1.laid (t':=s1.toks) (λb u e=>zd _ e) (zg _) ?_,rfl,q _ hf⟩;exact⟨z,us,r,⟨_,zv _ rfl,rfl,⟨_,rfl⟩,rfl⟩⟩
theorem Qc (h:PA X es t):PE X (.List es pos) (air t):=by
 intro pins s σ H Q I hq;refine wpAny_List_spliced (iI (h pos pins s σ H _ I hq) λus s1 ⟨xs,H1,I1,r,z,q⟩=>⟨by rw[<-r.length];exact z,?_⟩);have hf:H1 s1.heap.objs.size=none:=I1.hok.fresh (zg _);refine⟨.ref s1.heap.objs.size,upd H1 s1.heap.objs.size (.lst xs),I1.laid (t':=s1.toks) (λb u e=>zd _ e) (zg _) ?_,rfl,q _ hf⟩;exact⟨z,us,0,r,zv _ rfl⟩
end
abbrev Sp:=List V->Hp->VK->XK->Prop
abbrev Uw:=List Env->Hp->Shared->XK->Value->Shared->Prop
structure K7 (P:Program) (w:World) (K:FG_) (mg:Str->Option Value) (base:Heap) (A:Around) (outer:List Env) (s:Shared) (H:Hp):Prop where
 frames:A.frames=some outer
 mod:Mod K mg base
 bs:∀ b o,base.get? b=some o->s.heap.get? b=some o/\H b=none
 Wr:base.objs.size<=s.heap.objs.size
 vA:s.heap.FunFrames base outer
 frf:∀ b∈frs outer,H b=none
 hok:sY P w H s.heap
 bare:AllBare s.gens
def CE (outer:List Env) (P:Program) (w:World) (H:Hp) (s:Shared) (Q:VK) (u:Value) (s':Shared):Prop:=
 ∃ v H',s'.os=s.os/\AllBare s'.gens/\Un (frs outer) [] H H' s.heap s'.heap/\sY P w H' s'.heap/\RelV v u/\Q v H'
def CR (CX:Uw) (outer:List Env) (P:Program) (w:World) (H:Hp) (s:Shared) (Q:VK) (E:XK) (r:Result) (s':Shared):Prop:=
 match r with
 |.ok (.ret u)=>CE outer P w H s Q u s'
 |.ok _=>False
 |.error e=>CX outer H s E e s'
structure lB (P:Program) (w:World) (K:FG_) (mg:Str->Option Value) (base:Heap) (CX:Uw) (k:Nat) (f:Addr) (fd:FuncData) (ps:LS_) (sp:Sp):Prop where
 len:∀ vs H Q E,sp vs H Q E->vs.length=ps.length
 run:∀ (A:Around) (outer:List Env) (s:Shared) (H:Hp) (args:Args) (us:List Value) (vs:List V) (Q:VK) (E:XK),g8 k A->K7 P w K mg base A outer s H->BindsTo s fd args (ps.zip us)->Vals vs us->sp vs H Q E →
  codeAny (model P w) A (.call (.ref f) args) (CR CX outer P w H s Q E) s
section
variable {X:Cx} {σ:St} {H:Hp} {s':Shared}
theorem Inv.env0 (I:Inv X pins σ H s):K7 X.prog X.w X.K X.mg X.base X.A X.stack s H:=
 ⟨I.ok.frames,I.ok.mod,I.bs,Zp I.ok.Wr I.sz,I.stack,I.Ay,I.hok,I.bare⟩
theorem Inv.after {Q:VK} (I:Inv X pins σ H s) (h:CE X.stack X.prog X.w H s Q u s'):EP X pins σ Q u s':=by
 obtain⟨v,H',os,bare,un,hok,r,q⟩:=h;obtain⟨hh,g,d,t,os'⟩:=s';obtain rfl:os'=s.os:=os;exact⟨v,H',I.call (h':=hh) (g':=g) (d':=d) (t':=t) (ch:=[]) un hok bare (λb z=>absurd z (by simp)),r,q⟩
end
def agf (sp:Sp) (dvs:List V) (E:XK) (t:TA):TE:=λσ H Q=>t σ H λvs H1=>sp (vs++dvs) H1 Q E
def Binds (K:FG_) (fd:FuncData) (ps:LS_) (ds:List Value):Prop:=
 ∀ (s:Shared) (us:List Value),K.In s.heap->(us++ds).length=ps.length->BindsTo s fd ⟨us,[]⟩ (ps.zip (us++ds))
theorem Binds.all (h:∀ us:List Value,us.length=ps.length->bindArgs fd ⟨us,[]⟩=pure (ps.zip us)):Binds K fd ps []:=λs us _ hl=>by
 rw[QY] at hl ⊢;exact .of_eq (h us hl)
def Passes (CX:Uw) (X:Cx) (E:XK):Prop:=∀ (pins:List (Addr×Obj)) (σ:St) (H:Hp) (s:Shared) (e:Value) (s':Shared),Inv X pins σ H s->CX X.stack H s E e s'->X.xe e s'
section
variable {X:Cx} {CX:Uw} {k:Nat} {f:Addr} {sp:Sp} {dvs:List V} {ds:List Value} {E:XK} {m:Str} {p:Pos} {o:Expr} {ta:TE} {t:TA}
theorem adS {σ:St} {H:Hp} {Q:VK} {vs:List V} (F:lB X.prog X.w X.K X.mg X.base CX k f fd ps sp) (hr:g8 k X.A) (hb:Binds X.K fd ps ds) (hd:Vals dvs ds) (hx:Passes CX X E) (I:Inv X pins σ H s) (r:Vals vs us) (h:sp (vs++dvs) H Q E):wpAny (model X.prog X.w) X.A (call (.ref f) us) (EP X pins σ Q) X.xe s:=by
 have r2:Vals (vs++dvs) (us++ds):=r.append hd;have hl:(us++ds).length=ps.length:=by rw[<-r2.length];exact F.len _ _ _ _ h
 refine KF (k8 (F.run X.A X.stack s H ⟨us,[]⟩ (us++ds) (vs++dvs) Q E hr I.env0 (hb s us I.K5 hl) r2 h) λr s' hq=>?_);cases r with
 |error e=>exact hx pins σ H s e s' I hq
 |ok fl=>
  cases fl with
  |ret u=>exact I.after hq
  |next=>exact False.elim hq
  |brk=>exact False.elim hq
  |cont=>exact False.elim hq
theorem Jc (F:lB X.prog X.w X.K X.mg X.base CX k f fd ps sp) (hr:g8 k X.A) (hg:Gl X x) (hm:X.mg x=some (.ref f)) (hk:keepIn X.K (.ref f)=true) (hb:Binds X.K fd ps ds) (hd:Vals dvs ds) (hx:Passes CX X E)
  (ha:PA X (e::es) t) (hdb:(x==("__debug__" : Str))=false:=by decide) (he:starEach (e::es) X.env=(false,eval e X.env)::starEach es X.env:=by rfl) (hpl:(backTo pos (starEach es X.env)).any (·.1)=false:=by rfl) :
  PE X (.Call (.Name x p) (e::es) [] pos) (agf sp dvs E t):=by
 intro pins s σ H Q I h;refine kq (wJ I hg hm ?_ hdb);refine yf (h₀:=X.base) I.ok.mod.kin hk (iI (ha pos pins s σ H _ I h) λus s1 ⟨vs,H1,I1,r,q⟩=>⟨I1.K5,?_⟩) he hpl;exact adS F hr hb hd hx I1 r q
end
section
variable {X:Cx} {CX:Uw} {k:Nat} {f:Addr} {ks:LS_} {sp:Sp} {E:XK} {m:Str} {p kpos:Pos} {o:Expr} {kws:List Keyword} {te ta:TE} {t tk:TA} {nm:Option Str}
variable {g:List Value->List Value->List Value} {gV:List V->List V->List V}
end
structure bw (N P:LS_) (sc:Scope):Prop where
 kind:sc.kind=.function
 co:sc.isCoroutine=false
 gen:sc.isGenerator=false
 nd:N.Nodup
 pre:N.take P.length=P
 par:∀ x∈P,sc.names.lookup x=some .local\/sc.names.lookup x=some .cell
 adT:∀ y∈sc.names,y.2≠.free
theorem G4 {kindOf:Str->Option NameKind} {x:Str}:∀ {binds:List (Str×Value)} {m:Str->Option Value},(∀ v,(x,v)∉binds)->bindL kindOf binds m x=m x
 |[],_,_=>rfl
 |(n,v)::r,m,h=>by
  unfold bindL;rw[G4 λw hw=>h w (zt _ hw)];split
  ·have:x≠n:=by rintro rfl;exact h v zo
   simp[this]
  ·rfl
theorem G5 {kindOf:Str->Option NameKind} {x:Str}:∀ {binds:List (Str×Value)} {m:Str->Option Value},(∀ v,(x,v)∉binds)->bindC kindOf binds m x=m x
 |[],_,_=>rfl
 |(n,v)::r,m,h=>by
  unfold bindC;rw[G5 λw hw=>h w (zt _ hw)];split
  ·rfl
  ·have:x≠n:=by rintro rfl;exact h v zo
   simp[this]
theorem G6 {kindOf:Str->Option NameKind} {x:Str} {v:Value}:∀ {P:LS_} {vs:List Value} {i:Nat} {m:Str->Option Value},P.Nodup->P[i]?=some x->vs[i]?=some v->kindOf x=some .local →
  bindL kindOf (P.zip vs) m x=some v
 |[],_,_,_,_,h,_,_=>by simp at h
 |_::_,[],_,_,_,_,h,_=>by simp at h
 |p::P,w::vs,0,m,nd,h1,h2,hk=>by
  simp at h1 h2;subst h1;subst h2;show bindL kindOf ((p,w)::P.zip vs) m p=_;unfold bindL;rw[G4 λv hv=>(List.nodup_cons.mp nd).1 (KO hv).1,zi hk];simp
 |p::P,w::vs,i+1,m,nd,h1,h2,hk=>by
  show bindL kindOf ((p,w)::P.zip vs) m x=_;unfold bindL;exact G6 (i:=i) (List.nodup_cons.mp nd).2 (by simpa using h1) (by simpa using h2) hk
theorem G7 {kindOf:Str->Option NameKind} {x:Str} {v:Value}:∀ {P:LS_} {vs:List Value} {i:Nat} {m:Str->Option Value},P.Nodup->P[i]?=some x->vs[i]?=some v->kindOf x≠some .local →
  bindC kindOf (P.zip vs) m x=some v
 |[],_,_,_,_,h,_,_=>by simp at h
 |_::_,[],_,_,_,_,h,_=>by simp at h
 |p::P,w::vs,0,m,nd,h1,h2,hk=>by
  simp at h1 h2;subst h1;subst h2;show bindC kindOf ((p,w)::P.zip vs) m p=_;unfold bindC;rw[G5 λv hv=>(List.nodup_cons.mp nd).1 (KO hv).1,zC hk];simp
 |p::P,w::vs,i+1,m,nd,h1,h2,hk=>by
  show bindC kindOf ((p,w)::P.zip vs) m x=_;unfold bindC;exact G7 (i:=i) (List.nodup_cons.mp nd).2 (by simpa using h1) (by simpa using h2) hk
def start (N:LS_) (vs:List V):St:=vs.map some++List.replicate (N.length - vs.length) none
def sO (CX:Uw) (P:Program) (w:World) (K:FG_) (mg:Str->Option Value) (base:Heap) (N:LS_) (qual:Str) (scope:Scope) (f:Addr) (cd:Value) (A:Around) (outer:List Env) (s:Shared) (H:Hp) (E:XK):Cx where
 prog:=P
 w:=w
 K:=K
 mg:=mg
 base:=base
 A:=A.deeper (envOfC qual scope s.heap.objs.size f cd)
 N:=N
 s₀:=s
 H₀:=H
 env:=envOfC qual scope s.heap.objs.size f cd
 outer:=outer
 stack:=envOfC qual scope s.heap.objs.size f cd::outer
 ex:=[]
 calm:=true
 fn:=λ_=>true
 pn:=[]
 xe:=λe s'=>wpAny (model P w) (A.deeper (envOfC qual scope s.heap.objs.size f cd)) (leaving (envOfC qual scope s.heap.objs.size f cd) e) (λ_ s''=>CX outer H s E e s'') (λe' s''=>CX outer H s E e' s'') s'
theorem K8 {sc:Scope} (h:sc.names.lookup x=some .cell):∃ c,(cellsFrom n sc.names []).lookup x=some c:=by
 have q:=cellsFrom_some sc.names n [] (.inl h);exact Option.isSome_iff_exists.mp q
theorem G8 {CX:Uw} {f:Addr} {cd:Value} {s1:Shared} {H:Hp} {E:XK} {vs:List V} (S:bw N ps scope) (hd:A.handled=none) (e0:K7 P w K mg base A outer s H) (hl:vs.length=ps.length) (r:Vals vs us) (x:InCallC s s.heap.objs.size (bindL (envOfC qual scope s.heap.objs.size f cd).kindOf (ps.zip us) λ_=>none) (cellsFrom (s.heap.objs.size+1) scope.names []) (bindC (envOfC qual scope s.heap.objs.size f cd).kindOf (ps.zip us) λ_=>none) s1) :
  Inv (sO CX P w K mg base N qual scope f cd A outer s H E) [] (start N vs) H s1:=by
 have hpl:ps.length<=N.length:=by have:=congrArg List.length S.pre;rw[JJ] at this;omega
 obtain⟨h1,tk,rfl,hk⟩:=x.done;have noA:∀ b:Addr,b∉(sO CX P w K mg base N qual scope f cd A outer s H E).ex:=λb z=>absurd (show b∈([]:List Addr) from z) (by simp);refine⟨⟨e0.mod,S.kind,rfl,rfl,zg _,λy z c h1 h2=>?_,λy hy=>?_,λy c _ h=>?_,λ_=>hd,Around.frames_deeper e0.frames,.inr ⟨rfl,rfl⟩,λb z=>absurd z (noA b),e0.bs,e0.Wr,λb _ _=>noA b,λb z=>absurd z (noA b),e0.vA,e0.frf⟩,
  rfl,e0.bare,Un.kept hk,⟨_,x.toInCall.ns,λi y v h1 h2 h3=>?_⟩,λy c h=>⟨_,x.cell y c h⟩,e0.hok.fresh (zg _),λy c h=>?_,λp hp=>absurd (show p∈([]:List (Addr×Obj)) from hp) (by simp),e0.hok.kept hk,?_⟩
 ·exact name_of_addr x.apart (ke h1) (ke h2)
 ·have hy:scope.names.lookup y=some .cell\/scope.names.lookup y=some .free:=hy;rcases hy with hy|hy
  ·exact K8 hy
  ·exact absurd rfl (S.adT _ (ke hy))
 ·exact QU (x.above y c (ke h))
 ·have hi:i < vs.length:=by
   unfold start at h2;by_cases hi:i < vs.length
   ·exact hi
   ·rw[qr (by simpa using hi)] at h2;rw[QN] at h2;split at h2<;>cases h2
  have ha:vs[i]?=some v:=by
   unfold start at h2;rw[ZN (by simpa using hi),Zl] at h2;cases e:vs[i]? with
   |none=>rw[e] at h2;cases h2
   |some a=>rw[e] at h2;cases h2;rfl
  obtain⟨u,hu,rv⟩:=r.get ha;have hp:ps[i]?=some y:=by
   rw[<-S.pre,List.getElem?_take_of_lt (by omega)];exact h1
  have ndP:ps.Nodup:=by rw[<-S.pre];exact S.nd.sublist (List.take_sublist _ _)
  refine⟨u,rv,?_⟩;rcases S.par y (qE hp) with k|k
  ·exact .inl ⟨k,G6 ndP hp hu k⟩
  ·obtain⟨c,e⟩:=K8 (n:=s.heap.objs.size+1) k;refine .inr ⟨.inl k,c,e,?_⟩;have q:=x.cell y c e;rw[G7 ndP hp hu (by show scope.names.lookup y≠_;rw[k];decide)] at q;exact q
 ·exact e0.hok.fresh (QU (x.above y c (ke h)))
 ·unfold start;show _=N.length;rw[Zs,zl,List.length_replicate];omega
theorem acK {CX:Uw} {k:Nat} {f:Addr} {params:Arguments} {dV kV doc pm cdv ct oc:Value} {an od:Option Addr} {sp:Sp} (lk:K.lookup f=some ⟨oc,od,.func (fnOf name qual params body scope dV kV doc pm an cdv ct),osl⟩) (hcd:codeIn K cdv qual=true) (S:bw N ps scope) (len:∀ vs H Q E,sp vs H Q E->vs.length=ps.length) (hbody:∀ (A:Around) (outer:List Env) (s:Shared) (H:Hp) (vs:List V) (Q:VK) (E:XK),g8 k (A.deeper (envOfC qual scope s.heap.objs.size f cdv))->sp vs H Q E →
   ∃ t,Ba (sO CX P w K mg base N qual scope f cdv A outer s H E) body t/\t { nx:=λ_ H'=>Q .non H',rt:=Q } (start N vs) H) :
  lB P w K mg base CX (k+1) f (fnOf name qual params body scope dV kV doc pm an cdv ct) ps sp:=by
 refine⟨len,λA outer s H args us vs Q E hr e0 hb r hsp=>?_⟩;have hl:=len _ _ _ _ hsp;have KX:K.In s.heap:=e0.mod.kin.keeps λb o e=>(e0.bs b o e).1;have lim:s.heap.NoLimit:=e0.mod.nolimit.keeps λb o e=>(e0.bs b o e).1;have hkind:∀ y∈ps.zip us,scope.names.lookup y.1=some .local\/(scope.names.lookup y.1=some .cell/\((cellsFrom (s.heap.objs.size+1) scope.names []).lookup y.1).isSome=true):=λ⟨n,v⟩ hy=>by
  rcases S.par n (KO hy).1 with q|q
  ·exact .inl q
  ·exact .inr ⟨q,cellsFrom_some _ _ _ (.inl q)⟩
 refine codeAny_call_function hr.depth (KX _ _ lk) rfl S.co S.gen rfl (codeRec_of KX hcd) (hb _ _ _ _ ?_);refine wpAny_newFunctionEnv_cells S.kind hkind λenv he s1 x=>?_;subst he;refine⟨lim.keeps x.toInCall.keep,codeAny_func ?_⟩;obtain⟨t,ht,hq⟩:=hbody A outer s H vs Q E (hr.deeper _) hsp;have I:Inv (sO CX P w K mg base N qual scope f cdv A outer s H E) [] (start N vs) H s1:=G8 S hr.hd e0 hl r x;refine ZU (ht [] s1 (start N vs) H _ I hq) (λfl s' hs=>?_) λe s' hs=>hs;have fin:∀ {σ':St} {H':Hp} {v:V} {u:Value},Inv (sO CX P w K mg base N qual scope f cdv A outer s H E) [] σ' H' s'->RelV v u->Q v H'->CE outer P w H s Q u s':=
  λ{σ' H' v u} J rv q=>⟨v,H',J.os,J.bare,J.base,J.hok,rv,q⟩
 cases fl with
 |ret u=>
  obtain⟨v,σ',H',J,rv,q⟩:=hs;exact fin J rv q
 |next=>
  obtain⟨σ',H',J,q⟩:=hs;exact fin (v:=V.non) (u:=Value.none) J rfl q
 |brk=>
  obtain⟨_,_,_,q⟩:=hs;exact False.elim q
 |cont=>
  obtain⟨_,_,_,q⟩:=hs;exact False.elim q
end L2
namespace L2
section
variable {X:Cx} {p:Pos} {t:TA} {id T:String} {r:List V->Hp->VK->Prop}
def tCB (r:List V->Hp->VK->Prop) (t:TA):TE:=λσ H Q=>t σ H λvs H1=>r vs H1 Q
theorem dX (hc:eE X (.builtin id) r) (hg:Gl X x) (hm:X.mg x=none) (hv:bootBuiltins x=some (.builtin id)) (ha:PA X (e::es) t) (hn:x ≠ "__name__" := by decide) (hdb:(x==("__debug__" : Str))=false:=by decide)
  (he:starEach (e::es) X.env=(false,eval e X.env)::starEach es X.env:=by rfl) (hpl:(backTo pos (starEach es X.env)).any (·.1)=false:=by rfl):PE X (.Call (.Name x p) (e::es) [] pos) (tCB r t):=by
 intro pins s σ H Q I h;refine kq (BK I hg hm hv ?_ hn hdb);exact PyProof.Rows.callWith_builtin1 (iI (ha pos pins s σ H _ I h) λus s1 ⟨vs,H1,I1,r1,q1⟩=>hc pins s1 σ H1 vs us Q I1 r1 q1) he hpl
theorem G9 (hc:eE X (.type T) r) (hg:Gl X x) (hm:X.mg x=none) (hv:bootBuiltins x=some (.type T)) (ha:PA X (e::es) t) (hn:x ≠ "__name__" := by decide) (hdb:(x==("__debug__" : Str))=false:=by decide)
  (he:starEach (e::es) X.env=(false,eval e X.env)::starEach es X.env:=by rfl) (hpl:(backTo pos (starEach es X.env)).any (·.1)=false:=by rfl):PE X (.Call (.Name x p) (e::es) [] pos) (tCB r t):=by
 intro pins s σ H Q I h;refine kq (BK I hg hm hv ?_ hn hdb);exact PyProof.Rows.callWith_type1 (iI (ha pos pins s σ H _ I h) λus s1 ⟨vs,H1,I1,r1,q1⟩=>hc pins s1 σ H1 vs us Q I1 r1 q1) he hpl
end
end L2
namespace HT
open PySem PyProof.Rows
section
open PySem.SeqAt
open PySem.AutoSeq1 (wpAny_loadPart')
open PySem.MeetsSeq PySem.MeetsSeq2 PySem.MeetsSeq3
end
theorem aal {t b:Addr} {vs ws:List Value} {Q:VP_} (ht:IsTup s.heap t vs.toArray) (hb:IsTup s.heap b ws.toArray) (hv:vs≠[])
  (h1:ws=[]->Q (.ref t) s) (h2:ws≠[]->Q (.ref s.heap.objs.size) { s with heap:=s.heap.push { cls:=.type "tuple", data:=.seq (vs++ws).toArray } })
  (hsz:vs.length+ws.length<=sizeLine):wpAny (model prog w) A (binaryOp .Add (.ref t) (.ref b)) Q E s:=by
 obtain⟨⟨cls,dd,data,sl⟩,ho,hc,n,hd⟩:=id ht;obtain⟨⟨cls2,dd2,data2,sl2⟩,ho2,hc2,n2,hd2⟩:=id hb;simp only at hc hd hc2 hd2;subst hc hd hc2 hd2;have e:vs.toArray++ws.toArray=(vs++ws).toArray:=by simp
 by_cases hw:ws=[]
 ·exact concat_meets ⟨_,ho,rfl⟩ ⟨_,ho2,rfl⟩ noFill_tuple_add seq_tuple_add PySem.F.slot_tuple_add yT (yo _ _)
   (tuple_addW1 t b vs.toArray ws.toArray n n2 dd dd2 sl sl2 (by simpa using hv) (by simp[hw])) ⟨ho,ho2,h1 hw⟩
 ·refine concat_meets ⟨_,ho,rfl⟩ ⟨_,ho2,rfl⟩ noFill_tuple_add seq_tuple_add PySem.F.slot_tuple_add yT (yo _ _)
   (tuple_addW2 t b vs.toArray ws.toArray n n2 dd dd2 sl sl2 (by simpa using hv) (by simpa using hw) (by rw[zz,zz];exact hsz)) ⟨ho,ho2,?_⟩
  rw[e];exact h2 hw
def ig (n d:Nat):Option Int->Nat
 |none=>d
 |some v=>if v < 0 then(v+(n:Int)).toNat else min v.toNat n
theorem K9 (n d:Nat):ig n d none=d:=rfl
theorem RW (n d k:Nat):ig n d (some (k:Int))=min k n:=by
 show(if(k:Int) < 0 then((k:Int)+(n:Int)).toNat else min (k:Int).toNat n)=min k n;rw[zC (by omega),kC]
theorem adU (n d:Nat) (hd:d<=n) (o:Option Int):ig n d o<=n:=by
 cases o with
 |none=>exact hd
 |some v=>
  show(if v < 0 then(v+(n:Int)).toNat else min v.toNat n)<=n;by_cases hv:v < 0
  ·rw[zi hv];omega
  ·rw[zC hv];exact Nat.min_le_right _ _
theorem RZ (v:Int) (n d:Nat):(if v < 0 then max (v+(n:Int)) 0 else min v (n:Int))=((ig n d (some v):Nat):Int):=by
 show(if v < 0 then max (v+(n:Int)) 0 else min v (n:Int))=(((if v < 0 then(v+(n:Int)).toNat else min v.toNat n):Nat):Int);by_cases hv:v < 0
 ·simp only[zi hv];omega
 ·simp only[zC hv];omega
theorem Qd (lo hi:Option Int) (n:Nat):Builtin.Slice.sliceAdjust lo hi 1 (n:Int)=(((ig n 0 lo:Nat):Int),((ig n n hi:Nat):Int)):=by
 have h1:¬ ((1:Int) < 0):=by omega
 unfold Builtin.Slice.sliceAdjust;simp only[h1,ZI];refine Prod.ext ?_ ?_
 ·cases lo with
  |none=>rfl
  |some v=>exact RZ v n 0
 ·cases hi with
  |none=>rfl
  |some v=>exact RZ v n n
theorem Qe (i j:Nat):Builtin.Slice.slicePlaces (i:Int) (j:Int) 1=j - i:=by
 unfold Builtin.Slice.slicePlaces;have h1:(1:Int) > 0:=by omega
 simp only[h1,qS,Int.ediv_one];split<;>omega
theorem BW {o:Option Int} {Q:Option Int->Shared->Prop} (p:IsPart v o) (h:Q o s):wpAny (model prog w) A (Builtin.Slice.slicePartIndex v) Q E s:=by
 cases p with
 |none=>exact slicePart_none h
 |int i t=>exact slicePart_int h
theorem qg {sl:Addr} {vl vu:Value} {Q:Int×Int×Nat->Shared->Prop} (hs:s.heap.IsSliceOf sl vl vu .none) (pl:IsPart vl lo) (pu:IsPart vu hi) (h:Q (((ig n 0 lo:Nat):Int),1,ig n n hi - ig n 0 lo) s):wpAny (model prog w) A (Builtin.Slice.sliceApplied (.ref sl) (pure (n:Int))) Q E s:=by
 obtain⟨os,hos,hcs,hds⟩:=id hs;unfold Builtin.Slice.sliceApplied Builtin.Slice.sliceFields;refine zb (zb (Q4 hos hds (x:=vl) rfl (zb (Q4 hos hds (x:=vu) rfl (zb (Q4 hos hds (x:=.none) rfl (ze ?_)))))));refine zb (slicePart_none ?_);show wpAny _ _ (if((1:Int)==0)=true then _ else _) _ _ s;rw[zC (by decide)];refine zb (BW pl (zb (BW pu (zb (ze ?_)))));show wpAny _ _ (match Builtin.Slice.sliceAdjust lo hi 1 (n:Int) with|(lo,hi)=>pure (lo,(1:Int),Builtin.Slice.slicePlaces lo hi 1)) _ _ s;rw[Qd lo hi n];show wpAny _ _ (pure (((ig n 0 lo:Nat):Int),(1:Int),Builtin.Slice.slicePlaces ((ig n 0 lo:Nat):Int) ((ig n n hi:Nat):Int) 1)) _ _ s;rw[Qe];exact ze h
theorem WQ (xs:Array Value) (i k:Nat):((List.range k).filterMap λ(m:Nat)=>xs[((i:Int)+(m:Int) * 1).toNat]?).toArray=((xs.toList.drop i).take k).toArray:=by
 have e:(λ(m:Nat)=>xs[((i:Int)+(m:Int) * 1).toNat]?)=λm=>xs[i+m]?:=by
  funext m;have:((i:Int)+(m:Int) * 1).toNat=i+m:=by omega
  rw[this]
 rw[e];have:=pick_run xs i k;rw[List.filterMap_map] at this;have e2:((λx=>xs[x]?) ∘ λx=>i+x)=λm=>xs[i+m]?:=rfl;rw[e2] at this;rw[this]
theorem wO {t sl:Addr} {vl vu:Value} {Q:VP_} (ht:IsTup s.heap t items) (hs:s.heap.IsSliceOf sl vl vu .none) (pl:IsPart vl lo) (pu:IsPart vu hi) (hw:¬ (ig items.size 0 lo=0/\ig items.size items.size hi=items.size)) (h:Q (.ref s.heap.objs.size) { s with heap:=s.heap.push { cls:=.type "tuple", data:=.seq ((items.toList.drop (ig items.size 0 lo)).take (ig items.size items.size hi - ig items.size 0 lo)).toArray } }) (hsz:items.size<=sizeLine):wpAny (model prog w) A (getItem (.ref t) (.ref sl)) Q E s:=by
 have R0:sizeOk (.seq ((items.toList.drop (ig items.size 0 lo)).take (ig items.size items.size hi - ig items.size 0 lo)).toArray):=by
  show((items.toList.drop (ig items.size 0 lo)).take (ig items.size items.size hi - ig items.size 0 lo)).toArray.size<=sizeLine;rw[zz,JJ,kg,qh];omega
 have hj:ig items.size items.size hi<=items.size:=adU _ _ (zg _) hi;obtain⟨os,hos,hcs,hds⟩:=id hs;have hTs:s.TypeIs (.ref sl) "slice" := ⟨os,hos,hcs⟩;unfold getItem
 try with_reducible refine qo ?_
 first|refine zb (ze ?_)|skip
 refine zb (wpAny_sequenceKey ht.typeIs (by decide) ?_);refine zb (k6 (name:=Str.ofString "__getitem__") ht.typeIs PyProof.Rows.slot_tuple_getitem
  (JI PyProof.Rows.slot_tuple_getitem ht.typeIs entry_tuple_getitem ?_ (args_tuple_getitem _ _)))
 show wpAny _ _ (Builtin.Tuple.tupleItemsOf (.ref t) >>= _) _ _ s;refine zb (tupleItemsOf_ ht ?_);refine zb (QQ hTs ?_);rw[zi (by decide)];refine zb (qg hs pl pu ?_);have hno:¬ ((((ig items.size 0 lo:Nat):Int)==0&&(1:Int)==1&&(ig items.size items.size hi - ig items.size 0 lo)==items.size)=true):=by
  intro q;rw[ZE,ZE] at q;have q1:((ig items.size 0 lo:Nat):Int)=0:=eq_of_beq q.1.1;have q2:ig items.size items.size hi - ig items.size 0 lo=items.size:=eq_of_beq q.2;exact hw ⟨by omega,by omega⟩
 show wpAny _ _ (if(((ig items.size 0 lo:Nat):Int)==0&&(1:Int)==1&&(ig items.size items.size hi - ig items.size 0 lo)==items.size)=true then _ else _) _ _ s;rw[zC hno,WQ]
 first
  |exact zb (m:=Builtin.Tuple.tupleExact _) (qa (ze ⟨_,rfl,ze h⟩) R0)
  |exact zb (m:=Builtin.Tuple.tupleExact _) (qa (zb (ze (ze ⟨_,rfl,ze h⟩))) R0)
  |exact zb (zb (m:=Builtin.Tuple.tupleExact _) (qa (ze (ze ⟨_,rfl,ze h⟩)) R0))
  |exact zb (zb (m:=Builtin.Tuple.tupleExact _) (qa (ze ⟨_,rfl,ze h⟩) R0))
end HT
namespace L2
abbrev TO:=St->Hp->(Option Int->Hp->Prop)->Prop
def PO (X:Cx) (e:Option Expr) (t:TO):Prop:=
 ∀ (pins:List (Addr×Obj)) (s:Shared) (σ:St) (H:Hp) (Q:Option Int->Hp->Prop),Inv X pins σ H s->t σ H Q →
  wpAny (model X.prog X.w) X.A (evalPart e X.env) (λu s'=>∃ o H',Inv X pins σ H' s'/\IsPart u o/\Q o H') X.xe s
def aam:TO:=λ_ H Q=>Q none H
def agh (t:TE):TO:=λσ H Q=>t σ H λx H1=>∃ i,x=.int i/\Q (some i) H1
section
variable {X:Cx} {te:TE} {lo hi:Option Expr} {tl th:TO}
theorem aan:PO X none aam:=by
 intro pins s σ H Q I h;rw[evalPart_none];exact ze ⟨none,H,I,.none,h⟩
theorem aao (h:PE X e te):PO X (some e) (agh te):=by
 intro pins s σ H Q I hw;rw[evalPart_some];refine iI (h pins s σ H _ I hw) λu s1 ⟨x,H1,I1,r1,q1⟩=>?_;obtain⟨i,rfl,q⟩:=q1;obtain⟨t,rfl⟩:=r1;exact⟨some i,H1,I1,.int i t,q⟩
def SlR (X:Cx) (r:V->Option Int->Option Int->Hp->VK->Prop):Prop:=
 ∀ (pins:List (Addr×Obj)) (s:Shared) (σ:St) (H:Hp) (x:V) (v vl vu:Value) (lo hi:Option Int) (sl:Addr) (Q:VK),Inv X pins σ H s->RelV x v->s.heap.IsSliceOf sl vl vu .none->IsPart vl lo->IsPart vu hi->r x lo hi H Q →
  ∃ T id,typeLookup (.type T) "__getitem__" = pure (some (.builtin id))/\s.TypeIs v T/\wpAny (model X.prog X.w) X.A (getItem v (.ref sl)) (EP X pins σ Q) X.xe s
def tSl (r:V->Option Int->Option Int->Hp->VK->Prop) (te:TE) (tl th:TO):TE:=λσ H Q=>te σ H λx H1=>tl σ H1 λl H2=>th σ H2 λu H3=>r x l u H3 Q
theorem WR {r:V->Option Int->Option Int->Hp->VK->Prop} (hr:SlR X r) (he:PE X e te) (hl:PO X lo tl) (hu:PO X hi th):PE X (.Subscript e (.Slice lo hi none p2) pos) (tSl r te tl th):=by
 intro pins s σ H Q I h;refine Subscript_ (iI (he pins s σ H _ I h) λv s1 ⟨x,H1,I1,r1,q1⟩=>?_);refine wpAny_Slice (iI (hl pins s1 σ H1 _ I1 q1) λvl s2 ⟨l,H2,I2,pl,q2⟩=>iI (hu pins s2 σ H2 _ I2 q2) λvu s3 ⟨u,H3,I3,pu,q3⟩=>?_);rw[evalPart_none];refine ze ?_;have I4:Inv X pins σ H3 { s3 with heap:=s3.heap.push { cls:=.type "slice", data:=.fields #[vl,vu,.none] } }:=I3.kept (t':=s3.toks) λb ob q=>zd _ q;obtain⟨T,id,hT,ht,hg⟩:=hr pins { s3 with heap:=s3.heap.push { cls:=.type "slice", data:=.fields #[vl,vu,.none] } } σ H3 x v vl vu l u s3.heap.objs.size Q I4 r1 (Heap.IsSliceOf.new ..) pl pu q3;show wpAny (model X.prog X.w) X.A (subscriptTail e (.Slice lo hi none p2) v (.ref s3.heap.objs.size)) (EP X pins σ Q) X.xe { s3 with heap:=s3.heap.push { cls:=.type "slice", data:=.fields #[vl,vu,.none] } };exact tail_any (ops:=[.ref s3.heap.objs.size,v]) ht hT hg (by with_unfolding_all rfl)
def La (xs:List V) (lo hi:Option Int):List V:=(xs.drop (HT.ig xs.length 0 lo)).take (HT.ig xs.length xs.length hi - HT.ig xs.length 0 lo)
theorem zH (xs:List V) (lo hi:Option Int):(La xs lo hi).length<=xs.length:=by
 unfold La;rw[JJ,kg];omega
def ait (K:FG_):V->Option Int->Option Int->Hp->VK->Prop:=λx lo hi H Q=>∃ a xs,x=.ref a/\wL K H a xs ∧
 ¬ (HT.ig xs.length 0 lo=0/\HT.ig xs.length xs.length hi=xs.length)/\∀ p,H p=none->Q (.ref p) (upd H p (.tup (La xs lo hi)))
theorem adV:SlR X (ait X.K):=by
 intro pins s σ H x v vl vu lo hi sl Q I rx hs pl pu h;obtain⟨a,xs,rfl,hx,hw,q⟩:=h;cases rx;obtain⟨its,r,ht,hz⟩:=I.tuple hx;have hlen:its.toArray.size=xs.length:=by rw[zz];exact r.length.symm
 refine⟨"tuple", _,PyProof.Rows.slot_tuple_getitem.lookup,ht.typeIs,?_⟩;refine HT.wO ht hs pl pu (by rw[hlen];exact hw) ?_ (by rw[hlen];exact hz);rw[hlen];refine⟨.ref s.heap.objs.size,_,I.laid (t':=s.toks) (o:=.tup (La xs lo hi)) (λb ob q=>zd _ q) (zg _) ?_,rfl,q _ (I.hok.fresh (zg _))⟩;exact⟨Zp (zH xs lo hi) hz,_,(r.drop (HT.ig xs.length 0 lo)).take (HT.ig xs.length xs.length hi - HT.ig xs.length 0 lo),sX.new _ _⟩
def agi (K:FG_):R2:=λx y H Q=>∃ a b xs ys,x=.ref a/\y=.ref b/\wL K H a xs/\wL K H b ys/\xs≠[]/\xs.length+ys.length<=sizeLine ∧
 (ys=[]->Q (.ref a) H)/\(ys≠[]->∀ p,H p=none->Q (.ref p) (upd H p (.tup (xs++ys))))
theorem Vals.Bc {xs:List V} (r:Vals xs us):us=[]↔xs=[]:=by
 cases r with
 |nil=>simp
 |cons _ _=>simp
theorem aap:wM X (binaryOp .Add) (agi X.K):=by
 intro pins s σ H x y v u Q I rx ry h;obtain⟨a,b,xs,ys,rfl,rfl,ha,hb,hx,hz,q1,q2⟩:=h;cases rx;cases ry;obtain⟨its,r1,p1,_⟩:=I.tuple ha;obtain⟨its2,r2,p2,_⟩:=I.tuple hb;refine HT.aal p1 p2 (λz=>hx (r1.Bc.mp z)) (λz=>⟨.ref a,H,I,rfl,q1 (r2.Bc.mp z)⟩) (λz=>?_) (by rw[<-r1.length,<-r2.length];exact hz);refine⟨.ref s.heap.objs.size,_,I.laid (t':=s.toks) (o:=.tup (xs++ys)) (λb ob q=>zd _ q) (zg _) ?_,rfl,q2 (λw=>z (r2.Bc.mpr w)) _ (I.hok.fresh (zg _))⟩;exact⟨by rw[Zs];exact hz,_,r1.append r2,sX.new _ _⟩
end
end L2
namespace L2
def ixN (n:Nat) (i:Int):Option Nat:=if 0<=i then(if i < n then some i.toNat else none) else if -(n:Int)<=i then some (i+n).toNat else none
def BX (xs:List α) (i:Int):Option α:=(ixN xs.length i).bind λj=>xs[j]?
theorem aaq {i:Int} (h:ixN n i=some j):seqIndex? i n=some j/\j < n ∧ -(n:Int)<=i/\i < n:=by
 unfold ixN at h;by_cases h0:0<=i
 ·rw[zi h0] at h;by_cases h1:i < n
  ·rw[zi h1] at h;have e:i.toNat=j:=JU h;exact⟨by rw[seqIndex_of h0 h1,e],by omega,by omega,h1⟩
  ·rw[zC h1] at h;cases h
 ·rw[zC h0] at h;by_cases h1 : -(n:Int)<=i
  ·rw[zi h1] at h;have e:(i+n).toNat=j:=JU h;exact⟨by rw[seqIndex_neg (by omega) h1,e],by omega,h1,by omega⟩
  ·rw[zC h1] at h;cases h
theorem Jd {xs:List α} {i:Int} {v:α} (h:BX xs i=some v):∃ j,seqIndex? i xs.length=some j/\xs[j]?=some v/\j < xs.length ∧ -(xs.length:Int)<=i/\i < xs.length:=by
 unfold BX at h;cases e:ixN xs.length i with
 |none=>rw[e] at h;cases h
 |some j=>
  rw[e] at h;obtain⟨h1,h2,h3,h4⟩:=aaq e;exact⟨j,h1,h,h2,h3,h4⟩
def R3 (b:Expr):Prop:=∀ o i,subscripted b false o i=operate [o,i] (getItem o i)
def IxR (X:Cx) (r:R2):Prop:=
 ∀ (value slice:Expr) (pins:List (Addr×Obj)) (s:Shared) (σ:St) (H:Hp) (x y:V) (v u:Value) (Q:VK),Inv X pins σ H s->RelV x v->RelV y u->r x y H Q →
  subscripted slice false v u=operate [v,u] (getItem v u)->wpAny (model X.prog X.w) X.A (subscriptTail value slice v u) (EP X pins σ Q) X.xe s
def MtR (X:Cx) (id:String) (r:V->List V->Hp->VK->Prop):Prop:=
 ∀ (pins:List (Addr×Obj)) (s:Shared) (σ:St) (H:Hp) (x:V) (xs:List V) (v:Value) (us:List Value) (Q:VK),Inv X pins σ H s->RelV x v->Vals xs us->r x xs H Q →
  wpAny (model X.prog X.w) X.A (call (.builtin id) (v::us)) (EP X pins σ Q) X.xe s
section
variable {X:Cx} {a b:Expr} {ta tb:TE}
theorem IxR.or {r r':R2} (h:IxR X r) (h':IxR X r'):IxR X (λx y H Q=>r x y H Q\/r' x y H Q):=by
 intro value slice pins s σ H x y v u Q I rx ry q hs;rcases q with q|q
 ·exact h value slice pins s σ H x y v u Q I rx ry q hs
 ·exact h' value slice pins s σ H x y v u Q I rx ry q hs
theorem agj {r:R2} (hr:IxR X r) (ha:PE X a ta) (hb:PE X b tb) (hs:R3 b):PE X (.Subscript a b pos) (tOp r ta tb):=by
 intro pins s σ H Q I h;exact Subscript_ (adH ha hb I h λv u s2 x y H2 I2 rx ry q=>hr a b pins s2 σ H2 x y v u Q I2 rx ry q (hs _ _))
def agk (K:FG_):R2:=λx y H Q=>∃ p xs i v,x=.ref p/\y=.int i/\sW K H p xs/\BX xs i=some v/\Q v H
def agl (K:FG_):R2:=λx y H Q=>∃ p xs i v,x=.ref p/\y=.int i/\wL K H p xs/\BX xs i=some v/\Q v H
def agm:R2:=λx y H Q=>∃ z i c,x=.str z/\y=.int i/\z.length<=sizeLine/\BX z.cps.toList i=some c/\Q (.str ⟨#[c]⟩) H
theorem aas:IxR X (agk X.K):=by
 intro value slice pins s σ H x y v u Q I rx ry h hs;obtain⟨p,xs,i,z,rfl,rfl,hq,he,q⟩:=h;cases rx;obtain⟨t,rfl⟩:=ry;obtain⟨its,r,pl,hz⟩:=I.list hq;obtain⟨j,h1,h2,h3,h4,h5⟩:=Jd he;obtain⟨w,ew,RQ⟩:=r.get h2;have hl:=r.length;have hn:=yJ;have fin:EP X pins σ Q w s:=⟨z,H,I,RQ,q⟩;by_cases h0:0<=i
 ·have hj:i.toNat=j:=by
   rw[seqIndex_of h0 h5] at h1;exact JU h1
  exact item_listR pl.isList h0 (by omega) (by rw[hj];simpa using ew) fin hs
 ·have hj:(i+(its.toArray.size:Int)).toNat=j:=by
   rw[seqIndex_neg (by omega) h4] at h1;rw[zz,<-hl];exact JU h1
  exact subscriptTail_builtinR (x:=w) pl.isList.typeIs slot_list_getitem.lookup
   (wpAny_getItem_list_neg (Q:=λr s'=>r=w/\EP X pins σ Q r s') pl.isList (by omega) (by rw[zz]<;>omega) (by omega) (by rw[hj];simpa using ew) ⟨rfl,fin⟩) hs
theorem adX:IxR X (agl X.K):=by
 intro value slice pins s σ H x y v u Q I rx ry h hs;obtain⟨p,xs,i,z,rfl,rfl,hq,he,q⟩:=h;cases rx;obtain⟨t,rfl⟩:=ry;obtain⟨its,r,pl,hz⟩:=I.tuple hq;obtain⟨j,h1,h2,h3,h4,h5⟩:=Jd he;obtain⟨w,ew,RQ⟩:=r.get h2;have hl:=r.length;have hn:=yJ;have fin:EP X pins σ Q w s:=⟨z,H,I,RQ,q⟩;exact subscriptTail_builtinR (x:=w) pl.typeIs slot_tuple_getitem.lookup
  (getItem_tuple (j:=j) (Q:=λr s'=>r=w/\EP X pins σ Q r s') pl (by omega) (by omega) (by rw[zz,<-hl];exact h1) (by simpa using ew) ⟨rfl,fin⟩) hs
theorem adY:IxR X agm:=by
 intro value slice pins s σ H x y v u Q I rx ry h hs;obtain⟨z,i,c,rfl,rfl,hz,he,q⟩:=h;obtain⟨t,rfl⟩:=rx;obtain⟨t',rfl⟩:=ry;obtain⟨j,h1,h2,h3,h4,h5⟩:=Jd he;have hl:z.cps.toList.length=z.length:=by simp[Str.length]
 rw[hl] at h1 h4 h5;have hn:=yJ;exact tail_any (typeIs_str s z t) slot_str_getitem.lookup (getItem_str (c:=c) (by
  have e1:decide (i < -(2 ^ 63:Int))=false:=qf (by omega);have e2:decide (i>=2 ^ 63)=false:=qf (by omega);rw[e1,e2,Bool.or_false]) (by rw[h1];simpa using h2) ⟨.str ⟨#[c]⟩,H,I.tok _,⟨_,rfl⟩,q⟩) hs
def rIx (K:FG_):R2:=λx y H Q=>agk K x y H Q\/agl K x y H Q\/agm x y H Q
theorem adZ:IxR X (rIx X.K):=aas.or (adX.or adY)
theorem Inv.lst {σ:St} {H:Hp} {p:Addr} {xs:List V} (I:Inv X pins σ H s) (h:H p=some (.lst xs)) :
  ∃ (its:List Value) (n:Nat),Vals xs its/\s.heap.get? p=some { cls:=.type "list", data:=.seq its.toArray n }/\xs.length<=sizeLine:=by
 obtain⟨z,its,n,r,e⟩:=I.hok p _ h;exact⟨its,n,r,e,z⟩
theorem Je (lo hi:Option Int) (n:Nat):(sliceBounds lo hi none n).1=((HT.ig n 0 lo:Nat):Int)/\(sliceBounds lo hi none n).2.1=((HT.ig n n hi:Nat):Int)/\(sliceBounds lo hi none n).2.2=1:=by
 refine⟨?_,?_,rfl⟩
 ·cases lo with
  |none=>simp[sliceBounds,HT.ig]
  |some i=>
   simp only[sliceBounds,HT.ig,Option.getD_none,show(1:Int) > 0 by decide,qS];by_cases h:i < 0
   ·simp only[h,qS]<;>omega
   ·simp only[h,ZI]<;>omega
 ·cases hi with
  |none=>simp[sliceBounds,HT.ig]
  |some i=>
   simp only[sliceBounds,HT.ig,Option.getD_none,show(1:Int) > 0 by decide,qS];by_cases h:i < 0
   ·simp only[h,qS]<;>omega
   ·simp only[h,ZI]<;>omega
theorem FT (its:List Value) (lo hi:Option Int):slicePick its.toArray lo hi none=((its.drop (HT.ig its.length 0 lo)).take (HT.ig its.length its.length hi - HT.ig its.length 0 lo)).toArray:=by
 obtain⟨h1,h2,h3⟩:=Je lo hi its.toArray.size;unfold slicePick;rw[h1,h2,h3];simp only[sliceRange_one,pick_run,zz]<;>rfl
def aiu (K:FG_):V->Option Int->Option Int->Hp->VK->Prop:=λx lo hi H Q=>∃ a xs,x=.ref a/\sW K H a xs/\∀ p,H p=none->Q (.ref p) (upd H p (.lst (La xs lo hi)))
theorem aat:SlR X (aiu X.K):=by
 intro pins s σ H x v vl vu lo hi sl Q I rx hs pl pu h;obtain⟨a,xs,rfl,hx,q⟩:=h;cases rx;obtain⟨its,r,ht,hz⟩:=I.list hx;have hlen:=r.length;refine⟨"list", _,slot_list_getitem.lookup,ht.isList.typeIs,?_⟩;refine wpAny_getItem_list_slice ht.isList hs pl pu .none (by simp) ?_ (by rw[zz]<;>omega);rw[FT,<-hlen];refine⟨.ref s.heap.objs.size,_,I.laid (t':=s.toks) (o:=.lst (La xs lo hi)) (λb ob q=>zd _ q) (zg _) ?_,rfl,q _ (I.hok.fresh (zg _))⟩;exact⟨Zp (zH xs lo hi) hz,_,0,(r.drop (HT.ig xs.length 0 lo)).take (HT.ig xs.length xs.length hi - HT.ig xs.length 0 lo),zv _ rfl⟩
def rW:V->Bool
 |.non=>true
 |.bl _=>true
 |.int _=>true
 |.str _=>true
 |_=>false
def eqV:V->V->Bool
 |.non,.non=>true
 |.bl a,.bl b=>a==b
 |.bl a,.int b=>(if a then 1 else 0)==b
 |.int a,.bl b=>a==(if b then 1 else 0)
 |.int a,.int b=>a==b
 |.str a,.str b=>a==b
 |_,_=>false
theorem ad0 {y x:V} (ry:RelV y u) (rx:RelV x v) (fy:rW y=true) (fx:rW x=true):SeqAt.EqAt A s u v (eqV y x):=by
 cases y with
 |non=>
  cases ry;cases x with
  |non=>cases rx;exact SeqAt.EqAt.same _
  |bl b=>cases rx;exact SeqAt.EqAt.none_bool b
  |int b=>obtain⟨t,rfl⟩:=rx;exact SeqAt.EqAt.none_int b t
  |str b=>obtain⟨t,rfl⟩:=rx;exact SeqAt.EqAt.none_str b t
  |_=>exact absurd (show false=true from fx) ZA
 |bl a=>
  cases ry;cases x with
  |non=>cases rx;exact SeqAt.EqAt.bool_none a
  |bl b=>cases rx;exact SeqAt.EqAt.bool_bool a b
  |int b=>obtain⟨t,rfl⟩:=rx;exact SeqAt.EqAt.bool_int a b t
  |str b=>obtain⟨t,rfl⟩:=rx;exact SeqAt.EqAt.bool_str a b t
  |_=>exact absurd (show false=true from fx) ZA
 |int a=>
  obtain⟨t',rfl⟩:=ry;cases x with
  |non=>cases rx;exact SeqAt.EqAt.int_none a t'
  |bl b=>cases rx;exact SeqAt.EqAt.int_bool a t' b
  |int b=>obtain⟨t,rfl⟩:=rx;exact SeqAt.EqAt.int_int a t' b t
  |str b=>obtain⟨t,rfl⟩:=rx;exact SeqAt.EqAt.int_str a t' b t
  |_=>exact absurd (show false=true from fx) ZA
 |str a=>
  obtain⟨t',rfl⟩:=ry;cases x with
  |non=>cases rx;exact SeqAt.EqAt.str_none a t'
  |bl b=>cases rx;exact SeqAt.EqAt.str_bool a t' b
  |int b=>obtain⟨t,rfl⟩:=rx;exact SeqAt.EqAt.str_int a t' b t
  |str b=>obtain⟨t,rfl⟩:=rx;exact SeqAt.EqAt.str_str a t' b t
  |_=>exact absurd (show false=true from fx) ZA
 |_=>exact absurd (show false=true from fy) ZA
def eqU (x:V) (u:Value):Bool:=match u with
 |.none=>eqV .non x
 |.bool b=>eqV (.bl b) x
 |.int i _=>eqV (.int i) x
 |.str z _=>eqV (.str z) x
 |_=>false
theorem WT {x y:V} (r:RelV y u) (f:rW y=true):eqU x u=eqV y x:=by
 cases y with
 |non=>cases r;rfl
 |bl b=>cases r;rfl
 |int i=>obtain⟨t,rfl⟩:=r;rfl
 |str z=>obtain⟨t,rfl⟩:=r;rfl
 |_=>exact absurd (show false=true from f) ZA
theorem Jf {x:V}:∀ {xs:List V} {us:List Value},Vals xs us->xs.all rW=true->us.any (eqU x)=xs.any λy=>eqV y x
 |_,_,.nil,_=>rfl
 |y::xs,u::us,.cons r t,f=>by
  rw[ky,ZE] at f;rw[kb,kb,WT r f.1,Jf t f.2]
theorem BZ {A:Around} {s:Shared} {x:V} {v:Value} (rx:RelV x v) (fx:rW x=true):∀ {xs:List V} {us:List Value},Vals xs us->xs.all rW=true->∀ u∈us,SeqAt.EqAt A s u v (eqU x u)
 |_,_,.nil,_=>λu hu=>by cases hu
 |y::xs,u::us,.cons r t,f=>λu' hu=>by
  rw[ky,ZE] at f;rcases List.mem_cons.mp hu with rfl|hu
  ·rw[WT r f.1];exact ad0 r rx f.1 fx
  ·exact BZ rx fx t f.2 u' hu
def inV (x:V) (xs:List V):Bool:=xs.any λy=>eqV y x
def rIn (K:FG_) (neg:Bool):R2:=λx y H Q=>∃ p xs,y=.ref p/\(sW K H p xs\/wL K H p xs)/\rW x=true/\xs.all rW=true/\Q (.bl (if neg then !inV x xs else inV x xs)) H
theorem Ux:wM X (compareOp .In) (rIn X.K false):=by
 intro pins s σ H x y v u Q I rx ry h;obtain⟨p,xs,rfl,hq,fx,fs,q⟩:=h;cases ry;rcases hq with hq|hq
 ·obtain⟨its,r,pl,hz⟩:=I.list hq;refine SeqAt.in_listAt (eqU x) pl.isList (λw hw=>BZ rx fx r fs w (by simpa using hw)) ⟨.bl _,H,I,rfl,?_⟩;rw[show its.toArray.any (eqU x)=its.any (eqU x) by simp,Jf r fs];exact q
 ·obtain⟨its,r,pl,hz⟩:=I.tuple hq;refine SeqAt.in_tupleAt (eqU x) pl (λw hw=>BZ rx fx r fs w (by simpa using hw)) ⟨.bl _,H,I,rfl,?_⟩;rw[show its.toArray.any (eqU x)=its.any (eqU x) by simp,Jf r fs];exact q
theorem Jg:eE X (.builtin "len") (λxs H Q=>∃ p ys,xs=[.ref p]/\(sW X.K H p ys\/wL X.K H p ys)/\Q (.int ys.length) H):=by
 intro pins s σ H xs us Q I r h;obtain⟨p,ys,rfl,hq,q⟩:=h;obtain⟨u,rfl,rx⟩:=vals1 r;cases rx;have hn:=yJ;rcases hq with hq|hq
 ·obtain⟨its,r',pl,hz⟩:=I.list hq;have hlen:=r'.length;exact Calls.call_len_list pl.isList (by simp only[zz]<;>omega) ⟨.int ys.length,H,I.tok _,⟨s.toks+1,by rw[zz,hlen]⟩,q⟩
 ·obtain⟨its,r',pl,hz⟩:=I.tuple hq;have hlen:=r'.length;exact len_tuple pl (by simp only[zz]<;>omega) ⟨.int ys.length,H,I.tok _,⟨s.toks+1,by rw[zz,hlen]⟩,q⟩
theorem Jh:eE X (.builtin "len") (λxs H Q=>∃ z,xs=[.str z]/\z.length<=sizeLine/\Q (.int z.length) H):=by
 intro pins s σ H xs us Q I r h;obtain⟨z,rfl,hz,q⟩:=h;obtain⟨u,rfl,t,rfl⟩:=vals1 r;have hn:=yJ;exact len_str (by omega) ⟨.int z.length,H,I.tok _,⟨_,rfl⟩,q⟩
theorem eE.or {f:Value} {r r':List V->Hp->VK->Prop} (h:eE X f r) (h':eE X f r'):eE X f (λxs H Q=>r xs H Q\/r' xs H Q):=by
 intro pins s σ H xs us Q I rs q;rcases q with q|q
 ·exact h pins s σ H xs us Q I rs q
 ·exact h' pins s σ H xs us Q I rs q
theorem Ji:eE X (.type "list") (λxs H Q=>∃ p ys,xs=[.ref p]/\(sW X.K H p ys\/wL X.K H p ys)/\∀ l,H l=none->Q (.ref l) (upd H l (.lst ys))):=by
 intro pins s σ H xs us Q I r h;obtain⟨p,ys,rfl,hq,q⟩:=h;obtain⟨u,rfl,rx⟩:=vals1 r;cases rx;have fin:∀ (its:List Value),Vals ys its->ys.length<=sizeLine->∀ (h':Heap) (c':Nat),(∀ b o',s.heap.get? b=some o'->h'.get? b=some o') →
   h'.get? s.heap.objs.size=some { cls:=.type "list", dict:=none,data:=.seq its.toArray c',slots:=#[] }->EP X pins σ Q (.ref s.heap.objs.size) { s with heap:=h' }:=λits r' hz h' c' kp e=>
  ⟨.ref s.heap.objs.size,_,I.laid (t':=s.toks) kp (zg _) (show eX X.prog X.w _ h' _ (.lst ys) from⟨hz,its,c',r',e⟩),rfl,q _ (I.hok.fresh (zg _))⟩
 rcases hq with hq|hq
 ·obtain⟨its,r',pl,hz⟩:=I.list hq;have hlen:=r'.length;obtain⟨o,ho,hc,n,hd⟩:=pl.isList;exact call_list_seq p (.inl rfl) ho hc hd (λh' c' kp e=>fin its r' hz h' c' kp e) (by simp only[zz]<;>omega)
 ·obtain⟨its,r',pl,hz⟩:=I.tuple hq;have hlen:=r'.length;obtain⟨o,ho,hc,n,hd⟩:=pl;exact call_list_seq p (.inr rfl) ho hc hd (λh' c' kp e=>fin its r' hz h' c' kp e) (by simp only[zz]<;>omega)
theorem FW:eE X (.type "tuple") (λxs H Q=>∃ p ys,xs=[.ref p]/\((sW X.K H p ys/\∀ l,H l=none->Q (.ref l) (upd H l (.tup ys)))\/(wL X.K H p ys/\Q (.ref p) H))):=by
 intro pins s σ H xs us Q I r h;obtain⟨p,ys,rfl,h⟩:=h;obtain⟨u,rfl,rx⟩:=vals1 r;cases rx;rcases h with⟨hq,q⟩|⟨hq,q⟩
 ·obtain⟨its,r',pl,hz⟩:=I.list hq;have hlen:=r'.length;refine call_tuple_list pl.isList (λh' kp=>?_) (by simp only[zz]<;>omega);have I1:Inv X pins σ H { s with heap:=h' }:=I.kept (t':=s.toks) kp;have I2:Inv X pins σ (upd H h'.objs.size (.tup ys)) { s with heap:=h'.push { cls:=.type "tuple", data:=.seq its.toArray } }:=
   I1.laid (t':=s.toks) (λb o e=>zd _ e) (zg _) (show eX X.prog X.w _ _ _ (.tup ys) from⟨hz,its,r',sX.new _ _⟩)
  exact⟨.ref h'.objs.size,_,I2,rfl,q _ (I1.hok.fresh (zg _))⟩
 ·obtain⟨its,r',pl,hz⟩:=I.tuple hq;exact call_tuple_same pl ⟨.ref p,H,I,rfl,q⟩
def tyV (K:FG_) (T:String) (x:V) (H:Hp):Prop:=match x with
 |.str _=>T = "str"
 |.int _=>T = "int"
 |.ref p=>(T = "list" ∧ ∃ xs,sW K H p xs)\/(T = "tuple" ∧ ∃ o,K.lookup p=some o/\o.cls=.type "tuple" ∧ o.dict=none) ∨
   (T = "dict" ∧ ((∃ kvs,H p=some (.dK kvs))\/∃ kvs,H p=some (.dT kvs)))\/(T = "set" ∧ ∃ S n,H p=some (.set S n))
 |_=>False
theorem ad1 {σ:St} {H:Hp} {T:String} {x:V} (I:Inv X pins σ H s) (r:RelV x v) (ty:tyV X.K T x H) :
  s.TypeIs v T/\∀ a,v=.ref a->∃ ob,s.heap.get? a=some ob/\ob.dict=none:=by
 cases x with
 |str z=>
  obtain⟨t,rfl⟩:=r;cases(show T = "str" from ty);exact⟨typeIs_str s z t,λ_ e=>nomatch e⟩
 |int i=>
  obtain⟨t,rfl⟩:=r;cases(show T = "int" from ty);exact⟨typeIs_int s i t,λ_ e=>nomatch e⟩
 |ref p=>
  cases r;rcases ty with⟨rfl,xs,hq⟩|⟨rfl,o,hk,hc,hd⟩|⟨rfl,hk⟩|⟨rfl,S,n,hk⟩
  ·obtain⟨its,_,pl,_⟩:=I.list hq;refine⟨pl.isList.typeIs,λa e=>?_⟩;cases e;obtain⟨o,n,e,c,hd,_⟩:=pl;exact⟨o,e,hd⟩
  ·refine⟨⟨o,I.K5 p o hk,hc⟩,λa e=>?_⟩;cases e;exact⟨o,I.K5 _ o hk,hd⟩
  ·have z:∃ o,s.heap.get? p=some o/\o.ExactDict:=by
    rcases hk with⟨kvs,hk⟩|⟨kvs,hk⟩
    ·obtain⟨_,_,_,_,o,_,_,e,ex,_⟩:=I.hok p _ hk;exact⟨o,e,ex⟩
    ·obtain⟨_,_,_,_,o,_,_,e,ex,_⟩:=I.hok p _ hk;exact⟨o,e,ex⟩
   obtain⟨o,e,ex⟩:=z;refine⟨⟨o,e,ex.1⟩,λa e2=>?_⟩;cases e2;exact⟨o,e,ex.2.1⟩
  ·obtain⟨o,_,_,_,e,ex,_⟩:=I.hok p _ hk;refine⟨⟨o,e,ex.1⟩,λa e2=>?_⟩;cases e2;exact⟨o,e,ex.2.1⟩
 |_=>exact False.elim ty
def tBM (K:FG_) (T:String) (r:V->List V->Hp->VK->Prop) (to:TE) (t:TA):TE:=λσ H Q=>to σ H λx H1=>tyV K T x H1/\t σ H1 λxs H2=>r x xs H2 Q
variable {o:Expr} {to:TE} {t:TA} {T id:String} {r:V->List V->Hp->VK->Prop}
theorem acL (pa:PlainAttrs T) (slot:Slot T name id) (hty:typeOf (.builtin id)=pure (.type "method_descriptor")) (hm:MtR X id r) (ho:PE X o to) (ha:PA X (e::es) t)
  (hbase:attributeBase o name X.env (eval o X.env)=eval o X.env:=by rfl)
  (hfew:((backTo cpos (starEach (e::es) X.env)).all (λx=>!x.1)&&(backToKw cpos (keywordEach [] X.env)).all (λx=>x.1.isSome)
   && decide ((e::es).length+([]:List Keyword).length+(if([]:List Keyword).isEmpty then 0 else 1) < 30))=true:=by rfl)
  (hline:(apos.endLine==cpos.line)=true:=by rfl) (hs:starEach (e::es) X.env=(false,eval e X.env)::starEach es X.env:=by rfl) (hplain:(backTo cpos (starEach es X.env)).any (·.1)=false:=by rfl) :
  PE X (.Call (.Attribute o name apos) (e::es) [] cpos) (tBM X.K T r to t):=by
 intro pins s σ H Q I h;refine wpAny_Call_method_late hbase hfew hline rfl (iI (ho pins s σ H _ I h) λv s1 ⟨x,H1,I1,r1,ty,q1⟩=>?_);obtain⟨h1,h2⟩:=ad1 I1 r1 ty;refine⟨T,id,pa,slot,hty,h1,h2,?_⟩;have hA:=ha cpos pins s1 σ H1 _ I1 q1;rw[hs] at hA ⊢;refine Calls.callWith_builtin (by show(false||(backTo cpos (starEach es X.env)).any (·.1))=false;rw[hplain]<;>rfl) (Calls.evalArgs_plain ?_);exact iI hA λus s2 ⟨vs,H2,I2,r2,q2⟩=>hm pins s2 σ H2 x vs v us Q I2 r1 r2 q2
end
end L2
namespace L2
def MtM (X:Cx) (id:String) (r:V->List V->Hp->VK->Prop):Prop:=
 ∀ (pins:List (Addr×Obj)) (s:Shared) (σ:St) (H:Hp) (x:V) (xs:List V) (v:Value) (us:List Value) (Q:VK),Inv X pins σ H s->RelV x v->Vals xs us->r x xs H Q →
  wpAny (model X.prog X.w) X.A (call (.builtin id) (v::us)) (EP X pins σ Q) X.xe s
theorem Vals.one:∀ {x:V} {us:List Value},Vals [x] us->∃ u,us=[u]/\RelV x u
 |_,_,.cons r .nil=>⟨_,rfl,r⟩
theorem Vals.two:∀ {x y:V} {us:List Value},Vals [x,y] us->∃ u v,us=[u,v]/\RelV x u/\RelV y v
 |_,_,_,.cons r (.cons q .nil)=>⟨_,_,rfl,r,q⟩
section
variable {X:Cx} {σ:St} {H:Hp} {l b:Addr} {xs ys zs:List V}
theorem Inv.ad2 {its':List Value} {f:Array Value->Array Value} {t':Nat} (I:Inv X pins σ H s) (hH:H l=some (.lst xs)) (e:s.heap.get? l=some { cls:=.type "list", data:=.seq its.toArray n }) (hf:f its.toArray=its'.toArray) (hv:Vals ys its') (hz:ys.length<=sizeLine) :
  Inv X pins σ (upd H l (.lst ys)) { s with heap:=s.heap.update l (Obj.mapSeq f),toks:=t' }:=by
 have q:=PySem.IsL.update e f;rw[hf] at q;refine I.write (x:=l) (e:=l) (by rw[hH];exact trivial) (.inl rfl) (λb' u hb hu=>(Q2 s.heap (Obj.mapSeq f) (km hb)).trans hu) ⟨_,q⟩ ?_;exact⟨hz,its',_,hv,q⟩
theorem Inv.aiv {t':Nat} (I:Inv X pins σ H s) (hv:Vals ys its) (hz:ys.length<=sizeLine) :
  Inv X pins σ (upd H s.heap.objs.size (.lst ys)) { s with heap:=s.heap.push { cls:=.type "list", data:=.seq its.toArray },toks:=t' }:=
 I.laid (λ_ _ q=>zd _ q) (zg _) ⟨hz,its,0,hv,zv _ rfl⟩
theorem Inv.fresh (I:Inv X pins σ H s):H s.heap.objs.size=none:=I.hok.fresh (zg _)
theorem Inv.ad3 (I:Inv X pins σ H s) (hH:H l=some (.lst xs)):xs.length<=sizeLine/\∃ (its:List Value) (n:Nat),Vals xs its/\xs.length=its.length/\s.heap.get? l=some { cls:=.type "list", data:=.seq its.toArray n }:=by
 obtain⟨z,its,n,r,e⟩:=I.hok l _ hH;exact⟨z,its,n,r,r.length,e⟩
end
section
variable {X:Cx}
def aaw:V->List V->Hp->VK->Prop:=λx vs H Q=>∃ l xs y,x=.ref l/\vs=[y]/\H l=some (.lst xs)/\xs.length < sizeLine/\Q .non (upd H l (.lst (xs++[y])))
theorem Hf:MtM X "list.append" aaw:=by
 intro pins s σ H x vs v us Q I rx rv h;obtain⟨l,xs,y,rfl,rfl,hH,hz,q⟩:=h;cases rx;obtain⟨u,rfl,ru⟩:=rv.one;obtain⟨z,its,n,r,hl,e⟩:=I.ad3 hH;refine call_meets F.slot_list_append ⟨_,e,rfl⟩ F.entry_list_append (F.args_list_append_2 _ _) (PySem.list_append l its.toArray n u (by rw[zz];omega)) ⟨e,?_⟩;refine⟨.non,_,I.ad2 (its':=its++[u]) hH e (by simp) (r.append (.cons ru .nil)) ?_,rfl,q⟩;rw[Zs,List.length_singleton];omega
def aiw:R2:=λx y H Q=>∃ l b xs zs,x=.ref l/\y=.ref b/\H l=some (.lst xs)/\H b=some (.lst zs)/\xs.length+zs.length<=sizeLine/\∀ p,H p=none->Q (.ref p) (upd H p (.lst (xs++zs)))
theorem ad4:wM X (binaryOp .Add) aiw:=by
 intro pins s σ H x y v u Q I rx ry h;obtain⟨l,b,xs,zs,rfl,rfl,hH,hB,hz,q⟩:=h;cases rx;cases ry;obtain⟨z,its,n,r,hl,e⟩:=I.ad3 hH;obtain⟨z2,its2,n2,r2,hl2,e2⟩:=I.ad3 hB;refine PySem.P.add_list e e2 ?_ (by rw[zz,zz];omega);have ea:its.toArray++its2.toArray=(its++its2).toArray:=by simp
 rw[ea];exact⟨.ref _,_,I.aiv (t':=s.toks) (r.append r2) (by rw[Zs];omega),rfl,q _ I.fresh⟩
end
section
variable {X:Cx}
end
end L2
namespace L2
section
variable [DecidableEq κ]
def Ca (kvs:List (κ×V)) (k:κ):Option V:=(kvs.find? λkv=>decide (kv.1=k)).map (·.2)
def putK (kvs:List (κ×V)) (k:κ) (v:V):List (κ×V):=
 if(kvs.any λkv=>decide (kv.1=k))=true then kvs.map (λkv=>if kv.1=k then(kv.1,v) else kv) else kvs++[(k,v)]
theorem wQ {p:κ×V} {r:List (κ×V)} {k:κ} (e:p.1=k):Ca (p::r) k=some p.2:=by simp[Ca,js,e]
theorem wR {p:κ×V} {r:List (κ×V)} {k:κ} (e:¬ p.1=k):Ca (p::r) k=Ca r k:=by simp[Ca,js,e]
theorem Lb (k:κ):∀ kvs:List (κ×V),(kvs.any λkv=>decide (kv.1=k))=(Ca kvs k).isSome
 |[]=>rfl
 |p::r=>by
  rw[kb];by_cases e:p.1=k
  ·simp only[wQ e,QA e,Bool.true_or,Option.isSome_some]
  ·rw[wR e,qf e,Bool.false_or];exact Lb k r
theorem oK (kvs:List (κ×V)) (k:κ) (v:V):(putK kvs k v).length<=kvs.length+1:=by
 unfold putK;split
 ·rw[zl];omega
 ·rw[Zs,QE,List.length_nil];omega
theorem Bv.Uy {o:Option V} {u:Option Value} (r:Bv o u):o.isSome=u.isSome:=by
 cases o with
 |none=>cases u with
  |none=>rfl
  |some _=>exact(show False from r).elim
 |some _=>cases u with
  |none=>exact(show False from r).elim
  |some _=>rfl
theorem KV.val {kvs:List (κ×V)} {vs:List (κ×Value)} (r:KV kvs vs) (k:κ):Bv (Ca kvs k) (valueAt vs k):=by
 unfold KV at r
 induction r with
 |nil=>exact True.intro
 |@cons p q ps qs h t ih=>
  obtain⟨h1,h2⟩:=h;by_cases e:p.1=k
  ·have e':q.1=k:=h1.symm.trans e;have b:valueAt (q::qs) k=some q.2:=by simp[valueAt,js,e']
   rw[wQ e,b];exact h2
  ·have e':¬ q.1=k:=λz=>e (h1.trans z);have b:valueAt (q::qs) k=valueAt qs k:=by simp[valueAt,js,e']
   rw[wR e,b];exact ih
theorem KV.any {kvs:List (κ×V)} {vs:List (κ×Value)} (r:KV kvs vs) (k:κ):(kvs.any λkv=>decide (kv.1=k))=vs.any λkv=>decide (kv.1=k):=by
 unfold KV at r
 induction r with
 |nil=>rfl
 |cons h t ih=>rw[kb,kb,ih,h.1]
theorem KV.repl {kvs:List (κ×V)} {vs:List (κ×Value)} (r:KV kvs vs) (k:κ) {y:V} (ry:RelV y u) :
  KV (kvs.map λkv=>if kv.1=k then(kv.1,y) else kv) (vs.map λkv=>if kv.1=k then(kv.1,u) else kv):=by
 unfold KV at r ⊢
 induction r with
 |nil=>exact .nil
 |@cons p q ps qs h t ih=>
  rw[zr,zr];refine .cons ?_ ih;obtain⟨h1,h2⟩:=h;by_cases e:p.1=k
  ·rw[zi e,zi (h1.symm.trans e)];exact⟨h1,ry⟩
  ·rw[zC e,zC (λz=>e (h1.trans z))];exact⟨h1,h2⟩
theorem KV.put {kvs:List (κ×V)} {vs:List (κ×Value)} (r:KV kvs vs) (k:κ) {y:V} (ry:RelV y u):KV (putK kvs k y) (stored vs k u):=by
 unfold putK stored;rw[r.any k];by_cases e:(vs.any λkv=>decide (kv.1=k))=true
 ·rw[zi e,zi e];exact r.repl k ry
 ·rw[zC e,zC e];exact Paired.snoc r ⟨rfl,ry⟩
theorem KV.length {kvs:List (κ×V)} {vs:List (κ×Value)} (r:KV kvs vs):kvs.length=vs.length:=Paired.length r
end
theorem Ld {k:Key} (r:RelV (kV k) u):(bx P w).is k u=true:=by
 cases k with
 |inl i=>obtain⟨t,e⟩:=(show ∃ t,u=Value.int i t from r);subst e;exact K3 P w i t
 |inr x=>obtain⟨t,e⟩:=(show ∃ t,u=Value.str x t from r);subst e;exact K4 P w x t
theorem Hg {P:Program} {w:World}:∀ {ks:List Key} {us:List Value},Vals (ks.map kV) us->ItemsAre (bx P w) ks us
 |[],_,r=>by rw[ko] at r;cases r;exact .nil
 |k::ks,_,r=>by
  rw[zr] at r;cases r with
  |cons h t=>exact .cons (Ld h) (Hg t)
abbrev KT (H:Hp):List (List Key×V)->List (List Key×Addr×Value)->Prop:=Paired λp q=>p.1=q.1/\H q.2.1=some (.tup (p.1.map kV))/\RelV p.2 q.2.2
theorem KT.val {H:Hp} {kvs:List (List Key×V)} {xs:List (List Key×Addr×Value)} (r:KT H kvs xs) (k:List Key):Bv (Ca kvs k) ((atKey xs k).map (·.2)):=by
 induction r with
 |nil=>exact True.intro
 |@cons p q ps qs h t ih=>
  obtain⟨h1,_,h2⟩:=h;by_cases e:p.1=k
  ·have e':q.1=k:=h1.symm.trans e;have b:atKey (q::qs) k=some q.2:=by simp[atKey,js,e']
   rw[wQ e,b];exact h2
  ·have e':¬ q.1=k:=λz=>e (h1.trans z);have b:atKey (q::qs) k=atKey qs k:=by simp[atKey,js,e']
   rw[wR e,b];exact ih
theorem KT.repl {H:Hp} {kvs:List (List Key×V)} {xs:List (List Key×Addr×Value)} (r:KT H kvs xs) (k:List Key) {y:V} (ry:RelV y u) :
  KT H (kvs.map λkv=>if kv.1=k then(kv.1,y) else kv) (xs.map (putAt k u)):=by
 induction r with
 |nil=>exact .nil
 |@cons p q ps qs h t ih=>
  rw[zr,zr];refine .cons ?_ ih;obtain⟨h1,h2,h3⟩:=h;unfold putAt;by_cases e:p.1=k
  ·rw[zi e,zi (h1.symm.trans e)];exact⟨h1,h2,ry⟩
  ·rw[zC e,zC (λz=>e (h1.trans z))];exact⟨h1,h2,h3⟩
theorem KT.put {H:Hp} {kvs:List (List Key×V)} {xs:List (List Key×Addr×Value)} (r:KT H kvs xs) (k:List Key) {b:Addr} {y:V} (hb:H b=some (.tup (k.map kV))) (ry:RelV y u) :
  KT H (putK kvs k y) (storedH xs k b u):=by
 have e:(kvs.any λkv=>decide (kv.1=k))=(atKey xs k).isSome:=by
  rw[Lb,(r.val k).Uy,Option.isSome_map]
 unfold putK storedH;rw[e];by_cases q:(atKey xs k).isSome=true
 ·rw[zi q,zi q];exact r.repl k ry
 ·rw[zC q,zC q];exact Paired.snoc r ⟨rfl,hb,ry⟩
theorem KT.keeps {H H':Hp} {kvs:List (List Key×V)} {xs:List (List Key×Addr×Value)} (r:KT H kvs xs) (ht:∀ b ys,H b=some (.tup ys)->H' b=some (.tup ys)):KT H' kvs xs:=
 Paired.Z8 r λ_ _ z=>⟨z.1,ht _ _ z.2.1,z.2.2⟩
section
variable {H:Hp}
theorem acM {u:HO} (ok:sY P w H h) (e:Rd H a u):eX P w H h a u:=e.ok ok
theorem tB {kvs:List (Key×V)} (ok:sY P w H h) (e:Rd H a (.dK kvs)):kvs.length<=sizeLine/\(a==sysModules)=false/\∃ vs,KV kvs vs/\h.DictOf (bx P w) a vs:=
 show eX P w H h a (.dK kvs) from acM ok e
theorem acN {kvs:List (Key×V)} (ok:sY P w H h) (e:H a=some (.dK kvs)):kvs.length<=sizeLine/\(a==sysModules)=false/\∃ vs,KV kvs vs/\h.DictOf (bx P w) a vs:=tB ok (.inl e)
theorem Qf {ks:List Key} (ok:sY P w H h) (e:H a=some (.tup (ks.map kV))):(tupleKind (bx P w)).is h ks a:=by
 obtain⟨_,its,r,o,h1,h2,⟨n,h3⟩,_⟩:=(show eX P w H h a (.tup (ks.map kV)) from ok a _ e);exact⟨o,its.toArray,n,h1,h2,h3,by simpa using Hg r⟩
theorem WW {kvs:List (List Key×V)} (ok:sY P w H h) (e:Rd H a (.dT kvs)):kvs.length<=sizeLine/\(a==sysModules)=false ∧
  ∃ xs,KT H kvs xs/\h.DictOfH (tupleKind (bx P w)) a xs:=by
 obtain⟨z,y,xs,r,o,es,ep,h1,h2,h3,h4,h5⟩:=(show eX P w H h a (.dT kvs) from acM ok e);refine⟨z,y,xs,r,o,es,ep,h1,h2,h3,h4,λx hx=>?_,h5⟩;have all:∀ {l:List (List Key×V)} {m:List (List Key×Addr×Value)},KT H l m->∀ x∈m,(tupleKind (bx P w)).is h x.1 x.2.1:=by
  intro l m q
  induction q with
  |nil=>intro x hx;exact nomatch hx
  |@cons p q ps qs hq t ih=>
   intro x hx;rcases List.mem_cons.mp hx with e|hx
   ·subst e;exact Qf ok (by rw[<-hq.1];exact hq.2.1)
   ·exact ih x hx
 exact all r x hx
theorem agn {kvs:List (List Key×V)} (ok:sY P w H h) (e:H a=some (.dT kvs)):kvs.length<=sizeLine/\(a==sysModules)=false ∧
  ∃ xs,KT H kvs xs/\h.DictOfH (tupleKind (bx P w)) a xs:=WW ok (.inl e)
end
def ad5 (H:Hp) (a:Addr) (y:V) (r:Option V):Prop:=
 (∃ kvs k,Rd H a (.dK kvs)/\y=kV k/\r=Ca kvs k)\/∃ kvs k b,Rd H a (.dT kvs)/\y=.ref b/\H b=some (.tup (k.map kV))/\r=Ca kvs k
def WX (H:Hp) (a:Addr) (y v:V) (H':Hp):Prop:=
 (∃ kvs k,H a=some (.dK kvs)/\y=kV k/\kvs.length < sizeLine/\H'=upd H a (.dK (putK kvs k v))) ∨
 ∃ kvs k b,H a=some (.dT kvs)/\y=.ref b/\H b=some (.tup (k.map kV))/\kvs.length < sizeLine/\H'=upd H a (.dT (putK kvs k v))
theorem WX.k {H:Hp} {a:Addr} {kvs:List (Key×V)} {k:Key} {v:V} (e:H a=some (.dK kvs)) (hl:kvs.length < sizeLine):WX H a (kV k) v (upd H a (.dK (putK kvs k v))):=.inl ⟨kvs,k,e,rfl,hl,rfl⟩
section
variable {X:Cx} {σ:St} {H:Hp} {y v:V} {r:Value} {o:Option V}
theorem Inv.big (I:Inv X pins σ H s):sysModules < s.heap.objs.size:=by
 have h:mainGlobals < s.heap.objs.size:=(I.mod.glob.keeps I.bk).lt;exact Nat.lt_trans (by decide) h
theorem Uz {Q:VP_} (hu:A.units+1 < cLine) (I:Inv X pins σ H s) (g:ad5 H a y (some v)) (ry:RelV y u) (h:∀ w' s',Inv X pins σ H s'->RelV v w'->Q w' s') :
  wpAny (model X.prog X.w) A (getItem (.ref a) u) Q E s:=by
 rcases g with⟨kvs,k,e,ey,l⟩|⟨kvs,k,b,e,ey,eb,l⟩
 ·subst ey;obtain⟨z,hd,vs,rel,dd⟩:=tB I.hok e;obtain⟨w',hw,RQ⟩:=Bv.some_of (v:=v) (o:=valueAt vs k) (by rw[l];exact rel.val k);exact wpAny_getItem_of (Ld ry) dd.mapOf hw (h w' _ (I.tok _) RQ)
 ·subst ey;cases(show u=Value.ref b from ry);obtain⟨z,hd,xs,rel,dd⟩:=WW I.hok e;obtain⟨w',hw,RQ⟩:=Bv.some_of (v:=v) (o:=(atKey xs k).map (·.2)) (by rw[l];exact rel.val k);obtain⟨p,hp,hp2⟩:=Option.map_eq_some_iff.mp hw;refine wpAny_getItem_heap (tupleKind_room_in1 hu) (Qf I.hok eb) dd hp ?_;rw[hp2];exact h w' _ (I.tok _) RQ
theorem Jj {h':Heap} {t':Nat} {ob:HO} (I:Inv X pins σ H s) (mu:Mut (H a)) (hs:Heap.SameBut a s.heap h') (he:∃ q,h'.get? a=some q) (new:eX X.prog X.w (upd H a ob) h' a ob) :
  Inv X pins σ (upd H a ob) { s with heap:=h',toks:=t' }:=
 I.write (x:=a) (e:=a) mu (.inl rfl) (λb q hb z=>(hs.2 b hb).trans z) he new
theorem WY {H':Hp} {h':Heap} {kvs:List (Key×V)} {vs:List (Key×Value)} (z:kvs.length<=sizeLine) (hd:(a==sysModules)=false) (rel:KV kvs vs) (dd:h'.DictOf (bx P w) a vs) :
  eX P w H' h' a (.dK kvs):=⟨z,hd,vs,rel,dd⟩
theorem UG {H':Hp} {Q:Unit->Shared->Prop} (hu:A.units+1 < cLine) (I:Inv X pins σ H s) (g:WX H a y v H') (ry:RelV y u) (rv:RelV v r) (h:∀ s',Inv X pins σ H' s'->Q () s') :
  wpAny (model X.prog X.w) A (setItem (.ref a) u r) Q E s:=by
 rcases g with⟨kvs,k,e,ey,l,eH⟩|⟨kvs,k,b,e,ey,eb,l,eH⟩
 ·subst ey eH;obtain⟨z,hd,vs,rel,dd⟩:=acN I.hok e;have hz:vs.length<=sizeLine:=by rw[<-rel.length];exact z
  have hl:(putK kvs k v).length<=sizeLine:=by have:=oK kvs k v;omega
  refine wpAny_setItem_pairs (hsz:=hz) (Ld ry) dd λh' dd' hs=>h _ ?_;have he:∃ q,h'.get? a=some q:=let ⟨q,_,_,hq,_⟩:=dd';⟨q,hq⟩;exact Jj I (by rw[e];exact True.intro) hs he (WY hl hd (rel.put k rv) dd')
 ·subst ey eH;cases(show u=Value.ref b from ry);obtain⟨z,hd,xs,rel,dd⟩:=agn I.hok e;have hz:xs.length<=sizeLine:=by rw[<-Paired.length rel];exact z
  have hl:(putK kvs k v).length<=sizeLine:=by have:=oK kvs k v;omega
  refine wpAny_setItem_heap (hsz:=hz) (tupleKind_room_in1 hu) (Qf I.hok eb) dd λh' dd' hs=>h _ ?_;obtain⟨q,es,ep,hq,h2,h3,h4,_,h5⟩:=dd';refine Jj I (by rw[e];exact True.intro) hs ⟨q,hq⟩ ⟨hl,hd,_,(rel.put k eb rv).keeps λc ys ec=>?_,q,es,ep,hq,h2,h3,h4,h5⟩;rw[aK (iW ec e (λz=>nomatch z))];exact ec
end
section
variable {X:Cx} {σ:St} {H:Hp} {kvs:List (Key×V)} {k:Key}
end
def ad7 (i:Expr):Prop:=∀ ov iv,subscripted i false ov iv=operate [ov,iv] (getItem ov iv)
theorem aax {value slice:Expr} {T id:String} {Q:VP_} (hl:typeLookup (.type T) "__getitem__" = pure (some (.builtin id))) (hs:ad7 slice) (h:wpAny (model prog w) A (eval value env) (λo s₁=>wpAny (model prog w) A (eval slice env) (λi s₂=>s₂.TypeIs o T/\wpAny (model prog w) A (getItem o i) Q E s₂) E s₁) E s) :
  wpAny (model prog w) A (eval (.Subscript value slice pos) env) Q E s:=by
 refine Subscript_ (ZU h (λo s₁ h₁=>ZU h₁ (λi s₂ h₂=>?_) λ_ _ x=>x) λ_ _ x=>x);obtain⟨hT,h₂⟩:=h₂;unfold subscriptTail;refine zb ?_;rw[getitemInPython_of_ne hT.not_modules];refine zb (wpAny_specialOf hT hl ?_);have fin:wpAny (model prog w) A (subscripted slice false o i) (λr s₃=>wpAny (model prog w) A (letTemporaryGo value o r >>= λ_=>pure r) Q E s₃) E s₂:=by
  rw[hs o i];exact wpAny_operating (ZU h₂ (λr s₃ h₃=>zb (wpAny_letTemporaryGo (ze h₃))) λ_ _ x=>x)
 first
  |exact ze (zb fin)
  |exact zb (ze (zb fin))
  |exact zb fin
theorem Le {X:Cx} {σ:St} {H:Hp} {y:V} {o:Option V} (I:Inv X pins σ H s) (g:ad5 H a y o):s.TypeIs (.ref a) "dict" := by
 rcases g with⟨kvs,k,e,_,_⟩|⟨kvs,k,b,e,_,_,_⟩
 ·obtain⟨_,_,vs,_,dd⟩:=tB I.hok e;exact dd.typeIs
 ·obtain⟨_,_,xs,_,dd⟩:=WW I.hok e;exact dd.typeIs
def ago (td ty:TE):TE:=λσ H Q=>td σ H λx H1=>ty σ H1 λy H2=>∃ a v,x=.ref a/\ad5 H2 a y (some v)/\Q v H2
def agp (td ty tv:TE):TS:=λD σ H=>tv σ H λv H1=>td σ H1 λx H2=>ty σ H2 λy H3=>∃ a H4,x=.ref a/\WX H3 a y v H4/\D.nx σ H4
section
variable {X:Cx} {o i value:Expr} {pos' tpos:Pos} {td ty tv:TE}
theorem aay (hu:X.A.units+1 < cLine) (ho:PE X o td) (hi:PE X i ty) (hs:ad7 i):PE X (.Subscript o i pos) (ago td ty):=by
 intro pins s σ H Q I h;refine aax PySem.F.slot_dict_getitem.lookup hs (iI (ho pins s σ H _ I h) λu s1 ⟨x,H1,I1,rx,q1⟩=>iI (hi pins s1 σ H1 _ I1 q1) λiv s2 ⟨y,H2,I2,ry,a,v,ex,g,q2⟩=>?_);subst ex;obtain rfl:u=Value.ref a:=rx;exact⟨Le I2 g,Uz hu I2 g ry λw' s3 I3 RQ=>⟨v,H2,I3,RQ,q2⟩⟩
theorem aaz (hu:X.A.units+1 < cLine) (ho:PE X o td) (hi:PE X i ty) (hv:PE X value tv) (hs:swapsWith value (some (.Subscript o i pos')) pos.line X.env=pure false) :
  PS X (.Assign [.Subscript o i pos'] value pos) (agp td ty tv):=by
 intro pins s σ H D I h;refine wpAny_Assign_Subscript (iI (hv pins s σ H _ I h) λr s1 ⟨v,H1,I1,rv,q1⟩=>iI (ho pins s1 σ H1 _ I1 q1) λu s2 ⟨x,H2,I2,rx,q2⟩=>iI (hi pins s2 σ H2 _ I2 q2) λiv s3 ⟨y,H3,I3,ry,a,H4,ex,g,q3⟩=>?_) hs;subst ex;obtain rfl:u=Value.ref a:=rx;exact UG hu I3 g ry rv λs4 I4=>⟨σ,H4,I4,q3⟩
end
theorem Lf {H:Hp} (h:Heap) (hb:sysModules < h.objs.size):eX P w H (h.push { cls:=.type "dict", data:=.dict #[] }) h.objs.size (.dK []):=
 ⟨QO _,beq_eq_false_iff_ne.mpr (km (zI hb)),[],.nil,Heap.DictOf.new h⟩
def ad8:TE:=λ_ H Q=>∀ p,H p=none->Q (.ref p) (upd H p (.dK []))
section
variable {X:Cx}
theorem W0:PE X (.Dict [] [] pos) ad8:=λpins s σ H Q I h=>
 wpAny_Dict_empty ⟨.ref s.heap.objs.size,_,I.laid (a:=s.heap.objs.size) (o:=.dK []) (t':=s.toks) (λ_ _ q=>zd _ q) (zg _) (Lf s.heap I.big),rfl,h _ (I.hok.fresh (zg _))⟩
end
structure M1 (X:Cx) (o:Expr) (m:Str) (apos:Pos) (e:Expr) (cpos:Pos):Prop where
 base:attributeBase o m X.env (eval o X.env)=eval o X.env
 few:((backTo cpos (starEach [e] X.env)).all (λx=>!x.1)&&(backToKw cpos (keywordEach [] X.env)).all (λx=>x.1.isSome)
  && decide (([e]:List Expr).length+([]:List Keyword).length+(if([]:List Keyword).isEmpty then 0 else 1) < 30))=true
 line:(apos.endLine==cpos.line)=true
 trees:backTo cpos (starEach [e] X.env)=[(false,eval e X.env)]
structure M2 (X:Cx) (o:Expr) (m:Str) (apos:Pos) (e f:Expr) (cpos:Pos):Prop where
 base:attributeBase o m X.env (eval o X.env)=eval o X.env
 few:((backTo cpos (starEach [e,f] X.env)).all (λx=>!x.1)&&(backToKw cpos (keywordEach [] X.env)).all (λx=>x.1.isSome)
  && decide (([e,f]:List Expr).length+([]:List Keyword).length+(if([]:List Keyword).isEmpty then 0 else 1) < 30))=true
 line:(apos.endLine==cpos.line)=true
 trees:backTo cpos (starEach [e,f] X.env)=[(false,eval e X.env),(false,eval f X.env)]
section
variable {X:Cx} {σ:St} {H:Hp} {y d:V} {r:Value} {o:Option V}
end
section
variable {X:Cx} {o f:Expr} {td ty tx:TE}
end
section
variable {X:Cx} {σ:St} {H:Hp} {kvs:List (Key×V)}
end
section
variable {X:Cx} {σ:St} {H:Hp} {y:V}
end
end L2
namespace Att
open PySem PySem.W PySem.Calls PyProof.Rows
theorem Aa {P:Params}:∀ (ns:List Int) (vs:List Value),WellAll P h vs (ns.map WData.int)->IntsAre vs ns:=by
 intro ns
 induction ns with
 |nil=>
  intro vs w;rw[ko] at w;cases w;exact .nil
 |cons n ns ih=>
  intro vs w;rw[zr] at w;cases w with
  |cons a b=>
   cases a;exact .cons _ _ (ih _ b)
theorem UJ {l:OpenLaw} (hn:l.most=some n) {P:Params} {args:List WData} {vals:List Value} (hpre:l.row.toRowW.claim.pre args=true) (hwl:WellAll P h vals args) :
  ∃ a vs ns,vals=[Value.ref a]/\args=[WData.list (ns.map WData.int)]/\h.get? a=some { cls:=.type "list", data:=.seq vs.toArray }/\IntsAre vs ns/\ns.length<=n:=by
 have hsh:WShape.hasAll [] args [.list .int]=true:=(pre_splitW hpre).1;have hc:l.pre.holds [] { args:=args }=true:=(pre_splitW hpre).2;obtain⟨d,r,rfl,h1,h2⟩:=hasAllW_cons hsh;obtain rfl:=hasAllW_nil h2;obtain⟨xs,rfl,h3⟩:=hasW_list h1;obtain⟨ns,rfl⟩:=items_int h3;have hlen:ns.length<=n:=by
  unfold OpenLaw.pre at hc;have h4:(WTm.not (.lt (.lit (.int (n:Int))) (.len (.arg 0)))).holds [] { args:=[.list (ns.map .int)] }=true:=by
   have h4:=(holds_andW hc).1;rw[hn] at h4;exact h4
  have h5:=condW_of h4 (w_not (w_lt w_lit (w_len_list (w_arg rfl))));rw[zl] at h5;refine Nat.le_of_not_lt λq=>?_;have q':(n:Int) < ((ns.length:Nat):Int):=by omega
  first
   |(rw[QA q'] at h5;exact absurd h5 (by decide))
   |(simp at h5;omega)
 cases hwl with
 |cons w1 w2=>
  cases w2;cases w1 with
  |list ho hall=>exact⟨_,_,ns,rfl,rfl,ho,Aa ns _ hall,hlen⟩
theorem UL (l:OpenLaw) (args:List WData):l.row.toRowW.claim.post args (.bool true) args=true:=
 postW_of (r:=l.row.toRowW) (X:=(true==true))
  (show WShape.has [] (.bool true) .bool=true by first|rfl|decide|simp[WShape.has,WShape.arms,WShape.armsAll])
  (show(WTm.eq .res (.lit (.bool true))).value [] { args:=args,res:=some (.bool true),after:=args }=some (.bool (true==true)) from w_eq_bool (w_res rfl) w_lit) rfl
theorem Lg {l:OpenLaw} {q:Program} {loose:LS_} {d:DefRec} (hn:l.most=some n) (hdf:d.params.defaults=[]) (call:∀ (w:World) (s₀ s₁:Shared) (mg mb:Str->Option Value) (fa:Addr) (o:Obj) (pm cd doc:Value) (a:Addr) (vs:List Value) (ns:List Int),
   Ground q loose [] XP w s₀ mg mb s₁.heap->YP w s₁.heap →
   s₁.heap.get? fa=some o->o.data=.func (docDef d.name d.params d.body d.scope pm cd doc)->s₁.heap.CodeRec cd d.name->mg d.name=some (.ref fa) →
   s₁.heap.get? a=some { cls:=.type "list", data:=.seq vs.toArray }->IntsAre vs ns->ns.length<=n->s₁.gens=#[] →
   codeAny (model l.prog w) callerA (.call (.ref fa) ⟨[.ref a],[]⟩) (λr s'=>r=.ok (.ret (.bool true))/\OldK s₁.heap s'.heap/\s'.os=s₁.os/\AllBare s'.gens) s₁) :
  WalkO q loose XP YP l.row.toRowW d [] (λf vs=>PySem.call f vs):=by
 intro w s₀ s₁ mg mb G Y fa o pm cd doc dV kV ho hd hcd hD hmg hg args vals as hpre hlay hrd hwl hlo;obtain rfl:dV=.none:=Dflts.none hD hdf;obtain rfl:kV=.none:=Dflts.noKw hD;obtain⟨a,vs,ns,rfl,rfl,hobj,hints,hlen⟩:=UJ hn hpre hwl;refine enter_call (k8 (call w s₀ s₁ mg mb fa o pm cd doc a vs ns G Y ho (fd_plain hd) hcd hmg hobj hints hlen hg) λr s' hq=>?_);obtain⟨rfl,h2,h3,h4⟩:=hq;exact⟨.inl ⟨.bool true,.bool true,[],rfl,λ_=>rfl,.bool true,UL l _,λ_=>⟨List.Pairwise.nil,λ_ hm=>(nomatch hm)⟩⟩,h2,h3,h4⟩
section
variable {K:Frag}
end
end Att
namespace L2
theorem uJ:∀ {vs:List Value} {ns:List Int},IntsAre vs ns->Vals (ns.map V.int) vs
 |_,_,.nil=>.nil
 |_,_,.cons n t h=>.cons ⟨t,rfl⟩ (uJ h)
def Only (H:Hp):Prop:=∀ b,H b=none\/∃ o xs,H b=some (.qM o (.lst xs))
theorem W2 {mb:Str->Option Value} {CX:Uw} {k:Nat} {fa:Addr} {sp:Sp} {s₁:Shared} {vs:List Value} {ns:List Int} (KX:K.In s₁.heap) (hns:s₁.heap.Ns mainGlobals mg) (hb:s₁.heap.Ns builtinsNs mb) (hbb:∀ x:Str,x ≠ "__name__" → mb x=bootBuiltins x) (hlim:s₁.heap.NoLimit) (hg:s₁.gens=#[]) (ha:s₁.heap.get? a=some { cls:=.type "list", data:=.seq vs.toArray }) (hi:IntsAre vs ns) (hl:ns.length<=sizeLine) (hr:g8 k callerA) (F:∀ base:Heap,K.In base->base.Ns mainGlobals mg->lB P w K mg base CX k fa fd [x] sp) (hbind:∀ (s:Shared) (u:Value),BindsTo s fd ⟨[u],[]⟩ [(x,u)]) (hsp:∀ H:Hp,Only H->sW K H a (ns.map V.int)->sp [.ref a] H (λv _=>v=.bl true) λ_ _ _=>False) (hCX:∀ H e s',CX [] H s₁ (λ_ _ _=>False) e s'->False) :
  codeAny (model P w) callerA (.call (.ref fa) ⟨[.ref a],[]⟩) (λr s'=>r=.ok (.ret (.bool true))/\OldK s₁.heap s'.heap/\s'.os=s₁.os/\AllBare s'.gens) s₁:=by
 have rv:=uJ hi;have lenV:=hi.length;have core:∀ H:Hp,Only H->sW K H a (ns.map V.int)->sY P w H s₁.heap->(∀ b,H b≠none->b=a)->(H a≠none->K.lookup a=none) →
   codeAny (model P w) callerA (.call (.ref fa) ⟨[.ref a],[]⟩) (λr s'=>r=.ok (.ret (.bool true))/\OldK s₁.heap s'.heap/\s'.os=s₁.os/\AllBare s'.gens) s₁:=by
  intro H hO hS hok hA hK;have R5:∀ {b:Addr} {o:Obj},s₁.heap.get? b=some o->H b=none->(IV s₁.heap H).get? b=some o:=λe n=>Wq e n;have noA:∀ {b:Addr} {o:Obj} {es:Array DictEntry} {ep:Nat},s₁.heap.get? b=some o->o.data=.dict es ep->H b=none:=λ{b o es ep} e d=>by
   cases q:H b with
   |none=>rfl
   |some u=>
    have e':b=a:=hA b (by rw[q];simp);subst e';rw[ha] at e;cases e;have d':Data.seq vs.toArray _=Data.dict es ep:=d;cases d'
  have nsK:∀ {b:Addr} {m:Str->Option Value},s₁.heap.Ns b m->(IV s₁.heap H).Ns b m:=λ{b m} ⟨o,es,ep,e,d,r⟩=>⟨o,es,ep,R5 e (noA e d),d,r⟩;have hKb:K.In (IV s₁.heap H):=λb o e=>R5 (KX b o e) (by
   cases q:H b with
   |none=>rfl
   |some u=>
    have e':b=a:=hA b (by rw[q];simp);subst e';rw[hK (by rw[q];simp)] at e;cases e)
  have hM:Mod K mg (IV s₁.heap H):=⟨hKb,nsK hns,⟨mb,nsK hb,hbb⟩,let ⟨mc,h1,h2⟩:=hlim;⟨mc,nsK h1,h2⟩⟩;have e0:K7 P w K mg (IV s₁.heap H) callerA [] s₁ H:=⟨rfl,hM,λb o e=>Z9 e,Nat.le_of_eq (Ul _ _),trivial,λb hb=>absurd (show b∈([]:List Addr) from hb) (by simp),hok,.of_eq hg⟩;refine k8 ((F _ hKb (nsK hns)).run callerA [] s₁ H ⟨[.ref a],[]⟩ [.ref a] [.ref a] _ _ hr e0 (hbind s₁ (.ref a)) (.cons rfl .nil) (hsp H hO hS)) λr s' h=>?_;cases r with
  |error e=>exact(hCX H e s' h).elim
  |ok fl=>
   cases fl with
   |next=>exact False.elim h
   |brk=>exact False.elim h
   |cont=>exact False.elim h
   |ret u=>
    obtain⟨v,H',os,bare,un,hok',r',q⟩:=h;have q':v=.bl true:=q;subst q';obtain rfl:u=Value.bool true:=r';refine⟨rfl,OldK.of_keep λb o e=>?_,os,bare⟩;cases q:H b with
    |none=>exact un.keep b o e q (by intro z;exact absurd (show b∈([]:List Addr) from z) (by simp)) (by simp)
    |some u=>
     rcases hO b with z|⟨ob,xs,z⟩
     ·rw[q] at z;cases z
     ·have z2:=un.sJ b ob _ z;obtain⟨e1,_⟩:=hok b _ z;obtain⟨e2,_⟩:=hok' b _ z2;rw[e] at e1;cases e1;exact e2
 cases hk:K.lookup a with
 |some o=>
  have e:=KX a o hk;rw[ha] at e;cases e;refine core (λ_=>none) (λ_=>.inl rfl) (.inr ⟨_,vs.toArray,_,hk,rfl,rfl,rfl,by rw[zz,lenV];exact hl,by simpa using rv⟩) (λb u z=>by have z':(none:Option HO)=some u:=z;cases z') (λb z=>absurd rfl z) λz=>absurd rfl z
 |none=>
  refine core (λb=>if b=a then some (.qM { cls:=.type "list", data:=.seq vs.toArray } (.lst (ns.map V.int))) else none) (λb=>?_) (.inl (.inr ⟨{ cls:=.type "list", data:=.seq vs.toArray },zi rfl⟩)) (λb u z=>?_) (λb z=>?_) λ_=>hk
  ·by_cases hb:b=a
   ·exact .inr ⟨_,_,zi hb⟩
   ·exact .inl (zC hb)
  ·by_cases hb:b=a
   ·have z':=(zi hb).symm.trans z;cases z';subst hb;exact⟨ha,by rw[zl];exact hl,vs,_,rv,ha⟩
   ·have z':=(zC hb).symm.trans z;cases z'
  ·by_cases hb:b=a
   ·exact hb
   ·exact absurd (zC hb) z
end L2
namespace L2
theorem aaA {k:Nat} {q:Program} {loose:LS_} {d:DefRec} {K:Params->FG_} {CX:World->Uw} {sp:World->Sp} (hn:l.most=some n) (hn2:n<=sizeLine) (hdf:d.params.defaults=[]) (hr:g8 k callerA) (hY:∀ (w:World) (h:Heap),YP w h->(K w.params).In h) (F:∀ (w:World) (mg:Str->Option Value) (fa:Addr) (h:Heap),(K w.params).In h->h.Ns mainGlobals mg->mg d.name=some (.ref fa) →
   ∃ fd:FuncData,(∀ (s:Shared) (u:Value),BindsTo s fd ⟨[u],[]⟩ [(x,u)]) ∧
    ∀ base:Heap,(K w.params).In base->base.Ns mainGlobals mg->lB l.prog w (K w.params) mg base (CX w) k fa fd [x] (sp w)) (hsp:∀ (w:World) (H:Hp) (a:Addr) (ns:List Int),ns.length<=n->Only H->sW (K w.params) H a (ns.map V.int)->sp w [.ref a] H (λv _=>v=.bl true) λ_ _ _=>False) (hCX:∀ (w:World) (H:Hp) (s:Shared) (e:Value) (s':Shared),CX w [] H s (λ_ _ _=>False) e s'->False) :
  PySem.W.WalkO q loose XP YP l.row.toRowW d [] (λf vs=>PySem.call f vs):=by
 refine Att.Lg hn hdf λw s₀ s₁ mg mb fa o pm cd doc a vs ns G Y ho hd hcd hmg hobj hints hlen hg=>?_;have KX:=hY w _ Y;obtain⟨fd,hb,hF⟩:=F w mg fa _ KX G.T.g hmg;exact W2 KX G.T.g G.T.b G.T.builtins G.T.nolimit hg hobj hints (Zp hlen hn2) hr hF hb (λH hO hS=>hsp w H a ns hlen hO hS) λH e s'=>hCX w H s₁ e s'
theorem W3 {k:Nat} {q:Program} {loose:LS_} {d:DefRec} {K:Params->FG_} {CX:Uw} {sp:FG_->Sp} (hn:l.most=some n) (hn2:n<=sizeLine) (hdf:d.params.defaults=[]) (hr:g8 k callerA) (hY:∀ (w:World) (h:Heap),YP w h->(K w.params).In h) (F:∀ (w:World) (mg:Str->Option Value) (fa:Addr) (h:Heap),(K w.params).In h->h.Ns mainGlobals mg->mg d.name=some (.ref fa) →
   ∃ fd:FuncData,(∀ (s:Shared) (u:Value),BindsTo s fd ⟨[u],[]⟩ [(x,u)]) ∧
    ∀ base:Heap,(K w.params).In base->base.Ns mainGlobals mg->lB l.prog w (K w.params) mg base CX k fa fd [x] (sp (K w.params))) (hsp:∀ (K:FG_) (H:Hp) (a:Addr) (ns:List Int),ns.length<=n->Only H->sW K H a (ns.map V.int)->sp K [.ref a] H (λv _=>v=.bl true) λ_ _ _=>False) (hCX:∀ (H:Hp) (s:Shared) (e:Value) (s':Shared),CX [] H s (λ_ _ _=>False) e s'->False) :
  PySem.W.WalkO q loose XP YP l.row.toRowW d [] (λf vs=>PySem.call f vs):=
 aaA (K:=K) (CX:=λ_=>CX) (sp:=λw=>sp (K w.params)) hn hn2 hdf hr hY F (λw H a ns h1 h2 h3=>hsp (K w.params) H a ns h1 h2 h3) λ_ H s e s'=>hCX H s e s'
end L2
namespace L2
def qO (s:Stmt):Arguments:=match s with
 |.FunctionDef _ a _ _ _ _ _ _ _ _=>a
 |_=>{ posonlyargs:=[],args:=[],vararg:=none,kwonlyargs:=[],kw_defaults:=[],kwarg:=none,defaults:=[] }
def fP (s:Stmt):List Stmt:=match s with
 |.FunctionDef _ _ b _ _ _ _ _ _ _=>b
 |_=>[]
def aG (s:Stmt):Scope:=match s with
 |.FunctionDef _ _ _ _ _ _ sc _ _ _=>sc
 |_=>{ kind:=.function,names:=[],isGenerator:=false,isCoroutine:=false }
abbrev Cd:Uw:=λ_ _ _ _ _ _=>False
abbrev E0:XK:=λ_ _ _=>False
theorem acO {X:Cx}:Passes Cd X E0:=λ_ _ _ _ _ _ _ h=>h.elim
structure FN (K:FG_) (x qual:Str) (st:Stmt) (f:Addr) (fd:FuncData):Prop where
 ex:∃ (oc:Value) (od:Option Addr) (kV doc pm:Value) (an:Option Addr) (cdv ct:Value) (osl:Array (Option Value)),
  fd=fnOf x qual (qO st) (fP st) (aG st) .none kV doc pm an cdv ct/\K.lookup f=some ⟨oc,od,.func fd,osl⟩/\codeIn K cdv qual=true
 kp:keepIn K (.ref f)=true
theorem FN.ok {f:Addr} {k:Nat} {sp:Sp} (F:FN K x qual st f fd) (S:bw N ps (aG st)) (len:∀ vs H Q E,sp vs H Q E->vs.length=ps.length) (hbody:∀ (cdv:Value) (A:Around) (outer:List Env) (s:Shared) (H:Hp) (vs:List V) (Q:VK) (E:XK),g8 k (A.deeper (envOfC qual (aG st) s.heap.objs.size f cdv))->sp vs H Q E →
   ∃ t,Ba (sO Cd P w K mg base N qual (aG st) f cdv A outer s H E).Wu (fP st) t/\t { nx:=λ_ H'=>Q .non H',rt:=Q } (start N vs) H):lB P w K mg base Cd (k+1) f fd ps sp:=by
 obtain⟨oc,od,kV,doc,pm,an,cdv,ct,osl,rfl,lk,hcd⟩:=F.ex;refine acK lk hcd S len λA outer s H vs Q E hr hsp=>?_;obtain⟨t,h,q⟩:=hbody cdv A outer s H vs Q E hr hsp;exact⟨t,h.Wu,q⟩
theorem FN.binds {f:Addr} (F:FN K x qual st f fd) (h:∀ (kV doc pm:Value) (an:Option Addr) (cdv ct:Value) (us:List Value),us.length=ps.length->bindArgs (fnOf x qual (qO st) (fP st) (aG st) .none kV doc pm an cdv ct) ⟨us,[]⟩=pure (ps.zip us)):Binds K fd ps []:=by
 obtain⟨oc,od,kV,doc,pm,an,cdv,ct,osl,rfl,lk,hcd⟩:=F.ex;exact .all (h kV doc pm an cdv ct)
theorem W4 {f:Addr} {oc:Value} {od an:Option Addr} {kV doc pm cdv ct:Value} (l:K.lookup f=some ⟨oc,od,.func (fnOf x qual (qO st) (fP st) (aG st) .none kV doc pm an cdv ct),osl⟩) (c:codeIn K cdv qual=true) (k:keepIn K (.ref f)=true):FN K x qual st f (fnOf x qual (qO st) (fP st) (aG st) .none kV doc pm an cdv ct):=⟨⟨oc,od,kV,doc,pm,an,cdv,ct,osl,rfl,l,c⟩,k⟩
section
variable {X:Cx}
theorem pv (i:Nat) (hN:X.N[i]?=some x:=by rfl) (hv:Z2 X.env.scope x:=by first|exact kR rfl|exact JP (kR rfl)|exact JP (JP rfl)) (hd:(x==("__debug__" : Str))=false:=by decide) (hcd:(x==("__classdict__" : Str))=false:=by decide):PE X (.Name x pos) (afW i):=vR hN hv hd hcd
end
def Same (H H':Hp):Prop:=∀ b o,H b=some o->H' b=some o
theorem Same.refl (H:Hp):Same H H:=λ_ _ h=>h
theorem Same.trans {H H1 H2:Hp} (a:Same H H1) (b:Same H1 H2):Same H H2:=λc o h=>b c o (a c o h)
theorem Same.free {H H':Hp} (e:Same H H') {l:Addr} (h:H' l=Option.none):H l=Option.none:=by
 cases q:H l with
 |none=>rfl
 |some o=>
  rw[e l o q] at h;cases h
theorem Same.seq {H H':Hp} {xs:List V} (e:Same H H') (h:sW K H a xs):sW K H' a xs:=by
 rcases h with (h|⟨o,h⟩)|h
 ·exact .inl (.inl (e _ _ h))
 ·exact .inl (.inr ⟨o,e _ _ h⟩)
 ·exact .inr h
end L2
variable {H:L2.Hp} {o:L2.HO} {X:L2.Cx} {σ:L2.St} {ta:L2.TE} {y:L2.V} {te:L2.TE} {J:L2.It} {vs:List L2.V} {sp:L2.Sp} {ks:List L2.Key} {zs:List (List L2.Key×Addr)} {H0 Hs:L2.Hp} {cG:List (List L2.Key)}
namespace P1
open L2
inductive Dt where
 |non|bl (b:Bool)|int (i:Int)|str (x:Str)|tup (xs:List Dt)|lst (xs:List Dt)|emp
inductive Bx where
 |z (d:Dt)|l (ds:List Dt)|o (ds:List Dt)|n (kvs:List (Key×Dt))|m (kvs:List (Key×Dt)) (w:Option Addr)
abbrev Ev:=List (Option Bx)
def FzL (K:FG_) (H:Hp) (a:Addr) (xs:List V):Prop:=
 (∃ o,H a=some (.qM o (.lst xs))) ∨
  ∃ (o:Obj) (its:Array Value) (n:Nat),K.lookup a=some o/\o.cls=.type "list" ∧ o.dict=none/\o.data=.seq its n/\its.size<=sizeLine/\Vals xs its.toList
theorem FzL.sq {xs:List V} (h:FzL K H a xs):sW K H a xs:=by
 rcases h with h|h
 ·exact .inl (.inr h)
 ·exact .inr h
mutual
def Rep (K:FG_) (H:Hp):Dt->V->Prop
 |.non,v=>v=.non
 |.bl b,v=>v=.bl b
 |.int i,v=>v=.int i
 |.str x,v=>v=.str x/\x.length<=sizeLine
 |.tup ds,v=>∃ a vs,v=.ref a/\wL K H a vs/\aO K H ds vs
 |.lst ds,v=>∃ a vs,v=.ref a/\FzL K H a vs/\aO K H ds vs
 |.emp,v=>∃ a o,v=.ref a/\H a=some (.qM o (.dK []))
def aO (K:FG_) (H:Hp):List Dt->List V->Prop
 |[],vs=>vs=[]
 |d::ds,vs=>∃ v r,vs=v::r/\Rep K H d v/\aO K H ds r
end
structure Kp (H H':Hp):Prop where
 t:∀ a xs,H a=some (.tup xs)->H' a=some (.tup xs)
 f:∀ a o u,H a=some (.qM o u)->H' a=some (.qM o u)
theorem Kp.of {H':Hp} (s:Same H H'):Kp H H':=⟨λa _ h=>s a _ h,λa _ _ h=>s a _ h⟩
theorem Kp.sqT {H':Hp} {xs:List V} (k:Kp H H') (h:wL K H a xs):wL K H' a xs:=by
 rcases h with (h|⟨o,h⟩)|h
 ·exact .inl (.inl (k.t _ _ h))
 ·exact .inl (.inr ⟨o,k.f _ _ _ h⟩)
 ·exact .inr h
theorem Kp.fzL {H':Hp} {xs:List V} (k:Kp H H') (h:FzL K H a xs):FzL K H' a xs:=by
 rcases h with⟨o,h⟩|h
 ·exact .inl ⟨o,k.f _ _ _ h⟩
 ·exact .inr h
theorem Kp.lst {xs:List V} (h:H a=some (.lst xs)):Kp H (upd H a o):=by
 refine⟨λb ys e=>?_,λb ob u e=>?_⟩
 ·rw[aK (iW e h (by intro z;cases z))];exact e
 ·rw[aK (iW e h (by intro z;cases z))];exact e
theorem Kp.dk {xs:List (Key×V)} (h:H a=some (.dK xs)):Kp H (upd H a o):=by
 refine⟨λb ys e=>?_,λb ob u e=>?_⟩
 ·rw[aK (iW e h (by intro z;cases z))];exact e
 ·rw[aK (iW e h (by intro z;cases z))];exact e
mutual
theorem Rep.kp {K:FG_} {H H':Hp} (k:Kp H H'):∀ {d:Dt} {v:V},Rep K H d v->Rep K H' d v
 |.non,_,h=>by simpa only[Rep] using h
 |.bl _,_,h=>by simpa only[Rep] using h
 |.int _,_,h=>by simpa only[Rep] using h
 |.str _,_,h=>by simpa only[Rep] using h
 |.tup ds,_,h=>by
  simp only[Rep] at h ⊢;obtain⟨a,vs,e,q,r⟩:=h;exact⟨a,vs,e,k.sqT q,aO.kp k r⟩
 |.lst ds,_,h=>by
  simp only[Rep] at h ⊢;obtain⟨a,vs,e,q,r⟩:=h;exact⟨a,vs,e,k.fzL q,aO.kp k r⟩
 |.emp,_,h=>by
  simp only[Rep] at h ⊢;obtain⟨a,o,e,q⟩:=h;exact⟨a,o,e,k.f _ _ _ q⟩
theorem aO.kp {K:FG_} {H H':Hp} (k:Kp H H'):∀ {ds:List Dt} {vs:List V},aO K H ds vs->aO K H' ds vs
 |[],_,h=>by simpa only[aO] using h
 |d::ds,_,h=>by
  simp only[aO] at h ⊢;obtain⟨v,r,e,q,t⟩:=h;exact⟨v,r,e,Rep.kp k q,aO.kp k t⟩
end
theorem aO.length {K:FG_} {H:Hp}:∀ {ds:List Dt} {vs:List V},aO K H ds vs->vs.length=ds.length
 |[],_,h=>by simp only[aO] at h;subst h;rfl
 |d::ds,_,h=>by
  simp only[aO] at h;obtain⟨v,r,rfl,_,t⟩:=h;simp[aO.length t]
theorem aO.nil:aO K H [] []:=by simp only[aO]
theorem aO.cons {K:FG_} {H:Hp} {d:Dt} {v:V} {ds:List Dt} {vs:List V} (h:Rep K H d v) (t:aO K H ds vs):aO K H (d::ds) (v::vs):=by
 simp only[aO];exact⟨v,vs,rfl,h,t⟩
theorem aO.append {K:FG_} {H:Hp}:∀ {ds es:List Dt} {vs us:List V},aO K H ds vs->aO K H es us->aO K H (ds++es) (vs++us)
 |[],_,_,_,h,t=>by simp only[aO] at h;subst h;exact t
 |d::ds,_,_,_,h,t=>by
  simp only[aO] at h;obtain⟨v,r,rfl,q,h⟩:=h;exact aO.cons q (aO.append h t)
theorem aO.drop {K:FG_} {H:Hp}:∀ (n:Nat) {ds:List Dt} {vs:List V},aO K H ds vs->aO K H (ds.drop n) (vs.drop n)
 |0,_,_,h=>h
 |n+1,[],_,h=>by simp only[aO] at h;subst h;exact aO.nil
 |n+1,d::ds,_,h=>by
  simp only[aO] at h;obtain⟨v,r,rfl,q,h⟩:=h;exact aO.drop n h
theorem aO.take {K:FG_} {H:Hp}:∀ (n:Nat) {ds:List Dt} {vs:List V},aO K H ds vs->aO K H (ds.take n) (vs.take n)
 |0,_,_,_=>aO.nil
 |n+1,[],_,h=>by simp only[aO] at h;subst h;exact aO.nil
 |n+1,d::ds,_,h=>by
  simp only[aO] at h;obtain⟨v,r,rfl,q,h⟩:=h;exact aO.cons q (aO.take n h)
theorem aO.get {K:FG_} {H:Hp}:∀ {ds:List Dt} {vs:List V} {i:Nat} {d:Dt},aO K H ds vs->ds[i]?=some d->∃ v,vs[i]?=some v/\Rep K H d v
 |[],_,_,_,_,e=>by simp at e
 |d::ds,_,0,_,h,e=>by
  simp only[aO] at h;obtain⟨v,r,rfl,q,h⟩:=h;simp at e;subst e;exact⟨v,rfl,q⟩
 |d::ds,_,i+1,_,h,e=>by
  simp only[aO] at h;obtain⟨v,r,rfl,q,h⟩:=h;obtain⟨u,e1,e2⟩:=aO.get h (i:=i) (by simpa using e);exact⟨u,by simpa using e1,e2⟩
def okK:Key->Prop
 |.inl _=>True
 |.inr x=>x.length<=sizeLine
def fK (K:FG_) (H:Hp) (kvs:List (Key×Dt)) (ks:List (Key×V)):Prop:=ks.map (·.1)=kvs.map (·.1)/\aO K H (kvs.map (·.2)) (ks.map (·.2))/\∀ p∈kvs,okK p.1
theorem fK.kp {K:FG_} {H H':Hp} {kvs:List (Key×Dt)} {ks:List (Key×V)} (h:fK K H kvs ks) (k:Kp H H'):fK K H' kvs ks:=⟨h.1,h.2.1.kp k,h.2.2⟩
def bA (K:FG_) (H:Hp):Bx->V->Prop
 |.z d,v=>Rep K H d v
 |.l ds,v=>∃ a vs,v=.ref a/\Rd H a (.lst vs)/\aO K H ds vs
 |.o ds,v=>∃ a vs,v=.ref a/\H a=some (.lst vs)/\aO K H ds vs
 |.n kvs,v=>∃ a ks,v=.ref a/\Rd H a (.dK ks)/\fK K H kvs ks
 |.m kvs w,v=>∃ a ks,v=.ref a/\H a=some (.dK ks)/\fK K H kvs ks/\∀ b,w=some b->b=a
theorem bA.same {H':Hp} (s:Same H H') {b:Bx} {v:V} (h:bA K H b v):bA K H' b v:=by
 cases b with
 |z d=>exact Rep.kp (.of s) h
 |l ds=>
  obtain⟨a,vs,e,q,r⟩:=h;refine⟨a,vs,e,?_,r.kp (.of s)⟩;rcases q with q|⟨o,q⟩
  ·exact .inl (s _ _ q)
  ·exact .inr ⟨o,s _ _ q⟩
 |o ds=>
  obtain⟨a,vs,e,q,r⟩:=h;exact⟨a,vs,e,s _ _ q,r.kp (.of s)⟩
 |n kvs=>
  obtain⟨a,vs,e,q,r⟩:=h;refine⟨a,vs,e,?_,r.kp (.of s)⟩;rcases q with q|⟨o,q⟩
  ·exact .inl (s _ _ q)
  ·exact .inr ⟨o,s _ _ q⟩
 |m kvs _=>
  obtain⟨a,vs,e,q,r⟩:=h;exact⟨a,vs,e,s _ _ q,r.1.kp (.of s),r.2⟩
def qj:Bx->Option (List Dt)
 |.z (.lst ds)=>some ds
 |.l ds=>some ds
 |.o ds=>some ds
 |_=>none
theorem bA.Hh {b:Bx} {v:V} {ds:List Dt} (h:bA K H b v) (e:qj b=some ds):∃ a vs,v=.ref a/\sW K H a vs/\aO K H ds vs:=by
 cases b with
 |z d=>
  cases d<;>first|(cases e;done)|skip;cases e;simp only[bA,Rep] at h;obtain⟨a,vs,e,q,r⟩:=h;exact⟨a,vs,e,q.sq,r⟩
 |l ds'=>
  cases e;obtain⟨a,vs,e,q,r⟩:=h;exact⟨a,vs,e,.inl q,r⟩
 |o ds'=>
  cases e;obtain⟨a,vs,e,q,r⟩:=h;exact⟨a,vs,e,.inl (.inl q),r⟩
 |n _=>cases e
 |m _ _=>cases e
abbrev ql (K:FG_) (H:Hp):List Bx->List V->Prop:=Paired (bA K H)
def Nw (H:Hp):Bx->V->Prop
 |.o _,v=>∀ a,v=.ref a->H a=none
 |.m _ _,v=>∀ a,v=.ref a->H a=none
 |_,_=>True
theorem Nw.old {H1:Hp} (s:Same H H1) {b:Bx} {v:V} (h:Nw H1 b v):Nw H b v:=by
 cases b with
 |o ds=>exact λa e=>s.free (h a e)
 |m ds _=>exact λa e=>s.free (h a e)
 |_=>trivial
def loose:Bx->Bool
 |.z _=>false
 |_=>true
def sS:Bx->Bool
 |.o _=>true
 |.m _ _=>true
 |_=>false
structure bL (K:FG_) (H0 H:Hp) (σ:L2.St) (ρ:Ev):Prop where
 len:σ.length=ρ.length
 val:∀ (i:Nat) b,ρ[i]?=some (some b)->∃ v,σ[i]?=some (some v)/\bA K H b v
 own:∀ (i j:Nat) c a b,ρ[i]?=some (some c)->sS c=true->σ[i]?=some (some (.ref a))->ρ[j]?=some (some b)->loose b=true->σ[j]?=some (some (.ref a))->i=j
 base:Same H0 H
 new:∀ (i:Nat) c a,ρ[i]?=some (some c)->sS c=true->σ[i]?=some (some (.ref a))->H0 a=none
theorem bL.grow {H':Hp} {ρ:Ev} (r:bL K H0 H σ ρ) (s:Same H H'):bL K H0 H' σ ρ:=
 ⟨r.len,λi b e=>let ⟨v,e1,h⟩:=r.val i b e;⟨v,e1,h.same s⟩,r.own,r.base.trans s,r.new⟩
def tF (K:FG_) (f:Ev->Option Bx):TE:=λσ H Q=>∃ H0 ρ b,bL K H0 H σ ρ/\f ρ=some b/\∀ v H',Same H H'->Nw H b v->bA K H' b v->Q v H'
def tFA (K:FG_) (f:Ev->Option (List Bx)):TA:=λσ H Q=>∃ H0 ρ bs,bL K H0 H σ ρ/\f ρ=some bs/\∀ vs H',Same H H'->ql K H' bs vs->Q vs H'
def tFT (K:FG_) (f:Ev->Option Bool):TT:=λσ H Q=>∃ H0 ρ b,bL K H0 H σ ρ/\f ρ=some b/\∀ H',Same H H'->Q b H'
def PV (X:Cx) (e:Expr) (f:Ev->Option Bx):Prop:=PE X e (tF X.K f)
structure QV (X:Cx) (e:Expr) (f:Ev->Option Bx):Prop where
 run:PV X e f
def PVs (X:Cx) (es:List Expr) (f:Ev->Option (List Bx)):Prop:=PA X es (tFA X.K f)
structure UW (X:Cx) (es:List Expr) (f:Ev->Option (List Bx)):Prop where
 run:PVs X es f
def PB (X:Cx) (e:Expr) (f:Ev->Option Bool):Prop:=PT X e (tFT X.K f)
structure QB (X:Cx) (e:Expr) (f:Ev->Option Bool):Prop where
 run:PB X e f
theorem FP {t t':TE} (h:PE X e t) (m:∀ σ H Q,t' σ H Q->t σ H Q):PE X e t':=λpins s σ H Q I q=>h pins s σ H Q I (m σ H Q q)
theorem paM {e:List Expr} {t t':TA} (h:PA X e t) (m:∀ σ H Q,t' σ H Q->t σ H Q):PA X e t':=λpos pins s σ H Q I q=>h pos pins s σ H Q I (m σ H Q q)
theorem ptM {t t':TT} (h:PT X e t) (m:∀ σ H Q,t' σ H Q->t σ H Q):PT X e t':=λpins s σ H Q I q=>h pins s σ H Q I (m σ H Q q)
theorem pwM {t t':TT} (h:PW X e t) (m:∀ σ H Q,t' σ H Q->t σ H Q):PW X e t':=λwh pins s σ H Q I q=>h wh pins s σ H Q I (m σ H Q q)
theorem R6 {e:Stmt} {t t':TS} (h:PS X e t) (m:∀ D σ H,t' D σ H->t D σ H):PS X e t':=λpins s σ H D I q=>h pins s σ H D I (m D σ H q)
theorem ad9 {e:List Stmt} {t t':TS} (h:Ba X e t) (m:∀ D σ H,t' D σ H->t D σ H):Ba X e t':=λpins s σ H D I q=>h pins s σ H D I (m D σ H q)
def rF (K:FG_) (g:Bx->Bx->Option Bx):R2:=λx y H Q=>∃ a b c,bA K H a x/\bA K H b y/\g a b=some c/\∀ w H',Same H H'->Nw H c w->bA K H' c w->Q w H'
def rFs (K:FG_) (g:List Bx->Option Bx):List V->Hp->VK->Prop:=λxs H Q=>∃ bs c,ql K H bs xs/\g bs=some c/\∀ w H',Same H H'->Nw H c w->bA K H' c w->Q w H'
abbrev Hi (X:Cx) (f:Value->Value->Sem Value) (g:Bx->Bx->Option Bx):Prop:=wM X f (rF X.K g)
abbrev mH (X:Cx) (f:Value) (g:List Bx->Option Bx):Prop:=eE X f (rFs X.K g)
theorem wM.imp {f:Value->Value->Sem Value} {r r':R2} (h:wM X f r) (m:∀ x y H Q,r' x y H Q->r x y H Q):wM X f r':=λpins s σ H x y v u Q I rx ry q=>h pins s σ H x y v u Q I rx ry (m x y H Q q)
theorem eE.imp {f:Value} {r r':List V->Hp->VK->Prop} (h:eE X f r) (m:∀ x H Q,r' x H Q->r x H Q):eE X f r':=λpins s σ H xs us Q I rx q=>h pins s σ H xs us Q I rx (m xs H Q q)
def b2 (g:Bx->Bx->Option Bx) (fa fb:Ev->Option Bx):Ev->Option Bx:=λρ=>(fa ρ).bind λx=>(fb ρ).bind λy=>g x y
def b1 (g:Bx->Option Bx) (fa:Ev->Option Bx):Ev->Option Bx:=λρ=>(fa ρ).bind g
def bU (g:List Bx->Option Bx) (fs:Ev->Option (List Bx)):Ev->Option Bx:=λρ=>(fs ρ).bind g
theorem bind_some {α β:Type} {o:Option α} {f:α->Option β} {b:β} (h:o.bind f=some b):∃ a,o=some a/\f a=some b:=by
 cases o with
 |none=>cases h
 |some a=>exact⟨a,rfl,h⟩
theorem W5 {g:Bx->Bx->Option Bx} {fa fb:Ev->Option Bx} (σ:L2.St) (H:Hp) (Q:VK) (h:tF K (b2 g fa fb) σ H Q):tOp (rF K g) (tF K fa) (tF K fb) σ H Q:=by
 obtain⟨H0,ρ,c,E,e,q⟩:=h;obtain⟨a,ea,e⟩:=bind_some e;obtain⟨b,eb,e⟩:=bind_some e;refine⟨H0,ρ,a,E,ea,λv H1 s1 n1 r1=>⟨H0,ρ,b,E.grow s1,eb,λu H2 s2 n2 r2=>?_⟩⟩;exact⟨a,b,c,r1.same s2,r2,e,λw H3 s3 n3 r3=>q w H3 ((s1.trans s2).trans s3) (n3.old (s1.trans s2)) r3⟩
theorem convs {g:List Bx->Option Bx} {fs:Ev->Option (List Bx)} (σ:L2.St) (H:Hp) (Q:VK) (h:tF K (bU g fs) σ H Q):tCB (rFs K g) (tFA K fs) σ H Q:=by
 obtain⟨H0,ρ,c,E,e,q⟩:=h;obtain⟨a,ea,e⟩:=bind_some e;exact⟨H0,ρ,a,E,ea,λv H1 s1 r1=>⟨a,c,r1,e,λw H3 s3 n3 r3=>q w H3 (s1.trans s3) (n3.old s1) r3⟩⟩
section
variable {a b:Expr} {fa fb fc f:Ev->Option Bx} {fs:Ev->Option (List Bx)}
theorem aP {op:Operator} {g:Bx->Bx->Option Bx} (ho:Hi X (binaryOp op) g) (ha:QV X a fa) (hb:QV X b fb):QV X (.BinOp a op b pos) (b2 g fa fb):=⟨have ha:=ha.run;have hb:=hb.run;FP (acI ho ha hb) W5⟩
theorem yK {g:Bx->Bx->Option Bx} (ho:Hi X (compareOp op) g) (ha:QV X a fa) (hb:QV X b fb) (hm:behindInMarks op b=false):QV X (.Compare a [op] [b] pos) (b2 g fa fb):=⟨have ha:=ha.run;have hb:=hb.run;FP (RV ho ha hb hm) W5⟩
def Cg:Bx->Option Bool
 |.z (.bl b)=>some b
 |_=>none
theorem wU {b:Bx} {v:V} {k:Bool} (h:bA K H b v) (e:Cg b=some k):v=.bl k:=by
 cases b with
 |z d=>
  cases d<;>first|(cases e;done)|skip;cases e;simpa only[bA,Rep] using h
 |_=>cases e
theorem ags (σ:L2.St) (H:Hp) (Q:Bool->Hp->Prop) (h:tFT K (λρ=>(f ρ).bind Cg) σ H Q):tF K f σ H (λx H'=>∃ k,x=.bl k/\Q k H'):=by
 obtain⟨H0,ρ,k,E,e,q⟩:=h;obtain⟨b,eb,e⟩:=bind_some e;exact⟨H0,ρ,b,E,eb,λv H1 s1 n1 r1=>⟨k,wU r1 e,q H1 s1⟩⟩
theorem dJ {g:Bx->Bx->Option Bx} (ho:Hi X (compareOp op) g) (ha:QV X a fa) (hb:QV X b fb) (hm:behindInMarks op b=false):QB X (.Compare a [op] [b] pos) (λρ=>(b2 g fa fb ρ).bind Cg):=⟨have ha:=ha.run;have hb:=hb.run;ptM (aak ho ha hb hm) λσ H Q h=>W5 σ H _ (ags σ H Q h)⟩
def ch3 (g g':Bx->Bx->Option Bx) (fa fb fc:Ev->Option Bx):Ev->Option Bx:=λρ=>(fa ρ).bind λx=>(fb ρ).bind λy=>(g x y).bind λr=>(Cg r).bind λk=>if k=true then(fc ρ).bind λw=>g' y w else some (.z (.bl false))
theorem agt {g g':Bx->Bx->Option Bx} (σ:L2.St) (H:Hp) (Q:VK) (h:tF K (ch3 g g' fa fb fc) σ H Q):Wz (rF K g) (rF K g') (tF K fa) (tF K fb) (tF K fc) σ H Q:=by
 obtain⟨H0,ρ,d,E,e,q⟩:=h;obtain⟨a,ea,e⟩:=bind_some e;obtain⟨b,eb,e⟩:=bind_some e;obtain⟨r,er,e⟩:=bind_some e;obtain⟨k,ek,e⟩:=bind_some e;refine⟨H0,ρ,a,E,ea,λv H1 s1 n1 r1=>⟨H0,ρ,b,E.grow s1,eb,λu H2 s2 n2 r2=>?_⟩⟩;refine⟨a,b,r,r1.same s2,r2,er,λw H3 s3 n3 r3=>⟨k,wU r3 ek,?_⟩⟩;have s03:=(s1.trans s2).trans s3;cases k with
 |false=>
  rw[zC ZA] at e ⊢;cases e;exact q _ H3 s03 trivial (by simp only[bA,Rep])
 |true=>
  rw[zi rfl] at e ⊢;obtain⟨w',ew,e⟩:=bind_some e;refine⟨H0,ρ,w',E.grow s03,ew,λx H4 s4 n4 r4=>?_⟩;exact⟨b,w',d,(r2.same s3).same s4,r4,e,λy H5 s5 n5 r5=>q y H5 ((s03.trans s4).trans s5) (n5.old (s03.trans s4)) r5⟩
theorem Lh {op':CmpOp} {g g':Bx->Bx->Option Bx} (ho:Hi X (compareOp op) g) (ho':Hi X (compareOp op') g') (ha:QV X a fa) (hb:QV X b fb) (hc:QV X c fc) (hm:lastMarks [op,op'] [b,c]=false:=by with_unfolding_all rfl):QV X (.Compare a [op,op'] [b,c] pos) (ch3 g g' fa fb fc):=⟨have ha:=ha.run;have hb:=hb.run;have hc:=hc.run;FP (WD ho ho' ha hb hc hm) agt⟩
def yL (ρ:Ev) (i:Nat):Option Bx:=match ρ[i]? with
 |some (some (.o ds))=>some (.l ds)
 |some (some (.m kvs _))=>some (.n kvs)
 |some (some b)=>some b
 |_=>none
theorem Li {ρ:Ev} {b:Bx} (E:bL K H0 H σ ρ) (e:yL ρ i=some b):∃ v,σ[i]?=some (some v)/\bA K H b v:=by
 unfold yL at e;split at e
 ·rename_i ds h;cases e;obtain⟨v,e1,a,vs,e2,q,r⟩:=E.val i _ h;exact⟨v,e1,a,vs,e2,.inl q,r⟩
 ·rename_i ds h;cases e;obtain⟨v,e1,a,vs,e2,q,r⟩:=E.val i _ h;exact⟨v,e1,a,vs,e2,.inl q,r.1⟩
 ·rename_i b' h;cases e;exact E.val i _ h
 ·cases e
theorem wV {ρ:Ev} {b:Bx} (e:yL ρ i=some b):sS b=false:=by
 unfold yL at e;split at e
 ·cases e;rfl
 ·cases e;rfl
 ·rename_i b' h1 h2 h3;cases e;cases b with
  |o ds=>exact absurd rfl (h1 ds)
  |m ds _=>exact absurd rfl (h2 ds _)
  |_=>rfl
 ·cases e
theorem ak (i:Nat) (hN:X.N[i]?=some x:=by rfl) (hv:Z2 X.env.scope x:=by first|exact kR rfl|exact JP (kR rfl)|exact JP (JP rfl)) (hd:(x==("__debug__" : Str))=false:=by decide) (hcd:(x==("__classdict__" : Str))=false:=by decide):QV X (.Name x pos) (λρ=>yL ρ i):=⟨FP (vR hN hv hd hcd) λσ H Q h=>by
 obtain⟨H0,ρ,b,E,e,q⟩:=h;obtain⟨v,e1,r⟩:=Li E e;refine⟨v,e1,q v H (Same.refl H) ?_ r⟩;cases b with
 |o ds=>have:=wV e;cases this
 |m ds _=>have:=wV e;cases this
 |_=>trivial⟩
def cB (d:Dt):Ev->Option Bx:=λ_=>some (.z d)
theorem U0 {v:V} {d:Dt} (h:PE X e (tC v)) (r:∀ H,Rep X.K H d v):PV X e (cB d):=FP h λσ H Q q=>by
 obtain⟨H0,ρ,b,E,e,q⟩:=q;cases e;exact q v H (Same.refl H) trivial (r H)
theorem aB {i j}:QV X (.Constant (.int i) j pos) (cB (.int i)):=⟨U0 PJ λH=>by simp only[Rep]⟩
theorem Lj {i j}:QV X (.Constant (.bool i) j pos) (cB (.bl i)):=⟨U0 acD λH=>by simp only[Rep]⟩
theorem aea {j}:QV X (.Constant .none j pos) (cB .non):=⟨U0 adw λH=>by simp only[Rep]⟩
theorem W6 {j} (hx:x.length<=sizeLine:=by decide):PV X (.Constant (.str x) j pos) (cB (.str x)):=U0 adx λH=>by unfold Rep;exact⟨rfl,hx⟩
theorem Ln {i:Int} {t:Tok} (hg:Gl X x) (hm:X.mg x=some (.int i t)) (hd:(x==("__debug__" : Str))=false:=by decide):QV X (.Name x pos) (cB (.int i)):=⟨U0 (jA hg hm (v:=.int i) ⟨t,rfl⟩ hd) λH=>by simp only[Rep]⟩
theorem W7 {y:Str} {t:Tok} (hg:Gl X x) (hm:X.mg x=some (.str y t)) (hy:y.length<=sizeLine:=by decide) (hd:(x==("__debug__" : Str))=false:=by decide):QV X (.Name x pos) (cB (.str y)):=⟨U0 (jA hg hm (v:=.str y) ⟨t,rfl⟩ hd) λH=>by unfold Rep;exact⟨rfl,hy⟩⟩
def aaC:Bx->Option Bool
 |.z .non=>some false
 |.z (.bl b)=>some b
 |.z (.int i)=>some (i != 0)
 |.z (.str x)=>some ((x.length:Int) != 0)
 |.z (.tup ds)=>some (!ds.isEmpty)
 |.z (.lst ds)=>some (!ds.isEmpty)
 |.l ds=>some (!ds.isEmpty)
 |.o ds=>some (!ds.isEmpty)
 |.z .emp=>none
 |.n _=>none
 |.m _ _=>none
theorem aO.isEmpty {ds:List Dt} (h:aO K H ds vs):(!ds.isEmpty)=!vs.isEmpty:=by
 have:=h.length;cases ds<;>cases vs<;>simp_all
theorem aaD {b:Bx} {v:V} {k:Bool} (r:bA K H b v) (e:aaC b=some k):adP K v H k:=by
 cases b with
 |z d=>
  cases d with
  |non=>cases e;simp only[bA,Rep] at r;subst r;rfl
  |bl b=>cases e;simp only[bA,Rep] at r;subst r;rfl
  |int b=>cases e;simp only[bA,Rep] at r;subst r;rfl
  |str x=>cases e;simp only[bA,Rep] at r;obtain⟨rfl,h⟩:=r;exact⟨h,rfl⟩
  |tup ds=>
   cases e;simp only[bA,Rep] at r;obtain⟨a,vs,rfl,q,r⟩:=r;exact .inr (.inl ⟨vs,q,r.isEmpty⟩)
  |lst ds=>
   cases e;obtain⟨a,vs,rfl,q,r⟩:=r.Hh rfl;exact .inl ⟨vs,q,r.isEmpty⟩
  |emp=>cases e
 |l ds=>
  cases e;obtain⟨a,vs,rfl,q,r⟩:=r.Hh rfl;exact .inl ⟨vs,q,r.isEmpty⟩
 |o ds=>
  cases e;obtain⟨a,vs,rfl,q,r⟩:=r.Hh rfl;exact .inl ⟨vs,q,r.isEmpty⟩
 |n _=>cases e
 |m _ _=>cases e
theorem Ci (h:QV X e f) (he:∀ whole,isTrue e X.env whole=(do let v <-whole;standAt e.pos;holding [v] (truthy v)):=by intro _;rfl):QB X e (λρ=>(f ρ).bind aaC):=⟨have h:=h.run;ptM (WK h he) λσ H Q q=>by
 obtain⟨H0,ρ,k,E,e,q⟩:=q;obtain⟨b,eb,e⟩:=bind_some e;exact⟨H0,ρ,b,E,eb,λv H1 s1 n1 r1=>⟨k,aaD r1 e,q H1 s1⟩⟩⟩
def W8 (p q:Ev->Option Bool):Ev->Option Bool:=λρ=>(p ρ).bind λc=>if c=true then q ρ else some false
def orT (p q:Ev->Option Bool):Ev->Option Bool:=λρ=>(p ρ).bind λc=>if c=true then some true else q ρ
def Lq (p:Ev->Option Bool):Ev->Option Bool:=λρ=>(p ρ).bind λc=>some (!c)
def PBW (X:Cx) (e:Expr) (f:Ev->Option Bool):Prop:=PW X e (tFT X.K f)
structure QBW (X:Cx) (e:Expr) (f:Ev->Option Bool):Prop where
 run:PBW X e f
variable {p q:Ev->Option Bool} {rest:List Expr}
theorem W9 (ha:QB X a p):QBW X (.BoolOp .And [a] pos) p:=⟨have ha:=ha.run;aaf ha⟩
theorem wW (ha:QB X a p):QBW X (.BoolOp .Or [a] pos) p:=⟨have ha:=ha.run;ady ha⟩
theorem aaF (σ:L2.St) (H:Hp) (Q:Bool->Hp->Prop) (h:tFT K (W8 p q) σ H Q):afX (tFT K p) (tFT K q) σ H Q:=by
 obtain⟨H0,ρ,k,E,e,w⟩:=h;obtain⟨c,ec,e⟩:=bind_some e;refine⟨H0,ρ,c,E,ec,λH1 s1=>?_⟩;cases c with
 |true=>rw[zi rfl] at e ⊢;exact⟨H0,ρ,k,E.grow s1,e,λH2 s2=>w H2 (s1.trans s2)⟩
 |false=>rw[zC ZA] at e ⊢;cases e;exact w H1 s1
theorem aec (σ:L2.St) (H:Hp) (Q:Bool->Hp->Prop) (h:tFT K (orT p q) σ H Q):tOr (tFT K p) (tFT K q) σ H Q:=by
 obtain⟨H0,ρ,k,E,e,w⟩:=h;obtain⟨c,ec,e⟩:=bind_some e;refine⟨H0,ρ,c,E,ec,λH1 s1=>?_⟩;cases c with
 |true=>rw[zi rfl] at e ⊢;cases e;exact w H1 s1
 |false=>rw[zC ZA] at e ⊢;exact⟨H0,ρ,k,E.grow s1,e,λH2 s2=>w H2 (s1.trans s2)⟩
theorem aaG (ha:QB X a p) (hb:QBW X (.BoolOp .And (b::rest) pos) q):QBW X (.BoolOp .And (a::b::rest) pos) (W8 p q):=⟨have ha:=ha.run;have hb:=hb.run;pwM (adz ha hb) aaF⟩
theorem Cj (ha:QB X a p) (hb:QBW X (.BoolOp .Or (b::rest) pos) q):QBW X (.BoolOp .Or (a::b::rest) pos) (orT p q):=⟨have ha:=ha.run;have hb:=hb.run;pwM (afY ha hb) aec⟩
theorem U3 (h:QBW X e p):QB X e p:=⟨have h:=h.run;h.pt⟩
theorem Ck (ha:QB X a p):QB X (.UnaryOp .Not a pos) (Lq p):=⟨have ha:=ha.run;ptM (adA ha) λσ H Q h=>by
 obtain⟨H0,ρ,k,E,e,w⟩:=h;obtain⟨c,ec,e⟩:=bind_some e;cases e;exact⟨H0,ρ,c,E,ec,λH1 s1=>w H1 s1⟩⟩
def wX (fa fb:Ev->Option Bx):Ev->Option Bx:=λρ=>((fa ρ).bind Cg).bind λc=>if c=true then fb ρ else some (.z (.bl false))
def aaH (fa:Ev->Option Bx):Ev->Option Bx:=λρ=>((fa ρ).bind Cg).bind λc=>some (.z (.bl (!c)))
theorem yM {op} (h:QV X a fa):QV X (.BoolOp op [a] pos) fa:=⟨have h:=h.run;Wt h⟩
theorem nH (ha:QV X a fa) (hb:QV X (.BoolOp .And (b::rest) pos) fb):QV X (.BoolOp .And (a::b::rest) pos) (wX fa fb):=⟨have ha:=ha.run;have hb:=hb.run;FP (PK ha hb) λσ H Q h=>by
 obtain⟨H0,ρ,k,E,e,w⟩:=h;obtain⟨c,ec,e⟩:=bind_some e;obtain⟨x,ex,ec⟩:=bind_some ec;refine⟨H0,ρ,x,E,ex,λv H1 s1 n1 r1=>⟨c,wU r1 ec,?_⟩⟩;cases c with
 |true=>rw[zi rfl] at e ⊢;exact⟨H0,ρ,k,E.grow s1,e,λv H2 s2 n2 r2=>w v H2 (s1.trans s2) (n2.old s1) r2⟩
 |false=>rw[zC ZA] at e ⊢;cases e;exact w _ H1 s1 trivial (by simp only[bA,Rep])⟩
theorem aed (ha:QV X a fa):QV X (.UnaryOp .Not a pos) (aaH fa):=⟨have ha:=ha.run;FP (adB ha) λσ H Q h=>by
 obtain⟨H0,ρ,k,E,e,w⟩:=h;obtain⟨c,ec,e⟩:=bind_some e;obtain⟨x,ex,ec⟩:=bind_some ec;cases e;exact⟨H0,ρ,x,E,ex,λv H1 s1 n1 r1=>⟨c,wU r1 ec,w _ H1 s1 trivial (by simp only[bA,Rep])⟩⟩⟩
theorem R7:PVs X [] (λ_=>some []):=paM dW λσ H Q h=>by
 obtain⟨H0,ρ,bs,E,e,q⟩:=h;cases e;exact q [] H (Same.refl H) .nil
def aq (f:Ev->Option Bx) (fs:Ev->Option (List Bx)):Ev->Option (List Bx):=λρ=>(f ρ).bind λb=>(fs ρ).bind λbs=>some (b::bs)
theorem Lr (h1:PV X e f) (h2:PVs X es fs) (hs:starEach (e::es) X.env=(false,eval e X.env)::starEach es X.env:=by rfl):PVs X (e::es) (aq f fs):=paM (aY h1 h2 hs) λσ H Q h=>by
 obtain⟨H0,ρ,bs,E,e,q⟩:=h;obtain⟨b,eb,e⟩:=bind_some e;obtain⟨bs',ebs,e⟩:=bind_some e;cases e;refine⟨H0,ρ,b,E,eb,λv H1 s1 n1 r1=>⟨H0,ρ,bs',E.grow s1,ebs,λvs H2 s2 r2=>?_⟩⟩;exact q (v::vs) H2 (s1.trans s2) (.cons (r1.same s2) r2)
def qP:Bx->Option Bx
 |.z d=>some (.z d)
 |.o ds=>some (.z (.lst ds))
 |.l _=>none
 |.n _=>none
 |.m _ _=>none
theorem Qg {a:Addr} (I:L2.Inv X pins σ H s) (h:H a=some (.lst vs)):∃ o,L2.Inv X pins σ (upd H a (.qM o (.lst vs))) s:=by
 obtain⟨z,its,n,r,e⟩:=I.hok a _ h;refine⟨{ cls:=.type "list", data:=.seq its.toArray n },⟨I.ok,I.os,I.bare,⟨I.base.keep,I.base.slot,λb ob q1 q2 q3=>?_,I.base.there,λb xs q=>?_,λb ob u q=>?_,λb ps q=>?_⟩,I.loc,I.cell,?_,λx c q=>?_,λp hp=>?_,?_,I.len⟩⟩
 ·have:=I.base.free b ob q1 q2 q3;rw[aK (bD h this).symm];exact this
 ·have:=I.base.tups b xs q;rw[aK (iW this h (by intro z;cases z))];exact this
 ·have:=I.base.sJ b ob u q;rw[aK (iW this h (by intro z;cases z))];exact this
 ·obtain⟨m,this⟩:=I.base.vQ b ps q;rw[aK (iW this h (by intro z;cases z))];exact⟨m,this⟩
 ·rw[aK (bD h I.free).symm];exact I.free
 ·rw[aK (bD h (I.iU x c q)).symm];exact I.iU x c q
 ·obtain⟨q1,q2,q3⟩:=I.pin p hp;refine⟨q1,?_,q3⟩;rw[aK (bD h q2).symm];exact q2
 ·intro b u q;by_cases hb:b=a
  ·subst hb;rw[bf] at q;cases q;exact⟨e,z,its,n,r,e⟩
  ·rw[aK hb] at q;refine(I.hok b u q).stay (λc v _ w=>w) (λc w=>?_) λc xs w=>?_
   ·rw[aK (iW w h (by intro z;cases z))];exact w
   ·rw[aK (iW w h (by intro z;cases z))];exact w
theorem dH (h:QV X e f):QV X e (b1 qP f):=⟨by
 have h:=h.run;intro pins s σ H Q I q;obtain⟨H0,ρ,b,E,e,q⟩:=q;obtain⟨x,ex,e⟩:=bind_some e;cases x with
 |z d=>
  cases e;exact h pins s σ H Q I ⟨H0,ρ,_,E,ex,λv H' s' n' r'=>q v H' s' trivial r'⟩
 |l ds=>cases e
 |n ds=>cases e
 |m ds _=>cases e
 |o ds=>
  cases e;refine iI (h pins s σ H (λv H'=>Same H H'/\Nw H (.o ds) v/\bA X.K H' (.o ds) v) I ⟨H0,ρ,_,E,ex,λv H' s' n' r'=>⟨s',n',r'⟩⟩) λu s1 hq=>?_;obtain⟨v,H1,I1,rv,s',n',r'⟩:=hq;obtain⟨a,vs,rfl,ha,rs⟩:=r';obtain⟨o,I2⟩:=Qg I1 ha;refine⟨.ref a,_,I2,rv,q _ _ (λc ob hc=>?_) trivial ?_⟩
  ·rw[aK (bD hc (n' a rfl))];exact s' c ob hc
  ·simp only[bA,Rep];exact⟨a,vs,rfl,.inl ⟨o,bf⟩,rs.kp (.lst ha)⟩⟩
def Jk:List Bx->Option (List Dt)
 |[]=>some []
 |.z d::r=>(Jk r).bind λds=>some (d::ds)
 |_=>none
theorem Cm {K:FG_} {H:Hp}:∀ {bs:List Bx} {vs:List V} {ds:List Dt},ql K H bs vs->Jk bs=some ds->aO K H ds vs
 |_,_,_,.nil,e=>by cases e;exact aO.nil
 |b::bs,_,_,.cons h t,e=>by
  cases b with
  |z d=>
   simp only[Jk] at e;obtain⟨ds',e1,e2⟩:=bind_some e;cases e2;exact aO.cons h (Cm t e1)
  |_=>cases e
theorem Cp:∀ {bs:List Bx} {ds:List Dt},Jk bs=some ds->ds.length=bs.length
 |[],_,e=>by cases e;rfl
 |.z d::r,_,e=>by
  simp only[Jk] at e;obtain⟨ds',e1,e2⟩:=bind_some e;cases e2;simp[Cp e1]
 |.l _::_,_,e=>by cases e
 |.o _::_,_,e=>by cases e
 |.n _::_,_,e=>by cases e
 |.m _ _::_,_,e=>by cases e
def fL (bs:List Bx):Option Bx:=if bs.length<=1000 then(Jk bs).bind λds=>some (.z (.tup ds)) else none
def jk (bs:List Bx):Option Bx:=if bs.length<=1000 then(Jk bs).bind λds=>some (.o ds) else none
theorem bJ {p:Addr} (h:H p=none):Same H (upd H p o):=λb u e=>by rw[aK (bD e h)];exact e
theorem acQ (h:n<=1000):n<=sizeLine:=Zp h (by decide)
theorem cJ {x1} (h:UW X es fs):QV X (.Tuple es x1 pos) (bU fL fs):=⟨have h:=h.run;FP (adR h) λσ H Q q=>by
 obtain⟨H0,ρ,c,E,e,q⟩:=q;obtain⟨bs,ebs,e⟩:=bind_some e;refine⟨H0,ρ,bs,E,ebs,λvs H1 s1 r1=>?_⟩;unfold fL at e;split at e
 ·rename_i hl;obtain⟨ds,e1,e⟩:=bind_some e;cases e;have r2:=Cm r1 e1;refine⟨acQ (by rw[r2.length,Cp e1];exact hl),λp hp=>q _ _ (s1.trans (bJ hp)) trivial ?_⟩;simp only[bA,Rep];exact⟨p,vs,rfl,.inl (.inl bf),r2.kp (.of (bJ hp))⟩
 ·cases e⟩
theorem dM (h:UW X es fs):QV X (.List es pos) (bU jk fs):=⟨have h:=h.run;FP (Qc h) λσ H Q q=>by
 obtain⟨H0,ρ,c,E,e,q⟩:=q;obtain⟨bs,ebs,e⟩:=bind_some e;refine⟨H0,ρ,bs,E,ebs,λvs H1 s1 r1=>?_⟩;unfold jk at e;split at e
 ·rename_i hl;obtain⟨ds,e1,e⟩:=bind_some e;cases e;have r2:=Cm r1 e1;refine⟨acQ (by rw[r2.length,Cp e1];exact hl),λp hp=>q _ _ (s1.trans (bJ hp)) (λa ea=>by cases ea;exact s1.free hp) ?_⟩;exact⟨p,vs,rfl,bf,r2.kp (.of (bJ hp))⟩
 ·cases e⟩
theorem bV {id:String} {g:List Bx->Option Bx} {p:Pos} (hc:mH X (.builtin id) g) (hg:Gl X x) (hm:X.mg x=none) (hv:bootBuiltins x=some (.builtin id)) (ha:UW X (e::es) fs) (hn:x ≠ "__name__" := by decide) (hdb:(x==("__debug__" : Str))=false:=by decide) (he:starEach (e::es) X.env=(false,eval e X.env)::starEach es X.env:=by rfl) (hpl:(backTo pos (starEach es X.env)).any (·.1)=false:=by rfl):QV X (.Call (.Name x p) (e::es) [] pos) (bU g fs):=⟨have ha:=ha.run;FP (dX hc hg hm hv ha hn hdb he hpl) convs⟩
theorem fV {T:String} {g:List Bx->Option Bx} {p:Pos} (hc:mH X (.type T) g) (hg:Gl X x) (hm:X.mg x=none) (hv:bootBuiltins x=some (.type T)) (ha:UW X (e::es) fs) (hn:x ≠ "__name__" := by decide) (hdb:(x==("__debug__" : Str))=false:=by decide) (he:starEach (e::es) X.env=(false,eval e X.env)::starEach es X.env:=by rfl) (hpl:(backTo pos (starEach es X.env)).any (·.1)=false:=by rfl):QV X (.Call (.Name x p) (e::es) [] pos) (bU g fs):=⟨have ha:=ha.run;FP (G9 hc hg hm hv ha hn hdb he hpl) convs⟩
end
inductive Out where
 |nx (ρ:Ev)|rt (b:Bx)|bk (ρ:Ev)|ct (ρ:Ev)
def Xa (K:FG_) (H0:Hp) (D:Ends):Out->Prop
 |.nx ρ=>∀ σ H,bL K H0 H σ ρ->D.nx σ H
 |.rt b=>∀ v H,Same H0 H->Nw H0 b v->bA K H b v->D.rt v H
 |.bk ρ=>∀ σ H,bL K H0 H σ ρ->D.bk σ H
 |.ct ρ=>∀ σ H,bL K H0 H σ ρ->D.ct σ H
def tG (K:FG_) (g:Ev->Option Out):TS:=λD σ H=>∃ H0 ρ r,bL K H0 H σ ρ/\g ρ=some r/\Xa K H0 D r
def PG1 (X:Cx) (st:Stmt) (g:Ev->Option Out):Prop:=PS X st (tG X.K g)
structure Qh (X:Cx) (st:Stmt) (g:Ev->Option Out):Prop where
 run:PG1 X st g
def Wv (X:Cx) (st:List Stmt) (g:Ev->Option Out):Prop:=Ba X st (tG X.K g)
structure Wi (X:Cx) (st:List Stmt) (g:Ev->Option Out):Prop where
 run:Wv X st g
def aJ (g1 g2:Ev->Option Out):Ev->Option Out:=λρ=>(g1 ρ).bind λr=>match r with
 |.nx ρ'=>g2 ρ'
 |r=>some r
section
variable {a b:Expr} {fa fb fc f:Ev->Option Bx} {fs:Ev->Option (List Bx)} {rest:List Stmt} {g g1 g2:Ev->Option Out}
theorem aV  : Wi X [] (λρ=>some (.nx ρ)):=⟨ad9 aag λD σ H h=>by
 obtain⟨H0,ρ,r,E,e,q⟩:=h;cases e;exact q σ H E⟩
theorem aD (h1:Qh X st g1) (h2:Wi X rest g2):Wi X (st::rest) (aJ g1 g2):=⟨have h1:=h1.run;have h2:=h2.run;ad9 (sZ h1 h2) λD σ H h=>by
 obtain⟨H0,ρ,r,E,e,q⟩:=h;obtain⟨r1,e1,e⟩:=bind_some e;refine⟨H0,ρ,r1,E,e1,?_⟩;cases r1 with
 |nx ρ'=>exact λσ' H' E'=>⟨H0,ρ',r,E',e,q⟩
 |rt b=>cases e;exact q
 |bk ρ'=>cases e;exact q
 |ct ρ'=>cases e;exact q⟩
def Xb:Bx->Option Out
 |.l _=>none
 |.n _=>none
 |b=>some (.rt b)
theorem dw (h:QV X e f):Qh X (.Return (some e) pos) (λρ=>(f ρ).bind Xb):=⟨have h:=h.run;R6 (Jb h) λD σ H h=>by
 obtain⟨H0,ρ,r,E,e,q⟩:=h;obtain⟨b,eb,e⟩:=bind_some e;refine⟨H0,ρ,b,E,eb,λv H1 s1 n1 r1=>?_⟩;cases b with
 |l ds=>cases e
 |z d=>cases e;exact q v H1 (E.base.trans s1) trivial r1
 |o ds=>cases e;exact q v H1 (E.base.trans s1) (n1.old E.base) r1
 |n ds=>cases e
 |m ds _=>cases e;exact q v H1 (E.base.trans s1) (n1.old E.base) r1⟩
def FZ (i:Nat) (ρ:Ev):Option Out:=match ρ[i]? with
 |some (some b)=>Xb b
 |_=>none
theorem Jl (i:Nat) {p:Pos} (hN:X.N[i]?=some x:=by rfl) (hv:Z2 X.env.scope x:=by first|exact kR rfl|exact JP (kR rfl)|exact JP (JP rfl)) (hd:(x==("__debug__" : Str))=false:=by decide) (hcd:(x==("__classdict__" : Str))=false:=by decide):Qh X (.Return (some (.Name x p)) pos) (FZ i):=⟨R6 (Jb (vR hN hv hd hcd)) λD σ H h=>by
 obtain⟨H0,ρ,r,E,e,q⟩:=h;unfold FZ at e;split at e
 ·rename_i b hb;obtain⟨v,e1,r1⟩:=E.val i b hb;refine⟨v,e1,?_⟩;cases b with
  |l ds=>cases e
  |z d=>cases e;exact q v H E.base trivial r1
  |o ds=>cases e;exact q v H E.base (λa ea=>E.new i _ a hb rfl (by rw[e1,ea])) r1
  |n ds=>cases e
  |m ds _=>cases e;exact q v H E.base (λa ea=>E.new i _ a hb rfl (by rw[e1,ea])) r1
 ·cases e⟩
def Ga (p:Ev->Option Bool) (g1 g2:Ev->Option Out):Ev->Option Out:=λρ=>(p ρ).bind λk=>if k=true then g1 ρ else g2 ρ
theorem nJ {p:Ev->Option Bool} {u v:List Stmt} (hc:QB X c p) (ha:Wi X u g1) (hb:Wi X v g2):Qh X (.If c u v pos) (Ga p g1 g2):=⟨have hc:=hc.run;have ha:=ha.run;have hb:=hb.run;R6 (acE hc ha hb) λD σ H h=>by
 obtain⟨H0,ρ,r,E,e,q⟩:=h;obtain⟨k,ek,e⟩:=bind_some e;refine⟨H0,ρ,k,E,ek,λH1 s1=>?_⟩;cases k with
 |true=>rw[zi rfl] at e ⊢;exact⟨H0,ρ,r,E.grow s1,e,q⟩
 |false=>rw[zC ZA] at e ⊢;exact⟨H0,ρ,r,E.grow s1,e,q⟩⟩
theorem getset {l:List α} {x y:α} (h:(l.set i x)[j]?=some y):(j=i/\y=x/\i < l.length)\/(j≠i/\l[j]?=some y):=by
 rw[Kn] at h;by_cases e:i=j
 ·subst e;rw[zi rfl] at h;split at h
  ·cases h;exact .inl ⟨rfl,rfl,by assumption⟩
  ·cases h
 ·rw[zC e] at h;exact .inr ⟨λz=>e z.symm,h⟩
theorem Cq {l:List α} (x:α) (h:i < l.length):(l.set i x)[i]?=some x:=by
 rw[Kn,zi rfl,zi h]
theorem Cr {l:List α} (x:α) (h:j≠i):(l.set i x)[j]?=l[j]?:=by
 rw[Kn,zC (km h)]
theorem bL.set {H1:Hp} {ρ:Ev} {b:Bx} {v:V} (E:bL K H0 H σ ρ) (s:Same H H1) (r:bA K H1 b v) (hl:sS b=true\/loose b=false) (n:Nw H b v):bL K H0 H1 (σ.set i (some v)) (ρ.set i (some b)):=by
 have E1:=E.grow s;have apart:∀ (j:Nat) (b':Bx) (a:Addr),ρ[j]?=some (some b')->loose b'=true->σ[j]?=some (some (.ref a))->H a≠none:=λj b' a e1 e2 e3 z=>by
  obtain⟨v',e4,r'⟩:=E.val j b' e1;rw[e3] at e4;cases e4;cases b' with
  |z d=>cases e2
  |l ds=>
   obtain⟨a',vs,e5,q,_⟩:=r';cases e5;rcases q with q|⟨o,q⟩<;>(rw[z] at q;cases q)
  |o ds=>
   obtain⟨a',vs,e5,q,_⟩:=r';cases e5;rw[z] at q;cases q
  |n ds=>
   obtain⟨a',vs,e5,q,_⟩:=r';cases e5;rcases q with q|⟨o,q⟩<;>(rw[z] at q;cases q)
  |m ds _=>
   obtain⟨a',vs,e5,q,_⟩:=r';cases e5;rw[z] at q;cases q
 have nw:sS b=true->∀ a,v=.ref a->H a=none:=λho=>by
  cases b with
  |o ds=>exact n
  |m ds _=>exact n
  |_=>cases ho
 refine⟨by rw[JY,JY];exact E.len,λj b' e=>?_,λj k c a b' e1 ec e2 e3 e4 e5=>?_,E1.base,λj c a e1 ec e2=>?_⟩
 ·rcases getset e with⟨rfl,e',hi⟩|⟨hne,e'⟩
  ·cases e';exact⟨v,Cq _ (by rw[E.len];exact hi),r⟩
  ·rw[Cr _ hne];exact E1.val j b' e'
 ·rcases getset e1 with⟨rfl,e',hi⟩|⟨hne,e'⟩
  ·cases e';rw[Cq _ (by rw[E.len];exact hi)] at e2;cases e2;rcases getset e3 with⟨rfl,e3',_⟩|⟨aaI,e3'⟩
   ·rfl
   ·rw[Cr _ aaI] at e5;exact absurd (nw ec a rfl) (apart k b' a e3' e4 e5)
  ·rw[Cr _ hne] at e2;rcases getset e3 with⟨rfl,e3',hi⟩|⟨aaI,e3'⟩
   ·cases e3';rw[Cq _ (by rw[E.len];exact hi)] at e5;cases e5;have hlo:loose c=true:=by cases c<;>first|rfl|cases ec
    rcases hl with hl|hl
    ·exact absurd (nw hl a rfl) (apart j _ a e' hlo e2)
    ·rw[hl] at e4;cases e4
   ·rw[Cr _ aaI] at e5;exact E.own j k c a b' e' ec e2 e3' e4 e5
 ·rcases getset e1 with⟨rfl,e',hi⟩|⟨hne,e'⟩
  ·cases e';rw[Cq _ (by rw[E.len];exact hi)] at e2;cases e2;exact E.base.free (nw ec a rfl)
  ·rw[Cr _ hne] at e2;exact E.new j c a e' ec e2
def Xc (ρ:Ev) (i:Nat):Bx->Option Ev
 |.l _=>none
 |.n _=>none
 |b=>some (ρ.set i (some b))
theorem aaJ {H1:Hp} {ρ ρ':Ev} {b:Bx} {v:V} (E:bL K H0 H σ ρ) (s:Same H H1) (r:bA K H1 b v) (n:Nw H b v) (e:Xc ρ i b=some ρ'):bL K H0 H1 (σ.set i (some v)) ρ':=by
 cases b with
 |l ds=>cases e
 |z d=>cases e;exact E.set s r (.inr rfl) n
 |o d=>cases e;exact E.set s r (.inl rfl) n
 |n ds=>cases e
 |m d _=>cases e;exact E.set s r (.inl rfl) n
theorem bF (i:Nat) {p:Pos} (hN:X.N.Nodup) (he:QV X e f) (hi:X.N[i]?=some x:=by rfl) (hx:Loc X.env.scope x:=by first|exact kR rfl|exact JP rfl) (hs:swapsWith e (some (.Name x p)) pos.line X.env=pure false:=by rfl) (hf:X.fn x=true\/X.env.scope.names.lookup x=some .local:=by first|exact .inl rfl|exact .inr rfl):Qh X (.Assign [.Name x p] e pos) (λρ=>(f ρ).bind λb=>(Xc ρ i b).bind λρ'=>some (.nx ρ')):=⟨have he:=he.run;R6 (BL hN hi hx he hs hf) λD σ H h=>by
 obtain⟨H0,ρ,r,E,e,q⟩:=h;obtain⟨b,eb,e⟩:=bind_some e;obtain⟨ρ',eρ,e⟩:=bind_some e;cases e;exact⟨H0,ρ,b,E,eb,λv H1 s1 n1 r1=>q _ _ (aaJ E s1 r1 n1 eρ)⟩⟩
def Lo (σ:L2.St) (ρ:Ev) (σ':L2.St) (ρ':Ev):Prop:=∀ (j:Nat) b,loose b=true->ρ'[j]?=some (some b)->ρ[j]?=some (some b)/\σ'[j]?=σ[j]?
theorem Lo.refl {ρ:Ev}:Lo σ ρ σ ρ:=λ_ _ _ e=>⟨e,rfl⟩
theorem Lo.trans {σ σ1 σ2:L2.St} {ρ ρ1 ρ2:Ev} (a:Lo σ ρ σ1 ρ1) (b:Lo σ1 ρ1 σ2 ρ2):Lo σ ρ σ2 ρ2:=λj c l e=>by
 obtain⟨e1,e2⟩:=b j c l e;obtain⟨e3,e4⟩:=a j c l e1;exact⟨e3,e2.trans e4⟩
theorem Lo.set {ρ:Ev} (i:Nat) (v:V) (d:Dt):Lo σ ρ (σ.set i (some v)) (ρ.set i (some (.z d))):=λj b l e=>by
 rcases getset e with⟨rfl,e',_⟩|⟨hne,e'⟩
 ·cases e';cases l
 ·exact⟨e',Cr _ hne⟩
def tgF (K:FG_) (g:Dt->Ev->Option Ev):TG:=λv σ H Q=>∃ H0 ρ d ρ',bL K H0 H σ ρ/\Rep K H d v/\g d ρ=some ρ'/\∀ σ',bL K H0 H σ' ρ'->Lo σ ρ σ' ρ'->Q σ' H
def PTg (X:Cx) (t:Expr) (g:Dt->Ev->Option Ev):Prop:=PG X t (tgF X.K g)
structure Z4 (X:Cx) (t:Expr) (g:Dt->Ev->Option Ev):Prop where
 run:PTg X t g
theorem aR (i:Nat) (hN:X.N.Nodup) (hi:X.N[i]?=some x:=by rfl) (hx:Loc X.env.scope x:=by first|exact kR rfl|exact JP rfl) (hf:X.fn x=true\/X.env.scope.names.lookup x=some .local:=by first|exact .inl rfl|exact .inr rfl):Z4 X (.Name x pos) (λd ρ=>some (ρ.set i (some (.z d)))):=⟨λpins s σ H v u Q I r h=>by
 obtain⟨H0,ρ,d,ρ',E,rd,e,q⟩:=h;cases e;exact RN hN hi hx hf pins s σ H v u Q I r (q _ (E.set (b:=.z d) (Same.refl H) rd (.inr rfl) trivial) (Lo.set i v d))⟩
def aiy (K:FG_) (g:List Dt->Ev->Option Ev):TGs:=λvs σ H Q=>∃ H0 ρ ds ρ',bL K H0 H σ ρ/\aO K H ds vs/\g ds ρ=some ρ'/\∀ σ',bL K H0 H σ' ρ'->Lo σ ρ σ' ρ'->Q σ' H
def aiz (X:Cx) (t:List Expr) (g:List Dt->Ev->Option Ev):Prop:=L2.Wv X t (aiy X.K g)
structure aaK (X:Cx) (t:List Expr) (g:List Dt->Ev->Option Ev):Prop where
 run:aiz X t g
def tD:List Dt->Ev->Option Ev
 |[],ρ=>some ρ
 |_,_=>none
def bR (g:Dt->Ev->Option Ev) (gs:List Dt->Ev->Option Ev):List Dt->Ev->Option Ev
 |d::ds,ρ=>(g d ρ).bind (gs ds)
 |_,_=>none
theorem oM  : aaK X [] tD:=⟨λpins s σ H vs us Q I r h=>by
 obtain⟨H0,ρ,ds,ρ',E,rd,e,q⟩:=h;cases ds with
 |nil=>cases e;unfold aO at rd;exact aah pins s σ H vs us Q I r ⟨rd,q _ E Lo.refl⟩
 |cons d ds=>cases e⟩
theorem bH {t:Expr} {ts:List Expr} {gt:Dt->Ev->Option Ev} {gs:List Dt->Ev->Option Ev} (h1:Z4 X t gt) (h2:aaK X ts gs) (hs:(assignEach (t::ts) X.env).map (·.2)=assign t X.env::(assignEach ts X.env).map (·.2):=by rfl):aaK X (t::ts) (bR gt gs):=⟨have h1:=h1.run;have h2:=h2.run;λpins s σ H vs us Q I r h=>by
 obtain⟨H0,ρ,ds,ρ',E,rd,e,q⟩:=h;cases ds with
 |nil=>cases e
 |cons d ds=>
  unfold aO at rd;obtain⟨v,vr,rfl,r1,r2⟩:=rd;simp only[bR] at e;obtain⟨ρ1,e1,e⟩:=bind_some e;exact Ww h1 h2 hs pins s σ H _ us Q I r ⟨v,vr,rfl,H0,ρ,d,ρ1,E,r1,e1,λσ1 E1 L1=>⟨H0,ρ1,ds,ρ',E1,r2,e,λσ2 E2 L2=>q σ2 E2 (L1.trans L2)⟩⟩⟩
def qm (n:Nat) (gs:List Dt->Ev->Option Ev):Dt->Ev->Option Ev
 |.tup ds,ρ=>if ds.length=n then gs ds ρ else none
 |_,_=>none
theorem tH {ts:List Expr} {k:Nat} {gs:List Dt->Ev->Option Ev} (hc:X.calm=true) (h:aaK X ts gs) (hn:(assignEach ts X.env).length=n:=by rfl) (hst:(assignEach ts X.env).findIdx? (·.1)=none:=by rfl):Z4 X (.Tuple ts k pos) (qm n gs):=⟨have h:=h.run;λpins s σ H v u Q I r hw=>by
 obtain⟨H0,ρ,d,ρ',E,rd,e,q⟩:=hw;cases d with
 |tup ds=>
  simp only[qm] at e;split at e
  ·rename_i hl;unfold Rep at rd;obtain⟨a,vs,rfl,hq,rs⟩:=rd;exact adD hc h hn hst pins s σ H _ u Q I r ⟨a,vs,rfl,hq,by rw[rs.length];exact hl,H0,ρ,ds,ρ',E,rs,e,q⟩
  ·cases e
 |_=>cases e⟩
theorem Qi {gt:Dt->Ev->Option Ev} (he:QV X e f) (hg:Z4 X tg gt) (hs:swapsWithSole [tg] e pos.line X.env=pure false:=by rfl) (hw:swappedStores [tg] e X.env=pure none:=by rfl) (h1:(assignEach [tg] X.env).map (·.2)=[assign tg X.env]:=by rfl):Qh X (.Assign [tg] e pos) (λρ=>(f ρ).bind λb=>match b with|.z d=>(gt d ρ).bind λρ'=>some (.nx ρ')|_=>none):=⟨have he:=he.run;have hg:=hg.run;R6 (adE he hg hs hw h1) λD σ H h=>by
 obtain⟨H0,ρ,r,E,e,q⟩:=h;obtain⟨b,eb,e⟩:=bind_some e;refine⟨H0,ρ,b,E,eb,λv H1 s1 n1 r1=>?_⟩;cases b with
 |z d=>
  obtain⟨ρ',eρ,e⟩:=bind_some e;cases e;exact⟨H0,ρ,d,ρ',E.grow s1,r1,eρ,λσ' E' _=>q _ _ E'⟩
 |_=>cases e⟩
def aaL (i j:Nat) (ρ:Ev):List Bx->Option Out
 |[.z d,.z d']=>some (.nx ((ρ.set i (some (.z d))).set j (some (.z d'))))
 |_=>none
theorem Jm (i j:Nat) {y:Str} {px py pt:Pos} {kt k2 pt2} (hc:X.calm=true) (hN:X.N.Nodup) (ha:UW X [a,b] fs) (hi:X.N[i]?=some x:=by rfl) (hj:X.N[j]?=some y:=by rfl) (hij:i≠j:=by decide) (hx:X.env.scope.names.lookup x=some .local:=by rfl) (hy:X.env.scope.names.lookup y=some .local:=by rfl) (hw:swappedStores [.Tuple [.Name x px,.Name y py] kt pt] (.Tuple [a,b] k2 pt2) X.env=pure (some [x,y]):=by rfl) (hs:swapsWithSole [.Tuple [.Name x px,.Name y py] kt pt] (.Tuple [a,b] k2 pt2) pos.line X.env=pure false:=by rfl):Qh X (.Assign [.Tuple [.Name x px,.Name y py] kt pt] (.Tuple [a,b] k2 pt2) pos) (λρ=>(fs ρ).bind (aaL i j ρ)):=⟨have ha:=ha.run;R6 (adF hc hN hi hj hij hx hy ha hw hs) λD σ H h=>by
 obtain⟨H0,ρ,r,E,e,q⟩:=h;obtain⟨bs,eb,e⟩:=bind_some e;refine⟨H0,ρ,bs,E,eb,λvs H1 s1 r1=>?_⟩;unfold aaL at e;split at e
 ·rename_i d d';cases e;cases r1 with
  |cons p t=>
   cases t with
   |cons p' t'=>
    cases t';refine⟨_,_,rfl,q _ _ ?_⟩;exact((E.grow s1).set (b:=.z d) (Same.refl H1) p (.inr rfl) trivial).set (b:=.z d') (Same.refl H1) p' (.inr rfl) trivial
 ·cases e⟩
def aaM (ρ:Ev) (i:Nat):Bx->Option Out
 |.z d=>match ρ[i]? with
  |some (some (.o ds))=>if ds.length < sizeLine then some (.nx (ρ.set i (some (.o (ds++[d]))))) else none
  |_=>none
 |_=>none
theorem bL.agw {ρ:Ev} {c0 c1:Bx} {a:Addr} {u:HO} (E:bL K H0 H σ ρ) (h:ρ[i]?=some (some c0)) (ho:sS c0=true) (hs:σ[i]?=some (some (.ref a))) (k:Kp H (upd H a u)) (r:bA K (upd H a u) c1 (.ref a)) :
  bL K H0 (upd H a u) σ (ρ.set i (some c1)):=by
 have hi:i < ρ.length:=(List.getElem?_eq_some_iff.mp h).1;have hb:H0 a=none:=E.new i c0 a h ho hs;have lo:∀ c,sS c=true->loose c=true:=λc hc=>by cases c<;>first|rfl|cases hc
 refine⟨by rw[JY];exact E.len,λj b' e=>?_,λj k' c a' b' e1 ec e2 e3 e4 e5=>?_,λc o e=>?_,λj c a' e1 ec e2=>?_⟩
 ·rcases getset e with⟨rfl,e',_⟩|⟨hne,e'⟩
  ·cases e';exact⟨_,hs,r⟩
  ·obtain⟨v,e1,r'⟩:=E.val j b' e';refine⟨v,e1,?_⟩;have away:∀ a',v=.ref a'->loose b'=true->a'≠a:=λa' ev hl z=>by
    subst z;exact hne (E.own i j c0 _ _ h ho hs e' hl (by rw[e1,ev])).symm
   cases b' with
   |z d=>exact Rep.kp k r'
   |l ds'=>
    obtain⟨a',vs',rfl,q,rr⟩:=r';refine⟨a',vs',rfl,?_,rr.kp k⟩;have hn:=away a' rfl rfl;rcases q with q|⟨o,q⟩
    ·exact .inl (by rw[aK hn];exact q)
    ·exact .inr ⟨o,by rw[aK hn];exact q⟩
   |o ds'=>
    obtain⟨a',vs',rfl,q,rr⟩:=r';have hn:=away a' rfl rfl;exact⟨a',vs',rfl,by rw[aK hn];exact q,rr.kp k⟩
   |n ds'=>
    obtain⟨a',vs',rfl,q,rr⟩:=r';refine⟨a',vs',rfl,?_,rr.kp k⟩;have hn:=away a' rfl rfl;rcases q with q|⟨o,q⟩
    ·exact .inl (by rw[aK hn];exact q)
    ·exact .inr ⟨o,by rw[aK hn];exact q⟩
   |m ds'=>
    obtain⟨a',vs',rfl,q,rr⟩:=r';have hn:=away a' rfl rfl;exact⟨a',vs',rfl,by rw[aK hn];exact q,rr.1.kp k,rr.2⟩
 ·have back:∀ (m:Nat) (b:Bx),(ρ.set i (some c1))[m]?=some (some b)->loose b=true->∃ b0,ρ[m]?=some (some b0)/\loose b0=true/\(sS b=true->sS b0=true):=λm b e l=>by
   rcases getset e with⟨rfl,e',_⟩|⟨hne,e'⟩
   ·exact⟨_,h,lo _ ho,λ_=>ho⟩
   ·exact⟨b,e',l,λz=>z⟩
  obtain⟨b0,q1,q2,q3⟩:=back j _ e1 (lo _ ec);obtain⟨b1,q4,q5,_⟩:=back k' _ e3 e4;exact E.own j k' b0 a' b1 q1 (q3 ec) e2 q4 q5 e5
 ·rw[aK (bD e hb)];exact E.base c o e
 ·rcases getset e1 with⟨rfl,e',_⟩|⟨hne,e'⟩
  ·exact E.new _ c0 a' h ho e2
  ·exact E.new j c a' e' ec e2
theorem bL.ad2 {ρ:Ev} {ds es:List Dt} {a:Addr} {us:List V} (E:bL K H0 H σ ρ) (h:ρ[i]?=some (some (.o ds))) (hs:σ[i]?=some (some (.ref a))) (ha:H a=some (.lst vs)) (r:aO K H es us) :
  bL K H0 (upd H a (.lst us)) σ (ρ.set i (some (.o es))):=E.agw h rfl hs (.lst ha) ⟨a,us,rfl,bf,r.kp (.lst ha)⟩
theorem yN (i:Nat) {p:Pos} (he:QV X e f) (hN:X.N[i]?=some x:=by rfl) (hv:Z2 X.env.scope x:=by first|exact kR rfl|exact JP (kR rfl)|exact JP (JP rfl)) (hd:(x==("__debug__" : Str))=false:=by decide) (hcd:(x==("__classdict__" : Str))=false:=by decide) (hst:starEach [e] X.env=[(false,eval e X.env)]:=by rfl) (hbase:attributeBase (.Name x p) "append" X.env (eval (.Name x p) X.env)=eval (.Name x p) X.env:=by rfl) (hfew:((backTo cpos (starEach [e] X.env)).all (λx=>!x.1)&&(backToKw cpos (keywordEach [] X.env)).all (λx=>x.1.isSome)&&decide ([e].length+([]:List Keyword).length+(if([]:List Keyword).isEmpty then 0 else 1) < 30))=true:=by rfl) (hline:(apos.endLine==cpos.line)=true:=by rfl) (hs:swapsWith (.Call (.Attribute (.Name x p) "append" apos) [e] [] cpos) none pos.line X.env=pure false:=by rfl):Qh X (.Expr (.Call (.Attribute (.Name x p) "append" apos) [e] [] cpos) pos) (λρ=>(f ρ).bind (aaM ρ i)):=⟨have he:=he.run;R6 (Ja (acL PySem.F.plainAttrs_list PySem.F.slot_list_append PySem.F.type_list_append Hf (vR (i:=i) hN hv hd hcd) (aY he dW (by rw[hst]<;>rfl)) hbase hfew hline (by rw[hst]<;>rfl) rfl) hs) λD σ H h=>by
  obtain⟨H0,ρ,r,E,e,q⟩:=h;obtain⟨b,eb,e⟩:=bind_some e;cases b with
  |z d=>
   simp only[aaM] at e;split at e
   ·rename_i ds hρ;split at e
    ·rename_i hl;cases e;obtain⟨v,e1,a,vs,rfl,ha,rs⟩:=E.val i _ hρ;refine⟨_,e1,.inl ⟨rfl,vs,.inl (.inl ha)⟩,H0,ρ,_,E,eb,λu H1 s1 n1 r1=>?_⟩;have E1:=E.grow s1;refine⟨a,vs,u,rfl,rfl,s1 _ _ ha,by rw[rs.length];exact hl,q _ _ ?_⟩;exact E1.ad2 hρ e1 (s1 _ _ ha) ((rs.kp (.of s1)).append (aO.cons r1 aO.nil))
    ·cases e
   ·cases e
  |_=>cases e⟩
end
def Its (x:Str):It:=⟨λi _=>i < x.cps.size,λi H v H'=>H'=H/\∃ c,x.cps[i]?=some c/\v=.str ⟨#[c]⟩,λi _=>x.cps.size<=i⟩
def aiA (h:Heap) (it:Addr) (x:Str) (i:Nat):Prop:=∃ t,h.IsStrIter it "str_ascii_iterator" x t i\/h.IsStrIter it "str_iterator" x t i
theorem Ls (it:Addr) (x:Str):Turn P w K tg (Its x) [it] it (λi h=>aiA h it x i) where
 mem:=by simp
 obj:=λi h st b hb=>by
  have e:b=it:=by simpa using hb
  subst e;obtain⟨t,⟨o,e,c,d⟩|⟨o,e,c,d⟩⟩:=st
  ·exact⟨o,e,λv z=>by rw[d] at z;cases z⟩
  ·exact⟨o,e,λv z=>by rw[d] at z;cases z⟩
 keep:=λi h h' st k=>by
  obtain⟨t,⟨o,e,c⟩|⟨o,e,c⟩⟩:=st
  ·exact⟨t,.inl ⟨o,k it (by simp) o e,c⟩⟩
  ·exact⟨t,.inr ⟨o,k it (by simp) o e,c⟩⟩
 item:=by
  intro X hP hw hK hc i pins s σ H E I hf st hg;subst hP hw hK;obtain⟨f0,f1,f2,f3,f4,f5⟩:=hf it (by simp);have hi:i < x.cps.size:=hg;have hx:x.cps[i]?=some x.cps[i]:=by simp[hi]
  obtain⟨t,st|st⟩:=st
  ·refine wpAny_pyNext_ascii_item st hx λh' st' sb=>?_;have I1:L2.Inv X pins σ H { s with heap:=h',toks:=s.toks+1 }:=I.turned (λb o hb e=>(sb.2 b hb).trans e) f0 f1 f3 f4 f5;obtain⟨o,e,c,d⟩:=id st';exact⟨_,rfl,BP (s:={ s with heap:=h',toks:=s.toks+1 }) e c d (by decide) ⟨.str ⟨#[x.cps[i]]⟩,H,I1,⟨_,rfl⟩,⟨rfl,_,hx,rfl⟩,⟨t,.inl st'⟩,λb hb=>(hf b hb).1⟩⟩
  ·refine wpAny_pyNext_wide_item st hx λh' st' sb=>?_;have I1:L2.Inv X pins σ H { s with heap:=h',toks:=s.toks+1 }:=I.turned (λb o hb e=>(sb.2 b hb).trans e) f0 f1 f3 f4 f5;obtain⟨o,e,c,d⟩:=id st';exact⟨_,rfl,BP (s:={ s with heap:=h',toks:=s.toks+1 }) e c d (by decide) ⟨.str ⟨#[x.cps[i]]⟩,H,I1,⟨_,rfl⟩,⟨rfl,_,hx,rfl⟩,⟨t,.inr st'⟩,λb hb=>(hf b hb).1⟩⟩
 done:=by
  intro X hP hw hK hc i pins s σ H E I hf st hg;subst hP hw hK;obtain⟨f0,f1,f2,f3,f4,f5⟩:=hf it (by simp);have hx:x.cps[i]?=none:=by have:x.cps.size<=i:=hg;simp[this]
  obtain⟨t,st|st⟩:=st
  ·exact wpAny_pyNext_ascii_end (I.ok.hd hc) st hx λh' eb=>⟨rfl,I.turned (t':=s.toks) (λb o hb e=>eb b o hb e) f0 f1 f3 f4 f5⟩
  ·exact wpAny_pyNext_wide_end (I.ok.hd hc) st hx λh' eb=>⟨rfl,I.turned (t':=s.toks) (λb o hb e=>eb b o hb e) f0 f1 f3 f4 f5⟩
 self:=λ_ _ _ _ _ st h=>by
  obtain⟨t,st|st⟩:=st
  ·exact wpAny_pyIter_striter_ascii st h
  ·exact wpAny_pyIter_striter_wide st h
def aiB (K:FG_) (tl:TE):TI:=λσ H R=>tl σ H λx H1=>(∃ a,x=.ref a/\(∃ xs,sW K H1 a xs)/\R (Itl K a) H1)\/(∃ a,x=.ref a/\(∃ xs,wL K H1 a xs)/\R (Itt K a) H1)\/∃ y,x=.str y/\R (Its y) H1
theorem Qj {l:Expr} {tl:TE} (hl:PE X l tl):PI X tg l (aiB X.K tl):=by
 intro pins s σ H R I h;refine iI (hl pins s σ H _ I h) λv s1 ⟨x,H1,I1,r1,q1⟩=>?_;have fp1:∀ (o:Obj) (b:Addr),b∈[s1.heap.objs.size]->qe X pins H1 b:=λo b hb=>by
  have e:b=s1.heap.objs.size:=by simpa using hb
  subst e;exact I1.Uq (zg _) (I1.hok.fresh (zg _))
 rcases q1 with⟨a,e,⟨xs,hq⟩,q⟩|⟨a,e,⟨xs,hq⟩,q⟩|⟨y,e,q⟩
 ·subst e;cases r1;obtain⟨its,rv,p,hz⟩:=I1.list hq;refine wpAny_pyIter_list p.isList ?_;exact⟨s1.heap.objs.size,[s1.heap.objs.size],_,_,H1,rfl,I1.kept (t':=s1.toks) λb o e=>zd _ e,Ur a _,⟨_,zv _ rfl,rfl,rfl⟩,fp1 default,q⟩
 ·subst e;cases r1;obtain⟨its,rv,p,hz⟩:=I1.tuple hq;refine wpAny_pyIter_tuple (show s1.heap.IsTuple a its.toArray from p) ?_;exact⟨s1.heap.objs.size,[s1.heap.objs.size],_,_,H1,rfl,I1.kept (t':=s1.toks) λb o e=>zd _ e,PL a _,⟨_,zv _ rfl,rfl,rfl⟩,fp1 default,q⟩
 ·subst e;obtain⟨t,rfl⟩:=r1;cases ha:y.cps.all (· < 128) with
  |true=>
   refine wpAny_pyIter_ascii ha ?_;exact⟨s1.heap.objs.size,[s1.heap.objs.size],_,_,H1,rfl,I1.kept (t':=s1.toks) λb o e=>zd _ e,Ls _ y,⟨t,.inl ⟨_,zv _ rfl,rfl,rfl⟩⟩,fp1 default,q⟩
  |false=>
   refine wpAny_pyIter_wide ha ?_;exact⟨s1.heap.objs.size,[s1.heap.objs.size],_,_,H1,rfl,I1.kept (t':=s1.toks) λb o e=>zd _ e,Ls _ y,⟨t,.inr ⟨_,zv _ rfl,rfl,rfl⟩⟩,fp1 default,q⟩
def Yields (K:FG_) (J:It) (ds:List Dt) (Hs:Hp):Prop:=∀ (i:Nat) (H:Hp),Same Hs H →
 (∀ d,ds[i]?=some d->J.go i H/\∀ x H',J.yld i H x H'->Same H H'/\Rep K H' d x)/\(ds.length<=i->J.stop i H)
theorem Yields.of {ds:List Dt} (h:∀ (i:Nat) (H:Hp),Same Hs H →
  (∀ d,ds[i]?=some d->J.go i H/\∀ x H',J.yld i H x H'->H'=H/\Rep K H d x)/\(ds.length<=i->J.stop i H)):Yields K J ds Hs:=λi H s=>
 ⟨λd e=>⟨((h i H s).1 d e).1,λx H' y=>by
  obtain⟨rfl,r⟩:=((h i H s).1 d e).2 x H' y;exact⟨Same.refl _,r⟩⟩,(h i H s).2⟩
def signs (x:Str):List Dt:=x.cps.toList.map λc=>.str ⟨#[c]⟩
theorem Yields.list {ds:List Dt} (h:sW K Hs a vs) (r:aO K Hs ds vs):Yields K (Itl K a) ds Hs:=.of λi H s=>by
 have h':=s.seq h;have r':=r.kp (.of s);refine⟨λd e=>?_,λe=>⟨vs,h',by rw[r.length];exact e⟩⟩;obtain⟨v,ev,rv⟩:=r'.get e;refine⟨⟨vs,v,h',ev⟩,λx H' y=>?_⟩;obtain⟨y1,y2⟩:=y;have:=y2 vs h';rw[ev] at this;cases this;exact⟨y1,rv⟩
theorem Yields.tup {ds:List Dt} (h:wL K Hs a vs) (r:aO K Hs ds vs):Yields K (Itt K a) ds Hs:=.of λi H s=>by
 have h':=(Kp.of s).sqT h;have r':=r.kp (.of s);refine⟨λd e=>?_,λe=>⟨vs,h',by rw[r.length];exact e⟩⟩;obtain⟨v,ev,rv⟩:=r'.get e;refine⟨⟨vs,v,h',ev⟩,λx H' y=>?_⟩;obtain⟨y1,y2⟩:=y;have:=y2 vs h';rw[ev] at this;cases this;exact⟨y1,rv⟩
theorem Yields.str (x:Str):Yields K (Its x) (signs x) Hs:=.of λi H s=>by
 refine⟨λd e=>?_,λe=>?_⟩
 ·unfold signs at e;rw[Zl] at e;cases h:x.cps.toList[i]? with
  |none=>rw[h] at e;cases e
  |some c=>
   rw[h] at e;cases e;have hc:x.cps[i]?=some c:=by simpa using h
   have hi:i < x.cps.size:=by
    have:=(List.getElem?_eq_some_iff.mp h).1;simpa using this
   refine⟨hi,λv H' y=>?_⟩;obtain⟨y1,c',hc',rfl⟩:=y;rw[hc] at hc';cases hc';refine⟨y1,?_⟩;unfold Rep;exact⟨rfl,by show(1:Nat)<=sizeLine;decide⟩
 ·have:(signs x).length=x.cps.size:=by simp[signs]
  show x.cps.size<=i;omega
def Ab (lo:Int) (n:Nat):List Dt:=(List.range n).map λk=>.int (lo+(k:Nat))
theorem Yields.rng (lo:Int) (n:Nat):Yields K (Itr lo n) (Ab lo n) Hs:=.of λi H s=>by
 refine⟨λd e=>?_,λe=>?_⟩
 ·unfold Ab at e;rw[Zl] at e;by_cases hi:i < n
  ·rw[List.getElem?_range hi] at e;cases e;refine⟨hi,λv H' y=>?_⟩;obtain⟨y1,y2⟩:=y;refine⟨y1,?_⟩;unfold Rep;exact y2
  ·rw[qV (by simp;omega)] at e;cases e
 ·have:(Ab lo n).length=n:=by simp[Ab]
  show n<=i;omega
def iF (K:FG_) (f:Ev->Option (List Dt)):TI:=λσ H R=>∃ H0 ρ ds,bL K H0 H σ ρ/\f ρ=some ds/\∀ J H',Same H H' →
 (∀ Hs,Same Hs H'->(∀ a,H a=none->Hs a=H' a)->(∀ a o u,H' a=some (.qM o u)->Hs a=H' a)->(∀ a vs,H' a=some (.tup vs)->Hs a=H' a)->Yields K J ds Hs)->R J H'
def PIF (X:Cx) (tg iter:Expr) (f:Ev->Option (List Dt)):Prop:=PI X tg iter (iF X.K f)
structure QIF (X:Cx) (tg iter:Expr) (f:Ev->Option (List Dt)):Prop where
 run:PIF X tg iter f
def Xd:Bx->Option (List Dt)
 |.z (.lst ds)=>some ds
 |.z (.tup ds)=>some ds
 |.z (.str x)=>some (signs x)
 |.o ds=>some ds
 |_=>none
section
variable {f:Ev->Option Bx} {fs:Ev->Option (List Bx)}
mutual
theorem Rep.part {K:FG_} {H Hs:Hp} (hf:∀ a o u,H a=some (.qM o u)->Hs a=H a) (ht:∀ a vs,H a=some (.tup vs)->Hs a=H a):∀ {d:Dt} {v:V},Rep K H d v->Rep K Hs d v
 |.non,_,h=>by simpa only[Rep] using h
 |.bl _,_,h=>by simpa only[Rep] using h
 |.int _,_,h=>by simpa only[Rep] using h
 |.str _,_,h=>by simpa only[Rep] using h
 |.tup ds,_,h=>by
  simp only[Rep] at h ⊢;obtain⟨a,vs,e,q,r⟩:=h;refine⟨a,vs,e,?_,aO.part hf ht r⟩;rcases q with (q|⟨o,q⟩)|q
  ·exact .inl (.inl ((ht _ _ q).trans q))
  ·exact .inl (.inr ⟨o,(hf _ _ _ q).trans q⟩)
  ·exact .inr q
 |.lst ds,_,h=>by
  simp only[Rep] at h ⊢;obtain⟨a,vs,e,q,r⟩:=h;refine⟨a,vs,e,?_,aO.part hf ht r⟩;rcases q with⟨o,q⟩|q
  ·exact .inl ⟨o,(hf _ _ _ q).trans q⟩
  ·exact .inr q
 |.emp,_,h=>by
  simp only[Rep] at h ⊢;obtain⟨a,o,e,q⟩:=h;exact⟨a,o,e,(hf _ _ _ q).trans q⟩
theorem aO.part {K:FG_} {H Hs:Hp} (hf:∀ a o u,H a=some (.qM o u)->Hs a=H a) (ht:∀ a vs,H a=some (.tup vs)->Hs a=H a):∀ {ds:List Dt} {vs:List V},aO K H ds vs->aO K Hs ds vs
 |[],_,h=>by simpa only[aO] using h
 |d::ds,_,h=>by
  simp only[aO] at h ⊢;obtain⟨v,r,e,q,t⟩:=h;exact⟨v,r,e,Rep.part hf ht q,aO.part hf ht t⟩
end
theorem uK (h:QV X e f):QIF X tg e (λρ=>(f ρ).bind Xd):=⟨have h:=h.run;λpins s σ H R I q=>by
 refine Qj h pins s σ H R I ?_;obtain⟨H0,ρ,ds,E,e,q⟩:=q;obtain⟨b,eb,e⟩:=bind_some e;refine⟨H0,ρ,b,E,eb,λv H1 s1 n1 r1=>?_⟩;cases b with
 |z d=>
  cases d with
  |tup ds'=>
   cases e;simp only[bA,Rep] at r1;obtain⟨a,vs,rfl,hq,rs⟩:=r1;refine .inr (.inl ⟨a,rfl,⟨vs,hq⟩,q _ _ s1 λHs hs hn hf ht=>.tup ?_ (rs.part hf ht)⟩);rcases hq with (hq|⟨o,hq⟩)|hq
   ·exact .inl (.inl ((ht _ _ hq).trans hq))
   ·exact .inl (.inr ⟨o,(hf _ _ _ hq).trans hq⟩)
   ·exact .inr hq
  |lst ds'=>
   cases e;simp only[bA,Rep] at r1;obtain⟨a,vs,rfl,hq,rs⟩:=r1;refine .inl ⟨a,rfl,⟨vs,hq.sq⟩,q _ _ s1 λHs hs hn hf ht=>.list ?_ (rs.part hf ht)⟩;rcases hq with⟨o,hq⟩|hq
   ·exact .inl (.inr ⟨o,(hf _ _ _ hq).trans hq⟩)
   ·exact .inr hq
  |str x=>
   cases e;simp only[bA,Rep] at r1;obtain⟨rfl,_⟩:=r1;exact .inr (.inr ⟨x,rfl,q _ _ s1 λHs hs hn hf ht=>.str x⟩)
  |_=>cases e
 |l ds'=>cases e
 |n ds'=>cases e
 |m ds'=>cases e
 |o ds'=>
  cases e;obtain⟨a,vs,rfl,hq,rs⟩:=r1;refine .inl ⟨a,rfl,⟨vs,.inl (.inl hq)⟩,q _ _ s1 λHs hs hn hf ht=>.list (.inl (.inl ((hn a (n1 a rfl)).trans hq))) (rs.part hf ht)⟩⟩
def aee:List Bx->Option (List Dt)
 |[.z (.int j)]=>if -(2 ^ 62)<=j/\j < 2 ^ 62 then some (Ab 0 j.toNat) else none
 |_=>none
theorem lC {p:Pos} (hg:Gl X "range") (hm:X.mg "range" = none) (ha:UW X [e] fs) (hs:starEach [e] X.env=[(false,eval e X.env)]:=by rfl):QIF X tg (.Call (.Name "range" p) [e] [] pos) (λρ=>(fs ρ).bind aee):=⟨have ha:=ha.run;λpins s σ H R I q=>by
 refine Us hg hm ha hs pins s σ H R I ?_;obtain⟨H0,ρ,ds,E,e,q⟩:=q;obtain⟨bs,eb,e⟩:=bind_some e;refine⟨H0,ρ,bs,E,eb,λvs H1 s1 r1=>?_⟩;unfold aee at e;split at e
 ·rename_i j;split at e
  ·rename_i hj;cases e;cases r1 with
   |cons p t=>
    cases t;simp only[bA,Rep] at p;subst p;exact⟨j,rfl,hj.1,hj.2,q _ _ s1 λHs _ _ _ _=>.rng 0 _⟩
  ·cases e
 ·cases e⟩
def qQ (gt:Dt->Ev->Option Ev) (gb:Ev->Option Out):List Dt->Ev->Option Out
 |[],ρ=>some (.nx ρ)
 |d::ds,ρ=>(gt d ρ).bind λρ1=>(gb ρ1).bind λr=>match r with
  |.nx ρ2=>qQ gt gb ds ρ2
  |.ct ρ2=>qQ gt gb ds ρ2
  |.bk ρ2=>some (.nx ρ2)
  |.rt b=>some (.rt b)
noncomputable def fQ (H:Hp) (σ:L2.St) (ρ:Ev):Hp:=λa=>@ite _ (∃ (i:Nat) (c:Bx),ρ[i]?=some (some c)/\sS c=true/\σ[i]?=some (some (.ref a))) (Classical.propDecidable _) none (H a)
theorem wY {ρ:Ev}:Same (fQ H σ ρ) H:=λa o e=>by
 unfold fQ at e;split at e
 ·cases e
 ·exact e
theorem bL.rebase {ρ:Ev} (E:bL K Hs H σ ρ) (s:Same H0 Hs):bL K H0 H σ ρ:=⟨E.len,E.val,E.own,s.trans E.base,λi c a e1 ec e2=>s.free (E.new i c a e1 ec e2)⟩
theorem bL.sans {ρ:Ev} (E:bL K H0 H σ ρ):bL K (fQ H σ ρ) H σ ρ:=⟨E.len,E.val,E.own,wY,λi c a e1 ec e2=>by
 unfold fQ;rw[zi ⟨i,c,e1,ec,e2⟩]⟩
theorem bL.sub {ρ:Ev} (E:bL K H0 H σ ρ):Same H0 (fQ H σ ρ):=λa o e=>by
 unfold fQ;split
 ·rename_i h;obtain⟨i,c,e1,ec,e2⟩:=h;rw[E.new i c a e1 ec e2] at e;cases e
 ·exact E.base a o e
theorem iJ {ρ:Ev} (E:bL K H0 H σ ρ) (h:∀ vs,H a≠some (.lst vs)) (h2:∀ vs,H a≠some (.dK vs)):fQ H σ ρ a=H a:=by
 unfold fQ;split
 ·rename_i hh;obtain⟨i,c,e1,ec,e2⟩:=hh;obtain⟨v,e3,rc⟩:=E.val i _ e1;rw[e2] at e3;cases e3;cases c with
  |o ds=>obtain⟨a',vs,e4,q,_⟩:=rc;cases e4;exact absurd q (h vs)
  |m ds _=>obtain⟨a',vs,e4,q,_⟩:=rc;cases e4;exact absurd q (h2 vs)
  |_=>cases ec
 ·rfl
theorem Xa.rebase {K:FG_} {H0 Hs:Hp} {D:Ends} {r:Out} (s:Same H0 Hs) (h:Xa K H0 D r):Xa K Hs D r:=by
 cases r with
 |nx ρ=>exact λσ H E=>h σ H (E.rebase s)
 |bk ρ=>exact λσ H E=>h σ H (E.rebase s)
 |ct ρ=>exact λσ H E=>h σ H (E.rebase s)
 |rt b=>exact λv H s' n r=>h v H (s.trans s') (n.old s) r
theorem qp {gt:Dt->Ev->Option Ev} {gb:Ev->Option Out} {ds:List Dt} {H1:Hp} {ρ:Ev} {D:Ends} {r:Out} (E1:bL X.K H0 H1 σ ρ) (Y:Yields X.K J ds (fQ H1 σ ρ)) (e:qQ gt gb ds ρ=some r) (q:Xa X.K H0 D r) :
  ∃ W:Nat->Nat->L2.St->Hp->Prop,(∃ m,W 0 m σ H1)/\∀ i m σ H,W i m σ H →
   (J.stop i H/\D.nx σ H)\/(J.go i H/\∃ N:L2.St->Hp->Prop,(∀ σ' H',N σ' H'->∃ m',m' < m/\W (i+1) m' σ' H')/\∀ x H',J.yld i H x H'->tgF X.K gt x σ H' λσ2 H2=>tG X.K gb { D with nx:=N,ct:=N,bk:=D.nx } σ2 H2):=by
 have E2:=E1.sans;have q2:=q.rebase E1.sub;generalize fQ H1 σ ρ=Hs at Y E2 q2;refine⟨λi m σ' H'=>m=ds.length - i/\i<=ds.length/\∃ ρ',bL X.K Hs H' σ' ρ'/\qQ gt gb (ds.drop i) ρ'=some r,⟨ds.length,by simp,QO _,ρ,E2,by simpa using e⟩,?_⟩;rintro i m σ' H' ⟨rfl,hi',ρ',E',e'⟩;obtain⟨y1,y2⟩:=Y i H' E'.base;by_cases hlt:i < ds.length
 ·right;have hd:ds[i]?=some ds[i]:=by simp[hlt]
  obtain⟨go,yl⟩:=y1 _ hd;rw[List.drop_eq_getElem_cons hlt] at e';simp only[qQ] at e';obtain⟨ρ1,e1,e'⟩:=bind_some e';obtain⟨r1,e2,e'⟩:=bind_some e';refine⟨go,λσ2 H2=>∃ ρ2,bL X.K Hs H2 σ2 ρ2/\qQ gt gb (ds.drop (i+1)) ρ2=some r,λσ2 H2 ⟨ρ2,E3,e3⟩=>⟨ds.length - (i+1),by omega,rfl,hlt,ρ2,E3,e3⟩,λx H2 yy=>?_⟩;obtain⟨sm,rx⟩:=yl x H2 yy;refine⟨Hs,ρ',ds[i],ρ1,E'.grow sm,rx,e1,λσ1 E3 _=>⟨Hs,ρ1,r1,E3,e2,?_⟩⟩;cases r1 with
  |nx ρ2=>exact λσ2 H3 E4=>⟨ρ2,E4,e'⟩
  |ct ρ2=>exact λσ2 H3 E4=>⟨ρ2,E4,e'⟩
  |bk ρ2=>cases e';exact q2
  |rt b=>cases e';exact q2
 ·left;have hge:ds.length<=i:=by omega
  refine⟨y2 hge,?_⟩;rw[List.drop_eq_nil_of_le hge] at e';cases e';exact q2 σ' H' E'
theorem nM {fi:Ev->Option (List Dt)} {gt:Dt->Ev->Option Ev} {gb:Ev->Option Out} (hp:PassesOwn (model X.prog X.w) X.A X.env X.xe) (hc:X.calm=true) (hi:QIF X tg iter fi) (hg:Z4 X tg gt) (hb:Wi X body gb) (hs:∀ x,foldedSetIterable iter X.env x=pure x:=by intro _;rfl):Qh X (.For tg iter body [] pos) (λρ=>(fi ρ).bind λds=>qQ gt gb ds ρ):=⟨have hi:=hi.run;have hg:=hg.run;have hb:=hb.run;R6 (Wy hp hc hi hg hb hs) λD σ H h=>by
 obtain⟨H0,ρ,r,E,e,q⟩:=h;obtain⟨ds,ed,e⟩:=bind_some e;refine⟨H0,ρ,ds,E,ed,λJ H1 s1 y=>?_⟩;have E1:=E.grow s1;refine qp E1 ?_ e q;refine y _ wY (λa ha=>?_) (λa o u ha=>iJ E1 (λvs z=>by rw[ha] at z;cases z) (λvs z=>by rw[ha] at z;cases z)) λa vs ha=>iJ E1 (λvs z=>by rw[ha] at z;cases z) (λvs z=>by rw[ha] at z;cases z);unfold fQ;split
 ·rename_i hh;obtain⟨i,c,e1,ec,e2⟩:=hh;obtain⟨v,e3,rc⟩:=E.val i _ e1;rw[e2] at e3;cases e3;cases c with
  |o ds=>obtain⟨a',vs,e4,q,_⟩:=rc;cases e4;rw[ha] at q;cases q
  |m ds _=>obtain⟨a',vs,e4,q,_⟩:=rc;cases e4;rw[ha] at q;cases q
  |_=>cases ec
 ·rfl⟩
theorem bL.lend {ρ:Ev} {ds:List Dt} (E:bL K H0 H σ ρ) (h:ρ[i]?=some (some (.o ds))):bL K H0 H σ (ρ.set i (some (.l ds))):=by
 have back:∀ (j:Nat) (b:Bx),(ρ.set i (some (.l ds)))[j]?=some (some b)->(j=i/\b=.l ds)\/(j≠i/\ρ[j]?=some (some b)):=λj b e=>by
  rcases getset e with⟨rfl,e',_⟩|⟨hne,e'⟩
  ·cases e';exact .inl ⟨rfl,rfl⟩
  ·exact .inr ⟨hne,e'⟩
 refine⟨by rw[JY];exact E.len,λj b e=>?_,λj k c a b e1 ec e2 e3 e4 e5=>?_,E.base,λj c a e1 ec e2=>?_⟩
 ·rcases back j b e with⟨rfl,rfl⟩|⟨hne,e'⟩
  ·obtain⟨v,e1,a,vs,e2,q,r⟩:=E.val _ _ h;exact⟨v,e1,a,vs,e2,.inl q,r⟩
  ·exact E.val j b e'
 ·rcases back j _ e1 with⟨rfl,z⟩|⟨hne,e'⟩
  ·subst z;cases ec
  ·rcases back k _ e3 with⟨rfl,z⟩|⟨aaI,e3'⟩
   ·exact E.own j _ c a _ e' ec e2 h rfl e5
   ·exact E.own j k c a b e' ec e2 e3' e4 e5
 ·rcases back j _ e1 with⟨rfl,z⟩|⟨hne,e'⟩
  ·subst z;cases ec
  ·exact E.new j c a e' ec e2
def Cu (i:Nat) (gt:Dt->Ev->Option Ev) (gb:Ev->Option Out) (ρ:Ev):Option Out:=match ρ[i]? with
 |some (some (.o ds))=>qQ gt gb ds (ρ.set i (some (.l ds)))
 |some (some (.l ds))=>qQ gt gb ds ρ
 |some (some b)=>(Xd b).bind λds=>qQ gt gb ds ρ
 |_=>none
theorem Xe {ρ:Ev} {ds:List Dt} (E:bL X.K H0 H σ ρ) (h:ρ[i]?=some (some (.l ds))):∃ a vs,σ[i]?=some (some (.ref a))/\sW X.K H a vs/\Yields X.K (Itl X.K a) ds (fQ H σ ρ):=by
 obtain⟨v,e1,a,vs,rfl,q,r⟩:=E.val i _ h;have hk:fQ H σ ρ a=H a:=by
  unfold fQ;split
  ·rename_i hh;obtain⟨j,c,e2,ec,e3⟩:=hh;have:=E.own j i c a _ e2 ec e3 h rfl e1;subst this;rw[h] at e2;cases e2;cases ec
  ·rfl
 refine⟨a,vs,e1,.inl q,.list (.inl ?_) (r.part (λb o u hb=>iJ E (λvs z=>by rw[hb] at z;cases z) (λvs z=>by rw[hb] at z;cases z)) λb ws hb=>iJ E (λvs z=>by rw[hb] at z;cases z) (λvs z=>by rw[hb] at z;cases z))⟩;rcases q with q|⟨o,q⟩
 ·exact .inl (hk.trans q)
 ·exact .inr ⟨o,hk.trans q⟩
theorem R8 (i:Nat) {p:Pos} {gt:Dt->Ev->Option Ev} {gb:Ev->Option Out} (hp:PassesOwn (model X.prog X.w) X.A X.env X.xe) (hc:X.calm=true) (hg:Z4 X tg gt) (hb:Wi X body gb) (hN:X.N[i]?=some x:=by rfl) (hv:Z2 X.env.scope x:=by first|exact kR rfl|exact JP (kR rfl)|exact JP (JP rfl)) (hd:(x==("__debug__" : Str))=false:=by decide) (hcd:(x==("__classdict__" : Str))=false:=by decide) (hs:∀ y,foldedSetIterable (.Name x p) X.env y=pure y:=by intro _;rfl):Qh X (.For tg (.Name x p) body [] pos) (Cu i gt gb):=⟨have hg:=hg.run;have hb:=hb.run;R6 (Wy hp hc (Qj (vR (i:=i) hN hv hd hcd)) hg hb hs) λD σ H h=>by
 obtain⟨H0,ρ,r,E,e,q⟩:=h;unfold Cu at e;split at e
 ·rename_i ds hρ;have E1:=E.lend hρ;have hi:i < ρ.length:=(List.getElem?_eq_some_iff.mp hρ).1;obtain⟨a,vs,e1,sq,Y⟩:=Xe E1 (Cq _ hi);exact⟨_,e1,.inl ⟨a,rfl,⟨vs,sq⟩,qp E1 Y e q⟩⟩
 ·rename_i ds hρ;obtain⟨a,vs,e1,sq,Y⟩:=Xe E hρ;exact⟨_,e1,.inl ⟨a,rfl,⟨vs,sq⟩,qp E Y e q⟩⟩
 ·rename_i b n1 n2 hρ;obtain⟨ds,ed,e⟩:=bind_some e;obtain⟨v,e1,rb⟩:=E.val i _ hρ;have hf:∀ b o u,H b=some (.qM o u)->fQ H σ ρ b=H b:=λb o u hb=>iJ E (λvs z=>by rw[hb] at z;cases z) (λvs z=>by rw[hb] at z;cases z);have ht:∀ b ws,H b=some (.tup ws)->fQ H σ ρ b=H b:=λb ws hb=>iJ E (λvs z=>by rw[hb] at z;cases z) (λvs z=>by rw[hb] at z;cases z);cases b with
  |z d=>
   cases d with
   |tup ds'=>
    cases ed;simp only[bA,Rep] at rb;obtain⟨a,vs,rfl,hq,rs⟩:=rb;refine⟨_,e1,.inr (.inl ⟨a,rfl,⟨vs,hq⟩,qp E (.tup ?_ (rs.part hf ht)) e q⟩)⟩;rcases hq with (hq|⟨o,hq⟩)|hq
    ·exact .inl (.inl ((ht _ _ hq).trans hq))
    ·exact .inl (.inr ⟨o,(hf _ _ _ hq).trans hq⟩)
    ·exact .inr hq
   |lst ds'=>
    cases ed;simp only[bA,Rep] at rb;obtain⟨a,vs,rfl,hq,rs⟩:=rb;refine⟨_,e1,.inl ⟨a,rfl,⟨vs,hq.sq⟩,qp E (.list ?_ (rs.part hf ht)) e q⟩⟩;rcases hq with⟨o,hq⟩|hq
    ·exact .inl (.inr ⟨o,(hf _ _ _ hq).trans hq⟩)
    ·exact .inr hq
   |str x=>
    cases ed;simp only[bA,Rep] at rb;obtain⟨rfl,_⟩:=rb;exact⟨_,e1,.inr (.inr ⟨x,rfl,qp E (.str x) e q⟩)⟩
   |_=>cases ed
  |l ds'=>cases ed
  |o ds'=>exact absurd rfl (n1 ds')
  |n ds'=>cases ed
  |m ds'=>cases ed
 ·cases e⟩
end
def SubL (cells:List (Str×Addr)):List (Str×Addr)->Prop
 |[]=>True
 |(n,c)::r=>cells.lookup n=some c/\SubL cells r
theorem SubL.get {cells:List (Str×Addr)}:∀ {cl:List (Str×Addr)},SubL cells cl->∀ {x:Str} {c:Addr},cl.lookup x=some c->cells.lookup x=some c
 |[],_,_,_,e=>by cases e
 |(n,d)::r,h,x,c,e=>by
  rw[List.lookup_cons] at e;by_cases hx:x==n
  ·simp only[hx] at e;cases e;have:x=n:=by simpa using hx
   rw[this];exact h.1
  ·have hx:(x==n)=false:=by simpa using hx
   simp only[hx] at e;exact SubL.get h.2 e
structure Cap (X:Cx) (scope:Scope) (cl:List (Str×Addr)) (x:Str) (i:Nat):Prop where
 n:X.N[i]?=some x
 k:X.env.kindOf x=some .cell\/X.env.kindOf x=some .free
 k':(relabel scope X.env).names.lookup x=some .cell\/(relabel scope X.env).names.lookup x=some .free
 c:∃ c,cl.lookup x=some c
def Gb (X:Cx) (scope:Scope) (cl:List (Str×Addr)):LS_->List Nat->Prop
 |[],[]=>True
 |x::xs,i::is=>Cap X scope cl x i/\Gb X scope cl xs is
 |_,_=>False
theorem Gb.get {X:Cx} {scope:Scope} {cl:List (Str×Addr)}:∀ {xs:LS_} {is:List Nat},Gb X scope cl xs is->xs.length=is.length/\∀ (j:Nat) (x:Str),xs[j]?=some x->∃ i,is[j]?=some i/\Cap X scope cl x i
 |[],[],_=>⟨rfl,λj x e=>by simp at e⟩
 |x::xs,i::is,h=>by
  obtain⟨h1,h2⟩:=h;obtain⟨l,g⟩:=Gb.get h2;refine⟨by simp[l],λj y e=>?_⟩;cases j with
  |zero=>simp at e;subst e;exact⟨i,rfl,h1⟩
  |succ j=>obtain⟨k,e1,e2⟩:=g j y (by simpa using e);exact⟨k,by simpa using e1,e2⟩
 |[],_::_,h=>h.elim
 |_::_,[],h=>h.elim
def aef (names:List (Str×NameKind)) (x:Str):Bool:=match names.lookup x with
 |some .cell=>true
 |_=>false
def Ad (X:Cx) (N':LS_) (scope:Scope) (cl:List (Str×Addr)) (C:Addr) (s₀:Shared) (H₀:Hp) (fp:List Addr):Cx:=
 { X with N:=N',s₀:=s₀,H₀:=H₀,env:=compEnvC scope (cellsFrom (C+1) scope.names cl) C X.env,outer:=X.stack,ex:=fp,fn:=aef scope.names,pn:=[],xe:=λ_ _=>False }
structure aeg (h:Heap) (cs:List (Str×Addr)):Prop where
 inj:∀ x y c,cs.lookup x=some c->cs.lookup y=some c->x=y
 cell:∀ x c,cs.lookup x=some c->∃ v,h.IsCell c v
theorem jt {n:Str} {a:α} {l:List (Str×α)} (h:x≠n):((n,a)::l).lookup x=l.lookup x:=by
 rw[List.lookup_cons,beq_eq_false_iff_ne.mpr h]
theorem Xf:∀ (names:List (Str×NameKind)) (h:Heap) (acc:List (Str×Addr)),aeg h acc->aeg (pushCells h names) (cellsFrom h.objs.size names acc)
 |[],_,_,x=>x
 |(n,k)::r,h,acc,x=>by
  unfold pushCells cellsFrom;split
  ·have hlt:∀ y c,acc.lookup y=some c->c≠h.objs.size:=λy c e=>let ⟨_,q⟩:=x.cell y c e;zI q.lt;have:=Xf r (h.push { cls:=.type "cell", data:=.cell none }) ((n,h.objs.size)::acc) ⟨λy z c e1 e2=>?_,λy c e=>?_⟩
   ·rwa [qk] at this
   ·by_cases hy:y=n<;>by_cases hz:z=n
    ·rw[hy,hz]
    ·subst hy;rw[kA] at e1;rw[jt hz] at e2;cases e1;exact absurd rfl (hlt _ _ e2)
    ·subst hz;rw[kA] at e2;rw[jt hy] at e1;cases e2;exact absurd rfl (hlt _ _ e1)
    ·rw[jt hy] at e1;rw[jt hz] at e2;exact x.inj y z c e1 e2
   ·by_cases hy:y=n
    ·subst hy;rw[kA] at e;cases e;exact⟨none,_,zv _ rfl,rfl⟩
    ·rw[jt hy] at e;obtain⟨v,q⟩:=x.cell y c e;exact⟨v,q.keeps λb o e=>zd _ e⟩
  ·exact Xf r h acc x
theorem wZ:∀ (names:List (Str×NameKind)) (n:Nat) (acc:List (Str×Addr)) (x:Str) (c:Addr),(cellsFrom n names acc).lookup x=some c->acc.lookup x=some c\/n<=c
 |[],_,_,_,_,e=>.inl e
 |(m,k)::r,n,acc,x,c,e=>by
  unfold cellsFrom at e;split at e
  ·rcases wZ r _ _ x c e with h|h
   ·by_cases hx:x=m
    ·subst hx;rw[kA] at h;cases h;exact .inr (zg _)
    ·rw[jt hx] at h;exact .inl h
   ·exact .inr (by omega)
  ·exact wZ r _ _ x c e
theorem Jo:∀ (names:List (Str×NameKind)) (n:Nat) (acc:List (Str×Addr)) (x:Str),(x,NameKind.cell)∉names->(cellsFrom n names acc).lookup x=acc.lookup x
 |[],_,_,_,_=>rfl
 |(m,k)::r,n,acc,x,h=>by
  unfold cellsFrom;have hr:(x,NameKind.cell)∉r:=λz=>h (zt _ z);split
  ·rename_i hk;rw[Jo r _ _ x hr,jt λz=>h (by rw[z,<-beq_iff_eq.mp hk];exact zo ..)]
  ·exact Jo r _ _ x hr
theorem Qk:∀ (names:List (Str×NameKind)) (n:Nat) (acc:List (Str×Addr)) (x:Str),((x,NameKind.cell)∈names\/∃ c,acc.lookup x=some c)->∃ c,(cellsFrom n names acc).lookup x=some c
 |[],_,_,_,h=>h.elim (λz=>by simp at z) λz=>z
 |(m,k)::r,n,acc,x,h=>by
  unfold cellsFrom;split
  ·refine Qk r _ _ x ?_;by_cases hx:x=m
   ·exact .inr ⟨n,by rw[hx,kA]⟩
   ·rw[jt hx];exact h.imp_left λz=>(List.mem_cons.mp z).elim (λz=>absurd (congrArg Prod.fst z) hx) λz=>z
  ·rename_i hk;exact Qk r _ _ x (h.imp_left λz=>(List.mem_cons.mp z).elim (λz=>by cases z;exact absurd rfl hk) λz=>z)
theorem U4 {g:Addr} {Q:Env->Shared->Prop} (h:Q (newEnv scope s.heap.objs.size g (cellsFrom (s.heap.objs.size+1) scope.names cl) qual none .none (some env) builtinsNs) { s with heap:=pushCells (s.heap.push { cls:=.type "dict", data:=.dict #[] }) scope.names }) :
  wpAny M A (newFunctionEnv scope g cl [] qual none .none (some env)) Q E s:=by
 simp only[newFunctionEnv,Option.isSome_some,qS];refine zb (wpAny_alloc ?_);refine zb (wpAny_layCells _ (λname kind cells=>by cases kind==NameKind.cell<;>simp) _ _ _ _ ?_);rw[show({ s with heap:=s.heap.push { cls:=.type "dict", data:=.dict #[] } }:Shared).heap.objs.size=s.heap.objs.size+1 from qk ..];rw[List.forIn_nil];exact zb (ze (ze h))
structure pR (X:Cx) (scope:Scope) (cl:List (Str×Addr)) (xs:LS_) (is:List Nat):Prop where
 clos:closureFor scope X.env=pure cl
 kind:scope.kind=.function
 cell:∀ y∈scope.names,y.2=.cell->cl.lookup y.1=none
 names:∀ y∈scope.names,y.2=.local->scope.names.lookup y.1=some .local
 sub:SubL X.env.cells cl
 has:∀ x,((relabel scope X.env).names.lookup x=some .cell\/(relabel scope X.env).names.lookup x=some .free)->(x,NameKind.cell)∈scope.names\/∃ c,cl.lookup x=some c
 cap:Gb X scope cl xs is
def vU (is:List Nat) (σ:L2.St):L2.St:=is.map λi=>(σ[i]?).bind λv=>v
def iY (is:List Nat) (ρ:Ev):Ev:=is.map λi=>yL ρ i
def Xg (n m:Nat) (g:Dt->Ev->Option Ev):Prop:=∀ d ρ ρ',g d ρ=some ρ'->ρ'.length=ρ.length/\∀ j,j < n\/m<=j->ρ'[j]?=ρ[j]?
def aaN (n m:Nat) (g:List Dt->Ev->Option Ev):Prop:=∀ d ρ ρ',g d ρ=some ρ'->ρ'.length=ρ.length/\∀ j,j < n\/m<=j->ρ'[j]?=ρ[j]?
theorem cQ {m:Nat} (h:n<=i:=by decide) (h':i < m:=by decide):Xg n m (λd ρ=>some (ρ.set i (some (.z d)))):=λd ρ ρ' e=>by
 cases e;exact⟨by rw[JY],λj hj=>Cr _ (by omega)⟩
theorem R9 {m:Nat}:aaN n m tD:=λd ρ ρ' e=>by
 cases d with
 |nil=>cases e;exact⟨rfl,λ_ _=>rfl⟩
 |cons=>cases e
theorem lD {m:Nat} {g:Dt->Ev->Option Ev} {gs:List Dt->Ev->Option Ev} (h:Xg n m g) (hs:aaN n m gs):aaN n m (bR g gs):=λd ρ ρ' e=>by
 cases d with
 |nil=>cases e
 |cons d ds=>
  simp only[bR] at e;obtain⟨ρ1,e1,e⟩:=bind_some e;obtain⟨a,b⟩:=h _ _ _ e1;obtain⟨a',b'⟩:=hs _ _ _ e;exact⟨a'.trans a,λj hj=>(b' j hj).trans (b j hj)⟩
theorem Xh {m k:Nat} {gs:List Dt->Ev->Option Ev} (hs:aaN n m gs):Xg n m (qm k gs):=λd ρ ρ' e=>by
 cases d with
 |tup ds=>
  simp only[qm] at e;split at e
  ·exact hs _ _ _ e
  ·cases e
 |_=>cases e
def Ae (gt:Dt->Ev->Option Ev) (p:Ev->Option Bool) (fs:Ev->Option (List Dt)) (ρ:Ev):List Dt->Option (List Dt)
 |[]=>some []
 |d::ds=>(gt d ρ).bind λρ1=>(p ρ1).bind λk=>if k=true then(fs ρ1).bind λys=>(Ae gt p fs ρ ds).bind λzs=>some (ys++zs) else Ae gt p fs ρ ds
def aeh:Bx->Option (List Dt)
 |.z y=>some [y]
 |_=>none
def w5 (gt:Dt->Ev->Option Ev) (p:Ev->Option Bool) (fe:Ev->Option Bx) (ρ:Ev):List Dt->Option (List Dt):=Ae gt p (λρ=>(fe ρ).bind aeh) ρ
theorem yO {b:Bx} {ys:List Dt} (h:aeh b=some ys):∃ y,b=.z y/\ys=[y]:=by
 cases b<;>cases h;exact⟨_,rfl,rfl⟩
theorem uL {gt:Dt->Ev->Option Ev} {p:Ev->Option Bool} {fe:Ev->Option Bx} {ρ:Ev}:∀ {ds out:List Dt},w5 gt p fe ρ ds=some out->out.length<=ds.length
 |[],_,e=>by cases e;exact zg _
 |d::ds,out,e=>by
  simp only[w5,Ae] at e;obtain⟨ρ1,_,e⟩:=bind_some e;obtain⟨k,_,e⟩:=bind_some e;cases k with
  |false=>
   rw[zC ZA] at e;exact Zp (uL (gt:=gt) (p:=p) (fe:=fe) e) (by simp)
  |true=>
   rw[zi rfl] at e;obtain⟨ys,ey,e⟩:=bind_some e;obtain⟨zs,ez,e⟩:=bind_some e;obtain⟨b,_,ey⟩:=bind_some ey;obtain⟨y,_,rfl⟩:=yO ey;cases e;simpa using uL (gt:=gt) (p:=p) (fe:=fe) ez
def Tests (X:Cx) (ifs:List Expr) (p:Ev->Option Bool):Prop:=(ifs=[]/\p=λ_=>some true)\/∃ c,ifs=[c]/\PB X c p
structure yP (X:Cx) (ifs:List Expr) (p:Ev->Option Bool):Prop where
 run:Tests X ifs p
section
variable {xs ts:LS_} {gt:Dt->Ev->Option Ev} {p:Ev->Option Bool} {fe:Ev->Option Bx} {fi:Ev->Option (List Dt)}
theorem Xi {H3:Hp} {s3:Shared} (I3:L2.Inv X pins σ H3 s3) (O:pR X scope cl xs is) (hf:∀ b∈fp,qe X pins H3 b) (hfl:∀ b∈fp,b < s3.heap.objs.size) :
  L2.Inv (Ad X (xs++ts) scope cl s3.heap.objs.size s3 H3 fp) [] (vU is σ++List.replicate ts.length none) H3 { s3 with heap:=pushCells (s3.heap.push { cls:=.type "dict", data:=.dict #[] }) scope.names }:=by
 obtain⟨hl,hc⟩:=O.cap.get;have hsub:=O.sub;have hsz:(s3.heap.push { cls:=.type "dict", data:=.dict #[] }).objs.size=s3.heap.objs.size+1:=qk ..;have hk:∀ b o,s3.heap.get? b=some o->(pushCells (s3.heap.push { cls:=.type "dict", data:=.dict #[] }) scope.names).get? b=some o:=λb o e=>pushCells_keeps _ _ b o (zd _ e);have cf:aeg (pushCells (s3.heap.push { cls:=.type "dict", data:=.dict #[] }) scope.names) (cellsFrom (s3.heap.objs.size+1) scope.names cl):=by
  rw[<-hsz];refine Xf _ _ _ ⟨λx y c e1 e2=>I3.ok.inj x y c (hsub.get e1) (hsub.get e2),λx c e=>?_⟩;obtain⟨v,q⟩:=I3.cell x c (hsub.get e);exact⟨v,q.keeps λb o e=>zd _ e⟩
 have from':∀ x c,(cellsFrom (s3.heap.objs.size+1) scope.names cl).lookup x=some c->X.env.cells.lookup x=some c\/s3.heap.objs.size < c:=λx c e=>(wZ _ _ _ x c e).imp_left hsub.get;refine⟨⟨I3.ok.mod,O.kind,I3.ok.glob,I3.ok.blt,zg _,cf.inj,λx hx=>Qk _ _ _ x (O.has x hx),λx c hx e=>?_,I3.ok.hd,I3.ok.frames,.inl rfl,λb hb=>⟨zI (hfl b hb),λx c e=>?_⟩,I3.bs,Zp I3.ok.Wr I3.sz,λb o e hb=>?_,λb hb hb'=>?_,I3.stack,I3.Ay⟩,
  rfl,I3.bare,Un.kept hk,⟨_,(Heap.Ns.new s3.heap (.type "dict")).keeps (pushCells_keeps _ _),λj x v e1 e2 _=>?_⟩,cf.cell,I3.hok.fresh (zg _),λx c e=>(from' x c e).elim (I3.iU x c) λh=>I3.hok.fresh (QU h),λq hq=>absurd (show q∈([]:List (Addr×Obj)) from hq) (by simp),I3.hok.kept hk,?_⟩
 ·refine(wZ _ _ _ x c e).elim (λh=>?_) λh=>QU h;have hx:(x,NameKind.cell)∈scope.names:=by
   have hx:aef scope.names x=true:=hx;unfold aef at hx;split at hx
   ·rename_i q;exact mem_of_lookup q
   ·cases hx
  rw[O.cell _ hx rfl] at h;cases h
 ·rcases from' x c e with h|h
  ·exact(hf b hb).2.2.2.2.1 x c h
  ·exact kL (Nat.lt_trans (hfl b hb) h)
 ·obtain⟨_,_,_,z,_⟩:=hf b hb;rcases z with z|z
  ·exact I3.ok.Pz b o e z
  ·exact absurd (ZH (zw e) (Zp I3.ok.Wr z)) (JA _)
 ·obtain⟨_,n1,n2,_⟩:=hf b hb;rcases List.mem_cons.mp (I3.Bw b hb') with z|z
  ·exact n1 z
  ·exact n2 z
 ·have hj:j < is.length:=by
   by_cases hj:j < is.length
   ·exact hj
   ·rw[qr (by simp[vU];omega)] at e2;rw[QN] at e2;split at e2<;>cases e2
  have e1':xs[j]?=some x:=by
   have e1:(xs++ts)[j]?=some x:=e1;rw[ZN (by omega)] at e1;exact e1
  obtain⟨i,ei,hcp⟩:=hc j x e1';have e3:σ[i]?=some (some v):=by
   rw[ZN (by simp[vU];omega)] at e2;unfold vU at e2;rw[Zl,ei] at e2;cases q:σ[i]? with
   |none=>rw[Option.map_some,q] at e2;cases e2
   |some o=>
    rw[Option.map_some,q] at e2;have:o=some v:=by simpa using e2
    rw[this]
  have vis:Z2 X.env.scope x:=by
   rcases hcp.k with k|k
   ·exact .inr (.inl k)
   ·exact .inr (.inr k)
  obtain⟨m',hn',hlk⟩:=I3.loc;obtain⟨u,r,l⟩:=hlk i x v hcp.n e3 vis;refine⟨u,r,?_⟩;rcases l with⟨k,_⟩|⟨k,c,ec,ic⟩
  ·rcases hcp.k with k'|k'<;>(rw[k] at k';cases k')
  ·obtain⟨c',ec'⟩:=hcp.c;have:=hsub.get ec';rw[ec] at this;cases this;refine .inr ⟨hcp.k',c,(Jo _ _ _ x λz=>by rw[O.cell _ z rfl] at ec';cases ec').trans ec',?_⟩;obtain⟨o,ho,hd⟩:=ic;exact⟨o,hk c o ho,hd⟩
 ·show(vU is σ++List.replicate ts.length none).length=(xs++ts).length;simp[vU,hl]
theorem bL.caps {ρ:Ev} (E:bL K H0 H σ ρ) (is:List Nat) (n:Nat):bL K H H (vU is σ++List.replicate n none) (iY is ρ++List.replicate n none):=by
 have Z5:∀ (j:Nat) c,(iY is ρ++List.replicate n none)[j]?=some (some c)->sS c=false:=λj c e=>by
  by_cases hj:j < is.length
  ·rw[ZN (by simp[iY];omega)] at e;unfold iY at e;rw[Zl] at e;cases q:is[j]? with
   |none=>rw[q] at e;cases e
   |some i=>
    rw[q] at e;have:yL ρ i=some c:=by simpa using e
    exact wV this
  ·rw[qr (by simp[iY];omega),QN] at e;split at e<;>cases e
 refine⟨by simp[vU,iY],λj b e=>?_,λj k c a b e ec=>absurd ec (by rw[Z5 j c e];exact ZA),Same.refl H,λj c a e ec=>absurd ec (by rw[Z5 j c e];exact ZA)⟩;by_cases hj:j < is.length
 ·rw[ZN (by simp[iY];omega)] at e;rw[ZN (by simp[vU];omega)];unfold iY at e;unfold vU;rw[Zl] at e ⊢;cases q:is[j]? with
  |none=>rw[q] at e;cases e
  |some i=>
   rw[q] at e;have:yL ρ i=some b:=by simpa using e
   obtain⟨v,e1,r⟩:=Li E this;exact⟨v,by simp[e1],r⟩
 ·rw[qr (by simp[iY];omega),QN] at e;split at e<;>cases e
theorem bL.forget {ρ ρ':Ev} (E:bL K H0 H σ ρ') (hl:ρ'.length=ρ.length) (h:∀ (j:Nat) b,ρ[j]?=some (some b)->ρ'[j]?=some (some b)):bL K H0 H σ ρ:=
 ⟨E.len.trans hl,λj b e=>E.val j b (h j b e),λi j c a b e1 ec e2 e3 e4 e5=>E.own i j c a b (h _ _ e1) ec e2 (h _ _ e3) e4 e5,E.base,λi c a e1 ec e2=>E.new i c a (h _ _ e1) ec e2⟩
structure Apt (Hb:Hp) (σ:L2.St) (ρ:Ev) (n:Nat):Prop where
 own:∀ (j:Nat) c,ρ[j]?=some (some c)->sS c=false
 lt:∀ (j:Nat) b,ρ[j]?=some (some b)->j < n
 old:∀ (j:Nat) c a,ρ[j]?=some (some c)->loose c=true->σ[j]?=some (some (.ref a))->Hb a≠none
def Fx (σ σ':L2.St) (ρ:Ev):Prop:=∀ (j:Nat) c,loose c=true->ρ[j]?=some (some c)->σ'[j]?=σ[j]?
theorem Apt.fx {Hb:Hp} {σ':L2.St} {ρ:Ev} (P:Apt Hb σ ρ n) (f:Fx σ σ' ρ):Apt Hb σ' ρ n:=⟨P.own,P.lt,λj c a e hl ea=>P.old j c a e hl (by rw[<-f j c hl e];exact ea)⟩
theorem known {ρ:Ev} (E:bL K H0 H σ ρ) (j:Nat) (c:Bx) (a:Addr) (e:ρ[j]?=some (some c)) (hl:loose c=true) (ea:σ[j]?=some (some (.ref a))):H a≠none:=λz=>by
 obtain⟨v,e1,rc⟩:=E.val j _ e;rw[ea] at e1;cases e1;cases c with
 |z d=>cases hl
 |l dz=>
  obtain⟨a',vs,e2,q,_⟩:=rc;cases e2;rcases q with q|⟨o,q⟩<;>(rw[z] at q;cases q)
 |n dz=>
  obtain⟨a',vs,e2,q,_⟩:=rc;cases e2;rcases q with q|⟨o,q⟩<;>(rw[z] at q;cases q)
 |o dz=>
  obtain⟨a',vs,e2,q,_⟩:=rc;cases e2;rw[z] at q;cases q
 |m dz _=>
  obtain⟨a',vs,e2,q,_⟩:=rc;cases e2;rw[z] at q;cases q
theorem bL.grown {Hb:Hp} {ρ:Ev} (E:bL K Hb H σ ρ) (P:Apt Hb σ ρ n) (hD:Hb D=none) (kp:Kp H (upd H D o)):bL K Hb (upd H D o) σ ρ:=by
 refine⟨E.len,λj b e=>?_,λj k c a b e ec=>absurd ec (by rw[P.own j c e];exact ZA),λc o e=>?_,λj c a e ec=>absurd ec (by rw[P.own j c e];exact ZA)⟩
 ·obtain⟨v,ev,rb⟩:=E.val j b e;refine⟨v,ev,?_⟩;cases b with
  |z d=>exact Rep.kp kp rb
  |o dz=>have:=P.own j _ e;cases this
  |m dz _=>have:=P.own j _ e;cases this
  |n dz=>
   obtain⟨a,vs,rfl,q,rr⟩:=rb;refine⟨a,vs,rfl,?_,rr.kp kp⟩;have ha:a≠D:=λz=>P.old j _ _ e rfl ev (by rw[z];exact hD);exact q.imp (λq=>by rw[aK ha];exact q) λ⟨o,q⟩=>⟨o,by rw[aK ha];exact q⟩
  |l dz=>
   obtain⟨a,vs,rfl,q,rr⟩:=rb;refine⟨a,vs,rfl,?_,rr.kp kp⟩;have ha:a≠D:=λz=>P.old j _ _ e rfl ev (by rw[z];exact hD);exact q.imp (λq=>by rw[aK ha];exact q) λ⟨o,q⟩=>⟨o,by rw[aK ha];exact q⟩
 ·rw[aK (bD e hD)];exact E.base c o e
def Xj (X:Cx) (el:Addr->Env->Sem Unit) (fs:Ev->Option (List Dt)) (Ac:Addr->Hp->List Dt->HO->Prop) (N n:Nat):Prop:=∀ (pins:List (Addr×Obj)) (s:Shared) (σ:L2.St) (H Hb:Hp) (ρ:Ev) (D:Addr) (o:HO) (o1 ys:List Dt),L2.Inv X pins σ H s->bL X.K Hb H σ ρ->Apt Hb σ ρ n->Hb D=none->fs ρ=some ys->H D=some o->Ac D H o1 o->o1.length+ys.length<=N →
 wpAny (model X.prog X.w) X.A (el D X.env) (λ_ s'=>∃ σ' H' o',L2.Inv X pins σ' H' s'/\bL X.K Hb H' σ' ρ/\Fx σ σ' ρ/\H' D=some o'/\Ac D H' (o1++ys) o') X.xe s
theorem Xk {fs:Ev->Option (List Dt)} {Ac:Addr->Hp->List Dt->HO->Prop} {N:Nat} (h:∀ (pins:List (Addr×Obj)) (s:Shared) (σ:L2.St) (H Hb:Hp) (ρ:Ev) (D:Addr) (o:HO) (o1 ys:List Dt),L2.Inv X pins σ H s->bL X.K Hb H σ ρ->fs ρ=some ys->H D=some o->Ac D H o1 o->o1.length+ys.length<=N →
  wpAny (model X.prog X.w) X.A (el D X.env) (λ_ s'=>∃ H9 o',L2.Inv X pins σ (upd H9 D o') s'/\Same H H9/\Kp H9 (upd H9 D o')/\Ac D (upd H9 D o') (o1++ys) o') X.xe s):Xj X el fs Ac N n:=λpins s σ H Hb ρ D o o1 ys I E P hD e1 e2 a1 l=>by
 refine ZU (h pins s σ H Hb ρ D o o1 ys I E e1 e2 a1 l) (λ_ s' ⟨H9,o',I',s9,kp,a'⟩=>?_) λ_ _ z=>z;exact⟨σ,_,o',I',(E.grow s9).grown P hD kp,λ_ _ _ _=>rfl,bf,a'⟩
structure Lx (B:Around->Bool->Prop) (P:Program) (w:World) (K:FG_) (tg:Expr) (J:It) (fp:List Addr) (it:Addr) (tn:Nat->Heap->Prop):Prop where
 obj:∀ i h,tn i h->∀ b∈fp,∃ o,h.get? b=some o/\∀ v,o.data≠.cell v
 keep:∀ i h h',tn i h->(∀ b∈fp,∀ o,h.get? b=some o->h'.get? b=some o)->tn i h'
 item:∀ (X:Cx),X.prog=P->X.w=w->X.K=K->B X.A X.calm->∀ (i:Nat) (pins:List (Addr×Obj)) (s:Shared) (σ:L2.St) (H:Hp) (E:VP_),L2.Inv X pins σ H s->(∀ b∈fp,qe X pins H b)->tn i s.heap->J.go i H →
  wpAny (model P w) X.A (pyNext (.ref it)) (λr s1=>∃ u,r=some u ∧
   wpAny (model P w) X.A (letOwnedTupleGo tg (.ref it) u) (λ_ s2=>∃ x H',L2.Inv X pins σ H' s2/\RelV x u/\J.yld i H x H'/\tn (i+1) s2.heap/\∀ b∈fp,H' b=none) E s1) E s
 done:∀ (X:Cx),X.prog=P->X.w=w->X.K=K->B X.A X.calm->∀ (i:Nat) (pins:List (Addr×Obj)) (s:Shared) (σ:L2.St) (H:Hp) (E:VP_),L2.Inv X pins σ H s->(∀ b∈fp,qe X pins H b)->tn i s.heap->J.stop i H →
  wpAny (model P w) X.A (pyNext (.ref it)) (λr s1=>r=none/\L2.Inv X pins σ H s1) E s
 self:∀ (A:Around) (i:Nat) (s:Shared) (Q:VP_) (E:VP_),tn i s.heap->Q (.ref it) s->wpAny (model P w) A (pyIter (.ref it)) Q E s
abbrev Hj:Around->Bool->Prop:=λ_ c=>c=true
theorem Ly (T:Turn P w K tg J fp it tn):Lx Hj P w K tg J fp it tn:=⟨T.obj,T.keep,T.item,T.done,T.self⟩
theorem U5 {comp:Expr} {d:Nat} {ipos:Pos} {Ac:Addr->Hp->List Dt->HO->Prop} {fs:Ev->Option (List Dt)} {N m:Nat} {Hb:Hp} {ds o0 out:List Dt} {ρ:Ev} {R:Result->Shared->Prop} (hcalm:B X.A X.calm) (hx:X.xe=λ_ _=>False) (Hl:PTg X tgt gt) (hif:Tests X ifs p) (hel:Xj X el fs Ac N m) (htk:Xg n m gt) (hnm:n<=m) (I:L2.Inv X pins σ H s) (E:bL X.K Hb H σ ρ) (P:Apt Hb σ ρ n) (hD:Hb D=none) (hHD:H D=some o) (hA:Ac D H o0 o) (T:Lx B X.prog X.w X.K tgt J fp it tn) (st:tn 0 s.heap) (hf:∀ b∈fp,qe X pins H b) (Y:Yields X.K J ds Hb) (hout:Ae gt p fs ρ ds=some out) (hN:o0.length+out.length<=N) (hAk:∀ {D:Addr} {H H':Hp} {o1:List Dt} {o:HO},Kp H H'->Ac D H o1 o->Ac D H' o1 o) (hturn:∀ (it:Value) (D:Addr) (env:Env),compTurn comp d it (.ref D) env=(standAt ipos >>= λ_=>pyNext it >>= λr=>match r with
   |none=>pure (.done .next)
   |some v=>letOwnedTupleGo tgt it v >>= λ_=>assign tgt env v >>= λ_=>(forIn ifs true λc r=>if r=true then isTrue c env (eval c env) >>= λok=>pure (ForInStep.yield ok) else pure (ForInStep.yield r)) >>= λok=>if ok=true then el D env >>= λ_=>again (.compLoop comp d it (.ref D) env) else again (.compLoop comp d it (.ref D) env))) (hsh:∀ {it acc:Value} {env:Env} {Q:Fin->Shared->Prop} {E:VP_} {s:Shared},wpAny (model X.prog X.w) X.A ((compTurn comp d it acc env).onRaise (λx=>noteFrame x env >>= λ_=>theTreesLotGoes x)) Q E s->wpAny (model X.prog X.w) (X.A.under (.compLoop comp d it acc env)) ((model X.prog X.w).den (.compLoop comp d it acc env)) Q E s) (hR:∀ s' σ' H' o',L2.Inv X pins σ' H' s'->bL X.K Hb H' σ' ρ->Fx σ σ' ρ->H' D=some o'->Ac D H' (o0++out) o'->R (.ok .next) s') :
  codeAny (model X.prog X.w) X.A (.compLoop comp d (.ref it) (.ref D) X.env) R s:=by
 have hfC:∀ {H':Hp},(∀ b∈fp,H' b=none)->∀ b∈fp,qe X pins H' b:=λ{H'} hn b hb=>⟨hn b hb,(hf b hb).2⟩;refine codeAny_loop rfl (λk s'=>∃ (i:Nat) (σ':L2.St) (H':Hp) (o1 o2:List Dt) (o:HO),k=ds.length - i/\i<=ds.length/\L2.Inv X pins σ' H' s'/\tn i s'.heap/\(∀ b∈fp,H' b=none)/\bL X.K Hb H' σ' ρ/\Fx σ σ' ρ/\H' D=some o/\Ac D H' o1 o/\Ae gt p fs ρ (ds.drop i)=some o2/\o1++o2=o0++out) ?_ ds.length
  ⟨0,σ,H,o0,out,o,by simp,QO _,I,st,λb hb=>(hf b hb).1,E,λ_ _ _ _=>rfl,hHD,hA,by simpa using hout,rfl⟩
 rintro k s4 ⟨i,σ4,H4,o1,o2,o,rfl,hi,I4,st4,fr4,E4,F4,hD4,r4,e4,ho⟩;have P4:=P.fx F4;refine hsh (wpAny_noted ?_);rw[hturn];obtain⟨y1,y2⟩:=Y i H4 E4.base;by_cases hlt:i < ds.length
 ·have hd:ds[i]?=some ds[i]:=by simp[hlt]
  obtain⟨go,yl⟩:=y1 _ hd;rw[List.drop_eq_getElem_cons hlt] at e4;simp only[Ae] at e4;obtain⟨ρ1,e1,e4⟩:=bind_some e4;obtain⟨k,ek,e4⟩:=bind_some e4;obtain⟨hl1,hk1⟩:=htk _ _ _ e1;have back:∀ {σ5:L2.St} {H5:Hp},bL X.K Hb H5 σ5 ρ1->bL X.K Hb H5 σ5 ρ:=λE5=>E5.forget hl1 λj b e=>by rw[hk1 j (.inl (P.lt j b e))];exact e
  refine zb (kP (zb ?_));refine iI (T.item X rfl rfl rfl hcalm i pins s4 σ4 H4 _ I4 (hfC fr4) st4 go) λr s5 ⟨u,hr,h5⟩=>?_;subst hr;refine zb (iI h5 λ_ s6 ⟨x,H6,I6,r6,y6,st6,fr6⟩=>?_);obtain⟨sm,rx⟩:=yl x H6 y6;have E4:=E4.grow sm;have hD4:=sm _ _ hD4;have r4:=hAk (.of sm) r4;have I6':=I6.pinned (hfC fr6) (T.obj _ _ st6);have ha:=Hl _ s6 σ4 H6 x u (λσ' H'=>H'=H6/\bL X.K Hb H6 σ' ρ1/\Lo σ4 ρ σ' ρ1) I6' r6 ⟨Hb,ρ,ds[i],ρ1,E4,rx,e1,λσ' E' L'=>⟨rfl,E',L'⟩⟩;rw[hx] at ha;refine zb (ZU ha (λ_ s7 h7=>?_) λ_ _ z=>z.elim);obtain⟨σ7,H7,I7,rfl,E7,L7⟩:=h7;have P7:Apt Hb σ7 ρ1 m:=by
   refine⟨λj c e=>?_,λj c e=>?_,λj c a e hl ea=>?_⟩
   ·cases c with
    |o ds=>exact P.own j _ (L7 j _ rfl e).1
    |m ds _=>exact P.own j _ (L7 j _ rfl e).1
    |_=>rfl
   ·refine Nat.lt_of_not_le λh=>?_;rw[hk1 j (.inr h)] at e;exact absurd (ZH (P.lt j c e) hnm) (Nat.not_lt.mpr h)
   ·obtain⟨e',ee⟩:=L7 j c hl e;exact P4.old j c a e' hl (by rw[<-ee];exact ea)
  have acS:∀ {σ5:L2.St},Fx σ7 σ5 ρ1->Fx σ σ5 ρ:=λf j c hl e=>by
   have e':ρ1[j]?=some (some c):=by rw[hk1 j (.inl (P.lt j c e))];exact e
   exact(f j c hl e').trans ((L7 j c hl e').2.trans (F4 j c hl e))
  have ht:wpAny (model X.prog X.w) X.A (forIn ifs true λc r=>if r=true then do let ok <-isTrue c X.env (eval c X.env);pure (ForInStep.yield ok) else pure (ForInStep.yield r))
    (λok s8=>ok=k/\∃ H8,L2.Inv X (pins++yI fp s6.heap) σ7 H8 s8/\Same H7 H8) (notedBy (model X.prog X.w) X.A X.env λe s'=>R (.error e) s') s7:=by
   rcases hif with⟨rfl,rfl⟩|⟨c,rfl,hc⟩
   ·cases ek;exact wpAny_tests_nil ⟨rfl,H7,I7,Same.refl H7⟩
   ·refine wpAny_tests_one ?_;have:=hc _ s7 σ7 H7 (λb H8=>b=k/\Same H7 H8) I7 ⟨Hb,ρ1,k,E7,ek,λH8 s8=>⟨rfl,s8⟩⟩;rw[hx] at this;exact ZU this (λb s8 ⟨H8,I8,eb,s8'⟩=>⟨eb,H8,I8,s8'⟩) λ_ _ z=>z.elim
  refine zb (ZU ht (λok s8 h8=>?_) λ_ _ z=>z);obtain⟨rfl,H8,I8,s78⟩:=h8;have Xl:∀ {σ9:L2.St} {H9:Hp} {s9:Shared},L2.Inv X (pins++yI fp s6.heap) σ9 H9 s9->L2.Inv X pins σ9 H9 s9/\tn (i+1) s9.heap/\∀ b∈fp,H9 b=none:=λ{σ9 H9 s9} I9=>by
   refine⟨I9.tu,T.keep _ _ _ st6 λb hb o e=>(I9.pin (b,o) (ZY _ (ZY _ (qN hb e)))).1,λb hb=>?_⟩;obtain⟨o,e,d⟩:=T.obj _ _ st6 b hb;exact(I9.pin (b,o) (ZY _ (ZY _ (qN hb e)))).2.1
  cases ok with
  |false=>
   rw[zC ZA] at e4;obtain⟨I9,st9,fr9⟩:=Xl I8;exact ze ⟨rfl,ds.length - (i+1),by omega,i+1,σ7,H8,o1,o2,o,rfl,hlt,I9,st9,fr9,back (E7.grow s78),acS (λ_ _ _ _=>rfl),s78 _ _ hD4,hAk (.of s78) r4,e4,ho⟩
  |true=>
   rw[zi rfl] at e4;obtain⟨ys,eb,e4⟩:=bind_some e4;obtain⟨zs,e5,e4⟩:=bind_some e4;cases e4;have hl:=congrArg List.length ho;simp only[Zs] at hl;have he:=hel _ s8 σ7 H8 Hb ρ1 D o o1 ys I8 (E7.grow s78) P7 hD eb (s78 _ _ hD4) (hAk (.of s78) r4) (by omega);rw[hx] at he;refine zb (ZU he (λ_ s10 h10=>?_) λ_ _ z=>z.elim);obtain⟨σ9,H9,o',I10,E9,F9,hD9,a5⟩:=h10;obtain⟨I11,aiD,aiE⟩:=Xl I10;exact ze ⟨rfl,ds.length - (i+1),by omega,i+1,σ9,H9,o1++ys,zs,o',rfl,hlt,I11,aiD,aiE,back E9,acS F9,hD9,a5,e5,by rw[kB];exact ho⟩
 ·have hge:ds.length<=i:=by omega
  rw[List.drop_eq_nil_of_le hge] at e4;cases e4;refine zb (kP (zb ?_));refine iI (T.done X rfl rfl rfl hcalm i pins s4 σ4 H4 _ I4 (hfC fr4) st4 (y2 hge)) λr s5 ⟨hr,I5⟩=>?_;subst hr;rw[QY] at ho;exact ze (hR s5 σ4 H4 o I5 E4 F4 hD4 (by rw[<-ho];exact r4))
theorem Ho {comp:Expr} {mk:Sem Value} {o0:Obj} {O0:HO} {Ac:Addr->Hp->List Dt->HO->Prop} {fs:Ev->Option (List Dt)} {N m:Nat} {H2:Hp} {s2:Shared} {ds out:List Dt} {ρ:Ev} (O:pR X scope cl xs is) (hcalm:B X.A X.calm) (Hl:∀ C s₀ H₀ fp,PTg (Ad X (xs++ts) scope cl C s₀ H₀ fp) tgt gt) (hif:∀ C s₀ H₀ fp,Tests (Ad X (xs++ts) scope cl C s₀ H₀ fp) ifs p) (helt:∀ C s₀ H₀ fp,Xj (Ad X (xs++ts) scope cl C s₀ H₀ fp) el fs Ac N m) (htk:Xg is.length m gt) (hnm:is.length<=m) (I2:L2.Inv X pins σ H2 s2) (Ec:bL X.K H2 H2 (vU is σ++List.replicate ts.length none) (iY is ρ++List.replicate ts.length none)) (T:Lx B X.prog X.w X.K tgt J fp it tn) (st:tn 0 s2.heap) (hf:∀ b∈fp,qe X pins H2 b) (Y:Yields X.K J ds H2) (hout:Ae gt p fs (iY is ρ++List.replicate ts.length none) ds=some out) (hlen:out.length<=N) (hRR:∀ (D C:Addr) (s':Shared) (H':Hp) (o:HO),H2 D=none->L2.Inv X pins σ H' s'->qe X pins H' C->(∃ m,s'.heap.Ns C m)->Same H2 H'->H' D=some o->Ac D H' out o->RR (.ref D) C (.ok .next) s') (hmk:∀ {Q:VP_},Q (.ref s2.heap.objs.size) { s2 with heap:=s2.heap.push o0 }->wpAny (model X.prog X.w) X.A mk Q E s2) (hO0:∀ H,eX X.prog X.w H (s2.heap.push o0) s2.heap.objs.size O0) (hA0:∀ H,Ac s2.heap.objs.size H [] O0) (hAk:∀ {D:Addr} {H H':Hp} {o1:List Dt} {o:HO},Kp H H'->Ac D H o1 o->Ac D H' o1 o) (hturn:∀ (it:Value) (D:Addr) (env:Env),compTurn comp 0 it (.ref D) env=(standAt iter.pos >>= λ_=>pyNext it >>= λr=>match r with
   |none=>pure (.done .next)
   |some v=>letOwnedTupleGo tgt it v >>= λ_=>assign tgt env v >>= λ_=>(forIn ifs true λc r=>if r=true then isTrue c env (eval c env) >>= λok=>pure (ForInStep.yield ok) else pure (ForInStep.yield r)) >>= λok=>if ok=true then el D env >>= λ_=>again (.compLoop comp 0 it (.ref D) env) else again (.compLoop comp 0 it (.ref D) env))) (hstart:∀ {it acc:Value} {env:Env} {R:Result->Shared->Prop} {s:Shared},codeAny (model X.prog X.w) X.A (.compLoop comp 0 it acc env) R s->wpAny (model X.prog X.w) X.A (pyIter it) (λit' s'=>codeAny (model X.prog X.w) X.A (.compLoop comp 0 it' acc env) R s') (notedBy (model X.prog X.w) X.A env λx s'=>R (.error x) s') s->codeAny (model X.prog X.w) X.A (.compStart comp 0 it acc env) R s) (hsh:∀ {it acc:Value} {env:Env} {Q:Fin->Shared->Prop} {E:VP_} {s:Shared},wpAny (model X.prog X.w) X.A ((compTurn comp 0 it acc env).onRaise (λx=>noteFrame x env >>= λ_=>theTreesLotGoes x)) Q E s->wpAny (model X.prog X.w) (X.A.under (.compLoop comp 0 it acc env)) ((model X.prog X.w).den (.compLoop comp 0 it acc env)) Q E s) :
  wpAny (model X.prog X.w) X.A mk (λacc s₃=>wpAny (model X.prog X.w) X.A (newFunctionEnv scope X.env.globals cl [] X.env.qual none .none (some X.env)) (λcenv s₄=>
   codeAny (model X.prog X.w) X.A (.compStart comp 0 (.ref it) acc { cenv with scope:=relabel scope X.env }) (RR acc cenv.locals) s₄) E s₃) E s2:=by
 refine hmk (U4 ?_);have hD:H2 s2.heap.objs.size=none:=I2.hok.fresh (zg _);have I3:L2.Inv X pins σ (upd H2 s2.heap.objs.size O0) { s2 with heap:=s2.heap.push o0 }:=
  I2.laid (t':=s2.toks) (λb o e=>zd _ e) (zg _) (hO0 _)
 have agz:∀ b∈fp,b < s2.heap.objs.size:=λb hb=>let ⟨o,e,_⟩:=T.obj 0 _ st b hb;zw e;have hf3:∀ b∈fp,qe X pins (upd H2 s2.heap.objs.size O0) b:=λb hb=>⟨by rw[aK (zI (agz b hb))];exact(hf b hb).1,(hf b hb).2⟩;have st3:tn 0 (s2.heap.push o0):=T.keep 0 _ _ st λb hb o e=>zd _ e;have aaO:∀ b∈fp,b < (s2.heap.push o0).objs.size:=λb hb=>by rw[qk];exact qq (agz b hb)
 generalize hs3:({ s2 with heap:=s2.heap.push o0 }:Shared)=s3 at *
 have aiG:s3.heap=s2.heap.push o0:=by rw[<-hs3]
 rw[<-aiG] at st3 aaO;have IC:=Xi (ts:=ts) I3 O hf3 aaO;have st1:tn 0 (pushCells (s3.heap.push { cls:=.type "dict", data:=.dict #[] }) scope.names):=T.keep 0 _ _ st3 λb hb o e=>pushCells_keeps _ _ b o (zd _ e);have hfC:∀ b∈fp,qe (Ad X (xs++ts) scope cl s3.heap.objs.size s3 (upd H2 s2.heap.objs.size O0) fp) [] (upd H2 s2.heap.objs.size O0) b:=λb hb=>by
  obtain⟨f0,f1,f2,f3,f4,f5⟩:=hf3 b hb;refine⟨f0,zI (aaO b hb),λz=>?_,.inl hb,λx c e z=>?_,λq hq=>absurd (show q∈([]:List (Addr×Obj)) from hq) (by simp)⟩
  ·rcases List.mem_cons.mp (I3.Bw b z) with q|q
   ·exact f1 q
   ·exact f2 q
  ·rcases wZ _ _ _ x c e with h|h
   ·exact f4 x c (O.sub.get h) z
   ·rw[z] at h;exact absurd (ZH (aaO b hb) (Nat.le_of_succ_le h)) (JA _)
 have P0:Apt H2 (vU is σ++List.replicate ts.length none) (iY is ρ++List.replicate ts.length none) is.length:=by
  have g:∀ (j:Nat) c,(iY is ρ++List.replicate ts.length none)[j]?=some (some c)->j < is.length/\sS c=false:=λj c e=>by
   by_cases hj:j < is.length
   ·refine⟨hj,?_⟩;rw[ZN (by simp[iY];omega)] at e;unfold iY at e;rw[Zl] at e;cases q:is[j]? with
    |none=>rw[q] at e;cases e
    |some i=>rw[q] at e;exact wV (by simpa using e)
   ·rw[qr (by simp[iY];omega),QN] at e;split at e<;>cases e
  exact⟨λj c e=>(g j c e).2,λj c e=>(g j c e).1,known Ec⟩
 have h:=U5 (B:=B) (X:=Ad X (xs++ts) scope cl s3.heap.objs.size s3 (upd H2 s2.heap.objs.size O0) fp) (R:=RR (.ref s2.heap.objs.size) s3.heap.objs.size) (o0:=[]) hcalm rfl (Hl _ _ _ _) (hif _ _ _ _) (helt _ _ _ _) htk hnm IC (Ec.grow (bJ hD)) P0 hD bf (hA0 _) T st1 hfC Y hout (by simpa using hlen) hAk hturn hsh λs5 σ5 H5 o5 I5 E5 _ hD5 a5=>by
  have IB:L2.Inv X pins σ H5 s5:=I3.call' (ch:=fp) I5.os I5.base I5.hok I5.bare λb hb=>by
   obtain⟨f0,f1,f2,f3,f4,f5⟩:=hf3 b hb;exact⟨f3,f1,f4,f5⟩
  obtain⟨m,hn,_⟩:=I5.loc;exact hRR _ _ s5 H5 o5 hD IB (I3.Uq (zg _) I5.free) ⟨m,hn⟩ E5.base hD5 a5
 exact hstart h (T.self _ 0 _ _ _ st1 h)
def AcL (K:FG_) (_:Addr) (H:Hp) (o1:List Dt) (o:HO):Prop:=∃ us,o=.lst us/\aO K H o1 us
theorem AcL.kp {K:FG_} {D:Addr} {H H':Hp} {o1:List Dt} {o:HO} (k:Kp H H'):AcL K D H o1 o->AcL K D H' o1 o:=λ⟨us,e,r⟩=>⟨us,e,r.kp k⟩
def agA (fe:Ev->Option Bx):Ev->Option (List Dt):=λρ=>(fe ρ).bind aeh
theorem aaP (h:PV X elt fe):Xj X (λD env=>do let _ <-call (.builtin "list.append") [.ref D,<-eval elt env]) (agA fe) (AcL X.K) 100000 n:=by
 refine Xk λpins s σ H Hb ρ D o o1 ys I En ee hD ⟨us,e,r4⟩ hl=>?_;subst e;obtain⟨b,eb,ee⟩:=bind_some ee;obtain⟨y,rfl,rfl⟩:=yO ee;refine zb (ZU (h pins s σ H (λv H9=>Same H H9/\Rep X.K H9 y v) I ⟨Hb,ρ,_,En,eb,λv H9 s9 _ r9=>⟨s9,r9⟩⟩) (λv s9 h9=>?_) λ_ _ z=>z);obtain⟨v',H9,I9,rv,s89,r9⟩:=h9;have hD9:=s89 _ _ hD;refine zb (ZU ((Hf (X:=X)) _ s9 σ H9 (.ref D) [v'] (.ref D) [v] (λw H10=>H10=upd H9 D (.lst (us++[v']))) I9 rfl (.cons rv .nil) ⟨_,us,v',rfl,rfl,hD9,by rw[r4.length];have h0:(100000:Nat) < sizeLine:=(by decide);simp at hl;omega,rfl⟩) (λw s10 h10=>?_) λ_ _ z=>z);obtain⟨w',H10,I10,_,rfl⟩:=h10;have kp:Kp H9 (upd H9 D (.lst (us++[v']))):=.lst hD9;exact ze ⟨H9,_,I10,s89,kp,us++[v'],rfl,((r4.kp (.of s89)).append (aO.cons r9 aO.nil)).kp kp⟩
theorem tK {H2:Hp} {s2:Shared} {ds out:List Dt} {ρ:Ev} (O:pR X scope cl xs is) (hcalm:B X.A X.calm) (Hl:∀ C s₀ H₀ fp,PTg (Ad X (xs++ts) scope cl C s₀ H₀ fp) tgt gt) (hif:∀ C s₀ H₀ fp,Tests (Ad X (xs++ts) scope cl C s₀ H₀ fp) ifs p) (helt:∀ C s₀ H₀ fp,PV (Ad X (xs++ts) scope cl C s₀ H₀ fp) elt fe) (htk:Xg is.length (is.length+ts.length) gt) (I2:L2.Inv X pins σ H2 s2) (Ec:bL X.K H2 H2 (vU is σ++List.replicate ts.length none) (iY is ρ++List.replicate ts.length none)) (T:Lx B X.prog X.w X.K tgt J fp it tn) (st:tn 0 s2.heap) (hf:∀ b∈fp,qe X pins H2 b) (Y:Yields X.K J ds H2) (hlen:ds.length<=100000) (hout:w5 gt p fe (iY is ρ++List.replicate ts.length none) ds=some out) (hRR:∀ (D C:Addr) (s':Shared) (H':Hp) (us:List V),H2 D=none->L2.Inv X pins σ H' s'->qe X pins H' C->(∃ m,s'.heap.Ns C m)->Same H2 H'->H' D=some (.lst us)->aO X.K H' out us->RR (.ref D) C (.ok .next) s') :
  wpAny (model X.prog X.w) X.A (newList []) (λacc s₃=>wpAny (model X.prog X.w) X.A (newFunctionEnv scope X.env.globals cl [] X.env.qual none .none (some X.env)) (λcenv s₄=>
   codeAny (model X.prog X.w) X.A (.compStart (.ListComp elt [⟨tgt,iter,ifs,0⟩] scope pos) 0 (.ref it) acc { cenv with scope:=relabel scope X.env }) (RR acc cenv.locals) s₄) E s₃) E s2:=
 Ho (B:=B) (Ac:=AcL X.K) (O0:=.lst []) (N:=100000) O hcalm Hl hif (λC s₀ H₀ fp=>aaP (helt C s₀ H₀ fp)) htk (Nat.le_add_right ..) I2 Ec T st hf Y hout (Zp (uL hout) hlen) (λD C s' H' o a b c d e f g=>by obtain⟨us,rfl,r⟩:=g;exact hRR D C s' H' us a b c d e f r)
  qa (λ_=>⟨QO _,[],0,.nil,zv _ rfl⟩) (λ_=>⟨[],rfl,aO.nil⟩) AcL.kp (λ_ _ _=>rfl) codeAny_compStart_list λh=>h
end
def iC (K:FG_) (f:Ev->Option (List Dt)):TI:=λσ H R=>∃ H0 ρ ds,bL K H0 H σ ρ/\f ρ=some ds/\∀ J H',Same H H'->Yields K J ds H'->R J H'
def PIC (X:Cx) (tg iter:Expr) (f:Ev->Option (List Dt)):Prop:=PI X tg iter (iC X.K f)
structure QIC (X:Cx) (tg iter:Expr) (f:Ev->Option (List Dt)):Prop where
 run:PIC X tg iter f
def Xm:Bx->Option (List Dt)
 |.z (.lst ds)=>some ds
 |.z (.tup ds)=>some ds
 |.z (.str x)=>some (signs x)
 |.o ds=>some ds
 |.l ds=>some ds
 |_=>none
section
variable {f:Ev->Option Bx} {fs:Ev->Option (List Bx)} {xs ts:LS_} {gt:Dt->Ev->Option Ev} {p:Ev->Option Bool} {fe:Ev->Option Bx} {fi:Ev->Option (List Dt)}
theorem Ql (h:QIF X tgt iter fi):QIC X tgt iter fi:=⟨have h:=h.run;λpins s σ H R I q=>by
 obtain⟨H0,ρ,ds,E,e,q⟩:=q;exact h pins s σ H R I ⟨H0,ρ,ds,E,e,λJ H' s' y=>q J H' s' (y H' (Same.refl H') (λ_ _=>rfl) (λ_ _ _ _=>rfl) λ_ _ _=>rfl)⟩⟩
theorem gW (h:QV X e f):QIC X tgt e (λρ=>(f ρ).bind Xm):=⟨have h:=h.run;λpins s σ H R I q=>by
 refine Qj h pins s σ H R I ?_;obtain⟨H0,ρ,ds,E,e,q⟩:=q;obtain⟨b,eb,e⟩:=bind_some e;refine⟨H0,ρ,b,E,eb,λv H1 s1 n1 r1=>?_⟩;cases b with
 |z d=>
  cases d with
  |tup ds'=>
   cases e;simp only[bA,Rep] at r1;obtain⟨a,vs,rfl,hq,rs⟩:=r1;exact .inr (.inl ⟨a,rfl,⟨vs,hq⟩,q _ _ s1 (.tup hq rs)⟩)
  |lst ds'=>
   cases e;obtain⟨a,vs,rfl,hq,rs⟩:=r1.Hh rfl;exact .inl ⟨a,rfl,⟨vs,hq⟩,q _ _ s1 (.list hq rs)⟩
  |str x=>
   cases e;simp only[bA,Rep] at r1;obtain⟨rfl,_⟩:=r1;exact .inr (.inr ⟨x,rfl,q _ _ s1 (.str x)⟩)
  |_=>cases e
 |l ds'=>
  cases e;obtain⟨a,vs,rfl,hq,rs⟩:=r1.Hh rfl;exact .inl ⟨a,rfl,⟨vs,hq⟩,q _ _ s1 (.list hq rs)⟩
 |o ds'=>
  cases e;obtain⟨a,vs,rfl,hq,rs⟩:=r1.Hh rfl;exact .inl ⟨a,rfl,⟨vs,hq⟩,q _ _ s1 (.list hq rs)⟩
 |n _=>cases e
 |m _ _=>cases e⟩
def dY (fi:Ev->Option (List Dt)) (gt:Dt->Ev->Option Ev) (p:Ev->Option Bool) (fe:Ev->Option Bx) (is:List Nat) (n:Nat):Ev->Option Bx:=λρ=>(fi ρ).bind λds=>
 if ds.length<=100000 then(w5 gt p fe (iY is ρ++List.replicate n none) ds).bind λout=>some (.o out) else none
theorem jh (ts:LS_) (O:pR X scope cl xs is) (hcalm:X.calm=true) (hi:QIC X tgt iter fi) (Hl:∀ C s₀ H₀ fp,Z4 (Ad X (xs++ts) scope cl C s₀ H₀ fp) tgt gt) (hif:∀ C s₀ H₀ fp,yP (Ad X (xs++ts) scope cl C s₀ H₀ fp) ifs p) (helt:∀ C s₀ H₀ fp,QV (Ad X (xs++ts) scope cl C s₀ H₀ fp) elt fe) (htk:Xg is.length (is.length+ts.length) gt) (hs:∀ x,foldedSetIterable iter X.env x=pure x:=by intro _;rfl):QV X (.ListComp elt [⟨tgt,iter,ifs,0⟩] scope pos) (dY fi gt p fe is ts.length):=⟨have hi:=hi.run;have Hl:=λC s₀ H₀ fp=>(Hl C s₀ H₀ fp).run;have hif:=λC s₀ H₀ fp=>(hif C s₀ H₀ fp).run;have helt:=λC s₀ H₀ fp=>(helt C s₀ H₀ fp).run;λpins s σ H Q I h=>by
 obtain⟨H0,ρ,b,E,e,q⟩:=h;obtain⟨ds,ed,e⟩:=bind_some e;split at e
 ·rename_i hlen;obtain⟨out,eo,e⟩:=bind_some e;cases e;rw[eval_ListComp];refine kc (use:=none) rfl hs O.clos O.kind O.names ?_;refine iI (hi pins s σ H (λJ H'=>Same H H'/\Yields X.K J ds H') I ⟨H0,ρ,ds,E,ed,λJ H' s' y=>⟨s',y⟩⟩) λv s1 h1=>iI h1 λitv s2 h2=>?_;obtain⟨it,fp,tn,J,H2,rfl,I2,T,st,hf,s12,Y⟩:=h2;refine tK (B:=Hj) (RR:=λacc C=>compPost (model X.prog X.w) X.A X.xe none (EP X pins σ Q) acc C) (ts:=ts) (xs:=xs) O hcalm Hl hif helt htk I2 ((E.grow s12).caps is ts.length) (Ly T) st hf Y hlen eo ?_;intro D C s' H' us hD I' fC ⟨m,hn⟩ s2' hD' r';refine⟨m,hn,λh' sb=>⟨.ref D,H',?_,rfl,q _ _ (s12.trans s2') (λa ea=>by cases ea;exact s12.free hD) ⟨D,us,rfl,hD',r'⟩⟩⟩;obtain⟨f0,f1,f2,f3,f4,f5⟩:=fC;exact I'.turned (t':=s'.toks) (λb o hb e=>(sb.2 b hb).trans e) f0 f1 f3 f4 f5
 ·cases e⟩
theorem Bd (i:Nat) {y:Str} {py spos:Pos} (ts:LS_) (O:pR X scope cl xs is) (hcalm:X.calm=true) (hN:X.N.Nodup) (hi:QIC X tgt iter fi) (Hl:∀ C s₀ H₀ fp,Z4 (Ad X (xs++ts) scope cl C s₀ H₀ fp) tgt gt) (hif:∀ C s₀ H₀ fp,yP (Ad X (xs++ts) scope cl C s₀ H₀ fp) ifs p) (helt:∀ C s₀ H₀ fp,QV (Ad X (xs++ts) scope cl C s₀ H₀ fp) elt fe) (htk:Xg is.length (is.length+ts.length) gt) (hsw:swapsWith (.ListComp elt [⟨tgt,iter,ifs,0⟩] scope pos) (some (.Name y py)) spos.line X.env=pure true:=by with_unfolding_all rfl) (hy:X.N[i]?=some y:=by rfl) (hx:Loc X.env.scope y:=by first|exact kR rfl|exact JP rfl) (hf:X.fn y=true\/X.env.scope.names.lookup y=some .local:=by first|exact .inl rfl|exact .inr rfl) (hs:∀ x,foldedSetIterable iter X.env x=pure x:=by intro _;rfl):Qh X (.Assign [.Name y py] (.ListComp elt [⟨tgt,iter,ifs,0⟩] scope pos) spos) (λρ=>(dY fi gt p fe is ts.length ρ).bind λb=>(Xc ρ i b).bind λρ'=>some (.nx ρ')):=⟨have hi:=hi.run;have Hl:=λC s₀ H₀ fp=>(Hl C s₀ H₀ fp).run;have hif:=λC s₀ H₀ fp=>(hif C s₀ H₀ fp).run;have helt:=λC s₀ H₀ fp=>(helt C s₀ H₀ fp).run;λpins s σ H D I h=>by
 obtain⟨H0,ρ,r,E,e,q⟩:=h;obtain⟨b,eb,e⟩:=bind_some e;obtain⟨ds,ed,eb⟩:=bind_some eb;split at eb
 ·rename_i hlen;obtain⟨out,eo,eb⟩:=bind_some eb;cases eb;cases e;rw[exec_Assign_Name_used _ _ _ _ hsw];refine zb (kP (zb ?_));show wpAny _ X.A (do let _ <-comprehension (.ListComp elt [⟨tgt,iter,ifs,0⟩] scope pos) scope X.env _ (newList []) false (eval iter X.env) (some (assign (.Name y py) X.env))) _ _ s;refine zb (ZU (kc (use:=some (assign (.Name y py) X.env)) (Q:=λ_ s'=>SP X pins D .next s') rfl hs O.clos O.kind O.names ?_) (λ_ s' hq=>ze (ze hq)) λ_ _ e=>e);refine iI (hi pins s σ H (λJ H'=>Same H H'/\Yields X.K J ds H') I ⟨H0,ρ,ds,E,ed,λJ H' s' y=>⟨s',y⟩⟩) λv s1 h1=>iI h1 λitv s2 h2=>?_;obtain⟨it,fp,tn,J,H2,rfl,I2,T,st,hf',s12,Y⟩:=h2;refine tK (B:=Hj) (RR:=λacc C=>compPost (model X.prog X.w) X.A X.xe (some (assign (.Name y py) X.env)) (λ_ s'=>SP X pins D .next s') acc C) (ts:=ts) (xs:=xs) O hcalm Hl hif helt htk I2 ((E.grow s12).caps is ts.length) (Ly T) st hf' Y hlen eo ?_;intro Da C s' H' us hD I' fC ⟨m,hn⟩ s2' hD' r';show wpAny _ X.A (assign (.Name y py) X.env (.ref Da)) _ _ s';obtain⟨f0,f1,f2,f3,f4,f5⟩:=fC;obtain⟨oC,es',ep,hoC,hdC,hrest⟩:=id hn;have I'':L2.Inv X (pins++[(C,oC)]) σ H' s':=I'.Az λpp hp=>by
   rcases List.mem_append.mp hp with z|z
   ·exact I'.pin pp (ZY _ z)
   ·have:pp=(C,oC):=by simpa using z
    subst this;exact⟨hoC,f0,f1,f2,λv z=>by rw[hdC] at z;cases z⟩
  refine iI (L2.RN hN hy hx hf (pins++[(C,oC)]) s' σ H' (.ref Da) (.ref Da) (λσ' H''=>σ'=σ.set i (some (.ref Da))/\H''=H') I'' rfl ⟨rfl,rfl⟩) λ_ s'' ⟨σ',H'',J',e1,e2⟩=>?_;subst e1 e2;have hC':=(J'.pin (C,oC) (by simp)).1;refine⟨m,⟨oC,es',ep,hC',hdC,hrest⟩,λh' sb=>?_⟩;refine⟨σ.set i (some (.ref Da)),H'',J'.tu.turned (t':=s''.toks) (λb o hb e=>(sb.2 b hb).trans e) f0 f1 f3 f4 f5,q _ _ ?_⟩;exact E.set (s12.trans s2') (b:=.o out) ⟨Da,us,rfl,hD',r'⟩ (.inl rfl) λa ea=>by cases ea;exact s12.free hD
 ·cases eb⟩
def lend:Bx->Bx
 |.o ds=>.l ds
 |.m ds _=>.n ds
 |b=>b
def isO:Bx->Bool
 |.o _=>true
 |.m _ _=>true
 |_=>false
def spF (K:FG_) (n:Nat) (F:List Bx->Option Bx):Sp:=λvs H Q _=>vs.length=n/\∃ bs r,ql K H bs vs/\bs.all (λb=>!isO b)=true/\F bs=some r/\∀ v H',Same H H'->Nw H r v->bA K H' r v->Q v H'
def dI (n:Nat) (g:Ev->Option Out):List Bx->Option Bx:=λbs=>(g (bs.map some++List.replicate (n - bs.length) none)).bind λr=>match r with
 |.rt b=>some b
 |.nx _=>some (.z .non)
 |_=>none
theorem bL.start {K:FG_} {H:Hp} {N:LS_} {bs:List Bx} {vs:List V} (r:ql K H bs vs) (ho:bs.all (λb=>!isO b)=true):bL K H H (L2.start N vs) (bs.map some++List.replicate (N.length - bs.length) none):=by
 have hl:bs.length=vs.length:=Paired.length r;have get:∀ (i:Nat) b,(bs.map some++List.replicate (N.length - bs.length) none)[i]?=some (some b)->bs[i]?=some b:=λi b e=>by
  by_cases hi:i < bs.length
  ·rw[ZN (by simpa using hi),Zl] at e;cases q:bs[i]? with
   |none=>rw[q] at e;cases e
   |some b'=>rw[q] at e;simpa using e
  ·rw[qr (by simp;omega),QN] at e;split at e<;>cases e
 have Z5:∀ (i:Nat) c,(bs.map some++List.replicate (N.length - bs.length) none)[i]?=some (some c)->sS c=true->False:=λi c e ec=>by
  have:=List.all_eq_true.mp ho _ (qE (get i _ e));cases c with
  |o ds=>cases this
  |m ds _=>cases this
  |_=>cases ec
 refine⟨?_,λi b e=>?_,λi j c a b e ec=>(Z5 i c e ec).elim,Same.refl H,λi c a e ec=>(Z5 i c e ec).elim⟩
 ·unfold L2.start;simp[hl]
 ·have e':=get i b e;have hi:i < bs.length:=(List.getElem?_eq_some_iff.mp e').1;have:∀ {bs:List Bx} {vs:List V} {i:Nat} {b:Bx},Paired (bA K H) bs vs->bs[i]?=some b->∃ v,vs[i]?=some v/\bA K H b v:=by
   intro bs vs i b r
   induction r generalizing i with
   |nil=>intro e;simp at e
   |cons p t ih=>
    intro e;cases i with
    |zero=>simp at e;subst e;exact⟨_,rfl,p⟩
    |succ i=>obtain⟨v,e1,e2⟩:=ih (i:=i) (by simpa using e);exact⟨v,by simpa using e1,e2⟩
  obtain⟨v,e1,e2⟩:=this r e';refine⟨v,?_,e2⟩;unfold L2.start;rw[ZN (by simp;omega),Zl,e1];rfl
end
theorem aiI {f:Addr} {k:Nat} {g:Ev->Option Out} (F:FN K x qual st f fd) (S:bw N ps (aG st)) (hbody:∀ (cdv:Value) (A:Around) (outer:List Env) (s:Shared) (H:Hp) (E:XK),g8 k (A.deeper (envOfC qual (aG st) s.heap.objs.size f cdv))->Wv (sO Cd P w K mg base N qual (aG st) f cdv A outer s H E).Wu (fP st) g) :
  lB P w K mg base Cd (k+1) f fd ps (spF K ps.length (dI N.length g)):=by
 refine F.ok S (λvs H Q E h=>h.1) λcdv A outer s H vs Q E hr h=>?_;obtain⟨hl,bs,r,rb,ho,e,q⟩:=h;refine⟨_,hbody cdv A outer s H E hr,?_⟩;obtain⟨r',er,e⟩:=bind_some e;refine⟨H,_,r',bL.start rb ho,er,?_⟩;cases r' with
 |rt b=>cases e;exact λv H' s' n' r'=>q v H' s' n' r'
 |nx ρ=>cases e;exact λσ H' E'=>q _ H' E'.base trivial (by unfold bA Rep;rfl)
 |bk ρ=>cases e
 |ct ρ=>cases e
section
variable {k:Nat} {f:Addr} {F:List Bx->Option Bx} {p:Pos} {fs:Ev->Option (List Bx)}
theorem Cw {K:FG_} {H:Hp}:∀ {bs:List Bx} {vs:List V},ql K H bs vs->ql K H (bs.map lend) vs
 |_,_,.nil=>.nil
 |b::bs,_,.cons h t=>by
  refine .cons ?_ (Cw t);cases b with
  |z d=>exact h
  |l ds=>exact h
  |o ds=>obtain⟨a,vs,e,q,r⟩:=h;exact⟨a,vs,e,.inl q,r⟩
  |n ds=>exact h
  |m ds _=>obtain⟨a,vs,e,q,r⟩:=h;exact⟨a,vs,e,.inl q,r.1⟩
theorem Jp:∀ bs:List Bx,(bs.map lend).all (λb=>!isO b)=true
 |[]=>rfl
 |b::bs=>by
  rw[zr,ky,Jp bs];cases b<;>rfl
def cI (n:Nat) (F:List Bx->Option Bx) (fs:Ev->Option (List Bx)):Ev->Option Bx:=λρ=>(fs ρ).bind λbs=>if bs.length=n then F (bs.map lend) else none
theorem Sd (G:lB X.prog X.w X.K X.mg X.base Cd k f fd ps (spF X.K n F)) (hr:g8 k X.A) (hg:Gl X x) (hm:X.mg x=some (.ref f)) (hk:keepIn X.K (.ref f)=true) (hb:Binds X.K fd ps []) (ha:UW X (e::es) fs) (hdb:(x==("__debug__" : Str))=false:=by decide) (he:starEach (e::es) X.env=(false,eval e X.env)::starEach es X.env:=by rfl) (hpl:(backTo pos (starEach es X.env)).any (·.1)=false:=by rfl):QV X (.Call (.Name x p) (e::es) [] pos) (cI n F fs):=⟨have ha:=ha.run;FP (Jc G hr hg hm hk hb .nil (acO) ha hdb he hpl) λσ H Q h=>by
 obtain⟨H0,ρ,r,E,e,q⟩:=h;obtain⟨bs,eb,e⟩:=bind_some e;refine⟨H0,ρ,bs,E,eb,λvs H1 s1 r1=>?_⟩;split at e
 ·rename_i hn;rw[QY];exact⟨by rw[<-Paired.length r1];exact hn,_,r,Cw r1,Jp bs,e,λv H2 s2 n2 r2=>q v H2 (s1.trans s2) (n2.old s1) r2⟩
 ·cases e⟩
end
end P1
variable {b:P1.Bx} {d:P1.Dt} {F:List P1.Bx->Option P1.Bx} {G:Addr->List (L2.Key×P1.Dt)->List P1.Bx->Option (List (L2.Key×P1.Dt))} {f:P1.Ev->Option P1.Bx} {q:P1.Ev->Option Bool} {g:P1.Ev->Option P1.Out} {p:P1.Ev->Option Bool} {kvs:List (L2.Key×P1.Dt)} {ds:List P1.Dt} {fa:P1.Ev->Option P1.Bx} {ρ:P1.Ev} {fb fc:P1.Ev->Option P1.Bx} {gt:P1.Dt->P1.Ev->Option P1.Ev} {gb:P1.Ev->Option P1.Out} {fi:P1.Ev->Option (List P1.Dt)} {fe:P1.Ev->Option P1.Bx} {Ac:Addr->L2.Hp->List P1.Dt->L2.HO->Prop} {fk fo fv f1:P1.Ev->Option P1.Bx} {gx:P1.Ev->Option P1.Dt} {gO b_1:P1.Bx}
namespace P1
open L2 SeqAt
open AutoSeq1 (wpAny_loadPart')
def Gd (h:Heap) (a:Addr):Prop:=∃ o ep,h.get? a=some o/\o.ExactDict/\o.data=.dict #[] ep
section
variable {b:Addr}
theorem w6 {kvs:List (Key×V)} {vs:List (Key×Value)} (q:kvs=[]) (r:KV kvs vs) (d:h.DictOf (bx P w) a vs):Gd h a:=by
 subst q;cases r;obtain⟨o,es,ep,h1,h2,h3,_,h5,_⟩:=d;have:es=#[]:=by
  have:=h5.length;apply Array.eq_empty_of_size_eq_zero;simpa using this
 subst this;exact⟨o,ep,h1,h2,h3⟩
theorem Gd.dict (P:Program) (w:World) (x:Gd h a):h.DictOf (strKind P w) a []:=by
 obtain⟨o,ep,h1,h2,h3⟩:=x;exact⟨o,#[],ep,h1,h2,h3,λe he=>by simp at he,.nil,ya⟩
theorem acT (ha:(a==sysModules)=false) (hb:(b==sysModules)=false) (da:Gd s.heap a) (db:Gd s.heap b) (hu:A.units < cLine):RcAt A s (.ref a) (.ref b) true:=λprog w E Q h=>
 PySem.W.keq_eq (knd:=strKind prog w) ha hb (da.dict prog w) (db.dict prog w) hu (λ_=>.nil) h
theorem agC (ha:(a==sysModules)=false) (hb:(b==sysModules)=false) (da:Gd s.heap a) (db:Gd s.heap b) (hu:A.units < cLine):RcNeAt A s (.ref a) (.ref b) false:=λprog w E Q h=>
 PySem.W.keq_ne (r:=true) (knd:=strKind prog w) ha hb (da.dict prog w) (db.dict prog w) hu (λ_=>.nil) h
theorem Lz (o:Obj) (b:Str) (u:Tok):Meets (Builtin.«dict.__eq__» ⟨[.ref a,.str b u],[]⟩) (λ_ R s=>(s.heap.get? a=some o/\o.cls=.type "dict")/\R (.ok (.ret .notImplemented)) s):=
 .of_wp λprog w A R s h=>by
  have ht:s.TypeIs (.ref a) "dict" := ⟨o,h.1.1,h.1.2⟩;show wpAny _ _ (Builtin.Dict.dictSlotArgs "__eq__" ⟨[.ref a,.str b u],[]⟩ >>= _) _ _ s;refine zb ?_;unfold Builtin.Dict.dictSlotArgs;refine zb (wpAny_notOrdered_dict ht ?_);show wpAny _ _ (pure (Value.ref a,Value.str b u)) _ _ s;refine ze ?_;refine zb (JE (T := "str") (typeIs_str s b u) PySem.F.sub_str_dict ?_);simp only[Kb,qS];refine zb (kU ?_);exact ze ⟨_,rfl,h.2⟩
theorem LK (b:Str) (u:Tok) (es:Array DictEntry) (ep:Nat) (dd:Option Addr) (sl:Array (Option Value)):Meets (Builtin.«str.__eq__» ⟨[.str b u,.ref a],[]⟩) (λ_ R s=>s.heap.get? a=some { cls:=.type "dict", dict:=dd,data:=.dict es ep,slots:=sl }/\R (.ok (.ret .notImplemented)) s):=
 .of_wp λprog w A R s h=>by obtain⟨hp,g,d,tk,os⟩:=s;obtain⟨hl,h⟩:=h;wp_walk using wpAny_loadPart' hl,KB hl;exact⟨_,rfl,h⟩
theorem Hq (x:Str) (t:Tok) (d:Gd s.heap a) (hu:A.units < cLine):RcAt A s (.str x t) (.ref a) false:=λprog w E Q h=>by
 obtain⟨⟨cls,dd,data,sl⟩,ep,ho,⟨hc,hd,hs⟩,he⟩:=d;simp only at hc he;subst hc he;exact rc_eq_decline_or (k:=false) (typeIs_str s x t) ⟨_,ho,rfl⟩ (by decide) PySem.F.sub_dict_str PySem.F.slot_str_eq PySem.F.slot_dict_eq_refl
  (λ_ hq=>call_meets PySem.F.slot_str_eq (typeIs_str s x t) PySem.F.entry_str_eq (PySem.F.args_str_eq_2 _ _) (LK x t #[] ep dd sl) ⟨ho,hq⟩)
  (λ_ hq=>call_meets PySem.F.slot_dict_eq_refl ⟨_,ho,rfl⟩ PySem.F.entry_dict_eq (PySem.F.args_dict_eq_2 _ _) (Lz _ x t) ⟨⟨ho,rfl⟩,hq⟩)
  (λ_ hq=>yi (rfl:isSame (.str x t) (.ref a)=pure false) hq) (.inr hu) h
theorem LQ (o:Obj) (b:Str) (u:Tok):Meets (Builtin.«dict.__ne__» ⟨[.ref a,.str b u],[]⟩) (λ_ R s=>(s.heap.get? a=some o/\o.cls=.type "dict")/\R (.ok (.ret .notImplemented)) s):=
 .of_wp λprog w A R s h=>by
  have ht:s.TypeIs (.ref a) "dict" := ⟨o,h.1.1,h.1.2⟩;show wpAny _ _ (Builtin.Dict.dictSlotArgs "__ne__" ⟨[.ref a,.str b u],[]⟩ >>= _) _ _ s;refine zb ?_;unfold Builtin.Dict.dictSlotArgs;refine zb (wpAny_notOrdered_dict ht ?_);show wpAny _ _ (pure (Value.ref a,Value.str b u)) _ _ s;refine ze ?_;refine zb (JE (T := "str") (typeIs_str s b u) PySem.F.sub_str_dict ?_);simp only[Kb,qS];refine zb (kU ?_);exact ze ⟨_,rfl,h.2⟩
theorem LR (b:Str) (u:Tok) (es:Array DictEntry) (ep:Nat) (dd:Option Addr) (sl:Array (Option Value)):Meets (Builtin.«str.__ne__» ⟨[.str b u,.ref a],[]⟩) (λ_ R s=>s.heap.get? a=some { cls:=.type "dict", dict:=dd,data:=.dict es ep,slots:=sl }/\R (.ok (.ret .notImplemented)) s):=
 .of_wp λprog w A R s h=>by obtain⟨hp,g,d,tk,os⟩:=s;obtain⟨hl,h⟩:=h;wp_walk using wpAny_loadPart' hl,KB hl;exact⟨_,rfl,h⟩
theorem U6 (x:Str) (t:Tok) (d:Gd s.heap a) (hu:A.units < cLine):RcNeAt A s (.str x t) (.ref a) true:=λprog w E Q h=>by
 obtain⟨⟨cls,dd,data,sl⟩,ep,ho,⟨hc,hd,hs⟩,he⟩:=d;simp only at hc he;subst hc he;exact rc_ne_decline_or (k:=false) (typeIs_str s x t) ⟨_,ho,rfl⟩ (by decide) PySem.F.sub_dict_str PySem.F.slot_str_ne PySem.F.slot_dict_ne_refl
  (λ_ hq=>call_meets PySem.F.slot_str_ne (typeIs_str s x t) PySem.F.entry_str_ne (PySem.F.args_str_ne_2 _ _) (LR x t #[] ep dd sl) ⟨ho,hq⟩)
  (λ_ hq=>call_meets PySem.F.slot_dict_ne_refl ⟨_,ho,rfl⟩ PySem.F.entry_dict_ne (PySem.F.args_dict_ne_2 _ _) (LQ _ x t) ⟨⟨ho,rfl⟩,hq⟩)
  (λ_ hq=>yi (rfl:isSame (.str x t) (.ref a)=pure false) hq) (.inr hu) h
theorem U7 (x:Str) (t:Tok) (d:Gd s.heap a) (hu:A.units < cLine):EqAt A s (.str x t) (.ref a) false:=λprog w E Q h=>by
 unfold eqBool;refine qo ?_;refine wpAny_ite_split (λhab=>absurd (eq_of_beq hab) nofun) (λ_=>?_);exact zb (Hq x t d hu prog w E _ (Q1 h))
end
mutual
def uM:Dt->Nat
 |.tup xs=>oJ xs+1
 |.lst xs=>oJ xs+1
 |_=>1
def oJ:List Dt->Nat
 |[]=>0
 |d::ds=>max (uM d) (oJ ds)
end
mutual
def xg:Dt->Dt->Option Bool
 |.non,.non=>some true
 |.non,.bl _=>some false|.non,.int _=>some false|.non,.str _=>some false|.non,.tup _=>some false|.non,.lst _=>some false
 |.bl a,.bl b=>some (a==b)
 |.bl a,.int b=>some ((if a then 1 else 0)==b)
 |.bl _,.non=>some false|.bl _,.str _=>some false|.bl _,.tup _=>some false|.bl _,.lst _=>some false
 |.int a,.int b=>some (a==b)
 |.int a,.bl b=>some (a==(if b then 1 else 0))
 |.int _,.non=>some false|.int _,.str _=>some false|.int _,.tup _=>some false|.int _,.lst _=>some false
 |.str a,.str b=>some (a==b)
 |.str _,.non=>some false|.str _,.bl _=>some false|.str _,.int _=>some false|.str _,.tup _=>some false|.str _,.lst _=>some false|.str _,.emp=>some false
 |.tup xs,.tup ys=>jV xs ys
 |.tup _,.non=>some false|.tup _,.bl _=>some false|.tup _,.int _=>some false|.tup _,.str _=>some false|.tup _,.lst _=>some false
 |.lst xs,.lst ys=>jV xs ys
 |.emp,.emp=>some true
 |.lst _,.non=>some false|.lst _,.bl _=>some false|.lst _,.int _=>some false|.lst _,.str _=>some false|.lst _,.tup _=>some false
 |_,_=>none
def jV:List Dt->List Dt->Option Bool
 |[],[]=>some true
 |[],_::_=>some false
 |_::_,[]=>some false
 |x::xs,y::ys=>match xg x y with
  |some b=>match jV xs ys with
   |some c=>some (b&&c)
   |none=>none
  |none=>none
end
mutual
theorem Ma:∀ {d:Dt} {k:Bool},xg d d=some k->k=true
 |.non,_,e=>by cases e;rfl
 |.bl b,_,e=>by cases e;simp
 |.int b,_,e=>by cases e;simp
 |.str b,_,e=>by cases e;simp
 |.tup xs,_,e=>yQ (ds:=xs) e
 |.lst xs,_,e=>yQ (ds:=xs) e
 |.emp,_,e=>by cases e;rfl
theorem yQ:∀ {ds:List Dt} {k:Bool},jV ds ds=some k->k=true
 |[],_,e=>by simp only[jV] at e;cases e;rfl
 |d::ds,_,e=>by
  simp only[jV] at e;cases h:xg d d with
  |none=>rw[h] at e;cases e
  |some b=>
   rw[h] at e;simp only at e;cases h2:jV ds ds with
   |none=>rw[h2] at e;cases e
   |some c=>
    rw[h2] at e;cases e;rw[Ma h,yQ h2];rfl
end
theorem Bf (xs ys:List Dt):xg (.tup xs) (.tup ys)=jV xs ys:=rfl
theorem tL:∀ {xs ys:List Dt} {k:Bool},jV xs ys=some k->∃ e:Nat->Bool,(∀ (j:Nat) x y,xs[j]?=some x->ys[j]?=some y->xg x y=some (e j))/\k=((List.range (min xs.length ys.length)).all e&&xs.length==ys.length)
 |[],[],k,h=>by simp only[jV] at h;cases h;exact⟨λ_=>true,λj x y e=>by simp at e,by simp⟩
 |[],y::ys,k,h=>by simp only[jV] at h;cases h;exact⟨λ_=>true,λj x y e=>by simp at e,by simp⟩
 |x::xs,[],k,h=>by simp only[jV] at h;cases h;exact⟨λ_=>true,λj x y _ e=>by simp at e,by simp⟩
 |x::xs,y::ys,k,h=>by
  simp only[jV] at h;cases h1:xg x y with
  |none=>rw[h1] at h;cases h
  |some b=>
   rw[h1] at h;simp only at h;cases h2:jV xs ys with
   |none=>rw[h2] at h;cases h
   |some c=>
    rw[h2] at h;cases h;obtain⟨e,g,hc⟩:=tL h2;refine⟨λj=>match j with|0=>b|j+1=>e j,λj u v eu ev=>?_,?_⟩
    ·cases j with
     |zero=>simp at eu ev;subst eu ev;exact h1
     |succ j=>exact g j u v (by simpa using eu) (by simpa using ev)
    ·have:min (x::xs).length (y::ys).length=min xs.length ys.length+1:=by simp only[QE];omega
     rw[this,List.range_succ_eq_map,ky,List.all_map,hc];have hb:((x::xs).length==(y::ys).length)=(xs.length==ys.length):=by
      rw[KS];simp
     rw[hb,Bool.and_assoc];rfl
theorem tM:∀ {ds:List Dt} {j:Nat} {d:Dt},ds[j]?=some d->uM d<=oJ ds
 |[],_,_,e=>by simp at e
 |d::ds,0,_,e=>by simp at e;subst e;simp only[oJ];exact Nat.le_max_left _ _
 |d::ds,j+1,_,e=>by
  simp only[oJ];exact Zp (tM (ds:=ds) (j:=j) (by simpa using e)) (Nat.le_max_right _ _)
theorem Bg (I:L2.Inv X pins σ H s) (h:wL X.K H a vs):∃ ob,s.heap.get? a=some ob/\ob.cls=.type "tuple" := by
 obtain⟨its,_,⟨ob,e,c,_⟩,_⟩:=I.tuple h;exact⟨ob,e,c⟩
theorem Bh (I:L2.Inv X pins σ H s) (h:sW X.K H a vs):∃ ob,s.heap.get? a=some ob/\ob.cls=.type "list" := by
 obtain⟨its,_,⟨ob,n,e,c,_⟩,_⟩:=I.list h;exact⟨ob,e,c⟩
theorem oN (I:L2.Inv X pins σ H s) {o:Obj} (h:H a=some (.qM o (.dK []))):∃ ob,s.heap.get? a=some ob/\ob.cls=.type "dict" := by
 obtain⟨e,_,_,vs,_,ob,es,ep,e2,ex,_⟩:=I.hok a _ h;exact⟨ob,e2,ex.1⟩
theorem yR {n m:String} (h:∃ ob,s.heap.get? a=some ob/\ob.cls=.type n) (q:∃ ob,s.heap.get? a=some ob/\ob.cls=.type m) (hn:n≠m):False:=by
 obtain⟨o,e,c⟩:=h;obtain⟨o',e',c'⟩:=q;rw[e] at e';cases e';rw[c] at c';exact hn (by injection c')
mutual
theorem Rep.inj (I:L2.Inv X pins σ H s):∀ {d e:Dt} {v:V},Rep X.K H d v->Rep X.K H e v->d=e
 |.non,e,v,h,q=>by
  simp only[Rep] at h;subst h;cases e<;>simp only[Rep] at q<;>first|rfl|(cases q;done)|(obtain⟨a,b,z,_⟩:=q;cases z;done)|(obtain⟨z,_⟩:=q;cases z;done)
 |.bl _,e,v,h,q=>by
  simp only[Rep] at h;subst h;cases e<;>simp only[Rep] at q<;>first|(cases q;rfl)|(cases q;done)|(obtain⟨a,b,z,_⟩:=q;cases z;done)|(obtain⟨z,_⟩:=q;cases z;done)
 |.int _,e,v,h,q=>by
  simp only[Rep] at h;subst h;cases e<;>simp only[Rep] at q<;>first|(cases q;rfl)|(cases q;done)|(obtain⟨a,b,z,_⟩:=q;cases z;done)|(obtain⟨z,_⟩:=q;cases z;done)
 |.str x,e,v,h,q=>by
  simp only[Rep] at h;have hv:v=.str x:=h.1;subst hv;cases e with
  |str y=>
   simp only[Rep] at q;have z:V.str x=V.str y:=q.1;injection z with z;rw[z]
  |tup es=>simp only[Rep] at q;obtain⟨a,b,z,_⟩:=q;cases z
  |lst es=>simp only[Rep] at q;obtain⟨a,b,z,_⟩:=q;cases z
  |emp=>simp only[Rep] at q;obtain⟨a,b,z,_⟩:=q;cases z
  |_=>simp only[Rep] at q;cases q
 |.tup ds,e,v,h,q=>by
  simp only[Rep] at h;obtain⟨a,vs,rfl,sq,r⟩:=h;cases e with
  |tup es=>
   simp only[Rep] at q;obtain⟨b,us,z,Qm,r'⟩:=q;cases z;have:=I.G3 sq Qm;subst this;rw[aO.inj I r r']
  |lst es=>
   simp only[Rep] at q;obtain⟨b,us,z,Qm,r'⟩:=q;cases z;exact(yR (Bg I sq) (Bh I Qm.sq) (by decide)).elim
  |emp=>
   simp only[Rep] at q;obtain⟨b,o,z,Qm⟩:=q;cases z;exact(yR (Bg I sq) (oN I Qm) (by decide)).elim
  |str x=>simp only[Rep] at q;have z:=q.1;cases z
  |_=>simp only[Rep] at q;cases q
 |.lst ds,e,v,h,q=>by
  simp only[Rep] at h;obtain⟨a,vs,rfl,sq,r⟩:=h;cases e with
  |lst es=>
   simp only[Rep] at q;obtain⟨b,us,z,Qm,r'⟩:=q;cases z;have:=I.K6 sq.sq Qm.sq;subst this;rw[aO.inj I r r']
  |tup es=>
   simp only[Rep] at q;obtain⟨b,us,z,Qm,r'⟩:=q;cases z;exact(yR (Bh I sq.sq) (Bg I Qm) (by decide)).elim
  |emp=>
   simp only[Rep] at q;obtain⟨b,o,z,Qm⟩:=q;cases z;exact(yR (Bh I sq.sq) (oN I Qm) (by decide)).elim
  |str x=>simp only[Rep] at q;have z:=q.1;cases z
  |_=>simp only[Rep] at q;cases q
 |.emp,e,v,h,q=>by
  simp only[Rep] at h;obtain⟨a,o,rfl,sq⟩:=h;cases e with
  |emp=>rfl
  |tup es=>
   simp only[Rep] at q;obtain⟨b,us,z,Qm,r'⟩:=q;cases z;exact(yR (oN I sq) (Bg I Qm) (by decide)).elim
  |lst es=>
   simp only[Rep] at q;obtain⟨b,us,z,Qm,r'⟩:=q;cases z;exact(yR (oN I sq) (Bh I Qm.sq) (by decide)).elim
  |str x=>simp only[Rep] at q;have z:=q.1;cases z
  |_=>simp only[Rep] at q;cases q
theorem aO.inj (I:L2.Inv X pins σ H s):∀ {ds es:List Dt} {vs:List V},aO X.K H ds vs->aO X.K H es vs->ds=es
 |[],es,vs,h,q=>by
  simp only[aO] at h;subst h;cases es with
  |nil=>rfl
  |cons e es=>simp only[aO] at q;obtain⟨_,_,z,_⟩:=q;cases z
 |d::ds,es,vs,h,q=>by
  simp only[aO] at h;obtain⟨v,r,rfl,h1,h2⟩:=h;cases es with
  |nil=>simp only[aO] at q;cases q
  |cons e es=>
   simp only[aO] at q;obtain⟨v',r',z,q1,q2⟩:=q;cases z;rw[Rep.inj I h1 q1,aO.inj I h2 q2]
end
theorem acU (I:L2.Inv X pins σ H s):∀ (n:Nat) {A:Around} {d e:Dt} {x y:V} {u v:Value} {k:Bool},min (uM d) (uM e)<=n->A.units+n < cLine->Rep X.K H d x->Rep X.K H e y->RelV x u->RelV y v->xg d e=some k->EqAt A s u v k:=by
 intro n
 induction n with
 |zero=>
  intro A d e x y u v k hn;have h1:1<=uM d:=by cases d<;>simp only[uM]<;>omega
  have h2:1<=uM e:=by cases e<;>simp only[uM]<;>omega
  omega
 |succ n ih=>
  intro A d e x y u v k hn hA rd re ru rv ek;have hu:A.units < cLine:=by omega
  by_cases hxy:u=v/\∃ a,u=.ref a
  ·obtain⟨rfl,a,rfl⟩:=hxy;have hx:x=.ref a:=by have:=ru.abs;simpa[adC] using this.symm
   have hy:y=.ref a:=by have:=rv.abs;simpa[adC] using this.symm
   subst hx hy;have:=Rep.inj I rd re;subst this;rw[Ma ek];exact EqAt.same _
  ·have items:∀ {ds es:List Dt} {vs us:List V} {its its2:List Value} {f:Nat->Bool},min (oJ ds) (oJ es)<=n->aO X.K H ds vs->aO X.K H es us->Vals vs its->Vals us its2->(∀ (j:Nat) x y,ds[j]?=some x->es[j]?=some y->xg x y=some (f j)) →
     ∀ j (h1:j < its.toArray.size) (h2:j < its2.toArray.size),EqAt A.in1 s its.toArray[j] its2.toArray[j] (f j):=by
    intro ds es vs us its its2 f hm r1 r2 w1 w2 hf j h1 h2;have l1:=w1.length;have l2:=w2.length;have l3:=r1.length;have l4:=r2.length;have j1:j < its.length:=by simpa using h1
    have j2:j < its2.length:=by simpa using h2
    have d1:ds[j]?=some ds[j]:=by simp
    have d2:es[j]?=some es[j]:=by simp
    obtain⟨a,ea,ra⟩:=r1.get d1;obtain⟨b,eb,rb⟩:=r2.get d2;obtain⟨p,ep,rp⟩:=w1.get ea;obtain⟨q,eq,rq⟩:=w2.get eb;have e1:its.toArray[j]=p:=by simpa[j1] using ep
    have e2:its2.toArray[j]=q:=by simpa[j2] using eq
    rw[e1,e2];have m1:=tM d1;have m2:=tM d2;exact ih (by omega) (by rw[units_in1];omega) ra rb rp rq (hf j _ _ d1 d2)
   cases d with
   |non=>
    cases rd;cases ru;cases e with
    |non=>cases re;cases rv;cases ek;exact EqAt.same _
    |bl b=>cases re;cases rv;cases ek;exact EqAt.none_bool b
    |int b=>cases re;obtain⟨t,rfl⟩:=rv;cases ek;exact EqAt.none_int b t
    |str b=>obtain⟨rfl,_⟩:=re;obtain⟨t,rfl⟩:=rv;cases ek;exact EqAt.none_str b t
    |tup es=>obtain⟨b,us,rfl,sq,_⟩:=re;cases rv;cases ek;obtain⟨_,_,p,_⟩:=I.tuple sq;exact EqAt.none_tuple p hu
    |lst es=>obtain⟨b,us,rfl,sq,_⟩:=re;cases rv;cases ek;obtain⟨_,_,p,_⟩:=I.list sq.sq;exact EqAt.none_list p.isList hu
    |emp=>cases ek
   |bl a=>
    cases rd;cases ru;cases e with
    |non=>cases re;cases rv;cases ek;exact EqAt.bool_none a
    |bl b=>cases re;cases rv;cases ek;exact EqAt.bool_bool a b
    |int b=>cases re;obtain⟨t,rfl⟩:=rv;cases ek;exact EqAt.bool_int a b t
    |str b=>obtain⟨rfl,_⟩:=re;obtain⟨t,rfl⟩:=rv;cases ek;exact EqAt.bool_str a b t
    |tup es=>obtain⟨b,us,rfl,sq,_⟩:=re;cases rv;cases ek;obtain⟨_,_,p,_⟩:=I.tuple sq;exact EqAt.bool_tuple a p hu
    |lst es=>obtain⟨b,us,rfl,sq,_⟩:=re;cases rv;cases ek;obtain⟨_,_,p,_⟩:=I.list sq.sq;exact EqAt.bool_list a p.isList hu
    |emp=>cases ek
   |int a=>
    cases rd;obtain⟨t',rfl⟩:=ru;cases e with
    |non=>cases re;cases rv;cases ek;exact EqAt.int_none a t'
    |bl b=>cases re;cases rv;cases ek;exact EqAt.int_bool a t' b
    |int b=>cases re;obtain⟨t,rfl⟩:=rv;cases ek;exact EqAt.int_int a t' b t
    |str b=>obtain⟨rfl,_⟩:=re;obtain⟨t,rfl⟩:=rv;cases ek;exact EqAt.int_str a t' b t
    |tup es=>obtain⟨b,us,rfl,sq,_⟩:=re;cases rv;cases ek;obtain⟨_,_,p,_⟩:=I.tuple sq;exact EqAt.int_tuple a t' p hu
    |lst es=>obtain⟨b,us,rfl,sq,_⟩:=re;cases rv;cases ek;obtain⟨_,_,p,_⟩:=I.list sq.sq;exact EqAt.int_list a t' p.isList hu
    |emp=>cases ek
   |str a=>
    obtain⟨rfl,_⟩:=rd;obtain⟨t',rfl⟩:=ru;cases e with
    |non=>cases re;cases rv;cases ek;exact EqAt.str_none a t'
    |bl b=>cases re;cases rv;cases ek;exact EqAt.str_bool a t' b
    |int b=>cases re;obtain⟨t,rfl⟩:=rv;cases ek;exact EqAt.str_int a t' b t
    |str b=>obtain⟨rfl,_⟩:=re;obtain⟨t,rfl⟩:=rv;cases ek;exact EqAt.str_str a t' b t
    |tup es=>obtain⟨b,us,rfl,sq,_⟩:=re;cases rv;cases ek;obtain⟨_,_,p,_⟩:=I.tuple sq;exact EqAt.str_tuple a t' p hu
    |lst es=>obtain⟨b,us,rfl,sq,_⟩:=re;cases rv;cases ek;obtain⟨_,_,p,_⟩:=I.list sq.sq;exact EqAt.str_list a t' p.isList hu
    |emp=>
     simp only[Rep] at re;obtain⟨p,o,rfl,e⟩:=re;cases rv;cases ek;obtain⟨_,_,vs,r,q⟩:=tB I.hok (.inr ⟨o,e⟩);exact U7 a t' (w6 rfl r q) hu
   |tup ds=>
    obtain⟨a,vs,rfl,sa,ra⟩:=rd;cases ru;obtain⟨its,wv,p,_⟩:=I.tuple sa;cases e with
    |non=>cases re;cases rv;cases ek;exact EqAt.tuple_none p hu
    |bl b=>cases re;cases rv;cases ek;exact EqAt.tuple_bool b p hu
    |int b=>cases re;obtain⟨t,rfl⟩:=rv;cases ek;exact EqAt.tuple_int b t p hu
    |str b=>obtain⟨rfl,_⟩:=re;obtain⟨t,rfl⟩:=rv;cases ek;exact EqAt.tuple_str b t p hu
    |lst es=>obtain⟨b,us,rfl,sq,_⟩:=re;cases rv;cases ek;obtain⟨_,_,p2,_⟩:=I.list sq.sq;exact EqAt.tuple_list p p2.isList hu
    |tup es=>
     obtain⟨b,us,rfl,sb,rb⟩:=re;cases rv;obtain⟨its2,wu,p2,_⟩:=I.tuple sb;change jV _ _=some _ at ek;obtain⟨f,hf,rfl⟩:=tL ek;have hne:a≠b:=λz=>hxy ⟨by rw[z],a,rfl⟩;have z:=EqAt.of_refs hne (RcAt.tuples (A:=A) (e:=f) p p2 hu (items (by simp only[uM] at hn;omega) ra rb wv wu hf));have q1:its.toArray.size=ds.length:=by rw[zz,<-wv.length,ra.length]
     have q2:its2.toArray.size=es.length:=by rw[zz,<-wu.length,rb.length]
     rw[q1,q2] at z;exact z
    |emp=>cases ek
   |lst ds=>
    obtain⟨a,vs,rfl,sa,ra⟩:=rd;cases ru;obtain⟨its,wv,p,_⟩:=I.list sa.sq;cases e with
    |non=>cases re;cases rv;cases ek;exact EqAt.list_none p.isList hu
    |bl b=>cases re;cases rv;cases ek;exact EqAt.list_bool b p.isList hu
    |int b=>cases re;obtain⟨t,rfl⟩:=rv;cases ek;exact EqAt.list_int b t p.isList hu
    |str b=>obtain⟨rfl,_⟩:=re;obtain⟨t,rfl⟩:=rv;cases ek;exact EqAt.list_str b t p.isList hu
    |tup es=>obtain⟨b,us,rfl,sq,_⟩:=re;cases rv;cases ek;obtain⟨_,_,p2,_⟩:=I.tuple sq;exact EqAt.list_tuple p.isList p2 hu
    |lst es=>
     obtain⟨b,us,rfl,sb,rb⟩:=re;cases rv;obtain⟨its2,wu,p2,_⟩:=I.list sb.sq;change jV _ _=some _ at ek;obtain⟨f,hf,rfl⟩:=tL ek;have hne:a≠b:=λz=>hxy ⟨by rw[z],a,rfl⟩;have q1:its.toArray.size=ds.length:=by rw[zz,<-wv.length,ra.length]
     have q2:its2.toArray.size=es.length:=by rw[zz,<-wu.length,rb.length]
     by_cases hsz:its.toArray.size=its2.toArray.size
     ·have z:=EqAt.of_refs hne (RcAt.lists (A:=A) (e:=f) p.isList p2.isList hsz hu (items (by simp only[uM] at hn;omega) ra rb wv wu hf));have hl:ds.length=es.length:=by omega
      rw[q1] at z;rw[hl,Nat.min_self,beq_self_eq_true,KG,<-hl];exact z
     ·have hl:(ds.length==es.length)=false:=by rw[beq_eq_false_iff_ne];omega
      rw[hl,kD];exact EqAt.of_refs hne (RcAt.lists_lengths p.isList p2.isList (by simpa using hsz) hu)
    |emp=>cases ek
   |emp=>
    cases e<;>first|(cases ek;done)|skip;simp only[Rep] at rd re;obtain⟨a,o,rfl,e1⟩:=rd;obtain⟨b,o',rfl,e2⟩:=re;cases ru;cases rv;cases ek;obtain⟨_,m1,vs,r,q⟩:=tB I.hok (.inr ⟨o,e1⟩);obtain⟨_,m2,vs',r',q'⟩:=tB I.hok (.inr ⟨o',e2⟩);exact EqAt.of_refs (λz=>hxy ⟨by rw[z],a,rfl⟩) (acT m1 m2 (w6 rfl r q) (w6 rfl r' q') hu)
theorem Mf (I:L2.Inv X pins σ H s) {es:List Dt} {us:List V} {its2:List Value} {f:Nat->Bool} (hm:min (oJ ds) (oJ es)<=n) (hA:A.units+n+1 < cLine) (r1:aO X.K H ds vs) (r2:aO X.K H es us) (w1:Vals vs its) (w2:Vals us its2) (hf:∀ (j:Nat) x y,ds[j]?=some x->es[j]?=some y->xg x y=some (f j)):∀ j (h1:j < its.toArray.size) (h2:j < its2.toArray.size),EqAt A.in1 s its.toArray[j] its2.toArray[j] (f j):=by
 intro j h1 h2;have l1:=w1.length;have l2:=w2.length;have l3:=r1.length;have l4:=r2.length;have j1:j < its.length:=by simpa using h1
 have j2:j < its2.length:=by simpa using h2
 have d1:ds[j]?=some (ds[j]'(by omega)):=by simp
 have d2:es[j]?=some (es[j]'(by omega)):=by simp
 obtain⟨a,ea,ra⟩:=r1.get d1;obtain⟨b,eb,rb⟩:=r2.get d2;obtain⟨p,ep,rp⟩:=w1.get ea;obtain⟨q,eq,rq⟩:=w2.get eb;have e1:its.toArray[j]=p:=by simpa[j1] using ep
 have e2:its2.toArray[j]=q:=by simpa[j2] using eq
 rw[e1,e2];have m1:=tM d1;have m2:=tM d2;exact acU I n (by omega) (by rw[units_in1];omega) ra rb rp rq (hf j _ _ d1 d2)
def gU (K:FG_) (H:Hp):Dt->V->Prop
 |.lst ds,v=>∃ a vs,v=.ref a/\sW K H a vs/\aO K H ds vs
 |d,v=>Rep K H d v
def jW:Bx->Bool
 |.n _=>true
 |.m _ _=>true
 |_=>false
def toD:Bx->Dt
 |.z d=>d
 |.l ds=>.lst ds
 |.o ds=>.lst ds
 |.n _=>.non
 |.m _ _=>.non
theorem bA.toD {v:V} (h:bA K H b v) (hm:jW b=false):gU K H (toD b) v:=by
 cases b with
 |z d=>
  cases d with
  |lst ds=>exact h.Hh rfl
  |_=>exact h
 |l ds=>exact h.Hh rfl
 |o ds=>exact h.Hh rfl
 |n _=>cases hm
 |m _ _=>cases hm
theorem Sg (I:L2.Inv X pins σ H s) {e:Dt} {x:V} {k:Bool} (hm:min (uM d) (uM e)<=100) (hA:X.A.units+100 < cLine) (rd:gU X.K H d x) (re:gU X.K H e y) (ru:RelV x u) (rv:RelV y v) (ek:xg d e=some k):RcAt X.A s u v k/\RcNeAt X.A s u v (!k):=by
 have hu:X.A.units < cLine:=by omega
 cases d with
 |non=>
  cases rd;cases ru;cases e with
  |non=>
   cases re;cases rv;cases ek;exact⟨.none_none,.none_none⟩
  |bl x2=>
   cases re;cases rv;cases ek;exact⟨.none_bool x2,.none_bool x2⟩
  |int x2=>
   cases re;obtain⟨t2,rfl⟩:=rv;cases ek;exact⟨.none_int x2 t2,.none_int x2 t2⟩
  |str x2=>
   obtain⟨rfl,_⟩:=re;obtain⟨t2,rfl⟩:=rv;cases ek;exact⟨.none_str x2 t2,.none_str x2 t2⟩
  |tup x2=>
   obtain⟨a2,vs2,rfl,Cy,Qn⟩:=re;cases rv;obtain⟨its2,w2,p2,_⟩:=I.tuple Cy;cases ek;exact⟨.none_tuple p2 hu,.none_tuple p2 hu⟩
  |lst x2=>
   obtain⟨a2,vs2,rfl,Cy,Qn⟩:=re;cases rv;obtain⟨its2,w2,p2,_⟩:=I.list Cy;cases ek;exact⟨.none_list p2.isList hu,.none_list p2.isList hu⟩
  |emp=>cases ek
 |bl x1=>
  cases rd;cases ru;cases e with
  |non=>
   cases re;cases rv;cases ek;exact⟨.bool_none x1,.bool_none x1⟩
  |bl x2=>
   cases re;cases rv;cases ek;exact⟨.bool_bool x1 x2,.bool_bool x1 x2⟩
  |int x2=>
   cases re;obtain⟨t2,rfl⟩:=rv;cases ek;exact⟨.bool_int x1 x2 t2,.bool_int x1 x2 t2⟩
  |str x2=>
   obtain⟨rfl,_⟩:=re;obtain⟨t2,rfl⟩:=rv;cases ek;exact⟨.bool_str x1 x2 t2,.bool_str x1 x2 t2⟩
  |tup x2=>
   obtain⟨a2,vs2,rfl,Cy,Qn⟩:=re;cases rv;obtain⟨its2,w2,p2,_⟩:=I.tuple Cy;cases ek;exact⟨.bool_tuple x1 p2 hu,.bool_tuple x1 p2 hu⟩
  |lst x2=>
   obtain⟨a2,vs2,rfl,Cy,Qn⟩:=re;cases rv;obtain⟨its2,w2,p2,_⟩:=I.list Cy;cases ek;exact⟨.bool_list x1 p2.isList hu,.bool_list x1 p2.isList hu⟩
  |emp=>cases ek
 |int x1=>
  cases rd;obtain⟨t1,rfl⟩:=ru;cases e with
  |non=>
   cases re;cases rv;cases ek;exact⟨.int_none x1 t1,.int_none x1 t1⟩
  |bl x2=>
   cases re;cases rv;cases ek;exact⟨.int_bool x1 t1 x2,.int_bool x1 t1 x2⟩
  |int x2=>
   cases re;obtain⟨t2,rfl⟩:=rv;cases ek;exact⟨.int_int x1 t1 x2 t2,.int_int x1 t1 x2 t2⟩
  |str x2=>
   obtain⟨rfl,_⟩:=re;obtain⟨t2,rfl⟩:=rv;cases ek;exact⟨.int_str x1 t1 x2 t2,.int_str x1 t1 x2 t2⟩
  |tup x2=>
   obtain⟨a2,vs2,rfl,Cy,Qn⟩:=re;cases rv;obtain⟨its2,w2,p2,_⟩:=I.tuple Cy;cases ek;exact⟨.int_tuple x1 t1 p2 hu,.int_tuple x1 t1 p2 hu⟩
  |lst x2=>
   obtain⟨a2,vs2,rfl,Cy,Qn⟩:=re;cases rv;obtain⟨its2,w2,p2,_⟩:=I.list Cy;cases ek;exact⟨.int_list x1 t1 p2.isList hu,.int_list x1 t1 p2.isList hu⟩
  |emp=>cases ek
 |str x1=>
  obtain⟨rfl,_⟩:=rd;obtain⟨t1,rfl⟩:=ru;cases e with
  |non=>
   cases re;cases rv;cases ek;exact⟨.str_none x1 t1,.str_none x1 t1⟩
  |bl x2=>
   cases re;cases rv;cases ek;exact⟨.str_bool x1 t1 x2,.str_bool x1 t1 x2⟩
  |int x2=>
   cases re;obtain⟨t2,rfl⟩:=rv;cases ek;exact⟨.str_int x1 t1 x2 t2,.str_int x1 t1 x2 t2⟩
  |str x2=>
   obtain⟨rfl,_⟩:=re;obtain⟨t2,rfl⟩:=rv;cases ek;exact⟨.str_str x1 t1 x2 t2,.str_str x1 t1 x2 t2⟩
  |tup x2=>
   obtain⟨a2,vs2,rfl,Cy,Qn⟩:=re;cases rv;obtain⟨its2,w2,p2,_⟩:=I.tuple Cy;cases ek;exact⟨.str_tuple x1 t1 p2 hu,.str_tuple x1 t1 p2 hu⟩
  |lst x2=>
   obtain⟨a2,vs2,rfl,Cy,Qn⟩:=re;cases rv;obtain⟨its2,w2,p2,_⟩:=I.list Cy;cases ek;exact⟨.str_list x1 t1 p2.isList hu,.str_list x1 t1 p2.isList hu⟩
  |emp=>
   simp only[gU,Rep] at re;obtain⟨p,o,rfl,e⟩:=re;cases rv;cases ek;obtain⟨_,_,vs,r,q⟩:=tB I.hok (.inr ⟨o,e⟩);exact⟨Hq x1 t1 (w6 rfl r q) hu,U6 x1 t1 (w6 rfl r q) hu⟩
 |tup x1=>
  obtain⟨a1,vs1,rfl,sq1,rr1⟩:=rd;cases ru;obtain⟨aaR,w1,p1,_⟩:=I.tuple sq1;cases e with
  |non=>
   cases re;cases rv;cases ek;exact⟨.tuple_none p1 hu,.tuple_none p1 hu⟩
  |bl x2=>
   cases re;cases rv;cases ek;exact⟨.tuple_bool x2 p1 hu,.tuple_bool x2 p1 hu⟩
  |int x2=>
   cases re;obtain⟨t2,rfl⟩:=rv;cases ek;exact⟨.tuple_int x2 t2 p1 hu,.tuple_int x2 t2 p1 hu⟩
  |str x2=>
   obtain⟨rfl,_⟩:=re;obtain⟨t2,rfl⟩:=rv;cases ek;exact⟨.tuple_str x2 t2 p1 hu,.tuple_str x2 t2 p1 hu⟩
  |tup x2=>
   obtain⟨a2,vs2,rfl,Cy,Qn⟩:=re;cases rv;obtain⟨its2,w2,p2,_⟩:=I.tuple Cy;change jV _ _=some _ at ek;obtain⟨f,hf,rfl⟩:=tL ek;have q1:aaR.toArray.size=x1.length:=by rw[zz,<-w1.length,rr1.length]
   have q2:its2.toArray.size=x2.length:=by rw[zz,<-w2.length,Qn.length]
   have it:=Mf I (n:=99) (A:=X.A) (by simp only[uM] at hm;omega) (by omega) rr1 Qn w1 w2 hf;rw[<-q1,<-q2];exact⟨.tuples p1 p2 hu it,.tuples p1 p2 hu it⟩
  |lst x2=>
   obtain⟨a2,vs2,rfl,Cy,Qn⟩:=re;cases rv;obtain⟨its2,w2,p2,_⟩:=I.list Cy;cases ek;exact⟨.tuple_list p1 p2.isList hu,.tuple_list p1 p2.isList hu⟩
  |emp=>cases ek
 |lst x1=>
  obtain⟨a1,vs1,rfl,sq1,rr1⟩:=rd;cases ru;obtain⟨aaR,w1,p1,_⟩:=I.list sq1;cases e with
  |non=>
   cases re;cases rv;cases ek;exact⟨.list_none p1.isList hu,.list_none p1.isList hu⟩
  |bl x2=>
   cases re;cases rv;cases ek;exact⟨.list_bool x2 p1.isList hu,.list_bool x2 p1.isList hu⟩
  |int x2=>
   cases re;obtain⟨t2,rfl⟩:=rv;cases ek;exact⟨.list_int x2 t2 p1.isList hu,.list_int x2 t2 p1.isList hu⟩
  |str x2=>
   obtain⟨rfl,_⟩:=re;obtain⟨t2,rfl⟩:=rv;cases ek;exact⟨.list_str x2 t2 p1.isList hu,.list_str x2 t2 p1.isList hu⟩
  |tup x2=>
   obtain⟨a2,vs2,rfl,Cy,Qn⟩:=re;cases rv;obtain⟨its2,w2,p2,_⟩:=I.tuple Cy;cases ek;exact⟨.list_tuple p1.isList p2 hu,.list_tuple p1.isList p2 hu⟩
  |lst x2=>
   obtain⟨a2,vs2,rfl,Cy,Qn⟩:=re;cases rv;obtain⟨its2,w2,p2,_⟩:=I.list Cy;change jV _ _=some _ at ek;obtain⟨f,hf,rfl⟩:=tL ek;have q1:aaR.toArray.size=x1.length:=by rw[zz,<-w1.length,rr1.length]
   have q2:its2.toArray.size=x2.length:=by rw[zz,<-w2.length,Qn.length]
   have it:=Mf I (n:=99) (A:=X.A) (by simp only[uM] at hm;omega) (by omega) rr1 Qn w1 w2 hf;by_cases hsz:aaR.toArray.size=its2.toArray.size
   ·have hl:x1.length=x2.length:=by omega
    rw[hl,Nat.min_self,beq_self_eq_true,KG,<-hl,<-q1];exact⟨.lists p1.isList p2.isList hsz hu it,.lists p1.isList p2.isList hsz hu it⟩
   ·have hl:(x1.length==x2.length)=false:=by rw[beq_eq_false_iff_ne];omega
    rw[hl,kD];exact⟨.lists_lengths p1.isList p2.isList (by simpa using hsz) hu,.lists_lengths p1.isList p2.isList (by simpa using hsz) hu⟩
  |emp=>cases ek
 |emp=>
  cases e<;>first|(cases ek;done)|skip;simp only[gU,Rep] at rd re;obtain⟨a,o,rfl,e1⟩:=rd;obtain⟨b,o',rfl,e2⟩:=re;cases ru;cases rv;cases ek;obtain⟨_,m1,vs,r,q⟩:=tB I.hok (.inr ⟨o,e1⟩);obtain⟨_,m2,vs',r',q'⟩:=tB I.hok (.inr ⟨o',e2⟩);exact⟨acT m1 m2 (w6 rfl r q) (w6 rfl r' q') hu,agC m1 m2 (w6 rfl r q) (w6 rfl r' q') hu⟩
def eqB (a b:Bx):Option Bx:=if jW a=true\/jW b=true then none else if min (uM (toD a)) (uM (toD b))<=100 then(xg (toD a) (toD b)).bind λk=>some (.z (.bl k)) else none
def Sh (a b:Bx):Option Bx:=if jW a=true\/jW b=true then none else if min (uM (toD a)) (uM (toD b))<=100 then(xg (toD a) (toD b)).bind λk=>some (.z (.bl (!k))) else none
theorem of_eq (hu:X.A.units+100 < cLine):Hi X (compareOp .Eq) eqB:=by
 intro pins s σ H x y v u Q I rx ry h;obtain⟨a,b,c,ra,rb,e,q⟩:=h;unfold eqB at e;split at e
 ·cases e
 rename_i hz;have ha:jW a=false:=by cases h:jW a with|false=>rfl|true=>exact absurd (.inl h) hz
 have hb:jW b=false:=by cases h:jW b with|false=>rfl|true=>exact absurd (.inr h) hz
 split at e
 ·rename_i hm;obtain⟨k,ek,e⟩:=bind_some e;cases e;exact(Sg I hm hu (ra.toD ha) (rb.toD hb) rx ry ek).1 X.prog X.w X.xe _ ⟨.bl k,H,I,rfl,q _ H (Same.refl H) trivial (by unfold bA Rep;rfl)⟩
 ·cases e
theorem Hr (hu:X.A.units+100 < cLine):Hi X (compareOp .NotEq) Sh:=by
 intro pins s σ H x y v u Q I rx ry h;obtain⟨a,b,c,ra,rb,e,q⟩:=h;unfold Sh at e;split at e
 ·cases e
 rename_i hz;have ha:jW a=false:=by cases h:jW a with|false=>rfl|true=>exact absurd (.inl h) hz
 have hb:jW b=false:=by cases h:jW b with|false=>rfl|true=>exact absurd (.inr h) hz
 split at e
 ·rename_i hm;obtain⟨k,ek,e⟩:=bind_some e;cases e;exact(Sg I hm hu (ra.toD ha) (rb.toD hb) rx ry ek).2 X.prog X.w X.xe _ ⟨.bl (!k),H,I,rfl,q _ H (Same.refl H) trivial (by unfold bA Rep;rfl)⟩
 ·cases e
theorem Cz {i:Int}:bA K H (.z (.int i)) (.int i):=by unfold bA Rep;rfl
theorem Qo {b:Bool}:bA K H (.z (.bl b)) (.bl b):=by unfold bA Rep;rfl
theorem aaS (h:x.length<=sizeLine):bA K H (.z (.str x)) (.str x):=by unfold bA Rep;exact⟨rfl,h⟩
theorem Jq {i:Int} {v:V} (h:bA K H (.z (.int i)) v):v=.int i:=by simpa only[bA,Rep] using h
theorem Px {v:V} (h:bA K H (.z (.str x)) v):v=.str x/\x.length<=sizeLine:=by simpa only[bA,Rep] using h
theorem inT {v:V} (h:bA K H (.z (.tup ds)) v):∃ a vs,v=.ref a/\wL K H a vs/\aO K H ds vs:=by simpa only[bA,Rep] using h
def i2 (g:Int->Int->Option Dt):Bx->Bx->Option Bx
 |.z (.int i),.z (.int j)=>(g i j).bind λd=>some (.z d)
 |_,_=>none
theorem CG {f:Value->Value->Sem Value} {r:R2} {g:Int->Int->Option Dt} (ho:wM X f r) (h:∀ i j d H Q,g i j=some d->(∀ v,Rep X.K H d v->Q v H)->r (.int i) (.int j) H Q):Hi X f (i2 g):=wM.imp ho λx y H Q q=>by
 obtain⟨a,b,c,ra,rb,e,q⟩:=q;unfold i2 at e;split at e
 ·rename_i i j;obtain⟨d,ed,e⟩:=bind_some e;cases e;rw[Jq ra,Jq rb];exact h i j d H Q ed λv rv=>q v H (Same.refl H) trivial rv
 ·cases e
theorem okI {i:Int}:Rep K H (.int i) (.int i):=by unfold Rep;rfl
theorem okT {b:Bool}:Rep K H (.bl b) (.bl b):=by unfold Rep;rfl
abbrev subB:=i2 λi j=>some (.int (i - j))
abbrev leB:=i2 λi j=>some (.bl (decide (i<=j)))
abbrev gtB:=i2 λi j=>some (.bl (decide (j < i)))
abbrev geB:=i2 λi j=>some (.bl (decide (j<=i)))
abbrev xu:=i2 λi j=>if 0 < j/\j < 1073741824 then some (.int (i / j)) else none
abbrev fM:=i2 λi j=>if 0 < j then some (.int (i % j)) else none
abbrev aem:=i2 λi j=>if 0<=j/\j<=1000/\i.natAbs < 2 ^ 64 then some (.int (i ^ j.toNat)) else none
theorem vV:Hi X (binaryOp .Sub) subB:=CG adK λi j d H Q e q=>by cases e;exact⟨i,j,rfl,rfl,q _ okI⟩
theorem of_le:Hi X (compareOp .LtE) leB:=CG aga λi j d H Q e q=>by cases e;exact⟨i,j,rfl,rfl,q _ okT⟩
theorem agF:Hi X (compareOp .Gt) gtB:=CG agb λi j d H Q e q=>by cases e;exact⟨i,j,rfl,rfl,q _ okT⟩
theorem acV:Hi X (compareOp .GtE) geB:=CG agc λi j d H Q e q=>by cases e;exact⟨i,j,rfl,rfl,q _ okT⟩
theorem qR:Hi X (binaryOp .FloorDiv) xu:=CG aaj λi j d H Q e q=>by
 split at e
 ·rename_i h;cases e;exact⟨i,j,rfl,rfl,h,q _ okI⟩
 ·cases e
theorem bT:Hi X (binaryOp .Mod) fM:=CG adM λi j d H Q e q=>by
 split at e
 ·rename_i h;cases e;exact⟨i,j,rfl,rfl,h,q _ okI⟩
 ·cases e
theorem aen:Hi X (binaryOp .Pow) aem:=CG adN λi j d H Q e q=>by
 split at e
 ·rename_i h;cases e;exact⟨i,j,rfl,rfl,⟨h.1,by omega,h.2.2⟩,q _ okI⟩
 ·cases e
def U8:Nat:=1000000
theorem aaT:U8<=sizeLine:=by decide
theorem aeo {l b:Addr} {us:List V} {Q:VK} (I:L2.Inv X pins σ H s) (hl:sW X.K H l vs) (hb:sW X.K H b us) (hz:vs.length+us.length<=sizeLine) (q:∀ p,H p=none->Q (.ref p) (upd H p (.lst (vs++us)))) :
  wpAny (model X.prog X.w) X.A (binaryOp .Add (.ref l) (.ref b)) (EP X pins σ Q) X.xe s:=by
 obtain⟨its,r1,⟨⟨cls,dd,data,sl⟩,n1,e1,c1,d1,dd1⟩,z1⟩:=I.list hl;obtain⟨its2,r2,⟨⟨cls2,dd2,data2,sl2⟩,n2,e2,c2,d2,Xn⟩,z2⟩:=I.list hb;simp only at c1 d1 dd1 c2 d2 Xn;subst c1 d1 dd1 c2 d2 Xn;have l1:=r1.length;have l2:=r2.length;have e:its.toArray++its2.toArray=(its++its2).toArray:=by simp
 refine concat_meets ⟨_,e1,rfl⟩ ⟨_,e2,rfl⟩ noFill_list_add seq_list_add PySem.F.slot_list_add PySem.F.entry_list_add (PySem.F.args_list_add_2 _ _) (list_addW l b its.toArray its2.toArray n1 n2 none none sl sl2 (by rw[zz,zz];omega)) ⟨e1,e2,?_⟩;rw[e];exact⟨.ref s.heap.objs.size,_,I.laid (t':=s.toks) (o:=.lst (vs++us)) (λb ob q=>zd _ q) (zg _) ⟨by rw[Zs];exact hz,_,0,r1.append r2,zv _ rfl⟩,rfl,q _ (I.hok.fresh (zg _))⟩
theorem aep {l b:Addr} {us:List V} {Q:VK} (I:L2.Inv X pins σ H s) (hl:wL X.K H l vs) (hb:wL X.K H b us) (hz:vs.length+us.length<=sizeLine) (q0:vs=[]->Q (.ref b) H) (q1:us=[]->Q (.ref l) H) (q2:∀ p,H p=none->Q (.ref p) (upd H p (.tup (vs++us)))) :
  wpAny (model X.prog X.w) X.A (binaryOp .Add (.ref l) (.ref b)) (EP X pins σ Q) X.xe s:=by
 by_cases hv:vs=[]
 ·obtain⟨its,r1,⟨⟨cls,dd,data,sl⟩,e1,c1,n1,dd1⟩,z1⟩:=I.tuple hl;obtain⟨its2,r2,⟨⟨cls2,dd2,data2,sl2⟩,e2,c2,n2,Xn⟩,z2⟩:=I.tuple hb;simp only at c1 dd1 c2 Xn;subst c1 dd1 c2 Xn;have:its=[]:=r1.Bc.mpr hv;exact concat_meets ⟨_,e1,rfl⟩ ⟨_,e2,rfl⟩ noFill_tuple_add seq_tuple_add PySem.F.slot_tuple_add yT (yo _ _)
   (tuple_addW0 l b its.toArray its2.toArray n1 n2 dd dd2 sl sl2 (by simp[this])) ⟨e1,e2,⟨.ref b,H,I,rfl,q0 hv⟩⟩
 ·exact aap pins s σ H (.ref l) (.ref b) (.ref l) (.ref b) Q I rfl rfl ⟨l,b,vs,us,rfl,rfl,hl,hb,hv,hz,q1,λ_=>q2⟩
def dB:Bx->Bx->Option Bx
 |.z (.int i),.z (.int j)=>some (.z (.int (i+j)))
 |.z (.str i),.z (.str j)=>if i.length+j.length<=U8 then some (.z (.str (i++j))) else none
 |.z (.tup xs),.z (.tup ys)=>if xs.length+ys.length<=U8 then some (.z (.tup (xs++ys))) else none
 |a,b=>(qj a).bind λxs=>(qj b).bind λys=>if xs.length+ys.length<=U8 then some (.o (xs++ys)) else none
theorem str_len (i j:Str):(i++j).length=i.length+j.length:=by
 show(i.cps++j.cps).size=_;rw[Kt];rfl
theorem bG:Hi X (binaryOp .Add) dB:=by
 intro pins s σ H x y v u Q I rx ry h;obtain⟨a,b,c,ra,rb,e,q⟩:=h;have hbig:=aaT;unfold dB at e;split at e
 ·rename_i i j;cases e;exact adJ pins s σ H x y v u Q I rx ry ⟨i,j,Jq ra,Jq rb,q _ H (Same.refl H) trivial Cz⟩
 ·rename_i i j;split at e
  ·rename_i hl;cases e;exact Qa pins s σ H x y v u Q I rx ry ⟨i,j,(Px ra).1,(Px rb).1,by omega,q _ H (Same.refl H) trivial (aaS (by rw[str_len];omega))⟩
  ·cases e
 ·rename_i xs ys;split at e
  ·rename_i hl;cases e;obtain⟨l,vs,rfl,sl,rl⟩:=inT ra;obtain⟨m,us,rfl,sm,rm⟩:=inT rb;cases rx;cases ry;have h1:=rl.length;have h2:=rm.length;refine aep I sl sm (by omega) (λz=>q _ H (Same.refl H) trivial ?_) (λz=>q _ H (Same.refl H) trivial ?_) λp hp=>q _ _ (bJ hp) trivial ?_
   ·unfold bA Rep;refine⟨m,us,rfl,sm,?_⟩;have:xs=[]:=by subst z;exact List.eq_nil_of_length_eq_zero (by simpa using h1.symm)
    rw[this,kQ];exact rm
   ·unfold bA Rep;refine⟨l,vs,rfl,sl,?_⟩;have:ys=[]:=by subst z;exact List.eq_nil_of_length_eq_zero (by simpa using h2.symm)
    rw[this,QY];exact rl
   ·unfold bA Rep;exact⟨p,_,rfl,.inl (.inl bf),(rl.append rm).kp (.of (bJ hp))⟩
  ·cases e
 ·obtain⟨xs,ea,e⟩:=bind_some e;obtain⟨ys,eb,e⟩:=bind_some e;split at e
  ·rename_i hl;cases e;obtain⟨l,vs,rfl,sl,rl⟩:=ra.Hh ea;obtain⟨m,us,rfl,sm,rm⟩:=rb.Hh eb;cases rx;cases ry;have h1:=rl.length;have h2:=rm.length;refine aeo I sl sm (by omega) λp hp=>q _ _ (bJ hp) (λa ea=>by cases ea;exact hp) ⟨p,_,rfl,bf,(rl.append rm).kp (.of (bJ hp))⟩
  ·cases e
def tO:Bx->Bx->Option Bx
 |.z (.int i),.z (.int j)=>if(-(2 ^ 64) < i/\i < 2 ^ 64)\/(-(2 ^ 64) < j/\j < 2 ^ 64) then some (.z (.int (i * j))) else none
 |.z (.str x),.z (.int n)=>if n<=1000 ∧ -1000<=n/\x.length<=1000 then some (.z (.str (Txt.mul x n))) else none
 |_,_=>none
theorem vH (x:Array Nat):∀ (n:Nat) (acc:Array Nat),((List.replicate n x).foldl (·++·) acc).size=acc.size+n * x.size
 |0,acc=>by simp
 |n+1,acc=>by
  rw[KU,QP,vH x n,Kt,Nat.succ_mul];omega
theorem Jr (x:Str) (n:Int):(Txt.mul x n).length<=n.toNat * x.length+x.length:=by
 unfold Txt.mul;split
 ·exact QO _
 ·split
  ·exact Nat.le_add_left _ _
  ·show((List.replicate n.toNat x.cps).foldl (·++·) #[]).size<=_;rw[vH];show(#[]:Array Nat).size+n.toNat * x.cps.size<=n.toNat * x.cps.size+x.cps.size;simp
theorem nO:Hi X (binaryOp .Mult) tO:=by
 intro pins s σ H x y v u Q I rx ry h;obtain⟨a,b,c,ra,rb,e,q⟩:=h;unfold tO at e;split at e
 ·rename_i i j;split at e
  ·rename_i hl;cases e;exact adL pins s σ H x y v u Q I rx ry ⟨i,j,Jq ra,Jq rb,hl,q _ H (Same.refl H) trivial Cz⟩
  ·cases e
 ·rename_i x' n;split at e
  ·rename_i hl;cases e;obtain⟨rfl,hx⟩:=Px ra;have hy:=Jq rb;subst hy;obtain⟨t,rfl⟩:=rx;obtain⟨t',rfl⟩:=ry;have hs:sizeLine=16777216:=sizeLine_eq;have hm:n.toNat * x'.length<=1000 * 1000:=Nat.mul_le_mul (by omega) hl.2.2;refine SB.mul ⟨?_,λh1 h2=>?_,λh1 h2=>?_⟩ λt' k=>⟨.str _,H,I.tok _,⟨_,rfl⟩,q _ H (Same.refl H) trivial (aaS (Zp (Jr x' n) (by omega)))⟩
   ·have e1:decide (n < -(2 ^ 63:Int))=false:=qf (by omega);have e2:decide (n>=2 ^ 63)=false:=qf (by omega);rw[e1,e2];rfl
   ·have hn:0 < n:=by omega
    have:(1000:Int)<=(2 ^ 63 - 1) / n:=(Int.le_ediv_iff_mul_le hn).mpr (by omega);omega
   ·show decide (x'.length * n.toNat > sizeLine)=false;rw[Nat.mul_comm];exact qf (by omega)
  ·cases e
 ·cases e
def Ht (i j:Str):Bool:=!(Builtin.Str.occurrences j i 0 j.length 1).isEmpty
def xG:Dt->Bool
 |.non=>true
 |.bl _=>true
 |.int _=>true
 |.str _=>true
 |_=>false
def memD (x:Dt) (ys:List Dt):Option Bool:=if xG x=true/\ys.all xG=true then some (ys.any λy=>match xg y x with|some true=>true|_=>false) else none
def qT:Bx->Option (List Dt)
 |.z (.lst ds)=>some ds
 |.z (.tup ds)=>some ds
 |.l ds=>some ds
 |.o ds=>some ds
 |_=>none
def inB:Bx->Bx->Option Bool
 |.z (.str i),.z (.str j)=>some (Ht i j)
 |.z d,b=>(qT b).bind λys=>memD d ys
 |_,_=>none
def inF (a b:Bx):Option Bx:=(inB a b).bind λk=>some (.z (.bl k))
theorem Mg {v:V} (r:Rep K H d v) (f:xG d=true):rW v=true:=by
 cases d<;>first|(cases f;done)|skip
 all_goals simp only[Rep] at r
 ·subst r;rfl
 ·subst r;rfl
 ·subst r;rfl
 ·obtain⟨rfl,_⟩:=r;rfl
theorem Hu {K:FG_} {H:Hp}:∀ {ds:List Dt} {vs:List V},aO K H ds vs->ds.all xG=true->vs.all rW=true
 |[],_,h,_=>by simp only[aO] at h;subst h;rfl
 |d::ds,_,h,f=>by
  simp only[aO] at h;obtain⟨v,r,rfl,h1,h2⟩:=h;rw[ky,ZE] at f;rw[ky,Mg h1 f.1,Hu h2 f.2];rfl
theorem Js (b:Bool):(match some b with|some true=>true|_=>false)=b:=by cases b<;>rfl
theorem aaU {e:Dt} {x:V} (rd:Rep K H d x) (re:Rep K H e y) (fd:xG d=true) (fe:xG e=true):eqV x y=(match xg d e with|some true=>true|_=>false):=by
 cases d<;>first|(cases fd;done)|skip
 all_goals (cases e<;>first|(cases fe;done)|skip)
 all_goals simp only[Rep] at rd re
 all_goals first
  |(subst rd;subst re;exact(Js _).symm)
  |(obtain⟨rfl,_⟩:=rd;subst re;exact(Js _).symm)
  |(subst rd;obtain⟨rfl,_⟩:=re;exact(Js _).symm)
  |(obtain⟨rfl,_⟩:=rd;obtain⟨rfl,_⟩:=re;exact(Js _).symm)
theorem Sq {K:FG_} {H:Hp} {d:Dt} {x:V} (rd:Rep K H d x) (fd:xG d=true):∀ {ds:List Dt} {vs:List V},aO K H ds vs->ds.all xG=true->inV x vs=ds.any λy=>match xg y d with|some true=>true|_=>false
 |[],_,h,_=>by simp only[aO] at h;subst h;rfl
 |e::ds,_,h,f=>by
  simp only[aO] at h;obtain⟨v,r,rfl,h1,h2⟩:=h;rw[ky,ZE] at f;have:=Sq rd fd h2 f.2;unfold inV at this ⊢;rw[kb,kb,aaU h1 rd f.1 fd,this]
theorem tW {v:V} (h:bA K H b v) (e:qT b=some ds):∃ a vs,v=.ref a/\(sW K H a vs\/wL K H a vs)/\aO K H ds vs:=by
 cases b with
 |z d=>
  cases d<;>first|(cases e;done)|skip
  ·cases e;obtain⟨a,vs,e,q,r⟩:=inT h;exact⟨a,vs,e,.inr q,r⟩
  ·cases e;obtain⟨a,vs,e,q,r⟩:=h.Hh rfl;exact⟨a,vs,e,.inl q,r⟩
 |l ds'=>
  cases e;obtain⟨a,vs,e,q,r⟩:=h.Hh rfl;exact⟨a,vs,e,.inl q,r⟩
 |o ds'=>
  cases e;obtain⟨a,vs,e,q,r⟩:=h.Hh rfl;exact⟨a,vs,e,.inl q,r⟩
 |n _=>cases e
 |m _ _=>cases e
theorem U9 {a:Bx} {x:V} {k:Bool} (ra:bA X.K H a x) (rb:bA X.K H b y) (e:inB a b=some k) :
  (∃ i j,x=.str i/\y=.str j/\k=Ht i j)\/(∃ p xs,y=.ref p/\(sW X.K H p xs\/wL X.K H p xs)/\rW x=true/\xs.all rW=true/\k=inV x xs):=by
 unfold inB at e;split at e
 ·rename_i i j;cases e;exact .inl ⟨i,j,(Px ra).1,(Px rb).1,rfl⟩
 ·rename_i d _;obtain⟨ys,ey,e⟩:=bind_some e;unfold memD at e;split at e
  ·rename_i hf;cases e;obtain⟨p,vs,rfl,sq,rs⟩:=tW rb ey;have ra':Rep X.K H d x:=ra;exact .inr ⟨p,vs,rfl,sq,Mg ra' hf.1,Hu rs hf.2,(Sq ra' hf.1 rs hf.2).symm⟩
  ·cases e
 ·cases e
theorem CJ:Hi X (compareOp .In) inF:=by
 intro pins s σ H x y v u Q I rx ry h;obtain⟨a,b,c,ra,rb,e,q⟩:=h;obtain⟨k,ek,e⟩:=bind_some e;cases e;rcases U9 ra rb ek with⟨i,j,rfl,rfl,rfl⟩|⟨p,xs,rfl,sq,f1,f2,rfl⟩
 ·exact Uu pins s σ H _ _ v u Q I rx ry ⟨i,j,rfl,rfl,q _ H (Same.refl H) trivial Qo⟩
 ·exact Ux pins s σ H _ _ v u Q I rx ry ⟨p,xs,rfl,sq,f1,f2,q _ H (Same.refl H) trivial Qo⟩
def fW:Bx->Bx->Option Bx
 |.z (.str x),.z (.int i)=>(BX x.cps.toList i).bind λc=>some (.z (.str ⟨#[c]⟩))
 |b,.z (.int i)=>(qT b).bind λds=>(BX ds i).bind λd=>some (.z d)
 |_,_=>none
theorem aaV {i:Int} (r:aO K H ds vs) (e:BX ds i=some d):∃ v,BX vs i=some v/\Rep K H d v:=by
 unfold BX at e ⊢;rw[r.length];obtain⟨j,ej,e⟩:=bind_some e;rw[ej];exact r.get e
theorem bC {a b:Expr} (ha:QV X a fa) (hb:QV X b fb) (hs:R3 b:=by intro _ _;with_unfolding_all rfl):QV X (.Subscript a b pos) (b2 fW fa fb):=⟨have ha:=ha.run;have hb:=hb.run;FP (agj adZ ha hb hs) λσ H Q h=>by
 obtain⟨H0,ρ,c,E,e,q⟩:=h;obtain⟨a,ea,e⟩:=bind_some e;obtain⟨b,eb,e⟩:=bind_some e;refine⟨H0,ρ,a,E,ea,λv H1 s1 n1 r1=>⟨H0,ρ,b,E.grow s1,eb,λu H2 s2 n2 r2=>?_⟩⟩;have r1':=r1.same s2;unfold fW at e;split at e
 ·rename_i x i;obtain⟨c',ec,e⟩:=bind_some e;cases e;exact .inr (.inr ⟨_,_,c',(Px r1').1,Jq r2,(Px r1').2,ec,q _ _ (s1.trans s2) trivial (aaS (by show(1:Nat)<=sizeLine;decide))⟩)
 ·obtain⟨ds,ed,e⟩:=bind_some e;obtain⟨d,ei,e⟩:=bind_some e;cases e;obtain⟨p,vs,rfl,sq,rs⟩:=tW r1' ed;obtain⟨w,ew,RQ⟩:=aaV rs ei;have hi:=Jq r2;rcases sq with sq|sq
  ·exact .inl ⟨p,vs,_,w,rfl,hi,sq,ew,q _ _ (s1.trans s2) trivial RQ⟩
  ·exact .inr (.inl ⟨p,vs,_,w,rfl,hi,sq,ew,q _ _ (s1.trans s2) trivial RQ⟩)
 ·cases e⟩
theorem aaW:bootBuiltins "bool" = some (.type "bool"):=by decide +kernel
theorem Xo:bootBuiltins "int" = some (.type "int"):=by decide +kernel
theorem Xp:bootBuiltins "str" = some (.type "str"):=by decide +kernel
theorem lF:bootBuiltins "tuple" = some (.type "tuple"):=by decide +kernel
theorem Ss:bootBuiltins "list" = some (.type "list"):=by decide +kernel
theorem kE:bootBuiltins "isinstance" = some (.builtin "isinstance"):=by decide +kernel
theorem CK:bootBuiltins "len" = some (.builtin "len"):=by decide +kernel
theorem aer:bootBuiltins "abs" = some (.builtin "abs"):=by decide +kernel
theorem Xq:bootBuiltins "all" = some (.builtin "all"):=by decide +kernel
theorem Jt:bootBuiltins "min" = some (.builtin "min"):=by decide +kernel
theorem vW:bootBuiltins "max" = some (.builtin "max"):=by decide +kernel
theorem qt:bootBuiltins "sorted" = some (.builtin "sorted"):=by decide +kernel
def is_bool:Dt->Bool
 |.bl _=>true
 |_=>false
theorem Xr (I:L2.Inv X pins σ H s) {x:V} {Q:VK} (rd:gU X.K H d x) (rv:RelV x v) (q:Q (.bl (is_bool d)) H):wpAny (model X.prog X.w) X.A (call (.builtin "isinstance") [v,.type "bool"]) (EP X pins σ Q) X.xe s:=by
 cases d with
 |non=>simp only[gU,Rep] at rd;subst rd;cases rv;exact IsiPair.NoneType_bool ⟨.bl _,H,I.tok _,rfl,q⟩
 |bl b=>simp only[gU,Rep] at rd;subst rd;cases rv;exact IsiPair.bool_bool ⟨.bl _,H,I,rfl,q⟩
 |int b=>simp only[gU,Rep] at rd;subst rd;obtain⟨t,rfl⟩:=rv;exact IsiPair.int_bool ⟨.bl _,H,I.tok _,rfl,q⟩
 |str b=>simp only[gU,Rep] at rd;obtain⟨rfl,_⟩:=rd;obtain⟨t,rfl⟩:=rv;exact IsiPair.str_bool ⟨.bl _,H,I.tok _,rfl,q⟩
 |tup ds=>simp only[gU,Rep] at rd;obtain⟨a,vs,rfl,sq,_⟩:=rd;cases rv;obtain⟨_,_,p,_⟩:=I.tuple sq;exact IsiPair.isTuple_bool p (λ_ _ e=>e) ⟨.bl _,H,I.tok _,rfl,q⟩
 |lst ds=>simp only[gU] at rd;obtain⟨a,vs,rfl,sq,_⟩:=rd;cases rv;obtain⟨_,_,p,_⟩:=I.list sq;exact IsiPair.isList_bool p.isList (λ_ _ e=>e) ⟨.bl _,H,I.tok _,rfl,q⟩
 |emp=>simp only[gU,Rep] at rd;obtain⟨a,o,rfl,sq⟩:=rd;cases rv;obtain⟨ob,e,c⟩:=oN I sq;exact IsiPair.dict_bool e c ⟨.bl _,H,I.tok _,rfl,q⟩
theorem Mh {p:Pos} (he:QV X e f) (hg:Gl X "isinstance") (hm:X.mg "isinstance" = none) (hg2:Gl X "bool") (hm2:X.mg "bool" = none) (hs:starEach [e,.Name "bool" p2] X.env=[(false,eval e X.env),(false,eval (.Name "bool" p2) X.env)]:=by rfl):QV X (.Call (.Name "isinstance" p) [e,.Name "bool" p2] [] pos) (b1 (λb=>if jW b=true then none else some (.z (.bl (is_bool (toD b))))) f):=⟨by
 have he:=he.run;have hc:eE X (.builtin "isinstance") (λxs H Q=>∃ b x,xs=[x,.ty "bool"]/\bA X.K H b x/\jW b=false/\Q (.bl (is_bool (toD b))) H):=by
  intro pins s σ H xs us Q I r h;obtain⟨b,x,rfl,rb,hmb,q⟩:=h;obtain⟨u,w',rfl,r1,r2⟩:=vals2 r;cases r2;exact Xr I (rb.toD hmb) r1 q
 have ha:PA X [e,.Name "bool" p2] (wN (tF X.K f) (wN (tC (.ty "bool")) WM)):=aY he (aY (wK hg2 hm2 (v:=.ty "bool") (u:=.type "bool") aaW rfl) dW) (by rw[hs]<;>rfl);refine FP (dX hc hg hm kE ha (by decide) (by decide) (by rw[hs]<;>rfl) rfl) λσ H Q h=>?_;obtain⟨H0,ρ,c,E,e,q⟩:=h;obtain⟨b,eb,e⟩:=bind_some e;split at e
 ·cases e
 rename_i hz;cases e;exact⟨H0,ρ,b,E,eb,λv H1 s1 n1 r1=>⟨b,v,rfl,r1,by simpa using hz,q _ _ s1 trivial Qo⟩⟩⟩
def yS:Dt->Bool
 |.bl _=>true
 |.int _=>true
 |_=>false
theorem aaX (I:L2.Inv X pins σ H s) {x:V} {Q:VK} (rd:gU X.K H d x) (rv:RelV x v) (q:Q (.bl (yS d)) H):wpAny (model X.prog X.w) X.A (call (.builtin "isinstance") [v,.type "int"]) (EP X pins σ Q) X.xe s:=by
 cases d with
 |non=>simp only[gU,Rep] at rd;subst rd;cases rv;exact IsiPair.NoneType_int ⟨.bl _,H,I.tok _,rfl,q⟩
 |bl b=>simp only[gU,Rep] at rd;subst rd;cases rv;exact IsiPair.bool_int ⟨.bl _,H,I,rfl,q⟩
 |int b=>simp only[gU,Rep] at rd;subst rd;obtain⟨t,rfl⟩:=rv;exact IsiPair.int_int ⟨.bl _,H,I,rfl,q⟩
 |str b=>simp only[gU,Rep] at rd;obtain⟨rfl,_⟩:=rd;obtain⟨t,rfl⟩:=rv;exact IsiPair.str_int ⟨.bl _,H,I.tok _,rfl,q⟩
 |tup ds=>simp only[gU,Rep] at rd;obtain⟨a,vs,rfl,sq,_⟩:=rd;cases rv;obtain⟨_,_,p,_⟩:=I.tuple sq;exact IsiPair.isTuple_int p (λ_ _ e=>e) ⟨.bl _,H,I.tok _,rfl,q⟩
 |lst ds=>simp only[gU] at rd;obtain⟨a,vs,rfl,sq,_⟩:=rd;cases rv;obtain⟨_,_,p,_⟩:=I.list sq;exact IsiPair.isList_int p.isList (λ_ _ e=>e) ⟨.bl _,H,I.tok _,rfl,q⟩
 |emp=>simp only[gU,Rep] at rd;obtain⟨a,o,rfl,sq⟩:=rd;cases rv;obtain⟨ob,e,c⟩:=oN I sq;exact IsiPair.dict_int e c ⟨.bl _,H,I.tok _,rfl,q⟩
theorem Qp {p:Pos} (he:QV X e f) (hg:Gl X "isinstance") (hm:X.mg "isinstance" = none) (hg2:Gl X "int") (hm2:X.mg "int" = none) (hs:starEach [e,.Name "int" p2] X.env=[(false,eval e X.env),(false,eval (.Name "int" p2) X.env)]:=by rfl):QV X (.Call (.Name "isinstance" p) [e,.Name "int" p2] [] pos) (b1 (λb=>if jW b=true then none else some (.z (.bl (yS (toD b))))) f):=⟨by
 have he:=he.run;have hc:eE X (.builtin "isinstance") (λxs H Q=>∃ b x,xs=[x,.ty "int"]/\bA X.K H b x/\jW b=false/\Q (.bl (yS (toD b))) H):=by
  intro pins s σ H xs us Q I r h;obtain⟨b,x,rfl,rb,hmb,q⟩:=h;obtain⟨u,w',rfl,r1,r2⟩:=vals2 r;cases r2;exact aaX I (rb.toD hmb) r1 q
 have ha:PA X [e,.Name "int" p2] (wN (tF X.K f) (wN (tC (.ty "int")) WM)):=aY he (aY (wK hg2 hm2 (v:=.ty "int") (u:=.type "int") Xo rfl) dW) (by rw[hs]<;>rfl);refine FP (dX hc hg hm kE ha (by decide) (by decide) (by rw[hs]<;>rfl) rfl) λσ H Q h=>?_;obtain⟨H0,ρ,c,E,e,q⟩:=h;obtain⟨b,eb,e⟩:=bind_some e;split at e
 ·cases e
 rename_i hz;cases e;exact⟨H0,ρ,b,E,eb,λv H1 s1 n1 r1=>⟨b,v,rfl,r1,by simpa using hz,q _ _ s1 trivial Qo⟩⟩⟩
def nP:Dt->Bool
 |.str _=>true
 |_=>false
theorem aaY (I:L2.Inv X pins σ H s) {x:V} {Q:VK} (rd:gU X.K H d x) (rv:RelV x v) (q:Q (.bl (nP d)) H):wpAny (model X.prog X.w) X.A (call (.builtin "isinstance") [v,.type "str"]) (EP X pins σ Q) X.xe s:=by
 cases d with
 |non=>simp only[gU,Rep] at rd;subst rd;cases rv;exact IsiPair.NoneType_str ⟨.bl _,H,I.tok _,rfl,q⟩
 |bl b=>simp only[gU,Rep] at rd;subst rd;cases rv;exact IsiPair.bool_str ⟨.bl _,H,I.tok _,rfl,q⟩
 |int b=>simp only[gU,Rep] at rd;subst rd;obtain⟨t,rfl⟩:=rv;exact IsiPair.int_str ⟨.bl _,H,I.tok _,rfl,q⟩
 |str b=>simp only[gU,Rep] at rd;obtain⟨rfl,_⟩:=rd;obtain⟨t,rfl⟩:=rv;exact IsiPair.str_str ⟨.bl _,H,I,rfl,q⟩
 |tup ds=>simp only[gU,Rep] at rd;obtain⟨a,vs,rfl,sq,_⟩:=rd;cases rv;obtain⟨_,_,p,_⟩:=I.tuple sq;exact IsiPair.isTuple_str p (λ_ _ e=>e) ⟨.bl _,H,I.tok _,rfl,q⟩
 |lst ds=>simp only[gU] at rd;obtain⟨a,vs,rfl,sq,_⟩:=rd;cases rv;obtain⟨_,_,p,_⟩:=I.list sq;exact IsiPair.isList_str p.isList (λ_ _ e=>e) ⟨.bl _,H,I.tok _,rfl,q⟩
 |emp=>simp only[gU,Rep] at rd;obtain⟨a,o,rfl,sq⟩:=rd;cases rv;obtain⟨ob,e,c⟩:=oN I sq;exact IsiPair.dict_str e c ⟨.bl _,H,I.tok _,rfl,q⟩
theorem Qq {p:Pos} (he:QV X e f) (hg:Gl X "isinstance") (hm:X.mg "isinstance" = none) (hg2:Gl X "str") (hm2:X.mg "str" = none) (hs:starEach [e,.Name "str" p2] X.env=[(false,eval e X.env),(false,eval (.Name "str" p2) X.env)]:=by rfl):QV X (.Call (.Name "isinstance" p) [e,.Name "str" p2] [] pos) (b1 (λb=>if jW b=true then none else some (.z (.bl (nP (toD b))))) f):=⟨by
 have he:=he.run;have hc:eE X (.builtin "isinstance") (λxs H Q=>∃ b x,xs=[x,.ty "str"]/\bA X.K H b x/\jW b=false/\Q (.bl (nP (toD b))) H):=by
  intro pins s σ H xs us Q I r h;obtain⟨b,x,rfl,rb,hmb,q⟩:=h;obtain⟨u,w',rfl,r1,r2⟩:=vals2 r;cases r2;exact aaY I (rb.toD hmb) r1 q
 have ha:PA X [e,.Name "str" p2] (wN (tF X.K f) (wN (tC (.ty "str")) WM)):=aY he (aY (wK hg2 hm2 (v:=.ty "str") (u:=.type "str") Xp rfl) dW) (by rw[hs]<;>rfl);refine FP (dX hc hg hm kE ha (by decide) (by decide) (by rw[hs]<;>rfl) rfl) λσ H Q h=>?_;obtain⟨H0,ρ,c,E,e,q⟩:=h;obtain⟨b,eb,e⟩:=bind_some e;split at e
 ·cases e
 rename_i hz;cases e;exact⟨H0,ρ,b,E,eb,λv H1 s1 n1 r1=>⟨b,v,rfl,r1,by simpa using hz,q _ _ s1 trivial Qo⟩⟩⟩
def is_tuple:Dt->Bool
 |.tup _=>true
 |_=>false
theorem Va (I:L2.Inv X pins σ H s) {x:V} {Q:VK} (rd:gU X.K H d x) (rv:RelV x v) (q:Q (.bl (is_tuple d)) H):wpAny (model X.prog X.w) X.A (call (.builtin "isinstance") [v,.type "tuple"]) (EP X pins σ Q) X.xe s:=by
 cases d with
 |non=>simp only[gU,Rep] at rd;subst rd;cases rv;exact IsiPair.NoneType_tuple ⟨.bl _,H,I.tok _,rfl,q⟩
 |bl b=>simp only[gU,Rep] at rd;subst rd;cases rv;exact IsiPair.bool_tuple ⟨.bl _,H,I.tok _,rfl,q⟩
 |int b=>simp only[gU,Rep] at rd;subst rd;obtain⟨t,rfl⟩:=rv;exact IsiPair.int_tuple ⟨.bl _,H,I.tok _,rfl,q⟩
 |str b=>simp only[gU,Rep] at rd;obtain⟨rfl,_⟩:=rd;obtain⟨t,rfl⟩:=rv;exact IsiPair.str_tuple ⟨.bl _,H,I.tok _,rfl,q⟩
 |tup ds=>simp only[gU,Rep] at rd;obtain⟨a,vs,rfl,sq,_⟩:=rd;cases rv;obtain⟨_,_,p,_⟩:=I.tuple sq;exact IsiPair.isTuple_tuple p (λ_ _ e=>e) ⟨.bl _,H,I,rfl,q⟩
 |lst ds=>simp only[gU] at rd;obtain⟨a,vs,rfl,sq,_⟩:=rd;cases rv;obtain⟨_,_,p,_⟩:=I.list sq;exact IsiPair.isList_tuple p.isList (λ_ _ e=>e) ⟨.bl _,H,I.tok _,rfl,q⟩
 |emp=>simp only[gU,Rep] at rd;obtain⟨a,o,rfl,sq⟩:=rd;cases rv;obtain⟨ob,e,c⟩:=oN I sq;exact IsiPair.dict_tuple e c ⟨.bl _,H,I.tok _,rfl,q⟩
theorem xH {p:Pos} (he:QV X e f) (hg:Gl X "isinstance") (hm:X.mg "isinstance" = none) (hg2:Gl X "tuple") (hm2:X.mg "tuple" = none) (hs:starEach [e,.Name "tuple" p2] X.env=[(false,eval e X.env),(false,eval (.Name "tuple" p2) X.env)]:=by rfl):QV X (.Call (.Name "isinstance" p) [e,.Name "tuple" p2] [] pos) (b1 (λb=>if jW b=true then none else some (.z (.bl (is_tuple (toD b))))) f):=⟨by
 have he:=he.run;have hc:eE X (.builtin "isinstance") (λxs H Q=>∃ b x,xs=[x,.ty "tuple"]/\bA X.K H b x/\jW b=false/\Q (.bl (is_tuple (toD b))) H):=by
  intro pins s σ H xs us Q I r h;obtain⟨b,x,rfl,rb,hmb,q⟩:=h;obtain⟨u,w',rfl,r1,r2⟩:=vals2 r;cases r2;exact Va I (rb.toD hmb) r1 q
 have ha:PA X [e,.Name "tuple" p2] (wN (tF X.K f) (wN (tC (.ty "tuple")) WM)):=aY he (aY (wK hg2 hm2 (v:=.ty "tuple") (u:=.type "tuple") lF rfl) dW) (by rw[hs]<;>rfl);refine FP (dX hc hg hm kE ha (by decide) (by decide) (by rw[hs]<;>rfl) rfl) λσ H Q h=>?_;obtain⟨H0,ρ,c,E,e,q⟩:=h;obtain⟨b,eb,e⟩:=bind_some e;split at e
 ·cases e
 rename_i hz;cases e;exact⟨H0,ρ,b,E,eb,λv H1 s1 n1 r1=>⟨b,v,rfl,r1,by simpa using hz,q _ _ s1 trivial Qo⟩⟩⟩
def tFO (K:FG_) (f:Ev->Option (Option Int)):TO:=λσ H Q=>∃ H0 ρ o,bL K H0 H σ ρ/\f ρ=some o/\∀ H',Same H H'->Q o H'
def PVo (X:Cx) (e:Option Expr) (f:Ev->Option (Option Int)):Prop:=PO X e (tFO X.K f)
structure QVo (X:Cx) (e:Option Expr) (f:Ev->Option (Option Int)):Prop where
 run:PVo X e f
theorem poM {e:Option Expr} {t t':TO} (h:PO X e t) (m:∀ σ H Q,t' σ H Q->t σ H Q):PO X e t':=λpins s σ H Q I q=>h pins s σ H Q I (m σ H Q q)
def jB:Ev->Option (Option Int):=λ_=>some none
theorem gJ  : QVo X none jB:=⟨poM aan λσ H Q h=>by
 obtain⟨H0,ρ,o,E,e,q⟩:=h;cases e;exact q H (Same.refl H)⟩
def aes:Bx->Option (Option Int)
 |.z (.int i)=>some (some i)
 |_=>none
def nQ (f:Ev->Option Bx):Ev->Option (Option Int):=λρ=>(f ρ).bind aes
theorem gK (h:QV X e f):QVo X (some e) (nQ f):=⟨have h:=h.run;poM (aao h) λσ H Q q=>by
 obtain⟨H0,ρ,o,E,e,q⟩:=q;obtain⟨b,eb,e⟩:=bind_some e;refine⟨H0,ρ,b,E,eb,λv H1 s1 n1 r1=>?_⟩;unfold aes at e;split at e
 ·rename_i i;cases e;exact⟨i,Jq r1,q H1 s1⟩
 ·cases e⟩
def cutD (xs:List Dt) (lo hi:Option Int):List Dt:=(xs.drop (HT.ig xs.length 0 lo)).take (HT.ig xs.length xs.length hi - HT.ig xs.length 0 lo)
theorem Mi (r:aO K H ds vs) (lo hi:Option Int):aO K H (cutD ds lo hi) (La vs lo hi):=by
 unfold cutD La;rw[r.length];exact(r.drop _).take _
theorem Xu (ds:List Dt) (h1:HT.ig ds.length 0 lo=0) (h2:HT.ig ds.length ds.length hi=ds.length):cutD ds lo hi=ds:=by
 unfold cutD;rw[h1,h2];simp
theorem xJ {t sl:Addr} {vl vu:Value} {Q:VP_} (ht:IsTup s.heap t items) (hs:s.heap.IsSliceOf sl vl vu .none) (pl:IsPart vl lo) (pu:IsPart vu hi) (h1:HT.ig items.size 0 lo=0) (h2:HT.ig items.size items.size hi=items.size) (h:Q (.ref t) s):wpAny (model prog w) A (getItem (.ref t) (.ref sl)) Q E s:=by
 obtain⟨os,hos,hcs,hds⟩:=id hs;have hTs:s.TypeIs (.ref sl) "slice" := ⟨os,hos,hcs⟩;unfold getItem
 try with_reducible refine qo ?_
 first|refine zb (ze ?_)|skip
 refine zb (wpAny_sequenceKey ht.typeIs (by decide) ?_);refine zb (k6 (name:=Str.ofString "__getitem__") ht.typeIs PyProof.Rows.slot_tuple_getitem
  (JI PyProof.Rows.slot_tuple_getitem ht.typeIs entry_tuple_getitem ?_ (args_tuple_getitem _ _)))
 show wpAny _ _ (Builtin.Tuple.tupleItemsOf (.ref t) >>= _) _ _ s;refine zb (tupleItemsOf_ ht ?_);refine zb (QQ hTs ?_);rw[zi (by decide)];refine zb (HT.qg hs pl pu ?_);have hyes:(((HT.ig items.size 0 lo:Nat):Int)==0&&(1:Int)==1&&(HT.ig items.size items.size hi - HT.ig items.size 0 lo)==items.size)=true:=by
  rw[h1,h2];simp
 show wpAny _ _ (if(((HT.ig items.size 0 lo:Nat):Int)==0&&(1:Int)==1&&(HT.ig items.size items.size hi - HT.ig items.size 0 lo)==items.size)=true then _ else _) _ _ s;rw[zi hyes]
 first
  |refine zb (zb (QQ ht.typeIs (ze ?_)))
  |refine zb (QQ ht.typeIs (zb (ze ?_)))
  |refine zb (QQ ht.typeIs ?_)
 rw[zi (by decide)]
 first
  |exact zb (kU (ze ⟨_,rfl,ze h⟩))
  |exact zb (kU (zb (ze (ze ⟨_,rfl,ze h⟩))))
def slB (b:Bx) (lo hi:Option Int):Option Bx:=match b with
 |.z (.str x)=>some (.z (.str (Txt.slice x lo hi)))
 |.z (.tup ds)=>some (.z (.tup (cutD ds lo hi)))
 |b=>(qj b).bind λds=>some (.o (cutD ds lo hi))
def rSl (K:FG_):V->Option Int->Option Int->Hp->VK->Prop:=λx lo hi H Q=>∃ b c,bA K H b x/\slB b lo hi=some c/\∀ w H',Same H H'->Nw H c w->bA K H' c w->Q w H'
theorem aeu:SlR X (rSl X.K):=by
 intro pins s σ H x v vl vu lo hi sl Q I rx hs pl pu h;obtain⟨b,c,rb,e,q⟩:=h;unfold slB at e;split at e
 ·rename_i y;cases e;obtain⟨rfl,hy⟩:=Px rb;obtain⟨t,rfl⟩:=rx;refine⟨"str", _,F.slot_str_getitem.lookup,typeIs_str _ _ _,?_⟩;obtain⟨o,e1,e2,e3⟩:=hs;have fin:∀ t' k,EP X pins σ Q (.str (Txt.slice y lo hi) t') { s with toks:=k }:=λt' k=>⟨.str _,H,I.tok _,⟨_,rfl⟩,q _ H (Same.refl H) trivial (aaS (Zp (Txt.slice_le y _ _) hy))⟩;cases pl with
  |none=>
   cases pu with
   |none=>exact k4 (l:=none) (u:=none) (st:=none) ⟨o,e1,e2,e3⟩ rfl (post_val_or_str ⟨Zp (Txt.slice_le y _ _) hy,fin⟩)
   |int j uj=>exact k4 (l:=none) (u:=some (j,uj)) (st:=none) ⟨o,e1,e2,e3⟩ rfl (post_val_or_str ⟨Zp (Txt.slice_le y _ _) hy,fin⟩)
  |int i ui=>
   cases pu with
   |none=>exact k4 (l:=some (i,ui)) (u:=none) (st:=none) ⟨o,e1,e2,e3⟩ rfl (post_val_or_str ⟨Zp (Txt.slice_le y _ _) hy,fin⟩)
   |int j uj=>exact k4 (l:=some (i,ui)) (u:=some (j,uj)) (st:=none) ⟨o,e1,e2,e3⟩ rfl (post_val_or_str ⟨Zp (Txt.slice_le y _ _) hy,fin⟩)
 ·rename_i ds;cases e;obtain⟨a,vs,rfl,sq,rs⟩:=inT rb;by_cases hw:HT.ig vs.length 0 lo=0/\HT.ig vs.length vs.length hi=vs.length
  ·cases rx;obtain⟨its,r,ht,hz⟩:=I.tuple sq;have hlen:its.toArray.size=vs.length:=by rw[zz];exact r.length.symm
   refine⟨"tuple", _,PyProof.Rows.slot_tuple_getitem.lookup,ht.typeIs,xJ ht hs pl pu (by rw[hlen];exact hw.1) (by rw[hlen];exact hw.2) ⟨.ref a,H,I,rfl,q _ H (Same.refl H) trivial ?_⟩⟩;rw[Xu ds (by rw[<-rs.length];exact hw.1) (by rw[<-rs.length];exact hw.2)];exact rb
  ·refine adV pins s σ H _ v vl vu lo hi sl Q I rx hs pl pu ⟨a,vs,rfl,sq,hw,λp hp=>q _ _ (bJ hp) trivial ?_⟩;unfold bA Rep;exact⟨p,_,rfl,.inl (.inl bf),(Mi rs lo hi).kp (.of (bJ hp))⟩
 ·obtain⟨ds,ed,e⟩:=bind_some e;cases e;obtain⟨a,vs,rfl,sq,rs⟩:=rb.Hh ed;exact aat pins s σ H _ v vl vu lo hi sl Q I rx hs pl pu ⟨a,vs,rfl,sq,λp hp=>q _ _ (bJ hp) (λa ea=>by cases ea;exact hp) ⟨p,_,rfl,bf,(Mi rs lo hi).kp (.of (bJ hp))⟩⟩
def Ge (f:Ev->Option Bx) (fl fh:Ev->Option (Option Int)):Ev->Option Bx:=λρ=>(f ρ).bind λb=>(fl ρ).bind λlo=>(fh ρ).bind λhi=>slB b lo hi
theorem rY {lo hi:Option Expr} {fl fh:Ev->Option (Option Int)} (he:QV X e f) (hl:QVo X lo fl) (hh:QVo X hi fh):QV X (.Subscript e (.Slice lo hi none p2) pos) (Ge f fl fh):=⟨have he:=he.run;have hl:=hl.run;have hh:=hh.run;FP (WR aeu he hl hh) λσ H Q h=>by
 obtain⟨H0,ρ,c,E,e,q⟩:=h;obtain⟨b,eb,e⟩:=bind_some e;obtain⟨lo,el,e⟩:=bind_some e;obtain⟨hi,eh,e⟩:=bind_some e;refine⟨H0,ρ,b,E,eb,λv H1 s1 n1 r1=>⟨H0,ρ,lo,E.grow s1,el,λH2 s2=>⟨H0,ρ,hi,E.grow (s1.trans s2),eh,λH3 s3=>?_⟩⟩⟩;have s13:=(s1.trans s2).trans s3;exact⟨b,c,(r1.same s2).same s3,e,λw H4 s4 n4 r4=>q w H4 (s13.trans s4) (n4.old s13) r4⟩⟩
def yU:List Bx->Option Bx
 |[.z (.str x)]=>some (.z (.int x.length))
 |[b]=>(qT b).bind λds=>some (.z (.int ds.length))
 |_=>none
theorem rep1 (r:ql K H [b] vs):∃ v,vs=[v]/\bA K H b v:=by
 cases r with
 |cons p t=>cases t;exact⟨_,rfl,p⟩
theorem CN:mH X (.builtin "len") yU:=eE.imp (Jg.or Jh) λxs H Q q=>by
 obtain⟨bs,c,rb,e,q⟩:=q;unfold yU at e;split at e
 ·rename_i x;cases e;obtain⟨v,rfl,r1⟩:=rep1 rb;obtain⟨rfl,hx⟩:=Px r1;exact .inr ⟨x,rfl,hx,q _ H (Same.refl H) trivial Cz⟩
 ·obtain⟨ds,ed,e⟩:=bind_some e;cases e;obtain⟨v,rfl,r1⟩:=rep1 rb;obtain⟨p,vs,rfl,sq,rs⟩:=tW r1 ed;exact .inl ⟨p,vs,rfl,sq,by rw[rs.length];exact q _ H (Same.refl H) trivial Cz⟩
 ·cases e
def Xv:List Bx->Option Bx
 |[.z (.int i)]=>some (.z (.int (if i < 0 then -i else i)))
 |_=>none
theorem aev:mH X (.builtin "abs") Xv:=eE.imp WL λxs H Q q=>by
 obtain⟨bs,c,rb,e,q⟩:=q;unfold Xv at e;split at e
 ·rename_i i;cases e;obtain⟨v,rfl,r1⟩:=rep1 rb;have:=Jq r1;subst this;exact⟨i,rfl,q _ H (Same.refl H) trivial Cz⟩
 ·cases e
def Xw:List Bx->Option Bx
 |[.z (.int i)]=>some (.z (.int i))
 |[.z (.bl k)]=>some (.z (.int (if k then 1 else 0)))
 |_=>none
theorem aew:mH X (.type "int") Xw:=eE.imp Uv λxs H Q q=>by
 obtain⟨bs,c,rb,e,q⟩:=q;unfold Xw at e;split at e
 ·rename_i i;cases e;obtain⟨v,rfl,r1⟩:=rep1 rb;have:=Jq r1;subst this;exact .inl ⟨i,rfl,q _ H (Same.refl H) trivial Cz⟩
 ·rename_i k;cases e;obtain⟨v,rfl,r1⟩:=rep1 rb;simp only[bA,Rep] at r1;subst r1;exact .inr ⟨k,rfl,q _ H (Same.refl H) trivial Cz⟩
 ·cases e
def Mj:List Bx->Option Bx
 |[b]=>(qT b).bind λds=>some (.o ds)
 |_=>none
theorem aaZ:mH X (.type "list") Mj:=eE.imp Ji λxs H Q q=>by
 obtain⟨bs,c,rb,e,q⟩:=q;unfold Mj at e;split at e
 ·obtain⟨ds,ed,e⟩:=bind_some e;cases e;obtain⟨v,rfl,r1⟩:=rep1 rb;obtain⟨p,vs,rfl,sq,rs⟩:=tW r1 ed;exact⟨p,vs,rfl,sq,λl hl=>q _ _ (bJ hl) (λa ea=>by cases ea;exact hl) ⟨l,vs,rfl,bf,rs.kp (.of (bJ hl))⟩⟩
 ·cases e
def jC:List Bx->Option Bx
 |[b]=>(qT b).bind λds=>some (.z (.tup ds))
 |_=>none
theorem nR:mH X (.type "tuple") jC:=eE.imp FW λxs H Q q=>by
 obtain⟨bs,c,rb,e,q⟩:=q;unfold jC at e;split at e
 ·obtain⟨ds,ed,e⟩:=bind_some e;cases e;obtain⟨v,rfl,r1⟩:=rep1 rb;obtain⟨p,vs,rfl,sq,rs⟩:=tW r1 ed;refine⟨p,vs,rfl,?_⟩;rcases sq with sq|sq
  ·refine .inl ⟨sq,λl hl=>q _ _ (bJ hl) trivial ?_⟩;unfold bA Rep;exact⟨l,vs,rfl,.inl (.inl bf),rs.kp (.of (bJ hl))⟩
  ·refine .inr ⟨sq,q _ H (Same.refl H) trivial ?_⟩;unfold bA Rep;exact⟨p,vs,rfl,sq,rs⟩
 ·cases e
def Hv:List Dt->Option (List Bool)
 |[]=>some []
 |.bl b::ds=>(Hv ds).bind λbs=>some (b::bs)
 |_=>none
theorem CP {K:FG_} {H:Hp}:∀ {ds:List Dt} {bs:List Bool} {vs:List V} {us:List Value},Hv ds=some bs->aO K H ds vs->Vals vs us->us=bs.map Value.bool
 |[],_,_,_,e,r,w=>by
  cases e;simp only[aO] at r;subst r;cases w;rfl
 |d::ds,_,_,_,e,r,w=>by
  simp only[aO] at r;obtain⟨v,r',rfl,h1,h2⟩:=r;cases d<;>first|(cases e;done)|skip;simp only[Hv] at e;obtain⟨bs,e1,e⟩:=bind_some e;cases e;simp only[Rep] at h1;subst h1;cases w with
  |cons p t=>
   cases p;rw[CP e1 h2 t];rfl
theorem all_range (bs:List Bool):((List.range bs.length).all λi=>bs.getD i false)=bs.all id:=by
 rw[KS,qi,qi];constructor
 ·intro h b hb;obtain⟨i,hi,rfl⟩:=List.mem_iff_getElem.mp hb;have:=h i (by simpa using hi);simpa[List.getD,hi] using this
 ·intro h i hi;have hi:i < bs.length:=by simpa using hi
  have:=h bs[i] (yB hi);simpa[List.getD,hi] using this
def allB:List Bx->Option Bx
 |[b]=>(qj b).bind λds=>(Hv ds).bind λbs=>some (.z (.bl (bs.all id)))
 |_=>none
theorem Ml (bs:List Bool):TruthOf prog w A (λi v=>(bs.map Value.bool).toArray[i]?=some v) λi=>bs.getD i false:=λi v s Q E h q=>by
 have h':(bs.map Value.bool)[i]?=some v:=by simpa using h
 rw[Zl] at h';cases e:bs[i]? with
 |none=>rw[e] at h';cases h'
 |some b=>
  rw[e] at h';cases h';have:bs.getD i false=b:=by simp[List.getD,e]
  have q':Q b s:=by rw[<-this];exact q
  exact Q1 q'
theorem Xx (hc:X.calm=true):mH X (.builtin "all") allB:=by
 intro pins s σ H xs us Q I r h;obtain⟨bs,c,rb,e,q⟩:=h;unfold allB at e;split at e
 ·obtain⟨ds,ed,e⟩:=bind_some e;obtain⟨ks,ek,e⟩:=bind_some e;cases e;obtain⟨v,rfl,r1⟩:=rep1 rb;obtain⟨a,vs,rfl,sq,rs⟩:=r1.Hh ed;obtain⟨u,rfl,ru⟩:=vals1 r;cases ru;obtain⟨its,w,pl,hz⟩:=I.list sq;have hv:=CP ek rs w;have hlt:a < s.heap.objs.size:=by obtain⟨o,n,e,_⟩:=pl;exact zw e
  refine call_all_walk (wpAny_pyIter_list pl.isList ?_);refine⟨s.heap.objs.size,_,_,_,_,_,λi=>ks.getD i false,rfl,Walks.list (by show X.A.handled=none;exact I.ok.hd hc) s.heap.objs.size a (zI hlt) its.toArray,⟨⟨_,zv _ rfl,rfl,rfl⟩,pl.isList.push _⟩,?_,λh' tk k=>?_⟩
  ·rw[hv];exact Ml ks
  ·have hn:its.toArray.size=ks.length:=by rw[hv];simp
   rw[hn,all_range];have I1:L2.Inv X pins σ H { s with heap:=s.heap.push { cls:=.type "list_iterator", data:=.fields #[.ref a,.int 0 0] } }:=I.kept (t':=s.toks) λb o e=>zd _ e;refine⟨.bl _,H,?_,rfl,q _ H (Same.refl H) trivial Qo⟩;obtain⟨f0,f1,f2,f3,f4,f5⟩:=I.Uq (b:=s.heap.objs.size) (H':=H) (zg _) (I.hok.fresh (zg _));exact I1.turned (it:=s.heap.objs.size) (λb o hb e=>k b o (by simpa using hb) e) f0 f1 f3 f4 f5
 ·cases e
end P1
namespace P1
open L2
def gv (i:Nat):Ev->Option Bx:=λρ=>yL ρ i
def yV (g:Bx->Bx->Option Bx) (fa fb:Ev->Option Bx):Ev->Option Bool:=λρ=>(b2 g fa fb ρ).bind Cg
def tV (f:Ev->Option Bx):Ev->Option Bool:=λρ=>(f ρ).bind aaC
def aH:Ev->Option (List Bx):=λ_=>some []
def CQ (p:Dt->Bool) (f:Ev->Option Bx):Ev->Option Bx:=b1 (λb=>if jW b=true then none else some (.z (.bl (p (toD b))))) f
def gZ:Ev->Option Out:=λρ=>some (.nx ρ)
def iZ (f:Ev->Option Bx):Ev->Option Out:=λρ=>(f ρ).bind Xb
def setG (i:Nat) (f:Ev->Option Bx):Ev->Option Out:=λρ=>(f ρ).bind λb=>(Xc ρ i b).bind λρ'=>some (.nx ρ')
def Xy (gt:Dt->Ev->Option Ev) (f:Ev->Option Bx):Ev->Option Out:=λρ=>(f ρ).bind λb=>match b with|.z d=>(gt d ρ).bind λρ'=>some (.nx ρ')|_=>none
def Vb (i j:Nat) (fs:Ev->Option (List Bx)):Ev->Option Out:=λρ=>(fs ρ).bind (aaL i j ρ)
def Mp (i:Nat) (f:Ev->Option Bx):Ev->Option Out:=λρ=>(f ρ).bind (aaM ρ i)
def nU (fi:Ev->Option (List Dt)) (gt:Dt->Ev->Option Ev) (gb:Ev->Option Out):Ev->Option Out:=λρ=>(fi ρ).bind λds=>qQ gt gb ds ρ
def Z6 (f:Ev->Option Bx):Ev->Option (List Dt):=λρ=>(f ρ).bind Xd
def Gf (f:Ev->Option Bx):Ev->Option (List Dt):=λρ=>(f ρ).bind Xm
def Mq (fs:Ev->Option (List Bx)):Ev->Option (List Dt):=λρ=>(fs ρ).bind aee
def ji (i:Nat):Dt->Ev->Option Ev:=λd ρ=>some (ρ.set i (some (.z d)))
def vX:Ev->Option Bool:=λ_=>some true
theorem dZ:yP X [] vX:=⟨.inl ⟨rfl,rfl⟩⟩
theorem iu (h:QB X c p):yP X [c] p:=⟨have h:=h.run;.inr ⟨c,rfl,h⟩⟩
theorem aex:Gb X scope cl [] []:=trivial
theorem aa0 {xs:LS_} (n:X.N[i]?=some x) (k:X.env.kindOf x=some .cell\/X.env.kindOf x=some .free) (k':(relabel scope X.env).names.lookup x=some .cell\/(relabel scope X.env).names.lookup x=some .free) (c:∃ c,cl.lookup x=some c) (r:Gb X scope cl xs is):Gb X scope cl (x::xs) (i::is):=⟨⟨n,k,k',c⟩,r⟩
theorem mem_of_lookup {names:List (Str×NameKind)} {x:Str} {k:NameKind}:names.lookup x=some k->(x,k)∈names:=ke
theorem aey {xs:LS_} (clos:closureFor scope X.env=pure cl) (kind:scope.kind=.function) (cell:scope.names.all (λy=>decide (y.2≠.cell)||(cl.lookup y.1).isNone)=true) (names:scope.names.all (λy=>decide (y.2=.local->scope.names.lookup y.1=some .local))=true) (sub:SubL X.env.cells cl) (has:(relabel scope X.env).names.all (λy=>!(y.2==.cell||y.2==.free)||(cl.lookup y.1).isSome||scope.names.contains (y.1,.cell))=true) (cap:Gb X scope cl xs is):pR X scope cl xs is where
 clos:=clos
 kind:=kind
 cell:=λy hy hc=>by
  have:=List.all_eq_true.mp cell y hy;simp only[hc,ne_eq,not_true_eq_false,kK,Bool.false_or,Option.isNone_iff_eq_none] at this;exact this
 names:=λy hy=>ka (List.all_eq_true.mp names y hy)
 sub:=sub
 has:=λx hx=>by
  have h:∃ k,(relabel scope X.env).names.lookup x=some k/\(k==NameKind.cell||k==NameKind.free)=true:=by
   rcases hx with hx|hx
   ·exact⟨_,hx,rfl⟩
   ·exact⟨_,hx,rfl⟩
  obtain⟨k,e,hk⟩:=h;have:=List.all_eq_true.mp has _ (mem_of_lookup e);simp only[hk,kz,Bool.false_or,Bool.or_eq_true] at this;rcases this with h|h
  ·exact .inr (Option.isSome_iff_exists.mp h)
  ·exact .inl (List.contains_iff_mem.mp h)
 cap:=cap
theorem Ju {k:Nat} (r:g8 k A):A.units+100 < cLine:=by have:=r.un;omega
theorem aez (h:∀ ns:List Int,ns.length<=63->F [.z (.lst (ns.map .int))]=some (.z (.bl true))) (hl:∀ ns:List Int,ns.length<=63->F [.l (ns.map .int)]=some (.z (.bl true))) (K:FG_) (H:Hp) (a:Addr) (ns:List Int) (hn:ns.length<=63) (_:Only H) (hS:sW K H a (ns.map V.int)) :
  spF K 1 F [.ref a] H (λv _=>v=.bl true) λ_ _ _=>False:=by
 have rs:∀ ms:List Int,aO K H (ms.map Dt.int) (ms.map V.int):=λms=>by
  induction ms with
  |nil=>exact aO.nil
  |cons m ms ih=>exact aO.cons (by unfold Rep;rfl) ih
 have fin:∀ v (H':Hp),Same H H'->Nw H (.z (.bl true)) v->bA K H' (.z (.bl true)) v->v=.bl true:=λv H' _ _ r=>by simpa only[bA,Rep] using r
 rcases hS with hS|hS
 ·exact⟨rfl,[.l (ns.map .int)],_,.cons ⟨a,_,rfl,hS,rs ns⟩ .nil,rfl,hl ns hn,fin⟩
 ·refine⟨rfl,[.z (.lst (ns.map .int))],_,.cons ?_ .nil,rfl,h ns hn,fin⟩;unfold bA Rep;exact⟨a,_,rfl,.inr hS,rs ns⟩
theorem aiK {f:Addr} {k m:Nat} (F:FN K x qual st f fd) (S:bw N ps (aG st)) (hn:N.length=n) (hm:ps.length=m) (hbody:∀ (cdv:Value) (A:Around) (outer:List Env) (s:Shared) (H:Hp) (E:XK),g8 k (A.deeper (envOfC qual (aG st) s.heap.objs.size f cdv))->Wv (sO Cd P w K mg base N qual (aG st) f cdv A outer s H E).Wu (fP st) g) :
  lB P w K mg base Cd (k+1) f fd ps (spF K m (dI n g)):=by
 subst hn hm;exact aiI F S hbody
section
variable {st:Expr} {fs:Ev->Option Bx}
theorem Mr (I:L2.Inv X pins σ H s) (h:H a=some (.dK [])):∃ o,L2.Inv X pins σ (upd H a (.qM o (.dK []))) s:=by
 have hk:=I.hok a _ h;obtain⟨z1,z2,z3,z4,o,z5,z6,e,ex⟩:=hk;refine⟨o,⟨I.ok,I.os,I.bare,⟨I.base.keep,I.base.slot,λb ob q1 q2 q3=>?_,I.base.there,λb xs q=>?_,λb ob u q=>?_,λb ps q=>?_⟩,I.loc,I.cell,?_,λx c q=>?_,λp hp=>?_,?_,I.len⟩⟩
 ·have:=I.base.free b ob q1 q2 q3;rw[aK (bD h this).symm];exact this
 ·have:=I.base.tups b xs q;rw[aK (iW this h (by intro z;cases z))];exact this
 ·have:=I.base.sJ b ob u q;rw[aK (iW this h (by intro z;cases z))];exact this
 ·obtain⟨m,this⟩:=I.base.vQ b ps q;rw[aK (iW this h (by intro z;cases z))];exact⟨m,this⟩
 ·rw[aK (bD h I.free).symm];exact I.free
 ·rw[aK (bD h (I.iU x c q)).symm];exact I.iU x c q
 ·obtain⟨q1,q2,q3⟩:=I.pin p hp;refine⟨q1,?_,q3⟩;rw[aK (bD h q2).symm];exact q2
 ·intro b u q;by_cases hb:b=a
  ·subst hb;rw[bf] at q;cases q;exact⟨e,z1,z2,z3,z4,o,z5,z6,e,ex⟩
  ·rw[aK hb] at q;refine(I.hok b u q).stay (λc v _ w=>w) (λc w=>?_) λc xs w=>?_
   ·rw[aK (iW w h (by intro z;cases z))];exact w
   ·rw[aK (iW w h (by intro z;cases z))];exact w
theorem aeA  : QV X (.Dict [] [] pos) (cB .emp):=⟨by
 intro pins s σ H Q I q;obtain⟨H0,ρ,b,E,e,q⟩:=q;cases e;refine iI (W0 pins s σ H (λv H'=>∃ p,v=.ref p/\H p=none/\H'=upd H p (.dK [])) I λp hp=>⟨p,rfl,hp,rfl⟩) λu s1 hq=>?_;obtain⟨v,H1,I1,rv,p,rfl,hp,rfl⟩:=hq;obtain⟨o,I2⟩:=Mr I1 bf;refine⟨.ref p,_,I2,rv,q _ _ (λc ob hc=>?_) trivial ?_⟩
 ·rw[aK (bD hc hp),aK (bD hc hp)];exact hc
 ·simp only[bA,Rep];exact⟨p,o,rfl,bf⟩⟩
theorem Jv {α β:Type} {f:α->Option β} {g:α->β}:∀ l:List α,(∀ a∈l,f a=some (g a))->l.filterMap f=l.map g
 |[],_=>rfl
 |a::l,h=>by
  rw[kM,h a (zo ..),zr,Jv l λb hb=>h b (zt _ hb)]
end
def ltA:Bx->Bx->Option Bx
 |.z (.int i),.z (.int j)=>some (.z (.bl (decide (i < j))))
 |.z (.str x),.z (.str y)=>some (.z (.bl (decide (x.cps.toList < y.cps.toList))))
 |_,_=>none
theorem Qs:Hi X (compareOp .Lt) ltA:=by
 intro pins s σ H x y v u Q I rx ry h;obtain⟨a,b,c,ra,rb,e,q⟩:=h;unfold ltA at e;split at e
 ·rename_i i j;cases e;exact af9 pins s σ H x y v u Q I rx ry ⟨i,j,Jq ra,Jq rb,q _ H (Same.refl H) trivial (by unfold bA;exact okT)⟩
 ·rename_i i j;cases e;obtain⟨rfl,_⟩:=Px ra;obtain⟨rfl,_⟩:=Px rb;obtain⟨t,rfl⟩:=rx;obtain⟨t',rfl⟩:=ry;exact PySem.P.lt_str ⟨.bl _,H,I,rfl,q _ H (Same.refl H) trivial (by unfold bA;exact okT)⟩
 ·cases e
def CT:List Dt->Option LS_
 |[]=>some []
 |.str x::r=>(CT r).bind λys=>some (x::ys)
 |_=>none
theorem yW {K:FG_} {H:Hp}:∀ {ds:List Dt} {vs:List V} {ys:LS_},aO K H ds vs->CT ds=some ys->vs=ys.map V.str/\∀ y∈ys,y.length<=sizeLine
 |[],_,_,h,e=>by cases e;simp only[aO] at h;subst h;exact⟨rfl,λy hy=>by cases hy⟩
 |.str x::ds,_,_,h,e=>by
  simp only[CT] at e;obtain⟨ys,e1,e2⟩:=bind_some e;cases e2;simp only[aO] at h;obtain⟨v,r,rfl,hd,hr⟩:=h;obtain⟨rfl,hx⟩:v=.str x/\x.length<=sizeLine:=by simpa only[Rep] using hd
  obtain⟨rfl,h2⟩:=yW hr e1;refine⟨rfl,λy hy=>?_⟩;rcases List.mem_cons.mp hy with rfl|hy
  ·exact hx
  ·exact h2 y hy
 |.non::_,_,_,_,e=>by cases e
 |.bl _::_,_,_,_,e=>by cases e
 |.int _::_,_,_,_,e=>by cases e
 |.tup _::_,_,_,_,e=>by cases e
 |.lst _::_,_,_,_,e=>by cases e
 |.emp::_,_,_,_,e=>by cases e
theorem CV {K:FG_} {H:Hp}:∀ {ys:LS_},(∀ y∈ys,y.length<=sizeLine)->aO K H (ys.map Dt.str) (ys.map V.str)
 |[],_=>aO.nil
 |y::ys,h=>aO.cons (by unfold Rep;exact⟨rfl,h y (zo ..)⟩) (CV λz hz=>h z (zt _ hz))
theorem vY:∀ {ys:LS_} {its:List Value},Vals (ys.map V.str) its->StrsAre its ys
 |[],_,h=>by cases h;exact .nil
 |y::ys,_,h=>by
  cases h with
  |cons r t=>
   obtain⟨tk,rfl⟩:=r;exact .cons y tk (vY t)
theorem yX:∀ {its:List Value} {ys:LS_},StrsAre its ys->Vals (ys.map V.str) its
 |_,_,.nil=>.nil
 |_,_,.cons y t h=>.cons ⟨t,rfl⟩ (yX h)
theorem Jw:eE X (.builtin "sorted") (λxs H Q=>∃ p ys,xs=[.ref p]/\sW X.K H p (ys.map V.str)/\ys.length < 64/\∀ l zs,H l=none->zs.Perm ys->sortedS zs=true->Q (.ref l) (upd H l (.lst (zs.map V.str)))):=by
 intro pins s σ H xs us Q I r h;obtain⟨p,ys,rfl,hq,h64,q⟩:=h;obtain⟨u,rfl,rx⟩:=vals1 r;cases rx;obtain⟨its,r',pl,hz⟩:=I.list hq;have hlen:=r'.length;rw[zl] at hlen hz;refine sorted_strs pl.isList (vY r') (by omega) λout zs hs hp agH=>?_;obtain⟨n,en⟩:=sortedAll_at s.heap its out;refine⟨.ref (s.heap.objs.size+1),_,I.laid (t':=s.toks) (a:=s.heap.objs.size+1) (o:=.lst (zs.map V.str)) (λb o e=>sortedAll_old e) (kl _) ?_,rfl,q _ zs (I.hok.fresh (kl _)) hp agH⟩;refine⟨by rw[zl,hp.length_eq];exact hz,out.toList,n,yX hs,?_⟩;rw[en]
def FQ (a b:Str):Prop:=ltCps b.cps.toList a.cps.toList=false
theorem xK:∀ (p:Str) (l:LS_),risingS p l=true->(p::l).Pairwise FQ
 |p,[],_=>by simp
 |p,x::r,h=>by
  have h':(!ltCps x.cps.toList p.cps.toList&&risingS x r)=true:=h;rw[ZE] at h';have ih:=xK x r h'.2;have hx:FQ p x:=by simpa[FQ] using h'.1
  refine List.pairwise_cons.mpr ⟨λy hy=>?_,ih⟩;rcases List.mem_cons.mp hy with rfl|hy
  ·exact hx
  ·have hxy:FQ x y:=JS ih hy;unfold FQ at hx hxy ⊢;rw[ltCps_eq] at hx hxy ⊢;simp only[jv] at hx hxy ⊢;exact List.le_trans (α:=Nat) hx hxy
theorem Jx {l:LS_} (h:sortedS l=true):l.Pairwise FQ:=by
 cases l with
 |nil=>exact .nil
 |cons p l=>exact xK p l h
theorem CW {a b:Str} (h:FQ a b) (h':FQ b a):a=b:=by
 unfold FQ at h h';rw[ltCps_eq] at h h';simp only[jv] at h h';have:=List.le_antisymm (as:=a.cps.toList) (bs:=b.cps.toList) h h';cases a;cases b;simp only[Str.mk.injEq];exact Array.toList_inj.mp this
theorem Jy:∀ {l l':LS_},l.Perm l'->l.Pairwise FQ->l'.Pairwise FQ->l=l'
 |[],l',h,_,_=>by rw[List.nil_perm.mp h]
 |a::l,[],h,_,_=>by cases List.perm_nil.mp h
 |a::l,b::l',h,p,p'=>by
  have e:a=b:=by
   have ha:a∈b::l':=h.mem_iff.mp (zo ..);have hb:b∈a::l:=h.mem_iff.mpr (zo ..);rcases List.mem_cons.mp ha with h1|h1
   ·exact h1
   ·rcases List.mem_cons.mp hb with h2|h2
    ·exact h2.symm
    ·exact CW (JS p h2) (JS p' h1)
  subst e;rw[Jy ((List.perm_cons a).mp h) (List.pairwise_cons.mp p).2 (List.pairwise_cons.mp p').2]
def Vc (a b:Str):Bool:=!ltCps b.cps.toList a.cps.toList
def jT (ys:LS_):LS_:=ys.mergeSort Vc
theorem d7 (ys:LS_):(jT ys).Perm ys:=KW ys Vc
theorem qU (ys:LS_):(jT ys).Pairwise FQ:=by
 have h:=k7 (le:=Vc) (λa b c h1 h2=>by
  unfold Vc at *
  rw[ltCps_eq] at *
  simp only[qB,jv] at *
  exact List.le_trans (α:=Nat) h1 h2) (λa b=>by
  unfold Vc;rw[ltCps_eq,ltCps_eq];simp only[Bool.or_eq_true,qB,jv];exact List.le_total a.cps.toList b.cps.toList) ys
 exact h.imp λ{a b} hh=>by simpa[Vc,FQ] using hh
theorem Xz {ys zs:LS_} (hp:zs.Perm ys) (hs:sortedS zs=true):zs=jT ys:=Jy (hp.trans (d7 ys).symm) (Jx hs) (qU ys)
def zJ:List Bx->Option Bx
 |[b]=>(qj b).bind λds=>(CT ds).bind λys=>if ys.length < 64 then some (.o ((jT ys).map Dt.str)) else none
 |_=>none
theorem yZ:mH X (.builtin "sorted") zJ:=eE.imp Jw λxs H Q q=>by
 obtain⟨bs,c,rb,e,q⟩:=q;unfold zJ at e;split at e
 ·rename_i b;obtain⟨ds,ed,e⟩:=bind_some e;obtain⟨ys,ey,e⟩:=bind_some e;split at e
  ·rename_i h64;cases e;obtain⟨v,rfl,r1⟩:=rep1 rb;obtain⟨p,vs,rfl,sq,rs⟩:=r1.Hh ed;obtain⟨rfl,hy⟩:=yW rs ey;refine⟨p,ys,rfl,sq,h64,λl zs hl hp hs=>?_⟩;rw[Xz hp hs];refine q _ _ (bJ hl) (λa ea=>by cases ea;exact hl) ⟨l,_,rfl,bf,CV λy h=>hy y ((d7 ys).mem_iff.mp h)⟩
  ·cases e
 ·cases e
def Ms (x:Str) (b:Bx):Option Bx:=(qj b).bind λds=>(CT ds).bind λys=>if(ys.map (·.length)).sum+ys.length * x.length<=100000 then some (.z (.str (Txt.join x ys))) else none
theorem aa2:MtR X "str.join" (λx xs H Q=>∃ y p ys,x=.str y/\xs=[.ref p]/\sW X.K H p (ys.map V.str)/\(ys.map (·.length)).sum+ys.length * y.length<=100000/\Q (.str (Txt.join y ys)) H):=by
 intro pins s σ H x xs v us Q I rx rs h;obtain⟨y,p,ys,rfl,rfl,sq,hb,q⟩:=h;obtain⟨t,rfl⟩:=rx;obtain⟨u,rfl,ru⟩:=vals1 rs;cases ru;obtain⟨its,r',pl,hz⟩:=I.list sq;exact join_list pl.isList (vY r') (by omega) λt' k=>⟨.str _,H,I.tok _,⟨_,rfl⟩,q⟩
theorem aa3 {p1:Pos} (h:QV X e f) (hx:x.length<=sizeLine:=by decide) (hbase:attributeBase (.Constant (.str x) j p1) "join" X.env (eval (.Constant (.str x) j p1) X.env)=eval (.Constant (.str x) j p1) X.env:=by rfl) (hfew:((backTo cpos (starEach [e] X.env)).all (λx=>!x.1)&&(backToKw cpos (keywordEach [] X.env)).all (λx=>x.1.isSome)&&decide ([e].length+([]:List Keyword).length+(if([]:List Keyword).isEmpty then 0 else 1) < 30))=true:=by rfl) (hline:(apos.endLine==cpos.line)=true:=by rfl) (hs:starEach [e] X.env=(false,eval e X.env)::starEach [] X.env:=by rfl):QV X (.Call (.Attribute (.Constant (.str x) j p1) "join" apos) [e] [] cpos) (b1 (Ms x) f):=⟨have h:=h.run;FP (acL (T := "str") F.plainAttrs_str F.slot_str_join F.type_str_join aa2 (W6 (hx:=hx)) (Lr h R7 hs) hbase hfew hline hs rfl) λσ H Q q=>by
  obtain⟨H0,ρ,c,E,e,q⟩:=q;obtain⟨a,ea,e⟩:=bind_some e;refine⟨H0,ρ,_,E,rfl,λv H1 s1 n1 r1=>?_⟩;obtain⟨rfl,hx'⟩:v=.str x/\x.length<=sizeLine:=by simpa only[bA,Rep] using r1
  refine⟨rfl,H0,ρ,[a],E.grow s1,by simp only[aq,ea,kf],λvs H2 s2 r2=>?_⟩;obtain⟨w,rfl,rw1⟩:=rep1 r2;unfold Ms at e;obtain⟨ds,ed,e⟩:=bind_some e;obtain⟨ys,ey,e⟩:=bind_some e;split at e
  ·rename_i hb;cases e;obtain⟨p,ws,rfl,sq,rs⟩:=rw1.Hh ed;obtain⟨rfl,hy⟩:=yW rs ey;refine⟨x,p,ys,rfl,rfl,sq,hb,q _ _ (s1.trans s2) trivial ?_⟩;unfold bA Rep;exact⟨rfl,joinOk_length (joinOk_of (by omega))⟩
  ·cases e⟩
def aa4:List Bx->Option Bx
 |[.z (.str x)]=>some (.z (.str x))
 |[.z (.int i)]=>if i.natAbs<=1000000 then some (.z (.str (Str.ofString (toString i)))) else none
 |_=>none
theorem aeB:mH X (.type "str") aa4:=by
 intro pins s σ H xs us Q I r h;obtain⟨bs,c,rb,e,q⟩:=h;unfold aa4 at e;split at e
 ·rename_i x;cases e;obtain⟨v,rfl,r1⟩:=rep1 rb;obtain⟨rfl,hx⟩:=Px r1;obtain⟨u,rfl,ru⟩:=vals1 r;obtain⟨t,rfl⟩:=ru;exact PySem.P.str_of_str ⟨.str x,H,I,⟨t,rfl⟩,q _ H (Same.refl H) trivial r1⟩
 ·rename_i i;split at e
  ·rename_i hi;cases e;obtain⟨v,rfl,r1⟩:=rep1 rb;have hv:=Jq r1;subst hv;obtain⟨u,rfl,ru⟩:=vals1 r;obtain⟨t,rfl⟩:=ru;have aiL:i.natAbs.log2 < 1920:=by
    have:i.natAbs < 2 ^ 20:=by omega
    have h2:i.natAbs.log2 < 20:=by
     by_cases h0:i.natAbs=0
     ·rw[h0];decide
     ·exact(Nat.log2_lt h0).mpr this
    omega
   refine PySem.P.str_of_int aiL ⟨.str _,H,I.tok _,⟨_,rfl⟩,q _ H (Same.refl H) trivial ?_⟩;have hl:=len_str_of_int i;unfold bA Rep;refine⟨rfl,?_⟩;have:(Str.ofString (toString i)).length<=1000002:=by omega
   exact Zp this (by decide)
  ·cases e
 ·cases e
def Gg:List Bx->Option Bx
 |[.z (.int a),.z (.int b)]=>some (.z (.int (if b > a then b else a)))
 |_=>none
def Vd:List Bx->Option Bx
 |[.z (.int a),.z (.int b)]=>some (.z (.int (if b < a then b else a)))
 |_=>none
theorem Sv {a:Bx} (h:ql K H [a,b] vs):∃ v w,vs=[v,w]/\bA K H a v/\bA K H b w:=by
 cases h with
 |cons p t=>
  cases t with
  |cons p' t'=>cases t';exact⟨_,_,rfl,p,p'⟩
theorem za (hc:X.calm=true):mH X (.builtin "max") Gg:=by
 intro pins s σ H xs us Q I r h;obtain⟨bs,c,rb,e,q⟩:=h;unfold Gg at e;split at e
 ·rename_i a b;cases e;obtain⟨v,w,rfl,r1,r2⟩:=Sv rb;have hv:=Jq r1;have hw:=Jq r2;subst hv hw;obtain⟨u,u',rfl,ru,ru'⟩:=Vals.two r;obtain⟨t,rfl⟩:=ru;obtain⟨t',rfl⟩:=ru';refine max_two_ints (I.ok.hd hc) λh' tk kp=>?_;by_cases hb:b > a
  ·rw[zi hb] at q ⊢;exact⟨.int b,H,I.kept kp,⟨_,rfl⟩,q _ H (Same.refl H) trivial Cz⟩
  ·rw[zC hb] at q ⊢;exact⟨.int a,H,I.kept kp,⟨_,rfl⟩,q _ H (Same.refl H) trivial Cz⟩
 ·cases e
theorem XC (hc:X.calm=true):mH X (.builtin "min") Vd:=by
 intro pins s σ H xs us Q I r h;obtain⟨bs,c,rb,e,q⟩:=h;unfold Vd at e;split at e
 ·rename_i a b;cases e;obtain⟨v,w,rfl,r1,r2⟩:=Sv rb;have hv:=Jq r1;have hw:=Jq r2;subst hv hw;obtain⟨u,u',rfl,ru,ru'⟩:=Vals.two r;obtain⟨t,rfl⟩:=ru;obtain⟨t',rfl⟩:=ru';refine min_two_ints (I.ok.hd hc) λh' tk kp=>?_;by_cases hb:b < a
  ·rw[zi hb] at q ⊢;exact⟨.int b,H,I.kept kp,⟨_,rfl⟩,q _ H (Same.refl H) trivial Cz⟩
  ·rw[zC hb] at q ⊢;exact⟨.int a,H,I.kept kp,⟨_,rfl⟩,q _ H (Same.refl H) trivial Cz⟩
 ·cases e
def CZ (kvs:List (Key×Dt)) (x:Key):Option Dt:=(kvs.find? λkv=>decide (kv.1=x)).map (·.2)
def Jz (kvs:List (Key×Dt)) (x:Key) (d:Dt):List (Key×Dt):=
 if(kvs.any λkv=>decide (kv.1=x))=true then kvs.map (λkv=>if kv.1=x then(kv.1,d) else kv) else kvs++[(x,d)]
theorem fK.nil:fK K H [] []:=⟨rfl,aO.nil,λp hp=>by cases hp⟩
theorem fK.inv {p:Key×Dt} {ks:List (Key×V)} (h:fK K H (p::kvs) ks):∃ v r,ks=(p.1,v)::r/\Rep K H p.2 v/\okK p.1/\fK K H kvs r:=by
 obtain⟨h1,h2,h3⟩:=h;cases ks with
 |nil=>simp at h1
 |cons q r=>
  simp only[zr,ku] at h1;obtain⟨e,h1⟩:=h1;simp only[zr,aO] at h2;obtain⟨v,r',e2,hv,hr⟩:=h2;simp only[ku] at e2;obtain⟨rfl,rfl⟩:=e2;exact⟨q.2,r,by rw[<-e],hv,h3 p (zo ..),h1,hr,λx hx=>h3 x (zt _ hx)⟩
theorem fK.cons {p:Key×Dt} {kvs:List (Key×Dt)} {v:V} {r:List (Key×V)} (hv:Rep K H p.2 v) (hp:okK p.1) (h:fK K H kvs r):fK K H (p::kvs) ((p.1,v)::r):=
 ⟨by simp[h.1],aO.cons hv h.2.1,λx hx=>by
  rcases List.mem_cons.mp hx with rfl|hx
  ·exact hp
  ·exact h.2.2 x hx⟩
theorem fK.append {kvs:List (Key×Dt)} {ks:List (Key×V)} {x:Key} {d:Dt} {v:V} (h:fK K H kvs ks) (hv:Rep K H d v) (hx:okK x):fK K H (kvs++[(x,d)]) (ks++[(x,v)]):=
 ⟨by simp[h.1],by rw[ja,ja];exact aO.append h.2.1 (aO.cons hv aO.nil),λp hp=>by
  rcases List.mem_append.mp hp with hp|hp
  ·exact h.2.2 p hp
  ·cases List.mem_singleton.mp hp;exact hx⟩
theorem fK.len {ks:List (Key×V)} (h:fK K H kvs ks):ks.length=kvs.length:=by
 have:=congrArg List.length h.1;simpa using this
theorem fK.look:∀ {kvs:List (Key×Dt)} {ks:List (Key×V)} {x:Key} {d:Dt},fK K H kvs ks->CZ kvs x=some d->∃ v,Ca ks x=some v/\Rep K H d v
 |[],_,_,_,_,e=>by cases e
 |p::kvs,_,x,d,h,e=>by
  obtain⟨v,r,rfl,hv,hpl,hr⟩:=h.inv;unfold CZ at e;by_cases hp:p.1=x
  ·rw[List.find?_cons_of_pos (by simpa using hp)] at e;cases e;exact⟨v,wQ (by rw[hp]),hv⟩
  ·rw[List.find?_cons_of_neg (by simpa using hp)] at e;obtain⟨w,e1,e2⟩:=fK.look hr e;exact⟨w,(wR (by simpa using hp)).trans e1,e2⟩
theorem fK.any:∀ {kvs:List (Key×Dt)} {ks:List (Key×V)} {x:Key},fK K H kvs ks->(ks.any λkv=>decide (kv.1=x))=kvs.any λkv=>decide (kv.1=x)
 |[],ks,_,h=>by
  have:=h.len;cases ks with
  |nil=>rfl
  |cons _ _=>simp at this
 |p::kvs,_,x,h=>by
  obtain⟨v,r,rfl,hv,hpl,hr⟩:=h.inv;rw[kb,kb,fK.any hr]
theorem fK.XD:∀ {kvs:List (Key×Dt)} {ks:List (Key×V)} {x:Key} {d:Dt} {v:V},fK K H kvs ks->Rep K H d v->fK K H (kvs.map λkv=>if kv.1=x then(kv.1,d) else kv) (ks.map λkv=>if kv.1=x then(kv.1,v) else kv)
 |[],ks,_,_,_,h,_=>by
  have:=h.len;cases ks with
  |nil=>exact fK.nil
  |cons _ _=>simp at this
 |p::kvs,_,x,d,v,h,hd=>by
  obtain⟨w,r,rfl,hw,hpl,hr⟩:=h.inv;rw[zr,zr];have ih:=fK.XD (x:=x) hr hd;by_cases hp:p.1=x
  ·rw[zi hp,zi (by simp[hp])];exact fK.cons (p:=(p.1,d)) hd hpl ih
  ·rw[zC hp,zC (by simpa using hp)];exact fK.cons hw hpl ih
theorem fK.put {ks:List (Key×V)} {x:Key} {v:V} (h:fK K H kvs ks) (hv:Rep K H d v) (hx:okK x):fK K H (Jz kvs x d) (putK ks x v):=by
 unfold Jz putK;rw[h.any];split
 ·exact h.XD hv
 ·exact h.append hv hx
section
variable {ek o:Expr} {pos':Pos}
def kyB:Bx->Option Key
 |.z (.str x)=>some (.inr x)
 |.z (.int i)=>some (.inl i)
 |_=>none
theorem Sw {k:Key} {v:V} (e:kyB b=some k) (r:bA K H b v):v=kV k/\okK k:=by
 unfold kyB at e;split at e
 ·cases e;simp only[bA,Rep] at r;exact r
 ·cases e;simp only[bA,Rep] at r;exact⟨r,trivial⟩
 ·cases e
def tY:Bx->Bx->Option Bx
 |.n kvs,b=>(kyB b).bind λk=>(CZ kvs k).bind λd=>some (.z d)
 |_,_=>none
theorem Qt {a c:Bx} (h:tY a b=some c):∃ kvs k d,a=.n kvs/\kyB b=some k/\CZ kvs k=some d/\c=.z d:=by
 unfold tY at h;split at h
 ·obtain⟨k,ek,h⟩:=bind_some h;obtain⟨d,ed,h⟩:=bind_some h;cases h;exact⟨_,k,d,rfl,ek,ed,rfl⟩
 ·cases h
theorem uN (hu:X.A.units+100 < cLine) (ho:QV X o fo) (hk:QV X ek fk) (hs:ad7 ek:=by intro _ _;rfl):QV X (.Subscript o ek pos) (b2 tY fo fk):=⟨have ho:=ho.run;have hk:=hk.run;FP (aay (by omega) ho hk hs) λσ H Q h=>by
 obtain⟨H0,ρ,c,E,e,q⟩:=h;obtain⟨a,ea,e⟩:=bind_some e;obtain⟨b,eb,e⟩:=bind_some e;refine⟨H0,ρ,a,E,ea,λv H1 s1 n1 r1=>⟨H0,ρ,b,E.grow s1,eb,λw H2 s2 n2 r2=>?_⟩⟩;obtain⟨kvs,x,d,rfl,ekx,ed,rfl⟩:=Qt e;obtain⟨p,ks,rfl,rd,rm⟩:=r1.same s2;obtain⟨v',ev,rv⟩:=rm.look ed;obtain⟨rfl,_⟩:=Sw ekx r2;exact⟨p,v',rfl,.inl ⟨ks,x,rd,rfl,ev.symm⟩,q _ _ (s1.trans s2) trivial rv⟩⟩
def Mt (ρ:Ev) (i:Nat):Bx->Bx->Option Out
 |.z d,b=>(kyB b).bind λx=>match ρ[i]? with
  |some (some (.m kvs w))=>if kvs.length < 1000 then some (.nx (ρ.set i (some (.m (Jz kvs x d) w)))) else none
  |_=>none
 |_,_=>none
def XF (i:Nat) (f fk:Ev->Option Bx):Ev->Option Out:=λρ=>(f ρ).bind λb=>(fk ρ).bind λk=>Mt ρ i b k
theorem Qu {k:Bx} {r:Out} (h:Mt ρ i b k=some r):∃ d y kvs w,b=.z d/\kyB k=some y/\ρ[i]?=some (some (.m kvs w))/\kvs.length < 1000/\r=.nx (ρ.set i (some (.m (Jz kvs y d) w))):=by
 unfold Mt at h;split at h
 ·obtain⟨y,ey,h⟩:=bind_some h;split at h
  ·rename_i hρ;split at h
   ·rename_i hl;cases h;exact⟨_,y,_,_,rfl,ey,hρ,hl,rfl⟩
   ·cases h
  ·cases h
 ·cases h
theorem aa5 (i:Nat) {p:Pos} (hu:X.A.units+100 < cLine) (he:QV X e f) (hk:QV X ek fk) (hN:X.N[i]?=some x:=by rfl) (hv:Z2 X.env.scope x:=by first|exact kR rfl|exact JP (kR rfl)|exact JP (JP rfl)) (hd:(x==("__debug__" : Str))=false:=by decide) (hcd:(x==("__classdict__" : Str))=false:=by decide) (hs:swapsWith e (some (.Subscript (.Name x p) ek pos')) pos.line X.env=pure false:=by rfl):Qh X (.Assign [.Subscript (.Name x p) ek pos'] e pos) (λρ=>(f ρ).bind λb=>(fk ρ).bind λk=>Mt ρ i b k):=⟨have he:=he.run;have hk:=hk.run;R6 (aaz (by omega) (vR (i:=i) hN hv hd hcd) hk he hs) λD σ H h=>by
  obtain⟨H0,ρ,r,E,e,q⟩:=h;obtain⟨b,eb,e⟩:=bind_some e;obtain⟨k,ek,e⟩:=bind_some e;refine⟨H0,ρ,b,E,eb,λv H1 s1 n1 r1=>?_⟩;obtain⟨d,y,kvs,w0,rfl,eky,hρ,hl,rfl⟩:=Qu e;have E1:=E.grow s1;obtain⟨w,e1,a,ks,rfl,ha,rm,tie⟩:=E1.val i _ hρ;refine⟨_,e1,H0,ρ,_,E1,ek,λu H2 s2 n2 r2=>?_⟩;obtain⟨rfl,hyl⟩:=Sw eky r2;have E2:=E1.grow s2;have ha2:=s2 _ _ ha;have kp:Kp H2 (upd H2 a (.dK (putK ks y v))):=.dk ha2;refine⟨a,_,rfl,WX.k (k:=y) ha2 (by rw[rm.len];exact Nat.lt_trans hl (by decide)),q _ _ ?_⟩;exact E2.agw hρ rfl e1 kp ⟨a,_,rfl,bf,((rm.kp (.of s2)).put (x:=y) (bA.same s2 r1) hyl).kp kp,tie⟩⟩
end
section
variable {a b:Expr} {fs:Ev->Option (List Bx)}
theorem jD {j} (hx:x.length<=sizeLine:=by decide):QV X (.Constant (.str x) j pos) (cB (.str x)):=⟨P1.W6 (hx:=hx)⟩
end
section
variable {a b:Expr} {fs:Ev->Option (List Bx)}
variable {rest:List Expr}
theorem aj (h1:QV X e f) (h2:UW X es fs) (hs:starEach (e::es) X.env=(false,eval e X.env)::starEach es X.env:=by rfl):UW X (e::es) (aq f fs):=⟨P1.Lr (h1:=h1.run) (h2:=h2.run) (hs:=hs)⟩
theorem aA  : UW X [] (λ_=>some []):=⟨P1.R7 ⟩
end
theorem aiM {f:Addr} {k m:Nat} (F:FN K x qual st f fd) (S:bw N ps (aG st)) (hn:N.length=n) (hm:ps.length=m) (hbody:∀ (cdv:Value) (A:Around) (outer:List Env) (s:Shared) (H:Hp) (E:XK),g8 k (A.deeper (envOfC qual (aG st) s.heap.objs.size f cdv))->Wi (sO Cd P w K mg base N qual (aG st) f cdv A outer s H E).Wu (fP st) g) :
  lB P w K mg base Cd (k+1) f fd ps (spF K m (dI n g)):=aiK F S hn hm λcdv A outer s H E hr=>(hbody cdv A outer s H E hr).run
theorem zK:∀ (vs:List Value) (ys:LS_),vs.length=ys.length->(∀ (j:Nat) v,vs[j]?=some v->∃ y t,ys[j]?=some y/\v=.str y t)->StrsAre vs ys
 |[],[],_,_=>.nil
 |v::vs,y::ys,hl,h=>by
  obtain⟨y',t,e,rfl⟩:=h 0 v rfl;cases e;exact .cons y t (zK vs ys (by simpa using hl) λj v hv=>h (j+1) v (by simpa using hv))
theorem Qv {kvs:List (Key×Value)} {ys:LS_} (hk:kvs.map (·.1)=ys.map Sum.inr) {acc:Array Value} (h:ItemsOf (λi v=>∃ k x,kvs[i]?=some (k,x)/\(bx prog w).is k v=true) acc kvs.length):StrsAre acc.toList ys:=by
 have hl:kvs.length=ys.length:=by have:=congrArg List.length hk;simpa using this
 refine zK _ _ (by rw[qh,h.1,hl]) λj v hv=>?_;obtain⟨k,x,e,hi⟩:=h.2 j v (by simpa using hv);have e1:(kvs.map (·.1))[j]?=some k:=by rw[Zl,e];rfl
 rw[hk,Zl] at e1;cases hy:ys[j]? with
 |none=>rw[hy] at e1;cases e1
 |some y=>
  rw[hy] at e1;cases e1;have hi':jz (Sum.inr y) v=true:=hi;rcases bI hi' with⟨i,t,e2,e3⟩|⟨z,t,e2,e3⟩
  ·cases e2
  ·cases e2;exact⟨_,t,rfl,e3⟩
def Ve:List (Key×Dt)->Option LS_
 |[]=>some []
 |(.inr x,_)::r=>(Ve r).bind λys=>some (x::ys)
 |(.inl _,_)::_=>none
theorem uO:∀ {kvs:List (Key×Dt)} {ys:LS_},Ve kvs=some ys->kvs.map (·.1)=ys.map Sum.inr
 |[],_,e=>by cases e;rfl
 |(.inr x,_)::r,_,e=>by
  obtain⟨ys,e1,e⟩:=bind_some e;cases e;rw[zr,zr,uO e1]
 |(.inl _,_)::_,_,e=>by cases e
theorem aa6 {ys:LS_} (e:Ve kvs=some ys) (h:∀ p∈kvs,okK p.1) (y:Str) (hy:y∈ys):y.length<=sizeLine:=by
 have:(Sum.inr y:Key)∈kvs.map (·.1):=by rw[uO e];exact List.mem_map.mpr ⟨y,hy,rfl⟩
 obtain⟨p,hp,ep⟩:=List.mem_map.mp this;have:=h p hp;rw[ep] at this;exact this
theorem Sx:∀ {ks:List (Key×V)} {vs:List (Key×Value)},KV ks vs->vs.map (·.1)=ks.map (·.1)
 |_,_,.nil=>rfl
 |_,_,.cons h t=>by rw[zr,zr,Sx t,h.1]
theorem bL.agI (E:bL K H0 H σ ρ) (i:Nat):bL K H0 H σ (ρ.set i none):=by
 have back:∀ (j:Nat) (b:Bx),(ρ.set i none)[j]?=some (some b)->ρ[j]?=some (some b):=λj b e=>by
  rw[Kn] at e;split at e
  ·split at e<;>cases e
  ·exact e
 refine⟨by rw[JY];exact E.len,λj b e=>E.val j b (back j b e),λj k c a b e1 ec e2 e3 e4 e5=>E.own j k c a b (back _ _ e1) ec e2 (back _ _ e3) e4 e5,E.base,λj c a e1 ec e2=>E.new j c a (back _ _ e1) ec e2⟩
def kill (is:List Nat) (ρ:Ev):Ev:=is.foldl (λρ i=>ρ.set i none) ρ
theorem bL.kill {K:FG_} {H0 H:Hp} {σ:L2.St}:∀ (is:List Nat) {ρ:Ev},bL K H0 H σ ρ->bL K H0 H σ (P1.kill is ρ)
 |[],_,E=>E
 |i::is,_,E=>bL.kill is (E.agI i)
def dR (is:List Nat):Ev->Option Out:=λρ=>some (.nx (kill is ρ))
theorem XH {ss:List Stmt} (is:List Nat) (h:Wv X ss g):Wv X ss (aJ g (dR is)):=ad9 h λD σ H q=>by
 obtain⟨H0,ρ,r,E,e,q⟩:=q;obtain⟨r1,e1,e⟩:=bind_some e;refine⟨H0,ρ,r1,E,e1,?_⟩;cases r1 with
 |nx ρ1=>cases e;exact λσ' H' E'=>q σ' H' (E'.kill is)
 |rt b=>cases e;exact q
 |bk b=>cases e;exact q
 |ct b=>cases e;exact q
theorem bK {ss:List Stmt} (is:List Nat) (h:Wi X ss g):Wi X ss (aJ g (dR is)):=⟨XH is h.run⟩
end P1
namespace S1
section
variable (rk:Value->Nat)
def at_ (xs:Array Keyed) (i:Nat):Nat:=match xs[i]? with
 |some p=>rk p.1
 |none=>0
def Up (xs:Array Keyed) (k:Nat):Prop:=∀ i j,i<=j->j < k->at_ rk xs i<=at_ rk xs j
def Down (xs:Array Keyed) (k:Nat):Prop:=∀ i j,i<=j->j < k->at_ rk xs j<=at_ rk xs i
structure Bs (kd:SortKind) (b:Array Keyed) (st:SortSt):Prop where
 pm:(arrOf st).Perm b
 kd:kindOf st=kd
 fl:failedOf st=none
 pd:pendingOf st=#[]
variable {rk} {kd:SortKind} {b:Array Keyed}
theorem Bs.sz {st:SortSt} (h:Bs kd b st):(arrOf st).size=b.size:=h.pm.size_eq
theorem Bs.arr {st:SortSt} {xs:Array Keyed} (h:Bs kd b st) (hp:xs.Perm (arrOf st)):Bs kd b (PyProof.Rows.setArr st xs):=⟨hp.trans h.pm,h.kd,h.fl,h.pd⟩
theorem tZ {xs ys:Array Keyed} (h:xs[i]?=ys[j]?):at_ rk xs i=at_ rk ys j:=by unfold at_;rw[h]
theorem XJ {xs:Array Keyed} {p d:Nat} (hs:p < xs.size) (hd:d<=p) (k:Nat):at_ rk (bubble xs p d) k=if k=p - d then at_ rk xs p else if p - d < k/\k<=p then at_ rk xs (k - 1) else at_ rk xs k:=by
 have e:=getElem?_bubble hs d hd k;by_cases q:k=p - d
 ·simp only[zi q] at e ⊢;exact tZ e
 ·simp only[zC q] at e ⊢;by_cases q2:p - d < k/\k<=p
  ·simp only[zi q2] at e ⊢;exact tZ e
  ·simp only[zC q2] at e ⊢;exact tZ e
theorem Qw {xs:Array Keyed} (hj:j<=xs.size) (k:Nat):at_ rk (mirror xs i j ((j - i) / 2)) k=if i<=k/\k < j then at_ rk xs (i+j - 1 - k) else at_ rk xs k:=by
 have e:=getElem?_mirror_all (i:=i) hj k;by_cases q:i<=k/\k < j
 ·simp only[zi q] at e ⊢;exact tZ e
 ·simp only[zC q] at e ⊢;exact tZ e
theorem xM {xs:Array Keyed} (hj:j<=xs.size) (he:∀ k,i<=k->k < j->at_ rk xs k=at_ rk xs (j - 1)) (k:Nat):at_ rk (mirror xs i j ((j - i) / 2)) k=at_ rk xs k:=by
 rw[Qw hj];by_cases q:i<=k/\k < j
 ·rw[zi q,he (i+j - 1 - k) (by omega) (by omega),he k q.1 q.2]
 ·rw[zC q]
end
section
variable {b:Array Keyed} {kd:SortKind} {rk:Value->Nat}
def Wj (prog:Program) (w:World) (A:Around) (s:Shared) (kd:SortKind) (rk:Value->Nat) (b:Array Keyed):Prop:=
 ∀ (E:VP_) (p q:Keyed) (Q:Bool->Shared->Prop),p∈b.toList->q∈b.toList->Q (decide (rk p.1 < rk q.1)) s->wpAny (model prog w) A (keyLt' kd p.1 q.1) Q E s
theorem Mu {st:SortSt} {Q:Option Bool->SortSt->Prop} (hC:Wj prog w A s kd rk b) (B:Bs kd b st) (hi:i < b.size) (hj:j < b.size) (h:Q (some (decide (at_ rk (arrOf st) i < at_ rk (arrOf st) j))) st):wpS (model prog w) A E s (ltAt' i j) Q st:=by
 have get:∀ k,k < b.size->∃ p,(arrOf st)[k]?=some p/\p∈b.toList:=λk hk=>by
  have hk':k < (arrOf st).size:=by rw[B.sz];exact hk
  exact⟨(arrOf st)[k],getElem?_pos _ k hk',(Array.perm_iff_toList_perm.mp B.pm).mem_iff.mp (by simp)⟩
 obtain⟨p,e1,m1⟩:=get i hi;obtain⟨q,e2,m2⟩:=get j hj;have h:Q (some (decide (rk p.1 < rk q.1))) st:=by unfold at_ at h;rw[e1,e2] at h;exact h
 rw[ltAt'_eq];refine wpS_bind (wpS_get ?_);show wpS _ _ _ _ (elem' (arrOf st) i >>= λx=>elem' (arrOf st) j >>= λy=>lt' x y) Q st;rw[elem'_eq,elem'_eq,e1,e2];refine wpS_bind (wpS_pure ?_);refine wpS_bind (wpS_pure ?_);rw[lt'_eq];refine wpS_bind (wpS_get ?_);rw[B.kd];exact wpS_bind (wpS_lift (ym (hC _ p q _ m1 m2 ⟨rfl,wpS_pure h⟩)))
theorem asc {st:SortSt} {a:Nat} {Q:AscSt->SortSt->Prop} (hC:Wj prog w A s kd rk b) (hn:n<=b.size) (ha:1<=a) (han:a<=n) (B:Bs kd b st) (hs:Up rk (arrOf st) a) (h:∀ m,a<=m->m<=n->Up rk (arrOf st) m->(m=n\/at_ rk (arrOf st) m < at_ rk (arrOf st) (m - 1))->Q (none,m) st):wpS (model prog w) A E s (ascLoop a n) Q st:=by
 unfold ascLoop;refine wpS_forRange (I:=λx c t=>t=st/\c=(none,x)/\Up rk (arrOf st) x) ?_ ?_ ⟨rfl,rfl,hs⟩
 ·rintro x c t hax hxn ⟨rfl,rfl,up⟩;refine wpS_bind (Mu hC B (by omega) (by omega) ?_);by_cases q:at_ rk (arrOf t) x < at_ rk (arrOf t) (x - 1)
  ·simp only[q,KI,qS];exact wpS_pure (h x hax (by omega) up (.inr q))
  ·simp only[q,kK,zk,ZI];refine wpS_pure ⟨rfl,rfl,λi j hij hj=>?_⟩;by_cases hx:j < x
   ·exact up i j hij hx
   ·have e:j=x:=by omega
    subst e;by_cases hi:i=j
    ·rw[hi];exact zg _
    ·have:=up i (j - 1) (by omega) (by omega);omega
 ·rintro c t ⟨rfl,rfl,up⟩;rw[show max a n=n by omega] at up ⊢;exact h n han (zg _) up (.inl rfl)
theorem t3 {st:SortSt} {m:Nat} {Q:Option Nat->SortSt->Prop} (hC:Wj prog w A s kd rk b) (hn:n<=b.size) (h1:1<=m) (hmn:m<=n) (B:Bs kd b st) (hs:Down rk (arrOf st) m) (h:∀ k t,Bs kd b t->1<=k->k<=n->Up rk (arrOf t) k->Q (some k) t):wpS (model prog w) A E s (tail3 m n) Q st:=by
 unfold tail3;have hz:m<=(arrOf st).size:=by rw[B.sz];omega
 refine wpS_bind (wpS_reverse ?_);have B':Bs kd b (PyProof.Rows.setArr st (mirror (arrOf st) 0 m ((m - 0) / 2))):=B.arr (mirror_perm _ _ _ _);refine wpS_bind (asc hC hn h1 hmn B' (λi j hij hj=>?_) λk k1 k2 up _=>wpS_pure (h k _ B' (by omega) k2 up));show at_ rk (mirror (arrOf st) 0 m ((m - 0) / 2)) i<=at_ rk (mirror (arrOf st) 0 m ((m - 0) / 2)) j;rw[Qw hz,Qw hz,zi ⟨by omega,by omega⟩,zi ⟨by omega,by omega⟩];exact hs _ _ (by omega) (by omega)
theorem dsc {st:SortSt} {m:Nat} {Q:DescSt->SortSt->Prop} (hC:Wj prog w A s kd rk b) (hn:n<=b.size) (h1:1<=m) (hmn:m<=n) (B:Bs kd b st) (hs:Down rk (arrOf st) m) (h:∀ k e t,Bs kd b t->m<=k->k<=n->Down rk (arrOf t) k->e+1<=k->(∀ i,k - (e+1)<=i->i < k->at_ rk (arrOf t) i=at_ rk (arrOf t) (k - 1))->Q (none,k,e) t):wpS (model prog w) A E s (descLoop m n) Q st:=by
 unfold descLoop;refine wpS_forRange (I:=λx c t=>∃ e,c=(none,x,e)/\Bs kd b t/\Down rk (arrOf t) x/\e+1<=x/\∀ i,x - (e+1)<=i->i < x->at_ rk (arrOf t) i=at_ rk (arrOf t) (x - 1)) ?_ ?_ ⟨0,rfl,B,hs,by omega,λi q1 q2=>by rw[show i=m - 1 by omega]⟩
 ·rintro x c t hax hxn ⟨e,rfl,B',dn,he,eq⟩;have hz:x<=(arrOf t).size:=by rw[B'.sz];omega
  have grow:∀ xs:Array Keyed,(∀ k,at_ rk xs k=at_ rk (arrOf t) k)->at_ rk (arrOf t) x<=at_ rk (arrOf t) (x - 1)->Down rk xs (x+1):=λxs hk hl i j hij hj=>by
   rw[hk,hk];by_cases hx:j < x
   ·exact dn i j hij hx
   ·have ej:j=x:=by omega
    subst ej;by_cases hi:i=j
    ·rw[hi];exact zg _
    ·have:=dn i (j - 1) (by omega) (by omega);omega
  dsimp only;refine wpS_bind (Mu hC B' (by omega) (by omega) ?_);by_cases q:at_ rk (arrOf t) x < at_ rk (arrOf t) (x - 1)
  ·simp only[q,KI,qS];by_cases h0:e > 0
   ·rw[zi h0];exact wpS_bind (wpS_reverse (wpS_pure ⟨0,rfl,B'.arr (mirror_perm _ _ _ _),grow _ (xM hz eq) (by omega),by omega,λi q1 q2=>by rw[show i=x by omega];rfl⟩))
   ·rw[zC h0];exact wpS_pure ⟨0,rfl,B',grow _ (λ_=>rfl) (by omega),by omega,λi q1 q2=>by rw[show i=x by omega];rfl⟩
  ·simp only[q,kK,zk,ZI];refine wpS_bind (Mu hC B' (by omega) (by omega) ?_);by_cases q2:at_ rk (arrOf t) (x - 1) < at_ rk (arrOf t) x
   ·simp only[q2,KI,qS];exact wpS_pure (h x e t B' hax (by omega) dn he eq)
   ·simp only[q2,kK,zk,ZI];refine wpS_pure ⟨e+1,rfl,B',grow _ (λ_=>rfl) (by omega),by omega,λi q3 q4=>?_⟩;rw[show x+1 - 1=x by omega];by_cases hi:i=x
    ·rw[hi]
    ·rw[eq i (by omega) (by omega)];omega
 ·rintro c t ⟨e,rfl,B',dn,he,eq⟩;rw[show max m n=n by omega] at dn he eq ⊢;exact h n e t B' hmn (zg _) dn he eq
theorem acX {st:SortSt} {m:Nat} {Q:Option Nat->SortSt->Prop} (hC:Wj prog w A s kd rk b) (hn:n<=b.size) (hmn:m+1<=n) (B:Bs kd b st) (hs:Down rk (arrOf st) (m+1)) (h:∀ k t,Bs kd b t->1<=k->k<=n->Up rk (arrOf t) k->Q (some k) t):wpS (model prog w) A E s (descPart m n) Q st:=by
 unfold descPart;refine wpS_bind (wpS_lift (kU ⟨rfl,?_⟩));refine wpS_bind (dsc hC hn (by omega) hmn B hs λk e t B' k1 k2 dn he eq=>?_);have hz:k<=(arrOf t).size:=by rw[B'.sz];omega
 by_cases h0:e > 0
 ·simp only[zi h0];refine wpS_bind (wpS_reverse (t3 hC hn (by omega) k2 (B'.arr (mirror_perm _ _ _ _)) (λi j hij hj=>?_) h));show at_ rk (mirror (arrOf t) _ _ _) j<=at_ rk (mirror (arrOf t) _ _ _) i;rw[xM hz eq,xM hz eq];exact dn i j hij hj
 ·simp only[zC h0];exact t3 hC hn (by omega) k2 B' dn h
theorem aiN {st:SortSt} {Q:Option Nat->SortSt->Prop} (hC:Wj prog w A s kd rk b) (hn:n<=b.size) (h1:1<=n) (B:Bs kd b st) (h:∀ k t,Bs kd b t->1<=k->k<=n->Up rk (arrOf t) k->Q (some k) t):wpS (model prog w) A E s (countRun' 0 n) Q st:=by
 rw[countRun0_eq];refine wpS_bind (asc hC hn (zg 1) h1 B (λi j hij hj=>by rw[show i=j by omega];exact zg _) λm m1 m2 up or=>?_);by_cases hm:m=n
 ·simp only[zi (show(m==n)=true by simpa using hm)];exact wpS_pure (h m st B m1 m2 up)
 ·simp only[zC (show ¬ (m==n)=true by simpa using hm)];have lt:=or.resolve_left hm;have hz:m<=(arrOf st).size:=by rw[B.sz];omega
  by_cases g1:m > 1
  ·rw[zi g1];refine wpS_bind (Mu hC B (by omega) (by omega) ?_);by_cases q:at_ rk (arrOf st) 0 < at_ rk (arrOf st) (m - 1)
   ·simp only[q,KI,qS];exact wpS_pure (h m st B m1 m2 up)
   ·simp only[q,kK,zk,ZI];have all:∀ k,0<=k->k < m->at_ rk (arrOf st) k=at_ rk (arrOf st) (m - 1):=λk _ hk=>by
     have a1:=up 0 k (by omega) hk;have a2:=up k (m - 1) (by omega) (by omega);omega
    refine wpS_bind (wpS_reverse (acX hC hn (by omega) (B.arr (mirror_perm _ _ _ _)) (λi j hij hj=>?_) h));show at_ rk (mirror (arrOf st) _ _ _) j<=at_ rk (mirror (arrOf st) _ _ _) i;rw[xM hz all,xM hz all];by_cases hj':j < m
    ·rw[all i (by omega) (by omega),all j (by omega) hj'];exact zg _
    ·have ej:j=m:=by omega
     subst ej;by_cases hi:i=j
     ·rw[hi];exact zg _
     ·rw[all i (by omega) (by omega)];omega
  ·rw[zC g1];have e1:m=1:=by omega
   subst e1;refine acX hC hn (by omega) B (λi j hij hj=>?_) h;by_cases hi:i=j
   ·rw[hi];exact zg _
   ·rw[show i=0 by omega,show j=1 by omega];exact QU lt
theorem bins {st:SortSt} {k0:Nat} {Q:Bool->SortSt->Prop} (hC:Wj prog w A s kd rk b) (hn:n<=b.size) (hk0:k0<=n) (B:Bs kd b st) (hs:Up rk (arrOf st) k0) (h:∀ t,Bs kd b t->Up rk (arrOf t) n->Q true t):wpS (model prog w) A E s (binarySort' 0 n k0) Q st:=by
 rw[binarySort'_eq];simp only[k9];refine wpS_bind (wpS_mono (wpS_forRange (I:=λk c t=>c=(none,())/\Bs kd b t/\Up rk (arrOf t) (min k n)) (Q:=λc t=>c=(none,())/\Bs kd b t/\Up rk (arrOf t) n) ?_ ?_ ?_) ?_)
 ·rintro k c t hak hkn ⟨rfl,B',up⟩;rw[show min k n=k by omega] at up;have hk:k < b.size:=by omega
  refine wpS_bind (wpS_mono (wpS_forRange (I:=λx c t'=>t'=t/\∃ l r,c=(none,l,r)/\l<=r/\r<=k/\r - l<=k - x/\(∀ i,i < l->at_ rk (arrOf t) i<=at_ rk (arrOf t) k)/\(∀ i,r<=i->i < k->at_ rk (arrOf t) k < at_ rk (arrOf t) i))
   (Q:=λc t'=>t'=t/\∃ l r,c=(none,l,r)/\l<=k/\(∀ i,i < l->at_ rk (arrOf t) i<=at_ rk (arrOf t) k)/\(∀ i,l<=i->i < k->at_ rk (arrOf t) k < at_ rk (arrOf t) i)) ?_ ?_ ?_) ?_)
  ·rintro x c t' _ hx ⟨rfl,l,r,rfl,lr,rk',mm,lo,hi⟩;dsimp only;by_cases ge:l>=r
   ·rw[zi ge];have e:l=r:=by omega
    subst e;exact wpS_pure ⟨rfl,l,l,rfl,rk',lo,hi⟩
   ·rw[zC ge];refine wpS_bind (Mu hC B' hk (by omega) ?_);by_cases q:at_ rk (arrOf t') k < at_ rk (arrOf t') ((l+r) / 2)
    ·simp only[q,KI,qS];refine wpS_pure ⟨rfl,l,(l+r) / 2,rfl,by omega,by omega,by omega,lo,λi q1 q2=>?_⟩;have:=up ((l+r) / 2) i q1 q2;omega
    ·simp only[q,kK,zk,ZI];refine wpS_pure ⟨rfl,(l+r) / 2+1,r,rfl,by omega,by omega,by omega,λi q1=>?_,hi⟩;have:=up i ((l+r) / 2) (by omega) (by omega);omega
  ·rintro c t' ⟨rfl,l,r,rfl,lr,rk',mm,lo,hi⟩;have e:l=r:=by omega
   subst e;exact⟨rfl,l,l,rfl,rk',lo,hi⟩
  ·exact⟨rfl,0,k,rfl,by omega,by omega,by omega,λi hi=>by omega,λi q1 q2=>by omega⟩
  ·rintro c t' ⟨rfl,l,r,rfl,lk,lo,hi⟩;show wpS _ _ _ _ (moveDown' k l >>= λ_=>pure (ForInStep.yield (none,()))) _ _;rw[moveDown'_eq];refine wpS_bind (wpS_modify (wpS_pure ⟨rfl,B'.arr (bubble_perm _ _ _),?_⟩));rw[show min (k+1) n=k+1 by omega];have hz:k < (arrOf t').size:=by rw[B'.sz];exact hk
   intro i j hij hj;show at_ rk (bubble (arrOf t') k (k - l)) i<=at_ rk (bubble (arrOf t') k (k - l)) j;rw[XJ hz (by omega),XJ hz (by omega),show k - (k - l)=l by omega]
   repeat' split
   all_goals first
    |(exfalso;omega)
    |exact zg _
    |exact lo _ (by omega)
    |exact QU (hi _ (by omega) (by omega))
    |exact up _ _ (by omega) (by omega)
 ·rintro c t ⟨hc,B',up⟩;refine⟨hc,B',?_⟩;rwa [show min (max (max k0 1) n) n=n by omega] at up
 ·refine⟨rfl,B,λi j hij hj=>?_⟩;by_cases z:k0=0
  ·rw[show i=j by omega];exact zg _
  ·exact hs i j hij (by omega)
 ·rintro c t ⟨rfl,B',up⟩;exact wpS_pure (h t B' up)
def Dn (kd:SortKind) (rk:Value->Nat) (b:Array Keyed) (st:SortSt):Prop:=(arrOf st).Perm b/\failedOf st=none/\pendingOf st=#[(0,b.size,0)]/\Up rk (arrOf st) b.size
theorem Bs.dn {st:SortSt} (B:Bs kd b st) (up:Up rk (arrOf st) b.size):Dn kd rk b (setPending st ((pendingOf st).push (0,b.size,0))):=⟨B.pm,B.fl,(by show(pendingOf st).push _=_;rw[B.pd];rfl),up⟩
theorem runs {st:SortSt} {Q:Unit->SortSt->Prop} (hC:Wj prog w A s kd rk b) (B:Bs kd b st) (h2:2<=b.size) (h64:b.size < 64)
  (h:∀ t,(arrOf t).Perm b->failedOf t=none->Up rk (arrOf t) b.size->Q () t):wpS (model prog w) A E s sortRuns' Q st:=by
 rw[sortRuns'_eq];refine wpS_bind (wpS_get ?_);have mr:minRun' b.size b.size 0=b.size:=by
  obtain⟨f,hf⟩:∃ f,b.size=f+1:=⟨b.size - 1,by omega⟩;have q:minRun' (f+1) b.size 0=b.size:=(minRun'_succ f b.size 0).trans (zi h64);rwa [<-hf] at q
 simp only[B.sz,mr];have back:∀ {t:SortSt},Bs kd b t->(pendingOf t).back?=none:=λB=>by rw[B.pd];rfl
 refine wpS_bind (wpS_mono (wpS_forRange (I:=λx c t=>(x=0/\c=(none,0)/\Bs kd b t)\/(1<=x/\c=(none,b.size)/\Dn kd rk b t)) (Q:=λc t=>c=(none,b.size)/\Dn kd rk b t) ?_ ?_ (.inl ⟨rfl,rfl,B⟩)) ?_)
 ·rintro x c t _ hx (⟨rfl,rfl,B'⟩|⟨hx1,rfl,D⟩)
  ·dsimp only;rw[zC (by omega)];simp only[Nat.sub_zero,Nat.min_self,k9];refine wpS_bind (aiN hC (zg _) (by omega) B' λm t2 B2 m1 m2 up2=>?_);dsimp only;by_cases lt:m < b.size
   ·rw[zi lt];refine wpS_bind (wpS_lift (kU ⟨rfl,wpS_bind (bins hC (zg _) m2 B2 up2 λt3 B3 up3=>?_)⟩));simp only[kz,zk,ZI];refine wpS_bind (wpS_get ?_);rw[back B3];exact wpS_bind (wpS_modify (wpS_pure (.inr ⟨by omega,rfl,B3.dn up3⟩)))
   ·rw[zC lt];have e:m=b.size:=by omega
    subst e;refine wpS_bind (wpS_get ?_);rw[back B2];exact wpS_bind (wpS_modify (wpS_pure (.inr ⟨by omega,rfl,B2.dn up2⟩)))
  ·dsimp only;rw[zi (zg _)];exact wpS_pure ⟨rfl,D⟩
 ·rintro c t (⟨hx,_,_⟩|⟨_,hc,D⟩)
  ·omega
  ·exact⟨hc,D⟩
 ·rintro c t ⟨rfl,D⟩;dsimp only;refine wpS_bind (wpS_mono (wpS_forRange (I:=λ_ c u=>u=t/\c=(none,())) (Q:=λc u=>u=t/\c=(none,())) ?_ (λ_ _ q=>q) ⟨rfl,rfl⟩) ?_)
  ·rintro x c u _ _ ⟨rfl,rfl⟩;refine wpS_bind (wpS_get ?_);rw[zi (by rw[D.2.2.1];exact zg 1)];exact wpS_pure ⟨rfl,rfl⟩
  ·rintro c u ⟨rfl,rfl⟩;exact wpS_pure (h _ D.1 D.2.1 D.2.2.2)
def Old (a:Addr) (s s':Shared):Prop:=∀ c o,c≠a->s.heap.get? c=some o->s'.heap.get? c=some o
theorem acY {vs:List Value} {P:Fin->Shared->Prop} (ho:s.heap.get? a=some (seqObj "list" vs.toArray n)) (hK:2<=vs.length->∀ s',Old a s s'->∀ Q:SortKind->Shared->Prop,Q kd s'->wpAny (model prog w) A (keyKind' vs.toArray) Q E s') (hC:∀ s',Old a s s'->Wj prog w A s' kd rk (pairsOf vs)) (h64:vs.length < 64) (h:∀ st:SortSt,(arrOf st).Perm (pairsOf vs)->Up rk (arrOf st) (pairsOf vs).size->P (.done (.ret .none)) { s with heap:=sortedHeap s.heap a vs ((arrOf st).map (·.2)) }) :
  wpAny (model prog w) A (Builtin.«list.sort» ⟨[.ref a],[]⟩) P E s:=by
 rw[list_sort_plain];have ha:=zw ho;refine zb (listItems_at ho rfl (zb (listUpdate_at ho rfl ?_)));obtain⟨e1,g1⟩:∃ e1,(s.heap.update a (Obj.mapSeq λ_=>#[])).get? a=some (seqObj "list" #[] e1):=⟨_,get?_update_seq ho λ_=>#[]⟩;refine zb (seqEpoch_at g1 rfl (zb (wpAny_newTuple (zb (wpAny_newList (qo ?_))))));have z1:(s.heap.update a (Obj.mapSeq λ_=>#[])).objs.size=s.heap.objs.size:=Heap.size_update ..;have keep:∀ c,c < s.heap.objs.size->(((s.heap.update a (Obj.mapSeq λ_=>#[])).push (seqObj "tuple" vs.toArray 0)).push (seqObj "list" #[] 0)).get? c=(s.heap.update a (Obj.mapSeq λ_=>#[])).get? c:=λc hc=>by
  rw[Heap.get?_push_ne _ _ _ (by rw[size_push',z1];exact zI (qq hc)),Heap.get?_push_ne _ _ _ (by rw[z1];exact zI hc)]
 have g6:=(keep a ha).trans g1;have old:Old a s { s with heap:=((s.heap.update a (Obj.mapSeq λ_=>#[])).push (seqObj "tuple" vs.toArray 0)).push (seqObj "list" #[] 0) }:=λc o hc e=>by
  show(((s.heap.update a (Obj.mapSeq λ_=>#[])).push (seqObj "tuple" vs.toArray 0)).push (seqObj "list" #[] 0)).get? c=some o;rw[keep c (zw e),j3 _ _ _ _ hc];exact e
 show wpAny _ _ _ _ _ { s with heap:=((s.heap.update a (Obj.mapSeq λ_=>#[])).push (seqObj "tuple" vs.toArray 0)).push (seqObj "list" #[] 0) };have hz:vs.toArray.size=vs.length:=by simp
 have lz:∀ st:SortSt,(arrOf st).Perm (pairsOf vs)->((arrOf st).map (·.2)).size<=sizeLine+1:=λst hp=>by
  have q:((arrOf st).map (·.2)).size=vs.length:=(Array.size_map ..).trans (hp.size_eq.trans (pairsOf_size _));rw[q,sizeLine_eq];omega
 by_cases h2:vs.toArray.size < 2
 ·simp only[zi h2];refine zb (ze ?_);rw[StateT.run_pure];refine zb (ze (zb (seqEpoch_at g6 rfl (zb (listUpdate_at g6 rfl ?_ (hsz2:=lz (SortSt.mk' general' (pairsOf vs) #[] 7 none) (Array.Perm.refl _)))))));simp only[bne_self_eq_false,zk,ZI];refine ze (h (SortSt.mk' general' (pairsOf vs) #[] 7 none) (Array.Perm.refl _) λi j hij hj=>?_);rw[pairsOf_size] at hj;rw[show i=j by omega];exact zg _
 ·simp only[zC h2];refine zb (hK (by omega) _ old _ ?_);refine zb (ZU (runs (hC _ old) (st:=SortSt.mk' kd (pairsOf vs) #[] 7 none) (Q:=λ_ t=>(arrOf t).Perm (pairsOf vs)/\failedOf t=none/\Up rk (arrOf t) (pairsOf vs).size) ⟨Array.Perm.refl _,rfl,rfl,rfl⟩ (by rw[pairsOf_size];omega) (by rw[pairsOf_size];exact h64) λt q1 q2 q3=>⟨q1,q2,q3⟩) ?_ λ_ _ q=>q);rintro⟨⟨⟩,t⟩ s' ⟨rfl,hp,hf,up⟩;dsimp only;refine zb (seqEpoch_at g6 rfl (zb (listUpdate_at g6 rfl ?_ (hsz2:=lz t hp))));rw[hf];simp only[bne_self_eq_false,zk,ZI];exact ze (h t hp up)
theorem Vf {x:Value} {vs:List Value} {Q:VP_} (aeD:∀ (E':VP_) (Q':List Value->Shared->Prop),(∀ h' tk,s.heap.objs.size<=h'.objs.size->(∀ c o,s.heap.get? c=some o->h'.get? c=some o)->Q' vs { s with heap:=h',toks:=tk })->wpAny (model prog w) A.in1 (collect x) Q' E' s)
  (hK:2<=vs.length->∀ (E':VP_) (A':Around) (s':Shared),(∀ c o,s.heap.get? c=some o->s'.heap.get? c=some o)->∀ Q:SortKind->Shared->Prop,Q kd s'->wpAny (model prog w) A' (keyKind' vs.toArray) Q E' s') (hC:∀ (A':Around) (s':Shared),(∀ c o,s.heap.get? c=some o->s'.heap.get? c=some o)->Wj prog w A' s' kd rk (pairsOf vs)) (h64:vs.length < 64)
  (h:∀ (l:Addr) (h':Heap) (tk n:Nat) (st:SortSt),(arrOf st).Perm (pairsOf vs)->Up rk (arrOf st) (pairsOf vs).size->s.heap.objs.size<=l->(∀ c o,s.heap.get? c=some o->h'.get? c=some o)->h'.get? l=some (seqObj "list" ((arrOf st).map (·.2)) n)->Q (.ref l) { s with heap:=h',toks:=tk }) :
  wpAny (model prog w) A (call (.builtin "sorted") [x]) Q E s:=by
 refine Calls.call_function_entry kind_sorted plain_sorted entry_sorted (args_sorted1 _) ?_;unfold Builtin.«sorted»;refine zb (m:=checkCount "sorted" 1 1 _) (ze (zb (aeD _ _ λh1 tk hle ext=>zb (wpAny_newList ?_))));have hoL:(h1.push (seqObj "list" vs.toArray 0)).get? h1.objs.size=some (seqObj "list" vs.toArray 0):=zv _ rfl;have old:∀ s':Shared,Old h1.objs.size { s with heap:=h1.push (seqObj "list" vs.toArray 0),toks:=tk } s'->∀ c o,s.heap.get? c=some o->s'.heap.get? c=some o:=λs' q c o e=>
  q c o (zI (zw (ext c o e))) (zd _ (ext c o e))
 refine zb (qo (JI slot_list_sort ⟨_,hoL,rfl⟩ entry_list_sort (acY hoL (λq s' o=>hK q _ _ s' (old s' o)) (λs' o=>hC _ s' (old s' o)) h64 λst q1 q2=>⟨_,rfl,ze ⟨_,rfl,?_⟩⟩) (args_list_sort _)));obtain⟨n,en⟩:=sortedHeap_at (out:=(arrOf st).map (·.2)) hoL;refine h h1.objs.size _ tk n st q1 q2 hle (λc o e=>?_) en;have hb:=zw (ext c o e);rw[sortedHeap_old (zI hb) (by rw[qk];exact qq hb)];exact zd _ (ext c o e)
end
end S1
namespace S1
open L2
theorem Vg (fb:Bool) (x y:Value):keyLt' (tuples' fb) x y=(do
  let xs <-Builtin.List.listItems x
  let ys <-Builtin.List.listItems y
  for ((p,q),i) in (xs.toList.zip ys.toList).zipIdx do
   if !(<-eqBool p q) then return <-oneLt' (fb&&i==0) p q
  return decide (xs.size < ys.size)):=rfl
def Vh:Key->Key->Bool
 |.inl a,.inl b=>decide (a < b)
 |.inr x,.inr y=>decide (x.cps.toList < y.cps.toList)
 |.inl _,.inr _=>true
 |.inr _,.inl _=>false
def Sy:Key->Key->Bool
 |.inl _,.inl _=>true
 |.inr _,.inr _=>true
 |_,_=>false
def nW:List Key->List Key->Bool
 |[],[]=>false
 |[],_::_=>true
 |_::_,[]=>false
 |x::xs,y::ys=>if x=y then nW xs ys else Vh x y
def Shp:List Key->List Key->Prop
 |x::xs,y::ys=>Sy x y=true/\Shp xs ys
 |_,_=>True
theorem key_eq {x y:Key} {p q:Value} {Q:Bool->Shared->Prop} (hp:jz x p=true) (hq:jz y q=true) (h:Q (decide (x=y)) s):wpAny (model prog w) A (eqBool p q) Q E s:=
 (bx prog w).eqBool (a:=x) (b:=y) hp hq h
theorem aeE {fb:Bool} {x y:Key} {p q:Value} {Q:Bool->Shared->Prop} (hs:Sy x y=true) (hp:jz x p=true) (hq:jz y q=true) (h:Q (Vh x y) s):wpAny (model prog w) A (oneLt' fb p q) Q E s:=by
 rcases bI hp with⟨i,t,rfl,rfl⟩|⟨z,t,rfl,rfl⟩
 ·rcases bI hq with⟨j,u,rfl,rfl⟩|⟨z,u,rfl,rfl⟩
  ·cases fb with
   |true=>exact oneLt_int h
   |false=>
    rw[oneLt'_eq];simp only[zk,ZI];refine zb (show wpAny _ _ (compareOp .Lt (.int i t) (.int j u)) _ _ _ from lt_int ?_);exact Q1 h
  ·cases hs
 ·rcases bI hq with⟨j,u,rfl,rfl⟩|⟨z',u,rfl,rfl⟩
  ·cases hs
  ·cases fb with
   |true=>exact oneLt_str h
   |false=>
    rw[oneLt'_eq];simp only[zk,ZI];refine zb (show wpAny _ _ (compareOp .Lt (.str z t) (.str z' u)) _ _ _ from PySem.P.lt_str ?_);exact Q1 h
def Ks (ks:List Key) (its:List Value):Prop:=Paired (λk v=>jz k v=true) ks its
def dif:List Key->List Key->Option Bool
 |x::xs,y::ys=>if x=y then dif xs ys else some (Vh x y)
 |_,_=>none
theorem XM:∀ ks ls:List Key,nW ks ls=match dif ks ls with|some r=>r|none=>decide (ks.length < ls.length)
 |[],[]=>rfl
 |[],_::_=>by simp[nW,dif]
 |_::_,[]=>rfl
 |x::xs,y::ys=>by
  simp only[nW,dif];by_cases e:x=y
  ·rw[zi e,zi e,XM xs ys];simp only[QE,Nat.add_lt_add_iff_right]
  ·rw[zC e,zC e]
def turn (fb:Bool):(Value×Value)×Nat->Option Bool×Unit->Sem (ForInStep (Option Bool×Unit)):=λx _=>match x with
 |((p,q),i)=>do
  let e <-eqBool p q
  if(!e)=true then do
    let r <-oneLt' (fb&&i==0) p q
    pure (ForInStep.done (some r,()))
   else pure (ForInStep.yield (none,()))
theorem walk (fb:Bool):∀ (ks ls:List Key) (its jts:List Value) (i:Nat) (R:Option Bool×Unit->Shared->Prop),Ks ks its->Ks ls jts->Shp ks ls->R (dif ks ls,()) s->wpAny (model prog w) A (forIn ((its.zip jts).zipIdx i) ((none,()):Option Bool×Unit) (turn fb)) R E s
 |[],_,_,_,_,R,.nil,_,_,h=>ze h
 |_::_,[],_::_,_,_,R,_,.nil,_,h=>ze h
 |x::xs,y::ys,p::its,q::jts,i,R,.cons hp hk,.cons hq hl,hs,h=>by
  rw[List.zip_cons_cons,List.zipIdx_cons,List.forIn_cons];refine zb ?_;show wpAny _ _ (eqBool p q >>= _) _ _ _;refine zb (key_eq hp hq ?_);by_cases e:x=y
  ·simp only[e,KI,kz,zk,ZI];refine ze (walk fb xs ys its jts (i+1) R hk hl hs.2 ?_);simp only[dif,zi e] at h;exact h
  ·simp only[e,kK,Kb,qS];refine zb (aeE hs.1 hp hq (ze (ze ?_)));simp only[dif,zC e] at h;exact h
theorem aeF {fb:Bool} {c:Addr} {oa oc:Obj} {jts:List Value} {m:Nat} {ls:List Key} {Q:Bool->Shared->Prop} (ha:s.heap.get? a=some oa) (da:oa.data=.seq its.toArray n) (hc:s.heap.get? c=some oc) (dc:oc.data=.seq jts.toArray m) (hk:Ks ks its) (hl:Ks ls jts) (hs:Shp ks ls) (h:Q (nW ks ls) s):wpAny (model prog w) A (keyLt' (tuples' fb) (.ref a) (.ref c)) Q E s:=by
 rw[Vg];refine zb (listItems_at ha da (zb (listItems_at hc dc ?_)));have hl1:its.length=ks.length:=(Paired.length hk).symm;have hl2:jts.length=ls.length:=(Paired.length hl).symm;refine zb (walk fb ks ls its jts 0 _ hk hl hs ?_);rw[XM] at h;cases e:dif ks ls with
 |some r=>rw[e] at h;exact ze h
 |none=>
  rw[e] at h;refine ze ?_;simpa[hl1,hl2] using h
theorem aa8 (x:Key):Vh x x=false:=by
 cases x with
 |inl a=>simp[Vh]
 |inr a=>simp[Vh]
theorem Vi {x y z:Key} (h:Vh x y=true) (h':Vh y z=true):Vh x z=true:=by
 cases x<;>cases y<;>cases z<;>simp only[Vh,qA,zk,reduceCtorEq] at h h' ⊢
 ·omega
 ·exact List.lt_trans h h'
theorem aa9 {x y:Key} (h:Vh x y=false) (h':Vh y x=false):x=y:=by
 cases x<;>cases y<;>simp only[Vh,jv,Bool.true_eq_false,reduceCtorEq] at h h'
 ·congr 1;omega
 ·rename_i a b;have:=List.le_antisymm (as:=a.cps.toList) (bs:=b.cps.toList) h' h;cases a;cases b;simp only at this;rw[Array.toList_inj.mp this]
theorem Dc:∀ xs:List Key,nW xs xs=false
 |[]=>rfl
 |x::xs=>by simp only[nW,qS];exact Dc xs
theorem nY:∀ {xs ys zs:List Key},nW xs ys=true->nW ys zs=true->nW xs zs=true
 |[],[],_,h,_=>by cases h
 |[],_::_,[],_,h'=>by cases h'
 |[],_::_,_::_,_,_=>rfl
 |_::_,[],_,h,_=>by cases h
 |_::_,_::_,[],_,h'=>by cases h'
 |x::xs,y::ys,z::zs,h,h'=>by
  simp only[nW] at h h' ⊢;by_cases e1:x=y
  ·subst e1;rw[zi rfl] at h;by_cases e2:x=z
   ·subst e2;rw[zi rfl] at h' ⊢;exact nY h h'
   ·rw[zC e2] at h' ⊢;exact h'
  ·rw[zC e1] at h;by_cases e2:y=z
   ·subst e2;rw[zC e1];exact h
   ·rw[zC e2] at h';have:=Vi h h';rw[zC (λe=>by subst e;rw[aa8] at this;cases this)];exact this
theorem xO:∀ {xs ys:List Key},nW xs ys=false->nW ys xs=false->xs=ys
 |[],[],_,_=>rfl
 |[],_::_,h,_=>by cases h
 |_::_,[],_,h'=>by cases h'
 |x::xs,y::ys,h,h'=>by
  simp only[nW] at h h';by_cases e:x=y
  ·subst e;rw[zi rfl] at h h';rw[xO h h']
  ·rw[zC e] at h;rw[zC (km e)] at h';exact absurd (aa9 h h') e
def vB (xs ys:List Key):Bool:=!nW ys xs
theorem vZ (a b c:List Key) (h:vB a b=true) (h':vB b c=true):vB a c=true:=by
 unfold vB at *
 simp only[qB] at *
 cases hc:nW c a with
 |false=>rfl
 |true=>
  cases hab:nW a b with
  |true=>rw[nY hc hab] at h';cases h'
  |false=>
   have e:=xO hab h;subst e;rw[hc] at h';cases h'
theorem wg (a b:List Key):(vB a b||vB b a)=true:=by
 unfold vB;cases h:nW b a with
 |false=>rfl
 |true=>
  cases h':nW a b with
  |false=>rfl
  |true=>have:=nY h h';rw[Dc] at this;cases this
theorem Vj {a b:List Key} (h:vB a b=true) (h':vB b a=true):a=b:=by
 unfold vB at *
 simp only[qB] at *
 exact xO h' h
theorem zL {α:Type} {le:α->α->Prop} (anti:∀ a b,le a b->le b a->a=b):∀ {l l':List α},l.Perm l'->l.Pairwise le->l'.Pairwise le->l=l'
 |[],l',h,_,_=>by rw[List.nil_perm.mp h]
 |a::l,[],h,_,_=>by cases List.perm_nil.mp h
 |a::l,b::l',h,p,p'=>by
  have e:a=b:=by
   have ha:a∈b::l':=h.mem_iff.mp (zo ..);have hb:b∈a::l:=h.mem_iff.mpr (zo ..);rcases List.mem_cons.mp ha with h1|h1
   ·exact h1
   ·rcases List.mem_cons.mp hb with h2|h2
    ·exact h2.symm
    ·exact anti a b (JS p h2) (JS p' h1)
  subst e;rw[zL anti ((List.perm_cons a).mp h) (List.pairwise_cons.mp p).2 (List.pairwise_cons.mp p').2]
def jE (cG:List (List Key)):List (List Key):=cG.mergeSort vB
theorem lG (cG:List (List Key)):(jE cG).Perm cG:=KW ..
theorem uc (cG:List (List Key)):(jE cG).Pairwise (λa b=>vB a b=true):=k7 vZ wg cG
theorem qu {out:List (List Key)} (hp:out.Perm cG) (hs:out.Pairwise (λa b=>vB a b=true)):out=jE cG:=zL (λ_ _=>Vj) (hp.trans (lG cG).symm) hs (uc cG)
def rank (cG:List (List Key)) (k:List Key):Nat:=cG.countP λu=>nW u k
theorem Hw {α:Type} {p q:α->Bool}:∀ {l:List α},(∀ x∈l,p x=true->q x=true)->(∃ x∈l,p x=false/\q x=true)->l.countP p < l.countP q
 |[],_,⟨x,hx,_⟩=>by cases hx
 |a::l,h,⟨x,hx,h1,h2⟩=>by
  have le:l.countP p<=l.countP q:=List.countP_mono_left λy hy=>h y (zt _ hy);rw[List.countP_cons,List.countP_cons];rcases List.mem_cons.mp hx with rfl|hx
  ·rw[h1,h2];simp;omega
  ·have:=Hw (λy hy=>h y (zt _ hy)) ⟨x,hx,h1,h2⟩;have ha:=h a (zo ..);cases hp:p a with
   |true=>rw[ha hp];simp;omega
   |false=>simp;omega
theorem SJ {a b:List Key} (ha:a∈cG):decide (rank cG a < rank cG b)=nW a b:=by
 cases h:nW a b with
 |true=>
  refine QA (Hw (λu _ hu=>nY hu h) ⟨a,ha,Dc a,h⟩)
 |false=>
  refine qf (Nat.not_lt.mpr (List.countP_mono_left λu _ hu=>?_));cases hb:nW b a with
  |true=>exact nY hu hb
  |false=>rw[xO h hb];exact hu
def jc (h:Heap) (ks:List Key) (v:Value):Prop:=∃ (a:Addr) (o:Obj) (its:List Value) (n:Nat),v=.ref a/\h.get? a=some o/\o.cls=.type "tuple" ∧ o.data=.seq its.toArray n/\Ks ks its
theorem jc.keep {h':Heap} (q:jc h ks v) (k:∀ c o,h.get? c=some o->h'.get? c=some o):jc h' ks v:=by
 obtain⟨a,o,its,n,e,g,c,d,p⟩:=q;exact⟨a,o,its,n,e,k _ _ g,c,d,p⟩
theorem abb {k l:Key} (h:jz k v=true) (h':jz l v=true):k=l:=by
 rcases bI h with⟨i,t,rfl,rfl⟩|⟨x,t,rfl,rfl⟩
 ·rcases bI h' with⟨j,u,rfl,e⟩|⟨y,u,rfl,e⟩
  ·cases e;rfl
  ·cases e
 ·rcases bI h' with⟨j,u,rfl,e⟩|⟨y,u,rfl,e⟩
  ·cases e
  ·cases e;rfl
theorem Ks.inj:∀ {ks ls:List Key} {its:List Value},Ks ks its->Ks ls its->ks=ls
 |_,_,[],h,h'=>by cases h;cases h';rfl
 |_,_,v::its,h,h'=>by
  cases h with
  |cons p t=>cases h' with
   |cons p' t'=>rw[abb p p',Ks.inj t t']
theorem jc.inj {h:Heap} {ks ls:List Key} {v:Value} (q:jc h ks v) (q':jc h ls v):ks=ls:=by
 obtain⟨a,o,its,n,rfl,g,c,d,p⟩:=q;obtain⟨a',o',its',n',e,g',c',d',p'⟩:=q';cases e;rw[g] at g';cases g';rw[d] at d';injection d' with e1 e2;have e3:its=its':=by simpa using congrArg Array.toList e1
 subst e3;exact p.inj p'
theorem JB {α β:Type} {f:α->Sem β}:∀ (xs:List α) (ys:List β) (Q:List β->Shared->Prop),Paired (λx y=>∀ (E':VP_) (Q':β->Shared->Prop),Q' y s->wpAny (model prog w) A (f x) Q' E' s) xs ys->Q ys s->wpAny (model prog w) A (xs.mapM f) Q E s
 |[],_,Q,.nil,h=>by rw[List.mapM_nil];exact ze h
 |x::xs,y::ys,Q,.cons h t,q=>by
  rw[List.mapM_cons];exact zb (h _ _ (zb (JB xs ys _ t (ze q))))
theorem XQ (v:Value):firstOfTuple' v=(do
  if(<-typeOf v) != .type "tuple" then return none
  return (<-Builtin.List.listItems v)[0]?):=rfl
theorem Vk {k:Key} (q:jc s.heap (k::ks) v):∃ u,jz k u=true/\∀ (E':VP_) (Q':Option Value->Shared->Prop),Q' (some u) s->wpAny (model prog w) A (firstOfTuple' v) Q' E' s:=by
 obtain⟨a,o,its,n,rfl,g,c,d,p⟩:=q;cases p with
 |@cons _ u _ its hp t=>
  refine⟨u,hp,λE' Q' h=>?_⟩;rw[XQ];refine zb (QQ (T := "tuple") ⟨o,g,c⟩ ?_);rw[zC (by decide)];exact zb (listItems_at g d (ze h))
theorem XR {k:Key} (h:jz k u=true) (E':VP_) (Q':VP_) (q:Q' (.type (if k.isLeft then "int" else "str")) s):wpAny (model prog w) A (typeOf u) Q' E' s:=by
 rcases bI h with⟨i,t,rfl,rfl⟩|⟨x,t,rfl,rfl⟩
 ·exact QQ (typeIs_int s i t) q
 ·exact QQ (typeIs_str s x t) q
theorem Hx {vs:List Value} {Q:SortKind->Shared->Prop} (hv:Paired (jc s.heap) cG vs) (hne:∀ k∈cG,k≠[]) (hsh:∀ k∈cG,∀ l∈cG,Shp k l) (h2:1<=vs.length) (h:Q (tuples' true) s):wpAny (model prog w) A (keyKind' vs.toArray) Q E s:=by
 have step:∀ (cG:List (List Key)) (vs:List Value),Paired (jc s.heap) cG vs->(∀ k∈cG,k≠[])->∃ us:List Value,Paired (λv u=>∀ (E':VP_) (Q':Option Value->Shared->Prop),Q' (some u) s->wpAny (model prog w) A (firstOfTuple' v) Q' E' s) vs us/\Paired (λ(k:List Key) u=>∃ x r,k=x::r/\jz x u=true) cG us:=by
  intro cG vs hv
  induction hv with
  |nil=>intro _;exact⟨[],.nil,.nil⟩
  |@cons k v cG vs q t ih=>
   intro hne;obtain⟨us,p1,p2⟩:=ih λk hk=>hne k (zt _ hk);cases k with
   |nil=>exact absurd rfl (hne _ (zo ..))
   |cons x r=>
    obtain⟨u,hu,hw⟩:=Vk (prog:=prog) (w:=w) (A:=A) q;exact⟨u::us,.cons hw p1,.cons ⟨x,r,rfl,hu⟩ p2⟩
 obtain⟨us,p1,p2⟩:=step cG vs hv hne;have hlen:us.length=vs.length:=(Paired.length p1).symm;have lift:∀ {l:List Value} {ws:List Value},Paired (λv u=>∀ (E':VP_) (Q':Option Value->Shared->Prop),Q' (some u) s->wpAny (model prog w) A (firstOfTuple' v) Q' E' s) l ws->Paired (λv u=>∀ (E':VP_) (Q':Option Value->Shared->Prop),Q' u s->wpAny (model prog w) A (firstOfTuple' v) Q' E' s) l (ws.map some):=λh=>by
  induction h with
  |nil=>exact .nil
  |cons q t ih=>exact .cons q ih
 rw[keyKind'_eq,List.mapM_toArray,map_eq_pure_bind];refine zb (zb (JB vs (us.map some) _ (lift p1) (ze ?_)));have hall:(us.map some).toArray.all (·.isSome)=true:=by simp
 rw[zi hall];refine zb (kU ?_);have hf:(us.map some).toArray.filterMap id=us.toArray:=by simp
 rw[hf,oneTypeOnly'_eq,List.mapM_toArray,map_eq_pure_bind];have ty:∀ (cG:List (List Key)) (us:List Value),Paired (λ(k:List Key) u=>∃ x r,k=x::r/\jz x u=true) cG us->∃ ts:List Value,Paired (λu t=>∀ (E':VP_) (Q':VP_),Q' t s->wpAny (model prog w) A (typeOf u) Q' E' s) us ts/\Paired (λ(k:List Key) t=>∃ x r,k=x::r/\t=.type (if x.isLeft then "int" else "str")) cG ts:=by
  intro cG us hp
  induction hp with
  |nil=>exact⟨[],.nil,.nil⟩
  |@cons k u cG us q t ih=>
   obtain⟨ts,q1,q2⟩:=ih;obtain⟨x,r,rfl,hx⟩:=q;exact⟨_::ts,.cons (λE' Q' h=>XR hx E' Q' h) q1,.cons ⟨x,r,rfl,rfl⟩ q2⟩
 obtain⟨ts,q1,q2⟩:=ty cG us p2;refine zb (zb (zb (JB us ts _ q1 (ze ?_))));have lt:ts.length=vs.length:=by rw[<-Paired.length q1,hlen]
 cases q2 with
 |nil=>simp at lt;omega
 |@cons k0 t0 akY ts' h0 r0=>
  obtain⟨x0,r,rfl,rfl⟩:=h0;have same:∀ t∈ts',t=Value.type (if x0.isLeft then "int" else "str"):=by
   have aux:∀ (cG:List (List Key)) (ts:List Value),Paired (λ(k:List Key) t=>∃ x r,k=x::r/\t=Value.type (if x.isLeft then "int" else "str")) cG ts->(∀ k∈cG,Shp (x0::r) k)->∀ t∈ts,t=Value.type (if x0.isLeft then "int" else "str"):=by
    intro cG ts hp
    induction hp with
    |nil=>intro _ t ht;cases ht
    |@cons k t cG ts q _ ih=>
     intro hs u hu;rcases List.mem_cons.mp hu with rfl|hu
     ·obtain⟨x,r',rfl,rfl⟩:=q;have:=(hs _ (zo ..)).1;cases x0<;>cases x<;>first|rfl|cases this
     ·exact ih (λk hk=>hs k (zt _ hk)) u hu
   exact aux _ _ r0 λk hk=>hsh _ (zo ..) k (zt _ hk)
  have e0:(Value.type (if x0.isLeft then "int" else "str")::ts').toArray[0]?=some (Value.type (if x0.isLeft then "int" else "str")):=by simp
  have e1:((Value.type (if x0.isLeft then "int" else "str")::ts').toArray.all λx=>x==Value.type (if x0.isLeft then "int" else "str"))=true:=by
   simp only[List.all_toArray,qi];intro t ht;rcases List.mem_cons.mp ht with rfl|ht
   ·simp
   ·rw[same t ht];simp
  rw[e0];simp only[e1,qS];refine ze (ze ?_);have e2:((some (Value.type (if x0.isLeft then "int" else "str"))).any λx=>x != Value.type "tuple")=true:=by
   cases x0 with
   |inl _=>exact(by decide:((some (Value.type "int")).any λx=>x != Value.type "tuple")=true)
   |inr _=>exact(by decide:((some (Value.type "str")).any λx=>x != Value.type "tuple")=true)
  rw[e2];exact h
def keyOf (cG:List (List Key)) (vs:List Value) (v:Value):List Key:=match (vs.zip cG).find? (λp=>p.1==v) with
 |some p=>p.2
 |none=>[]
theorem jX {h:Heap}:∀ {cG:List (List Key)} {vs:List Value},Paired (jc h) cG vs->∀ v∈vs,keyOf cG vs v∈cG/\jc h (keyOf cG vs v) v
 |_,_,.nil,v,hv=>by cases hv
 |k::cG,u::vs,.cons q t,v,hv=>by
  unfold keyOf;rw[List.zip_cons_cons,js];by_cases e:u=v
  ·subst e;simp only[beq_self_eq_true];exact⟨zo ..,q⟩
  ·have e':(u==v)=false:=by simpa using e
   simp only[e'];have hv':v∈vs:=by
    rcases List.mem_cons.mp hv with h|h
    ·exact absurd h.symm e
    ·exact h
   have ih:=jX t v hv';exact⟨zt _ ih.1,ih.2⟩
theorem zM {h:Heap}:∀ {cG:List (List Key)} {vs:List Value},Paired (jc h) cG vs->∀ (K:Value->List Key),(∀ v∈vs,jc h (K v) v)->vs.map K=cG
 |_,_,.nil,_,_=>rfl
 |k::cG,v::vs,.cons q t,K,hK=>by
  rw[zr,(hK v (zo ..)).inj q,zM t K λu hu=>hK u (zt _ hu)]
theorem wj {h:Heap}:∀ {vs:List Value} {K:Value->List Key},(∀ v∈vs,jc h (K v) v)->Paired (jc h) (vs.map K) vs
 |[],_,_=>.nil
 |v::vs,K,hK=>.cons (hK v (zo ..)) (wj λu hu=>hK u (zt _ hu))
theorem Mv {vs:List Value} (hv:Paired (jc s.heap) cG vs) (hsh:∀ k∈cG,∀ l∈cG,Shp k l):Wj prog w A s (tuples' true) (λv=>rank cG (keyOf cG vs v)) (pairsOf vs):=by
 intro E p q Q hp hq h;rw[pairsOf_toList] at hp hq;obtain⟨m1,t1⟩:=jX hv p.1 (mem_zip_self hp).2;obtain⟨m2,t2⟩:=jX hv q.1 (mem_zip_self hq).2;rw[SJ m1] at h;have sh:=hsh _ m1 _ m2;obtain⟨a,o,its,n,e,g,c,d,k⟩:=t1;obtain⟨a',o',its',n',e',g',c',d',k'⟩:=t2;rw[e,e'];exact aeF g d g' d' k k' sh h
theorem Mw {vs:List Value} (hv:Paired (jc h) cG vs) {xs:Array Keyed} (hp:xs.Perm (pairsOf vs)) (up:Up (λv=>rank cG (keyOf cG vs v)) xs (pairsOf vs).size):Paired (jc h) (jE cG) (xs.map (·.2)).toList:=by
 have hl:xs.toList.Perm (vs.zip vs):=by rw[<-pairsOf_toList];exact Array.perm_iff_toList_perm.mp hp
 have hm:∀ p∈xs.toList,p.1=p.2/\p.1∈vs:=λp q=>mem_zip_self (hl.mem_iff.mp q);have e:(xs.map (·.2)).toList=xs.toList.map (·.1):=by
  rw[Array.toList_map];exact jS λp q=>(hm p q).1.symm
 have pv:(xs.toList.map (·.1)).Perm vs:=by
  have:=hl.map Prod.fst;rwa [List.map_fst_zip (zg _)] at this
 have key:jE cG=(xs.toList.map (·.1)).map (keyOf cG vs):=by
  refine(qu ?_ ?_).symm
  ·have:=pv.map (keyOf cG vs);rwa [zM hv _ λv q=>(jX hv v q).2] at this
  ·rw[List.pairwise_iff_getElem];intro i j hi hj hij;have hi':i < xs.size:=by simpa using hi
   have hj':j < xs.size:=by simpa using hj
   have u:=up i j (QU hij) (by rw[<-hp.size_eq];exact hj');unfold at_ at u;rw[getElem?_pos xs i hi',getElem?_pos xs j hj'] at u;have m2:=(jX hv xs[j].1 (hm xs[j] (by simp)).2).1;simp only[List.getElem_map,Array.getElem_toList];unfold vB;rw[<-SJ m2,qf (Nat.not_lt.mpr u)];rfl
 rw[key,e];refine wj λv q=>(jX hv v ?_).2;exact pv.mem_iff.mp q
end S1
namespace P1
open L2 S1
theorem Qx {l:Addr} {o:Obj} {T:String} {vs:List Value} {Q:List Value->Shared->Prop} (ho:s.heap.get? l=some o) (hc:o.cls=.type T) (hT:T = "list" ∨ T = "tuple") (hd:o.data=.seq vs.toArray n) (hz:vs.length<=sizeLine) (h:∀ h' tk,s.heap.objs.size<=h'.objs.size->(∀ c o,s.heap.get? c=some o->h'.get? c=some o)->Q vs { s with heap:=h',toks:=tk }):wpAny (model prog w) A (collect (.ref l)) Q E s:=by
 unfold collect;refine zb (wpAny_runValue (jI entry_proto_collect' ?_));show wpAny _ _ (newList [] >>= λq=>again (.builtin "list.__iadd__" ⟨[q,.ref l],[]⟩)) _ _ s;refine zb (wpAny_newList (ze ⟨Code.quiet_builtin _ (by decide +kernel),jI entry_list_iadd' ?_⟩));show wpAny _ _ (Builtin.List.listExtendWith (.ref s.heap.objs.size) (.ref l) (.ref s.heap.objs.size)) _ _ _;unfold Builtin.List.listExtendWith;have g1:(s.heap.push (seqObj "list" #[] 0)).get? l=some o:=zd _ ho;refine zb (QQ (T:=T) ⟨o,g1,hc⟩ ?_);have ht:(Value.type T==Value.type "list" || Value.type T==Value.type "tuple")=true:=by rcases hT with rfl|rfl<;>decide
 rw[zi (by rw[Bool.or_assoc,ht];simp)];refine zb (listItems_at g1 hd (zb (listItems_at (xs:=#[]) (n:=0) (zv _ rfl) rfl ?_)));rw[zC (by simp)];have g2:(s.heap.push (seqObj "list" #[] 0)).get? s.heap.objs.size=some (seqObj "list" #[] 0):=zv _ rfl;refine zb (listUpdate_at (xs:=#[]) (n:=0) g2 rfl (ze ?_) (QO _) (by show(#[]++vs.toArray).size<=sizeLine+1;simp only[Kt,zz,List.length_nil];omega));show wpAny (model prog w) A (load s.heap.objs.size >>= _) Q E _;refine zb (KB (get?_update_seq g2 _) ?_);show wpAny _ _ (pure ((#[]:Array Value)++vs.toArray).toList) Q E _;rw[show((#[]:Array Value)++vs.toArray).toList=vs by simp];refine ze (h _ s.toks ?_ λc oc e=>?_)
 ·rw[Heap.size_update,size_push'];exact kl _
 ·rw[j3 _ _ _ _ (zI (zw e))];exact zd _ e
def abd:Dt->Option Key
 |.int i=>some (.inl i)
 |.str x=>some (.inr x)
 |_=>none
def zN:List Dt->Option (List Key)
 |[]=>some []
 |d::ds=>(abd d).bind λk=>(zN ds).bind λks=>some (k::ks)
def Dg:Dt->Option (List Key)
 |.tup ds=>zN ds
 |_=>none
def qW:List Dt->Option (List (List Key))
 |[]=>some []
 |d::ds=>(Dg d).bind λk=>(qW ds).bind λks=>some (k::ks)
def dK:Key->Dt
 |.inl i=>.int i
 |.inr x=>.str x
def tupK (ks:List Key):Dt:=.tup (ks.map dK)
theorem abe {k:Key} (h:abd d=some k):d=dK k:=by
 cases d<;>cases h<;>rfl
theorem Mx:∀ {ds:List Dt} {ks:List Key},zN ds=some ks->ds=ks.map dK
 |[],_,h=>by cases h;rfl
 |d::ds,_,h=>by
  obtain⟨k,e1,h⟩:=bind_some h;obtain⟨ks,e2,h⟩:=bind_some h;cases h;rw[zr,abe e1,Mx e2]
theorem Mz (h:Dg d=some ks):d=tupK ks:=by
 cases d with
 |tup ds=>exact congrArg Dt.tup (Mx h)
 |_=>cases h
theorem zc:∀ {ds:List Dt} {cG:List (List Key)},qW ds=some cG->ds=cG.map tupK
 |[],_,h=>by cases h;rfl
 |d::ds,_,h=>by
  obtain⟨k,e1,h⟩:=bind_some h;obtain⟨ks,e2,h⟩:=bind_some h;cases h;rw[zr,Mz e1,zc e2]
theorem abf {k:Key} {v:V} (h:Rep K H (dK k) v):v=kV k:=by
 cases k with
 |inl i=>exact(show v=.int i by simpa only[dK,Rep] using h)
 |inr x=>exact(show v=.str x/\x.length<=sizeLine by simpa only[dK,Rep] using h).1
theorem Hy {K:FG_} {H:Hp}:∀ {ks:List Key} {vs:List V},aO K H (ks.map dK) vs->vs=ks.map kV
 |[],_,h=>by simp only[ko,aO] at h;exact h
 |k::ks,_,h=>by
  simp only[zr,aO] at h;obtain⟨v,r,rfl,h1,h2⟩:=h;rw[abf h1,Hy h2,zr]
theorem agJ (X:Cx):∀ {us:List Value},Vals (ks.map kV) us->Ks ks us:=by
 induction ks with
 |nil=>intro us h;cases h;exact .nil
 |cons k ks ih=>
  intro us h;cases h with
  |cons r t=>exact .cons (Ld (P:=X.prog) (w:=X.w) r) (ih t)
theorem oO {pins:List (Addr×Obj)} {σ:L2.St} {H:Hp} {s:Shared} (I:Inv X pins σ H s):∀ {cG:List (List Key)} {vs:List V} {its:List Value},aO X.K H (cG.map tupK) vs->Vals vs its->Paired (jc s.heap) cG its
 |[],_,_,h,r=>by
  simp only[ko,aO] at h;subst h;cases r;exact .nil
 |k::cG,_,_,h,r=>by
  simp only[zr,aO] at h;obtain⟨v,vs,rfl,h1,h2⟩:=h;cases r with
  |cons r1 r2=>
   refine .cons ?_ (oO I h2 r2);simp only[tupK,Rep] at h1;obtain⟨a,ws,rfl,sq,rs⟩:=h1;obtain⟨its,rv,⟨o,g,c,n,d⟩,_⟩:=I.tuple sq;cases r1;rw[Hy rs] at rv;exact⟨a,o,its,n,rfl,g,c,d,agJ X rv⟩
theorem zf {pins:List (Addr×Obj)} {σ:L2.St} {H:Hp} {s:Shared} (I:Inv X pins σ H s) {cG:List (List Key)} {vs:List V} {its:List Value} (h:aO X.K H (cG.map tupK) vs) (r:Vals vs its):∀ {Wm:List (List Key)} {out:List Value},Paired (jc s.heap) Wm out->(∀ u∈out,u∈its)->∃ zs,Vals zs out/\aO X.K H (Wm.map tupK) zs
 |_,_,.nil,_=>⟨[],.nil,aO.nil⟩
 |l::Wm,u::out,.cons q t,hm=>by
  obtain⟨zs,z1,z2⟩:=zf I h r t λx hx=>hm x (zt _ hx);have aux:∀ (cG:List (List Key)) (vs:List V) (its:List Value),aO X.K H (cG.map tupK) vs->Vals vs its->u∈its->∃ v,RelV v u/\Rep X.K H (tupK l) v:=by
   intro cG
   induction cG with
   |nil=>
    intro vs its h r hu;simp only[ko,aO] at h;subst h;cases r;cases hu
   |cons k cG ih=>
    intro vs its h r hu;simp only[zr,aO] at h;obtain⟨v,vs,rfl,h1,h2⟩:=h;cases r with
    |@cons _ u' _ _ r1 r2=>
     rcases List.mem_cons.mp hu with rfl|hu
     ·have e:k=l:=by
       have:=oO I (cG:=[k]) (vs:=[v]) (its:=[u]) (by simp only[zr,ko];exact aO.cons h1 aO.nil) (.cons r1 .nil);cases this with
       |cons q' _=>exact q'.inj q
      subst e;exact⟨v,r1,h1⟩
     ·exact ih vs _ h2 r2 hu
  obtain⟨v,r1,h1⟩:=aux cG vs its h r (hm u (zo ..));exact⟨v::zs,.cons r1 z1,by rw[zr];exact aO.cons h1 z2⟩
def JC (k l:List Key):Bool:=((k.zip l).all λp=>Sy p.1 p.2)
theorem Dh:∀ {k l:List Key},JC k l=true->Shp k l
 |[],_,_=>by simp[Shp]
 |_::_,[],_=>by simp[Shp]
 |x::k,y::l,h=>by
  unfold JC at h;rw[List.zip_cons_cons,ky,ZE] at h;exact⟨h.1,Dh h.2⟩
def Af (cG:List (List Key)):Bool:=decide (cG.length < 64)&&(cG.all (λk=>!k.isEmpty)&&cG.all λk=>cG.all λl=>JC k l)
def ud:List Bx->Option Bx
 |[b]=>(qT b).bind λds=>(qW ds).bind λcG=>if Af cG=true then some (.o ((jE cG).map tupK)) else none
 |_=>none
theorem JD {v:V} (h:bA K H b v) (e:qT b=some ds):∃ a vs,v=.ref a/\(sW K H a vs\/wL K H a vs)/\aO K H ds vs:=by
 cases b with
 |z d=>
  cases d<;>first|(cases e;done)|skip
  ·cases e;simp only[bA,Rep] at h;obtain⟨a,vs,e,q,r⟩:=h;exact⟨a,vs,e,.inr q,r⟩
  ·cases e;simp only[bA,Rep] at h;obtain⟨a,vs,e,q,r⟩:=h;exact⟨a,vs,e,.inl q.sq,r⟩
 |l ds'=>cases e;obtain⟨a,vs,e,q,r⟩:=h;exact⟨a,vs,e,.inl (.inl q),r⟩
 |o ds'=>cases e;obtain⟨a,vs,e,q,r⟩:=h;exact⟨a,vs,e,.inl (.inl (.inl q)),r⟩
 |n _=>cases e
 |m _ _=>cases e
theorem MF:mH X (.builtin "sorted") ud:=by
 intro pins s σ H xs us Q I rx h;obtain⟨bs,c,rb,e,q⟩:=h;unfold ud at e;split at e
 ·rename_i b;obtain⟨ds,ed,e⟩:=bind_some e;obtain⟨cG,ek,e⟩:=bind_some e;split at e
  ·rename_i hs;cases e;simp only[Af,ZE,qA,qi,qB] at hs;obtain⟨h64,hne,hsh⟩:=hs;obtain⟨v,rfl,r1⟩:=rep1 rb;obtain⟨p,vs,rfl,sq,rs⟩:=JD r1 ed;obtain⟨u,rfl,ru⟩:=vals1 rx;cases ru;have eds:=zc ek;subst eds;have got:∃ (its:List Value) (o:Obj) (T:String) (n:Nat),Vals vs its/\s.heap.get? p=some o/\o.cls=.type T/\(T = "list" ∨ T = "tuple")/\o.data=.seq its.toArray n/\vs.length<=sizeLine:=by
    rcases sq with sq|sq
    ·obtain⟨its,r',pl,hz⟩:=I.list sq;obtain⟨o,g,c,n,d⟩:=pl.isList;exact⟨its,o,_,n,r',g,c,.inl rfl,d,hz⟩
    ·obtain⟨its,r',⟨o,g,c,n,d⟩,hz⟩:=I.tuple sq;exact⟨its,o,_,n,r',g,c,.inr rfl,d,hz⟩
   obtain⟨its,o,T,n,r',g,hc,hT,hd,hz⟩:=got;have hlen:its.length=cG.length:=by rw[<-r'.length,rs.length,zl]
   have tv:=oO I rs r';refine Vf (kd:=tuples' true) (rk:=λv=>rank cG (keyOf cG its v)) (vs:=its) (λE' Q' hq=>Qx g hc hT hd (by rw[<-r'.length];exact hz) hq)
    (λh2 E' A' s' k Q' hq=>Hx (Paired.imp' (λ_ _ z=>jc.keep z k) tv) (λk hk=>by have:=hne k hk;cases k with|nil=>cases this|cons _ _=>exact List.cons_ne_nil _ _) (λk hk l hl=>Dh (hsh k hk l hl)) (by omega) hq)
    (λA' s' k=>Mv (Paired.imp' (λ_ _ z=>jc.keep z k) tv) λk hk l hl=>Dh (hsh k hk l hl)) (by omega) λl h' tk m st hp up hl ext hL=>?_
   have out:=Mw tv hp up;have mem:∀ u∈((arrOf st).map (·.2)).toList,u∈its:=λu hu=>by
    rw[Array.toList_map] at hu;obtain⟨pr,hpr,rfl⟩:=List.mem_map.mp hu;have aeG:pr∈its.zip its:=by rw[<-pairsOf_toList];exact(Array.perm_iff_toList_perm.mp hp).mem_iff.mp hpr
    have:=mem_zip_self aeG;rw[<-this.1];exact this.2
   obtain⟨zs,z1,z2⟩:=zf I rs r' out mem;have hzl:zs.length=cG.length:=by rw[z2.length,zl,(lG cG).length_eq]
   have hH:H l=none:=I.hok.fresh hl;refine⟨.ref l,_,I.laid (t':=tk) (a:=l) (o:=.lst zs) ext hl ⟨by rw[hzl];exact QU (ZH h64 (by decide)),_,m,z1,?_⟩,rfl,q _ _ (bJ hH) (λa ea=>by cases ea;exact hH) ⟨l,zs,rfl,bf,z2.kp (.of (bJ hH))⟩⟩;rw[hL]
  ·cases e
 ·cases e
end P1
namespace S6
theorem Vl {src:Source} {Q:Nat->Shared->Prop} (hn:n≠0) (h:∀ i d,i < n->Q i { s with drawn:=d }):wpAny M A (choose src n) Q E s:=
 λΓ p hΓ=>⟨hn,h _ _ (Nat.mod_lt _ (Nat.pos_of_ne_zero hn))⟩
theorem JF {α:Type}:∀ {xs:List α} {i:Nat} (hi:i < xs.length),(xs[i]::xs.eraseIdx i).Perm xs
 |x::xs,0,_=>List.Perm.refl _
 |x::xs,i+1,h=>by
  rw[List.eraseIdx_cons_succ,List.getElem_cons_succ];exact(List.Perm.swap _ _ _).trans ((JF (xs:=xs) (i:=i) (by simpa using h)).cons x)
theorem abg:∀ (n:Nat) (xs:List α) (s:Shared) (Q:List α->Shared->Prop),xs.length=n->(∀ ys d,ys.Perm xs->Q ys { s with drawn:=d })->wpAny M A (drawOrder n xs) Q E s:=by
 intro n
 induction n with
 |zero=>
  intro xs s Q hl h;cases xs with
  |nil=>
   unfold drawOrder;exact ze (h [] s.drawn (List.Perm.refl _))
  |cons x xs=>simp at hl
 |succ n ih=>
  intro xs s Q hl h;cases xs with
  |nil=>simp at hl
  |cons x xs=>
   unfold drawOrder;refine zb (Vl (by simp) λi d hi=>?_);have e:(x::xs)[i]?=some (x::xs)[i]:=by simp[hi]
   rw[e];dsimp only;refine zb (ih ((x::xs).eraseIdx i) _ _ (by rw[List.length_eraseIdx,zi hi];simp at hl ⊢;omega) λys d' hp=>ze ?_);exact h _ d' ((List.Perm.cons _ hp).trans (JF hi))
theorem SM {α:Type} (next:Nat->Nat):∀ (n k:Nat) (xs:List α) (out:Array α),xs.length=n->(pickOrder.go next n k xs out).toList.Perm (out.toList++xs)
 |0,k,[],out,_=>by unfold pickOrder.go;simp
 |n+1,k,x::xs,out,hl=>by
  unfold pickOrder.go;have hi:next k % (x::xs).length < (x::xs).length:=Nat.mod_lt _ (by simp);have e:(x::xs)[next k % (x::xs).length]?=some (x::xs)[next k % (x::xs).length]:=by rw[zS hi]
  rw[e];dsimp only;refine(SM next n (k+1) _ _ (by rw[List.length_eraseIdx,zi hi];simp at hl ⊢;omega)).trans ?_;rw[Array.toList_push,kB];exact(List.Perm.refl _).append (JF hi)
theorem Vm (next:Nat->Nat) (xs:Array α):(pickOrder next xs).toList.Perm xs.toList:=by
 have:=SM next xs.size 0 xs.toList #[] (by simp);simpa[pickOrder] using this
structure Wk (w:World) (h:Heap) (a:Addr) (es:Array (Int×Value)) (ep:Nat) (t:SetTable):Prop where
 at_:∃ o,h.get? a=some o/\o.cls=.type "set" ∧ o.data=.set es ep t
 fit:t.fits es.size=true
 led:w.params.followText "set-order" = false->t.led=true
 non:1 < es.size->t.plain=false
theorem Wk.keep {h':Heap} {es:Array (Int×Value)} (x:Wk w h a es ep t) (k:∀ o,h.get? a=some o->h'.get? a=some o):Wk w h' a es ep t:=
 ⟨let ⟨o,e,r⟩:=x.at_;⟨o,k o e,r⟩,x.fit,x.led,x.non⟩
def It (h:Heap) (it a:Addr) (first:Value) (i n ep:Nat):Prop:=∃ o,h.get? it=some o/\o.cls=.type "set_iterator" ∧ o.data=.fields #[first,.int (i:Int) 0,.ref a,.int (n:Int) 0,.int (ep:Int) 0]
theorem It.keep {h':Heap} {f:Value} (x:It h it a f i n ep) (k:∀ o,h.get? it=some o->h'.get? it=some o):It h' it a f i n ep:=
 let ⟨o,e,r⟩:=x;⟨o,k o e,r⟩
theorem It.ty {f:Value} (x:It s.heap it a f i n ep):s.TypeIs (.ref it) "set_iterator" := let ⟨o,e,c,_⟩:=x;⟨o,e,c⟩
theorem iK:Slot "set_iterator" "__next__" "set_iterator.__next__" :=
 .of (owner := "set_iterator") (n := "__next__") (by rw[typeLookup_type,builtinLookup_eq_fast];kernel_rfl) (by decide +kernel) (by decide +kernel) (by decide +kernel)
  (by first|exact .inl (by decide +kernel)|exact .inr (by decide +kernel)) (by rw[isSubtype_type];kernel_rfl)
theorem xP:Slot "set_iterator" "__iter__" "set_iterator.__iter__" :=
 .of (owner := "set_iterator") (n := "__iter__") (by rw[typeLookup_type,builtinLookup_eq_fast];kernel_rfl) (by decide +kernel) (by decide +kernel) (by decide +kernel)
  (by first|exact .inl (by decide +kernel)|exact .inr (by decide +kernel)) (by rw[isSubtype_type];kernel_rfl)
theorem Gh:entryFor table "set_iterator.__next__" = some Builtin.«set_iterator.__next__»:=entryFor_of_tree (by kernel_rfl)
theorem Ag:entryFor table "set.__iter__" = some Builtin.«frozenset.__iter__»:=entryFor_alias (id' := "frozenset.__iter__") (by kernel_rfl) rfl (by decide +kernel) (by kernel_rfl)
theorem Gi:entryFor table "set_iterator.__iter__" = some Builtin.«dict_keyiterator.__iter__»:=entryFor_alias (id' := "dict_keyiterator.__iter__") (by kernel_rfl) rfl (by decide +kernel) (by kernel_rfl)
theorem XS:Manifest.owners.lookup (String.ofList "rotareti_tes".toList.reverse)=some Manifest.sig_set_iterator:=by kernel_rfl
theorem JG (a:Value):argsOk "set_iterator.__next__" ⟨[a],[]⟩:=by
 unfold argsOk;rw[signature?_of (id := "set_iterator.__next__") (n := "__txen__".toList) (o := "rotareti_tes".toList) (by kernel_rfl) XS];kernel_rfl
theorem JH (a:Value):argsOk "set_iterator.__iter__" ⟨[a],[]⟩:=by
 unfold argsOk;rw[signature?_of (id := "set_iterator.__iter__") (n := "__reti__".toList) (o := "rotareti_tes".toList) (by kernel_rfl) XS];kernel_rfl
section
variable {es:Array (Int×Value)}
theorem Bj {first:Value} (hit:It s.heap it a first i es.size ep) (hw:Wk w s.heap a es ep t) (h:wpAny (model prog w) A.in1 (if let .int slot _:=first then(do
    match <-setNext a slot.toNat (i:Int).toNat (ep:Int).toNat with
    |some (x,next)=>
     setField (.ref it) 0 (rawInt next)
     setField (.ref it) 1 (rawInt ((i:Int)+1))
     ret x
    |none=>setField (.ref it) 2 .none;raiseNew (<-newExc (.type "StopIteration") []))
   else(do
    let some places <-seqItems? first|unsupported "internal:set_iterator"
    match places[(i:Int).toNat]? with
    |some (.int place _)=>
     let x <-setNextDrawn a place.toNat (ep:Int).toNat
     setField (.ref it) 1 (rawInt ((i:Int)+1))
     ret x
    |some _=>unsupported "internal:set_iterator"
    |none=>setField (.ref it) 0 (rawInt 0);setField (.ref it) 2 .none;raiseNew (<-newExc (.type "StopIteration") []))) (λfin s'=>∃ v,fin=.done (.ret v)/\Q (some v) s') (λe s'=>s'.TypeIs e "StopIteration" ∧ Q none s') s):wpAny (model prog w) A (pyNext (.ref it)) Q E s:=by
 obtain⟨o,ho,hc,hd⟩:=id hit;obtain⟨oa,hoa,hca,hda⟩:=hw.at_;unfold pyNext;refine zb (ym (k6 (name:=Str.ofString "__next__") hit.ty iK (JI iK hit.ty Gh ?_ (JG _))));unfold Builtin.«set_iterator.__next__»;refine zb (ze ?_);refine zb (wpAny_fieldsOf ho hd ?_);show wpAny _ _ (setEntries a >>= _) _ _ s;refine zb (wpAny_setEntries_of hoa hda hw.fit ?_);rw[zC (by simp)];refine ZU h (λfin s' hq=>?_) λe s' hq=>?_
 ·obtain⟨v,rfl,hv⟩:=hq;exact⟨v,rfl,ze hv⟩
 ·refine zb (JE (T := "StopIteration") (b:=true) hq.1 isSubtype_stop ?_);exact ze hq.2
theorem SN {hp:Heap} (hh:A.handled=none) (h:∀ h',(∀ b o,hp.get? b=some o->h'.get? b=some o)->Q none { s with heap:=h' }) :
  wpAny (model prog w) A.in1 (do raiseNew (<-newExc (.type "StopIteration") [])) (λ(fin:Fin) s'=>∃ v,fin=.done (.ret v)/\Q (some v) s') (λe s'=>s'.TypeIs e "StopIteration" ∧ Q none s') { s with heap:=hp }:=by
 refine zb ?_;simp only[newExc,newTuple];refine zb (qa ?_ (by size_fits));refine zb (m:=firstArgMember _ _) (yi (a:=Value.none) (by first|rfl|(simp only[firstArgMember];rfl)) ?_);refine qa ?_ (by size_fits);simp only[raiseNew];refine zb (wpAny_handled ?_);rw[show A.in1.handled=none from hh];refine zb (ze (wpAny_throw ⟨⟨_,zv _ rfl,rfl⟩,?_⟩));exact h _ λb o e=>zd _ (zd _ e)
theorem It.put {f:Value} (hit:It h it a f i n ep) (x:Value):It (h.update it (Obj.mapFields (·.setIfInBounds 0 x))) it a x i n ep:=by
 obtain⟨o,ho,hc,hd⟩:=hit;exact⟨_,QI _ ho (KA (JO hd _)),(Obj.cls_mapFields ..).trans hc,by rw[JO hd];simp⟩
theorem It.step {f:Value} (hit:It h it a f i n ep):It (h.update it (Obj.mapFields (·.setIfInBounds 1 (rawInt ((i:Int)+1))))) it a f (i+1) n ep:=by
 obtain⟨o,ho,hc,hd⟩:=hit;exact⟨_,QI _ ho (KA (JO hd _)),(Obj.cls_mapFields ..).trans hc,by rw[JO hd];simp[rawInt]⟩
theorem It.field {f:Value} {k:Nat} {x:Value} {Q:Unit->Shared->Prop} (hit:It s.heap it a f i n ep) (hk:k < 5) (h:Q () { s with heap:=s.heap.update it (Obj.mapFields (·.setIfInBounds k x)) }):wpAny (model prog w) A (setField (.ref it) k x) Q E s:=by
 obtain⟨o,ho,hc,hd⟩:=hit;exact wpAny_setField ho hd (by simpa using hk) h
theorem qw {f:Obj->Obj} {b:Addr} {o:Obj} (hb:b≠it) (e:h.get? b=some o):(h.update it f).get? b=some o:=by rw[j3 _ _ _ _ hb];exact e
theorem X3 {slot next:Nat} {x:Value} (hit:It s.heap it a (.int (slot:Int) 0) i es.size ep) (hw:Wk w s.heap a es ep t) (hS:∀ {A':Around} {E':VP_} {Q':Option (Value×Nat)->Shared->Prop},Q' (some (x,next)) s->wpAny (model prog w) A' (setNext a slot i ep) Q' E' s) (h:∀ h',It h' it a (.int (next:Int) 0) (i+1) es.size ep->(∀ b o,b≠it->s.heap.get? b=some o->h'.get? b=some o)->Q (some x) { s with heap:=h' }):wpAny (model prog w) A (pyNext (.ref it)) Q E s:=by
 refine Bj hit hw ?_;show wpAny _ _ (setNext a slot i ep >>= _) _ _ s;refine zb (hS ?_);refine zb (hit.field (by decide) ?_);refine zb ((hit.put _).field (s:={ s with heap:=_ }) (by decide) ?_);exact ze ⟨x,rfl,h _ ((hit.put _).step) λb o hb e=>qw hb (qw hb e)⟩
theorem Di {slot:Nat} (hh:A.handled=none) (hit:It s.heap it a (.int (slot:Int) 0) i es.size ep) (hw:Wk w s.heap a es ep t) (hS:∀ {A':Around} {E':VP_} {Q':Option (Value×Nat)->Shared->Prop},Q' none s->wpAny (model prog w) A' (setNext a slot i ep) Q' E' s) (h:∀ h',(∀ b o,b≠it->s.heap.get? b=some o->h'.get? b=some o)->Q none { s with heap:=h' }):wpAny (model prog w) A (pyNext (.ref it)) Q E s:=by
 refine Bj hit hw ?_;show wpAny _ _ (setNext a slot i ep >>= _) _ _ s;refine zb (hS ?_);refine zb (hit.field (by decide) (SN hh λh' k=>h h' λb o hb e=>k b o (qw hb e)))
theorem abh {tp:Addr} {ot:Obj} {c:Nat} {x:Int×Value} (hit:It s.heap it a (.ref tp) i es.size ep) (hw:Wk w s.heap a es ep t) (ht:s.heap.get? tp=some ot) (hd:ot.data=.seq (pl.map λ(k:Nat)=>rawInt (k:Int)).toArray c) (hj:pl[i]?=some j) (hx:es[j]?=some x) (h:∀ h',It h' it a (.ref tp) (i+1) es.size ep->(∀ b o,b≠it->s.heap.get? b=some o->h'.get? b=some o)->Q (some x.2) { s with heap:=h' }):wpAny (model prog w) A (pyNext (.ref it)) Q E s:=by
 refine Bj hit hw ?_;show wpAny _ _ (seqItems? (.ref tp) >>= _) _ _ s;refine zb (m:=seqItems? (.ref tp)) ?_;unfold seqItems?;refine zb (KB ht ?_);rw[hd];refine ze ?_;dsimp only;rw[kC,show((pl.map λ(k:Nat)=>rawInt (k:Int)).toArray)[i]?=some (rawInt (j:Int)) by simp[hj]];show wpAny _ _ (setNextDrawn a j ep >>= _) _ _ s;obtain⟨oa,hoa,hca,hda⟩:=hw.at_;refine zb (m:=setNextDrawn a j ep) ?_;unfold setNextDrawn;refine zb (QR hoa hda hw.fit ?_);dsimp only;rw[zC (by simp),hx];refine ze ?_;refine zb (hit.field (by decide) ?_);exact ze ⟨x.2,rfl,h _ hit.step λb o hb e=>qw hb e⟩
theorem MJ {tp:Addr} {ot:Obj} {c:Nat} (hh:A.handled=none) (hit:It s.heap it a (.ref tp) i es.size ep) (hw:Wk w s.heap a es ep t) (ht:s.heap.get? tp=some ot) (hd:ot.data=.seq (pl.map λ(k:Nat)=>rawInt (k:Int)).toArray c) (hj:pl[i]?=none) (h:∀ h',(∀ b o,b≠it->s.heap.get? b=some o->h'.get? b=some o)->Q none { s with heap:=h' }):wpAny (model prog w) A (pyNext (.ref it)) Q E s:=by
 refine Bj hit hw ?_;show wpAny _ _ (seqItems? (.ref tp) >>= _) _ _ s;refine zb (m:=seqItems? (.ref tp)) ?_;unfold seqItems?;refine zb (KB ht ?_);rw[hd];refine ze ?_;dsimp only;rw[kC,show((pl.map λ(k:Nat)=>rawInt (k:Int)).toArray)[i]?=none by simpa using hj];refine zb (hit.field (by decide) ?_);refine zb ((hit.put _).field (s:={ s with heap:=_ }) (by decide) (SN hh λh' k=>h h' λb o hb e=>k b o (qw hb (qw hb e))))
theorem uP {Q:Bool->Shared->Prop} (h:Q (w.params.followText "set-order") s):wpAny (model prog w) A setsByText Q E s:=by
 unfold setsByText;exact zb (wpAny_askSetting (ze h))
theorem JK {f:Value} {Q:VP_} (hit:It s.heap it a f i n ep) (h:Q (.ref it) s):wpAny (model prog w) A (pyIter (.ref it)) Q E s:=by
 refine wpAny_pyIter_slot hit.ty xP (JI xP hit.ty Gi ?_ (JH _));show wpAny _ _ (ret (.ref it)) _ _ s;exact ze ⟨_,rfl, "set_iterator", _,hit.ty,iK.lookup,h⟩
def JL (w:World) (a:Addr) (ep:Nat) (es:Array (Int×Value)):List Value:=(pickOrder (w.params.setOrder a ep) es).toList.map (·.2)
theorem zj:(JL w a ep es).Perm (es.toList.map (·.2)):=(Vm _ _).map _
theorem Hz {slot:Nat} {Q:Option (Value×Nat)->Shared->Prop} (hf:w.params.followText "set-order" = true) (hw:Wk w s.heap a es ep t) (h:Q (((JL w a ep es)[i]?).map λv=>(v,slot)) s):wpAny (model prog w) A (setNext a slot i ep) Q E s:=by
 obtain⟨oa,hoa,hca,hda⟩:=hw.at_;unfold setNext;refine zb (QR hoa hda hw.fit (zb (uP ?_)));rw[hf];simp only[↓reduceIte,bne_self_eq_false,zk];refine zb (m:=setWalk a) ?_;unfold setWalk;refine zb (QR hoa hda hw.fit (zb (uP ?_)));rw[hf];simp only[↓reduceIte];refine zb (wpAny_askSetting (ze (ze ?_)));have e:(pickOrder (w.params.setOrder a ep) es)[i]?.map (λe=>(e.2,slot))=((JL w a ep es)[i]?).map λv=>(v,slot):=by
  unfold JL;rw[Zl,Option.map_map,Qb];rfl
 rw[<-e] at h;exact h
theorem Qy (hh:A.handled=none) (hf:w.params.followText "set-order" = true) (hne:a≠it) (c:es.size<=sizeLine):Walks prog w A it [it,a] [it] es.size (λi v=>(JL w a ep es)[i]?=some v) (λi h=>It h it a (.int 0 0) i es.size ep/\Wk w h a es ep t) where
 sub:=λb hb=>by simp at hb;simp[hb]
 frame:=λ_ _ _ st hk=>⟨st.1.keep λo e=>hk it (by simp) o e,st.2.keep λo e=>hk a (by simp) o e⟩
 item:=λi s Q E hi st hQ=>by
  have hl:(JL w a ep es).length=es.size:=by rw[zj.length_eq];simp
  obtain⟨v,hv⟩:∃ v,(JL w a ep es)[i]?=some v:=⟨(JL w a ep es)[i]'(by omega),by rw[zS]⟩;refine X3 (slot:=0) (next:=0) (x:=v) st.1 st.2 (λ{A' E' Q'} hq=>Hz hf st.2 (by rw[hv];exact hq)) λh' hi' k=>?_;exact hQ v h' s.toks hv ⟨hi',st.2.keep λo e=>k a o hne e⟩ λb o hb e=>k b o (λx=>hb (by simp[x])) e
 done:=λs Q E st hQ=>by
  have hl:(JL w a ep es).length=es.size:=by rw[zj.length_eq];simp
  refine Di (slot:=0) hh st.1 st.2 (λ{A' E' Q'} hq=>Hz hf st.2 (by rw[qV (by omega)];exact hq)) λh' k=>?_;exact hQ h' s.toks λb o hb e=>k b o (λx=>hb (by simp[x])) e
 self:=λ_ _ _ _ st hQ=>JK st.1 hQ
def Vn (pl:List Nat) (es:Array (Int×Value)):List Value:=pl.filterMap λj=>es[j]?.map (·.2)
theorem Vo (h:pl.Perm (List.range es.size)):(Vn pl es).Perm (es.toList.map (·.2)):=by
 refine(h.filterMap _).trans ?_;rw[show(List.range es.size).filterMap (λj=>es[j]?.map (·.2))=((List.range es.size).filterMap λj=>es[j]?).map (·.2) by rw[List.map_filterMap],filterMap_getElem?_range]
theorem MK:∀ {pl:List Nat},(∀ j∈pl,j < es.size)->∀ (i:Nat) (j:Nat),pl[i]?=some j->(Vn pl es)[i]?=es[j]?.map (·.2)
 |[],_,_,_,h=>by simp at h
 |k::pl,hb,i,j,h=>by
  have hk:=hb k (zo ..);have e:Vn (k::pl) es=es[k].2::Vn pl es:=by simp[Vn,hk]
  rw[e];cases i with
  |zero=>cases(show k=j by simpa using h);simp[hk]
  |succ i=>rw[ZT];exact MK (λj hj=>hb j (zt _ hj)) i j (by simpa using h)
theorem Qz {tp:Addr} (hh:A.handled=none) (hne:a≠it) (htp:tp≠it) (hp:pl.Perm (List.range es.size)):Walks prog w A it [it,a,tp] [it] es.size (λi v=>(Vn pl es)[i]?=some v)
  (λi h=>It h it a (.ref tp) i es.size ep/\Wk w h a es ep t/\∃ ot c,h.get? tp=some ot/\ot.data=.seq (pl.map λ(k:Nat)=>rawInt (k:Int)).toArray c) where
 sub:=λb hb=>by simp at hb;simp[hb]
 frame:=λ_ _ _ st hk=>⟨st.1.keep λo e=>hk it (by simp) o e,st.2.1.keep λo e=>hk a (by simp) o e,let ⟨ot,c,e,r⟩:=st.2.2;⟨ot,c,hk tp (by simp) ot e,r⟩⟩
 item:=λi s Q E hi st hQ=>by
  obtain⟨ot,c,e1,e2⟩:=st.2.2;have hl:pl.length=es.size:=by rw[hp.length_eq];simp
  have hb:∀ j∈pl,j < es.size:=λj hj=>List.mem_range.mp (hp.mem_iff.mp hj);have hj:pl[i]?=some (pl[i]'(by omega)):=by rw[zS]
  have hx:es[pl[i]'(by omega)]?=some (es[pl[i]'(by omega)]'(hb _ (yB _))):=by rw[Z3]
  refine abh st.1 st.2.1 e1 e2 hj hx λh' hi' k=>?_;exact hQ _ h' s.toks (by rw[MK hb i _ hj,hx];rfl) ⟨hi',st.2.1.keep λo e=>k a o hne e,ot,c,k tp ot htp e1,e2⟩ λb o hb e=>k b o (λx=>hb (by simp[x])) e
 done:=λs Q E st hQ=>by
  obtain⟨ot,c,e1,e2⟩:=st.2.2;have hl:pl.length=es.size:=by rw[hp.length_eq];simp
  refine MJ hh st.1 st.2.1 e1 e2 (by rw[qV (by omega)]) λh' k=>?_;exact hQ h' s.toks λb o hb e=>k b o (λx=>hb (by simp[x])) e
 self:=λ_ _ _ _ st hQ=>JK st.1 hQ
def uf (t:SetTable) (i:Nat):Nat:=if i=0 then 0 else t.place.getD 0 0+1
theorem abj (j:Nat):SetTable.below #[j] 0=0:=by
 show SetTable.below.go #[j] 0 1 0 1=0;unfold SetTable.below.go;rw[zi (by decide)];show(if #[j].getD 0 0 < 0 then _ else SetTable.below.go #[j] 0 0 0 0)=0;rw[zC (kr _)];rfl
theorem abk (j:Nat):SetTable.below #[j] (j+1)=1:=by
 show SetTable.below.go #[j] (j+1) 1 0 1=1;unfold SetTable.below.go;rw[zi (by decide)];show(if j < j+1 then SetTable.below.go #[j] (j+1) 0 1 1 else _)=1;rw[zi (qv _)];rfl
theorem Vp {P:Option (Value×Nat)->Prop} {r:Option (Value×Nat)} (hp:t.place.size=es.size) (hn:es.size<=1) (hi:i<=es.size)
  (hr:r=match es[SetTable.below t.place (uf t i)]?,t.place[SetTable.below t.place (uf t i)]? with
   |some (_,x),some j=>some (x,j+1)
   |_,_=>none) (h:P (((es.toList.map (·.2))[i]?).map λv=>(v,uf t (i+1)))):P r:=by
 subst hr;by_cases h0:es.size=0
 ·have e:es=#[]:=Array.eq_empty_of_size_eq_zero h0;subst e;simpa using h
 ·have h1:es.size=1:=by omega
  obtain⟨x,rfl⟩:=Array.size_eq_one_iff.mp h1;obtain⟨j,hj⟩:=Array.size_eq_one_iff.mp (hp.trans h1);have hi:i=0\/i=1:=by omega
  rcases hi with rfl|rfl
  ·have e1:uf t 0=0:=rfl;have e2:uf t (0+1)=j+1:=by unfold uf;rw[hj];rfl
   rw[e2] at h;rw[e1,hj,abj];exact h
  ·have e2:uf t 1=j+1:=by unfold uf;rw[hj];rfl
   rw[e2,hj,abk];exact h
theorem Dj {Q:Option (Value×Nat)->Shared->Prop} (hf:w.params.followText "set-order" = false) (hw:Wk w s.heap a es ep t) (hn:es.size<=1) (hi:i<=es.size) (h:Q (((es.toList.map (·.2))[i]?).map λv=>(v,uf t (i+1))) s):wpAny (model prog w) A (setNext a (uf t i) i ep) Q E s:=by
 obtain⟨oa,hoa,hca,hda⟩:=hw.at_;have hp:t.place.size=es.size:=by
  have:=hw.fit;simp only[SetTable.fits,ZE,beq_iff_eq] at this;exact this.1
 unfold setNext;refine zb (QR hoa hda hw.fit (zb (uP ?_)));rw[hf];simp only[zk,↓reduceIte];split
 ·rename_i hc;have hc:(!t.plain&&decide (es.size > 1))=true:=hc;simp at hc;omega
 ·have hl:wpAny (model prog w) A (if(!t.led&&!es.isEmpty)=true then unsupported "set:maker-not-led" else pure PUnit.unit) (λ_ s'=>s'=s) E s:=by
   rw[hw.led hf];exact ze rfl
  refine zb (ZU hl (λ_ s' e=>?_) λ_ _ x=>x);subst e;refine ze ?_;exact Vp (P:=λr=>Q r s') hp hn hi rfl h
theorem MN (hh:A.handled=none) (hf:w.params.followText "set-order" = false) (hn:es.size<=1) (hne:a≠it):Walks prog w A it [it,a] [it] es.size (λi v=>(es.toList.map (·.2))[i]?=some v) (λi h=>It h it a (.int (uf t i:Nat) 0) i es.size ep/\Wk w h a es ep t) where
 sub:=λb hb=>by simp at hb;simp[hb]
 frame:=λ_ _ _ st hk=>⟨st.1.keep λo e=>hk it (by simp) o e,st.2.keep λo e=>hk a (by simp) o e⟩
 item:=λi s Q E hi st hQ=>by
  obtain⟨v,hv⟩:∃ v,(es.toList.map (·.2))[i]?=some v:=⟨(es.toList.map (·.2))[i]'(by simpa using hi),by rw[zS]⟩;refine X3 (x:=v) st.1 st.2 (λ{A' E' Q'} hq=>Dj hf st.2 hn (QU hi) (by rw[hv];exact hq)) λh' hi' k=>?_;exact hQ v h' s.toks hv ⟨hi',st.2.keep λo e=>k a o hne e⟩ λb o hb e=>k b o (λx=>hb (by simp[x])) e
 done:=λs Q E st hQ=>by
  refine Di hh st.1 st.2 (λ{A' E' Q'} hq=>Dj hf st.2 hn (zg _) (by rw[qV (by simp)];exact hq)) λh' k=>?_;exact hQ h' s.toks λb o hb e=>k b o (λx=>hb (by simp[x])) e
 self:=λ_ _ _ _ st hQ=>JK st.1 hQ
theorem X4 (hw:Wk w s.heap a es ep t) (hc:es.size<=sizeLine) {Q:VP_}
  (h:∀ (it:Addr) (h':Heap) (d:Drawn) (fp:List Addr) (St:Nat->Heap->Prop) (ord:List Value),ord.Perm (es.toList.map (·.2))->(∀ A':Around,A'.handled=none->Walks prog w A' it fp [it] es.size (λi v=>ord[i]?=some v) St)->St 0 h'->s.heap.objs.size<=it->it < h'.objs.size →
   (∀ b∈fp,b=a\/s.heap.objs.size<=b)->(∀ b∈fp,b < h'.objs.size)->(∀ b o,s.heap.get? b=some o->h'.get? b=some o)->Q (.ref it) { s with heap:=h',drawn:=d }):wpAny (model prog w) A (pyIter (.ref a)) Q E s:=by
 obtain⟨oa,hoa,hca,hda⟩:=id hw.at_;have hT:s.TypeIs (.ref a) "set" := ⟨oa,hoa,hca⟩;have hlt:a < s.heap.objs.size:=zw hoa;refine wpAny_pyIter_slot hT F.slot_set_iter (JI F.slot_set_iter hT Ag ?_ (F.args_set_iter_1 _));show wpAny _ _ (Builtin.Frozenset.sizeOf a >>= _) _ _ s;refine zb (m:=Builtin.Frozenset.sizeOf a) (zb (wpAny_setEntries_of hoa hda hw.fit (ze ?_)));have hd:wpAny (model prog w) A.in1 (setDrawn a) (λb s'=>s'=s/\b=(!(w.params.followText "set-order")&&(!t.plain&&decide (es.size > 1)))) E s:=by
  unfold setDrawn;exact zb (QR hoa hda hw.fit (zb (uP (ze ⟨rfl,rfl⟩))))
 refine zb (ZU hd (λb s' e=>?_) λ_ _ x=>x);obtain⟨rfl,rfl⟩:=e;dsimp only;by_cases hf:w.params.followText "set-order" = true
 ·rw[hf];simp only[kz,ye,zk,ZI];refine zb (ze ?_);refine zb (m:=setEpoch a) (wpAny_setEpoch_of hoa hda hw.fit ?_);refine zb (qa (ze ⟨_,rfl, "set_iterator", _,⟨_,zv _ rfl,rfl⟩,iK.lookup,?_⟩));have:=h s'.heap.objs.size (s'.heap.push { cls:=.type "set_iterator", data:=.fields #[.int 0 0,.int 0 0,.ref a,.int es.size 0,.int ep 0] }) s'.drawn [s'.heap.objs.size,a] _ _ zj (λA' hh=>Qy hh hf (t:=t) (ep:=ep) (zI hlt) hc)
   ⟨⟨_,zv _ rfl,rfl,rfl⟩,hw.keep λo e=>zd _ e⟩ (zg _) (by rw[qk];exact qv _) (λb hb=>by simp at hb;rcases hb with rfl|rfl;exact .inr (zg _);exact .inl rfl)
   (λb hb=>by simp at hb;rw[qk];rcases hb with rfl|rfl;exact qv _;exact qq hlt) λb o e=>zd _ e
  exact this
 ·have hf:w.params.followText "set-order" = false:=by simpa using hf
  rw[hf];simp only[Kb,yn];by_cases hn:es.size<=1
  ·rw[zC (by simp;omega)];refine zb (ze ?_);refine zb (m:=setEpoch a) (wpAny_setEpoch_of hoa hda hw.fit ?_);refine zb (qa (ze ⟨_,rfl, "set_iterator", _,⟨_,zv _ rfl,rfl⟩,iK.lookup,?_⟩));have:=h s'.heap.objs.size (s'.heap.push { cls:=.type "set_iterator", data:=.fields #[.int 0 0,.int 0 0,.ref a,.int es.size 0,.int ep 0] }) s'.drawn [s'.heap.objs.size,a] _ _ (List.Perm.refl _) (λA' hh=>MN hh hf hn (t:=t) (ep:=ep) (zI hlt))
    ⟨⟨_,zv _ rfl,rfl,rfl⟩,hw.keep λo e=>zd _ e⟩ (zg _) (by rw[qk];exact qv _) (λb hb=>by simp at hb;rcases hb with rfl|rfl;exact .inr (zg _);exact .inl rfl)
    (λb hb=>by simp at hb;rw[qk];rcases hb with rfl|rfl;exact qv _;exact qq hlt) λb o e=>zd _ e
   exact this
  ·rw[zi (by rw[hw.non (by omega)];simp;omega)];refine zb (abg _ _ _ _ (by simp) λpl d hp=>?_);refine zb (wpAny_newTuple ?_ (by rw[zl,hp.length_eq,Kk];exact hc));refine zb (m:=setEpoch a) (wpAny_setEpoch_of (zd _ hoa) hda hw.fit ?_);refine zb (qa (ze ⟨_,rfl, "set_iterator", _,⟨_,zv _ rfl,rfl⟩,iK.lookup,?_⟩));generalize hG:s'.heap.push { cls:=.type "tuple", data:=.seq (pl.map λ(k:Nat)=>rawInt (k:Int)).toArray }=G;have sG:G.objs.size=s'.heap.objs.size+1:=by rw[<-hG,qk]
   have gG:G.get? s'.heap.objs.size=some { cls:=.type "tuple", data:=.seq (pl.map λ(k:Nat)=>rawInt (k:Int)).toArray }:=by rw[<-hG];exact zv _ rfl
   have kG:∀ b o,s'.heap.get? b=some o->G.get? b=some o:=λb o e=>by rw[<-hG];exact zd _ e
   have ltG:a < G.objs.size:=by rw[sG];exact qq hlt
   have:=h G.objs.size (G.push { cls:=.type "set_iterator", data:=.fields #[.ref s'.heap.objs.size,.int 0 0,.ref a,.int es.size 0,.int ep 0] }) d [G.objs.size,a,s'.heap.objs.size] _ _ (Vo hp) (λA' hh=>Qz hh (t:=t) (ep:=ep) (tp:=s'.heap.objs.size) (zI ltG) (by rw[sG];exact zI (qv _)) hp)
    ⟨⟨_,zv _ rfl,rfl,rfl⟩,hw.keep λo e=>zd _ (kG _ _ e),_,0,zd _ gG,rfl⟩ (by rw[sG];exact kl _) (by rw[qk];exact qv _)
    (λb hb=>by simp at hb;rcases hb with rfl|rfl|rfl;exact .inr (by rw[sG];exact kl _);exact .inl rfl;exact .inr (zg _))
    (λb hb=>by
     simp at hb;rw[qk];rcases hb with rfl|rfl|rfl
     ·exact qv _
     ·exact qq ltG
     ·exact qq (by rw[sG];exact qv _)) λb o e=>zd _ (kG _ _ e)
   exact this
end
end S6
namespace S6
open P1
section
variable {es:Array (Int×Value)}
theorem Vq {ord:List Value} {acc:Array Value} (hn:ord.length=n) (h:ItemsOf (λi v=>ord[i]?=some v) acc n):acc.toList=ord:=by
 apply List.ext_getElem?;intro j;by_cases hj:j < n
 ·have hl:j < acc.size:=by rw[h.1];exact hj
  have e:acc.toList[j]?=some acc[j]:=by simp[hl]
  rw[e,h.2 j acc[j] (by simp[hl])]
 ·rw[qV (by rw[qh,h.1];omega),qV (by omega)]
theorem MP {Q:List Value->Shared->Prop} (hh:A.handled=none) (hw:Wk w s.heap a es ep t) (hc:es.size<=sizeLine)
  (hQ:∀ ord h' d tk,ord.Perm (es.toList.map (·.2))->s.heap.objs.size<=h'.objs.size->(∀ b o,s.heap.get? b=some o->h'.get? b=some o)->Q ord { s with heap:=h',drawn:=d,toks:=tk }) :
  wpAny (model prog w) A (collect (.ref a)) Q E s:=by
 obtain⟨oa,hoa,hca,hda⟩:=id hw.at_;have hT:s.TypeIs (.ref a) "set" := ⟨oa,hoa,hca⟩;have hlt:a < s.heap.objs.size:=zw hoa;unfold collect;refine zb (wpAny_runValue (jI F.entry_proto_collect ?_));rw[Around.under_plainId F.plain_proto_collect _];show wpAny _ A.in1 (newList [] >>= λq=>again (.builtin "list.__iadd__" ⟨[q,.ref a],[]⟩)) _ _ s;refine zb (qa (ze ⟨plainId_quiet F.plain_list_iadd _,jI F.entry_list_iadd ?_⟩));rw[Around.under_plainId F.plain_list_iadd _];show wpAny _ A.in1 (Builtin.List.listExtendWith (.ref s.heap.objs.size) (.ref a) (.ref s.heap.objs.size)) _ _ _;unfold Builtin.List.listExtendWith;generalize hH:(s.heap.push { cls:=.type "list", data:=.seq ([]:List Value).toArray })=H;have kH:∀ b o,s.heap.get? b=some o->H.get? b=some o:=λb o e=>by rw[<-hH];exact zd _ e
 have sH:H.objs.size=s.heap.objs.size+1:=by rw[<-hH,qk]
 have gH:H.get? s.heap.objs.size=some (seqObj "list" #[] 0):=by rw[<-hH];exact zv _ rfl
 have hw1:Wk w H a es ep t:=hw.keep λo e=>kH a o e;refine zb (QQ (T := "set") ⟨oa,kH _ _ hoa,hca⟩ ?_);have h1:Builtin.List.listSameRef (.ref s.heap.objs.size) (.ref a)=false:=by simp[Builtin.List.listSameRef];exact kL hlt
 simp only[h1,show(Value.type "set" == Value.type "list")=false by decide,show(Value.type "set" == Value.type "tuple")=false by decide,Bool.or_false,zk,ZI];refine zb (X4 (s:={ s with heap:=H }) hw1 hc λit G d fp St ord hp W st0 hit hit2 hfp akZ kG=>?_);refine zb (qo ?_);unfold Builtin.List.listLengthHint;have hT2:Shared.TypeIs { s with heap:=G,drawn:=d } (.ref a) "set" := ⟨oa,kG _ _ (kH _ _ hoa),hca⟩;refine zb (wpAny_specialOf (T := "set") hT2 F.slot_set_len.lookup ?_)
 wp_delta
 refine zb (JE (T := "set") (b:=true) hT2 (by rw[isSubtype_type];kernel_rfl) ?_);show wpAny _ A.in1 (typeOf (Value.ref a) >>= _) _ _ _;refine zb (QQ (T := "set") hT2 (ze ?_));rw[zi (by decide)];show wpAny _ A.in1 (Builtin.List.listTouch (Value.ref s.heap.objs.size) >>= λ_=>again (Code.builtin "list.extend.loop" ⟨[Value.ref s.heap.objs.size,Value.ref it,Value.ref s.heap.objs.size],[]⟩)) _ _ _;have hS:G.get? s.heap.objs.size=some (seqObj "list" #[] 0):=kG _ _ gH;unfold Builtin.List.listTouch;refine zb (zb (listUpdate_at hS rfl (listUpdate_at (get?_update_seq hS _) rfl ?_ (by show _<=_;decide) (by show _<=_;decide)) (by show _<=_;decide) (by show _<=_;decide)));have hSf:s.heap.objs.size∉fp:=λhm=>by
  rcases hfp _ hm with e|e
  ·exact kL hlt e
  ·have e:H.objs.size<=s.heap.objs.size:=e;rw[sH] at e;exact absurd e (Nat.not_succ_le_self _)
 have hS3:=get?_update_seq (get?_update_seq hS (λx=>x.push Value.none)) (λx=>x.pop);generalize hU:(G.update s.heap.objs.size (Obj.mapSeq λx=>x.push Value.none)).update s.heap.objs.size (Obj.mapSeq λx=>x.pop)=U at hS3;have keep:∀ b,b≠s.heap.objs.size->U.get? b=G.get? b:=λb hb=>by rw[<-hU,j3 _ _ _ _ hb,j3 _ _ _ _ hb]
 have st1:St 0 U:=(W A hh).frame 0 G U st0 λb hb o e=>by rw[keep b λx=>hSf (x▸hb)];exact e
 show wpAny _ A.in1 (again _) _ _ { s with heap:=U,drawn:=d };have ho:ord.length=es.size:=by rw[hp.length_eq];simp
 refine ze ⟨plainId_quiet F.plain_extend_loop _,codeAny_extend_loopS (W A.in1 hh).toS hc s.heap.objs.size hSf _ es.size 0 { s with heap:=U,drawn:=d } #[] _ rfl (QO _) st1 hS3 (ItemsOf.nil _) λs' acc' c' mv hS' hacc=>?_⟩;show wpAny _ A (load s.heap.objs.size >>= _) _ _ s';refine zb (KB hS' (ze ?_));show Q acc'.toList s';rw[Vq ho hacc];have key:=hQ ord s'.heap s'.drawn s'.toks hp (QU (zw hS')) λb ob e=>by
  have hb:=zw e;refine mv.heap b ob (λhm=>?_) ((keep b (zI hb)).trans (kG _ _ (kH _ _ e)));simp only[ZZ,ZO,or_false] at hm;rcases hm with hm|hm
  ·exact zI hb hm
  ·have:H.objs.size<=it:=hit;rw[sH,<-hm] at this;exact absurd hb (Nat.not_lt.mpr (Nat.le_of_succ_le this))
 have e1:s'.gens=s.gens:=mv.gens;have e2:s'.os=s.os:=mv.os;rw[<-e1,<-e2] at key;exact key
end
theorem Bk {α:Type} [DecidableEq α]:∀ {xs ys:List α},xs.Nodup->ys.Nodup->(∀ z,z∈xs↔z∈ys)->xs.Perm ys
 |[],ys,_,_,h=>by
  have:ys=[]:=List.eq_nil_iff_forall_not_mem.mpr λz hz=>by simpa using(h z).mpr hz
  subst this;exact .refl _
 |x::xs,ys,hx,hy,h=>by
  have hm:x∈ys:=(h x).mp (zo ..);have hc:=List.nodup_cons.mp hx;refine((Bk hc.2 (hy.erase x) λz=>?_).cons x).trans (List.perm_cons_erase hm).symm;rw[hy.mem_erase_iff];constructor
  ·intro hz;exact⟨λe=>hc.1 (e▸hz),(h z).mp (zt _ hz)⟩
  ·intro⟨hn,hz⟩;rcases List.mem_cons.mp ((h z).mpr hz) with e|e
   ·exact absurd e hn
   ·exact e
theorem zO {R:α->β->Prop}:∀ {l l':List β},l'.Perm l->∀ {ys:List α},Paired R ys l->∃ ys',ys'.Perm ys/\Paired R ys' l':=by
 intro l l' hp
 replace hp:=hp.symm
 induction hp with
 |nil=>intro ys h;exact⟨ys,.refl _,h⟩
 |cons x _ ih=>intro ys h;cases h with|cons r t=>obtain⟨zs,z1,z2⟩:=ih t;exact⟨_::zs,z1.cons _,.cons r z2⟩
 |swap x y l=>intro ys h;cases h with|cons r t=>cases t with|cons r' t'=>exact⟨_,List.Perm.swap _ _ _,.cons r' (.cons r t')⟩
 |trans _ _ ih1 ih2=>intro ys h;obtain⟨zs,z1,z2⟩:=ih1 h;obtain⟨us,u1,u2⟩:=ih2 z2;exact⟨us,u1.trans z1,u2⟩
theorem QC {R:α->β->Prop} {xs:List α} {us:List β} {ys:List α} {vs:List β} (h:Paired R xs us) (k:Paired R ys vs):Paired R (xs++ys) (us++vs):=by
 induction h with
 |nil=>exact k
 |cons r _ ih=>exact .cons r ih
def blank (w:World):Obj:={ cls:=.type "set", dict:=none,data:=.set #[] 0 (.fresh 0 0 (!w.params.followText "set-order")) }
structure Adds (prog:Program) (w:World) (S:Addr) (wr:List Addr) {κ:Type} (C:Heap->List κ->Prop) (P:Nat->Value->Prop) (val:Nat->κ) (n:Nat):Prop where
 keep:∀ h h' ys,C h ys->(∀ b o,b∉wr->h.get? b=some o->h'.get? b=some o)->C h' ys
 add:∀ (A:Around) (E:VP_) (s:Shared) (i:Nat) (v:Value) (ys:List κ) (Q:Bool->Shared->Prop),A.units < cLine->i < n->P i v->C s.heap ys->ys.length<=i →
  (∀ b h' tk ys',Heap.SameBut S s.heap h'->C h' ys'->(∀ z,z∈ys'↔z∈ys\/z=val i)->ys'.length<=i+1->s.toks<=tk->Q b { s with heap:=h',toks:=tk })->wpAny (model prog w) A (setAdd S v) Q E s
section
variable {R:Result->Shared->Prop} {I:Addr} {wr:List Addr} {P:Nat->Value->Prop} {St:Nat->Shared->Prop} {C:Heap->List κ->Prop} {val:Nat->κ}
theorem X5 (W:WalksS prog w A.in1 I fp wr (λa b=>b=a) n P St) (S:Addr) (hSf:S∉fp) (ad:Adds prog w S wr C P val n) (hU:A.units+1 < cLine) :
  ∀ (k i:Nat) (s:Shared) (ys:List κ),n - i=k->i<=n->St i s->C s.heap ys->(∀ z,z∈ys↔∃ j,j < i/\z=val j)->ys.length<=i →
   (∀ s' ys',Moved (S::wr) (λa b=>b=a) s s'->C s'.heap ys'->(∀ z,z∈ys'↔∃ j,j < n/\z=val j)->R (.ok (.ret .none)) s') →
   codeAny (model prog w) A (.builtin "set.update.loop" ⟨[.ref S,.ref I],[]⟩) R s:=by
 have sub:∀ b,b∈wr->b∈S::wr:=λb q=>zt _ q;intro k
 induction k with
 |zero=>
  intro i s ys hk hi st hc hm hl hR;have:i=n:=by omega
  subst this;refine jI F.entry_set_update_loop ?_;rw[Around.under_plainId yY _];show wpAny _ A.in1 (pyNext (.ref I) >>= _) _ _ s;refine zb (W.done s _ _ st λs' mv=>?_);show wpAny _ A.in1 (ret Value.none) _ _ s';exact ze (hR s' ys (mv.mono sub) (ad.keep _ _ _ hc mv.heap) hm)
 |succ k ih=>
  intro i s ys hk hi st hc hm hl hR;have hlt:i < n:=by omega
  refine jI F.entry_set_update_loop ?_;rw[Around.under_plainId yY _];show wpAny _ A.in1 (pyNext (.ref I) >>= _) _ _ s;refine zb (W.item i s _ _ hlt st λv s' hP st' mv=>?_);show wpAny _ A.in1 (holding [v] (setAdd S v) >>= _) _ _ s';refine zb (qo (ad.add _ _ s' i v ys _ hU hlt hP (ad.keep _ _ _ hc mv.heap) hl λb h' tk ys' sb hc' hm' hl' htk=>?_));refine ze ⟨plainId_quiet yY _,ih (i+1) _ ys' (by omega) hlt (W.frame _ s' _ _ st' htk λb hb o e=>?_) hc' (λz=>?_) hl' λs'' ys'' aiQ hc'' hm''=>?_⟩
  ·rw[sb.2 b λq=>hSf (q▸hb)];exact e
  ·rw[hm' z,hm z];constructor
   ·rintro(⟨j,hj,e⟩|e)
    ·exact⟨j,by omega,e⟩
    ·exact⟨i,by omega,e⟩
   ·rintro⟨j,hj,e⟩;by_cases q:j=i
    ·exact .inr (q▸e)
    ·exact .inl ⟨j,by omega,e⟩
  ·refine hR s'' ys'' (Moved.trans W.gtrans ((mv.mono sub).then_heap htk λb o hb e=>?_) aiQ) hc'' hm'';rw[sb.2 b λq=>hb (by rw[q];exact zo)];exact e
end
theorem QD (x:Value) {Q₁:VP_} (h:Q₁ (.ref s.heap.objs.size) { s with heap:=s.heap.push (blank w) }) :
  codeAny (model prog w) A (.call (.builtin "set.__new__") ⟨[.type "set", x],[]⟩) (wants Q₁ E) s:=by
 refine codeAny_of_tree ?_;show wpAny _ A.in1 (do checkBuiltinCall "set.__new__" ⟨[.type "set", x],[]⟩;again (.builtin "set.__new__" ⟨[.type "set", x],[]⟩)) _ _ s;refine zb (yi (F.newCall_set_1 x) (ze ⟨plainId_quiet F.plain_set_new _,jI F.entry_set_new ?_⟩));rw[Around.under_plainId F.plain_set_new _];unfold Builtin.«set.__new__» Builtin.Frozenset.newClass;have hsub:=sub_set_self;obtain⟨hp,g,d,tk,os⟩:=s;dsimp only
 wp_walk
 refine wpAny_askSetting (ze ?_);dsimp only;simp only[newObj];refine zb (wpAny_alloc (ze ?_));exact ze h
theorem sub_tuple_set:isSubtype (.type "tuple") (.type "set")=pure false:=by rw[isSubtype_type];kernel_rfl
theorem sub_tuple_frozenset:isSubtype (.type "tuple") (.type "frozenset")=pure false:=by rw[isSubtype_type];kernel_rfl
theorem X6 (hU:A.units+60 < cLine) {T:String} {l:Addr} {o:Obj} {C:Heap->List κ->Prop} {P:Nat->Value->Prop} {val:Nat->κ} {Q:VP_} (hh:A.handled=none) (ho:s.heap.get? l=some o) (hcl:o.cls=.type T) (hT:T = "list" ∨ T = "tuple") (hit:∀ (A':Around) (E':VP_) (Q':VP_) (h0:Heap),A'.handled=none->(∀ b ob,s.heap.get? b=some ob->h0.get? b=some ob) →
   (∀ (h':Heap) (St:Nat->Heap->Prop),(∀ A',A'.handled=none->Walks prog w A' h0.objs.size [h0.objs.size,l] [h0.objs.size] n P St)->St 0 h'->(∀ b ob,h0.get? b=some ob->h'.get? b=some ob)->Q' (.ref h0.objs.size) { s with heap:=h' })->wpAny (model prog w) A' (pyIter (.ref l)) Q' E' { s with heap:=h0 }) (ad:Adds prog w s.heap.objs.size [s.heap.objs.size+1] C P val n) (hc0:∀ h',h'.get? s.heap.objs.size=some (blank w)->(∀ b ob,s.heap.get? b=some ob->h'.get? b=some ob)->C h' []) (h:∀ (h':Heap) (tk:Nat) (ys:List κ),C h' ys->(∀ z,z∈ys↔∃ j,j < n/\z=val j)->(∀ b ob,s.heap.get? b=some ob->h'.get? b=some ob)->Q (.ref s.heap.objs.size) { s with heap:=h',toks:=tk }) :
  wpAny (model prog w) A (call (.type "set") [.ref l]) Q E s:=by
 obtain⟨c,tl,hmro⟩:=F.called_set.mro;have hmade:=F.called_set.made;have hsub:=F.called_set.sub;have hlS:l < s.heap.objs.size:=zw ho;refine KF (codeAny_of_tree ?_);show wpAny _ _ (callAny (.type "set") _) _ _ _;refine ze ⟨Code.quiet_builtin _ (by decide +kernel),jI F.entry_type_call ?_⟩;rw[Around.under_plain (weight_type_call_type "set" [.ref l] []) rfl];have h1:=F.called_set.notType;have h2:=F.called_set.canCreate;have hct:=F.typeCall_set_1 (.ref l)
 repeat (any_goals (first|assumption|wp_step))
 refine k8 (QD (.ref l) (E:=E) (Q₁:=λobj s₁=>obj=.ref s.heap.objs.size/\s₁={ s with heap:=s.heap.push (blank w) }) ⟨rfl,rfl⟩) λr s₁ hr=>?_;cases r with
 |error e=>exact hr
 |ok fl=>
  cases fl with
  |ret obj=>
   obtain⟨rfl,rfl⟩:=hr;generalize hH:s.heap.push (blank w)=H;have sH:H.objs.size=s.heap.objs.size+1:=by rw[<-hH,qk]
   have hS:H.get? s.heap.objs.size=some (blank w):=by rw[<-hH];exact zv _ rfl
   have kH:∀ b ob,s.heap.get? b=some ob->H.get? b=some ob:=λb ob e=>by rw[<-hH];exact zd _ e
   have hTS:Shared.TypeIs { s with heap:=H } (.ref s.heap.objs.size) "set" := ⟨_,hS,rfl⟩;have hli:=F.called_set.init.lookup;have hbi:=F.called_set.init.bind (.ref s.heap.objs.size)
   repeat (any_goals (first|assumption|wp_step))
   refine k8 (codeAny_call_builtin (R:=wants (λr s₂=>r=.none/\∃ h' tk ys,s₂={ s with heap:=h',toks:=tk }/\C h' ys/\(∀ z,z∈ys↔∃ j,j < n/\z=val j)/\(∀ b ob,s.heap.get? b=some ob->h'.get? b=some ob)) E) F.called_set.init.plain F.entry_set_init (check_set_init_1 hTS ?_)) λr₂ s₂ hr₂=>?_
   ·have hT2:Shared.TypeIs { s with heap:=H } (.ref l) T:=⟨o,kH _ _ ho,hcl⟩;have i1:isSubtype (.type T) (.type "set")=pure false:=by rcases hT with rfl|rfl;exact F.sub_list_set;exact sub_tuple_set
    have i2:isSubtype (.type T) (.type "frozenset")=pure false:=by rcases hT with rfl|rfl;exact F.sub_list_frozenset;exact sub_tuple_frozenset
    have i3:(Value.type T==Value.type "dict")=false:=by rcases hT with rfl|rfl<;>decide
    show wpAny _ _ (Builtin.«set.__init__» ⟨[.ref s.heap.objs.size,.ref l],[]⟩) _ _ _;have hup:∀ A':Around,A'.handled=none->A'.units+4 < cLine->wpAny (model prog w) A' (Builtin.Frozenset.updateFrom "set.__init__" s.heap.objs.size (.ref l)) (λ_ s₂=>∃ h' tk ys,s₂={ s with heap:=h',toks:=tk }/\C h' ys/\(∀ z,z∈ys↔∃ j,j < n/\z=val j)/\(∀ b ob,s.heap.get? b=some ob->h'.get? b=some ob)) E { s with heap:=H }:=by
     intro A' hA hA4;unfold Builtin.Frozenset.updateFrom Builtin.Frozenset.isAnySet;refine zb (zb (JE hT2 i1 ?_));refine JE hT2 i2 ?_;simp only[zk,ZI];refine zb (QQ hT2 ?_);simp only[i3,zk,ZI];refine zb (hit A' _ _ H hA kH λG St W st0 kG=>?_);rw[sH] at W;rw[sH];have hSf:s.heap.objs.size∉[s.heap.objs.size+1,l]:=λq=>by
      simp only[ZZ,ZO,or_false] at q;rcases q with q|q
      ·exact zI (qv _) q
      ·exact kL hlS q
     refine zb (wpAny_runValue (X5 (W A'.in1 hA).toS s.heap.objs.size hSf ad (by omega) (n - 0) 0 _ [] rfl (QO _) st0 (hc0 G (kG _ _ hS) λb ob e=>kG _ _ (kH _ _ e)) (λz=>⟨λq=>(by cases q),λ⟨j,q,_⟩=>absurd q (kr _)⟩) (zg _) λs' ys mv c1 c2=>?_));refine ze ⟨s'.heap,s'.toks,ys,?_,c1,c2,λb ob e=>?_⟩
     ·have e1:s'.gens=s.gens:=mv.gens;have e2:s'.os=s.os:=mv.os;have e3:s'.drawn=s.drawn:=mv.drawn;rw[<-e1,<-e2,<-e3]
     ·have hb:=zw e;refine mv.heap b ob (λq=>?_) (kG _ _ (kH _ _ e));simp only[ZZ,ZO,or_false] at q;rcases q with q|q
      ·exact zI hb q
      ·exact zI (qq hb) q
    have hb:(blank w).data=.set #[] 0 (.fresh 0 0 (!w.params.followText "set-order")):=rfl;unfold Builtin.«set.__init__» noKeywords;generalize hUF:Builtin.Frozenset.updateFrom=UF at hup ⊢;unfold blank at hS
    wp_walk
    refine ZU (hup _ (by simp[hh]) (by simp;omega)) (λu s₂ q=>?_) λ_ _ q=>q;obtain⟨h',tk,ys,rfl,q⟩:=q;show wpAny _ _ (ret Value.none) _ _ _;exact ze ⟨rfl,h',tk,ys,rfl,q⟩
   ·cases r₂ with
    |error e=>exact hr₂
    |ok fl₂=>
     cases fl₂ with
     |ret r=>
      obtain⟨rfl,h',tk,ys,rfl,c1,c2,c3⟩:=hr₂
      repeat (any_goals (first|assumption|wp_step))
      exact h _ _ _ c1 c2 c3
     |_=>exact False.elim hr₂
  |_=>exact False.elim hr
end S6
namespace S6
open PySem
def QF (xs:Array Nat):Prop:=∀ i j,i < j->j < xs.size->xs.getD i 0 < xs.getD j 0
theorem getD_in {xs:Array Nat} {k a b:Nat} (h:k < xs.size):xs.getD k a=xs.getD k b:=by simp[Array.getD,h]
theorem abl {xs:Array Nat} {k a:Nat} (h:xs[k]?=some j):k < xs.size/\xs.getD k a=j:=by
 have hk:k < xs.size:=by
  by_cases q:k < xs.size
  ·exact q
  ·rw[Kx (by omega)] at h;cases h
 refine⟨hk,?_⟩;rw[Z3 hk] at h;cases h;simp[Array.getD,hk]
theorem abm {xs:Array Nat} {k a:Nat} (hk:k < xs.size) (h:xs.getD k a=j):xs[k]?=some j:=by
 rw[Z3 hk];simp[Array.getD,hk] at h;rw[h]
theorem Dk (xs:Array Nat) (j:Nat) (hr:QF xs):∀ (fuel lo hi:Nat),lo<=hi->hi<=xs.size->hi - lo<=fuel->(∀ k,k < lo->xs.getD k 0 < j)->(∀ k,hi<=k->k < xs.size->j<=xs.getD k 0) →
  SetTable.below.go xs j fuel lo hi<=xs.size/\(∀ k,k < SetTable.below.go xs j fuel lo hi->xs.getD k 0 < j)/\∀ k,SetTable.below.go xs j fuel lo hi<=k->k < xs.size->j<=xs.getD k 0
 |0,lo,hi,h1,h2,h3,h4,h5=>by
  have e:lo=hi:=by omega
  subst e;unfold SetTable.below.go;exact⟨h2,h4,h5⟩
 |fuel+1,lo,hi,h1,h2,h3,h4,h5=>by
  unfold SetTable.below.go;by_cases hl:lo < hi
  ·rw[zi hl];dsimp only;have hm:(lo+hi) / 2 < xs.size:=by omega
   rw[getD_in (b:=0) hm];by_cases q:xs.getD ((lo+hi) / 2) 0 < j
   ·rw[zi q];refine Dk xs j hr fuel _ hi (by omega) h2 (by omega) (λk hk=>?_) h5;by_cases e:k=(lo+hi) / 2
    ·rw[e];exact q
    ·exact Nat.lt_trans (hr k _ (by omega) hm) q
   ·rw[zC q];refine Dk xs j hr fuel lo _ (by omega) (by omega) (by omega) h4 λk hk hs=>?_;by_cases e:k=(lo+hi) / 2
    ·rw[e];omega
    ·have:=hr _ k (by omega:(lo+hi) / 2 < k) hs;omega
  ·rw[zC hl];have e:lo=hi:=by omega
   subst e;exact⟨h2,h4,h5⟩
theorem below_at {xs:Array Nat} (hr:QF xs) (j:Nat):SetTable.below xs j<=xs.size/\(∀ k,k < SetTable.below xs j->xs.getD k 0 < j)/\∀ k,SetTable.below xs j<=k->k < xs.size->j<=xs.getD k 0:=
 Dk xs j hr xs.size 0 xs.size (QO _) (zg _) (by omega) (λk h=>absurd h (kr _)) λk h h'=>absurd h' (by omega)
theorem Dl {xs:Array Nat} (hr:QF xs) (h:xs[i]?=some j):SetTable.below xs j=i:=by
 obtain⟨h1,h2,h3⟩:=below_at hr j;obtain⟨hi,e⟩:=abl (a:=0) h;rcases Nat.lt_trichotomy (SetTable.below xs j) i with q|q|q
 ·have:=h3 _ (zg _) (by omega);have:=hr _ _ q hi;omega
 ·exact q
 ·have:=h2 _ q;omega
theorem SQ (j:Nat):SetTable.has #[] j=false:=by
 unfold SetTable.has;simp
structure Tb (t:SetTable):Prop where
 mask:t.mask=7\/t.mask=31\/t.mask=127
 dum:t.dummies=#[]
 rise:QF t.place
 bd:∀ j:Nat,j∈t.place->j<=t.mask
 full:t.place.size<=t.mask
theorem zm (h:Tb t) (e:t.place[i]?=some j):t.slot j=.live i:=by
 unfold SetTable.slot;simp only[Dl h.rise e,e,beq_self_eq_true,qS]
theorem Vr (h:Tb t) (e:j∉t.place):t.slot j=.empty:=by
 unfold SetTable.slot;have:(t.place[SetTable.below t.place j]?==some j)=false:=by
  cases q:t.place[SetTable.below t.place j]? with
  |none=>rfl
  |some x=>
   by_cases hx:x=j
   ·subst hx;exact absurd (Array.mem_of_getElem? q) e
   ·simp[hx]
 simp only[this,zk,ZI,h.dum,SQ]
def Gj (mask:Nat) (p:SetTable.Probe):SetTable.Probe:=
 if p.more > 0 then { p with j:=p.j+1,more:=p.more - 1 } else
 { p with j:=(SetTable.leap mask p.i p.perturb).1,more:=SetTable.runEnd mask (SetTable.leap mask p.i p.perturb).1 - (SetTable.leap mask p.i p.perturb).1,i:=(SetTable.leap mask p.i p.perturb).1,perturb:=(SetTable.leap mask p.i p.perturb).2 }
theorem X7 (t:SetTable) (p:SetTable.Probe):t.advance p=Gj t.mask p:=rfl
def at0 (mask i perturb:Nat):SetTable.Probe:={ j:=i,more:=SetTable.runEnd mask i - i,i,perturb,dummy:=none }
def f9 (mask:Nat) (h:Int):Nat->SetTable.Probe
 |0=>at0 mask (SetTable.bits h % (mask+1)) (SetTable.bits h)
 |n+1=>Gj mask (f9 mask h n)
theorem SX (mask:Nat) (h:Int):∀ n,(f9 mask h n).dummy=none
 |0=>rfl
 |n+1=>by
  have:=SX mask h n;unfold f9 Gj;split<;>exact this
theorem M4 {t:SetTable} (ht:Tb t) (hashAt:Nat->Int) (h:Int):∀ (d fuel n:Nat),d < fuel->(∀ m,n<=m->m < n+d->∃ i,t.place[i]?=some (f9 t.mask h m).j/\hashAt i≠h) →
  ((f9 t.mask h (n+d)).j∉t.place->SetTable.probe.go t hashAt h fuel (f9 t.mask h n)=some (.empty (f9 t.mask h (n+d)).j none)) ∧
  ∀ i,t.place[i]?=some (f9 t.mask h (n+d)).j->hashAt i=h->SetTable.probe.go t hashAt h fuel (f9 t.mask h n)=some (.candidate (f9 t.mask h (n+d)).j i (f9 t.mask h (n+d+1)))
 |0,fuel+1,n,_,_=>by
  refine⟨λe=>?_,λi e1 e2=>?_⟩
  ·unfold SetTable.probe.go;rw[Nat.add_zero] at e ⊢;rw[Vr ht e];simp only[SX]
  ·unfold SetTable.probe.go;rw[Nat.add_zero] at e1 ⊢;rw[zm ht e1];simp only[e2,beq_self_eq_true,qS,X7];rfl
 |d+1,fuel+1,n,hd,hp=>by
  obtain⟨i,e1,e2⟩:=hp n (zg _) (by omega);have ih:=M4 ht hashAt h d fuel (n+1) (by omega) λm h1 h2=>hp m (by omega) (by omega);have e:SetTable.probe.go t hashAt h (fuel+1) (f9 t.mask h n)=SetTable.probe.go t hashAt h fuel (f9 t.mask h (n+1)):=by
   conv=>lhs;unfold SetTable.probe.go
   rw[zm ht e1];simp only[beq_iff_eq,e2,ZI,X7];rfl
  rw[e,show n+(d+1)=n+1+d by omega];exact ih
theorem QG:∀ (xs ys:List Nat),xs.Nodup->(∀ x,x∈xs->x∈ys)->xs.length<=ys.length
 |[],_,_,_=>QO _
 |x::xs,ys,hn,hs=>by
  have hc:=List.nodup_cons.mp hn;have hm:=hs x (zo ..);have:=QG xs (ys.erase x) hc.2 λz hz=>(List.mem_erase_of_ne (λe:z=x=>hc.1 (by rw[<-e];exact hz))).mpr (hs z (zt _ hz));have:=List.length_erase_of_mem hm;have:0 < ys.length:=List.length_pos_of_mem hm;simp only[QE];omega
def nx (M i:Nat):Nat:=(i * 5+1) % M
def M5 (M:Nat):Nat->Nat->Nat
 |0,i=>i
 |k+1,i=>M5 M k (nx M i)
theorem Bl (M:Nat):∀ (a b i:Nat),M5 M (a+b) i=M5 M b (M5 M a i)
 |0,b,i=>by rw[k9];rfl
 |a+1,b,i=>by rw[Nat.succ_add];exact Bl M a b _
theorem aiR:(∀ r,r < 8->∃ k,k < 8/\M5 8 k 0=r)/\M5 8 8 0=0:=by decide +kernel
theorem agL:(∀ r,r < 32->∃ k,k < 32/\M5 32 k 0=r)/\M5 32 32 0=0:=by decide +kernel
theorem aeH:(∀ r,r < 128->∃ k,k < 128/\M5 128 k 0=r)/\M5 128 128 0=0:=by decide +kernel
theorem cyc {M:Nat} (h:(∀ r,r < M->∃ k,k < M/\M5 M k 0=r)/\M5 M M 0=0) {r:Nat} (hi:i < M) (hr:r < M):∃ k,k < M/\M5 M k i=r:=by
 obtain⟨a,ha,rfl⟩:=h.1 i hi;obtain⟨b,hb,rfl⟩:=h.1 r hr;by_cases q:a<=b
 ·exact⟨b - a,by omega,by rw[<-Bl,show a+(b - a)=b by omega]⟩
 ·exact⟨M - a+b,by omega,by rw[<-Bl,show a+(M - a+b)=M+b by omega,Bl,h.2]⟩
theorem aiT (h:mask=7\/mask=31\/mask=127) {r:Nat} (hi:i < mask+1) (hr:r < mask+1):∃ k,k < mask+1/\M5 (mask+1) k i=r:=by
 rcases h with rfl|rfl|rfl
 ·exact cyc aiR hi hr
 ·exact cyc agL hi hr
 ·exact cyc aeH hi hr
def lp (mask:Nat) (h:Int):Nat->Nat×Nat
 |0=>(SetTable.bits h % (mask+1),SetTable.bits h)
 |l+1=>SetTable.leap mask (lp mask h l).1 (lp mask h l).2
theorem Dm (mask i:Nat):i<=SetTable.runEnd mask i/\SetTable.runEnd mask i<=i+9:=by unfold SetTable.runEnd;split<;>omega
theorem X8 (h:i<=mask):SetTable.runEnd mask i<=mask:=by unfold SetTable.runEnd;split<;>omega
theorem xQ {mask:Nat} {h:Int} {s i p:Nat} (e:f9 mask h s=at0 mask i p):∀ k,k<=SetTable.runEnd mask i - i->f9 mask h (s+k)={ at0 mask i p with j:=i+k,more:=SetTable.runEnd mask i - i - k }
 |0,_=>by rw[Nat.add_zero,e];rfl
 |k+1,hk=>by
  have ih:=xQ e k (by omega);show Gj mask (f9 mask h (s+k))=_;rw[ih];unfold Gj;rw[zi (by dsimp only;omega)];rfl
theorem M6 {h:Int} {s p:Nat} (e:f9 mask h s=at0 mask i p):f9 mask h (s+(SetTable.runEnd mask i - i)+1)=at0 mask (SetTable.leap mask i p).1 (SetTable.leap mask i p).2:=by
 show Gj mask (f9 mask h (s+(SetTable.runEnd mask i - i)))=_;rw[xQ e _ (zg _)];unfold Gj;rw[zC (by dsimp only;omega)];rfl
theorem Yb (mask:Nat) (h:Int):∀ l,∃ s,s<=10 * l/\f9 mask h s=at0 mask (lp mask h l).1 (lp mask h l).2
 |0=>⟨0,by omega,rfl⟩
 |l+1=>by
  obtain⟨s,hs,e⟩:=Yb mask h l;have:=Dm mask (lp mask h l).1;exact⟨_,by omega,M6 e⟩
theorem agM (mask:Nat) (h:Int):∀ l,(lp mask h l).1 < mask+1
 |0=>Nat.mod_lt _ (Nat.succ_pos _)
 |l+1=>Nat.mod_lt _ (Nat.succ_pos _)
theorem M7 (mask:Nat) (h:Int):∀ l,(lp mask h l).2 * 32 ^ l<=SetTable.bits h
 |0=>by simp[lp]
 |l+1=>by
  have ih:=M7 mask h l;show(lp mask h l).2 / 32 * 32 ^ (l+1)<=_;have h1:(lp mask h l).2 / 32 * 32<=(lp mask h l).2:=Nat.div_mul_le_self _ _;have h2:=Nat.mul_le_mul_right (32 ^ l) h1;rw[Nat.pow_succ,Nat.mul_comm (32 ^ l) 32,<-Nat.mul_assoc];exact Zp h2 ih
theorem abo (h:Int):SetTable.bits h < 18446744073709551616:=by
 unfold SetTable.bits;have h1:h % 18446744073709551616 < 18446744073709551616:=Int.emod_lt_of_pos _ (by decide);have h2:0<=h % 18446744073709551616:=Int.emod_nonneg _ (by decide);show(h % 18446744073709551616).toNat < _;omega
theorem S5 (mask:Nat) (h:Int):∀ k,(lp mask h (12+k)).2 < 32
 |0=>by
  have h1:=M7 mask h 12;have h2:=abo h;rw[show(32:Nat) ^ 12=1152921504606846976 from rfl] at h1;show(lp mask h 12).2 < 32;omega
 |k+1=>by
  have:=S5 mask h k;show(lp mask h (12+k)).2 / 32 < 32;omega
theorem agN (mask:Nat) (h:Int):∀ k,(lp mask h (12+k)).1=M5 (mask+1) k (lp mask h 12).1:=by
 have step:∀ k,(lp mask h (12+k+1)).1=nx (mask+1) (lp mask h (12+k)).1:=λk=>by
  have:=S5 mask h k;show((lp mask h (12+k)).1 * 5+1+(lp mask h (12+k)).2 / 32) % (mask+1)=_;rw[show(lp mask h (12+k)).2 / 32=0 by omega];rfl
 have comm:∀ k i,M5 (mask+1) k (nx (mask+1) i)=nx (mask+1) (M5 (mask+1) k i):=λk=>by
  induction k with
  |zero=>intro i;rfl
  |succ k ih=>intro i;exact ih _
 intro k
 induction k with
 |zero=>rfl
 |succ k ih=>
  rw[show 12+(k+1)=12+k+1 by omega,step,ih];exact(comm k _).symm
theorem Yc (hm:mask=7\/mask=31\/mask=127) (h:Int) {r:Nat} (hr:r < mask+1):∃ l,l < mask+13/\(lp mask h l).1=r:=by
 obtain⟨k,hk,e⟩:=aiT hm (agM mask h 12) hr;exact⟨12+k,by omega,by rw[agN,e]⟩
theorem gap (h:Tb t):∃ r,r < t.mask+1/\r∉t.place:=by
 by_cases q:∃ r,r < t.mask+1/\r∉t.place
 ·exact q
 ·exfalso;have:=QG (List.range (t.mask+1)) t.place.toList yA λx hx=>by
   rw[yb] at hx;by_cases q':x∈t.place
   ·exact Array.mem_toList_iff.mpr q'
   ·exact absurd ⟨x,hx,q'⟩ q
  rw[Kk,qh] at this;have:=h.full;omega
theorem Yd (ht:Tb t) (h:Int):∃ n,n < 10 * SetTable.turns t.mask/\(f9 t.mask h n).j∉t.place:=by
 obtain⟨r,hr,hn⟩:=gap ht;obtain⟨l,hl,e⟩:=Yc ht.mask h hr;obtain⟨s,hs,e'⟩:=Yb t.mask h l;refine⟨s,by unfold SetTable.turns;omega,?_⟩;rw[e'];show(lp t.mask h l).1∉_;rw[e];exact hn
theorem QH (ht:Tb t) (h:Int):∃ n,n < 10 * SetTable.turns t.mask/\(f9 t.mask h n).j∉t.place/\∀ m,m < n->(f9 t.mask h m).j∈t.place:=by
 obtain⟨n,hn,hf⟩:=Yd ht h;have:∀ k,(∃ n,n<=k/\(f9 t.mask h n).j∉t.place/\∀ m,m < n->(f9 t.mask h m).j∈t.place)\/∀ m,m<=k->(f9 t.mask h m).j∈t.place:=λk=>by
  induction k with
  |zero=>
   by_cases q:(f9 t.mask h 0).j∈t.place
   ·exact .inr λm hm=>by rw[show m=0 by omega];exact q
   ·exact .inl ⟨0,zg _,q,λm hm=>absurd hm (kr _)⟩
  |succ k ih=>
   rcases ih with⟨n,h1,h2⟩|ih
   ·exact .inl ⟨n,by omega,h2⟩
   ·by_cases q:(f9 t.mask h (k+1)).j∈t.place
    ·exact .inr λm hm=>by
      by_cases e:m=k+1
      ·rw[e];exact q
      ·exact ih m (by omega)
    ·exact .inl ⟨k+1,zg _,q,λm hm=>ih m (by omega)⟩
 rcases this n with⟨m,h1,h2,h3⟩|q
 ·exact⟨m,by omega,h2,h3⟩
 ·exact absurd (q n (zg _)) hf
theorem gD (xs:Array α) (k:Nat) (a:α):xs.getD k a=xs[k]?.getD a:=by
 by_cases h:k < xs.size
 ·rw[Z3 h];simp[Array.getD,h]
 ·rw[Kx (by omega)];simp[Array.getD,h]
structure Tok (t:SetTable) (es:Array (Int×Value)):Prop extends Tb t where
 size:t.place.size=es.size
 reach:∀ (i j:Nat) e,t.place[i]?=some j->es[i]?=some e->∃ n,n < 10 * SetTable.turns t.mask/\(f9 t.mask e.1 n).j=j/\∀ m,m < n->(f9 t.mask e.1 m).j∈t.place
theorem xR (xs:Array α) (p:Nat) (x:α):(SetTable.insertAt xs p x).toList=xs.toList.take p++x::xs.toList.drop p:=by
 unfold SetTable.insertAt;simp[Array.toList_extract,List.take_of_length_le]
theorem Bb {xs:Array α} {p:Nat} (hp:p<=xs.size) (x:α) (i:Nat):(SetTable.insertAt xs p x)[i]?=if i < p then xs[i]? else if i=p then some x else xs[i - 1]?:=by
 rw[<-Qb,xR,List.getElem?_append];have hl:(xs.toList.take p).length=p:=by rw[JJ,qh];omega
 rw[hl];by_cases h1:i < p
 ·rw[zi h1,zi h1,List.getElem?_take,zi h1,Qb]
 ·rw[zC h1,zC h1];by_cases h2:i=p
  ·rw[zi h2,h2,Nat.sub_self];rfl
  ·rw[zC h2,show i - p=(i - p - 1)+1 by omega,ZT,List.getElem?_drop,Qb,show p+(i - p - 1)=i - 1 by omega]
theorem ug (xs:Array α) (p:Nat) (x:α):(SetTable.insertAt xs p x).size=xs.size+1:=by
 rw[<-qh,xR,Zs,QE,JJ,kg,qh];omega
theorem S7 {xs:Array α} {p:Nat} {x y:α}:y∈SetTable.insertAt xs p x↔y∈xs\/y=x:=by
 rw[<-Array.mem_toList_iff,xR,KP,ZZ,<-Array.mem_toList_iff];constructor
 ·rintro(h|h|h)
  ·exact .inl (List.mem_of_mem_take h)
  ·exact .inr h
  ·exact .inl (List.mem_of_mem_drop h)
 ·rintro(h|h)
  ·rw[<-List.take_append_drop p xs.toList,KP] at h;rcases h with h|h
   ·exact .inl h
   ·exact .inr (.inr h)
  ·exact .inr (.inl h)
theorem Ye {xs:Array Nat} (hr:QF xs) (hj:j∉xs):QF (SetTable.insertAt xs (SetTable.below xs j) j):=by
 obtain⟨h1,h2,h3⟩:=below_at hr j;intro a b hab hb;rw[ug] at hb;have ga:∀ i,i < xs.size+1->(SetTable.insertAt xs (SetTable.below xs j) j).getD i 0=if i < SetTable.below xs j then xs.getD i 0 else if i=SetTable.below xs j then j else xs.getD (i - 1) 0:=λi hi=>by
  rw[gD,Bb h1];by_cases q1:i < SetTable.below xs j
  ·rw[zi q1,zi q1,<-gD]
  ·rw[zC q1,zC q1];by_cases q2:i=SetTable.below xs j
   ·rw[zi q2,zi q2];rfl
   ·rw[zC q2,zC q2,<-gD]
 have gt:∀ k,SetTable.below xs j<=k->k < xs.size->j < xs.getD k 0:=λk hk hs=>by
  have q:=h3 k hk hs;rcases Nat.lt_or_eq_of_le q with q|q
  ·exact q
  ·exact absurd (Array.mem_of_getElem? (abm hs q.symm)) hj
 rw[ga a (by omega),ga b hb];by_cases a1:a < SetTable.below xs j
 ·rw[zi a1];by_cases b1:b < SetTable.below xs j
  ·rw[zi b1];exact hr a b hab (by omega)
  ·rw[zC b1];have:=h2 a a1;by_cases b2:b=SetTable.below xs j
   ·rw[zi b2];exact this
   ·rw[zC b2];exact Nat.lt_trans this (gt _ (by omega) (by omega))
 ·rw[zC a1];by_cases a2:a=SetTable.below xs j
  ·rw[zi a2,zC (by omega),zC (by omega)];exact gt _ (by omega) (by omega)
  ·rw[zC a2,zC (by omega),zC (by omega)];exact hr _ _ (by omega) (by omega)
theorem abp {es:Array (Int×Value)} (h:Tok t es) {hh:Int} {x:Value} (hn:n < 10 * SetTable.turns t.mask) (hf:(f9 t.mask hh n).j∉t.place) (hp:∀ m,m < n->(f9 t.mask hh m).j∈t.place) (hj:(f9 t.mask hh n).j<=t.mask) (hs:es.size+1<=t.mask) :
  Tok (t.put (f9 t.mask hh n).j).1 (SetTable.insertAt es (t.put (f9 t.mask hh n).j).2 (hh,x))/\(t.put (f9 t.mask hh n).j).1.led=t.led/\(t.put (f9 t.mask hh n).j).1.plain=t.plain/\(t.put (f9 t.mask hh n).j).1.mask=t.mask:=by
 have hd:=h.dum;have he:t.put (f9 t.mask hh n).j=({ t with place:=SetTable.insertAt t.place (SetTable.below t.place (f9 t.mask hh n).j) (f9 t.mask hh n).j,dummies:=#[] },SetTable.below t.place (f9 t.mask hh n).j):=by
  unfold SetTable.put;rw[hd];simp only[SQ,zk,ZI]
 rw[he];have hz:=h.size;have hb:=(below_at h.rise (f9 t.mask hh n).j).1;refine⟨{ mask:=h.mask,dum:=rfl,rise:=Ye h.rise hf,bd:=λj hj'=>?_,full:=?_,size:=?_,reach:=λi j e h1 h2=>?_ },rfl,rfl,rfl⟩
 ·rcases S7.mp hj' with q|q
  ·exact h.bd j q
  ·rw[q];exact hj
 ·show(SetTable.insertAt _ _ _).size<=t.mask;rw[ug];omega
 ·show(SetTable.insertAt _ _ _).size=_;rw[ug,ug,hz]
 ·have h1:(SetTable.insertAt t.place (SetTable.below t.place (f9 t.mask hh n).j) (f9 t.mask hh n).j)[i]?=some j:=h1;rw[Bb hb] at h1;rw[Bb (by rw[<-hz];exact hb)] at h2;have up:∀ e':Int×Value,(∃ n,n < 10 * SetTable.turns t.mask/\(f9 t.mask e'.1 n).j=j/\∀ m,m < n->(f9 t.mask e'.1 m).j∈t.place)->∃ n',n' < 10 * SetTable.turns t.mask/\(f9 t.mask e'.1 n').j=j/\∀ m,m < n'->(f9 t.mask e'.1 m).j∈SetTable.insertAt t.place (SetTable.below t.place (f9 t.mask hh n).j) (f9 t.mask hh n).j:=
   λe' ⟨n,a,b,c⟩=>⟨n,a,b,λm hm=>S7.mpr (.inl (c m hm))⟩
  by_cases q1:i < SetTable.below t.place (f9 t.mask hh n).j
  ·rw[zi q1] at h1 h2;exact up e (h.reach i j e h1 h2)
  ·rw[zC q1] at h1 h2;by_cases q2:i=SetTable.below t.place (f9 t.mask hh n).j
   ·rw[zi q2] at h1 h2;cases h1;cases h2;exact up (hh,x) ⟨n,hn,rfl,hp⟩
   ·rw[zC q2] at h1 h2;exact up e (h.reach (i - 1) j e h1 h2)
theorem Yg {mask:Nat} (h:Int):∀ n,(f9 mask h n).j+(f9 mask h n).more<=mask
 |0=>by
  have h1:SetTable.bits h % (mask+1) < mask+1:=Nat.mod_lt _ (Nat.succ_pos _);have:=X8 (mask:=mask) (i:=SetTable.bits h % (mask+1)) (by omega);have:=Dm mask (SetTable.bits h % (mask+1));show SetTable.bits h % (mask+1)+(SetTable.runEnd mask (SetTable.bits h % (mask+1)) - SetTable.bits h % (mask+1))<=mask;omega
 |n+1=>by
  have ih:=Yg (mask:=mask) h n;show(Gj mask (f9 mask h n)).j+(Gj mask (f9 mask h n)).more<=mask;unfold Gj;split
  ·dsimp only;omega
  ·dsimp only;generalize hl:(SetTable.leap mask (f9 mask h n).i (f9 mask h n).perturb).1=i;have h1:i < mask+1:=by rw[<-hl];exact Nat.mod_lt _ (Nat.succ_pos _)
   have:=X8 (mask:=mask) (i:=i) (by omega);have:=Dm mask i;omega
theorem QJ (h:Int) (n:Nat):(f9 mask h n).j<=mask:=by have:=Yg (mask:=mask) h n;omega
def QK (owner:Array (Option Nat)) (j:Nat):Prop:=(owner.getD j (some 0)).isNone=false
theorem HB {mask:Nat} {h:Int} {owner:Array (Option Nat)}:∀ (fuel l s j:Nat),f9 mask h s=at0 mask (lp mask h l).1 (lp mask h l).2->s<=10 * l->(∀ m,m < s->QK owner (f9 mask h m).j) →
  SetTable.layClean.free mask owner fuel (lp mask h l).1 (lp mask h l).2=some j->∃ n,n < 10 * (l+fuel)/\(f9 mask h n).j=j/\(owner.getD j (some 0)).isNone=true/\∀ m,m < n->QK owner (f9 mask h m).j
 |0,l,s,j,_,_,_,e=>by unfold SetTable.layClean.free at e;cases e
 |fuel+1,l,s,j,hs,hl,ho,e=>by
  have hr:=Dm mask (lp mask h l).1;unfold SetTable.layClean.free at e;cases hf:(List.range (SetTable.runEnd mask (lp mask h l).1+1 - (lp mask h l).1)).find? λk=>(owner.getD ((lp mask h l).1+k) (some 0)).isNone with
  |some k=>
   rw[hf] at e;cases e;obtain⟨h1,h2,h3⟩:=List.find?_range_eq_some.mp hf;rw[yb] at h2;refine⟨s+k,by omega,?_,h1,λm hm=>?_⟩
   ·rw[xQ hs k (by omega)]
   ·by_cases q:m < s
    ·exact ho m q
    ·have h4:=h3 (m - s) (by omega);rw[show m=s+(m - s) by omega,xQ hs (m - s) (by omega)];simpa[QK] using h4
  |none=>
   rw[hf] at e;have h3:=List.find?_range_eq_none.mp hf;obtain⟨n,a,b⟩:=HB fuel (l+1) _ j (M6 hs) (by omega) (λm hm=>by
    by_cases q:m < s
    ·exact ho m q
    ·have h4:=h3 (m - s) (by omega);rw[show m=s+(m - s) by omega,xQ hs (m - s) (by omega)];simpa[QK] using h4) e
   exact⟨n,by omega,b⟩
theorem HD {mask:Nat} {h:Int} {owner:Array (Option Nat)}:∀ (fuel l:Nat),SetTable.layClean.free mask owner fuel (lp mask h l).1 (lp mask h l).2=none->∀ l',l<=l'->l' < l+fuel->QK owner (lp mask h l').1
 |0,l,_,l',h1,h2=>by omega
 |fuel+1,l,e,l',h1,h2=>by
  have hr:=Dm mask (lp mask h l).1;unfold SetTable.layClean.free at e;cases hf:(List.range (SetTable.runEnd mask (lp mask h l).1+1 - (lp mask h l).1)).find? λk=>(owner.getD ((lp mask h l).1+k) (some 0)).isNone with
  |some k=>rw[hf] at e;cases e
  |none=>
   rw[hf] at e;have h3:=List.find?_range_eq_none.mp hf;by_cases q:l'=l
   ·subst q;have h4:=h3 0 (by omega);simpa[QK] using h4
   ·exact HD fuel (l+1) e l' (by omega) (by omega)
structure Ow (mask:Nat) (hs:List Int) (owner:Array (Option Nat)):Prop where
 size:owner.size=mask+1
 lt:∀ (j idx:Nat),owner[j]?=some (some idx)->idx < hs.length
 all:∀ (idx:Nat) h,hs[idx]?=some h->∃ j,owner[j]?=some (some idx)/\∃ n,n < 10 * SetTable.turns mask/\(f9 mask h n).j=j/\∀ m,m < n->QK owner (f9 mask h m).j
 inj:∀ (j j' idx:Nat),owner[j]?=some (some idx)->owner[j']?=some (some idx)->j=j'
theorem Yh (o:Ow mask hs owner) (hj:j<=mask):QK owner j↔∃ idx,owner[j]?=some (some idx):=by
 unfold QK;have hlt:j < owner.size:=by rw[o.size];omega
 rw[gD,Z3 hlt];cases owner[j] with
 |none=>simp
 |some i=>simp
theorem Vs {f:Nat->Nat}:∀ {xs:List Nat},xs.Nodup->(∀ x∈xs,∀ y∈xs,f x=f y->x=y)->(xs.map f).Nodup:=λ{xs} hn hi=>
 List.pairwise_map.mpr (yv (λha hb hne e=>hne (hi _ ha _ hb e)) hn)
theorem abq (o:Ow mask hs owner) (hl:hs.length<=mask):∃ r,r < mask+1/\¬ QK owner r:=by
 by_cases q:∃ r,r < mask+1/\¬ QK owner r
 ·exact q
 ·exfalso;have all:∀ r,r < mask+1->∃ idx,owner[r]?=some (some idx):=λr hr=>by
   by_cases q':QK owner r
   ·exact(Yh o (by omega)).mp q'
   ·exact absurd ⟨r,hr,q'⟩ q
  have f:∀ r,r < mask+1->owner[r]?=some (some ((owner[r]?.getD none).getD 0)):=λr hr=>by
   obtain⟨idx,e⟩:=all r hr;rw[e];rfl
  have:=QG ((List.range (mask+1)).map λr=>(owner[r]?.getD none).getD 0) (List.range hs.length) (Vs yA λx hx y hy e=>by
   rw[yb] at hx hy;have e1:=f x hx;have e2:=f y hy;rw[e] at e1;exact o.inj x y _ e1 e2) λx hx=>by
    obtain⟨r,hr,rfl⟩:=List.mem_map.mp hx;rw[yb] at hr;exact List.mem_range.mpr (o.lt r _ (f r hr))
  rw[zl,Kk,Kk] at this;omega
theorem abr (hm:mask=7\/mask=31\/mask=127) (o:Ow mask hs owner) (hl:hs.length<=mask) (h:Int) :
  ∃ j,SetTable.layClean.free mask owner (SetTable.turns mask) (SetTable.bits h % (mask+1)) (SetTable.bits h)=some j/\Ow mask (hs++[h]) (owner.setIfInBounds j (some hs.length)):=by
 obtain⟨r,hr,hn⟩:=abq o hl;cases hf:SetTable.layClean.free mask owner (SetTable.turns mask) (SetTable.bits h % (mask+1)) (SetTable.bits h) with
 |none=>
  obtain⟨l,hl',e⟩:=Yc hm h hr;have:=HD (h:=h) (owner:=owner) (SetTable.turns mask) 0 hf l (QO _) (by unfold SetTable.turns;omega);rw[e] at this;exact absurd this hn
 |some j=>
  obtain⟨n,h1,h2,h3,h4⟩:=HB (h:=h) (owner:=owner) (SetTable.turns mask) 0 0 j rfl (zg _) (λm hm=>absurd hm (kr _)) hf;rw[k9] at h1;have hj:j<=mask:=by rw[<-h2];exact QJ h n
  have hjs:j < owner.size:=by rw[o.size];omega
  have get:∀ k:Nat,(owner.setIfInBounds j (some hs.length))[k]?=if k=j then some (some hs.length) else owner[k]?:=λk=>by
   rw[Array.getElem?_setIfInBounds];by_cases q:k=j
   ·rw[zi q,zi q.symm,zi hjs]
   ·rw[zC q,zC (λe=>q e.symm)]
  have old:∀ k idx:Nat,owner[k]?=some (some idx)->k≠j:=λk idx e q=>by
   subst q;rw[gD,e] at h3;cases h3
  have up:∀ k,QK owner k->QK (owner.setIfInBounds j (some hs.length)) k:=λk q=>by
   unfold QK at q ⊢;rw[gD] at q ⊢;rw[get];by_cases e:k=j
   ·rw[zi e];rfl
   ·rw[zC e];exact q
  refine⟨j,rfl,⟨by rw[Array.size_setIfInBounds];exact o.size,λk idx e=>?_,λidx g e=>?_,λa b idx e1 e2=>?_⟩⟩
  ·rw[get] at e;rw[Zs];by_cases q:k=j
   ·rw[zi q] at e;cases e;simp
   ·rw[zC q] at e;have:=o.lt k idx e;simp;omega
  ·by_cases q:idx < hs.length
   ·rw[ZN q] at e;obtain⟨k,e1,n',a,b,c⟩:=o.all idx g e;exact⟨k,by rw[get,zC (old k idx e1)];exact e1,n',a,b,λm hm=>up _ (c m hm)⟩
   ·rw[qr (by omega)] at e;have:idx - hs.length=0:=by
     by_cases q':idx - hs.length=0
     ·exact q'
     ·rw[qV (by simp;omega)] at e;cases e
    rw[this] at e;cases e;have:idx=hs.length:=by omega
    subst this;exact⟨j,by rw[get,zi rfl],n,h1,h2,λm hm=>up _ (h4 m hm)⟩
  ·rw[get] at e1 e2;by_cases q1:a=j
   ·by_cases q2:b=j
    ·rw[q1,q2]
    ·rw[zi q1] at e1;rw[zC q2] at e2;cases e1;have:=o.lt b _ e2;omega
   ·by_cases q2:b=j
    ·rw[zC q1] at e1;rw[zi q2] at e2;cases e2;have:=o.lt a _ e1;omega
    ·rw[zC q1] at e1;rw[zC q2] at e2;exact o.inj a b idx e1 e2
theorem aeI (mask:Nat):Ow mask [] (Array.replicate (mask+1) none):=by
 have no:∀ (j idx:Nat),(Array.replicate (mask+1) (none:Option Nat))[j]?≠some (some idx):=λj idx e=>by
  rw[Array.getElem?_replicate] at e;split at e<;>cases e
 exact⟨Array.size_replicate,λj idx e=>absurd e (no j idx),λidx h e=>by simp at e,λj j' idx e=>absurd e (no j idx)⟩
theorem aeJ (hm:mask=7\/mask=31\/mask=127) (hs:List Int) (hl:hs.length<=mask):∃ owner,SetTable.layClean mask hs.toArray=some owner/\Ow mask hs owner:=by
 have key:∀ (ys xs:List Int) (owner:Array (Option Nat)),Ow mask xs owner->xs.length+ys.length<=mask->∃ Yi,ys.foldl (λ(acc:Option (Array (Option Nat)×Nat)) h=>do
   let (owner,k) <-acc
   let j <-SetTable.layClean.free mask owner (SetTable.turns mask) (SetTable.bits h % (mask+1)) (SetTable.bits h)
   pure (owner.setIfInBounds j (some k),k+1)) (some (owner,xs.length))=some (Yi,xs.length+ys.length)/\Ow mask (xs++ys) Yi:=by
  intro ys
  induction ys with
  |nil=>intro xs owner o _;exact⟨owner,rfl,by rw[QY];exact o⟩
  |cons y ys ih=>
   intro xs owner o hl;rw[QE] at hl;obtain⟨j,e,o'⟩:=abr hm o (by omega) y;obtain⟨ow,e2,o2⟩:=ih (xs++[y]) _ o' (by simp;omega);refine⟨ow,?_,by rw[kB] at o2;exact o2⟩;rw[QP];simp only[Option.bind_eq_bind,kf,e,pure];rw[show(xs++[y]).length=xs.length+1 by simp] at e2;rw[QE,show xs.length+(ys.length+1)=xs.length+1+ys.length by omega];exact e2
 obtain⟨ow,e,o⟩:=key hs [] _ (aeI mask) (by simpa using hl);refine⟨ow,?_,by simpa using o⟩;unfold SetTable.layClean;rw[List.foldl_toArray];exact congrArg (Option.map (·.1)) e
theorem Jv {α β:Type} {f:α->Option β} {g:α->β}:∀ {xs:List α},(∀ x∈xs,f x=some (g x))->xs.filterMap f=xs.map g
 |[],_=>rfl
 |x::xs,h=>by
  rw[kM,h x (zo ..),zr,Jv λy hy=>h y (zt _ hy)]
theorem abt {xs:List Nat} (h:xs.Pairwise (· < ·)):QF xs.toArray:=by
 intro i j hij hj;have hj':j < xs.length:=by simpa using hj
 rw[gD,gD,List.getElem?_toArray,List.getElem?_toArray,zS hj',zS (by omega)];exact List.pairwise_iff_getElem.mp h i j (by omega) hj' hij
theorem Vt {es:Array (Int×Value)} {wanted:Nat} (hm:SetTable.sizeAbove wanted - 1=7\/SetTable.sizeAbove wanted - 1=31\/SetTable.sizeAbove wanted - 1=127) (hl:es.size<=SetTable.sizeAbove wanted - 1) :
  ∃ t' order,t.relaid (es.map (·.1)) wanted=some (t',order)/\(order.filterMap (es[·]?)).toList.Perm es.toList/\Tok t' (order.filterMap (es[·]?))/\t'.led=t.led/\t'.plain=t.plain/\t'.mask=SetTable.sizeAbove wanted - 1:=by
 generalize hM:SetTable.sizeAbove wanted - 1=mask at hm hl ⊢;have hs:(es.toList.map (·.1)).length=es.size:=by simp
 obtain⟨ow,e,o⟩:=aeJ hm (es.toList.map (·.1)) (by omega);have ea:es.map (·.1)=(es.toList.map (·.1)).toArray:=by
  apply Array.ext';simp
 let L:List (Nat×Nat):=(List.range (mask+1)).filterMap λj=>(ow.getD j none).map λk=>(j,k)
 have hL:∀ j k,(j,k)∈L↔ow[j]?=some (some k):=λj k=>by
  show(j,k)∈List.filterMap _ _↔_;rw[List.mem_filterMap];constructor
  ·rintro⟨a,ha,q⟩;rw[gD] at q;cases h1:ow[a]? with
   |none=>rw[h1] at q;cases q
   |some x=>
    rw[h1] at q;cases x with
    |none=>cases q
    |some y=>cases q;exact h1
  ·intro q;refine⟨j,List.mem_range.mpr ?_,?_⟩
   ·by_cases h:j < ow.size
    ·rw[<-o.size];exact h
    ·rw[Kx (by omega)] at q;cases q
   ·rw[gD,q];rfl
 have pL:L.Pairwise λa b=>a.1 < b.1:=by
  refine List.pairwise_filterMap.mpr (List.pairwise_lt_range.imp λ{a b} hab x hx y hy=>?_);cases h1:ow.getD a none with
  |none=>rw[h1] at hx;cases hx
  |some u=>
   cases h2:ow.getD b none with
   |none=>rw[h2] at hy;cases hy
   |some v=>rw[h1] at hx;rw[h2] at hy;cases hx;cases hy;exact hab
 have ndO:(L.map (·.2)).Nodup:=by
  refine List.pairwise_map.mpr (yv (λ{a b} ha hb hab e=>?_) pL);have h1:=(hL a.1 a.2).mp ha;have h2:=(hL b.1 b.2).mp hb;rw[e] at h1;have:=o.inj _ _ _ h1 h2;omega
 have pO:(L.map (·.2)).Perm (List.range es.size):=Bk ndO yA λz=>by
  rw[K0,yb];constructor
  ·rintro⟨a,ha,rfl⟩;have:=o.lt _ _ ((hL a.1 a.2).mp ha);omega
  ·intro hz;obtain⟨j,h1,_⟩:=o.all z ((es.toList.map (·.1))[z]'(by omega)) (zS (by omega));exact⟨(j,z),(hL j z).mpr h1,rfl⟩
 let g:Nat->Int×Value:=λk=>es.getD k (0,.none)
 have hg:∀ k,k < es.size->es[k]?=some (g k):=λk hk=>by
  show _=some (es.getD k _);rw[gD,Z3 hk];rfl
 have fO:(L.map (·.2)).filterMap (λk=>es[k]?)=(L.map (·.2)).map g:=Jv λk hk=>hg k (List.mem_range.mp (pO.mem_iff.mp hk));have eL:((L.map (·.2)).toArray.filterMap (λk=>es[k]?)).toList=L.map λp=>g p.2:=by
  rw[Array.toList_filterMap,fO,Qr];rfl
 refine⟨{ mask:=mask,place:=(L.map (·.1)).toArray,dummies:=#[],finger:=t.finger,led:=t.led,moves:=t.movedTo mask,plain:=t.plain },(L.map (·.2)).toArray,?_,?_,?_,rfl,rfl,rfl⟩
 ·unfold SetTable.relaid SetTable.laid;rw[hM,ea,e];rfl
 ·rw[Array.toList_filterMap,fO];refine(pO.map g).trans ?_;have:(List.range es.size).map g=es.toList:=by
   apply List.ext_getElem?;intro i;rw[Zl];by_cases h:i < es.size
   ·rw[List.getElem?_range h,Qb,hg i h];rfl
   ·rw[qV (by simp;omega),qV (by simp;omega)];rfl
  rw[this]
 ·have sz:L.length=es.size:=by
   have:=pO.length_eq;rw[zl,Kk] at this;exact this
  refine { mask:=hm,dum:=rfl,rise:=abt (List.pairwise_map.mpr pL),bd:=λj hj=>?_,full:=?_,size:=?_,reach:=λi j x h1 h2=>?_ }
  ·have hj:j∈L.map (·.1):=by simpa using hj
   obtain⟨a,ha,rfl⟩:=List.mem_map.mp hj;have q:=(hL a.1 a.2).mp ha;have:a.1 < ow.size:=by
    by_cases h:a.1 < ow.size
    ·exact h
    ·rw[Kx (by omega)] at q;cases q
   have:=o.size;show a.1<=mask;omega
  ·show(L.map (·.1)).toArray.size<=mask;simp only[zz,zl];omega
  ·rw[<-qh (xs:=Array.filterMap _ _),eL];simp
  ·have h1:(L.map (·.1)).toArray[i]?=some j:=h1;rw[List.getElem?_toArray,Zl] at h1;rw[<-Qb,eL,Zl] at h2;cases hi:L[i]? with
   |none=>rw[hi] at h1;cases h1
   |some p=>
    rw[hi] at h1 h2;cases h1;cases h2;have hp:(p.1,p.2)∈L:=qE hi;have q:=(hL p.1 p.2).mp hp;have hk:p.2 < es.size:=List.mem_range.mp (pO.mem_iff.mp (List.mem_map.mpr ⟨p,hp,rfl⟩));have hh:(es.toList.map (·.1))[p.2]?=some (g p.2).1:=by
     rw[Zl,Qb,hg _ hk];rfl
    obtain⟨j',q1,n,a,b,c⟩:=o.all _ _ hh;have:j'=p.1:=o.inj _ _ _ q1 q;subst this;refine⟨n,a,b,λm hm'=>?_⟩;obtain⟨k,q2⟩:=(Yh o (QJ _ _)).mp (c m hm');show _∈(L.map (·.1)).toArray;rw[List.mem_toArray];exact List.mem_map.mpr ⟨(_,k),(hL _ _).mpr q2,rfl⟩
end S6
namespace S6
open P1 L2
abbrev bW (prog:Program) (w:World) (ks:List Key):Int:=tupleKeyHash (bx prog w) ks
def TE (prog:Program) (w:World) (h:Heap) (z:List Key×Addr) (e:Int×Value):Prop:=e=(bW prog w z.1,.ref z.2)/\IsTupleKey (bx prog w) h z.1 z.2
structure abu (prog:Program) (w:World) (h:Heap) (zs:List (List Key×Addr)) (es:Array (Int×Value)) (t:SetTable):Prop where
 rel:Paired (TE prog w h) zs es.toList
 nd:(zs.map (·.1)).Nodup
 tok:Tok t es
 load:es.size * 5 < t.mask * 3
 led:w.params.followText "set-order" = false->t.led=true
 non:0 < es.size->t.plain=false
def Tu (prog:Program) (w:World) (h:Heap) (a:Addr) (zs:List (List Key×Addr)):Prop:=∃ o es ep t,h.get? a=some o/\o.ExactSet/\o.data=.set es ep t/\abu prog w h zs es t
theorem S8 {h':Heap} {b:Addr} (x:IsTupleKey (bx prog w) h ks b) (k:∀ o,h.get? b=some o->o.cls=.type "tuple" → h'.get? b=some o):IsTupleKey (bx prog w) h' ks b:=
 let ⟨o,its,n,e,c,r⟩:=x;⟨o,its,n,k o e c,c,r⟩
theorem M8 {h':Heap} {l:List (Int×Value)} (k:∀ b o,h.get? b=some o->o.cls=.type "tuple" → h'.get? b=some o) (r:Paired (TE prog w h) zs l):Paired (TE prog w h') zs l:=by
 induction r with
 |nil=>exact .nil
 |cons q _ ih=>exact .cons ⟨q.1,S8 q.2 λo e c=>k _ o e c⟩ ih
theorem abu.size {es:Array (Int×Value)} (x:abu prog w h zs es t):es.size=zs.length:=by rw[x.rel.length];simp
theorem Tok.fits {t:SetTable} {es:Array (Int×Value)} (h:Tok t es):t.fits es.size=true:=by
 unfold SetTable.fits SetTable.fill;have h1:=h.full;have h2:=h.size;rw[h.dum];simp[h2];omega
theorem Tok.odd {es:Array (Int×Value)} (h:Tok t es):t.gaveWay=false:=by
 unfold SetTable.gaveWay;rcases h.mask with e|e|e<;>rw[e]<;>rfl
theorem HF {d:Nat} {b:Addr} {Q:Bool->Shared->Prop} (hk:IsTupleKey (bx prog w) s.heap ks b) (h:Q false s):wpAny (model prog w) A (ofAClassStatement (d+1) (.ref b)) Q E s:=by
 have hT:=hk.typeIs;obtain⟨o,items,n,ho,_,hd,hi⟩:=hk;unfold ofAClassStatement;refine zb (QQ hT ?_);dsimp only;refine zb (ze ?_);simp only[kz,zk,ZI];refine zb (wpAny_seqItems ho hd ?_);dsimp only;refine zb ?_;rw[<-Array.forIn_toList];refine wpAny_forIn_list _ (λrest r s'=>r.1=none/\s'=s/\∀ v∈rest,carriedByValue v=true) _ ?_ ?_ _ _ ⟨rfl,rfl,hi.byValue⟩
 ·rintro v rest r s' ⟨hr,rfl,hall⟩;have hv:ofAClassStatement d v=pure false:=by
   have:=hall v zo;cases v with
   |ref a=>simp[carriedByValue] at this
   |_=>unfold ofAClassStatement;rfl
  rw[hv];refine zb (ze ?_);simp only[zk,ZI];exact ze ⟨rfl,rfl,λu hu'=>hall u (zt _ hu')⟩
 ·rintro⟨r1,r2⟩ s' ⟨hr,rfl,_⟩;simp only at hr;subst hr;exact ze h
theorem aeK {b:Addr} {Q:Bool->Shared->Prop} (hk:IsTupleKey (bx prog w) s.heap ks b) (vs:List Value) (hv:∀ v∈vs,∃ c ls,v=.ref c/\IsTupleKey (bx prog w) s.heap ls c) (h:Q false s):wpAny (model prog w) A (searchCouldBeSeen (.ref b) vs) Q E s:=by
 unfold searchCouldBeSeen;refine zb ?_;refine wpAny_forIn_list _ (λrest r s'=>r.1=none/\s'=s/\∀ v∈rest,∃ c ls,v=.ref c/\IsTupleKey (bx prog w) s.heap ls c) _ ?_ ?_ _ _ ⟨rfl,rfl,hv⟩
 ·rintro v rest r s' ⟨hr,rfl,hall⟩;obtain⟨c,ls,rfl,hc⟩:=hall v zo;have rest':∀ v∈rest,∃ c ls,v=.ref c/\IsTupleKey (bx prog w) s'.heap ls c:=λu hu=>hall u (zt _ hu);dsimp only;split
  ·exact ze ⟨rfl,rfl,rest'⟩
  ·refine zb (wpAny_eqIsQuiet_tuple hk ?_);simp only[kz,zk,ZI];refine zb (wpAny_eqIsQuiet_tuple hc ?_);simp only[kz,zk,ZI];refine zb (HF hk ?_);simp only[zk,ZI];refine zb (HF hc ?_);simp only[zk,ZI];exact ze ⟨rfl,rfl,rest'⟩
 ·rintro⟨r1,r2⟩ s' ⟨hr,rfl,_⟩;simp only at hr;subst hr;exact ze h
theorem JM {h:Heap}:∀ {zs:List (List Key×Addr)} {l:List (Int×Value)},Paired (TE prog w h) zs l->∀ {i:Nat} {e},l[i]?=some e->∃ z,zs[i]?=some z/\TE prog w h z e
 |_,_,.nil,i,e,q=>by simp at q
 |_,_,.cons r _,0,e,q=>by simp at q;subst q;exact⟨_,rfl,r⟩
 |_,_,.cons _ t,i+1,e,q=>by
  rw[ZT] at q;obtain⟨z,z1,z2⟩:=JM t q;exact⟨z,by rw[ZT];exact z1,z2⟩
theorem xT {h:Heap}:∀ {zs:List (List Key×Addr)} {l:List (Int×Value)},Paired (TE prog w h) zs l->∀ {i:Nat} {z},zs[i]?=some z->∃ e,l[i]?=some e/\TE prog w h z e
 |_,_,.nil,i,e,q=>by simp at q
 |_,_,.cons r _,0,e,q=>by simp at q;subst q;exact⟨_,rfl,r⟩
 |_,_,.cons _ t,i+1,e,q=>by
  rw[ZT] at q;obtain⟨z,z1,z2⟩:=xT t q;exact⟨z,by rw[ZT];exact z1,z2⟩
theorem least (p:Nat->Prop):∀ (k n:Nat),p (n+k)->∃ d,d<=k/\p (n+d)/\∀ m,n<=m->m < n+d->¬ p m
 |0,n,h=>⟨0,zg _,h,λm h1 h2=>absurd h2 (by omega)⟩
 |k+1,n,h=>by
  by_cases q:p n
  ·exact⟨0,QO _,q,λm h1 h2=>absurd h2 (by omega)⟩
  ·obtain⟨d,h1,h2,h3⟩:=least p k (n+1) (by rw[show n+1+k=n+(k+1) by omega];exact h);refine⟨d+1,by omega,by rw[show n+(d+1)=n+1+d by omega];exact h2,λm a b=>?_⟩;by_cases e:m=n
   ·rw[e];exact q
   ·exact h3 m (by omega) (by omega)
theorem search {o:Obj} {es:Array (Int×Value)} {b:Addr} (hu:A.units < cLine) (ho:s.heap.get? a=some o) (hd:o.data=.set es ep t) (x:abu prog w s.heap zs es t) (hk:IsTupleKey (bx prog w) s.heap ks b) {N:Nat} (hN:N < 10 * SetTable.turns t.mask) (hf:(f9 t.mask (bW prog w ks) N).j∉t.place) (hp:∀ m,m < N->(f9 t.mask (bW prog w ks) m).j∈t.place) {Q:SetFound->Shared->Prop} (h1:ks∈zs.map (·.1)->Q (.there none) s) (h2:ks∉zs.map (·.1)->Q (.free (f9 t.mask (bW prog w ks) N).j false) s) :
  ∀ (k n fuel:Nat) (stand:Option SetTable.Probe),n+k=N->k < fuel->stand.getD (t.probeStart (bW prog w ks))=f9 t.mask (bW prog w ks) n->(∀ m,m < n->∀ i:Nat,t.place[i]?=some (f9 t.mask (bW prog w ks) m).j->∀ z:List Key×Addr,zs[i]?=some z->z.1≠ks) →
   wpAny (model prog w) A (setSearchFrom a (.ref b) (bW prog w ks) true fuel stand) Q E s:=by
 have get:∀ {i:Nat} {e},es[i]?=some e->∃ z,zs[i]?=some z/\TE prog w s.heap z e:=λ{i e} q=>JM x.rel (by rw[Qb];exact q);have fit:=x.tok.fits;intro k
 induction k using Nat.strongRecOn with
 |ind k ih=>
  intro n fuel stand hn hfu hst hb;cases fuel with
  |zero=>omega
  |succ fuel=>
  unfold setSearchFrom;refine zb (QR ho hd fit ?_);dsimp only;rw[zC (by rw[x.tok.odd];decide)];refine zb (ze ?_);rw[hst];obtain⟨d,d1,d2,d3⟩:=least (λm=>m=N\/∃ i:Nat,t.place[i]?=some (f9 t.mask (bW prog w ks) m).j/\∃ e:Int×Value,es[i]?=some e/\e.1=bW prog w ks) k n (.inl hn);have live:∀ m,m < N->∃ i:Nat,t.place[i]?=some (f9 t.mask (bW prog w ks) m).j/\∃ e,es[i]?=some e:=λm hm=>by
   obtain⟨i,hi,e⟩:=Array.getElem_of_mem (hp m hm);have hi':i < es.size:=by rw[<-x.tok.size];exact hi
   exact⟨i,by rw[Z3 hi,e],es[i],Z3 hi'⟩
  have pr:=M4 x.tok.toTb (λi=>(es[i]?.map (·.1)).getD 0) (bW prog w ks) d (10 * SetTable.turns t.mask) n (by omega) λm a1 a2=>by
   have q:=d3 m a1 a2;obtain⟨i,e1,e,e2⟩:=live m (by omega);refine⟨i,e1,λq'=>q (.inr ⟨i,e1,e,e2,?_⟩)⟩;simpa[e2] using q'
  have prb:t.probe (λi=>(es[i]?.map (·.1)).getD 0) (bW prog w ks) (f9 t.mask (bW prog w ks) n)=SetTable.probe.go t (λi=>(es[i]?.map (·.1)).getD 0) (bW prog w ks) (10 * SetTable.turns t.mask) (f9 t.mask (bW prog w ks) n):=rfl;by_cases hE:n+d=N
  ·have p1:=pr.1 (by rw[hE];exact hf);rw[hE] at p1;show wpAny _ _ (match t.probe (λi=>(es[i]?.map (·.1)).getD 0) (bW prog w ks) (f9 t.mask (bW prog w ks) n) with|some met=>_|_=>_) _ _ _;rw[prb,p1];dsimp only;refine ze (h2 λhm=>?_);obtain⟨z,hz,ez⟩:=List.mem_map.mp hm;obtain⟨i,hi,e⟩:=Q3 hz;obtain⟨ee,e1,e2⟩:=xT x.rel (show zs[i]?=some z by rw[zS hi,e]);rw[Qb] at e1;have hi':i < t.place.size:=by rw[x.tok.size,x.size];exact hi
   obtain⟨n0,b1,b2,b3⟩:=x.tok.reach i _ ee (Z3 hi') e1;rw[e2.1,ez] at b2 b3;have lt:n0 < N:=by
    rcases Nat.lt_trichotomy n0 N with q|q|q
    ·exact q
    ·exfalso;rw[<-q] at hf;rw[b2] at hf;exact hf (Array.getElem_mem hi')
    ·exact absurd (b3 N q) hf
   by_cases q:n0 < n
   ·exact hb n0 q i (by rw[b2];exact Z3 hi') z (by rw[zS hi,e]) ez
   ·exact d3 n0 (by omega) (by omega) (.inr ⟨i,by rw[b2];exact Z3 hi',ee,e1,by rw[e2.1,ez]⟩)
  ·rcases d2 with q|⟨i,i1,e,i2,i3⟩
   ·exact absurd q hE
   ·have p2:=pr.2 i i1 (by simpa[i2] using i3);show wpAny _ _ (match t.probe (λi=>(es[i]?.map (·.1)).getD 0) (bW prog w ks) (f9 t.mask (bW prog w ks) n) with|some met=>_|_=>_) _ _ _;rw[prb,p2];dsimp only;obtain⟨z,z1,z2⟩:=get i2;have hv:∀ v∈((es.filter (·.1==bW prog w ks)).toList.map (·.2)),∃ c ls,v=.ref c/\IsTupleKey (bx prog w) s.heap ls c:=λv hv=>by
     obtain⟨u,hu',rfl⟩:=List.mem_map.mp hv;rw[Array.toList_filter,List.mem_filter] at hu';obtain⟨jj,hj,ej⟩:=Q3 hu'.1;obtain⟨y,y1,y2⟩:=JM x.rel (show es.toList[jj]?=some u by rw[zS hj,ej]);exact⟨y.2,y.1,by rw[y2.1],y2.2⟩
    have go:wpAny (model prog w) A (do
      let some (_,y):=es[i]?|unsupported "internal:set-entry"
      let equal <-holding [y] (eqBool y (.ref b))
      let (es',_,t') <-setState a
      if(true&&equal)=true then return SetFound.there none
      let some same:=t'.sameMemory t.moves t.mask|unsupported "set.changed-during-lookup:is-the-new-block-at-the-old-address"
      let still <-match (if same then t'.slot (f9 t.mask (bW prog w ks) (n+d)).j else .empty) with
       |.live i'=>match es'[i']? with
        |some (_,y')=>do pure (if <-isSame y' y then some i' else none)
        |none=>pure none
       |_=>pure none
      match still with
      |none=>rule "set.search.anew"; setSearchFrom a (.ref b) (bW prog w ks) true fuel none
      |some i'=>if equal then return .there (some i') else setSearchFrom a (.ref b) (bW prog w ks) true fuel (some (f9 t.mask (bW prog w ks) (n+d+1)))) Q E s:=by
     rw[i2,z2.1];dsimp only;refine zb (qo (wpAny_eqBool_tuple hu z2.2 hk ?_));refine zb (QR ho hd fit ?_);dsimp only;by_cases hq:z.1=ks
     ·rw[QA hq];simp only[Bool.and_self,qS];exact ze (h1 (List.mem_map.mpr ⟨z,qE z1,hq⟩))
     ·rw[qf hq];simp only[kD,zk,ZI];have sm:t.sameMemory t.moves t.mask=some true:=by unfold SetTable.sameMemory;simp
      rw[sm];dsimp only;simp only[qS];rw[zm x.tok.toTb i1];dsimp only;rw[i2,z2.1];dsimp only;refine zb (wpAny_isSame_ref_self (zb (ze ?_)));simp only[qS];refine ih (N - (n+d+1)) (by omega) (n+d+1) fuel _ (by omega) (by omega) rfl λm hm i' j1 y y1=>?_;by_cases c1:m < n
      ·exact hb m c1 i' j1 y y1
      ·by_cases c2:m=n+d
       ·subst c2;have:i'=i:=by
         have s1:=Dl x.tok.rise j1;have s2:=Dl x.tok.rise i1;omega
        subst this;rw[z1] at y1;cases y1;exact hq
       ·have q:=d3 m (by omega) (by omega);intro e';obtain⟨ee,e1,e2⟩:=xT x.rel y1;rw[Qb] at e1;exact q (.inr ⟨i',j1,ee,e1,by rw[e2.1,e']⟩)
    split
    ·refine zb (aeK hk _ hv ?_);simp only[zk,ZI];exact go
    ·exact go
def Txs (ks:List Key):Prop:=∃ x:Str,(Sum.inr x:Key)∈ks
theorem Yj {b:Addr} {Q:Bool->Shared->Prop} (hk:IsTupleKey (bx prog w) s.heap ks b) (hx:Txs ks) (h:Q false s):wpAny (model prog w) A (hashByValue 8 (.ref b)) Q E s:=by
 have hT:=hk.typeIs;obtain⟨o,items,n,ho,_,hd,hi⟩:=hk;unfold hashByValue;refine zb (wpAny_specialOf hT F.slot_tuple_hash.lookup ?_);dsimp only;refine zb (wpAny_seqItems ho hd ?_);show wpAny _ _ (forIn items _ _ >>= _) _ _ s;refine zb ?_;rw[<-Array.forIn_toList];refine wpAny_forIn_list _ (λrest r s'=>r.1=none/\s'=s/\∃ left,ItemsAre (bx prog w) left rest/\Txs left) _ ?_ ?_ _ _ ⟨rfl,rfl,ks,hi,hx⟩
 ·rintro v rest r s' ⟨hr,rfl,left,hl,x,hx⟩;cases hl with
  |@cons k _ ks' _ h1 hl'=>
   rcases bI h1 with⟨i,t,rfl,rfl⟩|⟨y,t,rfl,rfl⟩
   ·have e:hashByValue 7 (.int i t)=pure true:=by unfold hashByValue;rfl
    rw[e];refine zb (ze ?_);simp only[kz,zk,ZI];refine ze ⟨rfl,rfl,ks',hl',x,?_⟩;rcases List.mem_cons.mp hx with q|q
    ·cases q
    ·exact q
   ·have e:hashByValue 7 (.str y t)=pure false:=by unfold hashByValue;rfl
    rw[e];refine zb (ze ?_);simp only[Kb,qS];exact ze (ze h)
 ·rintro⟨r1,r2⟩ s' ⟨hr,rfl,left,hl,x,hx⟩;cases hl;cases hx
theorem Vu {es:Array (Int×Value)} (h:Tok t es):Tok { t with plain:=false } es:={ mask:=h.mask,dum:=h.dum,rise:=h.rise,bd:=h.bd,full:=h.full,size:=h.size,reach:=h.reach }
theorem abv {b:Addr} {Q:Bool->Shared->Prop} (hu:A.units < cLine) (hS:Tu prog w s.heap a zs) (hk:IsTupleKey (bx prog w) s.heap ks b) (hx:Txs ks) (hroom:zs.length+1<=70) (h:∀ r h' zs',Heap.SameBut a s.heap h'->Tu prog w h' a zs'->(∀ z,z∈zs'↔z∈zs\/(z=(ks,b)/\ks∉zs.map (·.1)))->zs'.length<=zs.length+1->Q r { s with heap:=h' }):wpAny (model prog w) A (setAddHashed a (.ref b) (bW prog w ks)) Q E s:=by
 obtain⟨o,es,ep,t,ho,hex,hd,x⟩:=id hS;have hsz:=x.size;have fit:=x.tok.fits;have hld:=x.load;have hcl:o.cls≠.type "tuple" := by rw[hex.1];decide
 obtain⟨N,n1,n2,n3⟩:=QH x.tok.toTb (bW prog w ks);have hturn:10 * SetTable.turns t.mask < 100000:=by
  unfold SetTable.turns;rcases x.tok.mask with e|e|e<;>rw[e]<;>decide
 unfold setAddHashed setAddHashedIn;refine qo (zb (QR ho hd fit ?_));dsimp only;have hb:byScan (.ref b) es=false:=by unfold byScan;rfl
 rw[hb];simp only[zk,ZI];unfold setSearch;refine zb (search hu ho hd x hk n1 n2 n3 (λhm=>?_) (λhm=>?_) N 0 100000 none (by omega) (by omega) rfl λm hm=>absurd hm (kr _))
 ·dsimp only;exact ze (h _ s.heap zs (Heap.SameBut.refl a s.heap) hS (λz=>⟨.inl,λq=>q.elim id λq=>absurd hm q.2⟩) (kl _))
 ·dsimp only;refine zb (QR ho hd fit ?_);dsimp only;have hj:=QJ (mask:=t.mask) (bW prog w ks) N;have hm7:es.size+1<=t.mask:=by rcases x.tok.mask with e|e|e<;>rw[e] at hld ⊢<;>omega
  obtain⟨pt,pl,pp,pm⟩:=abp (x:=.ref b) x.tok n1 n2 n3 hj hm7;generalize hP:t.put (f9 t.mask (bW prog w ks) N).j=P at pt pl pp pm ⊢;obtain⟨t1,p⟩:=P;dsimp only at pt pl pp pm ⊢;have hil:(SetTable.insertAt es p (bW prog w ks,.ref b)).toList.Perm (es.toList++[(bW prog w ks,.ref b)]):=by
   rw[xR];refine(List.perm_middle).trans ?_;rw[List.take_append_drop];exact(List.perm_append_singleton _ _).symm
  have r0:Paired (TE prog w s.heap) (zs++[(ks,b)]) (es.toList++[(bW prog w ks,.ref b)]):=QC x.rel (.cons ⟨rfl,hk⟩ .nil);obtain⟨zs1,q1,r1⟩:=zO hil r0;have nd1:(zs1.map (·.1)).Nodup:=(q1.map (·.1)).nodup_iff.mpr (by
   rw[ja];exact List.nodup_append.mpr ⟨x.nd,by simp,λu hu' v hv=>by simp at hv;subst hv;exact λe=>hm (e▸hu')⟩)
  have m1:∀ z,z∈zs1↔z∈zs\/(z=(ks,b)/\ks∉zs.map (·.1)):=λz=>by
   rw[q1.mem_iff,KP,List.mem_singleton];exact⟨λq=>q.imp id λe=>⟨e,hm⟩,λq=>q.imp id λe=>e.1⟩
  have l1:zs1.length=zs.length+1:=by rw[q1.length_eq];simp
  have s1:(SetTable.insertAt es p (bW prog w ks,Value.ref b)).size=es.size+1:=ug _ _ _;have up:∀ (hp:Heap) (ob:Obj) (e1 e2:Array (Int×Value)) (n1:Nat) (u1 u2:SetTable),hp.get? a=some ob->ob.data=.set e1 n1 u1->(hp.update a (Obj.putSet e2 u2)).get? a=some { ob with data:=.set e2 (n1+1) u2 }:=λhp ob e1 e2 n1 u1 u2 g q=>by
   have:=QI (Obj.putSet e2 u2) g (by rw[putSet_of e2 u2 q];rfl);rw[putSet_of e2 u2 q] at this;exact this
  have kp:∀ {h':Heap},Heap.SameBut a s.heap h'->∀ c oc,s.heap.get? c=some oc->oc.cls=.type "tuple" → h'.get? c=some oc:=λsb c oc e ec=>by
   rw[sb.2 c λq=>by subst q;rw[ho] at e;cases e;exact hcl ec];exact e
  have fin:∀ t2:SetTable,Tok t2 (SetTable.insertAt es p (bW prog w ks,.ref b))->t2.led=t1.led->t2.plain=false->t2.mask=t1.mask->wpAny (model prog w) A (do
    storeSet a (SetTable.insertAt es p (bW prog w ks,.ref b)) t2
    if(!false&&t2.tooFull)=true then setRelay a (SetTable.grown (es.size+1))
    pure true) Q E s:=by
   intro t2 k2 l2 p2 m2;have g1:=up s.heap o es (SetTable.insertAt es p (bW prog w ks,.ref b)) ep t t2 ho hd;refine zb (wpAny_storeSet_of ho hd ?_ (fits_of_scanBound (by rw[s1];have:scanBound=4096:=rfl;omega)));have sb1:Heap.SameBut a s.heap (s.heap.update a (Obj.putSet (SetTable.insertAt es p (bW prog w ks,.ref b)) t2)):=Heap.SameBut.update ..;have hfill:t2.fill=es.size+1:=by unfold SetTable.fill;rw[k2.dum,k2.size,s1];rfl
   have agO:w.params.followText "set-order" = false->t2.led=true:=λq=>l2.trans (pl.trans (x.led q));by_cases xU:t2.tooFull=true
   ·rw[xU];simp only[Kb,Bool.and_self,qS];have hf:t2.fill * 5>=t2.mask * 3:=by unfold SetTable.tooFull at xU;simpa using xU
    rw[hfill,m2,pm] at hf;have hg:SetTable.grown (es.size+1)=(es.size+1) * 4:=by unfold SetTable.grown;rw[zC (by omega)]
    have cas:(es.size=4/\t.mask=7)\/(es.size=18/\t.mask=31):=by
     rcases x.tok.mask with e|e|e<;>rw[e] at hf hld
     ·exact .inl ⟨by omega,e⟩
     ·exact .inr ⟨by omega,e⟩
     ·omega
    have hsa:(es.size=4->SetTable.sizeAbove (SetTable.grown (es.size+1))=32)/\(es.size=18->SetTable.sizeAbove (SetTable.grown (es.size+1))=128):=by
     rw[hg];exact⟨λe=>by rw[e];decide,λe=>by rw[e];decide⟩
    have hms:SetTable.sizeAbove (SetTable.grown (es.size+1)) - 1=31/\es.size=4\/SetTable.sizeAbove (SetTable.grown (es.size+1)) - 1=127/\es.size=18:=by
     rcases cas with⟨e,_⟩|⟨e,_⟩
     ·exact .inl ⟨by rw[hsa.1 e],e⟩
     ·exact .inr ⟨by rw[hsa.2 e],e⟩
    obtain⟨t3,order,e3,pr3,k3,l3,p3,m3⟩:=Vt (t:=t2) (es:=SetTable.insertAt es p (bW prog w ks,.ref b)) (wanted:=SetTable.grown (es.size+1)) (by rcases hms with⟨e,_⟩|⟨e,_⟩<;>rw[e]<;>simp) (by rw[s1];rcases hms with⟨e,e'⟩|⟨e,e'⟩<;>rw[e,e']<;>decide);unfold setRelay;refine zb (zb (QR g1 rfl k2.fits ?_));dsimp only;have hsl:¬ (SetTable.sizeAbove (SetTable.grown (es.size+1)) > sizeLine):=by
     rcases cas with⟨e,_⟩|⟨e,_⟩
     ·rw[hsa.1 e];decide
     ·rw[hsa.2 e];decide
    rw[zC hsl];have sz3:(order.filterMap (λi=>(SetTable.insertAt es p (bW prog w ks,Value.ref b))[i]?)).size=(SetTable.insertAt es p (bW prog w ks,Value.ref b)).size:=by
     rw[<-qh,pr3.length_eq,qh]
    rw[e3];refine zb ?_;show wpAny _ _ (if((order.filterMap (λi=>(SetTable.insertAt es p (bW prog w ks,Value.ref b))[i]?)).size != (SetTable.insertAt es p (bW prog w ks,Value.ref b)).size)=true then _ else pure (order.filterMap (λi=>(SetTable.insertAt es p (bW prog w ks,Value.ref b))[i]?),t3)) _ _ _;rw[zC (by rw[sz3];simp)];refine ze ?_;dsimp only;refine wpAny_storeSet_of g1 rfl ?_ (fits_of_scanBound (by rw[sz3,s1];have:scanBound=4096:=rfl;omega));have g2:=up _ _ (SetTable.insertAt es p (bW prog w ks,.ref b)) (order.filterMap (λi=>(SetTable.insertAt es p (bW prog w ks,Value.ref b))[i]?)) _ t2 t3 g1 rfl;have sb2:Heap.SameBut a s.heap ((s.heap.update a (Obj.putSet (SetTable.insertAt es p (bW prog w ks,.ref b)) t2)).update a (Obj.putSet (order.filterMap (λi=>(SetTable.insertAt es p (bW prog w ks,Value.ref b))[i]?)) t3)):=sb1.trans (Heap.SameBut.update ..);obtain⟨zs2,q2,r2⟩:=zO pr3 r1;refine ze (h _ _ zs2 sb2 ⟨_,_,_,t3,g2,hex,rfl,⟨M8 (kp sb2) r2,(q2.map (·.1)).nodup_iff.mpr nd1,k3,?_,λq=>l3.trans (agO q),λ_=>p3.trans p2⟩⟩ (λz=>by rw[q2.mem_iff];exact m1 z) (by rw[q2.length_eq];omega));rw[sz3,s1,m3];rcases hms with⟨e,e'⟩|⟨e,e'⟩<;>rw[e,e']<;>decide
   ·have xU:t2.tooFull=false:=by simpa using xU
    rw[xU];simp only[kD,zk,ZI];refine zb (ze ?_);refine ze (h _ _ zs1 sb1 ⟨_,_,_,t2,g1,hex,rfl,⟨M8 (kp sb1) r1,nd1,k2,?_,agO,λ_=>p2⟩⟩ m1 (by omega));unfold SetTable.tooFull at xU;rw[hfill] at xU;rw[s1];simpa using xU
  split
  ·refine zb (Yj hk hx ?_);simp only[zk,ZI];exact fin { t1 with plain:=false } (Vu pt) rfl rfl rfl
  ·rename_i hp;refine zb (ze ?_);simp only[qS];exact fin t1 pt rfl (by simpa using hp) rfl
end S6
namespace S1
open L2
theorem QL {x:Value} (G:List Value->Prop) (kd:SortKind) (rk:List Value->Value->Nat) {Q:VP_} (aeD:∀ (E':VP_) (Q':List Value->Shared->Prop),(∀ vs h' d tk,G vs->s.heap.objs.size<=h'.objs.size->(∀ c o,s.heap.get? c=some o->h'.get? c=some o)->Q' vs { s with heap:=h',drawn:=d,toks:=tk })->wpAny (model prog w) A.in1 (collect x) Q' E' s)
  (hK:∀ vs,G vs->2<=vs.length->∀ (E':VP_) (A':Around) (s':Shared),(∀ c o,s.heap.get? c=some o->s'.heap.get? c=some o)->∀ Q:SortKind->Shared->Prop,Q kd s'->wpAny (model prog w) A' (keyKind' vs.toArray) Q E' s') (hC:∀ vs,G vs->∀ (A':Around) (s':Shared),(∀ c o,s.heap.get? c=some o->s'.heap.get? c=some o)->Wj prog w A' s' kd (rk vs) (pairsOf vs)) (h64:∀ vs,G vs->vs.length < 64)
  (h:∀ vs,G vs->∀ (l:Addr) (h':Heap) (d:Drawn) (tk n:Nat) (st:SortSt),(arrOf st).Perm (pairsOf vs)->Up (rk vs) (arrOf st) (pairsOf vs).size->s.heap.objs.size<=l->(∀ c o,s.heap.get? c=some o->h'.get? c=some o)->h'.get? l=some (seqObj "list" ((arrOf st).map (·.2)) n)->Q (.ref l) { s with heap:=h',drawn:=d,toks:=tk }) :
  wpAny (model prog w) A (call (.builtin "sorted") [x]) Q E s:=by
 refine Calls.call_function_entry kind_sorted plain_sorted entry_sorted (args_sorted1 _) ?_;unfold Builtin.«sorted»;refine zb (m:=checkCount "sorted" 1 1 _) (ze (zb (aeD _ _ λvs h1 d tk hG hle ext=>?_)));have ak3:=h64 vs hG;refine zb (wpAny_newList ?_);have hoL:(h1.push (seqObj "list" vs.toArray 0)).get? h1.objs.size=some (seqObj "list" vs.toArray 0):=zv _ rfl;have old:∀ s':Shared,Old h1.objs.size { s with heap:=h1.push (seqObj "list" vs.toArray 0),drawn:=d,toks:=tk } s'->∀ c o,s.heap.get? c=some o->s'.heap.get? c=some o:=λs' q c o e=>
  q c o (zI (zw (ext c o e))) (zd _ (ext c o e))
 refine zb (qo (JI slot_list_sort ⟨_,hoL,rfl⟩ entry_list_sort (acY hoL (λq s' o=>hK vs hG q _ _ s' (old s' o)) (λs' o=>hC vs hG _ s' (old s' o)) (h64 vs hG) λst q1 q2=>⟨_,rfl,ze ⟨_,rfl,?_⟩⟩) (args_list_sort _)));obtain⟨n,en⟩:=sortedHeap_at (out:=(arrOf st).map (·.2)) hoL;refine h vs hG h1.objs.size _ d tk n st q1 q2 hle (λc o e=>?_) en;have hb:=zw (ext c o e);rw[sortedHeap_old (zI hb) (by rw[qk];exact qq hb)];exact zd _ (ext c o e)
end S1
namespace P1
open L2 S6
section
theorem Vv {d:Drawn} (I:Inv X pins σ H s):Inv X pins σ H { s with drawn:=d }:=⟨I.ok,I.os,I.bare,I.base,I.loc,I.cell,I.free,I.iU,I.pin,I.hok,I.len⟩
variable {fs:Ev->Option LS_} {p:Pos}
end
section
variable {xs ts:LS_}
end
section
variable {xs:LS_}
variable {fs:Ev->Option LS_} {p':Pos}
end
end P1
namespace P1
open L2 S1 S6
def Ts (prog:Program) (w:World) (h:Heap) (a:Addr) (zs:List (List Key×Addr)):Prop:=∃ o es ep t,h.get? a=some o/\o.ExactSet/\o.data=.set es ep t/\es.toList=zs.map (λz=>(bW prog w z.1,(.ref z.2:Value)))/\t.fits es.size=true/\(w.params.followText "set-order" = false->t.led=true)/\(0 < es.size->t.plain=false)
theorem M9 {prog:Program} {w:World} {h:Heap}:∀ {zs:List (List Key×Addr)} {l:List (Int×Value)},Paired (TE prog w h) zs l->l=zs.map (λz=>(bW prog w z.1,(.ref z.2:Value)))
 |_,_,.nil=>rfl
 |_,_,.cons r t=>by rw[zr,<-M9 t,r.1]
theorem Ts.of (x:Tu prog w h a zs):Ts prog w h a zs:=
 let ⟨o,es,ep,t,e,r,d,q⟩:=x;⟨o,es,ep,t,e,r,d,M9 q.rel,q.tok.fits,q.led,q.non⟩
theorem Ts.keep {h':Heap} (x:Ts prog w h a zs) (k:∀ o,h.get? a=some o->h'.get? a=some o):Ts prog w h' a zs:=
 let ⟨o,es,ep,t,e,r⟩:=x;⟨o,es,ep,t,k o e,r⟩
def hoU (X:Cx) (a:Addr) (zs:List (List Key×Addr)):HO:=.ext λh=>Ts X.prog X.w h a zs
theorem Yk (X:Cx) (h:Ks ks us):ItemsAre (bx X.prog X.w) ks us:=by
 induction h with
 |nil=>exact .nil
 |cons r _ ih=>exact .cons r ih
theorem Yl (X:Cx) (h:ItemsAre (bx X.prog X.w) ks us):Ks ks us:=by
 induction h with
 |nil=>exact .nil
 |cons r _ ih=>exact .cons r ih
theorem Nb (X:Cx) (q:jc h ks v):∃ b,v=.ref b/\IsTupleKey (bx X.prog X.w) h ks b:=by
 obtain⟨a,o,its,n,e,g,c,d,p⟩:=q;exact⟨a,e,o,its.toArray,n,g,c,d,by simpa using Yk X p⟩
theorem Ym (X:Cx) {b:Addr} (q:IsTupleKey (bx X.prog X.w) h ks b):jc h ks (.ref b):=by
 obtain⟨o,its,n,g,c,d,p⟩:=q;exact⟨b,o,its.toList,n,rfl,g,c,by simpa using d,Yl X p⟩
def agQ (X:Cx):List V->Hp->VK->Prop:=λxs H Q=>∃ v b ds cG,xs=[v]/\bA X.K H b v/\qT b=some ds/\qW ds=some cG/\cG.length<=64/\(∀ k∈cG,Txs k) ∧
 ∀ a zs H',Same H H'->H' a=some (hoU X a zs)->(∀ k,k∈zs.map (·.1)↔k∈cG)->(zs.map (·.1)).Nodup->(∀ z∈zs,Rep X.K H' (tupK z.1) (.ref z.2))->Q (.ref a) H'
def CU (X:Cx) (S:Addr) (its:List Value) (h:Heap) (ys:List (List Key)):Prop:=∃ zs,zs.map (·.1)=ys/\Tu X.prog X.w h S zs/\∀ z∈zs,(.ref z.2:Value)∈its
theorem xV {h:Heap}:∀ {cG:List (List Key)} {vs:List Value},Paired (jc h) cG vs->∀ {i:Nat} {v:Value},vs[i]?=some v->∃ k,cG[i]?=some k/\jc h k v
 |_,_,.nil,i,v,q=>by simp at q
 |_,_,.cons r _,0,v,q=>by simp at q;subst q;exact⟨_,rfl,r⟩
 |_,_,.cons _ t,i+1,v,q=>by
  rw[ZT] at q;obtain⟨z,z1,z2⟩:=xV t q;exact⟨z,by rw[ZT];exact z1,z2⟩
theorem Nf {h0:Heap} {S:Addr} (hs:Paired (jc h0) cG its) (hl:cG.length<=64) (hx:∀ k∈cG,Txs k) (hS:h0.objs.size=S):Adds X.prog X.w S [S+1] (λh zs=>(∀ b o,h0.get? b=some o->h.get? b=some o)/\CU X S its h zs) (λi v=>its.toArray[i]?=some v) (λi=>cG.getD i []) its.length where
 keep:=λh h' ys t k=>by
  obtain⟨t0,zs,e,t,m⟩:=t;have k':∀ b o,(b=S\/b < S)->h.get? b=some o->h'.get? b=some o:=λb o hb e=>k b o (by
   simp only[ZZ,ZO,or_false];rcases hb with rfl|hb
   ·exact zI (qv _)
   ·exact zI (qq hb)) e
  have old:∀ b o,h0.get? b=some o->h'.get? b=some o:=λb o e=>k' b o (.inr (by rw[<-hS];exact zw e)) (t0 b o e);refine⟨old,zs,e,?_,m⟩;obtain⟨o,es,ep,tt,g,r,d,q⟩:=t;refine⟨o,es,ep,tt,k' S o (.inl rfl) g,r,d,⟨?_,q.nd,q.tok,q.load,q.led,q.non⟩⟩;have key:∀ {zs:List (List Key×Addr)} {l:List (Int×Value)},Paired (TE X.prog X.w h) zs l->(∀ z∈zs,(.ref z.2:Value)∈its)->Paired (TE X.prog X.w h') zs l:=by
   intro zs l r
   induction r with
   |nil=>intro _;exact .nil
   |cons q _ ih=>
    intro m;refine .cons ⟨q.1,S8 q.2 λo e c=>?_⟩ (ih λz hz=>m z (zt _ hz));obtain⟨i,hi,ei⟩:=Q3 (m _ (zo ..));obtain⟨kk,_,tv⟩:=xV hs (show its[i]?=some _ by rw[zS hi,ei]);obtain⟨b,eb,⟨ob,_,_,gb,_⟩⟩:=Nb X tv;cases eb;exact k' _ o (.inr (by rw[<-hS];exact zw gb)) e
  exact key q.rel m
 add:=λA E s i v ys Q hu hi hP hC hz h=>by
  obtain⟨t0,zs,e,t,m⟩:=hC;have hP:its[i]?=some v:=by simpa using hP
  obtain⟨ks,e1,tv⟩:=xV hs hP;have tv':=tv.keep t0;obtain⟨b,rfl,hk⟩:=Nb X tv';have hv:cG.getD i []=ks:=by simp[List.getD,e1]
  have hlen:its.length=cG.length:=hs.length.symm;have hyl:zs.length=ys.length:=by rw[<-e,zl]
  unfold setAdd;refine qo (zb (wpAny_pyHash_tuple hu hk ?_));refine abv (s:={ s with toks:=s.toks+(ks.length+1) }) hu t hk (hx ks (qE e1)) (by omega) λr h' zs' sb t' mm l=>?_;refine h r h' _ (zs'.map (·.1)) sb ⟨λc o g=>?_,zs',rfl,t',λz hz=>?_⟩ (λz=>?_) (by rw[zl];omega) (Nat.le_add_right _ _)
  ·rw[sb.2 c λq=>by subst q;have:=zw g;rw[hS] at this;exact JA _ this];exact t0 c o g
  ·rcases(mm z).mp hz with q|⟨q,_⟩
   ·exact m z q
   ·subst q;exact qE hP
  ·rw[hv,<-e,K0,K0];constructor
   ·rintro⟨y,hy,rfl⟩;rcases(mm y).mp hy with q|⟨q,_⟩
    ·exact .inl ⟨y,q,rfl⟩
    ·exact .inr (congrArg Prod.fst q)
   ·rintro(⟨y,hy,ey⟩|ez)
    ·exact⟨y,(mm y).mpr (.inl hy),ey⟩
    ·rw[ez];by_cases q:ks∈zs.map (·.1)
     ·obtain⟨y,hy,ey⟩:=List.mem_map.mp q;exact⟨y,(mm y).mpr (.inl hy),ey⟩
     ·exact⟨(ks,b),(mm _).mpr (.inr ⟨rfl,q⟩),rfl⟩
theorem abw (hc:X.calm=true) (hu:X.A.units+100 < cLine):eE X (.type "set") (agQ X):=by
 intro pins s σ H xs us Q I r h;obtain⟨v,b,ds,cG,rfl,rb,ed,ek,hl,hx,q⟩:=h;obtain⟨u,rfl,ru⟩:=vals1 r;obtain⟨p,vs,rfl,sq,rs⟩:=JD rb ed;have eds:=zc ek;subst eds;cases ru;have hh:=I.ok.hd hc;have fin:∀ (h':Heap) (tk:Nat) (ys:List (List Key)) (its:List Value),Vals vs its->((∀ b o,s.heap.get? b=some o->h'.get? b=some o)/\CU X s.heap.objs.size its h' ys)->(∀ z,z∈ys↔∃ j,j < its.length/\z=cG.getD j [])->(∀ b ob,s.heap.get? b=some ob->h'.get? b=some ob)->EP X pins σ Q (.ref s.heap.objs.size) { s with heap:=h',toks:=tk }:=by
  intro h' tk ys its rv cu hm k;obtain⟨_,zs,e,t,m⟩:=cu;have hfr:=I.hok.fresh (zg s.heap.objs.size);have hlen:its.length=cG.length:=by rw[<-rv.length,rs.length,zl]
  have tv:=oO I rs rv;refine⟨.ref s.heap.objs.size,_,I.laid (t':=tk) (a:=s.heap.objs.size) (o:=hoU X s.heap.objs.size zs) k (zg _) ?_,rfl,q _ zs _ (bJ hfr) bf (λz=>?_) ?_ λz hz=>?_⟩
  ·obtain⟨o,es,ep,t',ho,_⟩:=id t;exact⟨Ts.of t,⟨o,ho⟩,λh1 h2 t1 k1=>Ts.keep t1 k1⟩
  ·rw[e,hm z];constructor
   ·rintro⟨j,hj,rfl⟩;rw[hlen] at hj;simp[List.getD,hj]
   ·intro hz;obtain⟨j,hj,e⟩:=Q3 hz;exact⟨j,by rw[hlen];exact hj,by simp[List.getD,hj,e]⟩
  ·obtain⟨o,es,ep,t',ho,_,_,x⟩:=t;exact x.nd
  ·obtain⟨o,es,ep,t',ho,_,_,x⟩:=t;obtain⟨i,hi,ei⟩:=Q3 hz;obtain⟨ee,_,te⟩:=xT x.rel (show zs[i]?=some z by rw[zS hi,ei]);have tz:=Ym X te.2;have hz':=m z hz;obtain⟨j,hj,ej⟩:=Q3 hz';obtain⟨kk,_,tv1⟩:=xV tv (show its[j]?=some (.ref z.2) by rw[zS hj,ej]);have ek:kk=z.1:=(tv1.keep k).inj tz;obtain⟨w1,r1,r2⟩:=zf I rs rv (Wm:=[kk]) (out:=[.ref z.2]) (.cons tv1 .nil) (λu hu=>by cases List.mem_singleton.mp hu;exact hz');cases r1 with
   |@cons w0 _ _ _ r0 r1=>
    cases r1;simp only[zr,ko,aO] at r2;obtain⟨v0,r',ev,q0,_⟩:=r2;simp only[ku] at ev;rw[<-ev.1] at q0;have hw:w0=V.ref z.2:=by
     have q1:=q0;simp only[tupK,Rep] at q1;obtain⟨a0,ws,e0,_⟩:=q1;subst e0;cases r0;rfl
    rw[<-ek,<-hw];exact q0.kp (.of (bJ hfr))
 have Yn:∀ h':Heap,h'.get? s.heap.objs.size=some (blank X.w)->∀ its:List Value,CU X s.heap.objs.size its h' []:=λh' e its=>
  ⟨[],rfl,⟨_,#[],0,_,e,⟨rfl,rfl,rfl⟩,rfl,⟨.nil,ya,{ mask:=.inl rfl,dum:=rfl,rise:=λi j _ hj=>absurd hj (kr _),bd:=λj hj=>by simp[SetTable.fresh] at hj,full:=QO _,size:=rfl,reach:=λi j e h1=>by simp[SetTable.fresh] at h1 },(show 0 * 5 < 7 * 3 by decide),λq=>by simp[SetTable.fresh,q],λq=>absurd q (JA _)⟩⟩,λz hz=>by cases hz⟩
 rcases sq with sq|sq
 ·obtain⟨its,r',pl,hz⟩:=I.list sq;obtain⟨o,g,c,n,d⟩:=pl.isList;refine X6 (by omega) (T := "list") hh g c (.inl rfl) (P:=λi v=>its.toArray[i]?=some v) (n:=its.length) (λA' E' Q' h0 hA k0 hq=>?_) (Nf (oO I rs r') hl hx rfl) (λh' e k=>⟨k,Yn h' e its⟩) λh' tk zs tx hm k=>fin h' tk zs its r' tx hm k;refine wpAny_pyIter_list (items:=its.toArray) ⟨o,k0 _ _ g,c,n,d⟩ ?_;have hne:p≠h0.objs.size:=zI (zw (k0 _ _ g));refine hq _ (λi h=>h.IsListIter h0.objs.size p i/\h.IsList p its.toArray) (λA' hA=>by have:=Walks.list (prog:=X.prog) (w:=X.w) hA h0.objs.size p hne its.toArray;rw[zz] at this;exact this) ⟨⟨_,zv _ rfl,rfl,rfl⟩,⟨o,zd _ (k0 _ _ g),c,n,d⟩⟩ λb ob e=>zd _ e
 ·obtain⟨its,r',pl,hz⟩:=I.tuple sq;obtain⟨o,g,c,n,d⟩:=id pl;refine X6 (by omega) (T := "tuple") hh g c (.inr rfl) (P:=λi v=>its.toArray[i]?=some v) (n:=its.length) (λA' E' Q' h0 hA k0 hq=>?_) (Nf (oO I rs r') hl hx rfl) (λh' e k=>⟨k,Yn h' e its⟩) λh' tk zs tx hm k=>fin h' tk zs its r' tx hm k;refine wpAny_pyIter_tuple (items:=its.toArray) ⟨o,k0 _ _ g,c,n,d⟩ ?_;have hne:p≠h0.objs.size:=zI (zw (k0 _ _ g));refine hq _ (λi h=>h.IsTupleIter h0.objs.size p i/\h.IsTuple p its.toArray) (λA' hA=>by have:=Walks.tuple (prog:=X.prog) (w:=X.w) hA h0.objs.size p hne its.toArray;rw[zz] at this;exact this) ⟨⟨_,zv _ rfl,rfl,rfl⟩,⟨o,zd _ (k0 _ _ g),c,n,d⟩⟩ λb ob e=>zd _ e
theorem aeL (I:Inv X pins σ H s) (h:H a=some (hoU X a zs)):Ts X.prog X.w s.heap a zs:=(I.hok _ _ h).1
def agR (X:Cx):List V->Hp->VK->Prop:=λxs H Q=>∃ a zs,xs=[.ref a]/\H a=some (hoU X a zs)/\Af (zs.map (·.1))=true/\(∀ z∈zs,Rep X.K H (tupK z.1) (.ref z.2))/\∀ l H' us,Same H H'->H l=none->H' l=some (.lst us)->aO X.K H' ((jE (zs.map (·.1))).map tupK) us->Q (.ref l) H'
theorem abx (hc:X.calm=true):eE X (.builtin "sorted") (agR X):=by
 intro pins s σ H xs us Q I r h;obtain⟨a,zs,rfl,ha,hs,hrep,q⟩:=h;obtain⟨u,rfl,ru⟩:=vals1 r;cases ru;simp only[Af,ZE,qA,qi,qB] at hs;obtain⟨h64,hne,hsh⟩:=hs;rw[zl] at h64;obtain⟨o,es,ep,t,ho,hex,hd,hl',ft,aiW,agS⟩:=aeL I ha;have hz:es.size=zs.length:=by rw[<-qh,hl',zl]
 have wk:Wk X.w s.heap a es ep t:=⟨⟨o,ho,hex.1,hd⟩,ft,aiW,λq=>agS (by omega)⟩;have rs0:aO X.K H ((zs.map (·.1)).map tupK) (zs.map λz=>(V.ref z.2))/\Vals (zs.map λz=>(V.ref z.2)) (zs.map λz=>(.ref z.2:Value)):=by
  clear hl' ha q h64 hne hsh hz wk agS
  induction zs with
  |nil=>exact⟨aO.nil,.nil⟩
  |cons z zs ih=>
   obtain⟨i1,i2⟩:=ih λy hy=>hrep y (zt _ hy);exact⟨aO.cons (hrep z (zo ..)) i1,.cons rfl i2⟩
 have tv0:=oO I rs0.1 rs0.2;have tz:∀ z∈zs,jc s.heap z.1 (.ref z.2):=λz hz'=>by
  have:=oO I (cG:=[z.1]) (vs:=[V.ref z.2]) (its:=[.ref z.2]) (aO.cons (hrep z hz') aO.nil) (.cons rfl .nil);cases this with
  |cons q' _=>exact q'
 refine QL (λvs=>∃ ys:List (List Key×Addr),ys.Perm zs/\vs=ys.map λz=>(.ref z.2:Value)) (tuples' true) (λvs v=>rank (vs.map λu=>keyOf (zs.map (·.1)) (zs.map λz=>(.ref z.2:Value)) u) (keyOf (vs.map λu=>keyOf (zs.map (·.1)) (zs.map λz=>(.ref z.2:Value)) u) vs v))
  (λE' Q' hq=>MP (by exact I.ok.hd hc) wk (by rw[hz,sizeLine_eq];omega) λord h1 d tk hp hle ext=>hq ord h1 d tk ?_ hle ext) ?_ ?_ ?_ ?_
 ·rw[hl',Qr] at hp;have:∀ {ord vs:List Value},ord.Perm vs->∀ zs:List (List Key×Addr),vs=zs.map (λz=>(.ref z.2:Value))->∃ ys:List (List Key×Addr),ys.Perm zs/\ord=ys.map λz=>(.ref z.2:Value):=by
   intro ord vs hp
   induction hp with
   |nil=>intro zs e;cases zs with|nil=>exact⟨[],.refl _,rfl⟩|cons _ _=>cases e
   |cons y _ ih=>
    intro zs e;cases zs with
    |nil=>cases e
    |cons z zs=>
     rw[zr] at e;injection e with e1 e2;obtain⟨ys,p1,p2⟩:=ih zs e2;exact⟨z::ys,p1.cons _,by rw[zr,e1,p2]⟩
   |swap y1 y2 l=>
    intro zs e
    match zs,e with
    |z1::z2::zs,e=>
     simp only[zr,ku] at e;exact⟨z2::z1::zs,List.Perm.swap _ _ _,by simp only[zr];rw[e.1,e.2.1,e.2.2]⟩
    |[_],e=>simp at e
    |[],e=>cases e
   |trans _ _ ih1 ih2=>
    intro zs e;obtain⟨ys,p1,p2⟩:=ih2 zs e;obtain⟨us,q1,q2⟩:=ih1 ys p2;exact⟨us,q1.trans p1,q2⟩
  exact this hp zs rfl
 all_goals
  intro vs hG;obtain⟨ys,py,rfl⟩:=hG;have hm:∀ v∈(ys.map λz=>(.ref z.2:Value)),v∈(zs.map λz=>(.ref z.2:Value)):=λv hv=>((py.map _).mem_iff).mp hv;have tvK:∀ v∈(ys.map λz=>(.ref z.2:Value)),jc s.heap (keyOf (zs.map (·.1)) (zs.map λz=>(.ref z.2:Value)) v) v:=λv hv=>(jX tv0 v (hm v hv)).2;have tv:=wj tvK;have eks:(ys.map λz=>(.ref z.2:Value)).map (λu=>keyOf (zs.map (·.1)) (zs.map λz=>(.ref z.2:Value)) u)=ys.map (·.1):=by
   rw[Qr];refine jS λz hz=>?_;have hz':=py.mem_iff.mp hz;exact(tvK (.ref z.2) (List.mem_map.mpr ⟨z,hz,rfl⟩)).inj (tz z hz')
  have mk:∀ k∈(ys.map λz=>(.ref z.2:Value)).map (λu=>keyOf (zs.map (·.1)) (zs.map λz=>(.ref z.2:Value)) u),k∈zs.map (·.1):=λk hk=>by
   rw[eks] at hk;exact((py.map _).mem_iff).mp hk
 ·intro h2 E' A' s' k Q' hq;exact Hx (Paired.imp' (λ_ _ z=>jc.keep z k) tv) (λk hk=>by have:=hne k (mk k hk);cases k with|nil=>cases this|cons _ _=>exact List.cons_ne_nil _ _) (λk hk l hl=>Dh (hsh k (mk k hk) l (mk l hl))) (by omega) hq
 ·intro A' s' k;exact Mv (Paired.imp' (λ_ _ z=>jc.keep z k) tv) λk hk l hl=>Dh (hsh k (mk k hk) l (mk l hl))
 ·rw[zl,py.length_eq];exact h64
 ·intro l h' d tk n st hp up hl ext hL;have out:=Mw tv hp up;have mem:∀ u∈((arrOf st).map (·.2)).toList,u∈(ys.map λz=>(.ref z.2:Value)):=λu hu=>by
   rw[Array.toList_map] at hu;obtain⟨pr,hpr,rfl⟩:=List.mem_map.mp hu;have aeG:pr∈(ys.map λz=>(.ref z.2:Value)).zip (ys.map λz=>(.ref z.2:Value)):=by rw[<-pairsOf_toList];exact(Array.perm_iff_toList_perm.mp hp).mem_iff.mp hpr
   have:=mem_zip_self aeG;rw[<-this.1];exact this.2
  have hH:H l=none:=I.hok.fresh hl;have back:∀ {Wm:List (List Key)} {out:List Value},Paired (jc s.heap) Wm out->(∀ u∈out,u∈(ys.map λz=>(.ref z.2:Value)))->∃ ws,Vals ws out/\aO X.K H (Wm.map tupK) ws:=by
   intro Wm out pr
   induction pr with
   |nil=>intro _;exact⟨[],.nil,aO.nil⟩
   |cons q0 _ ih=>
    intro hm';obtain⟨ws,w1,w2⟩:=ih λu hu=>hm' u (zt _ hu);obtain⟨z,hz,ez⟩:=List.mem_map.mp (hm' _ (zo ..));subst ez;have hz':=py.mem_iff.mp hz;have ek:=q0.inj (tz z hz');refine⟨.ref z.2::ws,.cons rfl w1,?_⟩;rw[zr,ek];exact aO.cons (hrep z hz') w2
  obtain⟨ws,w1,w2⟩:=back out mem;rw[eks] at w2;have es:jE (ys.map (·.1))=jE (zs.map (·.1)):=qu ((lG _).trans (py.map _)) (uc _);rw[es] at w2;have hzl:ws.length=zs.length:=by rw[w2.length,zl,(lG _).length_eq,zl]
  refine⟨.ref l,_,Vv (d:=d) (I.laid (t':=tk) (a:=l) (o:=.lst ws) ext hl ⟨by rw[hzl,sizeLine_eq];omega,_,n,w1,?_⟩),rfl,q _ _ ws (bJ hH) hH bf (w2.kp (.of (bJ hH)))⟩;rw[hL]
def HJ {α:Type} [DecidableEq α]:List α->List α
 |[]=>[]
 |y::ys=>if y∈ys then HJ ys else y::HJ ys
section
variable [DecidableEq α]
theorem oR:∀ {ys:List α} {z:α},z∈HJ ys↔z∈ys
 |[],z=>by simp[HJ]
 |y::ys,z=>by
  unfold HJ;split
  ·rename_i h;rw[oR,ZZ];exact⟨.inr,λq=>q.elim (λe=>e▸h) id⟩
  ·rw[ZZ,ZZ,oR]
theorem JN:∀ (ys:List α),(HJ ys).Nodup
 |[]=>ya
 |y::ys=>by
  unfold HJ;split
  ·exact JN ys
  ·rename_i h;exact List.nodup_cons.mpr ⟨λq=>h (oR.mp q),JN ys⟩
theorem Bm:∀ (ys:List α),(HJ ys).length<=ys.length
 |[]=>zg _
 |y::ys=>by
  have:=Bm ys;unfold HJ;split<;>simp<;>omega
theorem JQ {β:Type} [DecidableEq β] {f:α->β} (hi:∀ a b,f a=f b->a=b):∀ (ys:List α),HJ (ys.map f)=(HJ ys).map f
 |[]=>rfl
 |y::ys=>by
  have hm:f y∈ys.map f↔y∈ys:=⟨λq=>by obtain⟨z,hz,e⟩:=List.mem_map.mp q;rw[<-hi _ _ e];exact hz,λq=>List.mem_map.mpr ⟨y,q,rfl⟩⟩;rw[zr];unfold HJ;by_cases q:y∈ys
  ·rw[zi q,zi (hm.mpr q),JQ hi ys]
  ·rw[zC q,zC λh=>q (hm.mp h),zr,JQ hi ys]
end
section
def Ng (ks:List Key):Bool:=ks.any λk=>k.isRight
theorem aeM (h:Ng ks=true):Txs ks:=by
 unfold Ng at h;rw[ki] at h;obtain⟨k,hk,e⟩:=h;cases k with
 |inl i=>cases e
 |inr x=>exact⟨x,hk⟩
def tU (X:Cx) (f:Ev->Option (List (List Key))):L2.TE:=λσ H Q=>∃ H0 ρ cG,bL X.K H0 H σ ρ/\f ρ=some cG/\∀ a zs H',Same H H'->H' a=some (hoU X a zs)->(∀ k,k∈zs.map (·.1)↔k∈cG)->(zs.map (·.1)).Nodup->(∀ z∈zs,Rep X.K H' (tupK z.1) (.ref z.2))->Q (.ref a) H'
def PVU (X:Cx) (e:Expr) (f:Ev->Option (List (List Key))):Prop:=PE X e (tU X f)
structure QVU (X:Cx) (e:Expr) (f:Ev->Option (List (List Key))):Prop where
 run:PVU X e f
def acZ (b:Bx):Option (List (List Key)):=(qT b).bind λds=>(qW ds).bind λcG=>if cG.length<=64/\cG.all Ng=true then some cG else none
def QM (f:Ev->Option Bx):Ev->Option (List (List Key)):=λρ=>(f ρ).bind acZ
def Dp (fs:Ev->Option (List (List Key))):Ev->Option Bx:=λρ=>(fs ρ).bind λcG=>if Af cG=true then some (.o ((jE (HJ cG)).map tupK)) else none
variable {fs:Ev->Option (List (List Key))} {p:Pos}
theorem S9 (hc:X.calm=true) (hu:X.A.units+100 < cLine) (hg:Gl X "set") (hm:X.mg "set" = none) (ha:QV X e f) (he:starEach (e::[]) X.env=(false,eval e X.env)::starEach [] X.env:=by rfl):QVU X (.Call (.Name "set" p) [e] [] pos) (QM f):=by
 refine⟨FP (G9 (T := "set") (abw hc hu) hg hm rfl (aY ha.run dW he) (he:=he)) λσ H Q h=>?_⟩;obtain⟨H0,ρ,cG,E,ef,q⟩:=h;obtain⟨b,eb,ef⟩:=bind_some ef;obtain⟨ds,ed,ef⟩:=bind_some ef;obtain⟨ks',ek,ef⟩:=bind_some ef;split at ef
 ·rename_i hl;cases ef;rw[qi] at hl;exact⟨H0,ρ,b,E,eb,λv H1 s1 n1 r1=>⟨v,b,ds,cG,rfl,r1,ed,ek,hl.1,λk hk=>aeM (hl.2 k hk),λa zs H2 s2 e2 m nd hz=>q a zs H2 (s1.trans s2) e2 m nd hz⟩⟩
 ·cases ef
theorem Yo {Wm:List (List Key)} (h:Af cG=true) (hl:Wm.length<=cG.length) (hm:∀ k∈Wm,k∈cG):Af Wm=true:=by
 simp only[Af,ZE,qA,qi,qB] at h ⊢;exact⟨by omega,λk hk=>h.2.1 k (hm k hk),λk hk l hl'=>h.2.2 k (hm k hk) l (hm l hl')⟩
theorem Tc (hc:X.calm=true) (hg:Gl X "sorted") (hm:X.mg "sorted" = none) (ha:QVU X e fs) (he:starEach (e::[]) X.env=(false,eval e X.env)::starEach [] X.env:=by rfl):QV X (.Call (.Name "sorted" p) [e] [] pos) (Dp fs):=by
 refine⟨FP (dX (id := "sorted") (abx hc) hg hm rfl (aY ha.run dW he) (he:=he)) λσ H Q h=>?_⟩;obtain⟨H0,ρ,b,E,ef,q⟩:=h;obtain⟨cG,ey,ef⟩:=bind_some ef;split at ef
 ·rename_i hl;cases ef;refine⟨H0,ρ,cG,E,ey,λa zs H1 s1 e1 m nd hy=>⟨a,zs,rfl,e1,?_,hy,λl H2 us s2 hfr e2 rp=>?_⟩⟩
  ·have e3:=(Bk nd (JN cG) λz=>by rw[m z,oR]).length_eq;have:=Bm cG;exact Yo hl (by omega) λk hk=>(m k).mp hk
  ·have pm:=Bk nd (JN cG) λz=>by rw[m z,oR]
   have es:jE (zs.map (·.1))=jE (HJ cG):=qu ((lG _).trans pm) (uc _);rw[es] at rp;exact q _ H2 (s1.trans s2) (λa ea=>by cases ea;exact s1.free hfr) ⟨l,us,rfl,e2,rp⟩
 ·cases ef
end
end P1
namespace P1
open L2
def Dq:Bx->Bx->Option Bx
 |.z (.str k),.z d=>some (.z (.tup [.str k,d]))
 |_,_=>none
theorem QS {a:Bx} {y:Dt} (h:Dq a b=some (.z y)):∃ k d,a=.z (.str k)/\b=.z d/\y=.tup [.str k,d]:=by
 unfold Dq at h;split at h
 ·cases h;exact⟨_,_,rfl,rfl,rfl⟩
 ·cases h
def aeN (kvs:List (Key×Dt)):Dt->List (Key×Dt)
 |.tup [.str k,d]=>Jz kvs (.inr k) d
 |_=>kvs
def dictOf (out:List Dt):List (Key×Dt):=out.foldl aeN []
theorem Nh (out:List Dt) (k:Str) (d:Dt):dictOf (out++[.tup [.str k,d]])=Jz (dictOf out) (.inr k) d:=by
 unfold dictOf;rw[List.foldl_append];rfl
theorem Vw {kvs:List (Key×V)} {k:Key} {v:V} {r:Value} {Q:Unit->Shared->Prop} (I:L2.Inv X pins σ H s) (e:H a=some (.dK kvs)) (l:kvs.length < sizeLine) (ry:RelV (kV k) u) (rv:RelV v r) (h:∀ s',L2.Inv X pins σ (upd H a (.dK (putK kvs k v))) s'->Q () s') :
  wpAny (model X.prog X.w) A (dictSet a u r) Q E s:=by
 obtain⟨z,hd,vs,rel,dd⟩:=acN I.hok e;have hz:vs.length<=sizeLine:=by rw[<-rel.length];exact z
 have hl:(putK kvs k v).length<=sizeLine:=by have:=oK kvs k v;omega
 refine wpAny_dictSet_pairs (hsz:=hz) (Ld ry) dd λh' dd' hs=>h _ ?_;have he:∃ q,h'.get? a=some q:=let ⟨q,_,_,hq,_⟩:=dd';⟨q,hq⟩;exact Jj I (by rw[e];exact True.intro) hs he (WY hl hd (rel.put k rv) dd')
section
variable {kx vx:Expr} {xs ts:LS_}
def AcD (K:FG_) (_:Addr) (H:Hp) (o1:List Dt) (o:HO):Prop:=∃ us,o=.dK us/\fK K H (dictOf o1) us/\us.length<=o1.length
theorem AcD.kp {K:FG_} {D:Addr} {H H':Hp} {o1:List Dt} {o:HO} (k:Kp H H'):AcD K D H o1 o->AcD K D H' o1 o:=λ⟨us,e,r,z⟩=>⟨us,e,r.kp k,z⟩
theorem aby (hk:PV X kx fk) (hv:PV X vx fv):Xj X (λD env=>do let kv <-eval kx env;let vv <-holding [kv] (eval vx env);standAt { kx.pos with endLine:=vx.pos.endLine,endCol:=vx.pos.endCol };holding [kv,vv] (dictSet D kv vv)) (agA (b2 Dq fk fv)) (AcD X.K) 999 n:=by
 refine Xk λpins s σ H H0 ρ D o o1 ys I En eb hD ⟨us,e,r4,hl⟩ hi=>?_;subst e;obtain⟨b,e0,e1⟩:=bind_some eb;obtain⟨y,rfl,rfl⟩:=yO e1;obtain⟨bk,ebk,eb⟩:=bind_some e0;obtain⟨bv,ebv,eb⟩:=bind_some eb;obtain⟨kt,dv,rfl,rfl,rfl⟩:=QS eb;refine zb (ZU (hk pins s σ H (λv H9=>Same H H9/\bA X.K H9 (.z (.str kt)) v) I ⟨H0,ρ,_,En,ebk,λv H9 s9 _ r9=>⟨s9,r9⟩⟩) (λkv s9a h9=>?_) λ_ _ z=>z);obtain⟨k',H9a,I9a,rk,agT,r9a⟩:=h9;refine zb (qo (ZU (hv pins s9a σ H9a (λv H9=>Same H9a H9/\Rep X.K H9 dv v) I9a ⟨H0,ρ,_,En.grow agT,ebv,λv H9 s9 _ r9=>⟨s9,r9⟩⟩) (λv s9 h9=>?_) λ_ _ z=>z));obtain⟨v',H9,I9,rv,s9b,r9⟩:=h9;have s89:=agT.trans s9b;have hD9:H9 D=some (.dK us):=s89 _ _ hD;obtain⟨rfl,hkl⟩:k'=.str kt/\kt.length<=sizeLine:=by simpa only[bA,Rep] using r9a
 have kp:Kp H9 (upd H9 D (.dK (putK us (Sum.inr kt) v'))):=.dk hD9;refine zb (kP (qo ?_));simp only[List.length_singleton] at hi;refine Vw I9 hD9 (by have:(1000:Nat) < sizeLine:=(by decide);omega) (k:=Sum.inr kt) rk rv λs10 I10=>?_;have r5:=((r4.kp (.of s89)).put (x:=Sum.inr kt) r9 hkl).kp kp;exact⟨H9,_,I10,s89,kp,putK us (Sum.inr kt) v',rfl,by rw[Nh];exact r5,by have:=oK us (Sum.inr kt) v';simp;omega⟩
def Td (fi:Ev->Option (List Dt)) (gt:Dt->Ev->Option Ev) (p:Ev->Option Bool) (fk fv:Ev->Option Bx) (is:List Nat) (n:Nat):Ev->Option Bx:=λρ=>(fi ρ).bind λds=>
 if ds.length < 1000 then(w5 gt p (b2 Dq fk fv) (iY is ρ++List.replicate n none) ds).bind λout=>some (.m (dictOf out) none) else none
theorem Yp (hu:X.A.units+100 < cLine) (ts:LS_) (O:pR X scope cl xs is) (hcalm:X.calm=true) (hi:QIC X tgt iter fi)
  (Hl:∀ C s₀ H₀ fp,Z4 (Ad X (xs++ts) scope cl C s₀ H₀ fp) tgt gt) (hif:∀ C s₀ H₀ fp,yP (Ad X (xs++ts) scope cl C s₀ H₀ fp) ifs p) (hkx:∀ C s₀ H₀ fp,QV (Ad X (xs++ts) scope cl C s₀ H₀ fp) kx fk) (hvx:∀ C s₀ H₀ fp,QV (Ad X (xs++ts) scope cl C s₀ H₀ fp) vx fv) (htk:Xg is.length (is.length+ts.length) gt)
  (hs:∀ x,foldedSetIterable iter X.env x=pure x:=by intro _;rfl):QV X (.DictComp kx vx [⟨tgt,iter,ifs,0⟩] scope pos) (Td fi gt p fk fv is ts.length):=⟨λpins s σ H Q I h=>by
 obtain⟨H0,ρ,b,E,e,q⟩:=h;obtain⟨ds,ed,e⟩:=bind_some e;split at e
 ·rename_i hlen;obtain⟨out,eo,e⟩:=bind_some e;cases e;rw[arm_eval_DictComp];refine kc (use:=none) rfl hs O.clos O.kind O.names ?_;refine iI (hi.run pins s σ H (λJ H'=>Same H H'/\Yields X.K J ds H') I ⟨H0,ρ,ds,E,ed,λJ H' s' y=>⟨s',y⟩⟩) λv s1 h1=>iI h1 λitv s2 h2=>?_;obtain⟨it,fp,tn,J,H2,rfl,I2,T,st,hf,s12,Y⟩:=h2;refine Ho (B:=Hj) (Ac:=AcD X.K) (O0:=.dK []) (N:=999) (RR:=λacc C=>compPost (model X.prog X.w) X.A X.xe none (EP X pins σ Q) acc C) (ts:=ts) (xs:=xs) O hcalm (λC s₀ H₀ fp=>(Hl C s₀ H₀ fp).run) (λC s₀ H₀ fp=>(hif C s₀ H₀ fp).run) (λC s₀ H₀ fp=>aby (hkx C s₀ H₀ fp).run (hvx C s₀ H₀ fp).run) htk (Nat.le_add_right ..) I2 ((E.grow s12).caps is ts.length) (Ly T) st hf Y eo (Zp (uL eo) (Nat.le_of_lt_succ hlen)) ?_
   qa (λ_=>Lf s2.heap I2.big) (λ_=>⟨[],rfl,fK.nil,zg _⟩) AcD.kp (λ_ _ _=>rfl) codeAny_compStart_dict λh=>h
  rintro D C s' H' o hD I' fC ⟨m,hn⟩ s2' hD' ⟨us,rfl,rm,_⟩;refine⟨m,hn,λh' sb=>⟨.ref D,H',?_,rfl,q (.ref D) H' (s12.trans s2') (λa ea=>by cases ea;exact s12.free hD) ⟨D,us,rfl,hD',rm,λb hb=>by cases hb⟩⟩⟩;obtain⟨f0,f1,f2,f3,f4,f5⟩:=fC;exact I'.turned (t':=s'.toks) (λb o hb e=>(sb.2 b hb).trans e) f0 f1 f3 f4 f5
 ·cases e⟩
end
section
variable {ks:List (Key×V)} {o:Obj}
theorem Ni (hb:∀ ob u,X.H₀ a≠some (.qM ob u)) (I:L2.Inv X pins σ H s) (e:H a=some (.qM o (.dK ks))):L2.Inv X pins σ (upd H a (.dK ks)) s:=by
 have ne:∀ {b:Addr} {u:HO},H b=some u->u≠.qM o (.dK ks)->b≠a:=λq n z=>by subst z;rw[e] at q;cases q;exact n rfl
 have nn:∀ {b:Addr},H b=none->b≠a:=λq z=>by subst z;rw[e] at q;cases q
 refine⟨I.ok,I.os,I.bare,⟨I.base.keep,I.base.slot,λb ob q n hx=>?_,I.base.there,λb xs q=>?_,λb ob u q=>?_,λb ps q=>?_⟩,I.loc,I.cell,?_,λx c q=>?_,λp hp=>?_,λb ob q=>?_,I.len⟩
 ·have:=I.base.free b ob q n hx;rw[aK (nn this)];exact this
 ·have:=I.base.tups b xs q;rw[aK (ne this λz=>by cases z)];exact this
 ·have:=I.base.sJ b ob u q;rw[aK (λz=>by subst z;exact hb _ _ q)];exact this
 ·obtain⟨m,this⟩:=I.base.vQ b ps q;exact⟨m,by rw[aK (ne this λz=>by cases z)];exact this⟩
 ·have:=I.free;rw[aK (nn this)];exact this
 ·have:=I.iU x c q;rw[aK (nn this)];exact this
 ·obtain⟨p1,p2,p3⟩:=I.pin p hp;exact⟨p1,by rw[aK (nn p2)];exact p2,p3⟩
 ·have st:∀ {c:Addr} {w:HO},eX X.prog X.w H s.heap c w->eX X.prog X.w (upd H a (.dK ks)) s.heap c w:=λx=>
   x.stay (λ_ _ _ r=>r) (λd r=>by rw[aK (ne r λz=>by cases z)];exact r) λd xs r=>by rw[aK (ne r λz=>by cases z)];exact r
  by_cases hba:b=a
  ·subst hba;rw[bf] at q;cases q;exact st (I.hok _ _ e).2
  ·rw[aK hba] at q;exact st (I.hok _ _ q)
theorem agU (I:L2.Inv X pins σ H s) (e:H a=some (.dK ks)) (ho:s.heap.get? a=some o):L2.Inv X pins σ (upd H a (.qM o (.dK ks))) s:=by
 have:=I.write (t':=s.toks) (h':=s.heap) (x:=a) (e:=a) (o:=.qM o (.dK ks)) (by rw[e];exact True.intro) (.inl rfl) (λ_ _ _ z=>z) ⟨o,ho⟩ ⟨ho,(I.hok _ _ e).stay (λ_ _ _ r=>r) (λd r=>by rw[aK (iW r e (by intro z;cases z))];exact r) λd xs r=>by rw[aK (iW r e (by intro z;cases z))];exact r⟩;exact this
theorem abz (I:L2.Inv X pins σ H s) (e:H a=some (.dK ks)):∀ ob u,X.H₀ a≠some (.qM ob u):=λob u q=>by
 have:=I.base.sJ a ob u q;rw[e] at this;cases this
mutual
theorem Rep.Ni {K:FG_} (e:H a=some (.qM o (.dK ks))) (hk:ks≠[]):∀ {d:Dt} {v:V},Rep K H d v->Rep K (upd H a (.dK ks)) d v
 |.non,_,h=>by simpa only[Rep] using h
 |.bl _,_,h=>by simpa only[Rep] using h
 |.int _,_,h=>by simpa only[Rep] using h
 |.str _,_,h=>by simpa only[Rep] using h
 |.tup ds,_,h=>by
  simp only[Rep] at h ⊢;obtain⟨b,vs,e1,q,r⟩:=h;refine⟨b,vs,e1,?_,aO.Ni e hk r⟩;rcases q with (q|⟨ob,q⟩)|q
  ·exact .inl (.inl (by rw[aK (λz=>by subst z;rw[e] at q;cases q)];exact q))
  ·exact .inl (.inr ⟨ob,by rw[aK (λz=>by subst z;rw[e] at q;cases q)];exact q⟩)
  ·exact .inr q
 |.lst ds,_,h=>by
  simp only[Rep] at h ⊢;obtain⟨b,vs,e1,q,r⟩:=h;refine⟨b,vs,e1,?_,aO.Ni e hk r⟩;rcases q with⟨ob,q⟩|q
  ·exact .inl ⟨ob,by rw[aK (λz=>by subst z;rw[e] at q;cases q)];exact q⟩
  ·exact .inr q
 |.emp,_,h=>by
  simp only[Rep] at h ⊢;obtain⟨b,ob,e1,q⟩:=h;exact⟨b,ob,e1,by rw[aK (λz=>by subst z;rw[e] at q;cases q;exact hk rfl)];exact q⟩
theorem aO.Ni {K:FG_} (e:H a=some (.qM o (.dK ks))) (hk:ks≠[]):∀ {ds:List Dt} {vs:List V},aO K H ds vs->aO K (upd H a (.dK ks)) ds vs
 |[],_,h=>by simpa only[aO] using h
 |d::ds,_,h=>by
  simp only[aO] at h ⊢;obtain⟨v,r,e1,q,t⟩:=h;exact⟨v,r,e1,Rep.Ni e hk q,aO.Ni e hk t⟩
end
def Itd (a:Addr) (o:Obj) (ks:List (Key×V)):It:=
 ⟨λi H=>H a=some (.qM o (.dK ks))/\i < ks.length,λi H x H'=>H'=H/\(ks.map λk=>kV k.1)[i]?=some x,λi H=>H a=some (.qM o (.dK ks))/\ks.length<=i⟩
theorem Te (x:eX P w H h a (.qM o (.dK ks))) {es:Array DictEntry} (hd:o.data=.dict es ep):∃ vs,KV ks vs/\h.DictAt (bx P w) a vs ep:=by
 obtain⟨e,_,_,vs,kv,ob,es',ep',e2,c,d,r⟩:=x;rw[e] at e2;cases e2;rw[hd] at d;cases d;exact⟨vs,kv,o,es,e,c,hd,r⟩
theorem Yq:∀ {ks:List (Key×V)} {vs:List (Key×Value)},KV ks vs->∀ {i:Nat} {p},ks[i]?=some p->∃ x,vs[i]?=some (p.1,x)
 |_,_,.nil,i,p,q=>by simp at q
 |_,_,.cons h _,0,p,q=>by simp at q;subst q;exact⟨_,by rw[List.getElem?_cons_zero,h.1]⟩
 |_,_,.cons _ t,i+1,p,q=>by
  rw[ZT] at q;obtain⟨x,hx⟩:=Yq t q;exact⟨x,by rw[ZT];exact hx⟩
theorem HN (it:Addr) {es:Array DictEntry} (hd:o.data=.dict es ep) (hne:a≠it):Turn P w K tg (Itd a o ks) [it] it (λi h=>h.IsKeyIter it a i ks.length ep) where
 mem:=by simp
 obj:=λi h st b hb=>by
  have e:b=it:=by simpa using hb
  subst e;obtain⟨ob,e,c,d⟩:=st;exact⟨ob,e,λv z=>by rw[d] at z;cases z⟩
 keep:=λi h h' st k=>st.at λob e=>k it (by simp) ob e
 item:=by
  intro X hP hw hK hc i pins s σ H E I hf st hg;subst hP hw hK;obtain⟨ha,hi⟩:=hg;obtain⟨vs,kv,dd⟩:=Te (I.hok _ _ ha) hd;have hl:ks.length=vs.length:=kv.length;obtain⟨x,hx⟩:=Yq kv (show ks[i]?=some ks[i] by simp[hi]);obtain⟨f0,f1,f2,f3,f4,f5⟩:=hf it (by simp);rw[hl] at st;refine wpAny_pyNext_dict_item st dd hx λkey h' hkey st' sb=>?_;rw[<-hl] at st';have I1:L2.Inv X pins σ H { s with heap:=h' }:=I.turned (t':=s.toks) (λb ob hb e=>(sb.2 b hb).trans e) f0 f1 f3 f4 f5;obtain⟨ob,e,c,d⟩:=id st';refine⟨key,rfl,BP (s:={ s with heap:=h' }) e c d (by decide) ⟨kV (ks[i]).1,H,I1,?_,⟨rfl,by rw[Zl,zS hi];rfl⟩,st',λb hb=>(hf b hb).1⟩⟩;have hk':jz (ks[i]).1 key=true:=hkey;rcases bI hk' with⟨j,t,e2,e3⟩|⟨z,t,e2,e3⟩
  ·rw[e2,e3];exact⟨t,rfl⟩
  ·rw[e2,e3];exact⟨t,rfl⟩
 done:=by
  intro X hP hw hK hc i pins s σ H E I hf st hg;subst hP hw hK;obtain⟨ha,hi⟩:=hg;obtain⟨vs,kv,dd⟩:=Te (I.hok _ _ ha) hd;have hl:ks.length=vs.length:=kv.length;obtain⟨f0,f1,f2,f3,f4,f5⟩:=hf it (by simp);rw[hl] at st;exact wpAny_pyNext_dict_end (I.ok.hd hc) st dd (qV (by omega)) λh' eb=>⟨rfl,I.turned (t':=s.toks) (λb ob hb e=>eb b ob hb e) f0 f1 f3 f4 f5⟩
 self:=λ_ _ _ _ _ st h=>wpAny_pyIter_keyiter st h
def QT:Key->Dt
 |.inl i=>.int i
 |.inr x=>.str x
theorem Yr {k:Key} (h:okK k):Rep K H (QT k) (kV k):=by
 cases k with
 |inl i=>unfold QT Rep;rfl
 |inr x=>unfold QT Rep;exact⟨rfl,h⟩
def keyB:Bx->Option (List Dt)
 |.n kvs=>some (kvs.map λp=>QT p.1)
 |_=>none
theorem Vx (h:keyB b=some ds):∃ kvs,b=.n kvs/\ds=kvs.map λp=>QT p.1:=by
 unfold keyB at h;split at h
 ·cases h;exact⟨_,rfl,rfl⟩
 ·cases h
theorem zP (ha:Hs a=some (.qM o (.dK ks))) (rm:fK K Hs kvs ks):Yields K (Itd a o ks) (kvs.map λp=>QT p.1) Hs:=.of λi H s=>by
 have hl:=rm.len;refine⟨λd e=>?_,λe=>⟨s _ _ ha,by rw[zl] at e;omega⟩⟩;rw[Zl] at e;cases hp:kvs[i]? with
 |none=>rw[hp] at e;cases e
 |some p=>
  rw[hp] at e;cases e;have hi:i < kvs.length:=(List.getElem?_eq_some_iff.mp hp).1;refine⟨⟨s _ _ ha,by omega⟩,λx H' y=>?_⟩;obtain⟨y1,y2⟩:=y;refine⟨y1,?_⟩;have h1:(ks.map (·.1))[i]?=some p.1:=by rw[rm.1,Zl,hp];rfl
  rw[Zl] at h1 y2;cases hk:ks[i]? with
  |none=>rw[hk] at h1;cases h1
  |some q=>
   rw[hk] at h1 y2;cases y2;have:q.1=p.1:=by simpa using h1
   show Rep K H (QT p.1) (kV q.1);rw[this];exact Yr (rm.2.2 p (qE hp))
theorem QW {H1:Hp} (e:H1 a=some (.dK ks)) (E:bL K H1 H1 (vU is σ++List.replicate n none) (iY is ρ++List.replicate n none)):bL K (upd H1 a (.qM o (.dK ks))) (upd H1 a (.qM o (.dK ks))) (vU is σ++List.replicate n none) (iY is ρ++List.replicate n none):=by
 have kp:Kp H1 (upd H1 a (.qM o (.dK ks))):=.dk e;have Z5:∀ (j:Nat) c,(iY is ρ++List.replicate n none)[j]?=some (some c)->sS c=false:=λj c e=>by
  by_cases hj:j < is.length
  ·rw[ZN (by simp[iY];omega)] at e;unfold iY at e;rw[Zl] at e;cases q:is[j]? with
   |none=>rw[q] at e;cases e
   |some i=>
    rw[q] at e;have:yL ρ i=some c:=by simpa using e
    exact wV this
  ·rw[qr (by simp[iY];omega),QN] at e;split at e<;>cases e
 refine⟨E.len,λj b eb=>?_,λj k c a b e ec=>absurd ec (by rw[Z5 j c e];exact ZA),Same.refl _,λj c a e ec=>absurd ec (by rw[Z5 j c e];exact ZA)⟩;obtain⟨v,ev,r⟩:=E.val j b eb;refine⟨v,ev,?_⟩;cases b with
 |z d=>exact Rep.kp kp r
 |o ds=>have:=Z5 j _ eb;cases this
 |m ds _=>have:=Z5 j _ eb;cases this
 |l ds=>
  obtain⟨b,vs,e1,q,r⟩:=r;refine⟨b,vs,e1,?_,r.kp kp⟩;rcases q with q|⟨ob,q⟩
  ·exact .inl (by rw[aK (iW q e (by intro z;cases z))];exact q)
  ·exact .inr ⟨ob,by rw[aK (iW q e (by intro z;cases z))];exact q⟩
 |n ds=>
  obtain⟨b,vs,e1,q,r⟩:=r;refine⟨b,vs,e1,?_,r.kp kp⟩;by_cases hb:b=a
  ·subst hb;rcases q with q|⟨ob,q⟩
   ·rw[e] at q;cases q;exact .inr ⟨o,bf⟩
   ·rw[e] at q;cases q
  ·rcases q with q|⟨ob,q⟩
   ·exact .inl (by rw[aK hb];exact q)
   ·exact .inr ⟨ob,by rw[aK hb];exact q⟩
end
section
variable {fd:Ev->Option Bx} {xs ts:LS_}
def Tf (fd:Ev->Option Bx):Ev->Option (List Dt):=λρ=>(fd ρ).bind keyB
theorem Vy (ρ:Ev):w5 gt p fe ρ []=some []:=rfl
theorem Ys (ts:LS_) (O:pR X scope cl xs is) (hcalm:X.calm=true) (hi:QV X iter fd)
  (Hl:∀ C s₀ H₀ fp,Z4 (Ad X (xs++ts) scope cl C s₀ H₀ fp) tgt gt) (hif:∀ C s₀ H₀ fp,yP (Ad X (xs++ts) scope cl C s₀ H₀ fp) ifs p) (helt:∀ C s₀ H₀ fp,QV (Ad X (xs++ts) scope cl C s₀ H₀ fp) elt fe) (htk:Xg is.length (is.length+ts.length) gt)
  (hs:∀ x,foldedSetIterable iter X.env x=pure x:=by intro _;rfl):QV X (.ListComp elt [⟨tgt,iter,ifs,0⟩] scope pos) (dY (Tf fd) gt p fe is ts.length):=⟨λpins s σ H Q I h=>by
 obtain⟨H0,ρ,b,E,e,q⟩:=h;obtain⟨ds,ed,e⟩:=bind_some e;split at e
 ·rename_i hlen;obtain⟨out,eo,e⟩:=bind_some e;cases e;obtain⟨bd,ebd,ed⟩:=bind_some ed;obtain⟨kvs,rfl,rfl⟩:=Vx ed;rw[eval_ListComp];refine kc (use:=none) rfl hs O.clos O.kind O.names ?_;refine iI (hi.run pins s σ H (λv H1=>Same H H1/\bA X.K H1 (.n kvs) v) I ⟨H0,ρ,_,E,ebd,λv H1 s1 _ r1=>⟨s1,r1⟩⟩) λv s1 ⟨v',H1,I1,rv,s01,r1⟩=>?_;obtain⟨a,ks,rfl,rd,rm⟩:=r1;cases rv;obtain⟨_,hsys,vs,kv,ob,es,ep,dd⟩:=tB I1.hok rd;have hob:=dd.1;have hdat:=dd.2.2.1;refine wpAny_pyIter_dict hsys (⟨ob,es,dd⟩:s1.heap.DictAt (bx X.prog X.w) a vs ep) ?_;have hlt:a < s1.heap.objs.size:=zw hob;have hl:ks.length=vs.length:=kv.length;have agV:∀ {H':Hp},L2.Inv X pins σ H' s1->∀ b∈[s1.heap.objs.size],qe X pins H' b:=λI' b hb=>by
   have e:b=s1.heap.objs.size:=by simpa using hb
   subst e;exact I'.Uq (zg _) (I'.hok.fresh (zg _))
  have st0:Heap.IsKeyIter (s1.heap.push { cls:=.type "dict_keyiterator", data:=.fields #[.ref a,.int 0 0,.int vs.length 0,.int ep 0] }) s1.heap.objs.size a 0 ks.length ep:=⟨_,zv _ rfl,rfl,by rw[hl];rfl⟩;rcases rd with rd|⟨o',rd⟩
  ·
   have I2:=agU I1 rd hob;have I3:L2.Inv X pins σ (upd H1 a (.qM ob (.dK ks))) { s1 with heap:=s1.heap.push { cls:=.type "dict_keyiterator", data:=.fields #[.ref a,.int 0 0,.int vs.length 0,.int ep 0] } }:=I2.kept (t':=s1.toks) λb o e=>zd _ e;have rm2:fK X.K (upd H1 a (.qM ob (.dK ks))) kvs ks:=rm.kp (.dk rd);refine tK (B:=Hj) (RR:=λacc C=>compPost (model X.prog X.w) X.A X.xe none (EP X pins σ Q) acc C) (ts:=ts) (xs:=xs) O hcalm (λC s₀ H₀ fp=>(Hl C s₀ H₀ fp).run) (λC s₀ H₀ fp=>(hif C s₀ H₀ fp).run) (λC s₀ H₀ fp=>(helt C s₀ H₀ fp).run) htk I3 (QW rd ((E.grow s01).caps is ts.length)) (Ly (HN s1.heap.objs.size hdat (zI hlt))) st0 (agV I2) (zP bf rm2) hlen eo ?_;intro D C s' H' us hD I' fC ⟨m,hn⟩ s2' hD' r';have ha':H' a=some (.qM ob (.dK ks)):=s2' _ _ bf;have hDa:D≠a:=λz=>by subst z;rw[bf] at hD;cases hD
   have hD1:H1 D=none:=by rw[aK hDa] at hD;exact hD
   have sm:Same H1 (upd H' a (.dK ks)):=λb u e=>by
    by_cases hb:b=a
    ·subst hb;rw[rd] at e;cases e;exact bf
    ·rw[aK hb];exact s2' b u (by rw[aK hb];exact e)
   have rr:aO X.K (upd H' a (.dK ks)) out us:=by
    by_cases hk:ks=[]
    ·have:kvs=[]:=by have:=rm.len;rw[hk] at this;exact List.length_eq_zero_iff.mp (by simpa using this.symm)
     subst this;simp only[ko] at eo;rw[Vy] at eo;cases eo;simpa only[aO] using r'
    ·exact aO.Ni ha' hk r'
   refine⟨m,hn,λh' sb=>⟨.ref D,upd H' a (.dK ks),?_,rfl,q _ _ (s01.trans sm) (λa ea=>by cases ea;exact s01.free hD1) ⟨D,us,rfl,by rw[aK hDa];exact hD',rr⟩⟩⟩;obtain⟨f0,f1,f2,f3,f4,f5⟩:=fC;have hCa:C≠a:=λz=>by subst z;rw[ha'] at f0;cases f0
   exact(Ni (abz I1 rd) I' ha').turned (t':=s'.toks) (λb o hb e=>(sb.2 b hb).trans e) (by rw[aK hCa];exact f0) f1 f3 f4 f5
  ·have hoo:o'=ob:=by
    have:=(I1.hok _ _ rd).1;rw[hob] at this;cases this;rfl
   subst hoo;have I3:L2.Inv X pins σ H1 { s1 with heap:=s1.heap.push { cls:=.type "dict_keyiterator", data:=.fields #[.ref a,.int 0 0,.int vs.length 0,.int ep 0] } }:=I1.kept (t':=s1.toks) λb o e=>zd _ e;refine tK (B:=Hj) (RR:=λacc C=>compPost (model X.prog X.w) X.A X.xe none (EP X pins σ Q) acc C) (ts:=ts) (xs:=xs) O hcalm (λC s₀ H₀ fp=>(Hl C s₀ H₀ fp).run) (λC s₀ H₀ fp=>(hif C s₀ H₀ fp).run) (λC s₀ H₀ fp=>(helt C s₀ H₀ fp).run) htk I3 ((E.grow s01).caps is ts.length) (Ly (HN s1.heap.objs.size hdat (zI hlt))) st0 (agV I1) (zP rd rm) hlen eo ?_;intro D C s' H' us hD I' fC ⟨m,hn⟩ s2' hD' r';refine⟨m,hn,λh' sb=>⟨.ref D,H',?_,rfl,q _ _ (s01.trans s2') (λa ea=>by cases ea;exact s01.free hD) ⟨D,us,rfl,hD',r'⟩⟩⟩;obtain⟨f0,f1,f2,f3,f4,f5⟩:=fC;exact I'.turned (t':=s'.toks) (λb o hb e=>(sb.2 b hb).trans e) f0 f1 f3 f4 f5
 ·cases e⟩
end
theorem Nj {R:Result->Shared->Prop} {d:Addr} {kvs:List (Key×Value)} (hh:A.handled=none) (hd:(d==sysModules)=false) (hm:s.heap.DictAt (bx prog w) d kvs ep) (hn:kvs.length<=sizeLine) (S:Addr) (hdS:d≠S) (res:Value) (c₀:Nat) (hS0:s.heap.get? S=some { cls:=.type "list", data:=.seq #[] c₀ }) (hR:∀ h' tk acc' c',(∀ b o,b≠S->s.heap.get? b=some o->h'.get? b=some o)->h'.get? S=some { cls:=.type "list", dict:=none,data:=.seq acc' c',slots:=#[] } →
   ItemsOf (λi v=>∃ k x,kvs[i]?=some (k,x)/\(bx prog w).is k v=true) acc' kvs.length->R (.ok (.ret res)) { s with heap:=h',toks:=tk }) :
  wpAny (model prog w) A.in1 (Builtin.List.listExtendWith (.ref S) (.ref d) res)
   (λfin s'=>match fin with|.done f=>R (.ok f) s'|.again c'=>c'.quiet=true/\codeAny (model prog w) A c' R s') (λe s'=>R (.error e) s') s:=by
 have hlt:d < s.heap.objs.size:=by obtain⟨o,_,ho,_⟩:=hm;exact zw ho
 have hSlt:S < s.heap.objs.size:=zw hS0;unfold Builtin.List.listExtendWith;refine zb (QQ (T := "dict") hm.dictOf.typeIs ?_);have h1:Builtin.List.listSameRef (.ref S) (.ref d)=false:=by simp[Builtin.List.listSameRef];exact λe=>hdS e.symm
 simp only[h1,show(Value.type "dict" == Value.type "list")=false by decide,show(Value.type "dict" == Value.type "tuple")=false by decide,Bool.or_false,zk,ZI];refine zb (wpAny_pyIter_dict hd hm ?_);refine zb (qo ?_);have hm2:=hm.at' (h':=s.heap.push { cls:=.type "dict_keyiterator", data:=.fields #[.ref d,.int 0 0,.int kvs.length 0,.int ep 0] }) λo e=>zd _ e;unfold Builtin.List.listLengthHint;refine zb (wpAny_specialOf (T := "dict") hm2.dictOf.typeIs F.slot_dict_len.lookup ?_)
 wp_delta
 refine zb (JE (T := "dict") (b:=true) hm2.dictOf.typeIs (by rw[isSubtype_type];kernel_rfl) ?_);show wpAny _ A.in1 (typeOf (Value.ref d) >>= _) _ _ _;refine zb (QQ (T := "dict") hm2.dictOf.typeIs (ze ?_));rw[zi (by decide)];show wpAny _ A.in1 (Builtin.List.listTouch (Value.ref S) >>= λ_=>again (Code.builtin "list.extend.loop" ⟨[Value.ref S,Value.ref s.heap.objs.size,res],[]⟩)) _ _ _;generalize hG:s.heap.push { cls:=.type "dict_keyiterator", data:=.fields #[.ref d,.int 0 0,.int kvs.length 0,.int ep 0] }=G at hm2 ⊢;have hS:G.get? S=some { cls:=.type "list", data:=.seq #[] c₀ }:=by
  rw[<-hG];exact zd _ hS0
 have hI:G.get? s.heap.objs.size=some { cls:=.type "dict_keyiterator", data:=.fields #[.ref d,.int 0 0,.int kvs.length 0,.int ep 0] }:=by
  rw[<-hG];exact zv _ rfl
 unfold Builtin.List.listTouch;refine zb (zb (listUpdate_at hS rfl (listUpdate_at (get?_update_seq hS _) rfl ?_ (by show _<=_;decide) (by show _<=_;decide)) (by show _<=_;decide) (by show _<=_;decide)));have hIS:s.heap.objs.size≠S:=kL hSlt;have hS3:=get?_update_seq (get?_update_seq hS (λx=>x.push Value.none)) (λx=>x.pop);generalize hU:(G.update S (Obj.mapSeq λx=>x.push Value.none)).update S (Obj.mapSeq λx=>x.pop)=U at hS3;have keep:∀ b,b≠S->U.get? b=G.get? b:=λb hb=>by rw[<-hU,j3 _ _ _ _ hb,j3 _ _ _ _ hb]
 have st0:U.IsKeyIter s.heap.objs.size d 0 kvs.length ep/\U.DictAt (bx prog w) d kvs ep:=⟨⟨_,(keep _ hIS).trans hI,rfl,rfl⟩,hm2.at' λo e=>(keep d hdS).trans e⟩;show wpAny _ A.in1 (again _) _ _ { s with heap:=U };have hSf:S∉[s.heap.objs.size,d]:=λh=>by
  simp only[ZZ,ZO,or_false] at h;rcases h with h|h
  ·exact hIS h.symm
  ·exact hdS h.symm
 refine ze ⟨plainId_quiet F.plain_extend_loop _,codeAny_extend_loopS (Walks.dictKeys (A:=A.in1) hh s.heap.objs.size d (zI hlt) kvs ep).toS hn S hSf _ kvs.length 0 { s with heap:=U } #[] _ rfl (QO _) st0 hS3 (ItemsOf.nil _) λs' acc' c' mv hS' hacc=>?_⟩;rw[Moved.eq_with mv];refine hR s'.heap s'.toks acc' c' (λb ob hb e=>?_) hS' hacc;have hb':=zw e;refine mv.heap b ob (λh=>?_) ((keep b hb).trans ?_)
 ·simp only[ZZ,ZO,or_false] at h;rcases h with h|h
  ·exact hb h
  ·exact zI hb' h
 ·rw[<-hG];exact zd _ e
theorem Dr {Q:VP_} {d:Addr} {kvs:List (Key×Value)} (hh:A.handled=none) (hd:(d==sysModules)=false) (hm:s.heap.DictAt (bx prog w) d kvs ep) (hn:kvs.length<=sizeLine) (hQ:∀ h' tk acc' c',(∀ b o,s.heap.get? b=some o->h'.get? b=some o) →
   h'.get? s.heap.objs.size=some { cls:=.type "list", dict:=none,data:=.seq acc' c',slots:=#[] }->ItemsOf (λi v=>∃ k x,kvs[i]?=some (k,x)/\(bx prog w).is k v=true) acc' kvs.length->Q (.ref s.heap.objs.size) { s with heap:=h',toks:=tk }) :
  wpAny (model prog w) A (call (.type "list") [.ref d]) Q E s:=by
 have hlt:d < s.heap.objs.size:=by obtain⟨o,_,ho,_⟩:=hm;exact zw ho
 refine callType_codes (Q₁:=λobj s₁=>obj=.ref s.heap.objs.size/\s₁={ s with heap:=s.heap.push { cls:=.type "list", data:=.seq #[] } }) F.called_list (F.typeCall_list_1 _) F.entry_list_init
  (code_list_new _ ⟨rfl,rfl⟩) λobj s₁ h₁=>?_
 obtain⟨rfl,rfl⟩:=h₁;have hS:(s.heap.push { cls:=.type "list", data:=.seq #[] }).get? s.heap.objs.size=some { cls:=.type "list", data:=.seq #[] }:=zv _ rfl;have hm1:=hm.at' (h':=s.heap.push { cls:=.type "list", data:=.seq #[] }) λo e=>zd _ e;refine⟨⟨_,hS,rfl⟩,F.args_list_init_2 _ _,?_⟩;generalize hH:s.heap.push { cls:=.type "list", data:=.seq #[] }=H at hS hm1 ⊢;show wpAny _ _ (do let old <-Builtin.List.listItems (.ref s.heap.objs.size);Builtin.List.listUpdate (.ref s.heap.objs.size) (λ_=>#[]);letGo old.toList.reverse;Builtin.List.listExtendWith (.ref s.heap.objs.size) (.ref d) .none) _ _ { s with heap:=H };refine zb ?_;unfold Builtin.List.listItems;refine zb (wpAny_seqItems hS rfl (ze ?_));show wpAny _ _ (updateSeq s.heap.objs.size (λ_=>#[]) >>= λ_=>letGo (#[]:Array Value).toList.reverse >>= λ_=>Builtin.List.listExtendWith (.ref s.heap.objs.size) (.ref d) .none) _ _ _;refine zb (wpAny_updateSeq hS rfl ?_);have hS₂:=QI (Obj.mapSeq (λ_=>(#[]:Array Value))) hS rfl;have oth:∀ b o,b≠s.heap.objs.size->H.get? b=some o->(H.update s.heap.objs.size (Obj.mapSeq (λ_=>(#[]:Array Value)))).get? b=some o:=
  λb o hb e=>(Q2 _ _ (km hb)).trans e
 refine zb (wpAny_letGo ?_);refine Nj (A:=A.in1) hh hd (hm1.at' λo e=>oth d o (zI hlt) e) hn s.heap.objs.size (zI hlt) .none _ hS₂ λh' tk acc' c' hk hS' hacc=>?_;exact⟨rfl,hQ h' tk acc' c' (λb o e=>hk b o (zI (zw e)) (oth b o (zI (zw e)) (by rw[<-hH];exact zd _ e))) hS' hacc⟩
theorem aeO {P:Nat->Value->Prop} (val:Nat->Str) (hval:∀ i v,P i v->∃ t,v=.str (val i) t):CmpOf prog w A .Lt P (λi j=>decide ((val i).cps.toList < (val j).cps.toList)):=λi j vi vj s Q E hi hj h=>by
 obtain⟨t,rfl⟩:=hval i vi hi;obtain⟨u,rfl⟩:=hval j vj hj;exact richCompare_gives (op:=.Lt) (typeIs_str s _ t) (typeIs_str s _ u) F.slot_str_lt F.entry_str_lt (F.args_str_lt_2 _ _) (gives_str_lt _ _ t u) (λx=>nomatch x) h
theorem cmp_gt {P:Nat->Value->Prop} (val:Nat->Str) (hval:∀ i v,P i v->∃ t,v=.str (val i) t):CmpOf prog w A .Gt P (λi j=>decide ((val j).cps.toList < (val i).cps.toList)):=λi j vi vj s Q E hi hj h=>by
 obtain⟨t,rfl⟩:=hval i vi hi;obtain⟨u,rfl⟩:=hval j vj hj;exact richCompare_gives (op:=.Gt) (typeIs_str s _ t) (typeIs_str s _ u) F.slot_str_gt F.entry_str_gt (F.args_str_gt_2 _ _) (gives_str_gt _ _ t u) (λx=>nomatch x) h
def two (a b:Str) (i:Nat):Str:=if i=0 then a else b
theorem Yt {a b:Str} {t u:Tok} (i:Nat) (v:Value) (h:(#[Value.str a t,Value.str b u])[i]?=some v):∃ t',v=.str (two a b i) t':=by
 match i,h with
 |0,h=>cases h;exact⟨t,rfl⟩
 |1,h=>cases h;exact⟨u,rfl⟩
 |_+2,h=>simp at h
theorem Nk {a b:Str} {t u:Tok} {Q:VP_} {bt:Nat->Nat->Bool} (hh:A.handled=none) (hc:CmpOf prog w A.in1 op (λi v=>(#[Value.str a t,Value.str b u])[i]?=some v) bt) (h:∀ h' tk,(∀ c o,s.heap.get? c=some o->h'.get? c=some o)->Q (if bt 1 0=true then .str b u else .str a t) { s with heap:=h',toks:=tk }) :
  wpAny (model prog w) A.in1 (pyIter (.ref s.heap.objs.size)) (λit s₂=>∃ I fp wr n P St bt,it=.ref I/\Walks prog w A.in1 I fp wr n P St/\St 0 s₂.heap/\(∀ b∈fp,b < s₂.heap.objs.size)/\0 < n/\CmpOf prog w A.in1 op P bt ∧
   ∀ v h' tk,P (argBest bt (n - 1)) v->(∀ b o,b∉wr->s₂.heap.get? b=some o->h'.get? b=some o)->Q v { s₂ with heap:=h',toks:=tk }) E
   { s with heap:=s.heap.push { cls:=.type "tuple", data:=.seq #[.str a t,.str b u] } }:=by
 have hT:(s.heap.push { cls:=.type "tuple", data:=.seq #[.str a t,.str b u] }).IsTuple s.heap.objs.size #[.str a t,.str b u]:=⟨_,zv _ rfl,rfl,0,rfl⟩;refine wpAny_pyIter_tuple hT ?_;have hsz:(s.heap.push { cls:=.type "tuple", data:=.seq #[.str a t,.str b u] }).objs.size=s.heap.objs.size+1:=qk ..;refine⟨_,[_,s.heap.objs.size],[_],_,_,_,bt,rfl,Walks.tuple (A:=A.in1) hh _ s.heap.objs.size (by rw[hsz];exact zI (qv _)) #[.str a t,.str b u],
  ⟨⟨_,zv _ rfl,rfl,rfl⟩,hT.push _⟩,λc hc=>?_,by simp,hc,λv h' tk hP hk=>?_⟩
 ·show c < ((s.heap.push _).push _).objs.size;rw[qk,hsz];rcases List.mem_cons.mp hc with rfl|hc
  ·rw[hsz];exact qv _
  ·rcases List.mem_cons.mp hc with rfl|hc
   ·exact qq (qv _)
   ·cases hc
 ·have hold:∀ c o,s.heap.get? c=some o->h'.get? c=some o:=λc o e=>by
   refine hk c o (λhm=>?_) (zd _ (zd _ e));rcases List.mem_cons.mp hm with e1|hm
   ·have:=zw e;rw[e1,hsz] at this;exact JA _ (Nat.lt_of_succ_lt this)
   ·cases hm
  have:=h h' tk hold;have hv:v=if bt 1 0=true then Value.str b u else Value.str a t:=by
   have hP':(#[Value.str a t,Value.str b u])[argBest bt 1]?=some v:=hP;unfold argBest argBest at hP';by_cases hba:bt 1 0=true
   ·rw[zi hba] at hP' ⊢;exact(by simpa using hP'.symm)
   ·rw[zC hba] at hP' ⊢;exact(by simpa using hP'.symm)
  rw[hv];exact this
def uh:List Bx->Option Bx
 |[.z (.str a),.z (.str b)]=>some (.z (.str (if Vz b a=true then b else a)))
 |_=>none
where Vz (x y:Str):Bool:=decide (x.cps.toList < y.cps.toList)
def Np:List Bx->Option Bx
 |[.z (.str a),.z (.str b)]=>some (.z (.str (if uh.Vz a b=true then b else a)))
 |_=>none
theorem Tg (hc:X.calm=true):mH X (.builtin "min") uh:=by
 intro pins s σ H xs us Q I r h;obtain⟨bs,c,rb,e,q⟩:=h;unfold uh at e;split at e
 ·rename_i a b;cases e;obtain⟨v,w,rfl,r1,r2⟩:=Sv rb;obtain⟨rfl,h1⟩:=Px r1;obtain⟨rfl,h2⟩:=Px r2;obtain⟨u,u',rfl,ru,ru'⟩:=Vals.two r;obtain⟨t,rfl⟩:=ru;obtain⟨t',rfl⟩:=ru';refine call_min_two (Nk (I.ok.hd hc) (aeO (two a b) Yt) λh' tk kp=>?_);show EP X pins σ Q (if uh.Vz b a=true then _ else _) _;by_cases hb:uh.Vz b a=true
  ·rw[zi hb] at q ⊢;exact⟨.str b,H,I.kept kp,⟨_,rfl⟩,q _ H (Same.refl H) trivial r2⟩
  ·rw[zC hb] at q ⊢;exact⟨.str a,H,I.kept kp,⟨_,rfl⟩,q _ H (Same.refl H) trivial r1⟩
 ·cases e
theorem abA (hc:X.calm=true):mH X (.builtin "max") Np:=by
 intro pins s σ H xs us Q I r h;obtain⟨bs,c,rb,e,q⟩:=h;unfold Np at e;split at e
 ·rename_i a b;cases e;obtain⟨v,w,rfl,r1,r2⟩:=Sv rb;obtain⟨rfl,h1⟩:=Px r1;obtain⟨rfl,h2⟩:=Px r2;obtain⟨u,u',rfl,ru,ru'⟩:=Vals.two r;obtain⟨t,rfl⟩:=ru;obtain⟨t',rfl⟩:=ru';refine call_max_two (Nk (I.ok.hd hc) (cmp_gt (two a b) Yt) λh' tk kp=>?_);show EP X pins σ Q (if uh.Vz a b=true then _ else _) _;by_cases hb:uh.Vz a b=true
  ·rw[zi hb] at q ⊢;exact⟨.str b,H,I.kept kp,⟨_,rfl⟩,q _ H (Same.refl H) trivial r2⟩
  ·rw[zC hb] at q ⊢;exact⟨.str a,H,I.kept kp,⟨_,rfl⟩,q _ H (Same.refl H) trivial r1⟩
 ·cases e
def Ds:List Bx->Option Bx
 |[.n kvs]=>(Ve kvs).bind λys=>some (.o (ys.map Dt.str))
 |_=>none
theorem Yu (hc:X.calm=true):mH X (.type "list") Ds:=by
 intro pins s σ H xs us Q I r h;obtain⟨bs,c,rb,e,q⟩:=h;unfold Ds at e;split at e
 ·rename_i kvs;obtain⟨ys,ey,e⟩:=bind_some e;cases e;have hlen:kvs.length=ys.length:=by have:=congrArg List.length (uO ey);simpa using this
  obtain⟨v,rfl,r1⟩:=rep1 rb;obtain⟨a,ks,rfl,rd,rm⟩:=r1;obtain⟨u,rfl,ru⟩:=vals1 r;cases ru;obtain⟨hz,hsys,vs,kv,o,es,ep,dd⟩:=tB I.hok rd;have hk:vs.map (·.1)=ys.map Sum.inr:=by rw[Sx kv,rm.1];exact uO ey
  have hl:ks.length=vs.length:=kv.length;refine Dr (I.ok.hd hc) hsys ⟨o,es,dd⟩ (by omega) λh' tk acc c' ext en hit=>?_;have z1:=Qv hk hit;have hy:∀ y∈ys,y.length<=sizeLine:=aa6 ey rm.2.2;have hfr:=I.hok.fresh (zg s.heap.objs.size);refine⟨.ref s.heap.objs.size,_,I.laid (t':=tk) (a:=s.heap.objs.size) (o:=.lst (ys.map V.str)) ext (zg _) ?_,rfl,q _ _ (bJ hfr) (λa ea=>by cases ea;exact hfr) ⟨_,_,rfl,bf,CV hy⟩⟩;refine⟨by rw[zl,<-hlen,<-rm.len];exact hz,acc.toList,c',yX z1,?_⟩;rw[en]
 ·cases e
def hole (H:Hp) (a:Addr):Hp:=λb=>if b=a then none else H b
theorem Ti {b:Addr} (h:b≠a):hole H a b=H b:=zC h
theorem Tj:hole H a a=none:=zi rfl
def isZ:Bx->Bool
 |.z _=>true
 |_=>false
def spM (K:FG_) (n:Nat) (G:Addr->List (Key×Dt)->List Bx->Option (List (Key×Dt))):Sp:=λvs H Q _=>vs.length=n+1/\∃ a ks kvs rest bs kvs',vs=.ref a::rest/\H a=some (.dK ks)/\fK K H kvs ks/\ql K H bs rest/\bs.all isZ=true/\G a kvs bs=some kvs'/\∀ H' ks',Same (hole H a) H'->H' a=some (.dK ks')->fK K H' kvs' ks'->Q .non H'
def Nq (n:Nat) (g:Ev->Option Out):Addr->List (Key×Dt)->List Bx->Option (List (Key×Dt)):=λa kvs bs=>(g ((Bx.m kvs (some a)::bs).map some++List.replicate (n - (bs.length+1)) none)).bind λr=>match r with
 |.nx ρ=>match ρ[0]? with
  |some (some (Bx.m kvs' (some b)))=>if b=a then some kvs' else none
  |_=>none
 |_=>none
theorem QX {kvs':List (Key×Dt)} {bs:List Bx} (h:Nq n g a kvs bs=some kvs'):∃ ρ,g ((Bx.m kvs (some a)::bs).map some++List.replicate (n - (bs.length+1)) none)=some (.nx ρ)/\ρ[0]?=some (some (.m kvs' (some a))):=by
 obtain⟨r,er,h⟩:=bind_some h;cases r with
 |nx ρ=>
  dsimp only at h;split at h
  ·rename_i k b e;split at h
   ·rename_i hb;cases h;subst hb;exact⟨ρ,er,e⟩
   ·cases h
  ·cases h
 |rt _=>cases h
 |bk _=>cases h
 |ct _=>cases h
theorem Du {α β:Type} {R:α->β->Prop}:∀ {xs:List α} {ys:List β},Paired R xs ys->∀ {i:Nat} {x:α},xs[i]?=some x->∃ y,ys[i]?=some y/\R x y
 |_,_,.nil,i,x,q=>by simp at q
 |_,_,.cons r _,0,x,q=>by simp at q;subst q;exact⟨_,rfl,r⟩
 |_,_,.cons _ t,i+1,x,q=>by
  rw[ZT] at q;obtain⟨y,y1,y2⟩:=Du t q;exact⟨y,by rw[ZT];exact y1,y2⟩
theorem bL.startM {bs:List Bx} {rest:List V} {ks:List (Key×V)} (ha:H a=some (.dK ks)) (rm:fK K H kvs ks) (r:ql K H bs rest) (hz:bs.all isZ=true):bL K (hole H a) H (L2.start N (.ref a::rest)) ((Bx.m kvs (some a)::bs).map some++List.replicate (N.length - (bs.length+1)) none):=by
 have hl:bs.length=rest.length:=Paired.length r;have r2:ql K H (.m kvs (some a)::bs) (.ref a::rest):=.cons ⟨a,ks,rfl,ha,rm,λb h=>by cases h;rfl⟩ r;have get:∀ (i:Nat) b,((Bx.m kvs (some a)::bs).map some++List.replicate (N.length - (bs.length+1)) none)[i]?=some (some b)->(Bx.m kvs (some a)::bs)[i]?=some b:=λi b e=>by
  by_cases hi:i < (Bx.m kvs (some a)::bs).length
  ·rw[ZN (by simpa using hi),Zl] at e;cases q:(Bx.m kvs (some a)::bs)[i]? with
   |none=>rw[q] at e;cases e
   |some b'=>rw[q] at e;simpa using e
  ·rw[qr (by simp at hi ⊢;omega),QN] at e;split at e<;>cases e
 have noz:∀ (i:Nat) b,((Bx.m kvs (some a)::bs).map some++List.replicate (N.length - (bs.length+1)) none)[i]?=some (some b)->i≠0->loose b=false:=λi b e hi=>by
  have e2:=get i b e;cases i with
  |zero=>exact absurd rfl hi
  |succ j=>
   rw[ZT] at e2;have:=List.all_eq_true.mp hz b (qE e2);cases b<;>first|rfl|cases this
 have ol:∀ c,sS c=true->loose c=true:=λc hc=>by cases c<;>first|rfl|cases hc
 have zero:∀ (i:Nat) c,((Bx.m kvs (some a)::bs).map some++List.replicate (N.length - (bs.length+1)) none)[i]?=some (some c)->loose c=true->i=0:=λi c e hc=>by
  by_cases hi:i=0
  ·exact hi
  ·rw[noz i c e hi] at hc;cases hc
 have st:∀ i v,(Value.ref a=Value.ref a)->(V.ref a::rest)[i]?=some v->(L2.start N (.ref a::rest))[i]?=some (some v):=λi v _ e=>by
  have hi:i < (V.ref a::rest).length:=(List.getElem?_eq_some_iff.mp e).1;unfold L2.start;rw[ZN (by simpa using hi),Zl,e];rfl
 refine⟨by unfold L2.start;simp[hl],λi b e=>?_,λi j c x b e1 ec _ e3 hb _=>?_,λb o e=>?_,λi c x e ec e2=>?_⟩
 ·obtain⟨v,e1,r1⟩:=Du r2 (get i b e);exact⟨v,st i v rfl e1,r1⟩
 ·rw[zero i c e1 (ol c ec),zero j b e3 hb]
 ·by_cases hb:b=a
  ·subst hb;rw[Tj] at e;cases e
  ·rw[Ti hb] at e;exact e
 ·have hi:=zero i c e (ol c ec);subst hi;rw[st 0 (.ref a) rfl rfl] at e2;cases e2;exact Tj
theorem aiX {f:Addr} {k m:Nat} (F:FN K x qual st f fd) (S:bw N ps (aG st)) (hn:N.length=n) (hm:ps.length=m+1) (hbody:∀ (cdv:Value) (A:Around) (outer:List Env) (s:Shared) (H:Hp) (E:XK),g8 k (A.deeper (envOfC qual (aG st) s.heap.objs.size f cdv))->Wi (sO Cd P w K mg base N qual (aG st) f cdv A outer s H E).Wu (fP st) g) :
  lB P w K mg base Cd (k+1) f fd ps (spM K m (Nq n g)):=by
 subst hn;refine F.ok S (λvs H Q E h=>by rw[hm];exact h.1) λcdv A outer s H vs Q E hr h=>?_;obtain⟨hl,a,ks,kvs,rest,bs,kvs',rfl,ha,rm,rb,hz,e,q⟩:=h;refine⟨_,(hbody cdv A outer s H E hr).run,?_⟩;obtain⟨ρ,er,e0⟩:=QX e;refine⟨hole H a,_,_,bL.startM ha rm rb hz,er,?_⟩;intro σ' H' E';obtain⟨v,ev,b,ks',rfl,hb,rm',tie⟩:=E'.val 0 _ e0;have:=tie a rfl;subst this;exact q H' ks' E'.base hb rm'
open Classical in
noncomputable def Dv (i n:Nat) (G:Addr->List (Key×Dt)->List Bx->Option (List (Key×Dt))) (fs:Ev->Option (List Bx)):Ev->Option Out:=λρ=>match ρ[i]? with
 |some (some (.m kvs w))=>(fs ρ).bind λbs=>if h:bs.length=n/\bs.all isZ=true/\∃ kvs',∀ a,G a kvs bs=some kvs' then some (.nx (ρ.set i (some (.m (Classical.choose h.2.2) w)))) else none
 |_=>none
theorem QZ {fs:Ev->Option (List Bx)} {r:Out} (h:Dv i n G fs ρ=some r):∃ kvs w bs kvs',ρ[i]?=some (some (.m kvs w))/\fs ρ=some bs/\bs.length=n/\bs.all isZ=true/\(∀ a,G a kvs bs=some kvs')/\r=.nx (ρ.set i (some (.m kvs' w))):=by
 unfold Dv at h;split at h
 ·rename_i kvs w e;obtain⟨bs,eb,h⟩:=bind_some h;split at h
  ·rename_i hh;cases h;exact⟨kvs,w,bs,_,e,eb,hh.1,hh.2.1,Classical.choose_spec hh.2.2,rfl⟩
  ·cases h
 ·cases h
theorem Yv {fs:Ev->Option (List Bx)} {kvs':List (Key×Dt)} {w:Option Addr} {bs:List Bx} (e:ρ[i]?=some (some (.m kvs w))) (eb:fs ρ=some bs) (hl:bs.length=n) (hz:bs.all isZ=true) (hG:∀ a,G a kvs bs=some kvs'):Dv i n G fs ρ=some (.nx (ρ.set i (some (.m kvs' w)))):=by
 unfold Dv;rw[e];simp only[eb,aiZ];have hh:bs.length=n/\bs.all isZ=true/\∃ kvs',∀ a,G a kvs bs=some kvs':=⟨hl,hz,kvs',hG⟩;rw[dif_pos hh];have:=Classical.choose_spec hh.2.2 0;rw[hG 0] at this;injection this with this;rw[<-this]
where aiZ {α β:Type} (a:α) (f:α->Option β):(some a).bind f=f a:=rfl
theorem bL.agW {H':Hp} {kvs':List (Key×Dt)} {w:Option Addr} {ks ks':List (Key×V)} (E:bL K H0 H σ ρ) (h:ρ[i]?=some (some (.m kvs w))) (hs:σ[i]?=some (some (.ref a))) (ha:H a=some (.dK ks)) (sm:Same (hole H a) H') (ha':H' a=some (.dK ks')) (rm:fK K H' kvs' ks') (tie:∀ b,w=some b->b=a) :
  bL K H0 H' σ (ρ.set i (some (.m kvs' w))):=by
 have hi:i < ρ.length:=(List.getElem?_eq_some_iff.mp h).1;have hb:H0 a=none:=E.new i _ a h rfl hs;have sn:∀ b u,b≠a->H b=some u->H' b=some u:=λb u hne e=>sm b u (by rw[Ti hne];exact e);have kp:Kp H H':=⟨λb xs e=>sn b _ (iW e ha (by intro z;cases z)) e,λb ob u e=>sn b _ (iW e ha (by intro z;cases z)) e⟩;refine⟨by rw[JY];exact E.len,λj b' e=>?_,λj k' c a' b' e1 ec e2 e3 e4 e5=>?_,λc o e=>?_,λj c a' e1 ec e2=>?_⟩
 ·rcases getset e with⟨rfl,e',_⟩|⟨hne,e'⟩
  ·cases e';exact⟨_,hs,a,ks',rfl,ha',rm,tie⟩
  ·obtain⟨v,e1,r'⟩:=E.val j b' e';refine⟨v,e1,?_⟩;have away:∀ a',v=.ref a'->loose b'=true->a'≠a:=λa' ev hl z=>by
    subst z;exact hne (E.own i j _ _ _ h rfl hs e' hl (by rw[e1,ev])).symm
   cases b' with
   |z d=>exact Rep.kp kp r'
   |l ds'=>
    obtain⟨a',vs',rfl,q,rr⟩:=r';have hn:=away a' rfl rfl;exact⟨a',vs',rfl,q.imp (sn _ _ hn) λ⟨o,q⟩=>⟨o,sn _ _ hn q⟩,rr.kp kp⟩
   |o ds'=>
    obtain⟨a',vs',rfl,q,rr⟩:=r';exact⟨a',vs',rfl,sn _ _ (away a' rfl rfl) q,rr.kp kp⟩
   |n ds'=>
    obtain⟨a',vs',rfl,q,rr⟩:=r';have hn:=away a' rfl rfl;exact⟨a',vs',rfl,q.imp (sn _ _ hn) λ⟨o,q⟩=>⟨o,sn _ _ hn q⟩,rr.kp kp⟩
   |m ds' _=>
    obtain⟨a',vs',rfl,q,rr,tt⟩:=r';exact⟨a',vs',rfl,sn _ _ (away a' rfl rfl) q,rr.kp kp,tt⟩
 ·have back:∀ {j:Nat} {c:Bx},(ρ.set i (some (.m kvs' w)))[j]?=some (some c)->∃ c',ρ[j]?=some (some c')/\(sS c=true->sS c'=true)/\(loose c=true->loose c'=true):=λ{j c} e=>by
   rcases getset e with⟨rfl,e',_⟩|⟨_,e'⟩
   ·exact⟨_,h,λ_=>rfl,λ_=>rfl⟩
   ·exact⟨c,e',id,id⟩
  obtain⟨c',p1,p2,_⟩:=back e1;obtain⟨b2,q1,_,q3⟩:=back e3;exact E.own j k' c' a' b2 p1 (p2 ec) e2 q1 (q3 e4) e5
 ·have e2:=E.base c o e;exact sn c o (λz=>by subst z;rw[hb] at e;cases e) e2
 ·rcases getset e1 with⟨rfl,e',_⟩|⟨_,e'⟩
  ·exact E.new _ _ a' h rfl e2
  ·exact E.new j c a' e' ec e2
section
variable {fs:Ev->Option (List Bx)} {p px spos:Pos} {y:Str} {k:Nat} {f:Addr}
theorem abB (i:Nat) (F:lB X.prog X.w X.K X.mg X.base Cd k f fd ps (spM X.K n G)) (hr:g8 k X.A) (hg:Gl X x) (hm:X.mg x=some (.ref f)) (hk:keepIn X.K (.ref f)=true) (hb:Binds X.K fd ps [])
  (ha:UW X es fs) (hN:X.N[i]?=some y:=by rfl) (hv:Z2 X.env.scope y:=by first|exact kR rfl|exact JP (kR rfl)|exact JP (JP rfl)) (hd:(y==("__debug__" : Str))=false:=by decide)
  (hcd:(y==("__classdict__" : Str))=false:=by decide) (hdb:(x==("__debug__" : Str))=false:=by decide) (he:starEach (.Name y px::es) X.env=(false,eval (.Name y px) X.env)::starEach es X.env:=by rfl) (hpl:(backTo pos (starEach es X.env)).any (·.1)=false:=by rfl) (hs:swapsWith (.Call (.Name x p) (.Name y px::es) [] pos) none spos.line X.env=pure false:=by rfl) :
  Qh X (.Expr (.Call (.Name x p) (.Name y px::es) [] pos) spos) (Dv i n G fs):=⟨R6 (Ja (Jc F hr hg hm hk hb .nil acO (aY (vR (i:=i) hN hv hd hcd) ha.run he) hdb he hpl) hs) λD σ H h=>by
 obtain⟨H0,ρ,r,E,e,q⟩:=h;obtain⟨kvs,w,bs,kvs',hρ,eb,hl,hz,hG,rfl⟩:=QZ e;obtain⟨v,e1,a,ks,rfl,haa,rm,tie⟩:=E.val i _ hρ;refine⟨_,e1,H0,ρ,bs,E,eb,λvs H1 s1 r1=>?_⟩;have ha1:=s1 _ _ haa;refine⟨by simp only[QY,QE];rw[<-Paired.length r1,hl],a,ks,kvs,vs,bs,kvs',by simp,ha1,rm.kp (.of s1),r1,hz,hG a,λH' ks' sm hk' rm'=>?_⟩;exact q σ H' ((E.grow s1).agW hρ e1 ha1 sm hk' rm' tie)⟩
end
def isT:Option Bool->Bool
 |some true=>true
 |_=>false
def VB (x:Dt) (ys:List Dt):Option Bool:=if(ys.all λy=>(xg y x).isSome&&decide (min (uM y) (uM x)<=60))=true then some (ys.any λy=>isT (xg y x)) else none
def inX (a b:Bx):Option Bx:=match a with
 |.z d=>(qT b).bind λys=>(VB d ys).bind λk=>some (.z (.bl k))
 |_=>none
def Gk (a b:Bx):Option Bx:=match a with
 |.z d=>(qT b).bind λys=>(VB d ys).bind λk=>some (.z (.bl (!k)))
 |_=>none
theorem Yw (I:L2.Inv X pins σ H s) (hu:X.A.units+100 < cLine) {x:V} (rx:Rep X.K H d x) (ru:RelV x u) {ys:List Dt} (rs:aO X.K H ys vs) (rv:Vals vs its) {k:Bool} (hk:VB d ys=some k) :
  ∃ e:Value->Bool,(∀ y,y∈its->SeqAt.EqAt X.A.in1 s y u (e y))/\its.any e=k:=by
 unfold VB at hk;split at hk
 ·rename_i hall;injection hk with hk;rw[qi] at hall;have at_:∀ (i:Nat) y,its[i]?=some y->∃ c,ys[i]?=some c/\SeqAt.EqAt X.A.in1 s y u (isT (xg c d)):=λi y hy=>by
   have hl:=rv.length;have hl2:=rs.length;have hi:i < its.length:=(List.getElem?_eq_some_iff.mp hy).1;have hi':i < ys.length:=by omega
   obtain⟨v,ev,r1⟩:=rs.get (show ys[i]?=some ys[i] by simp[hi']);obtain⟨y',ey,r2⟩:=rv.get ev;rw[hy] at ey;cases ey;refine⟨ys[i],by simp[hi'],?_⟩;have hc:=hall ys[i] (yB hi');rw[ZE] at hc;obtain⟨b,hb⟩:=Option.isSome_iff_exists.mp hc.1;have:=acU I 60 (A:=X.A.in1) (ka hc.2) (by rw[units_in1];omega) r1 rx r2 ru hb;rw[hb];cases b<;>exact this
  classical
  refine⟨λy=>decide (∃ (i:Nat) (c:Dt),its[i]?=some y/\ys[i]?=some c/\isT (xg c d)=true),λy hy=>?_,?_⟩
  ·dsimp only;by_cases q:∃ (i:Nat) (c:Dt),its[i]?=some y/\ys[i]?=some c/\isT (xg c d)=true
   ·rw[QA q];obtain⟨i,c,h1,h2,h3⟩:=q;obtain⟨c',e1,e2⟩:=at_ i y h1;rw[h2] at e1;cases e1;rw[h3] at e2;exact e2
   ·rw[qf q];obtain⟨i,hi,ei⟩:=Q3 hy;have h1:its[i]?=some y:=by rw[zS hi,ei]
    obtain⟨c,e1,e2⟩:=at_ i y h1;have:isT (xg c d)=false:=by
     cases hq:isT (xg c d) with
     |false=>rfl
     |true=>exact absurd ⟨i,c,h1,e1,hq⟩ q
    rw[this] at e2;exact e2
  ·rw[<-hk,KS,ki,ki];constructor
   ·rintro⟨y,hy,h⟩;obtain⟨i,c,h1,h2,h3⟩:=ka h;exact⟨c,qE h2,h3⟩
   ·rintro⟨c,hc,h3⟩;obtain⟨i,hi,ei⟩:=Q3 hc;have hl:=rv.length;have hl2:=rs.length;have hi':i < its.length:=by omega
    exact⟨its[i],yB hi',QA ⟨i,c,by simp[hi'],by rw[zS hi,ei],h3⟩⟩
 ·cases hk
theorem Bo (hu:X.A.units+100 < cLine):Hi X (compareOp .NotIn) Gk:=by
 intro pins s σ H x y v u Q I rx ry h;obtain⟨a,b,c,ra,rb,e,q⟩:=h;unfold Gk at e;split at e
 ·rename_i d;obtain⟨ys,ey,e⟩:=bind_some e;obtain⟨k,ek,e⟩:=bind_some e;cases e;obtain⟨p,vs,rfl,sq,rs⟩:=JD rb ey;cases ry;rcases sq with sq|sq
  ·obtain⟨its,r',pl,hz⟩:=I.list sq;obtain⟨f,f1,f2⟩:=Yw I hu ra rx rs r' ek;refine SeqAt.notIn_listAt f pl.isList (λw hw=>f1 w (by simpa using hw)) ⟨.bl (!k),H,I,by rw[show its.toArray.any f=its.any f by simp,f2];rfl,q _ H (Same.refl H) trivial (by simp only[bA,Rep])⟩
  ·obtain⟨its,r',pl,hz⟩:=I.tuple sq;obtain⟨f,f1,f2⟩:=Yw I hu ra rx rs r' ek;refine SeqAt.notIn_tupleAt f pl (λw hw=>f1 w (by simpa using hw)) ⟨.bl (!k),H,I,by rw[show its.toArray.any f=its.any f by simp,f2];rfl,q _ H (Same.refl H) trivial (by simp only[bA,Rep])⟩
 ·cases e
section
variable {st:List Stmt}
end
open AutoSeq1 (wpAny_loadPart')
open SeqAt
section
variable {o:Expr} {fx:Ev->Option Bx}
end
section
variable {t:Ev->Option Bool}
end
section
variable {h':Heap}
end
section
variable {elts:List Expr} {x1:Nat} {tpos p:Pos} {fs:Ev->Option (List Bx)}
end
section
variable {ek ev:Expr}
def noG:Ev->Option Out:=λ_=>none
theorem abC:Qh X st noG:=⟨λD pins s σ H I q=>by
 obtain⟨H0,ρ,r,E,e,q⟩:=q;cases e⟩
def Tn (f:Ev->Option Bx):Ev->Option Out:=λρ=>(f ρ).bind λ_=>some (.nx ρ)
theorem abD (he:QV X e f) (hs:swapsWith e none pos.line X.env=pure false:=by rfl):Qh X (.Expr e pos) (Tn f):=⟨R6 (Ja he.run hs) λD σ H h=>by
 obtain⟨H0,ρ,r,E,e,q⟩:=h;obtain⟨b,eb,e⟩:=bind_some e;cases e;exact⟨H0,ρ,b,E,eb,λv H1 s1 n1 r1=>q _ _ (E.grow s1)⟩⟩
end
section
variable {st:Expr} {fs:Ev->Option Bx}
end
theorem ad {a b:Nat} (h:a≠b):@Ne Addr a b:=h
section
variable {K:Type} [DecidableEq K] {knd:KeyKind prog w K}
end
section
variable {ea eb:Expr} {p1 pos1 pos2:Pos}
end
theorem qX (xs:LS_) (is:List Nat) (clos:closureFor scope X.env=pure cl:=by with_unfolding_all rfl) (kind:scope.kind=.function:=by rfl) (cell:scope.names.all (λy=>decide (y.2≠.cell)||(cl.lookup y.1).isNone)=true:=by rfl) (names:scope.names.all (λy=>decide (y.2=.local->scope.names.lookup y.1=some .local))=true:=by decide +kernel) (sub:SubL X.env.cells cl:=by repeat (first|exact trivial|refine⟨rfl,?_⟩)) (has:(relabel scope X.env).names.all (λy=>!(y.2==.cell||y.2==.free)||(cl.lookup y.1).isSome||scope.names.contains (y.1,.cell))=true:=by rfl) (cap:Gb X scope cl xs is:=by repeat (first|exact aex|refine aa0 rfl (by first|exact .inl rfl|exact .inr rfl) (by first|exact .inl rfl|exact .inr rfl) ⟨_,rfl⟩ ?_)):pR X scope cl xs is:=aey clos kind cell names sub has cap
theorem jy {sc:Scope} (h1:sc.kind=.function:=by rfl) (h2:sc.isCoroutine=false:=by rfl) (h3:sc.isGenerator=false:=by rfl) (h4:N.Nodup:=by decide +kernel) (h5:N.take ps.length=ps:=by rfl) (h6:∀ x∈ps,sc.names.lookup x=some .local\/sc.names.lookup x=some .cell:=by decide +kernel) (h7:∀ y∈sc.names,y.2≠.free:=by decide +kernel):bw N ps sc:=⟨h1,h2,h3,h4,h5,h6,h7⟩
instance:Inhabited Dt:=⟨.non⟩
theorem bnd (a:α) (f:α->Option β):(some a).bind f=f a:=(kf a f).trans (Eq.refl _)
def hold:Option Prop->Prop
 |none=>True
 |some p=>p
def bh:Option Prop->Option Prop->Option Prop
 |none,q=>q
 |some p,none=>some p
 |some p,some q=>some (p/\q)
def Dw (c:Prop):Option Prop->Option Prop
 |none=>none
 |some p=>some (c->p)
theorem aC {p q:Option Prop} (h:hold (bh p q)):hold p/\hold q:=by
 cases p with
 |none=>exact⟨trivial,h⟩
 |some p=>cases q with
  |none=>exact⟨h,trivial⟩
  |some q=>exact h
theorem jF {c:Prop} {p:Option Prop} (h:hold (Dw c p)) (hc:c):hold p:=by
 cases p with
 |none=>trivial
 |some p=>exact h hc
structure R {α β:Type} (f:Ev->Option β) (ρ:Ev) (c:α->β) where
 v:α
 D:Option Prop
 ok:hold D->f ρ=some (c v)
abbrev zE (e:α->Dt):α->Bx:=λa=>.z (e a)
abbrev oE (e:α->Dt):List α->Bx:=λxs=>.o (xs.map e)
abbrev lE (e:α->Dt):List α->Bx:=λxs=>.l (xs.map e)
abbrev tE:Bool->Bool:=λb=>b
abbrev iE (e:α->Dt):List α->List Dt:=λxs=>xs.map e
abbrev eI:Int->Dt:=Dt.int
abbrev eB:Bool->Dt:=Dt.bl
abbrev eS:Str->Dt:=Dt.str
abbrev eD:Dt->Dt:=λd=>d
abbrev eN:Unit->Dt:=λ_=>.non
abbrev eL (e:α->Dt):List α->Dt:=λxs=>.lst (xs.map e)
abbrev eT (e:α->Dt):List α->Dt:=λxs=>.tup (xs.map e)
abbrev eO (e:α->Dt):Option α->Dt:=λo=>match o with|none=>.non|some a=>e a
abbrev eP1 (a:α->Dt):α->Dt:=λx=>.tup [a x]
abbrev eP2 (a:α->Dt) (b:β->Dt):α×β->Dt:=λx=>.tup [a x.1,b x.2]
abbrev eP3 (a:α->Dt) (b:β->Dt) (c:γ->Dt):α×β×γ->Dt:=λx=>.tup [a x.1,b x.2.1,c x.2.2]
abbrev eP4 (a:α->Dt) (b:β->Dt) (c:γ->Dt) (d:δ->Dt):α×β×γ×δ->Dt:=λx=>.tup [a x.1,b x.2.1,c x.2.2.1,d x.2.2.2]
structure RL {α:Type} (f:Ev->Option Bx) (ρ:Ev) (e:α->Dt) where
 v:List α
 D:Option Prop
 b:Bx
 lk:qj b=some (v.map e)
 ok:hold D->f ρ=some b
section
variable {fs:Ev->Option (List Bx)} {e:α->Dt} {e':β->Dt}
def iV (a:R f ρ (oE e)):RL f ρ e:=⟨a.v,a.D,_,rfl,a.ok⟩
def eG (a:R f ρ (lE e)):RL f ρ e:=⟨a.v,a.D,_,rfl,a.ok⟩
def Nr (a:R f ρ (zE (eL e))):RL f ρ e:=⟨a.v,a.D,_,rfl,a.ok⟩
def Lp (b:Bx) (ds:List Dt):Prop:=b=.z (.lst ds)\/b=.l ds
theorem Lp.Hh (h:Lp b ds):qj b=some ds:=by rcases h with rfl|rfl<;>rfl
theorem Lp.get {b:Bx} {ds:List Dt} {i:Nat} (h:Lp b ds) (hi:ρ[i]?=some (some b)):yL ρ i=some b:=by
 rcases h with rfl|rfl<;>(unfold yL;rw[hi])
theorem xW (h:qj b=some ds):Lp (P1.lend b) ds:=by
 cases b with
 |z d=>cases d<;>cases h;exact .inl rfl
 |l d=>cases h;exact .inr rfl
 |o d=>cases h;exact .inr rfl
 |n d=>cases h
 |m d _=>cases h
def au (i:Nat) (c:α->Bx) (a:α) (h:yL ρ i=some (c a)):R (gv i) ρ c:=⟨a,none,λ_=>h⟩
def ju (i:Nat) (e:α->Dt) (a:List α) (h:Lp b (a.map e)) (hi:ρ[i]?=some (some b)):RL (gv i) ρ e:=⟨a,none,b,h.Hh,λ_=>h.get hi⟩
def Dy (d:Dt) (e:α->Dt) (a:α) (h:d=e a):R (cB d) ρ (zE e):=⟨a,none,λ_=>by rw[h];rfl⟩
def cg (a:R f ρ (zE e)):R f ρ (zE eD):=⟨e a.v,a.D,a.ok⟩
def VD (a:R f ρ (oE e)):R (b1 qP f) ρ (zE (eL e)):=⟨a.v,a.D,λh=>by simp only[b1,a.ok h,bnd,qP]⟩
def fH (a:R f ρ (zE e)):R (b1 qP f) ρ (zE e):=⟨a.v,a.D,λh=>by simp only[b1,a.ok h,bnd,qP]⟩
def eF (a:R fa ρ (zE eI)) (b:R fb ρ (zE eI)):R (b2 dB fa fb) ρ (zE eI):=⟨a.v+b.v,bh a.D b.D,λh=>by
 obtain⟨h1,h2⟩:=aC h;simp only[b2,a.ok h1,b.ok h2,bnd,dB]⟩
def Dz (a:R fa ρ (zE eI)) (b:R fb ρ (zE eI)):R (b2 subB fa fb) ρ (zE eI):=⟨a.v - b.v,bh a.D b.D,λh=>by
 obtain⟨h1,h2⟩:=aC h;simp only[b2,a.ok h1,b.ok h2,bnd,i2]⟩
def Mul (a b:Int):Prop:=(-18446744073709551616 < a/\a < 18446744073709551616)\/(-18446744073709551616 < b/\b < 18446744073709551616)
def Yx (a:R fa ρ (zE eI)) (b:R fb ρ (zE eI)):R (b2 tO fa fb) ρ (zE eI):=⟨a.v * b.v,bh (bh a.D b.D) (some (Mul a.v b.v)),λh=>by
 obtain⟨h,h3⟩:=aC h;obtain⟨h1,h2⟩:=aC h;simp only[b2,a.ok h1,b.ok h2,bnd];exact zi h3⟩
def JR (n:Int) (hn : -18446744073709551616 < n/\n < 18446744073709551616) (b:R fb ρ (zE eI)):R (b2 tO (cB (.int n)) fb) ρ (zE eI):=⟨n * b.v,b.D,λh=>by
 simp only[b2,b.ok h,bnd,cB];exact zi (.inl hn)⟩
def Tp (a:R fa ρ (zE eI)) (n:Int) (hn : -18446744073709551616 < n/\n < 18446744073709551616):R (b2 tO fa (cB (.int n))) ρ (zE eI):=⟨a.v * n,a.D,λh=>by
 simp only[b2,a.ok h,bnd,cB];exact zi (.inr hn)⟩
def qY (a:R fa ρ (zE eI)) (n:Int) (hn:0 < n/\n < 1073741824):R (b2 xu fa (cB (.int n))) ρ (zE eI):=⟨a.v / n,a.D,λh=>by
 simp only[b2,a.ok h,bnd,i2,cB,zi hn]⟩
def DG (a:R fa ρ (zE eI)) (b:R fb ρ (zE eI)):R (b2 fM fa fb) ρ (zE eI):=⟨a.v % b.v,bh (bh a.D b.D) (some (0 < b.v)),λh=>by
 obtain⟨h,h3⟩:=aC h;obtain⟨h1,h2⟩:=aC h;have h3:0 < b.v:=h3;simp only[b2,a.ok h1,b.ok h2,bnd,i2,zi h3]⟩
def cT (a:R fa ρ (zE eI)) (n:Int) (hn:0 < n):R (b2 fM fa (cB (.int n))) ρ (zE eI):=⟨a.v % n,a.D,λh=>by
 simp only[b2,a.ok h,bnd,i2,cB,zi hn]⟩
def aeQ (a b:Int) (n:Nat) (h:0<=b/\b<=1000/\a.natAbs < 18446744073709551616) (hb:b.toNat=n):R (b2 aem (cB (.int a)) (cB (.int b))) ρ (zE eI):=⟨a ^ n,none,λ_=>by
 simp only[b2,bnd,cB];show((if 0<=b/\b<=1000/\a.natAbs < 2 ^ 64 then some (Dt.int (a ^ b.toNat)) else none).bind λd=>some (Bx.z d))=_;rw[zi h,hb];rfl⟩
def abG (a:R fa ρ (zE eI)) (b:R fb ρ (zE eI)):R (b2 leB fa fb) ρ (zE eB):=⟨decide (a.v<=b.v),bh a.D b.D,λh=>by
 obtain⟨h1,h2⟩:=aC h;simp only[b2,a.ok h1,b.ok h2,bnd,i2]⟩
def ai1 (a:R fa ρ (zE eI)) (b:R fb ρ (zE eI)):R (b2 gtB fa fb) ρ (zE eB):=⟨decide (b.v < a.v),bh a.D b.D,λh=>by
 obtain⟨h1,h2⟩:=aC h;simp only[b2,a.ok h1,b.ok h2,bnd,i2]⟩
def x_ge (a:R fa ρ (zE eI)) (b:R fb ρ (zE eI)):R (b2 geB fa fb) ρ (zE eB):=⟨decide (b.v<=a.v),bh a.D b.D,λh=>by
 obtain⟨h1,h2⟩:=aC h;simp only[b2,a.ok h1,b.ok h2,bnd,i2]⟩
def ac2 (a:R fa ρ (zE eI)) (b:R fb ρ (zE eI)):R (b2 ltA fa fb) ρ (zE eB):=⟨decide (a.v < b.v),bh a.D b.D,λh=>by
 obtain⟨h1,h2⟩:=aC h;simp only[b2,a.ok h1,b.ok h2,bnd,ltA]⟩
def qK (x y:Str):Bool:=decide (x.cps.toList < y.cps.toList)
def agX (a:R fa ρ (zE eS)) (b:R fb ρ (zE eS)):R (b2 ltA fa fb) ρ (zE eB):=⟨qK a.v b.v,bh a.D b.D,λh=>by
 obtain⟨h1,h2⟩:=aC h;simp only[b2,a.ok h1,b.ok h2,bnd,ltA,qK]⟩
end
class Eqs {α:Type} [DecidableEq α] (e:α->Dt) (n:outParam Nat):Prop where
 eq:∀ a b,xg (e a) (e b)=some (decide (a=b))
 dp:∀ a,uM (e a)<=n
class Non {α:Type} (e:α->Dt):Prop where
 l:∀ a,xg .non (e a)=some false
 r:∀ a,xg (e a) .non=some false
instance:Eqs eI 1:=⟨λa b=>rfl,λa=>by simp[uM]⟩
instance:Eqs eB 1:=⟨λa b=>rfl,λa=>by simp[uM]⟩
instance:Eqs eS 1:=⟨λa b=>rfl,λa=>by simp[uM]⟩
instance:Non eI:=⟨λa=>rfl,λa=>rfl⟩
instance:Non eB:=⟨λa=>rfl,λa=>rfl⟩
instance:Non eS:=⟨λa=>rfl,λa=>rfl⟩
section
variable [DecidableEq α] [DecidableEq β] [DecidableEq γ] [DecidableEq δ] {e:α->Dt} {e':β->Dt} {e'':γ->Dt} {e3:δ->Dt} {m k l:Nat}
theorem DK [Eqs e n]:∀ xs ys:List α,jV (xs.map e) (ys.map e)=some (decide (xs=ys))
 |[],[]=>by simp[jV]
 |[],y::ys=>by simp[jV]
 |x::xs,[]=>by simp[jV]
 |x::xs,y::ys=>by
  simp only[zr,jV,Eqs.eq,DK xs ys];congr 1;by_cases h:x=y<;>by_cases h':xs=ys<;>simp[h,h']
theorem DN [Eqs e n]:∀ xs:List α,oJ (xs.map e)<=n
 |[]=>by simp[oJ]
 |x::xs=>by
  have:=Eqs.dp (e:=e) x;have:=DN xs;simp only[zr,oJ];omega
instance [Eqs e n]:Eqs (eL e) (n+1):=⟨λa b=>DK a b,λa=>by simp only[uM];have:=DN (e:=e) a;omega⟩
instance [Eqs e n]:Eqs (eT e) (n+1):=⟨λa b=>DK a b,λa=>by simp only[uM];have:=DN (e:=e) a;omega⟩
instance:Non (eL e):=⟨λa=>rfl,λa=>rfl⟩
instance:Non (eT e):=⟨λa=>rfl,λa=>rfl⟩
instance:Non (eP1 e):=⟨λa=>rfl,λa=>rfl⟩
instance:Non (eP2 e e'):=⟨λa=>rfl,λa=>rfl⟩
instance:Non (eP3 e e' e''):=⟨λa=>rfl,λa=>rfl⟩
instance:Non (eP4 e e' e'' e3):=⟨λa=>rfl,λa=>rfl⟩
instance [Eqs e n]:Eqs (eP1 e) (n+1):=⟨λa b=>by
 simp only[Bf,jV,Eqs.eq,KG],λa=>by
 have:=Eqs.dp (e:=e) a;simp only[uM,oJ];omega⟩
instance [Eqs e n] [Eqs e' m]:Eqs (eP2 e e') (max n m+1):=⟨λa b=>by
 obtain⟨a,a'⟩:=a;obtain⟨b,b'⟩:=b;simp only[Bf,jV,Eqs.eq,Prod.mk.injEq,Bool.decide_and,KG],λa=>by
 have:=Eqs.dp (e:=e) a.1;have:=Eqs.dp (e:=e') a.2;simp only[uM,oJ];omega⟩
instance [Eqs e n] [Eqs e' m] [Eqs e'' k]:Eqs (eP3 e e' e'') (max n (max m k)+1):=⟨λa b=>by
 obtain⟨a,a',a2⟩:=a;obtain⟨b,b',b2⟩:=b;simp only[Bf,jV,Eqs.eq,Prod.mk.injEq,Bool.decide_and,KG],λa=>by
 have:=Eqs.dp (e:=e) a.1;have:=Eqs.dp (e:=e') a.2.1;have:=Eqs.dp (e:=e'') a.2.2;simp only[uM,oJ];omega⟩
instance [Eqs e n] [Eqs e' m] [Eqs e'' k] [Eqs e3 l]:Eqs (eP4 e e' e'' e3) (max n (max m (max k l))+1):=⟨λa b=>by
 obtain⟨a,a',a2,a3⟩:=a;obtain⟨b,b',b2,b3⟩:=b;simp only[Bf,jV,Eqs.eq,Prod.mk.injEq,Bool.decide_and,KG],λa=>by
 have:=Eqs.dp (e:=e) a.1;have:=Eqs.dp (e:=e') a.2.1;have:=Eqs.dp (e:=e'') a.2.2.1;have:=Eqs.dp (e:=e3) a.2.2.2;simp only[uM,oJ];omega⟩
instance [Eqs e n] [Non e]:Eqs (eO e) (n+1):=⟨λa b=>by
 cases a with
 |none=>cases b with
  |none=>exact rfl
  |some b=>exact(Non.l (e:=e) b).trans (by simp)
 |some a=>cases b with
  |none=>exact(Non.r (e:=e) a).trans (by simp)
  |some b=>exact(Eqs.eq (e:=e) a b).trans (by simp),λa=>by
 cases a with
 |none=>show uM .non<=n+1;simp[uM]
 |some a=>exact Nat.le_succ_of_le (Eqs.dp (e:=e) a)⟩
end
section
variable {fs:Ev->Option (List Bx)} {e:α->Dt} {e':β->Dt}
def x_eq [DecidableEq α] [Eqs e n] (hn:n<=100) (a:R fa ρ (zE e)) (b:R fb ρ (zE e)):R (b2 eqB fa fb) ρ (zE eB):=⟨decide (a.v=b.v),bh a.D b.D,λh=>by
 obtain⟨h1,h2⟩:=aC h;have:=Eqs.dp (e:=e) a.v;simp only[b2,a.ok h1,b.ok h2,bnd,eqB,jW,toD,zk,or_self,ZI,Eqs.eq];rw[zi (by omega)]⟩
def abH [DecidableEq α] [Eqs e n] (hn:n<=100) (a:R fa ρ (zE e)) (b:R fb ρ (zE e)):R (b2 Sh fa fb) ρ (zE eB):=⟨!decide (a.v=b.v),bh a.D b.D,λh=>by
 obtain⟨h1,h2⟩:=aC h;have:=Eqs.dp (e:=e) a.v;simp only[b2,a.ok h1,b.ok h2,bnd,Sh,jW,toD,zk,or_self,ZI,Eqs.eq];rw[zi (by omega)]⟩
theorem Bp (h:qj b=some ds):toD b=.lst ds/\jW b=false:=by
 cases b with
 |z d=>cases d<;>cases h;exact⟨rfl,rfl⟩
 |l d=>cases h;exact⟨rfl,rfl⟩
 |o d=>cases h;exact⟨rfl,rfl⟩
 |n d=>cases h
 |m d _=>cases h
def agY [DecidableEq α] [Eqs e n] (hn:n+1<=100) (a:RL fa ρ e) (b:RL fb ρ e):R (b2 Sh fa fb) ρ (zE eB):=⟨!decide (a.v=b.v),bh a.D b.D,λh=>by
 obtain⟨h1,h2⟩:=aC h;simp only[b2,a.ok h1,b.ok h2,bnd,Sh,(Bp a.lk).1,(Bp a.lk).2,(Bp b.lk).1,(Bp b.lk).2,zk,or_self,ZI];have e1:=Eqs.eq (e:=eL e) a.v b.v;rw[zi (Zp (Nat.min_le_left _ _) (Zp (Eqs.dp (e:=eL e) a.v) hn)),e1,bnd]⟩
def eqX (a b:Dt):Bool:=(xg a b).getD false
def EqX (a b:Dt):Prop:=(xg a b).isSome=true/\min (uM a) (uM b)<=100
def ag1 (a:R fa ρ (zE eD)) (b:R fb ρ (zE eD)):R (b2 Sh fa fb) ρ (zE eB):=⟨!eqX a.v b.v,bh (bh a.D b.D) (some (EqX a.v b.v)),λh=>by
 obtain⟨h,h3⟩:=aC h;obtain⟨h1,h2⟩:=aC h;obtain⟨h3,h4⟩:EqX a.v b.v:=h3;simp only[b2,a.ok h1,b.ok h2,bnd,Sh,jW,toD,zk,or_self,ZI,zi h4];cases hd:xg a.v b.v with
 |none=>rw[hd] at h3;cases h3
 |some k=>simp only[eqX,hd,bnd,Option.getD_some];exact zi h4⟩
def um (a:R fa ρ (zE eB)) (b:R fb ρ (zE eB)):R (wX fa fb) ρ (zE eB):=⟨a.v&&b.v,bh a.D (Dw (a.v=true) b.D),λh=>by
 obtain⟨h1,h2⟩:=aC h;simp only[wX,a.ok h1,bnd,Cg];cases hv:a.v with
 |true=>simp only[qS,yn];exact b.ok (jF h2 hv)
 |false=>simp only[zk,ZI,ye]⟩
def ag2 (a:R fa ρ (zE eB)):R (aaH fa) ρ (zE eB):=⟨!a.v,a.D,λh=>by simp only[aaH,a.ok h,bnd,Cg]⟩
def Yy (a:R fa ρ (zE eB)):R (tV fa) ρ tE:=⟨a.v,a.D,λh=>by simp only[tV,a.ok h,bnd,aaC]⟩
def gM {g:Bx->Bx->Option Bx} (a:R (b2 g fa fb) ρ (zE eB)):R (yV g fa fb) ρ tE:=⟨a.v,a.D,λh=>by simp only[yV,a.ok h,bnd,Cg]⟩
def ag3 (a:R p ρ tE) (b:R q ρ tE):R (W8 p q) ρ tE:=⟨a.v&&b.v,bh a.D (Dw (a.v=true) b.D),λh=>by
 obtain⟨h1,h2⟩:=aC h;simp only[W8,a.ok h1,bnd];cases hv:a.v with
 |true=>simp only[qS,yn];exact b.ok (jF h2 hv)
 |false=>simp only[zk,ZI,ye]⟩
def Yz (a:R p ρ tE) (b:R q ρ tE):R (orT p q) ρ tE:=⟨a.v||b.v,bh a.D (Dw (a.v=false) b.D),λh=>by
 obtain⟨h1,h2⟩:=aC h;simp only[orT,a.ok h1,bnd];cases hv:a.v with
 |true=>simp only[qS,Bool.true_or]
 |false=>simp only[zk,ZI,Bool.false_or];exact b.ok (jF h2 hv)⟩
def Nt (a:R p ρ tE):R (Lq p) ρ tE:=⟨!a.v,a.D,λh=>by simp only[Lq,a.ok h,bnd]⟩
def ag4 {g g':Bx->Bx->Option Bx} (ab:R (b2 g fa fb) ρ (zE eB)) (bc:R (b2 g' fb fc) ρ (zE eB)):R (ch3 g g' fa fb fc) ρ (zE eB):=⟨ab.v&&bc.v,bh ab.D (Dw (ab.v=true) bc.D),λh=>by
 obtain⟨h1,h3⟩:=aC h;have e1:=ab.ok h1;simp only[b2] at e1;obtain⟨x,ex,e1⟩:=bind_some e1;obtain⟨y,ey,e1⟩:=bind_some e1;simp only[ch3,ex,ey,bnd,e1,Cg];cases hv:ab.v with
 |true=>
  have e2:=bc.ok (jF h3 hv);simp only[b2,ey,bnd] at e2;simp only[qS,yn];exact e2
 |false=>simp only[zk,ZI,ye]⟩
end
section
variable {ε:Type} {fd:Ev->Option Bx} {fs:Ev->Option (List Bx)} {e:α->Dt} {e':β->Dt} {e'':γ->Dt} {e3:δ->Dt}
def aeR (e:α->Dt):R (bU fL aH) ρ (zE (eT e)):=⟨[],none,λ_=>rfl⟩
def Q0 (a:R fa ρ (zE e)) (b:R fb ρ (zE e')) (c:R fc ρ (zE e'')):R (bU fL (aq fa (aq fb (aq fc aH)))) ρ (zE (eP3 e e' e'')):=⟨(a.v,b.v,c.v),bh a.D (bh b.D c.D),λh=>by
 obtain⟨h1,h⟩:=aC h;obtain⟨h2,h3⟩:=aC h;simp only[bU,aq,aH,a.ok h1,b.ok h2,c.ok h3,bnd];rfl⟩
def lU (a:R fa ρ (zE e)) (b:R fb ρ (zE e')) (c:R fc ρ (zE e'')) (d:R fd ρ (zE e3)):R (bU fL (aq fa (aq fb (aq fc (aq fd aH))))) ρ (zE (eP4 e e' e'' e3)):=⟨(a.v,b.v,c.v,d.v),bh a.D (bh b.D (bh c.D d.D)),λh=>by
 obtain⟨h1,h⟩:=aC h;obtain⟨h2,h⟩:=aC h;obtain⟨h3,h4⟩:=aC h;simp only[bU,aq,aH,a.ok h1,b.ok h2,c.ok h3,d.ok h4,bnd];rfl⟩
def bN (e:α->Dt):R aH ρ (λxs:List α=>xs.map (zE e)):=⟨[],none,λ_=>rfl⟩
def aF (a:R fa ρ (zE e)) (t:R fs ρ (λxs:List α=>xs.map (zE e))):R (aq fa fs) ρ (λxs:List α=>xs.map (zE e)):=⟨a.v::t.v,bh a.D t.D,λh=>by
 obtain⟨h1,h2⟩:=aC h;simp only[aq,a.ok h1,t.ok h2,bnd,zr]⟩
theorem DP:∀ xs:List α,Jk (xs.map (zE e))=some (xs.map e)
 |[]=>rfl
 |x::xs=>by simp only[zr,Jk,DP xs,bnd]
def gY (t:R fs ρ (λxs:List α=>xs.map (zE e))) (hl:t.v.length<=1000):R (bU jk fs) ρ (oE e):=⟨t.v,t.D,λh=>by
 simp only[bU,t.ok h,bnd,jk,zl,zi hl,DP]⟩
def iw (t:R fs ρ (λxs:List Dt=>xs.map (zE eD))) (hl:t.v.length<=1000):R (bU fL fs) ρ (zE eD):=⟨.tup t.v,t.D,λh=>by
 simp only[bU,t.ok h,bnd,fL,zl,zi hl,DP,List.map_id_fun',id]⟩
def at' [Inhabited α] (xs:List α) (i:Int):α:=(BX xs i).getD default
def In (n:Nat) (i:Int):Prop:=-(n:Int)<=i/\i < n
theorem uQ {xs:List α} {i:Int} (h:In xs.length i):∃ x,BX xs i=some x:=by
 obtain⟨h1,h2⟩:=h;unfold BX ixN;by_cases h0:0<=i
 ·rw[zi h0,zi h2];exact⟨xs[i.toNat]'(by omega),zS (by omega)⟩
 ·rw[zC h0,zi h1];exact⟨xs[(i+xs.length).toNat]'(by omega),zS (by omega)⟩
theorem aeS {xs:List α} {i:Int} {x:α} (h:BX xs i=some x):BX (xs.map e) i=some (e x):=by
 unfold BX at h ⊢;rw[zl];obtain⟨j,ej,h⟩:=bind_some h;rw[ej,bnd,Zl,h];rfl
theorem aeT [Inhabited α] {xs:List α} {i:Int} (h:In xs.length i):BX (xs.map e) i=some (e (at' xs i)):=by
 obtain⟨x,hx⟩:=uQ h;rw[aeS hx];unfold at';rw[hx];rfl
theorem abI {i:Int} (h:qj b=some ds):fW b (.z (.int i))=(BX ds i).bind λd=>some (.z d):=by
 cases b with
 |z d=>cases d<;>cases h;rfl
 |l d=>cases h;rfl
 |o d=>cases h;rfl
 |n d=>cases h
 |m d _=>cases h
def eU [Inhabited α] (a:RL fa ρ e) (b:R fb ρ (zE eI)):R (b2 fW fa fb) ρ (zE e):=⟨at' a.v b.v,bh (bh a.D b.D) (some (In a.v.length b.v)),λh=>by
 obtain⟨h,h3⟩:=aC h;obtain⟨h1,h2⟩:=aC h;simp only[b2,a.ok h1,b.ok h2,bnd,abI a.lk,aeT (show In a.v.length b.v from h3)]⟩
def ch (x:Str) (i:Int):Str:=⟨#[(BX x.cps.toList i).getD 0]⟩
def Nu (a:R fa ρ (zE eS)) (b:R fb ρ (zE eI)):R (b2 fW fa fb) ρ (zE eS):=⟨ch a.v b.v,bh (bh a.D b.D) (some (In a.v.length b.v)),λh=>by
 obtain⟨h,h3⟩:=aC h;obtain⟨h1,h2⟩:=aC h;obtain⟨x,hx⟩:=uQ (xs:=a.v.cps.toList) (i:=b.v) (show In a.v.length b.v from h3);simp only[b2,a.ok h1,b.ok h2,bnd,fW,hx,ch,Option.getD_some]⟩
def Nv (d:Dt) (i:Int):Dt:=match fW (.z d) (.z (.int i)) with|some (.z y)=>y|_=>.non
def IxD (d:Dt) (i:Int):Prop:=match d with
 |.tup ds=>In ds.length i
 |.lst ds=>In ds.length i
 |.str x=>In x.length i
 |_=>False
def ag5 (a:R fa ρ (zE eD)) (b:R fb ρ (zE eI)):R (b2 fW fa fb) ρ (zE eD):=⟨Nv a.v b.v,bh (bh a.D b.D) (some (IxD a.v b.v)),λh=>by
 obtain⟨h,h3⟩:=aC h;obtain⟨h1,h2⟩:=aC h;have h3:IxD a.v b.v:=h3;simp only[b2,a.ok h1,b.ok h2,bnd];show fW (.z a.v) (.z (.int b.v))=some (.z (Nv a.v b.v));unfold Nv;cases hv:a.v with
 |tup ds=>
  rw[hv] at h3;obtain⟨x,hx⟩:=uQ (show In ds.length b.v from h3);simp only[fW,qT,bnd,hx]
 |lst ds=>
  rw[hv] at h3;obtain⟨x,hx⟩:=uQ (show In ds.length b.v from h3);simp only[fW,qT,bnd,hx]
 |str x=>
  rw[hv] at h3;obtain⟨c,hx⟩:=uQ (xs:=x.cps.toList) (show In x.length b.v from h3);simp only[fW,bnd,hx]
 |non=>rw[hv] at h3;exact absurd h3 id
 |bl _=>rw[hv] at h3;exact absurd h3 id
 |int _=>rw[hv] at h3;exact absurd h3 id
 |emp=>rw[hv] at h3;exact absurd h3 id⟩
def mJ (a:R fa ρ (zE e)) (g:α->β) (e':β->Dt) (i:Int) (h:∀ x,fW (.z (e x)) (.z (.int i))=some (.z (e' (g x)))):R (b2 fW fa (cB (.int i))) ρ (zE e'):=⟨g a.v,a.D,λhd=>by
 simp only[b2,a.ok hd,bnd,cB,h]⟩
def cut (xs:List α) (lo hi:Option Int):List α:=(xs.drop (HT.ig xs.length 0 lo)).take (HT.ig xs.length xs.length hi - HT.ig xs.length 0 lo)
theorem Tq (xs:List α) (lo hi:Option Int):cutD (xs.map e) lo hi=(cut xs lo hi).map e:=by
 unfold cutD cut;rw[zl,List.map_take,List.map_drop]
abbrev pE:Option Int->Option Int:=λo=>o
def Ah:R jB ρ pE:=⟨none,none,λ_=>rfl⟩
def Ai (a:R fa ρ (zE eI)):R (nQ fa) ρ pE:=⟨some a.v,a.D,λh=>by simp only[nQ,a.ok h,bnd,aes]⟩
variable {fl fh:Ev->Option (Option Int)}
theorem abJ (h:qj b=some ds):slB b lo hi=some (.o (cutD ds lo hi)):=by
 cases b with
 |z d=>cases d<;>cases h;rfl
 |l d=>cases h;rfl
 |o d=>cases h;rfl
 |n d=>cases h
 |m d _=>cases h
def ag6 (a:RL fa ρ e) (l:R fl ρ pE) (u:R fh ρ pE):R (Ge fa fl fh) ρ (oE e):=⟨cut a.v l.v u.v,bh a.D (bh l.D u.D),λh=>by
 obtain⟨h1,h⟩:=aC h;obtain⟨h2,h3⟩:=aC h;simp only[Ge,a.ok h1,l.ok h2,u.ok h3,bnd,abJ a.lk,Tq]⟩
def ag7 (a:R fa ρ (zE (eT e))) (l:R fl ρ pE) (u:R fh ρ pE):R (Ge fa fl fh) ρ (zE (eT e)):=⟨cut a.v l.v u.v,bh a.D (bh l.D u.D),λh=>by
 obtain⟨h1,h⟩:=aC h;obtain⟨h2,h3⟩:=aC h;simp only[Ge,a.ok h1,l.ok h2,u.ok h3,bnd,slB,Tq]⟩
def zQ (a:R fa ρ (zE eS)) (l:R fl ρ pE) (u:R fh ρ pE):R (Ge fa fl fh) ρ (zE eS):=⟨Txt.slice a.v l.v u.v,bh a.D (bh l.D u.D),λh=>by
 obtain⟨h1,h⟩:=aC h;obtain⟨h2,h3⟩:=aC h;simp only[Ge,a.ok h1,l.ok h2,u.ok h3,bnd,slB]⟩
def Gm:Dt->List Dt
 |.tup ds=>ds
 |.lst ds=>ds
 |_=>[]
def ag8 (a:R fa ρ (zE eD)) (l:R fl ρ pE) (u:R fh ρ pE):R (Ge fa fl fh) ρ (zE eD):=⟨.tup (cut (Gm a.v) l.v u.v),bh (bh a.D (bh l.D u.D)) (some (is_tuple a.v=true)),λh=>by
 obtain⟨h,h4⟩:=aC h;obtain⟨h1,h⟩:=aC h;obtain⟨h2,h3⟩:=aC h;have h4:is_tuple a.v=true:=h4;simp only[Ge,a.ok h1,l.ok h2,u.ok h3,bnd];cases hv:a.v<;>rw[hv] at h4<;>first|(cases h4;done)|rfl⟩
def xX (n:Nat):Prop:=n<=1000000
def uo (a:R fa ρ (zE eS)) (b:R fb ρ (zE eS)):R (b2 dB fa fb) ρ (zE eS):=⟨a.v++b.v,bh (bh a.D b.D) (some (xX (a.v.length+b.v.length))),λh=>by
 obtain⟨h,h3⟩:=aC h;obtain⟨h1,h2⟩:=aC h;simp only[b2,a.ok h1,b.ok h2,bnd,dB,zi (show a.v.length+b.v.length<=U8 from h3)]⟩
def aeU (a:R fa ρ (zE eD)) (b:R fb ρ (zE eD)):R (b2 dB fa fb) ρ (zE eD):=⟨.tup (Gm a.v++Gm b.v),bh (bh a.D b.D) (some (is_tuple a.v=true/\is_tuple b.v=true/\xX ((Gm a.v).length+(Gm b.v).length))),λh=>by
 obtain⟨h,h3⟩:=aC h;obtain⟨h1,h2⟩:=aC h;obtain⟨h3,h4,h5⟩:is_tuple a.v=true/\is_tuple b.v=true/\xX ((Gm a.v).length+(Gm b.v).length):=h3;simp only[b2,a.ok h1,b.ok h2,bnd]
 revert h3 h4 h5
 show is_tuple a.v=true->is_tuple b.v=true->xX ((Gm a.v).length+(Gm b.v).length)->dB (.z a.v) (.z b.v)=some (.z (.tup (Gm a.v++Gm b.v)));generalize a.v=x;generalize b.v=y;intro h3 h4 h5;cases x<;>first|(cases h3;done)|skip;cases y<;>first|(cases h4;done)|skip;exact zi h5⟩
theorem YB {b':Bx} {ds':List Dt} (h:qj b=some ds) (h':qj b'=some ds') (hl:ds.length+ds'.length<=U8):dB b b'=some (.o (ds++ds')):=by
 cases b with
 |z d=>
  cases d<;>cases h;cases b' with
  |z d'=>cases d'<;>cases h';exact zi hl
  |l d'=>cases h';exact zi hl
  |o d'=>cases h';exact zi hl
  |n d'=>cases h'
  |m d'=>cases h'
 |l d=>
  cases h;cases b' with
  |z d'=>cases d'<;>cases h';exact zi hl
  |l d'=>cases h';exact zi hl
  |o d'=>cases h';exact zi hl
  |n d'=>cases h'
  |m d'=>cases h'
 |o d=>
  cases h;cases b' with
  |z d'=>cases d'<;>cases h';exact zi hl
  |l d'=>cases h';exact zi hl
  |o d'=>cases h';exact zi hl
  |n d'=>cases h'
  |m d'=>cases h'
 |n d=>cases h
 |m d _=>cases h
def wz (a:RL fa ρ e) (b:RL fb ρ e):R (b2 dB fa fb) ρ (oE e):=⟨a.v++b.v,bh (bh a.D b.D) (some (xX (a.v.length+b.v.length))),λh=>by
 obtain⟨h,h3⟩:=aC h;obtain⟨h1,h2⟩:=aC h;simp only[b2,a.ok h1,b.ok h2,bnd];rw[YB a.lk b.lk (by rw[zl,zl];exact h3)];simp only[oE,ja]⟩
def YC (a:R fa ρ (zE eS)) (b:R fb ρ (zE eI)):R (b2 tO fa fb) ρ (zE eS):=⟨Txt.mul a.v b.v,bh (bh a.D b.D) (some (b.v<=1000 ∧ -1000<=b.v/\a.v.length<=1000)),λh=>by
 obtain⟨h,h3⟩:=aC h;obtain⟨h1,h2⟩:=aC h;simp only[b2,a.ok h1,b.ok h2,bnd];exact zi h3⟩
theorem YD (h:qj b=some ds):yU [b]=some (.z (.int ds.length)):=by
 cases b with
 |z d=>cases d<;>cases h;rfl
 |l d=>cases h;rfl
 |o d=>cases h;rfl
 |n d=>cases h
 |m d _=>cases h
theorem YF (h:qj b=some ds):qT b=some ds:=by
 cases b with
 |z d=>cases d<;>cases h;rfl
 |l d=>cases h;rfl
 |o d=>cases h;rfl
 |n d=>cases h
 |m d _=>cases h
def x_len (a:RL fa ρ e):R (bU yU (aq fa aH)) ρ (zE eI):=⟨(a.v.length:Int),a.D,λh=>by
 simp only[bU,aq,aH,a.ok h,bnd,YD a.lk,zl]⟩
def YG (a:R fa ρ (zE eS)):R (bU yU (aq fa aH)) ρ (zE eI):=⟨(a.v.length:Int),a.D,λh=>by
 simp only[bU,aq,aH,a.ok h,bnd,yU]⟩
def JT:Dt->Int
 |.tup ds=>ds.length
 |.lst ds=>ds.length
 |.str x=>x.length
 |_=>0
def JV:Dt->Bool
 |.tup _=>true
 |.lst _=>true
 |.str _=>true
 |_=>false
def Q5 (a:R fa ρ (zE eD)):R (bU yU (aq fa aH)) ρ (zE eI):=⟨JT a.v,bh a.D (some (JV a.v=true)),λh=>by
 obtain⟨h,h4⟩:=aC h;have h4:JV a.v=true:=h4;simp only[bU,aq,aH,a.ok h,bnd];cases hv:a.v<;>rw[hv] at h4<;>first|(cases h4;done)|rfl⟩
def qZ (a:RL fa ρ e):R (bU jC (aq fa aH)) ρ (zE (eT e)):=⟨a.v,a.D,λh=>by
 simp only[bU,aq,aH,a.ok h,bnd,jC,YF a.lk]⟩
def abK (a:R fa ρ (zE (eT e))):R (bU Mj (aq fa aH)) ρ (oE e):=⟨a.v,a.D,λh=>by
 simp only[bU,aq,aH,a.ok h,bnd,Mj,qT]⟩
def ag9 (a:R fa ρ (zE eI)):R (bU Xv (aq fa aH)) ρ (zE eI):=⟨if a.v < 0 then -a.v else a.v,a.D,λh=>by
 simp only[bU,aq,aH,a.ok h,bnd,Xv]⟩
def aeV (a:R fa ρ (zE eB)):R (bU Xw (aq fa aH)) ρ (zE eI):=⟨if a.v=true then 1 else 0,a.D,λh=>by
 simp only[bU,aq,aH,a.ok h,bnd,Xw]⟩
theorem HS:∀ l:List Bool,Hv (l.map eB)=some l
 |[]=>rfl
 |a::l=>by simp only[zr,Hv,HS l,bnd]
def ac3 (a:RL fa ρ eB):R (bU allB (aq fa aH)) ρ (zE eB):=⟨a.v.all id,a.D,λh=>by
 simp only[bU,aq,aH,a.ok h,bnd,allB,a.lk,HS]⟩
def HW (a:R fa ρ (zE eI)) (b:R fb ρ (zE eI)):R (bU Gg (aq fa (aq fb aH))) ρ (zE eI):=⟨if b.v > a.v then b.v else a.v,bh a.D b.D,λh=>by
 obtain⟨h1,h2⟩:=aC h;simp only[bU,aq,aH,a.ok h1,b.ok h2,bnd,Gg]⟩
def ac4 (a:R fa ρ (zE eI)) (b:R fb ρ (zE eI)):R (bU Vd (aq fa (aq fb aH))) ρ (zE eI):=⟨if b.v < a.v then b.v else a.v,bh a.D b.D,λh=>by
 obtain⟨h1,h2⟩:=aC h;simp only[bU,aq,aH,a.ok h1,b.ok h2,bnd,Vd]⟩
def Nx (P:Dt->Bool) (a:R fa ρ (zE e)):R (CQ P fa) ρ (zE eB):=⟨P (e a.v),a.D,λh=>by
 simp only[CQ,b1,a.ok h,bnd,jW,toD,zk,ZI]⟩
theorem strs_map:∀ l:LS_,CT (l.map eS)=some l
 |[]=>rfl
 |a::l=>by simp only[zr,CT,strs_map l,bnd]
def aeW (s:Str) (a:RL fa ρ eS):R (b1 (Ms s) fa) ρ (zE eS):=⟨Txt.join s a.v,bh a.D (some ((a.v.map (·.length)).sum+a.v.length * s.length<=100000)),λh=>by
 obtain⟨h,h4⟩:=aC h;simp only[b1,a.ok h,bnd,Ms,a.lk,strs_map];exact zi h4⟩
def JW (a:RL fa ρ eS):R (bU zJ (aq fa aH)) ρ (oE eS):=⟨jT a.v,bh a.D (some (a.v.length < 64)),λh=>by
 obtain⟨h,h4⟩:=aC h;simp only[bU,aq,aH,a.ok h,bnd,zJ,a.lk,strs_map];exact zi h4⟩
def aeX (a:R f ρ (oE e)):R f ρ (oE eD):=⟨a.v.map e,a.D,λhd=>by
 rw[a.ok hd];simp only[oE,eD,Qr,Function.comp_def]⟩
def Tr:Dt->Int
 |.int i=>i
 |_=>0
def JX:Dt->Str
 |.str x=>x
 |_=>⟨#[]⟩
def oU (a:R f ρ (zE eD)) (g:Dt->α) (e:α->Dt):R f ρ (zE e):=⟨g a.v,bh a.D (some (a.v=e (g a.v))),λhd=>by
 obtain⟨h1,h2⟩:=aC hd;have h2:a.v=e (g a.v):=h2;rw[a.ok h1];show some (Bx.z a.v)=some (Bx.z (e (g a.v)));rw[<-h2]⟩
class Flat {α:Type} (e:α->Dt):Prop where
 f:∀ a,xG (e a)=true
instance:Flat eI:=⟨λ_=>rfl⟩
instance:Flat eB:=⟨λ_=>rfl⟩
instance:Flat eS:=⟨λ_=>rfl⟩
theorem Ny [DecidableEq α] [Eqs e n] [Flat e] (x:α) (ys:List α):memD (e x) (ys.map e)=some (decide (x∈ys)):=by
 unfold memD;rw[zi ⟨Flat.f x,by rw[List.all_map];exact List.all_eq_true.mpr λy _=>Flat.f y⟩,List.any_map];congr 1;rw[KS,ki,decide_eq_true_iff];constructor
 ·rintro⟨y,hy,h⟩;simp only[Function.comp,Eqs.eq] at h;by_cases e1:y=x
  ·rw[<-e1];exact hy
  ·simp only[e1,kK] at h;cases h
 ·intro h;exact⟨x,h,by simp only[Function.comp,Eqs.eq,KI]⟩
theorem abL (h:qj b=some ds):inB (.z d) b=memD d ds:=by
 cases b with
 |z d'=>cases d'<;>cases h;cases d<;>rfl
 |l d'=>cases h;cases d<;>rfl
 |o d'=>cases h;cases d<;>rfl
 |n d'=>cases h
 |m d'=>cases h
theorem abM:inB (.z d) (.z (.tup ds))=memD d ds:=by cases d<;>rfl
def aha [DecidableEq α] [Eqs e n] [Flat e] (a:R fa ρ (zE e)) (b:RL fb ρ e):R (b2 inF fa fb) ρ (zE eB):=⟨decide (a.v∈b.v),bh a.D b.D,λh=>by
 obtain⟨h1,h2⟩:=aC h;simp only[b2,a.ok h1,b.ok h2,bnd,inF,abL b.lk,Ny]⟩
def Tt [DecidableEq α] [Eqs e n] [Flat e] (a:R fa ρ (zE e)) (b:R fb ρ (zE (eT e))):R (b2 inF fa fb) ρ (zE eB):=⟨decide (a.v∈b.v),bh a.D b.D,λh=>by
 obtain⟨h1,h2⟩:=aC h;simp only[b2,a.ok h1,b.ok h2,bnd,inF,abM,Ny]⟩
def ahb (a:R fa ρ (zE eS)) (b:R fb ρ (zE eS)):R (b2 inF fa fb) ρ (zE eB):=⟨Ht a.v b.v,bh a.D b.D,λh=>by
 obtain⟨h1,h2⟩:=aC h;simp only[b2,a.ok h1,b.ok h2,bnd,inF,inB]⟩
end
structure AR {γ:Type} (cA:γ->List Bx->Prop) (fs:Ev->Option (List Bx)) (ρ:Ev) where
 v:γ
 D:Option Prop
 bs:List Bx
 h:cA v bs
 ok:hold D->fs ρ=some bs
section
variable {ε σ:Type} {fd:Ev->Option Bx} {fs:Ev->Option (List Bx)} {e:α->Dt} {e':β->Dt} {e'':γ->Dt} {e3:δ->Dt}
def aN:Unit->List Bx->Prop:=λ_ bs=>bs=[]
def aZ (e:α->Dt) (t:γ->List Bx->Prop):α×γ->List Bx->Prop:=λx bs=>∃ r,bs=.z (e x.1)::r/\t x.2 r
def aL (e:α->Dt) (t:γ->List Bx->Prop):List α×γ->List Bx->Prop:=λx bs=>∃ b r,bs=b::r/\qj b=some (x.1.map e)/\t x.2 r
def bO:AR aN aH ρ:=⟨(),none,[],rfl,λ_=>rfl⟩
def cL {t:γ->List Bx->Prop} (a:R fa ρ (zE e)) (r:AR t fs ρ):AR (aZ e t) (aq fa fs) ρ:=⟨(a.v,r.v),bh a.D r.D,_,⟨_,rfl,r.h⟩,λh=>by
 obtain⟨h1,h2⟩:=aC h;simp only[aq,a.ok h1,r.ok h2,bnd]⟩
def zp {t:γ->List Bx->Prop} (a:RL fa ρ e) (r:AR t fs ρ):AR (aL e t) (aq fa fs) ρ:=⟨(a.v,r.v),bh a.D r.D,_,⟨_,_,rfl,a.lk,r.h⟩,λh=>by
 obtain⟨h1,h2⟩:=aC h;simp only[aq,a.ok h1,r.ok h2,bnd]⟩
def x_call {cA:γ->List Bx->Prop} {c:α->Bx} {T:γ->α} {Df:γ->Option Prop} (S:∀ v bs,cA v bs->bs.length=n/\(hold (Df v)->F (bs.map lend)=some (c (T v)))) (a:AR cA fs ρ):R (cI n F fs) ρ c:=⟨T a.v,bh a.D (Df a.v),λh=>by
 obtain⟨h1,h2⟩:=aC h;obtain⟨h3,h4⟩:=S a.v a.bs a.h;simp only[cI,a.ok h1,bnd,zi h3,h4 h2]⟩
theorem aeY {bs:List Bx} {c:α->Bx} (x:R g (bs.map some++List.replicate (n - bs.length) none) (λr=>Out.rt (c r))) (h:hold x.D):dI n g bs=some (c x.v):=by
 unfold dI;rw[x.ok h];rfl
def ahc (xs:List α) (P:α->Option Prop):Option Prop:=some (∀ x∈xs,hold (P x))
theorem Nz {fs:Ev->Option (List Dt)} {ρ1:Ev} {g:α->List Dt} {π:α->Bool}:∀ xs:List α,(∀ x∈xs,∃ ρ2,gt (e x) ρ1=some ρ2/\p ρ2=some (π x)/\(π x=true->fs ρ2=some (g x)))->Ae gt p fs ρ1 (xs.map e)=some ((xs.filter π).flatMap g)
 |[],_=>rfl
 |x::xs,h=>by
  obtain⟨ρ2,h1,h2,h3⟩:=h x (zo ..);have ih:=Nz (g:=g) (π:=π) xs λy hy=>h y (zt _ hy);cases hp:π x with
  |true=>simp only[zr,Ae,h1,bnd,h2,hp,qS,h3 hp,ih,List.filter_cons,List.flatMap_cons]
  |false=>simp only[zr,Ae,h1,bnd,h2,hp,ih,List.filter_cons,zk,ZI]
theorem NK {g:α->β}:∀ xs:List α,xs.flatMap (λx=>[e' (g x)])=(xs.map g).map e'
 |[]=>rfl
 |x::xs=>by rw[List.flatMap_cons,NK xs];rfl
theorem DR {ρ1:Ev} {g:α->β} {π:α->Bool} (xs:List α) (h:∀ x∈xs,∃ ρ2,gt (e x) ρ1=some ρ2/\p ρ2=some (π x)/\(π x=true->fe ρ2=some (.z (e' (g x))))):w5 gt p fe ρ1 (xs.map e)=some (((xs.filter π).map g).map e'):=by
 rw[<-NK];exact Nz xs λx hx=>let ⟨ρ2,h1,h2,h3⟩:=h x hx;⟨ρ2,h1,h2,λhp=>by rw[h3 hp];rfl⟩
theorem comp_map {ρ1:Ev} {g:α->β} (xs:List α) (h:∀ x∈xs,∃ ρ2,gt (e x) ρ1=some ρ2/\fe ρ2=some (.z (e' (g x)))):w5 gt vX fe ρ1 (xs.map e)=some ((xs.map g).map e'):=
 (DR (π:=λ_=>true) xs λx hx=>let ⟨ρ2,h1,h2⟩:=h x hx;⟨ρ2,h1,rfl,λ_=>h2⟩).trans (by rw[List.filter_eq_self.mpr λ_ _=>rfl])
def DW (it:R fi ρ (iE e)) (ρ2:α->Ev) (hg:∀ x,gt (e x) (iY is ρ++List.replicate n none)=some (ρ2 x)) (b:∀ x,R fe (ρ2 x) (zE e')):R (dY fi gt vX fe is n) ρ (oE e'):=⟨it.v.map λx=>(b x).v,bh (bh it.D (some (it.v.length<=100000))) (ahc it.v λx=>(b x).D),λh=>by
 obtain⟨h,h3⟩:=aC h;obtain⟨h1,h2⟩:=aC h;have h3:∀ x∈it.v,hold (b x).D:=h3;simp only[dY,it.ok h1,bnd,zl,zi (show it.v.length<=100000 from h2),comp_map it.v λx hx=>⟨ρ2 x,hg x,(b x).ok (h3 x hx)⟩]⟩
def xY (it:R fi ρ (iE e)) (ρ2:α->Ev) (hg:∀ x,gt (e x) (iY is ρ++List.replicate n none)=some (ρ2 x)) (b:∀ x,R fe (ρ2 x) (zE e')) (hb:∀ x,(b x).D=none):R (dY fi gt vX fe is n) ρ (oE e'):=⟨it.v.map λx=>(b x).v,bh it.D (some (it.v.length<=100000)),λh=>by
 obtain⟨h1,h2⟩:=aC h;simp only[dY,it.ok h1,bnd,zl,zi (show it.v.length<=100000 from h2),comp_map it.v λx hx=>⟨ρ2 x,hg x,(b x).ok (by rw[hb x];trivial)⟩]⟩
def abN (it:R fi ρ (iE e)) (ρ2:α->Ev) (hg:∀ x,gt (e x) (iY is ρ++List.replicate n none)=some (ρ2 x)) (t:∀ x,R p (ρ2 x) tE) (b:∀ x,R fe (ρ2 x) (zE e')):R (dY fi gt p fe is n) ρ (oE e'):=⟨(it.v.filter λx=>(t x).v).map λx=>(b x).v,bh (bh it.D (some (it.v.length<=100000))) (ahc it.v λx=>bh (t x).D (Dw ((t x).v=true) (b x).D)),λh=>by
 obtain⟨h,h3⟩:=aC h;obtain⟨h1,h2⟩:=aC h;have h3:∀ x∈it.v,hold (bh (t x).D (Dw ((t x).v=true) (b x).D)):=h3;simp only[dY,it.ok h1,bnd,zl,zi (show it.v.length<=100000 from h2),DR it.v λx hx=>⟨ρ2 x,hg x,(t x).ok (aC (h3 x hx)).1,λht=>(b x).ok (jF (aC (h3 x hx)).2 ht)⟩]⟩
def nZ (it:R fi ρ (iE e)) (ρ2:α->Ev) (hg:∀ x,gt (e x) (iY is ρ++List.replicate n none)=some (ρ2 x)) (t:∀ x,R p (ρ2 x) tE) (b:∀ x,R fe (ρ2 x) (zE e')) (ht:∀ x,(t x).D=none) (hb:∀ x,(b x).D=none):R (dY fi gt p fe is n) ρ (oE e'):=⟨(it.v.filter λx=>(t x).v).map λx=>(b x).v,bh it.D (some (it.v.length<=100000)),λh=>by
 obtain⟨h1,h2⟩:=aC h;simp only[dY,it.ok h1,bnd,zl,zi (show it.v.length<=100000 from h2),DR it.v λx hx=>⟨ρ2 x,hg x,(t x).ok (by rw[ht x];trivial),λ_=>(b x).ok (by rw[hb x];trivial)⟩]⟩
def JZ (a:RL fa ρ e):R (Gf fa) ρ (iE e):=⟨a.v,a.D,λh=>by
 have:Xm a.b=some (a.v.map e):=by
  have:=a.lk
  revert this
  generalize a.b=b;generalize a.v.map e=ds;intro this;cases b with
  |z d=>cases d<;>cases this;rfl
  |l d=>cases this;rfl
  |o d=>cases this;rfl
  |n d=>cases this
  |m d _=>cases this
 simp only[Gf,a.ok h,bnd,this]⟩
def YH (a:R fa ρ (zE (eT e))):R (Gf fa) ρ (iE e):=⟨a.v,a.D,λh=>by simp only[Gf,a.ok h,bnd,Xm]⟩
def chars (x:Str):LS_:=x.cps.toList.map λc=>⟨#[c]⟩
theorem YJ (x:Str):signs x=(chars x).map eS:=by
 unfold signs chars;rw[Qr];rfl
def itX:Dt->List Dt
 |.tup ds=>ds
 |.lst ds=>ds
 |.str x=>signs x
 |_=>[]
def ai3 (a:R fa ρ (zE eD)):R (Gf fa) ρ (iE eD):=⟨itX a.v,bh a.D (some (JV a.v=true)),λh=>by
 obtain⟨h,h4⟩:=aC h;have h4:JV a.v=true:=h4;simp only[Gf,a.ok h,bnd];cases hv:a.v<;>rw[hv] at h4<;>first|(cases h4;done)|(simp only[Xm,itX,iE,eD,List.map_id_fun',id])⟩
def aeZ (a:R fa ρ (oE e)):R (Z6 fa) ρ (iE e):=⟨a.v,a.D,λh=>by simp only[Z6,a.ok h,bnd,Xd]⟩
def ae0 (a:R fa ρ (zE (eT e))):R (Z6 fa) ρ (iE e):=⟨a.v,a.D,λh=>by simp only[Z6,a.ok h,bnd,Xd]⟩
def rng (i:Int) (n:Nat):List Int:=(List.range n).map λk:Nat=>i+(k:Int)
theorem Tv (i:Int) (n:Nat):Ab i n=(rng i n).map eI:=by
 unfold Ab rng;rw[Qr];rfl
def Rg (j:Int):Prop:=-4611686018427387904<=j/\j < 4611686018427387904
def HX (a:R fa ρ (zE eI)):R (Mq (aq fa aH)) ρ (iE eI):=⟨rng 0 a.v.toNat,bh a.D (some (Rg a.v)),λh=>by
 obtain⟨h,h4⟩:=aC h;simp only[Mq,aq,aH,a.ok h,bnd];show(if -(2 ^ 62)<=a.v/\a.v < 2 ^ 62 then some (Ab 0 a.v.toNat) else none)=_;exact(zi h4).trans (by rw[Tv])⟩
def ae1 (n:Int) (m:Nat) (hm:n.toNat=m) (hn:Rg n):R (Mq (aq (cB (.int n)) aH)) ρ (iE eI):=⟨rng 0 m,none,λ_=>by
 simp only[Mq,aq,aH,bnd,cB];show(if -(2 ^ 62)<=n/\n < 2 ^ 62 then some (Ab 0 n.toNat) else none)=_;exact(zi hn).trans (by rw[Tv,hm])⟩
end
section
variable {ε σ τ:Type} {fd:Ev->Option Bx} {fs:Ev->Option (List Bx)} {e:α->Dt} {e':β->Dt} {g1 g2 k:Ev->Option Out} {cO:γ->Out}
theorem lV {ρ':Ev} (h:g1 ρ=some (.nx ρ')):aJ g1 k ρ=k ρ':=by
 unfold aJ;rw[h];rfl
def bY (x:R (aJ g (aJ g1 k)) ρ cO):R (aJ (aJ g g1) k) ρ cO:=⟨x.v,x.D,λh=>by
 rw[<-x.ok h];unfold aJ;cases g ρ with
 |none=>rfl
 |some o=>cases o<;>rfl⟩
def dD (x:R k ρ cO):R (aJ gZ k) ρ cO:=⟨x.v,x.D,λh=>x.ok h⟩
def bZ (x:γ) (h:cO x=.nx (kill is ρ)):R (dR is) ρ cO:=⟨x,none,λ_=>by rw[h];rfl⟩
def fJ {c:α->Bx} (inj:α->γ) (a:R f ρ c) (h:∀ x,cO (inj x)=.rt (c x)) (hc:∀ x,Xb (c x)=some (.rt (c x))):R (aJ (iZ f) k) ρ cO:=⟨inj a.v,a.D,λhd=>by
 have:iZ f ρ=some (.rt (c a.v)):=by unfold iZ;rw[a.ok hd,bnd,hc]
 unfold aJ;rw[this,h];rfl⟩
def Q6 {c:α->Bx} (i:Nat) (inj:α->γ) (a:α) (hi:ρ[i]?=some (some (c a))) (h:∀ x,cO (inj x)=.rt (c x)) (hc:∀ x,Xb (c x)=some (.rt (c x))):R (aJ (FZ i) k) ρ cO:=⟨inj a,none,λhd=>by
 have:FZ i ρ=some (.rt (c a)):=by unfold FZ;rw[hi];exact hc a
 unfold aJ;rw[this,h];rfl⟩
def bQ {c:α->Bx} (i:Nat) (a:R f ρ c) (hc:∀ x,Xc ρ i (c x)=some (ρ.set i (some (c x)))) (K:∀ x,R k (ρ.set i (some (c x))) cO):R (aJ (setG i f) k) ρ cO:=⟨(K a.v).v,bh a.D (K a.v).D,λhd=>by
 obtain⟨h1,h2⟩:=aC hd;rw[lV (ρ':=ρ.set i (some (c a.v))) (by unfold setG;rw[a.ok h1,bnd,hc,bnd])];exact(K a.v).ok h2⟩
def YK (a:R f ρ (zE e)) (ρ2:α->Ev) (hg:∀ x,gt (e x) ρ=some (ρ2 x)) (K:∀ x,R k (ρ2 x) cO):R (aJ (Xy gt f) k) ρ cO:=⟨(K a.v).v,bh a.D (K a.v).D,λhd=>by
 obtain⟨h1,h2⟩:=aC hd;rw[lV (ρ':=ρ2 a.v) (by unfold Xy;rw[a.ok h1,bnd];simp only[hg,bnd])];exact(K a.v).ok h2⟩
def Tw (i j:Nat) (a:R fa ρ (zE e)) (b:R fb ρ (zE e')) (K:∀ x y,R k ((ρ.set i (some (.z (e x)))).set j (some (.z (e' y)))) cO):R (aJ (Vb i j (aq fa (aq fb aH))) k) ρ cO:=⟨(K a.v b.v).v,bh (bh a.D b.D) (K a.v b.v).D,λhd=>by
 obtain⟨h1,h3⟩:=aC hd;obtain⟨h1,h2⟩:=aC h1;rw[lV (ρ':=(ρ.set i (some (.z (e a.v)))).set j (some (.z (e' b.v)))) (by unfold Vb;simp only[aq,aH,a.ok h1,b.ok h2,bnd,aaL])];exact(K a.v b.v).ok h3⟩
def HY (i:Nat) (xs:List α) (hi:ρ[i]?=some (some (.o (xs.map e)))) (a:R f ρ (zE e)) (K:∀ ys:List α,R k (ρ.set i (some (.o (ys.map e)))) cO):R (aJ (Mp i f) k) ρ cO:=⟨(K (xs++[a.v])).v,bh (bh a.D (some (xX xs.length))) (K (xs++[a.v])).D,λhd=>by
 obtain⟨h1,h3⟩:=aC hd;obtain⟨h1,h2⟩:=aC h1;have h2:xs.length<=1000000:=h2;rw[lV (ρ':=ρ.set i (some (.o ((xs++[a.v]).map e)))) (by
  unfold Mp;rw[a.ok h1,bnd];simp only[aaM,hi,zl,ja,zr,ko];rw[zi (kX h2 (by decide))])]
 exact(K _).ok h3⟩
def zR (t:R p ρ tE) (a:R (aJ g1 k) ρ cO) (b:R (aJ g2 k) ρ cO):R (aJ (Ga p g1 g2) k) ρ cO:=⟨if t.v=true then a.v else b.v,bh t.D (bh (Dw (t.v=true) a.D) (Dw (t.v=false) b.D)),λhd=>by
 obtain⟨h1,h2⟩:=aC hd;obtain⟨h2,h3⟩:=aC h2;have e1:∀ c,t.v=c->aJ (Ga p g1 g2) k ρ=aJ (if c=true then g1 else g2) k ρ:=λc hc=>by
  unfold aJ Ga;rw[t.ok h1,bnd,hc];cases c<;>rfl
 cases hv:t.v with
 |true=>rw[e1 true hv];simp only[qS];exact a.ok (jF h2 hv)
 |false=>rw[e1 false hv];simp only[zk,ZI];exact b.ok (jF h3 hv)⟩
def DX (E:σ->Ev) (t:R p ρ tE) (a:R g1 ρ (λs=>Out.nx (E s))) (b:R g2 ρ (λs=>Out.nx (E s))) (K:∀ s,R k (E s) cO):R (aJ (Ga p g1 g2) k) ρ cO:=⟨(K (if t.v=true then a.v else b.v)).v,bh (bh t.D (bh (Dw (t.v=true) a.D) (Dw (t.v=false) b.D))) (K (if t.v=true then a.v else b.v)).D,λhd=>by
 obtain⟨h,h4⟩:=aC hd;obtain⟨h1,h2⟩:=aC h;obtain⟨h2,h3⟩:=aC h2;rw[lV (ρ':=E (if t.v=true then a.v else b.v)) (by
  unfold Ga;rw[t.ok h1,bnd];cases hv:t.v with
  |true=>simp only[qS];exact a.ok (jF h2 hv)
  |false=>simp only[zk,ZI];exact b.ok (jF h3 hv))]
 exact(K _).ok h4⟩
def pU (step:σ->α->σ) (P:σ->α->Option Prop):List α->σ->Prop
 |[],_=>True
 |x::xs,s=>hold (P s x)/\pU step P xs (step s x)
theorem xZ {gb:Ev->Option Out} (E:σ->Ev) (ρ2:σ->α->Ev) (hg:∀ s x,gt (e x) (E s)=some (ρ2 s x)) (body:∀ s x,R gb (ρ2 s x) (λs=>Out.nx (E s))):∀ (xs:List α) (s:σ),pU (λs x=>(body s x).v) (λs x=>(body s x).D) xs s->qQ gt gb (xs.map e) (E s)=some (.nx (E (xs.foldl (λs x=>(body s x).v) s)))
 |[],s,_=>rfl
 |x::xs,s,h=>by
  simp only[zr,qQ,hg,bnd,(body s x).ok h.1,QP];exact xZ E ρ2 hg body xs _ h.2
def DY (E:σ->Ev) (s0:σ) (hE:ρ=E s0) (it:R fi ρ (iE e)) (ρ2:σ->α->Ev) (hg:∀ s x,gt (e x) (E s)=some (ρ2 s x)) (body:∀ s x,R gb (ρ2 s x) (λs=>Out.nx (E s))) (K:∀ s,R k (E s) cO):R (aJ (nU fi gt gb) k) ρ cO:=⟨(K (it.v.foldl (λs x=>(body s x).v) s0)).v,bh (bh it.D (some (pU (λs x=>(body s x).v) (λs x=>(body s x).D) it.v s0))) (K (it.v.foldl (λs x=>(body s x).v) s0)).D,λhd=>by
 obtain⟨h,h4⟩:=aC hd;obtain⟨h1,h2⟩:=aC h;rw[lV (ρ':=E (it.v.foldl (λs x=>(body s x).v) s0)) (by
  unfold nU;rw[it.ok h1,bnd];subst hE;exact xZ E ρ2 hg body it.v s0 h2)]
 exact(K _).ok h4⟩
def ae2 (E:σ->Ev) (s0:σ) (hE:ρ=E s0) (it:R fi ρ (iE e)) (ρ2:σ->α->Ev) (hg:∀ s x,gt (e x) (E s)=some (ρ2 s x)) (body:∀ s x,R gb (ρ2 s x) (λs=>Out.nx (E s))) (hb:∀ s x,(body s x).D=none) (K:∀ s,R k (E s) cO):R (aJ (nU fi gt gb) k) ρ cO:=⟨(K (it.v.foldl (λs x=>(body s x).v) s0)).v,bh it.D (K (it.v.foldl (λs x=>(body s x).v) s0)).D,λhd=>by
 obtain⟨h1,h4⟩:=aC hd;have h2:∀ (xs:List α) (s:σ),pU (λs x=>(body s x).v) (λs x=>(body s x).D) xs s:=λxs=>by
  induction xs with
  |nil=>intro s;trivial
  |cons x xs ih=>intro s;exact⟨by show hold (body s x).D;rw[hb s x];trivial,ih _⟩
 rw[lV (ρ':=E (it.v.foldl (λs x=>(body s x).v) s0)) (by
  unfold nU;rw[it.ok h1,bnd];subst hE;exact xZ E ρ2 hg body it.v s0 (h2 _ _))]
 exact(K _).ok h4⟩
inductive wA (σ τ:Type) where
 |nx (s:σ)|rt (r:τ)|bk (s:σ)|ct (s:σ)
def cC (E:σ->Ev) (c:τ->Bx):wA σ τ->Out
 |.nx s=>.nx (E s)
 |.rt r=>.rt (c r)
 |.bk s=>.bk (E s)
 |.ct s=>.ct (E s)
def q8 (step:σ->α->wA σ τ):List α->σ->wA σ τ
 |[],s=>.nx s
 |x::xs,s=>match step s x with
  |.nx s'=>q8 step xs s'
  |.ct s'=>q8 step xs s'
  |.bk s'=>.nx s'
  |.rt r=>.rt r
def zT (step:σ->α->wA σ τ) (P:σ->α->Option Prop):List α->σ->Prop
 |[],_=>True
 |x::xs,s=>hold (P s x)/\match step s x with
  |.nx s'=>zT step P xs s'
  |.ct s'=>zT step P xs s'
  |.bk _=>True
  |.rt _=>True
theorem J1 {c:τ->Bx} (E:σ->Ev) (ρ2:σ->α->Ev) (hg:∀ s x,gt (e x) (E s)=some (ρ2 s x)) (body:∀ s x,R gb (ρ2 s x) (cC E c)):∀ (xs:List α) (s:σ),zT (λs x=>(body s x).v) (λs x=>(body s x).D) xs s->qQ gt gb (xs.map e) (E s)=some (cC E c (q8 (λs x=>(body s x).v) xs s))
 |[],s,_=>rfl
 |x::xs,s,h=>by
  obtain⟨h1,h2⟩:=h;dsimp only at h2;simp only[zr,qQ,hg,bnd,(body s x).ok h1,q8]
  revert h2
  cases(body s x).v with
  |nx s'=>intro h2;exact J1 E ρ2 hg body xs s' h2
  |ct s'=>intro h2;exact J1 E ρ2 hg body xs s' h2
  |bk s'=>intro _;rfl
  |rt r=>intro _;rfl
theorem Ea (step:σ->α->wA σ τ):∀ (xs:List α) (s:σ),(∃ s',q8 step xs s=.nx s')\/∃ r,q8 step xs s=.rt r
 |[],s=>.inl ⟨s,rfl⟩
 |x::xs,s=>by
  unfold q8;cases step s x with
  |nx s'=>exact Ea step xs s'
  |ct s'=>exact Ea step xs s'
  |bk s'=>exact .inl ⟨s',rfl⟩
  |rt r=>exact .inr ⟨r,rfl⟩
def behind (r:wA σ τ) (inj:τ->γ) (K:σ->γ):γ:=match r with
 |.rt r=>inj r
 |.nx s=>K s
 |.bk s=>K s
 |.ct s=>K s
def Bq (r:wA σ τ) (K:σ->Prop):Prop:=match r with
 |.rt _=>True
 |.nx s=>K s
 |.bk s=>K s
 |.ct s=>K s
def abO (r:wA σ τ) (K:σ->Option Prop):Option Prop:=some (Bq r λs=>hold (K s))
def Q7 {c:τ->Bx} (E:σ->Ev) (s0:σ) (hE:ρ=E s0) (it:R fi ρ (iE e)) (ρ2:σ->α->Ev) (hg:∀ s x,gt (e x) (E s)=some (ρ2 s x)) (body:∀ s x,R gb (ρ2 s x) (cC E c)) (inj:τ->γ) (hj:∀ r,cO (inj r)=.rt (c r)) (K:∀ s,R k (E s) cO):R (aJ (nU fi gt gb) k) ρ cO:=⟨behind (q8 (λs x=>(body s x).v) it.v s0) inj λs=>(K s).v,bh (bh it.D (some (zT (λs x=>(body s x).v) (λs x=>(body s x).D) it.v s0))) (abO (q8 (λs x=>(body s x).v) it.v s0) λs=>(K s).D),λhd=>by
 obtain⟨h,h4⟩:=aC hd;obtain⟨h1,h2⟩:=aC h;have e1:nU fi gt gb ρ=some (cC E c (q8 (λs x=>(body s x).v) it.v s0)):=by
  unfold nU;rw[it.ok h1,bnd];subst hE;exact J1 E ρ2 hg body it.v s0 h2
 rcases Ea (λs x=>(body s x).v) it.v s0 with⟨s',es⟩|⟨r,es⟩
 ·rw[es] at e1 h4 ⊢;rw[lV e1];exact(K s').ok h4
 ·rw[es] at e1 ⊢;show aJ (nU fi gt gb) k ρ=some (cO (inj r));unfold aJ;rw[e1,hj];rfl⟩
theorem ae3 (h:ρ[i]?=some (some (.l ds))):Cu i gt gb ρ=qQ gt gb ds ρ:=by unfold Cu;rw[h]
theorem ae4 (h:ρ[i]?=some (some (.z (.lst ds)))):Cu i gt gb ρ=qQ gt gb ds ρ:=by unfold Cu;rw[h];rfl
theorem YL (hp:Lp b ds) (h:ρ[i]?=some (some b)):Cu i gt gb ρ=qQ gt gb ds ρ:=by
 rcases hp with rfl|rfl
 ·exact ae4 h
 ·exact ae3 h
def YM (i:Nat) {ρ':Ev} (xs:List α) (hv:Cu i gt gb ρ=qQ gt gb (xs.map e) ρ') (E:σ->Ev) (s0:σ) (hE:ρ'=E s0) (ρ2:σ->α->Ev) (hg:∀ s x,gt (e x) (E s)=some (ρ2 s x)) (body:∀ s x,R gb (ρ2 s x) (λs=>Out.nx (E s))) (K:∀ s,R k (E s) cO):R (aJ (Cu i gt gb) k) ρ cO:=⟨(K (xs.foldl (λs x=>(body s x).v) s0)).v,bh (some (pU (λs x=>(body s x).v) (λs x=>(body s x).D) xs s0)) (K (xs.foldl (λs x=>(body s x).v) s0)).D,λhd=>by
 obtain⟨h2,h4⟩:=aC hd;rw[lV (ρ':=E (xs.foldl (λs x=>(body s x).v) s0)) (by
  rw[hv,hE];exact xZ E ρ2 hg body xs s0 h2)]
 exact(K _).ok h4⟩
class Ky {κ:Type} (c:κ->Key):Prop where
 inj:∀ a b,c a=c b->a=b
abbrev kS:Str->Key:=Sum.inr
abbrev kI:Int->Key:=Sum.inl
instance:Ky kS:=⟨λ_ _ h=>by cases h;rfl⟩
instance:Ky kI:=⟨λ_ _ h=>by cases h;rfl⟩
abbrev mE (e:α->Dt):List (Str×α)->Bx:=λm=>.m (m.map λq=>(kS q.1,e q.2)) none
abbrev nE (e:α->Dt):List (Str×α)->Bx:=λm=>.n (m.map λq=>(kS q.1,e q.2))
section
variable [DecidableEq κ] {c:κ->Key}
def look [Inhabited α] (m:List (κ×α)) (x:κ):α:=((m.find? λq=>decide (q.1=x)).map (·.2)).getD default
def has (m:List (κ×α)) (x:κ):Bool:=m.any λq=>decide (q.1=x)
def put (m:List (κ×α)) (x:κ) (a:α):List (κ×α):=if has m x=true then m.map (λq=>if q.1=x then(q.1,a) else q) else m++[(x,a)]
theorem ac6 [Ky c] (a b:κ):decide (c a=c b)=decide (a=b):=by
 by_cases h:a=b
 ·rw[h];simp
 ·rw[qf h,qf λz=>h (Ky.inj (c:=c) _ _ z)]
theorem YQ [Ky c] (m:List (κ×α)) (x:κ):CZ (m.map λq=>(c q.1,e q.2)) (c x)=((m.find? λq=>decide (q.1=x)).map (·.2)).map e:=by
 unfold CZ;rw[List.find?_map];simp only[Option.map_map,Function.comp_def,ac6]
theorem YS [Ky c] [Inhabited α] {m:List (κ×α)} {x:κ} (h:has m x=true):CZ (m.map λq=>(c q.1,e q.2)) (c x)=some (e (look m x)):=by
 rw[YQ];unfold look;unfold has at h;rw[ki] at h;obtain⟨q,hq,hx⟩:=h;cases hf:m.find? λq=>decide (q.1=x) with
 |none=>exact absurd hx (by simpa using List.find?_eq_none.mp hf q hq)
 |some q=>rfl
theorem Tz [Ky c] (m:List (κ×α)) (x:κ) (a:α):Jz (m.map λq=>(c q.1,e q.2)) (c x) (e a)=(put m x a).map λq=>(c q.1,e q.2):=by
 unfold Jz put has;rw[List.any_map];simp only[Function.comp_def,ac6];by_cases h:(m.any λq=>decide (q.1=x))=true
 ·rw[zi h,zi h];rw[Qr,Qr];refine jS λq _=>?_;simp only[Function.comp];by_cases hq:q.1=x
  ·simp[hq]
  ·have h':¬ c q.1=c x:=λz=>hq (Ky.inj (c:=c) _ _ z);simp[hq,h']
 ·rw[zC h,zC h];simp
end
theorem NP:∀ m:List (Str×α),Ve (m.map λq=>(kS q.1,e q.2))=some (m.map (·.1))
 |[]=>rfl
 |q::m=>by rw[zr,Ve,NP m,bnd];rfl
def zq [Inhabited α] (a:R fa ρ (nE e)) (b:R fb ρ (zE eS)):R (b2 tY fa fb) ρ (zE e):=⟨look a.v b.v,bh (bh a.D b.D) (some (has a.v b.v=true)),λh=>by
 obtain⟨h,h3⟩:=aC h;obtain⟨h1,h2⟩:=aC h;simp only[b2,a.ok h1,b.ok h2,bnd,tY,kyB,YS (c:=kS) (show has a.v b.v=true from h3)]⟩
end
section
variable {fs:Ev->Option LS_} {e:α->Dt}
theorem Br (h:qj b=some ds):qT b=some ds:=by
 cases b with
 |z d=>cases d<;>first|exact h|(cases h;done)
 |l _=>exact h
 |o _=>exact h
 |n _=>cases h
 |m _ _=>cases h
theorem ac7 (n:Nat):∃ m,m=n:=⟨n,rfl⟩
noncomputable def kN (n:Nat):Nat:=Classical.choose (ac7 n)
theorem NQ (n:Nat):kN n=n:=Classical.choose_spec (ac7 n)
noncomputable def YT (n:Int) (m:Nat) (hm:n.toNat=m) (hn:Rg n):R (Mq (aq (cB (.int n)) aH)) ρ (iE eI):=⟨rng 0 (kN m),none,λh=>by rw[NQ];exact(ae1 n m hm hn).ok h⟩
end
end P1
namespace P1
open L2 S1 S6
class oV {α:Type} (e:α->Dt) where
 k:α->Key
 ok:∀ a,abd (e a)=some (k a)
 inj:∀ a b,k a=k b->a=b
 same:∀ a b,Sy (k a) (k b)=true
instance:oV eI:=⟨λi=>.inl i,λ_=>rfl,λa b h=>by cases h;rfl,λ_ _=>rfl⟩
instance:oV eS:=⟨λi=>.inr i,λ_=>rfl,λa b h=>by cases h;rfl,λ_ _=>rfl⟩
class qL {α:Type} (e:α->Dt) where
 k:α->List Key
 ok:∀ a,Dg (e a)=some (k a)
 inj:∀ a b,k a=k b->a=b
 shp:∀ a b,JC (k a) (k b)=true
 ne:∀ a,(k a).isEmpty=false
class YW {α:Type} (e:α->Dt) [qL e]:Prop where
 tx:∀ a,Ng (qL.k e a)=true
section
variable {e:α->Dt} {e':β->Dt} {e'':γ->Dt} {e3:δ->Dt}
instance [oV e] [oV e']:qL (eP2 e e'):=⟨λq=>[oV.k e q.1,oV.k e' q.2],λq=>by simp only[Dg,zN,oV.ok,bnd],λa b h=>by
 simp only[ku,and_true] at h;exact Prod.ext (oV.inj _ _ h.1) (oV.inj _ _ h.2),λa b=>by simp[JC,oV.same],λ_=>rfl⟩
instance [oV e] [oV e'] [oV e'']:qL (eP3 e e' e''):=⟨λq=>[oV.k e q.1,oV.k e' q.2.1,oV.k e'' q.2.2],λq=>by simp only[Dg,zN,oV.ok,bnd],λa b h=>by
 simp only[ku,and_true] at h;exact Prod.ext (oV.inj _ _ h.1) (Prod.ext (oV.inj _ _ h.2.1) (oV.inj _ _ h.2.2)),λa b=>by simp[JC,oV.same],λ_=>rfl⟩
instance [oV e] [oV e'] [oV e''] [oV e3]:qL (eP4 e e' e'' e3):=⟨λq=>[oV.k e q.1,oV.k e' q.2.1,oV.k e'' q.2.2.1,oV.k e3 q.2.2.2],λq=>by simp only[Dg,zN,oV.ok,bnd],λa b h=>by
 simp only[ku,and_true] at h;exact Prod.ext (oV.inj _ _ h.1) (Prod.ext (oV.inj _ _ h.2.1) (Prod.ext (oV.inj _ _ h.2.2.1) (oV.inj _ _ h.2.2.2))),λa b=>by simp[JC,oV.same],λ_=>rfl⟩
instance [oV e]:YW (eP2 e eS):=⟨λa=>by simp[qL.k,Ng,oV.k]⟩
instance [oV e] [oV e']:YW (eP3 e eS e'):=⟨λa=>by simp[qL.k,Ng,oV.k]⟩
instance [oV e] [oV e'] [oV e'']:YW (eP4 e eS e' e''):=⟨λa=>by simp[qL.k,Ng,oV.k]⟩
variable {fs:Ev->Option (List (List Key))}
theorem wB [qL e]:∀ xs:List α,qW (xs.map e)=some (xs.map (qL.k e))
 |[]=>rfl
 |x::xs=>by simp only[zr,qW,qL.ok,bnd,wB xs]
def leT (e:α->Dt) [qL e] (a b:α):Bool:=vB (qL.k e a) (qL.k e b)
def rZ (e:α->Dt) [qL e] (xs:List α):List α:=xs.mergeSort (leT e)
theorem gq [qL e] (xs:List α):(rZ e xs).Perm xs:=KW ..
theorem Q8 [qL e] (xs:List α):(rZ e xs).Pairwise (λa b=>leT e a b=true):=k7 (le:=leT e) (λa b c=>vZ (qL.k e a) (qL.k e b) (qL.k e c)) (λa b=>wg (qL.k e a) (qL.k e b)) xs
theorem Ia [qL e] (xs:List α):jE (xs.map (qL.k e))=(rZ e xs).map (qL.k e):=by
 refine(qu ((gq xs).map _) (List.pairwise_map.mpr (Q8 xs))).symm
theorem YX [qL e] (xs:List α):(xs.map (qL.k e)).map tupK=xs.map e:=by
 rw[Qr];exact jS λa _=>(Mz (qL.ok a)).symm
theorem NT [qL e] (xs:List α) (h:xs.length < 64):Af (xs.map (qL.k e))=true:=by
 simp only[Af,ZE,qA,qi,qB,zl,K0,forall_exists_index,and_imp,forall_apply_eq_imp_iff₂];exact⟨h,λa _=>qL.ne a,λa _ b _=>qL.shp a b⟩
def ae5 [qL e] (a:RL fa ρ e):R (bU ud (aq fa aH)) ρ (oE e):=⟨rZ e a.v,bh a.D (some (a.v.length < 64)),λh=>by
 obtain⟨h,h4⟩:=aC h;simp only[bU,aq,aH,a.ok h,bnd,ud,Br a.lk,wB,NT a.v h4,qS,Ia,YX]⟩
abbrev uE (e:α->Dt) [qL e]:List α->List (List Key):=λxs=>xs.map (qL.k e)
def YZ [qL e] [YW e] (a:RL fa ρ e):R (QM fa) ρ (uE e):=⟨a.v,bh a.D (some (a.v.length<=64)),λh=>by
 obtain⟨h,h4⟩:=aC h;have h4:a.v.length<=64:=h4;have ht:(a.v.map (qL.k e)).all Ng=true:=by
  rw[List.all_map,qi];exact λx _=>YW.tx x
 simp only[QM,a.ok h,bnd,acZ,Br a.lk,wB];rw[zi ⟨by rw[zl];exact h4,ht⟩]⟩
def Y0 [DecidableEq α] [qL e] (a:R fs ρ (uE e)):R (Dp fs) ρ (oE e):=⟨rZ e (HJ a.v),bh a.D (some (a.v.length < 64)),λh=>by
 obtain⟨h,h4⟩:=aC h;simp only[Dp,a.ok h,bnd,NT a.v h4,qS,JQ qL.inj,Ia,YX]⟩
end
end P1
namespace P1
open L2
section
variable {fd:Ev->Option Bx} {fs:Ev->Option (List Bx)} {e:α->Dt} {e':β->Dt} {k:Ev->Option Out} {cO:γ->Out}
abbrev mW (w:Option Addr) (e:α->Dt):List (Str×α)->Bx:=λm=>.m (m.map λq=>(kS q.1,e q.2)) w
def aM (e:α->Dt) (t:γ->List Bx->Prop):List (Str×α)×γ->List Bx->Prop:=λx bs=>∃ b r,bs=b::r/\(b=nE e x.1\/b=mE e x.1)/\t x.2 r
def ai5 {t:γ->List Bx->Prop} (a:R fa ρ (nE e)) (r:AR t fs ρ):AR (aM e t) (aq fa fs) ρ:=⟨(a.v,r.v),bh a.D r.D,_,⟨_,_,rfl,.inl rfl,r.h⟩,λh=>by
 obtain⟨h1,h2⟩:=aC h;simp only[aq,a.ok h1,r.ok h2,bnd]⟩
def abP (w:Option Addr) (i:Nat) (m:List (Str×α)) (hi:ρ[i]?=some (some (mW w e m))) (a:R fa ρ (zE e)) (b:R fb ρ (zE eS)) (K:∀ m':List (Str×α),R k (ρ.set i (some (mW w e m'))) cO):R (aJ (XF i fa fb) k) ρ cO:=⟨(K (put m b.v a.v)).v,bh (bh (bh a.D b.D) (some (m.length < 1000))) (K (put m b.v a.v)).D,λhd=>by
 obtain⟨h,h4⟩:=aC hd;obtain⟨h,h3⟩:=aC h;obtain⟨h1,h2⟩:=aC h;rw[lV (ρ':=ρ.set i (some (mW w e (put m b.v a.v)))) (by
  unfold XF;rw[a.ok h1,bnd,b.ok h2,bnd];simp only[Mt,kyB,bnd,hi,mW,zl,zi (show m.length < 1000 from h3),Tz])]
 exact(K _).ok h4⟩
def mkD (qs:List (Str×β)):List (Str×β):=qs.foldl (λm q=>put m q.1 q.2) []
theorem Q9 (qs:List (Str×β)):dictOf (qs.map (eP2 eS e'))=(mkD qs).map λq=>(kS q.1,e' q.2):=by
 unfold dictOf mkD;have:∀ (qs:List (Str×β)) (m:List (Str×β)),(qs.map (eP2 eS e')).foldl aeN (m.map λq=>(kS q.1,e' q.2))=(qs.foldl (λm q=>put m q.1 q.2) m).map λq=>(kS q.1,e' q.2):=by
  intro qs
  induction qs with
  |nil=>intro m;rfl
  |cons q qs ih=>
   intro m;rw[zr,QP,QP];show(qs.map (eP2 eS e')).foldl aeN (Jz (m.map λq=>(kS q.1,e' q.2)) (kS q.1) (e' q.2))=_;rw[Tz (c:=kS)];exact ih _
 exact this qs []
def abQ (a:R fk ρ (zE eS)) (b:R fv ρ (zE e)):R (b2 Dq fk fv) ρ (zE (eP2 eS e)):=⟨(a.v,b.v),bh a.D b.D,λh=>by
 obtain⟨h1,h2⟩:=aC h;simp only[b2,a.ok h1,b.ok h2,bnd,Dq]⟩
def abR (i:R fi ρ (iE e)) (a:R (dY fi gt p (b2 Dq fk fv) is n) ρ (oE (eP2 eS e'))):R (Td fi gt p fk fv is n) ρ (mE e'):=⟨mkD a.v,bh (bh i.D (some (i.v.length < 1000))) a.D,λh=>by
 obtain⟨h,h3⟩:=aC h;obtain⟨h1,h2⟩:=aC h;have h2:i.v.length < 1000:=h2;have ha:=a.ok h3;unfold dY at ha;unfold Td;rw[i.ok h1,bnd] at ha ⊢;rw[zi (by rw[zl];omega)] at ha;rw[zi (by rw[zl];exact h2)];obtain⟨out,eo,ha⟩:=bind_some ha;rw[eo,bnd];injection ha with ha;injection ha with ha;rw[ha,Q9]⟩
def ai6 (a:R fd ρ (nE e)):R (Tf fd) ρ (iE eS):=⟨a.v.map (·.1),a.D,λh=>by
 simp only[Tf,a.ok h,bnd,keyB,Qr];rfl⟩
def abS (a:R fa ρ (nE e)):R (bU Ds (aq fa aH)) ρ (oE eS):=⟨a.v.map (·.1),a.D,λh=>by
 simp only[bU,aq,aH,a.ok h,bnd,Ds,NP]⟩
def Y4 (a:R fa ρ (zE eS)) (b:R fb ρ (zE eS)):R (bU uh (aq fa (aq fb aH))) ρ (zE eS):=⟨if qK b.v a.v=true then b.v else a.v,bh a.D b.D,λh=>by
 obtain⟨h1,h2⟩:=aC h;simp only[bU,aq,aH,a.ok h1,b.ok h2,bnd,uh];rfl⟩
def ae6 (a:R fa ρ (zE eS)) (b:R fb ρ (zE eS)):R (bU Np (aq fa (aq fb aH))) ρ (zE eS):=⟨if qK a.v b.v=true then b.v else a.v,bh a.D b.D,λh=>by
 obtain⟨h1,h2⟩:=aC h;simp only[bU,aq,aH,a.ok h1,b.ok h2,bnd,Np];rfl⟩
theorem abT {bs:List Bx} {m:List (Str×α)} {ρ2:List (Str×α)->Ev} (x:R g ((mW (some a) e m::bs).map some++List.replicate (n - (bs.length+1)) none) (λm'=>Out.nx (ρ2 m'))) (h:hold x.D) (h0:∀ m',(ρ2 m')[0]?=some (some (mW (some a) e m'))):Nq n g a (m.map λq=>(kS q.1,e q.2)) bs=some (x.v.map λq=>(kS q.1,e q.2)):=by
 unfold Nq;rw[x.ok h,bnd];simp only[h0,qS]
def ae7 {cA:γ->List Bx->Prop} {cO:δ->Out} {T:List (Str×α)->γ->List (Str×α)} {Df:List (Str×α)->γ->Option Prop} (w:Option Addr) (i:Nat) (m:List (Str×α)) (hi:ρ[i]?=some (some (mW w e m))) (S:∀ m v bs,cA v bs->bs.length=n/\bs.all isZ=true/\(hold (Df m v)->∀ a,G a (m.map λq=>(kS q.1,e q.2)) bs=some ((T m v).map λq=>(kS q.1,e q.2)))) (a:AR cA fs ρ) (K:∀ m':List (Str×α),R k (ρ.set i (some (mW w e m'))) cO):R (aJ (Dv i n G fs) k) ρ cO:=⟨(K (T m a.v)).v,bh (bh a.D (Df m a.v)) (K (T m a.v)).D,λhd=>by
 obtain⟨h,h4⟩:=aC hd;obtain⟨h1,h2⟩:=aC h;obtain⟨s1,s2,s3⟩:=S m a.v a.bs a.h;rw[lV (Yv hi (a.ok h1) s1 s2 (s3 h2))];exact(K _).ok h4⟩
end
section
variable {e:α->Dt}
def sU [DecidableEq α] (x:α) (ys:List α):Bool:=decide (x∈ys)
theorem uq [DecidableEq α] {x:α} {ys:List α}:sU x ys=true↔x∈ys:=by unfold sU;rw[qA]
theorem NZ [DecidableEq α] [Eqs e n] (hn:n<=60) (x:α) (ys:List α):VB (e x) (ys.map e)=some (decide (x∈ys)):=by
 unfold VB;rw[zi]
 ·congr 1;rw[List.any_map,KS,ki,qA];constructor
  ·rintro⟨y,hy,h⟩;simp only[Function.comp,Eqs.eq] at h;by_cases q:y=x
   ·exact q▸hy
   ·simp[q,isT] at h
  ·intro h;exact⟨x,h,by simp[Function.comp,Eqs.eq,isT]⟩
 ·rw[List.all_map,qi];intro y _;have:=Eqs.dp (e:=e) y;simp only[Function.comp,Eqs.eq,Option.isSome_some,yn,qA];omega
def ae8 [DecidableEq α] [Eqs e n] (hn:n<=60) (a:R fa ρ (zE e)) (b:RL fb ρ e):R (b2 Gk fa fb) ρ (zE eB):=⟨!sU a.v b.v,bh a.D b.D,λh=>by
 obtain⟨h1,h2⟩:=aC h;simp only[b2,a.ok h1,b.ok h2,bnd,Gk,Br b.lk,NZ hn,sU]⟩
def J2 [DecidableEq α] [Eqs e n] (hn:n<=60) (a:R fa ρ (zE e)) (b:R fb ρ (zE (eT e))):R (b2 Gk fa fb) ρ (zE eB):=⟨!sU a.v b.v,bh a.D b.D,λh=>by
 obtain⟨h1,h2⟩:=aC h;simp only[b2,a.ok h1,b.ok h2,bnd,Gk,qT,eT,NZ hn,sU]⟩
end
end P1
namespace P1
open L2 S1 S6
def kT (xs:LS_):List Key:=xs.map Sum.inr
theorem N5:∀ (xs:LS_),zN (xs.map eS)=some (kT xs)
 |[]=>rfl
 |x::xs=>by simp only[zr,zN,abd,bnd,N5 xs];rfl
theorem Ib:∀ (xss:List LS_),qW (xss.map (eT eS))=some (xss.map kT)
 |[]=>rfl
 |x::xss=>by simp only[zr,qW,Dg,eT,N5,bnd,Ib xss]
def ae9 (a b:LS_):Bool:=vB (kT a) (kT b)
def rz (xss:List LS_):List LS_:=xss.mergeSort ae9
theorem oW (xs:List LS_):(rz xs).Perm xs:=KW ..
theorem N6 (xs:List LS_):(rz xs).Pairwise (λa b=>ae9 a b=true):=k7 (le:=ae9) (λa b c=>vZ (kT a) (kT b) (kT c)) (λa b=>wg (kT a) (kT b)) xs
theorem Ra (xs:List LS_):jE (xs.map kT)=(rz xs).map kT:=(qu ((oW xs).map _) (List.pairwise_map.mpr (N6 xs))).symm
theorem abU (xs:List LS_):(xs.map kT).map tupK=xs.map (eT eS):=by
 rw[Qr];refine jS λa _=>?_;show Dt.tup ((kT a).map dK)=Dt.tup (a.map eS);unfold kT;rw[Qr];rfl
theorem afa (a b:LS_):JC (kT a) (kT b)=true:=by
 unfold JC kT;rw[qi];rintro⟨x,y⟩ h;obtain⟨h1,h2⟩:=KO h;obtain⟨p,_,rfl⟩:=List.mem_map.mp h1;obtain⟨q,_,rfl⟩:=List.mem_map.mp h2;rfl
theorem abV (xs:List LS_) (h:xs.length < 64) (hn:∀ x∈xs,x.isEmpty=false):Af (xs.map kT)=true:=by
 simp only[Af,ZE,qA,qi,qB,zl,K0,forall_exists_index,and_imp,forall_apply_eq_imp_iff₂];refine⟨h,λa ha=>?_,λa _ b _=>afa a b⟩;have:=hn a ha;cases a with
 |nil=>cases this
 |cons _ _=>rfl
def abW (a:RL fa ρ (eT eS)):R (bU ud (aq fa aH)) ρ (oE (eT eS)):=⟨rz a.v,bh a.D (some (a.v.length < 64/\∀ x∈a.v,x.isEmpty=false)),λh=>by
 obtain⟨h,h4⟩:=aC h;obtain⟨h4,h5⟩:a.v.length < 64/\∀ x∈a.v,x.isEmpty=false:=h4;simp only[bU,aq,aH,a.ok h,bnd,ud,Br a.lk,Ib,abV a.v h4 h5,qS,Ra,abU]⟩
section
variable {e:α->Dt}
theorem map_some (e:α->Dt) (xs:List α):(xs.map some).map (eO e)=xs.map e:=by rw[Qr];rfl
end
end P1
namespace P1
open L2
section
variable {k:Ev->Option Out} {cO:α->Out}
end
section
variable {e:α->Dt}
end
section
variable {σ τ:Type} {k:Ev->Option Out} {cO:γ->Out}
end
section
variable {e:α->Dt}
end
section
variable {σ τ:Type}
theorem J3 {step:σ->α->σ} {P:σ->α->Option Prop} (I:Nat->σ->Prop):∀ (xs:List α) (m:Nat) (s0:σ),I m s0->(∀ k x s,xs[k]?=some x->I (m+k) s->hold (P s x)/\I (m+k+1) (step s x))->pU step P xs s0/\I (m+xs.length) (xs.foldl step s0)
 |[],m,s0,h0,_=>⟨trivial,h0⟩
 |x::xs,m,s0,h0,hs=>by
  obtain⟨h1,h2⟩:=hs 0 x s0 rfl h0;have:=J3 I xs (m+1) (step s0 x) h2 λk y s e h=>by
   have:=hs (k+1) y s (by simpa using e) (by rw[show m+(k+1)=m+1+k by omega];exact h);rw[show m+(k+1)+1=m+1+k+1 by omega] at this;exact this
  refine⟨⟨h1,this.1⟩,?_⟩;rw[QE,show m+(xs.length+1)=m+1+xs.length by omega];exact this.2
theorem abX {i:Int} {k:Nat} {x:Int} (h:(rng i n)[k]?=some x):x=i+k/\k < n:=by
 unfold rng at h;rw[Zl] at h;cases hk:(List.range n)[k]? with
 |none=>rw[hk] at h;cases h
 |some j=>
  rw[hk] at h;have hl:k < n:=by simpa using(List.getElem?_eq_some_iff.mp hk).1
  have:j=k:=by
   rw[List.getElem?_range hl] at hk;cases hk;rfl
  subst this;cases h;exact⟨rfl,hl⟩
theorem oX (i:Int) (n:Nat):(rng i n).length=n:=by unfold rng;simp
theorem abY {i:Int} {x:Int} (h:x∈rng i n):i<=x/\x < i+n:=by
 unfold rng at h;obtain⟨k,hk,rfl⟩:=List.mem_map.mp h;have:=List.mem_range.mp hk;omega
theorem ur {step:σ->Int->σ} {P:σ->Int->Option Prop} (I:Nat->σ->Prop) (n:Nat) (s0:σ) (h0:I 0 s0) (hs:∀ (k:Nat) s,k < n->I k s->hold (P s k)/\I (k+1) (step s k)):pU step P (rng 0 n) s0/\I n ((rng 0 n).foldl step s0):=by
 have:=J3 (P:=P) I (rng 0 n) 0 s0 h0 λk x s e h=>by
  obtain⟨rfl,hk⟩:=abX e;rw[k9] at h ⊢;rw[Int.zero_add];exact hs k s hk h
 rw[oX,k9] at this;exact this
theorem yc {step:Unit->α->wA Unit Bool} {P:Unit->α->Option Prop}:∀ xs:List α,(∀ x∈xs,hold (P () x)/\(step () x=.nx ()\/step () x=.ct ()))->q8 step xs ()=.nx ()/\zT step P xs ()
 |[],_=>⟨rfl,trivial⟩
 |x::xs,h=>by
  obtain⟨h1,h2⟩:=h x (zo ..);have ih:=yc (P:=P) xs λy hy=>h y (zt _ hy);rcases h2 with h2|h2
  ·exact⟨by unfold q8;rw[h2];exact ih.1,h1,by rw[h2];exact ih.2⟩
  ·exact⟨by unfold q8;rw[h2];exact ih.1,h1,by rw[h2];exact ih.2⟩
theorem jY [Inhabited α] {xs:List α} {i:Int} (h:In xs.length i):at' xs i∈xs:=by
 obtain⟨x,hx⟩:=uQ h;unfold at';rw[hx];unfold BX at hx;obtain⟨j,_,hx⟩:=bind_some hx;exact qE hx
theorem afb [Inhabited α] {xs:List α} {k:Nat} {x:α} (h:xs[k]?=some x):at' xs (k:Int)=x:=by
 have hl:k < xs.length:=(List.getElem?_eq_some_iff.mp h).1;unfold at' BX ixN;rw[zi (by omega),zi (by omega),bnd,kC,h];rfl
theorem Eb [Inhabited α] (xs:List α) (k:Nat) (h:k < xs.length):at' xs (k:Int)=xs[k]:=afb (zS h)
theorem in_of {i:Int} (h0:0<=i) (h1:i < n):In n i:=⟨by omega,h1⟩
theorem zu {k:Nat} (h:k < n):In n (k:Int):=⟨by omega,by omega⟩
theorem jl {x m:Int} (hm:0 < m) (h:m<=n):In n (x % m):=in_of (Int.emod_nonneg _ (by omega)) (Int.lt_of_lt_of_le (Int.emod_lt_of_pos _ hm) h)
theorem fX (x:Int) {m:Int} (hm:0 < m):0<=x % m/\x % m < m:=⟨Int.emod_nonneg _ (by omega),Int.emod_lt_of_pos _ hm⟩
theorem Ie {j:Int} (h0:0<=j) (h1:j<=1000000):Rg j:=⟨by omega,by omega⟩
theorem Y5 {a b:Int} (h0:0<=a) (h1:a < 18446744073709551616):Mul a b:=.inl ⟨by omega,h1⟩
theorem abZ {xs:List α} {x:α} (h:x∈cut xs lo hi):x∈xs:=List.mem_of_mem_drop (List.mem_of_mem_take h)
theorem ab0 (xs:List α) (lo hi:Option Int):(cut xs lo hi).length<=xs.length:=by
 unfold cut;rw[JJ,kg];omega
theorem Y6 {xs:List α} {k:Nat} (h:k<=xs.length):cut xs (some (k:Int)) none=xs.drop k:=by
 unfold cut;rw[HT.RW,HT.K9,Nat.min_eq_left h,List.take_of_length_le (by simp)]
theorem afc {xs:List α} {k:Nat} (h:k<=xs.length):cut xs none (some (k:Int))=xs.take k:=by
 unfold cut;rw[HT.RW,HT.K9,Nat.min_eq_left h,Nat.sub_zero,List.drop_zero]
theorem lH (x y:Str):(x++y).length=x.length+y.length:=by
 show(x.cps++y.cps).size=_;rw[Kt];rfl
theorem pW (x:Str) (i:Int):(ch x i).length=1:=rfl
theorem slice_le (x:Str) (l u:Option Int):(Txt.slice x l u).length<=x.length:=PyProof.Txt.length_slice_le x l u
theorem VF (x:Str):(chars x).length=x.length:=by unfold chars;rw[zl,qh];rfl
theorem VG (x:Str):(signs x).length=x.length:=by rw[YJ,zl,VF]
end
section
variable [Inhabited α] {e:α->Dt} {k:Ev->Option Out} {cO:γ->Out}
end
section
variable {e:α->Dt} {k:Ev->Option Out} {cO:γ->Out}
end
section
variable {e:α->Dt} {k:Ev->Option Out} {cO:γ->Out}
def ab1 [Inhabited γ]:R (aJ noG k) ρ cO:=⟨default,some False,λh=>absurd h id⟩
def afd {c:α->Bx} (a:R f ρ c) (K:R k ρ cO):R (aJ (Tn f) k) ρ cO:=⟨K.v,bh a.D K.D,λhd=>by
 obtain⟨h1,h2⟩:=aC hd;rw[lV (ρ':=ρ) (by unfold Tn;rw[a.ok h1,bnd])];exact K.ok h2⟩
theorem ab2 {bs:List Bx} {ρ2:γ->Ev} (x:R g (bs.map some++List.replicate (n - bs.length) none) (λr=>Out.nx (ρ2 r))) (h:hold x.D):dI n g bs=some (.z .non):=by
 unfold dI;rw[x.ok h];rfl
end
section
variable {e:α->Dt}
end
section
variable {e:α->Dt} {e':β->Dt}
end
def RP (f:Ev->Option β) (ρ:Ev) (c:α->β) (v:α) (D:Option Prop):Prop:=hold D->f ρ=some (c v)
theorem R.tp {f:Ev->Option β} {c:α->β} {v':α} {D':Option Prop} (x:R f ρ c) (hv:x.v=v':=by kernel_rfl) (hD:x.D=D':=by kernel_rfl):RP f ρ c v' D':=λh=>by
 subst hv hD;exact x.ok h
def RP.r {f:Ev->Option β} {c:α->β} {v:α} {D:Option Prop} (h:RP f ρ c v D):R f ρ c:=⟨v,D,h⟩
theorem len1 {p:List α->Prop} (h:∀ a,p [a]):∀ us:List α,us.length=1->p us
 |[a],_=>h a
theorem len2 {p:List α->Prop} (h:∀ a b,p [a,b]):∀ us:List α,us.length=2->p us
 |[a,b],_=>h a b
theorem ai7 {p:List α->Prop} (h:∀ a b c,p [a,b,c]):∀ us:List α,us.length=3->p us
 |[a,b,c],_=>h a b c
theorem ai8 {p:List α->Prop} (h:∀ a b c d,p [a,b,c,d]):∀ us:List α,us.length=4->p us
 |[a,b,c,d],_=>h a b c d
theorem ai9 {p:List α->Prop} (h:∀ a b c d e,p [a,b,c,d,e]):∀ us:List α,us.length=5->p us
 |[a,b,c,d,e],_=>h a b c d e
end P1
namespace P1
open L2 S1
end P1
namespace P1
open L2
section
variable {fs:Ev->Option (List Bx)} {g1 g2:Ev->Option Out}
end
section
variable {rest:List Stmt} {g1 g2:Ev->Option Out}
end
section
variable {ks:List V} {o:Obj}
end
section
variable {M0 M1 M2 er:Expr} {f0 f2:Ev->Option Bx} {d0 d2:Dt} {z0 z1 z2 z3:Pos}
end
section
variable {st:List Stmt} {fr:Ev->Option Bx} {i':Nat} {W:List Nat} {z:Pos}
end
section
variable {a b c g1 g2:Ev->Option Out} {k:Nat}
end
end P1
namespace P1
open L2 S6
section
variable {kx vx t1 i1 t2 i2:Expr} {f1 f2:List Expr} {xs:LS_} {g1 g2:Dt->Ev->Option Ev} {p1 p2:Ev->Option Bool} {fi1 fi2:Ev->Option (List Dt)} {fs:Ev->Option (List Dt)} {N m:Nat}
def cls2 (fi:Ev->Option (List Dt)) (gt:Dt->Ev->Option Ev) (p:Ev->Option Bool) (fs:Ev->Option (List Dt)) (is:List Nat) (n:Nat):Ev->Option (List Dt):=λρ=>(fi ρ).bind λds=>Ae gt p fs (iY is ρ++List.replicate n none) ds
end
end P1
namespace P1
open L2
section
variable {e:α->Dt} {e':β->Dt} {fs:Ev->Option (List Dt)}
end
def hx (h:Heap) (a:Addr):HO:=.ext λh'=>h'.get? a=h.get? a
section
variable {H2:Hp} {as:List Addr}
end
section
variable {l:Addr} {gs:List (Int×Addr×List Dt)} {k:Int} {x:Dt} {u:V}
end
section
variable {e1 e2 ev:Expr} {f2:Ev->Option Bx} {y w:Str} {pw py py2 py3 px p1 p3 p4 pl a1 a2 c1 c2:Pos}
end
end P1
namespace P1
open L2 S6
section
variable {kx vx t1 i1 t2 i2:Expr} {f1 f2:List Expr} {xs:LS_} {g1 g2:Dt->Ev->Option Ev} {p1 p2:Ev->Option Bool} {fi1 fi2:Ev->Option (List Dt)} {m:Nat}
end
end P1
namespace P1
open L2
section
variable {e:α->Dt} {e0:β->Dt} {fd f2:Ev->Option Bx} {kk:Ev->Option Out} {cO:γ->Out}
end
section
variable {e:α->Dt} {fs:Ev->Option (List Dt)}
end
section
variable {a:Expr}
end
theorem cU {bs:List Bx} {c:α->Bx} {v:α} {D:Option Prop} (x:RP g (bs.map some++List.replicate (n - bs.length) none) (λr=>Out.rt (c r)) v D) (h:hold D):dI n g bs=some (c v):=aeY x.r h
section
variable {e:α->Dt}
end
open PySem.Builtin PySem.Builtin.Str
section
variable {o:Expr} {fx:Ev->Option Bx}
end
section
variable {g:Ev->Option Str}
end
section
variable {e1 e2 e3:Expr} {gr:Ev->Option Out} {fx:Ev->Option Dt} {tR tQ:TS} {xr xj y1 y2:Str} {rest no:List Stmt} {kk:Nat} {p0 p00 p01 p02 q1 q2 pt pj pa px pb pif pf2 px3 a1 c1 pe1 pr a2 pj2 c2 pe2:Pos}
end
section
variable {e:α->Dt} {ea:β->Dt} {eb:δ->Dt} {kk:Ev->Option Out} {cO:γ->Out}
end
end P1
namespace P1
open L2 S1
section
variable {k:Nat} {f:Addr} {p:Pos}
end
end P1
namespace P1
open L2 S1 S6
theorem len0 {p:List α->Prop} (h:p []):∀ us:List α,us.length=0->p us
 |[],_=>h
section
variable {e:α->Dt} {g:Ev->Option Bx} {c:α->Bx}
end
def x_k (d:Dt):R (cB d) ρ (zE eD):=Dy d eD d rfl
def x_i (i:Int):R (cB (.int i)) ρ (zE eI):=Dy (.int i) eI i rfl
def x_s (s:Str):R (cB (.str s)) ρ (zE eS):=Dy (.str s) eS s rfl
abbrev Nn (K:FG_) (n:Str) (f:Addr):Prop:=nsIn K mainGlobals n=some (some (.ref f))
abbrev Lk (K:FG_) (f:Addr) (n:Str) (st:Stmt) (oc:Value) (od:Option Addr) (sl:Array (Option Value)) (kV dc pm:Value) (an:Option Addr) (cd ct:Value):Prop:=K.lookup f=some ⟨oc,od,.func (fnOf n n (qO st) (fP st) (aG st) .none kV dc pm an cd ct),sl⟩
end P1
namespace P1
open L2
section
variable {e:α->Dt}
end
def ExR (h:Heap) (e:Addr) (C:Value) (dx:Option Addr):Prop:=∃ vs sl,h.get? e=some ⟨C,dx,.fields vs,sl⟩/\vs[1]?=some .none/\vs[2]?=some .none
def Rb (h:Heap) (e:Addr) (C:Value) (dx:Option Addr) (fl:Value) (T:Addr):Prop:=
 ∃ vs sl oT ts,h.get? e=some ⟨C,dx,.fields vs,sl⟩/\vs[1]?=some (.ref T)/\T≠e/\h.get? T=some oT/\oT.data=.fields ts/\ts[3]?=some fl/\vs[2]?=some .none
structure J4 (S ch:List Addr) (h h':Heap):Prop where
 keep:∀ b o,h.get? b=some o->b∉ch->b∉S->h'.get? b=some o
 slot:∀ b o,h.get? b=some o->b∉ch->∃ sl,h'.get? b=some { o with slots:=sl }
theorem J4.trans {S c1 c2:List Addr} {h1 h2:Heap} (a:J4 S c1 h h1) (b:J4 S c2 h1 h2):J4 S (c1++c2) h h2:=by
 refine⟨λx o e n m=>b.keep x o (a.keep x o e (λz=>n (kF _ z)) m) (λz=>n (ZY _ z)) m,λx o e n=>?_⟩;obtain⟨s1,e1⟩:=a.slot x o e (λz=>n (kF _ z));obtain⟨s2,e2⟩:=b.slot x _ e1 (λz=>n (ZY _ z));exact⟨s2,e2⟩
theorem J4.mono {S S' c1 c2:List Addr} {h1:Heap} (a:J4 S c1 h h1) (hc:∀ b∈c1,b∈c2) (hs:∀ b∈S,b∈S'):J4 S' c2 h h1:=
 ⟨λx o e n m=>a.keep x o e (λz=>n (hc _ z)) (λz=>m (hs _ z)),λx o e n=>a.slot x o e (λz=>n (hc _ z))⟩
theorem J4.vA {S ch:List Addr} {h1:Heap} {l:List Env} (a:J4 S ch h h1) (nf:∀ b∈ch,∀ o,h.get? b=some o->∃ vs,o.data=.fields vs) (hl:h.FunFrames base l):h1.FunFrames base l:=
 hl.of_keeps λb o e hn=>by
  obtain⟨sl,q⟩:=a.slot b o e λz=>by
   obtain⟨vs,d⟩:=nf b z o e;exact hn vs d
  exact⟨_,q,rfl⟩
section
variable {L e T:Addr} {C fl:Value} {Q:Unit->Shared->Prop}
theorem Ig {head:Value} {hadNext:Bool} {vs:Array Value} (hfr:A.frames=some (env::outer)) (hl:s.heap.FunFrames base (env::outer)) (hf:env.frame=some L) (he:s.heap.get? e=some ⟨C,dx,.fields vs,sl⟩) (hsz:1 < vs.size) (h2:vs[2]?=some .none) (h:∀ h' T,s.heap.objs.size<=T->J4 (frs (env::outer)) [e] s.heap h'->Rb h' e C dx (rawInt L) T->Q () { s with heap:=h' }) :
  wpAny M A (do let a <-frameOf env;let pl <-entryPlaceOf L hadNext;let b <-EntryCells.newEntry head a .none (rawInt L) .none pl;setField (.ref e) 1 b) Q Ex s:=by
 have hene:e∉frs (env::outer):=λhm=>by
  obtain⟨_,o,ho,hnf⟩:=hl.mem hm;rw[he] at ho;cases ho;exact hnf vs rfl
 refine zb (wpAny_frameOf_fun hfr hl hf λh1 hs1=>?_);refine zb (wpAny_entryPlaceOf λpl hpl=>?_);unfold EntryCells.newEntry newFields;refine zb (qa ?_ (hpl.sizeOk5 _ _ _ _ _));have he1:h1.get? e=some ⟨C,dx,.fields vs,sl⟩:=(hs1.2.1 e hene).trans he;have he2:=zd (h:=h1) { cls:=.type "traceback", dict:=none,data:=.fields ([head,.ref L,.none,rawInt L,.none]++(if pl.isEmpty then List.replicate 6 Value.none else pl)).toArray } he1;refine wpAny_setField he2 rfl hsz (h _ h1.objs.size (by rw[hs1.1];exact zg _) ?_ ?_)
 ·have kp:∀ b o,b≠e->h1.get? b=some o->_:=λb o hb hq=>(Q2 _ (Obj.mapFields (·.setIfInBounds 1 (Value.ref h1.objs.size))) (km hb)).trans (zd
   { cls:=.type "traceback", dict:=none,data:=.fields ([head,.ref L,.none,rawInt L,.none]++(if pl.isEmpty then List.replicate 6 Value.none else pl)).toArray } hq)
  refine⟨λb o q n m=>kp b o (λz=>n (by simp[z])) ((hs1.2.1 b m).trans q),λb o q n=>?_⟩;obtain⟨sl',q'⟩:=hs1.2.2 b o q;exact⟨sl',kp b _ (λz=>n (by simp[z])) q'⟩
 ·have hTe:h1.objs.size≠e:=kL (zw he1);have he3:=QI (Obj.mapFields (·.setIfInBounds 1 (Value.ref h1.objs.size))) he2 (KA (JO rfl _));have hT3:=(Q2 (h1.push { cls:=.type "traceback", dict:=none,data:=.fields ([head,.ref L,.none,rawInt L,.none]++(if pl.isEmpty then List.replicate 6 Value.none else pl)).toArray })
   (Obj.mapFields (·.setIfInBounds 1 (Value.ref h1.objs.size))) (km hTe)).trans (zv h1 rfl)
  refine⟨_,_,_,_,he3,by simp[hsz],hTe,hT3,rfl,?_,?_⟩
  ·first|(simp;done)|(rcases hpl with rfl|⟨_,_,_,_,_,_,_,rfl⟩<;>simp)
  ·rw[Array.getElem?_setIfInBounds_ne (by decide)];exact h2
theorem Y7 (hfr:A.frames=some (env::outer)) (hl:s.heap.FunFrames base (env::outer)) (hf:env.frame=some L) (hx:ExR s.heap e C dx)
  (h:∀ h' T,s.heap.objs.size<=T->J4 (frs (env::outer)) [e] s.heap h'->Rb h' e C dx (rawInt L) T->Q () { s with heap:=h' }):wpAny M A (noteFrame (.ref e) env) Q Ex s:=by
 obtain⟨vs,sl,he,h1,h2⟩:=hx;unfold noteFrame;simp only[hf];refine zb (Q4 he rfl h1 ?_);rw[zC (by decide)];exact Ig hfr hl hf he (Array.getElem?_eq_some_iff.mp h1).1 h2 h
theorem VH (hf:env.frame=some L) (hx:Rb s.heap e C dx (rawInt L) T) (h:Q () s):wpAny M A (noteFrame (.ref e) env) Q Ex s:=by
 obtain⟨vs,sl,oT,ts,he,h1,hTe,hT,hd,h3,h2⟩:=hx;unfold noteFrame;simp only[hf];refine zb (Q4 he rfl h1 ?_);rw[zi (show(Value.ref T != Value.none)=true from by simp)];refine zb (Q4 hT hd h3 ?_);rw[zi (show(rawInt L==rawInt L)=true from by simp)];exact ze h
theorem TF {fl':Value} (hx:Rb s.heap e C dx fl T):∀ h',h'=s.heap.update T (Obj.mapFields (·.setIfInBounds 3 fl'))->J4 [] [T] s.heap h'/\Rb h' e C dx fl' T:=by
 obtain⟨vs,sl,oT,ts,he,h1,hTe,hT,hd,h3,h2⟩:=hx;have hsz:3 < ts.size:=(Array.getElem?_eq_some_iff.mp h3).1;intro h' eh;subst eh;have oth:∀ b,b≠T->(s.heap.update T (Obj.mapFields (·.setIfInBounds 3 fl'))).get? b=s.heap.get? b:=λb hb=>Q2 _ _ (km hb);refine⟨⟨λb o q n _=>(oth b λz=>n (by simp[z])).trans q,λb o q n=>⟨o.slots,(oth b λz=>n (by simp[z])).trans q⟩⟩,vs,sl,_,_,(oth e (km hTe)).trans he,h1,hTe,
  QI _ hT (KA (JO hd _)),JO hd _,by simp[hsz],h2⟩
theorem rA (fr:Option Addr) (hx:Rb s.heap e C dx fl T) (h:∀ h',J4 [] [T] s.heap h'->Rb h' e C dx (fr.elim .none λf=>rawInt f) T->Q () { s with heap:=h' }):wpAny M A (setFlight (.ref e) fr) Q Ex s:=by
 obtain⟨x1,x2⟩:=TF (fl':=fr.elim .none λf=>rawInt f) hx _ rfl;obtain⟨vs,sl,oT,ts,he,h1,hTe,hT,hd,h3,h2⟩:=hx;unfold setFlight;refine zb (Q4 he rfl h1 ?_);rw[zi (show(Value.ref T != Value.none)=true from by simp)];exact wpAny_setField hT hd (Array.getElem?_eq_some_iff.mp h3).1 (h _ x1 x2)
theorem TJ (hfr:A.frames=some (env::outer)) (hl:s.heap.FunFrames base (env::outer)) (hf:env.frame=some L) (hx:Rb s.heap e C dx .none T)
  (h:∀ h' T',s.heap.objs.size<=T'->J4 (frs (env::outer)) [T,e] s.heap h'->Rb h' e C dx (rawInt L) T'->Q () { s with heap:=h' }):wpAny M A (noteFrame (.ref e) env) Q Ex s:=by
 obtain⟨x1,x2⟩:=TF (fl':=.none) hx _ rfl;obtain⟨vs,sl,oT,ts,he,h1,hTe,hT,hd,h3,h2⟩:=hx;unfold noteFrame;simp only[hf];refine zb (Q4 he rfl h1 ?_);rw[zi (show(Value.ref T != Value.none)=true from by simp)];refine zb (Q4 hT hd h3 ?_);rw[zC (show ¬ ((Value.none==rawInt L)=true) from by simp[rawInt])];refine zb (wpAny_setField hT hd (Array.getElem?_eq_some_iff.mp h3).1 ?_);have x1':J4 (frs (env::outer)) [T] _ _:=x1.mono (λ_ z=>z) (λ_ z=>nomatch z);refine Ig (base:=base) hfr (x1.vA (λb z o q=>by
  obtain rfl:b=T:=by simpa using z
  rw[hT] at q;cases q;exact⟨_,hd⟩) hl) hf ((x1.keep e _ he (by simpa using km hTe) (by simp))) (Array.getElem?_eq_some_iff.mp h1).1 h2 λh' T' z c x=>?_
 exact h h' T' (by have:=Heap.size_after_update s.heap T (Obj.mapFields (·.setIfInBounds 3 Value.none));exact this▸z) (x1'.trans c) x
end
structure yd (X:Cx) (H:Hp) (b:Addr):Prop where
 un:H b=none
 ab:X.s₀.heap.objs.size<=b
 nl:b≠X.env.locals
 nc:∀ x c,X.env.cells.lookup x=some c->c≠b
section
variable {H':Hp} {h':Heap} {ch:List Addr}
theorem yd.new (I:Inv X [] σ H s) {b:Addr} (h:s.heap.objs.size<=b):yd X H b:=
 ⟨I.hok.fresh h,Zp I.sz h,λz=>by have:=I.lt;rw[<-z] at this;exact absurd this (Nat.not_lt.mpr h),λx c e z=>by
  obtain⟨v,q⟩:=I.cell x c e;have:c < s.heap.objs.size:=by
   obtain⟨o,q⟩:∃ o,s.heap.get? c=some o:=by
    first|(obtain⟨o,q,_⟩:=q;exact⟨o,q⟩)|exact⟨_,q⟩
   exact zw q
  rw[z] at this;exact absurd this (Nat.not_lt.mpr h)⟩
theorem Bt {t':Nat} (hpn:X.pn=[]) (I:Inv X [] σ H s) (c:J4 (frs X.stack) ch s.heap h') (hm:∀ b∈ch,yd X H b):Inv X [] σ H { s with heap:=h',toks:=t' }:=by
 refine I.step (g':=s.gens) (d':=s.drawn) (ch:=ch) (λb hb=>⟨.inr (hm b hb).ab,(hm b hb).nl,(hm b hb).nc,λp hp=>by rw[hpn] at hp;cases hp⟩)
  (λb o hL hb hc e n=>c.keep b o e hc λz=>(List.mem_cons.mp (I.Bw b z)).elim hL hb) (λb o _ _ hc e n=>c.slot b o e hc) (λ_ _ _ _ n=>n)
  (λb o hc e=>let ⟨_,q⟩:=c.slot b o e hc;⟨_,q⟩) (λ_ _ e=>e) (λ_ _ _ e=>e) (λb ps e=>⟨#[],by rw[e];simp⟩) (λm hm'=>?_) (λb u e=>?_) I.bare
 ·obtain⟨o,es,ep,ho,r⟩:=hm';obtain⟨sl,q⟩:=c.slot _ o ho λz=>(hm _ z).nl rfl;exact⟨_,es,ep,q,r⟩
 ·have ne:∀ (d:Addr) (w:HO),H d=some w->d∉ch/\d∉frs X.stack:=λd w q=>⟨λz=>(by rw[(hm d z).un] at q;cases q),λz=>(by rw[I.Ay d z] at q;cases q)⟩;refine(I.hok b u e).stay (λd v hd q=>?_) (λ_ q=>q) λ_ _ q=>q;rcases hd with z|z
  ·subst z;exact c.keep _ _ q (ne _ _ e).1 (ne _ _ e).2
  ·exact c.keep _ _ q (ne _ _ z).1 (ne _ _ z).2
def RX (X:Cx) (E:XK) (e:Value) (s:Shared):Prop:=
 ∃ a C dx σ H,e=.ref a/\Inv X [] σ H s/\yd X H a/\(ExR s.heap a C dx\/∃ T,yd X H T/\(Rb s.heap a C dx (rawInt X.env.locals) T\/Rb s.heap a C dx .none T))/\E C dx H
def Py (P:Program) (w:World):Uw:=λouter H s E e s'=>
 ∃ a C dx H' T,e=.ref a/\s'.os=s.os/\AllBare s'.gens/\Un (frs outer) [] H H' s.heap s'.heap/\sY P w H' s'.heap/\s.heap.objs.size<=a/\s.heap.objs.size<=T/\H' a=none/\H' T=none ∧
  Rb s'.heap a C dx .none T/\E C dx H'
theorem afe {fs:List Addr} {h1 h2:Heap} (u:Un fs [] H H' h h1) (c:J4 fs ch h1 h2) (hc:∀ b∈ch,h.get? b=none):Un fs [] H H' h h2:=by
 have nc:∀ b o,h.get? b=some o->b∉ch:=λb o e z=>by rw[hc b z] at e;cases e
 refine⟨λb o e n f x=>c.keep b o (u.keep b o e n f x) (nc b o e) f,λb o e n f x=>?_,u.free,λb o e x=>?_,u.tups,u.sJ,u.vQ⟩
 ·obtain⟨sl,q⟩:=u.slot b o e n f x;obtain⟨sl',q'⟩:=c.slot b _ q (nc b o e);exact⟨sl',q'⟩
 ·obtain⟨o',q⟩:=u.there b o e x;obtain⟨sl,q'⟩:=c.slot b _ q (nc b o e);exact⟨_,q'⟩
theorem TQ {E:XK} {Q:Unit->Shared->Prop} {C:Value} (hpn:X.pn=[]) (hst:X.stack=X.env::X.outer) (hf:X.env.frame=some X.env.locals) (I:Inv X [] σ H s) (ma:yd X H a) (hx:ExR s.heap a C dx\/∃ T,yd X H T/\(Rb s.heap a C dx (rawInt X.env.locals) T\/Rb s.heap a C dx .none T)) (h:∀ h' T,Inv X [] σ H { s with heap:=h' }->yd X H T->Rb h' a C dx (rawInt X.env.locals) T->Q () { s with heap:=h' }):wpAny (model X.prog X.w) X.A (noteFrame (.ref a) X.env) Q Ex s:=by
 rcases hx with x|⟨T,mT,x|x⟩
 ·have fr:=I.stack;rw[hst] at fr;refine Y7 (base:=X.base) (hst▸I.ok.frames) fr hf x λh' T z c x'=>?_;rw[<-hst] at c;have mT:yd X H T:=yd.new I z;exact h h' T (Bt (t':=s.toks) hpn I c (λb hb=>(List.mem_singleton.mp hb)▸ma)) mT x'
 ·exact VH hf x (h s.heap T I mT x)
 ·have fr:=I.stack;rw[hst] at fr;refine TJ (base:=X.base) (hst▸I.ok.frames) fr hf x λh' T' z c x'=>?_;rw[<-hst] at c;exact h h' T' (Bt (t':=s.toks) hpn I c (λb hb=>by
   rcases List.mem_cons.mp hb with rfl|hb
   ·exact mT
   ·exact(List.mem_singleton.mp hb)▸ma)) (yd.new I z) x'
theorem VJ {E:XK} (hpn:X.pn=[]) (hst:X.stack=X.env::X.outer) (hf:X.env.frame=some X.env.locals):PassesOwn (model X.prog X.w) X.A X.env (RX X E):=by
 intro e s' h;obtain⟨a,C,dx,σ,H,rfl,I,ma,hx,he⟩:=h;refine TQ (E:=E) hpn hst hf I ma hx λh' T I' mT x=>?_;show wpAny _ _ _ _ _ _;obtain⟨vs,sl,oT,ts,h1,h2,h3,h4,h5,h6⟩:=id x;refine zb (Q4 h1 rfl h2 ?_);rw[zC (by simp)];rw[hf];refine rA (s:={ s' with heap:=h' }) (some X.env.locals) x λh'' c x'=>?_;exact⟨a,C,dx,σ,H,rfl,Bt (s:={ s' with heap:=h' }) (t':=s'.toks) hpn I' (c.mono (λ_ z=>z) λ_ z=>nomatch z) (λb hb=>(List.mem_singleton.mp hb)▸mT),ma,.inr ⟨T,mT,.inl x'⟩,he⟩
theorem Y8 {E:XK} {e:Value} (hpn:X.pn=[]) (hst:X.stack=X.env::X.outer) (hf:X.env.frame=some X.env.locals) (hex:X.ex=[]) (h:RX X E e s) :
  wpAny (model X.prog X.w) X.A (leaving X.env e) (λ_ s''=>Py X.prog X.w X.outer X.H₀ X.s₀ E e s'') Ex s:=by
 obtain⟨a,C,dx,σ,H,rfl,I,ma,hx,he⟩:=h;unfold leaving;refine zb (TQ (E:=E) hpn hst hf I ma hx λh' T I' mT x=>?_);refine rA (s:={ s with heap:=h' }) none x λh'' c x'=>?_;have J:=Bt (s:={ s with heap:=h' }) (t':=s.toks) hpn I' (c.mono (λ_ z=>z) λ_ z=>nomatch z) (λb hb=>(List.mem_singleton.mp hb)▸mT);have u:=J.base;rw[hex] at u;exact⟨a,C,dx,H,T,rfl,J.os,J.bare,u,J.hok,ma.ab,mT.ab,ma.un,mT.un,x',he⟩
end
def XCl (h:Heap) (C:Addr) (bmB:List Value) (newId:String):Prop:=∃ nm q N bs bm hdct sn sub ab col dd k0 k1 k2 k3 k5,h.get? C=some (excClassObj nm q C N bs bm hdct sn sub ab col dd k0 k1 k2 k3 k5 newId)/\OwnTail h bmB bm
section
variable {g:Array GenState} {d:Drawn} {t:Nat} {fI e:Addr} {rest:List Value} {B:String}
abbrev TV (C t:Addr):Obj:={ cls:=.ref C,data:=.fields #[.ref t,.none,.none,.none,.bool false,.none] }
end
abbrev exD (C t:Addr) (dx:Option Addr):Obj:={ cls:=.ref C,dict:=dx,data:=.fields #[.ref t,.none,.none,.none,.bool false,.none] }
section
variable {g:Array GenState} {d:Drawn} {t:Nat} {fI e:Addr} {rest:List Value} {B:String}
theorem ab3 {x:Sem Value} {Q:Flow->Shared->Prop} (hbase:bmB.contains (.type "BaseException")=true) (hh:A.handled=none) (hq:wpAny M A x (λv s1=>∃ e t dx,v=.ref e/\XCl s1.heap C bmB newId/\s1.heap.get? e=some (exD C t dx)/\E (.ref e) s1) E s):wpAny M A (raiseStmt env (some x) none) Q E s:=by
 unfold raiseStmt;refine zb (ZU hq (λv s1 h1=>?_) λ_ _ z=>z);obtain⟨e,t,dx,rfl,⟨nm,q,N,bs,bm,hdct,sn,sub,ab,col,dd,k0,k1,k2,k3,k5,hC,T⟩,he,hE⟩:=h1;obtain⟨hp,g,d,tk,os⟩:=s1;dsimp only at hC he;have hcB:(Value.ref C::bm).contains (.type "BaseException")=true:=by rw[List.contains_cons,T.hasType hbase,Bool.or_true]
 repeat (first|with_reducible refine Ki he ?_|with_reducible refine Ki hC ?_|(with_reducible refine wpAny_isSubtype_exc hC ?_;rw[hcB])|wp_step)
 exact wpAny_raiseNew_none hh hE
theorem afh {Q:VP_} {t0:Addr} (F:ExcBaseFacts B newId initId bmB) (x:XCl h C bmB newId) (he:h.get? e=some (exD C t0 dx)) (hr:rest.length<=sizeLine) (hq:∀ h' t1,(∀ b o,b≠e->h.get? b=some o->h'.get? b=some o)->h'.get? e=some (exD C t1 dx)->h.objs.size<=t1->h'.objs.size=h.objs.size+1->Q .none ⟨h',g,d,t,os⟩) :
  wpAny (model prog w) A (call (.builtin initId) (.ref e::rest)) Q E ⟨h,g,d,t,os⟩:=by
 obtain⟨nm,q,N,bs,bm,hdct,sn,sub,ab,col,dd,k0,k1,k2,k3,k5,hC,T⟩:=x;refine KF (codeAny_call_builtin F.init.plain F.initEntry (wpAny_check_init_subT F T hC he rfl ?_))
 wp_walk
 refine hq _ h.objs.size (λb o hb z=>?_) ?_ (zg _) ?_
 ·rw[Q2 _ _ (km hb)];exact zd _ z
 ·rw[QI _ (zd _ he) rfl];rfl
 ·rw[Heap.size_after_update,qk]
end
abbrev veM:List Value:=[.type "ValueError", .type "Exception", .type "BaseException", .type "object"]
section
variable {g:Array GenState} {d:Drawn} {t:Nat} {e:Addr}
end
def Ed (K:FG_) (C:Addr):Bool:=
 (clsIn K C).any (λcd=>cd.hasDict&&(!cd.mro.isEmpty&&(cd.mro.contains (.type "BaseException")&&cd.mro.contains (.type "object"))))&&(findIn K (.ref C) "__getattribute__" == some (some (.builtin "BaseException.__getattribute__")) &&
  (findIn K (.ref C) "__getattr__" == some none&&(findIn K (.ref C) "__class__" == some (some (.builtin "object.__class__")) &&
  (specialIn K (.builtin "object.__class__") "__get__" == some (some (.builtin "getset_descriptor.__get__"))&&takesIn K (.builtin "object.__class__")==some true))))
section
variable {g:Array GenState} {d:Drawn} {t:Nat} {e dx:Addr} {vs:Array Value} {m:Str->Option Value}
structure ab4 (K:FG_) (C:Addr) (cd:ClassData):Prop where
 cls:clsIn K C=some cd
 dct:cd.hasDict=true
 ne:cd.mro.isEmpty=false
 be:cd.mro.contains (.type "BaseException")=true
 ob:cd.mro.contains (.type "object")=true
 ga:findIn K (.ref C) "__getattribute__" = some (some (.builtin "BaseException.__getattribute__"))
 hk:findIn K (.ref C) "__getattr__" = some none
 cl:findIn K (.ref C) "__class__" = some (some (.builtin "object.__class__"))
 gt:specialIn K (.builtin "object.__class__") "__get__" = some (some (.builtin "getset_descriptor.__get__"))
 tk:takesIn K (.builtin "object.__class__")=some true
theorem J5 (hs:Ed K C=true):∃ cd,ab4 K C cd:=by
 unfold Ed at hs;simp only[ZE,beq_iff_eq] at hs;obtain⟨h1,h2,h3,h4,h5,h6⟩:=hs;cases q:clsIn K C with
 |none=>rw[q] at h1;cases h1
 |some cd=>
  rw[q] at h1;have h1:(cd.hasDict&&(!cd.mro.isEmpty&&(cd.mro.contains (.type "BaseException")&&cd.mro.contains (.type "object"))))=true:=h1;simp only[ZE,qB] at h1;exact⟨cd,⟨q,h1.1,h1.2.1,h1.2.2.1,h1.2.2.2,h2,h3,h4,h5,h6⟩⟩
theorem ab4.sub {cd:ClassData} (G:ab4 K C cd):mroIn K C (.type "object")=some true/\mroIn K C (.type "BaseException")=some true:=by
 unfold mroIn;rw[G.cls,kf,kf,zC (by rw[G.ne];decide),zC (by rw[G.ne];decide),G.ob,G.be];exact⟨rfl,rfl⟩
theorem afi {cd:ClassData} {Q:VP_} {expr fill:Bool} {dx:Option Addr} {od:Option Obj} {tk:Tok} {fo:Builtin.ObjectAttr.Found} (X:K.In h) (G:ab4 K C cd) (I:InstAt h e ⟨.ref C,dx,.fields vs,sl⟩ C od)
  (hfo:findObj K C od name=some fo)
  (hq:wpAny (model prog w) A.in1 (match fo with|.value v=>ret v|.bind g a=>Builtin.ObjectAttr.bindTo g a (.ref e) (.ref C)|.missing=>unsupported "") (λfin s'=>match fin with|.done (.ret v)=>wpAny (model prog w) A (handedOut v) Q E s'|_=>False) (λ_ _=>False) ⟨h,g,d,t,os⟩)
  (hm:fo≠.missing):wpAny (model prog w) A (getAttrBy (.ref e) (.str name tk) fill expr) Q E ⟨h,g,d,t,os⟩:=by
 have hga:=looks_findIn (M:=model prog w) X G.ga;have hhk:PySem.W.Looks (model prog w) h (hookBefore (.ref C)) none:=PySem.W.looks_hook X (by rw[zi (by rfl)];exact G.hk);have sub:PySem.W.Looks (model prog w) h (isInstance (.ref e) (.type "BaseException")) true:=I.type.andThen (PySem.W.looks_mroIn X G.sub.2);unfold getAttrBy;refine qo (zb (I.type.at (zb (hga.at ?_))));have hx2:(Value.builtin "BaseException.__getattribute__" == Value.builtin "object.__getattribute__")=false:=by decide +kernel
 dsimp only;rw[zC (by rw[hx2,kD];decide)];unfold getAttrByItsOwn;refine zb (hhk.at (zb (ym (qo ?_))));unfold callGetattribute;rw[zC (by cases expr<;>simp[onTheHeap])];unfold boundAndCalled;have SF:=PySem.F.attrBase_ValueError.ga;rw[SF.bind];refine zb (ze ?_);refine KF (codeAny_call_builtin SF.plain PySem.F.entry_bexc_ga (@PySem.W.check_slot (model prog w) _ _ ⟨h,g,d,t,os⟩ "BaseException.__getattribute__" "BaseException" "__getattribute__" (.ref e) [.str name tk] [] _ (by decide +kernel) (by decide +kernel) sub (PySem.F.args_bexc_ga (.ref e) (.str name tk)) ?_));have L1:=PySem.W.looks_find (M:=model prog w) X I hfo;refine zb (ze (zb (ze (zb (I.type.at (zb (L1.at ?_)))))));cases fo with
 |missing=>exact absurd rfl hm
 |value v=>
  refine ZU hq (λfin s' z=>?_) (λ_ _ z=>False.elim z);rcases fin with (_|_|_|_)|_<;>first|exact z|exact z.elim
 |bind g a=>
  refine ZU hq (λfin s' z=>?_) (λ_ _ z=>False.elim z);rcases fin with (_|_|_|_)|_<;>first|exact z|exact z.elim
def ExI (e C:Addr) (h:Heap):Prop:=∃ dx vs sl od,InstAt h e ⟨.ref C,dx,.fields vs,sl⟩ C od
theorem ahg (hs:Ed K C=true):PySem.W.KitX K (.ref e) (.ref C) (ExI e C) where
 ty:=λM h X ⟨dx,vs,sl,od,I⟩=>I.type
 it:=λM h X _=>by
  obtain⟨cd,G⟩:=J5 hs;have hcD:=G.cls;unfold clsIn at hcD;split at hcD
  ·rename_i c' d' cd' sl' ho;intro A' Q' E' s' k q;unfold isType loadHead;exact zb (wpAny_loadPart (k _ _ (X _ _ ho)) (ze q))
  ·cases hcD
 ne:=λh tp dd its n sl X htp=>by
  obtain⟨cd,G⟩:=J5 hs;have hcD:=G.cls;refine Bool.eq_false_iff.mpr λq=>?_;have e:C=tp:=Value.ref.inj (beq_iff_eq.mp q);subst e;unfold clsIn at hcD;split at hcD
  ·rename_i c' d' cd' sl' ho;have z:=(X _ _ ho).symm.trans htp;cases z
  ·cases hcD
 ca:=λ{prog w A E Q s} X p k=>by
  obtain⟨cd,G⟩:=J5 hs;obtain⟨dx,vs,sl,od,I⟩:=p;obtain⟨h,g,d,t,os⟩:=s;have hfo:findObj K C od "__class__" = some (.bind (.builtin "getset_descriptor.__get__") (.builtin "object.__class__")):=by
   unfold findObj;rw[G.cls,kf,G.cl,kf];simp[G.gt,G.tk]
  unfold getAttr? getAttrBy?;refine zb (wpAny_mkText (zb (ym (afi X G I hfo ?_ (by intro z;cases z)))));refine zb (qo (KF (PySem.W.class_get (s:=⟨h,g,d,t+1,os⟩) (od:=od) X I G.sub.1 (ze ?_))));exact PySem.W.handed_on rfl (ze k)
end
def ExO (e C:Addr) (dx:Option Addr):HO:=.ext λh=>∃ t,h.get? e=some (exD C t dx)
theorem afj {e t:Addr} (q:h.get? e=some (exD C t dx)):eX P w H h e (ExO e C dx):=⟨⟨t,q⟩,⟨_,q⟩,λ_ _ ⟨t,p⟩ k=>⟨t,k _ p⟩⟩
section
variable {o value:Expr} {tv:TE} {f:Str} {pos' p:Pos} {B:String} {t:TA}
end
def zU (H:Hp) (a:Addr):Hp:=λb=>if b=a then none else H b
section
variable {f:Str} {p:Pos} {B:String}
theorem Inv.ab5 {φ:Heap->Prop} (I:Inv X pins σ H s) (ea:H a=some (.ext φ)):Inv X [] σ (zU H a) s:=by
 have dn:∀ b,H b=none->zU H a b=none:=λb q=>by unfold zU;split<;>first|rfl|exact q
 have ds:∀ b u,H b=some u->(∀ ψ,u≠.ext ψ)->zU H a b=some u:=λb u q n=>by
  unfold zU;rw[zC (λz=>by subst z;rw[ea] at q;cases q;exact n _ rfl)];exact q
 refine⟨I.ok,I.os,I.bare,⟨I.base.keep,I.base.slot,λb o e n x=>dn b (I.base.free b o e n x),I.base.there,λb xs q=>ds b _ (I.base.tups b xs q) (λ_ z=>nomatch z),λb o u q=>ds b _ (I.base.sJ b o u q) (λ_ z=>nomatch z),λb ps q=>?_⟩,
  I.loc,I.cell,dn _ I.free,λy c q=>dn _ (I.iU y c q),λp hp=>?_,λb u q=>?_,I.len⟩
 ·obtain⟨more,z⟩:=I.base.vQ b ps q;exact⟨more,ds b _ z λ_ z=>nomatch z⟩
 ·obtain⟨z1,z2,z3⟩:=I.pin p (by rcases List.mem_append.mp hp with z|z;exact kF _ z;cases z);exact⟨z1,dn _ z2,z3⟩
 ·have hb:H b=some u:=by
   unfold zU at q;split at q
   ·cases q
   ·exact q
  exact(I.hok b u hb).stay (λ_ _ _ z=>z) (λc z=>ds c _ z λ_ z=>nomatch z) λc xs z=>ds c _ z λ_ z=>nomatch z
end
theorem N7 {name x:Str} (hx:x≠name):∀ (l:List DictEntry) (i:Nat),l.findIdx? (λe=>e.key.isStr name)=some i->(l.eraseIdx i).find? (λe=>e.key.isStr x)=l.find? (λe=>e.key.isStr x)
 |[],i,hi=>by simp at hi
 |e::l,i,hi=>by
  rw[List.findIdx?_cons] at hi;by_cases he:e.key.isStr name=true
  ·simp only[he,qS,Option.some.injEq] at hi;subst hi;have:e.key.isStr x=false:=by
    cases hh:e.key.isStr x
    ·rfl
    ·exact absurd (Value.isStr_inj _ _ _ hh he) hx
   rw[List.eraseIdx_zero,List.tail_cons,js,this]
  ·have he':e.key.isStr name=false:=by simpa using he
   simp only[he',zk,ZI] at hi;cases hj:l.findIdx? (λe=>e.key.isStr name) with
   |none=>simp[hj] at hi
   |some j=>
    simp only[hj,Option.map_some,Option.some.injEq] at hi;subst hi;rw[List.eraseIdx_cons_succ,js,js];cases e.key.isStr x with
    |false=>exact N7 hx l j hj
    |true=>rfl
theorem afk {m:Str->Option Value} {Q:Bool->Shared->Prop} (hn:s.heap.Ns a m) (hv:m name=some v) (hQ:∀ h' m',h'.Ns a m'->(∀ x,x≠name->m' x=m x)->Heap.SameBut a s.heap h'->Q true { s with heap:=h' }):wpAny M A (nsDel a name) Q E s:=by
 obtain⟨o,es,ep,ho,hd,hk,hm⟩:=id hn;have hany:es.any (·.refKey)=false:=by
  rw[Array.any_eq_false'];intro e he;obtain⟨n,t,h⟩:=hk e he;simp[DictEntry.refKey,h]
 have hin:es.any (·.key.isStr name)=true:=by
  have h1:=(hm name).trans hv;unfold nsFind findBy at h1;obtain⟨en,h2,_⟩:=Option.map_eq_some_iff.mp h1;rw[Array.any_eq_true'];exact⟨en,Array.mem_of_find?_eq_some h2,by have:=Array.find?_some h2;exact this⟩
 have hhas:nsHas name o=pure true:=by
  rw[nsHas_eq];unfold nsHasByArray;rw[hd];show(if(es.any λx=>x.key.isStr name)=true then _ else _)=_;rw[zi hin]
 unfold nsDel;refine zb (wpAny_loadPart ho ?_);rw[hhas];refine zb (ze ?_);rw[zi rfl];refine zb (wpAny_updatePart ho (ze ?_));obtain⟨cl,d,dt,sl⟩:=o;subst hd;cases hi:es.findIdx? (·.key.isStr name) with
 |none=>
  exfalso;obtain⟨i,hi',hp⟩:=Array.any_eq_true.mp hin;have:=Array.findIdx?_eq_none_iff.mp hi es[i] (Array.getElem_mem hi');rw[this] at hp;cases hp
 |some i=>
  refine hQ _ (nsFind (es.eraseIdxIfInBounds i)) ⟨_,_,ep+1,QI _ ho (by simp only[Obj.dropName_eq,Obj.dropNameByArray,hi]<;>rfl),(by simp only[Obj.dropName_eq,Obj.dropNameByArray,hi]<;>rfl),hk.erase i,λ_=>rfl⟩ (λx hx=>?_) (Heap.SameBut.update ..);rw[<-hm x];unfold nsFind findBy;rw[<-Array.find?_toList,<-Array.find?_toList,Array.toList_eraseIdxIfInBounds,N7 hx es.toList i (by rw[<-hi];obtain⟨l⟩:=es;simp)]
theorem afl {v:V} {Q:Unit->Shared->Prop} (I:Inv X pins σ H s) (hN:X.N.Nodup) (hi:X.N[i]?=some x) (hx:X.env.scope.names.lookup x=some .local) (hv:σ[i]?=some (some v)) (h:∀ s',Inv X pins (σ.set i none) H s'->Q () s'):wpAny M A (deleteName X.env x) Q E s:=by
 obtain⟨m,hn,hl⟩:=id I.loc;obtain⟨u,ru,lk⟩:=hl i x v hi hv (.inl hx);have hk:X.env.kindOf x=some .local:=hx;have hm:m x=some u:=by
  rcases lk with⟨_,q⟩|⟨q,_⟩
  ·exact q
  ·rw[hk] at q;rcases q with q|q<;>cases q
 have go:∀ h' m',h'.Ns X.env.locals m'->(∀ y,y≠x->m' y=m y)->Heap.SameBut X.env.locals s.heap h'->Q () { s with heap:=h' }:=λh' m' n' sm sb=>by
  refine h _ ?_;have nl:∀ b o,X.s₀.heap.get? b=some o->b≠X.env.locals:=λb o e=>zI (ZH (zw e) I.ok.above);have tr:∀ b w,H b=some w->b≠X.env.locals:=λb w q z=>by rw[z,I.free] at q;cases q
  refine⟨I.ok,I.os,I.bare,⟨λb o e n f y=>(sb.2 b (nl b o e)).trans (I.base.keep b o e n f y),λb o e n f y=>?_,I.base.free,λb o e y=>?_,I.base.tups,I.base.sJ,I.base.vQ⟩,
   ⟨m',n',λj y v' h1 h2 h3=>?_⟩,λy c e=>?_,I.free,I.iU,λp hp=>?_,λb w q=>?_,by rw[JY];exact I.len⟩
  ·obtain⟨sl,q⟩:=I.base.slot b o e n f y;exact⟨sl,(sb.2 b (nl b o e)).trans q⟩
  ·obtain⟨o',q⟩:=I.base.there b o e y;exact⟨o',(sb.2 b (nl b o e)).trans q⟩
  ·have hj:j≠i:=λz=>by
    subst z;rw[Kn] at h2;split at h2
    ·split at h2<;>cases h2
    ·rename_i z;exact z rfl
   rw[List.getElem?_set_ne (km hj)] at h2;obtain⟨u',r',lk'⟩:=hl j y v' h1 h2 h3;refine⟨u',r',?_⟩;rcases lk' with⟨k1,k2⟩|⟨k1,c,k2,k3⟩
   ·exact .inl ⟨k1,by rw[sm y (λz=>hj (BJ hN (z▸h1) hi))];exact k2⟩
   ·refine .inr ⟨k1,c,k2,?_⟩;have:=I.cne y c k2;unfold Heap.IsCell at k3 ⊢;rw[sb.2 c this];exact k3
  ·obtain⟨v',q⟩:=I.cell y c e;refine⟨v',?_⟩;unfold Heap.IsCell at q ⊢;rw[sb.2 c (I.cne y c e)];exact q
  ·obtain⟨q1,q2,q3,q4⟩:=I.pin p hp;exact⟨(sb.2 _ q3).trans q1,q2,q3,q4⟩
  ·refine(I.hok b w q).stay (λc u hc z=>(sb.2 c ?_).trans z) (λ_ z=>z) λ_ _ z=>z;rcases hc with hc|hc
   ·rw[hc];exact tr b w q
   ·exact tr c _ hc
 unfold deleteName;rw[hk];dsimp only;rw[I.ok.kind,zC (by rw[show(ScopeKind.function==ScopeKind.class)=false from rfl,show(ScopeKind.function==ScopeKind.module)=false from rfl];simp)];refine zb (afk hn hm λh' m' n' sm sb=>?_);exact ze (go h' m' n' sm sb)
section
variable {E:XK}
theorem RX.jU {Ex:VP_} {e:Value} (h:RX (X.wish Ex) E e s):RX X E e s:=by
 obtain⟨a,C,dx,σ,H,r,I,m,x,q⟩:=h;refine⟨a,C,dx,σ,H,r,I.jU,⟨m.un,m.ab,m.nl,m.nc⟩,?_,q⟩;rcases x with x|⟨T,mT,x⟩
 ·exact .inl x
 ·exact .inr ⟨T,⟨mT.un,mT.ab,mT.nl,mT.nc⟩,x⟩
theorem Ba.mono {st:List Stmt} {t:TS} {E1:VP_} (h:Ba (X.wish E1) st t) (k:∀ e s,E1 e s->X.xe e s):Ba X st t:=λpins s σ H D I hw=>
 ZU (h pins s σ H D (I.wish _) hw) (λ_ _ q=>q.jU) k
end
theorem FN.okX {f:Addr} {k:Nat} (F:FN K x qual st f fd) (S:bw N ps (aG st)) (len:∀ vs H Q E,sp vs H Q E->vs.length=ps.length) (hbody:∀ (cdv:Value) (A:Around) (outer:List Env) (s:Shared) (H:Hp) (vs:List V) (Q:VK) (E:XK),g8 k (A.deeper (envOfC qual (aG st) s.heap.objs.size f cdv))->sp vs H Q E →
   ∃ t,Ba ((sO (Py P w) P w K mg base N qual (aG st) f cdv A outer s H E).wish (RX (sO (Py P w) P w K mg base N qual (aG st) f cdv A outer s H E) E)) (fP st) t/\t { nx:=λ_ H'=>Q .non H',rt:=Q } (start N vs) H):lB P w K mg base (Py P w) (k+1) f fd ps sp:=by
 obtain⟨oc,od,kV,doc,pm,an,cdv,ct,osl,rfl,lk,hcd⟩:=F.ex;refine acK lk hcd S len λA outer s H vs Q E hr hsp=>?_;obtain⟨t,h,q⟩:=hbody cdv A outer s H vs Q E hr hsp;exact⟨t,Ba.mono h λe s' hx=>Y8 rfl rfl rfl rfl hx,q⟩
def Z7 (a C:Addr) (dx:Option Addr):HO:=.ext λh=>∃ vs sl,h.get? a=some ⟨.ref C,dx,.fields vs,sl⟩/\vs[2]?=some .none
theorem afm {vs:Array Value} (q:h.get? a=some ⟨.ref C,dx,.fields vs,sl⟩) (q2:vs[2]?=some .none):eX P w H h a (Z7 a C dx):=
 ⟨⟨vs,sl,q,q2⟩,⟨_,q⟩,λ_ _ ⟨vs,sl,p,p2⟩ k=>⟨vs,sl,k _ p,p2⟩⟩
theorem ab6 {h':Heap} {S ch:List Addr} (ok:sY P w H h) (c:J4 S ch h h') (hc:∀ b∈ch,H b=none) (hS:∀ b∈S,H b=none):sY P w H h':=λb u e=>by
 have ne:∀ (d:Addr) (w:HO),H d=some w->d∉ch/\d∉S:=λd w q=>⟨λz=>(by rw[hc d z] at q;cases q),λz=>(by rw[hS d z] at q;cases q)⟩;refine(ok b u e).stay (λd v hd q=>?_) (λ_ q=>q) λ_ _ q=>q;rcases hd with z|z
 ·subst z;exact c.keep _ _ q (ne _ _ e).1 (ne _ _ e).2
 ·exact c.keep _ _ q (ne _ _ z).1 (ne _ _ z).2
theorem ab7 (ok:sY P w H h) (na:H a=none) (new:eX P w (upd H a o) h a o):sY P w (upd H a o) h:=λb u e=>by
 by_cases hb:b=a
 ·subst hb;rw[bf] at e;cases e;exact new
 ·rw[aK hb] at e;exact(ok b u e).stay (λ_ _ _ q=>q) (λc q=>by rw[aK (bD q na)];exact q) λc xs q=>by rw[aK (bD q na)];exact q
theorem afn {fs:List Addr} {H':Hp} {h':Heap} (u:Un fs [] H H' h h') (na:H' a=none) (ha:h.get? a=none):Un fs [] H (upd H' a o) h h':=
 ⟨u.keep,u.slot,λb ob e n x=>by rw[aK (λz=>by rw[z,ha] at e;cases e)];exact u.free b ob e n x,u.there,λb xs q=>by rw[aK (bD (u.tups b xs q) na)];exact u.tups b xs q,
  λb ob xs q=>by rw[aK (bD (u.sJ b ob xs q) na)];exact u.sJ b ob xs q,λb ps q=>by
   obtain⟨m,z⟩:=u.vQ b ps q;exact⟨m,by rw[aK (bD z na)];exact z⟩⟩
abbrev Cx.inX (X:Cx) (a:Addr):Cx:={ X with A:=X.A.mark (some (.ref a)),calm:=false,xe:=λ_ _=>False }
theorem Inv.inX (I:Inv X pins σ H s):Inv (Cx.inX X a) pins σ H s:=
 ⟨⟨I.ok.mod,I.ok.kind,I.ok.glob,I.ok.blt,I.ok.above,I.ok.inj,I.ok.has,I.ok.cab,λz=>(by cases z),I.ok.frames,I.ok.stk,I.ok.exf,I.ok.bs,I.ok.Wr,I.ok.Pz,I.ok.Um,I.ok.vA,I.ok.frf⟩,I.os,I.bare,I.base,I.loc,I.cell,I.free,I.iU,I.pin,I.hok,I.len⟩
theorem Inv.aje (ok:X.Ok) (I:Inv (Cx.inX X a) pins σ H s):Inv X pins σ H s:=⟨ok,I.os,I.bare,I.base,I.loc,I.cell,I.free,I.iU,I.pin,I.hok,I.len⟩
def XT (X:Cx) (C:Addr) (iv:Nat) (ts:Addr->TS) (D:Ends) (σ:L2.St):XK:=λCv dx H2=>Cv=.ref C/\∃ d:Option Addr,dx=d/\∀ a,H2 a=none →
 ts a { nx:=λσ' H'=>D.nx (σ'.set iv none) H',rt:=D.rt } (σ.set iv (some (.ref a))) (upd H2 a (Z7 a C d))
theorem Rc {Cn:Addr} {iv:Nat} {n cn:Str} {np hp:Pos} {b0:Stmt} {ts:Addr->TS} {D:Ends} {H1:Hp} {s1 s':Shared} {e:Value} (hst:X.stack=X.env::X.outer) (hf:X.env.frame=some X.env.locals) (hN:X.N.Nodup) (hi:X.N[iv]?=some n) (hl:X.env.scope.names.lookup n=some .local) (hg:Gl X cn) (hm:X.mg cn=some (.ref Cn)) (hx:exmOne X.K (.ref C) (.ref Cn)=some true) (hs:∀ a,Ba (Cx.inX X a) (b0::suite) (ts a)) (I1:Inv X pins σ H1 s1) (hq:Py X.prog X.w X.stack H1 s1 (XT X C iv ts D σ) e s') (hdb:(cn==("__debug__" : Str))=false:=by decide) :
  wpAny (model X.prog X.w) X.A (noteFrame e X.env) (λ_ s2=>wpAny (model X.prog X.w) X.A (setFlight e none) (λ_ s3=>wpAny (model X.prog X.w) X.A (handleBy e X.env [.ExceptHandler (some (.Name cn np)) (some n) (b0::suite) hp]) (SP X pins D) X.xe s3) X.xe s2) X.xe s':=by
 obtain⟨a,Cv,d,H2,T,rfl,os,bare,un,hok,ha,hT,na,nT,ex,rfl,_,rfl,hE⟩:=hq;have J0:Inv X pins σ H2 s':=I1.call' (ch:=[]) os un hok bare λ_ z=>nomatch z;have fr:=J0.stack;rw[hst] at fr;have old:∀ b,s'.heap.objs.size<=b->s1.heap.get? b=none:=λb z=>by
  cases q:s1.heap.get? b with
  |none=>rfl
  |some o=>
   obtain⟨o',q'⟩:=un.there b o q (λz=>nomatch z);exact absurd (zw q') (Nat.not_lt.mpr z)
 have oa:s1.heap.get? a=none:=Heap.get?_none_of_le ha;have mk:∀ (h:Heap) (ch:List Addr) (tk:Nat),J4 (frs X.stack) ch s'.heap h->(∀ b∈ch,s1.heap.get? b=none/\H2 b=none)->(∃ vs sl,h.get? a=some ⟨.ref C,d,.fields vs,sl⟩/\vs[2]?=some .none)->Inv X pins σ (upd H2 a (Z7 a C d)) { s' with heap:=h,toks:=tk }:=λh ch tk c hc he=>by
  obtain⟨vs,sl,he,he2⟩:=he;refine I1.call' (ch:=[]) (s':={ s' with heap:=h,toks:=tk }) os (afn (afe un c λb z=>(hc b z).1) na oa) ?_ bare λ_ z=>nomatch z;exact ab7 (ab6 hok c (λb z=>(hc b z).2) J0.Ay) na (afm he he2)
 refine TJ (base:=X.base) (hst▸I1.ok.frames) fr hf ex λh4 T' z c4 x4=>?_;rw[<-hst] at c4;refine rA (s:={ s' with heap:=h4 }) none x4 λh5 c5 x5=>?_;have nT':H2 T'=none:=hok.fresh z;have c45:=c4.trans (c5.mono (S':=frs X.stack) (c2:=[T']) (λ_ z=>z) λ_ z=>nomatch z);have cc:∀ b∈[T,a]++[T'],s1.heap.get? b=none/\H2 b=none:=λb hb=>by
  simp only[KP,ZZ,ZO,or_false] at hb;rcases hb with (rfl|rfl)|rfl
  ·exact⟨Heap.get?_none_of_le hT,nT⟩
  ·exact⟨oa,na⟩
  ·exact⟨old _ z,nT'⟩
 have at5:∃ vs sl,h5.get? a=some ⟨.ref C,d,.fields vs,sl⟩/\vs[2]?=some .none:=by
  obtain⟨vs,sl,_,_,q,_,_,_,_,_,q2⟩:=x5;exact⟨vs,sl,q,q2⟩
 have I5:=mk h5 _ s'.toks c45 cc at5;have LT:PySem.W.Looks (model X.prog X.w) h5 (typeOf (.ref a)) (.ref C):=by
  obtain⟨vs,sl,q,_⟩:=at5;exact(PySem.W.Looks.ld q).andThen .now
 refine wpAny_handleBy_cons (codeAny_handlers_test (wJ (X:=Cx.inX X a) (Inv.inX I5) hg hm ?_ hdb)) (by intro q;cases q);refine(PySem.W.exm_one I5.K5 LT hx).at ?_;show codeAny _ _ _ _ _;refine codeAny_handlers_suite_as ?_;refine rA (s:={ s' with heap:=h5 }) none x5 λh6 c6 x6=>?_;have I6:=mk h6 _ s'.toks (c45.trans (c6.mono (S':=frs X.stack) (c2:=[T']) (λ_ z=>z) λ_ z=>nomatch z)) (λb hb=>by
  rcases List.mem_append.mp hb with hb|hb
  ·exact cc b hb
  ·exact cc b (ZY _ hb)) (by obtain⟨vs,sl,_,_,q,_,_,_,_,_,q2⟩:=x6;exact⟨vs,sl,q,q2⟩)
 refine qd (X:=X) (v:=.ref a) I6 hN hi (.inl hl) rfl (λs7 I7=>?_) (.inr hl);refine ZU (hs a pins s7 _ _ _ (Inv.inX I7) (hE a na)) (λfl s8 h8=>?_) λ_ _ z=>False.elim z;show wpAny _ _ _ _ _ _;have fin:∀ {σ':L2.St} {H':Hp},Inv (Cx.inX X a) pins σ' H' s8->(∀ s9,Inv X pins (σ'.set iv none) H' s9->SP X pins D fl s9) →
   wpAny (model X.prog X.w) X.A (do bindName X.env n .none;unbindBehindTheSuite X.env n hp) (λ_ s5=>SP X pins D fl s5) X.xe s8:=λ{σ' H'} J k=>by
  have J':=Inv.aje I7.ok J;have hlt:iv < σ'.length:=by rw[J'.len];exact(List.getElem?_eq_some_iff.mp hi).1
  refine zb (wpAny_bindName (qd (v:=.non) J' hN hi (.inl hl) rfl (λs9 I9=>?_) (.inr hl)));unfold unbindBehindTheSuite unbindName;refine wpAny_onRaise (zb (wpAny_point (zb (afl (v:=.non) I9 hN hi hl (by rw[List.getElem?_set_self hlt]) λs10 I10=>wpAny_point (k s10 ?_)))));rwa [List.set_set] at I10
 cases fl with
 |next=>
  obtain⟨σ',H',J,q⟩:=h8;exact fin J λs9 I9=>⟨_,H',I9,q⟩
 |ret u=>
  obtain⟨v,σ',H',J,rv,q⟩:=h8;exact fin J λs9 I9=>⟨v,_,H',I9,rv,q⟩
 |brk=>
  obtain⟨_,_,_,q⟩:=h8;exact False.elim q
 |cont=>
  obtain⟨_,_,_,q⟩:=h8;exact False.elim q
section
variable {Cn f:Addr} {iv iy k:Nat} {n cn y:Str} {np hp p py pa:Pos} {b0:Stmt} {ts:Addr->TS} {tf:TE} {t:TA}
end
section
variable {d:Addr} {fs:List (Str×V)} {f:Str} {o:Expr}
def ajf (K:FG_) (H:Hp) (C:Addr) (c:V) (b:Bool):Prop:=
 (∃ D,c=.ref D/\kitOne K (.ref C) (.ref D)=some b)\/(∃ T,c=.ty T/\kitOne K (.ref C) (.type T)=some b) ∨
  ∃ (tp:Addr) (cs:List Addr),c=.ref tp/\H tp=some (.tup (cs.map V.ref))/\PySem.W.kitAny K (.ref C) (cs.map Value.ref)=some b
theorem Ih:∀ {cs:List Addr} {us:List Value},Vals (cs.map V.ref) us->us=cs.map Value.ref
 |[],_,h=>by cases h;rfl
 |c::cs,_,h=>by
  cases h with
  |cons r t=>rw[Ih t];obtain rfl:=r;rfl
def ahh (H:Hp) (a C:Addr):Prop:=∃ d:Option Addr,H a=some (Z7 a C d)/\∀ x,d=some x->∃ fs,H x=some (.xd fs)
theorem jG {Cs:List Addr} (hC:∀ C,C∈Cs->Ed X.K C=true):eE X (.builtin "isinstance") (λvs H Q=>∃ a C c b,C∈Cs/\vs=[.ref a,c]/\ahh H a C/\ajf X.K H C c b/\Q (.bl b) H):=by
 intro pins s σ H vs us Q I r h;obtain⟨a,C,c,b,hm,rfl,⟨d,ea,ed⟩,hb,q⟩:=h;cases r with
 |cons ra r=>
  cases r with
  |cons rc r=>
   cases r;obtain rfl:=ra;have Z:=ahg (e:=a) (hC C hm);have p:ExI a C s.heap:=by
    obtain⟨vs,sl,h1,_⟩:=(I.hok a _ ea).1;cases d with
    |none=>exact⟨none,vs,sl,none,h1,rfl,rfl,trivial⟩
    |some x=>
     obtain⟨fs,ex⟩:=ed x rfl;obtain⟨m,⟨od,_,_,h2,_⟩,_⟩:=I.hok x _ ex;exact⟨some x,vs,sl,some od,h1,rfl,rfl,h2⟩
   rcases hb with⟨D,rfl,hb⟩|⟨T,rfl,hb⟩|⟨tp,cs,rfl,ht,hb⟩
   ·obtain rfl:=rc;exact kia_one Z I.K5 p hb (λz=>nomatch z) λtk=>⟨.bl b,H,I.tok tk,rfl,q⟩
   ·obtain rfl:=rc;exact kia_one Z I.K5 p hb (λz=>nomatch z) λtk=>⟨.bl b,H,I.tok tk,rfl,q⟩
   ·obtain rfl:=rc;obtain⟨_,its,hv,o,ho,hc,⟨nn,hd⟩,hdd⟩:=I.hok tp _ ht;obtain⟨oc,od',odt,osl⟩:=o;dsimp only at hc hd hdd;subst hc hd hdd;rw[Ih hv] at ho;exact PySem.W.kia_tup Z I.K5 p ho hb (λz=>nomatch z) λtk=>⟨.bl b,H,I.tok tk,rfl,q⟩
end
def XW (K:FG_) (C:Addr) (f:Str) (E:XK) (H0:Hp) (d:Dt):Prop:=∀ dx H',Same H0 H'->(if f = "" then dx=none else ∃ x v,dx=some x/\H' x=some (.xd [(f,v)])/\Rep K H' d v)->E (.ref C) dx H'
theorem XW.rebase {f:Str} {E:XK} (s:Same H0 Hs) (h:XW K C f E H0 d):XW K C f E Hs d:=λdx H' s' e=>h dx H' (s.trans s') e
def tX (K:FG_) (C:Addr) (f:Str) (E:XK) (gx:Ev->Option Dt):TS:=λ_ σ H=>∃ H0 ρ d,bL K H0 H σ ρ/\gx ρ=some d/\XW K C f E H0 d
structure QX1 (X:Cx) (C:Addr) (f:Str) (E:XK) (st:Stmt) (gx:Ev->Option Dt):Prop where
 run:PS X st (tX X.K C f E gx)
structure QXs (X:Cx) (C:Addr) (f:Str) (E:XK) (st:List Stmt) (gx:Ev->Option Dt):Prop where
 run:Ba X st (tX X.K C f E gx)
def zD:Bx->Option Dt
 |.z d=>some d
 |_=>none
section
variable {f:Str} {E:XK} {gy:Ev->Option Dt} {p:Pos} {rest a b:List Stmt} {B:String} {pc:Ev->Option Bool}
def rzX (okX:Dt->Bool) (fe:Ev->Option Bx):Ev->Option Dt:=λρ=>(fe ρ).bind λb=>(zD b).bind λd=>if okX d=true then some d else none
theorem Ef (h:QX1 X C f E st gx):QXs X C f E (st::rest) gx:=⟨λpins s σ H D I hw=>yz (ZU (h.run pins s σ H { nx:=λ_ _=>False,rt:=D.rt,bk:=D.bk,ct:=D.ct } I hw) (λfl s1 q=>by
 cases fl with
 |next=>obtain⟨_,_,_,z⟩:=q;exact False.elim z
 |ret v=>exact q
 |brk=>exact q
 |cont=>exact q) λ_ _ z=>z)⟩
def ifX (pc:Ev->Option Bool) (gx gy:Ev->Option Dt):Ev->Option Dt:=λρ=>(pc ρ).bind λk=>if k=true then gx ρ else gy ρ
theorem Y9 {sts:List Stmt}:QXs X C f E sts (λ_=>none):=⟨λpins s σ H D I hw=>by
 obtain⟨H0,ρ,d,Ev,ed,w⟩:=hw;cases ed⟩
theorem ahj (hc:QB X c pc) (ha:QXs X C f E a gx) (hb:QXs X C f E b gy):QX1 X C f E (.If c a b pos) (ifX pc gx gy):=⟨R6 (acE hc.run ha.run hb.run) λD σ H h=>by
 obtain⟨H0,ρ,d,Ev,ed,w⟩:=h;obtain⟨k,ek,ed⟩:=bind_some ed;refine⟨H0,ρ,k,Ev,ek,λH1 s1=>?_⟩;cases k with
 |true=>rw[zi rfl] at ed ⊢;exact⟨H0,ρ,d,Ev.grow s1,ed,w⟩
 |false=>rw[zC ZA] at ed ⊢;exact⟨H0,ρ,d,Ev.grow s1,ed,w⟩⟩
end
def spX (K:FG_) (n:Nat) (Fx:List Bx->Option Dt) (C:Addr) (f:Str):Sp:=λvs H _ E=>vs.length=n/\∃ bs d,ql K H bs vs/\bs.all (λb=>!isO b)=true/\Fx bs=some d/\XW K C f E H d
def yg (n:Nat) (gx:Ev->Option Dt):List Bx->Option Dt:=λbs=>gx (bs.map some++List.replicate (n - bs.length) none)
abbrev cxR (P:Program) (w:World) (K:FG_) (mg:Str->Option Value) (base:Heap) (N:LS_) (qual:Str) (scope:Scope) (f:Addr) (cd:Value) (A:Around) (outer:List Env) (s:Shared) (H:Hp) (E:XK):Cx:=
 (sO (Py P w) P w K mg base N qual scope f cd A outer s H E).wish (RX (sO (Py P w) P w K mg base N qual scope f cd A outer s H E) E)
theorem ac8 {f:Addr} {a:Str} {k m:Nat} (F:FN K x qual st f fd) (S:bw N ps (aG st)) (hn:N.length=n) (hm:ps.length=m) (hbody:∀ (cdv:Value) (A:Around) (outer:List Env) (s:Shared) (H:Hp) (E:XK),g8 k (A.deeper (envOfC qual (aG st) s.heap.objs.size f cdv)) →
   (∀ e s',RX (cxR P w K mg base N qual (aG st) f cdv A outer s H E) E e s'->(cxR P w K mg base N qual (aG st) f cdv A outer s H E).xe e s') →
   PassesOwn (model P w) (A.deeper (envOfC qual (aG st) s.heap.objs.size f cdv)) (envOfC qual (aG st) s.heap.objs.size f cdv) (cxR P w K mg base N qual (aG st) f cdv A outer s H E).xe →
   QXs (cxR P w K mg base N qual (aG st) f cdv A outer s H E) C a E (fP st) gx):lB P w K mg base (Py P w) (k+1) f fd ps (spX K m (yg n gx) C a):=
 FN.okX F S (λvs H Q E h=>h.1.trans hm.symm) λcdv A outer s H vs Q E hr hsp=>by
  obtain⟨_,bs,d,r,ho,e,w⟩:=hsp;subst hn;exact⟨_,(hbody cdv A outer s H E hr (λe s' h=>h.jU) (VJ (X:=sO (Py P _) P _ K mg base N qual (aG st) f cdv A outer s H E) rfl rfl rfl)).run,H,_,d,bL.start r ho,e,w⟩
section
variable {k:Nat} {f h:Addr} {fs:Ev->Option (List Bx)} {y:Str} {p q:Pos}
end
end P1
namespace P1
open L2 S6
section
variable {xs ts:LS_}
end
section
variable {y:Str} {e2 se:Expr} {fS:Ev->Option LS_} {fx:Ev->Option Dt} {no rest:List Stmt} {tR tQ:TS} {p0 p02 px pb pif pk:Pos} {f:Str} {E:XK}
end
end P1
namespace P1
open L2
section
variable {e1 e2 e3:Expr} {gr:Ev->Option Out} {xr xj y1 y2:Str} {rest no:List Stmt} {kk:Nat} {p0 p00 p01 p02 q1 q2 pt pj pa px pb pif pf2 px3 a1 c1 pe1 pr a2 pj2 c2 pe2:Pos} {fx:Ev->Option Dt} {f:Str} {E:XK}
end
section
variable {Cn f:Addr} {iv k:Nat} {n cn:Str} {np hp p pa:Pos} {b0:Stmt} {ts:Addr->TS} {tf:TE} {t:TA}
def ahk (X:Cx) (C f:Addr) (iv:Nat) (ts:Addr->TS) (tf:TE) (t:TA) (sp:Sp):TS:=λD σ H=>tf σ H λv H0=>v=.ref f/\t σ H0 λvs H1=>sp vs H1 (λ_ H2=>D.nx σ H2) (XT X C iv ts D σ)
theorem ab8 (hst:X.stack=X.env::X.outer) (hfr:X.env.frame=some X.env.locals) (hN:X.N.Nodup) (hi:X.N[iv]?=some n) (hl:X.env.scope.names.lookup n=some .local)
  (hg:Gl X cn) (hm:X.mg cn=some (.ref Cn)) (hx:exmOne X.K (.ref C) (.ref Cn)=some true) (hs:∀ a,Ba (Cx.inX X a) (b0::suite) (ts a))
  (hfe:PE X.Wu (.Name x p) tf) (F:lB X.prog X.w X.K X.mg X.base (Py X.prog X.w) k f fd ps sp) (hr:g8 k X.A) (hk:keepIn X.K (.ref f)=true) (hb:Binds X.K fd ps []) (ha:PA X.Wu (e::es) t)
  (hdb:(cn==("__debug__" : Str))=false:=by decide) (hst':starEach (e::es) X.env=(false,eval e X.env)::starEach es X.env:=by rfl) (hpl:(backTo cpos (starEach es X.env)).any (·.1)=false:=by rfl)
  (hsw:swapsWith (.Call (.Name x p) (e::es) [] cpos) none pa.line X.env=pure false:=by rfl) :
  PS X (.Try [.Expr (.Call (.Name x p) (e::es) [] cpos) pa] [.ExceptHandler (some (.Name cn np)) (some n) (b0::suite) hp] [] [] pos) (ahk X C f iv ts tf t sp):=by
 intro pins s σ H D I h;refine wpAny_Try_except (yz (wpAny_Expr_any (kq ?_) I.quiet hsw));refine ZU (hfe pins s σ H _ (I.wish _) h) (λu s0 ⟨v,H0,I0,r0,ev,q0⟩=>?_) (λ_ _ z=>False.elim z);subst ev;obtain rfl:u=Value.ref f:=r0;refine yf (h₀:=X.base) I.ok.mod.kin hk (ZU (ha cpos pins s0 σ H0 _ I0 q0) (λus s1 ⟨vs,H1,I1,r,q⟩=>⟨I1.K5,?_⟩) (λ_ _ z=>False.elim z)) hst' hpl;have I1':=I1.jU;have hl2:us.length=ps.length:=by rw[<-r.length];exact F.len _ _ _ _ q
 rw[kQ];refine KF (k8 (F.run X.A X.stack s1 H1 ⟨us,[]⟩ us vs _ _ hr I1'.env0 (by have:=hb s1 us I1'.K5 (by rw[QY];exact hl2);rwa [QY] at this) r q) λr s' hq=>?_);cases r with
 |error e=>exact Rc hst hfr hN hi hl hg hm hx hs I1' hq hdb
 |ok fl=>
  cases fl with
  |next=>exact False.elim hq
  |brk=>exact False.elim hq
  |cont=>exact False.elim hq
  |ret u=>
   obtain⟨v,H2,I2,rv,q2⟩:=I1'.after hq;exact KM (KM ⟨_,H2,I2,q2⟩)
end
section
variable {fx:Ev->Option Bx}
end
section
variable {l:Addr} {xs:Array Value}
end
theorem uJ:∀ {its:List Value} {ns:List Int},IntsAre its ns->Vals (ns.map V.int) its
 |_,_,.nil=>.nil
 |_,_,.cons y t h=>.cons ⟨t,rfl⟩ (uJ h)
section
variable {e:α->Dt}
end
section
variable {e:α->Dt} {ea:β->Dt} {eb:δ->Dt} {fx:Ev->Option Dt}
end
section
variable {e:α->Dt} {g:Ev->Option β} {c:γ->β}
end
section
variable {E:XK}
theorem ab9 (Za:∀ e s,RX X E e s->X.xe e s):Passes (Py X.prog X.w) X E:=λpins σ H s e s' I h=>by
 obtain⟨a,C,dx,H',T,rfl,os,bare,un,hok,ha,hT,na,nT,ex,he⟩:=h;have J:Inv X pins σ H' s':=I.call' (ch:=[]) os un hok bare λ_ z=>nomatch z;have J0:Inv X [] σ H' s':=⟨J.ok,J.os,J.bare,J.base,J.loc,J.cell,J.free,J.iU,λp hp=>J.pin p (List.mem_append.mpr ((List.mem_append.mp hp).elim .inl λz=>nomatch z)),J.hok,J.len⟩;have mine:∀ b,s.heap.objs.size<=b->H' b=none->yd X H' b:=λb hb nb=>⟨nb,Zp I.sz hb,λz=>by have:=I.lt;rw[<-z] at this;exact absurd this (Nat.not_lt.mpr hb),λx c e z=>by
  obtain⟨v,q⟩:=I.cell x c e;have:c < s.heap.objs.size:=by
   obtain⟨o,q⟩:∃ o,s.heap.get? c=some o:=by
    first|(obtain⟨o,q,_⟩:=q;exact⟨o,q⟩)|exact⟨_,q⟩
   exact zw q
  rw[z] at this;exact absurd this (Nat.not_lt.mpr hb)⟩
 exact Za _ _ ⟨a,C,dx,σ,H',rfl,J0,mine a ha na,.inr ⟨T,mine T hT nT,.inr ex⟩,he⟩
end
section
variable {f:Str} {E:XK} {elts:List Expr} {x1:Nat} {fs:Ev->Option (List Bx)} {gy:Ev->Option Dt} {p p1 tpos epos:Pos} {rest:List Stmt}
def ac9 (n:Nat) (Fx:List Bx->Option Dt) (fs:Ev->Option (List Bx)):Ev->Option Dt:=λρ=>(fs ρ).bind λbs=>if bs.length=n then Fx (bs.map lend) else none
end
section
variable {o:Expr}
def Zb:Dt->Bool
 |.non=>true
 |.tup _=>true
 |_=>false
def ahl:Dt->Bool
 |.non=>true
 |_=>false
end
section
variable {o l:Expr} {fs:Ev->Option (List Bx)} {y z:Str}
end
instance {σ τ:Type} [Inhabited σ]:Inhabited (wA σ τ):=⟨.nx default⟩
section
variable {e:α->Dt}
def VL:Dt->Str
 |.str x=>x
 |.int i=>Str.ofString (toString i)
 |_=>Str.empty
def afp:Dt->Prop
 |.str _=>True
 |.int i=>i.natAbs<=1000000
 |_=>False
def afq (a:R fa ρ (zE eD)):R (bU aa4 (aq fa aH)) ρ (zE eS):=⟨VL a.v,bh a.D (some (afp a.v)),λh=>by
 obtain⟨h1,h2⟩:=aC h;have h2:afp a.v:=h2;simp only[bU,aq,aH,a.ok h1,bnd,eD];generalize a.v=d at h2;cases d<;>first|exact h2.elim|rfl|exact zi h2⟩
theorem Rf (ht:∀ x,∃ ds,e x=.tup ds) (ys:List (Option α)):(ys.map (eO e)).all Zb=true/\(ahl ∘ eO e)=Option.isNone:=by
 refine⟨?_,?_⟩
 ·rw[qi];intro d hd;obtain⟨o,_,rfl⟩:=List.mem_map.mp hd;cases o with
  |none=>rfl
  |some x=>obtain⟨ds,q⟩:=ht x;show Zb (e x)=true;rw[q];rfl
 ·funext o;cases o with
  |none=>rfl
  |some x=>obtain⟨ds,q⟩:=ht x;show ahl (e x)=false;rw[q];rfl
end
section
variable {o e2:Expr} {fx fy:Ev->Option Bx}
end
section
variable {f:Str} {E:XK} {gy:Ev->Option Dt} {sts rest:List Stmt} {p0 p00 p01 p02:Pos}
end
structure DQ (K:FG_) (mg:Str->Option Value) (x:Str) (st:Stmt) (ps:LS_) where
 f:Addr
 fd:FuncData
 F:FN K x x st f fd
 b:Binds K fd ps []
 m:mg x=some (.ref f)
 k:keepIn K (.ref f)=true
def jR {f:Addr} {od an:Option Addr} {oc kV dc pm cd ct:Value} (X:K.In h) (G:h.Ns mainGlobals mg) (a:Nn K x f) (l:Lk K f x st oc od sl kV dc pm an cd ct) (c:codeIn K cd x=true) (k:keepIn K (.ref f)=true) (hb:∀ (kV doc pm:Value) (an:Option Addr) (cdv ct:Value) (us:List Value),us.length=ps.length->bindArgs (fnOf x x (qO st) (fP st) (aG st) .none kV doc pm an cdv ct) ⟨us,[]⟩=pure (ps.zip us):=by intro _ _ _ _ _ _;first|exact P1.len1 λ_=>rfl|exact P1.len2 λ_ _=>rfl|exact P1.ai7 λ_ _ _=>rfl|exact P1.ai8 λ_ _ _ _=>rfl|exact P1.ai9 λ_ _ _ _ _=>rfl|exact P1.len0 rfl):DQ K mg x st ps:=
 ⟨f,_,W4 l c k,(W4 l c k).binds hb,Jn X G a,k⟩
theorem mgT {v:Tok->Value} {tk:Tok} (X:K.In h) (G:h.Ns mainGlobals mg) (c:nsIn K mainGlobals x=some (some (v tk))):∃ tk,mg x=some (v tk):=⟨tk,Jn X G c⟩
abbrev Ok (P:Program) (w:World) (base:Heap) (d:DQ K mg x st ps) (k n:Nat) (F:List Bx->Option Bx):Prop:=lB P w K mg base Cd k d.f d.fd ps (spF K n F)
theorem Aj {k m:Nat} (d:DQ K mg x st ps) (S:bw N ps (aG st)) (hbody:∀ (cdv:Value) (A:Around) (outer:List Env) (s:Shared) (H:Hp) (E:XK),g8 k (A.deeper (envOfC x (aG st) s.heap.objs.size d.f cdv))->(A.deeper (envOfC x (aG st) s.heap.objs.size d.f cdv)).units+100 < cLine->N.Nodup->Wi (sO Cd P w K mg base N x (aG st) d.f cdv A outer s H E).Wu (fP st) g) (hn:N.length=n:=by rfl) (hm:ps.length=m:=by rfl):Ok P w base d (k+1) m (dI n g):=aiM d.F S hn hm λcdv A outer s H E hr=>hbody cdv A outer s H E hr (Ju hr) S.nd
section
variable {k m:Nat} {fs:Ev->Option (List Bx)} {p:Pos}
theorem cX (d:DQ X.K X.mg x st ps) (G:Ok X.prog X.w X.base d k n F) (hr:g8 m X.A) (ha:UW X (e::es) fs) (hg:Gl X x:=by rfl) (hl:k<=m:=by decide) (hdb:(x==("__debug__" : Str))=false:=by decide) (he:starEach (e::es) X.env=(false,eval e X.env)::starEach es X.env:=by rfl) (hpl:(backTo pos (starEach es X.env)).any (·.1)=false:=by rfl):QV X (.Call (.Name x p) (e::es) [] pos) (cI n F fs):=
 Sd G (hr.mono hl) hg d.m d.k d.b ha hdb he hpl
end
theorem walkT {q:Program} {loose:LS_} {d:DefRec} {K:Params->FG_} {T:FG_->(Str->Option Value)->Type} {k:Nat} {F_law:List Bx->Option Bx} (dq:∀ {K mg},T K mg->DQ K mg "law" st [x]) (hk:g8 k callerA) (hd:d.name = "law") (G:∀ (w:World) (mg:Str->Option Value) (base:Heap) (t:T (K w.params) mg),Ok l.prog w base (dq t) k 1 F_law) (hn:l.most=some 63) (hdf:d.params.defaults=[]) (h1:∀ ns:List Int,ns.length<=63->F_law [.z (.lst (ns.map .int))]=some (.z (.bl true))) (h2:∀ ns:List Int,ns.length<=63->F_law [.l (ns.map .int)]=some (.z (.bl true))) (hb:∀ (kV doc pm:Value) (an:Option Addr) (cdv ct u:Value),bindArgs (fnOf "law" "law" (qO st) (fP st) (aG st) .none kV doc pm an cdv ct) ⟨[u],[]⟩=pure [(x,u)]) (hY:∀ (w:World) (h:Heap),YP w h->(K w.params).In h) (F:∀ (w:World) (mg:Str->Option Value) (h:Heap),(K w.params).In h->h.Ns mainGlobals mg->T (K w.params) mg) :
  PySem.W.WalkO q loose XP YP l.row.toRowW d [] (λf vs=>PySem.call f vs):=
 L2.W3 (n:=63) (k:=k) (x:=x) (CX:=Cd) (sp:=λK=>spF K 1 F_law) hn (by decide) hdf hk hY (λw mg fa h X N e=>by
  have t:=F w mg h X N;have em:=(dq t).m;rw[hd,em] at e;cases e;refine⟨(dq t).fd,λs u=>?_,λbase _ _=>G w mg base t⟩;obtain⟨oc,od,kV,doc,pm,an,cdv,ct,osl,e,lk,hcd⟩:=(dq t).F.ex;rw[e];exact .of_eq (hb kV doc pm an cdv ct u)) (λK H a ns hl hO hS=>aez h1 h2 K H a ns hl hO hS) λ_ _ _ _ z=>z
theorem N8:entryFor table "proto.unchain" = some Builtin.«proto.unchain»:=entryFor_of_tree (by kernel_rfl)
theorem J6 {a b:Sem α} {Q:α->Shared->Prop} (h:a=b) (k:wpAny (model prog w) A b Q E s):wpAny (model prog w) A a Q E s:=h▸k
theorem J7 {e:Addr} {o:Obj} {vs:Array Value} {Q:VP_} (he:s.heap.get? e=some o) (hd:o.data=.fields vs) (h2:vs[2]?=some .none) (h:Q .none s):wpAny (model prog w) A (runValue (.builtin "proto.unchain" ⟨[v,.ref e,.ref e,.bool false],[]⟩)) Q E s:=by
 refine wpAny_runValue (jI N8 ?_);show wpAny _ _ (field (.ref e) 2 >>= _) _ _ s;refine zb (Q4 he hd h2 ?_);exact ze h
theorem Oa {e:Addr} {x n d:Int} {o:Obj} {vs:Array Value} (hh:A.handled=some (.ref e)) (he:s.heap.get? e=some o) (hd:o.data=.fields vs) (h2:vs[2]?=some .none) (hit:IsRangeIter s.heap it x n d) (hn:n<=0) (q:∀ h',Heap.ExtBut it s.heap h'->Q none { s with heap:=h' }):wpAny (model prog w) A (pyNext (.ref it)) Q E s:=by
 have ty:s.TypeIs (.ref it) "range_iterator" := ⟨_,hit,rfl⟩;unfold pyNext;refine zb (ym (k6 (name:=Str.ofString "__next__") ty PySem.F.slot_range_iterator_next (JI PySem.F.slot_range_iterator_next ty PySem.F.entry_range_iterator_next ?_ (PySem.F.args_range_iterator_next_1 _))));show wpAny _ _ (field (.ref it) 0 >>= _) _ _ s;refine zb (Q4 hit rfl (x:=rawInt x) rfl ?_);show wpAny _ _ (field (.ref it) 1 >>= _) _ _ s;refine zb (Q4 hit rfl (x:=rawInt n) rfl ?_);show wpAny _ _ (field (.ref it) 2 >>= _) _ _ s;refine zb (Q4 hit rfl (x:=rawInt d) rfl ?_);show wpAny _ _ (if n<=0 then _ else _) _ _ s;rw[zi hn];refine zb (kU (zb ?_));show wpAny _ _ (newExc (.type "StopIteration") [] >>= _) _ _ _;refine zb ?_;simp only[newExc,newTuple];refine zb (qa ?_ (by size_fits));refine zb (m:=firstArgMember _ _) (yi (a:=Value.none) (by first|rfl|(simp only[firstArgMember];rfl)) ?_);refine qa ?_ (by size_fits);simp only[raiseNew];refine zb (wpAny_handled ?_)
 first|rw[show A.in1.handled=some (.ref e) from hh]|rw[hh]
 have lt:=zw he;have sz:(s.heap.push { cls:=.type "tuple", data:=.seq #[] }).objs.size=s.heap.objs.size+1:=by simp[Heap.push]
 dsimp only;rw[zi (show(Value.ref e != Value.ref (s.heap.push { cls:=.type "tuple", data:=.seq #[] }).objs.size)=true from by
  rw[sz,bne_iff_ne];intro z;injection z with z;rw[z] at lt;exact absurd lt (Nat.not_lt.mpr (kl _)))]
 have he1:=zd (h:=s.heap) { cls:=.type "tuple", data:=.seq #[] } he;refine zb (qo (J7 (zd _ he1) hd h2 ?_));have new:=zv (s.heap.push { cls:=.type "tuple", data:=.seq #[] }) (o:={ cls:=.type "StopIteration", data:=.fields (#[.ref s.heap.objs.size,.none,.none,.none,.bool false,.none]++ownMembersOf (.type "StopIteration") []) }) rfl;unfold updateField;refine zb (zb (KB new ?_));refine J6 (b:=update (s.heap.push { cls:=.type "tuple", data:=.seq #[] }).objs.size (Obj.mapFields λz=>z.setIfInBounds 2 (.ref e))) rfl (wpAny_update new ?_);refine wpAny_throw ?_;refine zb (JE (T := "StopIteration") (b:=true) ⟨_,QI _ new rfl,rfl⟩ isSubtype_stop ?_);refine ze (q _ λb ob hb eb=>?_);have lb:=zw eb;rw[Q2 _ _ (by rw[sz];exact kL (qq lb))];exact zd _ (zd _ eb)
structure Eh (k:Nat) (a:Addr) (A:Around):Prop where
 hd:A.handled=some (.ref a)
 dp:A.depth+3 * k+5 < recursionLimit
 un:A.units+16 * k+200 < cLine
theorem Eh.deeper {k:Nat} (r:Eh (k+1) a A) (env:Env):Eh k a (A.deeper env):=
 ⟨r.hd,by have:=r.dp;show A.depth+1+3 * k+5 < _;omega,by have:=r.un;show A.units+3+16 * k+200 < _;omega⟩
theorem g8.inX {k:Nat} (r:g8 k A) (a:Addr):Eh k a (A.mark (some (.ref a))):=⟨rfl,r.dp,r.un⟩
abbrev cxH (P:Program) (w:World) (K:FG_) (mg:Str->Option Value) (base:Heap) (N:LS_) (qual:Str) (scope:Scope) (f:Addr) (cd:Value) (A:Around) (outer:List Env) (s:Shared) (H:Hp):Cx:=
 { sO Cd P w K mg base N qual scope f cd A outer s H E0 with calm:=false,xe:=λ_ _=>False }
theorem acd {h:Option Value} (e:K7 P w K mg base A outer s H):K7 P w K mg base { A with handled:=h } outer s H:=⟨e.frames,e.mod,e.bs,e.Wr,e.vA,e.frf,e.hok,e.bare⟩
theorem Rh {f:Addr} {cd:Value} {s1:Shared} (S:bw N ps scope) (e0:K7 P w K mg base A outer s H) (hl:vs.length=ps.length) (r:Vals vs us) (x:InCallC s s.heap.objs.size (bindL (envOfC qual scope s.heap.objs.size f cd).kindOf (ps.zip us) λ_=>none) (cellsFrom (s.heap.objs.size+1) scope.names []) (bindC (envOfC qual scope s.heap.objs.size f cd).kindOf (ps.zip us) λ_=>none) s1) :
  Inv (cxH P w K mg base N qual scope f cd A outer s H) [] (start N vs) H s1:=by
 have I:Inv (sO Cd P w K mg base N qual scope f cd { A with handled:=none } outer s H E0) [] (start N vs) H s1:=G8 S rfl (acd e0) hl r x;exact⟨⟨I.ok.mod,I.ok.kind,I.ok.glob,I.ok.blt,I.ok.above,I.ok.inj,I.ok.has,I.ok.cab,λz=>(by cases z),Around.frames_deeper e0.frames,I.ok.stk,I.ok.exf,I.ok.bs,I.ok.Wr,I.ok.Pz,I.ok.Um,I.ok.vA,I.ok.frf⟩,I.os,I.bare,I.base,I.loc,I.cell,I.free,I.iU,I.pin,I.hok,I.len⟩
structure TX (P:Program) (w:World) (K:FG_) (mg:Str->Option Value) (base:Heap) (k:Nat) (f:Addr) (fd:FuncData) (ps:LS_) (sp:Addr->List V->Hp->VK->Prop):Prop where
 len:∀ a vs H Q,sp a vs H Q->vs.length=ps.length
 run:∀ (a:Addr) (A:Around) (outer:List Env) (s:Shared) (H:Hp) (args:Args) (us:List Value) (vs:List V) (Q:VK),Eh k a A->K7 P w K mg base A outer s H->BindsTo s fd args (ps.zip us)->Vals vs us->sp a vs H Q →
  codeAny (model P w) A (.call (.ref f) args) (CR Cd outer P w H s Q E0) s
theorem FN.okH {f:Addr} {k:Nat} {sp:Addr->List V->Hp->VK->Prop} (F:FN K x qual st f fd) (S:bw N ps (aG st)) (len:∀ a vs H Q,sp a vs H Q->vs.length=ps.length) (hbody:∀ (cdv:Value) (a:Addr) (A:Around) (outer:List Env) (s:Shared) (H:Hp) (vs:List V) (Q:VK),Eh k a (A.deeper (envOfC qual (aG st) s.heap.objs.size f cdv))->sp a vs H Q →
   ∃ t,Ba (cxH P w K mg base N qual (aG st) f cdv A outer s H) (fP st) t/\t { nx:=λ_ H'=>Q .non H',rt:=Q } (start N vs) H):TX P w K mg base (k+1) f fd ps sp:=by
 obtain⟨oc,od,kV,doc,pm,an,cdv,ct,osl,rfl,lk,hcd⟩:=F.ex;refine⟨len,λa A outer s H args us vs Q hr e0 hb r hsp=>?_⟩;have hl:=len _ _ _ _ hsp;have KX:K.In s.heap:=e0.mod.kin.keeps λb o e=>(e0.bs b o e).1;have lim:s.heap.NoLimit:=e0.mod.nolimit.keeps λb o e=>(e0.bs b o e).1;have hkind:∀ y∈ps.zip us,(aG st).names.lookup y.1=some .local\/((aG st).names.lookup y.1=some .cell/\((cellsFrom (s.heap.objs.size+1) (aG st).names []).lookup y.1).isSome=true):=λ⟨n,v⟩ hy=>by
  rcases S.par n (KO hy).1 with q|q
  ·exact .inl q
  ·exact .inr ⟨q,cellsFrom_some _ _ _ (.inl q)⟩
 refine codeAny_call_function (by have:=hr.dp;omega) (KX _ _ lk) rfl S.co S.gen rfl (codeRec_of KX hcd) (hb _ _ _ _ ?_);refine wpAny_newFunctionEnv_cells S.kind hkind λenv he s1 x=>?_;subst he;refine⟨lim.keeps x.toInCall.keep,codeAny_func ?_⟩;obtain⟨t,ht,hq⟩:=hbody cdv a A outer s H vs Q (hr.deeper _) hsp;have I:=Rh (f:=f) (qual:=qual) (cd:=cdv) S e0 hl r x;refine ZU (ht [] s1 (start N vs) H _ I hq) (λfl s' hs=>?_) λe s' hs=>False.elim hs;have fin:∀ {σ':L2.St} {H':Hp} {v:V} {u:Value},Inv (cxH P w K mg base N qual (aG st) f cdv A outer s H) [] σ' H' s'->RelV v u->Q v H'->CE outer P w H s Q u s':=
  λ{σ' H' v u} J rv q=>⟨v,H',J.os,J.bare,J.base,J.hok,rv,q⟩
 cases fl with
 |ret u=>
  obtain⟨v,σ',H',J,rv,q⟩:=hs;exact fin J rv q
 |next=>
  obtain⟨σ',H',J,q⟩:=hs;exact fin (v:=V.non) (u:=Value.none) J rfl q
 |brk=>
  obtain⟨_,_,_,q⟩:=hs;exact False.elim q
 |cont=>
  obtain⟨_,_,_,q⟩:=hs;exact False.elim q
section
variable {k:Nat} {f:Addr} {sp:Addr->List V->Hp->VK->Prop} {p:Pos} {t:TA}
def afr (sp:Addr->List V->Hp->VK->Prop) (a:Addr) (t:TA):TE:=λσ H Q=>t σ H λvs H1=>sp a vs H1 Q
theorem Zc (F:TX X.prog X.w X.K X.mg X.base k f fd ps sp) (hr:Eh k a X.A) (hg:Gl X x) (hm:X.mg x=some (.ref f)) (hk:keepIn X.K (.ref f)=true) (hb:Binds X.K fd ps [])
  (ha:PA X (e::es) t) (hdb:(x==("__debug__" : Str))=false:=by decide) (he:starEach (e::es) X.env=(false,eval e X.env)::starEach es X.env:=by rfl) (hpl:(backTo pos (starEach es X.env)).any (·.1)=false:=by rfl) :
  PE X (.Call (.Name x p) (e::es) [] pos) (afr sp a t):=by
 intro pins s σ H Q I h;refine kq (wJ I hg hm ?_ hdb);refine yf (h₀:=X.base) I.ok.mod.kin hk (iI (ha pos pins s σ H _ I h) λus s1 ⟨vs,H1,I1,r,q⟩=>⟨I1.K5,?_⟩) he hpl;have hl:us.length=ps.length:=by rw[<-r.length];exact F.len _ _ _ _ q
 have hb1:=hb s1 us I1.K5 (by rw[QY];exact hl);rw[QY] at hb1;refine KF (k8 (F.run a X.A X.stack s1 H1 ⟨us,[]⟩ us vs Q hr I1.env0 hb1 r q) λr s' hq=>?_);cases r with
 |error e=>exact False.elim hq
 |ok fl=>
  cases fl with
  |ret u=>exact I1.after hq
  |next=>exact False.elim hq
  |brk=>exact False.elim hq
  |cont=>exact False.elim hq
end
def ahm (e C:Addr) (d:Option Addr) (lo:Int) (n:Nat):It:=⟨λi _=>i < n,λi H x H'=>H'=H/\x=.int (lo+i),λi H=>n<=i/\H e=some (Z7 e C d)⟩
abbrev hdB (e:Addr):Around->Bool->Prop:=λA _=>A.handled=some (.ref e)
theorem Ob (e C:Addr) (d:Option Addr) (it:Addr) (lo:Int) (n:Nat):Lx (hdB e) P w K tg (ahm e C d lo n) [it] it (λi h=>IsRangeIter h it (lo+(i:Nat) * 1) ((n:Int) - (i:Nat)) 1) where
 obj:=λi h st b hb=>by
  have e:b=it:=by simpa using hb
  subst e;exact⟨_,st,λv z=>by
   have z':Data.fields _=Data.cell v:=z;cases z'⟩
 keep:=λi h h' st k=>k it (by simp) _ st
 item:=by
  intro X hP hw hK hc i pins s σ H E I hf st hg;subst hP hw hK;obtain⟨f0,f1,f2,f3,f4,f5⟩:=hf it (by simp);have hi:i < n:=hg;refine wpAny_pyNext_range_item st (by omega) λh' st' sb=>?_;have st1:IsRangeIter h' it (lo+((i+1:Nat):Int) * 1) ((n:Int) - ((i+1:Nat):Int)) 1:=by
   have e1:lo+((i+1:Nat):Int) * 1=lo+(i:Int) * 1+1:=by omega
   have e2:(n:Int) - ((i+1:Nat):Int)=(n:Int) - (i:Int) - 1:=by omega
   rw[e1,e2];exact st'
  refine⟨_,rfl,BP (n := "range_iterator") st' rfl rfl (by decide) ⟨.int (lo+i),H,I.turned (λb o hb e=>sb.extBut b o (by simpa using hb) e) f0 f1 f3 f4 f5,⟨s.toks,by rw[Int.mul_one]⟩,⟨rfl,rfl⟩,st1,λb hb=>(hf b hb).1⟩⟩
 done:=by
  intro X hP hw hK hc i pins s σ H E I hf st hg;subst hP hw hK;obtain⟨f0,f1,f2,f3,f4,f5⟩:=hf it (by simp);obtain⟨hn,he⟩:=hg;obtain⟨vs,sl,ho,h2⟩:=(I.hok e _ he).1;exact Oa hc ho rfl h2 st (by omega) λh' eb=>⟨rfl,I.turned (t':=s.toks) (λb o hb e=>eb b o hb e) f0 f1 f3 f4 f5⟩
 self:=λ_ _ _ _ _ st h=>wpAny_pyIter_rangeiter st h
theorem Yields.aji {e:Addr} {d:Option Addr} (lo:Int) (n:Nat) (he:Hs e=some (Z7 e C d)):Yields K (ahm e C d lo n) (Ab lo n) Hs:=λi H s=>by
 obtain⟨y1,y2⟩:=Yields.rng (K:=K) (Hs:=Hs) lo n i H s;exact⟨y1,λh=>⟨y2 h,s _ _ he⟩⟩
section
variable {p0 p1:Pos} {xs:LS_} {e:Addr} {a:Expr} {ta:TA}
theorem VN {Q:VP_} {lo hi:Int} {t u v:Tok} {tk:Nat} (I:Inv X pins σ H s) (h1 : -(2 ^ 62)<=lo) (h2:lo < 2 ^ 62) (h3 : -(2 ^ 62)<=hi) (h4:hi < 2 ^ 62) (q:∀ it s2,Inv X pins σ H s2->IsRangeIter s2.heap it (lo+((0:Nat):Int) * 1) ((((hi - lo).toNat:Nat):Int) - ((0:Nat):Int)) 1->qe X pins H it->Q (.ref it) s2) :
  wpAny (model X.prog X.w) X.A (pyIter (.ref s.heap.objs.size)) Q E { s with heap:=s.heap.push { cls:=.type "range", data:=.fields #[.int lo t,.int hi u,.int 1 v] },toks:=tk }:=by
 refine wpAny_pyIter_range (IsRange.new ..) (small_one h1 h2 h3 h4) ?_;have I1:Inv X pins σ H { s with heap:=s.heap.push { cls:=.type "range", data:=.fields #[.int lo t,.int hi u,.int 1 v] },toks:=tk }:=I.kept λb o e=>zd _ e;refine q _ _ (I1.kept (t':=tk) λb o e=>zd _ e) ?_ (I1.Uq (zg _) (I1.hok.fresh (zg _)));have e1:lo+((0:Nat):Int) * 1=lo:=by simp
 have e2:(((hi - lo).toNat:Nat):Int) - ((0:Nat):Int)=Builtin.Range.rangeSize lo hi 1:=by rw[rangeSize_one];split<;>omega
 rw[e1,e2];exact zv _ rfl
def afs (K:FG_) (e:Addr) (gt:Dt->Ev->Option Ev) (p:Ev->Option Bool) (fe:Ev->Option Bx) (is:List Nat) (n j:Nat):TE:=λσ H Q=>∃ ρ C d out,bL K H H σ ρ/\H e=some (Z7 e C d)/\w5 gt p fe (iY is ρ++List.replicate n none) (Ab 0 j)=some out ∧
 ∀ D us H',H D=none->Same H H'->H' D=some (.lst us)->aO K H' out us->Q (.ref D) H'
theorem Zd (ts:LS_) (j:Nat) (hj:j<=100000) (O:pR X scope cl xs is) (hh:X.A.handled=some (.ref e)) (hg:Gl X "range") (hm:X.mg "range" = none) (ha:PA X [a] ta) (hta:∀ σ H R,R [V.int j] H->ta σ H R)
  (Hl:∀ C s₀ H₀ fp,PTg (Ad X (xs++ts) scope cl C s₀ H₀ fp) tgt gt) (hif:∀ C s₀ H₀ fp,Tests (Ad X (xs++ts) scope cl C s₀ H₀ fp) ifs p) (helt:∀ C s₀ H₀ fp,PV (Ad X (xs++ts) scope cl C s₀ H₀ fp) elt fe) (htk:Xg is.length (is.length+ts.length) gt)
  (hst:starEach [a] X.env=[(false,eval a X.env)]:=by rfl) (hs:∀ x,foldedSetIterable (.Call (.Name "range" p0) [a] [] p1) X.env x=pure x:=by intro _;rfl) :
  PE X (.ListComp elt [⟨tgt,.Call (.Name "range" p0) [a] [] p1,ifs,0⟩] scope pos) (afs X.K e gt p fe is ts.length j):=λpins s σ H Q I h=>by
 obtain⟨ρ,Ce,de,out,E,he,eo,q⟩:=h;rw[eval_ListComp];refine kc (use:=none) rfl hs O.clos O.kind O.names ?_;refine Call_ (BK I hg hm boot_range (PyProof.Rows.callWith_type1 (iI (ha p1 pins s σ H (λvs H1=>vs=[.int j]/\H1=H) I (hta _ _ _ ⟨rfl,rfl⟩)) λus s1 ⟨vs,H1,I1,r1,q1⟩=>?_) hst rfl));obtain⟨rfl,rfl⟩:=q1;cases r1 with
 |cons r rr=>
  cases rr;obtain⟨t,rfl⟩:=r;refine call_range_1 (VN I1 (by omega) (by omega) (by omega) (by omega) λit s2 I2 st fC=>?_);have ej:(((j:Int) - 0).toNat:Nat)=j:=by omega
  rw[ej] at st;refine tK (B:=hdB e) (fp:=[it]) (RR:=λacc C=>compPost (model X.prog X.w) X.A X.xe none (EP X pins σ Q) acc C) (ts:=ts) (xs:=xs) O hh Hl hif helt htk I2 (E.caps is ts.length) (Ob e Ce de it 0 j) st (λb hb=>by
   have z:b=it:=by simpa using hb
   rw[z];exact fC) (Yields.aji 0 j he) (by simpa[Ab] using hj) eo ?_
  intro D C s' H' us hD I' fC ⟨m,hn⟩ s2' hD' r';refine⟨m,hn,λh' sb=>⟨.ref D,H',?_,rfl,q D us H' hD s2' hD' r'⟩⟩;obtain⟨f0,f1,f2,f3,f4,f5⟩:=fC;exact I'.turned (t':=s'.toks) (λb o hb e=>(sb.2 b hb).trans e) f0 f1 f3 f4 f5
end
section
variable {f:Str} {E:XK} {fs:Ev->Option (List Bx)} {p:Pos}
theorem Ze {k:Nat} {fa:Addr} {Fx:List Bx->Option Dt} (G:lB X.prog X.w X.K X.mg X.base (Py X.prog X.w) k fa fd ps (spX X.K n Fx C f)) (hr:g8 k X.A) (hg:Gl X x) (hm:X.mg x=some (.ref fa)) (hk:keepIn X.K (.ref fa)=true) (hb:Binds X.K fd ps []) (Za:∀ e s,RX X E e s->X.xe e s) (ha:UW X (e::es) fs) (hdb:(x==("__debug__" : Str))=false:=by decide) (he:starEach (e::es) X.env=(false,eval e X.env)::starEach es X.env:=by rfl) (hpl:(backTo cpos (starEach es X.env)).any (·.1)=false:=by rfl) (hsw:swapsWith (.Call (.Name x p) (e::es) [] cpos) none pos.line X.env=pure false:=by rfl) :
  QX1 X C f E (.Expr (.Call (.Name x p) (e::es) [] cpos) pos) (ac9 n Fx fs):=⟨λpins s σ H D I hw=>by
 refine wpAny_Expr_any (ZU (Jc (p:=p) (pos:=cpos) G hr hg hm hk hb .nil (ab9 Za) ha.run hdb he hpl pins s σ H (λ_ _=>False) I ?_) (λv s1 h1=>?_) λ_ _ z=>z) I.quiet hsw
 ·obtain⟨H0,ρ,d,Ev,ed,w⟩:=hw;obtain⟨bs,eb,ed⟩:=bind_some ed;split at ed
  ·rename_i hn;refine⟨H0,ρ,bs,Ev,eb,λvs H1 s1 r1=>?_⟩;show spX X.K n Fx C f (vs++[]) H1 _ E;rw[QY];exact⟨by rw[<-Paired.length r1];exact hn,_,d,Cw r1,Jp bs,ed,w.rebase (Ev.base.trans s1)⟩
  ·cases ed
 ·obtain⟨_,_,_,_,z⟩:=h1;exact False.elim z⟩
end
theorem XW.no {E:XK} (h:∀ H',Same H0 H'->E (.ref C) none H'):XW K C "" E H0 d:=λdx H' s q=>by
 rw[zi rfl] at q;subst q;exact h H' s
def Oc (K:FG_) (C:Addr) (bmB:List Value) (newId initId:String):Bool:=match K.lookup C with
 |some ⟨.type "type", _,.cls cd,sl⟩=>(match cd.mro,sl.toList with
  |.ref C'::bm,[_,_,_,_,some (.builtin n),_]=>C'==C&&(n==newId&&(!cd.hasDel&&(PySem.W.tailIn K bmB bm&&findIn K (.ref C) "__init__" == some (some (.builtin initId)))))
  |_,_=>false)
 |_=>false
theorem J8 (X:K.In h) (q:Oc K C bmB newId initId=true):XCl h C bmB newId/\findIn K (.ref C) "__init__" = some (some (.builtin initId)):=by
 unfold Oc at q;split at q
 ·rename_i dd cd sl ho;split at q
  ·rename_i C' bm k0 k1 k2 k3 n k5 hm hs;simp only[ZE,beq_iff_eq,qB] at q;obtain⟨rfl,rfl,hdel,ht,hi⟩:=q;obtain⟨nm,bs,mro,ns,qn,hd,sn,sub,ab,col,del⟩:=cd;dsimp only at hm hdel;subst hm hdel;have hsl:sl=#[k0,k1,k2,k3,some (.builtin n),k5]:=by
    obtain⟨l⟩:=sl;simp only at hs;rw[hs]
   subst hsl;exact⟨⟨nm,qn,ns,bs,bm,hd,sn,sub,ab,col,dd,k0,k1,k2,k3,k5,X _ _ ho,PySem.W.tail_of_in X ht⟩,hi⟩
  ·cases q
 ·cases q
section
variable {g:Array GenState} {d:Drawn} {t:Nat} {rest:List Value} {B:String}
theorem Zf {Q:Fin->Shared->Prop} (F:ExcBaseFacts B newId initId bmB) (X:K.In h) (hx:Oc K C bmB newId initId=true) (hr:rest.length<=sizeLine)
  (hq:∀ h' t1,(∀ b o,h.get? b=some o->h'.get? b=some o)->h'.get? (h.objs.size+1)=some (exD C t1 none)->Q (.done (.ret (.ref (h.objs.size+1)))) ⟨h',g,d,t,os⟩) :
  wpAny (model prog w) A (Builtin.«type.__call__» ⟨.ref C::rest,[]⟩) Q E ⟨h,g,d,t,os⟩:=by
 obtain⟨x,hi⟩:=J8 X hx;obtain⟨nm,q,N,bs,bm,hdct,sn,sub,ab,col,dd,k0,k1,k2,k3,k5,hC,T⟩:=x
 repeat (first|with_reducible refine Ki hC ?_|with_reducible refine wpAny_madeBy_exc hC ?_|wp_step)
 refine codeAny_call_builtin_code (Code.quiet_builtin _ F.quiet) (wpAny_check_new_subT F T hC ?_);refine codeAny_exc_new_subT F T hC ?_ hr;show wpAny _ _ _ _ _ _;have kp:∀ b o,h.get? b=some o->((h.push { cls:=.type "tuple", data:=.seq rest.toArray }).push (TV C h.objs.size)).get? b=some o:=λb o z=>zd _ (zd _ z);have hget:((h.push { cls:=.type "tuple", data:=.seq rest.toArray }).push (TV C h.objs.size)).get? (h.objs.size+1)=some (TV C h.objs.size):=by heap_get
 have hcC:(Value.ref C::bm).contains (.ref C)=true:=by simp
 unfold isInstance
 repeat (first|with_reducible refine Ki hget ?_|(with_reducible refine wpAny_isSubtype_exc (kp _ _ hC) ?_;rw[hcC])|wp_step)
 show wpAny _ _ (typeLookup (.ref C) _) _ _ _;refine(looks_findIn (X.keeps kp) hi).at ?_;refine qo (zb (yi (F.init.bind _) ?_));have x2:XCl ((h.push { cls:=.type "tuple", data:=.seq rest.toArray }).push (TV C h.objs.size)) C bmB newId:=⟨nm,q,N,bs,bm,hdct,sn,sub,ab,col,dd,k0,k1,k2,k3,k5,kp _ _ hC,T.keeps kp⟩;refine zb (afh F x2 (dx:=none) (t0:=h.objs.size) hget hr λh' t1 k he _ _=>?_)
 wp_walk
 exact hq h' t1 (λb o z=>k b o (zI (qq (zw z))) (kp b o z)) he
theorem ace {Q:VP_} (F:ExcBaseFacts B newId initId bmB) (X:K.In h) (hx:Oc K C bmB newId initId=true) (hr:rest.length<=sizeLine)
  (hq:∀ h' t1,(∀ b o,h.get? b=some o->h'.get? b=some o)->h'.get? (h.objs.size+1)=some (exD C t1 none)->Q (.ref (h.objs.size+1)) ⟨h',g,d,t,os⟩) :
  wpAny (model prog w) A (call (.ref C) rest) Q E ⟨h,g,d,t,os⟩:=by
 obtain⟨nm,q,N,bs,bm,hdct,sn,sub,ab,col,dd,k0,k1,k2,k3,k5,hC,T⟩:=(J8 X hx).1;have f1:=tc_lookup;have f2:=tc_bind (.ref C);have hT:(⟨h,g,d,t,os⟩:Shared).TypeIs (.ref C) "type" := ⟨_,hC,rfl⟩;refine KF (codeAny_of_tree ?_);show wpAny _ _ (callAny (.ref C) _) _ _ _
 repeat (any_goals (first|assumption|with_reducible refine Ki hC ?_|wp_step))
 refine⟨rfl,?_⟩;exact codeAny_call_builtin_at (Code.quiet_builtin _ (by decide +kernel)) entry_typeCall (wpAny_check_type_call_sub hC (Zf F X hx hr λh' t1 k he=>hq h' t1 k he))
end
section
variable {E:XK} {p:Pos} {B:String} {k:Nat} {t:TA}
def ajj (C:Addr) (E:XK) (t:TA):TS:=λ_ σ H=>t σ H λvs H1=>vs.length=1/\E (.ref C) none H1
theorem aft (Fe:ExcBaseFacts B newId initId bmB) (hx:Oc X.K C bmB newId initId=true) (hbase:bmB.contains (.type "BaseException")=true) (hk:keepIn X.K (.ref C)=true)
  (hr:g8 k X.A) (hg:Gl X x) (hm:X.mg x=some (.ref C)) (Za:∀ e s,RX X E e s->X.xe e s) (ha:PA X (e::es) t)
  (hdb:(x==("__debug__" : Str))=false:=by decide) (hs:starEach (e::es) X.env=(false,eval e X.env)::starEach es X.env:=by rfl) (hpl:(backTo cpos (starEach es X.env)).any (·.1)=false:=by rfl) :
  PS X (.Raise (some (.Call (.Name x p) (e::es) [] cpos)) none pos) (ajj C E t):=by
 intro pins s σ H D I h;rw[arm_exec_Raise];refine zb (kP (ab3 (C:=C) (bmB:=bmB) (newId:=newId) hbase hr.hd (zb (ZU ?_ (λv s3 h3=>zb (kP (ze h3))) λ_ _ x=>x))));refine kq (wJ I hg hm ?_ hdb);refine yf (h₀:=X.base) I.ok.mod.kin hk (iI (ha cpos pins s σ H _ I h) λus s1 ⟨vs,H1,I1,r,ev,q⟩=>⟨I1.K5,?_⟩) hs hpl;have hl:us.length=1:=r.length.symm.trans ev;have hf:H1 (s1.heap.objs.size+1)=none:=I1.hok.fresh (kl _);have mi:yd X H1 (s1.heap.objs.size+1):=yd.new (I1.Az (Ws:=[]) λ_ z=>nomatch z) (kl _);obtain⟨hh,g,d,tk,os⟩:=s1;refine ace Fe I1.K5 hx (by rw[kQ,hl];decide +kernel) λh' t1 k' he=>?_;have I2:Inv X pins σ (upd H1 (hh.objs.size+1) (ExO (hh.objs.size+1) C none)) ⟨h',g,d,tk,os⟩:=I1.laid (t':=tk) k' (kl _) (afj he);have J:=Inv.ab5 I2 bf;have eH:zU (upd H1 (hh.objs.size+1) (ExO (hh.objs.size+1) C none)) (hh.objs.size+1)=H1:=by
  funext b;unfold zU;by_cases hb:b=hh.objs.size+1
  ·rw[zi hb,hb];exact hf.symm
  ·rw[zC hb,aK hb]
 rw[eH] at J;exact⟨hh.objs.size+1,t1,none,rfl,(J8 I2.K5 hx).1,he,Za _ _ ⟨hh.objs.size+1,.ref C,none,σ,_,rfl,J,mi,.inl ⟨_,_,he,⟨rfl,rfl⟩⟩,q⟩⟩
theorem VP (Fe:ExcBaseFacts B newId initId bmB) (hx:Oc X.K C bmB newId initId=true) (hbase:bmB.contains (.type "BaseException")=true) (hk:keepIn X.K (.ref C)=true)
  (hr:g8 k X.A) (hg:Gl X x) (hm:X.mg x=some (.ref C)) (Za:∀ e s,RX X E e s->X.xe e s) (he:QV X e fe)
  (hdb:(x==("__debug__" : Str))=false:=by decide) (hs:starEach [e] X.env=(false,eval e X.env)::starEach [] X.env:=by rfl) (hpl:(backTo cpos (starEach [] X.env)).any (·.1)=false:=by rfl) :
  QX1 X C "" E (.Raise (some (.Call (.Name x p) [e] [] cpos)) none pos) (rzX (λ_=>true) fe):=⟨R6 (aft Fe hx hbase hk hr hg hm Za (aY he.run dW hs) hdb hs hpl) λD σ H h=>by
 obtain⟨H0,ρ,d,Ev,ed,w⟩:=h;obtain⟨b,eb,ed⟩:=bind_some ed;exact⟨H0,ρ,_,Ev,eb,λv H1 s1 _ r1=>⟨rfl,w none H1 (Ev.base.trans s1) (by rw[zi rfl])⟩⟩⟩
end
theorem Ii (h:nP d=true):∃ x,d=.str x:=by
 cases d with
 |str x=>exact⟨x,rfl⟩
 |_=>cases h
theorem zV (h:is_tuple d=true):∃ ds,d=.tup ds:=by
 cases d with
 |tup x=>exact⟨x,rfl⟩
 |_=>cases h
theorem acf (h:is_tuple d=true):JV d=true:=by
 obtain⟨ds,rfl⟩:=zV h;rfl
theorem acg {k:Nat} (h:ds[k]?=some d):Nv (.tup ds) (k:Int)=d:=by
 have hl:k < ds.length:=(List.getElem?_eq_some_iff.mp h).1;have:BX ds (k:Int)=some d:=by
  unfold BX ixN;rw[zi (by omega),zi (by omega),bnd,kC,h]
 unfold Nv;simp only[fW,qT,bnd,this]
theorem ahn (a:Dt) (r:List Dt):Nv (.tup (a::r)) 0=a:=acg (k:=0) rfl
theorem ach (h:d∈itX (.str x)):d=eS (JX d):=by
 unfold itX signs at h;obtain⟨c,_,rfl⟩:=List.mem_map.mp h;rfl
theorem aci (x:Str):(itX (.str x)).length=x.length:=VG x
theorem lt_iff (a b:Str):qK a b=true↔FQ a b/\a≠b:=by
 unfold qK FQ;rw[ltCps_eq];simp only[qA,jv];constructor
 ·intro h;exact⟨List.lt_asymm h,λe=>by subst e;exact List.lt_irrefl _ h⟩
 ·intro⟨h,hn⟩;by_cases q:a.cps.toList < b.cps.toList
  ·exact q
  ·exact absurd (CW (a:=a) (b:=b) (by unfold FQ;rw[ltCps_eq];simpa using h) (by unfold FQ;rw[ltCps_eq];simpa using q)) hn
theorem J9 {i:Int} (h:i∈rng 0 n):∃ k:Nat,k < n/\i=(k:Int):=by
 unfold rng at h;obtain⟨k,hk,rfl⟩:=List.mem_map.mp h;exact⟨k,List.mem_range.mp hk,by omega⟩
end P1
namespace P1
open L2 S1 S6
def same (w:List LS_) (x y:Str):Prop:=∃ s∈w,x∈s/\y∈s
end P1
section
set_option maxHeartbeats 1000000
namespace P1
open L2
open PySem.Builtin PySem.Builtin.Str
abbrev cs (s:Str):List Nat:=s.cps.toList
theorem Ka (a b:Str):cs (a++b)=cs a++cs b:=Array.toList_append
theorem Ei (a:Str):a.length=(cs a).length:=by simp[Str.length]
theorem acj (y p q:Str) (ps:LS_):Str.join y (p::q::ps)=p++y++Str.join y (q::ps):=rfl
theorem VR {c:Nat} {s:Str} (h:c∈cs s):Ht ⟨#[c]⟩ s=true:=by
 unfold Ht;obtain⟨i,hi⟩:=(mem_iff_at s c).mp h;rcases StrLaws.occ_head s ⟨#[c]⟩ 1 (zg 1) with⟨h0,hn⟩|⟨i,r,h0,_,_⟩
 ·exact absurd hi (hn i)
 ·rw[h0];rfl
theorem Zg (h:n<=x.length):cs (Txt.slice x (some (n:Int)) none)=(cs x).drop n:=by
 rw[slice_from_eq (b:=x.length) (by omega) (by omega) rfl];show((cs x).drop ((n:Int).toNat)).take _=_;rw[kC,List.take_of_length_le (by rw[kg,<-Ei];omega)]
theorem Zh (h:n<=x.length):cs (Txt.slice x none (some (n:Int)))=(cs x).take n:=by
 have:=slice_closes_to (x:=x) (j:=(n:Int)) ⟨by omega,by rw[show x.cps.toList.length=x.length by simp[Str.length]];omega⟩;rw[eq_of_beq this];show((cs x).drop 0).take _=_;simp
theorem acn:∀ (y p:Str) (ps:LS_),cs (Txt.join y (p::ps))=cs p++ps.flatMap λq=>cs y++cs q:=by
 intro y p ps;rw[show Txt.join y (p::ps)=Str.join y (p::ps) from StrLaws.glued_eq_join y _]
 induction ps generalizing p with
 |nil=>simp[Str.join]
 |cons q ps ih=>rw[acj,Ka,Ka,ih,List.flatMap_cons,kB,kB]
end P1
end
section
set_option maxHeartbeats 1000000
namespace P1
open L2 S1 S6
section
variable [Inhabited α]
end
section
variable {e:α->Dt} [qL e]
end
end P1
end
namespace P1
open L2
open PySem.Builtin PySem.Builtin.Str
end P1
section
set_option maxHeartbeats 1000000
namespace P1
open L2
open PySem.Builtin PySem.Builtin.Str
end P1
end
section
set_option synthInstance.maxSize 100000
namespace G15
open L2 P1
noncomputable section
abbrev LD_:=List P1.Dt
abbrev aU:Type:=Int×Str×Str×Int
abbrev aX:aU->Dt:=eP4 eI eS eS eI
abbrev qx:Type:=Str×Str×Int
abbrev Ak:qx->Dt:=eP3 eS eS eI
abbrev fY:Type:=LS_×(List aU)×(List qx)
abbrev cM:fY->Dt:=eP3 (eT eS) (eT aX) (eT Ak)
abbrev aho:Type:=Dt×Dt×Dt
abbrev ahp:aho->Dt:=eP3 eD eD eD
def aco (d:Dt):aho:=(Nv d 0,Nv d 1,Nv d 2)
def Zi (d:Dt):aU:=(Tr (Nv d 0),JX (Nv d 1),JX (Nv d 2),Tr (Nv d 3))
def top (i:Nat):Stmt:=PySem.Challenge.pw_onefolk_k15_what_hangs_on_a_reason.main.body.getD i (.Pass ⟨0,0,0,0⟩)
abbrev Ej:Stmt:=top 33
abbrev vI:Stmt:=top 34
abbrev zW:Stmt:=top 38
abbrev zX:Stmt:=top 35
abbrev yh:Stmt:=top 36
abbrev zY:Stmt:=top 39
abbrev Ek:Stmt:=top 11
abbrev El:Stmt:=top 10
abbrev zZ:Stmt:=top 19
abbrev yj:Stmt:=top 16
abbrev Ij:Stmt:=top 15
abbrev Od:Stmt:=top 22
abbrev z7:Stmt:=top 21
abbrev gw:Stmt:=top 31
abbrev yp:Stmt:=top 26
abbrev yq:Stmt:=top 27
abbrev Em:Stmt:=top 25
abbrev vJ:Stmt:=top 28
abbrev Ik:Stmt:=top 24
abbrev rB:Stmt:=top 30
abbrev z8:Stmt:=top 37
abbrev Il:Stmt:=top 42
abbrev yr:Stmt:=top 43
abbrev vK:Stmt:=top 44
abbrev pX:Stmt:=top 41
abbrev Im:Stmt:=top 45
abbrev s_law:Stmt:=top 46
def fuel:Nat:=4
def vL:Ev->Option Out:=(aJ (aJ (setG 2 (b2 fM (b2 dB (b2 tO (gv 2) (cB (.int 69621))) (gv 3)) (cB (.int 2147483647)))) gZ) (dR [3]))
def rC:Ev->Option Out:=(aJ (Ga (yV ltA (gv 1) (bU yU (aq (gv 0) aH))) (aJ (iZ (b2 fW (gv 0) (gv 1))) gZ) gZ) (aJ (setG 2 (b2 fM (b2 tO (cB (.int 48271)) (b2 dB (b2 dB (b2 tO (gv 1) (gv 1)) (b2 tO (cB (.int 7)) (gv 1))) (cB (.int 11)))) (cB (.int 2147483647)))) (aJ (nU (Z6 (Ge (gv 0) jB (nQ (cB (.int 3))))) (ji 3) vL) (aJ (iZ (gv 2)) gZ))))
def fu:List Bx->Option Bx:=dI 4 rC
def jZ:Ev->Option Out:=(aJ (aJ (setG 3 (b2 fM (b2 dB (b2 dB (b2 tO (gv 3) (b2 dB (b2 fM (gv 3) (cB (.int 65521))) (cB (.int 40487)))) (b2 tO (cB (.int 7)) (gv 5))) (cB (.int 5))) (cB (.int 1999999973)))) (aJ (Mp 2 (b2 fW (bU jk (aq (gv 3) (aq (b2 fM (gv 4) (cB (.int 1000000))) aH))) (bU Xw (aq (b2 gtB (gv 4) (cB (.int 0))) aH)))) (aJ (setG 4 (b2 xu (gv 4) (cB (.int 1000000)))) gZ))) (dR [5]))
def kJ:Ev->Option Out:=(aJ (setG 2 (bU jk aH)) (aJ (setG 3 (b2 fM (b2 tO (b2 dB (b2 fM (gv 0) (cB (.int 1999999973))) (cB (.int 31))) (cB (.int 765432101))) (cB (.int 1999999973)))) (aJ (setG 4 (cB (.int 0))) (aJ (Ga (orT (yV ltA (gv 0) (cB (.int 0))) (yV geB (gv 0) (b2 aem (cB (.int 10)) (cB (.int 18))))) (aJ (aJ (setG 4 (bU Xv (aq (gv 0) aH))) gZ) (dR [])) (aJ gZ (dR []))) (aJ (nU (Mq (aq (gv 1) aH)) (ji 5) jZ) (aJ (FZ 2) gZ))))))
def cV:List Bx->Option Bx:=dI 6 kJ
def uw:Ev->Option Out:=(aJ (aJ (Vb 8 9 (aq (b2 fW (gv 5) (gv 7)) (aq (b2 fW (gv 5) (b2 fM (b2 dB (gv 7) (cB (.int 1))) (cB (.int 30)))) aH))) (aJ (setG 10 (b2 fW (bU jk (aq (cB (.int 5)) (aq (b2 subB (cB (.int 1000)) (gv 7)) (aq (b1 qP (b2 dB (cB (.int 1)) (gv 7))) (aq (b1 qP (b2 dB (cB (.int 1)) (b2 fM (b2 tO (gv 7) (gv 7)) (cB (.int 9))))) aH))))) (b2 fM (gv 2) (cB (.int 4))))) (aJ (Mp 6 (bU fL (aq (b2 subB (cB (.int 0)) (gv 10)) (aq (b1 qP (bU uh (aq (gv 8) (aq (gv 9) aH)))) (aq (b1 qP (bU Np (aq (gv 8) (aq (gv 9) aH)))) (aq (b2 fM (gv 7) (cB (.int 3))) aH)))))) gZ))) (dR [7,8,9,10]))
def oY:Ev->Option Out:=(aJ (setG 3 (cB (.str "abcd"))) (aJ (setG 4 (dY (Mq (aq (cB (.int 30)) aH)) (ji 1) vX (b2 tO (b2 fW (gv 0) (b2 xu (gv 1) (cB (.int 8)))) (b2 dB (cB (.int 1)) (b2 fM (gv 1) (cB (.int 8))))) [3] 1)) (aJ (setG 5 (dY (Mq (aq (cB (.int 30)) aH)) (ji 2) vX (b2 fW (gv 0) (b2 fM (b2 dB (b2 tO (cB (.int 7)) (gv 2)) (gv 1)) (cB (.int 30)))) [4,1] 1)) (aJ (setG 6 (bU jk aH)) (aJ (nU (Mq (aq (b2 dB (cB (.int 29)) (b2 fM (gv 0) (cB (.int 2)))) aH)) (ji 7) uw) (aJ (iZ (bU fL (aq (bU jC (aq (bU zJ (aq (gv 4) aH)) aH)) (aq (bU jC (aq (dY (Gf (bU ud (aq (gv 6) aH))) (qm 4 (bR (ji 0) (bR (ji 1) (bR (ji 2) (bR (ji 3) tD))))) vX (bU fL (aq (b2 subB (cB (.int 0)) (gv 0)) (aq (gv 1) (aq (gv 2) (aq (gv 3) aH))))) [] 4) aH)) (aq (bU fL aH) aH))))) gZ))))))
def oZ:List Bx->Option Bx:=dI 11 oY
def n6:Ev->Option Out:=(aJ (aJ (setG 7 (b2 fW (gv 2) (b2 fM (b2 dB (gv 6) (b2 fW (gv 0) (cB (.int 2)))) (cB (.int 15))))) (aJ (setG 8 (b2 dB (b2 dB (Ge (gv 3) jB (nQ (gv 4))) (gv 7)) (Ge (gv 3) (nQ (gv 4)) jB))) (aJ (Ga (yV eqB (b2 fM (b2 fW (gv 0) (cB (.int 3))) (cB (.int 3))) (cB (.int 1))) (aJ (aJ (setG 8 (b2 tO (b2 fW (gv 2) (b2 xu (gv 6) (cB (.int 8)))) (b2 dB (cB (.int 1)) (b2 fM (gv 6) (cB (.int 8)))))) gZ) (dR [])) (aJ gZ (dR []))) (aJ (Mp 5 (gv 8)) gZ)))) (dR [6,7,8]))
def o7:Ev->Option Out:=(aJ (setG 2 (cB (.str "abcdefghijklmnopqrstuvwxyz"))) (aJ (setG 3 (b1 (Ms "") (dY (Mq (aq (b2 fM (b2 fW (gv 0) (cB (.int 0))) (cB (.int 6))) aH)) (ji 2) vX (b2 fW (gv 0) (b2 fM (b2 xu (b2 fW (gv 1) (gv 2)) (cB (.int 40))) (cB (.int 26)))) [2,0] 1))) (aJ (setG 4 (b2 fM (b2 fW (gv 0) (cB (.int 1))) (b2 dB (bU yU (aq (gv 3) aH)) (cB (.int 1))))) (aJ (setG 5 (bU jk aH)) (aJ (nU (Mq (aq (gv 1) aH)) (ji 6) n6) (aJ (FZ 5) gZ))))))
def lJ:List Bx->Option Bx:=dI 9 o7
def lW:Ev->Option Out:=(aJ (aJ (setG 9 (cI 2 cV (aq (b1 qP (cI 2 fu (aq (gv 0) (aq (b1 qP (b2 dB (b2 dB (gv 1) (cB (.int 1))) (gv 8))) aH)))) (aq (cB (.int 4)) aH)))) (aJ (Vb 10 11 (aq (b2 fM (b2 fW (gv 9) (cB (.int 0))) (bU Gg (aq (cB (.int 1)) (aq (gv 2) aH)))) (aq (b2 fM (b2 fW (gv 9) (cB (.int 1))) (bU Gg (aq (cB (.int 1)) (aq (gv 2) aH)))) aH))) (aJ (setG 12 (b2 fW (bU jk (aq (b1 qP (b2 dB (cB (.int 1)) (b2 fM (b2 fW (gv 9) (cB (.int 2))) (cB (.int 3))))) (aq (b1 qP (b2 dB (cB (.int 1)) (b2 fM (b2 fW (gv 9) (cB (.int 2))) (cB (.int 9))))) (aq (b1 qP (b2 dB (cB (.int 1)) (b2 fM (b2 fW (gv 9) (cB (.int 2))) (cB (.int 1000))))) aH)))) (b2 fM (b2 fW (gv 5) (cB (.int 4))) (cB (.int 3))))) (aJ (Ga (yV Sh (gv 10) (gv 11)) (aJ (aJ (Mp 7 (bU fL (aq (b2 subB (cB (.int 0)) (gv 12)) (aq (b2 fW (gv 6) (bU Vd (aq (gv 10) (aq (gv 11) aH)))) (aq (b2 fW (gv 6) (bU Gg (aq (gv 10) (aq (gv 11) aH)))) (aq (b2 fW (bU jk (aq (cB (.int 0)) (aq (cB (.int 2)) (aq (cB (.int 10)) aH)))) (b2 fM (b2 fW (gv 9) (cB (.int 3))) (cB (.int 3)))) aH)))))) gZ) (dR [])) (aJ gZ (dR []))) gZ)))) (dR [8,9,10,11,12]))
def lX:Ev->Option Out:=(aJ (aJ (setG 9 (cI 2 cV (aq (b1 qP (cI 2 fu (aq (gv 0) (aq (b1 qP (b2 dB (b2 dB (gv 1) (cB (.int 1))) (gv 8))) aH)))) (aq (cB (.int 8)) aH)))) (aJ (Vb 10 11 (aq (b2 fM (b2 fW (gv 9) (cB (.int 5))) (bU Gg (aq (cB (.int 1)) (aq (gv 2) aH)))) (aq (b2 fM (b2 fW (gv 9) (cB (.int 6))) (bU Gg (aq (cB (.int 1)) (aq (gv 2) aH)))) aH))) (aJ (Ga (yV Sh (gv 10) (gv 11)) (aJ (aJ (Mp 14 (bU fL (aq (b2 fW (gv 6) (bU Vd (aq (gv 10) (aq (gv 11) aH)))) (aq (b2 fW (gv 6) (bU Gg (aq (gv 10) (aq (gv 11) aH)))) (aq (b2 fW (bU jk (aq (cB (.int 2)) (aq (cB (.int 10)) aH))) (b2 fM (b2 fW (gv 9) (cB (.int 7))) (cB (.int 2)))) aH))))) gZ) (dR [])) (aJ gZ (dR []))) gZ))) (dR [8,9,10,11]))
def mK:Ev->Option Out:=(aJ (setG 5 (cI 2 cV (aq (b1 qP (cI 2 fu (aq (gv 0) (aq (gv 1) aH)))) (aq (cB (.int 6)) aH)))) (aJ (setG 6 (bU zJ (aq (cI 2 lJ (aq (gv 5) (aq (gv 2) aH))) aH))) (aJ (setG 7 (bU jk aH)) (aJ (nU (Mq (aq (gv 3) aH)) (ji 8) lW) (aJ (setG 13 (dY (Gf (Dp (QM (gv 7)))) (qm 4 (bR (ji 0) (bR (ji 1) (bR (ji 2) (bR (ji 3) tD))))) vX (bU fL (aq (b2 subB (cB (.int 0)) (gv 0)) (aq (gv 1) (aq (gv 2) (aq (gv 3) aH))))) [] 4)) (aJ (setG 14 (bU jk aH)) (aJ (nU (Mq (aq (gv 4) aH)) (ji 8) lX) (aJ (iZ (bU fL (aq (bU jC (aq (gv 6) aH)) (aq (bU jC (aq (gv 13) aH)) (aq (bU jC (aq (Dp (QM (gv 14))) aH)) aH))))) gZ))))))))
def mL:List Bx->Option Bx:=dI 15 mK
def o8:Ev->Option Out:=(aJ (setG 1 (cI 2 cV (aq (b1 qP (cI 2 fu (aq (gv 0) (aq (cB (.int 0)) aH)))) (aq (cB (.int 12)) aH)))) (aJ (Ga (yV eqB (b2 fM (b2 fW (gv 1) (cB (.int 9))) (cB (.int 16))) (cB (.int 5))) (aJ (iZ (cI 3 oZ (aq (b2 xu (b2 fW (gv 1) (cB (.int 9))) (cB (.int 16))) (aq (b2 fW (gv 1) (cB (.int 10))) (aq (b2 fW (gv 1) (cB (.int 11))) aH))))) gZ) gZ) (aJ (setG 2 (b2 fM (b2 fW (gv 1) (cB (.int 6))) (cB (.int 15)))) (aJ (iZ (cI 5 mL (aq (gv 0) (aq (cB (.int 0)) (aq (gv 2) (aq (b2 fM (b2 fW (gv 1) (cB (.int 7))) (cB (.int 22))) (aq (b2 fM (b2 fW (gv 1) (cB (.int 8))) (cB (.int 4))) aH))))))) gZ))))
def o9:List Bx->Option Bx:=dI 3 o8
def rD:Ev->Option Out:=(aJ (iZ (wX (CQ is_tuple (gv 0)) (b2 eqB (bU yU (aq (gv 0) aH)) (gv 1)))) gZ)
def j4:List Bx->Option Bx:=dI 2 rD
def rE:Ev->Option Out:=(aJ (iZ (wX (CQ yS (gv 0)) (aaH (CQ is_bool (gv 0))))) gZ)
def j5:List Bx->Option Bx:=dI 1 rE
def pq:Ev->Option Out:=(aJ (iZ (wX (cI 1 j5 (aq (gv 0) aH)) (ch3 leB leB (cB (.int 1)) (gv 0) (cB (.int 1000))))) gZ)
def pA:List Bx->Option Bx:=dI 1 pq
def mO:Ev->Option Out:=(aJ (iZ (wX (CQ nP (gv 0)) (wX (ch3 leB leB (cB (.int 1)) (bU yU (aq (gv 0) aH)) (gv 2)) (bU allB (aq (dY (Gf (gv 0)) (ji 1) vX (b2 inF (gv 1) (gv 0)) [1] 1) aH))))) gZ)
def mQ:List Bx->Option Bx:=dI 3 mO
def uR:Ev->Option Out:=(aJ (iZ (cI 3 mQ (aq (gv 0) (aq (cB (.str "abcdefghijklmnopqrstuvwxyz")) (aq (cB (.int 8)) aH))))) gZ)
def qy:List Bx->Option Bx:=dI 1 uR
def yt:Ev->Option Out:=(aJ (Ga (Lq (tV (cI 2 j4 (aq (gv 0) (aq (cB (.int 3)) aH))))) (aJ (iZ (cB (.bl false))) gZ) gZ) (aJ (Xy (qm 3 (bR (ji 1) (bR (ji 2) (bR (ji 3) tD)))) (gv 0)) (aJ (iZ (wX (cI 1 qy (aq (gv 1) aH)) (wX (cI 1 qy (aq (gv 2) aH)) (wX (b2 ltA (gv 1) (gv 2)) (wX (cI 1 j5 (aq (gv 3) aH)) (b2 geB (gv 3) (cB (.int 0)))))))) gZ)))
def yu:List Bx->Option Bx:=dI 4 yt
def pB:Ev->Option Out:=(aJ (iZ (wX (cI 2 j4 (aq (gv 0) (aq (cB (.int 4)) aH))) (wX (cI 1 pA (aq (b2 fW (gv 0) (cB (.int 0))) aH)) (cI 1 yu (aq (b1 qP (Ge (gv 0) (nQ (cB (.int 1))) jB)) aH))))) gZ)
def iz:List Bx->Option Bx:=dI 1 pB
def gA:Ev->Option Out:=(aJ (aJ (Ga (orT (Lq (tV (cI 1 iz (aq (gv 1) aH)))) (yV Gk (gv 1) (b2 fW (gv 0) (cB (.int 1))))) (aJ noG gZ) gZ) gZ) (dR []))
def gB:List Bx->Option Bx:=dI 2 gA
def mR:Ev->Option Out:=(aJ (iZ (Td (Gf (gv 0)) (ji 0) vX (gv 0) (gv 0) [] 1)) gZ)
def mU:List Bx->Option Bx:=dI 1 mR
def su:Ev->Option Out:=(aJ (aJ (Ga (orT (yV eqB (b2 tY (gv 0) (gv 4)) (gv 1)) (yV eqB (b2 tY (gv 0) (gv 4)) (gv 2))) (aJ (aJ (XF 0 (gv 3) (gv 4)) gZ) (dR [])) (aJ gZ (dR []))) gZ) (dR [4]))
def mV:Ev->Option Out:=(aJ (aJ (setG 3 (bU uh (aq (gv 1) (aq (gv 2) aH)))) (aJ (nU (Z6 (bU Ds (aq (gv 0) aH))) (ji 4) su) gZ)) (dR [3,4]))
def jH:Addr->List (Key×Dt)->List Bx->Option (List (Key×Dt)):=Nq 5 mV
def vM:Ev->Option Out:=(aJ (aJ (Dv 2 2 jH (aq (b2 tY (gv 2) (gv 4)) (aq (b2 tY (gv 2) (gv 5)) aH))) gZ) (dR [3,4,5,6]))
def rG:Ev->Option Out:=(aJ (setG 2 (cI 1 mU (aq (gv 0) aH))) (aJ (Cu 1 (qm 4 (bR (ji 3) (bR (ji 4) (bR (ji 5) (bR (ji 6) tD))))) vM) (aJ (FZ 2) gZ)))
def rH:List Bx->Option Bx:=dI 7 rG
def kO:Ev->Option Out:=(aJ (iZ (bU jC (aq (dY (Tf (gv 0)) (ji 2) (yV eqB (b2 tY (gv 1) (gv 2)) (gv 0)) (gv 2) [1,0] 1) aH))) gZ)
def kW:List Bx->Option Bx:=dI 2 kO
def uT:Ev->Option Out:=(aJ (setG 3 (cI 2 rH (aq (gv 0) (aq (gv 1) aH)))) (aJ (iZ (cI 2 kW (aq (gv 3) (aq (b2 tY (gv 3) (gv 2)) aH)))) gZ))
def qz:List Bx->Option Bx:=dI 4 uT
def rJ:Ev->Option Out:=(aJ (Tn (cI 2 gB (aq (gv 0) (aq (gv 1) aH)))) (aJ (Xy (qm 3 (bR (ji 2) (bR (ji 3) (bR (ji 4) tD)))) (gv 0)) (aJ (setG 5 (dY (Gf (gv 3)) (ji 1) (yV Sh (gv 1) (gv 0)) (gv 1) [1] 1)) (aJ (setG 6 (cI 3 qz (aq (gv 2) (aq (gv 5) (aq (b2 fW (gv 1) (cB (.int 1))) aH))))) (aJ (Ga (yV inF (b2 fW (gv 1) (cB (.int 2))) (gv 6)) (aJ (iZ (bU fL (aq (cB (.str "stays")) aH))) gZ) gZ) (aJ (iZ (bU fL (aq (cB (.str "parts")) (aq (gv 6) (aq (b1 qP (cI 3 qz (aq (gv 2) (aq (gv 5) (aq (b2 fW (gv 1) (cB (.int 2))) aH))))) aH))))) gZ))))))
def rK:List Bx->Option Bx:=dI 7 rJ
def ux:Ev->Option Out:=(aJ (aJ (setG 7 (b2 fW (dY (Gf (gv 2)) (ji 1) (yV inF (gv 0) (gv 1)) (gv 1) [4] 1) (cB (.int 0)))) (aJ (setG 8 (b2 fW (dY (Gf (gv 2)) (ji 1) (yV inF (gv 0) (gv 1)) (gv 1) [5] 1) (cB (.int 0)))) (aJ (Ga (yV Sh (gv 7) (gv 8)) (aJ (aJ (setG 2 (b2 dB (dY (Gf (gv 2)) (ji 2) (yV Gk (gv 2) (bU jk (aq (gv 0) (aq (gv 1) aH)))) (gv 2) [7,8] 1) (bU jk (aq (b1 qP (bU zJ (aq (b2 dB (gv 7) (gv 8)) aH))) aH)))) gZ) (dR [])) (aJ gZ (dR []))) gZ))) (dR [3,4,5,6,7,8]))
def pC:Ev->Option Out:=(aJ (setG 2 (dY (Gf (gv 0)) (ji 0) vX (b1 qP (bU jk (aq (gv 0) aH))) [] 1)) (aJ (Cu 1 (qm 4 (bR (ji 3) (bR (ji 4) (bR (ji 5) (bR (ji 6) tD))))) ux) (aJ (iZ (bU ud (aq (dY (Gf (gv 2)) (ji 0) vX (bU jC (aq (gv 0) aH)) [] 1) aH))) gZ)))
def pD:List Bx->Option Bx:=dI 9 pC
def uU:Ev->Option Out:=(aJ (setG 2 (cI 2 pD (aq (b2 fW (gv 0) (cB (.int 0))) (aq (b1 qP (dY (Gf (b2 fW (gv 0) (cB (.int 1)))) (ji 1) (yV Sh (gv 1) (gv 0)) (gv 1) [1] 1)) aH)))) (aJ (setG 3 (b2 fW (dY (Gf (gv 2)) (ji 1) (yV inF (b2 fW (gv 0) (cB (.int 1))) (gv 1)) (gv 1) [1] 1) (cB (.int 0)))) (aJ (Ga (yV inF (b2 fW (gv 1) (cB (.int 2))) (gv 3)) (aJ (iZ (bU fL (aq (cB (.str "stays")) aH))) gZ) gZ) (aJ (iZ (bU fL (aq (cB (.str "parts")) (aq (gv 3) (aq (b2 fW (dY (Gf (gv 2)) (ji 1) (yV inF (b2 fW (gv 0) (cB (.int 2))) (gv 1)) (gv 1) [1] 1) (cB (.int 0))) aH))))) gZ))))
def uV:List Bx->Option Bx:=dI 4 uU
def mX:Ev->Option Out:=(aJ (setG 3 (cB (.str "abcdefghijklmnopqrstuvwxyz0123456789 ABCDEFGHIJKLMNOPQRSTUVWXYZ"))) (aJ (setG 3 (b2 dB (gv 3) (cB (.str "!#$&'()*+,-./:;<=>?\x40[]^_`{|}~\"\\")))) (aJ (setG 4 (b2 fW (gv 3) (b2 fM (b2 xu (gv 2) (cB (.int 6))) (b2 fW (bU jk (aq (cB (.int 36)) (aq (cB (.int 94)) aH))) (b2 fM (b2 xu (gv 2) (cB (.int 3))) (cB (.int 2))))))) (aJ (setG 5 (b2 fM (gv 1) (b2 dB (bU yU (aq (gv 0) aH)) (cB (.int 1))))) (aJ (iZ (b2 fW (bU jk (aq (b1 qP (b2 dB (b2 dB (Ge (gv 0) jB (nQ (gv 5))) (gv 4)) (Ge (gv 0) (nQ (gv 5)) jB))) (aq (b1 qP (b2 dB (b2 dB (Ge (gv 0) jB (nQ (gv 5))) (gv 4)) (Ge (gv 0) (nQ (b2 dB (gv 5) (cB (.int 1)))) jB))) (aq (b1 qP (b2 dB (Ge (gv 0) jB (nQ (gv 5))) (Ge (gv 0) (nQ (b2 dB (gv 5) (cB (.int 1)))) jB))) aH)))) (b2 fM (gv 2) (cB (.int 3))))) gZ)))))
def jJ:List Bx->Option Bx:=dI 6 mX
def kY:Ev->Option Out:=(aJ (Xy (qm 4 (bR (ji 2) (bR (ji 3) (bR (ji 4) (bR (ji 5) tD))))) (gv 0)) (aJ (Vb 6 7 (aq (b1 qP (cI 3 jJ (aq (gv 3) (aq (b2 fW (gv 1) (cB (.int 0))) (aq (b2 fW (gv 1) (cB (.int 1))) aH))))) (aq (b1 qP (cI 3 jJ (aq (gv 4) (aq (b2 fW (gv 1) (cB (.int 2))) (aq (b2 fW (gv 1) (cB (.int 3))) aH))))) aH))) (aJ (setG 8 (bU jk (aq (bU fL (aq (b1 qP (b2 dB (gv 2) (cB (.int 1)))) (aq (gv 3) (aq (gv 4) (aq (gv 5) aH))))) (aq (bU fL (aq (b2 subB (gv 2) (cB (.int 1))) (aq (gv 3) (aq (gv 4) (aq (gv 5) aH))))) (aq (bU fL (aq (gv 2) (aq (gv 3) (aq (gv 4) (aq (b1 qP (b2 dB (gv 5) (cB (.int 1)))) aH))))) (aq (bU fL (aq (gv 2) (aq (gv 3) (aq (gv 4) (aq (b2 subB (gv 5) (cB (.int 1))) aH))))) aH)))))) (aJ (iZ (b2 dB (gv 8) (bU jk (aq (bU fL (aq (gv 2) (aq (gv 6) (aq (gv 4) (aq (gv 5) aH))))) (aq (bU fL (aq (gv 2) (aq (gv 3) (aq (gv 7) (aq (gv 5) aH))))) (aq (bU fL (aq (gv 2) (aq (gv 3) (aq (gv 3) (aq (gv 5) aH))))) (aq (bU fL (aq (gv 2) (aq (gv 4) (aq (gv 3) (aq (gv 5) aH))))) aH))))))) gZ))))
def kZ:List Bx->Option Bx:=dI 9 kY
def Zj:Ev->Option Bool:=orT (Lq (tV (cI 1 iz (aq (gv 1) aH)))) (yV Gk (gv 1) (b2 fW (gv 0) (cB (.int 1))))
def Io:Ev->Option Dt:=ifX Zj (rzX (λ_=>true) (cB (.str "this is no reason of the ground"))) (λ_=>none)
def Ip:Ev->Option Dt:=ac9 2 (yg 2 Io) (aq (gv 0) (aq (gv 1) aH))
def fB:List Bx->Option Bx
 |[b0,b1]=>(yg 7 Ip [b0,b1]).bind λ_=>some (.z (.bl true))
 |_=>none
def yw:Ev->Option Out:=(aJ (aJ (setG 1 (b2 dB (gv 1) (bU jk (aq (b1 qP (bU jk (aq (gv 2) (aq (gv 3) (aq (gv 4) (aq (gv 5) aH)))))) (aq (bU fL (aq (gv 2) (aq (gv 4) (aq (gv 3) (aq (gv 5) aH))))) (aq (bU fL (aq (gv 2) (aq (gv 3) (aq (gv 4) (aq (b1 qP (b2 dB (gv 5) (cB (.int 7)))) aH))))) aH)))))) (aJ (setG 1 (b2 dB (gv 1) (bU jk (aq (bU fL (aq (b1 qP (b2 dB (gv 2) (cB (.int 1001)))) (aq (gv 3) (aq (gv 4) (aq (gv 5) aH))))) (aq (bU fL (aq (gv 2) (aq (gv 3) (aq (gv 4) aH)))) (aq (bU fL (aq (gv 2) (aq (gv 3) (aq (gv 4) (aq (gv 5) (aq (cB (.int 0)) aH)))))) aH)))))) (aJ (setG 1 (b2 dB (gv 1) (bU jk (aq (bU fL (aq (gv 3) (aq (gv 4) (aq (gv 5) aH)))) (aq (bU fL (aq (b1 qP (bU aa4 (aq (gv 2) aH))) (aq (gv 3) (aq (gv 4) (aq (gv 5) aH))))) (aq (bU fL (aq (gv 2) (aq (b1 qP (bU jk (aq (gv 3) aH))) (aq (gv 4) (aq (gv 5) aH))))) aH)))))) (aJ (Ga (yV eqB (gv 2) (cB (.int 1))) (aJ (aJ (Mp 1 (bU fL (aq (cB (.bl true)) (aq (gv 3) (aq (gv 4) (aq (gv 5) aH)))))) gZ) (dR [])) (aJ gZ (dR []))) gZ)))) (dR [2,3,4,5]))
def uW:Ev->Option Out:=(aJ (setG 1 (bU jk (aq (cB .non) (aq (cB (.bl true)) (aq (cB (.int 0)) (aq (cB (.str "")) (aq (bU fL aH) (aq (cB .emp) (aq (b1 qP (bU jk aH)) (aq (gv 0) (aq (b1 qP (b2 dB (b2 fW (gv 0) (cB (.int 1))) (bU fL (aq (cB (.int 1)) aH)))) (aq (bU fL (aq (cB (.int 1)) (aq (cB (.str "a")) (aq (cB (.str "b")) aH)))) (aq (bU fL (aq (cB (.int 1)) (aq (cB (.str "a")) (aq (cB (.str "b")) (aq (cB (.int 0)) (aq (cB (.int 0)) aH)))))) aH))))))))))))) (aJ (nU (Z6 (Ge (b2 fW (gv 0) (cB (.int 1))) jB (nQ (cB (.int 2))))) (qm 4 (bR (ji 2) (bR (ji 3) (bR (ji 4) (bR (ji 5) tD))))) yw) (aJ (iZ (b2 dB (gv 1) (bU Mj (aq (b2 fW (gv 0) (cB (.int 2))) aH)))) gZ)))
def uX:List Bx->Option Bx:=dI 6 uW
def Oe:Ev->Option Out:=(aJ (aJ (setG 3 (cI 2 rK (aq (gv 1) (aq (gv 2) aH)))) (aJ (Ga (orT (Lq (tV (CQ is_tuple (gv 3)))) (yV Sh (gv 3) (cI 2 uV (aq (gv 1) (aq (gv 2) aH))))) (aJ (iZ (cB (.bl false))) gZ) gZ) gZ)) (dR [2,3]))
def Og:Ev->Option Out:=(aJ (aJ (Ga (W8 (yV Gk (gv 5) (b2 fW (gv 1) (cB (.int 1)))) (Lq (tV (cI 2 fB (aq (gv 1) (aq (gv 5) aH)))))) (aJ (iZ (cB (.bl false))) gZ) gZ) gZ) (dR [5]))
def Oh:Ev->Option Out:=(aJ (aJ (nU (Z6 (cI 2 kZ (aq (gv 2) (aq (gv 4) aH)))) (ji 5) Og) gZ) (dR [2,5]))
def TY:Ev->Option Out:=(aJ (setG 1 (cI 1 o9 (aq (gv 0) aH))) (aJ (nU (Z6 (b2 fW (gv 1) (cB (.int 1)))) (ji 2) Oe) (aJ (setG 4 (Ge (cI 2 cV (aq (b1 qP (cI 2 fu (aq (gv 0) (aq (cB (.int 0)) aH)))) (aq (cB (.int 16)) aH))) (nQ (cB (.int 12))) jB)) (aJ (nU (Z6 (b2 fW (gv 1) (cB (.int 1)))) (ji 2) Oh) (aJ (iZ (bU allB (aq (dY (Gf (cI 1 uX (aq (gv 1) aH))) (ji 1) vX (b1 qP (cI 2 fB (aq (gv 0) (aq (gv 1) aH)))) [1] 1) aH))) gZ)))))
def F_law:List Bx->Option Bx:=dI 6 TY
end
end G15
end
section
set_option synthInstance.maxSize 100000
namespace G15
open L2 P1
abbrev rM:Stmt:=top 40
section
variable {FE c0 c1 c3 c4 c5 c6 f_o:Addr} {acp:FuncData}
def spO (D:Addr) (n:Nat):Addr->List V->Hp->VK->Prop:=λa vs H Q=>vs=[.ref a,.int n]/\H a=some (Z7 a D none)/\∀ H',Same H H'->Q (.bl true) H'
theorem T3:bw ["_law_e", "_law_at", "_law_kinds"] ["_law_e", "_law_at"] (aG rM):=jy
theorem acq (F:FN K "_law_only" "_law_only" rM f_o acp) (hget:Ed K D=true) (m0:mg "NoName" = some (.ref c0)) (m1:mg "NoText" = some (.ref c1)) (m2:mg "NoReason" = some (.ref D)) (m3:mg "NoUndo" = some (.ref c3)) (m4:mg "NoRoom" = some (.ref c4)) (m5:mg "NoStep" = some (.ref c5)) (m6:mg "NoRow" = some (.ref c6)) (mF:mg "FolkError" = some (.ref FE))
  (h0:kitOne K (.ref D) (.ref c0)=some false) (h1:kitOne K (.ref D) (.ref c1)=some false) (h2:kitOne K (.ref D) (.ref D)=some true) (h3:kitOne K (.ref D) (.ref c3)=some false) (h4:kitOne K (.ref D) (.ref c4)=some false) (h5:kitOne K (.ref D) (.ref c5)=some false) (h6:kitOne K (.ref D) (.ref c6)=some false)
  (hF:kitOne K (.ref D) (.ref FE)=some true) (hve:kitOne K (.ref D) (.type "ValueError")=some true) (bM:mg "isinstance" = none) (afu:mg "ValueError" = none) (jK:mg "range" = none) :
  TX P w K mg base 1 f_o acp ["_law_e", "_law_at"] (spO D 2):=by
 refine FN.okH (k:=0) F T3 (λa vs H Q h=>by rw[h.1];rfl) λcdv a A outer s H vs Q hr hsp=>?_;have nd:=T3.nd;have hu:(A.deeper (envOfC "_law_only" (aG rM) s.heap.objs.size f_o cdv)).units+100 < cLine:=by have:=hr.un;omega
 have hC:∀ C,C∈[D]->Ed K C=true:=λC z=>by rw[List.mem_singleton.mp z];exact hget
 refine⟨_,(by exact(sZ (BL (i:=2) nd rfl (.inl rfl) (Qc (aY (dX (jG (Cs:=[D]) hC) rfl bM rfl (aY (pv 0) (aY (jA (v:=.ref c0) rfl m0 rfl) dW))) (aY (dX (jG (Cs:=[D]) hC) rfl bM rfl (aY (pv 0) (aY (jA (v:=.ref c1) rfl m1 rfl) dW))) (aY (dX (jG (Cs:=[D]) hC) rfl bM rfl (aY (pv 0) (aY (jA (v:=.ref D) rfl m2 rfl) dW))) (aY (dX (jG (Cs:=[D]) hC) rfl bM rfl (aY (pv 0) (aY (jA (v:=.ref c3) rfl m3 rfl) dW))) dW)))))) (sZ (BL (i:=2) nd rfl (.inl rfl) (acI ad4 (pv 2) (Qc (aY (dX (jG (Cs:=[D]) hC) rfl bM rfl (aY (pv 0) (aY (jA (v:=.ref c4) rfl m4 rfl) dW))) (aY (dX (jG (Cs:=[D]) hC) rfl bM rfl (aY (pv 0) (aY (jA (v:=.ref c5) rfl m5 rfl) dW))) (aY (dX (jG (Cs:=[D]) hC) rfl bM rfl (aY (pv 0) (aY (jA (v:=.ref c6) rfl m6 rfl) dW))) dW))))))
  (IW (Jb (PK (dX (jG (Cs:=[D]) hC) rfl bM rfl (aY (pv 0) (aY (jA (v:=.ref FE) rfl mF rfl) dW))) (PK (dX (jG (Cs:=[D]) hC) rfl bM rfl (aY (pv 0) (aY (wK (v:=.ty "ValueError") rfl afu rfl rfl) dW))) (Wt (RV (of_eq hu) (pv 2) (Zd (e:=a) ["_law_k"] 7 (by decide) (qX ["_law_at"] [1]) hr.hd rfl jK (aY PJ dW) (λ_ _ _ q=>q) (λ_ _ _ _=>(aR 1 (by show List.Nodup (_++_);decide +kernel)).run) (λ_ _ _ _=>dZ.run) (λ_ _ _ _=>(yK (of_eq hu) (ak 1) (ak 0) (fj _)).run) cQ) (fj _)))))))))),?_⟩
 obtain⟨rfl,ea,q⟩:=hsp;have xa:∀ {H:Hp},H a=some (Z7 a D none)->ahh H a D:=λe=>⟨none,e,λ_ z=>nomatch z⟩;refine⟨.ref a,rfl,a,D,_,_,List.mem_singleton.mpr rfl,rfl,xa ea,.inl ⟨c0,rfl,h0⟩,?_⟩;refine⟨.ref a,rfl,a,D,_,_,List.mem_singleton.mpr rfl,rfl,xa ea,.inl ⟨c1,rfl,h1⟩,?_⟩;refine⟨.ref a,rfl,a,D,_,_,List.mem_singleton.mpr rfl,rfl,xa ea,.inl ⟨D,rfl,h2⟩,?_⟩;refine⟨.ref a,rfl,a,D,_,_,List.mem_singleton.mpr rfl,rfl,xa ea,.inl ⟨c3,rfl,h3⟩,?_⟩;refine⟨(show 4<=sizeLine by decide +kernel),λp hp=>?_⟩;have s1:Same H (upd H p (.lst [.bl false,.bl false,.bl true,.bl false])):=bJ hp;have ea1:=s1 _ _ ea;refine⟨.ref p,rfl,?_⟩;refine⟨.ref a,rfl,a,D,_,_,List.mem_singleton.mpr rfl,rfl,xa ea1,.inl ⟨c4,rfl,h4⟩,?_⟩;refine⟨.ref a,rfl,a,D,_,_,List.mem_singleton.mpr rfl,rfl,xa ea1,.inl ⟨c5,rfl,h5⟩,?_⟩;refine⟨.ref a,rfl,a,D,_,_,List.mem_singleton.mpr rfl,rfl,xa ea1,.inl ⟨c6,rfl,h6⟩,?_⟩;refine⟨(show 3<=sizeLine by decide +kernel),λp2 hp2=>?_⟩;have s2:=bJ (o:=.lst [.bl false,.bl false,.bl false]) hp2;refine⟨p,p2,[.bl false,.bl false,.bl true,.bl false],[.bl false,.bl false,.bl false],rfl,rfl,s2 _ _ bf,bf,(show 7<=sizeLine by decide +kernel),λp3 hp3=>?_⟩;have s3:=bJ (o:=.lst ([V.bl false,.bl false,.bl true,.bl false]++[.bl false,.bl false,.bl false])) hp3;have ss:=s1.trans (s2.trans s3);have ea3:=ss _ _ ea;have eu:upd _ p3 _ p3=some (HO.lst ([V.bl false,.bl false,.bl true,.bl false]++[.bl false,.bl false,.bl false])):=bf (H:=upd (upd H p (.lst [.bl false,.bl false,.bl true,.bl false])) p2 (.lst [.bl false,.bl false,.bl false]));generalize upd (upd (upd H p (.lst [.bl false,.bl false,.bl true,.bl false])) p2 (.lst [.bl false,.bl false,.bl false])) p3 (.lst ([V.bl false,.bl false,.bl true,.bl false]++[.bl false,.bl false,.bl false]))=H3 at *
 refine⟨.ref a,rfl,a,D,_,_,List.mem_singleton.mpr rfl,rfl,xa ea3,.inl ⟨FE,rfl,hF⟩,true,rfl,?_⟩;show(if true=true then _ else _);rw[zi rfl];refine⟨.ref a,rfl,a,D,_,_,List.mem_singleton.mpr rfl,rfl,xa ea3,.inr (.inl ⟨"ValueError", rfl,hve⟩),true,rfl,?_⟩;show(if true=true then _ else _);rw[zi rfl];refine⟨.ref p3,rfl,[none,some (.z (.int 2)),none],D,none,[.bl false,.bl false,.bl true,.bl false,.bl false,.bl false,.bl false],?_,ea3,rfl,λDd us H4 hD s4 hD4 r4=>?_⟩
 ·refine⟨rfl,λk b z=>?_,λk j c a b z hc=>?_,Same.refl H3,λk c a z hc=>?_⟩
  ·match k with
   |0=>cases z
   |1=>cases z;exact⟨_,rfl,by simp only[bA,Rep];rfl⟩
   |2=>cases z
   |_+3=>cases z
  ·match k with
   |0=>cases z
   |1=>cases z;cases hc
   |2=>cases z
   |_+3=>cases z
  ·match k with
   |0=>cases z
   |1=>cases z;cases hc
   |2=>cases z
   |_+3=>cases z
 ·refine⟨.o [.bl false,.bl false,.bl true,.bl false,.bl false,.bl false,.bl false],.o [.bl false,.bl false,.bl true,.bl false,.bl false,.bl false,.bl false],.z (.bl true),⟨p3,_,rfl,s4 _ _ eu,?_⟩,⟨Dd,us,rfl,hD4,r4⟩,rfl,λw H5 s5 _ rw5=>?_⟩
  ·have b:∀ c,Rep K H4 (.bl c) (.bl c):=λc=>by simp only[Rep]
   exact aO.cons (b _) (aO.cons (b _) (aO.cons (b _) (aO.cons (b _) (aO.cons (b _) (aO.cons (b _) (aO.cons (b _) aO.nil))))))
  ·obtain rfl:w=.bl true:=by simpa only[bA,Rep] using rw5
   exact q H5 (ss.trans (s4.trans s5))
variable {uy Zk Ri ahq:Addr} {yx T4 T5 ada:FuncData}
theorem ahr:bw ["ground", "reason"] ["ground", "reason"] (aG gw):=jy
theorem ahs (F:FN K "refuse_no_reason" "refuse_no_reason" gw Zk T4) (gj:lB P w K mg base Cd 4 uy yx ["thing"] (spF K 1 iz)) (Oi:mg "is_reason" = some (.ref uy)) (Oj:keepIn K (.ref uy)=true) (Ol:Binds K yx ["thing"] [])
  (hx:Oc K D veM "ValueError.__new__" "ValueError.__init__" = true) (hk:keepIn K (.ref D)=true) (hm:mg "NoReason" = some (.ref D)) :
  lB P w K mg base (Py P w) 5 Zk T4 ["ground", "reason"] (spX K 2 (yg 2 Io) D ""):=by
 refine ac8 (k:=4) (gx:=Io) F ahr rfl rfl λcdv A outer s H E hr Za hp=>?_;have hu:=Ju hr;exact Ef (ahj (U3 (Cj (Ck (Ci (Sd gj (hr.mono (by decide)) rfl Oi Oj Ol (aj (ak 1) aA)))) (wW (dJ (Bo hu) (ak 1) (bC (ak 0) aB) (by with_unfolding_all rfl))))) (Ef (VP (k:=1) PySem.F.excBase_ValueError hx (by decide) hk (hr.mono (by decide)) rfl hm Za jD)) Y9)
theorem aht:bw ["ground", "reason", "names", "reasons", "bars", "others", "one_part"] ["ground", "reason"] (aG rB):=jy
theorem ahu (F:FN K "hangs_on" "hangs_on" rB Ri T5) (G:lB P w K mg base (Py P w) 5 Zk T4 ["ground", "reason"] (spX K 2 (yg 2 Io) D "")) (ajn:mg "refuse_no_reason" = some (.ref Zk)) (ajo:keepIn K (.ref Zk)=true) (ajp:Binds K T4 ["ground", "reason"] []) :
  lB P w K mg base (Py P w) 6 Ri T5 ["ground", "reason"] (spX K 2 (yg 7 Ip) D ""):=by
 refine ac8 (k:=5) (gx:=Ip) F aht rfl rfl λcdv A outer s H E hr Za hp=>?_;exact Ef (Ze G (hr.mono (by decide)) rfl ajn ajo ajp Za (aj (ak 0) (aj (ak 1) aA)))
theorem adb:bw ["_law_ground_here", "_law_reason", "_law_refused_here", "_law_e"] ["_law_ground_here", "_law_reason"] (aG pX):=jy
theorem Rj (F:FN K "_law_refused" "_law_refused" pX ahq ada) (G:lB P w K mg base (Py P w) 6 Ri T5 ["ground", "reason"] (spX K 2 (yg 7 Ip) D "")) (ajq:mg "hangs_on" = some (.ref Ri)) (ajr:keepIn K (.ref Ri)=true) (ajs:Binds K T5 ["ground", "reason"] [])
  (acr:mg "FolkError" = some (.ref FE)) (hex:exmOne K (.ref D) (.ref FE)=some true) (GO:TX P w K mg base 1 f_o acp ["_law_e", "_law_at"] (spO D 2)) (m_o:mg "_law_only" = some (.ref f_o)) (k_o:keepIn K (.ref f_o)=true) (b_o:Binds K acp ["_law_e", "_law_at"] []) :
  lB P w K mg base Cd 8 ahq ada ["_law_ground_here", "_law_reason"] (spF K 2 fB):=by
 refine FN.ok (k:=7) F adb (λvs H Q E h=>h.1) λcdv A outer s H vs Q E hr hsp=>?_;have nd:=adb.nd;refine⟨_,(by exact(sZ (BL (i:=2) nd rfl (.inl rfl) acD) (sZ (ab8 (C:=D) (iv:=3) (f:=Ri) rfl rfl nd rfl rfl rfl acr hex (λa=>IW (BL (X:=Cx.inX _ a) (i:=2) nd rfl (.inl rfl) (Zc (X:=Cx.inX _ a) GO (g8.inX (hr.mono (by decide)) a) rfl m_o k_o b_o (aY (pv 3) (aY PJ dW))))) (jA (v:=.ref Ri) rfl ajq rfl) G (hr.mono (by decide)) ajr ajs (aY (pv 0) (aY (pv 1) dW))) (IW (Jb (pv 2)))))),?_⟩;obtain⟨hl,bs,r,reps,no,er,q⟩:=hsp;unfold fB at er;split at er
 ·rename_i b0 b1;obtain⟨v0,v1,rfl⟩:∃ v0 v1,vs=[v0,v1]:=by
   match vs,hl with
   |[v0,v1],_=>exact⟨v0,v1,rfl⟩
  obtain⟨d,ex,er⟩:=bind_some er;cases er;refine⟨rfl,v0,rfl,v1,rfl,rfl,[b0,b1],d,reps,no,ex,XW.no λH' s'=>⟨rfl,none,rfl,λa na=>?_⟩⟩;have s4:Same H' (upd H' a (Z7 a D none)):=bJ na;refine⟨.ref a,rfl,rfl,bf,λH5 s5=>?_⟩;exact⟨.bl true,rfl,q _ H5 ((s'.trans s4).trans s5) trivial (by simp only[bA,Rep])⟩
 ·cases er
end
structure T (K:FG_) (mg:Str->Option Value) where
 {D:Addr}
 {FE:Addr}
 {c0:Addr}
 {c1:Addr}
 {c3:Addr}
 {c4:Addr}
 {c5:Addr}
 {c6:Addr}
 acr:mg "FolkError" = some (.ref FE)
 jmC:mg "NoReason" = some (.ref D)
 m0:mg "NoName" = some (.ref c0)
 m1:mg "NoText" = some (.ref c1)
 m3:mg "NoUndo" = some (.ref c3)
 m4:mg "NoRoom" = some (.ref c4)
 m5:mg "NoStep" = some (.ref c5)
 m6:mg "NoRow" = some (.ref c6)
 x_o:DQ K mg "_law_only" rM ["_law_e", "_law_at"]
 jx:Oc K D veM "ValueError.__new__" "ValueError.__init__" = true
 jkC:keepIn K (.ref D)=true
 jex:exmOne K (.ref D) (.ref FE)=some true
 ajt:Ed K D=true
 h2:kitOne K (.ref D) (.ref D)=some true
 h0:kitOne K (.ref D) (.ref c0)=some false
 h1:kitOne K (.ref D) (.ref c1)=some false
 h3:kitOne K (.ref D) (.ref c3)=some false
 h4:kitOne K (.ref D) (.ref c4)=some false
 h5:kitOne K (.ref D) (.ref c5)=some false
 h6:kitOne K (.ref D) (.ref c6)=some false
 hF:kitOne K (.ref D) (.ref FE)=some true
 hve:kitOne K (.ref D) (.type "ValueError")=some true
 afu:mg "ValueError" = none
 fD:DQ K mg "_law_cell" Ej ["_law_script", "_law_k"]
 cW:DQ K mg "_law_numbers" vI ["_law_cell_here", "_law_many"]
 pF:DQ K mg "_law_chain" zW ["_law_x", "_law_turn", "_law_weigh"]
 pG:DQ K mg "_law_names" zX ["_law_xs", "_law_many"]
 mY:DQ K mg "_law_ground" yh ["_law_script", "_law_at", "_law_many", "_law_reasons", "_law_bars"]
 pH:DQ K mg "_law_drawn" zY ["_law_script"]
 j6:DQ K mg "is_tuple" Ek ["thing", "many"]
 j7:DQ K mg "is_whole" El ["thing"]
 pI:DQ K mg "is_weight" zZ ["thing"]
 mZ:DQ K mg "is_text_of" yj ["thing", "signs", "longest"]
 qC:DQ K mg "is_name" Ij ["thing"]
 yC:DQ K mg "is_bar" Od ["thing"]
 gk:DQ K mg "is_reason" z7 ["thing"]
 cj:DQ K mg "refuse_no_reason" gw ["ground", "reason"]
 m7:DQ K mg "lone_heads" yp ["names"]
 eY:DQ K mg "join_heads" yq ["heads", "one", "other"]
 rN:DQ K mg "heads_by" Em ["names", "reasons"]
 lg:DQ K mg "names_under" vJ ["heads", "head"]
 qD:DQ K mg "part_by" Ik ["names", "reasons", "name"]
 iB:DQ K mg "hangs_on" rB ["ground", "reason"]
 pJ:DQ K mg "_law_parts" z8 ["_law_names_here", "_law_reasons"]
 uY:DQ K mg "_law_due" Il ["_law_ground_here", "_law_reason"]
 jL:DQ K mg "_law_signed" yr ["_law_text", "_law_place", "_law_x"]
 lq:DQ K mg "_law_stepped" vK ["_law_reason", "_law_xs"]
 jd:DQ K mg "_law_refused" pX ["_law_ground_here", "_law_reason"]
 uZ:DQ K mg "_law_odd" Im ["_law_ground_here"]
 x_law:DQ K mg "law" s_law ["_law_script"]
 ahv:mg "abs" = none
 ade:mg "all" = none
 afv:mg "bool" = none
 adf:mg "int" = none
 bM:mg "isinstance" = none
 Om:mg "len" = none
 Zm:mg "list" = none
 Eo:mg "max" = none
 T6:mg "min" = none
 jK:mg "range" = none
 adg:mg "set" = none
 n8:mg "sorted" = none
 adh:mg "str" = none
 ni:mg "tuple" = none
 V0:∃ tk,mg "LETTERS" = some (.str "abcdefghijklmnopqrstuvwxyz" tk)
 Ep:∃ tk,mg "LONGEST_NAME" = some (.int 8 tk)
 Gn:∃ tk,mg "MOST_WEIGHT" = some (.int 1000 tk)
section
variable (t:T K mg)
theorem Oo:bw ["_law_script", "_law_k", "_law_state", "_law_cell_here"] ["_law_script", "_law_k"] (aG Ej):=jy
theorem Oq:Ok P w base t.fD 1 2 fu:=Aj (g:=rC) t.fD Oo λ_ _ _ _ _ _ hr hu nd=>(aD (nJ (dJ Qs (ak 1) (bV CN rfl t.Om CK (aj (ak 0) aA)) (fj _)) (aD (dw (bC (ak 0) (ak 1))) aV) aV) (aD (bF 2 nd (aP bT (aP nO aB (aP bG (aP bG (aP nO (ak 1) (ak 1)) (aP nO aB (ak 1))) aB)) aB)) (aD (nM PassesOwn.never rfl (uK (rY (ak 0) gJ (gK aB))) (aR 3 nd) (bK [3] (aD (bF 2 nd (aP bT (aP bG (aP nO (ak 2) aB) (ak 3)) aB)) aV))) (aD (dw (ak 2)) aV))))
theorem Er:bw ["_law_cell_here", "_law_many", "_law_found", "_law_state", "_law_digits", "_law_k"] ["_law_cell_here", "_law_many"] (aG vI):=jy
theorem Es:Ok P w base t.cW 1 2 cV:=Aj (g:=kJ) t.cW Er λ_ _ _ _ _ _ hr hu nd=>(aD (bF 2 nd (dM aA)) (aD (bF 3 nd (aP bT (aP nO (aP bG (aP bT (ak 0) aB) aB) aB) aB)) (aD (bF 4 nd aB) (aD (nJ (U3 (Cj (dJ Qs (ak 0) aB (fj _)) (wW (dJ acV (ak 0) (aP aen aB aB) (fj _))))) (bK [] (aD (bF 4 nd (bV aev rfl t.ahv aer (aj (ak 0) aA))) aV)) (bK [] aV)) (aD (nM PassesOwn.never rfl (lC rfl t.jK (aj (ak 1) aA)) (aR 5 nd) (bK [5] (aD (bF 3 nd (aP bT (aP bG (aP bG (aP nO (ak 3) (aP bG (aP bT (ak 3) aB) aB)) (aP nO aB (ak 5))) aB) aB)) (aD (yN 2 (bC (dM (aj (ak 3) (aj (aP bT (ak 4) aB) aA))) (fV aew rfl t.adf Xo (aj (yK agF (ak 4) aB (fj _)) aA)))) (aD (bF 4 nd (aP qR (ak 4) aB)) aV))))) (aD (Jl 2) aV))))))
theorem Kc:bw ["_law_x", "_law_turn", "_law_weigh", "_law_letters", "_law_names_here", "_law_order", "_law_some", "_law_k", "_law_a", "_law_b", "_law_weight"] ["_law_x", "_law_turn", "_law_weigh"] (aG zW):=jy
theorem Kd:Ok P w base t.pF 1 3 oZ:=Aj (g:=oY) t.pF Kc λ_ _ _ _ _ _ hr hu nd=>(aD (bF 3 nd jD) (aD (bF 4 nd (jh ["_law_k"] (qX ["_law_letters"] [3]) rfl (Ql (lC rfl t.jK (aj aB aA))) (λ_ _ _ _=>(aR 1 (by show List.Nodup (_++_);decide +kernel))) (λ_ _ _ _=>dZ) (λ_ _ _ _=>(aP nO (bC (ak 0) (aP qR (ak 1) aB)) (aP bG aB (aP bT (ak 1) aB)))) (cQ))) (aD (Bd 5 ["_law_k"] (qX ["_law_names_here", "_law_turn"] [4,1]) rfl nd (Ql (lC rfl t.jK (aj aB aA))) (λ_ _ _ _=>(aR 2 (by show List.Nodup (_++_);decide +kernel))) (λ_ _ _ _=>dZ) (λ_ _ _ _=>(bC (ak 0) (aP bT (aP bG (aP nO aB (ak 2)) (ak 1)) aB))) (cQ)) (aD (bF 6 nd (dM aA)) (aD (nM PassesOwn.never rfl (lC rfl t.jK (aj (aP bG aB (aP bT (ak 0) aB)) aA)) (aR 7 nd) (bK [7,8,9,10] (aD (Jm 8 9 rfl nd (aj (bC (ak 5) (ak 7)) (aj (bC (ak 5) (aP bT (aP bG (ak 7) aB) aB)) aA))) (aD (bF 10 nd (bC (dM (aj aB (aj (aP vV aB (ak 7)) (aj (dH (aP bG aB (ak 7))) (aj (dH (aP bG aB (aP bT (aP nO (ak 7) (ak 7)) aB))) aA))))) (aP bT (ak 2) aB))) (aD (yN 6 (cJ (aj (aP vV aB (ak 10)) (aj (dH (bV (Tg rfl) rfl t.T6 Jt (aj (ak 8) (aj (ak 9) aA)))) (aj (dH (bV (abA rfl) rfl t.Eo vW (aj (ak 8) (aj (ak 9) aA)))) (aj (aP bT (ak 7) aB) aA)))))) aV))))) (aD (dw (cJ (aj (fV nR rfl t.ni lF (aj (bV yZ rfl t.n8 qt (aj (ak 4) aA)) aA)) (aj (fV nR rfl t.ni lF (aj (jh ["_law_weight", "_law_a", "_law_b", "_law_k"] (qX [] []) rfl (gW (bV MF rfl t.n8 qt (aj (ak 6) aA))) (λ_ _ _ _=>(tH rfl (bH (aR 0 (by show List.Nodup (_++_);decide +kernel)) (bH (aR 1 (by show List.Nodup (_++_);decide +kernel)) (bH (aR 2 (by show List.Nodup (_++_);decide +kernel)) (bH (aR 3 (by show List.Nodup (_++_);decide +kernel)) oM)))))) (λ_ _ _ _=>dZ) (λ_ _ _ _=>(cJ (aj (aP vV aB (ak 0)) (aj (ak 1) (aj (ak 2) (aj (ak 3) aA)))))) (Xh (lD (cQ) (lD (cQ) (lD (cQ) (lD (cQ) R9)))))) aA)) (aj (cJ aA) aA))))) aV))))))
theorem Ke:bw ["_law_xs", "_law_many", "_law_letters", "_law_stem", "_law_at", "_law_found", "_law_k", "_law_mark", "_law_name"] ["_law_xs", "_law_many"] (aG zX):=jy
theorem Kf:Ok P w base t.pG 1 2 lJ:=Aj (g:=o7) t.pG Ke λ_ _ _ _ _ _ hr hu nd=>(aD (bF 2 nd jD) (aD (bF 3 nd (aa3 (jh ["_law_k"] (qX ["_law_letters", "_law_xs"] [2,0]) rfl (Ql (lC rfl t.jK (aj (aP bT (bC (ak 0) aB) aB) aA))) (λ_ _ _ _=>(aR 2 (by show List.Nodup (_++_);decide +kernel))) (λ_ _ _ _=>dZ) (λ_ _ _ _=>(bC (ak 0) (aP bT (aP qR (bC (ak 1) (ak 2)) aB) aB))) (cQ)))) (aD (bF 4 nd (aP bT (bC (ak 0) aB) (aP bG (bV CN rfl t.Om CK (aj (ak 3) aA)) aB))) (aD (bF 5 nd (dM aA)) (aD (nM PassesOwn.never rfl (lC rfl t.jK (aj (ak 1) aA)) (aR 6 nd) (bK [6,7,8] (aD (bF 7 nd (bC (ak 2) (aP bT (aP bG (ak 6) (bC (ak 0) aB)) aB))) (aD (bF 8 nd (aP bG (aP bG (rY (ak 3) gJ (gK (ak 4))) (ak 7)) (rY (ak 3) (gK (ak 4)) gJ))) (aD (nJ (dJ (of_eq hu) (aP bT (bC (ak 0) aB) aB) aB (fj _)) (bK [] (aD (bF 8 nd (aP nO (bC (ak 2) (aP qR (ak 6) aB)) (aP bG aB (aP bT (ak 6) aB)))) aV)) (bK [] aV)) (aD (yN 5 (ak 8)) aV)))))) (aD (Jl 5) aV))))))
theorem Gp:bw ["_law_script", "_law_at", "_law_many", "_law_reasons", "_law_bars", "_law_head", "_law_names_here", "_law_told", "_law_k", "_law_xs", "_law_a", "_law_b", "_law_weight", "_law_found", "_law_shut"] ["_law_script", "_law_at", "_law_many", "_law_reasons", "_law_bars"] (aG yh):=jy
theorem Gq (d8:Ok P w base t.fD 1 2 fu) (uz:Ok P w base t.pG 1 2 lJ) (cN:Ok P w base t.cW 1 2 cV):Ok P w base t.mY 2 5 mL:=Aj (g:=mK) t.mY Gp λ_ _ _ _ _ _ hr hu nd=>(aD (bF 5 nd (cX t.cW cN hr (aj (dH (cX t.fD d8 hr (aj (ak 0) (aj (ak 1) aA)))) (aj aB aA)))) (aD (bF 6 nd (bV yZ rfl t.n8 qt (aj (cX t.pG uz hr (aj (ak 5) (aj (ak 2) aA))) aA))) (aD (bF 7 nd (dM aA)) (aD (nM PassesOwn.never rfl (lC rfl t.jK (aj (ak 3) aA)) (aR 8 nd) (bK [8,9,10,11,12] (aD (bF 9 nd (cX t.cW cN hr (aj (dH (cX t.fD d8 hr (aj (ak 0) (aj (dH (aP bG (aP bG (ak 1) aB) (ak 8))) aA)))) (aj aB aA)))) (aD (Jm 10 11 rfl nd (aj (aP bT (bC (ak 9) aB) (bV (za rfl) rfl t.Eo vW (aj aB (aj (ak 2) aA)))) (aj (aP bT (bC (ak 9) aB) (bV (za rfl) rfl t.Eo vW (aj aB (aj (ak 2) aA)))) aA))) (aD (bF 12 nd (bC (dM (aj (dH (aP bG aB (aP bT (bC (ak 9) aB) aB))) (aj (dH (aP bG aB (aP bT (bC (ak 9) aB) aB))) (aj (dH (aP bG aB (aP bT (bC (ak 9) aB) aB))) aA)))) (aP bT (bC (ak 5) aB) aB))) (aD (nJ (dJ (Hr hu) (ak 10) (ak 11) (fj _)) (bK [] (aD (yN 7 (cJ (aj (aP vV aB (ak 12)) (aj (bC (ak 6) (bV (XC rfl) rfl t.T6 Jt (aj (ak 10) (aj (ak 11) aA)))) (aj (bC (ak 6) (bV (za rfl) rfl t.Eo vW (aj (ak 10) (aj (ak 11) aA)))) (aj (bC (dM (aj aB (aj aB (aj aB aA)))) (aP bT (bC (ak 9) aB) aB)) aA)))))) aV)) (bK [] aV)) aV)))))) (aD (Bd 13 ["_law_weight", "_law_a", "_law_b", "_law_k"] (qX [] []) rfl nd (gW (Tc rfl rfl t.n8 (S9 rfl hu rfl t.adg (ak 7)))) (λ_ _ _ _=>(tH rfl (bH (aR 0 (by show List.Nodup (_++_);decide +kernel)) (bH (aR 1 (by show List.Nodup (_++_);decide +kernel)) (bH (aR 2 (by show List.Nodup (_++_);decide +kernel)) (bH (aR 3 (by show List.Nodup (_++_);decide +kernel)) oM)))))) (λ_ _ _ _=>dZ) (λ_ _ _ _=>(cJ (aj (aP vV aB (ak 0)) (aj (ak 1) (aj (ak 2) (aj (ak 3) aA)))))) (Xh (lD (cQ) (lD (cQ) (lD (cQ) (lD (cQ) R9)))))) (aD (bF 14 nd (dM aA)) (aD (nM PassesOwn.never rfl (lC rfl t.jK (aj (ak 4) aA)) (aR 8 nd) (bK [8,9,10,11] (aD (bF 9 nd (cX t.cW cN hr (aj (dH (cX t.fD d8 hr (aj (ak 0) (aj (dH (aP bG (aP bG (ak 1) aB) (ak 8))) aA)))) (aj aB aA)))) (aD (Jm 10 11 rfl nd (aj (aP bT (bC (ak 9) aB) (bV (za rfl) rfl t.Eo vW (aj aB (aj (ak 2) aA)))) (aj (aP bT (bC (ak 9) aB) (bV (za rfl) rfl t.Eo vW (aj aB (aj (ak 2) aA)))) aA))) (aD (nJ (dJ (Hr hu) (ak 10) (ak 11) (fj _)) (bK [] (aD (yN 14 (cJ (aj (bC (ak 6) (bV (XC rfl) rfl t.T6 Jt (aj (ak 10) (aj (ak 11) aA)))) (aj (bC (ak 6) (bV (za rfl) rfl t.Eo vW (aj (ak 10) (aj (ak 11) aA)))) (aj (bC (dM (aj aB (aj aB aA))) (aP bT (bC (ak 9) aB) aB)) aA))))) aV)) (bK [] aV)) aV))))) (aD (dw (cJ (aj (fV nR rfl t.ni lF (aj (ak 6) aA)) (aj (fV nR rfl t.ni lF (aj (ak 13) aA)) (aj (fV nR rfl t.ni lF (aj (Tc rfl rfl t.n8 (S9 rfl hu rfl t.adg (ak 14))) aA)) aA))))) aV))))))))
theorem Kg:bw ["_law_script", "_law_head", "_law_many"] ["_law_script"] (aG zY):=jy
theorem Kh (d8:Ok P w base t.fD 1 2 fu) (uD:Ok P w base t.pF 1 3 oZ) (rO:Ok P w base t.mY 2 5 mL) (cN:Ok P w base t.cW 1 2 cV):Ok P w base t.pH 3 1 o9:=Aj (g:=o8) t.pH Kg λ_ _ _ _ _ _ hr hu nd=>(aD (bF 1 nd (cX t.cW cN hr (aj (dH (cX t.fD d8 hr (aj (ak 0) (aj aB aA)))) (aj aB aA)))) (aD (nJ (dJ (of_eq hu) (aP bT (bC (ak 1) aB) aB) aB (fj _)) (aD (dw (cX t.pF uD hr (aj (aP qR (bC (ak 1) aB) aB) (aj (bC (ak 1) aB) (aj (bC (ak 1) aB) aA))))) aV) aV) (aD (bF 2 nd (aP bT (bC (ak 1) aB) aB)) (aD (dw (cX t.mY rO hr (aj (ak 0) (aj aB (aj (ak 2) (aj (aP bT (bC (ak 1) aB) aB) (aj (aP bT (bC (ak 1) aB) aB) aA))))))) aV))))
theorem Ot:bw ["thing", "many"] ["thing", "many"] (aG Ek):=jy
theorem Ou:Ok P w base t.j6 1 2 j4:=Aj (g:=rD) t.j6 Ot λ_ _ _ _ _ _ hr hu nd=>(aD (dw (nH (xH (ak 0) rfl t.bM rfl t.ni) (yM (yK (of_eq hu) (bV CN rfl t.Om CK (aj (ak 0) aA)) (ak 1) (fj _))))) aV)
theorem Ov:bw ["thing"] ["thing"] (aG El):=jy
theorem Ox:Ok P w base t.j7 1 1 j5:=Aj (g:=rE) t.j7 Ov λ_ _ _ _ _ _ hr hu nd=>(aD (dw (nH (Qp (ak 0) rfl t.bM rfl t.adf) (yM (aed (Mh (ak 0) rfl t.bM rfl t.afv))))) aV)
theorem Kl:bw ["thing"] ["thing"] (aG zZ):=jy
theorem Km (j8:Ok P w base t.j7 1 1 j5):Ok P w base t.pI 2 1 pA:=Aj (g:=pq) t.pI Kl λ_ _ _ _ _ _ hr hu nd=>by
 obtain⟨Zn,Gs⟩:=t.Gn;exact(aD (dw (nH (cX t.j7 j8 hr (aj (ak 0) aA)) (yM (Lh of_le of_le aB (ak 0) (Ln rfl Gs))))) aV)
theorem Gu:bw ["thing", "signs", "longest"] ["thing", "signs", "longest"] (aG yj):=jy
theorem Gv:Ok P w base t.mZ 1 3 mQ:=Aj (g:=mO) t.mZ Gu λ_ _ _ _ _ _ hr hu nd=>(aD (dw (nH (Qq (ak 0) rfl t.bM rfl t.adh) (nH (Lh of_le of_le aB (bV CN rfl t.Om CK (aj (ak 0) aA)) (ak 2)) (yM (bV (Xx rfl) rfl t.ade Xq (aj (jh ["sign"] (qX ["signs"] [1]) rfl (gW (ak 0)) (λ_ _ _ _=>(aR 1 (by show List.Nodup (_++_);decide +kernel))) (λ_ _ _ _=>dZ) (λ_ _ _ _=>(yK CJ (ak 1) (ak 0) (by with_unfolding_all rfl))) (cQ)) aA)))))) aV)
theorem Rk:bw ["thing"] ["thing"] (aG Ij):=jy
theorem Rm (rP:Ok P w base t.mZ 1 3 mQ):Ok P w base t.qC 2 1 qy:=Aj (g:=uR) t.qC Rk λ_ _ _ _ _ _ hr hu nd=>by
 obtain⟨afw,V1⟩:=t.V0;obtain⟨Wn,Et⟩:=t.Ep;exact(aD (dw (cX t.mZ rP hr (aj (ak 0) (aj (W7 rfl V1) (aj (Ln rfl Et) aA))))) aV)
theorem V2:bw ["thing", "one", "other", "number"] ["thing"] (aG Od):=jy
theorem V3 (u0:Ok P w base t.qC 2 1 qy) (j9:Ok P w base t.j6 1 2 j4) (j8:Ok P w base t.j7 1 1 j5):Ok P w base t.yC 3 1 yu:=Aj (g:=yt) t.yC V2 λ_ _ _ _ _ _ hr hu nd=>(aD (nJ (Ck (Ci (cX t.j6 j9 hr (aj (ak 0) (aj aB aA))))) (aD (dw Lj) aV) aV) (aD (Qi (ak 0) (tH rfl (bH (aR 1 nd) (bH (aR 2 nd) (bH (aR 3 nd) oM))))) (aD (dw (nH (cX t.qC u0 hr (aj (ak 1) aA)) (nH (cX t.qC u0 hr (aj (ak 2) aA)) (nH (yK Qs (ak 1) (ak 2) (fj _)) (nH (cX t.j7 j8 hr (aj (ak 3) aA)) (yM (yK acV (ak 3) aB (fj _)))))))) aV)))
theorem Ko:bw ["thing"] ["thing"] (aG z7):=jy
theorem Kq (Eu:Ok P w base t.yC 3 1 yu) (j9:Ok P w base t.j6 1 2 j4) (uF:Ok P w base t.pI 2 1 pA):Ok P w base t.gk 4 1 iz:=Aj (g:=pB) t.gk Ko λ_ _ _ _ _ _ hr hu nd=>(aD (dw (nH (cX t.j6 j9 hr (aj (ak 0) (aj aB aA))) (nH (cX t.pI uF hr (aj (bC (ak 0) aB) aA)) (yM (cX t.yC Eu hr (aj (dH (rY (ak 0) (gK aB) gJ)) aA)))))) aV)
theorem vC:bw ["ground", "reason"] ["ground", "reason"] (aG gw):=jy
theorem vD (gj:Ok P w base t.gk 4 1 iz):Ok P w base t.cj 5 2 gB:=Aj (g:=gA) t.cj vC λ_ _ _ _ _ _ hr hu nd=>(bK [] (aD (nJ (U3 (Cj (Ck (Ci (cX t.gk gj hr (aj (ak 1) aA)))) (wW (dJ (Bo hu) (ak 1) (bC (ak 0) aB) (by with_unfolding_all rfl))))) (aD abC aV) aV) aV))
theorem Gw:bw ["names"] ["names"] (aG yp):=jy
theorem Gx:Ok P w base t.m7 1 1 mU:=Aj (g:=mR) t.m7 Gw λ_ _ _ _ _ _ hr hu nd=>(aD (dw (Yp hu ["name"] (qX [] []) rfl (gW (ak 0)) (λ_ _ _ _=>(aR 0 (by show List.Nodup (_++_);decide +kernel))) (λ_ _ _ _=>dZ) (λ_ _ _ _=>(ak 0)) (λ_ _ _ _=>(ak 0)) (cQ))) aV)
theorem vN:bw ["heads", "one", "other", "head", "name"] ["heads", "one", "other"] (aG yq):=jy
theorem Gy:lB P w K mg base Cd 1 t.eY.f t.eY.fd ["heads", "one", "other"] (spM K 2 jH):=by
 unfold jH;refine aiX (k:=0) (g:=mV) t.eY.F vN rfl rfl λcdv A outer s H E hr=>?_;have hu:=Ju hr;have nd:=vN.nd;exact(bK [3,4] (aD (bF 3 nd (bV (Tg rfl) rfl t.T6 Jt (aj (ak 1) (aj (ak 2) aA)))) (aD (nM PassesOwn.never rfl (uK (fV (Yu rfl) rfl t.Zm Ss (aj (ak 0) aA))) (aR 4 nd) (bK [4] (aD (nJ (U3 (Cj (dJ (of_eq hu) (uN hu (ak 0) (ak 4)) (ak 1) (fj _)) (wW (dJ (of_eq hu) (uN hu (ak 0) (ak 4)) (ak 2) (fj _))))) (bK [] (aD (aa5 0 hu (ak 3) (ak 4)) aV)) (bK [] aV)) aV))) aV)))
theorem Oz:bw ["names", "reasons", "heads", "weight", "one", "other", "number"] ["names", "reasons"] (aG Em):=jy
theorem OD (rQ:lB P w K mg base Cd 1 t.eY.f t.eY.fd ["heads", "one", "other"] (spM K 2 jH)) (rR:Ok P w base t.m7 1 1 mU):Ok P w base t.rN 2 2 rH:=Aj (g:=rG) t.rN Oz λ_ _ _ _ _ _ hr hu nd=>(aD (bF 2 nd (cX t.m7 rR hr (aj (ak 0) aA))) (aD (R8 1 PassesOwn.never rfl (tH rfl (bH (aR 3 nd) (bH (aR 4 nd) (bH (aR 5 nd) (bH (aR 6 nd) oM))))) (bK [3,4,5,6] (aD (abB 2 rQ (hr.mono (by decide)) rfl t.eY.m t.eY.k t.eY.b (aj (uN hu (ak 2) (ak 4)) (aj (uN hu (ak 2) (ak 5)) aA))) aV))) (aD (Jl 2) aV)))
theorem Ew:bw ["heads", "head"] ["heads", "head"] (aG vJ):=jy
theorem Ey:Ok P w base t.lg 1 2 kW:=Aj (g:=kO) t.lg Ew λ_ _ _ _ _ _ hr hu nd=>(aD (dw (fV nR rfl t.ni lF (aj (Ys ["name"] (qX ["head", "heads"] [1,0]) rfl (ak 0) (λ_ _ _ _=>(aR 2 (by show List.Nodup (_++_);decide +kernel))) (λ_ _ _ _=>(iu (dJ (of_eq hu) (uN hu (ak 1) (ak 2)) (ak 0) (fj _)))) (λ_ _ _ _=>(ak 2)) (cQ)) aA))) aV)
theorem Rn:bw ["names", "reasons", "name", "heads"] ["names", "reasons", "name"] (aG Ik):=jy
theorem Ro (wC:Ok P w base t.rN 2 2 rH) (pY:Ok P w base t.lg 1 2 kW):Ok P w base t.qD 3 3 qz:=Aj (g:=uT) t.qD Rn λ_ _ _ _ _ _ hr hu nd=>(aD (bF 3 nd (cX t.rN wC hr (aj (ak 0) (aj (ak 1) aA)))) (aD (dw (cX t.lg pY hr (aj (ak 3) (aj (uN hu (ak 3) (ak 2)) aA)))) aV))
theorem OJ:bw ["ground", "reason", "names", "reasons", "bars", "others", "one_part"] ["ground", "reason"] (aG rB):=jy
theorem O1 (u5:Ok P w base t.qD 3 3 qz) (jo:Ok P w base t.cj 5 2 gB):Ok P w base t.iB 6 2 rK:=Aj (g:=rJ) t.iB OJ λ_ _ _ _ _ _ hr hu nd=>(aD (abD (cX t.cj jo hr (aj (ak 0) (aj (ak 1) aA)))) (aD (Qi (ak 0) (tH rfl (bH (aR 2 nd) (bH (aR 3 nd) (bH (aR 4 nd) oM))))) (aD (Bd 5 ["other"] (qX ["reason"] [1]) rfl nd (gW (ak 3)) (λ_ _ _ _=>(aR 1 (by show List.Nodup (_++_);decide +kernel))) (λ_ _ _ _=>(iu (dJ (Hr hu) (ak 1) (ak 0) (fj _)))) (λ_ _ _ _=>(ak 1)) (cQ)) (aD (bF 6 nd (cX t.qD u5 hr (aj (ak 2) (aj (ak 5) (aj (bC (ak 1) aB) aA))))) (aD (nJ (dJ CJ (bC (ak 1) aB) (ak 6) (by with_unfolding_all rfl)) (aD (dw (cJ (aj jD aA))) aV) aV) (aD (dw (cJ (aj jD (aj (ak 6) (aj (dH (cX t.qD u5 hr (aj (ak 2) (aj (ak 5) (aj (bC (ak 1) aB) aA))))) aA))))) aV))))))
theorem Kr:bw ["_law_names_here", "_law_reasons", "_law_found", "_law_weight", "_law_a", "_law_b", "_law_k", "_law_one", "_law_other"] ["_law_names_here", "_law_reasons"] (aG z8):=jy
theorem Ku:Ok P w base t.pJ 1 2 pD:=Aj (g:=pC) t.pJ Kr λ_ _ _ _ _ _ hr hu nd=>(aD (Bd 2 ["_law_name"] (qX [] []) rfl nd (gW (ak 0)) (λ_ _ _ _=>(aR 0 (by show List.Nodup (_++_);decide +kernel))) (λ_ _ _ _=>dZ) (λ_ _ _ _=>(dH (dM (aj (ak 0) aA)))) (cQ)) (aD (R8 1 PassesOwn.never rfl (tH rfl (bH (aR 3 nd) (bH (aR 4 nd) (bH (aR 5 nd) (bH (aR 6 nd) oM))))) (bK [3,4,5,6,7,8] (aD (bF 7 nd (bC (jh ["_law_part"] (qX ["_law_a"] [4]) rfl (gW (ak 2)) (λ_ _ _ _=>(aR 1 (by show List.Nodup (_++_);decide +kernel))) (λ_ _ _ _=>(iu (dJ CJ (ak 0) (ak 1) (by with_unfolding_all rfl)))) (λ_ _ _ _=>(ak 1)) (cQ)) aB)) (aD (bF 8 nd (bC (jh ["_law_part"] (qX ["_law_b"] [5]) rfl (gW (ak 2)) (λ_ _ _ _=>(aR 1 (by show List.Nodup (_++_);decide +kernel))) (λ_ _ _ _=>(iu (dJ CJ (ak 0) (ak 1) (by with_unfolding_all rfl)))) (λ_ _ _ _=>(ak 1)) (cQ)) aB)) (aD (nJ (dJ (Hr hu) (ak 7) (ak 8) (fj _)) (bK [] (aD (bF 2 nd (aP bG (jh ["_law_part"] (qX ["_law_one", "_law_other"] [7,8]) rfl (gW (ak 2)) (λ_ _ _ _=>(aR 2 (by show List.Nodup (_++_);decide +kernel))) (λ_ _ _ _=>(iu (dJ (Bo hu) (ak 2) (dM (aj (ak 0) (aj (ak 1) aA))) (by with_unfolding_all rfl)))) (λ_ _ _ _=>(ak 2)) (cQ)) (dM (aj (dH (bV yZ rfl t.n8 qt (aj (aP bG (ak 7) (ak 8)) aA))) aA)))) aV)) (bK [] aV)) aV))))) (aD (dw (bV MF rfl t.n8 qt (aj (jh ["_law_part"] (qX [] []) rfl (gW (ak 2)) (λ_ _ _ _=>(aR 0 (by show List.Nodup (_++_);decide +kernel))) (λ_ _ _ _=>dZ) (λ_ _ _ _=>(fV nR rfl t.ni lF (aj (ak 0) aA))) (cQ)) aA))) aV)))
theorem Rp:bw ["_law_ground_here", "_law_reason", "_law_parts_here", "_law_one"] ["_law_ground_here", "_law_reason"] (aG Il):=jy
theorem Rq (uG:Ok P w base t.pJ 1 2 pD):Ok P w base t.uY 2 2 uV:=Aj (g:=uU) t.uY Rp λ_ _ _ _ _ _ hr hu nd=>(aD (bF 2 nd (cX t.pJ uG hr (aj (bC (ak 0) aB) (aj (dH (jh ["_law_other"] (qX ["_law_reason"] [1]) rfl (gW (bC (ak 0) aB)) (λ_ _ _ _=>(aR 1 (by show List.Nodup (_++_);decide +kernel))) (λ_ _ _ _=>(iu (dJ (Hr hu) (ak 1) (ak 0) (fj _)))) (λ_ _ _ _=>(ak 1)) (cQ))) aA)))) (aD (bF 3 nd (bC (jh ["_law_part"] (qX ["_law_reason"] [1]) rfl (gW (ak 2)) (λ_ _ _ _=>(aR 1 (by show List.Nodup (_++_);decide +kernel))) (λ_ _ _ _=>(iu (dJ CJ (bC (ak 0) aB) (ak 1) (by with_unfolding_all rfl)))) (λ_ _ _ _=>(ak 1)) (cQ)) aB)) (aD (nJ (dJ CJ (bC (ak 1) aB) (ak 3) (by with_unfolding_all rfl)) (aD (dw (cJ (aj jD aA))) aV) aV) (aD (dw (cJ (aj jD (aj (ak 3) (aj (bC (jh ["_law_part"] (qX ["_law_reason"] [1]) rfl (gW (ak 2)) (λ_ _ _ _=>(aR 1 (by show List.Nodup (_++_);decide +kernel))) (λ_ _ _ _=>(iu (dJ CJ (bC (ak 0) aB) (ak 1) (by with_unfolding_all rfl)))) (λ_ _ _ _=>(ak 1)) (cQ)) aB) aA))))) aV))))
theorem Gz:bw ["_law_text", "_law_place", "_law_x", "_law_signs", "_law_sign", "_law_at"] ["_law_text", "_law_place", "_law_x"] (aG yr):=jy
theorem GC:Ok P w base t.jL 1 3 jJ:=Aj (g:=mX) t.jL Gz λ_ _ _ _ _ _ hr hu nd=>(aD (bF 3 nd jD) (aD (bF 3 nd (aP bG (ak 3) jD)) (aD (bF 4 nd (bC (ak 3) (aP bT (aP qR (ak 2) aB) (bC (dM (aj aB (aj aB aA))) (aP bT (aP qR (ak 2) aB) aB))))) (aD (bF 5 nd (aP bT (ak 1) (aP bG (bV CN rfl t.Om CK (aj (ak 0) aA)) aB))) (aD (dw (bC (dM (aj (dH (aP bG (aP bG (rY (ak 0) gJ (gK (ak 5))) (ak 4)) (rY (ak 0) (gK (ak 5)) gJ))) (aj (dH (aP bG (aP bG (rY (ak 0) gJ (gK (ak 5))) (ak 4)) (rY (ak 0) (gK (aP bG (ak 5) aB)) gJ))) (aj (dH (aP bG (rY (ak 0) gJ (gK (ak 5))) (rY (ak 0) (gK (aP bG (ak 5) aB)) gJ))) aA)))) (aP bT (ak 2) aB))) aV)))))
theorem Ez:bw ["_law_reason", "_law_xs", "_law_weight", "_law_a", "_law_b", "_law_k", "_law_one", "_law_other", "_law_found"] ["_law_reason", "_law_xs"] (aG vK):=jy
theorem EY (nj:Ok P w base t.jL 1 3 jJ):Ok P w base t.lq 2 2 kZ:=Aj (g:=kY) t.lq Ez λ_ _ _ _ _ _ hr hu nd=>(aD (Qi (ak 0) (tH rfl (bH (aR 2 nd) (bH (aR 3 nd) (bH (aR 4 nd) (bH (aR 5 nd) oM)))))) (aD (Jm 6 7 rfl nd (aj (dH (cX t.jL nj hr (aj (ak 3) (aj (bC (ak 1) aB) (aj (bC (ak 1) aB) aA))))) (aj (dH (cX t.jL nj hr (aj (ak 4) (aj (bC (ak 1) aB) (aj (bC (ak 1) aB) aA))))) aA))) (aD (bF 8 nd (dM (aj (cJ (aj (dH (aP bG (ak 2) aB)) (aj (ak 3) (aj (ak 4) (aj (ak 5) aA))))) (aj (cJ (aj (aP vV (ak 2) aB) (aj (ak 3) (aj (ak 4) (aj (ak 5) aA))))) (aj (cJ (aj (ak 2) (aj (ak 3) (aj (ak 4) (aj (dH (aP bG (ak 5) aB)) aA))))) (aj (cJ (aj (ak 2) (aj (ak 3) (aj (ak 4) (aj (aP vV (ak 5) aB) aA))))) aA)))))) (aD (dw (aP bG (ak 8) (dM (aj (cJ (aj (ak 2) (aj (ak 6) (aj (ak 4) (aj (ak 5) aA))))) (aj (cJ (aj (ak 2) (aj (ak 3) (aj (ak 7) (aj (ak 5) aA))))) (aj (cJ (aj (ak 2) (aj (ak 3) (aj (ak 3) (aj (ak 5) aA))))) (aj (cJ (aj (ak 2) (aj (ak 4) (aj (ak 3) (aj (ak 5) aA))))) aA))))))) aV))))
theorem Fb (gj:Ok P w base t.gk 4 1 iz):Ok P w base t.jd 8 2 fB:=
 Rj t.jd.F (ahu t.iB.F (ahs t.cj.F gj t.gk.m t.gk.k t.gk.b t.jx t.jkC t.jmC) t.cj.m t.cj.k t.cj.b) t.iB.m t.iB.k t.iB.b t.acr t.jex
  (acq t.x_o.F t.ajt t.m0 t.m1 t.jmC t.m3 t.m4 t.m5 t.m6 t.acr t.h0 t.h1 t.h2 t.h3 t.h4 t.h5 t.h6 t.hF t.hve t.bM t.afu t.jK) t.x_o.m t.x_o.k t.x_o.b
theorem Rr:bw ["_law_ground_here", "_law_found", "_law_weight", "_law_one", "_law_other", "_law_kind"] ["_law_ground_here"] (aG Im):=jy
theorem Rt:Ok P w base t.uZ 1 1 uX:=Aj (g:=uW) t.uZ Rr λ_ _ _ _ _ _ hr hu nd=>(aD (bF 1 nd (dM (aj aea (aj Lj (aj aB (aj jD (aj (cJ aA) (aj aeA (aj (dH (dM aA)) (aj (ak 0) (aj (dH (aP bG (bC (ak 0) aB) (cJ (aj aB aA)))) (aj (cJ (aj aB (aj jD (aj jD aA)))) (aj (cJ (aj aB (aj jD (aj jD (aj aB (aj aB aA)))))) aA))))))))))))) (aD (nM PassesOwn.never rfl (uK (rY (bC (ak 0) aB) gJ (gK aB))) (tH rfl (bH (aR 2 nd) (bH (aR 3 nd) (bH (aR 4 nd) (bH (aR 5 nd) oM))))) (bK [2,3,4,5] (aD (bF 1 nd (aP bG (ak 1) (dM (aj (dH (dM (aj (ak 2) (aj (ak 3) (aj (ak 4) (aj (ak 5) aA)))))) (aj (cJ (aj (ak 2) (aj (ak 4) (aj (ak 3) (aj (ak 5) aA))))) (aj (cJ (aj (ak 2) (aj (ak 3) (aj (ak 4) (aj (dH (aP bG (ak 5) aB)) aA))))) aA)))))) (aD (bF 1 nd (aP bG (ak 1) (dM (aj (cJ (aj (dH (aP bG (ak 2) aB)) (aj (ak 3) (aj (ak 4) (aj (ak 5) aA))))) (aj (cJ (aj (ak 2) (aj (ak 3) (aj (ak 4) aA)))) (aj (cJ (aj (ak 2) (aj (ak 3) (aj (ak 4) (aj (ak 5) (aj aB aA)))))) aA)))))) (aD (bF 1 nd (aP bG (ak 1) (dM (aj (cJ (aj (ak 3) (aj (ak 4) (aj (ak 5) aA)))) (aj (cJ (aj (dH (fV aeB rfl t.adh Xp (aj (ak 2) aA))) (aj (ak 3) (aj (ak 4) (aj (ak 5) aA))))) (aj (cJ (aj (ak 2) (aj (dH (dM (aj (ak 3) aA))) (aj (ak 4) (aj (ak 5) aA))))) aA)))))) (aD (nJ (dJ (of_eq hu) (ak 2) aB (fj _)) (bK [] (aD (yN 1 (cJ (aj Lj (aj (ak 3) (aj (ak 4) (aj (ak 5) aA)))))) aV)) (bK [] aV)) aV)))))) (aD (dw (aP bG (ak 1) (fV aaZ rfl t.Zm Ss (aj (bC (ak 0) aB) aA)))) aV)))
theorem afx:bw ["_law_script", "_law_ground_here", "_law_reason", "_law_found", "_law_xs", "_law_odd_here"] ["_law_script"] (aG s_law):=jy
theorem afy (d8:Ok P w base t.fD 1 2 fu) (uH:Ok P w base t.pH 3 1 o9) (zx:Ok P w base t.uY 2 2 uV) (cN:Ok P w base t.cW 1 2 cV) (zy:Ok P w base t.uZ 1 1 uX) (lu:Ok P w base t.jd 8 2 fB) (pZ:Ok P w base t.lq 2 2 kZ) (wD:Ok P w base t.iB 6 2 rK):Ok P w base t.x_law 9 1 F_law:=Aj (g:=TY) t.x_law afx λ_ _ _ _ _ _ hr hu nd=>(aD (bF 1 nd (cX t.pH uH hr (aj (ak 0) aA))) (aD (nM PassesOwn.never rfl (uK (bC (ak 1) aB)) (aR 2 nd) (bK [2,3] (aD (bF 3 nd (cX t.iB wD hr (aj (ak 1) (aj (ak 2) aA)))) (aD (nJ (U3 (Cj (Ck (Ci (xH (ak 3) rfl t.bM rfl t.ni))) (wW (dJ (Hr hu) (ak 3) (cX t.uY zx hr (aj (ak 1) (aj (ak 2) aA))) (fj _))))) (aD (dw Lj) aV) aV) aV)))) (aD (bF 4 nd (rY (cX t.cW cN hr (aj (dH (cX t.fD d8 hr (aj (ak 0) (aj aB aA)))) (aj aB aA))) (gK aB) gJ)) (aD (nM PassesOwn.never rfl (uK (bC (ak 1) aB)) (aR 2 nd) (bK [2,5] (aD (nM PassesOwn.never rfl (uK (cX t.lq pZ hr (aj (ak 2) (aj (ak 4) aA)))) (aR 5 nd) (bK [5] (aD (nJ (U3 (aaG (dJ (Bo hu) (ak 5) (bC (ak 1) aB) (by with_unfolding_all rfl)) (W9 (Ck (Ci (cX t.jd lu hr (aj (ak 1) (aj (ak 5) aA)))))))) (aD (dw Lj) aV) aV) aV))) aV))) (aD (dw (bV (Xx rfl) rfl t.ade Xq (aj (jh ["_law_odd_here"] (qX ["_law_ground_here"] [1]) rfl (gW (cX t.uZ zy hr (aj (ak 1) aA))) (λ_ _ _ _=>(aR 1 (by show List.Nodup (_++_);decide +kernel))) (λ_ _ _ _=>dZ) (λ_ _ _ _=>(dH (cX t.jd lu hr (aj (ak 0) (aj (ak 1) aA))))) (cQ)) aA))) aV)))))
theorem all_ok:Ok P w base t.x_law 9 1 F_law:=by
 have d8:=Oq (P:=P) (w:=w) (base:=base) t;have cN:=Es (P:=P) (w:=w) (base:=base) t;have uD:=Kd (P:=P) (w:=w) (base:=base) t;have uz:=Kf (P:=P) (w:=w) (base:=base) t;have rO:=Gq (P:=P) (w:=w) (base:=base) t d8 uz cN;have uH:=Kh (P:=P) (w:=w) (base:=base) t d8 uD rO cN;have j9:=Ou (P:=P) (w:=w) (base:=base) t;have j8:=Ox (P:=P) (w:=w) (base:=base) t;have uF:=Km (P:=P) (w:=w) (base:=base) t j8;have rP:=Gv (P:=P) (w:=w) (base:=base) t;have u0:=Rm (P:=P) (w:=w) (base:=base) t rP;have Eu:=V3 (P:=P) (w:=w) (base:=base) t u0 j9 j8;have gj:=Kq (P:=P) (w:=w) (base:=base) t Eu j9 uF;have jo:=vD (P:=P) (w:=w) (base:=base) t gj;have rR:=Gx (P:=P) (w:=w) (base:=base) t;have rQ:=Gy (P:=P) (w:=w) (base:=base) t;have wC:=OD (P:=P) (w:=w) (base:=base) t rQ rR;have pY:=Ey (P:=P) (w:=w) (base:=base) t;have u5:=Ro (P:=P) (w:=w) (base:=base) t wC pY;have wD:=O1 (P:=P) (w:=w) (base:=base) t u5 jo;have uG:=Ku (P:=P) (w:=w) (base:=base) t;have zx:=Rq (P:=P) (w:=w) (base:=base) t uG;have nj:=GC (P:=P) (w:=w) (base:=base) t;have pZ:=EY (P:=P) (w:=w) (base:=base) t nj;have lu:=Fb (P:=P) (w:=w) (base:=base) t gj;have zy:=Rt (P:=P) (w:=w) (base:=base) t;have ahw:=afy (P:=P) (w:=w) (base:=base) t d8 uH zx cN zy lu pZ wD;exact ahw
end
end G15
end
section
set_option synthInstance.maxSize 100000
namespace G15
open L2 P1
noncomputable section
def vO  (v4:Int) (v5:Int):Int:=(let v4:=(((v4 * (69621:Int))+v5) % (2147483647:Int));v4)
theorem GD (v0:LI_) (lR:Lp gO (v0.map eI)) (v3:Int) (v4:Int) (v5:Int):RP vL [some gO,some ((zE eI) v3),some ((zE eI) v4),some ((zE eI) v5)] (λs=>Out.nx ((λv4:Int=>[some gO,some ((zE eI) v3),some ((zE eI) v4),none]) s)) (vO  v4 v5) (none):=R.tp (bY (bQ 2 (cT (eF (Tp (au 2 (zE eI) v4 rfl) 69621 (by decide)) (au 3 (zE eI) v5 rfl)) 2147483647 (by decide)) (λ_=>rfl) λv4=>(dD (bZ v4 rfl))))
def aW (v0:LI_) (v3:Int):Int:=(if(decide (v3 < (v0.length:Int)))=true then(at' v0 v3) else(let v4:=(((48271:Int) * (((v3 * v3)+((7:Int) * v3))+(11:Int))) % (2147483647:Int));(let v4:Int:=((cut v0 none (some (3:Int))).foldl (λ(v4:Int) (v5:Int)=>(vO  v4 v5)) v4);v4)))
def gC (v0:LI_) (v3:Int):Prop:=(((decide (v3 < (v0.length:Int)))=true->In v0.length v3)/\((decide (v3 < (v0.length:Int)))=false->Mul v3 v3))
theorem Ru (v0:LI_) (lR:Lp gO (v0.map eI)) (v3:Int):RP rC [some gO,some ((zE eI) v3),none,none] (λr=>Out.rt ((zE eI) r)) (aW v0 v3) (some (gC v0 v3)):=R.tp (zR (gM (ac2 (au 1 (zE eI) v3 rfl) (x_len (ju 0 eI v0 lR rfl)))) (bY (fJ (λr=>r) (eU (ju 0 eI v0 lR rfl) (au 1 (zE eI) v3 rfl)) (λ_=>rfl) λ_=>rfl)) (dD (bQ 2 (cT (JR 48271 (by decide) (eF (eF (Yx (au 1 (zE eI) v3 rfl) (au 1 (zE eI) v3 rfl)) (JR 7 (by decide) (au 1 (zE eI) v3 rfl))) (x_i 11))) 2147483647 (by decide)) (λ_=>rfl) λv4=>(ae2 (λv4:Int=>[some gO,some ((zE eI) v3),some ((zE eI) v4),none]) v4 rfl (aeZ (ag6 (ju 0 eI v0 lR rfl) Ah (Ai (x_i 3)))) _ (λ_ _=>rfl) (λ(v4:Int) (v5:Int)=>(GD v0 lR v3 v4 v5).r) (λ_ _=>rfl) λv4=>(fJ (λr=>r) (au 2 (zE eI) v4 rfl) (λ_=>rfl) λ_=>rfl)))))
theorem oh:∀ v bs,(aL eI (aZ eI aN)) v bs->bs.length=2/\(hold (some (gC v.1 v.2.1))->fu (bs.map lend)=some ((zE eI) (aW v.1 v.2.1))):=by
 rintro⟨v0,v3,_⟩ _ ⟨gO,_,rfl,lR,⟨_,rfl,rfl⟩⟩;exact⟨rfl,λh=>cU (g:=rC) (n:=4) (bs:=[lend gO,.z (eI v3)]) (Ru v0 (xW lR) v3) h⟩
def cF  (s1:Int×LI_×Int) (v3:Int):Int×LI_×Int:=(let v4:=((((s1.1 * ((s1.1 % (65521:Int))+(40487:Int)))+((7:Int) * v3))+(5:Int)) % (1999999973:Int));(let v7:=s1.2.1++[(at' [v4,(s1.2.2 % (1000000:Int))] (if(decide ((0:Int) < s1.2.2))=true then(1:Int) else 0))];(let v8:=(s1.2.2 / (1000000:Int));(v4,v7,v8))))
def iM  (s1:Int×LI_×Int) (v3:Int):Prop:=(Mul s1.1 ((s1.1 % (65521:Int))+(40487:Int))/\(let v4:=((((s1.1 * ((s1.1 % (65521:Int))+(40487:Int)))+((7:Int) * v3))+(5:Int)) % (1999999973:Int));(In [v4,(s1.2.2 % (1000000:Int))].length (if(decide ((0:Int) < s1.2.2))=true then(1:Int) else 0)/\xX s1.2.1.length)))
theorem zA (v5:Int) (v6:Int) (s1:Int×LI_×Int) (v3:Int):RP jZ [some ((zE eI) v5),some ((zE eI) v6),some ((oE eI) s1.2.1),some ((zE eI) s1.1),some ((zE eI) s1.2.2),some ((zE eI) v3)] (λs=>Out.nx ((λs1:Int×LI_×Int=>[some ((zE eI) v5),some ((zE eI) v6),some ((oE eI) s1.2.1),some ((zE eI) s1.1),some ((zE eI) s1.2.2),none]) s)) (cF  s1 v3) (some (iM  s1 v3)):=R.tp (bY (bQ 3 (cT (eF (eF (Yx (au 3 (zE eI) s1.1 rfl) (eF (cT (au 3 (zE eI) s1.1 rfl) 65521 (by decide)) (x_i 40487))) (JR 7 (by decide) (au 5 (zE eI) v3 rfl))) (x_i 5)) 1999999973 (by decide)) (λ_=>rfl) λv4=>(bY (HY 2 s1.2.1 rfl (eU (iV (gY (aF (au 3 (zE eI) v4 rfl) (aF (cT (au 4 (zE eI) s1.2.2 rfl) 1000000 (by decide)) (bN eI))) (zh rfl))) (aeV (ai1 (au 4 (zE eI) s1.2.2 rfl) (x_i 0)))) λv7=>(bY (bQ 4 (qY (au 4 (zE eI) s1.2.2 rfl) 1000000 (by decide)) (λ_=>rfl) λv8=>(dD (bZ (v4,v7,v8) rfl))))))))
def iQ (v5:Int) (v6:Int) (v7:LI_) (v4:Int) (v8:Int):LI_:=(let s1:Int×LI_×Int:=((rng 0 v6.toNat).foldl (λ(s1:Int×LI_×Int) (v3:Int)=>(cF  s1 v3)) (v4,v7,v8));s1.2.1)
def kh (v5:Int) (v6:Int) (v7:LI_) (v4:Int) (v8:Int):Prop:=(Rg v6/\pU (λ(s1:Int×LI_×Int) (v3:Int)=>(cF  s1 v3)) (λ(s1:Int×LI_×Int) (v3:Int)=>some (iM  s1 v3)) (rng 0 v6.toNat) (v4,v7,v8))
def zB:Ev->Option Out:=(aJ (nU (Mq (aq (gv 1) aH)) (ji 5) jZ) (aJ (FZ 2) gZ))
theorem zF (v5:Int) (v6:Int) (v7:LI_) (v4:Int) (v8:Int):RP zB [some ((zE eI) v5),some ((zE eI) v6),some ((oE eI) v7),some ((zE eI) v4),some ((zE eI) v8),none] (λr=>Out.rt ((oE eI) r)) (iQ v5 v6 v7 v4 v8) (some (kh v5 v6 v7 v4 v8)):=R.tp (DY (λs1:Int×LI_×Int=>[some ((zE eI) v5),some ((zE eI) v6),some ((oE eI) s1.2.1),some ((zE eI) s1.1),some ((zE eI) s1.2.2),none]) (v4,v7,v8) rfl (HX (au 1 (zE eI) v6 rfl)) _ (λ_ _=>rfl) (λ(s1:Int×LI_×Int) (v3:Int)=>(zA v5 v6 s1 v3).r) λs1=>(Q6 2 (λr=>r) s1.2.1 rfl (λ_=>rfl) λ_=>rfl))
def aQ (v5:Int) (v6:Int):LI_:=(let v7:=([]:List Int);(let v4:=((((v5 % (1999999973:Int))+(31:Int)) * (765432101:Int)) % (1999999973:Int));(let v8:=(0:Int);(let v8:Int:=(if((decide (v5 < (0:Int)))||(decide (((10:Int) ^ 18)<=v5)))=true then(let v8:=(if v5 < 0 then -v5 else v5);v8) else v8);(iQ v5 v6 v7 v4 v8)))))
def dU (v5:Int) (v6:Int):Prop:=(let v7:=([]:List Int);(let v4:=((((v5 % (1999999973:Int))+(31:Int)) * (765432101:Int)) % (1999999973:Int));(let v8:=(0:Int);(let v8:Int:=(if((decide (v5 < (0:Int)))||(decide (((10:Int) ^ 18)<=v5)))=true then(let v8:=(if v5 < 0 then -v5 else v5);v8) else v8);(kh v5 v6 v7 v4 v8)))))
theorem GF (v5:Int) (v6:Int):RP kJ [some ((zE eI) v5),some ((zE eI) v6),none,none,none,none] (λr=>Out.rt ((oE eI) r)) (aQ v5 v6) (some (dU v5 v6)):=R.tp (bQ 2 (gY (bN eI) (zh rfl)) (λ_=>rfl) λv7=>(bQ 3 (cT (Tp (eF (cT (au 0 (zE eI) v5 rfl) 1999999973 (by decide)) (x_i 31)) 765432101 (by decide)) 1999999973 (by decide)) (λ_=>rfl) λv4=>(bQ 4 (x_i 0) (λ_=>rfl) λv8=>(DX (λv8:Int=>[some ((zE eI) v5),some ((zE eI) v6),some ((oE eI) v7),some ((zE eI) v4),some ((zE eI) v8),none]) (Yz (gM (ac2 (au 0 (zE eI) v5 rfl) (x_i 0))) (gM (x_ge (au 0 (zE eI) v5 rfl) (aeQ 10 18 18 (by decide) rfl)))) (bY (bQ 4 (ag9 (au 0 (zE eI) v5 rfl)) (λ_=>rfl) λv8=>(dD (bZ v8 rfl)))) (dD (bZ v8 rfl)) λv8=>(zF v5 v6 v7 v4 v8).r))))
theorem je:∀ v bs,(aZ eI (aZ eI aN)) v bs->bs.length=2/\(hold (some (dU v.1 v.2.1))->cV (bs.map lend)=some ((oE eI) (aQ v.1 v.2.1))):=by
 rintro⟨v5,v6,_⟩ _ ⟨_,rfl,⟨_,rfl,rfl⟩⟩;exact⟨rfl,λh=>cU (g:=kJ) (n:=6) (bs:=[.z (eI v5),.z (eI v6)]) (GF v5 v6) h⟩
def cP (vb:Int) (ve:LS_) (vf:List aU) (v3:Int):(List aU):=(let y1:=(at' ve v3);let y2:=(at' ve ((v3+(1:Int)) % (30:Int)));let vg:=y1;let vh:=y2;(let vi:=(at' [(5:Int),((1000:Int) - v3),((1:Int)+v3),((1:Int)+((v3 * v3) % (9:Int)))] (vb % (4:Int)));(let vf:=vf++[(((0:Int) - vi),(if qK vh vg=true then vh else vg),(if qK vg vh=true then vh else vg),(v3 % (3:Int)))];vf)))
def jM (vb:Int) (ve:LS_) (vf:List aU) (v3:Int):Prop:=((In ve.length v3/\In ve.length ((v3+(1:Int)) % (30:Int)))/\(let y1:=(at' ve v3);let y2:=(at' ve ((v3+(1:Int)) % (30:Int)));let vg:=y1;let vh:=y2;((Mul v3 v3/\In [(5:Int),((1000:Int) - v3),((1:Int)+v3),((1:Int)+((v3 * v3) % (9:Int)))].length (vb % (4:Int)))/\(let vi:=(at' [(5:Int),((1000:Int) - v3),((1:Int)+v3),((1:Int)+((v3 * v3) % (9:Int)))] (vb % (4:Int)));xX vf.length))))
theorem Fd (v9:Int) (va:Int) (vb:Int) (vc:Str) (vd:LS_) (ve:LS_) (vf:List aU) (v3:Int):RP uw [some ((zE eI) v9),some ((zE eI) va),some ((zE eI) vb),some ((zE eS) vc),some ((oE eS) vd),some ((oE eS) ve),some ((oE aX) vf),some ((zE eI) v3),none,none,none] (λs=>Out.nx ((λvf:(List aU)=>[some ((zE eI) v9),some ((zE eI) va),some ((zE eI) vb),some ((zE eS) vc),some ((oE eS) vd),some ((oE eS) ve),some ((oE aX) vf),none,none,none,none]) s)) (cP vb ve vf v3) (some (jM vb ve vf v3)):=R.tp (bY (Tw 8 9 (eU (eG (au 5 (lE eS) ve rfl)) (au 7 (zE eI) v3 rfl)) (eU (eG (au 5 (lE eS) ve rfl)) (cT (eF (au 7 (zE eI) v3 rfl) (x_i 1)) 30 (by decide))) λvg vh=>(bY (bQ 10 (eU (iV (gY (aF (x_i 5) (aF (Dz (x_i 1000) (au 7 (zE eI) v3 rfl)) (aF (fH (eF (x_i 1) (au 7 (zE eI) v3 rfl))) (aF (fH (eF (x_i 1) (cT (Yx (au 7 (zE eI) v3 rfl) (au 7 (zE eI) v3 rfl)) 9 (by decide)))) (bN eI))))) (zh rfl))) (cT (au 2 (zE eI) vb rfl) 4 (by decide))) (λ_=>rfl) λvi=>(bY (HY 6 vf rfl (lU (Dz (x_i 0) (au 10 (zE eI) vi rfl)) (fH (Y4 (au 8 (zE eS) vg rfl) (au 9 (zE eS) vh rfl))) (fH (ae6 (au 8 (zE eS) vg rfl) (au 9 (zE eS) vh rfl))) (cT (au 7 (zE eI) v3 rfl) 3 (by decide))) λvf=>(dD (bZ vf rfl))))))))
def lK (v9:Int) (va:Int) (vb:Int):fY:=(let vc:=("abcd" : Str);(let vd:=((rng 0 (kN 30)).map λv3:Int=>(Txt.mul (ch vc (v3 / (8:Int))) ((1:Int)+(v3 % (8:Int)))));(let ve:=((rng 0 (kN 30)).map λv3:Int=>(at' vd ((((7:Int) * v3)+va) % (30:Int))));(let vf:=([]:List aU);(let vf:(List aU):=((rng 0 ((29:Int)+(v9 % (2:Int))).toNat).foldl (λ(vf:List aU) (v3:Int)=>(cP vb ve vf v3)) vf);((jT vd),((rZ aX vf).map λq3:aU=>(((0:Int) - q3.1),q3.2.1,q3.2.2.1,q3.2.2.2)),([]:List qx)))))))
def lM (v9:Int) (va:Int) (vb:Int):Prop:=(let vc:=("abcd" : Str);(((rng 0 (kN 30)).length<=100000/\(∀ v3∈(rng 0 (kN 30)),(In vc.length (v3 / (8:Int))/\(((1:Int)+(v3 % (8:Int)))<=1000 ∧ -1000<=((1:Int)+(v3 % (8:Int)))/\(ch vc (v3 / (8:Int))).length<=1000))))/\(let vd:=((rng 0 (kN 30)).map λv3:Int=>(Txt.mul (ch vc (v3 / (8:Int))) ((1:Int)+(v3 % (8:Int)))));(((rng 0 (kN 30)).length<=100000/\(∀ v3∈(rng 0 (kN 30)),In vd.length ((((7:Int) * v3)+va) % (30:Int))))/\(let ve:=((rng 0 (kN 30)).map λv3:Int=>(at' vd ((((7:Int) * v3)+va) % (30:Int))));(let vf:=([]:List aU);((Rg ((29:Int)+(v9 % (2:Int)))/\pU (λ(vf:List aU) (v3:Int)=>(cP vb ve vf v3)) (λ(vf:List aU) (v3:Int)=>some (jM vb ve vf v3)) (rng 0 ((29:Int)+(v9 % (2:Int))).toNat) vf)/\(let vf:(List aU):=((rng 0 ((29:Int)+(v9 % (2:Int))).toNat).foldl (λ(vf:List aU) (v3:Int)=>(cP vb ve vf v3)) vf);(vd.length < 64/\(vf.length < 64/\(rZ aX vf).length<=100000))))))))))
theorem O2 (v9:Int) (va:Int) (vb:Int):RP oY [some ((zE eI) v9),some ((zE eI) va),some ((zE eI) vb),none,none,none,none,none,none,none,none] (λr=>Out.rt ((zE cM) r)) (lK v9 va vb) (some (lM v9 va vb)):=R.tp (bQ 3 (x_s "abcd") (λ_=>rfl) λvc=>(bQ 4 (DW (YT 30 30 rfl (by unfold Rg;decide)) _ (λ_=>rfl) (λv3:Int=>(YC (Nu (au 0 (zE eS) vc rfl) (qY (au 1 (zE eI) v3 rfl) 8 (by decide))) (eF (x_i 1) (cT (au 1 (zE eI) v3 rfl) 8 (by decide)))))) (λ_=>rfl) λvd=>(bQ 5 (DW (YT 30 30 rfl (by unfold Rg;decide)) _ (λ_=>rfl) (λv3:Int=>(eU (eG (au 0 (lE eS) vd rfl)) (cT (eF (JR 7 (by decide) (au 2 (zE eI) v3 rfl)) (au 1 (zE eI) va rfl)) 30 (by decide))))) (λ_=>rfl) λve=>(bQ 6 (gY (bN aX) (zh rfl)) (λ_=>rfl) λvf=>(DY (λvf:(List aU)=>[some ((zE eI) v9),some ((zE eI) va),some ((zE eI) vb),some ((zE eS) vc),some ((oE eS) vd),some ((oE eS) ve),some ((oE aX) vf),none,none,none,none]) vf rfl (HX (eF (x_i 29) (cT (au 0 (zE eI) v9 rfl) 2 (by decide)))) _ (λ_ _=>rfl) (λ(vf:List aU) (v3:Int)=>(Fd v9 va vb vc vd ve vf v3).r) λvf=>(fJ (λr=>r) (Q0 (qZ (iV (JW (eG (au 4 (lE eS) vd rfl))))) (qZ (iV (xY (JZ (iV (ae5 (eG (au 6 (lE aX) vf rfl))))) _ (λ_=>rfl) (λq3:aU=>(lU (Dz (x_i 0) (au 0 (zE eI) q3.1 rfl)) (au 1 (zE eS) q3.2.1 rfl) (au 2 (zE eS) q3.2.2.1 rfl) (au 3 (zE eI) q3.2.2.2 rfl))) λ_=>rfl))) (aeR Ak)) (λ_=>rfl) λ_=>rfl))))))
theorem O4:∀ v bs,(aZ eI (aZ eI (aZ eI aN))) v bs->bs.length=3/\(hold (some (lM v.1 v.2.1 v.2.2.1))->oZ (bs.map lend)=some ((zE cM) (lK v.1 v.2.1 v.2.2.1))):=by
 rintro⟨v9,va,vb,_⟩ _ ⟨_,rfl,⟨_,rfl,⟨_,rfl,rfl⟩⟩⟩;exact⟨rfl,λh=>cU (g:=oY) (n:=11) (bs:=[.z (eI v9),.z (eI va),.z (eI vb)]) (O2 v9 va vb) h⟩
def d9 (vm:LI_) (vc:Str) (vn:Str) (vj:Int) (v7:LS_) (v3:Int):LS_:=(let vo:=(ch vc ((v3+(at' vm (2:Int))) % (15:Int)));(let vp:=(((Txt.slice vn none (some vj))++vo)++(Txt.slice vn (some vj) none));(let vp:Str:=(if(decide (((at' vm (3:Int)) % (3:Int))=(1:Int)))=true then(let vp:=(Txt.mul (ch vc (v3 / (8:Int))) ((1:Int)+(v3 % (8:Int))));vp) else vp);(let v7:=v7++[vp];v7))))
def jN (vm:LI_) (vc:Str) (vn:Str) (vj:Int) (v7:LS_) (v3:Int):Prop:=((In vm.length (2:Int)/\In vc.length ((v3+(at' vm (2:Int))) % (15:Int)))/\(let vo:=(ch vc ((v3+(at' vm (2:Int))) % (15:Int)));((xX ((Txt.slice vn none (some vj)).length+vo.length)/\xX (((Txt.slice vn none (some vj))++vo).length+(Txt.slice vn (some vj) none).length))/\(let vp:=(((Txt.slice vn none (some vj))++vo)++(Txt.slice vn (some vj) none));((In vm.length (3:Int)/\((decide (((at' vm (3:Int)) % (3:Int))=(1:Int)))=true->(In vc.length (v3 / (8:Int))/\(((1:Int)+(v3 % (8:Int)))<=1000 ∧ -1000<=((1:Int)+(v3 % (8:Int)))/\(ch vc (v3 / (8:Int))).length<=1000))))/\(let vp:Str:=(if(decide (((at' vm (3:Int)) % (3:Int))=(1:Int)))=true then(let vp:=(Txt.mul (ch vc (v3 / (8:Int))) ((1:Int)+(v3 % (8:Int))));vp) else vp);xX v7.length))))))
theorem Fg (vm:LI_) (lR:Lp gO (vm.map eI)) (v6:Int) (vc:Str) (vn:Str) (vj:Int) (v7:LS_) (v3:Int):RP n6 [some gO,some ((zE eI) v6),some ((zE eS) vc),some ((zE eS) vn),some ((zE eI) vj),some ((oE eS) v7),some ((zE eI) v3),none,none] (λs=>Out.nx ((λv7:LS_=>[some gO,some ((zE eI) v6),some ((zE eS) vc),some ((zE eS) vn),some ((zE eI) vj),some ((oE eS) v7),none,none,none]) s)) (d9 vm vc vn vj v7 v3) (some (jN vm vc vn vj v7 v3)):=R.tp (bY (bQ 7 (Nu (au 2 (zE eS) vc rfl) (cT (eF (au 6 (zE eI) v3 rfl) (eU (ju 0 eI vm lR rfl) (x_i 2))) 15 (by decide))) (λ_=>rfl) λvo=>(bY (bQ 8 (uo (uo (zQ (au 3 (zE eS) vn rfl) Ah (Ai (au 4 (zE eI) vj rfl))) (au 7 (zE eS) vo rfl)) (zQ (au 3 (zE eS) vn rfl) (Ai (au 4 (zE eI) vj rfl)) Ah)) (λ_=>rfl) λvp=>(bY (DX (λvp:Str=>[some gO,some ((zE eI) v6),some ((zE eS) vc),some ((zE eS) vn),some ((zE eI) vj),some ((oE eS) v7),some ((zE eI) v3),some ((zE eS) vo),some ((zE eS) vp)]) (gM (x_eq (by decide) (cT (eU (ju 0 eI vm lR rfl) (x_i 3)) 3 (by decide)) (x_i 1))) (bY (bQ 8 (YC (Nu (au 2 (zE eS) vc rfl) (qY (au 6 (zE eI) v3 rfl) 8 (by decide))) (eF (x_i 1) (cT (au 6 (zE eI) v3 rfl) 8 (by decide)))) (λ_=>rfl) λvp=>(dD (bZ vp rfl)))) (dD (bZ vp rfl)) λvp=>(bY (HY 5 v7 rfl (au 8 (zE eS) vp rfl) λv7=>(dD (bZ v7 rfl))))))))))
def jO (vm:LI_) (v6:Int) (vc:Str) (vn:Str):LS_:=(let vj:=((at' vm (1:Int)) % ((vn.length:Int)+(1:Int)));(let v7:=([]:LS_);(let v7:LS_:=((rng 0 v6.toNat).foldl (λ(v7:LS_) (v3:Int)=>(d9 vm vc vn vj v7 v3)) v7);v7)))
def ou (vm:LI_) (v6:Int) (vc:Str) (vn:Str):Prop:=((In vm.length (1:Int)/\0 < ((vn.length:Int)+(1:Int)))/\(let vj:=((at' vm (1:Int)) % ((vn.length:Int)+(1:Int)));(let v7:=([]:LS_);(Rg v6/\pU (λ(v7:LS_) (v3:Int)=>(d9 vm vc vn vj v7 v3)) (λ(v7:LS_) (v3:Int)=>some (jN vm vc vn vj v7 v3)) (rng 0 v6.toNat) v7))))
def Fi:Ev->Option Out:=(aJ (setG 4 (b2 fM (b2 fW (gv 0) (cB (.int 1))) (b2 dB (bU yU (aq (gv 3) aH)) (cB (.int 1))))) (aJ (setG 5 (bU jk aH)) (aJ (nU (Mq (aq (gv 1) aH)) (ji 6) n6) (aJ (FZ 5) gZ))))
theorem Fj (vm:LI_) (lR:Lp gO (vm.map eI)) (v6:Int) (vc:Str) (vn:Str):RP Fi [some gO,some ((zE eI) v6),some ((zE eS) vc),some ((zE eS) vn),none,none,none,none,none] (λr=>Out.rt ((oE eS) r)) (jO vm v6 vc vn) (some (ou vm v6 vc vn)):=R.tp (bQ 4 (DG (eU (ju 0 eI vm lR rfl) (x_i 1)) (eF (YG (au 3 (zE eS) vn rfl)) (x_i 1))) (λ_=>rfl) λvj=>(bQ 5 (gY (bN eS) (zh rfl)) (λ_=>rfl) λv7=>(DY (λv7:LS_=>[some gO,some ((zE eI) v6),some ((zE eS) vc),some ((zE eS) vn),some ((zE eI) vj),some ((oE eS) v7),none,none,none]) v7 rfl (HX (au 1 (zE eI) v6 rfl)) _ (λ_ _=>rfl) (λ(v7:LS_) (v3:Int)=>(Fg vm lR v6 vc vn vj v7 v3).r) λv7=>(Q6 5 (λr=>r) v7 rfl (λ_=>rfl) λ_=>rfl))))
def cD (vm:LI_) (v6:Int):LS_:=(let vc:=("abcdefghijklmnopqrstuvwxyz" : Str);(let vn:=(Txt.join "" ((rng 0 ((at' vm (0:Int)) % (6:Int)).toNat).map λv3:Int=>(ch vc (((at' vm v3) / (40:Int)) % (26:Int)))));(jO vm v6 vc vn)))
def pK (vm:LI_) (v6:Int):Prop:=(let vc:=("abcdefghijklmnopqrstuvwxyz" : Str);(((((In vm.length (0:Int)/\Rg ((at' vm (0:Int)) % (6:Int)))/\(rng 0 ((at' vm (0:Int)) % (6:Int)).toNat).length<=100000)/\(∀ v3∈(rng 0 ((at' vm (0:Int)) % (6:Int)).toNat),(In vm.length v3/\In vc.length (((at' vm v3) / (40:Int)) % (26:Int)))))/\(((rng 0 ((at' vm (0:Int)) % (6:Int)).toNat).map λv3:Int=>(ch vc (((at' vm v3) / (40:Int)) % (26:Int)))).map (·.length)).sum+((rng 0 ((at' vm (0:Int)) % (6:Int)).toNat).map λv3:Int=>(ch vc (((at' vm v3) / (40:Int)) % (26:Int)))).length * ("" : Str).length<=100000)/\(let vn:=(Txt.join "" ((rng 0 ((at' vm (0:Int)) % (6:Int)).toNat).map λv3:Int=>(ch vc (((at' vm v3) / (40:Int)) % (26:Int)))));(ou vm v6 vc vn))))
theorem O5 (vm:LI_) (lR:Lp gO (vm.map eI)) (v6:Int):RP o7 [some gO,some ((zE eI) v6),none,none,none,none,none,none,none] (λr=>Out.rt ((oE eS) r)) (cD vm v6) (some (pK vm v6)):=R.tp (bQ 2 (x_s "abcdefghijklmnopqrstuvwxyz") (λ_=>rfl) λvc=>(bQ 3 (aeW "" (iV (DW (HX (cT (eU (ju 0 eI vm lR rfl) (x_i 0)) 6 (by decide))) _ (λ_=>rfl) (λv3:Int=>(Nu (au 0 (zE eS) vc rfl) (cT (qY (eU (ju 1 eI vm lR (congrArg some (lR.get rfl))) (au 2 (zE eI) v3 rfl)) 40 (by decide)) 26 (by decide))))))) (λ_=>rfl) λvn=>(Fj vm lR v6 vc vn).r))
theorem O6:∀ v bs,(aL eI (aZ eI aN)) v bs->bs.length=2/\(hold (some (pK v.1 v.2.1))->lJ (bs.map lend)=some ((oE eS) (cD v.1 v.2.1))):=by
 rintro⟨vm,v6,_⟩ _ ⟨gO,_,rfl,lR,⟨_,rfl,rfl⟩⟩;exact⟨rfl,λh=>cU (g:=o7) (n:=9) (bs:=[lend gO,.z (eI v6)]) (O5 vm (xW lR) v6) h⟩
def cR (v0:LI_) (vj:Int) (v6:Int) (v2:LI_) (vd:LS_) (vq:List aU) (v3:Int):(List aU):=(let vm:=(aQ (aW v0 ((vj+(1:Int))+v3)) (4:Int));(let y1:=((at' vm (0:Int)) % (if v6 > (1:Int) then v6 else(1:Int)));let y2:=((at' vm (1:Int)) % (if v6 > (1:Int) then v6 else(1:Int)));let vg:=y1;let vh:=y2;(let vi:=(at' [((1:Int)+((at' vm (2:Int)) % (3:Int))),((1:Int)+((at' vm (2:Int)) % (9:Int))),((1:Int)+((at' vm (2:Int)) % (1000:Int)))] ((at' v2 (4:Int)) % (3:Int)));(let vq:(List aU):=(if(!decide (vg=vh))=true then(let vq:=vq++[(((0:Int) - vi),(at' vd (if vh < vg then vh else vg)),(at' vd (if vh > vg then vh else vg)),(at' [(0:Int),(2:Int),(10:Int)] ((at' vm (3:Int)) % (3:Int))))];vq) else vq);vq))))
def gP (v0:LI_) (vj:Int) (v6:Int) (v2:LI_) (vd:LS_) (vq:List aU) (v3:Int):Prop:=(((gC v0 ((vj+(1:Int))+v3))/\(dU (aW v0 ((vj+(1:Int))+v3)) (4:Int)))/\(let vm:=(aQ (aW v0 ((vj+(1:Int))+v3)) (4:Int));(((In vm.length (0:Int)/\0 < (if v6 > (1:Int) then v6 else(1:Int)))/\(In vm.length (1:Int)/\0 < (if v6 > (1:Int) then v6 else(1:Int))))/\(let y1:=((at' vm (0:Int)) % (if v6 > (1:Int) then v6 else(1:Int)));let y2:=((at' vm (1:Int)) % (if v6 > (1:Int) then v6 else(1:Int)));let vg:=y1;let vh:=y2;((((In vm.length (2:Int)/\(In vm.length (2:Int)/\In vm.length (2:Int)))/\In v2.length (4:Int))/\In [((1:Int)+((at' vm (2:Int)) % (3:Int))),((1:Int)+((at' vm (2:Int)) % (9:Int))),((1:Int)+((at' vm (2:Int)) % (1000:Int)))].length ((at' v2 (4:Int)) % (3:Int)))/\(let vi:=(at' [((1:Int)+((at' vm (2:Int)) % (3:Int))),((1:Int)+((at' vm (2:Int)) % (9:Int))),((1:Int)+((at' vm (2:Int)) % (1000:Int)))] ((at' v2 (4:Int)) % (3:Int)));((!decide (vg=vh))=true->((In vd.length (if vh < vg then vh else vg)/\(In vd.length (if vh > vg then vh else vg)/\(In vm.length (3:Int)/\In [(0:Int),(2:Int),(10:Int)].length ((at' vm (3:Int)) % (3:Int)))))/\xX vq.length))))))))
theorem Al (v0:LI_) (lR:Lp gO (v0.map eI)) (vj:Int) (v6:Int) (vk:Int) (vl:Int) (v2:LI_) (vd:LS_) (vq:List aU) (v3:Int):RP lW [some gO,some ((zE eI) vj),some ((zE eI) v6),some ((zE eI) vk),some ((zE eI) vl),some ((oE eI) v2),some ((oE eS) vd),some ((oE aX) vq),some ((zE eI) v3),none,none,none,none,none,none] (λs=>Out.nx ((λvq:(List aU)=>[some gO,some ((zE eI) vj),some ((zE eI) v6),some ((zE eI) vk),some ((zE eI) vl),some ((oE eI) v2),some ((oE eS) vd),some ((oE aX) vq),none,none,none,none,none,none,none]) s)) (cR v0 vj v6 v2 vd vq v3) (some (gP v0 vj v6 v2 vd vq v3)):=R.tp (bY (bQ 9 (x_call je (cL (fH (x_call oh (zp (ju 0 eI v0 lR rfl) (cL (fH (eF (eF (au 1 (zE eI) vj rfl) (x_i 1)) (au 8 (zE eI) v3 rfl))) bO)))) (cL (x_i 4) bO))) (λ_=>rfl) λvm=>(bY (Tw 10 11 (DG (eU (eG (au 9 (lE eI) vm rfl)) (x_i 0)) (HW (x_i 1) (au 2 (zE eI) v6 rfl))) (DG (eU (eG (au 9 (lE eI) vm rfl)) (x_i 1)) (HW (x_i 1) (au 2 (zE eI) v6 rfl))) λvg vh=>(bY (bQ 12 (eU (iV (gY (aF (fH (eF (x_i 1) (cT (eU (eG (au 9 (lE eI) vm rfl)) (x_i 2)) 3 (by decide)))) (aF (fH (eF (x_i 1) (cT (eU (eG (au 9 (lE eI) vm rfl)) (x_i 2)) 9 (by decide)))) (aF (fH (eF (x_i 1) (cT (eU (eG (au 9 (lE eI) vm rfl)) (x_i 2)) 1000 (by decide)))) (bN eI)))) (zh rfl))) (cT (eU (eG (au 5 (lE eI) v2 rfl)) (x_i 4)) 3 (by decide))) (λ_=>rfl) λvi=>(bY (DX (λvq:(List aU)=>[some gO,some ((zE eI) vj),some ((zE eI) v6),some ((zE eI) vk),some ((zE eI) vl),some ((oE eI) v2),some ((oE eS) vd),some ((oE aX) vq),some ((zE eI) v3),some ((oE eI) vm),some ((zE eI) vg),some ((zE eI) vh),some ((zE eI) vi),none,none]) (gM (abH (by decide) (au 10 (zE eI) vg rfl) (au 11 (zE eI) vh rfl))) (bY (HY 7 vq rfl (lU (Dz (x_i 0) (au 12 (zE eI) vi rfl)) (eU (eG (au 6 (lE eS) vd rfl)) (ac4 (au 10 (zE eI) vg rfl) (au 11 (zE eI) vh rfl))) (eU (eG (au 6 (lE eS) vd rfl)) (HW (au 10 (zE eI) vg rfl) (au 11 (zE eI) vh rfl))) (eU (iV (gY (aF (x_i 0) (aF (x_i 2) (aF (x_i 10) (bN eI)))) (zh rfl))) (cT (eU (eG (au 9 (lE eI) vm rfl)) (x_i 3)) 3 (by decide)))) λvq=>(dD (bZ vq rfl)))) (dD (bZ vq rfl)) λvq=>(dD (bZ vq rfl))))))))))
def c7 (v0:LI_) (vj:Int) (v6:Int) (vd:LS_) (vr:List qx) (v3:Int):(List qx):=(let vm:=(aQ (aW v0 ((vj+(1:Int))+v3)) (8:Int));(let y4:=((at' vm (5:Int)) % (if v6 > (1:Int) then v6 else(1:Int)));let y5:=((at' vm (6:Int)) % (if v6 > (1:Int) then v6 else(1:Int)));let vg:=y4;let vh:=y5;(let vr:(List qx):=(if(!decide (vg=vh))=true then(let vr:=vr++[((at' vd (if vh < vg then vh else vg)),(at' vd (if vh > vg then vh else vg)),(at' [(2:Int),(10:Int)] ((at' vm (7:Int)) % (2:Int))))];vr) else vr);vr)))
def gQ (v0:LI_) (vj:Int) (v6:Int) (vd:LS_) (vr:List qx) (v3:Int):Prop:=(((gC v0 ((vj+(1:Int))+v3))/\(dU (aW v0 ((vj+(1:Int))+v3)) (8:Int)))/\(let vm:=(aQ (aW v0 ((vj+(1:Int))+v3)) (8:Int));(((In vm.length (5:Int)/\0 < (if v6 > (1:Int) then v6 else(1:Int)))/\(In vm.length (6:Int)/\0 < (if v6 > (1:Int) then v6 else(1:Int))))/\(let y4:=((at' vm (5:Int)) % (if v6 > (1:Int) then v6 else(1:Int)));let y5:=((at' vm (6:Int)) % (if v6 > (1:Int) then v6 else(1:Int)));let vg:=y4;let vh:=y5;((!decide (vg=vh))=true->((In vd.length (if vh < vg then vh else vg)/\(In vd.length (if vh > vg then vh else vg)/\(In vm.length (7:Int)/\In [(2:Int),(10:Int)].length ((at' vm (7:Int)) % (2:Int)))))/\xX vr.length))))))
theorem Am (v0:LI_) (lR:Lp gO (v0.map eI)) (vj:Int) (v6:Int) (vk:Int) (vl:Int) (v2:LI_) (vd:LS_) (vq:List aU) (v7:List aU) (vr:List qx) (v3:Int):RP lX [some gO,some ((zE eI) vj),some ((zE eI) v6),some ((zE eI) vk),some ((zE eI) vl),some ((oE eI) v2),some ((oE eS) vd),some ((oE aX) vq),some ((zE eI) v3),none,none,none,none,some ((oE aX) v7),some ((oE Ak) vr)] (λs=>Out.nx ((λvr:(List qx)=>[some gO,some ((zE eI) vj),some ((zE eI) v6),some ((zE eI) vk),some ((zE eI) vl),some ((oE eI) v2),some ((oE eS) vd),some ((oE aX) vq),none,none,none,none,none,some ((oE aX) v7),some ((oE Ak) vr)]) s)) (c7 v0 vj v6 vd vr v3) (some (gQ v0 vj v6 vd vr v3)):=R.tp (bY (bQ 9 (x_call je (cL (fH (x_call oh (zp (ju 0 eI v0 lR rfl) (cL (fH (eF (eF (au 1 (zE eI) vj rfl) (x_i 1)) (au 8 (zE eI) v3 rfl))) bO)))) (cL (x_i 8) bO))) (λ_=>rfl) λvm=>(bY (Tw 10 11 (DG (eU (eG (au 9 (lE eI) vm rfl)) (x_i 5)) (HW (x_i 1) (au 2 (zE eI) v6 rfl))) (DG (eU (eG (au 9 (lE eI) vm rfl)) (x_i 6)) (HW (x_i 1) (au 2 (zE eI) v6 rfl))) λvg vh=>(bY (DX (λvr:(List qx)=>[some gO,some ((zE eI) vj),some ((zE eI) v6),some ((zE eI) vk),some ((zE eI) vl),some ((oE eI) v2),some ((oE eS) vd),some ((oE aX) vq),some ((zE eI) v3),some ((oE eI) vm),some ((zE eI) vg),some ((zE eI) vh),none,some ((oE aX) v7),some ((oE Ak) vr)]) (gM (abH (by decide) (au 10 (zE eI) vg rfl) (au 11 (zE eI) vh rfl))) (bY (HY 14 vr rfl (Q0 (eU (eG (au 6 (lE eS) vd rfl)) (ac4 (au 10 (zE eI) vg rfl) (au 11 (zE eI) vh rfl))) (eU (eG (au 6 (lE eS) vd rfl)) (HW (au 10 (zE eI) vg rfl) (au 11 (zE eI) vh rfl))) (eU (iV (gY (aF (x_i 2) (aF (x_i 10) (bN eI))) (zh rfl))) (cT (eU (eG (au 9 (lE eI) vm rfl)) (x_i 7)) 2 (by decide)))) λvr=>(dD (bZ vr rfl)))) (dD (bZ vr rfl)) λvr=>(dD (bZ vr rfl))))))))
def lY (v0:LI_) (vj:Int) (v6:Int) (vk:Int) (vl:Int) (v2:LI_) (vd:LS_) (vq:List aU):fY:=(let v7:=((rZ aX (HJ vq)).map λq3:aU=>(((0:Int) - q3.1),q3.2.1,q3.2.2.1,q3.2.2.2));(let vr:=([]:List qx);(let vr:(List qx):=((rng 0 vl.toNat).foldl (λ(vr:List qx) (v3:Int)=>(c7 v0 vj v6 vd vr v3)) vr);(vd,v7,(rZ Ak (HJ vr))))))
def lZ (v0:LI_) (vj:Int) (v6:Int) (vk:Int) (vl:Int) (v2:LI_) (vd:LS_) (vq:List aU):Prop:=(((vq.length<=64/\vq.length < 64)/\(rZ aX (HJ vq)).length<=100000)/\(let v7:=((rZ aX (HJ vq)).map λq3:aU=>(((0:Int) - q3.1),q3.2.1,q3.2.2.1,q3.2.2.2));(let vr:=([]:List qx);((Rg vl/\pU (λ(vr:List qx) (v3:Int)=>(c7 v0 vj v6 vd vr v3)) (λ(vr:List qx) (v3:Int)=>some (gQ v0 vj v6 vd vr v3)) (rng 0 vl.toNat) vr)/\(let vr:(List qx):=((rng 0 vl.toNat).foldl (λ(vr:List qx) (v3:Int)=>(c7 v0 vj v6 vd vr v3)) vr);(vr.length<=64/\vr.length < 64))))))
def sy:Ev->Option Out:=(aJ (setG 13 (dY (Gf (Dp (QM (gv 7)))) (qm 4 (bR (ji 0) (bR (ji 1) (bR (ji 2) (bR (ji 3) tD))))) vX (bU fL (aq (b2 subB (cB (.int 0)) (gv 0)) (aq (gv 1) (aq (gv 2) (aq (gv 3) aH))))) [] 4)) (aJ (setG 14 (bU jk aH)) (aJ (nU (Mq (aq (gv 4) aH)) (ji 8) lX) (aJ (iZ (bU fL (aq (bU jC (aq (gv 6) aH)) (aq (bU jC (aq (gv 13) aH)) (aq (bU jC (aq (Dp (QM (gv 14))) aH)) aH))))) gZ))))
theorem Ao (v0:LI_) (lR:Lp gO (v0.map eI)) (vj:Int) (v6:Int) (vk:Int) (vl:Int) (v2:LI_) (vd:LS_) (vq:List aU):RP sy [some gO,some ((zE eI) vj),some ((zE eI) v6),some ((zE eI) vk),some ((zE eI) vl),some ((oE eI) v2),some ((oE eS) vd),some ((oE aX) vq),none,none,none,none,none,none,none] (λr=>Out.rt ((zE cM) r)) (lY v0 vj v6 vk vl v2 vd vq) (some (lZ v0 vj v6 vk vl v2 vd vq)):=R.tp (bQ 13 (xY (JZ (iV (Y0 (YZ (eG (au 7 (lE aX) vq rfl)))))) _ (λ_=>rfl) (λq3:aU=>(lU (Dz (x_i 0) (au 0 (zE eI) q3.1 rfl)) (au 1 (zE eS) q3.2.1 rfl) (au 2 (zE eS) q3.2.2.1 rfl) (au 3 (zE eI) q3.2.2.2 rfl))) λ_=>rfl) (λ_=>rfl) λv7=>(bQ 14 (gY (bN Ak) (zh rfl)) (λ_=>rfl) λvr=>(DY (λvr:(List qx)=>[some gO,some ((zE eI) vj),some ((zE eI) v6),some ((zE eI) vk),some ((zE eI) vl),some ((oE eI) v2),some ((oE eS) vd),some ((oE aX) vq),none,none,none,none,none,some ((oE aX) v7),some ((oE Ak) vr)]) vr rfl (HX (au 4 (zE eI) vl rfl)) _ (λ_ _=>rfl) (λ(vr:List qx) (v3:Int)=>(Am v0 lR vj v6 vk vl v2 vd vq v7 vr v3).r) λvr=>(fJ (λr=>r) (Q0 (qZ (eG (au 6 (lE eS) vd rfl))) (qZ (eG (au 13 (lE aX) v7 rfl))) (qZ (iV (Y0 (YZ (eG (au 14 (lE Ak) vr rfl))))))) (λ_=>rfl) λ_=>rfl))))
def mj (v0:LI_) (vj:Int) (v6:Int) (vk:Int) (vl:Int) (v2:LI_) (vd:LS_):fY:=(let vq:=([]:List aU);(let vq:(List aU):=((rng 0 vk.toNat).foldl (λ(vq:List aU) (v3:Int)=>(cR v0 vj v6 v2 vd vq v3)) vq);(lY v0 vj v6 vk vl v2 vd vq)))
def mz (v0:LI_) (vj:Int) (v6:Int) (vk:Int) (vl:Int) (v2:LI_) (vd:LS_):Prop:=(let vq:=([]:List aU);((Rg vk/\pU (λ(vq:List aU) (v3:Int)=>(cR v0 vj v6 v2 vd vq v3)) (λ(vq:List aU) (v3:Int)=>some (gP v0 vj v6 v2 vd vq v3)) (rng 0 vk.toNat) vq)/\(let vq:(List aU):=((rng 0 vk.toNat).foldl (λ(vq:List aU) (v3:Int)=>(cR v0 vj v6 v2 vd vq v3)) vq);(lZ v0 vj v6 vk vl v2 vd vq))))
def sE:Ev->Option Out:=(aJ (setG 7 (bU jk aH)) (aJ (nU (Mq (aq (gv 3) aH)) (ji 8) lW) sy))
theorem Aq (v0:LI_) (lR:Lp gO (v0.map eI)) (vj:Int) (v6:Int) (vk:Int) (vl:Int) (v2:LI_) (vd:LS_):RP sE [some gO,some ((zE eI) vj),some ((zE eI) v6),some ((zE eI) vk),some ((zE eI) vl),some ((oE eI) v2),some ((oE eS) vd),none,none,none,none,none,none,none,none] (λr=>Out.rt ((zE cM) r)) (mj v0 vj v6 vk vl v2 vd) (some (mz v0 vj v6 vk vl v2 vd)):=R.tp (bQ 7 (gY (bN aX) (zh rfl)) (λ_=>rfl) λvq=>(DY (λvq:(List aU)=>[some gO,some ((zE eI) vj),some ((zE eI) v6),some ((zE eI) vk),some ((zE eI) vl),some ((oE eI) v2),some ((oE eS) vd),some ((oE aX) vq),none,none,none,none,none,none,none]) vq rfl (HX (au 3 (zE eI) vk rfl)) _ (λ_ _=>rfl) (λ(vq:List aU) (v3:Int)=>(Al v0 lR vj v6 vk vl v2 vd vq v3).r) λvq=>(Ao v0 lR vj v6 vk vl v2 vd vq).r))
def mC (v0:LI_) (vj:Int) (v6:Int) (vk:Int) (vl:Int) (v2:LI_):fY:=(let vd:=(jT (cD v2 v6));(mj v0 vj v6 vk vl v2 vd))
def mD (v0:LI_) (vj:Int) (v6:Int) (vk:Int) (vl:Int) (v2:LI_):Prop:=(((pK v2 v6)/\(cD v2 v6).length < 64)/\(let vd:=(jT (cD v2 v6));(mz v0 vj v6 vk vl v2 vd)))
def Ar:Ev->Option Out:=(aJ (setG 6 (bU zJ (aq (cI 2 lJ (aq (gv 5) (aq (gv 2) aH))) aH))) sE)
theorem Av (v0:LI_) (lR:Lp gO (v0.map eI)) (vj:Int) (v6:Int) (vk:Int) (vl:Int) (v2:LI_):RP Ar [some gO,some ((zE eI) vj),some ((zE eI) v6),some ((zE eI) vk),some ((zE eI) vl),some ((oE eI) v2),none,none,none,none,none,none,none,none,none] (λr=>Out.rt ((zE cM) r)) (mC v0 vj v6 vk vl v2) (some (mD v0 vj v6 vk vl v2)):=R.tp (bQ 6 (JW (iV (x_call O6 (zp (eG (au 5 (lE eI) v2 rfl)) (cL (au 2 (zE eI) v6 rfl) bO))))) (λ_=>rfl) λvd=>(Aq v0 lR vj v6 vk vl v2 vd).r)
def nq (v0:LI_) (vj:Int) (v6:Int) (vk:Int) (vl:Int):fY:=(let v2:=(aQ (aW v0 vj) (6:Int));(mC v0 vj v6 vk vl v2))
def nu (v0:LI_) (vj:Int) (v6:Int) (vk:Int) (vl:Int):Prop:=(((gC v0 vj)/\(dU (aW v0 vj) (6:Int)))/\(let v2:=(aQ (aW v0 vj) (6:Int));(mD v0 vj v6 vk vl v2)))
theorem Kv (v0:LI_) (lR:Lp gO (v0.map eI)) (vj:Int) (v6:Int) (vk:Int) (vl:Int):RP mK [some gO,some ((zE eI) vj),some ((zE eI) v6),some ((zE eI) vk),some ((zE eI) vl),none,none,none,none,none,none,none,none,none,none] (λr=>Out.rt ((zE cM) r)) (nq v0 vj v6 vk vl) (some (nu v0 vj v6 vk vl)):=R.tp (bQ 5 (x_call je (cL (fH (x_call oh (zp (ju 0 eI v0 lR rfl) (cL (au 1 (zE eI) vj rfl) bO)))) (cL (x_i 6) bO))) (λ_=>rfl) λv2=>(Av v0 lR vj v6 vk vl v2).r)
theorem Kw:∀ v bs,(aL eI (aZ eI (aZ eI (aZ eI (aZ eI aN))))) v bs->bs.length=5/\(hold (some (nu v.1 v.2.1 v.2.2.1 v.2.2.2.1 v.2.2.2.2.1))->mL (bs.map lend)=some ((zE cM) (nq v.1 v.2.1 v.2.2.1 v.2.2.2.1 v.2.2.2.2.1))):=by
 rintro⟨v0,vj,v6,vk,vl,_⟩ _ ⟨gO,_,rfl,lR,⟨_,rfl,⟨_,rfl,⟨_,rfl,⟨_,rfl,rfl⟩⟩⟩⟩⟩;exact⟨rfl,λh=>cU (g:=mK) (n:=15) (bs:=[lend gO,.z (eI vj),.z (eI v6),.z (eI vk),.z (eI vl)]) (Kv v0 (xW lR) vj v6 vk vl) h⟩
def iD (v0:LI_):fY:=(let v2:=(aQ (aW v0 (0:Int)) (12:Int));(if(decide (((at' v2 (9:Int)) % (16:Int))=(5:Int)))=true then(lK ((at' v2 (9:Int)) / (16:Int)) (at' v2 (10:Int)) (at' v2 (11:Int))) else(let v6:=((at' v2 (6:Int)) % (15:Int));(nq v0 (0:Int) v6 ((at' v2 (7:Int)) % (22:Int)) ((at' v2 (8:Int)) % (4:Int))))))
def lN (v0:LI_):Prop:=(((gC v0 (0:Int))/\(dU (aW v0 (0:Int)) (12:Int)))/\(let v2:=(aQ (aW v0 (0:Int)) (12:Int));(In v2.length (9:Int)/\(((decide (((at' v2 (9:Int)) % (16:Int))=(5:Int)))=true->((In v2.length (9:Int)/\(In v2.length (10:Int)/\In v2.length (11:Int)))/\(lM ((at' v2 (9:Int)) / (16:Int)) (at' v2 (10:Int)) (at' v2 (11:Int)))))/\((decide (((at' v2 (9:Int)) % (16:Int))=(5:Int)))=false->(In v2.length (6:Int)/\(let v6:=((at' v2 (6:Int)) % (15:Int));((In v2.length (7:Int)/\In v2.length (8:Int))/\(nu v0 (0:Int) v6 ((at' v2 (7:Int)) % (22:Int)) ((at' v2 (8:Int)) % (4:Int)))))))))))
theorem O7 (v0:LI_) (lR:Lp gO (v0.map eI)):RP o8 [some gO,none,none] (λr=>Out.rt ((zE cM) r)) (iD v0) (some (lN v0)):=R.tp (bQ 1 (x_call je (cL (fH (x_call oh (zp (ju 0 eI v0 lR rfl) (cL (x_i 0) bO)))) (cL (x_i 12) bO))) (λ_=>rfl) λv2=>(zR (gM (x_eq (by decide) (cT (eU (eG (au 1 (lE eI) v2 rfl)) (x_i 9)) 16 (by decide)) (x_i 5))) (bY (fJ (λr=>r) (x_call O4 (cL (qY (eU (eG (au 1 (lE eI) v2 rfl)) (x_i 9)) 16 (by decide)) (cL (eU (eG (au 1 (lE eI) v2 rfl)) (x_i 10)) (cL (eU (eG (au 1 (lE eI) v2 rfl)) (x_i 11)) bO)))) (λ_=>rfl) λ_=>rfl)) (dD (bQ 2 (cT (eU (eG (au 1 (lE eI) v2 rfl)) (x_i 6)) 15 (by decide)) (λ_=>rfl) λv6=>(fJ (λr=>r) (x_call Kw (zp (ju 0 eI v0 lR rfl) (cL (x_i 0) (cL (au 2 (zE eI) v6 rfl) (cL (cT (eU (eG (au 1 (lE eI) v2 rfl)) (x_i 7)) 22 (by decide)) (cL (cT (eU (eG (au 1 (lE eI) v2 rfl)) (x_i 8)) 4 (by decide)) bO)))))) (λ_=>rfl) λ_=>rfl)))))
theorem O8:∀ v bs,(aL eI aN) v bs->bs.length=1/\(hold (some (lN v.1))->o9 (bs.map lend)=some ((zE cM) (iD v.1))):=by
 rintro⟨v0,_⟩ _ ⟨gO,_,rfl,lR,rfl⟩;exact⟨rfl,λh=>cU (g:=o8) (n:=3) (bs:=[lend gO]) (O7 v0 (xW lR)) h⟩
def dF (vv:Dt) (vw:Int):Bool:=((is_tuple vv)&&(decide ((JT vv)=vw)))
def oA (vv:Dt) (vw:Int):Prop:=((is_tuple vv)=true->JV vv=true)
theorem Rv (vv:Dt) (vw:Int):RP rD [some ((zE eD) vv),some ((zE eI) vw)] (λr=>Out.rt ((zE eB) r)) (dF vv vw) (some (oA vv vw)):=R.tp (fJ (λr=>r) (um (Nx is_tuple (au 0 (zE eD) vv rfl)) (x_eq (by decide) (Q5 (au 0 (zE eD) vv rfl)) (au 1 (zE eI) vw rfl))) (λ_=>rfl) λ_=>rfl)
theorem Fl:∀ v bs,(aZ eD (aZ eI aN)) v bs->bs.length=2/\(hold (some (oA v.1 v.2.1))->j4 (bs.map lend)=some ((zE eB) (dF v.1 v.2.1))):=by
 rintro⟨vv,vw,_⟩ _ ⟨_,rfl,⟨_,rfl,rfl⟩⟩;exact⟨rfl,λh=>cU (g:=rD) (n:=2) (bs:=[.z (eD vv),.z (eI vw)]) (Rv vv vw) h⟩
def iG (vv:Dt):Bool:=((yS vv)&&(!(is_bool vv)))
theorem Rw (vv:Dt):RP rE [some ((zE eD) vv)] (λr=>Out.rt ((zE eB) r)) (iG vv) none:=R.tp (fJ (λr=>r) (um (Nx yS (au 0 (zE eD) vv rfl)) (ag2 (Nx is_bool (au 0 (zE eD) vv rfl)))) (λ_=>rfl) λ_=>rfl)
theorem Fo:∀ v bs,(aZ eD aN) v bs->bs.length=1/\(hold (none)->j5 (bs.map lend)=some ((zE eB) (iG v.1))):=by
 rintro⟨vv,_⟩ _ ⟨_,rfl,rfl⟩;exact⟨rfl,λh=>cU (g:=rE) (n:=1) (bs:=[.z (eD vv)]) (Rw vv) h⟩
def eZ (vv:Dt):Bool:=((iG vv)&&((decide ((1:Int)<=(Tr vv)))&&(decide ((Tr vv)<=(1000:Int)))))
def pN (vv:Dt):Prop:=((iG vv)=true->(vv=eI (Tr vv)/\((decide ((1:Int)<=(Tr vv)))=true->vv=eI (Tr vv))))
theorem O9 (vv:Dt):RP pq [some ((zE eD) vv)] (λr=>Out.rt ((zE eB) r)) (eZ vv) (some (pN vv)):=R.tp (fJ (λr=>r) (um (x_call Fo (cL (au 0 (zE eD) vv rfl) bO)) (ag4 (abG (x_i 1) (oU (au 0 (zE eD) vv rfl) Tr eI)) (abG (oU (au 0 (zE eD) vv rfl) Tr eI) (x_i 1000)))) (λ_=>rfl) λ_=>rfl)
theorem Pa:∀ v bs,(aZ eD aN) v bs->bs.length=1/\(hold (some (pN v.1))->pA (bs.map lend)=some ((zE eB) (eZ v.1))):=by
 rintro⟨vv,_⟩ _ ⟨_,rfl,rfl⟩;exact⟨rfl,λh=>cU (g:=pq) (n:=1) (bs:=[.z (eD vv)]) (O9 vv) h⟩
def iR (vv:Dt) (vx:Str) (vy:Int):Bool:=((nP vv)&&(((decide ((1:Int)<=(JT vv)))&&(decide ((JT vv)<=vy)))&&(((itX vv).map λvz:Dt=>(Ht (JX vz) vx)).all id)))
def jP (vv:Dt) (vx:Str) (vy:Int):Prop:=((nP vv)=true->((JV vv=true/\((decide ((1:Int)<=(JT vv)))=true->JV vv=true))/\(((decide ((1:Int)<=(JT vv)))&&(decide ((JT vv)<=vy)))=true->((JV vv=true/\(itX vv).length<=100000)/\(∀ vz∈(itX vv),vz=eS (JX vz))))))
theorem Kz (vv:Dt) (vx:Str) (vy:Int):RP mO [some ((zE eD) vv),some ((zE eS) vx),some ((zE eI) vy)] (λr=>Out.rt ((zE eB) r)) (iR vv vx vy) (some (jP vv vx vy)):=R.tp (fJ (λr=>r) (um (Nx nP (au 0 (zE eD) vv rfl)) (um (ag4 (abG (x_i 1) (Q5 (au 0 (zE eD) vv rfl))) (abG (Q5 (au 0 (zE eD) vv rfl)) (au 2 (zE eI) vy rfl))) (ac3 (iV (DW (ai3 (au 0 (zE eD) vv rfl)) _ (λ_=>rfl) (λvz:Dt=>(ahb (oU (au 1 (zE eD) vz rfl) JX eS) (au 0 (zE eS) vx rfl)))))))) (λ_=>rfl) λ_=>rfl)
theorem KC:∀ v bs,(aZ eD (aZ eS (aZ eI aN))) v bs->bs.length=3/\(hold (some (jP v.1 v.2.1 v.2.2.1))->mQ (bs.map lend)=some ((zE eB) (iR v.1 v.2.1 v.2.2.1))):=by
 rintro⟨vv,vx,vy,_⟩ _ ⟨_,rfl,⟨_,rfl,⟨_,rfl,rfl⟩⟩⟩;exact⟨rfl,λh=>cU (g:=mO) (n:=3) (bs:=[.z (eD vv),.z (eS vx),.z (eI vy)]) (Kz vv vx vy) h⟩
def dG (vv:Dt):Bool:=(iR vv ("abcdefghijklmnopqrstuvwxyz" : Str) (8:Int))
def qF (vv:Dt):Prop:=(jP vv ("abcdefghijklmnopqrstuvwxyz" : Str) (8:Int))
theorem V4 (vv:Dt):RP uR [some ((zE eD) vv)] (λr=>Out.rt ((zE eB) r)) (dG vv) (some (qF vv)):=R.tp (fJ (λr=>r) (x_call KC (cL (au 0 (zE eD) vv rfl) (cL (x_s "abcdefghijklmnopqrstuvwxyz") (cL (x_i 8) bO)))) (λ_=>rfl) λ_=>rfl)
theorem Ir:∀ v bs,(aZ eD aN) v bs->bs.length=1/\(hold (some (qF v.1))->qy (bs.map lend)=some ((zE eB) (dG v.1))):=by
 rintro⟨vv,_⟩ _ ⟨_,rfl,rfl⟩;exact⟨rfl,λh=>cU (g:=uR) (n:=1) (bs:=[.z (eD vv)]) (V4 vv) h⟩
def Fp (vv:Dt):Bool:=(if(!(dF vv (3:Int)))=true then false else(let q1:=(aco vv);((dG q1.1)&&((dG q1.2.1)&&((qK (JX q1.1) (JX q1.2.1))&&((iG q1.2.2)&&(decide ((0:Int)<=(Tr q1.2.2)))))))))
def yD (vv:Dt):Prop:=((oA vv (3:Int))/\((!(dF vv (3:Int)))=false->(vv=ahp (aco vv)/\(let q1:=(aco vv);((qF q1.1)/\((dG q1.1)=true->((qF q1.2.1)/\((dG q1.2.1)=true->((q1.1=eS (JX q1.1)/\q1.2.1=eS (JX q1.2.1))/\((qK (JX q1.1) (JX q1.2.1))=true->((iG q1.2.2)=true->q1.2.2=eI (Tr q1.2.2))))))))))))
theorem Zo (vv:Dt):RP yt [some ((zE eD) vv),none,none,none] (λr=>Out.rt ((zE eB) r)) (Fp vv) (some (yD vv)):=R.tp (zR (Nt (Yy (x_call Fl (cL (au 0 (zE eD) vv rfl) (cL (x_i 3) bO))))) (bY (fJ (λr=>r) (Dy (.bl false) eB false rfl) (λ_=>rfl) λ_=>rfl)) (dD (YK (oU (au 0 (zE eD) vv rfl) aco ahp) _ (λ_=>rfl) λq1=>(fJ (λr=>r) (um (x_call Ir (cL (au 1 (zE eD) q1.1 rfl) bO)) (um (x_call Ir (cL (au 2 (zE eD) q1.2.1 rfl) bO)) (um (agX (oU (au 1 (zE eD) q1.1 rfl) JX eS) (oU (au 2 (zE eD) q1.2.1 rfl) JX eS)) (um (x_call Fo (cL (au 3 (zE eD) q1.2.2 rfl) bO)) (x_ge (oU (au 3 (zE eD) q1.2.2 rfl) Tr eI) (x_i 0)))))) (λ_=>rfl) λ_=>rfl))))
theorem Zq:∀ v bs,(aZ eD aN) v bs->bs.length=1/\(hold (some (yD v.1))->yu (bs.map lend)=some ((zE eB) (Fp v.1))):=by
 rintro⟨vv,_⟩ _ ⟨_,rfl,rfl⟩;exact⟨rfl,λh=>cU (g:=yt) (n:=4) (bs:=[.z (eD vv)]) (Zo vv) h⟩
def dh (vv:Dt):Bool:=((dF vv (4:Int))&&((eZ (Nv vv (0:Int)))&&(Fp (Dt.tup (cut (Gm vv) (some (1:Int)) none)))))
def lO (vv:Dt):Prop:=((oA vv (4:Int))/\((dF vv (4:Int))=true->((IxD vv (0:Int)/\(pN (Nv vv (0:Int))))/\((eZ (Nv vv (0:Int)))=true->(is_tuple vv=true/\(yD (Dt.tup (cut (Gm vv) (some (1:Int)) none))))))))
theorem Pb (vv:Dt):RP pB [some ((zE eD) vv)] (λr=>Out.rt ((zE eB) r)) (dh vv) (some (lO vv)):=R.tp (fJ (λr=>r) (um (x_call Fl (cL (au 0 (zE eD) vv rfl) (cL (x_i 4) bO))) (um (x_call Pa (cL (ag5 (au 0 (zE eD) vv rfl) (x_i 0)) bO)) (x_call Zq (cL (fH (ag8 (au 0 (zE eD) vv rfl) (Ai (x_i 1)) Ah)) bO)))) (λ_=>rfl) λ_=>rfl)
theorem z9:∀ v bs,(aZ eD aN) v bs->bs.length=1/\(hold (some (lO v.1))->iz (bs.map lend)=some ((zE eB) (dh v.1))):=by
 rintro⟨vv,_⟩ _ ⟨_,rfl,rfl⟩;exact⟨rfl,λh=>cU (g:=pB) (n:=1) (bs:=[.z (eD vv)]) (Pb vv) h⟩
def oF (vt:fY) (vu:aU):Unit:=(if((!(dh (aX vu)))||(!sU vu vt.2.1))=true then default else())
def jq (vt:fY) (vu:aU):Prop:=((lO (aX vu))/\(((!(dh (aX vu)))||(!sU vu vt.2.1))=true->False))
theorem wF (vt:fY) (vu:aU):RP gA [some ((zE cM) vt),some ((zE aX) vu)] (λ_:Unit=>Out.nx [some ((zE cM) vt),some ((zE aX) vu)]) (oF vt vu) (some (jq vt vu)):=R.tp (bY (zR (Yz (Nt (Yy (x_call z9 (cL (cg (au 1 (zE aX) vu rfl)) bO)))) (gM (J2 (by decide) (au 1 (zE aX) vu rfl) (mJ (au 0 (zE cM) vt rfl) (λq=>q.2.1) (eT aX) 1 λ_=>rfl)))) (bY ab1) (dD (dD (bZ () rfl)))))
theorem wG:∀ v bs,(aZ cM (aZ aX aN)) v bs->bs.length=2/\(hold (some (jq v.1 v.2.1))->gB (bs.map lend)=some ((zE eN) (oF v.1 v.2.1))):=by
 rintro⟨vt,vu,_⟩ _ ⟨_,rfl,⟨_,rfl,rfl⟩⟩;exact⟨rfl,λh=>ab2 (g:=gA) (n:=2) (bs:=[.z (cM vt),.z (aX vu)]) (wF vt vu).r h⟩
def dN (pP:LS_):(List (Str×Str)):=(mkD (pP.map λlA:Str=>(lA,lA)))
def nA (pP:LS_):Prop:=(pP.length < 1000/\pP.length<=100000)
theorem KD (pP:LS_):RP mR [some ((zE (eT eS)) pP)] (λr=>Out.rt ((mE eS) r)) (dN pP) (some (nA pP)):=R.tp (fJ (λr=>r) (abR (YH (au 0 (zE (eT eS)) pP rfl)) (xY (YH (au 0 (zE (eT eS)) pP rfl)) _ (λ_=>rfl) (λlA:Str=>(abQ (au 0 (zE eS) lA rfl) (au 0 (zE eS) lA rfl))) λ_=>rfl)) (λ_=>rfl) λ_=>rfl)
theorem KH:∀ v bs,(aZ (eT eS) aN) v bs->bs.length=1/\(hold (some (nA v.1))->mU (bs.map lend)=some ((mE eS) (dN v.1))):=by
 rintro⟨pP,_⟩ _ ⟨_,rfl,rfl⟩;exact⟨rfl,λh=>cU (g:=mR) (n:=1) (bs:=[.z ((eT eS) pP)]) (KD pP) h⟩
def dj (sV:Str) (nG:Str) (yG:Str) (cH:(List (Str×Str))) (lA:Str):(List (Str×Str)):=(let cH:(List (Str×Str)):=(if((decide ((look cH lA)=sV))||(decide ((look cH lA)=nG)))=true then(let cH:=put cH lA yG;cH) else cH);cH)
def mG (sV:Str) (nG:Str) (yG:Str) (cH:(List (Str×Str))) (lA:Str):Prop:=((has cH lA=true/\((decide ((look cH lA)=sV))=false->has cH lA=true))/\(((decide ((look cH lA)=sV))||(decide ((look cH lA)=nG)))=true->cH.length < 1000))
theorem Aw (sV:Str) (nG:Str) (yG:Str) (cH:(List (Str×Str))) (lA:Str):RP su [some ((mW (some a_) eS) cH),some ((zE eS) sV),some ((zE eS) nG),some ((zE eS) yG),some ((zE eS) lA)] (λs=>Out.nx ((λcH:(List (Str×Str))=>[some ((mW (some a_) eS) cH),some ((zE eS) sV),some ((zE eS) nG),some ((zE eS) yG),none]) s)) (dj sV nG yG cH lA) (some (mG sV nG yG cH lA)):=R.tp (bY (DX (λcH:(List (Str×Str))=>[some ((mW (some a_) eS) cH),some ((zE eS) sV),some ((zE eS) nG),some ((zE eS) yG),some ((zE eS) lA)]) (Yz (gM (x_eq (by decide) (zq (au 0 (nE eS) cH rfl) (au 4 (zE eS) lA rfl)) (au 1 (zE eS) sV rfl))) (gM (x_eq (by decide) (zq (au 0 (nE eS) cH rfl) (au 4 (zE eS) lA rfl)) (au 2 (zE eS) nG rfl)))) (bY (abP (some a_) 0 cH rfl (au 3 (zE eS) yG rfl) (au 4 (zE eS) lA rfl) λcH=>(dD (bZ cH rfl)))) (dD (bZ cH rfl)) λcH=>(dD (bZ cH rfl))))
def nC (cH:(List (Str×Str))) (sV:Str) (nG:Str):(List (Str×Str)):=(let yG:=(if qK nG sV=true then nG else sV);(let cH:(List (Str×Str)):=((cH.map (·.1)).foldl (λ(cH:(List (Str×Str))) (lA:Str)=>(dj sV nG yG cH lA)) cH);cH))
def nD (cH:(List (Str×Str))) (sV:Str) (nG:Str):Prop:=(let yG:=(if qK nG sV=true then nG else sV);pU (λ(cH:(List (Str×Str))) (lA:Str)=>(dj sV nG yG cH lA)) (λ(cH:(List (Str×Str))) (lA:Str)=>some (mG sV nG yG cH lA)) (cH.map (·.1)) cH)
def rT (cH:(List (Str×Str))) (sV:Str) (nG:Str):R mV [some ((mW (some a_) eS) cH),some ((zE eS) sV),some ((zE eS) nG),none,none] (λm'=>Out.nx [some ((mW (some a_) eS) m'),some ((zE eS) sV),some ((zE eS) nG),none,none]):=(bY (bQ 3 (Y4 (au 1 (zE eS) sV rfl) (au 2 (zE eS) nG rfl)) (λ_=>rfl) λyG=>(bY (DY (λcH:(List (Str×Str))=>[some ((mW (some a_) eS) cH),some ((zE eS) sV),some ((zE eS) nG),some ((zE eS) yG),none]) cH rfl (aeZ (abS (au 0 (nE eS) cH rfl))) _ (λ_ _=>rfl) (λ(cH:(List (Str×Str))) (lA:Str)=>(Aw sV nG yG cH lA).r) λcH=>(dD (bZ cH rfl))))))
theorem GJ (cH:(List (Str×Str))) (sV:Str) (nG:Str):(rT (a_:=a_) cH sV nG).v=nC cH sV nG:=by kernel_rfl
theorem GK (cH:(List (Str×Str))) (sV:Str) (nG:Str):(rT (a_:=a_) cH sV nG).D=some (nD cH sV nG):=by kernel_rfl
theorem KJ:∀ (cH:(List (Str×Str))) v bs,(aZ eS (aZ eS aN)) v bs->bs.length=2/\bs.all isZ=true/\(hold (some (nD cH v.1 v.2.1))->∀ a,jH a (cH.map λq=>(kS q.1,eS q.2)) bs=some ((nC cH v.1 v.2.1).map λq=>(kS q.1,eS q.2))):=by
 rintro cH ⟨sV,nG,_⟩ _ ⟨_,rfl,⟨_,rfl,rfl⟩⟩;exact⟨rfl,rfl,λh a=>(abT (g:=mV) (n:=5) (bs:=[.z (eS sV),.z (eS nG)]) (rT (a_:=a) cH sV nG) ((congrArg hold (GK (a_:=a) cH sV nG)).mpr h) (λ_=>rfl)).trans (congrArg (λr:(List (Str×Str))=>some (r.map λq=>(kS q.1,eS q.2))) (GJ (a_:=a) cH sV nG))⟩
def fG  (cH:(List (Str×Str))) (q1:aU):(List (Str×Str)):=(let cH:=(nC cH (look cH q1.2.1) (look cH q1.2.2.1));cH)
def p7  (cH:(List (Str×Str))) (q1:aU):Prop:=((has cH q1.2.1=true/\has cH q1.2.2.1=true)/\(nD cH (look cH q1.2.1) (look cH q1.2.2.1)))
theorem GP (pP:LS_) (Ax:List aU) (h_1:Lp b_1 (Ax.map aX)) (cH:(List (Str×Str))) (q1:aU):RP vM [some ((zE (eT eS)) pP),some b_1,some ((mE eS) cH),some ((zE eI) q1.1),some ((zE eS) q1.2.1),some ((zE eS) q1.2.2.1),some ((zE eI) q1.2.2.2)] (λs=>Out.nx ((λcH:(List (Str×Str))=>[some ((zE (eT eS)) pP),some b_1,some ((mE eS) cH),none,none,none,none]) s)) (fG  cH q1) (some (p7  cH q1)):=R.tp (bY (ae7 none 2 cH rfl KJ (cL (zq (au 2 (nE eS) cH rfl) (au 4 (zE eS) q1.2.1 rfl)) (cL (zq (au 2 (nE eS) cH rfl) (au 5 (zE eS) q1.2.2.1 rfl)) bO)) λcH=>(dD (bZ cH rfl))))
def jr (pP:LS_) (Ax:List aU):(List (Str×Str)):=(let cH:=(dN pP);(let cH:(List (Str×Str)):=(Ax.foldl (λ(cH:(List (Str×Str))) (q1:aU)=>(fG  cH q1)) cH);cH))
def rU (pP:LS_) (Ax:List aU):Prop:=((nA pP)/\(let cH:=(dN pP);pU (λ(cH:(List (Str×Str))) (q1:aU)=>(fG  cH q1)) (λ(cH:(List (Str×Str))) (q1:aU)=>some (p7  cH q1)) Ax cH))
theorem Rx (pP:LS_) (Ax:List aU) (h_1:Lp b_1 (Ax.map aX)):RP rG [some ((zE (eT eS)) pP),some b_1,none,none,none,none,none] (λr=>Out.rt ((mE eS) r)) (jr pP Ax) (some (rU pP Ax)):=R.tp (bQ 2 (x_call KH (cL (au 0 (zE (eT eS)) pP rfl) bO)) (λ_=>rfl) λcH=>(YM 1 Ax (YL h_1 rfl) (λcH:(List (Str×Str))=>[some ((zE (eT eS)) pP),some b_1,some ((mE eS) cH),none,none,none,none]) cH rfl _ (λ_ _=>rfl) (λ(cH:(List (Str×Str))) (q1:aU)=>(GP pP Ax h_1 cH q1).r) λcH=>(Q6 2 (λr=>r) cH rfl (λ_=>rfl) λ_=>rfl)))
theorem Ry:∀ v bs,(aZ (eT eS) (aL aX aN)) v bs->bs.length=2/\(hold (some (rU v.1 v.2.1))->rH (bs.map lend)=some ((mE eS) (jr v.1 v.2.1))):=by
 rintro⟨pP,Ax,_⟩ _ ⟨_,rfl,⟨b_1,_,rfl,h_1,rfl⟩⟩;exact⟨rfl,λh=>cU (g:=rG) (n:=7) (bs:=[.z ((eT eS) pP),lend b_1]) (Rx pP Ax (xW h_1)) h⟩
def jf (cH:(List (Str×Str))) (yG:Str):LS_:=(((cH.map (·.1)).filter λlA:Str=>(decide ((look cH lA)=yG))).map λlA:Str=>lA)
def p8 (cH:(List (Str×Str))) (yG:Str):Prop:=((cH.map (·.1)).length<=100000/\(∀ lA∈(cH.map (·.1)),has cH lA=true))
theorem GQ (cH:(List (Str×Str))) (yG:Str):RP kO [some ((nE eS) cH),some ((zE eS) yG)] (λr=>Out.rt ((zE (eT eS)) r)) (jf cH yG) (some (p8 cH yG)):=R.tp (fJ (λr=>r) (qZ (iV (abN (ai6 (au 0 (nE eS) cH rfl)) _ (λ_=>rfl) (λlA:Str=>(gM (x_eq (by decide) (zq (au 1 (nE eS) cH rfl) (au 2 (zE eS) lA rfl)) (au 0 (zE eS) yG rfl)))) (λlA:Str=>(au 2 (zE eS) lA rfl))))) (λ_=>rfl) λ_=>rfl)
theorem GR:∀ v bs,(aM eS (aZ eS aN)) v bs->bs.length=2/\(hold (some (p8 v.1 v.2.1))->kW (bs.map lend)=some ((zE (eT eS)) (jf v.1 v.2.1))):=by
 rintro⟨cH,yG,_⟩ _ ⟨_,_,rfl,(rfl|rfl),⟨_,rfl,rfl⟩⟩
 all_goals exact⟨rfl,λh=>cU (g:=kO) (n:=2) (bs:=[nE eS cH,.z (eS yG)]) (GQ cH yG) h⟩
def cZ (pP:LS_) (Ax:List aU) (lA:Str):LS_:=(let cH:=(jr pP Ax);(jf cH (look cH lA)))
def qG (pP:LS_) (Ax:List aU) (lA:Str):Prop:=((rU pP Ax)/\(let cH:=(jr pP Ax);(has cH lA=true/\(p8 cH (look cH lA)))))
theorem V5 (pP:LS_) (Ax:List aU) (h_1:Lp b_1 (Ax.map aX)) (lA:Str):RP uT [some ((zE (eT eS)) pP),some b_1,some ((zE eS) lA),none] (λr=>Out.rt ((zE (eT eS)) r)) (cZ pP Ax lA) (some (qG pP Ax lA)):=R.tp (bQ 3 (x_call Ry (cL (au 0 (zE (eT eS)) pP rfl) (zp (ju 1 aX Ax h_1 rfl) bO))) (λ_=>rfl) λcH=>(fJ (λr=>r) (x_call GR (ai5 (au 3 (nE eS) cH rfl) (cL (zq (au 3 (nE eS) cH rfl) (au 2 (zE eS) lA rfl)) bO))) (λ_=>rfl) λ_=>rfl))
theorem Iu:∀ v bs,(aZ (eT eS) (aL aX (aZ eS aN))) v bs->bs.length=3/\(hold (some (qG v.1 v.2.1 v.2.2.1))->qz (bs.map lend)=some ((zE (eT eS)) (cZ v.1 v.2.1 v.2.2.1))):=by
 rintro⟨pP,Ax,lA,_⟩ _ ⟨_,rfl,⟨b_1,_,rfl,h_1,⟨_,rfl,rfl⟩⟩⟩;exact⟨rfl,λh=>cU (g:=uT) (n:=4) (bs:=[.z ((eT eS) pP),lend b_1,.z (eS lA)]) (V5 pP Ax (xW h_1) lA) h⟩
def kj (vt:fY) (vu:aU):Dt:=(let q1:=vt;(let va0:=((q1.2.1.filter λnG:aU=>(!decide (nG=vu))).map λnG:aU=>nG);(let va2:=(cZ q1.1 va0 vu.2.1);(if(decide (vu.2.2.1∈va2))=true then(Dt.tup [(Dt.str "stays")]) else(Dt.tup [(Dt.str "parts"),((eT eS) va2),((eT eS) (cZ q1.1 va0 vu.2.2.1))])))))
def oG (vt:fY) (vu:aU):Prop:=((jq vt vu)/\(let q1:=vt;(q1.2.1.length<=100000/\(let va0:=((q1.2.1.filter λnG:aU=>(!decide (nG=vu))).map λnG:aU=>nG);((qG q1.1 va0 vu.2.1)/\(let va2:=(cZ q1.1 va0 vu.2.1);((decide (vu.2.2.1∈va2))=false->(qG q1.1 va0 vu.2.2.1))))))))
theorem Rz (vt:fY) (vu:aU):RP rJ [some ((zE cM) vt),some ((zE aX) vu),none,none,none,none,none] (λr=>Out.rt ((zE eD) r)) (kj vt vu) (some (oG vt vu)):=R.tp (afd (x_call wG (cL (au 0 (zE cM) vt rfl) (cL (au 1 (zE aX) vu rfl) bO))) (YK (au 0 (zE cM) vt rfl) _ (λ_=>rfl) λq1=>(bQ 5 (nZ (YH (au 3 (zE (eT aX)) q1.2.1 rfl)) _ (λ_=>rfl) (λnG:aU=>(gM (abH (by decide) (au 1 (zE aX) nG rfl) (au 0 (zE aX) vu rfl)))) (λnG:aU=>(au 1 (zE aX) nG rfl)) (λ_=>rfl) λ_=>rfl) (λ_=>rfl) λva0=>(bQ 6 (x_call Iu (cL (au 2 (zE (eT eS)) q1.1 rfl) (zp (eG (au 5 (lE aX) va0 rfl)) (cL (mJ (au 1 (zE aX) vu rfl) (λq=>q.2.1) eS 1 λ_=>rfl) bO)))) (λ_=>rfl) λva2=>(zR (gM (Tt (mJ (au 1 (zE aX) vu rfl) (λq=>q.2.2.1) eS 2 λ_=>rfl) (au 6 (zE (eT eS)) va2 rfl))) (bY (fJ (λr=>r) (iw (aF (x_k (.str "stays")) (bN eD)) (zh rfl)) (λ_=>rfl) λ_=>rfl)) (dD (fJ (λr=>r) (iw (aF (x_k (.str "parts")) (aF (cg (au 6 (zE (eT eS)) va2 rfl)) (aF (cg (fH (x_call Iu (cL (au 2 (zE (eT eS)) q1.1 rfl) (zp (eG (au 5 (lE aX) va0 rfl)) (cL (mJ (au 1 (zE aX) vu rfl) (λq=>q.2.2.1) eS 2 λ_=>rfl) bO)))))) (bN eD)))) (zh rfl)) (λ_=>rfl) λ_=>rfl)))))))
theorem RB:∀ v bs,(aZ cM (aZ aX aN)) v bs->bs.length=2/\(hold (some (oG v.1 v.2.1))->rK (bs.map lend)=some ((zE eD) (kj v.1 v.2.1))):=by
 rintro⟨vt,vu,_⟩ _ ⟨_,rfl,⟨_,rfl,rfl⟩⟩;exact⟨rfl,λh=>cU (g:=rJ) (n:=7) (bs:=[.z (cM vt),.z (aX vu)]) (Rz vt vu) h⟩
def cY  (v7:List LS_) (q1:aU):(List LS_):=(let yH:=(at' ((v7.filter λeV:LS_=>(decide (q1.2.1∈eV))).map λeV:LS_=>eV) (0:Int));(let pQ:=(at' ((v7.filter λeV:LS_=>(decide (q1.2.2.1∈eV))).map λeV:LS_=>eV) (0:Int));(let v7:(List LS_):=(if(!decide (yH=pQ))=true then(let v7:=(((v7.filter λeV:LS_=>(!sU eV [yH,pQ])).map λeV:LS_=>eV)++[(jT (yH++pQ))]);v7) else v7);v7)))
def iH  (v7:List LS_) (q1:aU):Prop:=((v7.length<=100000/\In ((v7.filter λeV:LS_=>(decide (q1.2.1∈eV))).map λeV:LS_=>eV).length (0:Int))/\(let yH:=(at' ((v7.filter λeV:LS_=>(decide (q1.2.1∈eV))).map λeV:LS_=>eV) (0:Int));((v7.length<=100000/\In ((v7.filter λeV:LS_=>(decide (q1.2.2.1∈eV))).map λeV:LS_=>eV).length (0:Int))/\(let pQ:=(at' ((v7.filter λeV:LS_=>(decide (q1.2.2.1∈eV))).map λeV:LS_=>eV) (0:Int));((!decide (yH=pQ))=true->((v7.length<=100000/\(xX (yH.length+pQ.length)/\(yH++pQ).length < 64))/\xX (((v7.filter λeV:LS_=>(!sU eV [yH,pQ])).map λeV:LS_=>eV).length+[(jT (yH++pQ))].length)))))))
theorem Fq (vd:LS_) (vk:List aU) (h_1:Lp b_1 (vk.map aX)) (v7:List LS_) (q1:aU):RP ux [some ((zE (eT eS)) vd),some b_1,some ((oE (eL eS)) v7),some ((zE eI) q1.1),some ((zE eS) q1.2.1),some ((zE eS) q1.2.2.1),some ((zE eI) q1.2.2.2),none,none] (λs=>Out.nx ((λv7:(List LS_)=>[some ((zE (eT eS)) vd),some b_1,some ((oE (eL eS)) v7),none,none,none,none,none,none]) s)) (cY  v7 q1) (some (iH  v7 q1)):=R.tp (bY (bQ 7 (eU (iV (nZ (JZ (eG (au 2 (lE (eL eS)) v7 rfl))) _ (λ_=>rfl) (λeV:LS_=>(gM (aha (au 0 (zE eS) q1.2.1 rfl) (Nr (au 1 (zE (eL eS)) eV rfl))))) (λeV:LS_=>(au 1 (zE (eL eS)) eV rfl)) (λ_=>rfl) λ_=>rfl)) (x_i 0)) (λ_=>rfl) λyH=>(bY (bQ 8 (eU (iV (nZ (JZ (eG (au 2 (lE (eL eS)) v7 rfl))) _ (λ_=>rfl) (λeV:LS_=>(gM (aha (au 0 (zE eS) q1.2.2.1 rfl) (Nr (au 1 (zE (eL eS)) eV rfl))))) (λeV:LS_=>(au 1 (zE (eL eS)) eV rfl)) (λ_=>rfl) λ_=>rfl)) (x_i 0)) (λ_=>rfl) λpQ=>(bY (DX (λv7:(List LS_)=>[some ((zE (eT eS)) vd),some b_1,some ((oE (eL eS)) v7),some ((zE eI) q1.1),some ((zE eS) q1.2.1),some ((zE eS) q1.2.2.1),some ((zE eI) q1.2.2.2),some ((zE (eL eS)) yH),some ((zE (eL eS)) pQ)]) (gM (agY (by decide) (Nr (au 7 (zE (eL eS)) yH rfl)) (Nr (au 8 (zE (eL eS)) pQ rfl)))) (bY (bQ 2 (wz (iV (nZ (JZ (eG (au 2 (lE (eL eS)) v7 rfl))) _ (λ_=>rfl) (λeV:LS_=>(gM (ae8 (by decide) (au 2 (zE (eL eS)) eV rfl) (iV (gY (aF (au 0 (zE (eL eS)) yH rfl) (aF (au 1 (zE (eL eS)) pQ rfl) (bN (eL eS)))) (zh rfl)))))) (λeV:LS_=>(au 2 (zE (eL eS)) eV rfl)) (λ_=>rfl) λ_=>rfl)) (iV (gY (aF (VD (JW (iV (wz (Nr (au 7 (zE (eL eS)) yH rfl)) (Nr (au 8 (zE (eL eS)) pQ rfl)))))) (bN (eL eS))) (zh rfl)))) (λ_=>rfl) λv7=>(dD (bZ v7 rfl)))) (dD (bZ v7 rfl)) λv7=>(dD (bZ v7 rfl))))))))
def gn (vd:LS_) (vk:List aU):(List LS_):=(let v7:=(vd.map λvp:Str=>[vp]);(let v7:(List LS_):=(vk.foldl (λ(v7:List LS_) (q1:aU)=>(cY  v7 q1)) v7);(rz (v7.map λeV:LS_=>eV))))
def lQ (vd:LS_) (vk:List aU):Prop:=(vd.length<=100000/\(let v7:=(vd.map λvp:Str=>[vp]);(pU (λ(v7:List LS_) (q1:aU)=>(cY  v7 q1)) (λ(v7:List LS_) (q1:aU)=>some (iH  v7 q1)) vk v7/\(let v7:(List LS_):=(vk.foldl (λ(v7:List LS_) (q1:aU)=>(cY  v7 q1)) v7);(v7.length<=100000/\((v7.map λeV:LS_=>eV).length < 64/\∀ x∈(v7.map λeV:LS_=>eV),x.isEmpty=false))))))
theorem Pg (vd:LS_) (vk:List aU) (h_1:Lp b_1 (vk.map aX)):RP pC [some ((zE (eT eS)) vd),some b_1,none,none,none,none,none,none,none] (λr=>Out.rt ((oE (eT eS)) r)) (gn vd vk) (some (lQ vd vk)):=R.tp (bQ 2 (xY (YH (au 0 (zE (eT eS)) vd rfl)) _ (λ_=>rfl) (λvp:Str=>(VD (gY (aF (au 0 (zE eS) vp rfl) (bN eS)) (zh rfl)))) λ_=>rfl) (λ_=>rfl) λv7=>(YM 1 vk (YL h_1 rfl) (λv7:(List LS_)=>[some ((zE (eT eS)) vd),some b_1,some ((oE (eL eS)) v7),none,none,none,none,none,none]) v7 rfl _ (λ_ _=>rfl) (λ(v7:List LS_) (q1:aU)=>(Fq vd vk h_1 v7 q1).r) λv7=>(fJ (λr=>r) (abW (iV (xY (JZ (eG (au 2 (lE (eL eS)) v7 rfl))) _ (λ_=>rfl) (λeV:LS_=>(qZ (Nr (au 0 (zE (eL eS)) eV rfl)))) λ_=>rfl))) (λ_=>rfl) λ_=>rfl)))
theorem Ph:∀ v bs,(aZ (eT eS) (aL aX aN)) v bs->bs.length=2/\(hold (some (lQ v.1 v.2.1))->pD (bs.map lend)=some ((oE (eT eS)) (gn v.1 v.2.1))):=by
 rintro⟨vd,vk,_⟩ _ ⟨_,rfl,⟨b_1,_,rfl,h_1,rfl⟩⟩;exact⟨rfl,λh=>cU (g:=pC) (n:=9) (bs:=[.z ((eT eS) vd),lend b_1]) (Pg vd vk (xW h_1)) h⟩
def fZ (v1:fY) (vs:aU):Dt:=(let Zr:=(gn v1.1 ((v1.2.1.filter λpQ:aU=>(!decide (pQ=vs))).map λpQ:aU=>pQ));(let yH:=(at' ((Zr.filter λeV:LS_=>(decide (vs.2.1∈eV))).map λeV:LS_=>eV) (0:Int));(if(decide (vs.2.2.1∈yH))=true then(Dt.tup [(Dt.str "stays")]) else(Dt.tup [(Dt.str "parts"),((eT eS) yH),((eT eS) (at' ((Zr.filter λeV:LS_=>(decide (vs.2.2.1∈eV))).map λeV:LS_=>eV) (0:Int)))]))))
def qH (v1:fY) (vs:aU):Prop:=((v1.2.1.length<=100000/\(lQ v1.1 ((v1.2.1.filter λpQ:aU=>(!decide (pQ=vs))).map λpQ:aU=>pQ)))/\(let Zr:=(gn v1.1 ((v1.2.1.filter λpQ:aU=>(!decide (pQ=vs))).map λpQ:aU=>pQ));((Zr.length<=100000/\In ((Zr.filter λeV:LS_=>(decide (vs.2.1∈eV))).map λeV:LS_=>eV).length (0:Int))/\(let yH:=(at' ((Zr.filter λeV:LS_=>(decide (vs.2.1∈eV))).map λeV:LS_=>eV) (0:Int));((decide (vs.2.2.1∈yH))=false->(Zr.length<=100000/\In ((Zr.filter λeV:LS_=>(decide (vs.2.2.1∈eV))).map λeV:LS_=>eV).length (0:Int)))))))
theorem V6 (v1:fY) (vs:aU):RP uU [some ((zE cM) v1),some ((zE aX) vs),none,none] (λr=>Out.rt ((zE eD) r)) (fZ v1 vs) (some (qH v1 vs)):=R.tp (bQ 2 (x_call Ph (cL (mJ (au 0 (zE cM) v1 rfl) (λq=>q.1) (eT eS) 0 λ_=>rfl) (zp (Nr (VD (nZ (YH (mJ (au 0 (zE cM) v1 rfl) (λq=>q.2.1) (eT aX) 1 λ_=>rfl)) _ (λ_=>rfl) (λpQ:aU=>(gM (abH (by decide) (au 1 (zE aX) pQ rfl) (au 0 (zE aX) vs rfl)))) (λpQ:aU=>(au 1 (zE aX) pQ rfl)) (λ_=>rfl) λ_=>rfl))) bO))) (λ_=>rfl) λZr=>(bQ 3 (eU (iV (nZ (JZ (eG (au 2 (lE (eT eS)) Zr rfl))) _ (λ_=>rfl) (λeV:LS_=>(gM (Tt (mJ (au 0 (zE aX) vs rfl) (λq=>q.2.1) eS 1 λ_=>rfl) (au 1 (zE (eT eS)) eV rfl)))) (λeV:LS_=>(au 1 (zE (eT eS)) eV rfl)) (λ_=>rfl) λ_=>rfl)) (x_i 0)) (λ_=>rfl) λyH=>(zR (gM (Tt (mJ (au 1 (zE aX) vs rfl) (λq=>q.2.2.1) eS 2 λ_=>rfl) (au 3 (zE (eT eS)) yH rfl))) (bY (fJ (λr=>r) (iw (aF (x_k (.str "stays")) (bN eD)) (zh rfl)) (λ_=>rfl) λ_=>rfl)) (dD (fJ (λr=>r) (iw (aF (x_k (.str "parts")) (aF (cg (au 3 (zE (eT eS)) yH rfl)) (aF (cg (eU (iV (nZ (JZ (eG (au 2 (lE (eT eS)) Zr rfl))) _ (λ_=>rfl) (λeV:LS_=>(gM (Tt (mJ (au 0 (zE aX) vs rfl) (λq=>q.2.2.1) eS 2 λ_=>rfl) (au 1 (zE (eT eS)) eV rfl)))) (λeV:LS_=>(au 1 (zE (eT eS)) eV rfl)) (λ_=>rfl) λ_=>rfl)) (x_i 0))) (bN eD)))) (zh rfl)) (λ_=>rfl) λ_=>rfl)))))
theorem V7:∀ v bs,(aZ cM (aZ aX aN)) v bs->bs.length=2/\(hold (some (qH v.1 v.2.1))->uV (bs.map lend)=some ((zE eD) (fZ v.1 v.2.1))):=by
 rintro⟨v1,vs,_⟩ _ ⟨_,rfl,⟨_,rfl,rfl⟩⟩;exact⟨rfl,λh=>cU (g:=uU) (n:=4) (bs:=[.z (cM v1),.z (aX vs)]) (V6 v1 vs) h⟩
def iT (sI:Str) (Zt:Int) (v9:Int):Str:=(let V8:=("abcdefghijklmnopqrstuvwxyz0123456789 ABCDEFGHIJKLMNOPQRSTUVWXYZ" : Str);(let V8:=(V8++("!#$&'()*+,-./:;<=>?\x40[]^_`{|}~\"\\" : Str));(let Wo:=(ch V8 ((v9 / (6:Int)) % (at' [(36:Int),(94:Int)] ((v9 / (3:Int)) % (2:Int)))));(let vj:=(Zt % ((sI.length:Int)+(1:Int)));(at' [(((Txt.slice sI none (some vj))++Wo)++(Txt.slice sI (some vj) none)),(((Txt.slice sI none (some vj))++Wo)++(Txt.slice sI (some (vj+(1:Int))) none)),((Txt.slice sI none (some vj))++(Txt.slice sI (some (vj+(1:Int))) none))] (v9 % (3:Int)))))))
def jQ (sI:Str) (Zt:Int) (v9:Int):Prop:=(let V8:=("abcdefghijklmnopqrstuvwxyz0123456789 ABCDEFGHIJKLMNOPQRSTUVWXYZ" : Str);(xX (V8.length+("!#$&'()*+,-./:;<=>?\x40[]^_`{|}~\"\\" : Str).length)/\(let V8:=(V8++("!#$&'()*+,-./:;<=>?\x40[]^_`{|}~\"\\" : Str));(((In [(36:Int),(94:Int)].length ((v9 / (3:Int)) % (2:Int))/\0 < (at' [(36:Int),(94:Int)] ((v9 / (3:Int)) % (2:Int))))/\In V8.length ((v9 / (6:Int)) % (at' [(36:Int),(94:Int)] ((v9 / (3:Int)) % (2:Int)))))/\(let Wo:=(ch V8 ((v9 / (6:Int)) % (at' [(36:Int),(94:Int)] ((v9 / (3:Int)) % (2:Int)))));(0 < ((sI.length:Int)+(1:Int))/\(let vj:=(Zt % ((sI.length:Int)+(1:Int)));(((xX ((Txt.slice sI none (some vj)).length+Wo.length)/\xX (((Txt.slice sI none (some vj))++Wo).length+(Txt.slice sI (some vj) none).length))/\((xX ((Txt.slice sI none (some vj)).length+Wo.length)/\xX (((Txt.slice sI none (some vj))++Wo).length+(Txt.slice sI (some (vj+(1:Int))) none).length))/\xX ((Txt.slice sI none (some vj)).length+(Txt.slice sI (some (vj+(1:Int))) none).length)))/\In [(((Txt.slice sI none (some vj))++Wo)++(Txt.slice sI (some vj) none)),(((Txt.slice sI none (some vj))++Wo)++(Txt.slice sI (some (vj+(1:Int))) none)),((Txt.slice sI none (some vj))++(Txt.slice sI (some (vj+(1:Int))) none))].length (v9 % (3:Int))))))))))
theorem KN (sI:Str) (Zt:Int) (v9:Int):RP mX [some ((zE eS) sI),some ((zE eI) Zt),some ((zE eI) v9),none,none,none] (λr=>Out.rt ((zE eS) r)) (iT sI Zt v9) (some (jQ sI Zt v9)):=R.tp (bQ 3 (x_s "abcdefghijklmnopqrstuvwxyz0123456789 ABCDEFGHIJKLMNOPQRSTUVWXYZ") (λ_=>rfl) λV8=>(bQ 3 (uo (au 3 (zE eS) V8 rfl) (x_s "!#$&'()*+,-./:;<=>?\x40[]^_`{|}~\"\\")) (λ_=>rfl) λV8=>(bQ 4 (Nu (au 3 (zE eS) V8 rfl) (DG (qY (au 2 (zE eI) v9 rfl) 6 (by decide)) (eU (iV (gY (aF (x_i 36) (aF (x_i 94) (bN eI))) (zh rfl))) (cT (qY (au 2 (zE eI) v9 rfl) 3 (by decide)) 2 (by decide))))) (λ_=>rfl) λWo=>(bQ 5 (DG (au 1 (zE eI) Zt rfl) (eF (YG (au 0 (zE eS) sI rfl)) (x_i 1))) (λ_=>rfl) λvj=>(fJ (λr=>r) (eU (iV (gY (aF (fH (uo (uo (zQ (au 0 (zE eS) sI rfl) Ah (Ai (au 5 (zE eI) vj rfl))) (au 4 (zE eS) Wo rfl)) (zQ (au 0 (zE eS) sI rfl) (Ai (au 5 (zE eI) vj rfl)) Ah))) (aF (fH (uo (uo (zQ (au 0 (zE eS) sI rfl) Ah (Ai (au 5 (zE eI) vj rfl))) (au 4 (zE eS) Wo rfl)) (zQ (au 0 (zE eS) sI rfl) (Ai (eF (au 5 (zE eI) vj rfl) (x_i 1))) Ah))) (aF (fH (uo (zQ (au 0 (zE eS) sI rfl) Ah (Ai (au 5 (zE eI) vj rfl))) (zQ (au 0 (zE eS) sI rfl) (Ai (eF (au 5 (zE eI) vj rfl) (x_i 1))) Ah))) (bN eS)))) (zh rfl))) (cT (au 2 (zE eI) v9 rfl) 3 (by decide))) (λ_=>rfl) λ_=>rfl)))))
theorem yE:∀ v bs,(aZ eS (aZ eI (aZ eI aN))) v bs->bs.length=3/\(hold (some (jQ v.1 v.2.1 v.2.2.1))->jJ (bs.map lend)=some ((zE eS) (iT v.1 v.2.1 v.2.2.1))):=by
 rintro⟨sI,Zt,v9,_⟩ _ ⟨_,rfl,⟨_,rfl,⟨_,rfl,rfl⟩⟩⟩;exact⟨rfl,λh=>cU (g:=mX) (n:=6) (bs:=[.z (eS sI),.z (eI Zt),.z (eI v9)]) (KN sI Zt v9) h⟩
def gR (vs:aU) (vm:LI_):(List aU):=(let q1:=vs;(let y2:=(iT q1.2.1 (at' vm (0:Int)) (at' vm (1:Int)));let y3:=(iT q1.2.2.1 (at' vm (2:Int)) (at' vm (3:Int)));let yH:=y2;let pQ:=y3;(let v7:=[((q1.1+(1:Int)),q1.2.1,q1.2.2.1,q1.2.2.2),((q1.1 - (1:Int)),q1.2.1,q1.2.2.1,q1.2.2.2),(q1.1,q1.2.1,q1.2.2.1,(q1.2.2.2+(1:Int))),(q1.1,q1.2.1,q1.2.2.1,(q1.2.2.2 - (1:Int)))];(v7++[(q1.1,yH,q1.2.2.1,q1.2.2.2),(q1.1,q1.2.1,pQ,q1.2.2.2),(q1.1,q1.2.1,q1.2.1,q1.2.2.2),(q1.1,q1.2.2.1,q1.2.1,q1.2.2.2)]))))
def qb (vs:aU) (vm:LI_):Prop:=(let q1:=vs;((((In vm.length (0:Int)/\In vm.length (1:Int))/\(jQ q1.2.1 (at' vm (0:Int)) (at' vm (1:Int))))/\((In vm.length (2:Int)/\In vm.length (3:Int))/\(jQ q1.2.2.1 (at' vm (2:Int)) (at' vm (3:Int)))))/\(let y2:=(iT q1.2.1 (at' vm (0:Int)) (at' vm (1:Int)));let y3:=(iT q1.2.2.1 (at' vm (2:Int)) (at' vm (3:Int)));let yH:=y2;let pQ:=y3;(let v7:=[((q1.1+(1:Int)),q1.2.1,q1.2.2.1,q1.2.2.2),((q1.1 - (1:Int)),q1.2.1,q1.2.2.1,q1.2.2.2),(q1.1,q1.2.1,q1.2.2.1,(q1.2.2.2+(1:Int))),(q1.1,q1.2.1,q1.2.2.1,(q1.2.2.2 - (1:Int)))];xX (v7.length+[(q1.1,yH,q1.2.2.1,q1.2.2.2),(q1.1,q1.2.1,pQ,q1.2.2.2),(q1.1,q1.2.1,q1.2.1,q1.2.2.2),(q1.1,q1.2.2.1,q1.2.1,q1.2.2.2)].length)))))
theorem GX (vs:aU) (vm:LI_) (h_1:Lp b_1 (vm.map eI)):RP kY [some ((zE aX) vs),some b_1,none,none,none,none,none,none,none] (λr=>Out.rt ((oE aX) r)) (gR vs vm) (some (qb vs vm)):=R.tp (YK (au 0 (zE aX) vs rfl) _ (λ_=>rfl) λq1=>(Tw 6 7 (fH (x_call yE (cL (au 3 (zE eS) q1.2.1 rfl) (cL (eU (ju 1 eI vm h_1 rfl) (x_i 0)) (cL (eU (ju 1 eI vm h_1 rfl) (x_i 1)) bO))))) (fH (x_call yE (cL (au 4 (zE eS) q1.2.2.1 rfl) (cL (eU (ju 1 eI vm h_1 rfl) (x_i 2)) (cL (eU (ju 1 eI vm h_1 rfl) (x_i 3)) bO))))) λyH pQ=>(bQ 8 (gY (aF (lU (fH (eF (au 2 (zE eI) q1.1 rfl) (x_i 1))) (au 3 (zE eS) q1.2.1 rfl) (au 4 (zE eS) q1.2.2.1 rfl) (au 5 (zE eI) q1.2.2.2 rfl)) (aF (lU (Dz (au 2 (zE eI) q1.1 rfl) (x_i 1)) (au 3 (zE eS) q1.2.1 rfl) (au 4 (zE eS) q1.2.2.1 rfl) (au 5 (zE eI) q1.2.2.2 rfl)) (aF (lU (au 2 (zE eI) q1.1 rfl) (au 3 (zE eS) q1.2.1 rfl) (au 4 (zE eS) q1.2.2.1 rfl) (fH (eF (au 5 (zE eI) q1.2.2.2 rfl) (x_i 1)))) (aF (lU (au 2 (zE eI) q1.1 rfl) (au 3 (zE eS) q1.2.1 rfl) (au 4 (zE eS) q1.2.2.1 rfl) (Dz (au 5 (zE eI) q1.2.2.2 rfl) (x_i 1))) (bN aX))))) (zh rfl)) (λ_=>rfl) λv7=>(fJ (λr=>r) (wz (eG (au 8 (lE aX) v7 rfl)) (iV (gY (aF (lU (au 2 (zE eI) q1.1 rfl) (au 6 (zE eS) yH rfl) (au 4 (zE eS) q1.2.2.1 rfl) (au 5 (zE eI) q1.2.2.2 rfl)) (aF (lU (au 2 (zE eI) q1.1 rfl) (au 3 (zE eS) q1.2.1 rfl) (au 7 (zE eS) pQ rfl) (au 5 (zE eI) q1.2.2.2 rfl)) (aF (lU (au 2 (zE eI) q1.1 rfl) (au 3 (zE eS) q1.2.1 rfl) (au 3 (zE eS) q1.2.1 rfl) (au 5 (zE eI) q1.2.2.2 rfl)) (aF (lU (au 2 (zE eI) q1.1 rfl) (au 4 (zE eS) q1.2.2.1 rfl) (au 3 (zE eS) q1.2.1 rfl) (au 5 (zE eI) q1.2.2.2 rfl)) (bN aX))))) (zh rfl)))) (λ_=>rfl) λ_=>rfl))))
theorem GZ:∀ v bs,(aZ aX (aL eI aN)) v bs->bs.length=2/\(hold (some (qb v.1 v.2.1))->kZ (bs.map lend)=some ((oE aX) (gR v.1 v.2.1))):=by
 rintro⟨vs,vm,_⟩ _ ⟨_,rfl,⟨b_1,_,rfl,h_1,rfl⟩⟩;exact⟨rfl,λh=>cU (g:=kY) (n:=9) (bs:=[.z (aX vs),lend b_1]) (GX vs vm (xW h_1)) h⟩
def jg (v1:fY) (vs:Dt):Bool:=true
def u6 (v1:fY) (vs:Dt):Bool:=((!(dh vs))||(!sU (Zi vs) v1.2.1))
def Iv (v1:fY) (vs:Dt):Prop:=((lO vs)/\((!(dh vs))=false->vs=aX (Zi vs)))
def bB (v1:fY) (vs:Dt):Prop:=Iv v1 vs/\u6 v1 vs=true
theorem aju (v1:fY) (vs:Dt):RP Zj [some ((zE cM) v1),some ((zE eD) vs)] (λb=>b) (u6 v1 vs) (some (Iv v1 vs)):=R.tp (Yz (Nt (Yy (x_call z9 (cL (au 1 (zE eD) vs rfl) bO)))) (gM (J2 (by decide) (oU (au 1 (zE eD) vs rfl) Zi aX) (mJ (au 0 (zE cM) v1 rfl) (λq=>q.2.1) (eT aX) 1 λ_=>rfl))))
theorem vP:∀ v bs,(aZ cM (aZ eD aN)) v bs->bs.length=2/\(hold (some (bB v.1 v.2.1))->fB (bs.map lend)=some ((zE eB) (jg v.1 v.2.1))):=by
 rintro⟨v1,vs,_⟩ _ ⟨_,rfl,⟨_,rfl,rfl⟩⟩;refine⟨rfl,λh=>?_⟩;obtain⟨h1,h2⟩:bB v1 vs:=h;have e:Zj [some (.z (cM v1)),some (.z vs)]=some true:=(aju v1 vs h1).trans (congrArg some h2);have ex:yg 7 Ip [.z (cM v1),.z vs]=some (.str "this is no reason of the ground"):=by
  show Io [some (.z (cM v1)),some (.z vs)]=_;unfold Io ifX;rw[e];rfl
 show(yg 7 Ip [.z (cM v1),.z vs]).bind (λ_=>some (Bx.z (.bl true)))=some (Bx.z (.bl true));rw[ex];rfl
def dO  (v7:LD_) (q1:aU):LD_:=(let v7:=(v7++[((eL eD) [(eI q1.1),(eS q1.2.1),(eS q1.2.2.1),(eI q1.2.2.2)]),(Dt.tup [(eI q1.1),(eS q1.2.2.1),(eS q1.2.1),(eI q1.2.2.2)]),(Dt.tup [(eI q1.1),(eS q1.2.1),(eS q1.2.2.1),(eI (q1.2.2.2+(7:Int)))])]);(let v7:=(v7++[(Dt.tup [(eI (q1.1+(1001:Int))),(eS q1.2.1),(eS q1.2.2.1),(eI q1.2.2.2)]),(Dt.tup [(eI q1.1),(eS q1.2.1),(eS q1.2.2.1)]),(Dt.tup [(eI q1.1),(eS q1.2.1),(eS q1.2.2.1),(eI q1.2.2.2),(Dt.int 0)])]);(let v7:=(v7++[(Dt.tup [(eS q1.2.1),(eS q1.2.2.1),(eI q1.2.2.2)]),(Dt.tup [(eS (VL (eI q1.1))),(eS q1.2.1),(eS q1.2.2.1),(eI q1.2.2.2)]),(Dt.tup [(eI q1.1),((eL eS) [q1.2.1]),(eS q1.2.2.1),(eI q1.2.2.2)])]);(let v7:LD_:=(if(decide (q1.1=(1:Int)))=true then(let v7:=v7++[(Dt.tup [(Dt.bl true),(eS q1.2.1),(eS q1.2.2.1),(eI q1.2.2.2)])];v7) else v7);v7))))
def nF  (v7:LD_) (q1:aU):Prop:=(xX (v7.length+[((eL eD) [(eI q1.1),(eS q1.2.1),(eS q1.2.2.1),(eI q1.2.2.2)]),(Dt.tup [(eI q1.1),(eS q1.2.2.1),(eS q1.2.1),(eI q1.2.2.2)]),(Dt.tup [(eI q1.1),(eS q1.2.1),(eS q1.2.2.1),(eI (q1.2.2.2+(7:Int)))])].length)/\(let v7:=(v7++[((eL eD) [(eI q1.1),(eS q1.2.1),(eS q1.2.2.1),(eI q1.2.2.2)]),(Dt.tup [(eI q1.1),(eS q1.2.2.1),(eS q1.2.1),(eI q1.2.2.2)]),(Dt.tup [(eI q1.1),(eS q1.2.1),(eS q1.2.2.1),(eI (q1.2.2.2+(7:Int)))])]);(xX (v7.length+[(Dt.tup [(eI (q1.1+(1001:Int))),(eS q1.2.1),(eS q1.2.2.1),(eI q1.2.2.2)]),(Dt.tup [(eI q1.1),(eS q1.2.1),(eS q1.2.2.1)]),(Dt.tup [(eI q1.1),(eS q1.2.1),(eS q1.2.2.1),(eI q1.2.2.2),(Dt.int 0)])].length)/\(let v7:=(v7++[(Dt.tup [(eI (q1.1+(1001:Int))),(eS q1.2.1),(eS q1.2.2.1),(eI q1.2.2.2)]),(Dt.tup [(eI q1.1),(eS q1.2.1),(eS q1.2.2.1)]),(Dt.tup [(eI q1.1),(eS q1.2.1),(eS q1.2.2.1),(eI q1.2.2.2),(Dt.int 0)])]);((afp (eI q1.1)/\xX (v7.length+[(Dt.tup [(eS q1.2.1),(eS q1.2.2.1),(eI q1.2.2.2)]),(Dt.tup [(eS (VL (eI q1.1))),(eS q1.2.1),(eS q1.2.2.1),(eI q1.2.2.2)]),(Dt.tup [(eI q1.1),((eL eS) [q1.2.1]),(eS q1.2.2.1),(eI q1.2.2.2)])].length))/\(let v7:=(v7++[(Dt.tup [(eS q1.2.1),(eS q1.2.2.1),(eI q1.2.2.2)]),(Dt.tup [(eS (VL (eI q1.1))),(eS q1.2.1),(eS q1.2.2.1),(eI q1.2.2.2)]),(Dt.tup [(eI q1.1),((eL eS) [q1.2.1]),(eS q1.2.2.1),(eI q1.2.2.2)])]);((decide (q1.1=(1:Int)))=true->xX v7.length)))))))
theorem KQ (v1:fY) (v7:LD_) (q1:aU):RP yw [some ((zE cM) v1),some ((oE eD) v7),some ((zE eI) q1.1),some ((zE eS) q1.2.1),some ((zE eS) q1.2.2.1),some ((zE eI) q1.2.2.2)] (λs=>Out.nx ((λv7:LD_=>[some ((zE cM) v1),some ((oE eD) v7),none,none,none,none]) s)) (dO  v7 q1) (some (nF  v7 q1)):=R.tp (bY (bQ 1 (wz (eG (au 1 (lE eD) v7 rfl)) (iV (gY (aF (cg (VD (gY (aF (cg (au 2 (zE eI) q1.1 rfl)) (aF (cg (au 3 (zE eS) q1.2.1 rfl)) (aF (cg (au 4 (zE eS) q1.2.2.1 rfl)) (aF (cg (au 5 (zE eI) q1.2.2.2 rfl)) (bN eD))))) (zh rfl)))) (aF (iw (aF (cg (au 2 (zE eI) q1.1 rfl)) (aF (cg (au 4 (zE eS) q1.2.2.1 rfl)) (aF (cg (au 3 (zE eS) q1.2.1 rfl)) (aF (cg (au 5 (zE eI) q1.2.2.2 rfl)) (bN eD))))) (zh rfl)) (aF (iw (aF (cg (au 2 (zE eI) q1.1 rfl)) (aF (cg (au 3 (zE eS) q1.2.1 rfl)) (aF (cg (au 4 (zE eS) q1.2.2.1 rfl)) (aF (cg (fH (eF (au 5 (zE eI) q1.2.2.2 rfl) (x_i 7)))) (bN eD))))) (zh rfl)) (bN eD)))) (zh rfl)))) (λ_=>rfl) λv7=>(bY (bQ 1 (wz (eG (au 1 (lE eD) v7 rfl)) (iV (gY (aF (iw (aF (cg (fH (eF (au 2 (zE eI) q1.1 rfl) (x_i 1001)))) (aF (cg (au 3 (zE eS) q1.2.1 rfl)) (aF (cg (au 4 (zE eS) q1.2.2.1 rfl)) (aF (cg (au 5 (zE eI) q1.2.2.2 rfl)) (bN eD))))) (zh rfl)) (aF (iw (aF (cg (au 2 (zE eI) q1.1 rfl)) (aF (cg (au 3 (zE eS) q1.2.1 rfl)) (aF (cg (au 4 (zE eS) q1.2.2.1 rfl)) (bN eD)))) (zh rfl)) (aF (iw (aF (cg (au 2 (zE eI) q1.1 rfl)) (aF (cg (au 3 (zE eS) q1.2.1 rfl)) (aF (cg (au 4 (zE eS) q1.2.2.1 rfl)) (aF (cg (au 5 (zE eI) q1.2.2.2 rfl)) (aF (x_k (.int 0)) (bN eD)))))) (zh rfl)) (bN eD)))) (zh rfl)))) (λ_=>rfl) λv7=>(bY (bQ 1 (wz (eG (au 1 (lE eD) v7 rfl)) (iV (gY (aF (iw (aF (cg (au 3 (zE eS) q1.2.1 rfl)) (aF (cg (au 4 (zE eS) q1.2.2.1 rfl)) (aF (cg (au 5 (zE eI) q1.2.2.2 rfl)) (bN eD)))) (zh rfl)) (aF (iw (aF (cg (fH (afq (cg (au 2 (zE eI) q1.1 rfl))))) (aF (cg (au 3 (zE eS) q1.2.1 rfl)) (aF (cg (au 4 (zE eS) q1.2.2.1 rfl)) (aF (cg (au 5 (zE eI) q1.2.2.2 rfl)) (bN eD))))) (zh rfl)) (aF (iw (aF (cg (au 2 (zE eI) q1.1 rfl)) (aF (cg (VD (gY (aF (au 3 (zE eS) q1.2.1 rfl) (bN eS)) (zh rfl)))) (aF (cg (au 4 (zE eS) q1.2.2.1 rfl)) (aF (cg (au 5 (zE eI) q1.2.2.2 rfl)) (bN eD))))) (zh rfl)) (bN eD)))) (zh rfl)))) (λ_=>rfl) λv7=>(bY (DX (λv7:LD_=>[some ((zE cM) v1),some ((oE eD) v7),some ((zE eI) q1.1),some ((zE eS) q1.2.1),some ((zE eS) q1.2.2.1),some ((zE eI) q1.2.2.2)]) (gM (x_eq (by decide) (au 2 (zE eI) q1.1 rfl) (x_i 1))) (bY (HY 1 v7 rfl (iw (aF (x_k (.bl true)) (aF (cg (au 3 (zE eS) q1.2.1 rfl)) (aF (cg (au 4 (zE eS) q1.2.2.1 rfl)) (aF (cg (au 5 (zE eI) q1.2.2.2 rfl)) (bN eD))))) (zh rfl)) λv7=>(dD (bZ v7 rfl)))) (dD (bZ v7 rfl)) λv7=>(dD (bZ v7 rfl))))))))))
def jw (v1:fY):LD_:=(let v7:=[Dt.non,(Dt.bl true),(Dt.int 0),(Dt.str ""),(Dt.tup []),Dt.emp,((eL eI) []),(cM v1),(Dt.tup (Gm ((eT aX) v1.2.1)++Gm (Dt.tup [(Dt.int 1)]))),(Dt.tup [(Dt.int 1),(Dt.str "a"),(Dt.str "b")]),(Dt.tup [(Dt.int 1),(Dt.str "a"),(Dt.str "b"),(Dt.int 0),(Dt.int 0)])];(let v7:LD_:=((cut v1.2.1 none (some (2:Int))).foldl (λ(v7:LD_) (q1:aU)=>(dO  v7 q1)) v7);(v7++(v1.2.2.map Ak))))
def u9 (v1:fY):Prop:=((is_tuple ((eT aX) v1.2.1)=true/\is_tuple (Dt.tup [(Dt.int 1)])=true/\xX ((Gm ((eT aX) v1.2.1)).length+(Gm (Dt.tup [(Dt.int 1)])).length))/\(let v7:=[Dt.non,(Dt.bl true),(Dt.int 0),(Dt.str ""),(Dt.tup []),Dt.emp,((eL eI) []),(cM v1),(Dt.tup (Gm ((eT aX) v1.2.1)++Gm (Dt.tup [(Dt.int 1)]))),(Dt.tup [(Dt.int 1),(Dt.str "a"),(Dt.str "b")]),(Dt.tup [(Dt.int 1),(Dt.str "a"),(Dt.str "b"),(Dt.int 0),(Dt.int 0)])];(pU (λ(v7:LD_) (q1:aU)=>(dO  v7 q1)) (λ(v7:LD_) (q1:aU)=>some (nF  v7 q1)) (cut v1.2.1 none (some (2:Int))) v7/\(let v7:LD_:=((cut v1.2.1 none (some (2:Int))).foldl (λ(v7:LD_) (q1:aU)=>(dO  v7 q1)) v7);xX (v7.length+(v1.2.2.map Ak).length)))))
theorem V9 (v1:fY):RP uW [some ((zE cM) v1),none,none,none,none,none] (λr=>Out.rt ((oE eD) r)) (jw v1) (some (u9 v1)):=R.tp (bQ 1 (gY (aF (x_k .non) (aF (x_k (.bl true)) (aF (x_k (.int 0)) (aF (x_k (.str "")) (aF (iw (bN eD) (zh rfl)) (aF (Dy .emp eD .emp rfl) (aF (cg (VD (gY (bN eI) (zh rfl)))) (aF (cg (au 0 (zE cM) v1 rfl)) (aF (fH (aeU (cg (mJ (au 0 (zE cM) v1 rfl) (λq=>q.2.1) (eT aX) 1 λ_=>rfl)) (iw (aF (x_k (.int 1)) (bN eD)) (zh rfl)))) (aF (iw (aF (x_k (.int 1)) (aF (x_k (.str "a")) (aF (x_k (.str "b")) (bN eD)))) (zh rfl)) (aF (iw (aF (x_k (.int 1)) (aF (x_k (.str "a")) (aF (x_k (.str "b")) (aF (x_k (.int 0)) (aF (x_k (.int 0)) (bN eD)))))) (zh rfl)) (bN eD)))))))))))) (zh rfl)) (λ_=>rfl) λv7=>(DY (λv7:LD_=>[some ((zE cM) v1),some ((oE eD) v7),none,none,none,none]) v7 rfl (ae0 (ag7 (mJ (au 0 (zE cM) v1 rfl) (λq=>q.2.1) (eT aX) 1 λ_=>rfl) Ah (Ai (x_i 2)))) _ (λ_ _=>rfl) (λ(v7:LD_) (q1:aU)=>(KQ v1 v7 q1).r) λv7=>(fJ (λr=>r) (wz (eG (au 1 (lE eD) v7 rfl)) (iV (aeX (abK (mJ (au 0 (zE cM) v1 rfl) (λq=>q.2.2) (eT Ak) 2 λ_=>rfl))))) (λ_=>rfl) λ_=>rfl)))
theorem Wa:∀ v bs,(aZ cM aN) v bs->bs.length=1/\(hold (some (u9 v.1))->uX (bs.map lend)=some ((oE eD) (jw v.1))):=by
 rintro⟨v1,_⟩ _ ⟨_,rfl,rfl⟩;exact⟨rfl,λh=>cU (g:=uW) (n:=6) (bs:=[.z (cM v1)]) (V9 v1) h⟩
def qI (v1:fY) (s1:Unit) (vs:aU):wA (Unit) Bool:=(let v7:=(kj v1 vs);(if((!(is_tuple v7))||(!eqX v7 (fZ v1 vs)))=true then(wA.rt false) else(wA.nx ())))
def Ft (v1:fY) (s1:Unit) (vs:aU):Prop:=((oG v1 vs)/\(let v7:=(kj v1 vs);((!(is_tuple v7))=false->((qH v1 vs)/\EqX v7 (fZ v1 vs)))))
theorem Zu (v0:LI_) (lR:Lp gO (v0.map eI)) (v1:fY) (s1:Unit) (vs:aU):RP Oe [some gO,some ((zE cM) v1),some ((zE aX) vs),none,none,none] (cC (λs1:Unit=>[some gO,some ((zE cM) v1),none,none,none,none]) (zE eB)) (qI v1 s1 vs) (some (Ft v1 s1 vs)):=R.tp (bY (bQ 3 (x_call RB (cL (au 1 (zE cM) v1 rfl) (cL (au 2 (zE aX) vs rfl) bO))) (λ_=>rfl) λv7=>(bY (zR (Yz (Nt (Yy (Nx is_tuple (au 3 (zE eD) v7 rfl)))) (gM (ag1 (au 3 (zE eD) v7 rfl) (x_call V7 (cL (au 1 (zE cM) v1 rfl) (cL (au 2 (zE aX) vs rfl) bO)))))) (bY (fJ .rt (Dy (.bl false) eB false rfl) (λ_=>rfl) λ_=>rfl)) (dD (dD (bZ (.nx ()) rfl)))))))
def qJ (v1:fY) (s3:Unit) (vG:aU):wA (Unit) Bool:=(if((!sU vG v1.2.1)&&(!(jg v1 (aX vG))))=true then(wA.rt false) else(wA.nx ()))
def Fv (v1:fY) (s3:Unit) (vG:aU):Prop:=((!sU vG v1.2.1)=true->(bB v1 (aX vG)))
theorem Zv (v0:LI_) (lR:Lp gO (v0.map eI)) (v1:fY) (vs:aU) (vm:LI_) (s3:Unit) (vG:aU):RP Og [some gO,some ((zE cM) v1),some ((zE aX) vs),none,some ((oE eI) vm),some ((zE aX) vG)] (cC (λs3:Unit=>[some gO,some ((zE cM) v1),some ((zE aX) vs),none,some ((oE eI) vm),none]) (zE eB)) (qJ v1 s3 vG) (some (Fv v1 s3 vG)):=R.tp (bY (zR (ag3 (gM (J2 (by decide) (au 5 (zE aX) vG rfl) (mJ (au 1 (zE cM) v1 rfl) (λq=>q.2.1) (eT aX) 1 λ_=>rfl))) (Nt (Yy (x_call vP (cL (au 1 (zE cM) v1 rfl) (cL (cg (au 5 (zE aX) vG rfl)) bO)))))) (bY (fJ .rt (Dy (.bl false) eB false rfl) (λ_=>rfl) λ_=>rfl)) (dD (dD (bZ (.nx ()) rfl)))))
def oH (v1:fY) (vm:LI_) (s2:Unit) (vs:aU):wA (Unit) Bool:=(behind (q8 (λ(s3:Unit) (vG:aU)=>((qJ v1 s3 vG):wA (Unit) Bool)) (gR vs vm) ()) (λr=>wA.rt r) λs3:Unit=>(wA.nx ()))
def uI (v1:fY) (vm:LI_) (s2:Unit) (vs:aU):Prop:=(((qb vs vm)/\zT (λ(s3:Unit) (vG:aU)=>((qJ v1 s3 vG):wA (Unit) Bool)) (λ(s3:Unit) (vG:aU)=>some (Fv v1 s3 vG)) (gR vs vm) ())/\(Bq (q8 (λ(s3:Unit) (vG:aU)=>((qJ v1 s3 vG):wA (Unit) Bool)) (gR vs vm) ()) λs3:Unit=>True))
theorem Zw (v0:LI_) (lR:Lp gO (v0.map eI)) (v1:fY) (vm:LI_) (s2:Unit) (vs:aU):RP Oh [some gO,some ((zE cM) v1),some ((zE aX) vs),none,some ((oE eI) vm),none] (cC (λs2:Unit=>[some gO,some ((zE cM) v1),none,none,some ((oE eI) vm),none]) (zE eB)) (oH v1 vm s2 vs) (some (uI v1 vm s2 vs)):=R.tp (bY (Q7 (λs3:Unit=>[some gO,some ((zE cM) v1),some ((zE aX) vs),none,some ((oE eI) vm),none]) () rfl (aeZ (x_call GZ (cL (au 2 (zE aX) vs rfl) (zp (eG (au 4 (lE eI) vm rfl)) bO)))) _ (λ_ _=>rfl) (λ(s3:Unit) (vG:aU)=>((Zv v0 lR v1 vs vm s3 vG).r:R _ _ (cC (λs3:Unit=>[some gO,some ((zE cM) v1),some ((zE aX) vs),none,some ((oE eI) vm),none]) (zE eB)))) .rt (λ_=>rfl) λs3=>(dD (bZ (.nx ()) rfl))))
def Pj (v0:LI_):Bool:=(let v1:=(iD v0);(behind (q8 (λ(s1:Unit) (vs:aU)=>((qI v1 s1 vs):wA (Unit) Bool)) v1.2.1 ()) (λr=>r) λs1:Unit=>(let vm:=(cut (aQ (aW v0 (0:Int)) (16:Int)) (some (12:Int)) none);(behind (q8 (λ(s2:Unit) (vs:aU)=>((oH v1 vm s2 vs):wA (Unit) Bool)) v1.2.1 ()) (λr=>r) λs2:Unit=>(((jw v1).map λvG:Dt=>(jg v1 vG)).all id)))))
def Pk (v0:LI_):Prop:=((lN v0)/\(let v1:=(iD v0);(zT (λ(s1:Unit) (vs:aU)=>((qI v1 s1 vs):wA (Unit) Bool)) (λ(s1:Unit) (vs:aU)=>some (Ft v1 s1 vs)) v1.2.1 ()/\(Bq (q8 (λ(s1:Unit) (vs:aU)=>((qI v1 s1 vs):wA (Unit) Bool)) v1.2.1 ()) λs1:Unit=>(((gC v0 (0:Int))/\(dU (aW v0 (0:Int)) (16:Int)))/\(let vm:=(cut (aQ (aW v0 (0:Int)) (16:Int)) (some (12:Int)) none);(zT (λ(s2:Unit) (vs:aU)=>((oH v1 vm s2 vs):wA (Unit) Bool)) (λ(s2:Unit) (vs:aU)=>some (uI v1 vm s2 vs)) v1.2.1 ()/\(Bq (q8 (λ(s2:Unit) (vs:aU)=>((oH v1 vm s2 vs):wA (Unit) Bool)) v1.2.1 ()) λs2:Unit=>(((u9 v1)/\(jw v1).length<=100000)/\(∀ vG∈(jw v1),(bB v1 vG)))))))))))
theorem ahx (v0:LI_) (lR:Lp gO (v0.map eI)):RP TY [some gO,none,none,none,none,none] (λr=>Out.rt ((zE eB) r)) (Pj v0) (some (Pk v0)):=R.tp (bQ 1 (x_call O8 (zp (ju 0 eI v0 lR rfl) bO)) (λ_=>rfl) λv1=>(Q7 (λs1:Unit=>[some gO,some ((zE cM) v1),none,none,none,none]) () rfl (ae0 (mJ (au 1 (zE cM) v1 rfl) (λq=>q.2.1) (eT aX) 1 λ_=>rfl)) _ (λ_ _=>rfl) (λ(s1:Unit) (vs:aU)=>((Zu v0 lR v1 s1 vs).r:R _ _ (cC (λs1:Unit=>[some gO,some ((zE cM) v1),none,none,none,none]) (zE eB)))) (λr=>r) (λ_=>rfl) λs1=>(bQ 4 (ag6 (iV (x_call je (cL (fH (x_call oh (zp (ju 0 eI v0 lR rfl) (cL (x_i 0) bO)))) (cL (x_i 16) bO)))) (Ai (x_i 12)) Ah) (λ_=>rfl) λvm=>(Q7 (λs2:Unit=>[some gO,some ((zE cM) v1),none,none,some ((oE eI) vm),none]) () rfl (ae0 (mJ (au 1 (zE cM) v1 rfl) (λq=>q.2.1) (eT aX) 1 λ_=>rfl)) _ (λ_ _=>rfl) (λ(s2:Unit) (vs:aU)=>((Zw v0 lR v1 vm s2 vs).r:R _ _ (cC (λs2:Unit=>[some gO,some ((zE cM) v1),none,none,some ((oE eI) vm),none]) (zE eB)))) (λr=>r) (λ_=>rfl) λs2=>(fJ (λr=>r) (ac3 (iV (DW (JZ (iV (x_call Wa (cL (au 1 (zE cM) v1 rfl) bO)))) _ (λ_=>rfl) (λvG:Dt=>(fH (x_call vP (cL (au 0 (zE cM) v1 rfl) (cL (au 1 (zE eD) vG rfl) bO)))))))) (λ_=>rfl) λ_=>rfl)))))
theorem adi:∀ v bs,(aL eI aN) v bs->bs.length=1/\(hold (some (Pk v.1))->F_law (bs.map lend)=some ((zE eB) (Pj v.1))):=by
 rintro⟨v0,_⟩ _ ⟨gO,_,rfl,lR,rfl⟩;exact⟨rfl,λh=>cU (g:=TY) (n:=6) (bs:=[lend gO]) (ahx v0 (xW lR)) h⟩
theorem adk (h:∀ ns:List Int,ns.length<=63->Pk ns/\Pj ns=true):(∀ ns:List Int,ns.length<=63->F_law [.z (.lst (ns.map .int))]=some (.z (.bl true)))/\∀ ns:List Int,ns.length<=63->F_law [.l (ns.map .int)]=some (.z (.bl true)):=
 ⟨λns hn=>((adi (ns,()) [.z (.lst (ns.map .int))] ⟨_,_,rfl,rfl,rfl⟩).2 (h ns hn).1).trans (by rw[(h ns hn).2]),λns hn=>((adi (ns,()) [.l (ns.map .int)] ⟨_,_,rfl,rfl,rfl⟩).2 (h ns hn).1).trans (by rw[(h ns hn).2])⟩
end
end G15
end
section
set_option synthInstance.maxSize 100000
namespace G15
open L2 P1
theorem Fw (script:List Int) (k:Int) (h0:0<=k) (h1:k<=1000):gC script k:=by
 unfold gC;exact⟨λh=>in_of h0 (by simpa using h),λ_=>Y5 h0 (by omega)⟩
theorem Zx (k:Nat) (s:Int×List Int×Int) (hk:k < 1000) (h:(0<=s.1/\s.1 < 1999999973)/\s.2.1.length=k/\(∀ x∈s.2.1,0<=x)/\0<=s.2.2):iM s k/\(0<=(cF s k).1/\(cF s k).1 < 1999999973)/\(cF s k).2.1.length=k+1/\(∀ x∈(cF s k).2.1,0<=x)/\0<=(cF s k).2.2:=by
 obtain⟨h1,h2,h3,h4⟩:=h;have hin:In 2 (if(decide ((0:Int) < s.2.2))=true then(1:Int) else 0):=by split<;>exact in_of (by omega) (by omega)
 refine⟨⟨Y5 h1.1 (by omega),hin,?_⟩,fX _ (by decide),?_,?_,Int.ediv_nonneg h4 (by decide)⟩
 ·show s.2.1.length<=1000000;omega
 ·show(s.2.1++[_]).length=k+1;rw[Zs,h2];rfl
 ·intro x hx;rcases List.mem_append.mp hx with hx|hx
  ·exact h3 x hx
  ·cases List.mem_singleton.mp hx;have:=jY (xs:=[((((s.1 * ((s.1 % (65521:Int))+(40487:Int)))+((7:Int) * k))+(5:Int)) % (1999999973:Int)),(s.2.2 % (1000000:Int))]) hin;simp only[ZZ,ZO,or_false] at this;rcases this with e|e<;>rw[e]
   ·exact(fX _ (by decide)).1
   ·exact(fX _ (by decide)).1
theorem Fy (c m:Int) (h0:0<=m) (h1:m<=1000):dU c m/\(aQ c m).length=m.toNat/\∀ x∈aQ c m,0<=x:=by
 have key:∀ st dg:Int,(0<=st/\st < 1999999973)->0<=dg->kh c m [] st dg/\(iQ c m [] st dg).length=m.toNat/\∀ x∈iQ c m [] st dg,0<=x:=λst dg hs hd=>by
  have:=ur (P:=λs k=>some (iM s k)) (λk s=>(0<=s.1/\s.1 < 1999999973)/\s.2.1.length=k/\(∀ x∈s.2.1,0<=x)/\0<=s.2.2) (step:=λs k=>cF s k) m.toNat (st,[],dg) ⟨hs,rfl,λx h=>(by cases h),hd⟩ λk s hk h=>Zx k s (by omega) h;exact⟨⟨Ie h0 (by omega),this.1⟩,this.2.2.1,this.2.2.2.1⟩
 refine key _ _ (fX _ (by decide)) ?_;dsimp only;split<;>(try split)<;>omega
theorem yF {m:List (Str×α)}:has m x=true↔x∈m.map (·.1):=by
 unfold has;rw[ki,K0];constructor
 ·rintro⟨q,hq,h⟩;exact⟨q,hq,ka h⟩
 ·rintro⟨q,hq,h⟩;exact⟨q,hq,QA h⟩
theorem Pn [Inhabited α] {pre rest:List (Str×α)} {n:Str} {h:α} (hn:n∉pre.map (·.1)):look (pre++(n,h)::rest) n=h:=by
 unfold look;have:pre.find? (λq=>decide (q.1=n))=none:=List.find?_eq_none.mpr λq hq e=>hn (List.mem_map.mpr ⟨q,hq,ka e⟩);rw[List.find?_append,this];simp
theorem acu {pre rest:List (Str×α)} {n:Str} {h v:α} (hn:n∉pre.map (·.1)) (hr:n∉rest.map (·.1)):put (pre++(n,h)::rest) n v=pre++(n,v)::rest:=by
 unfold put;rw[zi (yF.mpr (by simp))];have fix:∀ l:List (Str×α),n∉l.map (·.1)->l.map (λq=>if q.1=n then(q.1,v) else q)=l:=λl hl=>by
  conv=>rhs;rw[<-List.map_id l]
  refine jS λq hq=>?_;rw[zC λe=>hl (List.mem_map.mpr ⟨q,hq,e⟩)];rfl
 rw[ja,zr,fix pre hn,fix rest hr];simp
theorem Wb [Inhabited α] {m:List (Str×α)} (h:x∈m.map (·.1)):(x,look m x)∈m:=by
 unfold look;cases hf:m.find? λq=>decide (q.1=x) with
 |none=>
  obtain⟨q,hq,rfl⟩:=List.mem_map.mp h;have:=List.find?_eq_none.mp hf q hq;simp at this
 |some q=>
  have h1:=List.mem_of_find?_eq_some hf;have h2:q.1=x:=by simpa using List.find?_some hf
  show(x,q.2)∈m;rw[<-h2];exact h1
theorem KR [Inhabited α] {m:List (Str×α)} (nd:(m.map (·.1)).Nodup) {q:Str×α} (h:q∈m):look m q.1=q.2:=by
 obtain⟨pre,rest,rfl⟩:=List.append_of_mem h;have:q.1∉pre.map (·.1):=λe=>by
  rw[ja,zr,Kj] at nd;exact nd.2.2 _ e _ (zo ..) rfl
 exact Pn this
def mn (one other:Str):Str:=if qK other one=true then other else one
def jn (one other h:Str):Str:=if h=one\/h=other then mn one other else h
theorem Pq (a b:Str):mn a b=a\/mn a b=b:=by unfold mn;split;exact .inr rfl;exact .inl rfl
def jm (m:List (Str×Str)) (one other:Str):List (Str×Str):=m.map λq=>(q.1,jn one other q.2)
theorem T7 (m:List (Str×Str)) (one other:Str):(jm m one other).map (·.1)=m.map (·.1):=by unfold jm;rw[Qr];rfl
theorem acv {one other:Str} (nd:(m.map (·.1)).Nodup) (h:x∈m.map (·.1)):look (jm m one other) x=jn one other (look m x):=by
 have h1:=Wb h;have:(x,jn one other (look m x))∈jm m one other:=List.mem_map.mpr ⟨_,h1,rfl⟩;exact KR (by rw[T7];exact nd) this
theorem join_loop (one other:Str):∀ (post pre:List (Str×Str)),((pre++post).map (·.1)).Nodup->(pre++post).length < 1000 →
  pU (λ(heads:(List (Str×Str))) (name:Str)=>(dj one other (mn one other) heads name)) (λ(heads:(List (Str×Str))) (name:Str)=>some (mG one other (mn one other) heads name)) (post.map (·.1)) (pre++post) ∧
  (post.map (·.1)).foldl (λ(heads:(List (Str×Str))) (name:Str)=>(dj one other (mn one other) heads name)) (pre++post)=pre++jm post one other
 |[],pre,_,_=>⟨trivial,rfl⟩
 |(n,h)::rest,pre,nd,hl=>by
  have hn:n∉pre.map (·.1):=λe=>by
   rw[ja,zr,Kj] at nd;exact nd.2.2 _ e _ (zo ..) rfl
  have hr:n∉rest.map (·.1):=by
   rw[ja,zr,Kj,List.nodup_cons] at nd;exact nd.2.1.1
  have hh:has (pre++(n,h)::rest) n=true:=yF.mpr (by simp);have e:dj one other (mn one other) (pre++(n,h)::rest) n=pre++(n,jn one other h)::rest:=by
   unfold dj;dsimp only;rw[Pn hn];unfold jn;by_cases q:h=one\/h=other
   ·rw[zi q,zi (by simpa using q),acu hn hr]
   ·rw[zC q,zC (by simpa using q)]
  have ih:=join_loop one other rest (pre++[(n,jn one other h)]) (by simpa using nd) (by simpa using hl);rw[kB] at ih;refine⟨⟨⟨⟨hh,λ_=>hh⟩,λ_=>hl⟩,?_⟩,?_⟩
  ·show pU _ _ _ (dj one other (mn one other) (pre++(n,h)::rest) n);rw[e];exact ih.1
  ·rw[zr,QP,e];rw[show pre++(n,jn one other h)::rest=pre++([(n,jn one other h)]++rest) by simp,ih.2];unfold jm;simp
theorem acw (one other:Str) (nd:(m.map (·.1)).Nodup) (hl:m.length < 1000):nD m one other/\nC m one other=jm m one other:=join_loop one other m [] nd hl
theorem T8:∀ (qs m:List (Str×Str)),((m++qs).map (·.1)).Nodup->qs.foldl (λm q=>put m q.1 q.2) m=m++qs
 |[],m,_=>by simp
 |q::qs,m,nd=>by
  rw[QP];have:put m q.1 q.2=m++[q]:=by
   unfold put;rw[zC];intro e;have e:=yF.mp e;rw[ja,zr,Kj] at nd;exact nd.2.2 _ e _ (zo ..) rfl
  rw[this,T8 qs (m++[q]) (by simpa using nd)];simp
theorem KY (n_:LS_) (nd:n_.Nodup) (hl:n_.length < 1000):nA n_/\dN n_=n_.map λn=>(n,n):=by
 refine⟨⟨hl,by omega⟩,?_⟩;unfold dN mkD;rw[T8 _ [] (by rw[kQ,Qr];show(n_.map id).Nodup;rw[List.map_id];exact nd)];rfl
structure Hd (n_:LS_) (m:List (Str×Str)):Prop where
 keys:m.map (·.1)=n_
 nd:n_.Nodup
 len:n_.length < 1000
 mem:∀ x∈n_,look m x∈n_
 idem:∀ x∈n_,look m (look m x)=look m x
theorem Hd.kn (h:Hd n_ m):(m.map (·.1)).Nodup:=by rw[h.keys];exact h.nd
theorem Hd.ml (h:Hd n_ m):m.length < 1000:=by rw[<-zl (f:=(·.1)),h.keys];exact h.len
theorem Hd.has (h:Hd n_ m) (hx:x∈n_):has m x=true:=yF.mpr (by rw[h.keys];exact hx)
theorem Hd.lone (nd:n_.Nodup) (hl:n_.length < 1000):Hd n_ (n_.map λn=>(n,n)):=by
 have k:(n_.map λn=>(n,n)).map (·.1)=n_:=by rw[Qr];show n_.map id=n_;rw[List.map_id]
 have lk:∀ x∈n_,look (n_.map λn=>(n,n)) x=x:=λx hx=>KR (q:=(x,x)) (by rw[k];exact nd) (List.mem_map.mpr ⟨x,hx,rfl⟩);exact⟨k,nd,hl,λx hx=>by rw[lk x hx];exact hx,λx hx=>by rw[lk x hx,lk x hx]⟩
theorem Iw (nd:n_.Nodup) (hx:x∈n_):look (n_.map λn=>(n,n)) x=x:=
 KR (q:=(x,x)) (by rw[Qr];show(n_.map id).Nodup;rw[List.map_id];exact nd) (List.mem_map.mpr ⟨x,hx,rfl⟩)
theorem Hd.Fz (h:Hd n_ m) {one other:Str} (hx:x∈n_):look (jm m one other) x=jn one other (look m x):=acv h.kn (by rw[h.keys];exact hx)
theorem Hd.join (h:Hd n_ m) {a b:Str} (ha:a∈n_) (hb:b∈n_):Hd n_ (jm m (look m a) (look m b)):=by
 have m1:=h.mem a ha;have m2:=h.mem b hb;refine⟨(T7 _ _ _).trans h.keys,h.nd,h.len,λx hx=>?_,λx hx=>?_⟩
 ·rw[h.Fz hx];unfold jn;split
  ·rcases Pq (look m a) (look m b) with e|e<;>rw[e]<;>assumption
  ·exact h.mem x hx
 ·have hx':jn (look m a) (look m b) (look m x)∈n_:=by
   unfold jn;split
   ·rcases Pq (look m a) (look m b) with e|e<;>rw[e]<;>assumption
   ·exact h.mem x hx
  rw[h.Fz hx,h.Fz hx'];unfold jn;by_cases q:look m x=look m a\/look m x=look m b
  ·rw[zi q];rcases Pq (look m a) (look m b) with e|e
   ·rw[e,h.idem a ha,zi (.inl rfl)]
   ·rw[e,h.idem b hb,zi (.inr rfl)]
  ·rw[zC q,h.idem x hx,zC q]
theorem acy (a:Str):jm m a a=m:=by
 unfold jm
 conv=>rhs;rw[<-List.map_id m]
 refine jS λq _=>?_;unfold jn mn;have:qK a a=false:=by simp[qK]
 rw[this];by_cases e:q.2=a
 ·rw[zi (.inl e),zC (by decide),<-e];rfl
 ·rw[zC (by simp[e])];rfl
abbrev Bu:=Int×Str×Str×Int
def Rs (n_:LS_) (rs:List Bu):Prop:=∀ r∈rs,r.2.1∈n_/\r.2.2.1∈n_
def jb (m:List (Str×Str)) (r:Bu):List (Str×Str):=jm m (look m r.2.1) (look m r.2.2.1)
def hb (n_:LS_) (rs:List Bu):List (Str×Str):=rs.foldl jb (dN n_)
theorem hd0 (nd:n_.Nodup) (hl:n_.length < 1000):Hd n_ (dN n_):=by rw[(KY n_ nd hl).2];exact Hd.lone nd hl
theorem pig:∀ {xs ys:LS_},xs.Nodup->(∀ x∈xs,x∈ys)->xs.length<=ys.length
 |[],_,_,_=>QO _
 |x::xs,ys,nd,h=>by
  obtain⟨n1,n2⟩:=List.nodup_cons.mp nd;have hx:=h x (zo ..);have:=pig (ys:=ys.erase x) n2 λz hz=>(List.mem_erase_of_ne (λe:z=x=>n1 (e▸hz))).mpr (h z (zt _ hz));rw[List.length_erase_of_mem hx] at this;have:=List.length_pos_of_mem hx;rw[QE];omega
structure PH (n_:LS_) (P:List LS_) (m:List (Str×Str)):Prop where
 sub:∀ p∈P,∀ y∈p,y∈n_
 cov:∀ x∈n_,∃ p∈P,x∈p
 cls:∀ p∈P,∀ x∈p,∀ y∈n_,(y∈p↔look m x=look m y)
 ne:∀ p∈P,p≠[]
 nd:∀ p∈P,p.Nodup
 uni:∀ p∈P,∀ q∈P,∀ x,x∈p->x∈q->p=q
 len:P.length<=n_.length
 pn:P.Nodup
 srt:∀ p∈P,p.Pairwise FQ
theorem ph0 (nd:n_.Nodup) (hl:n_.length < 1000):PH n_ (n_.map λname:Str=>[name]) (dN n_):=by
 rw[(KY n_ nd hl).2];have inv:∀ p,p∈(n_.map λname:Str=>[name])->∃ n∈n_,p=[n]:=λp hp=>by
  obtain⟨n,hn,e⟩:=List.mem_map.mp hp;exact⟨n,hn,e.symm⟩
 refine⟨λp hp y hy=>?_,λx hx=>⟨[x],List.mem_map.mpr ⟨x,hx,rfl⟩,List.mem_singleton.mpr rfl⟩,λp hp x hx y hy=>?_,λp hp e=>?_,λp hp=>?_,λp hp q hq x h1 h2=>?_,by rw[zl];exact zg _,?_,λp hp=>?_⟩
 ·obtain⟨n,hn,rfl⟩:=inv p hp;cases List.mem_singleton.mp hy;exact hn
 ·obtain⟨n,hn,rfl⟩:=inv p hp;cases List.mem_singleton.mp hx;rw[Iw nd hn,Iw nd hy,List.mem_singleton];exact⟨λe=>e.symm,λe=>e.symm⟩
 ·obtain⟨n,hn,rfl⟩:=inv p hp;cases e
 ·obtain⟨n,hn,rfl⟩:=inv p hp;exact List.nodup_cons.mpr ⟨λz=>(by cases z),ya⟩
 ·obtain⟨n,hn,rfl⟩:=inv p hp;obtain⟨n',hn',rfl⟩:=inv q hq;cases List.mem_singleton.mp h1;cases List.mem_singleton.mp h2;rfl
 ·unfold List.Nodup;rw[List.pairwise_map];exact nd.imp λh e=>h (by injection e)
 ·obtain⟨n,hn,rfl⟩:=inv p hp;exact List.pairwise_singleton _ _
theorem pick {P:List LS_} {a:Str} (h:∃ p∈P,a∈p):In ((P.filter λpart:LS_=>(decide (a∈part))).map λpart:LS_=>part).length (0:Int)/\at' ((P.filter λpart:LS_=>(decide (a∈part))).map λpart:LS_=>part) (0:Int)∈P/\a∈at' ((P.filter λpart:LS_=>(decide (a∈part))).map λpart:LS_=>part) (0:Int):=by
 obtain⟨p,hp,ha⟩:=h;have m:p∈((P.filter λpart:LS_=>(decide (a∈part))).map λpart:LS_=>part):=List.mem_map.mpr ⟨p,List.mem_filter.mpr ⟨hp,QA ha⟩,rfl⟩;have i:In ((P.filter λpart:LS_=>(decide (a∈part))).map λpart:LS_=>part).length (0:Int):=zu (k:=0) (List.length_pos_of_mem m);refine⟨i,?_⟩;obtain⟨q,hq,e⟩:=List.mem_map.mp (jY i);rw[<-e];exact⟨(List.mem_filter.mp hq).1,ka (List.mem_filter.mp hq).2⟩
theorem comb {P:List LS_} (h:Hd n_ m) (p:PH n_ P m) {one other:LS_} {a b:Str} (h1:one∈P) (h2:other∈P) (ha:a∈one) (hb:b∈other) (hne:one≠other) :
  (one++other).length<=n_.length/\PH n_ (((P.filter λpart:LS_=>(!sU part [one,other])).map λpart:LS_=>part)++[(jT (one++other))]) (jm m (look m a) (look m b)):=by
 have an:=p.sub _ h1 _ ha;have bn:=p.sub _ h2 _ hb;have ndq:(one++other).Nodup:=List.nodup_append.mpr ⟨p.nd _ h1,p.nd _ h2,λx hx y hy e=>hne (p.uni _ h1 _ h2 x hx (e▸hy))⟩;have afA:∀ x∈one++other,x∈n_:=λx hx=>(List.mem_append.mp hx).elim (p.sub _ h1 _) (p.sub _ h2 _);have c1:∀ y∈n_,(y∈one↔look m y=look m a):=λy hy=>(p.cls _ h1 _ ha y hy).trans ⟨Eq.symm,Eq.symm⟩;have c2:∀ y∈n_,(y∈other↔look m y=look m b):=λy hy=>(p.cls _ h2 _ hb y hy).trans ⟨Eq.symm,Eq.symm⟩;have old:∀ q,q∈((P.filter λpart:LS_=>(!sU part [one,other])).map λpart:LS_=>part)↔q∈P/\q≠one/\q≠other:=λq=>by
  rw[K2,List.mem_filter,qB,<-Bool.not_eq_true,uq];simp
 have mq:∀ y,y∈jT (one++other)↔y∈one\/y∈other:=λy=>(d7 _).mem_iff.trans KP;have far:∀ q,q∈P->q≠one->q≠other->∀ x∈q,look m x≠look m a/\look m x≠look m b:=λq hq n1 n2 x hx=>by
  have xn:=p.sub _ hq _ hx;exact⟨λe=>n1 (p.uni _ hq _ h1 x hx ((c1 x xn).mpr e)),λe=>n2 (p.uni _ hq _ h2 x hx ((c2 x xn).mpr e))⟩
 refine⟨pig ndq afA,⟨λq hq y hy=>?_,λx hx=>?_,λq hq x hx y hy=>?_,λq hq=>?_,λq hq=>?_,λq hq q' hq' x hx hx'=>?_,?_,?_,λq hq=>?_⟩⟩
 ·rcases List.mem_append.mp hq with hq|hq
  ·exact p.sub _ ((old q).mp hq).1 _ hy
  ·cases List.mem_singleton.mp hq;exact afA y ((d7 _).mem_iff.mp hy)
 ·obtain⟨q,hq,hx'⟩:=p.cov x hx;by_cases e:q=one\/q=other
  ·refine⟨_,List.mem_append.mpr (.inr (List.mem_singleton.mpr rfl)),(mq x).mpr ?_⟩;rcases e with rfl|rfl
   ·exact .inl hx'
   ·exact .inr hx'
  ·exact⟨q,List.mem_append.mpr (.inl ((old q).mpr ⟨hq,λz=>e (.inl z),λz=>e (.inr z)⟩)),hx'⟩
 ·rcases List.mem_append.mp hq with hq|hq
  ·obtain⟨hq,n1,n2⟩:=(old q).mp hq;have xn:=p.sub _ hq _ hx;have f:=far q hq n1 n2 x hx;rw[h.Fz xn,h.Fz hy,p.cls _ hq _ hx y hy];unfold jn;rw[zC (λz=>z.elim f.1 f.2)];by_cases e:look m y=look m a\/look m y=look m b
   ·rw[zi e];constructor
    ·intro z;rw[z] at f;exact absurd e (λw=>w.elim f.1 f.2)
    ·intro z;rcases Pq (look m a) (look m b) with w|w<;>rw[w] at z
     ·exact absurd z f.1
     ·exact absurd z f.2
   ·rw[zC e]
  ·cases List.mem_singleton.mp hq;have xq:=(mq x).mp hx;have xn:=afA x (List.mem_append.mpr xq);rw[mq,h.Fz xn,h.Fz hy,c1 y hy,c2 y hy];unfold jn;rw[zi (xq.elim (λz=>.inl ((c1 x xn).mp z)) (λz=>.inr ((c2 x xn).mp z)))];by_cases e:look m y=look m a\/look m y=look m b
   ·rw[zi e];exact⟨λ_=>rfl,λ_=>e⟩
   ·rw[zC e];refine⟨λz=>absurd z e,λz=>?_⟩;rcases Pq (look m a) (look m b) with w|w<;>rw[w] at z
    ·exact .inl z.symm
    ·exact .inr z.symm
 ·rcases List.mem_append.mp hq with hq|hq
  ·exact p.ne _ ((old q).mp hq).1
  ·cases List.mem_singleton.mp hq;intro e;have:=(mq a).mpr (.inl ha);rw[e] at this;cases this
 ·rcases List.mem_append.mp hq with hq|hq
  ·exact p.nd _ ((old q).mp hq).1
  ·cases List.mem_singleton.mp hq;exact(d7 _).nodup_iff.mpr ndq
 ·have key:∀ q,q∈P->q≠one->q≠other->x∈q->x∈jT (one++other)->False:=λq hq n1 n2 e1 e2=>
   ((mq x).mp e2).elim (λz=>n1 (p.uni _ hq _ h1 x e1 z)) (λz=>n2 (p.uni _ hq _ h2 x e1 z))
  rcases List.mem_append.mp hq with hq|hq<;>rcases List.mem_append.mp hq' with hq'|hq'
  ·exact p.uni _ ((old q).mp hq).1 _ ((old q').mp hq').1 x hx hx'
  ·cases List.mem_singleton.mp hq';obtain⟨z,n1,n2⟩:=(old q).mp hq;exact(key q z n1 n2 hx hx').elim
  ·cases List.mem_singleton.mp hq;obtain⟨z,n1,n2⟩:=(old q').mp hq';exact(key q' z n1 n2 hx' hx).elim
  ·exact(List.mem_singleton.mp hq).trans (List.mem_singleton.mp hq').symm
 ·rw[Zs,K2];have:(P.filter λpart:LS_=>(!sU part [one,other])).length < P.length:=by
   rw[List.length_filter_lt_length_iff_exists];refine⟨one,h1,?_⟩;rw[qB,Bool.not_eq_false];exact uq.mpr (zo ..)
  have:=p.len;show _+1<=_;omega
 ·rw[Kj];refine⟨by rw[K2];exact p.pn.filter _,List.nodup_cons.mpr ⟨λz=>(by cases z),ya⟩,λx hx y hy e=>?_⟩;cases List.mem_singleton.mp hy;obtain⟨z,n1,n2⟩:=(old x).mp hx;have:a∈x:=by rw[e];exact(mq a).mpr (.inl ha)
  exact n1 (p.uni _ z _ h1 a this ha)
 ·rcases List.mem_append.mp hq with hq|hq
  ·exact p.srt _ ((old q).mp hq).1
  ·cases List.mem_singleton.mp hq;exact qU _
theorem RD {P:List LS_} (h:Hd n_ m) (hl:n_.length < 64) (p:PH n_ P m) {r:Bu} (ha:r.2.1∈n_) (hb:r.2.2.1∈n_) :
  iH P r/\PH n_ (cY P r) (jm m (look m r.2.1) (look m r.2.2.1)):=by
 obtain⟨i1,o1,a1⟩:=pick (p.cov _ ha);obtain⟨i2,o2,a2⟩:=pick (p.cov _ hb);have pl:=p.len;unfold iH cY;dsimp only;generalize at' ((P.filter λpart:LS_=>(decide (r.2.1∈part))).map λpart:LS_=>part) (0:Int)=one at *
 generalize at' ((P.filter λpart:LS_=>(decide (r.2.2.1∈part))).map λpart:LS_=>part) (0:Int)=other at *
 by_cases e:one=other
 ·subst e;refine⟨⟨⟨by omega,i1⟩,⟨by omega,i2⟩,λz=>by simp at z⟩,?_⟩;rw[zC (by simp),(p.cls _ o1 _ a1 _ hb).mp a2,acy];exact p
 ·obtain⟨c1,c2⟩:=comb h p o1 o2 a1 a2 e;rw[Zs] at c1;refine⟨⟨⟨by omega,i1⟩,⟨by omega,i2⟩,λ_=>⟨⟨by omega,?_,?_⟩,?_⟩⟩,?_⟩
  ·show _<=1000000;omega
  ·rw[Zs];omega
  ·have:=c2.len;rw[Zs] at this;show _<=1000000;omega
  ·rw[zi (by simp[e])];exact c2
theorem FJ {n_:LS_} (hl:n_.length < 64):∀ (rs:List Bu) (P:List LS_) (m:List (Str×Str)),Rs n_ rs->Hd n_ m->PH n_ P m →
  pU (λ(found:List LS_) (q1:Bu)=>(cY found q1)) (λ(found:List LS_) (q1:Bu)=>some (iH found q1)) rs P/\PH n_ (rs.foldl (λ(found:List LS_) (q1:Bu)=>(cY found q1)) P) (rs.foldl jb m)
 |[],_,_,_,_,p=>⟨trivial,p⟩
 |r::rs,P,m,hr,h,p=>by
  obtain⟨ha,hb⟩:=hr r (zo ..);obtain⟨d,q⟩:=RD h hl p ha hb;have ih:=FJ hl rs (cY P r) (jb m r) (λx hx=>hr x (zt _ hx)) (h.join ha hb) q;exact⟨⟨d,ih.1⟩,ih.2⟩
theorem Zy (nd:n_.Nodup) (hl:n_.length < 64) {rs:List Bu} (hr:Rs n_ rs):lQ n_ rs/\∃ P,gn n_ rs=rz P/\PH n_ P (hb n_ rs):=by
 obtain⟨d,p⟩:=FJ hl rs _ _ hr (hd0 nd (by omega)) (ph0 nd (by omega));have pl:=p.len;refine⟨⟨by omega,d,by show List.length _<=100000;exact Zp pl (by omega),by show(List.map _ _).length < 64;rw[zl];exact kX pl hl,λx hx=>?_⟩,_,congrArg rz (K2 _),p⟩;obtain⟨y,hy,rfl⟩:=List.mem_map.mp hx;have:=p.ne _ hy;cases y
 ·exact absurd rfl this
 ·rfl
theorem T9 {α:Type} [DecidableEq α]:∀ {xs ys:List α},xs.Nodup->ys.Nodup->(∀ x,x∈xs↔x∈ys)->xs.Perm ys
 |[],ys,_,_,h=>by
  cases ys with
  |nil=>exact .refl _
  |cons y ys=>exact absurd ((h y).mpr (zo ..)) (by simp)
 |x::xs,ys,nx,ny,h=>by
  obtain⟨n1,n2⟩:=List.nodup_cons.mp nx;have hx:=(h x).mp (zo ..);refine(List.Perm.cons x (T9 (ys:=ys.erase x) n2 (ny.erase x) λz=>?_)).trans (List.perm_cons_erase hx).symm;constructor
  ·intro hz;have:z≠x:=λe=>n1 (e▸hz);exact(List.mem_erase_of_ne this).mpr ((h z).mp (zt _ hz))
  ·intro hz;have hne:z≠x:=λe=>by subst e;exact(List.Nodup.not_mem_erase ny) hz
   have:=(h z).mpr (List.mem_of_mem_erase hz);rcases List.mem_cons.mp this with e|e
   ·exact absurd e hne
   ·exact e
theorem foldl_size {α:Type} (c:Array α):∀ (n:Nat) (a:Array α),((List.replicate n c).foldl (·++·) a).size=a.size+n * c.size
 |0,a=>by simp
 |n+1,a=>by
  rw[KU,QP,foldl_size c n,Kt,Nat.succ_mul];omega
theorem Jr (x:Str) (k:Int):(Txt.mul x k).length<=x.length * k.toNat:=by
 unfold Txt.mul;split
 ·exact QO _
 split
 ·rename_i h0 h;simp only[Bool.or_eq_true,beq_iff_eq] at h;rcases h with h|h
  ·subst h;simp
  ·rw[h];simp
 ·show(Array.size _)<=_;rw[foldl_size];have:x.cps.size=x.length:=rfl;rw[this,Nat.mul_comm];simp
def LT:Str:=("abcdefghijklmnopqrstuvwxyz" : Str)
theorem RG:LT.length=26:=by decide +kernel
theorem gF (h:n<=1000):xX n:=Zp h (by decide)
theorem RJ (xs:List Int) (hl:6<=xs.length) (stem:Str) (hs:stem.length<=5) (at_:Int) (k:Nat) (found:LS_) (hk:k < 200) (h:found.length=k/\∀ n∈found,n.length<=12):jN xs LT stem at_ found k/\(d9 xs LT stem at_ found k).length=k+1/\∀ n∈d9 xs LT stem at_ found k,n.length<=12:=by
 have s1:=Zp (slice_le stem none (some at_)) hs;have s2:=Zp (slice_le stem (some at_) none) hs;have c1:=pW LT ((↑k+at' xs 2) % 15);have m8:=fX (k:Int) (m:=8) (by decide);have hd:(0:Int)<=(k:Int) / 8/\(k:Int) / 8 < 26:=by omega
 refine⟨⟨⟨in_of (by decide) (by omega),jl (by decide) (by rw[RG];decide)⟩,⟨gF (by omega),gF (by rw[lH];omega)⟩,⟨in_of (by decide) (by omega),λ_=>⟨in_of hd.1 (by rw[RG];exact hd.2),by omega,by omega,by rw[pW];decide⟩⟩,gF (by omega)⟩,?_⟩;have key:∀ n:Str,n.length<=12->(found++[n]).length=k+1/\∀ m∈found++[n],m.length<=12:=λn hn=>⟨by simp[h.1],λm hm=>by
  rcases List.mem_append.mp hm with hm|hm
  ·exact h.2 m hm
  ·cases List.mem_singleton.mp hm;exact hn⟩
 unfold d9;dsimp only;split
 ·exact key _ (by have:=Jr (ch LT ((k:Int) / 8)) (1+(k:Int) % 8);rw[pW] at this;exact Zp this (by omega))
 ·exact key _ (by rw[lH,lH,c1];omega)
theorem Zz (xs:LS_) (n:Nat) (h:∀ x∈xs,x.length<=n):(Txt.join "" xs).length<=xs.length * n:=by
 have h1:=StrLaws.join_length_le ("" : Str) xs;rw[<-StrLaws.glued_eq_join] at h1;have h2:(xs.map (·.length)).sum<=xs.length * n:=by
  clear h1
  induction xs with
  |nil=>simp
  |cons a l ih=>
   have:=ih λx hx=>h x (zt _ hx);have:=h a (zo ..);simp only[zr,List.sum_cons,QE,Nat.succ_mul];omega
 have h3:("" : Str).length=0:=rfl;rw[h3,Nat.mul_zero] at h1;exact Zp h1 (by omega)
theorem ajv (xs:LS_) (h:∀ x∈xs,x.length=1):(xs.map (·.length)).sum=xs.length:=by
 induction xs with
 |nil=>rfl
 |cons a l ih=>
  have:=ih λx hx=>h x (zt _ hx);have:=h a (zo ..);simp only[zr,List.sum_cons,QE];omega
theorem ZC (xs:List Int) (hl:6<=xs.length) (many:Int) (h0:0<=many) (h1:many<=200):pK xs many/\(cD xs many).length=many.toNat/\∀ n∈cD xs many,n.length<=12:=by
 have m6:=fX (at' xs 0) (m:=6) (by decide);have st:∀ stem:Str,stem.length<=5->ou xs many LT stem/\(jO xs many LT stem).length=many.toNat/\∀ n∈jO xs many LT stem,n.length<=12:=λstem hs=>by
  have:=ur (P:=λf k=>some (jN xs LT stem (at' xs 1 % ((stem.length:Int)+1)) f k)) (step:=λf k=>d9 xs LT stem (at' xs 1 % ((stem.length:Int)+1)) f k) (λk s=>s.length=k/\∀ n∈s,n.length<=12) many.toNat [] ⟨rfl,λn h=>(by cases h)⟩ λk s hk h=>RJ xs hl stem hs _ k s (by omega) h;exact⟨⟨⟨in_of (by decide) (by omega),by omega⟩,Ie h0 (by omega),this.1⟩,this.2⟩
 have c1:∀ x∈((rng 0 (at' xs 0 % 6).toNat).map λk_:Int=>ch LT (at' xs k_ / 40 % 26)),x.length=1:=λx hx=>by
  obtain⟨k,_,rfl⟩:=List.mem_map.mp hx;exact pW _ _
 have:=st (Txt.join "" ((rng 0 (at' xs 0 % 6).toNat).map λk_:Int=>ch LT (at' xs k_ / 40 % 26))) (by
  have:=Zz _ 1 λx hx=>Nat.le_of_eq (c1 x hx);rw[zl,oX] at this;omega)
 refine⟨⟨⟨⟨⟨⟨in_of (by decide) (by omega),Ie m6.1 (by omega)⟩,by rw[oX];omega⟩,λk hk=>?_⟩,?_⟩,this.1⟩,this.2⟩
 ·obtain⟨j,hj,rfl⟩:=J9 hk;exact⟨in_of (by omega) (by omega),jl (by decide) (by rw[show("abcdefghijklmnopqrstuvwxyz" : Str)=LT from rfl,RG];decide)⟩
 ·rw[show("abcdefghijklmnopqrstuvwxyz" : Str)=LT from rfl,ajv _ c1,zl,oX];have h3:("" : Str).length=0:=rfl;rw[h3];omega
def nmF (xs:List Int) (stem:Str) (at_:Int) (k:Int):Str:=if(decide (((at' xs (3:Int)) % (3:Int))=(1:Int)))=true then(Txt.mul (ch LT (k / (8:Int))) ((1:Int)+(k % (8:Int)))) else(((Txt.slice stem none (some at_))++(ch LT ((k+(at' xs (2:Int))) % (15:Int))))++(Txt.slice stem (some at_) none))
theorem wH {α β:Type} (g:β->α):∀ (l:List β) (f:List α),l.foldl (λf k=>f++[g k]) f=f++l.map g
 |[],f=>by simp
 |k::l,f=>by rw[QP,wH g l];simp
theorem ZD (xs:List Int) (many:Int):∃ stem at_,cD xs many=(rng 0 many.toNat).map (nmF xs stem at_):=by
 refine⟨_,_,(wH (nmF xs _ _) _ []).trans (kQ _)⟩
theorem RK {a b m m':Str} (h:(a++m)++b=(a++m')++b):m=m':=by
 have h:=congrArg (λs:Str=>s.cps.toList) h;have h:((a.cps++m.cps)++b.cps).toList=((a.cps++m'.cps)++b.cps).toList:=h;simp only[Array.toList_append] at h;have:=List.append_cancel_left (List.append_cancel_right h);cases m;cases m';congr 1;exact Array.ext' this
theorem ZF:∀ i:Fin 30,∀ j:Fin 30,Txt.mul (ch LT ((i.val:Int) / 8)) (1+(i.val:Int) % 8)=Txt.mul (ch LT ((j.val:Int) / 8)) (1+(j.val:Int) % 8)->i=j:=by decide +kernel
theorem ahy:∀ i:Fin 15,∀ j:Fin 15,ch LT (i.val:Int)=ch LT (j.val:Int)->i=j:=by decide +kernel
theorem afB {x y:Int} (hx:0<=x/\x < 15) (hy:0<=y/\y < 15) (h:ch LT x=ch LT y):x=y:=by
 have:=ahy ⟨x.toNat,by omega⟩ ⟨y.toNat,by omega⟩ (by
  show ch LT ((x.toNat:Nat):Int)=ch LT ((y.toNat:Nat):Int);rw[Int.toNat_of_nonneg hx.1,Int.toNat_of_nonneg hy.1];exact h)
 have:=congrArg Fin.val this;have:x.toNat=y.toNat:=this;omega
theorem afC {xs:List Int} {stem:Str} {at_:Int} (hi:i < 15) (hj:j < 15) (h:nmF xs stem at_ i=nmF xs stem at_ j):i=j:=by
 unfold nmF at h;by_cases e:(decide (((at' xs (3:Int)) % (3:Int))=(1:Int)))=true
 ·rw[zi e,zi e] at h;exact congrArg Fin.val (ZF ⟨i,by omega⟩ ⟨j,by omega⟩ h)
 ·rw[zC e,zC e] at h;have:=afB (fX _ (by decide)) (fX _ (by decide)) (RK h);omega
theorem Rf {g:Int->Str} (h:∀ i j:Nat,i < n->j < n->g i=g j->i=j):((rng 0 n).map g).Nodup:=by
 unfold rng;rw[Qr];unfold List.Nodup;rw[List.pairwise_map];refine yv ?_ (yA (n:=n));intro a b ha hb hne e;refine hne (h a b (List.mem_range.mp ha) (List.mem_range.mp hb) ?_);have e:g (0+(a:Int))=g (0+(b:Int)):=e;rwa [Int.zero_add,Int.zero_add] at e
theorem ZG (xs:List Int) (many:Int) (h:many<=15):(cD xs many).Nodup:=by
 obtain⟨stem,at_,e⟩:=ZD xs many;rw[e];exact Rf λi j hi hj=>afC (by omega) (by omega)
def Lw (c:Nat):Prop:=97<=c/\c<=122
def Nm (s:Str):Prop:=1<=s.length/\s.length<=8/\∀ c∈cs s,Lw c
theorem ahz {c:Nat} (h:Lw c):c∈cs LT:=by
 have:∀ i:Fin 26,97+i.val∈cs LT:=by decide +kernel
 have:=this ⟨c - 97,by unfold Lw at h;omega⟩;unfold Lw at h;rwa [show 97+(c - 97)=c by omega] at this
theorem Ua {s:Str} (h:Nm s):dG (.str s)=true:=by
 unfold dG iR;rw[show nP (.str s)=true from rfl,show JT (.str s)=(s.length:Int) from rfl,QA (show(1:Int)<=s.length by have:=h.1;omega),QA (show(s.length:Int)<=8 by have:=h.2.1;omega)];show List.all _ id=true;rw[qi];intro b hb;obtain⟨d,hd,rfl⟩:=List.mem_map.mp hb;obtain⟨c,hc,rfl⟩:=List.mem_map.mp (show d∈P1.signs s from hd);exact VR (ahz (h.2.2 c hc))
theorem afD (c:Nat) (n:Int) (h:1<=n):cs (Txt.mul ⟨#[c]⟩ n)=List.replicate n.toNat c:=by
 unfold Txt.mul;split
 ·omega
 split
 ·rename_i h;simp only[Bool.or_eq_true,beq_iff_eq] at h;rcases h with h|h
  ·subst h;rfl
  ·cases h
 ·have:∀ (k:Nat) (a:Array Nat),((List.replicate k (#[c]:Array Nat)).foldl (·++·) a).toList=a.toList++List.replicate k c:=by
   intro k
   induction k with
   |zero=>intro a;simp
   |succ k ih=>
    intro a;rw[KU,QP,ih,Array.toList_append,KU];simp
  exact(this _ _).trans (by simp)
theorem ZJ {i:Int} (h:0<=i/\i < 26):ch LT i=⟨#[97+i.toNat]⟩:=by
 have:∀ i:Fin 26,ch LT (i.val:Int)=⟨#[97+i.val]⟩:=by decide +kernel
 have:=this ⟨i.toNat,by omega⟩;rwa [show((⟨i.toNat,by omega⟩:Fin 26).val:Int)=i by show(i.toNat:Int)=i;omega] at this
theorem Ub {i n:Int} (h:0<=i/\i < 26) (h1:1<=n) (h8:n<=8):Nm (Txt.mul (ch LT i) n):=by
 have e:=afD (97+i.toNat) n h1;rw[<-ZJ h] at e;refine⟨?_,?_,λc hc=>?_⟩
 ·rw[Ei,e,List.length_replicate];omega
 ·rw[Ei,e,List.length_replicate];omega
 ·rw[e] at hc;rw[(List.mem_replicate.mp hc).2];unfold Lw;omega
theorem ZK {l:LS_} {c:Nat} (h:c∈cs (Txt.join "" l)):∃ q∈l,c∈cs q:=by
 cases l with
 |nil=>cases h
 |cons p ps=>
  rw[acn] at h;rcases List.mem_append.mp h with h|h
  ·exact⟨p,zo ..,h⟩
  ·obtain⟨q,hq,h⟩:=List.mem_flatMap.mp h;exact⟨q,zt _ hq,h⟩
theorem Wc (xs:List Int) (many:Int):∃ (stem:Str) (at_:Int),(∀ c∈cs stem,Lw c)/\stem.length<=5/\0<=at_/\at_<=(stem.length:Int)/\cD xs many=(rng 0 many.toNat).map (nmF xs stem at_):=by
 have m6:=fX (at' xs 0) (m:=6) (by decide);have mem:∀ x∈((rng 0 (at' xs 0 % 6).toNat).map λk_:Int=>ch LT (at' xs k_ / 40 % 26)),x.length=1/\∀ c∈cs x,Lw c:=λx hx=>by
  obtain⟨k,_,rfl⟩:=List.mem_map.mp hx;refine⟨pW _ _,λc hc=>?_⟩;rw[ZJ (fX _ (by decide))] at hc;cases List.mem_singleton.mp hc;have:=fX (at' xs k / 40) (m:=26) (by decide);unfold Lw;omega
 refine⟨Txt.join "" ((rng 0 (at' xs 0 % 6).toNat).map λk_:Int=>ch LT (at' xs k_ / 40 % 26)),at' xs 1 % (((Txt.join "" ((rng 0 (at' xs 0 % 6).toNat).map λk_:Int=>ch LT (at' xs k_ / 40 % 26))).length:Int)+1),λc hc=>?_,?_,?_,?_,(wH (nmF xs _ _) _ []).trans (kQ _)⟩
 ·obtain⟨q,hq,h⟩:=ZK hc;exact(mem q hq).2 c h
 ·have:=Zz _ 1 λx hx=>Nat.le_of_eq (mem x hx).1;rw[zl,oX] at this;omega
 ·exact(fX _ (by omega)).1
 ·have:=(fX (at' xs 1) (m:=((Txt.join "" ((rng 0 (at' xs 0 % 6).toNat).map λk_:Int=>ch LT (at' xs k_ / 40 % 26))).length:Int)+1) (by omega)).2;omega
theorem afE {xs:List Int} {stem:Str} {at_:Int} (h1:∀ c∈cs stem,Lw c) (h2:stem.length<=5) (h3:0<=at_) (h4:at_<=(stem.length:Int)) {k:Int} (hk:0<=k/\k < 15):Nm (nmF xs stem at_ k):=by
 unfold nmF;split
 ·exact Ub (by omega) (by omega) (by omega)
 ·have s1:=Zh (x:=stem) (n:=at_.toNat) (by omega);have s2:=Zg (x:=stem) (n:=at_.toNat) (by omega);rw[Int.toNat_of_nonneg h3] at s1 s2;have c1:=ZJ (i:=(k+at' xs 2) % 15) (by have:=fX (k+at' xs 2) (m:=15) (by decide);omega);have m:=fX (k+at' xs 2) (m:=15) (by decide);have e:cs ((Txt.slice stem none (some at_)++ch LT ((k+at' xs 2) % 15))++Txt.slice stem (some at_) none)=((cs stem).take at_.toNat++[97+((k+at' xs 2) % 15).toNat])++(cs stem).drop at_.toNat:=by
   rw[Ka,Ka,s1,s2,c1]
  have hl:((Txt.slice stem none (some at_)++ch LT ((k+at' xs 2) % 15))++Txt.slice stem (some at_) none).length=stem.length+1:=by
   rw[Ei,e,Zs,Zs,JJ,kg,<-Ei];show _+1+_=_;omega
  refine⟨by rw[hl];omega,by rw[hl];omega,λc hc=>?_⟩;rw[e] at hc;rcases List.mem_append.mp hc with hc|hc
  ·rcases List.mem_append.mp hc with hc|hc
   ·exact h1 c (List.mem_of_mem_take hc)
   ·cases List.mem_singleton.mp hc;unfold Lw;omega
  ·exact h1 c (List.mem_of_mem_drop hc)
theorem ZL (xs:List Int) (many:Int) (h:many<=15):∀ n∈cD xs many,Nm n:=by
 obtain⟨stem,at_,h1,h2,h3,h4,e⟩:=Wc xs many;rw[e];intro n hn;obtain⟨k,hk,rfl⟩:=List.mem_map.mp hn;obtain⟨j,hj,rfl⟩:=J9 hk;exact afE h1 h2 h3 h4 (by omega)
theorem KZ {a b:Int} (ha:0<=a/\a < n) (hb:0<=b/\b < n):In n (if b < a then b else a):=by split<;>exact in_of (by omega) (by omega)
theorem K1 {a b:Int} (ha:0<=a/\a < n) (hb:0<=b/\b < n):In n (if b > a then b else a):=by split<;>exact in_of (by omega) (by omega)
theorem Uc {many:Int} (hn:n=many.toNat) {x y:Int} (h:(!decide (x % (if many > (1:Int) then many else(1:Int))=y % (if many > (1:Int) then many else(1:Int))))=true):(0<=x % (if many > (1:Int) then many else(1:Int))/\x % (if many > (1:Int) then many else(1:Int)) < n)/\(0<=y % (if many > (1:Int) then many else(1:Int))/\y % (if many > (1:Int) then many else(1:Int)) < n):=by
 by_cases e:many > 1
 ·rw[zi e] at h ⊢;have h1:=fX x (m:=many) (by omega);have h2:=fX y (m:=many) (by omega);omega
 ·rw[zC e] at h;simp at h
theorem Pr {many:Int}:0 < (if many > (1:Int) then many else(1:Int)):=by split<;>omega
def RT (r:Bu):Prop:=((-1000:Int)<=r.1/\r.1 ≤ -1)/\qK r.2.1 r.2.2.1=true/\r.2.2.2∈[(0:Int),1,2,10]
theorem ahA (ns:n_.Pairwise λa b=>qK a b=true) {i j:Int} (h0:0<=i) (h1:i < j) (h2:j < n_.length):qK (at' n_ i) (at' n_ j)=true:=by
 obtain⟨a,rfl⟩:∃ a:Nat,i=(a:Int):=⟨i.toNat,by omega⟩;obtain⟨b,rfl⟩:∃ b:Nat,j=(b:Int):=⟨j.toNat,by omega⟩;rw[Eb n_ a (by omega),Eb n_ b (by omega)];exact List.pairwise_iff_getElem.mp ns a b (by omega) (by omega) (by omega)
theorem Wd (script:List Int) (at_ many:Int) (a0:0<=at_) (a1:at_<=500) (head:List Int) (hh:6<=head.length) (n_:LS_) (hn:n_.length=many.toNat) (k:Nat) (hk:k < 60) (told:List Bu) (ns:n_.Pairwise λa b=>qK a b=true) (h:told.length<=k/\Rs n_ told/\∀ r∈told,RT r) :
  gP script at_ many head n_ told k/\(cR script at_ many head n_ told k).length<=k+1/\Rs n_ (cR script at_ many head n_ told k)/\∀ r∈cR script at_ many head n_ told k,RT r:=by
 obtain⟨n1,n2,n3⟩:=Fy (aW script ((at_+(1:Int))+k)) 4 (by decide) (by decide);have n2:(aQ (aW script ((at_+(1:Int))+k)) 4).length=4:=n2;unfold gP cR;dsimp only;generalize aQ (aW script ((at_+(1:Int))+k)) 4=xs at *
 have en:=λx y=>Uc (x:=x) (y:=y) hn;have pm:=@Pr many;generalize (if many > (1:Int) then many else(1:Int))=mm at *
 have ix:∀ i:Nat,i < 4->In xs.length (i:Int):=λi hi=>zu (by omega);refine⟨⟨⟨Fw _ _ (by omega) (by omega),n1⟩,⟨⟨ix 0 (by decide),pm⟩,ix 1 (by decide),pm⟩,⟨⟨⟨ix 2 (by decide),ix 2 (by decide),ix 2 (by decide)⟩,in_of (by decide) (by omega)⟩,jl (by decide) (yk 3)⟩,λhne=>?_⟩,?_⟩
 ·have:=en _ _ hne;exact⟨⟨KZ this.1 this.2,K1 this.1 this.2,ix 3 (by decide),jl (by decide) (by decide)⟩,gF (by omega)⟩
 ·split
  ·rename_i hne;have:=en _ _ hne;refine⟨by rw[Zs];show _+1<=_;omega,λr hr=>?_,λr hr=>?_⟩
   ·rcases List.mem_append.mp hr with hr|hr
    ·exact h.2.1 r hr
    ·cases List.mem_singleton.mp hr;exact⟨jY (KZ this.1 this.2),jY (K1 this.1 this.2)⟩
   ·rcases List.mem_append.mp hr with hr|hr
    ·exact h.2.2 r hr
    ·cases List.mem_singleton.mp hr;have w:=jY (xs:=[(1:Int)+at' xs 2 % 3,(1:Int)+at' xs 2 % 9,(1:Int)+at' xs 2 % 1000]) (i:=at' head 4 % 3) (jl (by decide) (yk 3));have u:=jY (xs:=[(0:Int),(2:Int),(10:Int)]) (i:=at' xs 3 % 3) (jl (by decide) (yk 3));have b3:=fX (at' xs 2) (m:=3) (by decide);have b9:=fX (at' xs 2) (m:=9) (by decide);have bk:=fX (at' xs 2) (m:=1000) (by decide);simp only[ZZ,ZO,or_false] at w u;have hne:at' xs 0 % mm≠at' xs 1 % mm:=by simpa using hne
     refine⟨?_,?_,?_⟩
     ·show _<=(0:Int) - _/\(0:Int) - _<=_;omega
     ·show qK (at' n_ _) (at' n_ _)=true;split<;>split<;>first|exact ahA ns (by omega) (by omega) (by omega)|(exfalso;omega)
     ·show at' _ _∈_;simp only[ZZ,ZO,or_false];omega
  ·exact⟨by omega,h.2⟩
theorem Wf (script:List Int) (at_ many:Int) (a0:0<=at_) (a1:at_<=500) (n_:LS_) (hn:n_.length=many.toNat) (k:Nat) (hk:k < 60) (shut:List (Str×Str×Int)) (h:shut.length<=k/\∀ b∈shut,b.1∈n_/\b.2.1∈n_) :
  gQ script at_ many n_ shut k/\(c7 script at_ many n_ shut k).length<=k+1/\∀ b∈c7 script at_ many n_ shut k,b.1∈n_/\b.2.1∈n_:=by
 obtain⟨n1,n2,n3⟩:=Fy (aW script ((at_+(1:Int))+k)) 8 (by decide) (by decide);have n2:(aQ (aW script ((at_+(1:Int))+k)) 8).length=8:=n2;unfold gQ c7;dsimp only;generalize aQ (aW script ((at_+(1:Int))+k)) 8=xs at *
 have en:=λx y=>Uc (x:=x) (y:=y) hn;have pm:=@Pr many;generalize (if many > (1:Int) then many else(1:Int))=mm at *
 have ix:∀ i:Nat,i < 8->In xs.length (i:Int):=λi hi=>zu (by omega);refine⟨⟨⟨Fw _ _ (by omega) (by omega),n1⟩,⟨⟨ix 5 (by decide),pm⟩,ix 6 (by decide),pm⟩,λhne=>?_⟩,?_⟩
 ·have:=en _ _ hne;exact⟨⟨KZ this.1 this.2,K1 this.1 this.2,ix 7 (by decide),jl (by decide) (by decide)⟩,gF (by omega)⟩
 ·split
  ·rename_i hne;have:=en _ _ hne;refine⟨by rw[Zs];show _+1<=_;omega,λr hr=>?_⟩;rcases List.mem_append.mp hr with hr|hr
   ·exact h.2 r hr
   ·cases List.mem_singleton.mp hr;exact⟨jY (KZ this.1 this.2),jY (K1 this.1 this.2)⟩
  ·exact⟨by omega,h.2⟩
structure Gr (g:LS_×(List Bu)×(List (Str×Str×Int))):Prop where
 nd:g.1.Nodup
 len:g.1.length < 64
 rs:Rs g.1 g.2.1
 bs:∀ b∈g.2.2,b.1∈g.1/\b.2.1∈g.1
 rl:g.2.1.length < 64
 bl:g.2.2.length < 64
 so:g.1.Pairwise FQ
 nm:∀ n∈g.1,Nm n
 va:∀ r∈g.2.1,(1<=r.1/\r.1<=1000)/\qK r.2.1 r.2.2.1=true/\r.2.2.2∈[(0:Int),1,2,10]
theorem Rs.turn {rs:List Bu} (h:Rs n_ rs):Rs n_ (rs.map λq3:(Int×Str×Str×Int)=>(((0:Int) - q3.1),q3.2.1,q3.2.2.1,q3.2.2.2)):=λr hr=>by
 obtain⟨q,hq,rfl⟩:=List.mem_map.mp hr;exact h q hq
theorem Ud {rs:List Bu} (h:∀ r∈rs,RT r):∀ r∈(rs.map λq3:(Int×Str×Str×Int)=>(((0:Int) - q3.1),q3.2.1,q3.2.2.1,q3.2.2.2)),(1<=r.1/\r.1<=1000)/\qK r.2.1 r.2.2.1=true/\r.2.2.2∈[(0:Int),1,2,10]:=λr hr=>by
 obtain⟨q,hq,rfl⟩:=List.mem_map.mp hr;obtain⟨v1,v2,v3⟩:=h q hq;exact⟨⟨show(1:Int)<=0 - q.1 by omega,show(0:Int) - q.1<=1000 by omega⟩,v2,v3⟩
theorem Wg (script:List Int) (at_ many reasons bars:Int) (a0:0<=at_) (a1:at_<=500) (m0:0<=many) (m1:many<=15) (r0:0<=reasons) (r1:reasons < 60) (b0:0<=bars) (b1:bars < 60):nu script at_ many reasons bars/\Gr (nq script at_ many reasons bars):=by
 obtain⟨n1,n2,n3⟩:=Fy (aW script at_) 6 (by decide) (by decide);have n2:(aQ (aW script at_) 6).length=6:=n2;have key:∀ head:List Int,6<=head.length->mD script at_ many reasons bars head/\Gr (mC script at_ many reasons bars head):=λhead hh=>by
  obtain⟨k1,k2,k3⟩:=ZC head hh many m0 (by omega);have knd:=ZG head many m1;have hn:(jT (cD head many)).length=many.toNat:=by rw[(d7 _).length_eq,k2]
  have nd:(jT (cD head many)).Nodup:=(d7 _).nodup_iff.mpr knd;have c8:∀ n_:LS_,n_.length=many.toNat->n_.Nodup->n_.Pairwise FQ->(∀ n∈n_,Nm n)->mz script at_ many reasons bars head n_/\Gr (mj script at_ many reasons bars head n_):=λn_ hn nd so nm=>by
   have ss:n_.Pairwise λa b=>qK a b=true:=(so.and nd).imp λh=>(lt_iff _ _).mpr h;obtain⟨t1,t2,t3⟩:=ur (P:=λf k=>some (gP script at_ many head n_ f k)) (step:=λf k=>cR script at_ many head n_ f k) (λk s=>s.length<=k/\Rs n_ s/\∀ r∈s,RT r) reasons.toNat [] ⟨zg 0,λr h=>(by cases h),λr h=>(by cases h)⟩ λk s hk h=>Wd script at_ many a0 a1 head hh n_ hn k (by omega) s ss h;obtain⟨s1,s2,s3⟩:=ur (P:=λf k=>some (gQ script at_ many n_ f k)) (step:=λf k=>c7 script at_ many n_ f k) (λk s=>s.length<=k/\∀ b∈s,b.1∈n_/\b.2.1∈n_) bars.toNat [] ⟨zg 0,λr h=>(by cases h)⟩ λk s hk h=>Wf script at_ many a0 a1 n_ hn k (by omega) s h;have sl:=kX s2 (show bars.toNat < 64 by omega);have c6:∀ told:List Bu,told.length<=reasons.toNat->(Rs n_ told/\∀ r∈told,RT r)->lZ script at_ many reasons bars head n_ told/\Gr (lY script at_ many reasons bars head n_ told):=λtold tl ⟨tr,tv⟩=>by
    have dl:=Bm told;have sp:=(gq (e:=eP4 eI eS eS eI) (HJ told)).length_eq;refine⟨⟨⟨⟨by omega,by omega⟩,by rw[sp];omega⟩,⟨Ie b0 (by omega),s1⟩,QU sl,sl⟩,nd,?_,?_,?_,?_,?_,so,nm,Ud λr hr=>tv r (oR.mp ((gq _).mem_iff.mp hr))⟩
    ·show n_.length < 64;omega
    ·exact Rs.turn λr hr=>tr r (oR.mp ((gq _).mem_iff.mp hr))
    ·exact λb hb=>s3 b (oR.mp ((gq _).mem_iff.mp hb))
    ·show(List.map _ _).length < 64;rw[zl,sp];omega
    ·show(rZ _ _).length < 64;rw[(gq _).length_eq];exact kX (Bm _) sl
   have:=c6 _ t2 t3;exact⟨⟨⟨Ie r0 (by omega),t1⟩,this.1⟩,this.2⟩
  have mem:∀ n,n∈jT (cD head many)->n∈cD head many:=λn h=>(d7 _).mem_iff.mp h;have:=c8 _ hn nd (qU _) λn h=>ZL head many m1 n (mem n h);exact⟨⟨⟨k1,by rw[k2];omega⟩,this.1⟩,this.2⟩
 have:=key _ (Nat.le_of_eq n2.symm);exact⟨⟨⟨Fw _ _ a0 (by omega),n1⟩,this.1⟩,this.2⟩
def LC:Str:=("abcd" : Str)
theorem afF:LC.length=4:=by decide +kernel
theorem ZM (h:i < 30):ch LC ((i:Int) / 8)=ch LT ((i:Int) / 8):=by
 have:∀ i:Fin 30,ch LC ((i.val:Int) / 8)=ch LT ((i.val:Int) / 8):=by decide +kernel
 exact this ⟨i,h⟩
theorem adl {a b:Str} (h:a≠b):(qK b a=true/\qK a b=false)\/(qK b a=false/\qK a b=true):=by
 have key:∀ {a b:Str},a≠b->qK b a=false->qK a b=true:=λ{a b} h e=>(lt_iff _ _).mpr ⟨by
  unfold qK at e;unfold FQ;rw[ltCps_eq];exact e,h⟩
 cases e:qK b a with
 |false=>exact .inr ⟨rfl,key h e⟩
 |true=>
  refine .inl ⟨rfl,?_⟩;cases f:qK a b with
  |false=>rfl
  |true=>exact absurd (CW ((lt_iff _ _).mp f).1 ((lt_iff _ _).mp e).1) h
theorem RM (weigh:Int) (order n_:LS_) (ol:order.length=30) (hs:∀ x∈order,x∈n_) (hne:∀ k:Nat,k < 30->at' order (k:Int)≠at' order (((k:Int)+1) % 30)) (k:Nat) (hk:k < 30) (so:List Bu) (h:so.length<=k/\Rs n_ so/\∀ r∈so,RT r):jM weigh order so k/\(cP weigh order so k).length<=k+1/\Rs n_ (cP weigh order so k)/\∀ r∈cP weigh order so k,RT r:=by
 have i1:In order.length (k:Int):=zu (by omega);have i2:In order.length (((k:Int)+1) % 30):=jl (by decide) (by omega);have a1:=hs _ (jY i1);have a2:=hs _ (jY i2);have ne:=hne k hk;refine⟨⟨⟨i1,i2⟩,⟨Y5 (by omega) (by omega),jl (by decide) (yk 4)⟩,gF (by omega)⟩,?_,?_⟩
 ·show(so++[_]).length<=k+1;rw[Zs];show _+1<=_;omega
 unfold cP;dsimp only;have w:=jY (xs:=[(5:Int),((1000:Int) - k),((1:Int)+k),((1:Int)+(((k:Int) * k) % (9:Int)))]) (i:=weigh % 4) (jl (by decide) (yk 4));simp only[ZZ,ZO,or_false] at w;generalize at' order (k:Int)=x at *
 generalize at' order (((k:Int)+1) % 30)=y at *
 have m9:=fX ((k:Int) * k) (m:=9) (by decide);have m3:=fX (k:Int) (m:=3) (by decide);generalize at' [(5:Int),((1000:Int) - k),((1:Int)+k),((1:Int)+(((k:Int) * k) % (9:Int)))] (weigh % 4)=wt at *
 generalize (k:Int) * k % 9=q9 at *
 have o:=adl ne;constructor
 ·intro r hr;rcases List.mem_append.mp hr with hr|hr
  ·exact h.2.1 r hr
  ·cases List.mem_singleton.mp hr;rcases o with⟨o1,o2⟩|⟨o1,o2⟩
   ·rw[o1,o2];exact⟨a2,a1⟩
   ·rw[o1,o2];exact⟨a1,a2⟩
 ·intro r hr;rcases List.mem_append.mp hr with hr|hr
  ·exact h.2.2 r hr
  ·cases List.mem_singleton.mp hr;refine⟨⟨?_,?_⟩,?_,?_⟩
   ·show(-1000:Int)<=0 - wt;omega
   ·show(0:Int) - wt ≤ -1;omega
   ·show qK (if qK y x=true then y else x) (if qK x y=true then y else x)=true;rcases o with⟨o1,o2⟩|⟨o1,o2⟩
    ·rw[o1,o2];exact o1
    ·rw[o1,o2];exact o2
   ·show(k:Int) % 3∈_;simp only[ZZ,ZO,or_false];omega
theorem ZP:(((rng 0 (kN 30)).map λv3:Int=>(Txt.mul (ch LC (v3 / (8:Int))) ((1:Int)+(v3 % (8:Int))))).length=30/\((rng 0 (kN 30)).map λv3:Int=>(Txt.mul (ch LC (v3 / (8:Int))) ((1:Int)+(v3 % (8:Int))))).Nodup)/\(∀ n∈((rng 0 (kN 30)).map λv3:Int=>(Txt.mul (ch LC (v3 / (8:Int))) ((1:Int)+(v3 % (8:Int))))),Nm n):=by
 rw[NQ];have mm:∀ n,n∈((rng 0 30).map λv3:Int=>(Txt.mul (ch LC (v3 / (8:Int))) ((1:Int)+(v3 % (8:Int)))))->∃ i:Nat,i < 30/\n=Txt.mul (ch LT ((i:Int) / 8)) (1+(i:Int) % 8):=λn h=>by
  obtain⟨k,hk,rfl⟩:=List.mem_map.mp h;obtain⟨i,hi,rfl⟩:=J9 hk;exact⟨i,hi,by rw[ZM hi]⟩
 refine⟨⟨by rw[zl,oX],Rf λi j hi hj e=>?_⟩,λn h=>?_⟩
 ·rw[ZM hi,ZM hj] at e;exact congrArg Fin.val (ZF ⟨i,hi⟩ ⟨j,hj⟩ e)
 ·obtain⟨i,hi,rfl⟩:=mm n h;exact Ub (by omega) (by omega) (by omega)
theorem ZQ (x turn weigh:Int):lM x turn weigh/\Gr (lK x turn weigh):=by
 have m2:=fX x (m:=2) (by decide);obtain⟨⟨hn,nd⟩,nm⟩:=ZP;unfold lM lK;dsimp only;rw[show("abcd" : Str)=LC from rfl];have d0:(rng 0 (kN 30)).length<=100000:=by rw[oX,NQ];decide
 have d1:∀ v3∈rng 0 (kN 30),In LC.length (v3 / 8)/\(1+v3 % 8<=1000 ∧ -1000<=1+v3 % 8/\(ch LC (v3 / 8)).length<=1000):=λk hk=>by
  rw[NQ] at hk;obtain⟨h1,h2⟩:=abY hk;have m8:=fX k (m:=8) (by decide);refine⟨in_of (by omega) (by rw[afF];omega),by omega,by omega,by rw[pW];decide⟩
 generalize ((rng 0 (kN 30)).map λv3:Int=>(Txt.mul (ch LC (v3 / (8:Int))) ((1:Int)+(v3 % (8:Int)))))=n_ at *
 have ix:∀ k_:Int,In n_.length ((((7:Int) * k_)+turn) % (30:Int)):=λk_=>jl (by decide) (by omega);have ol:((rng 0 (kN 30)).map λv3:Int=>(at' n_ ((((7:Int) * v3)+turn) % (30:Int)))).length=30:=by rw[zl,oX,NQ]
 have os:∀ y∈((rng 0 (kN 30)).map λv3:Int=>(at' n_ ((((7:Int) * v3)+turn) % (30:Int)))),y∈n_:=λy hy=>by
  obtain⟨k,_,rfl⟩:=List.mem_map.mp hy;exact jY (ix k)
 have oe:∀ k:Nat,k < 30->at' ((rng 0 (kN 30)).map λv3:Int=>(at' n_ ((((7:Int) * v3)+turn) % (30:Int)))) (k:Int)=at' n_ ((((7:Int) * (k:Int))+turn) % (30:Int)):=λk hk=>by
  rw[Eb _ k (by rw[ol];exact hk),List.getElem_map];unfold rng;rw[List.getElem_map,List.getElem_range,Int.zero_add]
 have nn:∀ i j:Int,0<=i->i < 30->0<=j->j < 30->i≠j->at' n_ i≠at' n_ j:=λi j i0 i1 j0 j1 hne e=>by
  obtain⟨a,rfl⟩:∃ a:Nat,i=(a:Int):=⟨i.toNat,by omega⟩;obtain⟨b,rfl⟩:∃ b:Nat,j=(b:Int):=⟨j.toNat,by omega⟩;rw[Eb n_ a (by omega),Eb n_ b (by omega)] at e;have pw:=List.pairwise_iff_getElem.mp nd;rcases Nat.lt_or_gt_of_ne (show a≠b by omega) with h|h
  ·exact pw a b (by omega) (by omega) h e
  ·exact pw b a (by omega) (by omega) h e.symm
 have ne:∀ k:Nat,k < 30->at' ((rng 0 (kN 30)).map λv3:Int=>(at' n_ ((((7:Int) * v3)+turn) % (30:Int)))) (k:Int)≠at' ((rng 0 (kN 30)).map λv3:Int=>(at' n_ ((((7:Int) * v3)+turn) % (30:Int)))) (((k:Int)+1) % 30):=λk hk=>by
  obtain⟨j,hj,e⟩:∃ j:Nat,j < 30/\((k:Int)+1) % 30=(j:Int):=⟨(((k:Int)+1) % 30).toNat,by omega,by omega⟩;rw[e,oe k hk,oe j hj];exact nn _ _ (by omega) (by omega) (by omega) (by omega) (by omega)
 generalize ((rng 0 (kN 30)).map λv3:Int=>(at' n_ ((((7:Int) * v3)+turn) % (30:Int))))=order at *
 obtain⟨t1,t2,t3⟩:=ur (P:=λf k=>some (jM weigh order f k)) (step:=λf k=>cP weigh order f k) (λk s=>s.length<=k/\Rs n_ s/\∀ r∈s,RT r) ((29:Int)+(x % (2:Int))).toNat [] ⟨zg 0,λr h=>(by cases h),λr h=>(by cases h)⟩ λk s hk h=>RM weigh order n_ ol os ne k (by omega) s h;generalize (rng 0 ((29:Int)+(x % (2:Int))).toNat).foldl (λf k=>cP weigh order f k) []=so at *
 have sp:=(gq (e:=aX) so).length_eq;have mem:∀ y,y∈jT n_↔y∈n_:=λy=>(d7 n_).mem_iff;refine⟨⟨⟨d0,d1⟩,⟨d0,λk _=>ix k⟩,⟨Ie (by omega) (by omega),t1⟩,by omega,by omega,by rw[sp];omega⟩,(d7 n_).nodup_iff.mpr nd,?_,?_,?_,?_,?_,qU _,λn h=>nm n ((mem n).mp h),Ud λr hr=>t3.2 r ((gq _).mem_iff.mp hr)⟩
 ·show(jT n_).length < 64;rw[(d7 n_).length_eq];omega
 ·exact Rs.turn λr hr=>by
   have:=t3.1 r ((gq _).mem_iff.mp hr);exact⟨(mem _).mpr this.1,(mem _).mpr this.2⟩
 ·exact λb hb=>(by cases hb)
 ·show(List.map _ _).length < 64;rw[zl,sp];omega
 ·show 0 < 64;decide
theorem ZR (script:List Int):lN script/\Gr (iD script):=by
 obtain⟨n1,n2,n3⟩:=Fy (aW script 0) 12 (by decide) (by decide);have n2:(aQ (aW script 0) 12).length=12:=n2;unfold lN iD;dsimp only;generalize aQ (aW script 0) 12=head at *
 have ix:∀ i:Nat,i < 12->In head.length (i:Int):=λi hi=>zu (by omega);have c:=ZQ (at' head 9 / 16) (at' head 10) (at' head 11);have m1:=fX (at' head 6) (m:=15) (by decide);have m2:=fX (at' head 7) (m:=22) (by decide);have m3:=fX (at' head 8) (m:=4) (by decide);have g:=Wg script 0 (at' head 6 % 15) (at' head 7 % 22) (at' head 8 % 4) (by decide) (by decide) m1.1 (by omega) m2.1 (by omega) m3.1 (by omega);refine⟨⟨⟨Fw _ _ (by decide) (by decide),n1⟩,ix 9 (by decide),λ_=>⟨⟨ix 9 (by decide),ix 10 (by decide),ix 11 (by decide)⟩,c.1⟩,λ_=>⟨ix 6 (by decide),⟨ix 7 (by decide),ix 8 (by decide)⟩,g.1⟩⟩,?_⟩;split
 ·exact c.2
 ·exact g.2
theorem Wh (d:Dt) (sg:Str) (n:Int) (h:n<=1000):jP d sg n:=by
 unfold jP;intro hs;obtain⟨x,rfl⟩:=Ii hs;refine⟨⟨rfl,λ_=>rfl⟩,λhl=>⟨⟨rfl,?_⟩,λs h=>ach h⟩⟩;rw[aci];have h2:(x.length:Int)<=n:=ka ((ZE _ _).mp hl).2;omega
theorem Pu {sg:Str} {n:Int} (h:iR d sg n=true):nP d=true:=by
 unfold iR at h;rw[ZE] at h;exact h.1
theorem ZS (d:Dt):qF d:=Wh d _ 8 (by decide)
theorem ZV (h:dG d=true):nP d=true:=Pu h
theorem Ue (h:dG d=true):d=eS (JX d):=by obtain⟨x,rfl⟩:=Ii (ZV h);rfl
theorem zG (h:iG d=true):d=eI (Tr d):=by
 cases d with
 |int i=>rfl
 |_=>cases h
theorem ZW (d:Dt):pN d:=λh=>⟨zG h,λ_=>zG h⟩
theorem Ug (h:is_tuple d=true):∃ ds,d=.tup ds/\JT d=ds.length:=by
 obtain⟨ds,rfl⟩:=zV h;exact⟨ds,rfl,rfl⟩
theorem ajw (h:dF d 3=true):∃ a b c,d=.tup [a,b,c]:=by
 unfold dF at h;rw[ZE,qA] at h;obtain⟨ds,rfl,e⟩:=Ug h.1;rw[e] at h;have h:=h.2
 match ds,h with
 |[a,b,c],_=>exact⟨a,b,c,rfl⟩
theorem ajx (h:dF d 4=true):∃ a b c x,d=.tup [a,b,c,x]:=by
 unfold dF at h;rw[ZE,qA] at h;obtain⟨ds,rfl,e⟩:=Ug h.1;rw[e] at h;have h:=h.2
 match ds,h with
 |[a,b,c,x],_=>exact⟨a,b,c,x,rfl⟩
theorem Uh (d:Dt) (n:Int):oA d n:=λh=>acf h
theorem ajy {b:Bool} (h:(!b)=false):b=true:=by cases b<;>first|rfl|cases h
def B3 (a b c:Dt):Bool:=dG a&&(dG b&&(qK (JX a) (JX b)&&(iG c&&decide ((0:Int)<=Tr c))))
theorem ahB (d:Dt):yD d:=by
 refine⟨Uh d 3,λh=>?_⟩;obtain⟨a,b,c,rfl⟩:=ajw (ajy h);exact⟨rfl,ZS a,λh1=>⟨ZS b,λh2=>⟨⟨Ue h1,Ue h2⟩,λ_ h3=>zG h3⟩⟩⟩
def R4 (x a b c:Dt):Bool:=eZ x&&B3 a b c
theorem afG (h:dF d 4=false):dh d=false:=by
 unfold dh;rw[h];rfl
theorem ZX (d:Dt):lO d:=by
 refine⟨Uh d 4,λh=>?_⟩;obtain⟨x,a,b,c,rfl⟩:=ajx h;exact⟨⟨in_of (by decide) (by simp),ZW _⟩,λ_=>⟨rfl,ahB _⟩⟩
theorem adn (n_:LS_):∀ (rs:List Bu) (m:List (Str×Str)),Rs n_ rs->Hd n_ m →
  pU (λ(vz:(List (Str×Str))) (q1:aU)=>(fG vz q1)) (λ(vz:(List (Str×Str))) (q1:aU)=>some (p7 vz q1)) rs m/\rs.foldl (λ(vz:(List (Str×Str))) (q1:aU)=>(fG vz q1)) m=rs.foldl jb m/\Hd n_ (rs.foldl jb m)
 |[],m,_,h=>⟨trivial,rfl,h⟩
 |r::rs,m,hr,h=>by
  obtain⟨ha,hb⟩:=hr r (zo ..);obtain⟨d,e⟩:=acw (look m r.2.1) (look m r.2.2.1) h.kn h.ml;have e:fG m r=jb m r:=e;obtain⟨i1,i2,i3⟩:=adn n_ rs (jb m r) (λx hx=>hr x (zt _ hx)) (h.join ha hb);refine⟨⟨⟨⟨h.has ha,h.has hb⟩,d⟩,?_⟩,?_,i3⟩
  ·show pU _ _ rs (fG m r);rw[e];exact i1
  ·rw[QP,QP,e];exact i2
theorem ahC (nd:n_.Nodup) (hl:n_.length < 1000) {rs:List Bu} (hr:Rs n_ rs):rU n_ rs/\jr n_ rs=hb n_ rs/\Hd n_ (hb n_ rs):=by
 obtain⟨i1,i2,i3⟩:=adn n_ rs _ hr (hd0 nd hl);exact⟨⟨(KY n_ nd hl).1,i1⟩,i2,i3⟩
theorem afH {r:Bu} (h:(1<=r.1/\r.1<=1000)/\qK r.2.1 r.2.2.1=true/\r.2.2.2∈[(0:Int),1,2,10]) (n1:Nm r.2.1) (n2:Nm r.2.2.1):dh (aX r)=true:=by
 show R4 (.int r.1) (.str r.2.1) (.str r.2.2.1) (.int r.2.2.2)=true;unfold R4 B3;rw[Ua n1,Ua n2];show((true&&(decide ((1:Int)<=r.1)&&decide (r.1<=1000)))&&(true&&(true&&(qK r.2.1 r.2.2.1&&(true&&decide ((0:Int)<=r.2.2.2))))))=true;have h3:=h.2.2;simp only[ZZ,ZO,or_false] at h3;rw[h.2.1,QA h.1.1,QA h.1.2,QA (show(0:Int)<=r.2.2.2 by omega)];rfl
theorem acA (nd:n_.Nodup) (hl:n_.length < 64) (so:n_.Pairwise FQ) {rs:List Bu} (hr:Rs n_ rs):lQ n_ rs/\(gn n_ rs).length < 64/\∀ x∈n_,qG n_ rs x/\In (((gn n_ rs).filter λeV:LS_=>(decide (x∈eV))).map λeV:LS_=>eV).length (0:Int) ∧
  at' (((gn n_ rs).filter λeV:LS_=>(decide (x∈eV))).map λeV:LS_=>eV) (0:Int)=cZ n_ rs x:=by
 obtain⟨d1,P,e1,p⟩:=Zy nd hl hr;obtain⟨b1,b2,b3⟩:=ahC nd (by omega) hr;refine⟨d1,by rw[e1,(oW P).length_eq];exact kX p.len hl,λx xn=>?_⟩;rw[e1];obtain⟨q,hq,hx⟩:=p.cov x xn;obtain⟨i1,o1,a1⟩:=pick (P:=rz P) ⟨q,(oW P).mem_iff.mpr hq,hx⟩;refine⟨⟨b1,?_⟩,i1,?_⟩
 ·rw[b2];refine⟨b3.has xn,?_,λy hy=>yF.mpr hy⟩;rw[b3.keys];omega
 ·generalize at' (((rz P).filter λeV:LS_=>(decide (x∈eV))).map λeV:LS_=>eV) (0:Int)=q at *
  have hq:=(oW P).mem_iff.mp o1;show q=jf (jr n_ rs) (look (jr n_ rs) x);rw[b2];unfold jf;rw[K2,b3.keys];refine(Jy (T9 (nd.filter _) (p.nd _ hq) λz=>?_) (so.filter _) (p.srt _ hq)).symm;rw[List.mem_filter,qA];constructor
  ·rintro⟨hz,e⟩;exact(p.cls q hq x a1 z hz).mpr e.symm
  ·intro hz;have zn:=p.sub _ hq _ hz;exact⟨zn,((p.cls q hq x a1 z zn).mp hz).symm⟩
theorem acB {g:fY} (s:Gr g) {r:Bu} (h:r∈g.2.1):oG g r/\qH g r/\kj g r=fZ g r/\is_tuple (fZ g r)=true/\EqX (fZ g r) (fZ g r)/\eqX (fZ g r) (fZ g r)=true:=by
 have ok:=afH (s.va r h) (s.nm _ (s.rs r h).1) (s.nm _ (s.rs r h).2);have hl:=s.rl;have hr2:Rs g.1 ((g.2.1.filter λpQ:aU=>(!decide (pQ=r))).map λpQ:aU=>pQ):=λz hz=>by
  rw[K2] at hz;exact s.rs z (List.mem_filter.mp hz).1
 obtain⟨d1,l1,p1⟩:=acA s.nd s.len s.so hr2;have ra:=s.rs r h;unfold oG qH kj fZ;dsimp only;generalize ((g.2.1.filter λpQ:aU=>(!decide (pQ=r))).map λpQ:aU=>pQ)=rs at *
 obtain⟨pa,ia,ea⟩:=p1 _ ra.1;obtain⟨pb,ib,eb⟩:=p1 _ ra.2;rw[ea,eb];refine⟨⟨⟨ZX _,λz=>?_⟩,by omega,pa,λ_=>pb⟩,⟨⟨by omega,d1⟩,⟨by omega,ia⟩,λ_=>⟨by omega,ib⟩⟩,rfl,?_⟩
 ·rw[ok,uq.mpr h] at z;cases z
 ·split
  ·exact⟨rfl,⟨rfl,by decide⟩,rfl⟩
  ·have e:=Eqs.eq (e:=eP3 eS (eT eS) (eT eS)) (("parts" : Str),cZ g.1 rs r.2.1,cZ g.1 rs r.2.2.1) (("parts" : Str),cZ g.1 rs r.2.1,cZ g.1 rs r.2.2.1);rw[QA rfl] at e;have e:xg (Dt.tup [(Dt.str "parts"),((eT eS) (cZ g.1 rs r.2.1)),((eT eS) (cZ g.1 rs r.2.2.1))]) (Dt.tup [(Dt.str "parts"),((eT eS) (cZ g.1 rs r.2.1)),((eT eS) (cZ g.1 rs r.2.2.1))])=some true:=e;unfold EqX eqX;rw[e];refine⟨rfl,⟨rfl,?_⟩,rfl⟩;have ds:∀ xs:LS_,oJ (xs.map eS)<=1:=λxs=>by
    induction xs with
    |nil=>exact QO _
    |cons x xs ih=>exact Nat.max_le.mpr ⟨zg 1,ih⟩
   have a1:=ds (cZ g.1 rs r.2.1);have a2:=ds (cZ g.1 rs r.2.2.1);show min (max 1 (max (oJ _+1) (max (oJ _+1) 0))+1) (max 1 (max (oJ _+1) (max (oJ _+1) 0))+1)<=100;omega
theorem Ui {g:fY} {r:Bu} (h:r∉g.2.1):bB g (aX r):=by
 refine⟨⟨ZX _,λ_=>rfl⟩,?_⟩;unfold u6;have e:sU (Zi (aX r)) g.2.1=false:=by
  cases q:sU (Zi (aX r)) g.2.1 with
  |false=>rfl
  |true=>exact absurd (uq.mp q) h
 rw[e];cases dh (aX r)<;>rfl
theorem wI {g:fY} (h:dh d=false):bB g d:=by
 refine⟨⟨ZX _,λe=>?_⟩,?_⟩
 ·rw[h] at e;cases e
 ·unfold u6;rw[h];rfl
theorem fU {g:fY} (h:dF d 4=false):bB g d:=wI (afG h)
theorem Iz {f:Str} (h:Nm f) (t x:Int):jQ f t x:=by
 have:=h.1;have:=h.2.1;have s1:=slice_le f none (some (t % ((f.length:Int)+1)));have s2:=slice_le f (some (t % ((f.length:Int)+1))) none;have s3:=slice_le f (some (t % ((f.length:Int)+1)+1)) none;have o:at' [(36:Int),94] (x / 3 % 2)=36\/at' [(36:Int),94] (x / 3 % 2)=94:=by
  have:=jY (xs:=[(36:Int),94]) (i:=x / 3 % 2) (jl (by decide) (by decide));simpa using this
 refine⟨gF (by decide +kernel),⟨⟨jl (by decide) (by decide),by omega⟩,jl (by omega) ?_⟩,by omega,⟨⟨gF ?_,gF ?_⟩,⟨gF ?_,gF ?_⟩,gF ?_⟩,jl (by decide) (yk 3)⟩
 ·rcases o with o|o<;>rw[o]<;>decide +kernel
 ·rw[pW];omega
 ·rw[lH,pW];omega
 ·rw[pW];omega
 ·rw[lH,pW];omega
 ·omega
theorem acC {x a b c:Dt} (h:dG a=false):R4 x a b c=false:=by
 unfold R4 B3;rw[h];cases eZ x<;>rfl
theorem Z0 {g:fY} (s:Gr g) {r:Bu} (h:r∈g.2.1) (k:Nat) (hk:k < 10) (v:List Dt) (hv:v.length<=11+10 * k/\∀ d∈v,bB g d):nF v r/\(dO v r).length<=11+10 * (k+1)/\∀ d∈dO v r,bB g d:=by
 obtain⟨v1,v2,v3⟩:=s.va r h;obtain⟨hv1,hv2⟩:=hv;have ne:qK r.2.2.1 r.2.1=false:=by
  rcases adl (((lt_iff _ _).mp v2).2) with⟨o1,o2⟩|⟨o1,o2⟩
  ·rw[v2] at o2;cases o2
  ·exact o1
 have e2:bB g (Dt.tup [(eI r.1),(eS r.2.2.1),(eS r.2.1),(eI r.2.2.2)]):=wI (by
  show R4 (eI r.1) (eS r.2.2.1) (eS r.2.1) (eI r.2.2.2)=false;unfold R4 B3;rw[show qK (JX (eS r.2.2.1)) (JX (eS r.2.1))=false from ne];cases eZ (eI r.1)<;>cases dG (eS r.2.2.1)<;>cases dG (eS r.2.1)<;>rfl)
 have e3:bB g (Dt.tup [(eI r.1),(eS r.2.1),(eS r.2.2.1),(eI (r.2.2.2+(7:Int)))]):=Ui (r:=(r.1,r.2.1,r.2.2.1,r.2.2.2+7)) λz=>by
  have z:=(s.va _ z).2.2;simp only[ZZ,ZO,or_false] at v3 z;omega
 have e4:bB g (Dt.tup [(eI (r.1+(1001:Int))),(eS r.2.1),(eS r.2.2.1),(eI r.2.2.2)]):=wI (by
  show(eZ (.int (r.1+1001))&&_)=false;have:eZ (.int (r.1+1001))=false:=by
   show(true&&(decide ((1:Int)<=r.1+1001)&&decide (r.1+1001<=(1000:Int))))=false;rw[qf (show ¬ r.1+1001<=(1000:Int) by omega),kD,kD]
  rw[this];rfl)
 have all:∀ d∈[((eL eD) [(eI r.1),(eS r.2.1),(eS r.2.2.1),(eI r.2.2.2)]),(Dt.tup [(eI r.1),(eS r.2.2.1),(eS r.2.1),(eI r.2.2.2)]),(Dt.tup [(eI r.1),(eS r.2.1),(eS r.2.2.1),(eI (r.2.2.2+(7:Int)))]),(Dt.tup [(eI (r.1+(1001:Int))),(eS r.2.1),(eS r.2.2.1),(eI r.2.2.2)]),(Dt.tup [(eI r.1),(eS r.2.1),(eS r.2.2.1)]),(Dt.tup [(eI r.1),(eS r.2.1),(eS r.2.2.1),(eI r.2.2.2),(Dt.int 0)]),
   (Dt.tup [(eS r.2.1),(eS r.2.2.1),(eI r.2.2.2)]),(Dt.tup [(eS (VL (eI r.1))),(eS r.2.1),(eS r.2.2.1),(eI r.2.2.2)]),(Dt.tup [(eI r.1),((eL eS) [r.2.1]),(eS r.2.2.1),(eI r.2.2.2)]),(Dt.tup [(Dt.bl true),(eS r.2.1),(eS r.2.2.1),(eI r.2.2.2)])],bB g d:=by
  intro d hd;simp only[ZZ,ZO,or_false] at hd;rcases hd with rfl|rfl|rfl|rfl|rfl|rfl|rfl|rfl|rfl|rfl
  ·exact fU rfl
  ·exact e2
  ·exact e3
  ·exact e4
  ·exact fU rfl
  ·exact fU rfl
  ·exact fU rfl
  ·exact wI rfl
  ·exact wI (acC (x:=eI r.1) (a:=(eL eS) [r.2.1]) (b:=eS r.2.2.1) (c:=eI r.2.2.2) rfl)
  ·exact wI rfl
 have l3:∀ (v:List Dt) (a b c:Dt),(v++[a,b,c]).length=v.length+3:=λv a b c=>by rw[Zs];rfl
 refine⟨⟨gF (by show _+3<=1000;omega),gF (by show(v++[_,_,_]).length+3<=1000;rw[l3];omega),⟨by show r.1.natAbs<=1000000;omega,gF (by show((v++[_,_,_])++[_,_,_]).length+3<=1000;rw[l3,l3];omega)⟩,λ_=>gF (by rw[l3,l3,l3];omega)⟩,?_,?_⟩
 ·unfold dO;dsimp only;split
  ·rw[Zs,l3,l3,l3];show _+1<=_;omega
  ·rw[l3,l3,l3];omega
 ·intro d hd;unfold dO at hd;dsimp only at hd;have hd:d∈((v++[((eL eD) [(eI r.1),(eS r.2.1),(eS r.2.2.1),(eI r.2.2.2)]),(Dt.tup [(eI r.1),(eS r.2.2.1),(eS r.2.1),(eI r.2.2.2)]),(Dt.tup [(eI r.1),(eS r.2.1),(eS r.2.2.1),(eI (r.2.2.2+(7:Int)))])])++[(Dt.tup [(eI (r.1+(1001:Int))),(eS r.2.1),(eS r.2.2.1),(eI r.2.2.2)]),(Dt.tup [(eI r.1),(eS r.2.1),(eS r.2.2.1)]),(Dt.tup [(eI r.1),(eS r.2.1),(eS r.2.2.1),(eI r.2.2.2),(Dt.int 0)])])++[(Dt.tup [(eS r.2.1),(eS r.2.2.1),(eI r.2.2.2)]),(Dt.tup [(eS (VL (eI r.1))),(eS r.2.1),(eS r.2.2.1),(eI r.2.2.2)]),(Dt.tup [(eI r.1),((eL eS) [r.2.1]),(eS r.2.2.1),(eI r.2.2.2)])]\/d=(Dt.tup [(Dt.bl true),(eS r.2.1),(eS r.2.2.1),(eI r.2.2.2)]):=by
   split at hd
   ·rcases List.mem_append.mp hd with z|z
    ·exact .inl z
    ·exact .inr (List.mem_singleton.mp z)
   ·exact .inl hd
  rcases hd with hd|hd
  ·rcases List.mem_append.mp hd with hd|hd
   ·rcases List.mem_append.mp hd with hd|hd
    ·rcases List.mem_append.mp hd with hd|hd
     ·exact hv2 d hd
     ·exact all d (by simp only[ZZ,ZO,or_false] at hd ⊢;rcases hd with hd|hd|hd<;>simp[hd])
    ·exact all d (by simp only[ZZ,ZO,or_false] at hd ⊢;rcases hd with hd|hd|hd<;>simp[hd])
   ·exact all d (by simp only[ZZ,ZO,or_false] at hd ⊢;rcases hd with hd|hd|hd<;>simp[hd])
  ·exact all d (by rw[hd];simp)
theorem afI {g:fY} (s:Gr g):u9 g/\(jw g).length<=100000/\∀ d∈jw g,bB g d:=by
 have rl:=s.rl;have bl:=s.bl;have first:∀ d∈[Dt.non,(Dt.bl true),(Dt.int 0),(Dt.str ""),(Dt.tup []),Dt.emp,((eL eI) []),(cM g),(Dt.tup (Gm ((eT aX) g.2.1)++Gm (Dt.tup [(Dt.int 1)]))),(Dt.tup [(Dt.int 1),(Dt.str "a"),(Dt.str "b")]),(Dt.tup [(Dt.int 1),(Dt.str "a"),(Dt.str "b"),(Dt.int 0),(Dt.int 0)])],bB g d:=by
  intro d hd;simp only[ZZ,ZO,or_false] at hd;rcases hd with rfl|rfl|rfl|rfl|rfl|rfl|rfl|rfl|rfl|rfl|rfl
  ·exact fU rfl
  ·exact fU rfl
  ·exact fU rfl
  ·exact fU rfl
  ·exact fU rfl
  ·exact fU rfl
  ·exact fU rfl
  ·exact fU rfl
  ·show bB g (Dt.tup (g.2.1.map aX++[Dt.int 1]));cases g.2.1 with
   |nil=>exact fU rfl
   |cons r rs=>
    refine wI ?_;unfold dh;rw[show Nv (Dt.tup ((r::rs).map aX++[Dt.int 1])) 0=aX r from ahn _ _];cases dF (Dt.tup ((r::rs).map aX++[Dt.int 1])) 4<;>rfl
  ·exact fU rfl
  ·exact fU rfl
 have cl:(cut g.2.1 none (some (2:Int))).length<=2:=by
  by_cases h:2<=g.2.1.length
  ·rw[show cut g.2.1 none (some 2)=_ from afc (k:=2) h,JJ];omega
  ·have:=ab0 g.2.1 none (some (2:Int));omega
 have init:∀ L:List Dt,(∀ d∈L,bB g d)->L.length=11->_:=λL hL hl=>J3 (P:=λv r=>some (nF v r)) (step:=λv r=>dO v r) (λk v=>v.length<=11+10 * k/\∀ d∈v,bB g d) (cut g.2.1 none (some (2:Int))) 0 L ⟨by omega,hL⟩ λk r v e h=>by
  have hk:=(List.getElem?_eq_some_iff.mp e).1;have hm:r∈g.2.1:=abZ (qE e);rw[k9] at h ⊢;exact Z0 s hm k (by omega) v h
 obtain⟨f1,f2,f3⟩:=init _ first rfl;refine⟨⟨⟨rfl,rfl,gF ?_⟩,f1,gF ?_⟩,?_,?_⟩
 ·show(g.2.1.map aX).length+1<=1000;rw[zl];omega
 ·rw[zl];exact Zp (Nat.add_le_add f2 (QU bl)) (by omega)
 ·show(List.foldl _ _ _++List.map _ _).length<=100000;rw[Zs,zl];exact Zp (Nat.add_le_add f2 (QU bl)) (by omega)
 ·intro d hd;rcases List.mem_append.mp (show d∈List.foldl _ _ _++List.map _ _ from hd) with hd|hd
  ·exact f3 d hd
  ·obtain⟨b,_,rfl⟩:=List.mem_map.mp hd;exact fU rfl
theorem IK {g:fY} (s:Gr g) {xs:List Int} (hx:xs.length=4) {r:Bu} (h:r∈g.2.1):uI g xs () r/\oH g xs () r=.nx ():=by
 have L:=yc (step:=λ(s3:Unit) (vG:aU)=>((qJ g s3 vG):wA (Unit) Bool)) (P:=λ(s3:Unit) (vG:aU)=>some (Fv g s3 vG)) (gR r xs) λx hx=>by
  refine⟨λh=>Ui λz=>?_,.inl ?_⟩
  ·rw[uq.mpr z] at h;cases h
  ·unfold qJ jg;rw[zC (by simp)]
 have ix:∀ i:Nat,i < 4->In xs.length (i:Int):=λi hi=>zu (by omega);unfold oH uI;rw[L.1];exact⟨⟨⟨⟨⟨⟨⟨ix 0 (by decide),ix 1 (by decide)⟩,Iz (s.nm _ (s.rs r h).1) _ _⟩,⟨ix 2 (by decide),ix 3 (by decide)⟩,Iz (s.nm _ (s.rs r h).2) _ _⟩,gF (by show 4+4<=1000;decide)⟩,L.2⟩,trivial⟩,rfl⟩
theorem Z1 (ns:List Int) (_:ns.length<=63):Pk ns/\Pj ns=true:=by
 obtain⟨d,s⟩:=ZR ns;obtain⟨n1,n2,n3⟩:=Fy (aW ns 0) 16 (by decide) (by decide);have n2:(aQ (aW ns 0) 16).length=16:=n2;have hx:(cut (aQ (aW ns 0) 16) (some 12) none).length=4:=by
  rw[show cut (aQ (aW ns 0) 16) (some 12) none=_ from Y6 (k:=12) (by omega),kg,n2]
 unfold Pk Pj;dsimp only;generalize iD ns=g at *
 have A:=yc (step:=λ(s1:Unit) (vs:aU)=>((qI g s1 vs):wA (Unit) Bool)) (P:=λ(s1:Unit) (vs:aU)=>some (Ft g s1 vs)) g.2.1 λr hr=>by
  obtain⟨h1,h2,h3,h4,h5,h6⟩:=acB s hr;refine⟨⟨h1,?_⟩,.inl ?_⟩
  ·dsimp only;rw[h3];exact λ_=>⟨h2,h5⟩
  ·unfold qI;dsimp only;rw[h3,h4,h6];rfl
 have B:=yc (step:=λ(s2:Unit) (vs:aU)=>((oH g (cut (aQ (aW ns 0) 16) (some 12) none) s2 vs):wA (Unit) Bool)) (P:=λ(s2:Unit) (vs:aU)=>some (uI g (cut (aQ (aW ns 0) 16) (some 12) none) s2 vs)) g.2.1 λr hr=>⟨(IK s hx hr).1,.inl (IK s hx hr).2⟩;obtain⟨o1,o2,o3⟩:=afI s;have ao:((jw g).map λvG:Dt=>(jg g vG)).all id=true:=by
  rw[qi];intro x hx;obtain⟨o,ho,rfl⟩:=List.mem_map.mp hx;rfl
 rw[A.1,B.1,ao];exact⟨⟨d,A.2,⟨Fw _ _ (by decide) (by decide),n1⟩,B.2,⟨o1,o2⟩,o3⟩,rfl⟩
theorem H1:∀ ns:List Int,ns.length<=63->F_law [.z (.lst (ns.map .int))]=some (.z (.bl true)):=(adk Z1).1
theorem H2:∀ ns:List Int,ns.length<=63->F_law [.l (ns.map .int)]=some (.z (.bl true)):=(adk Z1).2
end G15
end
open PySem PySem.W PyProof.Rows
namespace PySem.W.Fast
def tw9217058000908232042:=0
def tw8841214740760348677:=0
def tw3386636689906004535:=0
def tw11040743045813297197:=0
def tw16449030603344838926:=0
def tw12231179122875338127:=0
def tw9445343541472479393:=0
def tw2681433945751871284:=0
def tw11016747412788836458:=0
def tw12375089829522335783:=0
def tw5352496276029217309:=0
def tw190423627068462394:=0
def tw36244076972988978:=0
def tw15106481731098650448:=0
def tw3323166792163917360:=0
def tw12478705427913054086:=0
def tw8702954593738554478:=0
def tw4279316859751610887:=0
def tw7182787537594297512:=0
def tw13857985566921661020:=0
def tw8024683837200315671:=0
def tw2909233992384658856:=0
def tw3864349894308982205:=0
def tw4609643785281608924:=0
def tw10458060815662161443:=0
def tw12921526822454196940:=0
def tw9461377384799874833:=0
def tw16182116068365245957:=0
def tw12133020140384168241:=0
def tw14999427151736515416:=0
def tw11276331565859026717:=0
def tw7956554623089249713:=0
def tw14511952710699638737:=0
def tw3061467188897871689:=0
def tw1318445456093766316:=0
def tw12170417565503277725:=0
def tw7241558380181120491:=0
def tw11803030224520584463:=0
def tw3505278730628814330:=0
def tw10449413804174710475:=0
def tw15925305069104619601:=0
def tw8601166574403787953:=0
def tw15308712255932023142:=0
def tw13838936422739475319:=0
def tw3788384695264579918:=0
def tw14075016056434053708:=0
def tw17922688127488847365:=0
def tw4463676138929355901:=0
def tw10708171721792816850:=0
def tw11191748754755615761:=0
def tw11094410970781081773:=0
def tw8604178991275997983:=0
def tw13919890682043396359:=0
def tw11238827809415090373:=0
def tw11289844384903912627:=0
def tw9774203891139973266:=0
def tw2286351708416692976:=0
def tw14256493455638267186:=0
def tw3363631507114180270:=0
def tw4823422956248132063:=0
def tw1812184522940868156:=0
def tw5524479139924616016:=0
def tw3433472336955468773:=0
def tw11771329651139150312:=0
def tw12952585354511223421:=0
def tw17743749224865286551:=0
def tw14517449018675615550:=0
def tw4844450288667016434:=0
def tw15358570775264358953:=0
def tw15724596995149257399:=0
end PySem.W.Fast
set_option maxRecDepth 100000 in
set_option maxHeartbeats 0 in
theorem PySem.Challenge.cw_onefolk_k15_what_hangs_on_a_reason_holds : PySem.Challenge.rw_onefolk_k15_what_hangs_on_a_reason.Holds := by
 w_on;refine PySem.W.holds_law (by decide +kernel) λsaid=>?_
 k_head;(case hw=>w_witness2)
 k_fill
 refine P1.walkT (l:=PySem.Challenge.rw_onefolk_k15_what_hangs_on_a_reason) (T:=G15.T) (k:=9) (x := "_law_script") (st:=G15.s_law) (F_law:=G15.F_law) (λt=>t.x_law) ⟨rfl,by decide,by decide⟩ rfl (λw mg base t=>G15.all_ok t) rfl rfl G15.H1 G15.H2 (λ_ _ _ _ _ _ _=>rfl) (λw h Y=>PySem.W.kIn_of Y) ?F
 case F=>
  intro w mg h KX G
  refine' ⟨Jn KX G _,Jn KX G _,Jn KX G _,Jn KX G _,Jn KX G _,Jn KX G _,Jn KX G _,Jn KX G _,P1.jR KX G _ _ _ _,_,_,_,_,_,_,_,_,_,_,_,_,_,qc KX G _,P1.jR KX G _ _ _ _,P1.jR KX G _ _ _ _,P1.jR KX G _ _ _ _,P1.jR KX G _ _ _ _,P1.jR KX G _ _ _ _,P1.jR KX G _ _ _ _,P1.jR KX G _ _ _ _,P1.jR KX G _ _ _ _,P1.jR KX G _ _ _ _,P1.jR KX G _ _ _ _,P1.jR KX G _ _ _ _,P1.jR KX G _ _ _ _,P1.jR KX G _ _ _ _,P1.jR KX G _ _ _ _,P1.jR KX G _ _ _ _,P1.jR KX G _ _ _ _,P1.jR KX G _ _ _ _,P1.jR KX G _ _ _ _,P1.jR KX G _ _ _ _,P1.jR KX G _ _ _ _,P1.jR KX G _ _ _ _,P1.jR KX G _ _ _ _,P1.jR KX G _ _ _ _,P1.jR KX G _ _ _ _,P1.jR KX G _ _ _ _,P1.jR KX G _ _ _ _,P1.jR KX G _ _ _ _,qc KX G _,qc KX G _,qc KX G _,qc KX G _,qc KX G _,qc KX G _,qc KX G _,qc KX G _,qc KX G _,qc KX G _,qc KX G _,qc KX G _,qc KX G _,qc KX G _,P1.mgT KX G _,P1.mgT KX G _,P1.mgT KX G _⟩
  all_goals try (show _=_;k_is)
  all_goals try kernel_rfl
