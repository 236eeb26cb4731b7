import PyProof.Rows.All
import Wide.All
import OpenK.AllK
import Wide.FinOn
import PyProof.EqAt
import PyProof.EqKinds
import PyProof.TupleCall
import PyProof.StrLoop
import PyProof.StrWalks
import PyProof.CompFree
import PyProof.NeKinds
import PyProof.Rows.RuleN_isinstance
import PyProof.ConsumeWalk
import PyProof.IsiPairs
import PyProof.IsiSeqPairs
import PyProof.IsiHeapPairs
import PyProof.IsiNone
import PyProof.PureStr
import PyProof.StrCalls
import PyProof.Rows.SortStr
import PyProof.Rows.StrJoin2
import PyProof.CallStr
import PyProof.WalkInts
import PyProof.Rows.StrDigits
import PyProof.DictWalks
import PyProof.DictTruth
import PyProof.CollectWalk
import PyProof.WalkLemmas
import PyProof.Rows.SortShellK
import PyProof.Rows.SortWalk
import PyProof.SetKind
import PyProof.FactsAll.set
import PyProof.Rows.SetFrom
import PyProof.TupleKey
import PyProof.IsRules
import PyProof.WalksMore
import PyProof.SetRoads
import PyProof.DictCompW
import PyProof.ListRange
import PyProof.FString5
import PyProof.MeetsSeq2
import PyProof.FactsAll.tuple_0
import PyProof.FactsAll.tuple_2
import PyProof.FactsAll.tuple_3
import PyProof.EnumFor
import PyProof.EnumMake
import PyProof.EnumStmt
import PyProof.Rows.EnumRows
import PyProof.SumWalk
import PyProof.Rows.SeqCalls
import KE.KRevSl
import PyProof.ZipIter
import PyProof.TupleIter
import PyProof.AttrMiss
import KE.KDictOf
import KE.KDictLaws
import PyProof.TupleOfStr
import PyProof.StrCalls2
import PyProof.Rows.StrNews2
import PyProof.Rows.StrItems
import PyProof.Rows.StrSplitAre
import PyProof.Rows.StrGen4
import PyProof.Rows.RegStrFacts
import PyProof.Rows.FStr
import PyProof.SetNew
import PyProof.Rows.SetObj
import PyProof.Seq
import PyProof.Rows.SortShell
import PyProof.FactsAll.list_3
import KE.KIntText
import PyProof.StrCalls6
import PyProof.FitsReplace
import PyProof.ToksMono
import PyProof.FactsAll.str_4
import PyProof.StrBlock
import PyProof.RangeIter
import PyProof.CodeObj
import PyProof.Rows.CallKwBuiltin
import PyProof.StrLawsTight
import PyProof.Rows.StrPartPair
import PyProof.Rows.CatFin
import PyProof.Rows.StrClose
import PyProof.Rows.StrNext
import PyProof.Rows.StrBetween
import Lean
import PySem.Challenge.RW_onefolk_k14_why_two_are_one
open Option renaming some->U,none->Y
abbrev Z:=List
abbrev O:=Option
theorem S{α:Sort u}{a:α}:a=a:=rfl
open PySem renaming Value->A0,Addr->A1,Shared->A2,Program->A3,World->A4,Around->A5,Heap->A6,wpAny->A7,model->A8,starEach->A9,sizeLine->AA,Stmt->AB,Keyword->AC,backTo->AD,Obj->AE,codeAny->AF,compareOp->AG,bootBuiltins->AH,Paired->AI,Str->AJ
open PyProof.Rows renaming envOfC->AK,wpS_bind->AL,arrOf->AM
open PySem.W (instObj methodObj findIn specialIn keepIn cellsFrom_some fnOf codeIn codeRec_of nsIn isFn looks_findIn clsIn InstAt looks_mroIn mroIn check_slot looks_clsIn takesIn lookIn findObj handedIn exmOne kitOne kia_one)
set_option maxRecDepth 100000
set_option maxHeartbeats 4000000
set_option linter.all false
set_option Elab.async false
open PySem PySem.Spec PyProof.Rows
variable{w:A4}{i:Nat}{t:SetTable}{x:AJ}{a:A1}{prog:A3}{us:Z A0}{u:A0}{κ:Type}{o:AE}{h:A6}{items:Array A0}{P:A3}{α β:Type}{e:Expr}{n:Nat}{mg:AJ->O A0}{base:A6}{l:A1}{env:Env}{m:Z (AJ×AJ)}{AN:Z (A1×AE)}{s:A2}{it:A1}{j:Nat}{M:Model}{A:A5}{Q:Unit->A2->Prop}{hi:O Int}{D:A1}{es:Z Expr}{st:AB}{pos:Pos}{y:AJ}{hs:Z Int}{c tg:Expr}{body:Z AB}{fp:Z A1}{tn:Nat->A6->Prop}{iter:Expr}{lo:O Int}{tk:Nat}{pl:Z Nat}{C:A1}{op:CmpOp}{AQ:Z A0}{dx:O A1}{name:AJ}{tpos:Pos}{fd:FuncData}{apos:Pos}{qual:AJ}{scope:Scope}{osl sl:Array (O A0)}{p2 cpos:Pos}{XP:(AJ->O A0)->A6->Prop}{YP:A4->A6->Prop}{cl:Z (AJ×A1)}{is:Z Nat}{ifs:Z Expr}{elt tgt:Expr}{el:A1->Env->Sem Unit}{B:A5->Bool->Prop}{RR:A0->A1->Result->A2->Prop}{ep mask:Nat}{owner:Array (O Nat)}{elts:Z Expr}{x1:Nat}{γ δ:Type}{fI:A1}{bmB:Z A0}{newId:String}{os:OsState}{initId:String}{suite:Z AB}{Cs:Z A1}{a_:A1}
abbrev AZ:=Z PySem.Str
abbrev B9:=PySem.Value->PySem.Shared->Prop
abbrev B4:=PySem.W.Frag
abbrev B7:=Z Int
abbrev zb:=@wpAny_bind
abbrev zd:=@Heap.get?_push_of_some
abbrev ze:=@wpAny_pure
abbrev zg:=@Nat.le_refl
abbrev zh:=@if_pos
abbrev zi:=@List.length_map
abbrev zk:=@List.mem_cons_self
abbrev zo:=@List.mem_cons_of_mem
abbrev zr:=@Bool.false_eq_true
abbrev zt:=@Heap.lt_size
abbrev zv:=@Heap.get?_push_size
abbrev zw:=@List.map_cons
abbrev zz:=@Nat.le_of_ble_eq_true
abbrev zC:=@if_neg
abbrev zI:=@List.size_toArray
abbrev zS:=@List.length_append
abbrev Zl:=@Nat.ne_of_lt
abbrev Zp:=@List.mem_append_left
abbrev Zs:=@List.getElem?_eq_getElem
abbrev Zz:=@Bool.and_eq_true
abbrev ZA:=@List.mem_append_right
abbrev ZE:=@decide_eq_false
abbrev ZH:=@Nat.le_trans
abbrev ZI:=@Bool.false_ne_true
abbrev ZN:=@List.getElem?_map
abbrev ZO:=@if_false
abbrev ZT:=@decide_eq_true
abbrev ZU:=@Nat.lt_of_lt_of_le
abbrev ZY:=@List.append_nil
abbrev ZZ:=@wpAny_mono
abbrev Z3:=@List.getElem?_append_left
abbrev qa:=@PySem.W.mg_none_of
abbrev qc:=@List.length_cons
abbrev qf:=@Array.getElem?_eq_getElem
abbrev qh:=@wpAny_newObj_type
abbrev qi:=@decide_eq_true_eq
abbrev qk:=@Nat.lt_succ_self
abbrev qo:=@List.all_eq_true
abbrev qq:=@Array.length_toList
abbrev qr:=@List.getElem?_cons_succ
abbrev qv:=@Heap.size_push
abbrev qA:=@wpAny_holding
abbrev qB:=@List.map_append
abbrev qS:=@if_true
abbrev qV:=@Array.getElem?_toList
abbrev Qb:=@Nat.lt_succ_of_lt
abbrev Qr:=@Bool.not_eq_true'
abbrev QA:=@List.mem_of_getElem?
abbrev QE:=@Heap.get?_update_self
abbrev QI:=@List.getElem?_append_right
abbrev QN:=@Heap.get?_update_other
abbrev QO:=@List.foldl_cons
abbrev QP:=@List.any_eq_true
abbrev QQ:=@List.getElem?_eq_none
abbrev QR:=@wpAny_typeOf
abbrev QU:=@List.map_map
abbrev QY:=@Or.inr
abbrev Q1:=@Nat.zero_le
abbrev Q2:=@List.mem_cons
abbrev Q3:=@wpAny_setState_of
abbrev Q4:=@List.append_assoc
abbrev ja:=@Option.some.inj
abbrev js:=@List.not_mem_nil
abbrev jv:=@List.getElem?_replicate
abbrev jI:=@Ne.symm
abbrev jS:=@Nat.ne_of_gt
abbrev j0:=@List.nodup_nil
abbrev j3:=@List.getElem_of_mem
abbrev Jn:=@wpAny_field
abbrev JA:=@List.find?_cons
abbrev JE:=@Bool.eq_iff_iff
abbrev JI:=@Option.bind_some
abbrev JJ:=@Nat.le_of_lt
abbrev JO:=@Nat.le_succ
abbrev JP:=@wpAny_truthy_bool
abbrev JS:=@Or.inl
abbrev JU:=@codeAny_builtin
abbrev JY:=@List.map_congr_left
abbrev ka:=@Heap.get?_update_ne
abbrev kb:=@PySem.W.mg_of
abbrev kc:=@Nat.lt_irrefl
abbrev ke:=@wpAny_isInstance
abbrev kf:=@wpAny_call_entry
abbrev kg:=@Obj.data_mapFields
abbrev ki:=@List.rel_of_pairwise_cons
abbrev km:=@List.length_set
abbrev ko:=@of_decide_eq_true
abbrev kq:=@List.any_cons
abbrev kr:=@List.all_cons
abbrev ku:=@PySem.mem_of_lookup
abbrev ky:=@Bool.and_false
abbrev kz:=@List.length_take
abbrev kA:=@List.length_drop
abbrev kB:=@decide_eq_false_iff_not
abbrev kC:=@List.map_nil
abbrev kD:=@wpAny_Call_Name_kw
abbrev kF:=@List.length_pos_of_mem
abbrev kK:=@wpAny_passesOwn
abbrev kL:=@Nat.not_lt_zero
abbrev kM:=@List.nil_append
abbrev kP:=@List.cons.injEq
abbrev kQ:=@Bool.not_true
abbrev kR:=@List.lookup_cons_self
abbrev kU:=@List.reverse_cons
abbrev kX:=@Bool.not_false
abbrev k4:=@decide_false
abbrev k6:=@codeAny_mono
abbrev k7:=@List.getElem_mem
abbrev k8:=@List.filter_cons
abbrev k9:=@List.filterMap_cons
abbrev Kb:=@wpAny_standAt
abbrev Ki:=@Bool.and_true
abbrev Kj:=@wpAny_comprehension_free
abbrev Kk:=@wpAny_execs_nil
abbrev Kn:=@wpAny_rule
abbrev Kt:=@wpAny_call
abbrev Kx:=@Nat.lt_of_le_of_lt
abbrev KA:=@wpAny_getItem_str_slice
abbrev KB:=@wpAny_callSpecial?_slot
abbrev KF:=@List.pairwise_mergeSort
abbrev KG:=@Nat.zero_add
abbrev KI:=@wpAny_loadPart_at
abbrev KL:=@List.nodup_append
abbrev KM:=@List.length_range
abbrev KO:=@List.getElem?_set
abbrev KP:=@Int.toNat_natCast
abbrev KS:=@Array.size_append
abbrev KU:=@Array.getElem?_eq_none
abbrev KW:=@Obj.isFreed_of_fields
abbrev K0:=@wpAny_load
abbrev K2:=@wpAny_execs_cons
abbrev ya:=@Bool.true_and
abbrev yb:=@decide_true
abbrev ye:=@codeAny_call_builtin
abbrev yf:=@List.of_mem_zip
abbrev yi:=@List.mem_append
abbrev yk:=@List.replicate_succ
abbrev ym:=@List.mergeSort_perm
abbrev yn:=@Int.toNat_of_nonneg
abbrev yo:=@List.mem_map
abbrev yv:=@List.any_map
abbrev yz:=@List.mem_range
abbrev yA:=@Bool.false_and
abbrev yB:=@PySem.W.callWith_K
abbrev yT:=@Option.isSome_some
abbrev yY:=@wpAny_pyIter_list
abbrev y0:=@wpAny_attempt
abbrev y3:=@PySem.F.args_tuple_add_2
abbrev y7:=@List.length_erase_of_mem
abbrev y8:=@List.Pairwise.imp_of_mem
abbrev y9:=@List.nodup_range
abbrev Ya:=@PySem.F.plainAttrs_list
abbrev Yf:=@PySem.F.entry_tuple_add
abbrev YA:=@F.plain_set_update_loop
variable{K:B4}{N:AZ}{E:B9}{ps:AZ}{Ex:B9}{n_:AZ}
namespace L2
abbrev AY:=Sum Int AJ
def kZ:AY->A0->Bool
 |.inl k,v=>Value.isInt k v
 |.inr x,v=>Value.isStrOf x v
def Of(w:A4):AY->Int
 |.inl k=>hashInt k
 |.inr x=>hashStr w x
theorem bQ:∀{k:AY} {v:A0},kZ k v=true->(∃i t,k=Sum.inl i/\v=Value.int i t)\/(∃x t,k=Sum.inr x/\v=Value.str x t)
 |.inl i,v,h=>by
  obtain⟨t,e⟩:=Value.isInt_shape (k:=i) (v:=v) h;exact .inl ⟨i,t,rfl,e⟩
 |.inr x,v,h=>by
  obtain⟨t,e⟩:=Value.isStrOf_shape (x:=x) (v:=v) h;exact .inr ⟨x,t,rfl,e⟩
theorem Wn(i:Int)(t:Tok):kZ (.inl i) (.int i t)=true:=by simp[kZ,Value.isInt]
theorem Wo(x:AJ)(t:Tok):kZ (.inr x) (.str x t)=true:=by simp[kZ,Value.isStrOf]
theorem Oy(a b:Int):decide ((Sum.inl a:AY)=Sum.inl b)=(a==b):=by
 by_cases e:a=b
 ·subst e;simp
 ·have h:¬ (Sum.inl a:AY)=Sum.inl b:=λq=>e (Sum.inl.inj q);rw[ZE h];exact(beq_eq_false_iff_ne.mpr e).symm
theorem On(a b:AJ):decide ((Sum.inr a:AY)=Sum.inr b)=decide (a=b):=by
 by_cases e:a=b
 ·subst e;simp
 ·have h:¬ (Sum.inr a:AY)=Sum.inr b:=λq=>e (Sum.inr.inj q);rw[ZE h,ZE e]
theorem ar(a:Int)(b:AJ):decide ((Sum.inl a:AY)=Sum.inr b)=false:=ZE (λq=>nomatch q)
theorem OU(a:AJ)(b:Int):decide ((Sum.inr a:AY)=Sum.inl b)=false:=ZE (λq=>nomatch q)
def bF(prog:A3)(w:A4):PySem.KeyKind prog w AY where
 is:=kZ
 hash:=Of w
 inj:=λv a b f hb=>by
  rcases bQ f with⟨i,t,rfl,rfl⟩|⟨x,t,rfl,rfl⟩
  ·rcases bQ hb with⟨j,u,rfl,e⟩|⟨y,u,rfl,e⟩
   ·injection e with e1 _;rw[e1]
   ·exact nomatch e
  ·rcases bQ hb with⟨j,u,rfl,e⟩|⟨y,u,rfl,e⟩
   ·exact nomatch e
   ·injection e with e1 _;rw[e1]
 byValue:=λk v h=>by
  rcases bQ h with⟨i,t,rfl,rfl⟩|⟨x,t,rfl,rfl⟩<;>rfl
 pyHash:=λc h=>by
  rcases bQ c with⟨i,t,rfl,rfl⟩|⟨x,t,rfl,rfl⟩
  ·exact wpAny_pyHash_int h
  ·exact wpAny_pyHash_str h
 eqBool:=λd c h=>by
  rcases bQ d with⟨i,t,rfl,rfl⟩|⟨x,t,rfl,rfl⟩
  ·rcases bQ c with⟨j,u,rfl,rfl⟩|⟨y,u,rfl,rfl⟩
   ·rw[Oy]at h;exact wpAny_eqBool_int h
   ·rw[ar]at h;exact SeqAt.EqAt.int_str i t y u _ _ _ _ h
  ·rcases bQ c with⟨j,u,rfl,rfl⟩|⟨y,u,rfl,rfl⟩
   ·rw[OU]at h;exact SeqAt.EqAt.str_int x t j u _ _ _ _ h
   ·rw[On]at h;exact wpAny_eqBool_str h
 «strs»:=λk x t v h=>by
  rcases bQ h with⟨i,u,rfl,e⟩|⟨y,u,rfl,e⟩
  ·exact nomatch e
  ·injection e with e1 _;subst e1;cases v<;>rfl
theorem N6(prog:A3)(w:A4)(i:Int)(t:Tok):(bF prog w).is (.inl i) (.int i t)=true:=Wn i t
theorem N7(prog:A3)(w:A4)(x:AJ)(t:Tok):(bF prog w).is (.inr x) (.str x t)=true:=Wo x t
end L2
namespace L2
inductive V where
 |non|bl (b:Bool)|int (i:Int)|str (x:Str)|byt (b:Array UInt8)|flt (b:UInt64)|ref (a:Addr)|ty (n:String)
 deriving DecidableEq
def As:V->A0->Prop
 |.non,u=>u=Value.none
 |.bl b,u=>u=Value.bool b
 |.int i,u=>∃t,u=Value.int i t
 |.str x,u=>∃t,u=Value.str x t
 |.byt b,u=>∃t,u=Value.bytes b t
 |.flt b,u=>∃t,u=Value.float b t
 |.ref a,u=>u=Value.ref a
 |.ty n,u=>u=Value.type n
abbrev AX:Z V->Z A0->Prop:=AI As
theorem AX.length{xs:Z V}{us:Z A0}(r:AX xs us):xs.length=us.length:=Paired.length r
theorem AX.get:∀{xs:Z V} {us:Z A0} {i:Nat} {x:V},AX xs us->xs[i]?=U x->∃u,us[i]?=U u/\As x u
 |_,_,_,_,.nil,e=>by simp at e
 |_,_,0,_,.cons r _,e=>by simp at e;subst e;exact⟨_,rfl,r⟩
 |_,_,i+1,x,.cons _ t,e=>by
  obtain⟨u,h1,h2⟩:=AX.get (i:=i) (x:=x) t (by simpa using e);exact⟨u,by simpa using h1,h2⟩
theorem AX.set{x:V}{u:A0}(r:As x u):∀{xs:Z V} {us:Z A0} (i:Nat),AX xs us->AX (xs.set i x) (us.set i u)
 |_,_,_,.nil=>.nil
 |_,_,0,.cons _ t=>.cons r t
 |_,_,i+1,.cons q t=>.cons q (AX.set r i t)
theorem AX.append:∀{xs ys:Z V} {us a:Z A0},AX xs us->AX ys a->AX (xs++ys) (us++a)
 |_,_,_,_,.nil,s=>s
 |_,_,_,_,.cons r t,s=>.cons r (AX.append t s)
theorem AX.take:∀{xs:Z V} {us:Z A0} (n:Nat),AX xs us->AX (xs.take n) (us.take n)
 |_,_,0,_=>.nil
 |_,_,_+1,.nil=>.nil
 |_,_,n+1,.cons r t=>.cons r (AX.take n t)
theorem AX.drop:∀{xs:Z V} {us:Z A0} (n:Nat),AX xs us->AX (xs.drop n) (us.drop n)
 |_,_,0,r=>r
 |_,_,_+1,.nil=>.nil
 |_,_,n+1,.cons _ t=>AX.drop n t
def Cw:O V->O A0->Prop
 |some v,U u=>As v u
 |none,Y=>True
 |_,_=>False
def KV:Z (κ×V)->Z (κ×A0)->Prop:=AI λ(p:κ×V) (q:κ×A0)=>p.1=q.1/\As p.2 q.2
def kV:AY->V
 |.inl i=>.int i
 |.inr x=>.str x
inductive HO where
 |lst (xs:List V)
 |tup (xs:List V)
 |dK (AO:List (AY×V))|dT (AO:List (List AY×V))
 |set (S:Int->Bool) (n:Nat)
 |ins (C dx:Addr) (fs:List (Str×V))
 |own (x:Addr)
 |xd (fs:List (Str×V))
 |met (f x:Addr)
 |rng (lo hi:Int)
 |HS (o:Obj) (u:HO)
 |tbl (ps:Array Value)
 |ext (φ:Heap->Prop)
abbrev Hp:=A1->O HO
def B0(H:Hp)(a:A1)(o:HO):Hp:=λb=>if b=a then U o else H b
theorem aU{H:Hp}{o:HO}:B0 H a o a=U o:=by unfold B0;rw[zh rfl]
theorem aP{H:Hp}{b:A1}{o:HO}(h:b≠a):B0 H a o b=H b:=by unfold B0;rw[zC h]
def uH(h:A6)(a:A1)(items:Array A0):Prop:=∃o,h.get? a=U o/\o.cls=.type "tuple" ∧ (∃n,o.data=.seq items n)/\o.dict=Y
theorem uH.weak(x:uH h a items):IsTup h a items:=let ⟨o,e,c,d,_⟩:=x;⟨o,e,c,d⟩
theorem uH.new(h:A6)(items:Array A0):uH (h.push { cls:=.type "tuple",data:=.seq items }) h.objs.size items:=⟨_,zv _ rfl,rfl,⟨_,rfl⟩,rfl⟩
theorem lX{H:Hp}{b:A1}{o u:HO}(h:H a=U o)(h':H b=U u)(d:o≠u):a≠b:=by
 intro e;subst e;rw[h]at h';exact d (ja h')
theorem bH{H:Hp}{b:A1}{o:HO}(h:H a=U o)(h':H b=Y):a≠b:=by
 intro e;subst e;rw[h]at h';cases h'
section
variable(P:A3)(w:A4)
def gn(H:Hp)(h:A6)(a:A1):HO->Prop
 |.lst xs=>xs.length<=AA/\∃(AQ:Z A0) (n:Nat),AX xs AQ/\h.get? a=U { cls:=.type "list",data:=.seq AQ.toArray n }
 |.tup xs=>xs.length<=AA/\∃AQ:Z A0,AX xs AQ/\uH h a AQ.toArray
 |.dK AO=>AO.length<=AA/\(a==sysModules)=false/\∃vs,KV AO vs/\h.DictOf (bF P w) a vs
 |.dT AO=>AO.length<=AA/\(a==sysModules)=false/\∃xs:Z (Z AY×A1×A0),
   AI (λ(p:Z AY×V) (q:Z AY×A1×A0)=>p.1=q.1/\H q.2.1=U (.tup (p.1.map kV))/\As p.2 q.2.2) AO xs ∧
   ∃o es ep,h.get? a=U o/\o.ExactDict/\o.data=.dict es ep/\es.toList=xs.map (entryOfKey (tupleKind (bF P w)))/\(xs.map (·.1)).Nodup
 |.set S n=>h.SetOf (intKind P w) a S n
 |.ins C dx fs=>H dx=U (.own a)/\fs.length<=1000/\dx≠a/\h.get? a=U (instObj C dx) ∧
   ∃mA,h.Ns1 dx mA/\(∀f,Cw (fs.lookup f) (mA f))/\PySem.Within mA (fs.map (·.1))
 |.own _=>∃o,h.get? a=U o
 |.xd fs=>∃mA,h.Ns1 a mA/\∀f,Cw (fs.lookup f) (mA f)
 |.rng lo hi=>∃t u v,h.get? a=U { cls:=.type "range",data:=.fields #[.int lo t,.int hi u,.int 1 v] }
 |.HS o u=>h.get? a=U o/\gn H h a u
 |.tbl ps=>h.get? a=U { cls:=.none,data:=.fields ps }
 |.met f x=>h.get? a=U (methodObj (.ref f) (.ref x))
 |.ext b=>b h/\(∃o,h.get? a=U o)/\∀h1 h2:A6,b h1->(∀o,h1.get? a=U o->h2.get? a=U o)->b h2
def uI(H:Hp)(h:A6):Prop:=∀a o,H a=U o->gn P w H h a o
end
section
variable{H H':Hp}{h':A6}{o:HO}
theorem gn.lt(x:gn P w H h a o):a<h.objs.size:=by
 cases o with
 |lst xs=>obtain⟨_,_,_,_,e⟩:=x;exact zt e
 |tup xs=>obtain⟨_,_,_,p⟩:=x;exact p.weak.lt
 |dK AO=>obtain⟨_,_,_,_,o,_,_,e,_⟩:=x;exact zt e
 |dT AO=>obtain⟨_,_,_,_,o,_,_,e,_⟩:=x;exact zt e
 |set S n=>obtain⟨o,_,_,_,e,_⟩:=x;exact zt e
 |ins C dx fs=>obtain⟨_,_,_,e,_⟩:=x;exact zt e
 |own y=>obtain⟨_,e⟩:=x;exact zt e
 |xd fs=>obtain⟨_,⟨_,_,_,e,_⟩,_⟩:=x;exact zt e
 |rng lo hi=>obtain⟨_,_,_,e⟩:=x;exact zt e
 |HS c u=>obtain⟨e,_⟩:=x;exact zt e
 |tbl ps=>exact zt (show h.get? a=U _ from x)
 |met f y=>exact zt (show h.get? a=U _ from x)
 |ext b=>obtain⟨_,⟨_,e⟩,_⟩:=x;exact zt e
theorem Paired.acf{α β:Type}{F G:α->β->Prop}:∀{c:Z α} {d:Z β},AI F c d->(∀a b,F a b->G a b)->AI G c d
 |_,_,.nil,_=>.nil
 |_,_,.cons r t,f=>.cons (f _ _ r) (Paired.acf t f)
theorem Paired.imp'{F G:α->β->Prop}(f:∀a b,F a b->G a b){c:Z α}{d:Z β}(r:AI F c d):AI G c d:=Paired.acf r f
theorem gn.stay(x:gn P w H h a o)(k:∀b u,(b=a\/H b=U (.own a))->h.get? b=U u->h'.get? b=U u)
  (l:∀b,H b=U (.own a)->H' b=U (.own a)) (m:∀b xs,H b=U (.tup xs)->H' b=U (.tup xs)):gn P w H' h' a o:=by
 induction o with
 |lst xs=>obtain⟨z,AQ,n,r,e⟩:=x;exact⟨z,AQ,n,r,k _ _ (.inl rfl) e⟩
 |tup xs=>obtain⟨z,AQ,r,g,e,c⟩:=x;exact⟨z,AQ,r,g,k _ _ (.inl rfl) e,c⟩
 |dK AO=>obtain⟨z,y,vs,r,g,es,ep,e,c⟩:=x;exact⟨z,y,vs,r,g,es,ep,k _ _ (.inl rfl) e,c⟩
 |dT AO=>
  obtain⟨z,y,xs,r,g,es,ep,e,c⟩:=x;exact⟨z,y,xs,Paired.acf r λp q z=>⟨z.1,m _ _ z.2.1,z.2.2⟩,g,es,ep,k _ _ (.inl rfl) e,c⟩
 |set S n=>obtain⟨g,es,ep,t,e,c⟩:=x;exact⟨g,es,ep,t,k _ _ (.inl rfl) e,c⟩
 |ins C dx fs=>
  obtain⟨d,z,ne,e,mA,⟨i,es,ep,e2,c⟩,r⟩:=x;exact⟨l _ d,z,ne,k _ _ (.inl rfl) e,mA,⟨i,es,ep,k _ _ (.inr d) e2,c⟩,r⟩
 |own y=>obtain⟨g,e⟩:=x;exact⟨g,k _ _ (.inl rfl) e⟩
 |xd fs=>obtain⟨mA,⟨i,es,ep,e,c⟩,r⟩:=x;exact⟨mA,⟨i,es,ep,k _ _ (.inl rfl) e,c⟩,r⟩
 |rng lo hi=>obtain⟨t,u,v,e⟩:=x;exact⟨t,u,v,k _ _ (.inl rfl) e⟩
 |HS g u j=>obtain⟨e,q⟩:=x;exact⟨k _ _ (.inl rfl) e,j q⟩
 |tbl ps=>
  have e:h.get? a=U { cls:=.none,data:=.fields ps }:=x;show h'.get? a=U { cls:=.none,data:=.fields ps };exact k a _ (.inl rfl) e
 |met f y=>
  have e:h.get? a=U (methodObj (.ref f) (.ref y)):=x;show h'.get? a=U (methodObj (.ref f) (.ref y));exact k a _ (.inl rfl) e
 |ext s=>obtain⟨p,⟨o,e⟩,st⟩:=x;exact⟨st _ _ p λo q=>k _ _ (.inl rfl) q,⟨o,k _ _ (.inl rfl) e⟩,st⟩
theorem uI.lt(x:uI P w H h)(e:H a=U o):a<h.objs.size:=(x a o e).lt
theorem uI.fresh(x:uI P w H h)(e:h.objs.size<=a):H a=Y:=by
 cases q:H a with
 |none=>rfl
 |some u=>exact absurd (ZU (x.lt q) e) (kc _)
theorem uI.kept(x:uI P w H h)(k:∀b u,h.get? b=U u->h'.get? b=U u):uI P w H h':=λa o e=>
 (x a o e).stay (λb u _ q=>k b u q) (λ_ q=>q) λ_ _ q=>q
theorem uI.laid(x:uI P w H h)(k:∀b u,h.get? b=U u->h'.get? b=U u)(hp:h.objs.size<=a)(new:gn P w (B0 H a o) h' a o):uI P w (B0 H a o) h':=λb u e=>by
 have d:=x.fresh hp;by_cases hb:b=a
 ·subst hb;rw[aU]at e;cases e;exact new
 ·rw[aP hb]at e;exact(x b u e).stay (λc v _ q=>k c v q) (λc q=>by rw[aP (bH q d)];exact q) λc xs q=>by rw[aP (bH q d)];exact q
end
def Rd(H:Hp)(a:A1)(u:HO):Prop:=H a=U u\/∃o,H a=U (.HS o u)
theorem Rd.ok{H:Hp}{u:HO}(r:Rd H a u)(x:uI P w H h):gn P w H h a u:=by
 rcases r with r|⟨o,r⟩
 ·exact x a u r
 ·obtain⟨_,q⟩:=x a _ r;exact q
def F7:O HO->Prop
 |some (.lst _)=>True
 |some (.dK _)=>True
 |some (.dT _)=>True
 |some (.set _ _)=>True
 |some (.ins _ _ _)=>True
 |some (.ext _)=>True
 |_=>False
section
variable{H:Hp}{h':A6}{x e:A1}{o':HO}
theorem uI.write(ok:uI P w H h)(a:F7 (H x))(he:e=x\/H e=U (.own x))(k:∀b u,b≠e->h.get? b=U u->h'.get? b=U u)(j:∃u,h'.get? e=U u)
  (new:gn P w (B0 H x o') h' x o'):uI P w (B0 H x o') h':=λb u q=>by
 have i:∀c y,H c=U (.own y)->c≠x:=λc y r z=>by subst z;rw[r]at a;exact a
 have m:∀c xs,H c=U (.tup xs)->c≠x:=λc xs r z=>by subst z;rw[r]at a;exact a
 by_cases hb:b=x
 ·subst hb;rw[aU]at q;cases q;exact new
 ·rw[aP hb]at q;by_cases f:b=e
  ·have g:H b=U (.own x):=by
    rcases he with z|z
    ·exact absurd (f.trans z) hb
    ·rw[f];exact z
   rw[q]at g;cases g;obtain⟨v,l⟩:=j;exact⟨v,by rw[f];exact l⟩
  ·refine(ok b u q).stay (λc v d r=>k c v ?_ r) (λc r=>by rw[aP (i c b r)];exact r) λc xs r=>by rw[aP (m c xs r)];exact r
   rcases d with rfl|d
   ·exact f
   ·rintro rfl;rcases he with z|z
    ·exact i c b d z
    ·rw[d]at z;cases z;exact hb rfl
end
structure Un (fs ex:List Addr) (H H':Hp) (h h':Heap):Prop where
 keep:∀b o,h.get? b=some o->H b=none->b∉fs->b∉ex->h'.get? b=some o
 slot:∀b o,h.get? b=some o->H b=none->b∈fs->b∉ex->∃sl,h'.get? b=some { o with slots:=sl }
 free:∀b o,h.get? b=some o->H b=none->b∉ex->H' b=none
 there:∀b o,h.get? b=some o->b∉ex->∃o',h'.get? b=some o'
 tups:∀b xs,H b=some (.tup xs)->H' b=some (.tup xs)
 wJ:∀b o u,H b=some (.HS o u)->H' b=some (.HS o u)
 yg:∀b ps,H b=some (.tbl ps)->∃more,H' b=some (.tbl (ps++more))
section
variable{fs fs' ex ex':Z A1}{H H1 H2:Hp}{h1 h2 h':A6}{x e:A1}{o:HO}
theorem Un.any(u:Un fs ex H H1 h h1){b:A1}{a:AE}(q:h.get? b=U a)(n:H b=Y)(hx:b∉ex):∃sl,h1.get? b=U { a with slots:=sl }:=by
 by_cases hb:b∈fs
 ·exact u.slot b a q n hb hx
 ·exact⟨a.slots,u.keep b a q n hb hx⟩
theorem Un.kept(k:∀b u,h.get? b=U u->h'.get? b=U u):Un fs ex H H h h':=
 ⟨λb a q _ _ _=>k b a q,λb a q _ _ _=>⟨a.slots,k b a q⟩,λ_ _ _ n _=>n,λb a q _=>⟨a,k b a q⟩,λ_ _ q=>q,λ_ _ _ q=>q,λ_ ps q=>⟨#[],by rw[q];simp⟩⟩
theorem Un.refl:Un fs ex H H h h:=Un.kept λ_ _ q=>q
theorem Un.laid(k:∀b u,h.get? b=U u->h'.get? b=U u)(hp:h.objs.size<=a)(c:H a=Y):Un fs ex H (B0 H a o) h h' where
 keep:=λb u q _ _ _=>k b u q
 slot:=λb u q _ _ _=>⟨u.slots,k b u q⟩
 free:=λb u q n _=>by rw[aP (Zl (ZU (zt q) hp))];exact n
 there:=λb u q _=>⟨u,k b u q⟩
 tups:=λb xs q=>by rw[aP (bH q c)];exact q
 wJ:=λb u xs q=>by rw[aP (bH q c)];exact q
 yg:=λb ps q=>⟨#[],by rw[aP (bH q c),q];simp⟩
theorem Un.write(a:F7 (H x))(he:e=x\/H e=U (.own x))(k:∀b u,b≠e->h.get? b=U u->h'.get? b=U u)(f:∃u,h'.get? e=U u):Un fs ex H (B0 H x o) h h':=by
 have hx:∀b,H b=Y->b≠x:=λb n z=>by subst z;rw[n]at a;exact a
 have hb:∀b,H b=Y->b≠e:=λb n z=>by
  subst z;rcases he with r|r
  ·exact hx b n r
  ·rw[n]at r;cases r
 have c:∀b u,H b=U u->¬ F7 (U u)->b≠x:=λb u q nm z=>by subst z;rw[q]at a;exact nm a
 refine⟨λb u q n _ _=>k b u (hb b n) q,λb u q n _ _=>⟨u.slots,k b u (hb b n) q⟩,λb u q n _=>by rw[aP (hx b n)];exact n,λb u q _=>?_,
  λb xs q=>by rw[aP (c b _ q λz=>z)];exact q,λb u xs q=>by rw[aP (c b _ q λz=>z)];exact q,λb ps q=>⟨#[],by rw[aP (c b _ q λz=>z),q];simp⟩⟩
 by_cases d:b=e
 ·subst d;exact f
 ·exact⟨u,k b u d q⟩
end
def FY(h:A6)(H:Hp):Z A1:=(List.range h.objs.size).filter λa=>(H a).isSome
def Km(h:A6)(H:Hp):A6:=PySem.W.hideAll h (FY h H)
theorem Wq(h:A6)(H:Hp):(Km h H).objs.size=h.objs.size:=PySem.W.hideAll_size _ _
theorem YD{H:Hp}{b:A1}(e:h.get? b=U o)(n:H b=Y):(Km h H).get? b=U o:=
 PySem.W.hideAll_get _ e λa=>by
  have q:(H b).isSome=true:=(List.mem_filter.mp a).2;rw[n]at q;simp at q
theorem YI{H:Hp}{b:A1}(e:(Km h H).get? b=U o):h.get? b=U o/\H b=Y:=by
 have e':h.get? b=U o:=PySem.W.of_hideAll (FY h H) e;refine⟨e',?_⟩;cases q:H b with
 |none=>rfl
 |some x=>
  have a:b∈FY h H:=List.mem_filter.mpr ⟨List.mem_range.mpr (zt e'),by simp[q]⟩;have z:(Km h H).get? b=Y:=PySem.W.hideAll_none (FY h H) a;rw[z]at e;cases e
def XV(g h:A6)(L:A1):Z (A1×AE):=(List.range h.objs.size).filterMap λa=>if a=L\/(g.get? a).isSome=true then Y else(h.get? a).map λo=>(a,o)
def AS(g h:A6)(L d:A1):Z (A1×AE):=(XV g h L).filter λp=>decide (p.1≠d)
end L2
namespace L2
structure Mod (K:B4) (mg:Str->Option Value) (base:Heap):Prop where
 kin:K.In base
 glob:base.Ns mainGlobals mg
 blt:∃mb,base.Ns builtinsNs mb/\∀x:Str,x ≠ "__name__" → mb x=bootBuiltins x
 nolimit:base.NoLimit
structure Cx where
 prog:Program
 w:World
 K:B4
 mg:Str->Option Value
 base:Heap
 A:Around
 N:AZ
 s₀:Shared
 H₀:Hp
 env:Env
 outer:List Env
 stack:List Env
 ex:List Addr
 fn:Str->Bool
 calm:Bool
 pn:List (Addr×Obj)
 xe:B9
def BV(l:Z Env):Z A1:=l.filterMap (·.frame)
abbrev Cx.fs(X:Cx):Z A1:=BV X.outer
def U3(a:Scope)(x:AJ):Prop:=a.names.lookup x=U .local\/a.names.lookup x=U .cell\/a.names.lookup x=U .free
def D4(a:Scope)(x:AJ):Prop:=a.names.lookup x=U .local\/a.names.lookup x=U .cell
def HU(env:Env)(h:A6)(m:AJ->O A0)(x:AJ)(u:A0):Prop:=
 (env.kindOf x=U .local/\m x=U u)\/((env.kindOf x=U .cell\/env.kindOf x=U .free)/\∃c,env.cells.lookup x=U c/\h.IsCell c (U u))
structure Cx.Ok (X:Cx):Prop where
 mod:Mod X.K X.mg X.base
 kind:X.env.scope.kind=.function
 glob:X.env.globals=mainGlobals
 blt:X.env.builtins=builtinsNs
 above:X.s₀.heap.objs.size<=X.env.locals
 inj:∀x y c,X.env.cells.lookup x=some c->X.env.cells.lookup y=some c->x=y
 has:∀x,(X.env.kindOf x=some .cell\/X.env.kindOf x=some .free)->∃c,X.env.cells.lookup x=some c
 cab:∀x c,X.fn x=true->X.env.cells.lookup x=some c->X.s₀.heap.objs.size<=c
 hd:X.calm=true->X.A.handled=none
 frames:X.A.frames=some X.stack
 stk:X.stack=X.outer\/(X.stack=X.env::X.outer/\X.env.frame=some X.env.locals)
 exf:∀b∈X.ex,b≠X.env.locals/\∀x c,X.env.cells.lookup x=some c->c≠b
 bs:∀b o,X.base.get? b=some o->X.s₀.heap.get? b=some o/\X.H₀ b=none
 Ys:X.base.objs.size<=X.s₀.heap.objs.size
 Rx:∀b o,X.base.get? b=some o->b∉X.ex
 Wr:∀b∈X.ex,b∉X.fs
 uJ:X.s₀.heap.FunFrames X.base X.outer
 frf:∀b∈X.fs,X.H₀ b=none
structure AU (X:Cx) (AN:List (Addr×Obj)) (σ:List (Option V)) (H:Hp) (s:Shared):Prop where
 ok:X.Ok
 os:s.os=X.s₀.os
 bare:AllBare s.gens
 base:Un X.fs X.ex X.H₀ H X.s₀.heap s.heap
 loc:∃m,s.heap.Ns X.env.locals m/\∀(i:Nat) (x:Str) (v:V),X.N[i]?=some x->σ[i]?=some (some v)->U3 X.env.scope x->∃u,As v u/\HU X.env s.heap m x u
 cell:∀x c,X.env.cells.lookup x=some c->∃v,s.heap.IsCell c v
 free:H X.env.locals=none
 jy:∀x c,X.env.cells.lookup x=some c->H c=none
 pin:∀p∈X.pn++AN,s.heap.get? p.1=some p.2/\H p.1=none/\p.1≠X.env.locals/\p.1∉X.fs/\∀v,p.2.data≠.cell v
 hok:uI X.prog X.w H s.heap
 len:σ.length=X.N.length
section
variable{X:Cx}{σ:Z (O V)}{H H':Hp}{h':A6}
theorem Cx.Ok.akx(ok:X.Ok){b:A1}(e:X.base.get? b=U o):b∉X.fs:=λhb=>by
 have:=(ok.uJ.mem hb).1;rw[e]at this;cases this
theorem AU.bs(I:AU X AN σ H s):∀b o,X.base.get? b=U o->s.heap.get? b=U o/\H b=Y:=λb o e=>
 ⟨I.base.keep b o (I.ok.bs b o e).1 (I.ok.bs b o e).2 (I.ok.akx e) (I.ok.Rx b o e),I.base.free b o (I.ok.bs b o e).1 (I.ok.bs b o e).2 (I.ok.Rx b o e)⟩
theorem AU.bk(I:AU X AN σ H s):∀b o,X.base.get? b=U o->s.heap.get? b=U o:=λb o e=>(I.bs b o e).1
theorem AU.mod(I:AU X AN σ H s):Mod X.K X.mg X.base:=I.ok.mod
theorem AU.Es(I:AU X AN σ H s):X.K.In s.heap:=I.ok.mod.kin.keeps I.bk
theorem AU.lt(I:AU X AN σ H s):X.env.locals<s.heap.objs.size:=let ⟨_,hn,_⟩:=I.loc;hn.lt
theorem AU.sz(I:AU X AN σ H s):X.s₀.heap.objs.size<=s.heap.objs.size:=ZH I.ok.above (JJ I.lt)
theorem AU.aky(I:AU X AN σ H s)(h:s.heap.objs.size<=a):a∉X.fs:=λhb=>by
 obtain⟨_,o,b,_⟩:=I.ok.uJ.mem hb;exact absurd (ZU (zt b) (ZH I.sz h)) (kc _)
theorem AU.cne(I:AU X AN σ H s):∀x c,X.env.cells.lookup x=U c->c≠X.env.locals:=λx c e z=>by
 obtain⟨v,o,b,a⟩:=I.cell x c e;obtain⟨m,⟨o',es,ep,f,d,_⟩,_⟩:=I.loc;rw[z,f]at b;cases b;rw[d]at a;cases a
theorem AU.uJ(I:AU X AN σ H s):s.heap.FunFrames X.base X.outer:=by
 have all:∀(l:Z Env),(∀b∈BV l,b∈X.fs)->X.s₀.heap.FunFrames X.base l->s.heap.FunFrames X.base l:=by
  intro l
  induction l with
  |nil=>intro _ _;trivial
  |cons env r d=>
   intro hs j;obtain⟨i,⟨L,o,a,m,g,f⟩,h⟩:=j;have c:L∈X.fs:=hs L (by unfold BV;rw[k9,a];exact zk);obtain⟨sl,e⟩:=I.base.slot L o g (I.ok.frf L c) c λz=>I.ok.Wr L z c;exact⟨i,⟨L,_,a,m,e,f⟩,d (λb hb=>hs b (by unfold BV;rw[k9,a];exact zo _ hb)) h⟩
 exact all X.outer (λ_ hb=>hb) I.ok.uJ
theorem AU.stack(I:AU X AN σ H s):s.heap.FunFrames X.base X.stack:=by
 rcases I.ok.stk with e|⟨e,b⟩
 ·rw[e];exact I.uJ
 ·rw[e];obtain⟨m,a,_⟩:=I.loc;refine .cons (by rw[I.ok.kind];decide) b a ?_ I.uJ;exact Heap.get?_none_of_le (ZH I.ok.Ys I.ok.above)
theorem AU.Et(I:AU X AN σ H s):∀b∈BV X.stack,b∈X.env.locals::X.fs:=λb hb=>by
 rcases I.ok.stk with e|⟨e,a⟩
 ·rw[e]at hb;exact zo _ hb
 ·rw[e]at hb;unfold BV at hb;rw[k9,a]at hb;exact hb
theorem AU.Dq(I:AU X AN σ H s):∀b∈BV X.stack,H b=Y:=λb hb=>by
 rcases List.mem_cons.mp (I.Et b hb)with e|hb
 ·rw[e];exact I.free
 ·obtain⟨_,o,a,_⟩:=I.ok.uJ.mem hb;exact I.base.free b o a (I.ok.frf b hb) λz=>I.ok.Wr b z hb
theorem AU.step{g':Array GenState}{t':Nat}{d':Drawn}{ch:Z A1}(I:AU X AN σ H s)
  (g:∀b∈ch,(b∈X.ex\/X.s₀.heap.objs.size<=b)/\b≠X.env.locals/\(∀x c,X.env.cells.lookup x=U c->c≠b)/\∀p∈X.pn++AN,p.1≠b)
  (keep:∀b o,b≠X.env.locals->b∉X.fs->b∉ch->s.heap.get? b=U o->H b=Y->h'.get? b=U o)
  (slot:∀b o,b≠X.env.locals->b∈X.fs->b∉ch->s.heap.get? b=U o->H b=Y->∃sl,h'.get? b=U { o with slots:=sl }) (free:∀b o,b∉ch->s.heap.get? b=U o->H b=Y->H' b=Y)
  (C:∀b o,b∉ch->s.heap.get? b=U o->∃o',h'.get? b=U o')
  (E:∀b xs,H b=U (.tup xs)->H' b=U (.tup xs)) (M:∀b o u,H b=U (.HS o u)->H' b=U (.HS o u)) (K:∀b ps,H b=U (.tbl ps)->∃G,H' b=U (.tbl (ps++G)))
  (ns:∀m,s.heap.Ns X.env.locals m->h'.Ns X.env.locals m) (J:uI X.prog X.w H' h') (F:AllBare g'):
  AU X AN σ H' { s with heap:=h',gens:=g',drawn:=d',toks:=t' }:=by
 have A:∀b o,X.s₀.heap.get? b=U o->b≠X.env.locals:=λb o e=>Zl (ZU (zt e) I.ok.above);have h:∀b o,X.s₀.heap.get? b=U o->b∉X.ex->b∉ch:=λb o e hx hb=>by
  rcases(g b hb).1 with z|z
  ·exact hx z
  ·exact absurd (ZU (zt e) z) (kc _)
 have t:∀x c,X.env.cells.lookup x=U c->∀v,s.heap.IsCell c v->h'.IsCell c v:=λx c e v ⟨o,a,j⟩=>by
  have f:c∉ch:=λz=>(g c z).2.2.1 x c e rfl;by_cases y:c∈X.fs
  ·obtain⟨sl,q⟩:=slot c o (I.cne x c e) y f a (I.jy x c e);exact⟨_,q,j⟩
  ·exact⟨o,keep c o (I.cne x c e) y f a (I.jy x c e),j⟩
 refine⟨I.ok,I.os,F,⟨λb o e n hb hx=>?_,λb o e n hb hx=>?_,λb o e n hx=>?_,λb o e hx=>?_,λb xs e=>E b xs (I.base.tups b xs e),λb o xs e=>M b o xs (I.base.wJ b o xs e),λb ps e=>?_⟩,?_,λx c e=>?_,?_,λx c e=>?_,λp hp=>?_,J,I.len⟩
 ·exact keep b o (A b o e) hb (h b o e hx) (I.base.keep b o e n hb hx) (I.base.free b o e n hx)
 ·obtain⟨sl,e1⟩:=I.base.slot b o e n hb hx;obtain⟨Q,e2⟩:=slot b _ (A b o e) hb (h b o e hx) e1 (I.base.free b o e n hx);exact⟨Q,e2⟩
 ·obtain⟨o',e1⟩:=I.base.there b o e hx;exact free b o' (h b o e hx) e1 (I.base.free b o e n hx)
 ·obtain⟨o',e1⟩:=I.base.there b o e hx;exact C b o' (h b o e hx) e1
 ·obtain⟨N,e1⟩:=I.base.yg b ps e;obtain⟨L,e2⟩:=K b _ e1;exact⟨N++L,by rw[e2,Array.append_assoc]⟩
 ·obtain⟨m,D,P⟩:=I.loc;refine⟨m,ns m D,λi x v e1 e2 e3=>?_⟩;obtain⟨u,r,l⟩:=P i x v e1 e2 e3;refine⟨u,r,?_⟩;rcases l with l|⟨k,c,e,z⟩
  ·exact .inl l
  ·exact .inr ⟨k,c,e,t x c e _ z⟩
 ·obtain⟨v,z⟩:=I.cell x c e;exact⟨v,t x c e v z⟩
 ·obtain⟨m,⟨o,_,_,a,_⟩,_⟩:=I.loc;exact free _ o (λz=>(g _ z).2.1 S) a I.free
 ·obtain⟨v,o,a,j⟩:=I.cell x c e;exact free c o (λz=>(g c z).2.2.1 x c e S) a (I.jy x c e)
 ·obtain⟨e,n,ne,B,d⟩:=I.pin p hp;have f:p.1∉ch:=λz=>(g p.1 z).2.2.2 p hp rfl;exact⟨keep p.1 p.2 ne B f e n,free p.1 p.2 f e n,ne,B,d⟩
theorem AU.un{t':Nat}(I:AU X AN σ H s)(u:Un X.fs [] H H' s.heap h')(f:uI X.prog X.w H' h'):AU X AN σ H' { s with heap:=h',toks:=t' }:=by
 obtain⟨m,⟨o,es,ep,a,r⟩,_⟩:=id I.loc;obtain⟨sl,h⟩:=u.any a I.free (by simp);exact I.step (g':=s.gens) (d':=s.drawn) (ch:=[]) (λ_ z=>nomatch z) (λb o _ hb _ e n=>u.keep b o e n hb (by simp)) (λb o _ hb _ e n=>u.slot b o e n hb (by simp)) (λb o _ e n=>u.free b o e n (by simp)) (λb o _ e=>u.there b o e (by simp)) u.tups u.wJ u.yg (λl j=>by
  obtain⟨o',i,g,c,d⟩:=j;rw[a]at c;cases c;exact⟨_,i,g,h,d⟩) f I.bare
theorem AU.call{g':Array GenState}{t':Nat}{d':Drawn}{ch:Z A1}(I:AU X AN σ H s)(u:Un (BV X.stack) ch H H' s.heap h')(j:uI X.prog X.w H' h')(q:AllBare g')
  (f:∀b∈ch,(b∈X.ex\/X.s₀.heap.objs.size<=b)/\b≠X.env.locals/\(∀x c,X.env.cells.lookup x=U c->c≠b)/\∀p∈X.pn++AN,p.1≠b):
  AU X AN σ H' { s with heap:=h',gens:=g',drawn:=d',toks:=t' }:=by
 obtain⟨m,⟨o,es,ep,g,r⟩,_⟩:=id I.loc;obtain⟨sl,d⟩:=u.any g I.free λz=>(f _ z).2.1 rfl;exact I.step (ch:=ch) f (λb o d hb a e n=>u.keep b o e n (λz=>(List.mem_cons.mp (I.Et b z)).elim d hb) a) (λb o _ _ a e n=>u.any e n a) (λb o a e n=>u.free b o e n a) (λb o a e=>u.there b o e a) u.tups u.wJ u.yg (λy v=>by
  obtain⟨o',t,l,h,i⟩:=v;rw[g]at h;cases h;exact⟨_,t,l,d,i⟩) j q
theorem AU.turned{t':Nat}(I:AU X AN σ H s)(k:∀b o,b≠it->s.heap.get? b=U o->h'.get? b=U o)(i:H it=Y)(f:it≠X.env.locals)(h1:it∈X.ex\/X.s₀.heap.objs.size<=it)(h2:∀x c,X.env.cells.lookup x=U c->c≠it)(h:∀p∈X.pn++AN,p.1≠it):AU X AN σ H { s with heap:=h',toks:=t' }:=by
 have d:∀b u,H b=U u->b≠it:=λb u e z=>by rw[z,i]at e;cases e
 refine I.step (g':=s.gens) (d':=s.drawn) (ch:=[it]) (λb hb=>?_) (λb o _ _ a e _=>k b o (λz=>a (by simp[z])) e) (λb o _ _ a e _=>⟨o.slots,k b o (λz=>a (by simp[z])) e⟩) (λ_ _ _ _ n=>n)
  (λb o a e=>⟨o,k b o (λz=>a (by simp[z])) e⟩) (λ_ _ e=>e) (λ_ _ _ e=>e) (λb ps e=>⟨#[],by rw[e];simp⟩) (λm j=>?_) (λb u e=>?_) I.bare
 ·have e:b=it:=by simpa using hb
  subst e;exact⟨h1,f,h2,h⟩
 ·obtain⟨o,es,ep,g,r⟩:=j;exact⟨o,es,ep,k _ o (jI f) g,r⟩
 ·refine(I.hok b u e).stay (λc v a q=>k c v ?_ q) (λ_ q=>q) λ_ _ q=>q;rcases a with z|z
  ·rw[z];exact d b u e
  ·exact d c _ z
theorem AU.tok(I:AU X AN σ H s)(t:Nat):AU X AN σ H { s with toks:=t }:=I.un (h':=s.heap) (t':=t) Un.refl I.hok
theorem AU.kept{t':Nat}(I:AU X AN σ H s)(k:∀b u,s.heap.get? b=U u->h'.get? b=U u):AU X AN σ H { s with heap:=h',toks:=t' }:=I.un (Un.kept k) (I.hok.kept k)
theorem AU.laid{a:A1}{o:HO}{t':Nat}(I:AU X AN σ H s)(k:∀b u,s.heap.get? b=U u->h'.get? b=U u)(hp:s.heap.objs.size<=a)(new:gn X.prog X.w (B0 H a o) h' a o):
  AU X AN σ (B0 H a o) { s with heap:=h',toks:=t' }:=I.un (Un.laid k hp (I.hok.fresh hp)) (I.hok.laid k hp new)
theorem AU.write{x e:A1}{o:HO}{t':Nat}(I:AU X AN σ H s)(c:F7 (H x))(he:e=x\/H e=U (.own x))(k:∀b u,b≠e->s.heap.get? b=U u->h'.get? b=U u)(a:∃u,h'.get? e=U u)
  (new:gn X.prog X.w (B0 H x o) h' x o):AU X AN σ (B0 H x o) { s with heap:=h',toks:=t' }:=I.un (Un.write c he k a) (I.hok.write c he k a new)
theorem AU.Dr{YF:Z (A1×AE)}(I:AU X AN σ H s)(h:∀p∈YF,s.heap.get? p.1=U p.2/\H p.1=Y/\p.1≠X.env.locals/\p.1∉X.fs/\∀v,p.2.data≠.cell v):AU X YF σ H s:=
 ⟨I.ok,I.os,I.bare,I.base,I.loc,I.cell,I.free,I.jy,λp hp=>(List.mem_append.mp hp).elim (λz=>I.pin p (Zp _ z)) (h p),I.hok,I.len⟩
theorem Eu(c:N.Nodup)(a:N[i]?=U x)(b:N[j]?=U x):i=j:=by
 obtain⟨h1,e1⟩:=List.getElem?_eq_some_iff.mp a;obtain⟨h2,e2⟩:=List.getElem?_eq_some_iff.mp b;exact(List.getElem_inj c).mp (e1.trans e2.symm)
theorem Ws{v:V}(I:AU X AN σ H s)(hN:X.N.Nodup)(hi:X.N[i]?=U x)(hx:D4 X.env.scope x)(r:As v u)(h:∀s',AU X AN (σ.set i (U v)) H s'->(∃a,Heap.SameBut a s.heap s'.heap/\(a=X.env.locals\/X.env.cells.lookup x=U a))->Q () s')(hf:X.fn x=true\/X.env.scope.names.lookup x=U .local:=by first|exact .inl rfl|exact .inr rfl|assumption):A7 M A (storeName X.env x u) Q E s:=by
 obtain⟨m,F,hl⟩:=id I.loc;have b3:(X.env.scope.kind==.class||(X.env.scope.kind==.module&&X.env.locals !=X.env.globals))=false:=by rw[I.ok.kind];rfl
 have P:i<σ.length:=by rw[I.len];exact(List.getElem?_eq_some_iff.mp hi).1
 have cne:=I.cne;have a2:∀{a:A1} {h':A6},(∃o,s.heap.get? a=U o/\H a=Y)->Heap.SameBut a s.heap h'->uI X.prog X.w H h':=λ{a h'} ha hs b ob e=>by
  obtain⟨_,_,W⟩:=ha;refine(I.hok b ob e).stay (λc t f q=>(hs.2 c ?_).trans q) (λ_ q=>q) λ_ _ q=>q;rintro rfl;rcases f with rfl|f
  ·rw[W]at e;cases e
  ·rw[W]at f;cases f
 rcases hx with g|g
 ·refine wpAny_storeName_local g F (λh' b0 hs=>?_) b3;obtain⟨oL,_,_,a5,_⟩:=id F;refine h _ ⟨I.ok,I.os,I.bare,⟨λb o e n hb hx=>?_,λb o e n hb hx=>?_,I.base.free,λb o e hx=>?_,I.base.tups,I.base.wJ,I.base.yg⟩,⟨_,b0,λj y C e1 e2 e3=>?_⟩,λy c e=>?_,I.free,I.jy,λp hp=>?_,a2 ⟨oL,a5,I.free⟩ hs,by simpa using I.len⟩ ⟨_,hs,.inl rfl⟩
  ·exact(hs.2 b (Zl (ZU (zt e) I.ok.above))).trans (I.base.keep b o e n hb hx)
  ·obtain⟨sl,e1⟩:=I.base.slot b o e n hb hx;exact⟨sl,(hs.2 b (Zl (ZU (zt e) I.ok.above))).trans e1⟩
  ·obtain⟨o',e1⟩:=I.base.there b o e hx;exact⟨o',(hs.2 b (Zl (ZU (zt e) I.ok.above))).trans e1⟩
  ·by_cases l:j=i
   ·subst l;rw[hi]at e1;cases e1;rw[List.getElem?_set_self P]at e2;cases e2;exact⟨u,r,.inl ⟨g,by simp⟩⟩
   ·rw[List.getElem?_set_ne (jI l)]at e2;obtain⟨J,G,q⟩:=hl j y C e1 e2 e3;refine⟨J,G,?_⟩;rcases q with⟨k,e⟩|⟨k,c,e,z⟩
    ·refine .inl ⟨k,?_⟩;have:y≠x:=λe=>l (Eu hN e1 (e▸hi));simp[this,e]
    ·exact .inr ⟨k,c,e,z.sameBut hs (cne y c e)⟩
  ·obtain⟨t,z⟩:=I.cell y c e;exact⟨t,z.sameBut hs (cne y c e)⟩
  ·obtain⟨e,n,ne,K,d⟩:=I.pin p hp;exact⟨(hs.2 p.1 ne).trans e,n,ne,K,d⟩
 ·have D:X.fn x=true:=by
   rcases hf with z|z
   ·exact z
   ·rw[z]at g;cases g
  obtain⟨c,f⟩:=I.ok.has x (.inl g);obtain⟨t,z⟩:=I.cell x c f;refine wpAny_storeName_cell I.ok.kind g f z (λh' L hs=>?_);obtain⟨oc,a1,a3⟩:=id z;refine h { s with heap:=h' } ⟨I.ok,I.os,I.bare,⟨λb o e n hb hx=>?_,λb o e n hb hx=>?_,I.base.free,λb o e hx=>?_,I.base.tups,I.base.wJ,I.base.yg⟩,⟨m,F.sameBut hs (jI (cne x c f)),λj y C e1 e2 e3=>?_⟩,λy B e=>?_,I.free,I.jy,λp hp=>?_,a2 ⟨oc,a1,I.jy x c f⟩ hs,by simpa using I.len⟩ ⟨c,hs,.inr f⟩
  ·exact(hs.2 b (Zl (ZU (zt e) (I.ok.cab x c D f)))).trans (I.base.keep b o e n hb hx)
  ·obtain⟨sl,e1⟩:=I.base.slot b o e n hb hx;exact⟨sl,(hs.2 b (Zl (ZU (zt e) (I.ok.cab x c D f)))).trans e1⟩
  ·obtain⟨o',e1⟩:=I.base.there b o e hx;exact⟨o',(hs.2 b (Zl (ZU (zt e) (I.ok.cab x c D f)))).trans e1⟩
  ·by_cases l:j=i
   ·subst l;rw[hi]at e1;cases e1;rw[List.getElem?_set_self P]at e2;cases e2;exact⟨u,r,.inr ⟨.inl g,c,f,L⟩⟩
   ·rw[List.getElem?_set_ne (jI l)]at e2;obtain⟨J,G,q⟩:=hl j y C e1 e2 e3;refine⟨J,G,?_⟩;rcases q with q|⟨k,B,e,z'⟩
    ·exact .inl q
    ·refine .inr ⟨k,B,e,z'.sameBut hs ?_⟩;rintro rfl;exact l (Eu hN e1 (I.ok.inj _ _ _ e f▸hi))
  ·by_cases a0:B=c
   ·subst a0;exact⟨_,L⟩
   ·obtain⟨w2,z2⟩:=I.cell y B e;exact⟨w2,z2.sameBut hs a0⟩
  ·obtain⟨e,n,ne,K,d⟩:=I.pin p hp;refine⟨(hs.2 p.1 ?_).trans e,n,ne,K,d⟩;intro q;rw[q,a1]at e;have q':oc=p.2:=ja e;exact d t (by rw[<-q'];exact a3)
theorem qN{v:V}(I:AU X AN σ H s)(a:X.N.Nodup)(hi:X.N[i]?=U x)(hx:D4 X.env.scope x)(r:As v u)(h:∀s',AU X AN (σ.set i (U v)) H s'->Q () s')(b:X.fn x=true\/X.env.scope.names.lookup x=U .local:=by first|exact .inl rfl|exact .inr rfl|assumption):A7 M A (storeName X.env x u) Q E s:=
 Ws I a hi hx r (λs' c _=>h s' c) b
theorem AU.call'{s':A2}{ch:Z A1}(I:AU X AN σ H s)(d:s'.os=s.os)(u:Un (BV X.stack) ch H H' s.heap s'.heap)(g:uI X.prog X.w H' s'.heap)(a:AllBare s'.gens)
  (f:∀b∈ch,(b∈X.ex\/X.s₀.heap.objs.size<=b)/\b≠X.env.locals/\(∀x c,X.env.cells.lookup x=U c->c≠b)/\∀p∈X.pn++AN,p.1≠b):AU X AN σ H' s':=by
 obtain⟨h',g',d',t',o'⟩:=s';have e:o'=s.os:=d;subst e;exact I.call (g':=g') (t':=t') (d':=d') u g a f
end
abbrev XK:=A0->O A1->Hp->Prop
abbrev St:=Z (O V)
abbrev VK:=V->Hp->Prop
abbrev TE:=St->Hp->VK->Prop
abbrev TT:=St->Hp->(Bool->Hp->Prop)->Prop
abbrev TA:=St->Hp->(Z V->Hp->Prop)->Prop
structure Be where
 nx:St->Hp->Prop
 rt:VK
 bk:St->Hp->Prop:=λ_ _=>False
 ct:St->Hp->Prop:=λ_ _=>False
abbrev TS:=Be->St->Hp->Prop
def EP(X:Cx)(AN:Z (A1×AE))(σ:St)(Q:VK)(u:A0)(s':A2):Prop:=∃v H',AU X AN σ H' s'/\As v u/\Q v H'
def TP(X:Cx)(AN:Z (A1×AE))(σ:St)(Q:Bool->Hp->Prop)(b:Bool)(s':A2):Prop:=∃H',AU X AN σ H' s'/\Q b H'
def AP(X:Cx)(AN:Z (A1×AE))(σ:St)(Q:Z V->Hp->Prop)(us:Z A0)(s':A2):Prop:=∃vs H',AU X AN σ H' s'/\AX vs us/\Q vs H'
def SP(X:Cx)(AN:Z (A1×AE))(D:Be)(f:Flow)(s':A2):Prop:=
 match f with
 |.next=>∃ σ' H',AU X AN σ' H' s'/\D.nx σ' H'
 |.brk=>∃ σ' H',AU X AN σ' H' s'/\D.bk σ' H'
 |.cont=>∃ σ' H',AU X AN σ' H' s'/\D.ct σ' H'
 |.ret u=>∃v σ' H',AU X AN σ' H' s'/\As v u/\D.rt v H'
def PE(X:Cx)(e:Expr)(t:TE):Prop:=
 ∀(AN:Z (A1×AE)) (s:A2) (σ:St) (H:Hp) (Q:VK),AU X AN σ H s->t σ H Q->A7 (A8 X.prog X.w) X.A (eval e X.env) (EP X AN σ Q) X.xe s
def PT(X:Cx)(e:Expr)(t:TT):Prop:=
 ∀(AN:Z (A1×AE)) (s:A2) (σ:St) (H:Hp) (Q:Bool->Hp->Prop),AU X AN σ H s->t σ H Q->A7 (A8 X.prog X.w) X.A (isTrue e X.env (eval e X.env)) (TP X AN σ Q) X.xe s
def PW(X:Cx)(e:Expr)(t:TT):Prop:=
 ∀(a:Sem A0) (AN:Z (A1×AE)) (s:A2) (σ:St) (H:Hp) (Q:Bool->Hp->Prop),AU X AN σ H s->t σ H Q->A7 (A8 X.prog X.w) X.A (isTrue e X.env a) (TP X AN σ Q) X.xe s
theorem PW.pt{X:Cx}{t:TT}(h:PW X e t):PT X e t:=h _
def PA(X:Cx)(es:Z Expr)(t:TA):Prop:=
 ∀(pos:Pos) (AN:Z (A1×AE)) (s:A2) (σ:St) (H:Hp) (Q:Z V->Hp->Prop),AU X AN σ H s->t σ H Q->A7 (A8 X.prog X.w) X.A (spliced (AD pos (A9 es X.env))) (AP X AN σ Q) X.xe s
def PS(X:Cx)(st:AB)(t:TS):Prop:=
 ∀(AN:Z (A1×AE)) (s:A2) (σ:St) (H:Hp) (D:Be),AU X AN σ H s->t D σ H->A7 (A8 X.prog X.w) X.A (exec st X.env) (SP X AN D) X.xe s
def Cy(X:Cx)(st:Z AB)(t:TS):Prop:=
 ∀(AN:Z (A1×AE)) (s:A2) (σ:St) (H:Hp) (D:Be),AU X AN σ H s->t D σ H->A7 (A8 X.prog X.w) X.A (execs st X.env) (SP X AN D) X.xe s
theorem gM{t:Sem α}{Q b:α->A2->Prop}(h:A7 M A t Q E s)(c:∀a s,Q a s->b a s):A7 M A t b E s:=ZZ h c λ_ _ x=>x
end L2
namespace L2
section
variable{X:Cx}
def YG(i:Nat):TE:=λσ H Q=>∃v,σ[i]?=U (U v)/\Q v H
def tC(v:V):TE:=λ_ H Q=>Q v H
theorem rH(o:X.N[i]?=U x)(n:U3 X.env.scope x)(d:(x==("__debug__":AJ))=false:=by decide)(j:(x==("__classdict__":AJ))=false:=by decide):PE X (.Name x pos) (YG i):=by
 intro AN s σ H Q I h;obtain⟨v,e,h⟩:=h;obtain⟨m,q,p⟩:=I.loc;obtain⟨u,r,l⟩:=p i x v o e n;have b:EP X AN σ Q u s:=⟨v,H,I,r,h⟩;rcases l with⟨a,t⟩|⟨a,c,g,f⟩
 ·exact wpAny_Name (wpAny_loadName_local I.ok.kind a q t b) d
 ·rcases a with a|a
  ·exact wpAny_Name (wpAny_loadName_cell I.ok.kind a g f b) d
  ·exact wpAny_Name (wpAny_loadName_free I.ok.kind a g f b j) d
theorem Ry{i j pos}:PE X (.Constant (.int i) j pos) (tC (.int i)):=λ_ _ _ H _ I h=>wpAny_Constant_int ⟨.int i,H,I.tok _,⟨_,rfl⟩,h⟩
theorem Lu{b j pos}:PE X (.Constant (.bool b) j pos) (tC (.bl b)):=λ_ _ _ H _ I h=>Constant_bool ⟨.bl b,H,I,rfl,h⟩
theorem cK{j pos}:PE X (.Constant .none j pos) (tC .non):=λ_ _ _ H _ I h=>Constant_none ⟨.non,H,I,rfl,h⟩
theorem eW{x j pos}:PE X (.Constant (.str x) j pos) (tC (.str x)):=λ_ _ _ H _ I h=>Calls.Constant_str ⟨.str x,H,I.tok _,⟨_,rfl⟩,h⟩
def Gl(X:Cx)(x:AJ):Prop:=X.env.kindOf x=U .globalImplicit
theorem vU{σ:St}{H:Hp}{Q:B9}(I:AU X AN σ H s)(b:Gl X x)(c:X.mg x=U u)(h:Q u s)(a:(x==("__debug__":AJ))=false:=by decide):A7 (A8 X.prog X.w) X.A (eval (.Name x pos) X.env) Q E s:=
 Calls.Name_function_global I.ok.kind b (Calls.loadGlobal_global (by rw[I.ok.glob];exact I.mod.glob.keeps I.bk) c h) a
theorem zU{σ:St}{H:Hp}{Q:B9}(I:AU X AN σ H s)(d:Gl X x)(e:X.mg x=Y)(a:AH x=U u)(h:Q u s)(c:x ≠ "__name__":=by decide)(b:(x==("__debug__":AJ))=false:=by decide):A7 (A8 X.prog X.w) X.A (eval (.Name x pos) X.env) Q E s:=by
 obtain⟨f,h1,h2⟩:=I.mod.blt;exact Calls.Name_function_global I.ok.kind d (Calls.loadGlobal_builtin (by rw[I.ok.glob];exact I.mod.glob.keeps I.bk) e (by rw[I.ok.blt];exact h1.keeps I.bk) ((h2 x c).trans a) h) b
theorem jY{v:V}(b:Gl X x)(c:X.mg x=U u)(r:As v u)(a:(x==("__debug__":AJ))=false:=by decide):PE X (.Name x pos) (tC v):=
 λ_ _ _ H _ I h=>vU I b c ⟨v,H,I,r,h⟩ a
theorem Ko{v:V}(d:Gl X x)(e:X.mg x=Y)(b:AH x=U u)(r:As v u)(c:x ≠ "__name__":=by decide)(a:(x==("__debug__":AJ))=false:=by decide):PE X (.Name x pos) (tC v):=
 λ_ _ _ H _ I h=>zU I d e b ⟨v,H,I,r,h⟩ c a
variable{a b:Expr}{ta tb:TE}
variable{tA tB':TT}{AS:Z Expr}
def LS(t u:TT):TT:=λσ H Q=>t σ H λc H1=>if c=true then u σ H1 Q else Q false H1
def MX(t u:TT):TT:=λσ H Q=>t σ H λc H1=>if c=true then Q true H1 else u σ H1 Q
def UN(t:TT):TT:=λσ H Q=>t σ H λc H1=>Q (!c) H1
theorem VW(b:PT X a tA):PW X (.BoolOp .And [a] pos) tA:=by
 intro d AN s σ H Q I h;refine isTrue_and (gM (b AN s σ H Q I h) λc f e=>?_);cases c with
 |true=>exact isTrue_and_nil e
 |false=>exact e
theorem Pp(b:PT X a tA):PW X (.BoolOp .Or [a] pos) tA:=by
 intro d AN s σ H Q I h;refine isTrue_or (gM (b AN s σ H Q I h) λc f e=>?_);cases c with
 |false=>exact isTrue_or_nil e
 |true=>exact e
theorem gm(e:PT X a tA)(hb:PW X (.BoolOp .And (b::AS) pos) tB'):PW X (.BoolOp .And (a::b::AS) pos) (LS tA tB'):=by
 intro d AN s σ H Q I h;refine isTrue_and (gM (e AN s σ H _ I h) λc s1 ⟨H1,I1,q1⟩=>?_);cases c with
 |true=>exact hb d AN s1 σ H1 Q I1 q1
 |false=>exact⟨H1,I1,q1⟩
theorem S0(e:PT X a tA)(hb:PW X (.BoolOp .Or (b::AS) pos) tB'):PW X (.BoolOp .Or (a::b::AS) pos) (MX tA tB'):=by
 intro d AN s σ H Q I h;refine isTrue_or (gM (e AN s σ H _ I h) λc s1 ⟨H1,I1,q1⟩=>?_);cases c with
 |true=>exact⟨H1,I1,q1⟩
 |false=>exact hb d AN s1 σ H1 Q I1 q1
theorem aw(b:PT X a tA):PT X (.UnaryOp .Not a pos) (UN tA):=by
 intro AN s σ H Q I h;exact isTrue_not (b AN s σ H (λc H1=>Q (!c) H1) I h)
def RA(ta tb:TE):TE:=λσ H Q=>ta σ H λx H1=>∃c,x=.bl c/\if c=true then tb σ H1 Q else Q (.bl false) H1
theorem Rz{op}{t:TE}(h:PE X a t):PE X (.BoolOp op [a] pos) t:=λAN s σ H Q I b=>BoolOp_one (h AN s σ H Q I b)
theorem Kq(d:PE X a ta)(hb:PE X (.BoolOp .And (b::AS) pos) tb):PE X (.BoolOp .And (a::b::AS) pos) (RA ta tb):=by
 intro AN s σ H Q I h;refine BoolOp_and (gM (d AN s σ H _ I h) λv s1 ⟨x,H1,I1,r1,q1⟩=>?_);obtain⟨c,rfl,q1⟩:=q1;cases r1;refine JP ?_;cases c with
 |true=>exact hb AN s1 σ H1 Q I1 q1
 |false=>exact⟨.bl false,H1,I1,rfl,q1⟩
end
end L2
namespace L2
def qO(K:B4)(H:Hp)(a:A1)(xs:Z V):Prop:=
 Rd H a (.lst xs) ∨
  ∃(o:AE) (AQ:Array A0) (n:Nat),K.lookup a=U o/\o.cls=.type "list" ∧ o.dict=Y/\o.data=.seq AQ n/\AQ.size<=AA/\AX xs AQ.toList
def yh(K:B4)(H:Hp)(a:A1)(xs:Z V):Prop:=
 Rd H a (.tup xs) ∨
  ∃(o:AE) (AQ:Array A0) (n:Nat),K.lookup a=U o/\(o.cls=.type "tuple" ∧ o.dict=Y)/\o.data=.seq AQ n/\AQ.size<=AA/\AX xs AQ.toList
def Gc:A0->O V
 |.none=>U .non
 |.bool b=>U (.bl b)
 |.int i _=>U (.int i)
 |.str x _=>U (.str x)
 |.bytes b _=>U (.byt b)
 |.float b _=>U (.flt b)
 |.ref a=>U (.ref a)
 |.type n=>U (.ty n)
 |_=>Y
theorem As.abs{x:V}(r:As x u):Gc u=U x:=by
 cases x with
 |non=>cases r;rfl
 |bl _=>cases r;rfl
 |int _=>obtain⟨t,rfl⟩:=r;rfl
 |str _=>obtain⟨t,rfl⟩:=r;rfl
 |byt _=>obtain⟨t,rfl⟩:=r;rfl
 |flt _=>obtain⟨t,rfl⟩:=r;rfl
 |ref _=>cases r;rfl
 |ty _=>cases r;rfl
theorem As.inj{x y:V}{u:A0}(r:As x u)(q:As y u):x=y:=ja (r.abs.symm.trans q.abs)
theorem AX.inj:∀{xs ys:Z V} {us:Z A0},AX xs us->AX ys us->xs=ys
 |_,_,_,.nil,.nil=>rfl
 |_,_,_,.cons r t,.cons r' t'=>by rw[r.inj r',AX.inj t t']
section
variable{X:Cx}{σ:St}{H:Hp}{xs ys:Z V}
theorem AU.list(I:AU X AN σ H s)(h:qO X.K H a xs):∃AQ:Z A0,AX xs AQ/\PlainL s.heap a AQ.toArray/\xs.length<=AA:=by
 rcases h with h|⟨o,AQ,n,b,d,c,hs,f,r⟩
 ·obtain⟨z,AQ,n,r,e⟩:=h.ok I.hok;exact⟨AQ,r,⟨_,n,e,rfl,rfl,rfl⟩,z⟩
 ·refine⟨AQ.toList,r,⟨o,n,I.Es a o b,d,c,by simpa using hs⟩,?_⟩;have e:=r.length;simp only[qq]at e;omega
theorem AU.tuple(I:AU X AN σ H s)(h:yh X.K H a xs):∃AQ:Z A0,AX xs AQ/\IsTup s.heap a AQ.toArray/\xs.length<=AA:=by
 rcases h with h|⟨o,AQ,n,b,c,hs,d,r⟩
 ·obtain⟨z,AQ,r,p⟩:=h.ok I.hok;exact⟨AQ,r,p.weak,z⟩
 ·refine⟨AQ.toList,r,⟨o,I.Es a o b,c.1,n,by simpa using hs⟩,?_⟩;have e:=r.length;simp only[qq]at e;omega
theorem AU.Ew(I:AU X AN σ H s)(h:qO X.K H a xs)(h':qO X.K H a ys):xs=ys:=by
 obtain⟨AQ,r,⟨o,n,e,_,_,d⟩,_⟩:=I.list h;obtain⟨g,f,⟨o',i,e',_,_,b⟩,_⟩:=I.list h';rw[e]at e';cases e';rw[d]at b;injection b with c _;have:AQ=g:=by simpa using congrArg Array.toList c
 subst this;exact r.inj f
theorem AU.Jp(I:AU X AN σ H s)(h:yh X.K H a xs)(h':yh X.K H a ys):xs=ys:=by
 obtain⟨AQ,r,⟨o,e,_,n,d⟩,_⟩:=I.tuple h;obtain⟨g,f,⟨o',e',_,i,b⟩,_⟩:=I.tuple h';rw[e]at e';cases e';rw[d]at b;injection b with c _;have:AQ=g:=by simpa using congrArg Array.toList c
 subst this;exact r.inj f
end
abbrev Cx.wish(X:Cx)(E:B9):Cx:={ X with xe:=E }
abbrev Cx.Yt(X:Cx):Cx:=X.wish λ_ _=>False
theorem Cx.Ok.wish{X:Cx}(ok:X.Ok)(E:B9):(X.wish E).Ok:=
 ⟨ok.mod,ok.kind,ok.glob,ok.blt,ok.above,ok.inj,ok.has,ok.cab,ok.hd,ok.frames,ok.stk,ok.exf,ok.bs,ok.Ys,ok.Rx,ok.Wr,ok.uJ,ok.frf⟩
theorem Cx.Ok.lq{X:Cx}(ok:(X.wish E).Ok):X.Ok:=
 ⟨ok.mod,ok.kind,ok.glob,ok.blt,ok.above,ok.inj,ok.has,ok.cab,ok.hd,ok.frames,ok.stk,ok.exf,ok.bs,ok.Ys,ok.Rx,ok.Wr,ok.uJ,ok.frf⟩
section
variable{X:Cx}{σ:St}{H:Hp}
theorem AU.wish(I:AU X AN σ H s)(E:B9):AU (X.wish E) AN σ H s:=⟨I.ok.wish E,I.os,I.bare,I.base,I.loc,I.cell,I.free,I.jy,I.pin,I.hok,I.len⟩
theorem AU.lq(I:AU (X.wish E) AN σ H s):AU X AN σ H s:=⟨I.ok.lq,I.os,I.bare,I.base,I.loc,I.cell,I.free,I.jy,I.pin,I.hok,I.len⟩
theorem SP.lq{D:Be}{f:Flow}{s':A2}(h:SP (X.wish E) AN D f s'):SP X AN D f s':=by
 cases f with
 |next=>obtain⟨σ',H',I,q⟩:=h;exact⟨σ',H',I.lq,q⟩
 |brk=>obtain⟨σ',H',I,q⟩:=h;exact⟨σ',H',I.lq,q⟩
 |cont=>obtain⟨σ',H',I,q⟩:=h;exact⟨σ',H',I.lq,q⟩
 |ret u=>obtain⟨v,σ',H',I,r,q⟩:=h;exact⟨v,σ',H',I.lq,r,q⟩
theorem Cy.Yt{st:Z AB}{t:TS}(h:Cy X.Yt st t):Cy X st t:=λAN s σ H D I a=>
 ZZ (h AN s σ H D (I.wish _) a) (λ_ _ q=>q.lq) λ_ _ z=>False.elim z
end
section
variable{X:Cx}{AS:Z AB}{t u:TS}{te:TE}
def dP:TS:=λD σ H=>D.nx σ H
def UE(t u:TS):TS:=λD σ H=>t { D with nx:=u D } σ H
theorem Su:Cy X [] dP:=λ_ _ σ H _ I h=>Kk ⟨σ,H,I,h⟩
theorem qP(h1:PS X st t)(h2:Cy X AS u):Cy X (st::AS) (UE t u):=by
 intro AN s σ H D I h;refine K2 (gM (h1 AN s σ H { D with nx:=u D } I h) λf a q=>?_);cases f with
 |next=>
  obtain⟨σ',H',b,q⟩:=q;exact h2 AN a σ' H' D b q
 |ret v=>exact q
 |brk=>exact q
 |cont=>exact q
theorem Ds(h1:PS X st t):Cy X [st] t:=by
 intro AN s σ H D I h;refine K2 (gM (h1 AN s σ H D I h) λf a q=>?_);cases f with
 |next=>exact Kk q
 |ret v=>exact q
 |brk=>exact q
 |cont=>exact q
theorem AU.quiet{σ:St}{H:Hp}(I:AU X AN σ H s):interactive X.env=false:=by simp[interactive,I.ok.kind]
def bu(te:TE):TS:=λD σ H=>te σ H λ_ H1=>D.nx σ H1
theorem yj(he:PE X e te)(hs:swapsWith e Y pos.line X.env=pure false:=by rfl):PS X (.Expr e pos) (bu te):=by
 intro AN s σ H D I h;exact wpAny_Expr_any (gM (he AN s σ H _ I h) λv s1 ⟨x,H1,I1,r1,q1⟩=>⟨σ,H1,I1,q1⟩) I.quiet hs
def b7(te:TE):TS:=λD σ H=>te σ H D.rt
theorem Kr(he:PE X e te):PS X (.Return (U e) pos) (b7 te):=by
 intro AN s σ H D I h;exact wpAny_Return_some (gM (he AN s σ H _ I h) λv s1 ⟨x,H1,I1,r1,q1⟩=>⟨x,σ,H1,I1,r1,q1⟩)
def i8(c:TT)(t u:TS):TS:=λD σ H=>c σ H λb H1=>if b=true then t D σ H1 else u D σ H1
theorem M'{a b:Z AB}{tc:TT}(e:PT X c tc)(f:Cy X a t)(hb:Cy X b u):PS X (.If c a b pos) (i8 tc t u):=by
 intro AN s σ H D I h;refine wpAny_If (gM (e AN s σ H _ I h) λd s1 ⟨H1,I1,q1⟩=>?_);cases d with
 |true=>exact f AN s1 σ H1 D I1 q1
 |false=>exact hb AN s1 σ H1 D I1 q1
end
abbrev TG:=V->St->Hp->(St->Hp->Prop)->Prop
abbrev DE:=Z V->St->Hp->(St->Hp->Prop)->Prop
def PG(X:Cx)(a:Expr)(t:TG):Prop:=
 ∀(AN:Z (A1×AE)) (s:A2) (σ:St) (H:Hp) (v:V) (u:A0) (Q:St->Hp->Prop),AU X AN σ H s->As v u->t v σ H Q →
  A7 (A8 X.prog X.w) X.A (assign a X.env u) (λ_ s'=>∃ σ' H',AU X AN σ' H' s'/\Q σ' H') X.xe s
def RB(X:Cx)(ts:Z Expr)(t:DE):Prop:=
 ∀(AN:Z (A1×AE)) (s:A2) (σ:St) (H:Hp) (vs:Z V) (us:Z A0) (Q:St->Hp->Prop),AU X AN σ H s->AX vs us->t vs σ H Q →
  A7 (A8 X.prog X.w) X.A (assignInOrder ((assignEach ts X.env).map (·.2)) us) (λ_ s'=>∃ σ' H',AU X AN σ' H' s'/\Q σ' H') X.xe s
section
variable{X:Cx}
def MV(i:Nat):TG:=λv σ H Q=>Q (σ.set i (U v)) H
theorem U4(a:X.N.Nodup)(hi:X.N[i]?=U x)(hx:D4 X.env.scope x)(b:X.fn x=true\/X.env.scope.names.lookup x=U .local:=by first|exact .inl rfl|exact .inr rfl|assumption):PG X (.Name x pos) (MV i):=by
 intro AN s σ H v u Q I r h;exact wpAny_assign_Name (qN I a hi hx r (λs' c=>⟨_,H,c,h⟩) b)
def am:DE:=λvs σ H Q=>vs=[]/\Q σ H
def d4(t:TG)(u:DE):DE:=λvs σ H Q=>∃v r,vs=v::r/\t v σ H λσ' H'=>u r σ' H' Q
theorem SO:RB X [] am:=by
 intro AN s σ H vs us Q I r h;obtain⟨e,h⟩:=h;subst e;cases r;exact assignInOrder_nil ⟨σ,H,I,h⟩
theorem YH{t:TG}{u:DE}(h1:PG X e t)(h2:RB X es u)(hs:(assignEach (e::es) X.env).map (·.2)=assign e X.env::(assignEach es X.env).map (·.2):=by rfl):RB X (e::es) (d4 t u):=by
 intro AN s σ H vs us Q I r h;obtain⟨v,b,e1,h⟩:=h;subst e1;cases r with
 |cons r a=>
  rw[hs];refine assignInOrder_cons (gM (h1 AN s σ H _ _ _ I r h) λ_ s1 ⟨σ1,H1,I1,q1⟩=>?_);exact h2 AN s1 σ1 H1 _ _ Q I1 a q1
def TK(K:B4)(n:Nat)(t:DE):TG:=λv σ H Q=>∃a xs,v=.ref a/\yh K H a xs/\xs.length=n/\t xs σ H Q
theorem Pd{k:Nat}{t:DE}(j:X.calm=true)(h:RB X es t)(p:(assignEach es X.env).length=n:=by rfl)(f:(assignEach es X.env).findIdx? (·.1)=Y:=by rfl):PG X (.Tuple es k pos) (TK X.K n t):=by
 intro AN s σ H v u Q I r c;obtain⟨a,xs,e1,g,m,c⟩:=c;subst e1;cases r;obtain⟨AQ,d,l,q⟩:=I.tuple g;refine assign_Tuple_tuple (I.ok.hd j) l (by simp[p,<-m,d.length]) f λh' hx=>?_;have i:AU X AN σ H { s with heap:=h' }:=I.kept (t':=s.toks) λb o e=>hx b o (Zl (zt e)) e;exact h AN _ σ H xs _ Q i (by simpa using d) c
def MR(te:TE)(g:TG):TS:=λD σ H=>te σ H λx H1=>g x σ H1 D.nx
theorem WG{te:TE}{g:TG}(he:PE X e te)(a:PG X tg g)(hs:swapsWithSole [tg] e pos.line X.env=pure false:=by rfl)(b:swappedStores [tg] e X.env=pure Y:=by rfl)(h1:(assignEach [tg] X.env).map (·.2)=[assign tg X.env]:=by rfl):PS X (.Assign [tg] e pos) (MR te g):=by
 intro AN s σ H D I h;refine wpAny_Assign_stores (gM (he AN s σ H _ I h) λv s1 ⟨x,H1,I1,r1,q1⟩=>?_) hs b;rw[h1];exact gM (a AN s1 σ H1 x v _ I1 r1 q1) λ_ c q=>q
theorem zV{te:TE}{pos':Pos}(b:X.N.Nodup)(hi:X.N[i]?=U x)(hx:D4 X.env.scope x)(he:PE X e te)(hs:swapsWith e (U (.Name x pos')) pos.line X.env=pure false:=by rfl)(c:X.fn x=true\/X.env.scope.names.lookup x=U .local:=by first|exact .inl rfl|exact .inr rfl|assumption):
  PS X (.Assign [.Name x pos'] e pos) (MR te (MV i)):=by
 intro AN s σ H D I h;refine wpAny_Assign_Name (gM (he AN s σ H _ I h) λv s1 ⟨y,H1,I1,r1,q1⟩=>?_) hs;exact qN I1 b hi hx r1 (λd a=>⟨_,H1,a,q1⟩) c
def b5(i j:Nat)(ta:TA):TS:=λD σ H=>ta σ H λvs H1=>∃v w,vs=[v,w]/\D.nx ((σ.set i (U v)).set j (U w)) H1
theorem l6{a b:Expr}{ta:TA}{px py pt:Pos}{kt k2 pt2}(z:X.calm=true)(f:X.N.Nodup)(hi:X.N[i]?=U x)(J:X.N[j]?=U y)(K:i≠j)(hx:X.env.scope.names.lookup x=U .local)(g:X.env.scope.names.lookup y=U .local)(t:PA X [a,b] ta)(u:swappedStores [.Tuple [.Name x px,.Name y py] kt pt] (.Tuple [a,b] k2 pt2) X.env=pure (U [x,y]))(hs:swapsWithSole [.Tuple [.Name x px,.Name y py] kt pt] (.Tuple [a,b] k2 pt2) pos.line X.env=pure false:=by rfl):
  PS X (.Assign [.Tuple [.Name x px,.Name y py] kt pt] (.Tuple [a,b] k2 pt2) pos) (b5 i j ta):=by
 intro AN s σ H D I h;rw[exec_Assign_arm];refine zb (Kb ?_);rw[hs];refine zb (ze ?_);rw[zC (by decide)];refine zb (Tuple_ (gM (t _ AN s σ H _ I h) λus s1 ⟨vs,H1,I1,r1,q1⟩=>?_));obtain⟨v,w,e1,q1⟩:=q1;subst e1;obtain⟨c,d,rfl,n,F⟩:∃c d,us=[c,d]/\As v c/\As w d:=by
  cases r1 with
  |cons p q=>
   cases q with
   |cons p' m=>
    cases m;exact⟨_,_,rfl,p,p'⟩
 refine qh ?_ (by show 2<=AA;decide);have G:AU X AN σ H1 { s1 with heap:=s1.heap.push { cls:=.type "tuple",data:=.seq [c,d].toArray } }:=I1.kept (t':=s1.toks) λb o e=>zd _ e;rw[u];refine zb (ze ?_);show A7 (A8 X.prog X.w) X.A (do rule "assign.swapped-stores"; let items <-unpackItems (.ref s1.heap.objs.size) 2 Y;assignInOrder [λv=>bindName X.env y v,λv=>bindName X.env x v] items.reverse;pure Flow.next) _ _ _;refine zb (Kn (zb (unpackItems_tuple (items:=#[c,d]) (I.ok.hd z) (IsTup.new s1.heap _) λh' B=>?_)));have C:=G.kept (h':=h') (t':=s1.toks) λb o e=>B b o (Zl (zt e)) e;show A7 _ _ (assignInOrder [λv=>bindName X.env y v,λv=>bindName X.env x v] [d,c] >>= λ_=>pure Flow.next) _ _ _;refine zb (assignInOrder_cons (wpAny_bindName (qN C f J (.inl g) F (λM E=>?_) (.inr g))));refine assignInOrder_cons (wpAny_bindName (qN E f hi (.inl hx) n (λL l=>assignInOrder_nil (ze ?_)) (.inr hx)));rw[List.set_comm _ _ (jI K)]at l;exact⟨_,H1,l,q1⟩
def UB(c:TT)(tb:TS):TS:=λD σ H=>∃W:Nat->St->Hp->Prop,(∃m,W m σ H)/\∀m σ H,W m σ H →
 c σ H λb H1=>if b=true then ∃N:St->Hp->Prop,(∀ σ' H',N σ' H'->∃a,a<m/\W a σ' H')/\tb { D with nx:=N,ct:=N,bk:=D.nx } σ H1 else D.nx σ H1
theorem YJ{tc:TT}{tb:TS}(hp:PassesOwn (A8 X.prog X.w) X.A X.env X.xe)(x:PT X c tc)(hb:Cy X body tb):PS X (.While c body [] pos) (UB tc tb):=by
 intro AN s σ H D I h;obtain⟨W,⟨t,z⟩,turn⟩:=h;refine wpAny_While (codeAny_whileLoop (λn s'=>∃ σ' H',AU X AN σ' H' s'/\W n σ' H') ?_ t ⟨σ,H,I,z⟩);rintro n y ⟨e,H1,u,q⟩;refine kK hp (gM (x AN y e H1 _ u (turn n e H1 q)) λb s2 ⟨H2,I2,q2⟩=>?_);cases b with
 |true=>
  obtain⟨N,p,q2⟩:=q2;rw[zh rfl];refine kK hp (gM (hb AN s2 e H2 _ I2 q2) λf B g=>?_);cases f with
  |next=>
   obtain⟨d,a,m,l⟩:=g;obtain⟨j,o,i⟩:=p d a l;exact⟨j,o,d,a,m,i⟩
  |cont=>
   obtain⟨d,a,m,l⟩:=g;obtain⟨j,o,i⟩:=p d a l;exact⟨j,o,d,a,m,i⟩
  |brk=>exact g
  |ret v=>exact g
 |false=>
  rw[zC ZI];exact Kk ⟨e,H2,I2,q2⟩
end
structure It where
 go:Nat->Hp->Prop
 yld:Nat->Hp->V->Hp->Prop
 stop:Nat->Hp->Prop
def qD(X:Cx)(AN:Z (A1×AE))(H:Hp)(b:A1):Prop:=
 H b=Y/\b≠X.env.locals/\b∉X.fs/\(b∈X.ex\/X.s₀.heap.objs.size<=b)/\(∀x c,X.env.cells.lookup x=U c->c≠b)/\∀p∈X.pn++AN,p.1≠b
theorem AU.N8{X:Cx}{σ:St}{H H':Hp}{b:A1}(I:AU X AN σ H s)(hb:s.heap.objs.size<=b)(a:H' b=Y):qD X AN H' b:=by
 refine⟨a,jS (ZU I.lt hb),I.aky hb,.inr (ZH I.sz hb),λx c e z=>?_,λp hp z=>?_⟩
 ·obtain⟨v,q⟩:=I.cell x c e;exact absurd (ZU q.lt (by rw[z];exact hb)) (kc _)
 ·exact absurd (ZU (zt (I.pin p hp).1) (by rw[z];exact hb)) (kc _)
structure C8 (P:Program) (w:World) (K:B4) (tg:Expr) (J:It) (fp:List Addr) (it:Addr) (tn:Nat->Heap->Prop):Prop where
 mem:it∈fp
 obj:∀i h,tn i h->∀b∈fp,∃o,h.get? b=some o/\∀v,o.data≠.cell v
 keep:∀i h h',tn i h->(∀b∈fp,∀o,h.get? b=some o->h'.get? b=some o)->tn i h'
 item:∀(X:Cx),X.prog=P->X.w=w->X.K=K->X.calm=true->∀(i:Nat) (AN:List (Addr×Obj)) (s:Shared) (σ:St) (H:Hp) (E:B9),AU X AN σ H s->(∀b∈fp,qD X AN H b)->tn i s.heap->J.go i H →
  wpAny (model P w) X.A (pyNext (.ref it)) (λr s1=>∃u,r=some u ∧
   wpAny (model P w) X.A (letOwnedTupleGo tg (.ref it) u) (λ_ s2=>∃x H',AU X AN σ H' s2/\As x u/\J.yld i H x H'/\tn (i+1) s2.heap/\∀b∈fp,H' b=none) E s1) E s
 done:∀(X:Cx),X.prog=P->X.w=w->X.K=K->X.calm=true->∀(i:Nat) (AN:List (Addr×Obj)) (s:Shared) (σ:St) (H:Hp) (E:B9),AU X AN σ H s->(∀b∈fp,qD X AN H b)->tn i s.heap->J.stop i H →
  wpAny (model P w) X.A (pyNext (.ref it)) (λr s1=>r=none/\AU X AN σ H s1) E s
 self:∀(A:Around) (i:Nat) (s:Shared) (Q:B9) (E:B9),tn i s.heap->Q (.ref it) s->wpAny (model P w) A (pyIter (.ref it)) Q E s
abbrev TI:=St->Hp->(It->Hp->Prop)->Prop
def Mn(X:Cx)(AN:Z (A1×AE))(σ:St)(tg:Expr)(R:It->Hp->Prop)(c:A0)(a:A2):Prop:=
 ∃(it:A1) (fp:Z A1) (tn:Nat->A6->Prop) (J:It) (H':Hp),c=.ref it/\AU X AN σ H' a/\C8 X.prog X.w X.K tg J fp it tn/\tn 0 a.heap/\(∀b∈fp,qD X AN H' b)/\R J H'
def PI(X:Cx)(tg iter:Expr)(a:TI):Prop:=
 ∀(AN:Z (A1×AE)) (s:A2) (σ:St) (H:Hp) (R:It->Hp->Prop),AU X AN σ H s->a σ H R →
  A7 (A8 X.prog X.w) X.A (eval iter X.env) (λv b=>A7 (A8 X.prog X.w) X.A (pyIter v) (Mn X AN σ tg R) X.xe b) X.xe s
theorem Jq{n:String}{vs:Array A0}(b:s.heap.get? it=U o)(d:o.cls=.type n)(c:o.data=.fields vs)(e:["enumerate","zip","dict_itemiterator","dict_reverseitemiterator","odict_iterator","itertools.zip_longest","itertools.pairwise"].contains n=false)(a:Q () s):A7 M A (letOwnedTupleGo tg (.ref it) u) Q E s:=by
 unfold letOwnedTupleGo;cases tg<;>first
  |exact ze a
  |(cases u<;>first
    |exact ze a
    |(refine zb (K0 b ?_)
      rw[d,c];show A7 M A (if(["enumerate","zip","dict_itemiterator","dict_reverseitemiterator","odict_iterator","itertools.zip_longest","itertools.pairwise"].contains n&&vs[0]?==U (rawInt _))=true then _ else _) Q E s;rw[zC (by intro h;rw[e,yA]at h;cases h)];exact ze a))
def Fn(K:B4)(a:A1):It:=
 ⟨λi H=>∃xs x,qO K H a xs/\xs[i]?=U x,λi H x H'=>H'=H/\∀xs,qO K H a xs->xs[i]?=U x,λi H=>∃xs,qO K H a xs/\xs.length<=i⟩
def IG(K:B4)(a:A1):It:=
 ⟨λi H=>∃xs x,yh K H a xs/\xs[i]?=U x,λi H x H'=>H'=H/\∀xs,yh K H a xs->xs[i]?=U x,λi H=>∃xs,yh K H a xs/\xs.length<=i⟩
def Fc(lo:Int)(n:Nat):It:=⟨λi _=>i<n,λi H x H'=>H'=H/\x=.int (lo+i),λi _=>n<=i⟩
theorem Wt(a it:A1):C8 P w K tg (Fn K a) [it] it (λi h=>h.IsListIter it a i) where
 mem:=by simp
 obj:=λi h st b hb=>by
  have e:b=it:=by simpa using hb
  subst e;obtain⟨o,e,c,d⟩:=st;exact⟨o,e,λv z=>by rw[d]at z;cases z⟩
 keep:=λi h h' st k=>st.at λo e=>k it (by simp) o e
 item:=by
  intro X t l m C i AN s σ H E I f st n;subst t l m;obtain⟨xs,x,g,hx⟩:=n;obtain⟨AQ,j,p,F⟩:=I.list g;obtain⟨u,M,D⟩:=j.get hx;obtain⟨f0,f1,f2,A,y,q⟩:=f it (by simp);refine wpAny_pyNext_list_item st p.isList (x:=u) (by simpa using M) λh' B J=>?_;have G:AU X AN σ H { s with heap:=h' }:=I.turned (t':=s.toks) (λb o hb e=>(J.2 b hb).trans e) f0 f1 A y q;obtain⟨o,e,c,d⟩:=id B;exact⟨u,rfl,Jq (s:={ s with heap:=h' }) e c d (by decide) ⟨x,H,G,D,⟨rfl,λys L=>by rw[I.Ew L g];exact hx⟩,B,λb hb=>(f b hb).1⟩⟩
 done:=by
  intro X t l m C i AN s σ H E I f st n;subst t l m;obtain⟨xs,g,hx⟩:=n;obtain⟨AQ,j,p,F⟩:=I.list g;obtain⟨f0,f1,f2,A,y,q⟩:=f it (by simp);have N:=j.length;exact wpAny_pyNext_list_end (I.ok.hd C) st p.isList (by simp;omega) λh' eb=>⟨rfl,I.turned (t':=s.toks) (λb o hb e=>eb b o hb e) f0 f1 A y q⟩
 self:=λ_ _ _ _ _ st h=>wpAny_pyIter_listiter st h
theorem RD(a it:A1):C8 P w K tg (IG K a) [it] it (λi h=>h.IsTupleIter it a i) where
 mem:=by simp
 obj:=λi h st b hb=>by
  have e:b=it:=by simpa using hb
  subst e;obtain⟨o,e,c,d⟩:=st;exact⟨o,e,λv z=>by rw[d]at z;cases z⟩
 keep:=λi h h' st k=>st.at λo e=>k it (by simp) o e
 item:=by
  intro X t l m C i AN s σ H E I f st n;subst t l m;obtain⟨xs,x,g,hx⟩:=n;obtain⟨AQ,j,p,F⟩:=I.tuple g;obtain⟨u,M,D⟩:=j.get hx;obtain⟨f0,f1,f2,A,y,q⟩:=f it (by simp);refine wpAny_pyNext_tuple_item st (show s.heap.IsTuple a AQ.toArray from p) (x:=u) (by simpa using M) λh' B J=>?_;have G:AU X AN σ H { s with heap:=h' }:=I.turned (t':=s.toks) (λb o hb e=>(J.2 b hb).trans e) f0 f1 A y q;obtain⟨o,e,c,d⟩:=id B;exact⟨u,rfl,Jq (s:={ s with heap:=h' }) e c d (by decide) ⟨x,H,G,D,⟨rfl,λys L=>by rw[I.Jp L g];exact hx⟩,B,λb hb=>(f b hb).1⟩⟩
 done:=by
  intro X t l m C i AN s σ H E I f st n;subst t l m;obtain⟨xs,g,hx⟩:=n;obtain⟨AQ,j,p,F⟩:=I.tuple g;obtain⟨f0,f1,f2,A,y,q⟩:=f it (by simp);have N:=j.length;exact wpAny_pyNext_tuple_end (I.ok.hd C) st (show s.heap.IsTuple a AQ.toArray from p) (by simp;omega) λh' eb=>⟨rfl,I.turned (t':=s.toks) (λb o hb e=>eb b o hb e) f0 f1 A y q⟩
 self:=λ_ _ _ _ _ st h=>wpAny_pyIter_tupleiter st h
theorem RG(it:A1)(lo:Int)(n:Nat):C8 P w K tg (Fc lo n) [it] it (λi h=>IsRangeIter h it (lo+(i:Nat)*1) ((n:Int)-(i:Nat)) 1) where
 mem:=by simp
 obj:=λi h st b hb=>by
  have e:b=it:=by simpa using hb
  subst e;exact⟨_,st,λv z=>by
   have u:Data.fields _=Data.cell v:=z;cases u⟩
 keep:=λi h h' st k=>k it (by simp) _ st
 item:=by
  intro X c f g j i AN s σ H E I a st p;subst c f g;obtain⟨f0,f1,f2,l,d,m⟩:=a it (by simp);have W:=Walks.range (prog:=X.prog) (w:=X.w) (I.ok.hd j) it lo 1 n;refine W.item i s _ _ p st λv h' tk x q kk=>?_;obtain⟨t,rfl⟩:=x;have y:AU X AN σ H { s with heap:=h',toks:=tk }:=I.turned (λb o hb e=>kk b o (by simpa using hb) e) f0 f1 l d m;refine⟨_,rfl,Jq (s:={ s with heap:=h',toks:=tk }) (n :="range_iterator") q S S (by decide) ⟨.int (lo+i),H,y,⟨t,?_⟩,⟨rfl,rfl⟩,q,λb hb=>(a b hb).1⟩⟩;rw[Int.mul_one]
 done:=by
  intro X c f g j i AN s σ H E I a st p;subst c f g;obtain⟨f0,f1,f2,l,d,m⟩:=a it (by simp);exact wpAny_pyNext_range_end (I.ok.hd j) st (by have:n<=i:=p;omega) λh' eb=>⟨rfl,I.turned (t':=s.toks) (λb o hb e=>eb b o hb e) f0 f1 l d m⟩
 self:=λ_ _ _ _ _ st h=>wpAny_pyIter_rangeiter st h
end L2
namespace L2
section
variable{X:Cx}
theorem YK{σ:St}{H:Hp}{R:It->Hp->Prop}{lo hi:Int}{t u v:Tok}(I:AU X AN σ H s)(h1 : -(2 ^ 62)<=lo)(h2:lo<2 ^ 62)(d : -(2 ^ 62)<=hi)(c:hi<2 ^ 62)(q:R (Fc lo (hi-lo).toNat) H):A7 (A8 X.prog X.w) X.A (pyIter (.ref s.heap.objs.size)) (Mn X AN σ tg R) E { s with heap:=s.heap.push { cls:=.type "range",data:=.fields #[.int lo t,.int hi u,.int 1 v] },toks:=tk }:=by
 refine wpAny_pyIter_range (IsRange.new ..) (small_one h1 h2 d c) ?_;have a:AU X AN σ H { s with heap:=s.heap.push { cls:=.type "range",data:=.fields #[.int lo t,.int hi u,.int 1 v] },toks:=tk }:=I.kept λb o e=>zd _ e;refine⟨(s.heap.push { cls:=.type "range",data:=.fields #[.int lo t,.int hi u,.int 1 v] }).objs.size,[(s.heap.push { cls:=.type "range",data:=.fields #[.int lo t,.int hi u,.int 1 v] }).objs.size],_,_,H,rfl,
  a.kept (t':=tk) λb o e=>zd _ e,RG _ lo (hi-lo).toNat,?_,λb hb=>?_,q⟩
 ·have e1:lo+((0:Nat):Int)*1=lo:=by simp
  have e2:(((hi-lo).toNat:Nat):Int)-((0:Nat):Int)=Builtin.Range.rangeSize lo hi 1:=by rw[rangeSize_one];split<;>omega
  show IsRangeIter _ _ (lo+((0:Nat):Int)*1) ((((hi-lo).toNat:Nat):Int)-((0:Nat):Int)) 1;rw[e1,e2];exact zv _ rfl
 ·have e:b=(s.heap.push { cls:=.type "range",data:=.fields #[.int lo t,.int hi u,.int 1 v] }).objs.size:=by simpa using hb
  subst e;exact a.N8 (zg _) (a.hok.fresh (zg _))
def eP(ta:TA):TI:=λσ H R=>ta σ H λvs H1=>∃j:Int,vs=[.int j] ∧ -(2 ^ 62)<=j/\j<2 ^ 62/\R (Fc 0 j.toNat) H1
theorem Wu{a:Expr}{ta:TA}{p:Pos}(c:Gl X "range")(f:X.mg "range"=Y)(d:PA X [a] ta)(hs:A9 [a] X.env=[(false,eval a X.env)]:=by rfl):PI X tg (.Call (.Name "range" p) [a] [] pos) (eP ta):=by
 intro AN s σ H R I h;refine Call_ (zU I c f boot_range (PyProof.Rows.callWith_type1 (gM (d pos AN s σ H _ I h) λus s1 ⟨vs,H1,I1,r1,q1⟩=>?_) hs S));obtain⟨j,e,q1,q2,q⟩:=q1;subst e;cases r1 with
 |cons r b=>
  cases b;obtain⟨t,rfl⟩:=r;exact call_range_1 (YK I1 (by omega) (by omega) q1 q2 (by simpa using q))
def VS(b:TI)(g:TG)(tb:TS):TS:=λD σ H=>b σ H λJ H1=>∃W:Nat->Nat->St->Hp->Prop,(∃m,W 0 m σ H1)/\∀i m σ H,W i m σ H →
 (J.stop i H/\D.nx σ H)\/(J.go i H/\∃N:St->Hp->Prop,(∀ σ' H',N σ' H'->∃a,a<m/\W (i+1) a σ' H')/\∀x H',J.yld i H x H'->g x σ H' λc H2=>tb { D with nx:=N,ct:=N,bk:=D.nx } c H2)
def zW(fp:Z A1)(h:A6):Z (A1×AE):=fp.filterMap λb=>(h.get? b).map λo=>(b,o)
theorem rJ{b:A1}(hb:b∈fp)(e:h.get? b=U o):(b,o)∈zW fp h:=List.mem_filterMap.mpr ⟨b,hb,by rw[e];rfl⟩
theorem Wv{p:A1×AE}(hp:p∈zW fp h):p.1∈fp/\h.get? p.1=U p.2:=by
 obtain⟨b,hb,e⟩:=List.mem_filterMap.mp hp;cases q:h.get? b with
 |none=>rw[q]at e;cases e
 |some o=>
  rw[q]at e;have e':(b,o)=p:=ja e;subst e';exact⟨hb,q⟩
theorem AU.pinned{σ:St}{H:Hp}(I:AU X AN σ H s)(c:∀b∈fp,qD X AN H b)(a:∀b∈fp,∃o,s.heap.get? b=U o/\∀v,o.data≠.cell v):AU X (AN++zW fp s.heap) σ H s:=
 I.Dr λp hp=>(List.mem_append.mp hp).elim (λz=>I.pin p (ZA _ z)) λz=>by
  obtain⟨hb,e⟩:=Wv z;obtain⟨f0,f1,f2,_⟩:=c p.1 hb;obtain⟨o,e',d⟩:=a p.1 hb;rw[e]at e';cases e';exact⟨e,f0,f1,f2,d⟩
theorem AU.uK{pl:Z (A1×AE)}{σ:St}{H:Hp}(I:AU X (AN++pl) σ H s):AU X AN σ H s:=I.Dr λp hp=>I.pin p (ZA _ (Zp _ hp))
theorem YL{G:TI}{g:TG}{tb:TS}(hp:PassesOwn (A8 X.prog X.w) X.A X.env X.xe)(E:X.calm=true)(hi:PI X tg iter G)(hg:PG X tg g)(hb:Cy X body tb)(hs:∀x,foldedSetIterable iter X.env x=pure x:=by intro _;rfl):PS X (.For tg iter body [] pos) (VS G g tb):=by
 intro AN s σ H D I h;refine wpAny_For (gM (hi AN s σ H _ I h) λv s1 h1=>gM h1 λa2 s2 h2=>?_) hs;obtain⟨it,fp,tn,J,H2,e,I2,T,a0,f2,W,⟨m0,w0⟩,turn⟩:=h2;subst e;have z:∀{H':Hp},(∀b∈fp,H' b=Y)->∀b∈fp,qD X AN H' b:=λM b hb=>⟨M b hb,(f2 b hb).2⟩;refine codeAny_forLoop_any (λn s'=>∃i σ' H',AU X AN σ' H' s'/\tn i s'.heap/\(∀b∈fp,H' b=Y)/\W i n σ' H') ?_ m0 ⟨0,σ,H2,I2,a0,λb hb=>(f2 b hb).1,w0⟩;rintro n C ⟨i,p,t,F,B,K,w3⟩;rcases turn i n p t w3 with⟨Q,P⟩|⟨L,N,hN,step⟩
 ·refine kK hp (gM (T.done X S S S E i AN C p t X.xe F (z K) B Q) λr s4 ⟨hr,I4⟩=>?_);subst hr;exact Kk ⟨p,t,I4,P⟩
 ·refine kK hp (gM (T.item X S S S E i AN C p t X.xe F (z K) B L) λr s4 ⟨u,hr,h4⟩=>?_);subst hr;refine kK hp (gM h4 λ_ s5 ⟨x,H5,I5,r5,y5,st5,fr5⟩=>?_);have a1:=I5.pinned (z fr5) (T.obj _ _ st5);refine kK hp (gM (hg _ s5 p H5 x u _ a1 r5 (step x H5 y5)) λ_ s6 ⟨σ6,H6,I6,q6⟩=>?_);refine kK hp (gM (hb _ s6 σ6 H6 _ I6 q6) λf y l=>?_);have again:∀{j:St} {c:Hp},AU X (AN++zW fp s5.heap) j c y->N j c->∃m,m<n/\∃i σ' H',AU X AN σ' H' y/\tn i y.heap/\(∀b∈fp,H' b=Y)/\W i m σ' H':=λ{j c} a q=>by
   obtain⟨m',hm,w7⟩:=hN j c q;refine⟨m',hm,i+1,j,c,a.uK,T.keep _ _ _ st5 λb hb o e=>(a.pin (b,o) (ZA _ (ZA _ (rJ hb e)))).1,λb hb=>?_,w7⟩;obtain⟨o,e,d⟩:=T.obj _ _ st5 b hb;exact(a.pin (b,o) (ZA _ (ZA _ (rJ hb e)))).2.1
  cases f with
  |next=>obtain⟨j,c,a,q⟩:=l;exact again a q
  |cont=>obtain⟨j,c,a,q⟩:=l;exact again a q
  |brk=>obtain⟨j,c,a,l⟩:=l;exact⟨j,c,a.uK,l⟩
  |ret v=>obtain⟨x7,j,c,a,r7,l⟩:=l;exact⟨x7,j,c,a.uK,r7,l⟩
end
end L2
namespace L2
abbrev R2:=V->V->Hp->VK->Prop
def uL(X:Cx)(f:A0->A0->Sem A0)(r:R2):Prop:=
 ∀(AN:Z (A1×AE)) (s:A2) (σ:St) (H:Hp) (x y:V) (v u:A0) (Q:VK),AU X AN σ H s->As x v->As y u->r x y H Q →
  A7 (A8 X.prog X.w) X.A (f v u) (EP X AN σ Q) X.xe s
def DU(X:Cx)(f:A0->Sem A0)(r:V->Hp->VK->Prop):Prop:=
 ∀(AN:Z (A1×AE)) (s:A2) (σ:St) (H:Hp) (x:V) (v:A0) (Q:VK),AU X AN σ H s->As x v->r x H Q →
  A7 (A8 X.prog X.w) X.A (f v) (EP X AN σ Q) X.xe s
def fK(X:Cx)(f:A0)(r:Z V->Hp->VK->Prop):Prop:=
 ∀(AN:Z (A1×AE)) (s:A2) (σ:St) (H:Hp) (xs:Z V) (us:Z A0) (Q:VK),AU X AN σ H s->AX xs us->r xs H Q →
  A7 (A8 X.prog X.w) X.A (call f us) (EP X AN σ Q) X.xe s
def Pv(X:Cx)(r:V->Hp->(Bool->Hp->Prop)->Prop):Prop:=
 ∀(AN:Z (A1×AE)) (s:A2) (σ:St) (H:Hp) (x:V) (v:A0) (Q:Bool->Hp->Prop),AU X AN σ H s->As x v->r x H Q →
  A7 (A8 X.prog X.w) X.A (truthy v) (TP X AN σ Q) X.xe s
def EX(r:R2)(ta tb:TE):TE:=λσ H Q=>ta σ H λx H1=>tb σ H1 λy H2=>r x y H2 Q
def Iy(r:V->Hp->VK->Prop)(ta:TE):TE:=λσ H Q=>ta σ H λx H1=>r x H1 Q
def rI(C:Int->Int->Prop)(g:Int->Int->V):R2:=λx y H Q=>∃i j,x=.int i/\y=.int j/\C i j/\Q (g i j) H
def DM(g:Int->Int->V):R2:=λx y H Q=>∃i j,x=.int i/\y=.int j/\Q (g i j) H
def rU(g:Int->V):V->Hp->VK->Prop:=λx H Q=>∃i,x=.int i/\Q (g i) H
section
variable{X:Cx}{a b:Expr}{ta tb tc:TE}
theorem Hc(d:PE X a ta)(hb:PE X b tb){σ:St}{H:Hp}{R:V->V->Hp->Prop}(I:AU X AN σ H s)(h:ta σ H λx H1=>tb σ H1 λy H2=>R x y H2){Q:B9}{f:A0->A0->Sem A0}(e:∀v u c x y H2,AU X AN σ H2 c->As x v->As y u->R x y H2->A7 (A8 X.prog X.w) X.A (f v u) Q X.xe c):
  A7 (A8 X.prog X.w) X.A (eval a X.env) (λv i=>A7 (A8 X.prog X.w) X.A (eval b X.env) (λu g=>A7 (A8 X.prog X.w) X.A (f v u) Q X.xe g) X.xe i) X.xe s:=by
 refine gM (d AN s σ H _ I h) λv s1 ⟨x,H1,I1,r1,q1⟩=>?_;refine gM (hb AN s1 σ H1 _ I1 q1) λu c ⟨y,H2,I2,r2,q2⟩=>?_;exact e v u c x y H2 I2 r1 r2 q2
theorem K'{op:Operator}{r:R2}(f:uL X (binaryOp op) r)(e:PE X a ta)(hb:PE X b tb):PE X (.BinOp a op b pos) (EX r ta tb):=by
 intro AN s σ H Q I h;exact wpAny_BinOp (Hc e hb I h λv u c x y H2 d g i q=>f AN c σ H2 x y v u Q d g i q)
theorem Sn{op:UnaryOp}{r:V->Hp->VK->Prop}(b:DU X (unaryOp op) r)(c:PE X a ta):PE X (.UnaryOp op a pos) (Iy r ta):=by
 intro AN s σ H Q I h;exact UnaryOp_ (gM (c AN s σ H _ I h) λv s1 ⟨x,H1,I1,r1,q1⟩=>b AN s1 σ H1 x v Q I1 r1 q1)
theorem FX{f:A0->A0->Sem A0}{C:Int->Int->Prop}{g:Int->Int->Int}
  (b:∀(i j:Int) (t u:Tok) (s:A2) (Q:B9) (E:B9),C i j->Q (.int (g i j) s.toks) { s with toks:=s.toks+1 }->A7 (A8 X.prog X.w) X.A (f (.int i t) (.int j u)) Q E s):
  uL X f (rI C λi j=>.int (g i j)):=by
 intro AN s σ H x y v u Q I a d h;obtain⟨i,j,rfl,rfl,c,q⟩:=h;obtain⟨t,rfl⟩:=a;obtain⟨e,rfl⟩:=d;exact b i j t e s _ _ c ⟨.int (g i j),H,I.tok _,⟨_,rfl⟩,q⟩
theorem Lv{f:A0->A0->Sem A0}{g:Int->Int->Int}
  (d:∀(i j:Int) (t u:Tok) (s:A2) (Q:B9) (E:B9),Q (.int (g i j) s.toks) { s with toks:=s.toks+1 }->A7 (A8 X.prog X.w) X.A (f (.int i t) (.int j u)) Q E s):
  uL X f (DM λi j=>.int (g i j)):=by
 intro AN s σ H x y v u Q I c a h;obtain⟨i,j,rfl,rfl,q⟩:=h;obtain⟨t,rfl⟩:=c;obtain⟨b,rfl⟩:=a;exact d i j t b s _ _ ⟨.int (g i j),H,I.tok _,⟨_,rfl⟩,q⟩
theorem FS{f:A0->A0->Sem A0}{g:Int->Int->Bool}
  (d:∀(i j:Int) (t u:Tok) (s:A2) (Q:B9) (E:B9),Q (.bool (g i j)) s->A7 (A8 X.prog X.w) X.A (f (.int i t) (.int j u)) Q E s):
  uL X f (DM λi j=>.bl (g i j)):=by
 intro AN s σ H x y v u Q I a c h;obtain⟨i,j,rfl,rfl,q⟩:=h;obtain⟨t,rfl⟩:=a;obtain⟨b,rfl⟩:=c;exact d i j t b s _ _ ⟨.bl (g i j),H,I,rfl,q⟩
def P6(i j:Int):Prop:=0<j/\j<1073741824
def OR(i j:Int):Prop:=0<=j/\j<=1000000/\i.natAbs<2 ^ 64
def IZ(i j:Int):Prop:=(-(2 ^ 64)<i/\i<2 ^ 64)\/(-(2 ^ 64)<j/\j<2 ^ 64)
theorem IZ.ok{i j:Int}(h:IZ i j):IntMulOk i j:=by
 rcases h with⟨h1,h2⟩|⟨h1,h2⟩
 ·exact .of_left (intBits_le_64 h1 h2)
 ·exact .of_right (intBits_le_64 h1 h2)
theorem SE:uL X (binaryOp .Add) (DM λi j=>.int (i+j)):=Lv λ_ _ _ _ _ _ _ q=>add_int q
theorem PR:uL X (binaryOp .Sub) (DM λi j=>.int (i-j)):=Lv λ_ _ _ _ _ _ _ q=>sub_int q
theorem a9:uL X (binaryOp .Mult) (rI IZ λi j=>.int (i*j)):=FX λ_ _ _ _ _ _ _ a q=>mul_int q a.ok
theorem OP:uL X (binaryOp .FloorDiv) (rI P6 λi j=>.int (i / j)):=FX λi j _ _ _ _ _ a q=>by
 have h1:(0:Int)<j:=a.1;have h2:j<1073741824:=a.2;exact floordiv_int (by omega) (by rw[Int.fdiv_eq_ediv_of_nonneg i (by omega)];exact q) (.inl (PyProof.noPylong_small (by omega)))
theorem b9:uL X (binaryOp .Mod) (rI (λ_ j=>0<j) λi j=>.int (i%j)):=FX λi j _ _ _ _ _ a q=>by
 have h1:(0:Int)<j:=a;exact mod_int' (by omega) (by rw[Int.fmod_eq_emod_of_nonneg i (by omega)];exact q)
theorem hJ:uL X (binaryOp .Pow) (rI OR λi j=>.int (i ^ j.toNat)):=FX λ_ _ _ _ _ _ _ a q=>pow_int_small a.1 a.2.1 a.2.2 q
theorem SV{f:A0->Sem A0}{g:Int->Int}
  (b:∀(i:Int) (t:Tok) (s:A2) (Q:B9) (E:B9),Q (.int (g i) s.toks) { s with toks:=s.toks+1 }->A7 (A8 X.prog X.w) X.A (f (.int i t)) Q E s):
  DU X f (rU λi=>.int (g i)):=by
 intro AN s σ H x v Q I a h;obtain⟨i,rfl,q⟩:=h;obtain⟨t,rfl⟩:=a;exact b i t s _ _ ⟨.int (g i),H,I.tok _,⟨_,rfl⟩,q⟩
theorem PY:DU X (unaryOp .USub) (rU λi=>.int (-i)):=SV λ_ _ _ _ _ q=>neg_int q
theorem RJ{σ:St}{H:Hp}{Q:VK}{k a:Bool}(I:AU X AN σ H s)(q:Q (.bl k) H)(e:k=a):EP X AN σ Q (.bool a) s:=by
 subst e;exact⟨.bl k,H,I,rfl,q⟩
theorem ax:uL X (AG .Lt) (DM λi j=>.bl (decide (i<j))):=FS λ_ _ _ _ _ _ _ q=>lt_int q
theorem b4:uL X (AG .LtE) (DM λi j=>.bl (decide (i<=j))):=FS λ_ _ _ _ _ _ _ q=>le_int q
theorem gE:uL X (AG .Gt) (DM λi j=>.bl (decide (j<i))):=FS λ_ _ _ _ _ _ _ q=>gt_int q
theorem WE:uL X (AG .GtE) (DM λi j=>.bl (decide (j<=i))):=FS λ_ _ _ _ _ _ _ q=>ge_int q
theorem Ww:uL X (AG .In) (λx y H Q=>∃i j,x=.str i/\y=.str j/\Q (.bl (!(Builtin.Str.occurrences j i 0 j.length 1).isEmpty)) H):=by
 intro AN s σ H x y v u Q I a b h;obtain⟨i,j,rfl,rfl,q⟩:=h;obtain⟨t,rfl⟩:=a;obtain⟨c,rfl⟩:=b;exact in_str (RJ I q S)
theorem ci:uL X (AG .Is) (λx y H Q=>y=.non/\Q (.bl (decide (x=.non))) H):=by
 intro AN s σ H x y v u Q I a b h;obtain⟨rfl,q⟩:=h;cases b;refine is_none_gen (RJ I q ?_);cases x<;>first
  |(cases a;rfl)
  |(obtain⟨t,rfl⟩:=a;rfl)
theorem Re:uL X (AG .IsNot) (λx y H Q=>y=.non/\Q (.bl (!decide (x=.non))) H):=by
 intro AN s σ H x y v u Q I a b h;obtain⟨rfl,q⟩:=h;cases b;refine isnot_none_gen (RJ I q ?_);cases x<;>first
  |(cases a;rfl)
  |(obtain⟨t,rfl⟩:=a;rfl)
theorem cU(b:Expr)(h:op≠.In:=by decide)(h2:op≠.NotIn:=by decide):behindInMarks op b=false:=by
 have e1:(op==CmpOp.In)=false:=by cases op<;>first|rfl|exact absurd S h
 have e2:(op==CmpOp.NotIn)=false:=by cases op<;>first|rfl|exact absurd S h2
 cases b<;>simp[behindInMarks,e1,e2]
theorem Ku{r:R2}(f:uL X (AG op) r)(e:PE X a ta)(hb:PE X b tb)(j:behindInMarks op b=false):PE X (.Compare a [op] [b] pos) (EX r ta tb):=by
 intro AN s σ H Q I h;exact wpAny_Compare1 (Hc e hb I h λv u c x y H2 d g i q=>f AN c σ H2 x y v u Q d g i q) j
def S4(t:TE):TT:=λσ H Q=>t σ H λx H'=>∃k,x=.bl k/\Q k H'
theorem cx{r:R2}(d:uL X (AG op) r)(f:PE X a ta)(hb:PE X b tb)(g:behindInMarks op b=false):PT X (.Compare a [op] [b] pos) (S4 (EX r ta tb)):=by
 intro AN s σ H Q I h;refine wpAny_isTrue_Compare1 (gM (f AN s σ H _ I h) λv s1 ⟨x,H1,I1,r1,q1⟩=>gM (hb AN s1 σ H1 _ I1 q1) λu s2 ⟨y,H2,I2,r2,q2⟩=>
  gM (d AN s2 σ H2 x y v u _ I2 r1 r2 q2) λc s3 ⟨z,H3,I3,r3,k,e,q3⟩=>?_) g
 subst e;cases r3;exact JP ⟨H3,I3,q3⟩
def YM(r d:R2)(ta tb tc:TE):TE:=λσ H Q=>ta σ H λx H1=>tb σ H1 λy H2=>r x y H2 λz a=>∃k,z=.bl k ∧
 (if k=true then tc σ a λb c=>d y b c Q else Q (.bl false) a)
theorem YQ{f:CmpOp}{r g:R2}(j:uL X (AG op) r)(m:uL X (AG f) g)(i:PE X a ta)(hb:PE X b tb)(l:PE X c tc)(n:lastMarks [op,f] [b,c]=false:=by with_unfolding_all rfl):PE X (.Compare a [op,f] [b,c] pos) (YM r g ta tb tc):=by
 intro AN s σ H Q I h;refine Compare_chain (gM (i AN s σ H _ I h) λv s1 ⟨x,H1,I1,r1,q1⟩=>chain_link (gM (hb AN s1 σ H1 _ I1 q1) λu s2 ⟨y,H2,I2,r2,q2⟩=>
  gM (j AN s2 σ H2 x y v u _ I2 r1 r2 q2) λd s3 ⟨z,H3,I3,r3,k,e,q3⟩=>?_)) n
 subst e;cases r3;refine JP ?_;cases k with
 |false=>exact ite_ff ⟨.bl false,H3,I3,rfl,q3⟩
 |true=>exact ite_tt (chain_last (gM (l AN s3 σ H3 _ I3 q3) λw' s4 ⟨z',H4,I4,r4,q4⟩=>m AN s4 σ H4 y z' u w' Q I4 r2 r4 q4))
def IA(K:B4)(x:V)(H:Hp)(k:Bool):Prop:=
 match x with
 |.non=>k=false
 |.bl b=>k=b
 |.int i=>k=(i != 0)
 |.str y=>y.length<=AA/\k=((y.length:Int) != 0)
 |.byt y=>y.size<=AA/\k=((y.size:Int) != 0)
 |.ref p=>(∃xs,qO K H p xs/\k=!xs.isEmpty)\/(∃xs,yh K H p xs/\k=!xs.isEmpty)\/∃AO,H p=U (.dK AO)/\k=!AO.isEmpty
 |_=>False
theorem RK{AO:Z (κ×V)}{vs:Z (κ×A0)}(r:KV AO vs):(!vs.isEmpty)=!AO.isEmpty:=by
 cases r<;>rfl
theorem Ey{xs:Z V}(r:AX xs AQ):(!AQ.toArray.isEmpty)=!xs.isEmpty:=by
 cases r<;>simp
theorem zX:(AA:Nat)<2 ^ 63:=by rw[sizeLine_eq];decide
theorem Xt:Pv X (λx H Q=>∃k,IA X.K x H k/\Q k H):=by
 intro AN s σ H x v Q I a h;obtain⟨k,e,q⟩:=h;have j:=zX;have hs:AA=16777216:=sizeLine_eq;cases x with
 |non=>
  cases a;have e':k=false:=e;subst e';exact truthy_none ⟨H,I,q⟩
 |bl b=>
  cases a;have e':k=b:=e;subst e';exact JP ⟨H,I,q⟩
 |int i=>
  obtain⟨t,rfl⟩:=a;have e':k=(i != 0):=e;subst e';exact PySem.P.truthy_int ⟨H,I,q⟩
 |str y=>
  obtain⟨t,rfl⟩:=a;obtain⟨f,e'⟩:y.length<=AA/\k=((y.length:Int) != 0):=e;subst e';exact PySem.P.truthy_str (by omega) ⟨H,I.tok _,q⟩
 |byt y=>
  obtain⟨t,rfl⟩:=a;obtain⟨f,e'⟩:y.size<=AA/\k=((y.size:Int) != 0):=e;subst e';exact PySem.W.truthy_bytes (by omega) ⟨H,I.tok _,q⟩
 |ref p=>
  cases a;have e':(∃xs,qO X.K H p xs/\k=!xs.isEmpty)\/(∃xs,yh X.K H p xs/\k=!xs.isEmpty)\/∃AO,H p=U (.dK AO)/\k=!AO.isEmpty:=e;rcases e' with⟨xs,hx,e'⟩|⟨xs,hx,e'⟩|⟨AO,hx,e'⟩
  ·subst e';obtain⟨AQ,r,pl,c⟩:=I.list hx;have d:=r.length;exact wpAny_truthy_list pl.isList (by simp only[zI];omega) ⟨H,I.tok _,by rw[Ey r];exact q⟩
  ·subst e';obtain⟨AQ,r,pl,c⟩:=I.tuple hx;have d:=r.length;exact truthy_tuple pl (by simp only[zI];omega) ⟨H,I.tok _,by rw[Ey r];exact q⟩
  ·subst e';obtain⟨c,g,vs,r,m⟩:AO.length<=AA/\(p==sysModules)=false/\∃vs,KV AO vs/\s.heap.DictOf (bF X.prog X.w) p vs:=I.hok p _ hx;have d:AO.length=vs.length:=Paired.length r;exact wpAny_truthy_dict g m (by omega) ⟨H,I.tok _,by rw[RK r];exact q⟩
 |_=>exact(show False from e).elim
theorem YS(c:PE X a ta)(he:∀b,isTrue a X.env b=(do let v <-b;standAt a.pos;holding [v] (truthy v))):
  PT X a (λσ H Q=>ta σ H λx H'=>∃k,IA X.K x H' k/\Q k H'):=by
 intro AN s σ H Q I h;exact isTrue_plain (gM (c AN s σ H _ I h) λv s1 ⟨x,H1,I1,r1,q1⟩=>Xt AN s1 σ H1 x v Q I1 r1 q1) (he _)
theorem RM:uL X (binaryOp .Add) (λx y H Q=>∃i j,x=.str i/\y=.str j/\i.length+j.length<=AA/\Q (.str (i++j)) H):=by
 intro AN s σ H x y v u Q I a c h;obtain⟨i,j,rfl,rfl,d,q⟩:=h;obtain⟨t,rfl⟩:=a;obtain⟨b,rfl⟩:=c;exact add_str (λb tk=>⟨.str (i++j),H,I.tok _,⟨_,rfl⟩,q⟩) d
theorem BC{x:V}(r:AX [x] us):∃u,us=[u]/\As x u:=by
 cases r with
 |cons a b=>cases b;exact⟨_,rfl,a⟩
theorem Db{x y:V}(r:AX [x,y] us):∃u a,us=[u,a]/\As x u/\As y a:=by
 cases r with
 |cons d b=>
  cases b with
  |cons e c=>cases c;exact⟨_,_,rfl,d,e⟩
theorem YT:fK X (.builtin "abs") (λxs H Q=>∃i,xs=[.int i]/\Q (.int (if i<0 then -i else i)) H):=by
 intro AN s σ H xs us Q I r h;obtain⟨i,rfl,q⟩:=h;obtain⟨u,rfl,t,rfl⟩:=BC r;exact call_abs_int λu tk=>⟨.int (if i<0 then -i else i),H,I.tok _,⟨_,rfl⟩,q⟩
theorem Wx:fK X (.type "int") (λxs H Q=>(∃i,xs=[.int i]/\Q (.int i) H)\/∃k,xs=[.bl k]/\Q (.int (if k then 1 else 0)) H):=by
 intro AN s σ H xs us Q I r h;rcases h with⟨i,rfl,q⟩|⟨k,rfl,q⟩
 ·obtain⟨u,rfl,t,rfl⟩:=BC r;exact call_int_int ⟨.int i,H,I,⟨_,rfl⟩,q⟩
 ·obtain⟨u,rfl,a⟩:=BC r;cases a;exact call_int_bool ⟨.int (if k then 1 else 0),H,I.tok _,⟨_,rfl⟩,q⟩
end
end L2
namespace L2
structure XO (h:Heap) (x dx C:Addr) (mA:Str->Option Value):Prop where
 obj:h.get? x=some (instObj C dx)
 ns:h.Ns1 dx mA
 ne:dx≠x
section
variable{x dx f:A1}{mA:AJ->O A0}{v:A0}
end
theorem Cw.some_of{v:V}{o:O A0}(r:Cw (U v) o):∃u,o=U u/\As v u:=by
 cases o with
 |none=>exact(show False from r).elim
 |some u=>exact⟨u,rfl,r⟩
section
variable{H H':Hp}{h':A6}{dx:A1}{fs fs':Z (AJ×V)}
theorem Du(c:uI P w H h)(e:H a=U (.ins C dx fs)):∃mA,XO h a dx C mA/\(∀f,Cw (fs.lookup f) (mA f))/\PySem.Within mA (fs.map (·.1))/\fs.length<=1000/\H dx=U (.own a):=by
 obtain⟨d,z,ne,b,mA,n,r,q⟩:=(show gn P w H h a (.ins C dx fs) from c a _ e);exact⟨mA,⟨b,n,ne⟩,r,q,z,d⟩
end
structure Ru (K:B4) (C:Addr) (f:Str) (v:V) (u:Value):Prop where
 at_:findIn K (.ref C) f=some (some u)
 rel:As v u
 get:specialIn K u "__get__"=some none
 cp:PySem.W.copiedNames.contains f=false
section
variable{X:Cx}{σ:St}{H:Hp}{dx:A1}{fs:Z (AJ×V)}{f:AJ}{v:V}
theorem ai{Q:B9}(hb:attributeBase e f env (eval e env)=eval e env)(h:A7 (A8 prog w) A (eval e env) (λo a=>A7 (A8 prog w) A (getAttr o f true) Q E a) E s):A7 (A8 prog w) A (eval (.Attribute e f pos) env) Q E s:=
 Attribute_any_ h (by rw[arm_eval_Attribute,hb])
end
section
variable{X:Cx}{o value:Expr}{f:AJ}{pos':Pos}{ta tv:TE}
end
section
variable{X:Cx}{σ:St}{H:Hp}{Q:B9}{c:A0}{b:Bool}
end
end L2
namespace L2
structure gW (k:Nat) (A:Around):Prop where
 hd:A.handled=none
 dp:A.depth+3*k+5<recursionLimit
 un:A.units+16*k+200<cLine
theorem gW.mono{k:Nat}(r:gW k A)(h:j<=k):gW j A:=⟨r.hd,by have:=r.dp;omega,by have:=r.un;omega⟩
theorem gW.deeper{k:Nat}(r:gW (k+1) A)(env:Env):gW k (A.deeper env):=
 ⟨r.hd,by have:=r.dp;show A.depth+1+3*k+5<_;omega,by have:=r.un;show A.units+3+16*k+200<_;omega⟩
theorem RN{a:Z (AJ×A0)}:(A.under (.builtin "type.__call__" ⟨.ref C::us,a⟩)).depth=A.depth+1:=by
 first|rfl|simp[Around.under,Code.weight,Code.isCreation,Code.isGuard,Code.isCaller,Code.frames,Code.isFrame,guardIds]
theorem RQ{a:Z (AJ×A0)}:(A.under (.builtin "type.__call__" ⟨.ref C::us,a⟩)).units=A.units+1:=by
 first|rfl|simp[Around.under,Code.cUnits,Code.frames,Code.isFrame]
theorem gW.make{k:Nat}(r:gW (k+1) A)(C:A1)(us:Z A0)(a:Z (AJ×A0)):gW k (A.under (.builtin "type.__call__" ⟨.ref C::us,a⟩)):=
 ⟨r.hd,by have:=r.dp;rw[RN];omega,by have:=r.un;rw[RQ];omega⟩
theorem gW.depth{k:Nat}(r:gW k A):A.depth<recursionLimit:=by have:=r.dp;omega
def IP:TA:=λ_ H Q=>Q [] H
def Oa(ta:TE)(a:TA):TA:=λσ H Q=>ta σ H λx H1=>a σ H1 λxs H2=>Q (x::xs) H2
section
variable{X:Cx}{te:TE}{t:TA}
theorem d7:PA X [] IP:=λ_ _ _ _ H Q I h=>Calls.spliced_nil ⟨[],H,I,.nil,h⟩
theorem bw(b:PE X e te)(a:PA X es t)(hs:A9 (e::es) X.env=(false,eval e X.env)::A9 es X.env:=by rfl):PA X (e::es) (Oa te t):=by
 intro pos AN s σ H Q I h;rw[hs];show A7 _ _ (spliced ((false,eval e X.env)::AD pos (A9 es X.env))) _ _ s;refine Calls.spliced_cons (gM (b AN s σ H _ I h) λu s1 ⟨x,H1,I1,r1,q1⟩=>?_);exact gM (a pos AN s1 σ H1 _ I1 q1) λus s2 ⟨xs,H2,I2,r2,q2⟩=>⟨x::xs,H2,I2,.cons r1 r2,q2⟩
def eK(t:TA):TE:=λσ H Q=>t σ H λxs H1=>xs.length<=AA/\∀p,H1 p=Y->Q (.ref p) (B0 H1 p (.tup xs))
def ia(t:TA):TE:=λσ H Q=>t σ H λxs H1=>xs.length<=AA/\∀p,H1 p=Y->Q (.ref p) (B0 H1 p (.lst xs))
theorem PU{x1}(h:PA X es t):PE X (.Tuple es x1 pos) (eK t):=by
 intro AN s σ H Q I a;refine wpAny_Tuple_spliced (gM (h pos AN s σ H _ I a) λus s1 ⟨xs,H1,I1,r,z,q⟩=>⟨by rw[<-r.length];exact z,?_⟩);have c:H1 s1.heap.objs.size=Y:=I1.hok.fresh (zg _);refine⟨.ref s1.heap.objs.size,B0 H1 s1.heap.objs.size (.tup xs),I1.laid (t':=s1.toks) (λb u e=>zd _ e) (zg _) ?_,rfl,q _ c⟩;exact⟨z,us,r,⟨_,zv _ rfl,rfl,⟨_,rfl⟩,rfl⟩⟩
theorem RT(h:PA X es t):PE X (.List es pos) (ia t):=by
 intro AN s σ H Q I a;refine wpAny_List_spliced (gM (h pos AN s σ H _ I a) λus s1 ⟨xs,H1,I1,r,z,q⟩=>⟨by rw[<-r.length];exact z,?_⟩);have c:H1 s1.heap.objs.size=Y:=I1.hok.fresh (zg _);refine⟨.ref s1.heap.objs.size,B0 H1 s1.heap.objs.size (.lst xs),I1.laid (t':=s1.toks) (λb u e=>zd _ e) (zg _) ?_,rfl,q _ c⟩;exact⟨z,us,0,r,zv _ rfl⟩
end
abbrev Sp:=Z V->Hp->VK->XK->Prop
abbrev Wy:=Z Env->Hp->A2->XK->A0->A2->Prop
structure Ez (P:Program) (w:World) (K:B4) (mg:Str->Option Value) (base:Heap) (A:Around) (outer:List Env) (s:Shared) (H:Hp):Prop where
 frames:A.frames=some outer
 mod:Mod K mg base
 bs:∀b o,base.get? b=some o->s.heap.get? b=some o/\H b=none
 Ys:base.objs.size<=s.heap.objs.size
 uJ:s.heap.FunFrames base outer
 frf:∀b∈BV outer,H b=none
 hok:uI P w H s.heap
 bare:AllBare s.gens
def CE(outer:Z Env)(P:A3)(w:A4)(H:Hp)(s:A2)(Q:VK)(u:A0)(s':A2):Prop:=
 ∃v H',s'.os=s.os/\AllBare s'.gens/\Un (BV outer) [] H H' s.heap s'.heap/\uI P w H' s'.heap/\As v u/\Q v H'
def CR(CX:Wy)(outer:Z Env)(P:A3)(w:A4)(H:Hp)(s:A2)(Q:VK)(E:XK)(r:Result)(s':A2):Prop:=
 match r with
 |.ok (.ret u)=>CE outer P w H s Q u s'
 |.ok _=>False
 |.error e=>CX outer H s E e s'
structure ju (P:Program) (w:World) (K:B4) (mg:Str->Option Value) (base:Heap) (CX:Wy) (k:Nat) (f:Addr) (fd:FuncData) (ps:AZ) (sp:Sp):Prop where
 len:∀vs H Q E,sp vs H Q E->vs.length=ps.length
 run:∀(A:Around) (outer:List Env) (s:Shared) (H:Hp) (args:Args) (us:List Value) (vs:List V) (Q:VK) (E:XK),gW k A->Ez P w K mg base A outer s H->BindsTo s fd args (ps.zip us)->AX vs us->sp vs H Q E →
  codeAny (model P w) A (.call (.ref f) args) (CR CX outer P w H s Q E) s
theorem Ez.make{outer:Z Env}{H:Hp}(e:Ez P w K mg base A outer s H)(C:A1)(us:Z A0)(a:Z (AJ×A0)):
  Ez P w K mg base (A.under (.builtin "type.__call__" ⟨.ref C::us,a⟩)) outer s H:=⟨by first|exact e.frames|(simpa[Around.under,Code.envs,Code.isFrame,pushEnvs]using e.frames),e.mod,e.bs,e.Ys,e.uJ,e.frf,e.hok,e.bare⟩
section
variable{X:Cx}{σ:St}{H:Hp}{s':A2}
theorem AU.env0(I:AU X AN σ H s):Ez X.prog X.w X.K X.mg X.base X.A X.stack s H:=
 ⟨I.ok.frames,I.ok.mod,I.bs,ZH I.ok.Ys I.sz,I.stack,I.Dq,I.hok,I.bare⟩
theorem AU.after{Q:VK}(I:AU X AN σ H s)(h:CE X.stack X.prog X.w H s Q u s'):EP X AN σ Q u s':=by
 obtain⟨v,H',os,f,un,e,r,q⟩:=h;obtain⟨c,g,d,t,a⟩:=s';obtain rfl:a=s.os:=os;exact⟨v,H',I.call (h':=c) (g':=g) (d':=d) (t':=t) (ch:=[]) un e f (λb z=>absurd z (by simp)),r,q⟩
end
def OI(sp:Sp)(dvs:Z V)(E:XK)(t:TA):TE:=λσ H Q=>t σ H λvs H1=>sp (vs++dvs) H1 Q E
def BA(K:B4)(fd:FuncData)(ps:AZ)(ds:Z A0):Prop:=
 ∀(s:A2) (us:Z A0),K.In s.heap->(us++ds).length=ps.length->BindsTo s fd ⟨us,[]⟩ (ps.zip (us++ds))
theorem BA.all(h:∀us:Z A0,us.length=ps.length->bindArgs fd ⟨us,[]⟩=pure (ps.zip us)):BA K fd ps []:=λs us _ a=>by
 rw[ZY]at a ⊢;exact .of_eq (h us a)
def C0(CX:Wy)(X:Cx)(E:XK):Prop:=∀(AN:Z (A1×AE)) (σ:St) (H:Hp) (s:A2) (e:A0) (s':A2),AU X AN σ H s->CX X.stack H s E e s'->X.xe e s'
section
variable{X:Cx}{CX:Wy}{k:Nat}{f:A1}{sp:Sp}{dvs:Z V}{ds:Z A0}{E:XK}{m:AJ}{p:Pos}{o:Expr}{ta:TE}{t:TA}
theorem iN{σ:St}{H:Hp}{Q:VK}{vs:Z V}(F:ju X.prog X.w X.K X.mg X.base CX k f fd ps sp)(d:gW k X.A)(hb:BA X.K fd ps ds)(c:AX dvs ds)(hx:C0 CX X E)(I:AU X AN σ H s)(r:AX vs us)(h:sp (vs++dvs) H Q E):A7 (A8 X.prog X.w) X.A (call (.ref f) us) (EP X AN σ Q) X.xe s:=by
 have b:AX (vs++dvs) (us++ds):=r.append c;have g:(us++ds).length=ps.length:=by rw[<-b.length];exact F.len _ _ _ _ h
 refine Kt (k6 (F.run X.A X.stack s H ⟨us,[]⟩ (us++ds) (vs++dvs) Q E d I.env0 (hb s us I.Es g) b h) λr s' a=>?_);cases r with
 |error e=>exact hx AN σ H s e s' I a
 |ok fl=>
  cases fl with
  |ret u=>exact I.after a
  |next=>exact False.elim a
  |brk=>exact False.elim a
  |cont=>exact False.elim a
theorem Kv(F:ju X.prog X.w X.K X.mg X.base CX k f fd ps sp)(g:gW k X.A)(j:Gl X x)(l:X.mg x=U (.ref f))(i:keepIn X.K (.ref f)=true)(hb:BA X.K fd ps ds)(d:AX dvs ds)(hx:C0 CX X E)
  (b:PA X (e::es) t) (a:(x==("__debug__":AJ))=false:=by decide) (he:A9 (e::es) X.env=(false,eval e X.env)::A9 es X.env:=by rfl) (c:(AD pos (A9 es X.env)).any (·.1)=false:=by rfl):
  PE X (.Call (.Name x p) (e::es) [] pos) (OI sp dvs E t):=by
 intro AN s σ H Q I h;refine kD (vU I j l ?_ a);refine yB (h₀:=X.base) I.ok.mod.kin i (gM (b pos AN s σ H _ I h) λus s1 ⟨vs,H1,I1,r,q⟩=>⟨I1.Es,?_⟩) he c;exact iN F g hb d hx I1 r q
end
section
variable{X:Cx}{CX:Wy}{k:Nat}{f:A1}{ks:AZ}{sp:Sp}{E:XK}{m:AJ}{p kpos:Pos}{o:Expr}{kws:Z AC}{te ta:TE}{t tk:TA}{nm:O AJ}
variable{g:Z A0->Z A0->Z A0}{gV:Z V->Z V->Z V}
end
structure bB (N P:AZ) (sc:Scope):Prop where
 kind:sc.kind=.function
 co:sc.isCoroutine=false
 gen:sc.isGenerator=false
 nd:N.Nodup
 pre:N.take P.length=P
 par:∀x∈P,sc.names.lookup x=some .local\/sc.names.lookup x=some .cell
 afP:∀y∈sc.names,y.2≠.free
theorem Jr{a:AJ->O NameKind}{x:AJ}:∀{binds:Z (AJ×A0)} {m:AJ->O A0},(∀v,(x,v)∉binds)->bindL a binds m x=m x
 |[],_,_=>rfl
 |(n,v)::r,m,h=>by
  unfold bindL;rw[Jr λw b=>h w (zo _ b)];split
  ·have:x≠n:=by rintro rfl;exact h v zk
   simp[this]
  ·rfl
theorem Js{a:AJ->O NameKind}{x:AJ}:∀{binds:Z (AJ×A0)} {m:AJ->O A0},(∀v,(x,v)∉binds)->bindC a binds m x=m x
 |[],_,_=>rfl
 |(n,v)::r,m,h=>by
  unfold bindC;rw[Js λw b=>h w (zo _ b)];split
  ·rfl
  ·have:x≠n:=by rintro rfl;exact h v zk
   simp[this]
theorem Jt{a:AJ->O NameKind}{x:AJ}{v:A0}:∀{P:AZ} {vs:Z A0} {i:Nat} {m:AJ->O A0},P.Nodup->P[i]?=U x->vs[i]?=U v->a x=U .local →
  bindL a (P.zip vs) m x=U v
 |[],_,_,_,_,h,_,_=>by simp at h
 |_::_,[],_,_,_,_,h,_=>by simp at h
 |p::P,w::vs,0,m,nd,h1,h2,hk=>by
  simp at h1 h2;subst h1;subst h2;show bindL a ((p,w)::P.zip vs) m p=_;unfold bindL;rw[Jr λv b=>(List.nodup_cons.mp nd).1 (yf b).1,zh hk];simp
 |p::P,w::vs,i+1,m,nd,h1,h2,hk=>by
  show bindL a ((p,w)::P.zip vs) m x=_;unfold bindL;exact Jt (i:=i) (List.nodup_cons.mp nd).2 (by simpa using h1) (by simpa using h2) hk
theorem Ju{a:AJ->O NameKind}{x:AJ}{v:A0}:∀{P:AZ} {vs:Z A0} {i:Nat} {m:AJ->O A0},P.Nodup->P[i]?=U x->vs[i]?=U v->a x≠U .local →
  bindC a (P.zip vs) m x=U v
 |[],_,_,_,_,h,_,_=>by simp at h
 |_::_,[],_,_,_,_,h,_=>by simp at h
 |p::P,w::vs,0,m,nd,h1,h2,hk=>by
  simp at h1 h2;subst h1;subst h2;show bindC a ((p,w)::P.zip vs) m p=_;unfold bindC;rw[Js λv b=>(List.nodup_cons.mp nd).1 (yf b).1,zC hk];simp
 |p::P,w::vs,i+1,m,nd,h1,h2,hk=>by
  show bindC a ((p,w)::P.zip vs) m x=_;unfold bindC;exact Ju (i:=i) (List.nodup_cons.mp nd).2 (by simpa using h1) (by simpa using h2) hk
def start(N:AZ)(vs:Z V):St:=vs.map U++List.replicate (N.length-vs.length) Y
def rK(CX:Wy)(P:A3)(w:A4)(K:B4)(mg:AJ->O A0)(base:A6)(N:AZ)(qual:AJ)(scope:Scope)(f:A1)(cd:A0)(A:A5)(outer:Z Env)(s:A2)(H:Hp)(E:XK):Cx where
 prog:=P
 w:=w
 K:=K
 mg:=mg
 base:=base
 A:=A.deeper (AK qual scope s.heap.objs.size f cd)
 N:=N
 s₀:=s
 H₀:=H
 env:=AK qual scope s.heap.objs.size f cd
 outer:=outer
 stack:=AK qual scope s.heap.objs.size f cd::outer
 ex:=[]
 calm:=true
 fn:=λ_=>true
 pn:=[]
 xe:=λe s'=>A7 (A8 P w) (A.deeper (AK qual scope s.heap.objs.size f cd)) (leaving (AK qual scope s.heap.objs.size f cd) e) (λ_ a=>CX outer H s E e a) (λe' a=>CX outer H s E e' a) s'
theorem Ob{a:Scope}(h:a.names.lookup x=U .cell):∃c,(cellsFrom n a.names []).lookup x=U c:=by
 have q:=cellsFrom_some a.names n [] (.inl h);exact Option.isSome_iff_exists.mp q
theorem Jv{CX:Wy}{f:A1}{cd:A0}{outer:Z Env}{j:A2}{H:Hp}{E:XK}{vs:Z V}(S:bB N ps scope)(B:A.handled=Y)(e0:Ez P w K mg base A outer s H)(G:vs.length=ps.length)(r:AX vs us)(x:InCallC s s.heap.objs.size (bindL (AK qual scope s.heap.objs.size f cd).kindOf (ps.zip us) λ_=>Y) (cellsFrom (s.heap.objs.size+1) scope.names []) (bindC (AK qual scope s.heap.objs.size f cd).kindOf (ps.zip us) λ_=>Y) j):
  AU (rK CX P w K mg base N qual scope f cd A outer s H E) [] (start N vs) H j:=by
 have D:ps.length<=N.length:=by have:=congrArg List.length S.pre;rw[kz]at this;omega
 obtain⟨h1,tk,rfl,l⟩:=x.done;have g:∀b:A1,b∉(rK CX P w K mg base N qual scope f cd A outer s H E).ex:=λb z=>absurd (show b∈([]:Z A1) from z) (by simp);refine⟨⟨e0.mod,S.kind,rfl,rfl,zg _,λy z c h1 h2=>?_,λy d=>?_,λy c _ h=>?_,λ_=>B,Around.frames_deeper e0.frames,.inr ⟨rfl,rfl⟩,λb z=>absurd z (g b),e0.bs,e0.Ys,λb _ _=>g b,λb z=>absurd z (g b),e0.uJ,e0.frf⟩,
  rfl,e0.bare,Un.kept l,⟨_,x.toInCall.ns,λi y v h1 h2 F=>?_⟩,λy c h=>⟨_,x.cell y c h⟩,e0.hok.fresh (zg _),λy c h=>?_,λp hp=>absurd (show p∈([]:Z (A1×AE)) from hp) (by simp),e0.hok.kept l,?_⟩
 ·exact name_of_addr x.apart (ku h1) (ku h2)
 ·have d:scope.names.lookup y=U .cell\/scope.names.lookup y=U .free:=d;rcases d with d|d
  ·exact Ob d
  ·exact absurd rfl (S.afP _ (ku d))
 ·exact JJ (x.above y c (ku h))
 ·have hi:i<vs.length:=by
   unfold start at h2;by_cases hi:i<vs.length
   ·exact hi
   ·rw[QI (by simpa using hi)]at h2;rw[jv]at h2;split at h2<;>cases h2
  have t:vs[i]?=U v:=by
   unfold start at h2;rw[Z3 (by simpa using hi),ZN]at h2;cases e:vs[i]? with
   |none=>rw[e]at h2;cases h2
   |some a=>rw[e]at h2;cases h2;rfl
  obtain⟨u,m,C⟩:=r.get t;have hp:ps[i]?=U y:=by
   rw[<-S.pre,List.getElem?_take_of_lt (by omega)];exact h1
  have o:ps.Nodup:=by rw[<-S.pre];exact S.nd.sublist (List.take_sublist _ _)
  refine⟨u,C,?_⟩;rcases S.par y (QA hp)with k|k
  ·exact .inl ⟨k,Jt o hp m k⟩
  ·obtain⟨c,e⟩:=Ob (n:=s.heap.objs.size+1) k;refine .inr ⟨.inl k,c,e,?_⟩;have q:=x.cell y c e;rw[Ju o hp m (by show scope.names.lookup y≠_;rw[k];decide)]at q;exact q
 ·exact e0.hok.fresh (JJ (x.above y c (ku h)))
 ·unfold start;show _=N.length;rw[zS,zi,List.length_replicate];omega
theorem MM{CX:Wy}{k:Nat}{f:A1}{j:Arguments}{p kV m l a ct X:A0}{h od:O A1}{sp:Sp}(W:K.lookup f=U ⟨X,od,.func (fnOf name qual j body scope p kV m l h a ct),osl⟩)(D:codeIn K a qual=true)(S:bB N ps scope)(len:∀vs H Q E,sp vs H Q E->vs.length=ps.length)(C:∀(A:A5) (outer:Z Env) (s:A2) (H:Hp) (vs:Z V) (Q:VK) (E:XK),gW k (A.deeper (AK qual scope s.heap.objs.size f a))->sp vs H Q E →
   ∃t,Cy (rK CX P w K mg base N qual scope f a A outer s H E) body t/\t { nx:=λ_ H'=>Q .non H',rt:=Q } (start N vs) H):
  ju P w K mg base CX (k+1) f (fnOf name qual j body scope p kV m l h a ct) ps sp:=by
 refine⟨len,λA outer s H a0 us vs Q E d e0 hb r z=>?_⟩;have hl:=len _ _ _ _ z;have g:K.In s.heap:=e0.mod.kin.keeps λb o e=>(e0.bs b o e).1;have L:s.heap.NoLimit:=e0.mod.nolimit.keeps λb o e=>(e0.bs b o e).1;have G:∀y∈ps.zip us,scope.names.lookup y.1=U .local\/(scope.names.lookup y.1=U .cell/\((cellsFrom (s.heap.objs.size+1) scope.names []).lookup y.1).isSome=true):=λ⟨n,v⟩ hy=>by
  rcases S.par n (yf hy).1 with q|q
  ·exact .inl q
  ·exact .inr ⟨q,cellsFrom_some _ _ _ (.inl q)⟩
 refine codeAny_call_function d.depth (g _ _ W) rfl S.co S.gen rfl (codeRec_of g D) (hb _ _ _ _ ?_);refine wpAny_newFunctionEnv_cells S.kind G λenv M B x=>?_;subst M;refine⟨L.keeps x.toInCall.keep,codeAny_func ?_⟩;obtain⟨t,ht,F⟩:=C A outer s H vs Q E (d.deeper _) z;have I:AU (rK CX P w K mg base N qual scope f a A outer s H E) [] (start N vs) H B:=Jv S d.hd e0 hl r x;refine ZZ (ht [] B (start N vs) H _ I F) (λfl s' hs=>?_) λe s' hs=>hs;have i:∀{σ':St} {H':Hp} {v:V} {u:A0},AU (rK CX P w K mg base N qual scope f a A outer s H E) [] σ' H' s'->As v u->Q v H'->CE outer P w H s Q u s':=
  λ{σ' H' v u} J c q=>⟨v,H',J.os,J.bare,J.base,J.hok,c,q⟩
 cases fl with
 |ret u=>
  obtain⟨v,σ',H',J,c,q⟩:=hs;exact i J c q
 |next=>
  obtain⟨σ',H',J,q⟩:=hs;exact i (v:=V.non) (u:=Value.none) J rfl q
 |brk=>
  obtain⟨_,_,_,q⟩:=hs;exact False.elim q
 |cont=>
  obtain⟨_,_,_,q⟩:=hs;exact False.elim q
end L2
namespace L2
section
variable{X:Cx}{p:Pos}{t:TA}{id T:String}{r:Z V->Hp->VK->Prop}
def IH(r:Z V->Hp->VK->Prop)(t:TA):TE:=λσ H Q=>t σ H λvs H1=>r vs H1 Q
theorem gq(f:fK X (.builtin id) r)(i:Gl X x)(j:X.mg x=Y)(d:AH x=U (.builtin id))(a:PA X (e::es) t)(g:x ≠ "__name__":=by decide)(b:(x==("__debug__":AJ))=false:=by decide)
  (he:A9 (e::es) X.env=(false,eval e X.env)::A9 es X.env:=by rfl) (c:(AD pos (A9 es X.env)).any (·.1)=false:=by rfl):PE X (.Call (.Name x p) (e::es) [] pos) (IH r t):=by
 intro AN s σ H Q I h;refine kD (zU I i j d ?_ g b);exact PyProof.Rows.callWith_builtin1 (gM (a pos AN s σ H _ I h) λus s1 ⟨vs,H1,I1,r1,q1⟩=>f AN s1 σ H1 vs us Q I1 r1 q1) he c
theorem Jw(f:fK X (.type T) r)(i:Gl X x)(j:X.mg x=Y)(d:AH x=U (.type T))(a:PA X (e::es) t)(g:x ≠ "__name__":=by decide)(b:(x==("__debug__":AJ))=false:=by decide)
  (he:A9 (e::es) X.env=(false,eval e X.env)::A9 es X.env:=by rfl) (c:(AD pos (A9 es X.env)).any (·.1)=false:=by rfl):PE X (.Call (.Name x p) (e::es) [] pos) (IH r t):=by
 intro AN s σ H Q I h;refine kD (zU I i j d ?_ g b);exact PyProof.Rows.callWith_type1 (gM (a pos AN s σ H _ I h) λus s1 ⟨vs,H1,I1,r1,q1⟩=>f AN s1 σ H1 vs us Q I1 r1 q1) he c
end
end L2
namespace HT
open PySem PyProof.Rows
section
open PySem.SeqAt
open PySem.AutoSeq1 (wpAny_loadPart')
open PySem.MeetsSeq PySem.MeetsSeq2 PySem.MeetsSeq3
end
theorem acv{t b:A1}{vs a:Z A0}{Q:B9}(u:IsTup s.heap t vs.toArray)(hb:IsTup s.heap b a.toArray)(g:vs≠[])
  (h1:a=[]->Q (.ref t) s) (h2:a≠[]->Q (.ref s.heap.objs.size) { s with heap:=s.heap.push { cls:=.type "tuple",data:=.seq (vs++a).toArray } })
  (hsz:vs.length+a.length<=AA):A7 (A8 prog w) A (binaryOp .Add (.ref t) (.ref b)) Q E s:=by
 obtain⟨⟨cls,j,data,sl⟩,d,l,n,h⟩:=id u;obtain⟨⟨cls2,o,v,m⟩,f,q,i,p⟩:=id hb;simp only at l h q p;subst l h q p;have e:vs.toArray++a.toArray=(vs++a).toArray:=by simp
 by_cases c:a=[]
 ·exact concat_meets ⟨_,d,rfl⟩ ⟨_,f,rfl⟩ noFill_tuple_add seq_tuple_add PySem.F.slot_tuple_add Yf (y3 _ _)
   (tuple_addW1 t b vs.toArray a.toArray n i j o sl m (by simpa using g) (by simp[c])) ⟨d,f,h1 c⟩
 ·refine concat_meets ⟨_,d,rfl⟩ ⟨_,f,rfl⟩ noFill_tuple_add seq_tuple_add PySem.F.slot_tuple_add Yf (y3 _ _)
   (tuple_addW2 t b vs.toArray a.toArray n i j o sl m (by simpa using g) (by simpa using c) (by rw[zI,zI];exact hsz)) ⟨d,f,?_⟩
  rw[e];exact h2 c
def iK(n d:Nat):O Int->Nat
 |none=>d
 |some v=>if v<0 then(v+(n:Int)).toNat else min v.toNat n
theorem YW(n d:Nat):iK n d Y=d:=rfl
theorem acw(n d k:Nat):iK n d (U (k:Int))=min k n:=by
 show(if(k:Int)<0 then((k:Int)+(n:Int)).toNat else min (k:Int).toNat n)=min k n;rw[zC (by omega),KP]
theorem We(n d:Nat)(b:d<=n)(o:O Int):iK n d o<=n:=by
 cases o with
 |none=>exact b
 |some v=>
  show(if v<0 then(v+(n:Int)).toNat else min v.toNat n)<=n;by_cases a:v<0
  ·rw[zh a];omega
  ·rw[zC a];exact Nat.min_le_right _ _
theorem U5(v:Int)(n d:Nat):(if v<0 then max (v+(n:Int)) 0 else min v (n:Int))=((iK n d (U v):Nat):Int):=by
 show(if v<0 then max (v+(n:Int)) 0 else min v (n:Int))=(((if v<0 then(v+(n:Int)).toNat else min v.toNat n):Nat):Int);by_cases a:v<0
 ·simp only[zh a];omega
 ·simp only[zC a];omega
theorem RV(lo hi:O Int)(n:Nat):Builtin.Slice.sliceAdjust lo hi 1 (n:Int)=(((iK n 0 lo:Nat):Int),((iK n n hi:Nat):Int)):=by
 have h1:¬ ((1:Int)<0):=by omega
 unfold Builtin.Slice.sliceAdjust;simp only[h1,ZO];refine Prod.ext ?_ ?_
 ·cases lo with
  |none=>rfl
  |some v=>exact U5 v n 0
 ·cases hi with
  |none=>rfl
  |some v=>exact U5 v n n
theorem RW(i j:Nat):Builtin.Slice.slicePlaces (i:Int) (j:Int) 1=j-i:=by
 unfold Builtin.Slice.slicePlaces;have h1:(1:Int)>0:=by omega
 simp only[h1,qS,Int.ediv_one];split<;>omega
theorem EY{v:A0}{o:O Int}{Q:O Int->A2->Prop}(p:IsPart v o)(h:Q o s):A7 (A8 prog w) A (Builtin.Slice.slicePartIndex v) Q E s:=by
 cases p with
 |none=>exact slicePart_none h
 |int i t=>exact slicePart_int h
theorem qQ{sl:A1}{b d:A0}{Q:Int×Int×Nat->A2->Prop}(hs:s.heap.IsSliceOf sl b d .none)(pl:IsPart b lo)(e:IsPart d hi)(h:Q (((iK n 0 lo:Nat):Int),1,iK n n hi-iK n 0 lo) s):A7 (A8 prog w) A (Builtin.Slice.sliceApplied (.ref sl) (pure (n:Int))) Q E s:=by
 obtain⟨os,c,f,a⟩:=id hs;unfold Builtin.Slice.sliceApplied Builtin.Slice.sliceFields;refine zb (zb (Jn c a (x:=b) S (zb (Jn c a (x:=d) S (zb (Jn c a (x:=.none) S (ze ?_)))))));refine zb (slicePart_none ?_);show A7 _ _ (if((1:Int)==0)=true then _ else _) _ _ s;rw[zC (by decide)];refine zb (EY pl (zb (EY e (zb (ze ?_)))));show A7 _ _ (match Builtin.Slice.sliceAdjust lo hi 1 (n:Int)with|(lo,hi)=>pure (lo,(1:Int),Builtin.Slice.slicePlaces lo hi 1)) _ _ s;rw[RV lo hi n];show A7 _ _ (pure (((iK n 0 lo:Nat):Int),(1:Int),Builtin.Slice.slicePlaces ((iK n 0 lo:Nat):Int) ((iK n n hi:Nat):Int) 1)) _ _ s;rw[RW];exact ze h
theorem YX(xs:Array A0)(i k:Nat):((List.range k).filterMap λ(m:Nat)=>xs[((i:Int)+(m:Int)*1).toNat]?).toArray=((xs.toList.drop i).take k).toArray:=by
 have e:(λ(m:Nat)=>xs[((i:Int)+(m:Int)*1).toNat]?)=λm=>xs[i+m]?:=by
  funext m;have:((i:Int)+(m:Int)*1).toNat=i+m:=by omega
  rw[this]
 rw[e];have:=pick_run xs i k;rw[List.filterMap_map]at this;have e2:((λx=>xs[x]?) ∘ λx=>i+x)=λm=>xs[i+m]?:=rfl;rw[e2]at this;rw[this]
theorem yp{t sl:A1}{c d:A0}{Q:B9}(b:IsTup s.heap t items)(hs:s.heap.IsSliceOf sl c d .none)(pl:IsPart c lo)(j:IsPart d hi)(f:¬ (iK items.size 0 lo=0/\iK items.size items.size hi=items.size))(h:Q (.ref s.heap.objs.size) { s with heap:=s.heap.push { cls:=.type "tuple",data:=.seq ((items.toList.drop (iK items.size 0 lo)).take (iK items.size items.size hi-iK items.size 0 lo)).toArray } })(hsz:items.size<=AA):A7 (A8 prog w) A (getItem (.ref t) (.ref sl)) Q E s:=by
 have a:sizeOk (.seq ((items.toList.drop (iK items.size 0 lo)).take (iK items.size items.size hi-iK items.size 0 lo)).toArray):=by
  show((items.toList.drop (iK items.size 0 lo)).take (iK items.size items.size hi-iK items.size 0 lo)).toArray.size<=AA;rw[zI,kz,kA,qq];omega
 have o:iK items.size items.size hi<=items.size:=We _ _ (zg _) hi;obtain⟨os,e,l,n⟩:=id hs;have g:s.TypeIs (.ref sl) "slice":=⟨os,e,l⟩;unfold getItem
 try with_reducible refine qA ?_
 first|refine zb (ze ?_)|skip
 refine zb (wpAny_sequenceKey b.typeIs (by decide) ?_);refine zb (KB (name:=Str.ofString "__getitem__") b.typeIs PyProof.Rows.slot_tuple_getitem
  (kf PyProof.Rows.slot_tuple_getitem b.typeIs entry_tuple_getitem ?_ (args_tuple_getitem _ _)))
 show A7 _ _ (Builtin.Tuple.tupleItemsOf (.ref t) >>= _) _ _ s;refine zb (tupleItemsOf_ b ?_);refine zb (QR g ?_);rw[zh (by decide)];refine zb (qQ hs pl j ?_);have i:¬ ((((iK items.size 0 lo:Nat):Int)==0&&(1:Int)==1&&(iK items.size items.size hi-iK items.size 0 lo)==items.size)=true):=by
  intro q;rw[Zz,Zz]at q;have q1:((iK items.size 0 lo:Nat):Int)=0:=eq_of_beq q.1.1;have q2:iK items.size items.size hi-iK items.size 0 lo=items.size:=eq_of_beq q.2;exact f ⟨by omega,by omega⟩
 show A7 _ _ (if(((iK items.size 0 lo:Nat):Int)==0&&(1:Int)==1&&(iK items.size items.size hi-iK items.size 0 lo)==items.size)=true then _ else _) _ _ s;rw[zC i,YX]
 first
  |exact zb (m:=Builtin.Tuple.tupleExact _) (qh (ze ⟨_,rfl,ze h⟩) a)
  |exact zb (m:=Builtin.Tuple.tupleExact _) (qh (zb (ze (ze ⟨_,rfl,ze h⟩))) a)
  |exact zb (zb (m:=Builtin.Tuple.tupleExact _) (qh (ze (ze ⟨_,rfl,ze h⟩)) a))
  |exact zb (zb (m:=Builtin.Tuple.tupleExact _) (qh (ze ⟨_,rfl,ze h⟩) a))
end HT
namespace L2
abbrev TO:=St->Hp->(O Int->Hp->Prop)->Prop
def PO(X:Cx)(e:O Expr)(t:TO):Prop:=
 ∀(AN:Z (A1×AE)) (s:A2) (σ:St) (H:Hp) (Q:O Int->Hp->Prop),AU X AN σ H s->t σ H Q →
  A7 (A8 X.prog X.w) X.A (evalPart e X.env) (λu s'=>∃o H',AU X AN σ H' s'/\IsPart u o/\Q o H') X.xe s
def f6:TO:=λ_ H Q=>Q Y H
def ac(t:TE):TO:=λσ H Q=>t σ H λx H1=>∃i,x=.int i/\Q (U i) H1
section
variable{X:Cx}{te:TE}{lo hi:O Expr}{tl th:TO}
theorem Sj:PO X Y f6:=by
 intro AN s σ H Q I h;rw[evalPart_none];exact ze ⟨Y,H,I,.none,h⟩
theorem OV(h:PE X e te):PO X (U e) (ac te):=by
 intro AN s σ H Q I a;rw[evalPart_some];refine gM (h AN s σ H _ I a) λu s1 ⟨x,H1,I1,r1,q1⟩=>?_;obtain⟨i,rfl,q⟩:=q1;obtain⟨t,rfl⟩:=r1;exact⟨U i,H1,I1,.int i t,q⟩
def G1(X:Cx)(r:V->O Int->O Int->Hp->VK->Prop):Prop:=
 ∀(AN:Z (A1×AE)) (s:A2) (σ:St) (H:Hp) (x:V) (v a b:A0) (lo hi:O Int) (sl:A1) (Q:VK),AU X AN σ H s->As x v->s.heap.IsSliceOf sl a b .none->IsPart a lo->IsPart b hi->r x lo hi H Q →
  ∃T id,typeLookup (.type T) "__getitem__"=pure (U (.builtin id))/\s.TypeIs v T/\A7 (A8 X.prog X.w) X.A (getItem v (.ref sl)) (EP X AN σ Q) X.xe s
def OQ(r:V->O Int->O Int->Hp->VK->Prop)(te:TE)(tl th:TO):TE:=λσ H Q=>te σ H λx H1=>tl σ H1 λl H2=>th σ H2 λu a=>r x l u a Q
theorem YZ{r:V->O Int->O Int->Hp->VK->Prop}(f:G1 X r)(he:PE X e te)(j:PO X lo tl)(a:PO X hi th):PE X (.Subscript e (.Slice lo hi Y p2) pos) (OQ r te tl th):=by
 intro AN s σ H Q I h;refine Subscript_ (gM (he AN s σ H _ I h) λv s1 ⟨x,H1,I1,r1,q1⟩=>?_);refine wpAny_Slice (gM (j AN s1 σ H1 _ I1 q1) λvl s2 ⟨l,H2,I2,pl,q2⟩=>gM (a AN s2 σ H2 _ I2 q2) λvu s3 ⟨u,H3,I3,pu,q3⟩=>?_);rw[evalPart_none];refine ze ?_;have c:AU X AN σ H3 { s3 with heap:=s3.heap.push { cls:=.type "slice",data:=.fields #[vl,vu,.none] } }:=I3.kept (t':=s3.toks) λb m q=>zd _ q;obtain⟨T,id,d,g,i⟩:=f AN { s3 with heap:=s3.heap.push { cls:=.type "slice",data:=.fields #[vl,vu,.none] } } σ H3 x v vl vu l u s3.heap.objs.size Q c r1 (Heap.IsSliceOf.new ..) pl pu q3;show A7 (A8 X.prog X.w) X.A (subscriptTail e (.Slice lo hi Y p2) v (.ref s3.heap.objs.size)) (EP X AN σ Q) X.xe { s3 with heap:=s3.heap.push { cls:=.type "slice",data:=.fields #[vl,vu,.none] } };exact tail_any (ops:=[.ref s3.heap.objs.size,v]) g d i (by with_unfolding_all rfl)
def Oc(xs:Z V)(lo hi:O Int):Z V:=(xs.drop (HT.iK xs.length 0 lo)).take (HT.iK xs.length xs.length hi-HT.iK xs.length 0 lo)
theorem Bh(xs:Z V)(lo hi:O Int):(Oc xs lo hi).length<=xs.length:=by
 unfold Oc;rw[kz,kA];omega
def U2(K:B4):V->O Int->O Int->Hp->VK->Prop:=λx lo hi H Q=>∃a xs,x=.ref a/\yh K H a xs ∧
 ¬ (HT.iK xs.length 0 lo=0/\HT.iK xs.length xs.length hi=xs.length)/\∀p,H p=Y->Q (.ref p) (B0 H p (.tup (Oc xs lo hi)))
theorem TL:G1 X (U2 X.K):=by
 intro AN s σ H x v j l lo hi sl Q I f hs pl i h;obtain⟨a,xs,rfl,hx,g,q⟩:=h;cases f;obtain⟨AQ,r,e,d⟩:=I.tuple hx;have c:AQ.toArray.size=xs.length:=by rw[zI];exact r.length.symm
 refine⟨"tuple", _,PyProof.Rows.slot_tuple_getitem.lookup,e.typeIs,?_⟩;refine HT.yp e hs pl i (by rw[c];exact g) ?_ (by rw[c];exact d);rw[c];refine⟨.ref s.heap.objs.size,_,I.laid (t':=s.toks) (o:=.tup (Oc xs lo hi)) (λb m q=>zd _ q) (zg _) ?_,rfl,q _ (I.hok.fresh (zg _))⟩;exact⟨ZH (Bh xs lo hi) d,_,(r.drop (HT.iK xs.length 0 lo)).take (HT.iK xs.length xs.length hi-HT.iK xs.length 0 lo),uH.new _ _⟩
def l8(K:B4):R2:=λx y H Q=>∃a b xs ys,x=.ref a/\y=.ref b/\yh K H a xs/\yh K H b ys/\xs≠[]/\xs.length+ys.length<=AA ∧
 (ys=[]->Q (.ref a) H)/\(ys≠[]->∀p,H p=Y->Q (.ref p) (B0 H p (.tup (xs++ys))))
theorem AX.Dv{xs:Z V}(r:AX xs us):us=[]↔xs=[]:=by
 cases r with
 |nil=>simp
 |cons _ _=>simp
theorem YY:uL X (binaryOp .Add) (l8 X.K):=by
 intro AN s σ H x y v u Q I g i h;obtain⟨a,b,xs,ys,rfl,rfl,f,hb,hx,e,q1,q2⟩:=h;cases g;cases i;obtain⟨AQ,d,p1,_⟩:=I.tuple f;obtain⟨j,c,p2,_⟩:=I.tuple hb;refine HT.acv p1 p2 (λz=>hx (d.Dv.mp z)) (λz=>⟨.ref a,H,I,rfl,q1 (c.Dv.mp z)⟩) (λz=>?_) (by rw[<-d.length,<-c.length];exact e);refine⟨.ref s.heap.objs.size,_,I.laid (t':=s.toks) (o:=.tup (xs++ys)) (λb l q=>zd _ q) (zg _) ?_,rfl,q2 (λw=>z (c.Dv.mpr w)) _ (I.hok.fresh (zg _))⟩;exact⟨by rw[zS];exact e,_,d.append c,uH.new _ _⟩
end
end L2
namespace L2
def EL(n:Nat)(i:Int):O Nat:=if 0<=i then(if i<n then U i.toNat else Y)else if -(n:Int)<=i then U (i+n).toNat else Y
def Ie(xs:Z α)(i:Int):O α:=(EL xs.length i).bind λj=>xs[j]?
theorem UZ{i:Int}(h:EL n i=U j):seqIndex? i n=U j/\j<n ∧ -(n:Int)<=i/\i<n:=by
 unfold EL at h;by_cases h0:0<=i
 ·rw[zh h0]at h;by_cases h1:i<n
  ·rw[zh h1]at h;have e:i.toNat=j:=ja h;exact⟨by rw[seqIndex_of h0 h1,e],by omega,by omega,h1⟩
  ·rw[zC h1]at h;cases h
 ·rw[zC h0]at h;by_cases h1 : -(n:Int)<=i
  ·rw[zh h1]at h;have e:(i+n).toNat=j:=ja h;exact⟨by rw[seqIndex_neg (by omega) h1,e],by omega,h1,by omega⟩
  ·rw[zC h1]at h;cases h
theorem Kw{xs:Z α}{i:Int}{v:α}(h:Ie xs i=U v):∃j,seqIndex? i xs.length=U j/\xs[j]?=U v/\j<xs.length ∧ -(xs.length:Int)<=i/\i<xs.length:=by
 unfold Ie at h;cases e:EL xs.length i with
 |none=>rw[e]at h;cases h
 |some j=>
  rw[e]at h;obtain⟨h1,h2,b,a⟩:=UZ e;exact⟨j,h1,h,h2,b,a⟩
def U7(b:Expr):Prop:=∀o i,subscripted b false o i=operate [o,i] (getItem o i)
def D7(X:Cx)(r:R2):Prop:=
 ∀(value a:Expr) (AN:Z (A1×AE)) (s:A2) (σ:St) (H:Hp) (x y:V) (v u:A0) (Q:VK),AU X AN σ H s->As x v->As y u->r x y H Q →
  subscripted a false v u=operate [v,u] (getItem v u)->A7 (A8 X.prog X.w) X.A (subscriptTail value a v u) (EP X AN σ Q) X.xe s
def LM(X:Cx)(id:String)(r:V->Z V->Hp->VK->Prop):Prop:=
 ∀(AN:Z (A1×AE)) (s:A2) (σ:St) (H:Hp) (x:V) (xs:Z V) (v:A0) (us:Z A0) (Q:VK),AU X AN σ H s->As x v->AX xs us->r x xs H Q →
  A7 (A8 X.prog X.w) X.A (call (.builtin id) (v::us)) (EP X AN σ Q) X.xe s
section
variable{X:Cx}{a b:Expr}{ta tb:TE}
theorem D7.or{r b:R2}(h:D7 X r)(h':D7 X b):D7 X (λx y H Q=>r x y H Q\/b x y H Q):=by
 intro value d AN s σ H x y v u Q I c a q hs;rcases q with q|q
 ·exact h value d AN s σ H x y v u Q I c a q hs
 ·exact h' value d AN s σ H x y v u Q I c a q hs
theorem ie{r:R2}(g:D7 X r)(e:PE X a ta)(hb:PE X b tb)(hs:U7 b):PE X (.Subscript a b pos) (EX r ta tb):=by
 intro AN s σ H Q I h;exact Subscript_ (Hc e hb I h λv u c x y H2 d f i q=>g a b AN c σ H2 x y v u Q d f i q (hs _ _))
def Nl(K:B4):R2:=λx y H Q=>∃p xs i v,x=.ref p/\y=.int i/\qO K H p xs/\Ie xs i=U v/\Q v H
def MD(K:B4):R2:=λx y H Q=>∃p xs i v,x=.ref p/\y=.int i/\yh K H p xs/\Ie xs i=U v/\Q v H
def NG:R2:=λx y H Q=>∃z i c,x=.str z/\y=.int i/\z.length<=AA/\Ie z.cps.toList i=U c/\Q (.str ⟨#[c]⟩) H
theorem iA:D7 X (Nl X.K):=by
 intro value B AN s σ H x y v u Q I e n h hs;obtain⟨p,xs,i,z,rfl,rfl,f,g,q⟩:=h;cases e;obtain⟨t,rfl⟩:=n;obtain⟨AQ,r,pl,A⟩:=I.list f;obtain⟨j,h1,h2,C,m,d⟩:=Kw g;obtain⟨w,b,o⟩:=r.get h2;have l:=r.length;have D:=zX;have c:EP X AN σ Q w s:=⟨z,H,I,o,q⟩;by_cases h0:0<=i
 ·have a:i.toNat=j:=by
   rw[seqIndex_of h0 d]at h1;exact ja h1
  exact item_listR pl.isList h0 (by omega) (by rw[a];simpa using b) c hs
 ·have a:(i+(AQ.toArray.size:Int)).toNat=j:=by
   rw[seqIndex_neg (by omega) m]at h1;rw[zI,<-l];exact ja h1
  exact subscriptTail_builtinR (x:=w) pl.isList.typeIs slot_list_getitem.lookup
   (wpAny_getItem_list_neg (Q:=λr s'=>r=w/\EP X AN σ Q r s') pl.isList (by omega) (by rw[zI]<;>omega) (by omega) (by rw[a];simpa using b) ⟨rfl,c⟩) hs
theorem e9:D7 X (MD X.K):=by
 intro value n AN s σ H x y v u Q I c g h hs;obtain⟨p,xs,i,z,rfl,rfl,d,e,q⟩:=h;cases c;obtain⟨t,rfl⟩:=g;obtain⟨AQ,r,pl,m⟩:=I.tuple d;obtain⟨j,h1,h2,A,B,o⟩:=Kw e;obtain⟨w,a,l⟩:=r.get h2;have f:=r.length;have C:=zX;have b:EP X AN σ Q w s:=⟨z,H,I,l,q⟩;exact subscriptTail_builtinR (x:=w) pl.typeIs slot_tuple_getitem.lookup
  (getItem_tuple (j:=j) (Q:=λr s'=>r=w/\EP X AN σ Q r s') pl (by omega) (by omega) (by rw[zI,<-f];exact h1) (by simpa using a) ⟨rfl,b⟩) hs
theorem bo:D7 X NG:=by
 intro value m AN s σ H x y v u Q I b e h hs;obtain⟨z,i,c,rfl,rfl,l,d,q⟩:=h;obtain⟨t,rfl⟩:=b;obtain⟨p,rfl⟩:=e;obtain⟨j,h1,h2,n,f,a⟩:=Kw d;have g:z.cps.toList.length=z.length:=by simp[Str.length]
 rw[g]at h1 f a;have o:=zX;exact tail_any (typeIs_str s z t) slot_str_getitem.lookup (getItem_str (c:=c) (by
  have e1:decide (i < -(2 ^ 63:Int))=false:=ZE (by omega);have e2:decide (i>=2 ^ 63)=false:=ZE (by omega);rw[e1,e2,Bool.or_false]) (by rw[h1];simpa using h2) ⟨.str ⟨#[c]⟩,H,I.tok _,⟨_,rfl⟩,q⟩) hs
def aS(K:B4):R2:=λx y H Q=>Nl K x y H Q\/MD K x y H Q\/NG x y H Q
theorem P5:D7 X (aS X.K):=iA.or (e9.or bo)
theorem AU.lst{σ:St}{H:Hp}{p:A1}{xs:Z V}(I:AU X AN σ H s)(h:H p=U (.lst xs)):
  ∃(AQ:Z A0) (n:Nat),AX xs AQ/\s.heap.get? p=U { cls:=.type "list",data:=.seq AQ.toArray n }/\xs.length<=AA:=by
 obtain⟨z,AQ,n,r,e⟩:=I.hok p _ h;exact⟨AQ,n,r,e,z⟩
theorem Kz(lo hi:O Int)(n:Nat):(sliceBounds lo hi Y n).1=((HT.iK n 0 lo:Nat):Int)/\(sliceBounds lo hi Y n).2.1=((HT.iK n n hi:Nat):Int)/\(sliceBounds lo hi Y n).2.2=1:=by
 refine⟨?_,?_,rfl⟩
 ·cases lo with
  |none=>simp[sliceBounds,HT.iK]
  |some i=>
   simp only[sliceBounds,HT.iK,Option.getD_none,show(1:Int)>0 by decide,qS];by_cases h:i<0
   ·simp only[h,qS]<;>omega
   ·simp only[h,ZO]<;>omega
 ·cases hi with
  |none=>simp[sliceBounds,HT.iK]
  |some i=>
   simp only[sliceBounds,HT.iK,Option.getD_none,show(1:Int)>0 by decide,qS];by_cases h:i<0
   ·simp only[h,qS]<;>omega
   ·simp only[h,ZO]<;>omega
theorem Ig(AQ:Z A0)(lo hi:O Int):slicePick AQ.toArray lo hi Y=((AQ.drop (HT.iK AQ.length 0 lo)).take (HT.iK AQ.length AQ.length hi-HT.iK AQ.length 0 lo)).toArray:=by
 obtain⟨h1,h2,a⟩:=Kz lo hi AQ.toArray.size;unfold slicePick;rw[h1,h2,a];simp only[sliceRange_one,pick_run,zI]<;>rfl
def l7(K:B4):V->O Int->O Int->Hp->VK->Prop:=λx lo hi H Q=>∃a xs,x=.ref a/\qO K H a xs/\∀p,H p=Y->Q (.ref p) (B0 H p (.lst (Oc xs lo hi)))
theorem gl:G1 X (l7 X.K):=by
 intro AN s σ H x v i j lo hi sl Q I f hs pl g h;obtain⟨a,xs,rfl,hx,q⟩:=h;cases f;obtain⟨AQ,r,c,d⟩:=I.list hx;have e:=r.length;refine⟨"list", _,slot_list_getitem.lookup,c.isList.typeIs,?_⟩;refine wpAny_getItem_list_slice c.isList hs pl g .none (by simp) ?_ (by rw[zI]<;>omega);rw[Ig,<-e];refine⟨.ref s.heap.objs.size,_,I.laid (t':=s.toks) (o:=.lst (Oc xs lo hi)) (λb l q=>zd _ q) (zg _) ?_,rfl,q _ (I.hok.fresh (zg _))⟩;exact⟨ZH (Bh xs lo hi) d,_,0,(r.drop (HT.iK xs.length 0 lo)).take (HT.iK xs.length xs.length hi-HT.iK xs.length 0 lo),zv _ rfl⟩
def tZ:V->Bool
 |.non=>true
 |.bl _=>true
 |.int _=>true
 |.str _=>true
 |_=>false
def D9:V->V->Bool
 |.non,.non=>true
 |.bl a,.bl b=>a==b
 |.bl a,.int b=>(if a then 1 else 0)==b
 |.int a,.bl b=>a==(if b then 1 else 0)
 |.int a,.int b=>a==b
 |.str a,.str b=>a==b
 |_,_=>false
theorem XU{y x:V}{v:A0}(e:As y u)(c:As x v)(fy:tZ y=true)(fx:tZ x=true):SeqAt.EqAt A s u v (D9 y x):=by
 cases y with
 |non=>
  cases e;cases x with
  |non=>cases c;exact SeqAt.EqAt.same _
  |bl b=>cases c;exact SeqAt.EqAt.none_bool b
  |int b=>obtain⟨t,rfl⟩:=c;exact SeqAt.EqAt.none_int b t
  |str b=>obtain⟨t,rfl⟩:=c;exact SeqAt.EqAt.none_str b t
  |_=>exact absurd (show false=true from fx) ZI
 |bl a=>
  cases e;cases x with
  |non=>cases c;exact SeqAt.EqAt.bool_none a
  |bl b=>cases c;exact SeqAt.EqAt.bool_bool a b
  |int b=>obtain⟨t,rfl⟩:=c;exact SeqAt.EqAt.bool_int a b t
  |str b=>obtain⟨t,rfl⟩:=c;exact SeqAt.EqAt.bool_str a b t
  |_=>exact absurd (show false=true from fx) ZI
 |int a=>
  obtain⟨d,rfl⟩:=e;cases x with
  |non=>cases c;exact SeqAt.EqAt.int_none a d
  |bl b=>cases c;exact SeqAt.EqAt.int_bool a d b
  |int b=>obtain⟨t,rfl⟩:=c;exact SeqAt.EqAt.int_int a d b t
  |str b=>obtain⟨t,rfl⟩:=c;exact SeqAt.EqAt.int_str a d b t
  |_=>exact absurd (show false=true from fx) ZI
 |str a=>
  obtain⟨d,rfl⟩:=e;cases x with
  |non=>cases c;exact SeqAt.EqAt.str_none a d
  |bl b=>cases c;exact SeqAt.EqAt.str_bool a d b
  |int b=>obtain⟨t,rfl⟩:=c;exact SeqAt.EqAt.str_int a d b t
  |str b=>obtain⟨t,rfl⟩:=c;exact SeqAt.EqAt.str_str a d b t
  |_=>exact absurd (show false=true from fx) ZI
 |_=>exact absurd (show false=true from fy) ZI
def RZ(x:V)(u:A0):Bool:=match u with
 |.none=>D9 .non x
 |.bool b=>D9 (.bl b) x
 |.int i _=>D9 (.int i) x
 |.str z _=>D9 (.str z) x
 |_=>false
theorem Y0{x y:V}(r:As y u)(f:tZ y=true):RZ x u=D9 y x:=by
 cases y with
 |non=>cases r;rfl
 |bl b=>cases r;rfl
 |int i=>obtain⟨t,rfl⟩:=r;rfl
 |str z=>obtain⟨t,rfl⟩:=r;rfl
 |_=>exact absurd (show false=true from f) ZI
theorem yq{x:V}:∀{xs:Z V} {us:Z A0},AX xs us->xs.all tZ=true->us.any (RZ x)=xs.any λy=>D9 y x
 |_,_,.nil,_=>rfl
 |y::xs,u::us,.cons r t,f=>by
  rw[kr,Zz]at f;rw[kq,kq,Y0 r f.1,yq t f.2]
theorem uM{A:A5}{s:A2}{x:V}{v:A0}(b:As x v)(fx:tZ x=true):∀{xs:Z V} {us:Z A0},AX xs us->xs.all tZ=true->∀u∈us,SeqAt.EqAt A s u v (RZ x u)
 |_,_,.nil,_=>λu a=>by cases a
 |y::xs,u::us,.cons r t,f=>λc a=>by
  rw[kr,Zz]at f;rcases List.mem_cons.mp a with rfl|a
  ·rw[Y0 r f.1];exact XU r b f.1 fx
  ·exact uM b fx t f.2 c a
def G2(x:V)(xs:Z V):Bool:=xs.any λy=>D9 y x
def Mk(K:B4)(a:Bool):R2:=λx y H Q=>∃p xs,y=.ref p/\(qO K H p xs\/yh K H p xs)/\tZ x=true/\xs.all tZ=true/\Q (.bl (if a then !G2 x xs else G2 x xs)) H
theorem Wz:uL X (AG .In) (Mk X.K false):=by
 intro AN s σ H x y v u Q I c e h;obtain⟨p,xs,rfl,a,fx,fs,q⟩:=h;cases e;rcases a with a|a
 ·obtain⟨AQ,r,pl,d⟩:=I.list a;refine SeqAt.in_listAt (RZ x) pl.isList (λw b=>uM c fx r fs w (by simpa using b)) ⟨.bl _,H,I,rfl,?_⟩;rw[show AQ.toArray.any (RZ x)=AQ.any (RZ x) by simp,yq r fs];exact q
 ·obtain⟨AQ,r,pl,d⟩:=I.tuple a;refine SeqAt.in_tupleAt (RZ x) pl (λw b=>uM c fx r fs w (by simpa using b)) ⟨.bl _,H,I,rfl,?_⟩;rw[show AQ.toArray.any (RZ x)=AQ.any (RZ x) by simp,yq r fs];exact q
theorem KC:uL X (AG .NotIn) (Mk X.K true):=by
 intro AN s σ H x y v u Q I c e h;obtain⟨p,xs,rfl,a,fx,fs,q⟩:=h;cases e;rcases a with a|a
 ·obtain⟨AQ,r,pl,d⟩:=I.list a;refine SeqAt.notIn_listAt (RZ x) pl.isList (λw b=>uM c fx r fs w (by simpa using b)) ⟨.bl _,H,I,rfl,?_⟩;rw[show AQ.toArray.any (RZ x)=AQ.any (RZ x) by simp,yq r fs];exact q
 ·obtain⟨AQ,r,pl,d⟩:=I.tuple a;refine SeqAt.notIn_tupleAt (RZ x) pl (λw b=>uM c fx r fs w (by simpa using b)) ⟨.bl _,H,I,rfl,?_⟩;rw[show AQ.toArray.any (RZ x)=AQ.any (RZ x) by simp,yq r fs];exact q
theorem KD:uL X (AG .NotIn) (λx y H Q=>∃i j,x=.str i/\y=.str j/\Q (.bl (!(!(Builtin.Str.occurrences j i 0 j.length 1).isEmpty))) H):=by
 intro AN s σ H x y v u Q I a b h;obtain⟨i,j,rfl,rfl,q⟩:=h;obtain⟨t,rfl⟩:=a;obtain⟨c,rfl⟩:=b;exact notIn_str ⟨.bl _,H,I,rfl,q⟩
theorem KH:fK X (.builtin "len") (λxs H Q=>∃p ys,xs=[.ref p]/\(qO X.K H p ys\/yh X.K H p ys)/\Q (.int ys.length) H):=by
 intro AN s σ H xs us Q I r h;obtain⟨p,ys,rfl,a,q⟩:=h;obtain⟨u,rfl,e⟩:=BC r;cases e;have f:=zX;rcases a with a|a
 ·obtain⟨AQ,b,pl,d⟩:=I.list a;have c:=b.length;exact Calls.call_len_list pl.isList (by simp only[zI]<;>omega) ⟨.int ys.length,H,I.tok _,⟨s.toks+1,by rw[zI,c]⟩,q⟩
 ·obtain⟨AQ,b,pl,d⟩:=I.tuple a;have c:=b.length;exact len_tuple pl (by simp only[zI]<;>omega) ⟨.int ys.length,H,I.tok _,⟨s.toks+1,by rw[zI,c]⟩,q⟩
theorem KJ:fK X (.builtin "len") (λxs H Q=>∃z,xs=[.str z]/\z.length<=AA/\Q (.int z.length) H):=by
 intro AN s σ H xs us Q I r h;obtain⟨z,rfl,a,q⟩:=h;obtain⟨u,rfl,t,rfl⟩:=BC r;have b:=zX;exact len_str (by omega) ⟨.int z.length,H,I.tok _,⟨_,rfl⟩,q⟩
theorem fK.or{f:A0}{r a:Z V->Hp->VK->Prop}(h:fK X f r)(h':fK X f a):fK X f (λxs H Q=>r xs H Q\/a xs H Q):=by
 intro AN s σ H xs us Q I b q;rcases q with q|q
 ·exact h AN s σ H xs us Q I b q
 ·exact h' AN s σ H xs us Q I b q
theorem KN:fK X (.type "list") (λxs H Q=>∃p ys,xs=[.ref p]/\(qO X.K H p ys\/yh X.K H p ys)/\∀l,H l=Y->Q (.ref l) (B0 H l (.lst ys))):=by
 intro AN s σ H xs us Q I r h;obtain⟨p,ys,rfl,f,q⟩:=h;obtain⟨u,rfl,v⟩:=BC r;cases v;have m:∀(AQ:Z A0),AX ys AQ->ys.length<=AA->∀(h':A6) (c:Nat),(∀b o',s.heap.get? b=U o'->h'.get? b=U o') →
   h'.get? s.heap.objs.size=U { cls:=.type "list",dict:=Y,data:=.seq AQ.toArray c,slots:=#[] }->EP X AN σ Q (.ref s.heap.objs.size) { s with heap:=h' }:=λAQ a d h' c kp e=>
  ⟨.ref s.heap.objs.size,_,I.laid (t':=s.toks) kp (zg _) (show gn X.prog X.w _ h' _ (.lst ys) from⟨d,AQ,c,a,e⟩),rfl,q _ (I.hok.fresh (zg _))⟩
 rcases f with f|f
 ·obtain⟨AQ,a,pl,d⟩:=I.list f;have t:=a.length;obtain⟨o,i,j,n,g⟩:=pl.isList;exact call_list_seq p (.inl S) i j g (λh' c kp e=>m AQ a d h' c kp e) (by simp only[zI]<;>omega)
 ·obtain⟨AQ,a,pl,d⟩:=I.tuple f;have t:=a.length;obtain⟨o,i,j,n,g⟩:=pl;exact call_list_seq p (.inr S) i j g (λh' c kp e=>m AQ a d h' c kp e) (by simp only[zI]<;>omega)
theorem Ih:fK X (.type "tuple") (λxs H Q=>∃p ys,xs=[.ref p]/\((qO X.K H p ys/\∀l,H l=Y->Q (.ref l) (B0 H l (.tup ys)))\/(yh X.K H p ys/\Q (.ref p) H))):=by
 intro AN s σ H xs us Q I r h;obtain⟨p,ys,rfl,h⟩:=h;obtain⟨u,rfl,i⟩:=BC r;cases i;rcases h with⟨c,q⟩|⟨c,q⟩
 ·obtain⟨AQ,a,pl,d⟩:=I.list c;have j:=a.length;refine call_tuple_list pl.isList (λh' kp=>?_) (by simp only[zI]<;>omega);have f:AU X AN σ H { s with heap:=h' }:=I.kept (t':=s.toks) kp;have g:AU X AN σ (B0 H h'.objs.size (.tup ys)) { s with heap:=h'.push { cls:=.type "tuple",data:=.seq AQ.toArray } }:=
   f.laid (t':=s.toks) (λb o e=>zd _ e) (zg _) (show gn X.prog X.w _ _ _ (.tup ys) from⟨d,AQ,a,uH.new _ _⟩)
  exact⟨.ref h'.objs.size,_,g,rfl,q _ (f.hok.fresh (zg _))⟩
 ·obtain⟨AQ,a,pl,d⟩:=I.tuple c;exact call_tuple_same pl ⟨.ref p,H,I,rfl,q⟩
def N1(K:B4)(T:String)(x:V)(H:Hp):Prop:=match x with
 |.str _=>T ="str"
 |.int _=>T ="int"
 |.ref p=>(T ="list" ∧ ∃xs,qO K H p xs)\/(T ="tuple" ∧ ∃o,K.lookup p=U o/\o.cls=.type "tuple" ∧ o.dict=Y) ∨
   (T ="dict" ∧ ((∃AO,H p=U (.dK AO))\/∃AO,H p=U (.dT AO)))\/(T ="set" ∧ ∃S n,H p=U (.set S n))
 |_=>False
theorem Pm{σ:St}{H:Hp}{T:String}{x:V}{v:A0}(I:AU X AN σ H s)(r:As x v)(ty:N1 X.K T x H):
  s.TypeIs v T/\∀a,v=.ref a->∃f,s.heap.get? a=U f/\f.dict=Y:=by
 cases x with
 |str z=>
  obtain⟨t,rfl⟩:=r;cases(show T ="str" from ty);exact⟨typeIs_str s z t,λ_ e=>nomatch e⟩
 |int i=>
  obtain⟨t,rfl⟩:=r;cases(show T ="int" from ty);exact⟨typeIs_int s i t,λ_ e=>nomatch e⟩
 |ref p=>
  cases r;rcases ty with⟨rfl,xs,g⟩|⟨rfl,o,b,h,d⟩|⟨rfl,b⟩|⟨rfl,S,n,b⟩
  ·obtain⟨AQ,_,pl,_⟩:=I.list g;refine⟨pl.isList.typeIs,λa e=>?_⟩;cases e;obtain⟨o,n,e,c,d,_⟩:=pl;exact⟨o,e,d⟩
  ·refine⟨⟨o,I.Es p o b,h⟩,λa e=>?_⟩;cases e;exact⟨o,I.Es _ o b,d⟩
  ·have z:∃o,s.heap.get? p=U o/\o.ExactDict:=by
    rcases b with⟨AO,b⟩|⟨AO,b⟩
    ·obtain⟨_,_,_,_,o,_,_,e,ex,_⟩:=I.hok p _ b;exact⟨o,e,ex⟩
    ·obtain⟨_,_,_,_,o,_,_,e,ex,_⟩:=I.hok p _ b;exact⟨o,e,ex⟩
   obtain⟨o,e,ex⟩:=z;refine⟨⟨o,e,ex.1⟩,λa e2=>?_⟩;cases e2;exact⟨o,e,ex.2.1⟩
  ·obtain⟨o,_,_,_,e,ex,_⟩:=I.hok p _ b;refine⟨⟨o,e,ex.1⟩,λa e2=>?_⟩;cases e2;exact⟨o,e,ex.2.1⟩
 |_=>exact False.elim ty
def RU(K:B4)(T:String)(r:V->Z V->Hp->VK->Prop)(to:TE)(t:TA):TE:=λσ H Q=>to σ H λx H1=>N1 K T x H1/\t σ H1 λxs H2=>r x xs H2 Q
variable{o:Expr}{to:TE}{t:TA}{T id:String}{r:V->Z V->Hp->VK->Prop}
theorem U8(pa:PlainAttrs T)(slot:Slot T name id)(j:typeOf (.builtin id)=pure (.type "method_descriptor"))(l:LM X id r)(f:PE X o to)(c:PA X (e::es) t)
  (i:attributeBase o name X.env (eval o X.env)=eval o X.env:=by rfl)
  (b:((AD cpos (A9 (e::es) X.env)).all (λx=>!x.1)&&(backToKw cpos (keywordEach [] X.env)).all (λx=>x.1.isSome)
   && decide ((e::es).length+([]:Z AC).length+(if([]:Z AC).isEmpty then 0 else 1)<30))=true:=by rfl)
  (d:(apos.endLine==cpos.line)=true:=by rfl) (hs:A9 (e::es) X.env=(false,eval e X.env)::A9 es X.env:=by rfl) (g:(AD cpos (A9 es X.env)).any (·.1)=false:=by rfl):
  PE X (.Call (.Attribute o name apos) (e::es) [] cpos) (RU X.K T r to t):=by
 intro AN s σ H Q I h;refine wpAny_Call_method_late i b d S (gM (f AN s σ H _ I h) λv s1 ⟨x,H1,I1,r1,ty,q1⟩=>?_);obtain⟨h1,h2⟩:=Pm I1 r1 ty;refine⟨T,id,pa,slot,j,h1,h2,?_⟩;have a:=c cpos AN s1 σ H1 _ I1 q1;rw[hs]at a ⊢;refine Calls.callWith_builtin (by show(false||(AD cpos (A9 es X.env)).any (·.1))=false;rw[g]<;>rfl) (Calls.evalArgs_plain ?_);exact gM a λus s2 ⟨vs,H2,I2,r2,q2⟩=>l AN s2 σ H2 x vs v us Q I2 r1 r2 q2
end
end L2
namespace L2
def HA(X:Cx)(id:String)(r:V->Z V->Hp->VK->Prop):Prop:=
 ∀(AN:Z (A1×AE)) (s:A2) (σ:St) (H:Hp) (x:V) (xs:Z V) (v:A0) (us:Z A0) (Q:VK),AU X AN σ H s->As x v->AX xs us->r x xs H Q →
  A7 (A8 X.prog X.w) X.A (call (.builtin id) (v::us)) (EP X AN σ Q) X.xe s
theorem AX.one:∀{x:V} {us:Z A0},AX [x] us->∃u,us=[u]/\As x u
 |_,_,.cons r .nil=>⟨_,rfl,r⟩
theorem AX.two:∀{x y:V} {us:Z A0},AX [x,y] us->∃u v,us=[u,v]/\As x u/\As y v
 |_,_,_,.cons r (.cons q .nil)=>⟨_,_,rfl,r,q⟩
theorem AX.eraseIdx:∀{xs:Z V} {us:Z A0} (i:Nat),AX xs us->AX (xs.eraseIdx i) (us.eraseIdx i)
 |_,_,_,.nil=>.nil
 |_,_,0,.cons _ t=>t
 |_,_,i+1,.cons r t=>.cons r (AX.eraseIdx i t)
theorem AX.reverse{xs:Z V}(h:AX xs us):AX xs.reverse us.reverse:=by
 induction h with
 |nil=>exact .nil
 |cons r t a=>rw[kU,kU];exact AX.append a (.cons r .nil)
theorem Jx{α:Type}:∀(l:Z α) (i:Nat),(l.eraseIdx i).length<=l.length
 |[],_=>zg _
 |_::_,0=>JO _
 |_::r,i+1=>Nat.succ_le_succ (Jx r i)
section
variable{X:Cx}{σ:St}{H:Hp}{b:A1}{xs ys zs:Z V}
theorem AU.R0{its':Z A0}{f:Array A0->Array A0}{t':Nat}(I:AU X AN σ H s)(b:H l=U (.lst xs))(e:s.heap.get? l=U { cls:=.type "list",data:=.seq AQ.toArray n })(d:f AQ.toArray=its'.toArray)(c:AX ys its')(a:ys.length<=AA):
  AU X AN σ (B0 H l (.lst ys)) { s with heap:=s.heap.update l (Obj.mapSeq f),toks:=t' }:=by
 have q:=PySem.IsL.update e f;rw[d]at q;refine I.write (x:=l) (e:=l) (by rw[b];exact trivial) (.inl S) (λh u hb g=>(QN s.heap (Obj.mapSeq f) (jI hb)).trans g) ⟨_,q⟩ ?_;exact⟨a,its',_,c,q⟩
theorem AU.akU{t':Nat}(I:AU X AN σ H s)(b:AX ys AQ)(a:ys.length<=AA):
  AU X AN σ (B0 H s.heap.objs.size (.lst ys)) { s with heap:=s.heap.push { cls:=.type "list",data:=.seq AQ.toArray },toks:=t' }:=
 I.laid (λ_ _ q=>zd _ q) (zg _) ⟨a,AQ,0,b,zv _ rfl⟩
theorem AU.fresh(I:AU X AN σ H s):H s.heap.objs.size=Y:=I.hok.fresh (zg _)
theorem AU.WD(I:AU X AN σ H s)(a:H l=U (.lst xs)):xs.length<=AA/\∃(AQ:Z A0) (n:Nat),AX xs AQ/\xs.length=AQ.length/\s.heap.get? l=U { cls:=.type "list",data:=.seq AQ.toArray n }:=by
 obtain⟨z,AQ,n,r,e⟩:=I.hok l _ a;exact⟨z,AQ,n,r,r.length,e⟩
theorem Y4(h:n<=AA):Builtin.List.listTooLong n=false:=by
 unfold Builtin.List.listTooLong;exact ZE (by omega)
end
section
variable{X:Cx}
def OT:V->Z V->Hp->VK->Prop:=λx vs H Q=>∃l xs y,x=.ref l/\vs=[y]/\H l=U (.lst xs)/\xs.length<AA/\Q .non (B0 H l (.lst (xs++[y])))
theorem Jy:HA X "list.append" OT:=by
 intro AN s σ H x vs v us Q I c d h;obtain⟨l,xs,y,rfl,rfl,a,f,q⟩:=h;cases c;obtain⟨u,rfl,b⟩:=d.one;obtain⟨z,AQ,n,r,g,e⟩:=I.WD a;refine call_meets F.slot_list_append ⟨_,e,rfl⟩ F.entry_list_append (F.args_list_append_2 _ _) (PySem.list_append l AQ.toArray n u (by rw[zI];omega)) ⟨e,?_⟩;refine⟨.non,_,I.R0 (its':=AQ++[u]) a e (by simp) (r.append (.cons b .nil)) ?_,rfl,q⟩;rw[zS,List.length_singleton];omega
def fA:V->Z V->Hp->VK->Prop:=λx vs H Q=>∃l b xs zs,x=.ref l/\vs=[.ref b]/\H l=U (.lst xs)/\H b=U (.lst zs)/\xs.length+zs.length<=AA/\Q .non (B0 H l (.lst (xs++zs)))
theorem WK:HA X "list.extend" fA:=by
 intro AN s σ H x vs v us Q I g i h;obtain⟨l,b,xs,zs,rfl,rfl,c,o,t,q⟩:=h;cases g;obtain⟨u,rfl,f⟩:=i.one;cases f;obtain⟨z,AQ,n,r,y,e⟩:=I.WD c;obtain⟨z2,a,m,d,w,e2⟩:=I.WD o;have j:AQ.toArray.size+a.toArray.size<=AA:=by rw[zI,zI];omega
 have p:¬ (!AQ.toArray.isEmpty&&Builtin.List.listTooLong (AQ.toArray.size+a.toArray.size))=true:=by
  rw[Y4 j,ky];exact ZI
 refine call_meets F.slot_list_extend ⟨_,e,rfl⟩ F.entry_list_extend (F.args_list_extend_2 _ _)
  (AutoSeq1.list_extend_list_list_0 l AQ.toArray n b a.toArray m p (by rw[zI];omega) (by omega)) ⟨e,e2,?_⟩
 refine⟨.non,_,I.R0 (its':=AQ++a) c e (by simp) (r.append d) ?_,rfl,q⟩;rw[zS];omega
def TB:V->Z V->Hp->VK->Prop:=λx vs H Q=>∃l xs i k y,x=.ref l/\vs=[.int i]/\H l=U (.lst xs) ∧ -(2 ^ 63)<=i/\i<2 ^ 63/\seqIndex? i xs.length=U k/\xs[k]?=U y/\Q y (B0 H l (.lst (xs.eraseIdx k)))
theorem Y5:HA X "list.pop" TB:=by
 intro AN s σ H x vs v us Q I d g h;obtain⟨l,xs,i,k,y,rfl,rfl,a,h1,h2,j,b,q⟩:=h;cases d;obtain⟨u,rfl,c⟩:=g.one;obtain⟨t,rfl⟩:=c;obtain⟨z,AQ,n,r,m,e⟩:=I.WD a;obtain⟨w,f,o⟩:=r.get b;refine call_meets F.slot_list_pop ⟨_,e,rfl⟩ F.entry_list_pop (F.args_list_pop_2 _ _)
  (MeetsSeq.list_pop_at l AQ.toArray n i t k w (fitsIndex_both h1 h2) (by rw[zI,<-m];exact j) (by rw[<-qV];exact f) (by rw[zI];omega)) ⟨e,?_⟩
 refine⟨y,_,I.R0 (its':=AQ.eraseIdx k) a e ?_ (r.eraseIdx k) ?_,o,q⟩
 ·show AQ.toArray.eraseIdxIfInBounds k=(AQ.eraseIdx k).toArray;rw[List.eraseIdxIfInBounds_toArray]
 ·have:=Jx xs k;omega
def fz:R2:=λx y H Q=>∃l b xs zs,x=.ref l/\y=.ref b/\H l=U (.lst xs)/\H b=U (.lst zs)/\xs.length+zs.length<=AA/\∀p,H p=Y->Q (.ref p) (B0 H p (.lst (xs++zs)))
theorem ij:uL X (binaryOp .Add) fz:=by
 intro AN s σ H x y v u Q I f i h;obtain⟨l,b,xs,zs,rfl,rfl,d,g,j,q⟩:=h;cases f;cases i;obtain⟨z,AQ,n,r,m,e⟩:=I.WD d;obtain⟨z2,a,o,c,p,e2⟩:=I.WD g;refine PySem.P.add_list e e2 ?_ (by rw[zI,zI];omega);have ea:AQ.toArray++a.toArray=(AQ++a).toArray:=by simp
 rw[ea];exact⟨.ref _,_,I.akU (t':=s.toks) (r.append c) (by rw[zS];omega),rfl,q _ I.fresh⟩
end
section
variable{X:Cx}
end
end L2
namespace L2
section
variable [DecidableEq κ]
def zY(AO:Z (κ×V))(k:κ):O V:=(AO.find? λa=>decide (a.1=k)).map (·.2)
def BD(AO:Z (κ×V))(k:κ)(v:V):Z (κ×V):=
 if(AO.any λa=>decide (a.1=k))=true then AO.map (λa=>if a.1=k then(a.1,v)else a)else AO++[(k,v)]
theorem yr{p:κ×V}{r:Z (κ×V)}{k:κ}(e:p.1=k):zY (p::r) k=U p.2:=by simp[zY,JA,e]
theorem yt{p:κ×V}{r:Z (κ×V)}{k:κ}(e:¬ p.1=k):zY (p::r) k=zY r k:=by simp[zY,JA,e]
theorem Oe(k:κ):∀AO:Z (κ×V),(AO.any λa=>decide (a.1=k))=(zY AO k).isSome
 |[]=>rfl
 |p::r=>by
  rw[kq];by_cases e:p.1=k
  ·simp only[yr e,ZT e,Bool.true_or,yT]
  ·rw[yt e,ZE e,Bool.false_or];exact Oe k r
theorem lY(AO:Z (κ×V))(k:κ)(v:V):(BD AO k v).length<=AO.length+1:=by
 unfold BD;split
 ·rw[zi];omega
 ·rw[zS,qc,List.length_nil];omega
theorem Cw.zZ{o:O V}{u:O A0}(r:Cw o u):o.isSome=u.isSome:=by
 cases o with
 |none=>cases u with
  |none=>rfl
  |some _=>exact(show False from r).elim
 |some _=>cases u with
  |none=>exact(show False from r).elim
  |some _=>rfl
theorem KV.val{AO:Z (κ×V)}{vs:Z (κ×A0)}(r:KV AO vs)(k:κ):Cw (zY AO k) (valueAt vs k):=by
 unfold KV at r
 induction r with
 |nil=>exact True.intro
 |@cons p q ps a h t c=>
  obtain⟨h1,h2⟩:=h;by_cases e:p.1=k
  ·have e':q.1=k:=h1.symm.trans e;have b:valueAt (q::a) k=U q.2:=by simp[valueAt,JA,e']
   rw[yr e,b];exact h2
  ·have e':¬ q.1=k:=λz=>e (h1.trans z);have b:valueAt (q::a) k=valueAt a k:=by simp[valueAt,JA,e']
   rw[yt e,b];exact c
theorem KV.any{AO:Z (κ×V)}{vs:Z (κ×A0)}(r:KV AO vs)(k:κ):(AO.any λa=>decide (a.1=k))=vs.any λa=>decide (a.1=k):=by
 unfold KV at r
 induction r with
 |nil=>rfl
 |cons h t b=>rw[kq,kq,b,h.1]
theorem KV.repl{AO:Z (κ×V)}{vs:Z (κ×A0)}(r:KV AO vs)(k:κ){y:V}(b:As y u):
  KV (AO.map λa=>if a.1=k then(a.1,y)else a) (vs.map λa=>if a.1=k then(a.1,u)else a):=by
 unfold KV at r ⊢
 induction r with
 |nil=>exact .nil
 |@cons p q ps d h t c=>
  rw[zw,zw];refine .cons ?_ c;obtain⟨h1,h2⟩:=h;by_cases e:p.1=k
  ·rw[zh e,zh (h1.symm.trans e)];exact⟨h1,b⟩
  ·rw[zC e,zC (λz=>e (h1.trans z))];exact⟨h1,h2⟩
theorem KV.put{AO:Z (κ×V)}{vs:Z (κ×A0)}(r:KV AO vs)(k:κ){y:V}(a:As y u):KV (BD AO k y) (stored vs k u):=by
 unfold BD stored;rw[r.any k];by_cases e:(vs.any λb=>decide (b.1=k))=true
 ·rw[zh e,zh e];exact r.repl k a
 ·rw[zC e,zC e];exact Paired.snoc r ⟨rfl,a⟩
theorem KV.length{AO:Z (κ×V)}{vs:Z (κ×A0)}(r:KV AO vs):AO.length=vs.length:=Paired.length r
end
theorem Fb{k:AY}(r:As (kV k) u):(bF P w).is k u=true:=by
 cases k with
 |inl i=>obtain⟨t,e⟩:=(show ∃t,u=Value.int i t from r);subst e;exact N6 P w i t
 |inr x=>obtain⟨t,e⟩:=(show ∃t,u=Value.str x t from r);subst e;exact N7 P w x t
theorem Jz{P:A3}{w:A4}:∀{ks:Z AY} {us:Z A0},AX (ks.map kV) us->ItemsAre (bF P w) ks us
 |[],_,r=>by rw[kC]at r;cases r;exact .nil
 |k::ks,_,r=>by
  rw[zw]at r;cases r with
  |cons h t=>exact .cons (Fb h) (Jz t)
abbrev KT(H:Hp):Z (Z AY×V)->Z (Z AY×A1×A0)->Prop:=AI λp q=>p.1=q.1/\H q.2.1=U (.tup (p.1.map kV))/\As p.2 q.2.2
theorem KT.val{H:Hp}{AO:Z (Z AY×V)}{xs:Z (Z AY×A1×A0)}(r:KT H AO xs)(k:Z AY):Cw (zY AO k) ((atKey xs k).map (·.2)):=by
 induction r with
 |nil=>exact True.intro
 |@cons p q ps a h t c=>
  obtain⟨h1,_,h2⟩:=h;by_cases e:p.1=k
  ·have e':q.1=k:=h1.symm.trans e;have b:atKey (q::a) k=U q.2:=by simp[atKey,JA,e']
   rw[yr e,b];exact h2
  ·have e':¬ q.1=k:=λz=>e (h1.trans z);have b:atKey (q::a) k=atKey a k:=by simp[atKey,JA,e']
   rw[yt e,b];exact c
theorem KT.repl{H:Hp}{AO:Z (Z AY×V)}{xs:Z (Z AY×A1×A0)}(r:KT H AO xs)(k:Z AY){y:V}(d:As y u):
  KT H (AO.map λa=>if a.1=k then(a.1,y)else a) (xs.map (putAt k u)):=by
 induction r with
 |nil=>exact .nil
 |@cons p q ps f h t b=>
  rw[zw,zw];refine .cons ?_ b;obtain⟨h1,h2,c⟩:=h;unfold putAt;by_cases e:p.1=k
  ·rw[zh e,zh (h1.symm.trans e)];exact⟨h1,h2,d⟩
  ·rw[zC e,zC (λz=>e (h1.trans z))];exact⟨h1,h2,c⟩
theorem KT.put{H:Hp}{AO:Z (Z AY×V)}{xs:Z (Z AY×A1×A0)}(r:KT H AO xs)(k:Z AY){b:A1}{y:V}(hb:H b=U (.tup (k.map kV)))(a:As y u):
  KT H (BD AO k y) (storedH xs k b u):=by
 have e:(AO.any λc=>decide (c.1=k))=(atKey xs k).isSome:=by
  rw[Oe,(r.val k).zZ,Option.isSome_map]
 unfold BD storedH;rw[e];by_cases q:(atKey xs k).isSome=true
 ·rw[zh q,zh q];exact r.repl k a
 ·rw[zC q,zC q];exact Paired.snoc r ⟨rfl,hb,a⟩
theorem KT.keeps{H H':Hp}{AO:Z (Z AY×V)}{xs:Z (Z AY×A1×A0)}(r:KT H AO xs)(a:∀b ys,H b=U (.tup ys)->H' b=U (.tup ys)):KT H' AO xs:=
 Paired.acf r λ_ _ z=>⟨z.1,a _ _ z.2.1,z.2.2⟩
section
variable{H:Hp}
theorem N2{u:HO}(ok:uI P w H h)(e:Rd H a u):gn P w H h a u:=e.ok ok
theorem uN{AO:Z (AY×V)}(ok:uI P w H h)(e:Rd H a (.dK AO)):AO.length<=AA/\(a==sysModules)=false/\∃vs,KV AO vs/\h.DictOf (bF P w) a vs:=
 show gn P w H h a (.dK AO) from N2 ok e
theorem Y6{AO:Z (AY×V)}(ok:uI P w H h)(e:H a=U (.dK AO)):AO.length<=AA/\(a==sysModules)=false/\∃vs,KV AO vs/\h.DictOf (bF P w) a vs:=uN ok (.inl e)
theorem KQ{ks:Z AY}(ok:uI P w H h)(e:H a=U (.tup (ks.map kV))):(tupleKind (bF P w)).is h ks a:=by
 obtain⟨_,AQ,r,o,h1,h2,⟨n,b⟩,_⟩:=(show gn P w H h a (.tup (ks.map kV)) from ok a _ e);exact⟨o,AQ.toArray,n,h1,h2,b,by simpa using Jz r⟩
theorem U9{AO:Z (Z AY×V)}(ok:uI P w H h)(e:Rd H a (.dT AO)):AO.length<=AA/\(a==sysModules)=false ∧
  ∃xs,KT H AO xs/\h.DictOfH (tupleKind (bF P w)) a xs:=by
 obtain⟨z,y,xs,r,o,es,ep,h1,h2,f,g,d⟩:=(show gn P w H h a (.dT AO) from N2 ok e);refine⟨z,y,xs,r,o,es,ep,h1,h2,f,g,λx hx=>?_,d⟩;have all:∀{l:Z (Z AY×V)} {m:Z (Z AY×A1×A0)},KT H l m->∀x∈m,(tupleKind (bF P w)).is h x.1 x.2.1:=by
  intro l m q
  induction q with
  |nil=>intro x hx;exact nomatch hx
  |@cons p q ps i b t c=>
   intro x hx;rcases List.mem_cons.mp hx with e|hx
   ·subst e;exact KQ ok (by rw[<-b.1];exact b.2.1)
   ·exact c x hx
 exact all r x hx
theorem i7{AO:Z (Z AY×V)}(ok:uI P w H h)(e:H a=U (.dT AO)):AO.length<=AA/\(a==sysModules)=false ∧
  ∃xs,KT H AO xs/\h.DictOfH (tupleKind (bF P w)) a xs:=U9 ok (.inl e)
end
def Y7(H:Hp)(a:A1)(y:V)(r:O V):Prop:=
 (∃AO k,Rd H a (.dK AO)/\y=kV k/\r=zY AO k)\/∃AO k b,Rd H a (.dT AO)/\y=.ref b/\H b=U (.tup (k.map kV))/\r=zY AO k
def Y8(H:Hp)(a:A1)(y v:V)(H':Hp):Prop:=
 (∃AO k,H a=U (.dK AO)/\y=kV k/\AO.length<AA/\H'=B0 H a (.dK (BD AO k v))) ∨
 ∃AO k b,H a=U (.dT AO)/\y=.ref b/\H b=U (.tup (k.map kV))/\AO.length<AA/\H'=B0 H a (.dT (BD AO k v))
theorem Y8.k{H:Hp}{a:A1}{AO:Z (AY×V)}{k:AY}{v:V}(e:H a=U (.dK AO))(b:AO.length<AA):Y8 H a (kV k) v (B0 H a (.dK (BD AO k v))):=.inl ⟨AO,k,e,rfl,b,rfl⟩
section
variable{X:Cx}{σ:St}{H:Hp}{y v:V}{r:A0}{o:O V}
theorem AU.big(I:AU X AN σ H s):sysModules<s.heap.objs.size:=by
 have h:mainGlobals<s.heap.objs.size:=(I.mod.glob.keeps I.bk).lt;exact Nat.lt_trans (by decide) h
theorem WL{Q:B9}(x:A.units+1<cLine)(I:AU X AN σ H s)(g:Y7 H a y (U v))(n:As y u)(h:∀c s',AU X AN σ H s'->As v c->Q c s'):
  A7 (A8 X.prog X.w) A (getItem (.ref a) u) Q E s:=by
 rcases g with⟨AO,k,e,i,l⟩|⟨AO,k,b,e,i,eb,l⟩
 ·subst i;obtain⟨z,t,vs,d,j⟩:=uN I.hok e;obtain⟨c,f,m⟩:=Cw.some_of (v:=v) (o:=valueAt vs k) (by rw[l];exact d.val k);exact wpAny_getItem_of (Fb n) j.mapOf f (h c _ (I.tok _) m)
 ·subst i;cases(show u=Value.ref b from n);obtain⟨z,t,xs,d,j⟩:=U9 I.hok e;obtain⟨c,f,m⟩:=Cw.some_of (v:=v) (o:=(atKey xs k).map (·.2)) (by rw[l];exact d.val k);obtain⟨p,hp,q⟩:=Option.map_eq_some_iff.mp f;refine wpAny_getItem_heap (tupleKind_room_in1 x) (KQ I.hok eb) j hp ?_;rw[q];exact h c _ (I.tok _) m
theorem Sz{Q:B9}(m:A.units+1<cLine)(I:AU X AN σ H s)(g:Y7 H a y o)(j:As y u)(h:∀s',AU X AN σ H s'->Q (.bool (!o.isSome)) s'):
  A7 (A8 X.prog X.w) A (AG .NotIn u (.ref a)) Q E s:=by
 rcases g with⟨AO,k,e,f,l⟩|⟨AO,k,b,e,f,eb,l⟩
 ·subst f;obtain⟨z,d,vs,c,i⟩:=uN I.hok e;refine wpAny_notIn_of (Fb j) d i.mapOf ?_;rw[<-(c.val k).zZ,<-l];exact h _ (I.tok _)
 ·subst f;cases(show u=Value.ref b from j);obtain⟨z,d,xs,c,i⟩:=U9 I.hok e;refine wpAny_notIn_heap (tupleKind_room_in1 m) (KQ I.hok eb) d i ?_;have q:=(c.val k).zZ;rw[Option.isSome_map]at q;rw[<-q,<-l];exact h _ (I.tok _)
theorem Dw{h':A6}{t':Nat}{c:HO}(I:AU X AN σ H s)(d:F7 (H a))(hs:Heap.SameBut a s.heap h')(he:∃q,h'.get? a=U q)(new:gn X.prog X.w (B0 H a c) h' a c):
  AU X AN σ (B0 H a c) { s with heap:=h',toks:=t' }:=
 I.write (x:=a) (e:=a) d (.inl S) (λb q hb z=>(hs.2 b hb).trans z) he new
theorem R3{H':Hp}{h':A6}{AO:Z (AY×V)}{vs:Z (AY×A0)}(z:AO.length<=AA)(b:(a==sysModules)=false)(d:KV AO vs)(c:h'.DictOf (bF P w) a vs):
  gn P w H' h' a (.dK AO):=⟨z,b,vs,d,c⟩
theorem WM{H':Hp}(K:A.units+1<cLine)(I:AU X AN σ H s)(g:Y8 H a y v H')(C:As y u)(x:As v r)(h:∀s',AU X AN σ H' s'->Q () s'):
  A7 (A8 X.prog X.w) A (setItem (.ref a) u r) Q E s:=by
 rcases g with⟨AO,k,e,o,l,m⟩|⟨AO,k,b,e,o,eb,l,m⟩
 ·subst o m;obtain⟨z,n,vs,d,p⟩:=Y6 I.hok e;have j:vs.length<=AA:=by rw[<-d.length];exact z
  have t:(BD AO k v).length<=AA:=by have:=lY AO k v;omega
  refine wpAny_setItem_pairs (hsz:=j) (Fb C) p λh' f hs=>h _ ?_;have F:∃q,h'.get? a=U q:=let ⟨q,_,_,i,_⟩:=f;⟨q,i⟩;exact Dw I (by rw[e];exact True.intro) hs F (R3 t n (d.put k x) f)
 ·subst o m;cases(show u=Value.ref b from C);obtain⟨z,n,xs,d,p⟩:=i7 I.hok e;have j:xs.length<=AA:=by rw[<-Paired.length d];exact z
  have t:(BD AO k v).length<=AA:=by have:=lY AO k v;omega
  refine wpAny_setItem_heap (hsz:=j) (tupleKind_room_in1 K) (KQ I.hok eb) p λh' f hs=>h _ ?_;obtain⟨q,es,ep,i,h2,G,J,_,D⟩:=f;refine Dw I (by rw[e];exact True.intro) hs ⟨q,i⟩ ⟨t,n,_,(d.put k eb x).keeps λc ys B=>?_,q,es,ep,i,h2,G,J,D⟩;rw[aP (lX B e (λz=>nomatch z))];exact B
end
section
variable{X:Cx}{σ:St}{H:Hp}{AO:Z (AY×V)}{k:AY}
end
def HQ(i:Expr):Prop:=∀a iv,subscripted i false a iv=operate [a,iv] (getItem a iv)
theorem gI{value a:Expr}{T id:String}{Q:B9}(m:typeLookup (.type T) "__getitem__"=pure (U (.builtin id)))(hs:HQ a)(h:A7 (A8 prog w) A (eval value env) (λo g=>A7 (A8 prog w) A (eval a env) (λi b=>b.TypeIs o T/\A7 (A8 prog w) A (getItem o i) Q E b) E g) E s):
  A7 (A8 prog w) A (eval (.Subscript value a pos) env) Q E s:=by
 refine Subscript_ (ZZ h (λo g l=>ZZ l (λi b d=>?_) λ_ _ x=>x) λ_ _ x=>x);obtain⟨f,d⟩:=d;unfold subscriptTail;refine zb ?_;rw[getitemInPython_of_ne f.not_modules];refine zb (wpAny_specialOf f m ?_);have c:A7 (A8 prog w) A (subscripted a false o i) (λr e=>A7 (A8 prog w) A (letTemporaryGo value o r >>= λ_=>pure r) Q E e) E b:=by
  rw[hs o i];exact wpAny_operating (ZZ d (λr e j=>zb (wpAny_letTemporaryGo (ze j))) λ_ _ x=>x)
 first
  |exact ze (zb c)
  |exact zb (ze (zb c))
  |exact zb c
theorem Og{X:Cx}{σ:St}{H:Hp}{y:V}{o:O V}(I:AU X AN σ H s)(g:Y7 H a y o):s.TypeIs (.ref a) "dict":=by
 rcases g with⟨AO,k,e,_,_⟩|⟨AO,k,b,e,_,_,_⟩
 ·obtain⟨_,_,vs,_,c⟩:=uN I.hok e;exact c.typeIs
 ·obtain⟨_,_,xs,_,c⟩:=U9 I.hok e;exact c.typeIs
def Op(td ty:TE):TE:=λσ H Q=>td σ H λx H1=>ty σ H1 λy H2=>∃a v,x=.ref a/\Y7 H2 a y (U v)/\Q v H2
def SY(td ty tv:TE):TS:=λD σ H=>tv σ H λv H1=>td σ H1 λx H2=>ty σ H2 λy c=>∃a b,x=.ref a/\Y8 c a y v b/\D.nx σ b
section
variable{X:Cx}{o i value:Expr}{pos':Pos}{td ty tv:TE}
theorem R1(d:X.A.units+1<cLine)(b:PE X o td)(hi:PE X i ty)(hs:HQ i):PE X (.Subscript o i pos) (Op td ty):=by
 intro AN s σ H Q I h;refine gI PySem.F.slot_dict_getitem.lookup hs (gM (b AN s σ H _ I h) λu s1 ⟨x,H1,I1,rx,q1⟩=>gM (hi AN s1 σ H1 _ I1 q1) λiv s2 ⟨y,H2,I2,ry,a,v,ex,g,q2⟩=>?_);subst ex;obtain rfl:u=Value.ref a:=rx;exact⟨Og I2 g,WL d I2 g ry λj f c e=>⟨v,H2,c,e,q2⟩⟩
theorem iO(e:X.A.units+1<cLine)(c:PE X o td)(hi:PE X i ty)(b:PE X value tv)(hs:swapsWith value (U (.Subscript o i pos')) pos.line X.env=pure false):
  PS X (.Assign [.Subscript o i pos'] value pos) (SY td ty tv):=by
 intro AN s σ H D I h;refine wpAny_Assign_Subscript (gM (b AN s σ H _ I h) λr s1 ⟨v,H1,I1,rv,q1⟩=>gM (c AN s1 σ H1 _ I1 q1) λu s2 ⟨x,H2,I2,rx,q2⟩=>gM (hi AN s2 σ H2 _ I2 q2) λiv s3 ⟨y,H3,I3,ry,a,H4,ex,g,q3⟩=>?_) hs;subst ex;obtain rfl:u=Value.ref a:=rx;exact WM e I3 g ry rv λf d=>⟨σ,H4,d,q3⟩
end
theorem Fd{H:Hp}(h:A6)(hb:sysModules<h.objs.size):gn P w H (h.push { cls:=.type "dict",data:=.dict #[] }) h.objs.size (.dK []):=
 ⟨Q1 _,beq_eq_false_iff_ne.mpr (jI (Zl hb)),[],.nil,Heap.DictOf.new h⟩
def a4:TE:=λ_ H Q=>∀p,H p=Y->Q (.ref p) (B0 H p (.dK []))
section
variable{X:Cx}
theorem Y9:PE X (.Dict [] [] pos) a4:=λAN s σ H Q I h=>
 wpAny_Dict_empty ⟨.ref s.heap.objs.size,_,I.laid (a:=s.heap.objs.size) (o:=.dK []) (t':=s.toks) (λ_ _ q=>zd _ q) (zg _) (Fd s.heap I.big),rfl,h _ (I.hok.fresh (zg _))⟩
end
def R4:Z (TE×TE)->St->Hp->(Z (V×V)->Hp->Prop)->Prop
 |[],_,H,Q=>Q [] H
 |(tk,tv)::r,σ,H,Q=>tk σ H λx H1=>tv σ H1 λy H2=>R4 r σ H2 λps a=>Q ((x,y)::ps) a
abbrev VV:Z (V×V)->Z (A0×A0)->Prop:=AI λp q=>As p.1 q.1/\As p.2 q.2
def GG(X:Cx)(pos:Pos)(c:Z (O Expr))(a:Z Expr)(b:Z (TE×TE)):Prop:=
 ∀(AN:Z (A1×AE)) (s:A2) (σ:St) (H:Hp) (Q:Z (V×V)->Hp->Prop),AU X AN σ H s->R4 b σ H Q →
  A7 (A8 X.prog X.w) X.A (evalPairs (pairTrees c a X.env pos)) (λvs s'=>∃ps H',AU X AN σ H' s'/\VV ps vs/\Q ps H') X.xe s
theorem WB{X:Cx}:GG X pos [] [] []:=λAN s σ H Q I h=>pairTrees_nil_walk ⟨[],H,I,.nil,h⟩
theorem Za{X:Cx}{k v:Expr}{ks:Z (O Expr)}{vs:Z Expr}{tk tv:TE}{a:Z (TE×TE)}(d:PE X k tk)(b:PE X v tv)(c:GG X pos ks vs a):
  GG X pos (U k::ks) (v::vs) ((tk,tv)::a):=λAN s σ H Q I h=>
 pairTrees_cons_walk (gM (d AN s σ H _ I h) λu s1 ⟨x,H1,I1,rx,q1⟩=>gM (b AN s1 σ H1 _ I1 q1) λw2 s2 ⟨y,H2,I2,ry,q2⟩=>
  gM (c AN s2 σ H2 _ I2 q2) λws s3 ⟨ps,H3,I3,rel,q3⟩=>⟨(x,y)::ps,H3,I3,.cons ⟨rx,ry⟩ rel,q3⟩)
def z7(AO b:Z (AY×V)):Z (AY×V):=b.foldl (λc a=>BD c a.1 a.2) AO
theorem KV.merge:∀{a:Z (AY×V)} {rs:Z (AY×A0)} {AO:Z (AY×V)} {vs:Z (AY×A0)},KV a rs->KV AO vs->KV (z7 AO a) (merged vs rs):=by
 intro a rs AO vs r;unfold KV at r
 induction r generalizing AO vs with
 |nil=>intro q;exact q
 |@cons p q ps d h t c=>
  intro b;have e:KV (BD AO p.1 p.2) (stored vs q.1 q.2):=by
   have:=b.put p.1 h.2;rw[<-h.1];exact this
  exact c e
theorem wN:∀(a AO:Z (AY×V)),(z7 AO a).length<=AO.length+a.length
 |[],AO=>by show AO.length<=AO.length+0;omega
 |p::r,AO=>by
  have h1:=wN r (BD AO p.1 p.2);have h2:=lY AO p.1 p.2;show(z7 (BD AO p.1 p.2) r).length<=_;rw[qc];omega
theorem Fg{P:A3}{w:A4}:∀{AO:Z (AY×V)} {d:Z (A0×A0)},VV (AO.map λe=>(kV e.1,e.2)) d->∃rs,Carries (bF P w) d rs/\KV AO rs
 |[],_,r=>by rw[kC]at r;cases r;exact⟨[],True.intro,.nil⟩
 |p::AO,_,r=>by
  rw[zw]at r;cases r with
  |@cons a b as bs h t=>
   obtain⟨rs,c,q⟩:=Fg (P:=P) (w:=w) t;obtain⟨b1,b2⟩:=b;exact⟨(p.1,b2)::rs,⟨Fb h.1,rfl,c⟩,.cons ⟨rfl,h.2⟩ q⟩
def jp(b:Z (TE×TE)):TE:=λσ H Q=>∀p,H p=Y->R4 b σ (B0 H p (.dK [])) λps H2=>H2 p=U (.dK [])/\∃AO:Z (AY×V),ps=AO.map (λa=>(kV a.1,a.2))/\AO.length<=15/\Q (.ref p) (B0 H2 p (.dK (z7 [] AO)))
theorem XL{X:Cx}{b:Z (O Expr)}{d:Z Expr}{g:Z (TE×TE)}(h:GG X pos b d g)(y:b.all (·.isSome)=true)(v:b.length=d.length)(h0:b≠[])(t:b.length<=15):PE X (.Dict b d pos) (jp g):=by
 intro AN s σ H Q I q;have j:=I.hok.fresh (zg s.heap.objs.size);have m:=I.laid (a:=s.heap.objs.size) (o:=.dK []) (h':=s.heap.push { cls:=.type "dict",data:=.dict #[] }) (t':=s.toks) (λ_ _ q=>zd _ q) (zg _) (Fd s.heap I.big);refine wpAny_Dict_walk (knd:=bF X.prog X.w) y v h0 t (gM (h AN _ σ _ _ m (q _ j)) λws s2 ⟨ps,H2,I2,rel,e,AO,ep,lk,q2⟩=>?_);subst ep;obtain⟨l,c,rk⟩:=Fg (P:=X.prog) (w:=X.w) rel;obtain⟨z,p,A,x,u⟩:=Y6 I2.hok e;cases x;refine⟨l,c,u,λh' f hs=>⟨.ref s.heap.objs.size,_,?_,rfl,q2⟩⟩;have i:(z7 [] AO).length<=AA:=by
  have h1:=wN AO [];rw[List.length_nil]at h1;rw[sizeLine_eq];omega
 have n:∃q,h'.get? s.heap.objs.size=U q:=let ⟨q,_,_,hq,_⟩:=f;⟨q,hq⟩;exact Dw I2 (by rw[e];exact True.intro) hs n (R3 i p (rk.merge .nil) f)
structure M1 (X:Cx) (o:Expr) (m:Str) (apos:Pos) (e:Expr) (cpos:Pos):Prop where
 base:attributeBase o m X.env (eval o X.env)=eval o X.env
 few:((backTo cpos (starEach [e] X.env)).all (λx=>!x.1)&&(backToKw cpos (keywordEach [] X.env)).all (λx=>x.1.isSome)
  && decide (([e]:List Expr).length+([]:List Keyword).length+(if([]:List Keyword).isEmpty then 0 else 1)<30))=true
 line:(apos.endLine==cpos.line)=true
 trees:backTo cpos (starEach [e] X.env)=[(false,eval e X.env)]
structure M2 (X:Cx) (o:Expr) (m:Str) (apos:Pos) (e f:Expr) (cpos:Pos):Prop where
 base:attributeBase o m X.env (eval o X.env)=eval o X.env
 few:((backTo cpos (starEach [e,f] X.env)).all (λx=>!x.1)&&(backToKw cpos (keywordEach [] X.env)).all (λx=>x.1.isSome)
  && decide (([e,f]:List Expr).length+([]:List Keyword).length+(if([]:List Keyword).isEmpty then 0 else 1)<30))=true
 line:(apos.endLine==cpos.line)=true
 trees:backTo cpos (starEach [e,f] X.env)=[(false,eval e X.env),(false,eval f X.env)]
section
variable{X:Cx}{σ:St}{H:Hp}{y d:V}{r:A0}{o:O V}
end
section
variable{X:Cx}{o f:Expr}{td ty tx:TE}
end
section
variable{X:Cx}{σ:St}{H:Hp}{AO:Z (AY×V)}
end
section
variable{X:Cx}{σ:St}{H:Hp}{y:V}
end
end L2
namespace Att
open PySem PySem.W PySem.Calls PyProof.Rows
theorem Cz{P:Params}:∀(ns:Z Int) (vs:Z A0),WellAll P h vs (ns.map WData.int)->IntsAre vs ns:=by
 intro ns
 induction ns with
 |nil=>
  intro vs w;rw[kC]at w;cases w;exact .nil
 |cons n ns c=>
  intro vs w;rw[zw]at w;cases w with
  |cons a b=>
   cases a;exact .cons _ _ (c _ b)
theorem WQ{l:OpenLaw}(v:l.most=U n){P:Params}{args:Z WData}{f:Z A0}(e:l.row.toRowW.claim.pre args=true)(t:WellAll P h f args):
  ∃a vs ns,f=[Value.ref a]/\args=[WData.list (ns.map WData.int)]/\h.get? a=U { cls:=.type "list",data:=.seq vs.toArray }/\IntsAre vs ns/\ns.length<=n:=by
 have o:WShape.hasAll [] args [.list .int]=true:=(pre_splitW e).1;have g:l.pre.holds [] { args:=args }=true:=(pre_splitW e).2;obtain⟨d,r,rfl,h1,h2⟩:=hasAllW_cons o;obtain rfl:=hasAllW_nil h2;obtain⟨xs,rfl,s⟩:=hasW_list h1;obtain⟨ns,rfl⟩:=items_int s;have j:ns.length<=n:=by
  unfold OpenLaw.pre at g;have c:(WTm.not (.lt (.lit (.int (n:Int))) (.len (.arg 0)))).holds [] { args:=[.list (ns.map .int)] }=true:=by
   have c:=(holds_andW g).1;rw[v]at c;exact c
  have b:=condW_of c (w_not (w_lt w_lit (w_len_list (w_arg S))));rw[zi]at b;refine Nat.le_of_not_lt λq=>?_;have i:(n:Int)<((ns.length:Nat):Int):=by omega
  first
   |(rw[ZT i]at b;exact absurd b (by decide))
   |(simp at b;omega)
 cases t with
 |cons m u=>
  cases u;cases m with
  |list p w=>exact⟨_,_,ns,rfl,rfl,p,Cz ns _ w,j⟩
theorem WR(l:OpenLaw)(args:Z WData):l.row.toRowW.claim.post args (.bool true) args=true:=
 postW_of (r:=l.row.toRowW) (X:=(true==true))
  (show WShape.has [] (.bool true) .bool=true by first|rfl|decide|simp[WShape.has,WShape.arms,WShape.armsAll])
  (show(WTm.eq .res (.lit (.bool true))).value [] { args:=args,res:=U (.bool true),after:=args }=U (.bool (true==true)) from w_eq_bool (w_res S) w_lit) rfl
theorem Oh{l:OpenLaw}{q:A3}{loose:AZ}{d:DefRec}(v:l.most=U n)(B:d.params.defaults=[])(call:∀(w:A4) (g b:A2) (mg h:AJ->O A0) (fa:A1) (o:AE) (c cd e:A0) (a:A1) (vs:Z A0) (ns:Z Int),
   Ground q loose [] XP w g mg h b.heap->YP w b.heap →
   b.heap.get? fa=U o->o.data=.func (docDef d.name d.params d.body d.scope c cd e)->b.heap.CodeRec cd d.name->mg d.name=U (.ref fa) →
   b.heap.get? a=U { cls:=.type "list",data:=.seq vs.toArray }->IntsAre vs ns->ns.length<=n->b.gens=#[] →
   AF (A8 l.prog w) callerA (.call (.ref fa) ⟨[.ref a],[]⟩) (λr s'=>r=.ok (.ret (.bool true))/\OldK b.heap s'.heap/\s'.os=b.os/\AllBare s'.gens) b):
  WalkO q loose XP YP l.row.toRowW d [] (λf vs=>PySem.call f vs):=by
 intro w g b mg h G Y fa o c cd e C kV D E p i j y J K as m L M u I;obtain rfl:C=.none:=Dflts.none i B;obtain rfl:kV=.none:=Dflts.noKw i;obtain⟨a,vs,ns,rfl,rfl,x,F,A⟩:=WQ v m u;refine enter_call (k6 (call w g b mg h fa o c cd e a vs ns G Y D (fd_plain E) p j x F A y) λr s' s=>?_);obtain⟨rfl,h2,t,H⟩:=s;exact⟨.inl ⟨.bool true,.bool true,[],rfl,λ_=>S,.bool true,WR l _,λ_=>⟨List.Pairwise.nil,λ_ z=>(nomatch z)⟩⟩,h2,t,H⟩
section
variable{K:Frag}
end
end Att
namespace L2
theorem vV:∀{vs:Z A0} {ns:Z Int},IntsAre vs ns->AX (ns.map V.int) vs
 |_,_,.nil=>.nil
 |_,_,.cons n t h=>.cons ⟨t,rfl⟩ (vV h)
def Ch(H:Hp):Prop:=∀b,H b=Y\/∃o xs,H b=U (.HS o (.lst xs))
theorem Zb{j:AJ->O A0}{CX:Wy}{k:Nat}{fa:A1}{sp:Sp}{c:A2}{vs:Z A0}{ns:Z Int}(p:K.In c.heap)(E:c.heap.Ns mainGlobals mg)(hb:c.heap.Ns builtinsNs j)(a3:∀x:AJ,x ≠ "__name__" → j x=AH x)(J:c.heap.NoLimit)(hg:c.gens=#[])(g:c.heap.get? a=U { cls:=.type "list",data:=.seq vs.toArray })(hi:IntsAre vs ns)(I:ns.length<=AA)(X:gW k callerA)(F:∀base:A6,K.In base->base.Ns mainGlobals mg->ju P w K mg base CX k fa fd [x] sp)(b0:∀(s:A2) (u:A0),BindsTo s fd ⟨[u],[]⟩ [(x,u)])(a5:∀H:Hp,Ch H->qO K H a (ns.map V.int)->sp [.ref a] H (λv _=>v=.bl true) λ_ _ _=>False)(a0:∀H e s',CX [] H c (λ_ _ _=>False) e s'->False):
  AF (A8 P w) callerA (.call (.ref fa) ⟨[.ref a],[]⟩) (λr s'=>r=.ok (.ret (.bool true))/\OldK c.heap s'.heap/\s'.os=c.os/\AllBare s'.gens) c:=by
 have y:=vV hi;have a1:=hi.length;have D:∀H:Hp,Ch H->qO K H a (ns.map V.int)->uI P w H c.heap->(∀b,H b≠Y->b=a)->(H a≠Y->K.lookup a=Y) →
   AF (A8 P w) callerA (.call (.ref fa) ⟨[.ref a],[]⟩) (λr s'=>r=.ok (.ret (.bool true))/\OldK c.heap s'.heap/\s'.os=c.os/\AllBare s'.gens) c:=by
  intro H B hS C t hK;have A:∀{b:A1} {o:AE},c.heap.get? b=U o->H b=Y->(Km c.heap H).get? b=U o:=λe n=>YD e n;have a2:∀{b:A1} {o:AE} {es:Array DictEntry} {ep:Nat},c.heap.get? b=U o->o.data=.dict es ep->H b=Y:=λ{b o es ep} e d=>by
   cases q:H b with
   |none=>rfl
   |some u=>
    have e':b=a:=t b (by rw[q];simp);subst e';rw[g]at e;cases e;have d':Data.seq vs.toArray _=Data.dict es ep:=d;cases d'
  have i:∀{b:A1} {m:AJ->O A0},c.heap.Ns b m->(Km c.heap H).Ns b m:=λ{b m} ⟨o,es,ep,e,d,r⟩=>⟨o,es,ep,A e (a2 e d),d,r⟩;have G:K.In (Km c.heap H):=λb o e=>A (p b o e) (by
   cases q:H b with
   |none=>rfl
   |some u=>
    have e':b=a:=t b (by rw[q];simp);subst e';rw[hK (by rw[q];simp)]at e;cases e)
  have N:Mod K mg (Km c.heap H):=⟨G,i E,⟨j,i hb,a3⟩,let ⟨mc,h1,h2⟩:=J;⟨mc,i h1,h2⟩⟩;have e0:Ez P w K mg (Km c.heap H) callerA [] c H:=⟨rfl,N,λb o e=>YI e,Nat.le_of_eq (Wq _ _),trivial,λb hb=>absurd (show b∈([]:Z A1) from hb) (by simp),C,.of_eq hg⟩;refine k6 ((F _ G (i E)).run callerA [] c H ⟨[.ref a],[]⟩ [.ref a] [.ref a] _ _ X e0 (b0 c (.ref a)) (.cons S .nil) (a5 H B hS)) λr s' h=>?_;cases r with
  |error e=>exact(a0 H e s' h).elim
  |ok fl=>
   cases fl with
   |next=>exact False.elim h
   |brk=>exact False.elim h
   |cont=>exact False.elim h
   |ret u=>
    obtain⟨v,H',os,M,un,W,Q,q⟩:=h;have L:v=.bl true:=q;subst L;obtain rfl:u=Value.bool true:=Q;refine⟨rfl,OldK.of_keep λb o e=>?_,os,M⟩;cases q:H b with
    |none=>exact un.keep b o e q (by intro z;exact absurd (show b∈([]:Z A1) from z) (by simp)) (by simp)
    |some u=>
     rcases B b with z|⟨ob,xs,z⟩
     ·rw[q]at z;cases z
     ·have z2:=un.wJ b ob _ z;obtain⟨e1,_⟩:=C b _ z;obtain⟨e2,_⟩:=W b _ z2;rw[e]at e1;cases e1;exact e2
 cases l:K.lookup a with
 |some o=>
  have e:=p a o l;rw[g]at e;cases e;refine D (λ_=>Y) (λ_=>.inl S) (.inr ⟨_,vs.toArray,_,l,rfl,rfl,rfl,by rw[zI,a1];exact I,by simpa using y⟩) (λb u z=>by have f:(Y:O HO)=U u:=z;cases f) (λb z=>absurd S z) λz=>absurd S z
 |none=>
  refine D (λb=>if b=a then U (.HS { cls:=.type "list",data:=.seq vs.toArray } (.lst (ns.map V.int)))else Y) (λb=>?_) (.inl (.inr ⟨{ cls:=.type "list",data:=.seq vs.toArray },zh rfl⟩)) (λb u z=>?_) (λb z=>?_) λ_=>l
  ·by_cases hb:b=a
   ·exact .inr ⟨_,_,zh hb⟩
   ·exact .inl (zC hb)
  ·by_cases hb:b=a
   ·have f:=(zh hb).symm.trans z;cases f;subst hb;exact⟨g,by rw[zi];exact I,vs,_,y,g⟩
   ·have f:=(zC hb).symm.trans z;cases f
  ·by_cases hb:b=a
   ·exact hb
   ·exact absurd (zC hb) z
end L2
namespace L2
theorem Ta{l:PySem.W.OpenLaw}{k:Nat}{q:A3}{loose:AZ}{d:DefRec}{K:Params->B4}{CX:A4->Wy}{sp:A4->Sp}(m:l.most=U n)(E:n<=AA)(D:d.params.defaults=[])(A:gW k callerA)(p:∀(w:A4) (h:A6),YP w h->(K w.params).In h)(F:∀(w:A4) (mg:AJ->O A0) (fa:A1) (h:A6),(K w.params).In h->h.Ns mainGlobals mg->mg d.name=U (.ref fa) →
   ∃fd:FuncData,(∀(s:A2) (u:A0),BindsTo s fd ⟨[u],[]⟩ [(x,u)]) ∧
    ∀base:A6,(K w.params).In base->base.Ns mainGlobals mg->ju l.prog w (K w.params) mg base (CX w) k fa fd [x] (sp w))(J:∀(w:A4) (H:Hp) (a:A1) (ns:Z Int),ns.length<=n->Ch H->qO (K w.params) H a (ns.map V.int)->sp w [.ref a] H (λv _=>v=.bl true) λ_ _ _=>False)(C:∀(w:A4) (H:Hp) (s:A2) (e:A0) (s':A2),CX w [] H s (λ_ _ _=>False) e s'->False):
  PySem.W.WalkO q loose XP YP l.row.toRowW d [] (λf vs=>PySem.call f vs):=by
 refine Att.Oh m D λw X M mg mb fa o P cd Q a vs ns G Y ho hd N j t L i B=>?_;have c:=p w _ Y;obtain⟨fd,hb,z⟩:=F w mg fa _ c G.T.g j;exact Zb c G.T.g G.T.b G.T.builtins G.T.nolimit B t L (ZH i E) A z hb (λH y I=>J w H a ns i y I) λH e s'=>C w H M e s'
theorem Zc{l:PySem.W.OpenLaw}{k:Nat}{q:A3}{loose:AZ}{d:DefRec}{K:Params->B4}{CX:Wy}{sp:B4->Sp}(p:l.most=U n)(i:n<=AA)(g:d.params.defaults=[])(o:gW k callerA)(b:∀(w:A4) (h:A6),YP w h->(K w.params).In h)(F:∀(w:A4) (mg:AJ->O A0) (fa:A1) (h:A6),(K w.params).In h->h.Ns mainGlobals mg->mg d.name=U (.ref fa) →
   ∃fd:FuncData,(∀(s:A2) (u:A0),BindsTo s fd ⟨[u],[]⟩ [(x,u)]) ∧
    ∀base:A6,(K w.params).In base->base.Ns mainGlobals mg->ju l.prog w (K w.params) mg base CX k fa fd [x] (sp (K w.params)))(j:∀(K:B4) (H:Hp) (a:A1) (ns:Z Int),ns.length<=n->Ch H->qO K H a (ns.map V.int)->sp K [.ref a] H (λv _=>v=.bl true) λ_ _ _=>False)(c:∀(H:Hp) (s:A2) (e:A0) (s':A2),CX [] H s (λ_ _ _=>False) e s'->False):
  PySem.W.WalkO q loose XP YP l.row.toRowW d [] (λf vs=>PySem.call f vs):=
 Ta (K:=K) (CX:=λ_=>CX) (sp:=λw=>sp (K w.params)) p i g o b F (λw H a ns h1 h2 m=>j (K w.params) H a ns h1 h2 m) λ_ H s e s'=>c H s e s'
end L2
namespace L2
def nH(s:AB):Arguments:=match s with
 |.FunctionDef _ a _ _ _ _ _ _ _ _=>a
 |_=>{ posonlyargs:=[],args:=[],vararg:=Y,kwonlyargs:=[],kw_defaults:=[],kwarg:=Y,defaults:=[] }
def d8(s:AB):Z AB:=match s with
 |.FunctionDef _ _ b _ _ _ _ _ _ _=>b
 |_=>[]
def aG(s:AB):Scope:=match s with
 |.FunctionDef _ _ _ _ _ _ a _ _ _=>a
 |_=>{ kind:=.function,names:=[],isGenerator:=false,isCoroutine:=false }
abbrev xu:Wy:=λ_ _ _ _ _ _=>False
abbrev E0:XK:=λ_ _ _=>False
theorem OA{X:Cx}:C0 xu X E0:=λ_ _ _ _ _ _ _ h=>h.elim
structure Bj (K:B4) (x qual:Str) (st:Stmt) (f:Addr) (fd:FuncData):Prop where
 ex:∃(oc:Value) (od:Option Addr) (kV doc pm:Value) (an:Option Addr) (cdv ct:Value) (osl:Array (Option Value)),
  fd=fnOf x qual (nH st) (d8 st) (aG st) .none kV doc pm an cdv ct/\K.lookup f=some ⟨oc,od,.func fd,osl⟩/\codeIn K cdv qual=true
 kp:keepIn K (.ref f)=true
theorem Bj.ok{f:A1}{k:Nat}{sp:Sp}(F:Bj K x qual st f fd)(S:bB N ps (aG st))(len:∀vs H Q E,sp vs H Q E->vs.length=ps.length)(b:∀(a:A0) (A:A5) (outer:Z Env) (s:A2) (H:Hp) (vs:Z V) (Q:VK) (E:XK),gW k (A.deeper (AK qual (aG st) s.heap.objs.size f a))->sp vs H Q E →
   ∃t,Cy (rK xu P w K mg base N qual (aG st) f a A outer s H E).Yt (d8 st) t/\t { nx:=λ_ H'=>Q .non H',rt:=Q } (start N vs) H):ju P w K mg base xu (k+1) f fd ps sp:=by
 obtain⟨m,i,kV,j,l,n,a,ct,osl,rfl,d,c⟩:=F.ex;refine MM d c S len λA outer s H vs Q E g e=>?_;obtain⟨t,h,q⟩:=b a A outer s H vs Q E g e;exact⟨t,h.Yt,q⟩
theorem Bj.binds{f:A1}(F:Bj K x qual st f fd)(h:∀(kV a c:A0) (d:O A1) (b ct:A0) (us:Z A0),us.length=ps.length->bindArgs (fnOf x qual (nH st) (d8 st) (aG st) .none kV a c d b ct) ⟨us,[]⟩=pure (ps.zip us)):BA K fd ps []:=by
 obtain⟨j,e,kV,a,c,d,b,ct,osl,rfl,i,g⟩:=F.ex;exact .all (h kV a c d b ct)
theorem KR{f:A1}{g:A0}{od e:O A1}{kV b d a ct:A0}(l:K.lookup f=U ⟨g,od,.func (fnOf x qual (nH st) (d8 st) (aG st) .none kV b d e a ct),osl⟩)(c:codeIn K a qual=true)(k:keepIn K (.ref f)=true):Bj K x qual st f (fnOf x qual (nH st) (d8 st) (aG st) .none kV b d e a ct):=⟨⟨g,od,kV,b,d,e,a,ct,osl,rfl,l,c⟩,k⟩
section
variable{X:Cx}
theorem pv(i:Nat)(d:X.N[i]?=U x:=by rfl)(a:U3 X.env.scope x:=by first|exact JS rfl|exact QY (JS S)|exact QY (QY S))(b:(x==("__debug__":AJ))=false:=by decide)(c:(x==("__classdict__":AJ))=false:=by decide):PE X (.Name x pos) (YG i):=rH d a b c
end
def AV(H H':Hp):Prop:=∀b o,H b=U o->H' b=U o
theorem AV.refl(H:Hp):AV H H:=λ_ _ h=>h
theorem AV.trans{H H1 H2:Hp}(a:AV H H1)(b:AV H1 H2):AV H H2:=λc o h=>b c o (a c o h)
theorem AV.free{H H':Hp}(e:AV H H')(h:H' l=Option.none):H l=Option.none:=by
 cases q:H l with
 |none=>rfl
 |some o=>
  rw[e l o q]at h;cases h
theorem AV.seq{H H':Hp}{xs:Z V}(e:AV H H')(h:qO K H a xs):qO K H' a xs:=by
 rcases h with (h|⟨o,h⟩)|h
 ·exact .inl (.inl (e _ _ h))
 ·exact .inl (.inr ⟨o,e _ _ h⟩)
 ·exact .inr h
end L2
variable{xs:Z L2.V}{H:L2.Hp}{X:L2.Cx}{σ:L2.St}{v:L2.V}{ta te:L2.TE}{J:L2.It}{vs:Z L2.V}{sp:L2.Sp}{ks:Z L2.AY}{zs:Z (Z L2.AY×A1)}{H0 Hs:L2.Hp}{cL:Z (Z L2.AY)}
namespace P1
open L2
inductive Dt where
 |non|bl (b:Bool)|int (i:Int)|str (x:Str)|tup (xs:List Dt)|lst (xs:List Dt)|emp
inductive Bx where
 |z (d:Dt)|l (ds:List Dt)|o (ds:List Dt)|n (AO:List (AY×Dt))|m (AO:List (AY×Dt)) (w:Option Addr)
abbrev Ev:=Z (O Bx)
def FF(K:B4)(H:Hp)(a:A1)(xs:Z V):Prop:=
 (∃o,H a=U (.HS o (.lst xs))) ∨
  ∃(o:AE) (AQ:Array A0) (n:Nat),K.lookup a=U o/\o.cls=.type "list" ∧ o.dict=Y/\o.data=.seq AQ n/\AQ.size<=AA/\AX xs AQ.toList
theorem FF.sq(h:FF K H a xs):qO K H a xs:=by
 rcases h with h|h
 ·exact .inl (.inr h)
 ·exact .inr h
mutual
def AW(K:B4)(H:Hp):Dt->V->Prop
 |.non,v=>v=.non
 |.bl b,v=>v=.bl b
 |.int i,v=>v=.int i
 |.str x,v=>v=.str x/\x.length<=AA
 |.tup ds,v=>∃a vs,v=.ref a/\yh K H a vs/\aK K H ds vs
 |.lst ds,v=>∃a vs,v=.ref a/\FF K H a vs/\aK K H ds vs
 |.emp,v=>∃a o,v=.ref a/\H a=U (.HS o (.dK []))
def aK(K:B4)(H:Hp):Z Dt->Z V->Prop
 |[],vs=>vs=[]
 |d::ds,vs=>∃v r,vs=v::r/\AW K H d v/\aK K H ds r
end
structure Kp (H H':Hp):Prop where
 t:∀a xs,H a=some (.tup xs)->H' a=some (.tup xs)
 f:∀a o u,H a=some (.HS o u)->H' a=some (.HS o u)
theorem Kp.of{H':Hp}(s:AV H H'):Kp H H':=⟨λa _ h=>s a _ h,λa _ _ h=>s a _ h⟩
theorem Kp.sqT{H':Hp}(k:Kp H H')(h:yh K H a xs):yh K H' a xs:=by
 rcases h with (h|⟨o,h⟩)|h
 ·exact .inl (.inl (k.t _ _ h))
 ·exact .inl (.inr ⟨o,k.f _ _ _ h⟩)
 ·exact .inr h
theorem Kp.fzL{H':Hp}(k:Kp H H')(h:FF K H a xs):FF K H' a xs:=by
 rcases h with⟨o,h⟩|h
 ·exact .inl ⟨o,k.f _ _ _ h⟩
 ·exact .inr h
theorem Kp.lst{o:HO}(h:H a=U (.lst xs)):Kp H (B0 H a o):=by
 refine⟨λb ys e=>?_,λb c u e=>?_⟩
 ·rw[aP (lX e h (by intro z;cases z))];exact e
 ·rw[aP (lX e h (by intro z;cases z))];exact e
theorem Kp.dk{xs:Z (AY×V)}{o:HO}(h:H a=U (.dK xs)):Kp H (B0 H a o):=by
 refine⟨λb ys e=>?_,λb c u e=>?_⟩
 ·rw[aP (lX e h (by intro z;cases z))];exact e
 ·rw[aP (lX e h (by intro z;cases z))];exact e
mutual
theorem AW.kp{K:B4}{H H':Hp}(k:Kp H H'):∀{d:Dt} {v:V},AW K H d v->AW K H' d v
 |.non,_,h=>by simpa only[AW]using h
 |.bl _,_,h=>by simpa only[AW]using h
 |.int _,_,h=>by simpa only[AW]using h
 |.str _,_,h=>by simpa only[AW]using h
 |.tup ds,_,h=>by
  simp only[AW]at h ⊢;obtain⟨a,vs,e,q,r⟩:=h;exact⟨a,vs,e,k.sqT q,aK.kp k r⟩
 |.lst ds,_,h=>by
  simp only[AW]at h ⊢;obtain⟨a,vs,e,q,r⟩:=h;exact⟨a,vs,e,k.fzL q,aK.kp k r⟩
 |.emp,_,h=>by
  simp only[AW]at h ⊢;obtain⟨a,o,e,q⟩:=h;exact⟨a,o,e,k.f _ _ _ q⟩
theorem aK.kp{K:B4}{H H':Hp}(k:Kp H H'):∀{ds:Z Dt} {vs:Z V},aK K H ds vs->aK K H' ds vs
 |[],_,h=>by simpa only[aK]using h
 |d::ds,_,h=>by
  simp only[aK]at h ⊢;obtain⟨v,r,e,q,t⟩:=h;exact⟨v,r,e,AW.kp k q,aK.kp k t⟩
end
theorem aK.length{K:B4}{H:Hp}:∀{ds:Z Dt} {vs:Z V},aK K H ds vs->vs.length=ds.length
 |[],_,h=>by simp only[aK]at h;subst h;rfl
 |d::ds,_,h=>by
  simp only[aK]at h;obtain⟨v,r,rfl,_,t⟩:=h;simp[aK.length t]
theorem aK.nil:aK K H [] []:=by simp only[aK]
theorem aK.cons{K:B4}{H:Hp}{d:Dt}{v:V}{ds:Z Dt}{vs:Z V}(h:AW K H d v)(t:aK K H ds vs):aK K H (d::ds) (v::vs):=by
 simp only[aK];exact⟨v,vs,rfl,h,t⟩
theorem aK.append{K:B4}{H:Hp}:∀{ds es:Z Dt} {vs us:Z V},aK K H ds vs->aK K H es us->aK K H (ds++es) (vs++us)
 |[],_,_,_,h,t=>by simp only[aK]at h;subst h;exact t
 |d::ds,_,_,_,h,t=>by
  simp only[aK]at h;obtain⟨v,r,rfl,q,h⟩:=h;exact aK.cons q (aK.append h t)
theorem aK.drop{K:B4}{H:Hp}:∀(n:Nat) {ds:Z Dt} {vs:Z V},aK K H ds vs->aK K H (ds.drop n) (vs.drop n)
 |0,_,_,h=>h
 |n+1,[],_,h=>by simp only[aK]at h;subst h;exact aK.nil
 |n+1,d::ds,_,h=>by
  simp only[aK]at h;obtain⟨v,r,rfl,q,h⟩:=h;exact aK.drop n h
theorem aK.take{K:B4}{H:Hp}:∀(n:Nat) {ds:Z Dt} {vs:Z V},aK K H ds vs->aK K H (ds.take n) (vs.take n)
 |0,_,_,_=>aK.nil
 |n+1,[],_,h=>by simp only[aK]at h;subst h;exact aK.nil
 |n+1,d::ds,_,h=>by
  simp only[aK]at h;obtain⟨v,r,rfl,q,h⟩:=h;exact aK.cons q (aK.take n h)
theorem aK.get{K:B4}{H:Hp}:∀{ds:Z Dt} {vs:Z V} {i:Nat} {d:Dt},aK K H ds vs->ds[i]?=U d->∃v,vs[i]?=U v/\AW K H d v
 |[],_,_,_,_,e=>by simp at e
 |d::ds,_,0,_,h,e=>by
  simp only[aK]at h;obtain⟨v,r,rfl,q,h⟩:=h;simp at e;subst e;exact⟨v,rfl,q⟩
 |d::ds,_,i+1,_,h,e=>by
  simp only[aK]at h;obtain⟨v,r,rfl,q,h⟩:=h;obtain⟨u,e1,e2⟩:=aK.get h (i:=i) (by simpa using e);exact⟨u,by simpa using e1,e2⟩
def EC:AY->Prop
 |.inl _=>True
 |.inr x=>x.length<=AA
def fL(K:B4)(H:Hp)(AO:Z (AY×Dt))(ks:Z (AY×V)):Prop:=ks.map (·.1)=AO.map (·.1)/\aK K H (AO.map (·.2)) (ks.map (·.2))/\∀p∈AO,EC p.1
theorem fL.kp{K:B4}{H H':Hp}{AO:Z (AY×Dt)}{ks:Z (AY×V)}(h:fL K H AO ks)(k:Kp H H'):fL K H' AO ks:=⟨h.1,h.2.1.kp k,h.2.2⟩
def bh(K:B4)(H:Hp):Bx->V->Prop
 |.z d,v=>AW K H d v
 |.l ds,v=>∃a vs,v=.ref a/\Rd H a (.lst vs)/\aK K H ds vs
 |.o ds,v=>∃a vs,v=.ref a/\H a=U (.lst vs)/\aK K H ds vs
 |.n AO,v=>∃a ks,v=.ref a/\Rd H a (.dK ks)/\fL K H AO ks
 |.m AO w,v=>∃a ks,v=.ref a/\H a=U (.dK ks)/\fL K H AO ks/\∀b,w=U b->b=a
theorem bh.same{H':Hp}(s:AV H H'){b:Bx}(h:bh K H b v):bh K H' b v:=by
 cases b with
 |z d=>exact AW.kp (.of s) h
 |l ds=>
  obtain⟨a,vs,e,q,r⟩:=h;refine⟨a,vs,e,?_,r.kp (.of s)⟩;rcases q with q|⟨o,q⟩
  ·exact .inl (s _ _ q)
  ·exact .inr ⟨o,s _ _ q⟩
 |o ds=>
  obtain⟨a,vs,e,q,r⟩:=h;exact⟨a,vs,e,s _ _ q,r.kp (.of s)⟩
 |n AO=>
  obtain⟨a,vs,e,q,r⟩:=h;refine⟨a,vs,e,?_,r.kp (.of s)⟩;rcases q with q|⟨o,q⟩
  ·exact .inl (s _ _ q)
  ·exact .inr ⟨o,s _ _ q⟩
 |m AO _=>
  obtain⟨a,vs,e,q,r⟩:=h;exact⟨a,vs,e,s _ _ q,r.1.kp (.of s),r.2⟩
def oV:Bx->O (Z Dt)
 |.z (.lst ds)=>U ds
 |.l ds=>U ds
 |.o ds=>U ds
 |_=>Y
theorem bh.HW{b:Bx}{ds:Z Dt}(h:bh K H b v)(e:oV b=U ds):∃a vs,v=.ref a/\qO K H a vs/\aK K H ds vs:=by
 cases b with
 |z d=>
  cases d<;>first|(cases e;done)|skip;cases e;simp only[bh,AW]at h;obtain⟨a,vs,e,q,r⟩:=h;exact⟨a,vs,e,q.sq,r⟩
 |l c=>
  cases e;obtain⟨a,vs,e,q,r⟩:=h;exact⟨a,vs,e,.inl q,r⟩
 |o c=>
  cases e;obtain⟨a,vs,e,q,r⟩:=h;exact⟨a,vs,e,.inl (.inl q),r⟩
 |n _=>cases e
 |m _ _=>cases e
abbrev pJ(K:B4)(H:Hp):Z Bx->Z V->Prop:=AI (bh K H)
def Nw(H:Hp):Bx->V->Prop
 |.o _,v=>∀a,v=.ref a->H a=Y
 |.m _ _,v=>∀a,v=.ref a->H a=Y
 |_,_=>True
theorem Nw.old{H1:Hp}(s:AV H H1){b:Bx}(h:Nw H1 b v):Nw H b v:=by
 cases b with
 |o ds=>exact λa e=>s.free (h a e)
 |m ds _=>exact λa e=>s.free (h a e)
 |_=>trivial
def loose:Bx->Bool
 |.z _=>false
 |_=>true
def uO:Bx->Bool
 |.o _=>true
 |.m _ _=>true
 |_=>false
structure bM (K:B4) (H0 H:Hp) (σ:L2.St) (ρ:Ev):Prop where
 len:σ.length=ρ.length
 val:∀(i:Nat) b,ρ[i]?=some (some b)->∃v,σ[i]?=some (some v)/\bh K H b v
 own:∀(i j:Nat) c a b,ρ[i]?=some (some c)->uO c=true->σ[i]?=some (some (.ref a))->ρ[j]?=some (some b)->loose b=true->σ[j]?=some (some (.ref a))->i=j
 base:AV H0 H
 new:∀(i:Nat) c a,ρ[i]?=some (some c)->uO c=true->σ[i]?=some (some (.ref a))->H0 a=none
theorem bM.grow{H':Hp}{ρ:Ev}(r:bM K H0 H σ ρ)(s:AV H H'):bM K H0 H' σ ρ:=
 ⟨r.len,λi b e=>let ⟨v,e1,h⟩:=r.val i b e;⟨v,e1,h.same s⟩,r.own,r.base.trans s,r.new⟩
def tF(K:B4)(f:Ev->O Bx):TE:=λσ H Q=>∃H0 ρ b,bM K H0 H σ ρ/\f ρ=U b/\∀v H',AV H H'->Nw H b v->bh K H' b v->Q v H'
def ND(K:B4)(f:Ev->O (Z Bx)):TA:=λσ H Q=>∃H0 ρ bs,bM K H0 H σ ρ/\f ρ=U bs/\∀vs H',AV H H'->pJ K H' bs vs->Q vs H'
def D3(K:B4)(f:Ev->O Bool):TT:=λσ H Q=>∃H0 ρ b,bM K H0 H σ ρ/\f ρ=U b/\∀H',AV H H'->Q b H'
def PV(X:Cx)(e:Expr)(f:Ev->O Bx):Prop:=PE X e (tF X.K f)
structure QV (X:Cx) (e:Expr) (f:Ev->Option Bx):Prop where
 run:PV X e f
def ER(X:Cx)(es:Z Expr)(f:Ev->O (Z Bx)):Prop:=PA X es (ND X.K f)
structure Vb (X:Cx) (es:List Expr) (f:Ev->Option (List Bx)):Prop where
 run:ER X es f
def PB(X:Cx)(e:Expr)(f:Ev->O Bool):Prop:=PT X e (D3 X.K f)
structure QB (X:Cx) (e:Expr) (f:Ev->Option Bool):Prop where
 run:PB X e f
theorem Ii{t t':TE}(h:PE X e t)(m:∀ σ H Q,t' σ H Q->t σ H Q):PE X e t':=λAN s σ H Q I q=>h AN s σ H Q I (m σ H Q q)
theorem L4{e:Z Expr}{t t':TA}(h:PA X e t)(m:∀ σ H Q,t' σ H Q->t σ H Q):PA X e t':=λpos AN s σ H Q I q=>h pos AN s σ H Q I (m σ H Q q)
theorem IE{t t':TT}(h:PT X e t)(m:∀ σ H Q,t' σ H Q->t σ H Q):PT X e t':=λAN s σ H Q I q=>h AN s σ H Q I (m σ H Q q)
theorem ME{t t':TT}(h:PW X e t)(m:∀ σ H Q,t' σ H Q->t σ H Q):PW X e t':=λa AN s σ H Q I q=>h a AN s σ H Q I (m σ H Q q)
theorem Oi{e:AB}{t t':TS}(h:PS X e t)(m:∀D σ H,t' D σ H->t D σ H):PS X e t':=λAN s σ H D I q=>h AN s σ H D I (m D σ H q)
theorem Hm{e:Z AB}{t t':TS}(h:Cy X e t)(m:∀D σ H,t' D σ H->t D σ H):Cy X e t':=λAN s σ H D I q=>h AN s σ H D I (m D σ H q)
def rF(K:B4)(g:Bx->Bx->O Bx):R2:=λx y H Q=>∃a b c,bh K H a x/\bh K H b y/\g a b=U c/\∀w H',AV H H'->Nw H c w->bh K H' c w->Q w H'
def N0(K:B4)(g:Bx->O Bx):V->Hp->VK->Prop:=λx H Q=>∃a c,bh K H a x/\g a=U c/\∀w H',AV H H'->Nw H c w->bh K H' c w->Q w H'
def Mm(K:B4)(g:Z Bx->O Bx):Z V->Hp->VK->Prop:=λxs H Q=>∃bs c,pJ K H bs xs/\g bs=U c/\∀w H',AV H H'->Nw H c w->bh K H' c w->Q w H'
abbrev Dy(X:Cx)(f:A0->A0->Sem A0)(g:Bx->Bx->O Bx):Prop:=uL X f (rF X.K g)
abbrev LF(X:Cx)(f:A0->Sem A0)(g:Bx->O Bx):Prop:=DU X f (N0 X.K g)
abbrev nC(X:Cx)(f:A0)(g:Z Bx->O Bx):Prop:=fK X f (Mm X.K g)
theorem uL.imp{f:A0->A0->Sem A0}{r a:R2}(h:uL X f r)(m:∀x y H Q,a x y H Q->r x y H Q):uL X f a:=λAN s σ H x y v u Q I c b q=>h AN s σ H x y v u Q I c b (m x y H Q q)
theorem DU.imp{f:A0->Sem A0}{r a:V->Hp->VK->Prop}(h:DU X f r)(m:∀x H Q,a x H Q->r x H Q):DU X f a:=λAN s σ H x v Q I b q=>h AN s σ H x v Q I b (m x H Q q)
theorem fK.imp{f:A0}{r a:Z V->Hp->VK->Prop}(h:fK X f r)(m:∀x H Q,a x H Q->r x H Q):fK X f a:=λAN s σ H xs us Q I b q=>h AN s σ H xs us Q I b (m xs H Q q)
def b2(g:Bx->Bx->O Bx)(fa fb:Ev->O Bx):Ev->O Bx:=λρ=>(fa ρ).bind λx=>(fb ρ).bind λy=>g x y
def b1(g:Bx->O Bx)(fa:Ev->O Bx):Ev->O Bx:=λρ=>(fa ρ).bind g
def cg(g:Z Bx->O Bx)(fs:Ev->O (Z Bx)):Ev->O Bx:=λρ=>(fs ρ).bind g
theorem AT{α β:Type}{o:O α}{f:α->O β}{b:β}(h:o.bind f=U b):∃a,o=U a/\f a=U b:=by
 cases o with
 |none=>cases h
 |some a=>exact⟨a,rfl,h⟩
theorem Zd{g:Bx->Bx->O Bx}{fa fb:Ev->O Bx}(σ:L2.St)(H:Hp)(Q:VK)(h:tF K (b2 g fa fb) σ H Q):EX (rF K g) (tF K fa) (tF K fb) σ H Q:=by
 obtain⟨H0,ρ,c,E,e,q⟩:=h;obtain⟨a,ea,e⟩:=AT e;obtain⟨b,eb,e⟩:=AT e;refine⟨H0,ρ,a,E,ea,λv H1 f p m=>⟨H0,ρ,b,E.grow f,eb,λu H2 d s i=>?_⟩⟩;exact⟨a,b,c,m.same d,i,e,λw n j l o=>q w n ((f.trans d).trans j) (l.old (f.trans d)) o⟩
theorem gN{g:Bx->O Bx}{fa:Ev->O Bx}(σ:L2.St)(H:Hp)(Q:VK)(h:tF K (b1 g fa) σ H Q):Iy (N0 K g) (tF K fa) σ H Q:=by
 obtain⟨H0,ρ,c,E,e,q⟩:=h;obtain⟨a,ea,e⟩:=AT e;exact⟨H0,ρ,a,E,ea,λv H1 b m i=>⟨a,c,i,e,λw j d f l=>q w j (b.trans d) (f.old b) l⟩⟩
theorem DF{g:Z Bx->O Bx}{fs:Ev->O (Z Bx)}(σ:L2.St)(H:Hp)(Q:VK)(h:tF K (cg g fs) σ H Q):IH (Mm K g) (ND K fs) σ H Q:=by
 obtain⟨H0,ρ,c,E,e,q⟩:=h;obtain⟨a,ea,e⟩:=AT e;exact⟨H0,ρ,a,E,ea,λv H1 b i=>⟨a,c,i,e,λw j d f l=>q w j (b.trans d) (f.old b) l⟩⟩
section
variable{a b:Expr}{fa fb fc f:Ev->O Bx}{fs:Ev->O (Z Bx)}
theorem aQ{op:Operator}{g:Bx->Bx->O Bx}(d:Dy X (binaryOp op) g)(c:QV X a fa)(hb:QV X b fb):QV X (.BinOp a op b pos) (b2 g fa fb):=⟨have c:=c.run;have hb:=hb.run;Ii (K' d c hb) Zd⟩
theorem NC{op:UnaryOp}{g:Bx->O Bx}(c:LF X (unaryOp op) g)(b:QV X a fa):QV X (.UnaryOp op a pos) (b1 g fa):=⟨have b:=b.run;Ii (Sn c b) gN⟩
theorem qF{g:Bx->Bx->O Bx}(d:Dy X (AG op) g)(c:QV X a fa)(hb:QV X b fb)(e:behindInMarks op b=false):QV X (.Compare a [op] [b] pos) (b2 g fa fb):=⟨have c:=c.run;have hb:=hb.run;Ii (Ku d c hb e) Zd⟩
def KY:Bx->O Bool
 |.z (.bl b)=>U b
 |_=>Y
theorem Fi{b:Bx}{k:Bool}(h:bh K H b v)(e:KY b=U k):v=.bl k:=by
 cases b with
 |z d=>
  cases d<;>first|(cases e;done)|skip;cases e;simpa only[bh,AW]using h
 |_=>cases e
theorem Tx(σ:L2.St)(H:Hp)(Q:Bool->Hp->Prop)(h:D3 K (λρ=>(f ρ).bind KY) σ H Q):tF K f σ H (λx H'=>∃k,x=.bl k/\Q k H'):=by
 obtain⟨H0,ρ,k,E,e,q⟩:=h;obtain⟨b,eb,e⟩:=AT e;exact⟨H0,ρ,b,E,eb,λv H1 c d a=>⟨k,Fi a e,q H1 c⟩⟩
theorem cN{g:Bx->Bx->O Bx}(d:Dy X (AG op) g)(c:QV X a fa)(hb:QV X b fb)(e:behindInMarks op b=false):QB X (.Compare a [op] [b] pos) (λρ=>(b2 g fa fb ρ).bind KY):=⟨have c:=c.run;have hb:=hb.run;IE (cx d c hb e) λσ H Q h=>Zd σ H _ (Tx σ H Q h)⟩
def F3(g g':Bx->Bx->O Bx)(fa fb fc:Ev->O Bx):Ev->O Bx:=λρ=>(fa ρ).bind λx=>(fb ρ).bind λy=>(g x y).bind λr=>(KY r).bind λk=>if k=true then(fc ρ).bind λw=>g' y w else U (.z (.bl false))
theorem eM{g g':Bx->Bx->O Bx}(σ:L2.St)(H:Hp)(Q:VK)(h:tF K (F3 g g' fa fb fc) σ H Q):YM (rF K g) (rF K g') (tF K fa) (tF K fb) (tF K fc) σ H Q:=by
 obtain⟨H0,ρ,d,E,e,q⟩:=h;obtain⟨a,ea,e⟩:=AT e;obtain⟨b,eb,e⟩:=AT e;obtain⟨r,er,e⟩:=AT e;obtain⟨k,ek,e⟩:=AT e;refine⟨H0,ρ,a,E,ea,λv H1 n J s=>⟨H0,ρ,b,E.grow n,eb,λu H2 m G l=>?_⟩⟩;refine⟨a,b,r,s.same m,l,er,λw t i L C=>⟨k,Fi C ek,?_⟩⟩;have c:=(n.trans m).trans i;cases k with
 |false=>
  rw[zC ZI]at e ⊢;cases e;exact q _ t c trivial (by simp only[bh,AW])
 |true=>
  rw[zh rfl]at e ⊢;obtain⟨j,o,e⟩:=AT e;refine⟨H0,ρ,j,E.grow c,o,λx F f I A=>?_⟩;exact⟨b,j,d,(l.same i).same f,A,e,λy B D p z=>q y B ((c.trans f).trans D) (p.old (c.trans f)) z⟩
theorem Ze{e:CmpOp}{g g':Bx->Bx->O Bx}(h:Dy X (AG op) g)(i:Dy X (AG e) g')(d:QV X a fa)(hb:QV X b fb)(f:QV X c fc)(j:lastMarks [op,e] [b,c]=false:=by with_unfolding_all rfl):QV X (.Compare a [op,e] [b,c] pos) (F3 g g' fa fb fc):=⟨have d:=d.run;have hb:=hb.run;have f:=f.run;Ii (YQ h i d hb f j) eM⟩
def yu(ρ:Ev)(i:Nat):O Bx:=match ρ[i]? with
 |some (U (.o ds))=>U (.l ds)
 |some (U (.m AO _))=>U (.n AO)
 |some (U b)=>U b
 |_=>Y
theorem Oj{ρ:Ev}{b:Bx}(E:bM K H0 H σ ρ)(e:yu ρ i=U b):∃v,σ[i]?=U (U v)/\bh K H b v:=by
 unfold yu at e;split at e
 ·rename_i ds h;cases e;obtain⟨v,e1,a,vs,e2,q,r⟩:=E.val i _ h;exact⟨v,e1,a,vs,e2,.inl q,r⟩
 ·rename_i ds h;cases e;obtain⟨v,e1,a,vs,e2,q,r⟩:=E.val i _ h;exact⟨v,e1,a,vs,e2,.inl q,r.1⟩
 ·rename_i c h;cases e;exact E.val i _ h
 ·cases e
theorem Dz{ρ:Ev}{b:Bx}(e:yu ρ i=U b):uO b=false:=by
 unfold yu at e;split at e
 ·cases e;rfl
 ·cases e;rfl
 ·rename_i c h1 h2 a;cases e;cases b with
  |o ds=>exact absurd S (h1 ds)
  |m ds _=>exact absurd S (h2 ds _)
  |_=>rfl
 ·cases e
theorem ak(i:Nat)(f:X.N[i]?=U x:=by rfl)(c:U3 X.env.scope x:=by first|exact JS rfl|exact QY (JS S)|exact QY (QY S))(d:(x==("__debug__":AJ))=false:=by decide)(a:(x==("__classdict__":AJ))=false:=by decide):QV X (.Name x pos) (λρ=>yu ρ i):=⟨Ii (rH f c d a) λσ H Q h=>by
 obtain⟨H0,ρ,b,E,e,q⟩:=h;obtain⟨v,e1,r⟩:=Oj E e;refine⟨v,e1,q v H (AV.refl H) ?_ r⟩;cases b with
 |o ds=>have:=Dz e;cases this
 |m ds _=>have:=Dz e;cases this
 |_=>trivial⟩
def cB(d:Dt):Ev->O Bx:=λ_=>U (.z d)
theorem WT{d:Dt}(h:PE X e (tC v))(r:∀H,AW X.K H d v):PV X e (cB d):=Ii h λσ H Q q=>by
 obtain⟨H0,ρ,b,E,e,q⟩:=q;cases e;exact q v H (AV.refl H) trivial (r H)
theorem aC{i j}:QV X (.Constant (.int i) j pos) (cB (.int i)):=⟨WT Ry λH=>by simp only[AW]⟩
theorem JB{i j}:QV X (.Constant (.bool i) j pos) (cB (.bl i)):=⟨WT Lu λH=>by simp only[AW]⟩
theorem mQ{j}:QV X (.Constant .none j pos) (cB .non):=⟨WT cK λH=>by simp only[AW]⟩
theorem Zf{j}(hx:x.length<=AA:=by decide):PV X (.Constant (.str x) j pos) (cB (.str x)):=WT eW λH=>by unfold AW;exact⟨rfl,hx⟩
theorem Zg{i:Int}{t:Tok}(b:Gl X x)(c:X.mg x=U (.int i t))(a:(x==("__debug__":AJ))=false:=by decide):QV X (.Name x pos) (cB (.int i)):=⟨WT (jY b c (v:=.int i) ⟨t,rfl⟩ a) λH=>by simp only[AW]⟩
theorem Zh{t:Tok}(c:Gl X x)(d:X.mg x=U (.str y t))(a:y.length<=AA:=by decide)(b:(x==("__debug__":AJ))=false:=by decide):QV X (.Name x pos) (cB (.str y)):=⟨WT (jY c d (v:=.str y) ⟨t,rfl⟩ b) λH=>by unfold AW;exact⟨rfl,a⟩⟩
def Zi:Bx->O Bool
 |.z .non=>U false
 |.z (.bl b)=>U b
 |.z (.int i)=>U (i != 0)
 |.z (.str x)=>U ((x.length:Int) != 0)
 |.z (.tup ds)=>U (!ds.isEmpty)
 |.z (.lst ds)=>U (!ds.isEmpty)
 |.l ds=>U (!ds.isEmpty)
 |.o ds=>U (!ds.isEmpty)
 |.z .emp=>Y
 |.n _=>Y
 |.m _ _=>Y
theorem aK.isEmpty{ds:Z Dt}(h:aK K H ds vs):(!ds.isEmpty)=!vs.isEmpty:=by
 have:=h.length;cases ds<;>cases vs<;>simp_all
theorem PP{b:Bx}{k:Bool}(r:bh K H b v)(e:Zi b=U k):IA K v H k:=by
 cases b with
 |z d=>
  cases d with
  |non=>cases e;simp only[bh,AW]at r;subst r;rfl
  |bl b=>cases e;simp only[bh,AW]at r;subst r;rfl
  |int b=>cases e;simp only[bh,AW]at r;subst r;rfl
  |str x=>cases e;simp only[bh,AW]at r;obtain⟨rfl,h⟩:=r;exact⟨h,rfl⟩
  |tup ds=>
   cases e;simp only[bh,AW]at r;obtain⟨a,vs,rfl,q,r⟩:=r;exact .inr (.inl ⟨vs,q,r.isEmpty⟩)
  |lst ds=>
   cases e;obtain⟨a,vs,rfl,q,r⟩:=r.HW rfl;exact .inl ⟨vs,q,r.isEmpty⟩
  |emp=>cases e
 |l ds=>
  cases e;obtain⟨a,vs,rfl,q,r⟩:=r.HW rfl;exact .inl ⟨vs,q,r.isEmpty⟩
 |o ds=>
  cases e;obtain⟨a,vs,rfl,q,r⟩:=r.HW rfl;exact .inl ⟨vs,q,r.isEmpty⟩
 |n _=>cases e
 |m _ _=>cases e
theorem uP(h:QV X e f)(he:∀a,isTrue e X.env a=(do let v <-a;standAt e.pos;holding [v] (truthy v)):=by intro _;rfl):QB X e (λρ=>(f ρ).bind Zi):=⟨have h:=h.run;IE (YS h he) λσ H Q q=>by
 obtain⟨H0,ρ,k,E,e,q⟩:=q;obtain⟨b,eb,e⟩:=AT e;exact⟨H0,ρ,b,E,eb,λv H1 c g d=>⟨k,PP d e,q H1 c⟩⟩⟩
def Ol(p q:Ev->O Bool):Ev->O Bool:=λρ=>(p ρ).bind λc=>if c=true then q ρ else U false
def D5(p q:Ev->O Bool):Ev->O Bool:=λρ=>(p ρ).bind λc=>if c=true then U true else q ρ
def Ij(p:Ev->O Bool):Ev->O Bool:=λρ=>(p ρ).bind λc=>U (!c)
def ae(X:Cx)(e:Expr)(f:Ev->O Bool):Prop:=PW X e (D3 X.K f)
structure Do (X:Cx) (e:Expr) (f:Ev->Option Bool):Prop where
 run:ae X e f
variable{p q:Ev->O Bool}{AS:Z Expr}
theorem yw(b:QB X a p):Do X (.BoolOp .And [a] pos) p:=⟨have b:=b.run;VW b⟩
theorem yx(b:QB X a p):Do X (.BoolOp .Or [a] pos) p:=⟨have b:=b.run;Pp b⟩
theorem Pf(σ:L2.St)(H:Hp)(Q:Bool->Hp->Prop)(h:D3 K (Ol p q) σ H Q):LS (D3 K p) (D3 K q) σ H Q:=by
 obtain⟨H0,ρ,k,E,e,w⟩:=h;obtain⟨c,d,e⟩:=AT e;refine⟨H0,ρ,c,E,d,λH1 a=>?_⟩;cases c with
 |true=>rw[zh rfl]at e ⊢;exact⟨H0,ρ,k,E.grow a,e,λH2 b=>w H2 (a.trans b)⟩
 |false=>rw[zC ZI]at e ⊢;cases e;exact w H1 a
theorem a7(σ:L2.St)(H:Hp)(Q:Bool->Hp->Prop)(h:D3 K (D5 p q) σ H Q):MX (D3 K p) (D3 K q) σ H Q:=by
 obtain⟨H0,ρ,k,E,e,w⟩:=h;obtain⟨c,d,e⟩:=AT e;refine⟨H0,ρ,c,E,d,λH1 a=>?_⟩;cases c with
 |true=>rw[zh rfl]at e ⊢;cases e;exact w H1 a
 |false=>rw[zC ZI]at e ⊢;exact⟨H0,ρ,k,E.grow a,e,λH2 b=>w H2 (a.trans b)⟩
theorem DG(c:QB X a p)(hb:Do X (.BoolOp .And (b::AS) pos) q):Do X (.BoolOp .And (a::b::AS) pos) (Ol p q):=⟨have c:=c.run;have hb:=hb.run;ME (gm c hb) Pf⟩
theorem Fj(c:QB X a p)(hb:Do X (.BoolOp .Or (b::AS) pos) q):Do X (.BoolOp .Or (a::b::AS) pos) (D5 p q):=⟨have c:=c.run;have hb:=hb.run;ME (S0 c hb) a7⟩
theorem KZ(h:Do X e p):QB X e p:=⟨have h:=h.run;h.pt⟩
theorem xG(b:QB X a p):QB X (.UnaryOp .Not a pos) (Ij p):=⟨have b:=b.run;IE (aw b) λσ H Q h=>by
 obtain⟨H0,ρ,k,E,e,w⟩:=h;obtain⟨c,d,e⟩:=AT e;cases e;exact⟨H0,ρ,c,E,d,λH1 f=>w H1 f⟩⟩
def Om(fa fb:Ev->O Bx):Ev->O Bx:=λρ=>((fa ρ).bind KY).bind λc=>if c=true then fb ρ else U (.z (.bl false))
theorem K1{op}(h:QV X a fa):QV X (.BoolOp op [a] pos) fa:=⟨have h:=h.run;Rz h⟩
theorem Fl(f:QV X a fa)(hb:QV X (.BoolOp .And (b::AS) pos) fb):QV X (.BoolOp .And (a::b::AS) pos) (Om fa fb):=⟨have f:=f.run;have hb:=hb.run;Ii (Kq f hb) λσ H Q h=>by
 obtain⟨H0,ρ,k,E,e,w⟩:=h;obtain⟨c,g,e⟩:=AT e;obtain⟨x,ex,g⟩:=AT g;refine⟨H0,ρ,x,E,ex,λv H1 d n l=>⟨c,Fi l g,?_⟩⟩;cases c with
 |true=>rw[zh rfl]at e ⊢;exact⟨H0,ρ,k,E.grow d,e,λv H2 i m j=>w v H2 (d.trans i) (m.old d) j⟩
 |false=>rw[zC ZI]at e ⊢;cases e;exact w _ H1 d trivial (by simp only[bh,AW])⟩
theorem Vc:ER X [] (λ_=>U []):=L4 d7 λσ H Q h=>by
 obtain⟨H0,ρ,bs,E,e,q⟩:=h;cases e;exact q [] H (AV.refl H) .nil
def ao(f:Ev->O Bx)(fs:Ev->O (Z Bx)):Ev->O (Z Bx):=λρ=>(f ρ).bind λb=>(fs ρ).bind λbs=>U (b::bs)
theorem Oo(h1:PV X e f)(h2:ER X es fs)(hs:A9 (e::es) X.env=(false,eval e X.env)::A9 es X.env:=by rfl):ER X (e::es) (ao f fs):=L4 (bw h1 h2 hs) λσ H Q h=>by
 obtain⟨H0,ρ,bs,E,e,q⟩:=h;obtain⟨b,eb,e⟩:=AT e;obtain⟨j,g,e⟩:=AT e;cases e;refine⟨H0,ρ,b,E,eb,λv H1 c l i=>⟨H0,ρ,j,E.grow c,g,λvs H2 a d=>?_⟩⟩;exact q (v::vs) H2 (c.trans a) (.cons (i.same a) d)
def vW:Bx->O Bx
 |.z d=>U (.z d)
 |.o ds=>U (.z (.lst ds))
 |.l _=>Y
 |.n _=>Y
 |.m _ _=>Y
theorem Fp{a:A1}(I:L2.AU X AN σ H s)(h:H a=U (.lst vs)):∃o,L2.AU X AN σ (B0 H a (.HS o (.lst vs))) s:=by
 obtain⟨z,AQ,n,r,e⟩:=I.hok a _ h;refine⟨{ cls:=.type "list",data:=.seq AQ.toArray n },⟨I.ok,I.os,I.bare,⟨I.base.keep,I.base.slot,λb d q1 q2 f=>?_,I.base.there,λb xs q=>?_,λb d u q=>?_,λb ps q=>?_⟩,I.loc,I.cell,?_,λx c q=>?_,λp hp=>?_,?_,I.len⟩⟩
 ·have:=I.base.free b d q1 q2 f;rw[aP (bH h this).symm];exact this
 ·have:=I.base.tups b xs q;rw[aP (lX this h (by intro z;cases z))];exact this
 ·have:=I.base.wJ b d u q;rw[aP (lX this h (by intro z;cases z))];exact this
 ·obtain⟨m,this⟩:=I.base.yg b ps q;rw[aP (lX this h (by intro z;cases z))];exact⟨m,this⟩
 ·rw[aP (bH h I.free).symm];exact I.free
 ·rw[aP (bH h (I.jy x c q)).symm];exact I.jy x c q
 ·obtain⟨q1,q2,f⟩:=I.pin p hp;refine⟨q1,?_,f⟩;rw[aP (bH h q2).symm];exact q2
 ·intro b u q;by_cases hb:b=a
  ·subst hb;rw[aU]at q;cases q;exact⟨e,z,AQ,n,r,e⟩
  ·rw[aP hb]at q;refine(I.hok b u q).stay (λc v _ w=>w) (λc w=>?_) λc xs w=>?_
   ·rw[aP (lX w h (by intro z;cases z))];exact w
   ·rw[aP (lX w h (by intro z;cases z))];exact w
theorem fM(h:QV X e f):QV X e (b1 vW f):=⟨by
 have h:=h.run;intro AN s σ H Q I q;obtain⟨H0,ρ,b,E,e,q⟩:=q;obtain⟨x,ex,e⟩:=AT e;cases x with
 |z d=>
  cases e;exact h AN s σ H Q I ⟨H0,ρ,_,E,ex,λv H' s' i g=>q v H' s' trivial g⟩
 |l ds=>cases e
 |n ds=>cases e
 |m ds _=>cases e
 |o ds=>
  cases e;refine gM (h AN s σ H (λv H'=>AV H H'/\Nw H (.o ds) v/\bh X.K H' (.o ds) v) I ⟨H0,ρ,_,E,ex,λv H' s' i g=>⟨s',i,g⟩⟩) λu D A=>?_;obtain⟨v,H1,y,B,s',i,g⟩:=A;obtain⟨a,vs,rfl,j,w⟩:=g;obtain⟨o,t⟩:=Fp y j;refine⟨.ref a,_,t,B,q _ _ (λc C p=>?_) trivial ?_⟩
  ·rw[aP (bH p (i a S))];exact s' c C p
  ·simp only[bh,AW];exact⟨a,vs,rfl,.inl ⟨o,aU⟩,w.kp (.lst j)⟩⟩
def K3:Z Bx->O (Z Dt)
 |[]=>U []
 |.z d::r=>(K3 r).bind λds=>U (d::ds)
 |_=>Y
theorem Fq{K:B4}{H:Hp}:∀{bs:Z Bx} {vs:Z V} {ds:Z Dt},pJ K H bs vs->K3 bs=U ds->aK K H ds vs
 |_,_,_,.nil,e=>by cases e;exact aK.nil
 |b::bs,_,_,.cons h t,e=>by
  cases b with
  |z d=>
   simp only[K3]at e;obtain⟨a,e1,e2⟩:=AT e;cases e2;exact aK.cons h (Fq t e1)
  |_=>cases e
theorem Ft:∀{bs:Z Bx} {ds:Z Dt},K3 bs=U ds->ds.length=bs.length
 |[],_,e=>by cases e;rfl
 |.z d::r,_,e=>by
  simp only[K3]at e;obtain⟨a,e1,e2⟩:=AT e;cases e2;simp[Ft e1]
 |.l _::_,_,e=>by cases e
 |.o _::_,_,e=>by cases e
 |.n _::_,_,e=>by cases e
 |.m _ _::_,_,e=>by cases e
def qR(bs:Z Bx):O Bx:=if bs.length<=1000 then(K3 bs).bind λds=>U (.z (.tup ds))else Y
def gY(bs:Z Bx):O Bx:=if bs.length<=1000 then(K3 bs).bind λds=>U (.o ds)else Y
theorem bI{p:A1}{o:HO}(h:H p=Y):AV H (B0 H p o):=λb u e=>by rw[aP (bH e h)];exact e
theorem LX(h:n<=1000):n<=AA:=ZH h (by decide)
theorem qG{x1}(h:Vb X es fs):QV X (.Tuple es x1 pos) (cg qR fs):=⟨have h:=h.run;Ii (PU h) λσ H Q q=>by
 obtain⟨H0,ρ,c,E,e,q⟩:=q;obtain⟨bs,b,e⟩:=AT e;refine⟨H0,ρ,bs,E,b,λvs H1 f d=>?_⟩;unfold qR at e;split at e
 ·rename_i g;obtain⟨ds,e1,e⟩:=AT e;cases e;have a:=Fq d e1;refine⟨LX (by rw[a.length,Ft e1];exact g),λp hp=>q _ _ (f.trans (bI hp)) trivial ?_⟩;simp only[bh,AW];exact⟨p,vs,rfl,.inl (.inl aU),a.kp (.of (bI hp))⟩
 ·cases e⟩
theorem cP(h:Vb X es fs):QV X (.List es pos) (cg gY fs):=⟨have h:=h.run;Ii (RT h) λσ H Q q=>by
 obtain⟨H0,ρ,c,E,e,q⟩:=q;obtain⟨bs,f,e⟩:=AT e;refine⟨H0,ρ,bs,E,f,λvs H1 d g=>?_⟩;unfold gY at e;split at e
 ·rename_i i;obtain⟨ds,e1,e⟩:=AT e;cases e;have b:=Fq g e1;refine⟨LX (by rw[b.length,Ft e1];exact i),λp hp=>q _ _ (d.trans (bI hp)) (λa ea=>by cases ea;exact d.free hp) ?_⟩;exact⟨p,vs,rfl,aU,b.kp (.of (bI hp))⟩
 ·cases e⟩
theorem bK{id:String}{g:Z Bx->O Bx}{p:Pos}(f:nC X (.builtin id) g)(i:Gl X x)(j:X.mg x=Y)(d:AH x=U (.builtin id))(a:Vb X (e::es) fs)(h:x ≠ "__name__":=by decide)(b:(x==("__debug__":AJ))=false:=by decide)(he:A9 (e::es) X.env=(false,eval e X.env)::A9 es X.env:=by rfl)(c:(AD pos (A9 es X.env)).any (·.1)=false:=by rfl):QV X (.Call (.Name x p) (e::es) [] pos) (cg g fs):=⟨have a:=a.run;Ii (gq f i j d a h b he c) DF⟩
theorem gA{T:String}{g:Z Bx->O Bx}{p:Pos}(f:nC X (.type T) g)(i:Gl X x)(j:X.mg x=Y)(d:AH x=U (.type T))(a:Vb X (e::es) fs)(h:x ≠ "__name__":=by decide)(b:(x==("__debug__":AJ))=false:=by decide)(he:A9 (e::es) X.env=(false,eval e X.env)::A9 es X.env:=by rfl)(c:(AD pos (A9 es X.env)).any (·.1)=false:=by rfl):QV X (.Call (.Name x p) (e::es) [] pos) (cg g fs):=⟨have a:=a.run;Ii (Jw f i j d a h b he c) DF⟩
end
inductive An where
 |nx (ρ:Ev)|rt (b:Bx)|bk (ρ:Ev)|ct (ρ:Ev)
def R5(K:B4)(H0:Hp)(D:Be):An->Prop
 |.nx ρ=>∀ σ H,bM K H0 H σ ρ->D.nx σ H
 |.rt b=>∀v H,AV H0 H->Nw H0 b v->bh K H b v->D.rt v H
 |.bk ρ=>∀ σ H,bM K H0 H σ ρ->D.bk σ H
 |.ct ρ=>∀ σ H,bM K H0 H σ ρ->D.ct σ H
def tG(K:B4)(g:Ev->O An):TS:=λD σ H=>∃H0 ρ r,bM K H0 H σ ρ/\g ρ=U r/\R5 K H0 D r
def GA(X:Cx)(st:AB)(g:Ev->O An):Prop:=PS X st (tG X.K g)
structure K4 (X:Cx) (st:Stmt) (g:Ev->Option An):Prop where
 run:GA X st g
def RB(X:Cx)(st:Z AB)(g:Ev->O An):Prop:=Cy X st (tG X.K g)
structure R6 (X:Cx) (st:List Stmt) (g:Ev->Option An):Prop where
 run:RB X st g
def aD(g1 g2:Ev->O An):Ev->O An:=λρ=>(g1 ρ).bind λr=>match r with
 |.nx a=>g2 a
 |r=>U r
section
variable{a b:Expr}{fa fb fc f:Ev->O Bx}{fs:Ev->O (Z Bx)}{AS:Z AB}{g g1 g2:Ev->O An}
theorem aO  :R6 X [] (λρ=>U (.nx ρ)):=⟨Hm Su λD σ H h=>by
 obtain⟨H0,ρ,r,E,e,q⟩:=h;cases e;exact q σ H E⟩
theorem au(h1:K4 X st g1)(h2:R6 X AS g2):R6 X (st::AS) (aD g1 g2):=⟨have h1:=h1.run;have h2:=h2.run;Hm (qP h1 h2) λD σ H h=>by
 obtain⟨H0,ρ,r,E,e,q⟩:=h;obtain⟨c,e1,e⟩:=AT e;refine⟨H0,ρ,c,E,e1,?_⟩;cases c with
 |nx a=>exact λσ' H' d=>⟨H0,a,r,d,e,q⟩
 |rt b=>cases e;exact q
 |bk a=>cases e;exact q
 |ct a=>cases e;exact q⟩
def Zj:Bx->O An
 |.l _=>Y
 |.n _=>Y
 |b=>U (.rt b)
theorem c7(h:QV X e f):K4 X (.Return (U e) pos) (λρ=>(f ρ).bind Zj):=⟨have h:=h.run;Oi (Kr h) λD σ H h=>by
 obtain⟨H0,ρ,r,E,e,q⟩:=h;obtain⟨b,eb,e⟩:=AT e;refine⟨H0,ρ,b,E,eb,λv H1 c g a=>?_⟩;cases b with
 |l ds=>cases e
 |z d=>cases e;exact q v H1 (E.base.trans c) trivial a
 |o ds=>cases e;exact q v H1 (E.base.trans c) (g.old E.base) a
 |n ds=>cases e
 |m ds _=>cases e;exact q v H1 (E.base.trans c) (g.old E.base) a⟩
def CG(i:Nat)(ρ:Ev):O An:=match ρ[i]? with
 |some (U b)=>Zj b
 |_=>Y
theorem yC(i:Nat){p:Pos}(s:X.N[i]?=U x:=by rfl)(g:U3 X.env.scope x:=by first|exact JS rfl|exact QY (JS S)|exact QY (QY S))(j:(x==("__debug__":AJ))=false:=by decide)(f:(x==("__classdict__":AJ))=false:=by decide):K4 X (.Return (U (.Name x p)) pos) (CG i):=⟨Oi (Kr (rH s g j f)) λD σ H h=>by
 obtain⟨H0,ρ,r,E,e,q⟩:=h;unfold CG at e;split at e
 ·rename_i b hb;obtain⟨v,e1,c⟩:=E.val i b hb;refine⟨v,e1,?_⟩;cases b with
  |l ds=>cases e
  |z d=>cases e;exact q v H E.base trivial c
  |o ds=>cases e;exact q v H E.base (λa ea=>E.new i _ a hb S (by rw[e1,ea])) c
  |n ds=>cases e
  |m ds _=>cases e;exact q v H E.base (λa ea=>E.new i _ a hb S (by rw[e1,ea])) c
 ·cases e⟩
def xH(p:Ev->O Bool)(g1 g2:Ev->O An):Ev->O An:=λρ=>(p ρ).bind λk=>if k=true then g1 ρ else g2 ρ
theorem gZ{p:Ev->O Bool}{u v:Z AB}(b:QB X c p)(a:R6 X u g1)(hb:R6 X v g2):K4 X (.If c u v pos) (xH p g1 g2):=⟨have b:=b.run;have a:=a.run;have hb:=hb.run;Oi (M' b a hb) λD σ H h=>by
 obtain⟨H0,ρ,r,E,e,q⟩:=h;obtain⟨k,ek,e⟩:=AT e;refine⟨H0,ρ,k,E,ek,λH1 d=>?_⟩;cases k with
 |true=>rw[zh rfl]at e ⊢;exact⟨H0,ρ,r,E.grow d,e,q⟩
 |false=>rw[zC ZI]at e ⊢;exact⟨H0,ρ,r,E.grow d,e,q⟩⟩
theorem BB{l:Z α}{x y:α}(h:(l.set i x)[j]?=U y):(j=i/\y=x/\i<l.length)\/(j≠i/\l[j]?=U y):=by
 rw[KO]at h;by_cases e:i=j
 ·subst e;rw[zh rfl]at h;split at h
  ·cases h;exact .inl ⟨rfl,rfl,by assumption⟩
  ·cases h
 ·rw[zC e]at h;exact .inr ⟨λz=>e z.symm,h⟩
theorem Fv{l:Z α}(x:α)(h:i<l.length):(l.set i x)[i]?=U x:=by
 rw[KO,zh rfl,zh h]
theorem Fw{l:Z α}(x:α)(h:j≠i):(l.set i x)[j]?=l[j]?:=by
 rw[KO,zC (jI h)]
theorem bM.set{H1:Hp}{ρ:Ev}{b:Bx}(E:bM K H0 H σ ρ)(s:AV H H1)(r:bh K H1 b v)(u:uO b=true\/loose b=false)(n:Nw H b v):bM K H0 H1 (σ.set i (U v)) (ρ.set i (U b)):=by
 have D:=E.grow s;have C:∀(j:Nat) (g:Bx) (a:A1),ρ[j]?=U (U g)->loose g=true->σ[j]?=U (U (.ref a))->H a≠Y:=λj g a e1 e2 e3 z=>by
  obtain⟨I,h,x⟩:=E.val j g e1;rw[e3]at h;cases h;cases g with
  |z d=>cases e2
  |l ds=>
   obtain⟨y,vs,f,q,_⟩:=x;cases f;rcases q with q|⟨o,q⟩<;>(rw[z]at q;cases q)
  |o ds=>
   obtain⟨y,vs,f,q,_⟩:=x;cases f;rw[z]at q;cases q
  |n ds=>
   obtain⟨y,vs,f,q,_⟩:=x;cases f;rcases q with q|⟨o,q⟩<;>(rw[z]at q;cases q)
  |m ds _=>
   obtain⟨y,vs,f,q,_⟩:=x;cases f;rw[z]at q;cases q
 have B:uO b=true->∀a,v=.ref a->H a=Y:=λG=>by
  cases b with
  |o ds=>exact n
  |m ds _=>exact n
  |_=>cases G
 refine⟨by rw[km,km];exact E.len,λj g e=>?_,λj k c a g e1 t e2 e3 h f=>?_,D.base,λj c a e1 t e2=>?_⟩
 ·rcases BB e with⟨rfl,e',hi⟩|⟨w,e'⟩
  ·cases e';exact⟨v,Fv _ (by rw[E.len];exact hi),r⟩
  ·rw[Fw _ w];exact D.val j g e'
 ·rcases BB e1 with⟨rfl,e',hi⟩|⟨w,e'⟩
  ·cases e';rw[Fv _ (by rw[E.len];exact hi)]at e2;cases e2;rcases BB e3 with⟨rfl,p,_⟩|⟨A,p⟩
   ·rfl
   ·rw[Fw _ A]at f;exact absurd (B t a S) (C k g a p h f)
  ·rw[Fw _ w]at e2;rcases BB e3 with⟨rfl,p,hi⟩|⟨A,p⟩
   ·cases p;rw[Fv _ (by rw[E.len];exact hi)]at f;cases f;have F:loose c=true:=by cases c<;>first|rfl|cases t
    rcases u with u|u
    ·exact absurd (B u a S) (C j _ a e' F e2)
    ·rw[u]at h;cases h
   ·rw[Fw _ A]at f;exact E.own j k c a g e' t e2 p h f
 ·rcases BB e1 with⟨rfl,e',hi⟩|⟨w,e'⟩
  ·cases e';rw[Fv _ (by rw[E.len];exact hi)]at e2;cases e2;exact E.base.free (B t a S)
  ·rw[Fw _ w]at e2;exact E.new j c a e' t e2
def WW(ρ:Ev)(i:Nat):Bx->O Ev
 |.l _=>Y
 |.n _=>Y
 |b=>U (ρ.set i (U b))
theorem Vd{H1:Hp}{ρ ρ':Ev}{b:Bx}(E:bM K H0 H σ ρ)(s:AV H H1)(r:bh K H1 b v)(n:Nw H b v)(e:WW ρ i b=U ρ'):bM K H0 H1 (σ.set i (U v)) ρ':=by
 cases b with
 |l ds=>cases e
 |z d=>cases e;exact E.set s r (.inr S) n
 |o d=>cases e;exact E.set s r (.inl S) n
 |n ds=>cases e
 |m d _=>cases e;exact E.set s r (.inl S) n
theorem aX(i:Nat){p:Pos}(j:X.N.Nodup)(he:QV X e f)(hi:X.N[i]?=U x:=by rfl)(hx:D4 X.env.scope x:=by first|exact JS rfl|exact QY S)(hs:swapsWith e (U (.Name x p)) pos.line X.env=pure false:=by rfl)(d:X.fn x=true\/X.env.scope.names.lookup x=U .local:=by first|exact .inl rfl|exact .inr S):K4 X (.Assign [.Name x p] e pos) (λρ=>(f ρ).bind λb=>(WW ρ i b).bind λρ'=>U (.nx ρ')):=⟨have he:=he.run;Oi (zV j hi hx he hs d) λD σ H h=>by
 obtain⟨H0,ρ,r,E,e,q⟩:=h;obtain⟨b,eb,e⟩:=AT e;obtain⟨ρ',a,e⟩:=AT e;cases e;exact⟨H0,ρ,b,E,eb,λv H1 l c g=>q _ _ (Vd E l g c a)⟩⟩
def Lo(σ:L2.St)(ρ:Ev)(σ':L2.St)(ρ':Ev):Prop:=∀(j:Nat) b,loose b=true->ρ'[j]?=U (U b)->ρ[j]?=U (U b)/\σ'[j]?=σ[j]?
theorem Lo.refl{ρ:Ev}:Lo σ ρ σ ρ:=λ_ _ _ e=>⟨e,rfl⟩
theorem Lo.trans{σ d g:L2.St}{ρ f h:Ev}(a:Lo σ ρ d f)(b:Lo d f g h):Lo σ ρ g h:=λj c l e=>by
 obtain⟨e1,e2⟩:=b j c l e;obtain⟨e3,i⟩:=a j c l e1;exact⟨e3,e2.trans i⟩
theorem Lo.set{ρ:Ev}(i:Nat)(v:V)(d:Dt):Lo σ ρ (σ.set i (U v)) (ρ.set i (U (.z d))):=λj b l e=>by
 rcases BB e with⟨rfl,e',_⟩|⟨a,e'⟩
 ·cases e';cases l
 ·exact⟨e',Fw _ a⟩
def NM(K:B4)(g:Dt->Ev->O Ev):TG:=λv σ H Q=>∃H0 ρ d a,bM K H0 H σ ρ/\AW K H d v/\g d ρ=U a/\∀ σ',bM K H0 H σ' a->Lo σ ρ σ' a->Q σ' H
def Ee(X:Cx)(t:Expr)(g:Dt->Ev->O Ev):Prop:=PG X t (NM X.K g)
structure D1 (X:Cx) (t:Expr) (g:Dt->Ev->Option Ev):Prop where
 run:Ee X t g
theorem bf(i:Nat)(c:X.N.Nodup)(hi:X.N[i]?=U x:=by rfl)(hx:D4 X.env.scope x:=by first|exact JS rfl|exact QY S)(f:X.fn x=true\/X.env.scope.names.lookup x=U .local:=by first|exact .inl rfl|exact .inr S):D1 X (.Name x pos) (λd ρ=>U (ρ.set i (U (.z d)))):=⟨λAN s σ H v u Q I r h=>by
 obtain⟨H0,ρ,d,g,E,a,e,q⟩:=h;cases e;exact U4 c hi hx f AN s σ H v u Q I r (q _ (E.set (b:=.z d) (AV.refl H) a (.inr S) trivial) (Lo.set i v d))⟩
def Y2(K:B4)(g:Z Dt->Ev->O Ev):DE:=λvs σ H Q=>∃H0 ρ ds a,bM K H0 H σ ρ/\aK K H ds vs/\g ds ρ=U a/\∀ σ',bM K H0 H σ' a->Lo σ ρ σ' a->Q σ' H
def Xs(X:Cx)(t:Z Expr)(g:Z Dt->Ev->O Ev):Prop:=L2.RB X t (Y2 X.K g)
structure FL (X:Cx) (t:List Expr) (g:List Dt->Ev->Option Ev):Prop where
 run:Xs X t g
def Bl:Z Dt->Ev->O Ev
 |[],ρ=>U ρ
 |_,_=>Y
def dW(g:Dt->Ev->O Ev)(gs:Z Dt->Ev->O Ev):Z Dt->Ev->O Ev
 |d::ds,ρ=>(g d ρ).bind (gs ds)
 |_,_=>Y
theorem yD  :FL X [] Bl:=⟨λAN s σ H vs us Q I r h=>by
 obtain⟨H0,ρ,ds,b,E,a,e,q⟩:=h;cases ds with
 |nil=>cases e;unfold aK at a;exact SO AN s σ H vs us Q I r ⟨a,q _ E Lo.refl⟩
 |cons d ds=>cases e⟩
theorem dO{t:Expr}{ts:Z Expr}{gt:Dt->Ev->O Ev}{gs:Z Dt->Ev->O Ev}(h1:D1 X t gt)(h2:FL X ts gs)(hs:(assignEach (t::ts) X.env).map (·.2)=assign t X.env::(assignEach ts X.env).map (·.2):=by rfl):FL X (t::ts) (dW gt gs):=⟨have h1:=h1.run;have h2:=h2.run;λAN s σ H vs us Q I r h=>by
 obtain⟨H0,ρ,ds,j,E,b,e,q⟩:=h;cases ds with
 |nil=>cases e
 |cons d ds=>
  unfold aK at b;obtain⟨v,c,rfl,l,f⟩:=b;simp only[dW]at e;obtain⟨a,e1,e⟩:=AT e;exact YH h1 h2 hs AN s σ H _ us Q I r ⟨v,c,rfl,H0,ρ,d,a,E,l,e1,λp n o=>⟨H0,a,ds,j,n,f,e,λi m g=>q i m (o.trans g)⟩⟩⟩
def wO(n:Nat)(gs:Z Dt->Ev->O Ev):Dt->Ev->O Ev
 |.tup ds,ρ=>if ds.length=n then gs ds ρ else Y
 |_,_=>Y
theorem Fy{ts:Z Expr}{k:Nat}{gs:Z Dt->Ev->O Ev}(m:X.calm=true)(h:FL X ts gs)(o:(assignEach ts X.env).length=n:=by rfl)(g:(assignEach ts X.env).findIdx? (·.1)=Y:=by rfl):D1 X (.Tuple ts k pos) (wO n gs):=⟨have h:=h.run;λAN s σ H v u Q I r j=>by
 obtain⟨H0,ρ,d,f,E,c,e,q⟩:=j;cases d with
 |tup ds=>
  simp only[wO]at e;split at e
  ·rename_i l;unfold AW at c;obtain⟨a,vs,rfl,i,b⟩:=c;exact Pd m h o g AN s σ H _ u Q I r ⟨a,vs,rfl,i,by rw[b.length];exact l,H0,ρ,ds,f,E,b,e,q⟩
  ·cases e
 |_=>cases e⟩
theorem Pw{gt:Dt->Ev->O Ev}(he:QV X e f)(a:D1 X tg gt)(hs:swapsWithSole [tg] e pos.line X.env=pure false:=by rfl)(g:swappedStores [tg] e X.env=pure Y:=by rfl)(h1:(assignEach [tg] X.env).map (·.2)=[assign tg X.env]:=by rfl):K4 X (.Assign [tg] e pos) (λρ=>(f ρ).bind λb=>match b with|.z d=>(gt d ρ).bind λρ'=>U (.nx ρ')|_=>Y):=⟨have he:=he.run;have a:=a.run;Oi (WG he a hs g h1) λD σ H h=>by
 obtain⟨H0,ρ,r,E,e,q⟩:=h;obtain⟨b,eb,e⟩:=AT e;refine⟨H0,ρ,b,E,eb,λv H1 j m i=>?_⟩;cases b with
 |z d=>
  obtain⟨ρ',c,e⟩:=AT e;cases e;exact⟨H0,ρ,d,ρ',E.grow j,i,c,λσ' l _=>q _ _ l⟩
 |_=>cases e⟩
def FU(i j:Nat)(ρ:Ev):Z Bx->O An
 |[.z d,.z d']=>U (.nx ((ρ.set i (U (.z d))).set j (U (.z d'))))
 |_=>Y
theorem R7(i j:Nat){px py pt:Pos}{kt k2 pt2}(o:X.calm=true)(n:X.N.Nodup)(c:Vb X [a,b] fs)(hi:X.N[i]?=U x:=by rfl)(u:X.N[j]?=U y:=by rfl)(w:i≠j:=by decide)(hx:X.env.scope.names.lookup x=U .local:=by rfl)(g:X.env.scope.names.lookup y=U .local:=by rfl)(l:swappedStores [.Tuple [.Name x px,.Name y py] kt pt] (.Tuple [a,b] k2 pt2) X.env=pure (U [x,y]):=by rfl)(hs:swapsWithSole [.Tuple [.Name x px,.Name y py] kt pt] (.Tuple [a,b] k2 pt2) pos.line X.env=pure false:=by rfl):K4 X (.Assign [.Tuple [.Name x px,.Name y py] kt pt] (.Tuple [a,b] k2 pt2) pos) (λρ=>(fs ρ).bind (FU i j ρ)):=⟨have c:=c.run;Oi (l6 o n hi u w hx g c l hs) λD σ H h=>by
 obtain⟨H0,ρ,r,E,e,q⟩:=h;obtain⟨bs,eb,e⟩:=AT e;refine⟨H0,ρ,bs,E,eb,λvs H1 s m=>?_⟩;unfold FU at e;split at e
 ·rename_i d f;cases e;cases m with
  |cons p t=>
   cases t with
   |cons p' v=>
    cases v;refine⟨_,_,rfl,q _ _ ?_⟩;exact((E.grow s).set (b:=.z d) (AV.refl H1) p (.inr S) trivial).set (b:=.z f) (AV.refl H1) p' (.inr S) trivial
 ·cases e⟩
def Zk(ρ:Ev)(i:Nat):Bx->O An
 |.z d=>match ρ[i]? with
  |some (U (.o ds))=>if ds.length<AA then U (.nx (ρ.set i (U (.o (ds++[d])))))else Y
  |_=>Y
 |_=>Y
theorem bM.af7{ρ:Ev}{c0 c1:Bx}{a:A1}{u:HO}(E:bM K H0 H σ ρ)(h:ρ[i]?=U (U c0))(w:uO c0=true)(hs:σ[i]?=U (U (.ref a)))(k:Kp H (B0 H a u))(r:bh K (B0 H a u) c1 (.ref a)):
  bM K H0 (B0 H a u) σ (ρ.set i (U c1)):=by
 have hi:i<ρ.length:=(List.getElem?_eq_some_iff.mp h).1;have hb:H0 a=Y:=E.new i c0 a h w hs;have lo:∀c,uO c=true->loose c=true:=λc I=>by cases c<;>first|rfl|cases I
 refine⟨by rw[km];exact E.len,λj y e=>?_,λj D c f y e1 x e2 e3 F M=>?_,λc o e=>?_,λj c f e1 x e2=>?_⟩
 ·rcases BB e with⟨rfl,e',_⟩|⟨C,e'⟩
  ·cases e';exact⟨_,hs,r⟩
  ·obtain⟨v,e1,t⟩:=E.val j y e';refine⟨v,e1,?_⟩;have A:∀f,v=.ref f->loose y=true->f≠a:=λf ev N z=>by
    subst z;exact C (E.own i j c0 _ _ h w hs e' N (by rw[e1,ev])).symm
   cases y with
   |z d=>exact AW.kp k t
   |l B=>
    obtain⟨f,s,rfl,q,p⟩:=t;refine⟨f,s,rfl,?_,p.kp k⟩;have g:=A f S rfl;rcases q with q|⟨o,q⟩
    ·exact .inl (by rw[aP g];exact q)
    ·exact .inr ⟨o,by rw[aP g];exact q⟩
   |o B=>
    obtain⟨f,s,rfl,q,p⟩:=t;have g:=A f S rfl;exact⟨f,s,rfl,by rw[aP g];exact q,p.kp k⟩
   |n B=>
    obtain⟨f,s,rfl,q,p⟩:=t;refine⟨f,s,rfl,?_,p.kp k⟩;have g:=A f S rfl;rcases q with q|⟨o,q⟩
    ·exact .inl (by rw[aP g];exact q)
    ·exact .inr ⟨o,by rw[aP g];exact q⟩
   |m B=>
    obtain⟨f,s,rfl,q,p⟩:=t;have g:=A f S rfl;exact⟨f,s,rfl,by rw[aP g];exact q,p.1.kp k,p.2⟩
 ·have back:∀(m:Nat) (b:Bx),(ρ.set i (U c1))[m]?=U (U b)->loose b=true->∃b0,ρ[m]?=U (U b0)/\loose b0=true/\(uO b=true->uO b0=true):=λm b e l=>by
   rcases BB e with⟨rfl,e',_⟩|⟨C,e'⟩
   ·exact⟨_,h,lo _ w,λ_=>w⟩
   ·exact⟨b,e',l,λz=>z⟩
  obtain⟨b0,q1,q2,J⟩:=back j _ e1 (lo _ x);obtain⟨b1,L,G,_⟩:=back D _ e3 F;exact E.own j D b0 f b1 q1 (J x) e2 L G M
 ·rw[aP (bH e hb)];exact E.base c o e
 ·rcases BB e1 with⟨rfl,e',_⟩|⟨C,e'⟩
  ·exact E.new _ c0 f h w e2
  ·exact E.new j c f e' x e2
theorem bM.R0{ρ:Ev}{ds es:Z Dt}{a:A1}{us:Z V}(E:bM K H0 H σ ρ)(h:ρ[i]?=U (U (.o ds)))(hs:σ[i]?=U (U (.ref a)))(b:H a=U (.lst vs))(r:aK K H es us):
  bM K H0 (B0 H a (.lst us)) σ (ρ.set i (U (.o es))):=E.af7 h S hs (.lst b) ⟨a,us,rfl,aU,r.kp (.lst b)⟩
theorem oW(i:Nat){p:Pos}(he:QV X e f)(B:X.N[i]?=U x:=by rfl)(t:U3 X.env.scope x:=by first|exact JS rfl|exact QY (JS S)|exact QY (QY S))(y:(x==("__debug__":AJ))=false:=by decide)(o:(x==("__classdict__":AJ))=false:=by decide)(m:A9 [e] X.env=[(false,eval e X.env)]:=by rfl)(G:attributeBase (.Name x p) "append" X.env (eval (.Name x p) X.env)=eval (.Name x p) X.env:=by rfl)(n:((AD cpos (A9 [e] X.env)).all (λx=>!x.1)&&(backToKw cpos (keywordEach [] X.env)).all (λx=>x.1.isSome)&&decide ([e].length+([]:Z AC).length+(if([]:Z AC).isEmpty then 0 else 1)<30))=true:=by rfl)(s:(apos.endLine==cpos.line)=true:=by rfl)(hs:swapsWith (.Call (.Attribute (.Name x p) "append" apos) [e] [] cpos) Y pos.line X.env=pure false:=by rfl):K4 X (.Expr (.Call (.Attribute (.Name x p) "append" apos) [e] [] cpos) pos) (λρ=>(f ρ).bind (Zk ρ i)):=⟨have he:=he.run;Oi (yj (U8 Ya PySem.F.slot_list_append PySem.F.type_list_append Jy (rH (i:=i) B t y o) (bw he d7 (by rw[m]<;>rfl)) G n s (by rw[m]<;>rfl) S) hs) λD σ H h=>by
  obtain⟨H0,ρ,r,E,e,q⟩:=h;obtain⟨b,eb,e⟩:=AT e;cases b with
  |z d=>
   simp only[Zk]at e;split at e
   ·rename_i ds j;split at e
    ·rename_i C;cases e;obtain⟨v,e1,a,vs,rfl,g,l⟩:=E.val i _ j;refine⟨_,e1,.inl ⟨rfl,vs,.inl (.inl g)⟩,H0,ρ,_,E,eb,λu H1 c I w=>?_⟩;have A:=E.grow c;refine⟨a,vs,u,rfl,rfl,c _ _ g,by rw[l.length];exact C,q _ _ ?_⟩;exact A.R0 j e1 (c _ _ g) ((l.kp (.of c)).append (aK.cons w aK.nil))
    ·cases e
   ·cases e
  |_=>cases e⟩
end
def GY(x:AJ):It:=⟨λi _=>i<x.cps.size,λi H v H'=>H'=H/\∃c,x.cps[i]?=U c/\v=.str ⟨#[c]⟩,λi _=>x.cps.size<=i⟩
def UX(h:A6)(it:A1)(x:AJ)(i:Nat):Prop:=∃t,h.IsStrIter it "str_ascii_iterator" x t i\/h.IsStrIter it "str_iterator" x t i
theorem Oq(it:A1)(x:AJ):C8 P w K tg (GY x) [it] it (λi h=>UX h it x i) where
 mem:=by simp
 obj:=λi h st b hb=>by
  have e:b=it:=by simpa using hb
  subst e;obtain⟨t,⟨o,e,c,d⟩|⟨o,e,c,d⟩⟩:=st
  ·exact⟨o,e,λv z=>by rw[d]at z;cases z⟩
  ·exact⟨o,e,λv z=>by rw[d]at z;cases z⟩
 keep:=λi h h' st k=>by
  obtain⟨t,⟨o,e,c⟩|⟨o,e,c⟩⟩:=st
  ·exact⟨t,.inl ⟨o,k it (by simp) o e,c⟩⟩
  ·exact⟨t,.inr ⟨o,k it (by simp) o e,c⟩⟩
 item:=by
  intro X m n q u i AN s σ H E I f st A;subst m n q;obtain⟨f0,f1,f2,j,a,l⟩:=f it (by simp);have hi:i<x.cps.size:=A;have hx:x.cps[i]?=U x.cps[i]:=by simp[hi]
  obtain⟨t,st|st⟩:=st
  ·refine wpAny_pyNext_ascii_item st hx λh' g y=>?_;have p:L2.AU X AN σ H { s with heap:=h',toks:=s.toks+1 }:=I.turned (λb o hb e=>(y.2 b hb).trans e) f0 f1 j a l;obtain⟨o,e,c,d⟩:=id g;exact⟨_,rfl,Jq (s:={ s with heap:=h',toks:=s.toks+1 }) e c d (by decide) ⟨.str ⟨#[x.cps[i]]⟩,H,p,⟨_,rfl⟩,⟨rfl,_,hx,rfl⟩,⟨t,.inl g⟩,λb hb=>(f b hb).1⟩⟩
  ·refine wpAny_pyNext_wide_item st hx λh' g y=>?_;have p:L2.AU X AN σ H { s with heap:=h',toks:=s.toks+1 }:=I.turned (λb o hb e=>(y.2 b hb).trans e) f0 f1 j a l;obtain⟨o,e,c,d⟩:=id g;exact⟨_,rfl,Jq (s:={ s with heap:=h',toks:=s.toks+1 }) e c d (by decide) ⟨.str ⟨#[x.cps[i]]⟩,H,p,⟨_,rfl⟩,⟨rfl,_,hx,rfl⟩,⟨t,.inr g⟩,λb hb=>(f b hb).1⟩⟩
 done:=by
  intro X m n q u i AN s σ H E I f st A;subst m n q;obtain⟨f0,f1,f2,j,a,l⟩:=f it (by simp);have hx:x.cps[i]?=Y:=by have:x.cps.size<=i:=A;simp[this]
  obtain⟨t,st|st⟩:=st
  ·exact wpAny_pyNext_ascii_end (I.ok.hd u) st hx λh' eb=>⟨rfl,I.turned (t':=s.toks) (λb o hb e=>eb b o hb e) f0 f1 j a l⟩
  ·exact wpAny_pyNext_wide_end (I.ok.hd u) st hx λh' eb=>⟨rfl,I.turned (t':=s.toks) (λb o hb e=>eb b o hb e) f0 f1 j a l⟩
 self:=λ_ _ _ _ _ st h=>by
  obtain⟨t,st|st⟩:=st
  ·exact wpAny_pyIter_striter_ascii st h
  ·exact wpAny_pyIter_striter_wide st h
def b8(K:B4)(tl:TE):TI:=λσ H R=>tl σ H λx H1=>(∃a,x=.ref a/\(∃xs,qO K H1 a xs)/\R (Fn K a) H1)\/(∃a,x=.ref a/\(∃xs,yh K H1 a xs)/\R (IG K a) H1)\/∃y,x=.str y/\R (GY y) H1
theorem R8{l:Expr}{tl:TE}(j:PE X l tl):PI X tg l (b8 X.K tl):=by
 intro AN s σ H R I h;refine gM (j AN s σ H _ I h) λv s1 ⟨x,H1,I1,r1,q1⟩=>?_;have c:∀(o:AE) (b:A1),b∈[s1.heap.objs.size]->qD X AN H1 b:=λo b hb=>by
  have e:b=s1.heap.objs.size:=by simpa using hb
  subst e;exact I1.N8 (zg _) (I1.hok.fresh (zg _))
 rcases q1 with⟨a,e,⟨xs,d⟩,q⟩|⟨a,e,⟨xs,d⟩,q⟩|⟨y,e,q⟩
 ·subst e;cases r1;obtain⟨AQ,i,p,g⟩:=I1.list d;refine yY p.isList ?_;exact⟨s1.heap.objs.size,[s1.heap.objs.size],_,_,H1,rfl,I1.kept (t':=s1.toks) λb o e=>zd _ e,Wt a _,⟨_,zv _ rfl,rfl,rfl⟩,c default,q⟩
 ·subst e;cases r1;obtain⟨AQ,i,p,g⟩:=I1.tuple d;refine wpAny_pyIter_tuple (show s1.heap.IsTuple a AQ.toArray from p) ?_;exact⟨s1.heap.objs.size,[s1.heap.objs.size],_,_,H1,rfl,I1.kept (t':=s1.toks) λb o e=>zd _ e,RD a _,⟨_,zv _ rfl,rfl,rfl⟩,c default,q⟩
 ·subst e;obtain⟨t,rfl⟩:=r1;cases f:y.cps.all (· < 128)with
  |true=>
   refine wpAny_pyIter_ascii f ?_;exact⟨s1.heap.objs.size,[s1.heap.objs.size],_,_,H1,rfl,I1.kept (t':=s1.toks) λb o e=>zd _ e,Oq _ y,⟨t,.inl ⟨_,zv _ rfl,rfl,rfl⟩⟩,c default,q⟩
  |false=>
   refine wpAny_pyIter_wide f ?_;exact⟨s1.heap.objs.size,[s1.heap.objs.size],_,_,H1,rfl,I1.kept (t':=s1.toks) λb o e=>zd _ e,Oq _ y,⟨t,.inr ⟨_,zv _ rfl,rfl,rfl⟩⟩,c default,q⟩
def B1(K:B4)(J:It)(ds:Z Dt)(Hs:Hp):Prop:=∀(i:Nat) (H:Hp),AV Hs H →
 (∀d,ds[i]?=U d->J.go i H/\∀x H',J.yld i H x H'->AV H H'/\AW K H' d x)/\(ds.length<=i->J.stop i H)
theorem B1.of{ds:Z Dt}(h:∀(i:Nat) (H:Hp),AV Hs H →
  (∀d,ds[i]?=U d->J.go i H/\∀x H',J.yld i H x H'->H'=H/\AW K H d x)/\(ds.length<=i->J.stop i H)):B1 K J ds Hs:=λi H s=>
 ⟨λd e=>⟨((h i H s).1 d e).1,λx H' y=>by
  obtain⟨rfl,r⟩:=((h i H s).1 d e).2 x H' y;exact⟨AV.refl _,r⟩⟩,(h i H s).2⟩
def BH(x:AJ):Z Dt:=x.cps.toList.map λc=>.str ⟨#[c]⟩
theorem B1.list{ds:Z Dt}(h:qO K Hs a vs)(r:aK K Hs ds vs):B1 K (Fn K a) ds Hs:=.of λi H s=>by
 have h':=s.seq h;have c:=r.kp (.of s);refine⟨λd e=>?_,λe=>⟨vs,h',by rw[r.length];exact e⟩⟩;obtain⟨v,ev,b⟩:=c.get e;refine⟨⟨vs,v,h',ev⟩,λx H' y=>?_⟩;obtain⟨y1,y2⟩:=y;have:=y2 vs h';rw[ev]at this;cases this;exact⟨y1,b⟩
theorem B1.tup{ds:Z Dt}(h:yh K Hs a vs)(r:aK K Hs ds vs):B1 K (IG K a) ds Hs:=.of λi H s=>by
 have h':=(Kp.of s).sqT h;have c:=r.kp (.of s);refine⟨λd e=>?_,λe=>⟨vs,h',by rw[r.length];exact e⟩⟩;obtain⟨v,ev,b⟩:=c.get e;refine⟨⟨vs,v,h',ev⟩,λx H' y=>?_⟩;obtain⟨y1,y2⟩:=y;have:=y2 vs h';rw[ev]at this;cases this;exact⟨y1,b⟩
theorem B1.str(x:AJ):B1 K (GY x) (BH x) Hs:=.of λi H s=>by
 refine⟨λd e=>?_,λe=>?_⟩
 ·unfold BH at e;rw[ZN]at e;cases h:x.cps.toList[i]? with
  |none=>rw[h]at e;cases e
  |some c=>
   rw[h]at e;cases e;have b:x.cps[i]?=U c:=by simpa using h
   have hi:i<x.cps.size:=by
    have:=(List.getElem?_eq_some_iff.mp h).1;simpa using this
   refine⟨hi,λv H' y=>?_⟩;obtain⟨y1,f,a,rfl⟩:=y;rw[b]at a;cases a;refine⟨y1,?_⟩;unfold AW;exact⟨rfl,by show(1:Nat)<=AA;decide⟩
 ·have:(BH x).length=x.cps.size:=by simp[BH]
  show x.cps.size<=i;omega
def CJ(lo:Int)(n:Nat):Z Dt:=(List.range n).map λk=>.int (lo+(k:Nat))
theorem B1.rng(lo:Int)(n:Nat):B1 K (Fc lo n) (CJ lo n) Hs:=.of λi H s=>by
 refine⟨λd e=>?_,λe=>?_⟩
 ·unfold CJ at e;rw[ZN]at e;by_cases hi:i<n
  ·rw[List.getElem?_range hi]at e;cases e;refine⟨hi,λv H' y=>?_⟩;obtain⟨y1,y2⟩:=y;refine⟨y1,?_⟩;unfold AW;exact y2
  ·rw[QQ (by simp;omega)]at e;cases e
 ·have:(CJ lo n).length=n:=by simp[CJ]
  show n<=i;omega
def iF(K:B4)(f:Ev->O (Z Dt)):TI:=λσ H R=>∃H0 ρ ds,bM K H0 H σ ρ/\f ρ=U ds/\∀J H',AV H H' →
 (∀Hs,AV Hs H'->(∀a,H a=Y->Hs a=H' a)->(∀a o u,H' a=U (.HS o u)->Hs a=H' a)->(∀a vs,H' a=U (.tup vs)->Hs a=H' a)->B1 K J ds Hs)->R J H'
def NE(X:Cx)(tg iter:Expr)(f:Ev->O (Z Dt)):Prop:=PI X tg iter (iF X.K f)
structure Eg (X:Cx) (tg iter:Expr) (f:Ev->Option (List Dt)):Prop where
 run:NE X tg iter f
def GB:Bx->O (Z Dt)
 |.z (.lst ds)=>U ds
 |.z (.tup ds)=>U ds
 |.z (.str x)=>U (BH x)
 |.o ds=>U ds
 |_=>Y
section
variable{f:Ev->O Bx}{fs:Ev->O (Z Bx)}
mutual
theorem AW.part{K:B4}{H Hs:Hp}(b:∀a o u,H a=U (.HS o u)->Hs a=H a)(c:∀a vs,H a=U (.tup vs)->Hs a=H a):∀{d:Dt} {v:V},AW K H d v->AW K Hs d v
 |.non,_,h=>by simpa only[AW]using h
 |.bl _,_,h=>by simpa only[AW]using h
 |.int _,_,h=>by simpa only[AW]using h
 |.str _,_,h=>by simpa only[AW]using h
 |.tup ds,_,h=>by
  simp only[AW]at h ⊢;obtain⟨a,vs,e,q,r⟩:=h;refine⟨a,vs,e,?_,aK.part b c r⟩;rcases q with (q|⟨o,q⟩)|q
  ·exact .inl (.inl ((c _ _ q).trans q))
  ·exact .inl (.inr ⟨o,(b _ _ _ q).trans q⟩)
  ·exact .inr q
 |.lst ds,_,h=>by
  simp only[AW]at h ⊢;obtain⟨a,vs,e,q,r⟩:=h;refine⟨a,vs,e,?_,aK.part b c r⟩;rcases q with⟨o,q⟩|q
  ·exact .inl ⟨o,(b _ _ _ q).trans q⟩
  ·exact .inr q
 |.emp,_,h=>by
  simp only[AW]at h ⊢;obtain⟨a,o,e,q⟩:=h;exact⟨a,o,e,(b _ _ _ q).trans q⟩
theorem aK.part{K:B4}{H Hs:Hp}(c:∀a o u,H a=U (.HS o u)->Hs a=H a)(b:∀a vs,H a=U (.tup vs)->Hs a=H a):∀{ds:Z Dt} {vs:Z V},aK K H ds vs->aK K Hs ds vs
 |[],_,h=>by simpa only[aK]using h
 |d::ds,_,h=>by
  simp only[aK]at h ⊢;obtain⟨v,r,e,q,t⟩:=h;exact⟨v,r,e,AW.part c b q,aK.part c b t⟩
end
theorem DK(h:QV X e f):Eg X tg e (λρ=>(f ρ).bind GB):=⟨have h:=h.run;λAN s σ H R I q=>by
 refine R8 h AN s σ H R I ?_;obtain⟨H0,ρ,ds,E,e,q⟩:=q;obtain⟨b,eb,e⟩:=AT e;refine⟨H0,ρ,b,E,eb,λv H1 u y i=>?_⟩;cases b with
 |z d=>
  cases d with
  |tup p=>
   cases e;simp only[bh,AW]at i;obtain⟨a,vs,rfl,c,t⟩:=i;refine .inr (.inl ⟨a,rfl,⟨vs,c⟩,q _ _ u λHs hs w g j=>.tup ?_ (t.part g j)⟩);rcases c with (c|⟨o,c⟩)|c
   ·exact .inl (.inl ((j _ _ c).trans c))
   ·exact .inl (.inr ⟨o,(g _ _ _ c).trans c⟩)
   ·exact .inr c
  |lst p=>
   cases e;simp only[bh,AW]at i;obtain⟨a,vs,rfl,c,t⟩:=i;refine .inl ⟨a,rfl,⟨vs,c.sq⟩,q _ _ u λHs hs w g j=>.list ?_ (t.part g j)⟩;rcases c with⟨o,c⟩|c
   ·exact .inl (.inr ⟨o,(g _ _ _ c).trans c⟩)
   ·exact .inr c
  |str x=>
   cases e;simp only[bh,AW]at i;obtain⟨rfl,_⟩:=i;exact .inr (.inr ⟨x,rfl,q _ _ u λHs hs w g j=>.str x⟩)
  |_=>cases e
 |l p=>cases e
 |n p=>cases e
 |m p=>cases e
 |o p=>
  cases e;obtain⟨a,vs,rfl,c,t⟩:=i;refine .inl ⟨a,rfl,⟨vs,.inl (.inl c)⟩,q _ _ u λHs hs w g j=>.list (.inl (.inl ((w a (y a S)).trans c))) (t.part g j)⟩⟩
def Hn:Z Bx->O (Z Dt)
 |[.z (.int j)]=>if -(2 ^ 62)<=j/\j<2 ^ 62 then U (CJ 0 j.toNat)else Y
 |_=>Y
theorem lZ{p:Pos}(f:Gl X "range")(g:X.mg "range"=Y)(a:Vb X [e] fs)(hs:A9 [e] X.env=[(false,eval e X.env)]:=by rfl):Eg X tg (.Call (.Name "range" p) [e] [] pos) (λρ=>(fs ρ).bind Hn):=⟨have a:=a.run;λAN s σ H R I q=>by
 refine Wu f g a hs AN s σ H R I ?_;obtain⟨H0,ρ,ds,E,e,q⟩:=q;obtain⟨bs,eb,e⟩:=AT e;refine⟨H0,ρ,bs,E,eb,λvs H1 d c=>?_⟩;unfold Hn at e;split at e
 ·rename_i j;split at e
  ·rename_i b;cases e;cases c with
   |cons p t=>
    cases t;simp only[bh,AW]at p;subst p;exact⟨j,rfl,b.1,b.2,q _ _ d λHs _ _ _ _=>.rng 0 _⟩
  ·cases e
 ·cases e⟩
def qH(gt:Dt->Ev->O Ev)(gb:Ev->O An):Z Dt->Ev->O An
 |[],ρ=>U (.nx ρ)
 |d::ds,ρ=>(gt d ρ).bind λc=>(gb c).bind λr=>match r with
  |.nx a=>qH gt gb ds a
  |.ct a=>qH gt gb ds a
  |.bk a=>U (.nx a)
  |.rt b=>U (.rt b)
noncomputable def gk(H:Hp)(σ:L2.St)(ρ:Ev):Hp:=λa=>@ite _ (∃(i:Nat) (c:Bx),ρ[i]?=U (U c)/\uO c=true/\σ[i]?=U (U (.ref a))) (Classical.propDecidable _) Y (H a)
theorem yE{ρ:Ev}:AV (gk H σ ρ) H:=λa o e=>by
 unfold gk at e;split at e
 ·cases e
 ·exact e
theorem bM.rebase{ρ:Ev}(E:bM K Hs H σ ρ)(s:AV H0 Hs):bM K H0 H σ ρ:=⟨E.len,E.val,E.own,s.trans E.base,λi c a e1 b e2=>s.free (E.new i c a e1 b e2)⟩
theorem bM.sans{ρ:Ev}(E:bM K H0 H σ ρ):bM K (gk H σ ρ) H σ ρ:=⟨E.len,E.val,E.own,yE,λi c a e1 b e2=>by
 unfold gk;rw[zh ⟨i,c,e1,b,e2⟩]⟩
theorem bM.sub{ρ:Ev}(E:bM K H0 H σ ρ):AV H0 (gk H σ ρ):=λa o e=>by
 unfold gk;split
 ·rename_i h;obtain⟨i,c,e1,b,e2⟩:=h;rw[E.new i c a e1 b e2]at e;cases e
 ·exact E.base a o e
theorem iW{ρ:Ev}(E:bM K H0 H σ ρ)(h:∀vs,H a≠U (.lst vs))(h2:∀vs,H a≠U (.dK vs)):gk H σ ρ a=H a:=by
 unfold gk;split
 ·rename_i g;obtain⟨i,c,e1,f,e2⟩:=g;obtain⟨v,e3,d⟩:=E.val i _ e1;rw[e2]at e3;cases e3;cases c with
  |o ds=>obtain⟨e,vs,b,q,_⟩:=d;cases b;exact absurd q (h vs)
  |m ds _=>obtain⟨e,vs,b,q,_⟩:=d;cases b;exact absurd q (h2 vs)
  |_=>cases f
 ·rfl
theorem R5.rebase{K:B4}{H0 Hs:Hp}{D:Be}{r:An}(s:AV H0 Hs)(h:R5 K H0 D r):R5 K Hs D r:=by
 cases r with
 |nx ρ=>exact λσ H E=>h σ H (E.rebase s)
 |bk ρ=>exact λσ H E=>h σ H (E.rebase s)
 |ct ρ=>exact λσ H E=>h σ H (E.rebase s)
 |rt b=>exact λv H s' n r=>h v H (s.trans s') (n.old s) r
theorem qT{gt:Dt->Ev->O Ev}{gb:Ev->O An}{ds:Z Dt}{H1:Hp}{ρ:Ev}{D:Be}{r:An}(t:bM X.K H0 H1 σ ρ)(Y:B1 X.K J ds (gk H1 σ ρ))(e:qH gt gb ds ρ=U r)(q:R5 X.K H0 D r):
  ∃W:Nat->Nat->L2.St->Hp->Prop,(∃m,W 0 m σ H1)/\∀i m σ H,W i m σ H →
   (J.stop i H/\D.nx σ H)\/(J.go i H/\∃N:L2.St->Hp->Prop,(∀ σ' H',N σ' H'->∃o,o<m/\W (i+1) o σ' H')/\∀x H',J.yld i H x H'->NM X.K gt x σ H' λc H2=>tG X.K gb { D with nx:=N,ct:=N,bk:=D.nx } c H2):=by
 have s:=t.sans;have q2:=q.rebase t.sub;generalize gk H1 σ ρ=Hs at Y s q2;refine⟨λi m σ' H'=>m=ds.length-i/\i<=ds.length/\∃d,bM X.K Hs H' σ' d/\qH gt gb (ds.drop i) d=U r,⟨ds.length,by simp,Q1 _,ρ,s,by simpa using e⟩,?_⟩;rintro i m σ' H' ⟨rfl,E,d,g,e'⟩;obtain⟨y1,y2⟩:=Y i H' g.base;by_cases f:i<ds.length
 ·right;have A:ds[i]?=U ds[i]:=by simp[f]
  obtain⟨u,z⟩:=y1 _ A;rw[List.drop_eq_getElem_cons f]at e';simp only[qH]at e';obtain⟨p,e1,e'⟩:=AT e';obtain⟨l,e2,e'⟩:=AT e';refine⟨u,λc H2=>∃a,bM X.K Hs H2 c a/\qH gt gb (ds.drop (i+1)) a=U r,λc H2 ⟨a,j,e3⟩=>⟨ds.length-(i+1),by omega,rfl,f,a,j,e3⟩,λx H2 B=>?_⟩;obtain⟨w,v⟩:=z x H2 B;refine⟨Hs,d,ds[i],p,g.grow w,v,e1,λC j _=>⟨Hs,p,l,j,e2,?_⟩⟩;cases l with
  |nx a=>exact λc y h=>⟨a,h,e'⟩
  |ct a=>exact λc y h=>⟨a,h,e'⟩
  |bk a=>cases e';exact q2
  |rt b=>cases e';exact q2
 ·left;have n:ds.length<=i:=by omega
  refine⟨y2 n,?_⟩;rw[List.drop_eq_nil_of_le n]at e';cases e';exact q2 σ' H' g
theorem qI{fi:Ev->O (Z Dt)}{gt:Dt->Ev->O Ev}{gb:Ev->O An}(hp:PassesOwn (A8 X.prog X.w) X.A X.env X.xe)(s:X.calm=true)(hi:Eg X tg iter fi)(g:D1 X tg gt)(hb:R6 X body gb)(hs:∀x,foldedSetIterable iter X.env x=pure x:=by intro _;rfl):K4 X (.For tg iter body [] pos) (λρ=>(fi ρ).bind λds=>qH gt gb ds ρ):=⟨have hi:=hi.run;have g:=g.run;have hb:=hb.run;Oi (YL hp s hi g hb hs) λD σ H h=>by
 obtain⟨H0,ρ,r,E,e,q⟩:=h;obtain⟨ds,t,e⟩:=AT e;refine⟨H0,ρ,ds,E,t,λJ H1 B y=>?_⟩;have f:=E.grow B;refine qT f ?_ e q;refine y _ yE (λa b=>?_) (λa o u b=>iW f (λvs z=>by rw[b]at z;cases z) (λvs z=>by rw[b]at z;cases z)) λa vs b=>iW f (λvs z=>by rw[b]at z;cases z) (λvs z=>by rw[b]at z;cases z);unfold gk;split
 ·rename_i p;obtain⟨i,c,e1,n,e2⟩:=p;obtain⟨v,e3,j⟩:=E.val i _ e1;rw[e2]at e3;cases e3;cases c with
  |o ds=>obtain⟨l,vs,d,q,_⟩:=j;cases d;rw[b]at q;cases q
  |m ds _=>obtain⟨l,vs,d,q,_⟩:=j;cases d;rw[b]at q;cases q
  |_=>cases n
 ·rfl⟩
theorem bM.lend{ρ:Ev}{ds:Z Dt}(E:bM K H0 H σ ρ)(h:ρ[i]?=U (U (.o ds))):bM K H0 H σ (ρ.set i (U (.l ds))):=by
 have back:∀(j:Nat) (b:Bx),(ρ.set i (U (.l ds)))[j]?=U (U b)->(j=i/\b=.l ds)\/(j≠i/\ρ[j]?=U (U b)):=λj b e=>by
  rcases BB e with⟨rfl,e',_⟩|⟨f,e'⟩
  ·cases e';exact .inl ⟨rfl,rfl⟩
  ·exact .inr ⟨f,e'⟩
 refine⟨by rw[km];exact E.len,λj b e=>?_,λj k c a b e1 d e2 e3 m g=>?_,E.base,λj c a e1 d e2=>?_⟩
 ·rcases back j b e with⟨rfl,rfl⟩|⟨f,e'⟩
  ·obtain⟨v,e1,a,vs,e2,q,r⟩:=E.val _ _ h;exact⟨v,e1,a,vs,e2,.inl q,r⟩
  ·exact E.val j b e'
 ·rcases back j _ e1 with⟨rfl,z⟩|⟨f,e'⟩
  ·subst z;cases d
  ·rcases back k _ e3 with⟨rfl,z⟩|⟨p,n⟩
   ·exact E.own j _ c a _ e' d e2 h S g
   ·exact E.own j k c a b e' d e2 n m g
 ·rcases back j _ e1 with⟨rfl,z⟩|⟨f,e'⟩
  ·subst z;cases d
  ·exact E.new j c a e' d e2
def qU(i:Nat)(gt:Dt->Ev->O Ev)(gb:Ev->O An)(ρ:Ev):O An:=match ρ[i]? with
 |some (U (.o ds))=>qH gt gb ds (ρ.set i (U (.l ds)))
 |some (U (.l ds))=>qH gt gb ds ρ
 |some (U b)=>(GB b).bind λds=>qH gt gb ds ρ
 |_=>Y
theorem Zm{ρ:Ev}{ds:Z Dt}(E:bM X.K H0 H σ ρ)(h:ρ[i]?=U (U (.l ds))):∃a vs,σ[i]?=U (U (.ref a))/\qO X.K H a vs/\B1 X.K (Fn X.K a) ds (gk H σ ρ):=by
 obtain⟨v,e1,a,vs,rfl,q,r⟩:=E.val i _ h;have d:gk H σ ρ a=H a:=by
  unfold gk;split
  ·rename_i f;obtain⟨j,c,e2,e,e3⟩:=f;have:=E.own j i c a _ e2 e e3 h S e1;subst this;rw[h]at e2;cases e2;cases e
  ·rfl
 refine⟨a,vs,e1,.inl q,.list (.inl ?_) (r.part (λb o u hb=>iW E (λvs z=>by rw[hb]at z;cases z) (λvs z=>by rw[hb]at z;cases z)) λb g hb=>iW E (λvs z=>by rw[hb]at z;cases z) (λvs z=>by rw[hb]at z;cases z))⟩;rcases q with q|⟨o,q⟩
 ·exact .inl (d.trans q)
 ·exact .inr ⟨o,d.trans q⟩
theorem yF(i:Nat){p:Pos}{gt:Dt->Ev->O Ev}{gb:Ev->O An}(hp:PassesOwn (A8 X.prog X.w) X.A X.env X.xe)(L:X.calm=true)(C:D1 X tg gt)(hb:R6 X body gb)(P:X.N[i]?=U x:=by rfl)(K:U3 X.env.scope x:=by first|exact JS rfl|exact QY (JS S)|exact QY (QY S))(Q:(x==("__debug__":AJ))=false:=by decide)(J:(x==("__classdict__":AJ))=false:=by decide)(hs:∀y,foldedSetIterable (.Name x p) X.env y=pure y:=by intro _;rfl):K4 X (.For tg (.Name x p) body [] pos) (qU i gt gb):=⟨have C:=C.run;have hb:=hb.run;Oi (YL hp L (R8 (rH (i:=i) P K Q J)) C hb hs) λD σ H h=>by
 obtain⟨H0,ρ,r,E,e,q⟩:=h;unfold qU at e;split at e
 ·rename_i ds s;have I:=E.lend s;have hi:i<ρ.length:=(List.getElem?_eq_some_iff.mp s).1;obtain⟨a,vs,e1,sq,Y⟩:=Zm I (Fv _ hi);exact⟨_,e1,.inl ⟨a,rfl,⟨vs,sq⟩,qT I Y e q⟩⟩
 ·rename_i ds s;obtain⟨a,vs,e1,sq,Y⟩:=Zm E s;exact⟨_,e1,.inl ⟨a,rfl,⟨vs,sq⟩,qT E Y e q⟩⟩
 ·rename_i b M W s;obtain⟨ds,f,e⟩:=AT e;obtain⟨v,e1,g⟩:=E.val i _ s;have t:∀b o u,H b=U (.HS o u)->gk H σ ρ b=H b:=λb o u hb=>iW E (λvs z=>by rw[hb]at z;cases z) (λvs z=>by rw[hb]at z;cases z);have F:∀b G,H b=U (.tup G)->gk H σ ρ b=H b:=λb G hb=>iW E (λvs z=>by rw[hb]at z;cases z) (λvs z=>by rw[hb]at z;cases z);cases b with
  |z d=>
   cases d with
   |tup j=>
    cases f;simp only[bh,AW]at g;obtain⟨a,vs,rfl,c,B⟩:=g;refine⟨_,e1,.inr (.inl ⟨a,rfl,⟨vs,c⟩,qT E (.tup ?_ (B.part t F)) e q⟩)⟩;rcases c with (c|⟨o,c⟩)|c
    ·exact .inl (.inl ((F _ _ c).trans c))
    ·exact .inl (.inr ⟨o,(t _ _ _ c).trans c⟩)
    ·exact .inr c
   |lst j=>
    cases f;simp only[bh,AW]at g;obtain⟨a,vs,rfl,c,B⟩:=g;refine⟨_,e1,.inl ⟨a,rfl,⟨vs,c.sq⟩,qT E (.list ?_ (B.part t F)) e q⟩⟩;rcases c with⟨o,c⟩|c
    ·exact .inl (.inr ⟨o,(t _ _ _ c).trans c⟩)
    ·exact .inr c
   |str x=>
    cases f;simp only[bh,AW]at g;obtain⟨rfl,_⟩:=g;exact⟨_,e1,.inr (.inr ⟨x,rfl,qT E (.str x) e q⟩)⟩
   |_=>cases f
  |l j=>cases f
  |o j=>exact absurd S (M j)
  |n j=>cases f
  |m j=>cases f
 ·cases e⟩
end
def C7(a:Z (AJ×A1)):Z (AJ×A1)->Prop
 |[]=>True
 |(n,c)::r=>a.lookup n=U c/\C7 a r
theorem C7.get{a:Z (AJ×A1)}:∀{cl:Z (AJ×A1)},C7 a cl->∀{x:AJ} {c:A1},cl.lookup x=U c->a.lookup x=U c
 |[],_,_,_,e=>by cases e
 |(n,d)::r,h,x,c,e=>by
  rw[List.lookup_cons]at e;by_cases hx:x==n
  ·simp only[hx]at e;cases e;have:x=n:=by simpa using hx
   rw[this];exact h.1
  ·have hx:(x==n)=false:=by simpa using hx
   simp only[hx]at e;exact C7.get h.2 e
structure ML (X:Cx) (scope:Scope) (cl:List (Str×Addr)) (x:Str) (i:Nat):Prop where
 n:X.N[i]?=some x
 k:X.env.kindOf x=some .cell\/X.env.kindOf x=some .free
 k':(relabel scope X.env).names.lookup x=some .cell\/(relabel scope X.env).names.lookup x=some .free
 c:∃c,cl.lookup x=some c
def Ik(X:Cx)(scope:Scope)(cl:Z (AJ×A1)):AZ->Z Nat->Prop
 |[],[]=>True
 |x::xs,i::is=>ML X scope cl x i/\Ik X scope cl xs is
 |_,_=>False
theorem Ik.get{X:Cx}{scope:Scope}{cl:Z (AJ×A1)}:∀{xs:AZ} {is:Z Nat},Ik X scope cl xs is->xs.length=is.length/\∀(j:Nat) (x:AJ),xs[j]?=U x->∃i,is[j]?=U i/\ML X scope cl x i
 |[],[],_=>⟨rfl,λj x e=>by simp at e⟩
 |x::xs,i::is,h=>by
  obtain⟨h1,h2⟩:=h;obtain⟨l,g⟩:=Ik.get h2;refine⟨by simp[l],λj y e=>?_⟩;cases j with
  |zero=>simp at e;subst e;exact⟨i,rfl,h1⟩
  |succ j=>obtain⟨k,e1,e2⟩:=g j y (by simpa using e);exact⟨k,by simpa using e1,e2⟩
 |[],_::_,h=>h.elim
 |_::_,[],h=>h.elim
def GV(a:Z (AJ×NameKind))(x:AJ):Bool:=match a.lookup x with
 |some .cell=>true
 |_=>false
def HX(X:Cx)(a:AZ)(scope:Scope)(cl:Z (AJ×A1))(C:A1)(s₀:A2)(H₀:Hp)(fp:Z A1):Cx:=
 { X with N:=a,s₀:=s₀,H₀:=H₀,env:=compEnvC scope (cellsFrom (C+1) scope.names cl) C X.env,outer:=X.stack,ex:=fp,fn:=GV scope.names,pn:=[],xe:=λ_ _=>False }
structure GU (h:Heap) (cs:List (Str×Addr)):Prop where
 inj:∀x y c,cs.lookup x=some c->cs.lookup y=some c->x=y
 cell:∀x c,cs.lookup x=some c->∃v,h.IsCell c v
theorem jN{n:AJ}{a:α}{l:Z (AJ×α)}(h:x≠n):((n,a)::l).lookup x=l.lookup x:=by
 rw[List.lookup_cons,beq_eq_false_iff_ne.mpr h]
theorem Zn:∀(i:Z (AJ×NameKind)) (h:A6) (d:Z (AJ×A1)),GU h d->GU (pushCells h i) (cellsFrom h.objs.size i d)
 |[],_,_,x=>x
 |(n,k)::r,h,d,x=>by
  unfold pushCells cellsFrom;split
  ·have g:∀y c,d.lookup y=U c->c≠h.objs.size:=λy c e=>let ⟨_,q⟩:=x.cell y c e;Zl q.lt;have:=Zn r (h.push { cls:=.type "cell",data:=.cell Y }) ((n,h.objs.size)::d) ⟨λy z c e1 e2=>?_,λy c e=>?_⟩
   ·rwa [qv]at this
   ·by_cases a:y=n<;>by_cases f:z=n
    ·rw[a,f]
    ·subst a;rw[kR]at e1;rw[jN f]at e2;cases e1;exact absurd S (g _ _ e2)
    ·subst f;rw[kR]at e2;rw[jN a]at e1;cases e2;exact absurd S (g _ _ e1)
    ·rw[jN a]at e1;rw[jN f]at e2;exact x.inj y z c e1 e2
   ·by_cases a:y=n
    ·subst a;rw[kR]at e;cases e;exact⟨Y,_,zv _ rfl,rfl⟩
    ·rw[jN a]at e;obtain⟨v,q⟩:=x.cell y c e;exact⟨v,q.keeps λb o e=>zd _ e⟩
  ·exact Zn r h d x
theorem yG:∀(b:Z (AJ×NameKind)) (n:Nat) (a:Z (AJ×A1)) (x:AJ) (c:A1),(cellsFrom n b a).lookup x=U c->a.lookup x=U c\/n<=c
 |[],_,_,_,_,e=>.inl e
 |(m,k)::r,n,a,x,c,e=>by
  unfold cellsFrom at e;split at e
  ·rcases yG r _ _ x c e with h|h
   ·by_cases hx:x=m
    ·subst hx;rw[kR]at h;cases h;exact .inr (zg _)
    ·rw[jN hx]at h;exact .inl h
   ·exact .inr (by omega)
  ·exact yG r _ _ x c e
theorem K5:∀(b:Z (AJ×NameKind)) (n:Nat) (a:Z (AJ×A1)) (x:AJ),(x,NameKind.cell)∉b->(cellsFrom n b a).lookup x=a.lookup x
 |[],_,_,_,_=>rfl
 |(m,k)::r,n,a,x,h=>by
  unfold cellsFrom;have c:(x,NameKind.cell)∉r:=λz=>h (zo _ z);split
  ·rename_i d;rw[K5 r _ _ x c,jN λz=>h (by rw[z,<-beq_iff_eq.mp d];exact zk ..)]
  ·exact K5 r _ _ x c
theorem R9:∀(b:Z (AJ×NameKind)) (n:Nat) (a:Z (AJ×A1)) (x:AJ),((x,NameKind.cell)∈b\/∃c,a.lookup x=U c)->∃c,(cellsFrom n b a).lookup x=U c
 |[],_,_,_,h=>h.elim (λz=>by simp at z) λz=>z
 |(m,k)::r,n,a,x,h=>by
  unfold cellsFrom;split
  ·refine R9 r _ _ x ?_;by_cases hx:x=m
   ·exact .inr ⟨n,by rw[hx,kR]⟩
   ·rw[jN hx];exact h.imp_left λz=>(List.mem_cons.mp z).elim (λz=>absurd (congrArg Prod.fst z) hx) λz=>z
  ·rename_i d;exact R9 r _ _ x (h.imp_left λz=>(List.mem_cons.mp z).elim (λz=>by cases z;exact absurd S d) λz=>z)
theorem WX{g:A1}{Q:Env->A2->Prop}(h:Q (newEnv scope s.heap.objs.size g (cellsFrom (s.heap.objs.size+1) scope.names cl) qual Y .none (U env) builtinsNs) { s with heap:=pushCells (s.heap.push { cls:=.type "dict",data:=.dict #[] }) scope.names }):
  A7 M A (newFunctionEnv scope g cl [] qual Y .none (U env)) Q E s:=by
 simp only[newFunctionEnv,yT,qS];refine zb (wpAny_alloc ?_);refine zb (wpAny_layCells _ (λname a b=>by cases a==NameKind.cell<;>simp) _ _ _ _ ?_);rw[show({ s with heap:=s.heap.push { cls:=.type "dict",data:=.dict #[] } }:A2).heap.objs.size=s.heap.objs.size+1 from qv ..];rw[List.forIn_nil];exact zb (ze (ze h))
structure rM (X:Cx) (scope:Scope) (cl:List (Str×Addr)) (xs:AZ) (is:List Nat):Prop where
 clos:closureFor scope X.env=pure cl
 kind:scope.kind=.function
 cell:∀y∈scope.names,y.2=.cell->cl.lookup y.1=none
 names:∀y∈scope.names,y.2=.local->scope.names.lookup y.1=some .local
 sub:C7 X.env.cells cl
 has:∀x,((relabel scope X.env).names.lookup x=some .cell\/(relabel scope X.env).names.lookup x=some .free)->(x,NameKind.cell)∈scope.names\/∃c,cl.lookup x=some c
 cap:Ik X scope cl xs is
def z8(is:Z Nat)(σ:L2.St):L2.St:=is.map λi=>(σ[i]?).bind λv=>v
def mR(is:Z Nat)(ρ:Ev):Ev:=is.map λi=>yu ρ i
def D0(n m:Nat)(g:Dt->Ev->O Ev):Prop:=∀d ρ a,g d ρ=U a->a.length=ρ.length/\∀j,j<n\/m<=j->a[j]?=ρ[j]?
def FR(n m:Nat)(g:Z Dt->Ev->O Ev):Prop:=∀d ρ a,g d ρ=U a->a.length=ρ.length/\∀j,j<n\/m<=j->a[j]?=ρ[j]?
theorem cW{m:Nat}(h:n<=i:=by decide)(h':i<m:=by decide):D0 n m (λd ρ=>U (ρ.set i (U (.z d)))):=λd ρ b e=>by
 cases e;exact⟨by rw[km],λj a=>Fw _ (by omega)⟩
theorem Ve{m:Nat}:FR n m Bl:=λd ρ a e=>by
 cases d with
 |nil=>cases e;exact⟨rfl,λ_ _=>S⟩
 |cons=>cases e
theorem mj{m:Nat}{g:Dt->Ev->O Ev}{gs:Z Dt->Ev->O Ev}(h:D0 n m g)(hs:FR n m gs):FR n m (dW g gs):=λd ρ o e=>by
 cases d with
 |nil=>cases e
 |cons d ds=>
  simp only[dW]at e;obtain⟨l,e1,e⟩:=AT e;obtain⟨a,b⟩:=h _ _ _ e1;obtain⟨f,i⟩:=hs _ _ _ e;exact⟨f.trans a,λj c=>(i j c).trans (b j c)⟩
theorem Zo{m k:Nat}{gs:Z Dt->Ev->O Ev}(hs:FR n m gs):D0 n m (wO k gs):=λd ρ a e=>by
 cases d with
 |tup ds=>
  simp only[wO]at e;split at e
  ·exact hs _ _ _ e
  ·cases e
 |_=>cases e
def CK(gt:Dt->Ev->O Ev)(p:Ev->O Bool)(fs:Ev->O (Z Dt))(ρ:Ev):Z Dt->O (Z Dt)
 |[]=>U []
 |d::ds=>(gt d ρ).bind λa=>(p a).bind λk=>if k=true then(fs a).bind λys=>(CK gt p fs ρ ds).bind λzs=>U (ys++zs)else CK gt p fs ρ ds
def II:Bx->O (Z Dt)
 |.z y=>U [y]
 |_=>Y
def Bm(gt:Dt->Ev->O Ev)(p:Ev->O Bool)(fe:Ev->O Bx)(ρ:Ev):Z Dt->O (Z Dt):=CK gt p (λρ=>(fe ρ).bind II) ρ
theorem z9{b:Bx}{ys:Z Dt}(h:II b=U ys):∃y,b=.z y/\ys=[y]:=by
 cases b<;>cases h;exact⟨_,rfl,rfl⟩
theorem vX{gt:Dt->Ev->O Ev}{p:Ev->O Bool}{fe:Ev->O Bx}{ρ:Ev}:∀{ds out:Z Dt},Bm gt p fe ρ ds=U out->out.length<=ds.length
 |[],_,e=>by cases e;exact zg _
 |d::ds,out,e=>by
  simp only[Bm,CK]at e;obtain⟨f,_,e⟩:=AT e;obtain⟨k,_,e⟩:=AT e;cases k with
  |false=>
   rw[zC ZI]at e;exact ZH (vX (gt:=gt) (p:=p) (fe:=fe) e) (by simp)
  |true=>
   rw[zh rfl]at e;obtain⟨ys,a,e⟩:=AT e;obtain⟨zs,c,e⟩:=AT e;obtain⟨b,_,a⟩:=AT a;obtain⟨y,_,rfl⟩:=z9 a;cases e;simpa using vX (gt:=gt) (p:=p) (fe:=fe) c
def C4(X:Cx)(ifs:Z Expr)(p:Ev->O Bool):Prop:=(ifs=[]/\p=λ_=>U true)\/∃c,ifs=[c]/\PB X c p
structure Fz (X:Cx) (ifs:List Expr) (p:Ev->Option Bool):Prop where
 run:C4 X ifs p
section
variable{xs ts:AZ}{gt:Dt->Ev->O Ev}{p:Ev->O Bool}{fe:Ev->O Bx}{fi:Ev->O (Z Dt)}
theorem Zq{m:Hp}{d:A2}(a:L2.AU X AN σ m d)(O:rM X scope cl xs is)(s:∀b∈fp,qD X AN m b)(B:∀b∈fp,b<d.heap.objs.size):
  L2.AU (HX X (xs++ts) scope cl d.heap.objs.size d m fp) [] (z8 is σ++List.replicate ts.length Y) m { d with heap:=pushCells (d.heap.push { cls:=.type "dict",data:=.dict #[] }) scope.names }:=by
 obtain⟨hl,M⟩:=O.cap.get;have f:=O.sub;have a0:(d.heap.push { cls:=.type "dict",data:=.dict #[] }).objs.size=d.heap.objs.size+1:=qv ..;have w:∀b o,d.heap.get? b=U o->(pushCells (d.heap.push { cls:=.type "dict",data:=.dict #[] }) scope.names).get? b=U o:=λb o e=>pushCells_keeps _ _ b o (zd _ e);have A:GU (pushCells (d.heap.push { cls:=.type "dict",data:=.dict #[] }) scope.names) (cellsFrom (d.heap.objs.size+1) scope.names cl):=by
  rw[<-a0];refine Zn _ _ _ ⟨λx y c e1 e2=>a.ok.inj x y c (f.get e1) (f.get e2),λx c e=>?_⟩;obtain⟨v,q⟩:=a.cell x c (f.get e);exact⟨v,q.keeps λb o e=>zd _ e⟩
 have C:∀x c,(cellsFrom (d.heap.objs.size+1) scope.names cl).lookup x=U c->X.env.cells.lookup x=U c\/d.heap.objs.size<c:=λx c e=>(yG _ _ _ x c e).imp_left f.get;refine⟨⟨a.ok.mod,O.kind,a.ok.glob,a.ok.blt,zg _,A.inj,λx hx=>R9 _ _ _ x (O.has x hx),λx c hx e=>?_,a.ok.hd,a.ok.frames,.inl rfl,λb hb=>⟨Zl (B b hb),λx c e=>?_⟩,a.bs,ZH a.ok.Ys a.sz,λb o e hb=>?_,λb hb K=>?_,a.stack,a.Dq⟩,
  rfl,a.bare,Un.kept w,⟨_,(Heap.Ns.new d.heap (.type "dict")).keeps (pushCells_keeps _ _),λj x v e1 e2 _=>?_⟩,A.cell,a.hok.fresh (zg _),λx c e=>(C x c e).elim (a.jy x c) λh=>a.hok.fresh (JJ h),λq F=>absurd (show q∈([]:Z (A1×AE)) from F) (by simp),a.hok.kept w,?_⟩
 ·refine(yG _ _ _ x c e).elim (λh=>?_) λh=>JJ h;have hx:(x,NameKind.cell)∈scope.names:=by
   have hx:GV scope.names x=true:=hx;unfold GV at hx;split at hx
   ·rename_i q;exact mem_of_lookup q
   ·cases hx
  rw[O.cell _ hx rfl]at h;cases h
 ·rcases C x c e with h|h
  ·exact(s b hb).2.2.2.2.1 x c h
  ·exact jS (Nat.lt_trans (B b hb) h)
 ·obtain⟨_,_,_,z,_⟩:=s b hb;rcases z with z|z
  ·exact a.ok.Rx b o e z
  ·exact absurd (ZU (zt e) (ZH a.ok.Ys z)) (kc _)
 ·obtain⟨_,N,G,_⟩:=s b hb;rcases List.mem_cons.mp (a.Et b K)with z|z
  ·exact N z
  ·exact G z
 ·have D:j<is.length:=by
   by_cases D:j<is.length
   ·exact D
   ·rw[QI (by simp[z8];omega)]at e2;rw[jv]at e2;split at e2<;>cases e2
  have J:xs[j]?=U x:=by
   have e1:(xs++ts)[j]?=U x:=e1;rw[Z3 (by omega)]at e1;exact e1
  obtain⟨i,L,g⟩:=M j x J;have e3:σ[i]?=U (U v):=by
   rw[Z3 (by simp[z8];omega)]at e2;unfold z8 at e2;rw[ZN,L]at e2;cases q:σ[i]? with
   |none=>rw[Option.map_some,q]at e2;cases e2
   |some o=>
    rw[Option.map_some,q]at e2;have:o=U v:=by simpa using e2
    rw[this]
  have I:U3 X.env.scope x:=by
   rcases g.k with k|k
   ·exact .inr (.inl k)
   ·exact .inr (.inr k)
  obtain⟨m',a1,P⟩:=a.loc;obtain⟨u,r,l⟩:=P i x v g.n e3 I;refine⟨u,r,?_⟩;rcases l with⟨k,_⟩|⟨k,c,H,E⟩
  ·rcases g.k with t|t<;>(rw[k]at t;cases t)
  ·obtain⟨c',p⟩:=g.c;have:=f.get p;rw[H]at this;cases this;refine .inr ⟨g.k',c,(K5 _ _ _ x λz=>by rw[O.cell _ z rfl]at p;cases p).trans p,?_⟩;obtain⟨o,W,Q⟩:=E;exact⟨o,w c o W,Q⟩
 ·show(z8 is σ++List.replicate ts.length Y).length=(xs++ts).length;simp[z8,hl]
theorem bM.caps{ρ:Ev}(E:bM K H0 H σ ρ)(is:Z Nat)(n:Nat):bM K H H (z8 is σ++List.replicate n Y) (mR is ρ++List.replicate n Y):=by
 have f:∀(j:Nat) c,(mR is ρ++List.replicate n Y)[j]?=U (U c)->uO c=false:=λj c e=>by
  by_cases g:j<is.length
  ·rw[Z3 (by simp[mR];omega)]at e;unfold mR at e;rw[ZN]at e;cases q:is[j]? with
   |none=>rw[q]at e;cases e
   |some i=>
    rw[q]at e;have:yu ρ i=U c:=by simpa using e
    exact Dz this
  ·rw[QI (by simp[mR];omega),jv]at e;split at e<;>cases e
 refine⟨by simp[z8,mR],λj b e=>?_,λj k c a b e d=>absurd d (by rw[f j c e];exact ZI),AV.refl H,λj c a e d=>absurd d (by rw[f j c e];exact ZI)⟩;by_cases g:j<is.length
 ·rw[Z3 (by simp[mR];omega)]at e;rw[Z3 (by simp[z8];omega)];unfold mR at e;unfold z8;rw[ZN]at e ⊢;cases q:is[j]? with
  |none=>rw[q]at e;cases e
  |some i=>
   rw[q]at e;have:yu ρ i=U b:=by simpa using e
   obtain⟨v,e1,r⟩:=Oj E this;exact⟨v,by simp[e1],r⟩
 ·rw[QI (by simp[mR];omega),jv]at e;split at e<;>cases e
theorem bM.forget{ρ ρ':Ev}(E:bM K H0 H σ ρ')(f:ρ'.length=ρ.length)(h:∀(j:Nat) b,ρ[j]?=U (U b)->ρ'[j]?=U (U b)):bM K H0 H σ ρ:=
 ⟨E.len.trans f,λj b e=>E.val j b (h j b e),λi j c a b e1 d e2 e3 g l=>E.own i j c a b (h _ _ e1) d e2 (h _ _ e3) g l,E.base,λi c a e1 d e2=>E.new i c a (h _ _ e1) d e2⟩
structure DC (Hb:Hp) (σ:L2.St) (ρ:Ev) (n:Nat):Prop where
 own:∀(j:Nat) c,ρ[j]?=some (some c)->uO c=false
 lt:∀(j:Nat) b,ρ[j]?=some (some b)->j<n
 old:∀(j:Nat) c a,ρ[j]?=some (some c)->loose c=true->σ[j]?=some (some (.ref a))->Hb a≠none
def Fx(σ σ':L2.St)(ρ:Ev):Prop:=∀(j:Nat) c,loose c=true->ρ[j]?=U (U c)->σ'[j]?=σ[j]?
theorem DC.fx{d:Hp}{σ':L2.St}{ρ:Ev}(P:DC d σ ρ n)(f:Fx σ σ' ρ):DC d σ' ρ n:=⟨P.own,P.lt,λj c a e b ea=>P.old j c a e b (by rw[<-f j c b e];exact ea)⟩
theorem FB{ρ:Ev}(E:bM K H0 H σ ρ)(j:Nat)(c:Bx)(a:A1)(e:ρ[j]?=U (U c))(h:loose c=true)(ea:σ[j]?=U (U (.ref a))):H a≠Y:=λz=>by
 obtain⟨v,e1,b⟩:=E.val j _ e;rw[ea]at e1;cases e1;cases c with
 |z d=>cases h
 |l g=>
  obtain⟨f,vs,e2,q,_⟩:=b;cases e2;rcases q with q|⟨o,q⟩<;>(rw[z]at q;cases q)
 |n g=>
  obtain⟨f,vs,e2,q,_⟩:=b;cases e2;rcases q with q|⟨o,q⟩<;>(rw[z]at q;cases q)
 |o g=>
  obtain⟨f,vs,e2,q,_⟩:=b;cases e2;rw[z]at q;cases q
 |m g _=>
  obtain⟨f,vs,e2,q,_⟩:=b;cases e2;rw[z]at q;cases q
theorem bM.grown{g:Hp}{ρ:Ev}{o:HO}(E:bM K g H σ ρ)(P:DC g σ ρ n)(h:g D=Y)(kp:Kp H (B0 H D o)):bM K g (B0 H D o) σ ρ:=by
 refine⟨E.len,λj b e=>?_,λj k c a b e p=>absurd p (by rw[P.own j c e];exact ZI),λc o e=>?_,λj c a e p=>absurd p (by rw[P.own j c e];exact ZI)⟩
 ·obtain⟨v,ev,i⟩:=E.val j b e;refine⟨v,ev,?_⟩;cases b with
  |z d=>exact AW.kp kp i
  |o t=>have:=P.own j _ e;cases this
  |m t _=>have:=P.own j _ e;cases this
  |n t=>
   obtain⟨a,vs,rfl,q,s⟩:=i;refine⟨a,vs,rfl,?_,s.kp kp⟩;have f:a≠D:=λz=>P.old j _ _ e S ev (by rw[z];exact h);exact q.imp (λq=>by rw[aP f];exact q) λ⟨o,q⟩=>⟨o,by rw[aP f];exact q⟩
  |l t=>
   obtain⟨a,vs,rfl,q,s⟩:=i;refine⟨a,vs,rfl,?_,s.kp kp⟩;have f:a≠D:=λz=>P.old j _ _ e S ev (by rw[z];exact h);exact q.imp (λq=>by rw[aP f];exact q) λ⟨o,q⟩=>⟨o,by rw[aP f];exact q⟩
 ·rw[aP (bH e h)];exact E.base c o e
def Zr(X:Cx)(el:A1->Env->Sem Unit)(fs:Ev->O (Z Dt))(Ac:A1->Hp->Z Dt->HO->Prop)(N n:Nat):Prop:=∀(AN:Z (A1×AE)) (s:A2) (σ:L2.St) (H a:Hp) (ρ:Ev) (D:A1) (o:HO) (b ys:Z Dt),L2.AU X AN σ H s->bM X.K a H σ ρ->DC a σ ρ n->a D=Y->fs ρ=U ys->H D=U o->Ac D H b o->b.length+ys.length<=N →
 A7 (A8 X.prog X.w) X.A (el D X.env) (λ_ s'=>∃ σ' H' o',L2.AU X AN σ' H' s'/\bM X.K a H' σ' ρ/\Fx σ σ' ρ/\H' D=U o'/\Ac D H' (b++ys) o') X.xe s
theorem Zt{fs:Ev->O (Z Dt)}{Ac:A1->Hp->Z Dt->HO->Prop}{N:Nat}(h:∀(AN:Z (A1×AE)) (s:A2) (σ:L2.St) (H c:Hp) (ρ:Ev) (D:A1) (o:HO) (b ys:Z Dt),L2.AU X AN σ H s->bM X.K c H σ ρ->fs ρ=U ys->H D=U o->Ac D H b o->b.length+ys.length<=N →
  A7 (A8 X.prog X.w) X.A (el D X.env) (λ_ s'=>∃a o',L2.AU X AN σ (B0 a D o') s'/\AV H a/\Kp a (B0 a D o')/\Ac D (B0 a D o') (b++ys) o') X.xe s):Zr X el fs Ac N n:=λAN s σ H c ρ D o b ys I E P d e1 e2 a1 l=>by
 refine ZZ (h AN s σ H c ρ D o b ys I E e1 e2 a1 l) (λ_ s' ⟨a,o',I',s9,kp,a'⟩=>?_) λ_ _ z=>z;exact⟨σ,_,o',I',(E.grow s9).grown P d kp,λ_ _ _ _=>S,aU,a'⟩
structure Ot (B:Around->Bool->Prop) (P:Program) (w:World) (K:B4) (tg:Expr) (J:It) (fp:List Addr) (it:Addr) (tn:Nat->Heap->Prop):Prop where
 obj:∀i h,tn i h->∀b∈fp,∃o,h.get? b=some o/\∀v,o.data≠.cell v
 keep:∀i h h',tn i h->(∀b∈fp,∀o,h.get? b=some o->h'.get? b=some o)->tn i h'
 item:∀(X:Cx),X.prog=P->X.w=w->X.K=K->B X.A X.calm->∀(i:Nat) (AN:List (Addr×Obj)) (s:Shared) (σ:L2.St) (H:Hp) (E:B9),L2.AU X AN σ H s->(∀b∈fp,qD X AN H b)->tn i s.heap->J.go i H →
  wpAny (model P w) X.A (pyNext (.ref it)) (λr s1=>∃u,r=some u ∧
   wpAny (model P w) X.A (letOwnedTupleGo tg (.ref it) u) (λ_ s2=>∃x H',L2.AU X AN σ H' s2/\As x u/\J.yld i H x H'/\tn (i+1) s2.heap/\∀b∈fp,H' b=none) E s1) E s
 done:∀(X:Cx),X.prog=P->X.w=w->X.K=K->B X.A X.calm->∀(i:Nat) (AN:List (Addr×Obj)) (s:Shared) (σ:L2.St) (H:Hp) (E:B9),L2.AU X AN σ H s->(∀b∈fp,qD X AN H b)->tn i s.heap->J.stop i H →
  wpAny (model P w) X.A (pyNext (.ref it)) (λr s1=>r=none/\L2.AU X AN σ H s1) E s
 self:∀(A:Around) (i:Nat) (s:Shared) (Q:B9) (E:B9),tn i s.heap->Q (.ref it) s->wpAny (model P w) A (pyIter (.ref it)) Q E s
abbrev Vf:A5->Bool->Prop:=λ_ c=>c=true
theorem Zu(T:C8 P w K tg J fp it tn):Ot Vf P w K tg J fp it tn:=⟨T.obj,T.keep,T.item,T.done,T.self⟩
theorem WY{F:Expr}{d:Nat}{f4:Pos}{Ac:A1->Hp->Z Dt->HO->Prop}{fs:Ev->O (Z Dt)}{N m:Nat}{l:Hp}{ds o0 out:Z Dt}{o:HO}{ρ:Ev}{R:Result->A2->Prop}(d2:B X.A X.calm)(hx:X.xe=λ_ _=>False)(Ou:Ee X tgt gt)(g1:C4 X ifs p)(j1:Zr X el fs Ac N m)(f5:D0 n m gt)(f3:n<=m)(I:L2.AU X AN σ H s)(E:bM X.K l H σ ρ)(P:DC l σ ρ n)(hD:l D=none)(k0:H D=U o)(hA:Ac D H o0 o)(T:Ot B X.prog X.w X.K tgt J fp it tn)(st:tn 0 s.heap)(hf:∀b∈fp,qD X AN H b)(Y:B1 X.K J ds l)(h9:CK gt p fs ρ ds=U out)(hN:o0.length+out.length<=N)(b3:∀{D:A1} {H H':Hp} {t:Z Dt} {o:HO},Kp H H'->Ac D H t o->Ac D H' t o)(g6:∀(it:A0) (D:A1) (env:Env),compTurn F d it (.ref D) env=(standAt f4 >>= λ_=>pyNext it >>= λr=>match r with
   |none=>pure (.done .next)
   |some v=>letOwnedTupleGo tgt it v >>= λ_=>assign tgt env v >>= λ_=>(forIn ifs true λc r=>if r=true then isTrue c env (eval c env) >>= λok=>pure (ForInStep.yield ok)else pure (ForInStep.yield r)) >>= λok=>if ok=true then el D env >>= λ_=>again (.compLoop F d it (.ref D) env)else again (.compLoop F d it (.ref D) env)))(f1:∀{it c8:A0} {env:Env} {Q:Fin->A2->Prop} {E:B9} {s:A2},A7 (A8 X.prog X.w) X.A ((compTurn F d it c8 env).onRaise (λx=>noteFrame x env >>= λ_=>theTreesLotGoes x)) Q E s->A7 (A8 X.prog X.w) (X.A.under (.compLoop F d it c8 env)) ((A8 X.prog X.w).den (.compLoop F d it c8 env)) Q E s)(hR:∀s' σ' H' o',L2.AU X AN σ' H' s'->bM X.K l H' σ' ρ->Fx σ σ' ρ->H' D=U o'->Ac D H' (o0++out) o'->R (.ok .next) s'):
  AF (A8 X.prog X.w) X.A (.compLoop F d (.ref it) (.ref D) X.env) R s:=by
 have d0:∀{H':Hp},(∀b∈fp,H' b=none)->∀b∈fp,qD X AN H' b:=λ{H'} hn b hb=>⟨hn b hb,(hf b hb).2⟩;refine codeAny_loop S (λk s'=>∃(i:Nat) (σ':L2.St) (H':Hp) (t o2:Z Dt) (o:HO),k=ds.length-i/\i<=ds.length/\L2.AU X AN σ' H' s'/\tn i s'.heap/\(∀b∈fp,H' b=none)/\bM X.K l H' σ' ρ/\Fx σ σ' ρ/\H' D=U o/\Ac D H' t o/\CK gt p fs ρ (ds.drop i)=U o2/\t++o2=o0++out) ?_ ds.length
  ⟨0,σ,H,o0,out,o,by simp,Q1 _,I,st,λb hb=>(hf b hb).1,E,λ_ _ _ _=>S,k0,hA,by simpa using h9,rfl⟩
 rintro k s4 ⟨i,a0,H4,t,o2,o,rfl,hi,I4,e0,e3,E4,F4,a3,r4,g,ho⟩;have P4:=P.fx F4;refine f1 (wpAny_noted ?_);rw[g6];obtain⟨y1,y2⟩:=Y i H4 E4.base;by_cases b0:i<ds.length
 ·have hd:ds[i]?=U ds[i]:=by simp[b0]
  obtain⟨go,yl⟩:=y1 _ hd;rw[List.drop_eq_getElem_cons b0]at g;simp only[CK]at g;obtain⟨y,e1,g⟩:=AT g;obtain⟨k,ek,g⟩:=AT g;obtain⟨f0,c0⟩:=f5 _ _ _ e1;have back:∀{a2:L2.St} {H5:Hp},bM X.K l H5 a2 y->bM X.K l H5 a2 ρ:=λE5=>E5.forget f0 λj b e=>by rw[c0 j (.inl (P.lt j b e))];exact e
  refine zb (Kb (zb ?_));refine gM (T.item X S S S d2 i AN s4 a0 H4 _ I4 (d0 e3) e0 go) λr s5 ⟨u,hr,h5⟩=>?_;subst hr;refine zb (gM h5 λ_ s6 ⟨x,H6,I6,r6,y6,st6,fr6⟩=>?_);obtain⟨sm,rx⟩:=yl x H6 y6;have E4:=E4.grow sm;have a3:=sm _ _ a3;have r4:=b3 (.of sm) r4;have g2:=I6.pinned (d0 fr6) (T.obj _ _ st6);have ha:=Ou _ s6 a0 H6 x u (λσ' H'=>H'=H6/\bM X.K l H6 σ' y/\Lo a0 ρ σ' y) g2 r6 ⟨l,ρ,ds[i],y,E4,rx,e1,λσ' E' L'=>⟨rfl,E',L'⟩⟩;rw[hx]at ha;refine zb (ZZ ha (λ_ s7 h7=>?_) λ_ _ z=>z.elim);obtain⟨W,H7,I7,rfl,E7,L7⟩:=h7;have P7:DC l W y m:=by
   refine⟨λj c e=>?_,λj c e=>?_,λj c a e C ea=>?_⟩
   ·cases c with
    |o ds=>exact P.own j _ (L7 j _ S e).1
    |m ds _=>exact P.own j _ (L7 j _ S e).1
    |_=>rfl
   ·refine Nat.lt_of_not_le λh=>?_;rw[c0 j (.inr h)]at e;exact absurd (ZU (P.lt j c e) f3) (Nat.not_lt.mpr h)
   ·obtain⟨e',ee⟩:=L7 j c C e;exact P4.old j c a e' C (by rw[<-ee];exact ea)
  have d3:∀{a2:L2.St},Fx W a2 y->Fx σ a2 ρ:=λf j c C e=>by
   have e':y[j]?=U (U c):=by rw[c0 j (.inl (P.lt j c e))];exact e
   exact(f j c C e').trans ((L7 j c C e').2.trans (F4 j c C e))
  have ht:A7 (A8 X.prog X.w) X.A (forIn ifs true λc r=>if r=true then do let ok <-isTrue c X.env (eval c X.env);pure (ForInStep.yield ok)else pure (ForInStep.yield r))
    (λok G=>ok=k/\∃q,L2.AU X (AN++zW fp s6.heap) W q G/\AV H7 q) (notedBy (A8 X.prog X.w) X.A X.env λe s'=>R (.error e) s') s7:=by
   rcases g1 with⟨rfl,rfl⟩|⟨c,rfl,hc⟩
   ·cases ek;exact wpAny_tests_nil ⟨rfl,H7,I7,AV.refl H7⟩
   ·refine wpAny_tests_one ?_;have:=hc _ s7 W H7 (λb q=>b=k/\AV H7 q) I7 ⟨l,y,k,E7,ek,λq G=>⟨rfl,G⟩⟩;rw[hx]at this;exact ZZ this (λb G ⟨q,I8,eb,s8'⟩=>⟨eb,q,I8,s8'⟩) λ_ _ z=>z.elim
  refine zb (ZZ ht (λok G h8=>?_) λ_ _ z=>z);obtain⟨rfl,q,I8,L⟩:=h8;have Zv:∀{a1:L2.St} {M:Hp} {s9:A2},L2.AU X (AN++zW fp s6.heap) a1 M s9->L2.AU X AN a1 M s9/\tn (i+1) s9.heap/\∀b∈fp,M b=none:=λ{a1 M s9} I9=>by
   refine⟨I9.uK,T.keep _ _ _ st6 λb hb o e=>(I9.pin (b,o) (ZA _ (ZA _ (rJ hb e)))).1,λb hb=>?_⟩;obtain⟨o,e,d⟩:=T.obj _ _ st6 b hb;exact(I9.pin (b,o) (ZA _ (ZA _ (rJ hb e)))).2.1
  cases ok with
  |false=>
   rw[zC ZI]at g;obtain⟨I9,i0,j2⟩:=Zv I8;exact ze ⟨rfl,ds.length-(i+1),by omega,i+1,W,q,t,o2,o,rfl,b0,I9,i0,j2,back (E7.grow L),d3 (λ_ _ _ _=>S),L _ _ a3,b3 (.of L) r4,g,ho⟩
  |true=>
   rw[zh rfl]at g;obtain⟨ys,eb,g⟩:=AT g;obtain⟨zs,e5,g⟩:=AT g;cases g;have C:=congrArg List.length ho;simp only[zS]at C;have he:=j1 _ G W q l y D o t ys I8 (E7.grow L) P7 hD eb (L _ _ a3) (b3 (.of L) r4) (by omega);rw[hx]at he;refine zb (ZZ he (λ_ k1 i3=>?_) λ_ _ z=>z.elim);obtain⟨a1,M,o',i1,E9,F9,g8,a5⟩:=i3;obtain⟨i5,f2,i4⟩:=Zv i1;exact ze ⟨rfl,ds.length-(i+1),by omega,i+1,a1,M,t++ys,zs,o',rfl,b0,i5,f2,i4,back E9,d3 F9,g8,a5,e5,by rw[Q4];exact ho⟩
 ·have d1:ds.length<=i:=by omega
  rw[List.drop_eq_nil_of_le d1]at g;cases g;refine zb (Kb (zb ?_));refine gM (T.done X S S S d2 i AN s4 a0 H4 _ I4 (d0 e3) e0 (y2 d1)) λr s5 ⟨hr,I5⟩=>?_;subst hr;rw[ZY]at ho;exact ze (hR s5 a0 H4 o I5 E4 F4 a3 (by rw[<-ho];exact r4))
theorem JC{d:Expr}{mk:Sem A0}{o0:AE}{O0:HO}{Ac:A1->Hp->Z Dt->HO->Prop}{fs:Ev->Option (Z Dt)}{N m:Nat}{H2:Hp}{a:A2}{ds out:Z Dt}{ρ:Ev}(O:rM X scope cl xs is)(d1:B X.A X.calm)(Ou:∀C n t fp,Ee (HX X (xs++ts) scope cl C n t fp) tgt gt)(e5:∀C n t fp,C4 (HX X (xs++ts) scope cl C n t fp) ifs p)(h9:∀C n t fp,Zr (HX X (xs++ts) scope cl C n t fp) el fs Ac N m)(c8:D0 is.length m gt)(h7:is.length<=m)(I2:L2.AU X AN σ H2 a)(Ec:bM X.K H2 H2 (z8 is σ++List.replicate ts.length none) (mR is ρ++List.replicate ts.length none))(T:Ot B X.prog X.w X.K tgt J fp it tn)(st:tn 0 a.heap)(L:∀b∈fp,qD X AN H2 b)(Y:B1 X.K J ds H2)(g2:CK gt p fs (mR is ρ++List.replicate ts.length none) ds=U out)(e4:out.length<=N)(d3:∀(D C:A1) (s':A2) (H':Hp) (o:HO),H2 D=none->L2.AU X AN σ H' s'->qD X AN H' C->(∃m,s'.heap.Ns C m)->AV H2 H'->H' D=U o->Ac D H' out o->RR (.ref D) C (.ok .next) s')(d2:∀{Q:B9},Q (.ref a.heap.objs.size) { a with heap:=a.heap.push o0 }->A7 (A8 X.prog X.w) X.A mk Q E a)(g6:∀H,gn X.prog X.w H (a.heap.push o0) a.heap.objs.size O0)(e3:∀H,Ac a.heap.objs.size H [] O0)(a3:∀{D:A1} {H H':Hp} {M:Z Dt} {o:HO},Kp H H'->Ac D H M o->Ac D H' M o)(e1:∀(it:A0) (D:A1) (env:Env),compTurn d 0 it (.ref D) env=(standAt iter.pos >>= λ_=>pyNext it >>= λr=>match r with
   |none=>pure (.done .next)
   |some v=>letOwnedTupleGo tgt it v >>= λ_=>assign tgt env v >>= λ_=>(forIn ifs true λc r=>if r=true then isTrue c env (eval c env) >>= λok=>pure (ForInStep.yield ok)else pure (ForInStep.yield r)) >>= λok=>if ok=true then el D env >>= λ_=>again (.compLoop d 0 it (.ref D) env)else again (.compLoop d 0 it (.ref D) env)))(b0:∀{it f:A0} {env:Env} {R:Result->A2->Prop} {s:A2},AF (A8 X.prog X.w) X.A (.compLoop d 0 it f env) R s->A7 (A8 X.prog X.w) X.A (pyIter it) (λe0 s'=>AF (A8 X.prog X.w) X.A (.compLoop d 0 e0 f env) R s') (notedBy (A8 X.prog X.w) X.A env λx s'=>R (.error x) s') s->AF (A8 X.prog X.w) X.A (.compStart d 0 it f env) R s)(d0:∀{it f:A0} {env:Env} {Q:Fin->A2->Prop} {E:B9} {s:A2},A7 (A8 X.prog X.w) X.A ((compTurn d 0 it f env).onRaise (λx=>noteFrame x env >>= λ_=>theTreesLotGoes x)) Q E s->A7 (A8 X.prog X.w) (X.A.under (.compLoop d 0 it f env)) ((A8 X.prog X.w).den (.compLoop d 0 it f env)) Q E s):
  A7 (A8 X.prog X.w) X.A mk (λf c0=>A7 (A8 X.prog X.w) X.A (newFunctionEnv scope X.env.globals cl [] X.env.qual none .none (U X.env)) (λa1 a2=>
   AF (A8 X.prog X.w) X.A (.compStart d 0 (.ref it) f { a1 with scope:=relabel scope X.env }) (RR f a1.locals) a2) E c0) E a:=by
 refine d2 (WX ?_);have F:H2 a.heap.objs.size=none:=I2.hok.fresh (zg _);have u:L2.AU X AN σ (B0 H2 a.heap.objs.size O0) { a with heap:=a.heap.push o0 }:=
  I2.laid (t':=a.toks) (λb o e=>zd _ e) (zg _) (g6 _)
 have P:∀b∈fp,b<a.heap.objs.size:=λb hb=>let ⟨o,e,_⟩:=T.obj 0 _ st b hb;zt e;have G:∀b∈fp,qD X AN (B0 H2 a.heap.objs.size O0) b:=λb hb=>⟨by rw[aP (Zl (P b hb))];exact(L b hb).1,(L b hb).2⟩;have W:tn 0 (a.heap.push o0):=T.keep 0 _ _ st λb hb o e=>zd _ e;have y:∀b∈fp,b<(a.heap.push o0).objs.size:=λb hb=>by rw[qv];exact Qb (P b hb)
 generalize h8:({ a with heap:=a.heap.push o0 }:A2)=s3 at *
 have b3:s3.heap=a.heap.push o0:=by rw[<-h8]
 rw[<-b3]at W y;have IC:=Zq (ts:=ts) u O G y;have a0:tn 0 (pushCells (s3.heap.push { cls:=.type "dict",data:=.dict #[] }) scope.names):=T.keep 0 _ _ W λb hb o e=>pushCells_keeps _ _ b o (zd _ e);have g8:∀b∈fp,qD (HX X (xs++ts) scope cl s3.heap.objs.size s3 (B0 H2 a.heap.objs.size O0) fp) [] (B0 H2 a.heap.objs.size O0) b:=λb hb=>by
  obtain⟨f0,f1,f2,f3,I,f5⟩:=G b hb;refine⟨f0,Zl (y b hb),λz=>?_,.inl hb,λx c e z=>?_,λq hq=>absurd (show q∈([]:Z (A1×AE)) from hq) (by simp)⟩
  ·rcases List.mem_cons.mp (u.Et b z)with q|q
   ·exact f1 q
   ·exact f2 q
  ·rcases yG _ _ _ x c e with h|h
   ·exact I x c (O.sub.get h) z
   ·rw[z]at h;exact absurd (ZU (y b hb) (Nat.le_of_succ_le h)) (kc _)
 have P0:DC H2 (z8 is σ++List.replicate ts.length none) (mR is ρ++List.replicate ts.length none) is.length:=by
  have g:∀(j:Nat) c,(mR is ρ++List.replicate ts.length none)[j]?=U (U c)->j<is.length/\uO c=false:=λj c e=>by
   by_cases hj:j<is.length
   ·refine⟨hj,?_⟩;rw[Z3 (by simp[mR];omega)]at e;unfold mR at e;rw[ZN]at e;cases q:is[j]? with
    |none=>rw[q]at e;cases e
    |some i=>rw[q]at e;exact Dz (by simpa using e)
   ·rw[QI (by simp[mR];omega),jv]at e;split at e<;>cases e
  exact⟨λj c e=>(g j c e).2,λj c e=>(g j c e).1,FB Ec⟩
 have h:=WY (B:=B) (X:=HX X (xs++ts) scope cl s3.heap.objs.size s3 (B0 H2 a.heap.objs.size O0) fp) (R:=RR (.ref a.heap.objs.size) s3.heap.objs.size) (o0:=[]) d1 S (Ou _ _ _ _) (e5 _ _ _ _) (h9 _ _ _ _) c8 h7 IC (Ec.grow (bI F)) P0 F aU (e3 _) T a0 g8 Y g2 (by simpa using e4) a3 e1 d0 λs5 i0 H5 o5 l E5 _ g1 a5=>by
  have IB:L2.AU X AN σ H5 s5:=u.call' (ch:=fp) l.os l.base l.hok l.bare λb hb=>by
   obtain⟨f0,f1,f2,f3,I,f5⟩:=G b hb;exact⟨f3,f1,I,f5⟩
  obtain⟨m,hn,_⟩:=l.loc;exact d3 _ _ s5 H5 o5 F IB (u.N8 (zg _) l.free) ⟨m,hn⟩ E5.base g1 a5
 exact b0 h (T.self _ 0 _ _ _ a0 h)
def EQ(K:B4)(_:A1)(H:Hp)(a:Z Dt)(o:HO):Prop:=∃us,o=.lst us/\aK K H a us
theorem EQ.kp{K:B4}{D:A1}{H H':Hp}{a:Z Dt}{o:HO}(k:Kp H H'):EQ K D H a o->EQ K D H' a o:=λ⟨us,e,r⟩=>⟨us,e,r.kp k⟩
def NB(fe:Ev->O Bx):Ev->O (Z Dt):=λρ=>(fe ρ).bind II
theorem UP(h:PV X elt fe):Zr X (λD env=>do let _ <-call (.builtin "list.append") [.ref D,<-eval elt env]) (NB fe) (EQ X.K) 100000 n:=by
 refine Zt λAN s σ H Hb ρ D o o1 ys I En d hD ⟨us,e,r4⟩ hl=>?_;subst e;obtain⟨b,eb,d⟩:=AT d;obtain⟨y,rfl,rfl⟩:=z9 d;refine zb (ZZ (h AN s σ H (λv a=>AV H a/\AW X.K a y v) I ⟨Hb,ρ,_,En,eb,λv a g _ i=>⟨g,i⟩⟩) (λv g p=>?_) λ_ _ z=>z);obtain⟨c,a,u,m,f,i⟩:=p;have j:=f _ _ hD;refine zb (ZZ ((Jy (X:=X)) _ g σ a (.ref D) [c] (.ref D) [v] (λw l=>l=B0 a D (.lst (us++[c]))) u S (.cons m .nil) ⟨_,us,c,rfl,rfl,j,by rw[r4.length];have h0:(100000:Nat)<AA:=(by decide);simp at hl;omega,rfl⟩) (λw x t=>?_) λ_ _ z=>z);obtain⟨A,l,q,_,rfl⟩:=t;have kp:Kp a (B0 a D (.lst (us++[c]))):=.lst j;exact ze ⟨a,_,q,f,kp,us++[c],rfl,((r4.kp (.of f)).append (aK.cons i aK.nil)).kp kp⟩
theorem FJ{H2:Hp}{l:A2}{ds out:Z Dt}{ρ:Ev}(O:rM X scope cl xs is)(F:B X.A X.calm)(t:∀C i j fp,Ee (HX X (xs++ts) scope cl C i j fp) tgt gt)(H:∀C i j fp,C4 (HX X (xs++ts) scope cl C i j fp) ifs p)(M:∀C i j fp,PV (HX X (xs++ts) scope cl C i j fp) elt fe)(y:D0 is.length (is.length+ts.length) gt)(L:L2.AU X AN σ H2 l)(z:bM X.K H2 H2 (z8 is σ++List.replicate ts.length none) (mR is ρ++List.replicate ts.length none))(T:Ot B X.prog X.w X.K tgt J fp it tn)(st:tn 0 l.heap)(v:∀b∈fp,qD X AN H2 b)(Y:B1 X.K J ds H2)(I:ds.length<=100000)(q:Bm gt p fe (mR is ρ++List.replicate ts.length none) ds=U out)(G:∀(D C:A1) (s':A2) (H':Hp) (us:Z V),H2 D=none->L2.AU X AN σ H' s'->qD X AN H' C->(∃m,s'.heap.Ns C m)->AV H2 H'->H' D=U (.lst us)->aK X.K H' out us->RR (.ref D) C (.ok .next) s'):
  A7 (A8 X.prog X.w) X.A (newList []) (λs x=>A7 (A8 X.prog X.w) X.A (newFunctionEnv scope X.env.globals cl [] X.env.qual none .none (U X.env)) (λn u=>
   AF (A8 X.prog X.w) X.A (.compStart (.ListComp elt [⟨tgt,iter,ifs,0⟩] scope pos) 0 (.ref it) s { n with scope:=relabel scope X.env }) (RR s n.locals) u) E x) E l:=
 JC (B:=B) (Ac:=EQ X.K) (O0:=.lst []) (N:=100000) O F t H (λC i j fp=>UP (M C i j fp)) y (Nat.le_add_right ..) L z T st v Y q (ZH (vX q) I) (λD C s' H' o a b c d e f g=>by obtain⟨us,rfl,r⟩:=g;exact G D C s' H' us a b c d e f r)
  qh (λ_=>⟨Q1 _,[],0,.nil,zv _ rfl⟩) (λ_=>⟨[],rfl,aK.nil⟩) EQ.kp (λ_ _ _=>S) codeAny_compStart_list λh=>h
end
def iC(K:B4)(f:Ev->O (Z Dt)):TI:=λσ H R=>∃H0 ρ ds,bM K H0 H σ ρ/\f ρ=U ds/\∀J H',AV H H'->B1 K J ds H'->R J H'
def V'(X:Cx)(tg iter:Expr)(f:Ev->O (Z Dt)):Prop:=PI X tg iter (iC X.K f)
structure FC (X:Cx) (tg iter:Expr) (f:Ev->Option (List Dt)):Prop where
 run:V' X tg iter f
def Zw:Bx->O (Z Dt)
 |.z (.lst ds)=>U ds
 |.z (.tup ds)=>U ds
 |.z (.str x)=>U (BH x)
 |.o ds=>U ds
 |.l ds=>U ds
 |_=>Y
section
variable{f:Ev->O Bx}{fs:Ev->O (Z Bx)}{xs ts:AZ}{gt:Dt->Ev->O Ev}{p:Ev->O Bool}{fe:Ev->O Bx}{fi:Ev->O (Z Dt)}
theorem Sd(h:Eg X tgt iter fi):FC X tgt iter fi:=⟨have h:=h.run;λAN s σ H R I q=>by
 obtain⟨H0,ρ,ds,E,e,q⟩:=q;exact h AN s σ H R I ⟨H0,ρ,ds,E,e,λJ H' s' y=>q J H' s' (y H' (AV.refl H') (λ_ _=>S) (λ_ _ _ _=>S) λ_ _ _=>S)⟩⟩
theorem iI(h:QV X e f):FC X tgt e (λρ=>(f ρ).bind Zw):=⟨have h:=h.run;λAN s σ H R I q=>by
 refine R8 h AN s σ H R I ?_;obtain⟨H0,ρ,ds,E,e,q⟩:=q;obtain⟨b,eb,e⟩:=AT e;refine⟨H0,ρ,b,E,eb,λv H1 j t i=>?_⟩;cases b with
 |z d=>
  cases d with
  |tup p=>
   cases e;simp only[bh,AW]at i;obtain⟨a,vs,rfl,c,g⟩:=i;exact .inr (.inl ⟨a,rfl,⟨vs,c⟩,q _ _ j (.tup c g)⟩)
  |lst p=>
   cases e;obtain⟨a,vs,rfl,c,g⟩:=i.HW rfl;exact .inl ⟨a,rfl,⟨vs,c⟩,q _ _ j (.list c g)⟩
  |str x=>
   cases e;simp only[bh,AW]at i;obtain⟨rfl,_⟩:=i;exact .inr (.inr ⟨x,rfl,q _ _ j (.str x)⟩)
  |_=>cases e
 |l p=>
  cases e;obtain⟨a,vs,rfl,c,g⟩:=i.HW rfl;exact .inl ⟨a,rfl,⟨vs,c⟩,q _ _ j (.list c g)⟩
 |o p=>
  cases e;obtain⟨a,vs,rfl,c,g⟩:=i.HW rfl;exact .inl ⟨a,rfl,⟨vs,c⟩,q _ _ j (.list c g)⟩
 |n _=>cases e
 |m _ _=>cases e⟩
def gB(fi:Ev->O (Z Dt))(gt:Dt->Ev->O Ev)(p:Ev->O Bool)(fe:Ev->O Bx)(is:Z Nat)(n:Nat):Ev->O Bx:=λρ=>(fi ρ).bind λds=>
 if ds.length<=100000 then(Bm gt p fe (mR is ρ++List.replicate n Y) ds).bind λa=>U (.o a)else Y
theorem iY(ts:AZ)(O:rM X scope cl xs is)(F:X.calm=true)(hi:FC X tgt iter fi)(f:∀C c d fp,D1 (HX X (xs++ts) scope cl C c d fp) tgt gt)(g:∀C c d fp,Fz (HX X (xs++ts) scope cl C c d fp) ifs p)(j:∀C c d fp,QV (HX X (xs++ts) scope cl C c d fp) elt fe)(z:D0 is.length (is.length+ts.length) gt)(hs:∀x,foldedSetIterable iter X.env x=pure x:=by intro _;rfl):QV X (.ListComp elt [⟨tgt,iter,ifs,0⟩] scope pos) (gB fi gt p fe is ts.length):=⟨have hi:=hi.run;have f:=λC c d fp=>(f C c d fp).run;have g:=λC c d fp=>(g C c d fp).run;have j:=λC c d fp=>(j C c d fp).run;λAN s σ H Q I h=>by
 obtain⟨H0,ρ,b,E,e,q⟩:=h;obtain⟨ds,ed,e⟩:=AT e;split at e
 ·rename_i L;obtain⟨a2,u,e⟩:=AT e;cases e;rw[eval_ListComp];refine Kj (use:=none) S hs O.clos O.kind O.names ?_;refine gM (hi AN s σ H (λJ H'=>AV H H'/\B1 X.K J ds H') I ⟨H0,ρ,ds,E,ed,λJ H' s' y=>⟨s',y⟩⟩) λv s1 h1=>gM h1 λa1 s2 h2=>?_;obtain⟨it,fp,tn,J,H2,rfl,N,T,st,n,i,Y⟩:=h2;refine FJ (B:=Vf) (RR:=λa0 C=>compPost (A8 X.prog X.w) X.A X.xe none (EP X AN σ Q) a0 C) (ts:=ts) (xs:=xs) O F f g j z N ((E.grow i).caps is ts.length) (Zu T) st n Y L u ?_;intro D C s' H' us l W t ⟨m,hn⟩ s2' hD' r';refine⟨m,hn,λh' G=>⟨.ref D,H',?_,rfl,q _ _ (i.trans s2') (λa ea=>by cases ea;exact i.free l) ⟨D,us,rfl,hD',r'⟩⟩⟩;obtain⟨f0,f1,f2,f3,P,M⟩:=t;exact W.turned (t':=s'.toks) (λb o hb e=>(G.2 b hb).trans e) f0 f1 f3 P M
 ·cases e⟩
theorem K6(i:Nat){py spos:Pos}(ts:AZ)(O:rM X scope cl xs is)(a1:X.calm=true)(hN:X.N.Nodup)(hi:FC X tgt iter fi)(j:∀C c d fp,D1 (HX X (xs++ts) scope cl C c d fp) tgt gt)(l:∀C c d fp,Fz (HX X (xs++ts) scope cl C c d fp) ifs p)(u:∀C c d fp,QV (HX X (xs++ts) scope cl C c d fp) elt fe)(a0:D0 is.length (is.length+ts.length) gt)(b3:swapsWith (.ListComp elt [⟨tgt,iter,ifs,0⟩] scope pos) (U (.Name y py)) spos.line X.env=pure true:=by with_unfolding_all rfl)(hy:X.N[i]?=U y:=by rfl)(hx:D4 X.env.scope y:=by first|exact JS rfl|exact QY S)(P:X.fn y=true\/X.env.scope.names.lookup y=U .local:=by first|exact .inl rfl|exact .inr S)(hs:∀x,foldedSetIterable iter X.env x=pure x:=by intro _;rfl):K4 X (.Assign [.Name y py] (.ListComp elt [⟨tgt,iter,ifs,0⟩] scope pos) spos) (λρ=>(gB fi gt p fe is ts.length ρ).bind λb=>(WW ρ i b).bind λρ'=>U (.nx ρ')):=⟨have hi:=hi.run;have j:=λC c d fp=>(j C c d fp).run;have l:=λC c d fp=>(l C c d fp).run;have u:=λC c d fp=>(u C c d fp).run;λAN s σ H D I h=>by
 obtain⟨H0,ρ,r,E,e,q⟩:=h;obtain⟨b,eb,e⟩:=AT e;obtain⟨ds,ed,eb⟩:=AT eb;split at eb
 ·rename_i b0;obtain⟨d0,eo,eb⟩:=AT eb;cases eb;cases e;rw[exec_Assign_Name_used _ _ _ _ b3];refine zb (Kb (zb ?_));show A7 _ X.A (do let _ <-comprehension (.ListComp elt [⟨tgt,iter,ifs,0⟩] scope pos) scope X.env _ (newList []) false (eval iter X.env) (U (assign (.Name y py) X.env))) _ _ s;refine zb (ZZ (Kj (use:=U (assign (.Name y py) X.env)) (Q:=λ_ s'=>SP X AN D .next s') S hs O.clos O.kind O.names ?_) (λ_ s' W=>ze (ze W)) λ_ _ e=>e);refine gM (hi AN s σ H (λJ H'=>AV H H'/\B1 X.K J ds H') I ⟨H0,ρ,ds,E,ed,λJ H' s' y=>⟨s',y⟩⟩) λv s1 h1=>gM h1 λd3 s2 h2=>?_;obtain⟨it,fp,tn,J,H2,rfl,I2,T,st,c0,t,Y⟩:=h2;refine FJ (B:=Vf) (RR:=λd1 C=>compPost (A8 X.prog X.w) X.A X.xe (U (assign (.Name y py) X.env)) (λ_ s'=>SP X AN D .next s') d1 C) (ts:=ts) (xs:=xs) O a1 j l u a0 I2 ((E.grow t).caps is ts.length) (Zu T) st c0 Y b0 eo ?_;intro f C s' H' us M G fC ⟨m,hn⟩ s2' hD' r';show A7 _ X.A (assign (.Name y py) X.env (.ref f)) _ _ s';obtain⟨f0,f1,f2,f3,f4,f5⟩:=fC;obtain⟨g,d2,ep,a3,L,a5⟩:=id hn;have a2:L2.AU X (AN++[(C,g)]) σ H' s':=G.Dr λF hp=>by
   rcases List.mem_append.mp hp with z|z
   ·exact G.pin F (ZA _ z)
   ·have:F=(C,g):=by simpa using z
    subst this;exact⟨a3,f0,f1,f2,λv z=>by rw[L]at z;cases z⟩
  refine gM (L2.U4 hN hy hx P (AN++[(C,g)]) s' σ H' (.ref f) (.ref f) (λσ' n=>σ'=σ.set i (U (.ref f))/\n=H') a2 S ⟨rfl,rfl⟩) λ_ s'' ⟨σ',n,J',e1,e2⟩=>?_;subst e1 e2;have c8:=(J'.pin (C,g) (by simp)).1;refine⟨m,⟨g,d2,ep,c8,L,a5⟩,λh' sb=>?_⟩;refine⟨σ.set i (U (.ref f)),n,J'.uK.turned (t':=s''.toks) (λb o hb e=>(sb.2 b hb).trans e) f0 f1 f3 f4 f5,q _ _ ?_⟩;exact E.set (t.trans s2') (b:=.o d0) ⟨f,us,rfl,hD',r'⟩ (.inl S) λa ea=>by cases ea;exact t.free M
 ·cases eb⟩
def lend:Bx->Bx
 |.o ds=>.l ds
 |.m ds _=>.n ds
 |b=>b
def l9:Bx->Bool
 |.o _=>true
 |.m _ _=>true
 |_=>false
def Zx(K:B4)(n:Nat)(F:Z Bx->O Bx):Sp:=λvs H Q _=>vs.length=n/\∃bs r,pJ K H bs vs/\bs.all (λb=>!l9 b)=true/\F bs=U r/\∀v H',AV H H'->Nw H r v->bh K H' r v->Q v H'
def dY(n:Nat)(g:Ev->O An):Z Bx->O Bx:=λbs=>(g (bs.map U++List.replicate (n-bs.length) Y)).bind λr=>match r with
 |.rt b=>U b
 |.nx _=>U (.z .non)
 |_=>Y
theorem bM.start{K:B4}{H:Hp}{N:AZ}{bs:Z Bx}{vs:Z V}(r:pJ K H bs vs)(h:bs.all (λb=>!l9 b)=true):bM K H H (L2.start N vs) (bs.map U++List.replicate (N.length-bs.length) Y):=by
 have l:bs.length=vs.length:=Paired.length r;have get:∀(i:Nat) b,(bs.map U++List.replicate (N.length-bs.length) Y)[i]?=U (U b)->bs[i]?=U b:=λi b e=>by
  by_cases hi:i<bs.length
  ·rw[Z3 (by simpa using hi),ZN]at e;cases q:bs[i]? with
   |none=>rw[q]at e;cases e
   |some n=>rw[q]at e;simpa using e
  ·rw[QI (by simp;omega),jv]at e;split at e<;>cases e
 have f:∀(i:Nat) c,(bs.map U++List.replicate (N.length-bs.length) Y)[i]?=U (U c)->uO c=true->False:=λi c e d=>by
  have:=List.all_eq_true.mp h _ (QA (get i _ e));cases c with
  |o ds=>cases this
  |m ds _=>cases this
  |_=>cases d
 refine⟨?_,λi b e=>?_,λi j c a b e d=>(f i c e d).elim,AV.refl H,λi c a e d=>(f i c e d).elim⟩
 ·unfold L2.start;simp[l]
 ·have e':=get i b e;have hi:i<bs.length:=(List.getElem?_eq_some_iff.mp e').1;have:∀{bs:Z Bx} {vs:Z V} {i:Nat} {b:Bx},AI (bh K H) bs vs->bs[i]?=U b->∃v,vs[i]?=U v/\bh K H b v:=by
   intro bs vs i b r
   induction r generalizing i with
   |nil=>intro e;simp at e
   |cons p t g=>
    intro e;cases i with
    |zero=>simp at e;subst e;exact⟨_,rfl,p⟩
    |succ i=>obtain⟨v,e1,e2⟩:=g (i:=i) (by simpa using e);exact⟨v,by simpa using e1,e2⟩
  obtain⟨v,e1,e2⟩:=this r e';refine⟨v,?_,e2⟩;unfold L2.start;rw[Z3 (by simp;omega),ZN,e1];rfl
end
theorem VC{f:A1}{k:Nat}{g:Ev->O An}(F:Bj K x qual st f fd)(S:bB N ps (aG st))(i:∀(c:A0) (A:A5) (outer:Z Env) (s:A2) (H:Hp) (E:XK),gW k (A.deeper (AK qual (aG st) s.heap.objs.size f c))->RB (rK xu P w K mg base N qual (aG st) f c A outer s H E).Yt (d8 st) g):
  ju P w K mg base xu (k+1) f fd ps (Zx K ps.length (dY N.length g)):=by
 refine F.ok S (λvs H Q E h=>h.1) λc A outer s H vs Q E m h=>?_;obtain⟨o,bs,r,j,l,e,q⟩:=h;refine⟨_,i c A outer s H E m,?_⟩;obtain⟨a,er,e⟩:=AT e;refine⟨H,_,a,bM.start j l,er,?_⟩;cases a with
 |rt b=>cases e;exact λv H' s' d a=>q v H' s' d a
 |nx ρ=>cases e;exact λσ H' n=>q _ H' n.base trivial (by unfold bh AW;rfl)
 |bk ρ=>cases e
 |ct ρ=>cases e
section
variable{k:Nat}{f:A1}{F:Z Bx->O Bx}{p:Pos}{fs:Ev->O (Z Bx)}
theorem FN{K:B4}{H:Hp}:∀{bs:Z Bx} {vs:Z V},pJ K H bs vs->pJ K H (bs.map lend) vs
 |_,_,.nil=>.nil
 |b::bs,_,.cons h t=>by
  refine .cons ?_ (FN t);cases b with
  |z d=>exact h
  |l ds=>exact h
  |o ds=>obtain⟨a,vs,e,q,r⟩:=h;exact⟨a,vs,e,.inl q,r⟩
  |n ds=>exact h
  |m ds _=>obtain⟨a,vs,e,q,r⟩:=h;exact⟨a,vs,e,.inl q,r.1⟩
theorem K7:∀bs:Z Bx,(bs.map lend).all (λb=>!l9 b)=true
 |[]=>rfl
 |b::bs=>by
  rw[zw,kr,K7 bs];cases b<;>rfl
def cj(n:Nat)(F:Z Bx->O Bx)(fs:Ev->O (Z Bx)):Ev->O Bx:=λρ=>(fs ρ).bind λbs=>if bs.length=n then F (bs.map lend)else Y
theorem DN(G:ju X.prog X.w X.K X.mg X.base xu k f fd ps (Zx X.K n F))(m:gW k X.A)(t:Gl X x)(u:X.mg x=U (.ref f))(o:keepIn X.K (.ref f)=true)(hb:BA X.K fd ps [])(a:Vb X (e::es) fs)(i:(x==("__debug__":AJ))=false:=by decide)(he:A9 (e::es) X.env=(false,eval e X.env)::A9 es X.env:=by rfl)(j:(AD pos (A9 es X.env)).any (·.1)=false:=by rfl):QV X (.Call (.Name x p) (e::es) [] pos) (cj n F fs):=⟨have a:=a.run;Ii (Kv G m t u o hb .nil (OA) a i he j) λσ H Q h=>by
 obtain⟨H0,ρ,r,E,e,q⟩:=h;obtain⟨bs,eb,e⟩:=AT e;refine⟨H0,ρ,bs,E,eb,λvs H1 c b=>?_⟩;split at e
 ·rename_i s;rw[ZY];exact⟨by rw[<-Paired.length b];exact s,_,r,FN b,K7 bs,e,λv H2 d l g=>q v H2 (c.trans d) (l.old c) g⟩
 ·cases e⟩
end
end P1
variable{b:P1.Bx}{d:P1.Dt}{G:A1->Z (L2.AY×P1.Dt)->Z P1.Bx->O (Z (L2.AY×P1.Dt))}{f:P1.Ev->O P1.Bx}{q:P1.Ev->O Bool}{g:P1.Ev->O P1.An}{p:P1.Ev->O Bool}{AO:Z (L2.AY×P1.Dt)}{ds:Z P1.Dt}{fa:P1.Ev->O P1.Bx}{ρ:P1.Ev}{fb fc:P1.Ev->O P1.Bx}{gt:P1.Dt->P1.Ev->O P1.Ev}{gb:P1.Ev->O P1.An}{fi:P1.Ev->O (Z P1.Dt)}{fe:P1.Ev->O P1.Bx}{Ac:A1->L2.Hp->Z P1.Dt->L2.HO->Prop}{fk fo fv f1:P1.Ev->O P1.Bx}{gx:P1.Ev->O P1.Dt}{dG:P1.Bx}
namespace P1
open L2 SeqAt
open AutoSeq1 (wpAny_loadPart')
def Il(h:A6)(a:A1):Prop:=∃o ep,h.get? a=U o/\o.ExactDict/\o.data=.dict #[] ep
section
variable{b:A1}
theorem yH{AO:Z (AY×V)}{vs:Z (AY×A0)}(q:AO=[])(r:KV AO vs)(d:h.DictOf (bF P w) a vs):Il h a:=by
 subst q;cases r;obtain⟨o,es,ep,h1,h2,c,_,b,_⟩:=d;have:es=#[]:=by
  have:=b.length;apply Array.eq_empty_of_size_eq_zero;simpa using this
 subst this;exact⟨o,ep,h1,h2,c⟩
theorem Il.dict(P:A3)(w:A4)(x:Il h a):h.DictOf (strKind P w) a []:=by
 obtain⟨o,ep,h1,h2,c⟩:=x;exact⟨o,#[],ep,h1,h2,c,λe b=>by simp at b,.nil,j0⟩
theorem LB(c:(a==sysModules)=false)(hb:(b==sysModules)=false)(f:Il s.heap a)(d:Il s.heap b)(e:A.units<cLine):RcAt A s (.ref a) (.ref b) true:=λprog w E Q h=>
 PySem.W.keq_eq (knd:=strKind prog w) c hb (f.dict prog w) (d.dict prog w) e (λ_=>.nil) h
theorem Sm(c:(a==sysModules)=false)(hb:(b==sysModules)=false)(f:Il s.heap a)(d:Il s.heap b)(e:A.units<cLine):RcNeAt A s (.ref a) (.ref b) false:=λprog w E Q h=>
 PySem.W.keq_ne (r:=true) (knd:=strKind prog w) c hb (f.dict prog w) (d.dict prog w) e (λ_=>.nil) h
theorem Ov(o:AE)(b:AJ)(u:Tok):Meets (Builtin.«dict.__eq__» ⟨[.ref a,.str b u],[]⟩) (λ_ R s=>(s.heap.get? a=U o/\o.cls=.type "dict")/\R (.ok (.ret .notImplemented)) s):=
 .of_wp λprog w A R s h=>by
  have c:s.TypeIs (.ref a) "dict":=⟨o,h.1.1,h.1.2⟩;show A7 _ _ (Builtin.Dict.dictSlotArgs "__eq__" ⟨[.ref a,.str b u],[]⟩ >>= _) _ _ s;refine zb ?_;unfold Builtin.Dict.dictSlotArgs;refine zb (wpAny_notOrdered_dict c ?_);show A7 _ _ (pure (Value.ref a,Value.str b u)) _ _ s;refine ze ?_;refine zb (ke (T :="str") (typeIs_str s b u) PySem.F.sub_str_dict ?_);simp only[kX,qS];refine zb (Kn ?_);exact ze ⟨_,rfl,h.2⟩
theorem Ox(b:AJ)(u:Tok)(es:Array DictEntry)(ep:Nat)(e:O A1)(sl:Array (O A0)):Meets (Builtin.«str.__eq__» ⟨[.str b u,.ref a],[]⟩) (λ_ R s=>s.heap.get? a=U { cls:=.type "dict",dict:=e,data:=.dict es ep,slots:=sl }/\R (.ok (.ret .notImplemented)) s):=
 .of_wp λprog w A R s h=>by obtain⟨hp,g,d,tk,os⟩:=s;obtain⟨c,h⟩:=h;wp_walk using wpAny_loadPart' c,K0 c;exact⟨_,rfl,h⟩
theorem JD(x:AJ)(t:Tok)(d:Il s.heap a)(i:A.units<cLine):RcAt A s (.str x t) (.ref a) false:=λprog w E Q h=>by
 obtain⟨⟨l,g,m,sl⟩,ep,c,⟨f,j,hs⟩,e⟩:=d;simp only at f e;subst f e;exact rc_eq_decline_or (k:=false) (typeIs_str s x t) ⟨_,c,rfl⟩ (by decide) PySem.F.sub_dict_str PySem.F.slot_str_eq PySem.F.slot_dict_eq_refl
  (λ_ b=>call_meets PySem.F.slot_str_eq (typeIs_str s x t) PySem.F.entry_str_eq (PySem.F.args_str_eq_2 _ _) (Ox x t #[] ep g sl) ⟨c,b⟩)
  (λ_ b=>call_meets PySem.F.slot_dict_eq_refl ⟨_,c,rfl⟩ PySem.F.entry_dict_eq (PySem.F.args_dict_eq_2 _ _) (Ov _ x t) ⟨⟨c,rfl⟩,b⟩)
  (λ_ b=>wpAny_of_eq (rfl:isSame (.str x t) (.ref a)=pure false) b) (.inr i) h
theorem Oz(o:AE)(b:AJ)(u:Tok):Meets (Builtin.«dict.__ne__» ⟨[.ref a,.str b u],[]⟩) (λ_ R s=>(s.heap.get? a=U o/\o.cls=.type "dict")/\R (.ok (.ret .notImplemented)) s):=
 .of_wp λprog w A R s h=>by
  have c:s.TypeIs (.ref a) "dict":=⟨o,h.1.1,h.1.2⟩;show A7 _ _ (Builtin.Dict.dictSlotArgs "__ne__" ⟨[.ref a,.str b u],[]⟩ >>= _) _ _ s;refine zb ?_;unfold Builtin.Dict.dictSlotArgs;refine zb (wpAny_notOrdered_dict c ?_);show A7 _ _ (pure (Value.ref a,Value.str b u)) _ _ s;refine ze ?_;refine zb (ke (T :="str") (typeIs_str s b u) PySem.F.sub_str_dict ?_);simp only[kX,qS];refine zb (Kn ?_);exact ze ⟨_,rfl,h.2⟩
theorem OD(b:AJ)(u:Tok)(es:Array DictEntry)(ep:Nat)(e:O A1)(sl:Array (O A0)):Meets (Builtin.«str.__ne__» ⟨[.str b u,.ref a],[]⟩) (λ_ R s=>s.heap.get? a=U { cls:=.type "dict",dict:=e,data:=.dict es ep,slots:=sl }/\R (.ok (.ret .notImplemented)) s):=
 .of_wp λprog w A R s h=>by obtain⟨hp,g,d,tk,os⟩:=s;obtain⟨c,h⟩:=h;wp_walk using wpAny_loadPart' c,K0 c;exact⟨_,rfl,h⟩
theorem W0(x:AJ)(t:Tok)(d:Il s.heap a)(i:A.units<cLine):RcNeAt A s (.str x t) (.ref a) true:=λprog w E Q h=>by
 obtain⟨⟨l,g,m,sl⟩,ep,c,⟨f,j,hs⟩,e⟩:=d;simp only at f e;subst f e;exact rc_ne_decline_or (k:=false) (typeIs_str s x t) ⟨_,c,rfl⟩ (by decide) PySem.F.sub_dict_str PySem.F.slot_str_ne PySem.F.slot_dict_ne_refl
  (λ_ b=>call_meets PySem.F.slot_str_ne (typeIs_str s x t) PySem.F.entry_str_ne (PySem.F.args_str_ne_2 _ _) (OD x t #[] ep g sl) ⟨c,b⟩)
  (λ_ b=>call_meets PySem.F.slot_dict_ne_refl ⟨_,c,rfl⟩ PySem.F.entry_dict_ne (PySem.F.args_dict_ne_2 _ _) (Oz _ x t) ⟨⟨c,rfl⟩,b⟩)
  (λ_ b=>wpAny_of_eq (rfl:isSame (.str x t) (.ref a)=pure false) b) (.inr i) h
theorem W2(x:AJ)(t:Tok)(d:Il s.heap a)(b:A.units<cLine):EqAt A s (.str x t) (.ref a) false:=λprog w E Q h=>by
 unfold eqBool;refine qA ?_;refine wpAny_ite_split (λc=>absurd (eq_of_beq c) nofun) (λ_=>?_);exact zb (JD x t d b prog w E _ (JP h))
end
mutual
def uc:Dt->Nat
 |.tup xs=>uQ xs+1
 |.lst xs=>uQ xs+1
 |_=>1
def uQ:Z Dt->Nat
 |[]=>0
 |d::ds=>max (uc d) (uQ ds)
end
mutual
def uz:Dt->Dt->O Bool
 |.non,.non=>U true
 |.non,.bl _=>U false|.non,.int _=>U false|.non,.str _=>U false|.non,.tup _=>U false|.non,.lst _=>U false
 |.bl a,.bl b=>U (a==b)
 |.bl a,.int b=>U ((if a then 1 else 0)==b)
 |.bl _,.non=>U false|.bl _,.str _=>U false|.bl _,.tup _=>U false|.bl _,.lst _=>U false
 |.int a,.int b=>U (a==b)
 |.int a,.bl b=>U (a==(if b then 1 else 0))
 |.int _,.non=>U false|.int _,.str _=>U false|.int _,.tup _=>U false|.int _,.lst _=>U false
 |.str a,.str b=>U (a==b)
 |.str _,.non=>U false|.str _,.bl _=>U false|.str _,.int _=>U false|.str _,.tup _=>U false|.str _,.lst _=>U false|.str _,.emp=>U false
 |.tup xs,.tup ys=>lu xs ys
 |.tup _,.non=>U false|.tup _,.bl _=>U false|.tup _,.int _=>U false|.tup _,.str _=>U false|.tup _,.lst _=>U false
 |.lst xs,.lst ys=>lu xs ys
 |.emp,.emp=>U true
 |.lst _,.non=>U false|.lst _,.bl _=>U false|.lst _,.int _=>U false|.lst _,.str _=>U false|.lst _,.tup _=>U false
 |_,_=>Y
def lu:Z Dt->Z Dt->O Bool
 |[],[]=>U true
 |[],_::_=>U false
 |_::_,[]=>U false
 |x::xs,y::ys=>match uz x y with
  |some b=>match lu xs ys with
   |some c=>U (b&&c)
   |none=>Y
  |none=>Y
end
mutual
theorem FP:∀{d:Dt} {k:Bool},uz d d=U k->k=true
 |.non,_,e=>by cases e;rfl
 |.bl b,_,e=>by cases e;simp
 |.int b,_,e=>by cases e;simp
 |.str b,_,e=>by cases e;simp
 |.tup xs,_,e=>Aa (ds:=xs) e
 |.lst xs,_,e=>Aa (ds:=xs) e
 |.emp,_,e=>by cases e;rfl
theorem Aa:∀{ds:Z Dt} {k:Bool},lu ds ds=U k->k=true
 |[],_,e=>by simp only[lu]at e;cases e;rfl
 |d::ds,_,e=>by
  simp only[lu]at e;cases h:uz d d with
  |none=>rw[h]at e;cases e
  |some b=>
   rw[h]at e;simp only at e;cases h2:lu ds ds with
   |none=>rw[h2]at e;cases e
   |some c=>
    rw[h2]at e;cases e;rw[FP h,Aa h2];rfl
end
theorem DP(xs ys:Z Dt):uz (.tup xs) (.tup ys)=lu xs ys:=rfl
theorem uR:∀{xs ys:Z Dt} {k:Bool},lu xs ys=U k->∃e:Nat->Bool,(∀(j:Nat) x y,xs[j]?=U x->ys[j]?=U y->uz x y=U (e j))/\k=((List.range (min xs.length ys.length)).all e&&xs.length==ys.length)
 |[],[],k,h=>by simp only[lu]at h;cases h;exact⟨λ_=>true,λj x y e=>by simp at e,by simp⟩
 |[],y::ys,k,h=>by simp only[lu]at h;cases h;exact⟨λ_=>true,λj x y e=>by simp at e,by simp⟩
 |x::xs,[],k,h=>by simp only[lu]at h;cases h;exact⟨λ_=>true,λj x y _ e=>by simp at e,by simp⟩
 |x::xs,y::ys,k,h=>by
  simp only[lu]at h;cases h1:uz x y with
  |none=>rw[h1]at h;cases h
  |some b=>
   rw[h1]at h;simp only at h;cases h2:lu xs ys with
   |none=>rw[h2]at h;cases h
   |some c=>
    rw[h2]at h;cases h;obtain⟨e,g,d⟩:=uR h2;refine⟨λj=>match j with|0=>b|j+1=>e j,λj u v a ev=>?_,?_⟩
    ·cases j with
     |zero=>simp at a ev;subst a ev;exact h1
     |succ j=>exact g j u v (by simpa using a) (by simpa using ev)
    ·have:min (x::xs).length (y::ys).length=min xs.length ys.length+1:=by simp only[qc];omega
     rw[this,List.range_succ_eq_map,kr,List.all_map,d];have hb:((x::xs).length==(y::ys).length)=(xs.length==ys.length):=by
      rw[JE];simp
     rw[hb,Bool.and_assoc];rfl
theorem uT:∀{ds:Z Dt} {j:Nat} {d:Dt},ds[j]?=U d->uc d<=uQ ds
 |[],_,_,e=>by simp at e
 |d::ds,0,_,e=>by simp at e;subst e;simp only[uQ];exact Nat.le_max_left _ _
 |d::ds,j+1,_,e=>by
  simp only[uQ];exact ZH (uT (ds:=ds) (j:=j) (by simpa using e)) (Nat.le_max_right _ _)
theorem DR(I:L2.AU X AN σ H s)(h:yh X.K H a vs):∃b,s.heap.get? a=U b/\b.cls=.type "tuple":=by
 obtain⟨AQ,_,⟨b,e,c,_⟩,_⟩:=I.tuple h;exact⟨b,e,c⟩
theorem DW(I:L2.AU X AN σ H s)(h:qO X.K H a vs):∃b,s.heap.get? a=U b/\b.cls=.type "list":=by
 obtain⟨AQ,_,⟨b,n,e,c,_⟩,_⟩:=I.list h;exact⟨b,e,c⟩
theorem vY(I:L2.AU X AN σ H s)(h:H a=U (.HS o (.dK []))):∃b,s.heap.get? a=U b/\b.cls=.type "dict":=by
 obtain⟨e,_,_,vs,_,b,es,ep,e2,ex,_⟩:=I.hok a _ h;exact⟨b,e2,ex.1⟩
theorem Ab{n m:String}(h:∃b,s.heap.get? a=U b/\b.cls=.type n)(q:∃b,s.heap.get? a=U b/\b.cls=.type m)(f:n≠m):False:=by
 obtain⟨o,e,c⟩:=h;obtain⟨o',e',d⟩:=q;rw[e]at e';cases e';rw[c]at d;exact f (by injection d)
mutual
theorem AW.inj(I:L2.AU X AN σ H s):∀{d e:Dt} {v:V},AW X.K H d v->AW X.K H e v->d=e
 |.non,e,v,h,q=>by
  simp only[AW]at h;subst h;cases e<;>simp only[AW]at q<;>first|rfl|(cases q;done)|(obtain⟨a,b,z,_⟩:=q;cases z;done)|(obtain⟨z,_⟩:=q;cases z;done)
 |.bl _,e,v,h,q=>by
  simp only[AW]at h;subst h;cases e<;>simp only[AW]at q<;>first|(cases q;rfl)|(cases q;done)|(obtain⟨a,b,z,_⟩:=q;cases z;done)|(obtain⟨z,_⟩:=q;cases z;done)
 |.int _,e,v,h,q=>by
  simp only[AW]at h;subst h;cases e<;>simp only[AW]at q<;>first|(cases q;rfl)|(cases q;done)|(obtain⟨a,b,z,_⟩:=q;cases z;done)|(obtain⟨z,_⟩:=q;cases z;done)
 |.str x,e,v,h,q=>by
  simp only[AW]at h;have g:v=.str x:=h.1;subst g;cases e with
  |str y=>
   simp only[AW]at q;have z:V.str x=V.str y:=q.1;injection z with z;rw[z]
  |tup es=>simp only[AW]at q;obtain⟨a,b,z,_⟩:=q;cases z
  |lst es=>simp only[AW]at q;obtain⟨a,b,z,_⟩:=q;cases z
  |emp=>simp only[AW]at q;obtain⟨a,b,z,_⟩:=q;cases z
  |_=>simp only[AW]at q;cases q
 |.tup ds,e,v,h,q=>by
  simp only[AW]at h;obtain⟨a,vs,rfl,sq,r⟩:=h;cases e with
  |tup es=>
   simp only[AW]at q;obtain⟨b,us,z,c,f⟩:=q;cases z;have:=I.Jp sq c;subst this;rw[aK.inj I r f]
  |lst es=>
   simp only[AW]at q;obtain⟨b,us,z,c,f⟩:=q;cases z;exact(Ab (DR I sq) (DW I c.sq) (by decide)).elim
  |emp=>
   simp only[AW]at q;obtain⟨b,o,z,c⟩:=q;cases z;exact(Ab (DR I sq) (vY I c) (by decide)).elim
  |str x=>simp only[AW]at q;have z:=q.1;cases z
  |_=>simp only[AW]at q;cases q
 |.lst ds,e,v,h,q=>by
  simp only[AW]at h;obtain⟨a,vs,rfl,sq,r⟩:=h;cases e with
  |lst es=>
   simp only[AW]at q;obtain⟨b,us,z,c,f⟩:=q;cases z;have:=I.Ew sq.sq c.sq;subst this;rw[aK.inj I r f]
  |tup es=>
   simp only[AW]at q;obtain⟨b,us,z,c,f⟩:=q;cases z;exact(Ab (DW I sq.sq) (DR I c) (by decide)).elim
  |emp=>
   simp only[AW]at q;obtain⟨b,o,z,c⟩:=q;cases z;exact(Ab (DW I sq.sq) (vY I c) (by decide)).elim
  |str x=>simp only[AW]at q;have z:=q.1;cases z
  |_=>simp only[AW]at q;cases q
 |.emp,e,v,h,q=>by
  simp only[AW]at h;obtain⟨a,o,rfl,sq⟩:=h;cases e with
  |emp=>rfl
  |tup es=>
   simp only[AW]at q;obtain⟨b,us,z,c,f⟩:=q;cases z;exact(Ab (vY I sq) (DR I c) (by decide)).elim
  |lst es=>
   simp only[AW]at q;obtain⟨b,us,z,c,f⟩:=q;cases z;exact(Ab (vY I sq) (DW I c.sq) (by decide)).elim
  |str x=>simp only[AW]at q;have z:=q.1;cases z
  |_=>simp only[AW]at q;cases q
theorem aK.inj(I:L2.AU X AN σ H s):∀{ds es:Z Dt} {vs:Z V},aK X.K H ds vs->aK X.K H es vs->ds=es
 |[],es,vs,h,q=>by
  simp only[aK]at h;subst h;cases es with
  |nil=>rfl
  |cons e es=>simp only[aK]at q;obtain⟨_,_,z,_⟩:=q;cases z
 |d::ds,es,vs,h,q=>by
  simp only[aK]at h;obtain⟨v,r,rfl,h1,h2⟩:=h;cases es with
  |nil=>simp only[aK]at q;cases q
  |cons e es=>
   simp only[aK]at q;obtain⟨a,b,z,q1,q2⟩:=q;cases z;rw[AW.inj I h1 q1,aK.inj I h2 q2]
end
theorem LI(I:L2.AU X AN σ H s):∀(n:Nat) {A:A5} {d e:Dt} {x y:V} {u v:A0} {k:Bool},min (uc d) (uc e)<=n->A.units+n<cLine->AW X.K H d x->AW X.K H e y->As x u->As y v->uz d e=U k->EqAt A s u v k:=by
 intro n
 induction n with
 |zero=>
  intro A d e x y u v k M;have h1:1<=uc d:=by cases d<;>simp only[uc]<;>omega
  have h2:1<=uc e:=by cases e<;>simp only[uc]<;>omega
  omega
 |succ n ih=>
  intro A d e x y u v k M hA m c w g ek;have h:A.units<cLine:=by omega
  by_cases J:u=v/\∃a,u=.ref a
  ·obtain⟨rfl,a,rfl⟩:=J;have hx:x=.ref a:=by have:=w.abs;simpa[Gc]using this.symm
   have hy:y=.ref a:=by have:=g.abs;simpa[Gc]using this.symm
   subst hx hy;have:=AW.inj I m c;subst this;rw[FP ek];exact EqAt.same _
  ·have items:∀{ds es:Z Dt} {vs us:Z V} {AQ l:Z A0} {f:Nat->Bool},min (uQ ds) (uQ es)<=n->aK X.K H ds vs->aK X.K H es us->AX vs AQ->AX us l->(∀(j:Nat) x y,ds[j]?=U x->es[j]?=U y->uz x y=U (f j)) →
     ∀j (h1:j<AQ.toArray.size) (h2:j<l.toArray.size),EqAt A.in1 s AQ.toArray[j] l.toArray[j] (f j):=by
    intro ds es vs us AQ l f hm r1 r2 W w2 E j h1 h2;have l1:=W.length;have l2:=w2.length;have l3:=r1.length;have l4:=r2.length;have j1:j<AQ.length:=by simpa using h1
    have j2:j<l.length:=by simpa using h2
    have N:ds[j]?=U ds[j]:=by simp
    have d2:es[j]?=U es[j]:=by simp
    obtain⟨a,ea,C⟩:=r1.get N;obtain⟨b,eb,B⟩:=r2.get d2;obtain⟨p,ep,rp⟩:=W.get ea;obtain⟨q,eq,rq⟩:=w2.get eb;have e1:AQ.toArray[j]=p:=by simpa[j1]using ep
    have e2:l.toArray[j]=q:=by simpa[j2]using eq
    rw[e1,e2];have m1:=uT N;have m2:=uT d2;exact ih (by omega) (by rw[units_in1];omega) C B rp rq (E j _ _ N d2)
   cases d with
   |non=>
    cases m;cases w;cases e with
    |non=>cases c;cases g;cases ek;exact EqAt.same _
    |bl b=>cases c;cases g;cases ek;exact EqAt.none_bool b
    |int b=>cases c;obtain⟨t,rfl⟩:=g;cases ek;exact EqAt.none_int b t
    |str b=>obtain⟨rfl,_⟩:=c;obtain⟨t,rfl⟩:=g;cases ek;exact EqAt.none_str b t
    |tup es=>obtain⟨b,us,rfl,sq,_⟩:=c;cases g;cases ek;obtain⟨_,_,p,_⟩:=I.tuple sq;exact EqAt.none_tuple p h
    |lst es=>obtain⟨b,us,rfl,sq,_⟩:=c;cases g;cases ek;obtain⟨_,_,p,_⟩:=I.list sq.sq;exact EqAt.none_list p.isList h
    |emp=>cases ek
   |bl a=>
    cases m;cases w;cases e with
    |non=>cases c;cases g;cases ek;exact EqAt.bool_none a
    |bl b=>cases c;cases g;cases ek;exact EqAt.bool_bool a b
    |int b=>cases c;obtain⟨t,rfl⟩:=g;cases ek;exact EqAt.bool_int a b t
    |str b=>obtain⟨rfl,_⟩:=c;obtain⟨t,rfl⟩:=g;cases ek;exact EqAt.bool_str a b t
    |tup es=>obtain⟨b,us,rfl,sq,_⟩:=c;cases g;cases ek;obtain⟨_,_,p,_⟩:=I.tuple sq;exact EqAt.bool_tuple a p h
    |lst es=>obtain⟨b,us,rfl,sq,_⟩:=c;cases g;cases ek;obtain⟨_,_,p,_⟩:=I.list sq.sq;exact EqAt.bool_list a p.isList h
    |emp=>cases ek
   |int a=>
    cases m;obtain⟨i,rfl⟩:=w;cases e with
    |non=>cases c;cases g;cases ek;exact EqAt.int_none a i
    |bl b=>cases c;cases g;cases ek;exact EqAt.int_bool a i b
    |int b=>cases c;obtain⟨t,rfl⟩:=g;cases ek;exact EqAt.int_int a i b t
    |str b=>obtain⟨rfl,_⟩:=c;obtain⟨t,rfl⟩:=g;cases ek;exact EqAt.int_str a i b t
    |tup es=>obtain⟨b,us,rfl,sq,_⟩:=c;cases g;cases ek;obtain⟨_,_,p,_⟩:=I.tuple sq;exact EqAt.int_tuple a i p h
    |lst es=>obtain⟨b,us,rfl,sq,_⟩:=c;cases g;cases ek;obtain⟨_,_,p,_⟩:=I.list sq.sq;exact EqAt.int_list a i p.isList h
    |emp=>cases ek
   |str a=>
    obtain⟨rfl,_⟩:=m;obtain⟨i,rfl⟩:=w;cases e with
    |non=>cases c;cases g;cases ek;exact EqAt.str_none a i
    |bl b=>cases c;cases g;cases ek;exact EqAt.str_bool a i b
    |int b=>cases c;obtain⟨t,rfl⟩:=g;cases ek;exact EqAt.str_int a i b t
    |str b=>obtain⟨rfl,_⟩:=c;obtain⟨t,rfl⟩:=g;cases ek;exact EqAt.str_str a i b t
    |tup es=>obtain⟨b,us,rfl,sq,_⟩:=c;cases g;cases ek;obtain⟨_,_,p,_⟩:=I.tuple sq;exact EqAt.str_tuple a i p h
    |lst es=>obtain⟨b,us,rfl,sq,_⟩:=c;cases g;cases ek;obtain⟨_,_,p,_⟩:=I.list sq.sq;exact EqAt.str_list a i p.isList h
    |emp=>
     simp only[AW]at c;obtain⟨p,o,rfl,e⟩:=c;cases g;cases ek;obtain⟨_,_,vs,r,q⟩:=uN I.hok (.inr ⟨o,e⟩);exact W2 a i (yH S r q) h
   |tup ds=>
    obtain⟨a,vs,rfl,Q,C⟩:=m;cases w;obtain⟨AQ,D,p,_⟩:=I.tuple Q;cases e with
    |non=>cases c;cases g;cases ek;exact EqAt.tuple_none p h
    |bl b=>cases c;cases g;cases ek;exact EqAt.tuple_bool b p h
    |int b=>cases c;obtain⟨t,rfl⟩:=g;cases ek;exact EqAt.tuple_int b t p h
    |str b=>obtain⟨rfl,_⟩:=c;obtain⟨t,rfl⟩:=g;cases ek;exact EqAt.tuple_str b t p h
    |lst es=>obtain⟨b,us,rfl,sq,_⟩:=c;cases g;cases ek;obtain⟨_,_,p2,_⟩:=I.list sq.sq;exact EqAt.tuple_list p p2.isList h
    |tup es=>
     obtain⟨b,us,rfl,P,B⟩:=c;cases g;obtain⟨l,F,p2,_⟩:=I.tuple P;change lu _ _=U _ at ek;obtain⟨f,E,rfl⟩:=uR ek;have G:a≠b:=λz=>J ⟨by rw[z],a,rfl⟩;have z:=EqAt.of_refs G (RcAt.tuples (A:=A) (e:=f) p p2 h (items (by simp only[uc]at M;omega) C B D F E));have q1:AQ.toArray.size=ds.length:=by rw[zI,<-D.length,C.length]
     have q2:l.toArray.size=es.length:=by rw[zI,<-F.length,B.length]
     rw[q1,q2]at z;exact z
    |emp=>cases ek
   |lst ds=>
    obtain⟨a,vs,rfl,Q,C⟩:=m;cases w;obtain⟨AQ,D,p,_⟩:=I.list Q.sq;cases e with
    |non=>cases c;cases g;cases ek;exact EqAt.list_none p.isList h
    |bl b=>cases c;cases g;cases ek;exact EqAt.list_bool b p.isList h
    |int b=>cases c;obtain⟨t,rfl⟩:=g;cases ek;exact EqAt.list_int b t p.isList h
    |str b=>obtain⟨rfl,_⟩:=c;obtain⟨t,rfl⟩:=g;cases ek;exact EqAt.list_str b t p.isList h
    |tup es=>obtain⟨b,us,rfl,sq,_⟩:=c;cases g;cases ek;obtain⟨_,_,p2,_⟩:=I.tuple sq;exact EqAt.list_tuple p.isList p2 h
    |lst es=>
     obtain⟨b,us,rfl,P,B⟩:=c;cases g;obtain⟨l,F,p2,_⟩:=I.list P.sq;change lu _ _=U _ at ek;obtain⟨f,E,rfl⟩:=uR ek;have G:a≠b:=λz=>J ⟨by rw[z],a,rfl⟩;have q1:AQ.toArray.size=ds.length:=by rw[zI,<-D.length,C.length]
     have q2:l.toArray.size=es.length:=by rw[zI,<-F.length,B.length]
     by_cases a0:AQ.toArray.size=l.toArray.size
     ·have z:=EqAt.of_refs G (RcAt.lists (A:=A) (e:=f) p.isList p2.isList a0 h (items (by simp only[uc]at M;omega) C B D F E));have L:ds.length=es.length:=by omega
      rw[q1]at z;rw[L,Nat.min_self,beq_self_eq_true,Ki,<-L];exact z
     ·have L:(ds.length==es.length)=false:=by rw[beq_eq_false_iff_ne];omega
      rw[L,ky];exact EqAt.of_refs G (RcAt.lists_lengths p.isList p2.isList (by simpa using a0) h)
    |emp=>cases ek
   |emp=>
    cases e<;>first|(cases ek;done)|skip;simp only[AW]at m c;obtain⟨a,o,rfl,e1⟩:=m;obtain⟨b,o',rfl,e2⟩:=c;cases w;cases g;cases ek;obtain⟨_,m1,vs,r,q⟩:=uN I.hok (.inr ⟨o,e1⟩);obtain⟨_,m2,a1,r',q'⟩:=uN I.hok (.inr ⟨o',e2⟩);exact EqAt.of_refs (λz=>J ⟨by rw[z],a,rfl⟩) (LB m1 m2 (yH S r q) (yH S r' q') h)
theorem OJ(I:L2.AU X AN σ H s){es:Z Dt}{us:Z V}{c:Z A0}{f:Nat->Bool}(C:min (uQ ds) (uQ es)<=n)(B:A.units+n+1<cLine)(g:aK X.K H ds vs)(i:aK X.K H es us)(e:AX vs AQ)(h:AX us c)(o:∀(j:Nat) x y,ds[j]?=U x->es[j]?=U y->uz x y=U (f j)):∀j (h1:j<AQ.toArray.size) (h2:j<c.toArray.size),EqAt A.in1 s AQ.toArray[j] c.toArray[j] (f j):=by
 intro j h1 h2;have L:=e.length;have D:=h.length;have E:=g.length;have J:=i.length;have l:j<AQ.length:=by simpa using h1
 have v:j<c.length:=by simpa using h2
 have d:ds[j]?=U (ds[j]'(by omega)):=by simp
 have d2:es[j]?=U (es[j]'(by omega)):=by simp
 obtain⟨a,ea,z⟩:=g.get d;obtain⟨b,eb,m⟩:=i.get d2;obtain⟨p,ep,t⟩:=e.get ea;obtain⟨q,w,u⟩:=h.get eb;have e1:AQ.toArray[j]=p:=by simpa[l]using ep
 have e2:c.toArray[j]=q:=by simpa[v]using w
 rw[e1,e2];have G:=uT d;have F:=uT d2;exact LI I n (by omega) (by rw[units_in1];omega) z m t u (o j _ _ d d2)
def qJ(K:B4)(H:Hp):Dt->V->Prop
 |.lst ds,v=>∃a vs,v=.ref a/\qO K H a vs/\aK K H ds vs
 |d,v=>AW K H d v
def oX:Bx->Bool
 |.n _=>true
 |.m _ _=>true
 |_=>false
def toD:Bx->Dt
 |.z d=>d
 |.l ds=>.lst ds
 |.o ds=>.lst ds
 |.n _=>.non
 |.m _ _=>.non
theorem bh.toD(h:bh K H b v)(a:oX b=false):qJ K H (toD b) v:=by
 cases b with
 |z d=>
  cases d with
  |lst ds=>exact h.HW rfl
  |_=>exact h
 |l ds=>exact h.HW rfl
 |o ds=>exact h.HW rfl
 |n _=>cases a
 |m _ _=>cases a
theorem Vg(I:L2.AU X AN σ H s){e:Dt}{x y:V}{v:A0}{k:Bool}(P:min (uc d) (uc e)<=100)(hA:X.A.units+100<cLine)(z:qJ X.K H d x)(h:qJ X.K H e y)(B:As x u)(i:As y v)(ek:uz d e=U k):RcAt X.A s u v k/\RcNeAt X.A s u v (!k):=by
 have g:X.A.units<cLine:=by omega
 cases d with
 |non=>
  cases z;cases B;cases e with
  |non=>
   cases h;cases i;cases ek;exact⟨.none_none,.none_none⟩
  |bl c=>
   cases h;cases i;cases ek;exact⟨.none_bool c,.none_bool c⟩
  |int c=>
   cases h;obtain⟨t2,rfl⟩:=i;cases ek;exact⟨.none_int c t2,.none_int c t2⟩
  |str c=>
   obtain⟨rfl,_⟩:=h;obtain⟨t2,rfl⟩:=i;cases ek;exact⟨.none_str c t2,.none_str c t2⟩
  |tup c=>
   obtain⟨a2,w,rfl,j,l⟩:=h;cases i;obtain⟨t,m,p2,_⟩:=I.tuple j;cases ek;exact⟨.none_tuple p2 g,.none_tuple p2 g⟩
  |lst c=>
   obtain⟨a2,w,rfl,j,l⟩:=h;cases i;obtain⟨t,m,p2,_⟩:=I.list j;cases ek;exact⟨.none_list p2.isList g,.none_list p2.isList g⟩
  |emp=>cases ek
 |bl x1=>
  cases z;cases B;cases e with
  |non=>
   cases h;cases i;cases ek;exact⟨.bool_none x1,.bool_none x1⟩
  |bl c=>
   cases h;cases i;cases ek;exact⟨.bool_bool x1 c,.bool_bool x1 c⟩
  |int c=>
   cases h;obtain⟨t2,rfl⟩:=i;cases ek;exact⟨.bool_int x1 c t2,.bool_int x1 c t2⟩
  |str c=>
   obtain⟨rfl,_⟩:=h;obtain⟨t2,rfl⟩:=i;cases ek;exact⟨.bool_str x1 c t2,.bool_str x1 c t2⟩
  |tup c=>
   obtain⟨a2,w,rfl,j,l⟩:=h;cases i;obtain⟨t,m,p2,_⟩:=I.tuple j;cases ek;exact⟨.bool_tuple x1 p2 g,.bool_tuple x1 p2 g⟩
  |lst c=>
   obtain⟨a2,w,rfl,j,l⟩:=h;cases i;obtain⟨t,m,p2,_⟩:=I.list j;cases ek;exact⟨.bool_list x1 p2.isList g,.bool_list x1 p2.isList g⟩
  |emp=>cases ek
 |int x1=>
  cases z;obtain⟨t1,rfl⟩:=B;cases e with
  |non=>
   cases h;cases i;cases ek;exact⟨.int_none x1 t1,.int_none x1 t1⟩
  |bl c=>
   cases h;cases i;cases ek;exact⟨.int_bool x1 t1 c,.int_bool x1 t1 c⟩
  |int c=>
   cases h;obtain⟨t2,rfl⟩:=i;cases ek;exact⟨.int_int x1 t1 c t2,.int_int x1 t1 c t2⟩
  |str c=>
   obtain⟨rfl,_⟩:=h;obtain⟨t2,rfl⟩:=i;cases ek;exact⟨.int_str x1 t1 c t2,.int_str x1 t1 c t2⟩
  |tup c=>
   obtain⟨a2,w,rfl,j,l⟩:=h;cases i;obtain⟨t,m,p2,_⟩:=I.tuple j;cases ek;exact⟨.int_tuple x1 t1 p2 g,.int_tuple x1 t1 p2 g⟩
  |lst c=>
   obtain⟨a2,w,rfl,j,l⟩:=h;cases i;obtain⟨t,m,p2,_⟩:=I.list j;cases ek;exact⟨.int_list x1 t1 p2.isList g,.int_list x1 t1 p2.isList g⟩
  |emp=>cases ek
 |str x1=>
  obtain⟨rfl,_⟩:=z;obtain⟨t1,rfl⟩:=B;cases e with
  |non=>
   cases h;cases i;cases ek;exact⟨.str_none x1 t1,.str_none x1 t1⟩
  |bl c=>
   cases h;cases i;cases ek;exact⟨.str_bool x1 t1 c,.str_bool x1 t1 c⟩
  |int c=>
   cases h;obtain⟨t2,rfl⟩:=i;cases ek;exact⟨.str_int x1 t1 c t2,.str_int x1 t1 c t2⟩
  |str c=>
   obtain⟨rfl,_⟩:=h;obtain⟨t2,rfl⟩:=i;cases ek;exact⟨.str_str x1 t1 c t2,.str_str x1 t1 c t2⟩
  |tup c=>
   obtain⟨a2,w,rfl,j,l⟩:=h;cases i;obtain⟨t,m,p2,_⟩:=I.tuple j;cases ek;exact⟨.str_tuple x1 t1 p2 g,.str_tuple x1 t1 p2 g⟩
  |lst c=>
   obtain⟨a2,w,rfl,j,l⟩:=h;cases i;obtain⟨t,m,p2,_⟩:=I.list j;cases ek;exact⟨.str_list x1 t1 p2.isList g,.str_list x1 t1 p2.isList g⟩
  |emp=>
   simp only[qJ,AW]at h;obtain⟨p,o,rfl,e⟩:=h;cases i;cases ek;obtain⟨_,_,vs,r,q⟩:=uN I.hok (.inr ⟨o,e⟩);exact⟨JD x1 t1 (yH S r q) g,W0 x1 t1 (yH S r q) g⟩
 |tup x1=>
  obtain⟨a1,a0,rfl,L,D⟩:=z;cases B;obtain⟨E,C,p1,_⟩:=I.tuple L;cases e with
  |non=>
   cases h;cases i;cases ek;exact⟨.tuple_none p1 g,.tuple_none p1 g⟩
  |bl c=>
   cases h;cases i;cases ek;exact⟨.tuple_bool c p1 g,.tuple_bool c p1 g⟩
  |int c=>
   cases h;obtain⟨t2,rfl⟩:=i;cases ek;exact⟨.tuple_int c t2 p1 g,.tuple_int c t2 p1 g⟩
  |str c=>
   obtain⟨rfl,_⟩:=h;obtain⟨t2,rfl⟩:=i;cases ek;exact⟨.tuple_str c t2 p1 g,.tuple_str c t2 p1 g⟩
  |tup c=>
   obtain⟨a2,w,rfl,j,l⟩:=h;cases i;obtain⟨t,m,p2,_⟩:=I.tuple j;change lu _ _=U _ at ek;obtain⟨f,J,rfl⟩:=uR ek;have q1:E.toArray.size=x1.length:=by rw[zI,<-C.length,D.length]
   have q2:t.toArray.size=c.length:=by rw[zI,<-m.length,l.length]
   have it:=OJ I (n:=99) (A:=X.A) (by simp only[uc]at P;omega) (by omega) D l C m J;rw[<-q1,<-q2];exact⟨.tuples p1 p2 g it,.tuples p1 p2 g it⟩
  |lst c=>
   obtain⟨a2,w,rfl,j,l⟩:=h;cases i;obtain⟨t,m,p2,_⟩:=I.list j;cases ek;exact⟨.tuple_list p1 p2.isList g,.tuple_list p1 p2.isList g⟩
  |emp=>cases ek
 |lst x1=>
  obtain⟨a1,a0,rfl,L,D⟩:=z;cases B;obtain⟨E,C,p1,_⟩:=I.list L;cases e with
  |non=>
   cases h;cases i;cases ek;exact⟨.list_none p1.isList g,.list_none p1.isList g⟩
  |bl c=>
   cases h;cases i;cases ek;exact⟨.list_bool c p1.isList g,.list_bool c p1.isList g⟩
  |int c=>
   cases h;obtain⟨t2,rfl⟩:=i;cases ek;exact⟨.list_int c t2 p1.isList g,.list_int c t2 p1.isList g⟩
  |str c=>
   obtain⟨rfl,_⟩:=h;obtain⟨t2,rfl⟩:=i;cases ek;exact⟨.list_str c t2 p1.isList g,.list_str c t2 p1.isList g⟩
  |tup c=>
   obtain⟨a2,w,rfl,j,l⟩:=h;cases i;obtain⟨t,m,p2,_⟩:=I.tuple j;cases ek;exact⟨.list_tuple p1.isList p2 g,.list_tuple p1.isList p2 g⟩
  |lst c=>
   obtain⟨a2,w,rfl,j,l⟩:=h;cases i;obtain⟨t,m,p2,_⟩:=I.list j;change lu _ _=U _ at ek;obtain⟨f,J,rfl⟩:=uR ek;have q1:E.toArray.size=x1.length:=by rw[zI,<-C.length,D.length]
   have q2:t.toArray.size=c.length:=by rw[zI,<-m.length,l.length]
   have it:=OJ I (n:=99) (A:=X.A) (by simp only[uc]at P;omega) (by omega) D l C m J;by_cases F:E.toArray.size=t.toArray.size
   ·have G:x1.length=c.length:=by omega
    rw[G,Nat.min_self,beq_self_eq_true,Ki,<-G,<-q1];exact⟨.lists p1.isList p2.isList F g it,.lists p1.isList p2.isList F g it⟩
   ·have G:(x1.length==c.length)=false:=by rw[beq_eq_false_iff_ne];omega
    rw[G,ky];exact⟨.lists_lengths p1.isList p2.isList (by simpa using F) g,.lists_lengths p1.isList p2.isList (by simpa using F) g⟩
  |emp=>cases ek
 |emp=>
  cases e<;>first|(cases ek;done)|skip;simp only[qJ,AW]at z h;obtain⟨a,o,rfl,e1⟩:=z;obtain⟨b,o',rfl,e2⟩:=h;cases B;cases i;cases ek;obtain⟨_,W,vs,r,q⟩:=uN I.hok (.inr ⟨o,e1⟩);obtain⟨_,Q,a3,N,M⟩:=uN I.hok (.inr ⟨o',e2⟩);exact⟨LB W Q (yH S r q) (yH S N M) g,Sm W Q (yH S r q) (yH S N M) g⟩
def BT(a b:Bx):O Bx:=if oX a=true\/oX b=true then Y else if min (uc (toD a)) (uc (toD b))<=100 then(uz (toD a) (toD b)).bind λk=>U (.z (.bl k))else Y
def Sq(a b:Bx):O Bx:=if oX a=true\/oX b=true then Y else if min (uc (toD a)) (uc (toD b))<=100 then(uz (toD a) (toD b)).bind λk=>U (.z (.bl (!k)))else Y
theorem of_eq(m:X.A.units+100<cLine):Dy X (AG .Eq) BT:=by
 intro AN s σ H x y v u Q I j l h;obtain⟨a,b,c,g,i,e,q⟩:=h;unfold BT at e;split at e
 ·cases e
 rename_i d;have f:oX a=false:=by cases h:oX a with|false=>rfl|true=>exact absurd (.inl h) d
 have hb:oX b=false:=by cases h:oX b with|false=>rfl|true=>exact absurd (.inr h) d
 split at e
 ·rename_i n;obtain⟨k,ek,e⟩:=AT e;cases e;exact(Vg I n m (g.toD f) (i.toD hb) j l ek).1 X.prog X.w X.xe _ ⟨.bl k,H,I,rfl,q _ H (AV.refl H) trivial (by unfold bh AW;rfl)⟩
 ·cases e
theorem FT(m:X.A.units+100<cLine):Dy X (AG .NotEq) Sq:=by
 intro AN s σ H x y v u Q I j l h;obtain⟨a,b,c,g,i,e,q⟩:=h;unfold Sq at e;split at e
 ·cases e
 rename_i d;have f:oX a=false:=by cases h:oX a with|false=>rfl|true=>exact absurd (.inl h) d
 have hb:oX b=false:=by cases h:oX b with|false=>rfl|true=>exact absurd (.inr h) d
 split at e
 ·rename_i n;obtain⟨k,ek,e⟩:=AT e;cases e;exact(Vg I n m (g.toD f) (i.toD hb) j l ek).2 X.prog X.w X.xe _ ⟨.bl (!k),H,I,rfl,q _ H (AV.refl H) trivial (by unfold bh AW;rfl)⟩
 ·cases e
theorem CN{i:Int}:bh K H (.z (.int i)) (.int i):=by unfold bh AW;rfl
theorem Im{b:Bool}:bh K H (.z (.bl b)) (.bl b):=by unfold bh AW;rfl
theorem Fh(h:x.length<=AA):bh K H (.z (.str x)) (.str x):=by unfold bh AW;exact⟨rfl,h⟩
theorem K8{i:Int}(h:bh K H (.z (.int i)) v):v=.int i:=by simpa only[bh,AW]using h
theorem Ss(h:bh K H (.z (.str x)) v):v=.str x/\x.length<=AA:=by simpa only[bh,AW]using h
theorem Fa(h:bh K H (.z (.tup ds)) v):∃a vs,v=.ref a/\yh K H a vs/\aK K H ds vs:=by simpa only[bh,AW]using h
def i2(g:Int->Int->O Dt):Bx->Bx->O Bx
 |.z (.int i),.z (.int j)=>(g i j).bind λd=>U (.z d)
 |_,_=>Y
theorem FW{f:A0->A0->Sem A0}{r:R2}{g:Int->Int->O Dt}(n:uL X f r)(h:∀i j d H Q,g i j=U d->(∀v,AW X.K H d v->Q v H)->r (.int i) (.int j) H Q):Dy X f (i2 g):=uL.imp n λx y H Q q=>by
 obtain⟨a,b,c,m,l,e,q⟩:=q;unfold i2 at e;split at e
 ·rename_i i j;obtain⟨d,p,e⟩:=AT e;cases e;rw[K8 m,K8 l];exact h i j d H Q p λv o=>q v H (AV.refl H) trivial o
 ·cases e
theorem Fm{i:Int}:AW K H (.int i) (.int i):=by unfold AW;rfl
theorem FI{b:Bool}:AW K H (.bl b) (.bl b):=by unfold AW;rfl
abbrev C2:=i2 λi j=>U (.int (i-j))
abbrev Fu:=i2 λi j=>U (.bl (decide (i<=j)))
abbrev Ff:=i2 λi j=>U (.bl (decide (j<i)))
abbrev IM:=i2 λi j=>U (.bl (decide (j<=i)))
abbrev yI:=i2 λi j=>if 0<j/\j<1073741824 then U (.int (i / j))else Y
abbrev fj:=i2 λi j=>if 0<j then U (.int (i%j))else Y
abbrev Hk:=i2 λi j=>if 0<=j/\j<=1000/\i.natAbs<2 ^ 64 then U (.int (i ^ j.toNat))else Y
theorem FZ:Dy X (binaryOp .Sub) C2:=FW PR λi j d H Q e q=>by cases e;exact⟨i,j,rfl,rfl,q _ Fm⟩
theorem DJ:Dy X (AG .LtE) Fu:=FW b4 λi j d H Q e q=>by cases e;exact⟨i,j,rfl,rfl,q _ FI⟩
theorem NA:Dy X (AG .Gt) Ff:=FW gE λi j d H Q e q=>by cases e;exact⟨i,j,rfl,rfl,q _ FI⟩
theorem R':Dy X (AG .GtE) IM:=FW WE λi j d H Q e q=>by cases e;exact⟨i,j,rfl,rfl,q _ FI⟩
theorem rN:Dy X (binaryOp .FloorDiv) yI:=FW OP λi j d H Q e q=>by
 split at e
 ·rename_i h;cases e;exact⟨i,j,rfl,rfl,h,q _ Fm⟩
 ·cases e
theorem bO:Dy X (binaryOp .Mod) fj:=FW b9 λi j d H Q e q=>by
 split at e
 ·rename_i h;cases e;exact⟨i,j,rfl,rfl,h,q _ Fm⟩
 ·cases e
theorem US:Dy X (binaryOp .Pow) Hk:=FW hJ λi j d H Q e q=>by
 split at e
 ·rename_i h;cases e;exact⟨i,j,rfl,rfl,⟨h.1,by omega,h.2.2⟩,q _ Fm⟩
 ·cases e
def W3:Bx->O Bx
 |.z (.int i)=>U (.z (.int (-i)))
 |_=>Y
theorem Zy:LF X (unaryOp .USub) W3:=DU.imp PY λx H Q q=>by
 obtain⟨a,c,b,e,q⟩:=q;unfold W3 at e;split at e
 ·rename_i i;cases e;exact⟨i,K8 b,q _ H (AV.refl H) trivial CN⟩
 ·cases e
def W4:Nat:=1000000
theorem f':W4<=AA:=by decide
theorem PF{b:A1}{us:Z V}{Q:VK}(I:L2.AU X AN σ H s)(t:qO X.K H l vs)(hb:qO X.K H b us)(j:vs.length+us.length<=AA)(q:∀p,H p=Y->Q (.ref p) (B0 H p (.lst (vs++us)))):
  A7 (A8 X.prog X.w) X.A (binaryOp .Add (.ref l) (.ref b)) (EP X AN σ Q) X.xe s:=by
 obtain⟨AQ,c,⟨⟨C,y,u,sl⟩,m,e1,c1,f,g⟩,z1⟩:=I.list t;obtain⟨a,h,⟨⟨cls2,z,v,n⟩,i,e2,c2,d2,d⟩,z2⟩:=I.list hb;simp only at c1 f g c2 d2 d;subst c1 f g c2 d2 d;have B:=c.length;have x:=h.length;have e:AQ.toArray++a.toArray=(AQ++a).toArray:=by simp
 refine concat_meets ⟨_,e1,rfl⟩ ⟨_,e2,rfl⟩ noFill_list_add seq_list_add PySem.F.slot_list_add PySem.F.entry_list_add (PySem.F.args_list_add_2 _ _) (list_addW l b AQ.toArray a.toArray m i Y Y sl n (by rw[zI,zI];omega)) ⟨e1,e2,?_⟩;rw[e];exact⟨.ref s.heap.objs.size,_,I.laid (t':=s.toks) (o:=.lst (vs++us)) (λb D q=>zd _ q) (zg _) ⟨by rw[zS];exact j,_,0,c.append h,zv _ rfl⟩,rfl,q _ (I.hok.fresh (zg _))⟩
theorem VU{b:A1}{us:Z V}{Q:VK}(I:L2.AU X AN σ H s)(d:yh X.K H l vs)(hb:yh X.K H b us)(f:vs.length+us.length<=AA)(g:vs=[]->Q (.ref b) H)(q1:us=[]->Q (.ref l) H)(q2:∀p,H p=Y->Q (.ref p) (B0 H p (.tup (vs++us)))):
  A7 (A8 X.prog X.w) X.A (binaryOp .Add (.ref l) (.ref b)) (EP X AN σ Q) X.xe s:=by
 by_cases a:vs=[]
 ·obtain⟨AQ,i,⟨⟨v,m,u,sl⟩,e1,c1,h,e⟩,z1⟩:=I.tuple d;obtain⟨n,t,⟨⟨cls2,q,x,o⟩,e2,c2,j,c⟩,z2⟩:=I.tuple hb;simp only at c1 e c2 c;subst c1 e c2 c;have:AQ=[]:=i.Dv.mpr a;exact concat_meets ⟨_,e1,rfl⟩ ⟨_,e2,rfl⟩ noFill_tuple_add seq_tuple_add PySem.F.slot_tuple_add Yf (y3 _ _)
   (tuple_addW0 l b AQ.toArray n.toArray h j m q sl o (by simp[this])) ⟨e1,e2,⟨.ref b,H,I,rfl,g a⟩⟩
 ·exact YY AN s σ H (.ref l) (.ref b) (.ref l) (.ref b) Q I S S ⟨l,b,vs,us,rfl,rfl,d,hb,a,f,q1,λ_=>q2⟩
def dH:Bx->Bx->O Bx
 |.z (.int i),.z (.int j)=>U (.z (.int (i+j)))
 |.z (.str i),.z (.str j)=>if i.length+j.length<=W4 then U (.z (.str (i++j)))else Y
 |.z (.tup xs),.z (.tup ys)=>if xs.length+ys.length<=W4 then U (.z (.tup (xs++ys)))else Y
 |a,b=>(oV a).bind λxs=>(oV b).bind λys=>if xs.length+ys.length<=W4 then U (.o (xs++ys))else Y
theorem DA(i j:AJ):(i++j).length=i.length+j.length:=by
 show(i.cps++j.cps).size=_;rw[KS];rfl
theorem bL:Dy X (binaryOp .Add) dH:=by
 intro AN s σ H x y v u Q I o w h;obtain⟨a,b,c,g,n,e,q⟩:=h;have B:=f';unfold dH at e;split at e
 ·rename_i i j;cases e;exact SE AN s σ H x y v u Q I o w ⟨i,j,K8 g,K8 n,q _ H (AV.refl H) trivial CN⟩
 ·rename_i i j;split at e
  ·rename_i A;cases e;exact RM AN s σ H x y v u Q I o w ⟨i,j,(Ss g).1,(Ss n).1,by omega,q _ H (AV.refl H) trivial (Fh (by rw[DA];omega))⟩
  ·cases e
 ·rename_i xs ys;split at e
  ·rename_i A;cases e;obtain⟨l,vs,rfl,sl,d⟩:=Fa g;obtain⟨m,us,rfl,t,f⟩:=Fa n;cases o;cases w;have h1:=d.length;have h2:=f.length;refine VU I sl t (by omega) (λz=>q _ H (AV.refl H) trivial ?_) (λz=>q _ H (AV.refl H) trivial ?_) λp hp=>q _ _ (bI hp) trivial ?_
   ·unfold bh AW;refine⟨m,us,rfl,t,?_⟩;have:xs=[]:=by subst z;exact List.eq_nil_of_length_eq_zero (by simpa using h1.symm)
    rw[this,kM];exact f
   ·unfold bh AW;refine⟨l,vs,rfl,sl,?_⟩;have:ys=[]:=by subst z;exact List.eq_nil_of_length_eq_zero (by simpa using h2.symm)
    rw[this,ZY];exact d
   ·unfold bh AW;exact⟨p,_,rfl,.inl (.inl aU),(d.append f).kp (.of (bI hp))⟩
  ·cases e
 ·obtain⟨xs,ea,e⟩:=AT e;obtain⟨ys,eb,e⟩:=AT e;split at e
  ·rename_i A;cases e;obtain⟨l,vs,rfl,sl,d⟩:=g.HW ea;obtain⟨m,us,rfl,t,f⟩:=n.HW eb;cases o;cases w;have h1:=d.length;have h2:=f.length;refine PF I sl t (by omega) λp hp=>q _ _ (bI hp) (λa ea=>by cases ea;exact hp) ⟨p,_,rfl,aU,(d.append f).kp (.of (bI hp))⟩
  ·cases e
def uU:Bx->Bx->O Bx
 |.z (.int i),.z (.int j)=>if(-(2 ^ 64)<i/\i<2 ^ 64)\/(-(2 ^ 64)<j/\j<2 ^ 64)then U (.z (.int (i*j)))else Y
 |.z (.str x),.z (.int n)=>if n<=1000 ∧ -1000<=n/\x.length<=1000 then U (.z (.str (Txt.mul x n)))else Y
 |_,_=>Y
theorem wQ(x:Array Nat):∀(n:Nat) (a:Array Nat),((List.replicate n x).foldl (·++·) a).size=a.size+n*x.size
 |0,a=>by simp
 |n+1,a=>by
  rw[yk,QO,wQ x n,KS,Nat.succ_mul];omega
theorem K9(x:AJ)(n:Int):(Txt.mul x n).length<=n.toNat*x.length+x.length:=by
 unfold Txt.mul;split
 ·exact Q1 _
 ·split
  ·exact Nat.le_add_left _ _
  ·show((List.replicate n.toNat x.cps).foldl (·++·) #[]).size<=_;rw[wQ];show(#[]:Array Nat).size+n.toNat*x.cps.size<=n.toNat*x.cps.size+x.cps.size;simp
theorem oY:Dy X (binaryOp .Mult) uU:=by
 intro AN s σ H x y v u Q I m o h;obtain⟨a,b,c,g,l,e,q⟩:=h;unfold uU at e;split at e
 ·rename_i i j;split at e
  ·rename_i d;cases e;exact a9 AN s σ H x y v u Q I m o ⟨i,j,K8 g,K8 l,d,q _ H (AV.refl H) trivial CN⟩
  ·cases e
 ·rename_i f n;split at e
  ·rename_i d;cases e;obtain⟨rfl,hx⟩:=Ss g;have p:=K8 l;subst p;obtain⟨t,rfl⟩:=m;obtain⟨z,rfl⟩:=o;have hs:AA=16777216:=sizeLine_eq;have A:n.toNat*f.length<=1000*1000:=Nat.mul_le_mul (by omega) d.2.2;refine SB.mul ⟨?_,λh1 h2=>?_,λh1 h2=>?_⟩ λz k=>⟨.str _,H,I.tok _,⟨_,rfl⟩,q _ H (AV.refl H) trivial (Fh (ZH (K9 f n) (by omega)))⟩
   ·have e1:decide (n < -(2 ^ 63:Int))=false:=ZE (by omega);have e2:decide (n>=2 ^ 63)=false:=ZE (by omega);rw[e1,e2];rfl
   ·have w:0<n:=by omega
    have:(1000:Int)<=(2 ^ 63-1) / n:=(Int.le_ediv_iff_mul_le w).mpr (by omega);omega
   ·show decide (f.length*n.toNat>AA)=false;rw[Nat.mul_comm];exact ZE (by omega)
  ·cases e
 ·cases e
def JF(i j:AJ):Bool:=!(Builtin.Str.occurrences j i 0 j.length 1).isEmpty
def yJ:Dt->Bool
 |.non=>true
 |.bl _=>true
 |.int _=>true
 |.str _=>true
 |_=>false
def CI(x:Dt)(ys:Z Dt):O Bool:=if yJ x=true/\ys.all yJ=true then U (ys.any λy=>match uz y x with|some true=>true|_=>false)else Y
def wK:Bx->O (Z Dt)
 |.z (.lst ds)=>U ds
 |.z (.tup ds)=>U ds
 |.l ds=>U ds
 |.o ds=>U ds
 |_=>Y
def EF:Bx->Bx->O Bool
 |.z (.str i),.z (.str j)=>U (JF i j)
 |.z d,b=>(wK b).bind λys=>CI d ys
 |_,_=>Y
def CB(a b:Bx):O Bx:=(EF a b).bind λk=>U (.z (.bl k))
def ZD(a b:Bx):O Bx:=(EF a b).bind λk=>U (.z (.bl (!k)))
theorem O1(r:AW K H d v)(f:yJ d=true):tZ v=true:=by
 cases d<;>first|(cases f;done)|skip
 all_goals simp only[AW]at r
 ·subst r;rfl
 ·subst r;rfl
 ·subst r;rfl
 ·obtain⟨rfl,_⟩:=r;rfl
theorem JG{K:B4}{H:Hp}:∀{ds:Z Dt} {vs:Z V},aK K H ds vs->ds.all yJ=true->vs.all tZ=true
 |[],_,h,_=>by simp only[aK]at h;subst h;rfl
 |d::ds,_,h,f=>by
  simp only[aK]at h;obtain⟨v,r,rfl,h1,h2⟩:=h;rw[kr,Zz]at f;rw[kr,O1 h1 f.1,JG h2 f.2];rfl
theorem La(b:Bool):(match U b with|some true=>true|_=>false)=b:=by cases b<;>rfl
theorem eJ{e:Dt}{x y:V}(b:AW K H d x)(a:AW K H e y)(fd:yJ d=true)(fe:yJ e=true):D9 x y=(match uz d e with|some true=>true|_=>false):=by
 cases d<;>first|(cases fd;done)|skip
 all_goals (cases e<;>first|(cases fe;done)|skip)
 all_goals simp only[AW]at b a
 all_goals first
  |(subst b;subst a;exact(La _).symm)
  |(obtain⟨rfl,_⟩:=b;subst a;exact(La _).symm)
  |(subst b;obtain⟨rfl,_⟩:=a;exact(La _).symm)
  |(obtain⟨rfl,_⟩:=b;obtain⟨rfl,_⟩:=a;exact(La _).symm)
theorem Vh{K:B4}{H:Hp}{d:Dt}{x:V}(a:AW K H d x)(fd:yJ d=true):∀{ds:Z Dt} {vs:Z V},aK K H ds vs->ds.all yJ=true->G2 x vs=ds.any λy=>match uz y d with|some true=>true|_=>false
 |[],_,h,_=>by simp only[aK]at h;subst h;rfl
 |e::ds,_,h,f=>by
  simp only[aK]at h;obtain⟨v,r,rfl,h1,h2⟩:=h;rw[kr,Zz]at f;have:=Vh a fd h2 f.2;unfold G2 at this ⊢;rw[kq,kq,eJ h1 a f.1 fd,this]
theorem uV(h:bh K H b v)(e:wK b=U ds):∃a vs,v=.ref a/\(qO K H a vs\/yh K H a vs)/\aK K H ds vs:=by
 cases b with
 |z d=>
  cases d<;>first|(cases e;done)|skip
  ·cases e;obtain⟨a,vs,e,q,r⟩:=Fa h;exact⟨a,vs,e,.inr q,r⟩
  ·cases e;obtain⟨a,vs,e,q,r⟩:=h.HW rfl;exact⟨a,vs,e,.inl q,r⟩
 |l c=>
  cases e;obtain⟨a,vs,e,q,r⟩:=h.HW rfl;exact⟨a,vs,e,.inl q,r⟩
 |o c=>
  cases e;obtain⟨a,vs,e,q,r⟩:=h.HW rfl;exact⟨a,vs,e,.inl q,r⟩
 |n _=>cases e
 |m _ _=>cases e
theorem JH{a:Bx}{x y:V}{k:Bool}(h:bh X.K H a x)(g:bh X.K H b y)(e:EF a b=U k):
  (∃i j,x=.str i/\y=.str j/\k=JF i j)\/(∃p xs,y=.ref p/\(qO X.K H p xs\/yh X.K H p xs)/\tZ x=true/\xs.all tZ=true/\k=G2 x xs):=by
 unfold EF at e;split at e
 ·rename_i i j;cases e;exact .inl ⟨i,j,(Ss h).1,(Ss g).1,rfl⟩
 ·rename_i d _;obtain⟨ys,m,e⟩:=AT e;unfold CI at e;split at e
  ·rename_i c;cases e;obtain⟨p,vs,rfl,sq,l⟩:=uV g m;have f:AW X.K H d x:=h;exact .inr ⟨p,vs,rfl,sq,O1 f c.1,JG l c.2,(Vh f c.1 l c.2).symm⟩
  ·cases e
 ·cases e
theorem JK:Dy X (AG .In) CB:=by
 intro AN s σ H x y v u Q I f d h;obtain⟨a,b,c,l,g,e,q⟩:=h;obtain⟨k,ek,e⟩:=AT e;cases e;rcases JH l g ek with⟨i,j,rfl,rfl,rfl⟩|⟨p,xs,rfl,sq,f1,f2,rfl⟩
 ·exact Ww AN s σ H _ _ v u Q I f d ⟨i,j,rfl,rfl,q _ H (AV.refl H) trivial Im⟩
 ·exact Wz AN s σ H _ _ v u Q I f d ⟨p,xs,rfl,sq,f1,f2,q _ H (AV.refl H) trivial Im⟩
theorem O2:Dy X (AG .NotIn) ZD:=by
 intro AN s σ H x y v u Q I f d h;obtain⟨a,b,c,l,g,e,q⟩:=h;obtain⟨k,ek,e⟩:=AT e;cases e;rcases JH l g ek with⟨i,j,rfl,rfl,rfl⟩|⟨p,xs,rfl,sq,f1,f2,rfl⟩
 ·exact KD AN s σ H _ _ v u Q I f d ⟨i,j,rfl,rfl,q _ H (AV.refl H) trivial Im⟩
 ·exact KC AN s σ H _ _ v u Q I f d ⟨p,xs,rfl,sq,f1,f2,q _ H (AV.refl H) trivial Im⟩
def Ga:Bx->Bool
 |.z .non=>true
 |_=>false
theorem JL(h:bh K H b v):decide (v=.non)=Ga b:=by
 cases b with
 |z d=>
  cases d<;>simp only[bh,AW]at h
  ·subst h;rfl
  ·subst h;rfl
  ·subst h;rfl
  ·obtain⟨rfl,_⟩:=h;rfl
  ·obtain⟨_,_,rfl,_⟩:=h;rfl
  ·obtain⟨_,_,rfl,_⟩:=h;rfl
  ·obtain⟨_,_,rfl,_⟩:=h;rfl
 |l ds=>obtain⟨_,_,rfl,_⟩:=h;rfl
 |o ds=>obtain⟨_,_,rfl,_⟩:=h;rfl
 |n ds=>obtain⟨_,_,rfl,_⟩:=h;rfl
 |m ds _=>obtain⟨_,_,rfl,_⟩:=h;rfl
def DS(a:Bx):Bx->O Bx
 |.z .non=>U (.z (.bl (Ga a)))
 |_=>Y
def Bo(a:Bx):Bx->O Bx
 |.z .non=>U (.z (.bl (!Ga a)))
 |_=>Y
theorem DT:Dy X (AG .Is) DS:=uL.imp ci λx y H Q q=>by
 obtain⟨a,b,c,f,d,e,q⟩:=q;unfold DS at e;split at e
 ·cases e;simp only[bh,AW]at d;exact⟨d,by rw[JL f];exact q _ H (AV.refl H) trivial Im⟩
 ·cases e
theorem DX:Dy X (AG .IsNot) Bo:=uL.imp Re λx y H Q q=>by
 obtain⟨a,b,c,f,d,e,q⟩:=q;unfold Bo at e;split at e
 ·cases e;simp only[bh,AW]at d;exact⟨d,by rw[JL f];exact q _ H (AV.refl H) trivial Im⟩
 ·cases e
def gK:Bx->Bx->O Bx
 |.z (.str x),.z (.int i)=>(Ie x.cps.toList i).bind λc=>U (.z (.str ⟨#[c]⟩))
 |b,.z (.int i)=>(wK b).bind λds=>(Ie ds i).bind λd=>U (.z d)
 |_,_=>Y
theorem RS{i:Int}(r:aK K H ds vs)(e:Ie ds i=U d):∃v,Ie vs i=U v/\AW K H d v:=by
 unfold Ie at e ⊢;rw[r.length];obtain⟨j,a,e⟩:=AT e;rw[a];exact r.get e
theorem bD{a b:Expr}(j:QV X a fa)(hb:QV X b fb)(hs:U7 b:=by intro _ _;with_unfolding_all rfl):QV X (.Subscript a b pos) (b2 gK fa fb):=⟨have j:=j.run;have hb:=hb.run;Ii (ie P5 j hb hs) λσ H Q h=>by
 obtain⟨H0,ρ,c,E,e,q⟩:=h;obtain⟨a,ea,e⟩:=AT e;obtain⟨b,eb,e⟩:=AT e;refine⟨H0,ρ,a,E,ea,λv H1 g C y=>⟨H0,ρ,b,E.grow g,eb,λu H2 f D n=>?_⟩⟩;have l:=y.same f;unfold gK at e;split at e
 ·rename_i x i;obtain⟨s,z,e⟩:=AT e;cases e;exact .inr (.inr ⟨_,_,s,(Ss l).1,K8 n,(Ss l).2,z,q _ _ (g.trans f) trivial (Fh (by show(1:Nat)<=AA;decide))⟩)
 ·obtain⟨ds,B,e⟩:=AT e;obtain⟨d,A,e⟩:=AT e;cases e;obtain⟨p,vs,rfl,sq,t⟩:=uV l B;obtain⟨w,m,o⟩:=RS t A;have hi:=K8 n;rcases sq with sq|sq
  ·exact .inl ⟨p,vs,_,w,rfl,hi,sq,m,q _ _ (g.trans f) trivial o⟩
  ·exact .inr (.inl ⟨p,vs,_,w,rfl,hi,sq,m,q _ _ (g.trans f) trivial o⟩)
 ·cases e⟩
theorem Sv:AH "int"=U (.type "int"):=by decide +kernel
theorem Y3:AH "str"=U (.type "str"):=by decide +kernel
theorem qW:AH "tuple"=U (.type "tuple"):=by decide +kernel
theorem Lb:AH "list"=U (.type "list"):=by decide +kernel
theorem wR:AH "isinstance"=U (.builtin "isinstance"):=by decide +kernel
theorem rO:AH "len"=U (.builtin "len"):=by decide +kernel
theorem X':AH "abs"=U (.builtin "abs"):=by decide +kernel
theorem ZF:AH "all"=U (.builtin "all"):=by decide +kernel
theorem fF:AH "any"=U (.builtin "any"):=by decide +kernel
theorem Ld:AH "min"=U (.builtin "min"):=by decide +kernel
theorem rP:AH "max"=U (.builtin "max"):=by decide +kernel
theorem qX:AH "sorted"=U (.builtin "sorted"):=by decide +kernel
def lA:Dt->Bool
 |.str _=>true
 |_=>false
theorem XZ(I:L2.AU X AN σ H s){x:V}{v:A0}{Q:VK}(f:qJ X.K H d x)(g:As x v)(q:Q (.bl (lA d)) H):A7 (A8 X.prog X.w) X.A (call (.builtin "isinstance") [v,.type "str"]) (EP X AN σ Q) X.xe s:=by
 cases d with
 |non=>simp only[qJ,AW]at f;subst f;cases g;exact IsiPair.NoneType_str ⟨.bl _,H,I.tok _,rfl,q⟩
 |bl b=>simp only[qJ,AW]at f;subst f;cases g;exact IsiPair.bool_str ⟨.bl _,H,I.tok _,rfl,q⟩
 |int b=>simp only[qJ,AW]at f;subst f;obtain⟨t,rfl⟩:=g;exact IsiPair.int_str ⟨.bl _,H,I.tok _,rfl,q⟩
 |str b=>simp only[qJ,AW]at f;obtain⟨rfl,_⟩:=f;obtain⟨t,rfl⟩:=g;exact IsiPair.str_str ⟨.bl _,H,I,rfl,q⟩
 |tup ds=>simp only[qJ,AW]at f;obtain⟨a,vs,rfl,sq,_⟩:=f;cases g;obtain⟨_,_,p,_⟩:=I.tuple sq;exact IsiPair.isTuple_str p (λ_ _ e=>e) ⟨.bl _,H,I.tok _,rfl,q⟩
 |lst ds=>simp only[qJ]at f;obtain⟨a,vs,rfl,sq,_⟩:=f;cases g;obtain⟨_,_,p,_⟩:=I.list sq;exact IsiPair.isList_str p.isList (λ_ _ e=>e) ⟨.bl _,H,I.tok _,rfl,q⟩
 |emp=>simp only[qJ,AW]at f;obtain⟨a,o,rfl,sq⟩:=f;cases g;obtain⟨h,e,c⟩:=vY I sq;exact IsiPair.dict_str e c ⟨.bl _,H,I.tok _,rfl,q⟩
theorem Sw{p:Pos}(he:QV X e f)(w:Gl X "isinstance")(y:X.mg "isinstance"=Y)(i:Gl X "str")(n:X.mg "str"=Y)(hs:A9 [e,.Name "str" p2] X.env=[(false,eval e X.env),(false,eval (.Name "str" p2) X.env)]:=by rfl):QV X (.Call (.Name "isinstance" p) [e,.Name "str" p2] [] pos) (b1 (λb=>if oX b=true then Y else U (.z (.bl (lA (toD b))))) f):=⟨by
 have he:=he.run;have o:fK X (.builtin "isinstance") (λxs H Q=>∃b x,xs=[x,.ty "str"]/\bh X.K H b x/\oX b=false/\Q (.bl (lA (toD b))) H):=by
  intro AN s σ H xs us Q I r h;obtain⟨b,x,rfl,l,m,q⟩:=h;obtain⟨u,A,rfl,a,g⟩:=Db r;cases g;exact XZ I (l.toD m) a q
 have j:PA X [e,.Name "str" p2] (Oa (tF X.K f) (Oa (tC (.ty "str")) IP)):=bw he (bw (Ko i n (v:=.ty "str") (u:=.type "str") Y3 S) d7) (by rw[hs]<;>rfl);refine Ii (gq o w y wR j (by decide) (by decide) (by rw[hs]<;>rfl) S) λσ H Q h=>?_;obtain⟨H0,ρ,c,E,e,q⟩:=h;obtain⟨b,eb,e⟩:=AT e;split at e
 ·cases e
 rename_i d;cases e;exact⟨H0,ρ,b,E,eb,λv H1 t B a=>⟨b,v,rfl,a,by simpa using d,q _ _ t trivial Im⟩⟩⟩
def BN:Dt->Bool
 |.lst _=>true
 |_=>false
theorem ZG(I:L2.AU X AN σ H s){x:V}{v:A0}{Q:VK}(f:qJ X.K H d x)(g:As x v)(q:Q (.bl (BN d)) H):A7 (A8 X.prog X.w) X.A (call (.builtin "isinstance") [v,.type "list"]) (EP X AN σ Q) X.xe s:=by
 cases d with
 |non=>simp only[qJ,AW]at f;subst f;cases g;exact IsiPair.NoneType_list ⟨.bl _,H,I.tok _,rfl,q⟩
 |bl b=>simp only[qJ,AW]at f;subst f;cases g;exact IsiPair.bool_list ⟨.bl _,H,I.tok _,rfl,q⟩
 |int b=>simp only[qJ,AW]at f;subst f;obtain⟨t,rfl⟩:=g;exact IsiPair.int_list ⟨.bl _,H,I.tok _,rfl,q⟩
 |str b=>simp only[qJ,AW]at f;obtain⟨rfl,_⟩:=f;obtain⟨t,rfl⟩:=g;exact IsiPair.str_list ⟨.bl _,H,I.tok _,rfl,q⟩
 |tup ds=>simp only[qJ,AW]at f;obtain⟨a,vs,rfl,sq,_⟩:=f;cases g;obtain⟨_,_,p,_⟩:=I.tuple sq;exact IsiPair.isTuple_list p (λ_ _ e=>e) ⟨.bl _,H,I.tok _,rfl,q⟩
 |lst ds=>simp only[qJ]at f;obtain⟨a,vs,rfl,sq,_⟩:=f;cases g;obtain⟨_,_,p,_⟩:=I.list sq;exact IsiPair.isList_list p.isList (λ_ _ e=>e) ⟨.bl _,H,I,rfl,q⟩
 |emp=>simp only[qJ,AW]at f;obtain⟨a,o,rfl,sq⟩:=f;cases g;obtain⟨h,e,c⟩:=vY I sq;exact IsiPair.dict_list e c ⟨.bl _,H,I.tok _,rfl,q⟩
theorem O4{p:Pos}(he:QV X e f)(w:Gl X "isinstance")(y:X.mg "isinstance"=Y)(i:Gl X "list")(n:X.mg "list"=Y)(hs:A9 [e,.Name "list" p2] X.env=[(false,eval e X.env),(false,eval (.Name "list" p2) X.env)]:=by rfl):QV X (.Call (.Name "isinstance" p) [e,.Name "list" p2] [] pos) (b1 (λb=>if oX b=true then Y else U (.z (.bl (BN (toD b))))) f):=⟨by
 have he:=he.run;have o:fK X (.builtin "isinstance") (λxs H Q=>∃b x,xs=[x,.ty "list"]/\bh X.K H b x/\oX b=false/\Q (.bl (BN (toD b))) H):=by
  intro AN s σ H xs us Q I r h;obtain⟨b,x,rfl,l,m,q⟩:=h;obtain⟨u,A,rfl,a,g⟩:=Db r;cases g;exact ZG I (l.toD m) a q
 have j:PA X [e,.Name "list" p2] (Oa (tF X.K f) (Oa (tC (.ty "list")) IP)):=bw he (bw (Ko i n (v:=.ty "list") (u:=.type "list") Lb S) d7) (by rw[hs]<;>rfl);refine Ii (gq o w y wR j (by decide) (by decide) (by rw[hs]<;>rfl) S) λσ H Q h=>?_;obtain⟨H0,ρ,c,E,e,q⟩:=h;obtain⟨b,eb,e⟩:=AT e;split at e
 ·cases e
 rename_i d;cases e;exact⟨H0,ρ,b,E,eb,λv H1 t B a=>⟨b,v,rfl,a,by simpa using d,q _ _ t trivial Im⟩⟩⟩
def P2(K:B4)(f:Ev->O (O Int)):TO:=λσ H Q=>∃H0 ρ o,bM K H0 H σ ρ/\f ρ=U o/\∀H',AV H H'->Q o H'
def UT(X:Cx)(e:O Expr)(f:Ev->O (O Int)):Prop:=PO X e (P2 X.K f)
structure GL (X:Cx) (e:Option Expr) (f:Ev->Option (Option Int)):Prop where
 run:UT X e f
theorem NS{e:O Expr}{t t':TO}(h:PO X e t)(m:∀ σ H Q,t' σ H Q->t σ H Q):PO X e t':=λAN s σ H Q I q=>h AN s σ H Q I (m σ H Q q)
def iM:Ev->O (O Int):=λ_=>U Y
theorem fu  :GL X Y iM:=⟨NS Sj λσ H Q h=>by
 obtain⟨H0,ρ,o,E,e,q⟩:=h;cases e;exact q H (AV.refl H)⟩
def IN:Bx->O (O Int)
 |.z (.int i)=>U (U i)
 |_=>Y
def jO(f:Ev->O Bx):Ev->O (O Int):=λρ=>(f ρ).bind IN
theorem dR(h:QV X e f):GL X (U e) (jO f):=⟨have h:=h.run;NS (OV h) λσ H Q q=>by
 obtain⟨H0,ρ,o,E,e,q⟩:=q;obtain⟨b,eb,e⟩:=AT e;refine⟨H0,ρ,b,E,eb,λv H1 c d a=>?_⟩;unfold IN at e;split at e
 ·rename_i i;cases e;exact⟨i,K8 a,q H1 c⟩
 ·cases e⟩
def Bz(xs:Z Dt)(lo hi:O Int):Z Dt:=(xs.drop (HT.iK xs.length 0 lo)).take (HT.iK xs.length xs.length hi-HT.iK xs.length 0 lo)
theorem O5(r:aK K H ds vs)(lo hi:O Int):aK K H (Bz ds lo hi) (Oc vs lo hi):=by
 unfold Bz Oc;rw[r.length];exact(r.drop _).take _
theorem ZJ(ds:Z Dt)(h1:HT.iK ds.length 0 lo=0)(h2:HT.iK ds.length ds.length hi=ds.length):Bz ds lo hi=ds:=by
 unfold Bz;rw[h1,h2];simp
theorem yK{t sl:A1}{b c:A0}{Q:B9}(a:IsTup s.heap t items)(hs:s.heap.IsSliceOf sl b c .none)(pl:IsPart b lo)(f:IsPart c hi)(h1:HT.iK items.size 0 lo=0)(h2:HT.iK items.size items.size hi=items.size)(h:Q (.ref t) s):A7 (A8 prog w) A (getItem (.ref t) (.ref sl)) Q E s:=by
 obtain⟨os,d,i,j⟩:=id hs;have e:s.TypeIs (.ref sl) "slice":=⟨os,d,i⟩;unfold getItem
 try with_reducible refine qA ?_
 first|refine zb (ze ?_)|skip
 refine zb (wpAny_sequenceKey a.typeIs (by decide) ?_);refine zb (KB (name:=Str.ofString "__getitem__") a.typeIs PyProof.Rows.slot_tuple_getitem
  (kf PyProof.Rows.slot_tuple_getitem a.typeIs entry_tuple_getitem ?_ (args_tuple_getitem _ _)))
 show A7 _ _ (Builtin.Tuple.tupleItemsOf (.ref t) >>= _) _ _ s;refine zb (tupleItemsOf_ a ?_);refine zb (QR e ?_);rw[zh (by decide)];refine zb (HT.qQ hs pl f ?_);have g:(((HT.iK items.size 0 lo:Nat):Int)==0&&(1:Int)==1&&(HT.iK items.size items.size hi-HT.iK items.size 0 lo)==items.size)=true:=by
  rw[h1,h2];simp
 show A7 _ _ (if(((HT.iK items.size 0 lo:Nat):Int)==0&&(1:Int)==1&&(HT.iK items.size items.size hi-HT.iK items.size 0 lo)==items.size)=true then _ else _) _ _ s;rw[zh g]
 first
  |refine zb (zb (QR a.typeIs (ze ?_)))
  |refine zb (QR a.typeIs (zb (ze ?_)))
  |refine zb (QR a.typeIs ?_)
 rw[zh (by decide)]
 first
  |exact zb (Kn (ze ⟨_,rfl,ze h⟩))
  |exact zb (Kn (zb (ze (ze ⟨_,rfl,ze h⟩))))
def EM(b:Bx)(lo hi:O Int):O Bx:=match b with
 |.z (.str x)=>U (.z (.str (Txt.slice x lo hi)))
 |.z (.tup ds)=>U (.z (.tup (Bz ds lo hi)))
 |b=>(oV b).bind λds=>U (.o (Bz ds lo hi))
def WU(K:B4):V->O Int->O Int->Hp->VK->Prop:=λx lo hi H Q=>∃b c,bh K H b x/\EM b lo hi=U c/\∀w H',AV H H'->Nw H c w->bh K H' c w->Q w H'
theorem SI:G1 X (WU X.K):=by
 intro AN s σ H x v C E lo hi sl Q I z hs pl m h;obtain⟨b,c,n,e,q⟩:=h;unfold EM at e;split at e
 ·rename_i y;cases e;obtain⟨rfl,d⟩:=Ss n;obtain⟨t,rfl⟩:=z;refine⟨"str", _,F.slot_str_getitem.lookup,typeIs_str _ _ _,?_⟩;obtain⟨o,e1,e2,e3⟩:=hs;have w:∀J k,EP X AN σ Q (.str (Txt.slice y lo hi) J) { s with toks:=k }:=λJ k=>⟨.str _,H,I.tok _,⟨_,rfl⟩,q _ H (AV.refl H) trivial (Fh (ZH (Txt.slice_le y _ _) d))⟩;cases pl with
  |none=>
   cases m with
   |none=>exact KA (l:=Y) (u:=Y) (st:=Y) ⟨o,e1,e2,e3⟩ S (post_val_or_str ⟨ZH (Txt.slice_le y _ _) d,w⟩)
   |int j A=>exact KA (l:=Y) (u:=U (j,A)) (st:=Y) ⟨o,e1,e2,e3⟩ S (post_val_or_str ⟨ZH (Txt.slice_le y _ _) d,w⟩)
  |int i G=>
   cases m with
   |none=>exact KA (l:=U (i,G)) (u:=Y) (st:=Y) ⟨o,e1,e2,e3⟩ S (post_val_or_str ⟨ZH (Txt.slice_le y _ _) d,w⟩)
   |int j A=>exact KA (l:=U (i,G)) (u:=U (j,A)) (st:=Y) ⟨o,e1,e2,e3⟩ S (post_val_or_str ⟨ZH (Txt.slice_le y _ _) d,w⟩)
 ·rename_i ds;cases e;obtain⟨a,vs,rfl,sq,f⟩:=Fa n;by_cases g:HT.iK vs.length 0 lo=0/\HT.iK vs.length vs.length hi=vs.length
  ·cases z;obtain⟨AQ,r,D,M⟩:=I.tuple sq;have B:AQ.toArray.size=vs.length:=by rw[zI];exact r.length.symm
   refine⟨"tuple", _,PyProof.Rows.slot_tuple_getitem.lookup,D.typeIs,yK D hs pl m (by rw[B];exact g.1) (by rw[B];exact g.2) ⟨.ref a,H,I,rfl,q _ H (AV.refl H) trivial ?_⟩⟩;rw[ZJ ds (by rw[<-f.length];exact g.1) (by rw[<-f.length];exact g.2)];exact n
  ·refine TL AN s σ H _ v C E lo hi sl Q I z hs pl m ⟨a,vs,rfl,sq,g,λp hp=>q _ _ (bI hp) trivial ?_⟩;unfold bh AW;exact⟨p,_,rfl,.inl (.inl aU),(O5 f lo hi).kp (.of (bI hp))⟩
 ·obtain⟨ds,L,e⟩:=AT e;cases e;obtain⟨a,vs,rfl,sq,f⟩:=n.HW L;exact gl AN s σ H _ v C E lo hi sl Q I z hs pl m ⟨a,vs,rfl,sq,λp hp=>q _ _ (bI hp) (λa ea=>by cases ea;exact hp) ⟨p,_,rfl,aU,(O5 f lo hi).kp (.of (bI hp))⟩⟩
def Gb(f:Ev->O Bx)(fl fh:Ev->O (O Int)):Ev->O Bx:=λρ=>(f ρ).bind λb=>(fl ρ).bind λlo=>(fh ρ).bind λhi=>EM b lo hi
theorem nD{lo hi:O Expr}{fl fh:Ev->O (O Int)}(he:QV X e f)(i:GL X lo fl)(d:GL X hi fh):QV X (.Subscript e (.Slice lo hi Y p2) pos) (Gb f fl fh):=⟨have he:=he.run;have i:=i.run;have d:=d.run;Ii (YZ SI he i d) λσ H Q h=>by
 obtain⟨H0,ρ,c,E,e,q⟩:=h;obtain⟨b,eb,e⟩:=AT e;obtain⟨lo,el,e⟩:=AT e;obtain⟨hi,t,e⟩:=AT e;refine⟨H0,ρ,b,E,eb,λv H1 g u p=>⟨H0,ρ,lo,E.grow g,el,λH2 a=>⟨H0,ρ,hi,E.grow (g.trans a),t,λx j=>?_⟩⟩⟩;have l:=(g.trans a).trans j;exact⟨b,c,(p.same a).same j,e,λw m n s o=>q w m (l.trans n) (s.old l) o⟩⟩
def uW:Z Bx->O Bx
 |[.z (.str x)]=>U (.z (.int x.length))
 |[b]=>(wK b).bind λds=>U (.z (.int ds.length))
 |_=>Y
theorem BM(r:pJ K H [b] vs):∃v,vs=[v]/\bh K H b v:=by
 cases r with
 |cons p t=>cases t;exact⟨_,rfl,p⟩
theorem F6{c:Bx}(r:pJ K H [b,c] vs):∃v u,vs=[v,u]/\bh K H b v/\bh K H c u:=by
 cases r with
 |cons p t=>
  cases t with
  |cons p' a=>cases a;exact⟨_,_,rfl,p,p'⟩
theorem rQ:nC X (.builtin "len") uW:=fK.imp (KH.or KJ) λxs H Q q=>by
 obtain⟨bs,c,b,e,q⟩:=q;unfold uW at e;split at e
 ·rename_i x;cases e;obtain⟨v,rfl,a⟩:=BM b;obtain⟨rfl,hx⟩:=Ss a;exact .inr ⟨x,rfl,hx,q _ H (AV.refl H) trivial CN⟩
 ·obtain⟨ds,d,e⟩:=AT e;cases e;obtain⟨v,rfl,a⟩:=BM b;obtain⟨p,vs,rfl,sq,f⟩:=uV a d;exact .inl ⟨p,vs,rfl,sq,by rw[f.length];exact q _ H (AV.refl H) trivial CN⟩
 ·cases e
def ZK:Z Bx->O Bx
 |[.z (.int i)]=>U (.z (.int (if i<0 then -i else i)))
 |_=>Y
theorem Si:nC X (.builtin "abs") ZK:=fK.imp YT λxs H Q q=>by
 obtain⟨bs,c,b,e,q⟩:=q;unfold ZK at e;split at e
 ·rename_i i;cases e;obtain⟨v,rfl,a⟩:=BM b;have:=K8 a;subst this;exact⟨i,rfl,q _ H (AV.refl H) trivial CN⟩
 ·cases e
def Sx:Z Bx->O Bx
 |[.z (.int i)]=>U (.z (.int i))
 |[.z (.bl k)]=>U (.z (.int (if k then 1 else 0)))
 |_=>Y
theorem Sy:nC X (.type "int") Sx:=fK.imp Wx λxs H Q q=>by
 obtain⟨bs,c,b,e,q⟩:=q;unfold Sx at e;split at e
 ·rename_i i;cases e;obtain⟨v,rfl,a⟩:=BM b;have:=K8 a;subst this;exact .inl ⟨i,rfl,q _ H (AV.refl H) trivial CN⟩
 ·rename_i k;cases e;obtain⟨v,rfl,a⟩:=BM b;simp only[bh,AW]at a;subst a;exact .inr ⟨k,rfl,q _ H (AV.refl H) trivial CN⟩
 ·cases e
def O6:Z Bx->O Bx
 |[b]=>(wK b).bind λds=>U (.o ds)
 |_=>Y
theorem P8:nC X (.type "list") O6:=fK.imp KN λxs H Q q=>by
 obtain⟨bs,c,d,e,q⟩:=q;unfold O6 at e;split at e
 ·obtain⟨ds,h,e⟩:=AT e;cases e;obtain⟨v,rfl,g⟩:=BM d;obtain⟨p,vs,rfl,sq,f⟩:=uV g h;exact⟨p,vs,rfl,sq,λl b=>q _ _ (bI b) (λa ea=>by cases ea;exact b) ⟨l,vs,rfl,aU,f.kp (.of (bI b))⟩⟩
 ·cases e
def lB:Z Bx->O Bx
 |[b]=>(wK b).bind λds=>U (.z (.tup ds))
 |_=>Y
theorem qY:nC X (.type "tuple") lB:=fK.imp Ih λxs H Q q=>by
 obtain⟨bs,c,d,e,q⟩:=q;unfold lB at e;split at e
 ·obtain⟨ds,g,e⟩:=AT e;cases e;obtain⟨v,rfl,f⟩:=BM d;obtain⟨p,vs,rfl,sq,a⟩:=uV f g;refine⟨p,vs,rfl,?_⟩;rcases sq with sq|sq
  ·refine .inl ⟨sq,λl b=>q _ _ (bI b) trivial ?_⟩;unfold bh AW;exact⟨l,vs,rfl,.inl (.inl aU),a.kp (.of (bI b))⟩
  ·refine .inr ⟨sq,q _ H (AV.refl H) trivial ?_⟩;unfold bh AW;exact⟨p,vs,rfl,sq,a⟩
 ·cases e
def Gd:Z Dt->O (Z Bool)
 |[]=>U []
 |.bl b::ds=>(Gd ds).bind λbs=>U (b::bs)
 |_=>Y
theorem xK{K:B4}{H:Hp}:∀{ds:Z Dt} {bs:Z Bool} {vs:Z V} {us:Z A0},Gd ds=U bs->aK K H ds vs->AX vs us->us=bs.map Value.bool
 |[],_,_,_,e,r,w=>by
  cases e;simp only[aK]at r;subst r;cases w;rfl
 |d::ds,_,_,_,e,r,w=>by
  simp only[aK]at r;obtain⟨v,a,rfl,h1,h2⟩:=r;cases d<;>first|(cases e;done)|skip;simp only[Gd]at e;obtain⟨bs,e1,e⟩:=AT e;cases e;simp only[AW]at h1;subst h1;cases w with
  |cons p t=>
   cases p;rw[xK e1 h2 t];rfl
theorem CC(bs:Z Bool):((List.range bs.length).all λi=>bs.getD i false)=bs.all id:=by
 rw[JE,qo,qo];constructor
 ·intro h b hb;obtain⟨i,hi,rfl⟩:=List.mem_iff_getElem.mp hb;have:=h i (by simpa using hi);simpa[List.getD,hi]using this
 ·intro h i hi;have hi:i<bs.length:=by simpa using hi
  have:=h bs[i] (k7 hi);simpa[List.getD,hi]using this
theorem CL(bs:Z Bool):((List.range bs.length).any λi=>bs.getD i false)=bs.any id:=by
 rw[JE,QP,QP];constructor
 ·rintro⟨i,hi,h⟩;have hi:i<bs.length:=by simpa using hi
  exact⟨bs[i],k7 hi,by simpa[List.getD,hi]using h⟩
 ·rintro⟨b,hb,h⟩;obtain⟨i,hi,rfl⟩:=List.mem_iff_getElem.mp hb;exact⟨i,by simpa using hi,by simpa[List.getD,hi]using h⟩
def CF:Z Bx->O Bx
 |[b]=>(oV b).bind λds=>(Gd ds).bind λbs=>U (.z (.bl (bs.all id)))
 |_=>Y
def Cb:Z Bx->O Bx
 |[b]=>(oV b).bind λds=>(Gd ds).bind λbs=>U (.z (.bl (bs.any id)))
 |_=>Y
theorem Bp(bs:Z Bool):TruthOf prog w A (λi v=>(bs.map Value.bool).toArray[i]?=U v) λi=>bs.getD i false:=λi v s Q E h q=>by
 have h':(bs.map Value.bool)[i]?=U v:=by simpa using h
 rw[ZN]at h';cases e:bs[i]? with
 |none=>rw[e]at h';cases h'
 |some b=>
  rw[e]at h';cases h';have:bs.getD i false=b:=by simp[List.getD,e]
  have a:Q b s:=by rw[<-this];exact q
  exact JP a
theorem ZL(z:X.calm=true):nC X (.builtin "all") CF:=by
 intro AN s σ H xs us Q I r h;obtain⟨bs,c,g,e,q⟩:=h;unfold CF at e;split at e
 ·obtain⟨ds,y,e⟩:=AT e;obtain⟨ks,ek,e⟩:=AT e;cases e;obtain⟨v,rfl,t⟩:=BM g;obtain⟨a,vs,rfl,sq,m⟩:=t.HW y;obtain⟨u,rfl,l⟩:=BC r;cases l;obtain⟨AQ,w,pl,D⟩:=I.list sq;have d:=xK ek m w;have x:a<s.heap.objs.size:=by obtain⟨o,n,e,_⟩:=pl;exact zt e
  refine call_all_walk (yY pl.isList ?_);refine⟨s.heap.objs.size,_,_,_,_,_,λi=>ks.getD i false,rfl,Walks.list (by show X.A.handled=Y;exact I.ok.hd z) s.heap.objs.size a (Zl x) AQ.toArray,⟨⟨_,zv _ rfl,rfl,rfl⟩,pl.isList.push _⟩,?_,λh' tk k=>?_⟩
  ·rw[d];exact Bp ks
  ·have j:AQ.toArray.size=ks.length:=by rw[d];simp
   rw[j,CC];have p:L2.AU X AN σ H { s with heap:=s.heap.push { cls:=.type "list_iterator",data:=.fields #[.ref a,.int 0 0] } }:=I.kept (t':=s.toks) λb o e=>zd _ e;refine⟨.bl _,H,?_,rfl,q _ H (AV.refl H) trivial Im⟩;obtain⟨f0,f1,f2,B,f,C⟩:=I.N8 (b:=s.heap.objs.size) (H':=H) (zg _) (I.hok.fresh (zg _));exact p.turned (it:=s.heap.objs.size) (λb o hb e=>k b o (by simpa using hb) e) f0 f1 B f C
 ·cases e
theorem YR(z:X.calm=true):nC X (.builtin "any") Cb:=by
 intro AN s σ H xs us Q I r h;obtain⟨bs,c,g,e,q⟩:=h;unfold Cb at e;split at e
 ·obtain⟨ds,y,e⟩:=AT e;obtain⟨ks,ek,e⟩:=AT e;cases e;obtain⟨v,rfl,t⟩:=BM g;obtain⟨a,vs,rfl,sq,m⟩:=t.HW y;obtain⟨u,rfl,l⟩:=BC r;cases l;obtain⟨AQ,w,pl,D⟩:=I.list sq;have d:=xK ek m w;have x:a<s.heap.objs.size:=by obtain⟨o,n,e,_⟩:=pl;exact zt e
  refine call_any_walk (yY pl.isList ?_);refine⟨s.heap.objs.size,_,_,_,_,_,λi=>ks.getD i false,rfl,Walks.list (by show X.A.handled=Y;exact I.ok.hd z) s.heap.objs.size a (Zl x) AQ.toArray,⟨⟨_,zv _ rfl,rfl,rfl⟩,pl.isList.push _⟩,?_,λh' tk k=>?_⟩
  ·rw[d];exact Bp ks
  ·have j:AQ.toArray.size=ks.length:=by rw[d];simp
   rw[j,CL];have p:L2.AU X AN σ H { s with heap:=s.heap.push { cls:=.type "list_iterator",data:=.fields #[.ref a,.int 0 0] } }:=I.kept (t':=s.toks) λb o e=>zd _ e;refine⟨.bl _,H,?_,rfl,q _ H (AV.refl H) trivial Im⟩;obtain⟨f0,f1,f2,B,f,C⟩:=I.N8 (b:=s.heap.objs.size) (H':=H) (zg _) (I.hok.fresh (zg _));exact p.turned (it:=s.heap.objs.size) (λb o hb e=>k b o (by simpa using hb) e) f0 f1 B f C
 ·cases e
end P1
namespace P1
open L2
def gv(i:Nat):Ev->O Bx:=λρ=>yu ρ i
def vZ(g:Bx->Bx->O Bx)(fa fb:Ev->O Bx):Ev->O Bool:=λρ=>(b2 g fa fb ρ).bind KY
def tV(f:Ev->O Bx):Ev->O Bool:=λρ=>(f ρ).bind Zi
def aH:Ev->O (Z Bx):=λ_=>U []
def JM(p:Dt->Bool)(f:Ev->O Bx):Ev->O Bx:=b1 (λb=>if oX b=true then Y else U (.z (.bl (p (toD b))))) f
def fB:Ev->O An:=λρ=>U (.nx ρ)
def jw(f:Ev->O Bx):Ev->O An:=λρ=>(f ρ).bind Zj
def At(i:Nat)(f:Ev->O Bx):Ev->O An:=λρ=>(f ρ).bind λb=>(WW ρ i b).bind λa=>U (.nx a)
def HV(gt:Dt->Ev->O Ev)(f:Ev->O Bx):Ev->O An:=λρ=>(f ρ).bind λb=>match b with|.z d=>(gt d ρ).bind λa=>U (.nx a)|_=>Y
def ZM(i j:Nat)(fs:Ev->O (Z Bx)):Ev->O An:=λρ=>(fs ρ).bind (FU i j ρ)
def xM(i:Nat)(f:Ev->O Bx):Ev->O An:=λρ=>(f ρ).bind (Zk ρ i)
def pI(fi:Ev->O (Z Dt))(gt:Dt->Ev->O Ev)(gb:Ev->O An):Ev->O An:=λρ=>(fi ρ).bind λds=>qH gt gb ds ρ
def EJ(f:Ev->O Bx):Ev->O (Z Dt):=λρ=>(f ρ).bind GB
def Io(f:Ev->O Bx):Ev->O (Z Dt):=λρ=>(f ρ).bind Zw
def O7(fs:Ev->O (Z Bx)):Ev->O (Z Dt):=λρ=>(fs ρ).bind Hn
def mz(i:Nat):Dt->Ev->O Ev:=λd ρ=>U (ρ.set i (U (.z d)))
def rR:Ev->O Bool:=λ_=>U true
theorem cV:Fz X [] rR:=⟨.inl ⟨rfl,rfl⟩⟩
theorem xO(h:QB X c p):Fz X [c] p:=⟨have h:=h.run;.inr ⟨c,rfl,h⟩⟩
theorem TU:Ik X scope cl [] []:=trivial
theorem VQ{xs:AZ}(n:X.N[i]?=U x)(k:X.env.kindOf x=U .cell\/X.env.kindOf x=U .free)(a:(relabel scope X.env).names.lookup x=U .cell\/(relabel scope X.env).names.lookup x=U .free)(c:∃c,cl.lookup x=U c)(r:Ik X scope cl xs is):Ik X scope cl (x::xs) (i::is):=⟨⟨n,k,a,c⟩,r⟩
theorem mem_of_lookup{a:Z (AJ×NameKind)}{x:AJ}{k:NameKind}:a.lookup x=U k->(x,k)∈a:=ku
theorem X1{xs:AZ}(clos:closureFor scope X.env=pure cl)(kind:scope.kind=.function)(cell:scope.names.all (λy=>decide (y.2≠.cell)||(cl.lookup y.1).isNone)=true)(names:scope.names.all (λy=>decide (y.2=.local->scope.names.lookup y.1=U .local))=true)(sub:C7 X.env.cells cl)(has:(relabel scope X.env).names.all (λy=>!(y.2==.cell||y.2==.free)||(cl.lookup y.1).isSome||scope.names.contains (y.1,.cell))=true)(cap:Ik X scope cl xs is):rM X scope cl xs is where
 clos:=clos
 kind:=kind
 cell:=λy a c=>by
  have:=List.all_eq_true.mp cell y a;simp only[c,ne_eq,not_true_eq_false,k4,Bool.false_or,Option.isNone_iff_eq_none]at this;exact this
 names:=λy a=>ko (List.all_eq_true.mp names y a)
 sub:=sub
 has:=λx hx=>by
  have h:∃k,(relabel scope X.env).names.lookup x=U k/\(k==NameKind.cell||k==NameKind.free)=true:=by
   rcases hx with hx|hx
   ·exact⟨_,hx,rfl⟩
   ·exact⟨_,hx,rfl⟩
  obtain⟨k,e,b⟩:=h;have:=List.all_eq_true.mp has _ (mem_of_lookup e);simp only[b,kQ,Bool.false_or,Bool.or_eq_true]at this;rcases this with h|h
  ·exact .inr (Option.isSome_iff_exists.mp h)
  ·exact .inl (List.contains_iff_mem.mp h)
 cap:=cap
theorem DY{k:Nat}(r:gW k A):A.units+100<cLine:=by have:=r.un;omega
theorem iS{F:Z Bx->O Bx}(h:∀ns:Z Int,ns.length<=63->F [.z (.lst (ns.map .int))]=U (.z (.bl true)))(i:∀ns:Z Int,ns.length<=63->F [.l (ns.map .int)]=U (.z (.bl true)))(K:B4)(H:Hp)(a:A1)(ns:Z Int)(f:ns.length<=63)(_:Ch H)(c:qO K H a (ns.map V.int)):
  Zx K 1 F [.ref a] H (λv _=>v=.bl true) λ_ _ _=>False:=by
 have e:∀b:Z Int,aK K H (b.map Dt.int) (b.map V.int):=λb=>by
  induction b with
  |nil=>exact aK.nil
  |cons m b g=>exact aK.cons (by unfold AW;rfl) g
 have d:∀v (H':Hp),AV H H'->Nw H (.z (.bl true)) v->bh K H' (.z (.bl true)) v->v=.bl true:=λv H' _ _ r=>by simpa only[bh,AW]using r
 rcases c with c|c
 ·exact⟨rfl,[.l (ns.map .int)],_,.cons ⟨a,_,rfl,c,e ns⟩ .nil,rfl,i ns f,d⟩
 ·refine⟨rfl,[.z (.lst (ns.map .int))],_,.cons ?_ .nil,rfl,h ns f,d⟩;unfold bh AW;exact⟨a,_,rfl,.inr c,e ns⟩
theorem NN{f:A1}{k m:Nat}(F:Bj K x qual st f fd)(S:bB N ps (aG st))(c:N.length=n)(d:ps.length=m)(b:∀(a:A0) (A:A5) (outer:Z Env) (s:A2) (H:Hp) (E:XK),gW k (A.deeper (AK qual (aG st) s.heap.objs.size f a))->RB (rK xu P w K mg base N qual (aG st) f a A outer s H E).Yt (d8 st) g):
  ju P w K mg base xu (k+1) f fd ps (Zx K m (dY n g)):=by
 subst c d;exact VC F S b
section
variable{st:Expr}{fs:Ev->O Bx}
theorem O8(I:L2.AU X AN σ H s)(h:H a=U (.dK [])):∃o,L2.AU X AN σ (B0 H a (.HS o (.dK []))) s:=by
 have j:=I.hok a _ h;obtain⟨z1,z2,z3,l,o,g,i,e,ex⟩:=j;refine⟨o,⟨I.ok,I.os,I.bare,⟨I.base.keep,I.base.slot,λb f q1 q2 d=>?_,I.base.there,λb xs q=>?_,λb f u q=>?_,λb ps q=>?_⟩,I.loc,I.cell,?_,λx c q=>?_,λp hp=>?_,?_,I.len⟩⟩
 ·have:=I.base.free b f q1 q2 d;rw[aP (bH h this).symm];exact this
 ·have:=I.base.tups b xs q;rw[aP (lX this h (by intro z;cases z))];exact this
 ·have:=I.base.wJ b f u q;rw[aP (lX this h (by intro z;cases z))];exact this
 ·obtain⟨m,this⟩:=I.base.yg b ps q;rw[aP (lX this h (by intro z;cases z))];exact⟨m,this⟩
 ·rw[aP (bH h I.free).symm];exact I.free
 ·rw[aP (bH h (I.jy x c q)).symm];exact I.jy x c q
 ·obtain⟨q1,q2,d⟩:=I.pin p hp;refine⟨q1,?_,d⟩;rw[aP (bH h q2).symm];exact q2
 ·intro b u q;by_cases hb:b=a
  ·subst hb;rw[aU]at q;cases q;exact⟨e,z1,z2,z3,l,o,g,i,e,ex⟩
  ·rw[aP hb]at q;refine(I.hok b u q).stay (λc v _ w=>w) (λc w=>?_) λc xs w=>?_
   ·rw[aP (lX w h (by intro z;cases z))];exact w
   ·rw[aP (lX w h (by intro z;cases z))];exact w
theorem bq  :QV X (.Dict [] [] pos) (cB .emp):=⟨by
 intro AN s σ H Q I q;obtain⟨H0,ρ,b,E,e,q⟩:=q;cases e;refine gM (Y9 AN s σ H (λv H'=>∃p,v=.ref p/\H p=Y/\H'=B0 H p (.dK [])) I λp hp=>⟨p,rfl,hp,rfl⟩) λu i g=>?_;obtain⟨v,H1,f,h,p,rfl,hp,rfl⟩:=g;obtain⟨o,d⟩:=O8 f aU;refine⟨.ref p,_,d,h,q _ _ (λc j a=>?_) trivial ?_⟩
 ·rw[aP (bH a hp),aP (bH a hp)];exact a
 ·simp only[bh,AW];exact⟨p,o,rfl,aU⟩⟩
theorem Le{α β:Type}{f:α->O β}{g:α->β}:∀l:Z α,(∀a∈l,f a=U (g a))->l.filterMap f=l.map g
 |[],_=>rfl
 |a::l,h=>by
  rw[k9,h a (zk ..),zw,Le l λb hb=>h b (zo _ hb)]
theorem aK.rev{K:B4}{H:Hp}:∀{ds:Z Dt} {vs:Z V},aK K H ds vs->aK K H ds.reverse vs.reverse
 |[],_,h=>by simp only[aK]at h;subst h;exact aK.nil
 |d::ds,_,h=>by
  simp only[aK]at h;obtain⟨v,r,rfl,b,a⟩:=h;rw[kU,kU];exact aK.append (aK.rev a) (aK.cons b aK.nil)
theorem ZP{st:Z AB}:RB X st (λ_=>Y):=λD AN s σ H I q=>by
 obtain⟨H0,ρ,r,E,e,q⟩:=q;cases e
end
def EO:Bx->Bx->O Bx
 |.z (.int i),.z (.int j)=>U (.z (.bl (decide (i<j))))
 |.z (.str x),.z (.str y)=>U (.z (.bl (decide (x.cps.toList<y.cps.toList))))
 |_,_=>Y
theorem ZQ:Dy X (AG .Lt) EO:=by
 intro AN s σ H x y v u Q I g l h;obtain⟨a,b,c,f,d,e,q⟩:=h;unfold EO at e;split at e
 ·rename_i i j;cases e;exact ax AN s σ H x y v u Q I g l ⟨i,j,K8 f,K8 d,q _ H (AV.refl H) trivial (by unfold bh;exact FI)⟩
 ·rename_i i j;cases e;obtain⟨rfl,_⟩:=Ss f;obtain⟨rfl,_⟩:=Ss d;obtain⟨t,rfl⟩:=g;obtain⟨m,rfl⟩:=l;exact PySem.P.lt_str ⟨.bl _,H,I,rfl,q _ H (AV.refl H) trivial (by unfold bh;exact FI)⟩
 ·cases e
def Ge:Z Dt->O AZ
 |[]=>U []
 |.str x::r=>(Ge r).bind λys=>U (x::ys)
 |_=>Y
theorem Ad{K:B4}{H:Hp}:∀{ds:Z Dt} {vs:Z V} {ys:AZ},aK K H ds vs->Ge ds=U ys->vs=ys.map V.str/\∀y∈ys,y.length<=AA
 |[],_,_,h,e=>by cases e;simp only[aK]at h;subst h;exact⟨rfl,λy a=>by cases a⟩
 |.str x::ds,_,_,h,e=>by
  simp only[Ge]at e;obtain⟨ys,e1,e2⟩:=AT e;cases e2;simp only[aK]at h;obtain⟨v,r,rfl,c,b⟩:=h;obtain⟨rfl,hx⟩:v=.str x/\x.length<=AA:=by simpa only[AW]using c
  obtain⟨rfl,h2⟩:=Ad b e1;refine⟨rfl,λy a=>?_⟩;rcases List.mem_cons.mp a with rfl|a
  ·exact hx
  ·exact h2 y a
 |.non::_,_,_,_,e=>by cases e
 |.bl _::_,_,_,_,e=>by cases e
 |.int _::_,_,_,_,e=>by cases e
 |.tup _::_,_,_,_,e=>by cases e
 |.lst _::_,_,_,_,e=>by cases e
 |.emp::_,_,_,_,e=>by cases e
theorem Gf{K:B4}{H:Hp}:∀{ys:AZ},(∀y∈ys,y.length<=AA)->aK K H (ys.map Dt.str) (ys.map V.str)
 |[],_=>aK.nil
 |y::ys,h=>aK.cons (by unfold AW;exact⟨rfl,h y (zk ..)⟩) (Gf λz a=>h z (zo _ a))
theorem xP:∀{ys:AZ} {AQ:Z A0},AX (ys.map V.str) AQ->StrsAre AQ ys
 |[],_,h=>by cases h;exact .nil
 |y::ys,_,h=>by
  cases h with
  |cons r t=>
   obtain⟨tk,rfl⟩:=r;exact .cons y tk (xP t)
theorem Ae:∀{AQ:Z A0} {ys:AZ},StrsAre AQ ys->AX (ys.map V.str) AQ
 |_,_,.nil=>.nil
 |_,_,.cons y t h=>.cons ⟨t,rfl⟩ (Ae h)
theorem Lf:fK X (.builtin "sorted") (λxs H Q=>∃p ys,xs=[.ref p]/\qO X.K H p (ys.map V.str)/\ys.length<64/\∀l zs,H l=Y->zs.Perm ys->sortedS zs=true->Q (.ref l) (B0 H l (.lst (zs.map V.str)))):=by
 intro AN s σ H xs us Q I r h;obtain⟨p,ys,rfl,t,v,q⟩:=h;obtain⟨u,rfl,j⟩:=BC r;cases j;obtain⟨AQ,d,pl,c⟩:=I.list t;have g:=d.length;rw[zi]at g c;refine sorted_strs pl.isList (xP d) (by omega) λf zs hs hp i=>?_;obtain⟨n,m⟩:=sortedAll_at s.heap AQ f;refine⟨.ref (s.heap.objs.size+1),_,I.laid (t':=s.toks) (a:=s.heap.objs.size+1) (o:=.lst (zs.map V.str)) (λb o e=>sortedAll_old e) (JO _) ?_,rfl,q _ zs (I.hok.fresh (JO _)) hp i⟩;refine⟨by rw[zi,hp.length_eq];exact c,f.toList,n,Ae hs,?_⟩;rw[m]
def Rv(a b:AJ):Prop:=ltCps b.cps.toList a.cps.toList=false
theorem yL:∀(p:AJ) (l:AZ),risingS p l=true->(p::l).Pairwise Rv
 |p,[],_=>by simp
 |p,x::r,h=>by
  have h':(!ltCps x.cps.toList p.cps.toList&&risingS x r)=true:=h;rw[Zz]at h';have c:=yL x r h'.2;have hx:Rv p x:=by simpa[Rv]using h'.1
  refine List.pairwise_cons.mpr ⟨λy b=>?_,c⟩;rcases List.mem_cons.mp b with rfl|b
  ·exact hx
  ·have a:Rv x y:=ki c b;unfold Rv at hx a ⊢;rw[ltCps_eq]at hx a ⊢;simp only[kB]at hx a ⊢;exact List.le_trans (α:=Nat) hx a
theorem Lg{l:AZ}(h:sortedS l=true):l.Pairwise Rv:=by
 cases l with
 |nil=>exact .nil
 |cons p l=>exact yL p l h
theorem ZR{a b:AJ}(h:Rv a b)(h':Rv b a):a=b:=by
 unfold Rv at h h';rw[ltCps_eq]at h h';simp only[kB]at h h';have:=List.le_antisymm (as:=a.cps.toList) (bs:=b.cps.toList) h h';cases a;cases b;simp only[Str.mk.injEq];exact Array.toList_inj.mp this
theorem Vi:∀{l l':AZ},l.Perm l'->l.Pairwise Rv->l'.Pairwise Rv->l=l'
 |[],l',h,_,_=>by rw[List.nil_perm.mp h]
 |a::l,[],h,_,_=>by cases List.perm_nil.mp h
 |a::l,b::l',h,p,p'=>by
  have e:a=b:=by
   have c:a∈b::l':=h.mem_iff.mp (zk ..);have hb:b∈a::l:=h.mem_iff.mpr (zk ..);rcases List.mem_cons.mp c with h1|h1
   ·exact h1
   ·rcases List.mem_cons.mp hb with h2|h2
    ·exact h2.symm
    ·exact ZR (ki p h2) (ki p' h1)
  subst e;rw[Vi ((List.perm_cons a).mp h) (List.pairwise_cons.mp p).2 (List.pairwise_cons.mp p').2]
def W5(a b:AJ):Bool:=!ltCps b.cps.toList a.cps.toList
def lg(ys:AZ):AZ:=ys.mergeSort W5
theorem fD(ys:AZ):(lg ys).Perm ys:=ym ys W5
theorem rT(ys:AZ):(lg ys).Pairwise Rv:=by
 have h:=KF (le:=W5) (λa b c h1 h2=>by
  unfold W5 at *
  rw[ltCps_eq]at *
  simp only[Qr,kB]at *
  exact List.le_trans (α:=Nat) h1 h2) (λa b=>by
  unfold W5;rw[ltCps_eq,ltCps_eq];simp only[Bool.or_eq_true,Qr,kB];exact List.le_total a.cps.toList b.cps.toList) ys
 exact h.imp λ{a b} hh=>by simpa[W5,Rv]using hh
theorem ZS{ys zs:AZ}(hp:zs.Perm ys)(hs:sortedS zs=true):zs=lg ys:=Vi (hp.trans (fD ys).symm) (Lg hs) (rT ys)
def Bq:Z Bx->O Bx
 |[b]=>(oV b).bind λds=>(Ge ds).bind λys=>if ys.length<64 then U (.o ((lg ys).map Dt.str))else Y
 |_=>Y
theorem Af:nC X (.builtin "sorted") Bq:=fK.imp Lf λxs H Q q=>by
 obtain⟨bs,c,f,e,q⟩:=q;unfold Bq at e;split at e
 ·rename_i b;obtain⟨ds,o,e⟩:=AT e;obtain⟨ys,n,e⟩:=AT e;split at e
  ·rename_i j;cases e;obtain⟨v,rfl,m⟩:=BM f;obtain⟨p,vs,rfl,sq,i⟩:=m.HW o;obtain⟨rfl,g⟩:=Ad i n;refine⟨p,ys,rfl,sq,j,λl zs d hp hs=>?_⟩;rw[ZS hp hs];refine q _ _ (bI d) (λa ea=>by cases ea;exact d) ⟨l,_,rfl,aU,Gf λy h=>g y ((fD ys).mem_iff.mp h)⟩
  ·cases e
 ·cases e
def O9(x:AJ)(b:Bx):O Bx:=(oV b).bind λds=>(Ge ds).bind λys=>if(ys.map (·.length)).sum+ys.length*x.length<=100000 then U (.z (.str (Txt.join x ys)))else Y
theorem VO:LM X "str.join" (λx xs H Q=>∃y p ys,x=.str y/\xs=[.ref p]/\qO X.K H p (ys.map V.str)/\(ys.map (·.length)).sum+ys.length*y.length<=100000/\Q (.str (Txt.join y ys)) H):=by
 intro AN s σ H x xs v us Q I d c h;obtain⟨y,p,ys,rfl,rfl,sq,hb,q⟩:=h;obtain⟨t,rfl⟩:=d;obtain⟨u,rfl,b⟩:=BC c;cases b;obtain⟨AQ,a,pl,e⟩:=I.list sq;exact join_list pl.isList (xP a) (by omega) λf k=>⟨.str _,H,I.tok _,⟨_,rfl⟩,q⟩
theorem Sf{p1:Pos}(h:QV X e f)(hx:x.length<=AA:=by decide)(u:attributeBase (.Constant (.str x) j p1) "join" X.env (eval (.Constant (.str x) j p1) X.env)=eval (.Constant (.str x) j p1) X.env:=by rfl)(i:((AD cpos (A9 [e] X.env)).all (λx=>!x.1)&&(backToKw cpos (keywordEach [] X.env)).all (λx=>x.1.isSome)&&decide ([e].length+([]:Z AC).length+(if([]:Z AC).isEmpty then 0 else 1)<30))=true:=by rfl)(l:(apos.endLine==cpos.line)=true:=by rfl)(hs:A9 [e] X.env=(false,eval e X.env)::A9 [] X.env:=by rfl):QV X (.Call (.Attribute (.Constant (.str x) j p1) "join" apos) [e] [] cpos) (b1 (O9 x) f):=⟨have h:=h.run;Ii (U8 (T :="str") F.plainAttrs_str F.slot_str_join F.type_str_join VO (Zf (hx:=hx)) (Oo h Vc hs) u i l hs S) λσ H Q q=>by
  obtain⟨H0,ρ,c,E,e,q⟩:=q;obtain⟨a,ea,e⟩:=AT e;refine⟨H0,ρ,_,E,rfl,λv H1 b z n=>?_⟩;obtain⟨rfl,A⟩:v=.str x/\x.length<=AA:=by simpa only[bh,AW]using n
  refine⟨rfl,H0,ρ,[a],E.grow b,by simp only[ao,ea,JI],λvs H2 d g=>?_⟩;obtain⟨w,rfl,s⟩:=BM g;unfold O9 at e;obtain⟨ds,t,e⟩:=AT e;obtain⟨ys,o,e⟩:=AT e;split at e
  ·rename_i hb;cases e;obtain⟨p,B,rfl,sq,m⟩:=s.HW t;obtain⟨rfl,y⟩:=Ad m o;refine⟨x,p,ys,rfl,rfl,sq,hb,q _ _ (b.trans d) trivial ?_⟩;unfold bh AW;exact⟨rfl,joinOk_length (joinOk_of (by omega))⟩
  ·cases e⟩
def CP:Z Bx->O Bx
 |[.z (.int a),.z (.int b)]=>U (.z (.int (if b>a then b else a)))
 |_=>Y
def W6:Z Bx->O Bx
 |[.z (.int a),.z (.int b)]=>U (.z (.int (if b<a then b else a)))
 |_=>Y
theorem Vj{a:Bx}(h:pJ K H [a,b] vs):∃v w,vs=[v,w]/\bh K H a v/\bh K H b w:=by
 cases h with
 |cons p t=>
  cases t with
  |cons p' c=>cases c;exact⟨_,_,rfl,p,p'⟩
theorem uX(m:X.calm=true):nC X (.builtin "max") CP:=by
 intro AN s σ H xs us Q I r h;obtain⟨bs,c,f,e,q⟩:=h;unfold CP at e;split at e
 ·rename_i a b;cases e;obtain⟨v,w,rfl,l,d⟩:=Vj f;have i:=K8 l;have j:=K8 d;subst i j;obtain⟨u,o,rfl,g,n⟩:=AX.two r;obtain⟨t,rfl⟩:=g;obtain⟨p,rfl⟩:=n;refine max_two_ints (I.ok.hd m) λh' tk kp=>?_;by_cases hb:b>a
  ·rw[zh hb]at q ⊢;exact⟨.int b,H,I.kept kp,⟨_,rfl⟩,q _ H (AV.refl H) trivial CN⟩
  ·rw[zC hb]at q ⊢;exact⟨.int a,H,I.kept kp,⟨_,rfl⟩,q _ H (AV.refl H) trivial CN⟩
 ·cases e
theorem ZV(m:X.calm=true):nC X (.builtin "min") W6:=by
 intro AN s σ H xs us Q I r h;obtain⟨bs,c,f,e,q⟩:=h;unfold W6 at e;split at e
 ·rename_i a b;cases e;obtain⟨v,w,rfl,l,d⟩:=Vj f;have i:=K8 l;have j:=K8 d;subst i j;obtain⟨u,o,rfl,g,n⟩:=AX.two r;obtain⟨t,rfl⟩:=g;obtain⟨p,rfl⟩:=n;refine min_two_ints (I.ok.hd m) λh' tk kp=>?_;by_cases hb:b<a
  ·rw[zh hb]at q ⊢;exact⟨.int b,H,I.kept kp,⟨_,rfl⟩,q _ H (AV.refl H) trivial CN⟩
  ·rw[zC hb]at q ⊢;exact⟨.int a,H,I.kept kp,⟨_,rfl⟩,q _ H (AV.refl H) trivial CN⟩
 ·cases e
def Gg(AO:Z (AY×Dt))(x:AY):O Dt:=(AO.find? λa=>decide (a.1=x)).map (·.2)
def Lh(AO:Z (AY×Dt))(x:AY)(d:Dt):Z (AY×Dt):=
 if(AO.any λa=>decide (a.1=x))=true then AO.map (λa=>if a.1=x then(a.1,d)else a)else AO++[(x,d)]
theorem fL.nil:fL K H [] []:=⟨rfl,aK.nil,λp hp=>by cases hp⟩
theorem fL.inv{p:AY×Dt}{ks:Z (AY×V)}(h:fL K H (p::AO) ks):∃v r,ks=(p.1,v)::r/\AW K H p.2 v/\EC p.1/\fL K H AO r:=by
 obtain⟨h1,h2,a⟩:=h;cases ks with
 |nil=>simp at h1
 |cons q r=>
  simp only[zw,kP]at h1;obtain⟨e,h1⟩:=h1;simp only[zw,aK]at h2;obtain⟨v,d,e2,b,c⟩:=h2;simp only[kP]at e2;obtain⟨rfl,rfl⟩:=e2;exact⟨q.2,r,by rw[<-e],b,a p (zk ..),h1,c,λx hx=>a x (zo _ hx)⟩
theorem fL.cons{p:AY×Dt}{AO:Z (AY×Dt)}{v:V}{r:Z (AY×V)}(a:AW K H p.2 v)(hp:EC p.1)(h:fL K H AO r):fL K H (p::AO) ((p.1,v)::r):=
 ⟨by simp[h.1],aK.cons a h.2.1,λx hx=>by
  rcases List.mem_cons.mp hx with rfl|hx
  ·exact hp
  ·exact h.2.2 x hx⟩
theorem fL.append{AO:Z (AY×Dt)}{ks:Z (AY×V)}{x:AY}{d:Dt}{v:V}(h:fL K H AO ks)(a:AW K H d v)(hx:EC x):fL K H (AO++[(x,d)]) (ks++[(x,v)]):=
 ⟨by simp[h.1],by rw[qB,qB];exact aK.append h.2.1 (aK.cons a aK.nil),λp hp=>by
  rcases List.mem_append.mp hp with hp|hp
  ·exact h.2.2 p hp
  ·cases List.mem_singleton.mp hp;exact hx⟩
theorem fL.len{ks:Z (AY×V)}(h:fL K H AO ks):ks.length=AO.length:=by
 have:=congrArg List.length h.1;simpa using this
theorem fL.look:∀{AO:Z (AY×Dt)} {ks:Z (AY×V)} {x:AY} {d:Dt},fL K H AO ks->Gg AO x=U d->∃v,zY ks x=U v/\AW K H d v
 |[],_,_,_,_,e=>by cases e
 |p::AO,_,x,d,h,e=>by
  obtain⟨v,r,rfl,b,c,a⟩:=h.inv;unfold Gg at e;by_cases hp:p.1=x
  ·rw[List.find?_cons_of_pos (by simpa using hp)]at e;cases e;exact⟨v,yr (by rw[hp]),b⟩
  ·rw[List.find?_cons_of_neg (by simpa using hp)]at e;obtain⟨w,e1,e2⟩:=fL.look a e;exact⟨w,(yt (by simpa using hp)).trans e1,e2⟩
theorem fL.any:∀{AO:Z (AY×Dt)} {ks:Z (AY×V)} {x:AY},fL K H AO ks->(ks.any λa=>decide (a.1=x))=AO.any λa=>decide (a.1=x)
 |[],ks,_,h=>by
  have:=h.len;cases ks with
  |nil=>rfl
  |cons _ _=>simp at this
 |p::AO,_,x,h=>by
  obtain⟨v,r,rfl,d,c,b⟩:=h.inv;rw[kq,kq,fL.any b]
theorem fL.ZW:∀{AO:Z (AY×Dt)} {ks:Z (AY×V)} {x:AY} {d:Dt} {v:V},fL K H AO ks->AW K H d v->fL K H (AO.map λa=>if a.1=x then(a.1,d)else a) (ks.map λa=>if a.1=x then(a.1,v)else a)
 |[],ks,_,_,_,h,_=>by
  have:=h.len;cases ks with
  |nil=>exact fL.nil
  |cons _ _=>simp at this
 |p::AO,_,x,d,v,h,hd=>by
  obtain⟨w,r,rfl,e,c,f⟩:=h.inv;rw[zw,zw];have b:=fL.ZW (x:=x) f hd;by_cases hp:p.1=x
  ·rw[zh hp,zh (by simp[hp])];exact fL.cons (p:=(p.1,d)) hd c b
  ·rw[zC hp,zC (by simpa using hp)];exact fL.cons e c b
theorem fL.put{ks:Z (AY×V)}{x:AY}(h:fL K H AO ks)(a:AW K H d v)(hx:EC x):fL K H (Lh AO x d) (BD ks x v):=by
 unfold Lh BD;rw[h.any];split
 ·exact h.ZW a
 ·exact h.append a hx
section
variable{ek o:Expr}{pos':Pos}
def Co:Bx->O AY
 |.z (.str x)=>U (.inr x)
 |.z (.int i)=>U (.inl i)
 |_=>Y
theorem Li{k:AY}(e:Co b=U k)(r:bh K H b v):v=kV k/\EC k:=by
 unfold Co at e;split at e
 ·cases e;simp only[bh,AW]at r;exact r
 ·cases e;simp only[bh,AW]at r;exact⟨r,trivial⟩
 ·cases e
def ud:Bx->Bx->O Bx
 |.n AO,b=>(Co b).bind λk=>(Gg AO k).bind λd=>U (.z d)
 |_,_=>Y
theorem SJ{a c:Bx}(h:ud a b=U c):∃AO k d,a=.n AO/\Co b=U k/\Gg AO k=U d/\c=.z d:=by
 unfold ud at h;split at h
 ·obtain⟨k,ek,h⟩:=AT h;obtain⟨d,e,h⟩:=AT h;cases h;exact⟨_,k,d,rfl,ek,e,rfl⟩
 ·cases h
theorem rW(D:X.A.units+100<cLine)(f:QV X o fo)(g:QV X ek fk)(hs:HQ ek:=by intro _ _;rfl):QV X (.Subscript o ek pos) (b2 ud fo fk):=⟨have f:=f.run;have g:=g.run;Ii (R1 (by omega) f g hs) λσ H Q h=>by
 obtain⟨H0,ρ,c,E,e,q⟩:=h;obtain⟨a,ea,e⟩:=AT e;obtain⟨b,eb,e⟩:=AT e;refine⟨H0,ρ,a,E,ea,λv H1 j B s=>⟨H0,ρ,b,E.grow j,eb,λw H2 i C m=>?_⟩⟩;obtain⟨AO,x,d,rfl,l,y,rfl⟩:=SJ e;obtain⟨p,ks,rfl,z,n⟩:=s.same i;obtain⟨u,ev,t⟩:=n.look y;obtain⟨rfl,_⟩:=Li l m;exact⟨p,u,rfl,.inl ⟨ks,x,z,rfl,ev.symm⟩,q _ _ (j.trans i) trivial t⟩⟩
def Pa(ρ:Ev)(i:Nat):Bx->Bx->O An
 |.z d,b=>(Co b).bind λx=>match ρ[i]? with
  |some (U (.m AO w))=>if AO.length<1000 then U (.nx (ρ.set i (U (.m (Lh AO x d) w))))else Y
  |_=>Y
 |_,_=>Y
def Vk(i:Nat)(f fk:Ev->O Bx):Ev->O An:=λρ=>(f ρ).bind λb=>(fk ρ).bind λk=>Pa ρ i b k
theorem SM{k:Bx}{r:An}(h:Pa ρ i b k=U r):∃d y AO w,b=.z d/\Co k=U y/\ρ[i]?=U (U (.m AO w))/\AO.length<1000/\r=.nx (ρ.set i (U (.m (Lh AO y d) w))):=by
 unfold Pa at h;split at h
 ·obtain⟨y,c,h⟩:=AT h;split at h
  ·rename_i e;split at h
   ·rename_i a;cases h;exact⟨_,y,_,_,rfl,c,e,a,rfl⟩
   ·cases h
  ·cases h
 ·cases h
theorem Vl(i:Nat){p:Pos}(hu:X.A.units+100<cLine)(he:QV X e f)(j:QV X ek fk)(I:X.N[i]?=U x:=by rfl)(s:U3 X.env.scope x:=by first|exact JS rfl|exact QY (JS S)|exact QY (QY S))(J:(x==("__debug__":AJ))=false:=by decide)(o:(x==("__classdict__":AJ))=false:=by decide)(hs:swapsWith e (U (.Subscript (.Name x p) ek pos')) pos.line X.env=pure false:=by rfl):K4 X (.Assign [.Subscript (.Name x p) ek pos'] e pos) (λρ=>(f ρ).bind λb=>(fk ρ).bind λk=>Pa ρ i b k):=⟨have he:=he.run;have j:=j.run;Oi (iO (by omega) (rH (i:=i) I s J o) j he hs) λD σ H h=>by
  obtain⟨H0,ρ,r,E,e,q⟩:=h;obtain⟨b,eb,e⟩:=AT e;obtain⟨k,ek,e⟩:=AT e;refine⟨H0,ρ,b,E,eb,λv H1 L Q t=>?_⟩;obtain⟨d,y,AO,W,rfl,B,l,M,rfl⟩:=SM e;have g:=E.grow L;obtain⟨w,e1,a,ks,rfl,z,m,C⟩:=g.val i _ l;refine⟨_,e1,H0,ρ,_,g,ek,λu H2 c P G=>?_⟩;obtain⟨rfl,F⟩:=Li B G;have K:=g.grow c;have n:=c _ _ z;have kp:Kp H2 (B0 H2 a (.dK (BD ks y v))):=.dk n;refine⟨a,_,rfl,Y8.k (k:=y) n (by rw[m.len];exact Nat.lt_trans M (by decide)),q _ _ ?_⟩;exact K.af7 l S e1 kp ⟨a,_,rfl,aU,((m.kp (.of c)).put (x:=y) (bh.same c t) F).kp kp,C⟩⟩
end
section
variable{a b:Expr}{fs:Ev->O (Z Bx)}
theorem lC{j}(hx:x.length<=AA:=by decide):QV X (.Constant (.str x) j pos) (cB (.str x)):=⟨P1.Zf (hx:=hx)⟩
end
section
variable{a b:Expr}{fs:Ev->O (Z Bx)}
variable{AS:Z Expr}
theorem aj(h1:QV X e f)(h2:Vb X es fs)(hs:A9 (e::es) X.env=(false,eval e X.env)::A9 es X.env:=by rfl):Vb X (e::es) (ao f fs):=⟨P1.Oo (h1:=h1.run) (h2:=h2.run) (hs:=hs)⟩
theorem aA  :Vb X [] (λ_=>U []):=⟨P1.Vc ⟩
end
theorem MY{f:A1}{k m:Nat}(F:Bj K x qual st f fd)(S:bB N ps (aG st))(d:N.length=n)(e:ps.length=m)(b:∀(a:A0) (A:A5) (outer:Z Env) (s:A2) (H:Hp) (E:XK),gW k (A.deeper (AK qual (aG st) s.heap.objs.size f a))->R6 (rK xu P w K mg base N qual (aG st) f a A outer s H E).Yt (d8 st) g):
  ju P w K mg base xu (k+1) f fd ps (Zx K m (dY n g)):=NN F S d e λa A outer s H E c=>(b a A outer s H E c).run
theorem Br:∀(vs:Z A0) (ys:AZ),vs.length=ys.length->(∀(j:Nat) v,vs[j]?=U v->∃y t,ys[j]?=U y/\v=.str y t)->StrsAre vs ys
 |[],[],_,_=>.nil
 |v::vs,y::ys,hl,h=>by
  obtain⟨b,t,e,rfl⟩:=h 0 v rfl;cases e;exact .cons y t (Br vs ys (by simpa using hl) λj v a=>h (j+1) v (by simpa using a))
theorem SN{AO:Z (AY×A0)}{ys:AZ}(c:AO.map (·.1)=ys.map Sum.inr){b:Array A0}(h:ItemsOf (λi v=>∃k x,AO[i]?=U (k,x)/\(bF prog w).is k v=true) b AO.length):StrsAre b.toList ys:=by
 have f:AO.length=ys.length:=by have:=congrArg List.length c;simpa using this
 refine Br _ _ (by rw[qq,h.1,f]) λj v d=>?_;obtain⟨k,x,e,hi⟩:=h.2 j v (by simpa using d);have e1:(AO.map (·.1))[j]?=U k:=by rw[ZN,e];rfl
 rw[c,ZN]at e1;cases a:ys[j]? with
 |none=>rw[a]at e1;cases e1
 |some y=>
  rw[a]at e1;cases e1;have g:kZ (Sum.inr y) v=true:=hi;rcases bQ g with⟨i,t,e2,e3⟩|⟨z,t,e2,e3⟩
  ·cases e2
  ·cases e2;exact⟨_,t,rfl,e3⟩
def W7:Z (AY×Dt)->O AZ
 |[]=>U []
 |(.inr x,_)::r=>(W7 r).bind λys=>U (x::ys)
 |(.inl _,_)::_=>Y
theorem wg:∀{AO:Z (AY×Dt)} {ys:AZ},W7 AO=U ys->AO.map (·.1)=ys.map Sum.inr
 |[],_,e=>by cases e;rfl
 |(.inr x,_)::r,_,e=>by
  obtain⟨ys,e1,e⟩:=AT e;cases e;rw[zw,zw,wg e1]
 |(.inl _,_)::_,_,e=>by cases e
theorem Pc{ys:AZ}(e:W7 AO=U ys)(h:∀p∈AO,EC p.1)(y:AJ)(a:y∈ys):y.length<=AA:=by
 have:(Sum.inr y:AY)∈AO.map (·.1):=by rw[wg e];exact List.mem_map.mpr ⟨y,a,rfl⟩
 obtain⟨p,hp,ep⟩:=List.mem_map.mp this;have:=h p hp;rw[ep]at this;exact this
theorem Vm:∀{ks:Z (AY×V)} {vs:Z (AY×A0)},KV ks vs->vs.map (·.1)=ks.map (·.1)
 |_,_,.nil=>rfl
 |_,_,.cons h t=>by rw[zw,zw,Vm t,h.1]
theorem bM.aiZ(E:bM K H0 H σ ρ)(i:Nat):bM K H0 H σ (ρ.set i Y):=by
 have back:∀(j:Nat) (b:Bx),(ρ.set i Y)[j]?=U (U b)->ρ[j]?=U (U b):=λj b e=>by
  rw[KO]at e;split at e
  ·split at e<;>cases e
  ·exact e
 refine⟨by rw[km];exact E.len,λj b e=>E.val j b (back j b e),λj k c a b e1 d e2 e3 f g=>E.own j k c a b (back _ _ e1) d e2 (back _ _ e3) f g,E.base,λj c a e1 d e2=>E.new j c a (back _ _ e1) d e2⟩
def kill(is:Z Nat)(ρ:Ev):Ev:=is.foldl (λρ i=>ρ.set i Y) ρ
theorem bM.kill{K:B4}{H0 H:Hp}{σ:L2.St}:∀(is:Z Nat) {ρ:Ev},bM K H0 H σ ρ->bM K H0 H σ (P1.kill is ρ)
 |[],_,E=>E
 |i::is,_,E=>bM.kill is (E.aiZ i)
def cT(is:Z Nat):Ev->O An:=λρ=>U (.nx (kill is ρ))
theorem ZX{a:Z AB}(is:Z Nat)(h:RB X a g):RB X a (aD g (cT is)):=Hm h λD σ H q=>by
 obtain⟨H0,ρ,r,E,e,q⟩:=q;obtain⟨c,e1,e⟩:=AT e;refine⟨H0,ρ,c,E,e1,?_⟩;cases c with
 |nx f=>cases e;exact λσ' H' d=>q σ' H' (d.kill is)
 |rt b=>cases e;exact q
 |bk b=>cases e;exact q
 |ct b=>cases e;exact q
theorem aY{a:Z AB}(is:Z Nat)(h:R6 X a g):R6 X a (aD g (cT is)):=⟨ZX is h.run⟩
end P1
namespace S1
section
variable(rk:A0->Nat)
def at_(xs:Array Keyed)(i:Nat):Nat:=match xs[i]? with
 |some p=>rk p.1
 |none=>0
def Up(xs:Array Keyed)(k:Nat):Prop:=∀i j,i<=j->j<k->at_ rk xs i<=at_ rk xs j
def CD(xs:Array Keyed)(k:Nat):Prop:=∀i j,i<=j->j<k->at_ rk xs j<=at_ rk xs i
structure Bs (kd:SortKind) (b:Array Keyed) (st:SortSt):Prop where
 pm:(arrOf st).Perm b
 kd:kindOf st=kd
 fl:failedOf st=none
 pd:pendingOf st=#[]
variable{rk}{kd:SortKind}{b:Array Keyed}
theorem Bs.sz{st:SortSt}(h:Bs kd b st):(AM st).size=b.size:=h.pm.size_eq
theorem Bs.arr{st:SortSt}{xs:Array Keyed}(h:Bs kd b st)(hp:xs.Perm (AM st)):Bs kd b (PyProof.Rows.setArr st xs):=⟨hp.trans h.pm,h.kd,h.fl,h.pd⟩
theorem uY{xs ys:Array Keyed}(h:xs[i]?=ys[j]?):at_ rk xs i=at_ rk ys j:=by unfold at_;rw[h]
theorem Z0{xs:Array Keyed}{p d:Nat}(hs:p<xs.size)(a:d<=p)(k:Nat):at_ rk (bubble xs p d) k=if k=p-d then at_ rk xs p else if p-d<k/\k<=p then at_ rk xs (k-1)else at_ rk xs k:=by
 have e:=getElem?_bubble hs d a k;by_cases q:k=p-d
 ·simp only[zh q]at e ⊢;exact uY e
 ·simp only[zC q]at e ⊢;by_cases q2:p-d<k/\k<=p
  ·simp only[zh q2]at e ⊢;exact uY e
  ·simp only[zC q2]at e ⊢;exact uY e
theorem SQ{xs:Array Keyed}(a:j<=xs.size)(k:Nat):at_ rk (mirror xs i j ((j-i) / 2)) k=if i<=k/\k<j then at_ rk xs (i+j-1-k)else at_ rk xs k:=by
 have e:=getElem?_mirror_all (i:=i) a k;by_cases q:i<=k/\k<j
 ·simp only[zh q]at e ⊢;exact uY e
 ·simp only[zC q]at e ⊢;exact uY e
theorem yM{xs:Array Keyed}(a:j<=xs.size)(he:∀k,i<=k->k<j->at_ rk xs k=at_ rk xs (j-1))(k:Nat):at_ rk (mirror xs i j ((j-i) / 2)) k=at_ rk xs k:=by
 rw[SQ a];by_cases q:i<=k/\k<j
 ·rw[zh q,he (i+j-1-k) (by omega) (by omega),he k q.1 q.2]
 ·rw[zC q]
end
section
variable{b:Array Keyed}{kd:SortKind}{rk:A0->Nat}
def Yu(prog:A3)(w:A4)(A:A5)(s:A2)(kd:SortKind)(rk:A0->Nat)(b:Array Keyed):Prop:=
 ∀(E:B9) (p q:Keyed) (Q:Bool->A2->Prop),p∈b.toList->q∈b.toList->Q (decide (rk p.1<rk q.1)) s->A7 (A8 prog w) A (keyLt' kd p.1 q.1) Q E s
theorem Pb{st:SortSt}{Q:O Bool->SortSt->Prop}(a:Yu prog w A s kd rk b)(B:Bs kd b st)(hi:i<b.size)(g:j<b.size)(h:Q (U (decide (at_ rk (AM st) i<at_ rk (AM st) j))) st):wpS (A8 prog w) A E s (ltAt' i j) Q st:=by
 have get:∀k,k<b.size->∃p,(AM st)[k]?=U p/\p∈b.toList:=λk f=>by
  have d:k<(AM st).size:=by rw[B.sz];exact f
  exact⟨(AM st)[k],getElem?_pos _ k d,(Array.perm_iff_toList_perm.mp B.pm).mem_iff.mp (by simp)⟩
 obtain⟨p,e1,c⟩:=get i hi;obtain⟨q,e2,e⟩:=get j g;have h:Q (U (decide (rk p.1<rk q.1))) st:=by unfold at_ at h;rw[e1,e2]at h;exact h
 rw[ltAt'_eq];refine AL (wpS_get ?_);show wpS _ _ _ _ (elem' (AM st) i >>= λx=>elem' (AM st) j >>= λy=>lt' x y) Q st;rw[elem'_eq,elem'_eq,e1,e2];refine AL (wpS_pure ?_);refine AL (wpS_pure ?_);rw[lt'_eq];refine AL (wpS_get ?_);rw[B.kd];exact AL (wpS_lift (y0 (a _ p q _ c e ⟨rfl,wpS_pure h⟩)))
theorem Nd{st:SortSt}{a:Nat}{Q:AscSt->SortSt->Prop}(f:Yu prog w A s kd rk b)(u:n<=b.size)(p:1<=a)(g:a<=n)(B:Bs kd b st)(hs:Up rk (AM st) a)(h:∀m,a<=m->m<=n->Up rk (AM st) m->(m=n\/at_ rk (AM st) m<at_ rk (AM st) (m-1))->Q (Y,m) st):wpS (A8 prog w) A E s (ascLoop a n) Q st:=by
 unfold ascLoop;refine wpS_forRange (I:=λx c t=>t=st/\c=(Y,x)/\Up rk (AM st) x) ?_ ?_ ⟨rfl,rfl,hs⟩
 ·rintro x c t l v ⟨rfl,rfl,d⟩;refine AL (Pb f B (by omega) (by omega) ?_);by_cases q:at_ rk (AM t) x<at_ rk (AM t) (x-1)
  ·simp only[q,yb,qS];exact wpS_pure (h x l (by omega) d (.inr q))
  ·simp only[q,k4,zr,ZO];refine wpS_pure ⟨rfl,rfl,λi j o y=>?_⟩;by_cases hx:j<x
   ·exact d i j o hx
   ·have e:j=x:=by omega
    subst e;by_cases hi:i=j
    ·rw[hi];exact zg _
    ·have:=d i (j-1) (by omega) (by omega);omega
 ·rintro c t ⟨rfl,rfl,d⟩;rw[show max a n=n by omega]at d ⊢;exact h n g (zg _) d (.inl S)
theorem t3{st:SortSt}{m:Nat}{Q:O Nat->SortSt->Prop}(d:Yu prog w A s kd rk b)(l:n<=b.size)(h1:1<=m)(f:m<=n)(B:Bs kd b st)(hs:CD rk (AM st) m)(h:∀k t,Bs kd b t->1<=k->k<=n->Up rk (AM t) k->Q (U k) t):wpS (A8 prog w) A E s (tail3 m n) Q st:=by
 unfold tail3;have a:m<=(AM st).size:=by rw[B.sz];omega
 refine AL (wpS_reverse ?_);have c:Bs kd b (PyProof.Rows.setArr st (mirror (AM st) 0 m ((m-0) / 2))):=B.arr (mirror_perm _ _ _ _);refine AL (Nd d l h1 f c (λi j q o=>?_) λk p g e _=>wpS_pure (h k _ c (by omega) g e));show at_ rk (mirror (AM st) 0 m ((m-0) / 2)) i<=at_ rk (mirror (AM st) 0 m ((m-0) / 2)) j;rw[SQ a,SQ a,zh ⟨by omega,by omega⟩,zh ⟨by omega,by omega⟩];exact hs _ _ (by omega) (by omega)
theorem RY{st:SortSt}{m:Nat}{Q:DescSt->SortSt->Prop}(g:Yu prog w A s kd rk b)(C:n<=b.size)(h1:1<=m)(p:m<=n)(B:Bs kd b st)(hs:CD rk (AM st) m)(h:∀k e t,Bs kd b t->m<=k->k<=n->CD rk (AM t) k->e+1<=k->(∀i,k-(e+1)<=i->i<k->at_ rk (AM t) i=at_ rk (AM t) (k-1))->Q (Y,k,e) t):wpS (A8 prog w) A E s (descLoop m n) Q st:=by
 unfold descLoop;refine wpS_forRange (I:=λx c t=>∃e,c=(Y,x,e)/\Bs kd b t/\CD rk (AM t) x/\e+1<=x/\∀i,x-(e+1)<=i->i<x->at_ rk (AM t) i=at_ rk (AM t) (x-1)) ?_ ?_ ⟨0,rfl,B,hs,by omega,λi q1 q2=>by rw[show i=m-1 by omega]⟩
 ·rintro x c t v G ⟨e,rfl,a,dn,f,d⟩;have o:x<=(AM t).size:=by rw[a.sz];omega
  have grow:∀xs:Array Keyed,(∀k,at_ rk xs k=at_ rk (AM t) k)->at_ rk (AM t) x<=at_ rk (AM t) (x-1)->CD rk xs (x+1):=λxs l F i j y H=>by
   rw[l,l];by_cases hx:j<x
   ·exact dn i j y hx
   ·have u:j=x:=by omega
    subst u;by_cases hi:i=j
    ·rw[hi];exact zg _
    ·have:=dn i (j-1) (by omega) (by omega);omega
  dsimp only;refine AL (Pb g a (by omega) (by omega) ?_);by_cases q:at_ rk (AM t) x<at_ rk (AM t) (x-1)
  ·simp only[q,yb,qS];by_cases h0:e>0
   ·rw[zh h0];exact AL (wpS_reverse (wpS_pure ⟨0,rfl,a.arr (mirror_perm _ _ _ _),grow _ (yM o d) (by omega),by omega,λi q1 q2=>by rw[show i=x by omega];rfl⟩))
   ·rw[zC h0];exact wpS_pure ⟨0,rfl,a,grow _ (λ_=>S) (by omega),by omega,λi q1 q2=>by rw[show i=x by omega];rfl⟩
  ·simp only[q,k4,zr,ZO];refine AL (Pb g a (by omega) (by omega) ?_);by_cases q2:at_ rk (AM t) (x-1)<at_ rk (AM t) x
   ·simp only[q2,yb,qS];exact wpS_pure (h x e t a v (by omega) dn f d)
   ·simp only[q2,k4,zr,ZO];refine wpS_pure ⟨e+1,rfl,a,grow _ (λ_=>S) (by omega),by omega,λi z D=>?_⟩;rw[show x+1-1=x by omega];by_cases hi:i=x
    ·rw[hi]
    ·rw[d i (by omega) (by omega)];omega
 ·rintro c t ⟨e,rfl,a,dn,f,d⟩;rw[show max m n=n by omega]at dn f d ⊢;exact h n e t a p (zg _) dn f d
theorem MB{st:SortSt}{m:Nat}{Q:O Nat->SortSt->Prop}(a:Yu prog w A s kd rk b)(d:n<=b.size)(o:m+1<=n)(B:Bs kd b st)(hs:CD rk (AM st) (m+1))(h:∀k t,Bs kd b t->1<=k->k<=n->Up rk (AM t) k->Q (U k) t):wpS (A8 prog w) A E s (descPart m n) Q st:=by
 unfold descPart;refine AL (wpS_lift (Kn ⟨rfl,?_⟩));refine AL (RY a d (by omega) o B hs λk e t c v g dn u l=>?_);have f:k<=(AM t).size:=by rw[c.sz];omega
 by_cases h0:e>0
 ·simp only[zh h0];refine AL (wpS_reverse (t3 a d (by omega) g (c.arr (mirror_perm _ _ _ _)) (λi j q p=>?_) h));show at_ rk (mirror (AM t) _ _ _) j<=at_ rk (mirror (AM t) _ _ _) i;rw[yM f l,yM f l];exact dn i j q p
 ·simp only[zC h0];exact t3 a d (by omega) g c dn h
theorem cv{st:SortSt}{Q:O Nat->SortSt->Prop}(a:Yu prog w A s kd rk b)(d:n<=b.size)(h1:1<=n)(B:Bs kd b st)(h:∀k t,Bs kd b t->1<=k->k<=n->Up rk (AM t) k->Q (U k) t):wpS (A8 prog w) A E s (countRun' 0 n) Q st:=by
 rw[countRun0_eq];refine AL (Nd a d (zg 1) h1 B (λi j p o=>by rw[show i=j by omega];exact zg _) λm g l c or=>?_);by_cases e:m=n
 ·simp only[zh (show(m==n)=true by simpa using e)];exact wpS_pure (h m st B g l c)
 ·simp only[zC (show ¬ (m==n)=true by simpa using e)];have lt:=or.resolve_left e;have f:m<=(AM st).size:=by rw[B.sz];omega
  by_cases g1:m>1
  ·rw[zh g1];refine AL (Pb a B (by omega) (by omega) ?_);by_cases q:at_ rk (AM st) 0<at_ rk (AM st) (m-1)
   ·simp only[q,yb,qS];exact wpS_pure (h m st B g l c)
   ·simp only[q,k4,zr,ZO];have all:∀k,0<=k->k<m->at_ rk (AM st) k=at_ rk (AM st) (m-1):=λk _ v=>by
     have a1:=c 0 k (by omega) v;have a2:=c k (m-1) (by omega) (by omega);omega
    refine AL (wpS_reverse (MB a d (by omega) (B.arr (mirror_perm _ _ _ _)) (λi j p o=>?_) h));show at_ rk (mirror (AM st) _ _ _) j<=at_ rk (mirror (AM st) _ _ _) i;rw[yM f all,yM f all];by_cases u:j<m
    ·rw[all i (by omega) (by omega),all j (by omega) u];exact zg _
    ·have x:j=m:=by omega
     subst x;by_cases hi:i=j
     ·rw[hi];exact zg _
     ·rw[all i (by omega) (by omega)];omega
  ·rw[zC g1];have e1:m=1:=by omega
   subst e1;refine MB a d (by omega) B (λi j p o=>?_) h;by_cases hi:i=j
   ·rw[hi];exact zg _
   ·rw[show i=0 by omega,show j=1 by omega];exact JJ lt
theorem ID{st:SortSt}{g:Nat}{Q:Bool->SortSt->Prop}(y:Yu prog w A s kd rk b)(H:n<=b.size)(M:g<=n)(B:Bs kd b st)(hs:Up rk (AM st) g)(h:∀t,Bs kd b t->Up rk (AM t) n->Q true t):wpS (A8 prog w) A E s (binarySort' 0 n g) Q st:=by
 rw[binarySort'_eq];simp only[KG];refine AL (wpS_mono (wpS_forRange (I:=λk c t=>c=(Y,())/\Bs kd b t/\Up rk (AM t) (min k n)) (Q:=λc t=>c=(Y,())/\Bs kd b t/\Up rk (AM t) n) ?_ ?_ ?_) ?_)
 ·rintro k c t K J ⟨rfl,f,d⟩;rw[show min k n=k by omega]at d;have u:k<b.size:=by omega
  refine AL (wpS_mono (wpS_forRange (I:=λx c a=>a=t/\∃l r,c=(Y,l,r)/\l<=r/\r<=k/\r-l<=k-x/\(∀i,i<l->at_ rk (AM t) i<=at_ rk (AM t) k)/\(∀i,r<=i->i<k->at_ rk (AM t) k<at_ rk (AM t) i))
   (Q:=λc a=>a=t/\∃l r,c=(Y,l,r)/\l<=k/\(∀i,i<l->at_ rk (AM t) i<=at_ rk (AM t) k)/\(∀i,l<=i->i<k->at_ rk (AM t) k<at_ rk (AM t) i)) ?_ ?_ ?_) ?_)
  ·rintro x c a _ hx ⟨rfl,l,r,rfl,F,m,D,lo,hi⟩;dsimp only;by_cases p:l>=r
   ·rw[zh p];have e:l=r:=by omega
    subst e;exact wpS_pure ⟨rfl,l,l,rfl,m,lo,hi⟩
   ·rw[zC p];refine AL (Pb y f u (by omega) ?_);by_cases q:at_ rk (AM a) k<at_ rk (AM a) ((l+r) / 2)
    ·simp only[q,yb,qS];refine wpS_pure ⟨rfl,l,(l+r) / 2,rfl,by omega,by omega,by omega,lo,λi q1 q2=>?_⟩;have:=d ((l+r) / 2) i q1 q2;omega
    ·simp only[q,k4,zr,ZO];refine wpS_pure ⟨rfl,(l+r) / 2+1,r,rfl,by omega,by omega,by omega,λi q1=>?_,hi⟩;have:=d i ((l+r) / 2) (by omega) (by omega);omega
  ·rintro c a ⟨rfl,l,r,rfl,F,m,D,lo,hi⟩;have e:l=r:=by omega
   subst e;exact⟨rfl,l,l,rfl,m,lo,hi⟩
  ·exact⟨rfl,0,k,rfl,by omega,by omega,by omega,λi hi=>by omega,λi q1 q2=>by omega⟩
  ·rintro c a ⟨rfl,l,r,rfl,L,lo,hi⟩;show wpS _ _ _ _ (moveDown' k l >>= λ_=>pure (ForInStep.yield (Y,()))) _ _;rw[moveDown'_eq];refine AL (wpS_modify (wpS_pure ⟨rfl,f.arr (bubble_perm _ _ _),?_⟩));rw[show min (k+1) n=k+1 by omega];have o:k<(AM a).size:=by rw[f.sz];exact u
   intro i j v G;show at_ rk (bubble (AM a) k (k-l)) i<=at_ rk (bubble (AM a) k (k-l)) j;rw[Z0 o (by omega),Z0 o (by omega),show k-(k-l)=l by omega]
   repeat' split
   all_goals first
    |(exfalso;omega)
    |exact zg _
    |exact lo _ (by omega)
    |exact JJ (hi _ (by omega) (by omega))
    |exact d _ _ (by omega) (by omega)
 ·rintro c t ⟨C,f,d⟩;refine⟨C,f,?_⟩;rwa [show min (max (max g 1) n) n=n by omega]at d
 ·refine⟨rfl,B,λi j v G=>?_⟩;by_cases z:g=0
  ·rw[show i=j by omega];exact zg _
  ·exact hs i j v (by omega)
 ·rintro c t ⟨rfl,f,d⟩;exact wpS_pure (h t f d)
def Dn(kd:SortKind)(rk:A0->Nat)(b:Array Keyed)(st:SortSt):Prop:=(AM st).Perm b/\failedOf st=Y/\pendingOf st=#[(0,b.size,0)]/\Up rk (AM st) b.size
theorem Bs.dn{st:SortSt}(B:Bs kd b st)(a:Up rk (AM st) b.size):Dn kd rk b (setPending st ((pendingOf st).push (0,b.size,0))):=⟨B.pm,B.fl,(by show(pendingOf st).push _=_;rw[B.pd];rfl),a⟩
theorem HG{st:SortSt}{Q:Unit->SortSt->Prop}(d:Yu prog w A s kd rk b)(B:Bs kd b st)(h2:2<=b.size)(n:b.size<64)
  (h:∀t,(AM t).Perm b->failedOf t=Y->Up rk (AM t) b.size->Q () t):wpS (A8 prog w) A E s sortRuns' Q st:=by
 rw[sortRuns'_eq];refine AL (wpS_get ?_);have j:minRun' b.size b.size 0=b.size:=by
  obtain⟨f,o⟩:∃f,b.size=f+1:=⟨b.size-1,by omega⟩;have q:minRun' (f+1) b.size 0=b.size:=(minRun'_succ f b.size 0).trans (zh n);rwa [<-o]at q
 simp only[B.sz,j];have back:∀{t:SortSt},Bs kd b t->(pendingOf t).back?=Y:=λB=>by rw[B.pd];rfl
 refine AL (wpS_mono (wpS_forRange (I:=λx c t=>(x=0/\c=(Y,0)/\Bs kd b t)\/(1<=x/\c=(Y,b.size)/\Dn kd rk b t)) (Q:=λc t=>c=(Y,b.size)/\Dn kd rk b t) ?_ ?_ (.inl ⟨rfl,rfl,B⟩)) ?_)
 ·rintro x c t _ hx (⟨rfl,rfl,v⟩|⟨C,rfl,D⟩)
  ·dsimp only;rw[zC (by omega)];simp only[Nat.sub_zero,Nat.min_self,KG];refine AL (cv d (zg _) (by omega) v λm t2 a z p g=>?_);dsimp only;by_cases lt:m<b.size
   ·rw[zh lt];refine AL (wpS_lift (Kn ⟨rfl,AL (ID d (zg _) p a g λt3 i l=>?_)⟩));simp only[kQ,zr,ZO];refine AL (wpS_get ?_);rw[back i];exact AL (wpS_modify (wpS_pure (.inr ⟨by omega,rfl,i.dn l⟩)))
   ·rw[zC lt];have e:m=b.size:=by omega
    subst e;refine AL (wpS_get ?_);rw[back a];exact AL (wpS_modify (wpS_pure (.inr ⟨by omega,rfl,a.dn g⟩)))
  ·dsimp only;rw[zh (zg _)];exact wpS_pure ⟨rfl,D⟩
 ·rintro c t (⟨hx,_,_⟩|⟨_,y,D⟩)
  ·omega
  ·exact⟨y,D⟩
 ·rintro c t ⟨rfl,D⟩;dsimp only;refine AL (wpS_mono (wpS_forRange (I:=λ_ c u=>u=t/\c=(Y,())) (Q:=λc u=>u=t/\c=(Y,())) ?_ (λ_ _ q=>q) ⟨rfl,rfl⟩) ?_)
  ·rintro x c u _ _ ⟨rfl,rfl⟩;refine AL (wpS_get ?_);rw[zh (by rw[D.2.2.1];exact zg 1)];exact wpS_pure ⟨rfl,rfl⟩
  ·rintro c u ⟨rfl,rfl⟩;exact wpS_pure (h _ D.1 D.2.1 D.2.2.2)
def F8(a:A1)(s s':A2):Prop:=∀c o,c≠a->s.heap.get? c=U o->s'.heap.get? c=U o
theorem Lc{vs:Z A0}{P:Fin->A2->Prop}(b:s.heap.get? a=U (seqObj "list" vs.toArray n))(y:2<=vs.length->∀s',F8 a s s'->∀Q:SortKind->A2->Prop,Q kd s'->A7 (A8 prog w) A (keyKind' vs.toArray) Q E s')(l:∀s',F8 a s s'->Yu prog w A s' kd rk (pairsOf vs))(x:vs.length<64)(h:∀st:SortSt,(AM st).Perm (pairsOf vs)->Up rk (AM st) (pairsOf vs).size->P (.done (.ret .none)) { s with heap:=sortedHeap s.heap a vs ((AM st).map (·.2)) }):
  A7 (A8 prog w) A (Builtin.«list.sort» ⟨[.ref a],[]⟩) P E s:=by
 rw[list_sort_plain];have u:=zt b;refine zb (listItems_at b S (zb (listUpdate_at b S ?_)));obtain⟨e1,g1⟩:∃e1,(s.heap.update a (Obj.mapSeq λ_=>#[])).get? a=U (seqObj "list" #[] e1):=⟨_,get?_update_seq b λ_=>#[]⟩;refine zb (seqEpoch_at g1 S (zb (wpAny_newTuple (zb (wpAny_newList (qA ?_))))));have z1:(s.heap.update a (Obj.mapSeq λ_=>#[])).objs.size=s.heap.objs.size:=Heap.size_update ..;have keep:∀c,c<s.heap.objs.size->(((s.heap.update a (Obj.mapSeq λ_=>#[])).push (seqObj "tuple" vs.toArray 0)).push (seqObj "list" #[] 0)).get? c=(s.heap.update a (Obj.mapSeq λ_=>#[])).get? c:=λc d=>by
  rw[Heap.get?_push_ne _ _ _ (by rw[size_push',z1];exact Zl (Qb d)),Heap.get?_push_ne _ _ _ (by rw[z1];exact Zl d)]
 have f:=(keep a u).trans g1;have old:F8 a s { s with heap:=((s.heap.update a (Obj.mapSeq λ_=>#[])).push (seqObj "tuple" vs.toArray 0)).push (seqObj "list" #[] 0) }:=λc o d e=>by
  show(((s.heap.update a (Obj.mapSeq λ_=>#[])).push (seqObj "tuple" vs.toArray 0)).push (seqObj "list" #[] 0)).get? c=U o;rw[keep c (zt e),ka _ _ _ _ d];exact e
 show A7 _ _ _ _ _ { s with heap:=((s.heap.update a (Obj.mapSeq λ_=>#[])).push (seqObj "tuple" vs.toArray 0)).push (seqObj "list" #[] 0) };have B:vs.toArray.size=vs.length:=by simp
 have g:∀st:SortSt,(AM st).Perm (pairsOf vs)->((AM st).map (·.2)).size<=AA+1:=λst hp=>by
  have q:((AM st).map (·.2)).size=vs.length:=(Array.size_map ..).trans (hp.size_eq.trans (pairsOf_size _));rw[q,sizeLine_eq];omega
 by_cases h2:vs.toArray.size<2
 ·simp only[zh h2];refine zb (ze ?_);rw[StateT.run_pure];refine zb (ze (zb (seqEpoch_at f S (zb (listUpdate_at f S ?_ (hsz2:=g (SortSt.mk' general' (pairsOf vs) #[] 7 Y) (Array.Perm.refl _)))))));simp only[bne_self_eq_false,zr,ZO];refine ze (h (SortSt.mk' general' (pairsOf vs) #[] 7 Y) (Array.Perm.refl _) λi j C z=>?_);rw[pairsOf_size]at z;rw[show i=j by omega];exact zg _
 ·simp only[zC h2];refine zb (y (by omega) _ old _ ?_);refine zb (ZZ (HG (l _ old) (st:=SortSt.mk' kd (pairsOf vs) #[] 7 Y) (Q:=λ_ t=>(AM t).Perm (pairsOf vs)/\failedOf t=Y/\Up rk (AM t) (pairsOf vs).size) ⟨Array.Perm.refl _,rfl,rfl,rfl⟩ (by rw[pairsOf_size];omega) (by rw[pairsOf_size];exact x) λt q1 q2 p=>⟨q1,q2,p⟩) ?_ λ_ _ q=>q);rintro⟨⟨⟩,t⟩ s' ⟨rfl,hp,v,m⟩;dsimp only;refine zb (seqEpoch_at f S (zb (listUpdate_at f S ?_ (hsz2:=g t hp))));rw[v];simp only[bne_self_eq_false,zr,ZO];exact ze (h t hp m)
theorem W8{x:A0}{vs:Z A0}{Q:B9}(t:∀(d:B9) (f:Z A0->A2->Prop),(∀h' tk,s.heap.objs.size<=h'.objs.size->(∀c o,s.heap.get? c=U o->h'.get? c=U o)->f vs { s with heap:=h',toks:=tk })->A7 (A8 prog w) A.in1 (collect x) f d s)
  (u:2<=vs.length->∀(d:B9) (b:A5) (s':A2),(∀c o,s.heap.get? c=U o->s'.heap.get? c=U o)->∀Q:SortKind->A2->Prop,Q kd s'->A7 (A8 prog w) b (keyKind' vs.toArray) Q d s') (g:∀(b:A5) (s':A2),(∀c o,s.heap.get? c=U o->s'.heap.get? c=U o)->Yu prog w b s' kd rk (pairsOf vs)) (i:vs.length<64)
  (h:∀(l:A1) (h':A6) (tk n:Nat) (st:SortSt),(AM st).Perm (pairsOf vs)->Up rk (AM st) (pairsOf vs).size->s.heap.objs.size<=l->(∀c o,s.heap.get? c=U o->h'.get? c=U o)->h'.get? l=U (seqObj "list" ((AM st).map (·.2)) n)->Q (.ref l) { s with heap:=h',toks:=tk }):
  A7 (A8 prog w) A (call (.builtin "sorted") [x]) Q E s:=by
 refine Calls.call_function_entry kind_sorted plain_sorted entry_sorted (args_sorted1 _) ?_;unfold Builtin.«sorted»;refine zb (m:=checkCount "sorted" 1 1 _) (ze (zb (t _ _ λh1 tk p ext=>zb (wpAny_newList ?_))));have a:(h1.push (seqObj "list" vs.toArray 0)).get? h1.objs.size=U (seqObj "list" vs.toArray 0):=zv _ rfl;have old:∀s':A2,F8 h1.objs.size { s with heap:=h1.push (seqObj "list" vs.toArray 0),toks:=tk } s'->∀c o,s.heap.get? c=U o->s'.heap.get? c=U o:=λs' q c o e=>
  q c o (Zl (zt (ext c o e))) (zd _ (ext c o e))
 refine zb (qA (kf slot_list_sort ⟨_,a,rfl⟩ entry_list_sort (Lc a (λq s' o=>u q _ _ s' (old s' o)) (λs' o=>g _ s' (old s' o)) i λst q1 q2=>⟨_,rfl,ze ⟨_,rfl,?_⟩⟩) (args_list_sort _)));obtain⟨n,j⟩:=sortedHeap_at (out:=(AM st).map (·.2)) a;refine h h1.objs.size _ tk n st q1 q2 p (λc o e=>?_) j;have hb:=zt (ext c o e);rw[sortedHeap_old (Zl hb) (by rw[qv];exact Qb hb)];exact zd _ (ext c o e)
end
end S1
namespace S1
open L2
theorem W9(fb:Bool)(x y:A0):keyLt' (tuples' fb) x y=(do
  let xs <-Builtin.List.listItems x
  let ys <-Builtin.List.listItems y
  for ((p,q),i) in (xs.toList.zip ys.toList).zipIdx do
   if !(<-eqBool p q)then return <-oneLt' (fb&&i==0) p q
  return decide (xs.size<ys.size)):=rfl
def Xa:AY->AY->Bool
 |.inl a,.inl b=>decide (a<b)
 |.inr x,.inr y=>decide (x.cps.toList<y.cps.toList)
 |.inl _,.inr _=>true
 |.inr _,.inl _=>false
def Vn:AY->AY->Bool
 |.inl _,.inl _=>true
 |.inr _,.inr _=>true
 |_,_=>false
def oZ:Z AY->Z AY->Bool
 |[],[]=>false
 |[],_::_=>true
 |_::_,[]=>false
 |x::xs,y::ys=>if x=y then oZ xs ys else Xa x y
def D8:Z AY->Z AY->Prop
 |x::xs,y::ys=>Vn x y=true/\D8 xs ys
 |_,_=>True
theorem Dx{x y:AY}{p q:A0}{Q:Bool->A2->Prop}(hp:kZ x p=true)(c:kZ y q=true)(h:Q (decide (x=y)) s):A7 (A8 prog w) A (eqBool p q) Q E s:=
 (bF prog w).eqBool (a:=x) (b:=y) hp c h
theorem WP{fb:Bool}{x y:AY}{p q:A0}{Q:Bool->A2->Prop}(hs:Vn x y=true)(hp:kZ x p=true)(a:kZ y q=true)(h:Q (Xa x y) s):A7 (A8 prog w) A (oneLt' fb p q) Q E s:=by
 rcases bQ hp with⟨i,t,rfl,rfl⟩|⟨z,t,rfl,rfl⟩
 ·rcases bQ a with⟨j,u,rfl,rfl⟩|⟨z,u,rfl,rfl⟩
  ·cases fb with
   |true=>exact oneLt_int h
   |false=>
    rw[oneLt'_eq];simp only[zr,ZO];refine zb (show A7 _ _ (AG .Lt (.int i t) (.int j u)) _ _ _ from lt_int ?_);exact JP h
  ·cases hs
 ·rcases bQ a with⟨j,u,rfl,rfl⟩|⟨b,u,rfl,rfl⟩
  ·cases hs
  ·cases fb with
   |true=>exact oneLt_str h
   |false=>
    rw[oneLt'_eq];simp only[zr,ZO];refine zb (show A7 _ _ (AG .Lt (.str z t) (.str b u)) _ _ _ from PySem.P.lt_str ?_);exact JP h
def Ks(ks:Z AY)(AQ:Z A0):Prop:=AI (λk v=>kZ k v=true) ks AQ
def DI:Z AY->Z AY->O Bool
 |x::xs,y::ys=>if x=y then DI xs ys else U (Xa x y)
 |_,_=>Y
theorem Z1:∀ks a:Z AY,oZ ks a=match DI ks a with|some r=>r|none=>decide (ks.length<a.length)
 |[],[]=>rfl
 |[],_::_=>by simp[oZ,DI]
 |_::_,[]=>rfl
 |x::xs,y::ys=>by
  simp only[oZ,DI];by_cases e:x=y
  ·rw[zh e,zh e,Z1 xs ys];simp only[qc,Nat.add_lt_add_iff_right]
  ·rw[zC e,zC e]
def turn(fb:Bool):(A0×A0)×Nat->O Bool×Unit->Sem (ForInStep (O Bool×Unit)):=λx _=>match x with
 |((p,q),i)=>do
  let e <-eqBool p q
  if(!e)=true then do
    let r <-oneLt' (fb&&i==0) p q
    pure (ForInStep.done (U r,()))
   else pure (ForInStep.yield (Y,()))
theorem ES(fb:Bool):∀(ks b:Z AY) (AQ a:Z A0) (i:Nat) (R:O Bool×Unit->A2->Prop),Ks ks AQ->Ks b a->D8 ks b->R (DI ks b,()) s->A7 (A8 prog w) A (forIn ((AQ.zip a).zipIdx i) ((Y,()):O Bool×Unit) (turn fb)) R E s
 |[],_,_,_,_,R,.nil,_,_,h=>ze h
 |_::_,[],_::_,_,_,R,_,.nil,_,h=>ze h
 |x::xs,y::ys,p::AQ,q::a,i,R,.cons hp hk,.cons hq hl,hs,h=>by
  rw[List.zip_cons_cons,List.zipIdx_cons,List.forIn_cons];refine zb ?_;show A7 _ _ (eqBool p q >>= _) _ _ _;refine zb (Dx hp hq ?_);by_cases e:x=y
  ·simp only[e,yb,kQ,zr,ZO];refine ze (ES fb xs ys AQ a (i+1) R hk hl hs.2 ?_);simp only[DI,zh e]at h;exact h
  ·simp only[e,k4,kX,qS];refine zb (WP hs.1 hp hq (ze (ze ?_)));simp only[DI,zC e]at h;exact h
theorem XX{fb:Bool}{c:A1}{j f:AE}{d:Z A0}{m:Nat}{b:Z AY}{Q:Bool->A2->Prop}(l:s.heap.get? a=U j)(o:j.data=.seq AQ.toArray n)(q:s.heap.get? c=U f)(p:f.data=.seq d.toArray m)(g:Ks ks AQ)(i:Ks b d)(hs:D8 ks b)(h:Q (oZ ks b) s):A7 (A8 prog w) A (keyLt' (tuples' fb) (.ref a) (.ref c)) Q E s:=by
 rw[W9];refine zb (listItems_at l o (zb (listItems_at q p ?_)));have t:AQ.length=ks.length:=(Paired.length g).symm;have u:d.length=b.length:=(Paired.length i).symm;refine zb (ES fb ks b AQ d 0 _ g i hs ?_);rw[Z1]at h;cases e:DI ks b with
 |some r=>rw[e]at h;exact ze h
 |none=>
  rw[e]at h;refine ze ?_;simpa[t,u]using h
theorem Th(x:AY):Xa x x=false:=by
 cases x with
 |inl a=>simp[Xa]
 |inr a=>simp[Xa]
theorem Xb{x y z:AY}(h:Xa x y=true)(h':Xa y z=true):Xa x z=true:=by
 cases x<;>cases y<;>cases z<;>simp only[Xa,qi,zr,reduceCtorEq]at h h' ⊢
 ·omega
 ·exact List.lt_trans h h'
theorem gc{x y:AY}(h:Xa x y=false)(h':Xa y x=false):x=y:=by
 cases x<;>cases y<;>simp only[Xa,kB,Bool.true_eq_false,reduceCtorEq]at h h'
 ·congr 1;omega
 ·rename_i a b;have:=List.le_antisymm (as:=a.cps.toList) (bs:=b.cps.toList) h' h;cases a;cases b;simp only at this;rw[Array.toList_inj.mp this]
theorem Gh:∀xs:Z AY,oZ xs xs=false
 |[]=>rfl
 |x::xs=>by simp only[oZ,qS];exact Gh xs
theorem o7:∀{xs ys zs:Z AY},oZ xs ys=true->oZ ys zs=true->oZ xs zs=true
 |[],[],_,h,_=>by cases h
 |[],_::_,[],_,h'=>by cases h'
 |[],_::_,_::_,_,_=>rfl
 |_::_,[],_,h,_=>by cases h
 |_::_,_::_,[],_,h'=>by cases h'
 |x::xs,y::ys,z::zs,h,h'=>by
  simp only[oZ]at h h' ⊢;by_cases e1:x=y
  ·subst e1;rw[zh rfl]at h;by_cases e2:x=z
   ·subst e2;rw[zh rfl]at h' ⊢;exact o7 h h'
   ·rw[zC e2]at h' ⊢;exact h'
  ·rw[zC e1]at h;by_cases e2:y=z
   ·subst e2;rw[zC e1];exact h
   ·rw[zC e2]at h';have:=Xb h h';rw[zC (λe=>by subst e;rw[Th]at this;cases this)];exact this
theorem yN:∀{xs ys:Z AY},oZ xs ys=false->oZ ys xs=false->xs=ys
 |[],[],_,_=>rfl
 |[],_::_,h,_=>by cases h
 |_::_,[],_,h'=>by cases h'
 |x::xs,y::ys,h,h'=>by
  simp only[oZ]at h h';by_cases e:x=y
  ·subst e;rw[zh rfl]at h h';rw[yN h h']
  ·rw[zC e]at h;rw[zC (jI e)]at h';exact absurd (gc h h') e
def wL(xs ys:Z AY):Bool:=!oZ ys xs
theorem xQ(a b c:Z AY)(h:wL a b=true)(h':wL b c=true):wL a c=true:=by
 unfold wL at *
 simp only[Qr]at *
 cases f:oZ c a with
 |false=>rfl
 |true=>
  cases d:oZ a b with
  |true=>rw[o7 f d]at h';cases h'
  |false=>
   have e:=yN d h;subst e;rw[f]at h';cases h'
theorem xR(a b:Z AY):(wL a b||wL b a)=true:=by
 unfold wL;cases h:oZ b a with
 |false=>rfl
 |true=>
  cases h':oZ a b with
  |false=>rfl
  |true=>have:=o7 h h';rw[Gh]at this;cases this
theorem Xc{a b:Z AY}(h:wL a b=true)(h':wL b a=true):a=b:=by
 unfold wL at *
 simp only[Qr]at *
 exact yN h' h
theorem Bt{α:Type}{le:α->α->Prop}(c:∀a b,le a b->le b a->a=b):∀{l l':Z α},l.Perm l'->l.Pairwise le->l'.Pairwise le->l=l'
 |[],l',h,_,_=>by rw[List.nil_perm.mp h]
 |a::l,[],h,_,_=>by cases List.perm_nil.mp h
 |a::l,b::l',h,p,p'=>by
  have e:a=b:=by
   have d:a∈b::l':=h.mem_iff.mp (zk ..);have hb:b∈a::l:=h.mem_iff.mpr (zk ..);rcases List.mem_cons.mp d with h1|h1
   ·exact h1
   ·rcases List.mem_cons.mp hb with h2|h2
    ·exact h2.symm
    ·exact c a b (ki p h2) (ki p' h1)
  subst e;rw[Bt c ((List.perm_cons a).mp h) (List.pairwise_cons.mp p).2 (List.pairwise_cons.mp p').2]
def jZ(cL:Z (Z AY)):Z (Z AY):=cL.mergeSort wL
theorem mC(cL:Z (Z AY)):(jZ cL).Perm cL:=ym ..
theorem uZ(cL:Z (Z AY)):(jZ cL).Pairwise (λa b=>wL a b=true):=KF xQ xR cL
theorem qZ{out:Z (Z AY)}(hp:out.Perm cL)(hs:out.Pairwise (λa b=>wL a b=true)):out=jZ cL:=Bt (λ_ _=>Xc) (hp.trans (mC cL).symm) hs (uZ cL)
def CM(cL:Z (Z AY))(k:Z AY):Nat:=cL.countP λu=>oZ u k
theorem JN{α:Type}{p q:α->Bool}:∀{l:Z α},(∀x∈l,p x=true->q x=true)->(∃x∈l,p x=false/\q x=true)->l.countP p<l.countP q
 |[],_,⟨x,hx,_⟩=>by cases hx
 |a::l,h,⟨x,hx,h1,h2⟩=>by
  have le:l.countP p<=l.countP q:=List.countP_mono_left λy b=>h y (zo _ b);rw[List.countP_cons,List.countP_cons];rcases List.mem_cons.mp hx with rfl|hx
  ·rw[h1,h2];simp;omega
  ·have:=JN (λy b=>h y (zo _ b)) ⟨x,hx,h1,h2⟩;have c:=h a (zk ..);cases hp:p a with
   |true=>rw[c hp];simp;omega
   |false=>simp;omega
theorem Vo{a b:Z AY}(d:a∈cL):decide (CM cL a<CM cL b)=oZ a b:=by
 cases h:oZ a b with
 |true=>
  refine ZT (JN (λu _ c=>o7 c h) ⟨a,d,Gh a,h⟩)
 |false=>
  refine ZE (Nat.not_lt.mpr (List.countP_mono_left λu _ c=>?_));cases hb:oZ b a with
  |true=>exact o7 c hb
  |false=>rw[yN h hb];exact c
def jz(h:A6)(ks:Z AY)(v:A0):Prop:=∃(a:A1) (o:AE) (AQ:Z A0) (n:Nat),v=.ref a/\h.get? a=U o/\o.cls=.type "tuple" ∧ o.data=.seq AQ.toArray n/\Ks ks AQ
theorem jz.keep{h':A6}{v:A0}(q:jz h ks v)(k:∀c o,h.get? c=U o->h'.get? c=U o):jz h' ks v:=by
 obtain⟨a,o,AQ,n,e,g,c,d,p⟩:=q;exact⟨a,o,AQ,n,e,k _ _ g,c,d,p⟩
theorem aT{k l:AY}{v:A0}(h:kZ k v=true)(h':kZ l v=true):k=l:=by
 rcases bQ h with⟨i,t,rfl,rfl⟩|⟨x,t,rfl,rfl⟩
 ·rcases bQ h' with⟨j,u,rfl,e⟩|⟨y,u,rfl,e⟩
  ·cases e;rfl
  ·cases e
 ·rcases bQ h' with⟨j,u,rfl,e⟩|⟨y,u,rfl,e⟩
  ·cases e
  ·cases e;rfl
theorem Ks.inj:∀{ks a:Z AY} {AQ:Z A0},Ks ks AQ->Ks a AQ->ks=a
 |_,_,[],h,h'=>by cases h;cases h';rfl
 |_,_,v::AQ,h,h'=>by
  cases h with
  |cons p t=>cases h' with
   |cons p' t'=>rw[aT p p',Ks.inj t t']
theorem jz.inj{h:A6}{ks b:Z AY}{v:A0}(q:jz h ks v)(j:jz h b v):ks=b:=by
 obtain⟨a,o,AQ,n,rfl,g,c,d,p⟩:=q;obtain⟨m,o',l,t,e,i,s,f,p'⟩:=j;cases e;rw[g]at i;cases i;rw[d]at f;injection f with e1 e2;have e3:AQ=l:=by simpa using congrArg Array.toList e1
 subst e3;exact p.inj p'
theorem Lj{α β:Type}{f:α->Sem β}:∀(xs:Z α) (ys:Z β) (Q:Z β->A2->Prop),AI (λx y=>∀(b:B9) (a:β->A2->Prop),a y s->A7 (A8 prog w) A (f x) a b s) xs ys->Q ys s->A7 (A8 prog w) A (xs.mapM f) Q E s
 |[],_,Q,.nil,h=>by rw[List.mapM_nil];exact ze h
 |x::xs,y::ys,Q,.cons h t,q=>by
  rw[List.mapM_cons];exact zb (h _ _ (zb (Lj xs ys _ t (ze q))))
theorem Z2(v:A0):firstOfTuple' v=(do
  if(<-typeOf v) != .type "tuple" then return Y
  return (<-Builtin.List.listItems v)[0]?):=rfl
theorem Xd{k:AY}{v:A0}(q:jz s.heap (k::ks) v):∃u,kZ k u=true/\∀(e:B9) (b:O A0->A2->Prop),b (U u) s->A7 (A8 prog w) A (firstOfTuple' v) b e s:=by
 obtain⟨a,o,AQ,n,rfl,g,c,d,p⟩:=q;cases p with
 |@cons _ u _ AQ hp t=>
  refine⟨u,hp,λe b h=>?_⟩;rw[Z2];refine zb (QR (T :="tuple") ⟨o,g,c⟩ ?_);rw[zC (by decide)];exact zb (listItems_at g d (ze h))
theorem Z4{k:AY}(h:kZ k u=true)(b:B9)(a:B9)(q:a (.type (if k.isLeft then "int" else "str")) s):A7 (A8 prog w) A (typeOf u) a b s:=by
 rcases bQ h with⟨i,t,rfl,rfl⟩|⟨x,t,rfl,rfl⟩
 ·exact QR (typeIs_int s i t) q
 ·exact QR (typeIs_str s x t) q
theorem JQ{vs:Z A0}{Q:SortKind->A2->Prop}(j:AI (jz s.heap) cL vs)(i:∀k∈cL,k≠[])(z:∀k∈cL,∀l∈cL,D8 k l)(h2:1<=vs.length)(h:Q (tuples' true) s):A7 (A8 prog w) A (keyKind' vs.toArray) Q E s:=by
 have step:∀(cL:Z (Z AY)) (vs:Z A0),AI (jz s.heap) cL vs->(∀k∈cL,k≠[])->∃us:Z A0,AI (λv u=>∀(c:B9) (a:O A0->A2->Prop),a (U u) s->A7 (A8 prog w) A (firstOfTuple' v) a c s) vs us/\AI (λ(k:Z AY) u=>∃x r,k=x::r/\kZ x u=true) cL us:=by
  intro cL vs j
  induction j with
  |nil=>intro _;exact⟨[],.nil,.nil⟩
  |@cons k v cL vs q t d=>
   intro i;obtain⟨us,p1,p2⟩:=d λk f=>i k (zo _ f);cases k with
   |nil=>exact absurd S (i _ (zk ..))
   |cons x r=>
    obtain⟨u,g,B⟩:=Xd (prog:=prog) (w:=w) (A:=A) q;exact⟨u::us,.cons B p1,.cons ⟨x,r,rfl,g⟩ p2⟩
 obtain⟨us,p1,p2⟩:=step cL vs j i;have D:us.length=vs.length:=(Paired.length p1).symm;have C:∀{l:Z A0} {n:Z A0},AI (λv u=>∀(c:B9) (a:O A0->A2->Prop),a (U u) s->A7 (A8 prog w) A (firstOfTuple' v) a c s) l n->AI (λv u=>∀(c:B9) (a:O A0->A2->Prop),a u s->A7 (A8 prog w) A (firstOfTuple' v) a c s) l (n.map U):=λh=>by
  induction h with
  |nil=>exact .nil
  |cons q t d=>exact .cons q d
 rw[keyKind'_eq,List.mapM_toArray,map_eq_pure_bind];refine zb (zb (Lj vs (us.map U) _ (C p1) (ze ?_)));have y:(us.map U).toArray.all (·.isSome)=true:=by simp
 rw[zh y];refine zb (Kn ?_);have o:(us.map U).toArray.filterMap id=us.toArray:=by simp
 rw[o,oneTypeOnly'_eq,List.mapM_toArray,map_eq_pure_bind];have ty:∀(cL:Z (Z AY)) (us:Z A0),AI (λ(k:Z AY) u=>∃x r,k=x::r/\kZ x u=true) cL us->∃ts:Z A0,AI (λu t=>∀(c:B9) (a:B9),a t s->A7 (A8 prog w) A (typeOf u) a c s) us ts/\AI (λ(k:Z AY) t=>∃x r,k=x::r/\t=.type (if x.isLeft then "int" else "str")) cL ts:=by
  intro cL us hp
  induction hp with
  |nil=>exact⟨[],.nil,.nil⟩
  |@cons k u cL us q t d=>
   obtain⟨ts,q1,q2⟩:=d;obtain⟨x,r,rfl,hx⟩:=q;exact⟨_::ts,.cons (λc a h=>Z4 hx c a h) q1,.cons ⟨x,r,rfl,rfl⟩ q2⟩
 obtain⟨ts,q1,q2⟩:=ty cL us p2;refine zb (zb (zb (Lj us ts _ q1 (ze ?_))));have lt:ts.length=vs.length:=by rw[<-Paired.length q1,D]
 cases q2 with
 |nil=>simp at lt;omega
 |@cons J G H m h0 p=>
  obtain⟨b,r,rfl,rfl⟩:=h0;have same:∀t∈m,t=Value.type (if b.isLeft then "int" else "str"):=by
   have F:∀(cL:Z (Z AY)) (ts:Z A0),AI (λ(k:Z AY) t=>∃x r,k=x::r/\t=Value.type (if x.isLeft then "int" else "str")) cL ts->(∀k∈cL,D8 (b::r) k)->∀t∈ts,t=Value.type (if b.isLeft then "int" else "str"):=by
    intro cL ts hp
    induction hp with
    |nil=>intro _ t e;cases e
    |@cons k t cL ts q _ d=>
     intro hs u g;rcases List.mem_cons.mp g with rfl|g
     ·obtain⟨x,I,rfl,rfl⟩:=q;have:=(hs _ (zk ..)).1;cases b<;>cases x<;>first|rfl|cases this
     ·exact d (λk f=>hs k (zo _ f)) u g
   exact F _ _ p λk f=>z _ (zk ..) k (zo _ f)
  have e0:(Value.type (if b.isLeft then "int" else "str")::m).toArray[0]?=U (Value.type (if b.isLeft then "int" else "str")):=by simp
  have e1:((Value.type (if b.isLeft then "int" else "str")::m).toArray.all λx=>x==Value.type (if b.isLeft then "int" else "str"))=true:=by
   simp only[List.all_toArray,qo];intro t e;rcases List.mem_cons.mp e with rfl|e
   ·simp
   ·rw[same t e];simp
  rw[e0];simp only[e1,qS];refine ze (ze ?_);have e2:((U (Value.type (if b.isLeft then "int" else "str"))).any λx=>x !=Value.type "tuple")=true:=by
   cases b with
   |inl _=>exact(by decide:((U (Value.type "int")).any λx=>x !=Value.type "tuple")=true)
   |inr _=>exact(by decide:((U (Value.type "str")).any λx=>x !=Value.type "tuple")=true)
  rw[e2];exact h
def BE(cL:Z (Z AY))(vs:Z A0)(v:A0):Z AY:=match (vs.zip cL).find? (λp=>p.1==v)with
 |some p=>p.2
 |none=>[]
theorem lD{h:A6}:∀{cL:Z (Z AY)} {vs:Z A0},AI (jz h) cL vs->∀v∈vs,BE cL vs v∈cL/\jz h (BE cL vs v) v
 |_,_,.nil,v,hv=>by cases hv
 |k::cL,u::vs,.cons q t,v,hv=>by
  unfold BE;rw[List.zip_cons_cons,JA];by_cases e:u=v
  ·subst e;simp only[beq_self_eq_true];exact⟨zk ..,q⟩
  ·have e':(u==v)=false:=by simpa using e
   simp only[e'];have b:v∈vs:=by
    rcases List.mem_cons.mp hv with h|h
    ·exact absurd h.symm e
    ·exact h
   have a:=lD t v b;exact⟨zo _ a.1,a.2⟩
theorem Bu{h:A6}:∀{cL:Z (Z AY)} {vs:Z A0},AI (jz h) cL vs->∀(K:A0->Z AY),(∀v∈vs,jz h (K v) v)->vs.map K=cL
 |_,_,.nil,_,_=>rfl
 |k::cL,v::vs,.cons q t,K,hK=>by
  rw[zw,(hK v (zk ..)).inj q,Bu t K λu a=>hK u (zo _ a)]
theorem xT{h:A6}:∀{vs:Z A0} {K:A0->Z AY},(∀v∈vs,jz h (K v) v)->AI (jz h) (vs.map K) vs
 |[],_,_=>.nil
 |v::vs,K,hK=>.cons (hK v (zk ..)) (xT λu a=>hK u (zo _ a))
theorem Pg{vs:Z A0}(f:AI (jz s.heap) cL vs)(j:∀k∈cL,∀l∈cL,D8 k l):Yu prog w A s (tuples' true) (λv=>CM cL (BE cL vs v)) (pairsOf vs):=by
 intro E p q Q hp i h;rw[pairsOf_toList]at hp i;obtain⟨b,t1⟩:=lD f p.1 (mem_zip_self hp).2;obtain⟨x,t2⟩:=lD f q.1 (mem_zip_self i).2;rw[Vo b]at h;have m:=j _ b _ x;obtain⟨a,o,AQ,n,e,g,c,d,k⟩:=t1;obtain⟨z,o',D,B,e',u,C,t,y⟩:=t2;rw[e,e'];exact XX g d u t k y m h
theorem Ph{vs:Z A0}(a:AI (jz h) cL vs){xs:Array Keyed}(hp:xs.Perm (pairsOf vs))(f:Up (λv=>CM cL (BE cL vs v)) xs (pairsOf vs).size):AI (jz h) (jZ cL) (xs.map (·.2)).toList:=by
 have c:xs.toList.Perm (vs.zip vs):=by rw[<-pairsOf_toList];exact Array.perm_iff_toList_perm.mp hp
 have d:∀p∈xs.toList,p.1=p.2/\p.1∈vs:=λp q=>mem_zip_self (c.mem_iff.mp q);have e:(xs.map (·.2)).toList=xs.toList.map (·.1):=by
  rw[Array.toList_map];exact JY λp q=>(d p q).1.symm
 have pv:(xs.toList.map (·.1)).Perm vs:=by
  have:=c.map Prod.fst;rwa [List.map_fst_zip (zg _)]at this
 have g:jZ cL=(xs.toList.map (·.1)).map (BE cL vs):=by
  refine(qZ ?_ ?_).symm
  ·have:=pv.map (BE cL vs);rwa [Bu a _ λv q=>(lD a v q).2]at this
  ·rw[List.pairwise_iff_getElem];intro i j hi m o;have n:i<xs.size:=by simpa using hi
   have b:j<xs.size:=by simpa using m
   have u:=f i j (JJ o) (by rw[<-hp.size_eq];exact b);unfold at_ at u;rw[getElem?_pos xs i n,getElem?_pos xs j b]at u;have l:=(lD a xs[j].1 (d xs[j] (by simp)).2).1;simp only[List.getElem_map,Array.getElem_toList];unfold wL;rw[<-Vo l,ZE (Nat.not_lt.mpr u)];rfl
 rw[g,e];refine xT λv q=>(lD a v ?_).2;exact pv.mem_iff.mp q
end S1
namespace P1
open L2 S1
theorem SX{T:String}{vs:Z A0}{Q:Z A0->A2->Prop}(a:s.heap.get? l=U o)(f:o.cls=.type T)(d:T ="list" ∨ T ="tuple")(b:o.data=.seq vs.toArray n)(i:vs.length<=AA)(h:∀h' tk,s.heap.objs.size<=h'.objs.size->(∀c o,s.heap.get? c=U o->h'.get? c=U o)->Q vs { s with heap:=h',toks:=tk }):A7 (A8 prog w) A (collect (.ref l)) Q E s:=by
 unfold collect;refine zb (wpAny_runValue (JU entry_proto_collect' ?_));show A7 _ _ (newList [] >>= λq=>again (.builtin "list.__iadd__" ⟨[q,.ref l],[]⟩)) _ _ s;refine zb (wpAny_newList (ze ⟨Code.quiet_builtin _ (by decide +kernel),JU entry_list_iadd' ?_⟩));show A7 _ _ (Builtin.List.listExtendWith (.ref s.heap.objs.size) (.ref l) (.ref s.heap.objs.size)) _ _ _;unfold Builtin.List.listExtendWith;have g1:(s.heap.push (seqObj "list" #[] 0)).get? l=U o:=zd _ a;refine zb (QR (T:=T) ⟨o,g1,f⟩ ?_);have g:(Value.type T==Value.type "list" || Value.type T==Value.type "tuple")=true:=by rcases d with rfl|rfl<;>decide
 rw[zh (by rw[Bool.or_assoc,g];simp)];refine zb (listItems_at g1 b (zb (listItems_at (xs:=#[]) (n:=0) (zv _ S) S ?_)));rw[zC (by simp)];have g2:(s.heap.push (seqObj "list" #[] 0)).get? s.heap.objs.size=U (seqObj "list" #[] 0):=zv _ rfl;refine zb (listUpdate_at (xs:=#[]) (n:=0) g2 S (ze ?_) (Q1 _) (by show(#[]++vs.toArray).size<=AA+1;simp only[KS,zI,List.length_nil];omega));show A7 (A8 prog w) A (load s.heap.objs.size >>= _) Q E _;refine zb (K0 (get?_update_seq g2 _) ?_);show A7 _ _ (pure ((#[]:Array A0)++vs.toArray).toList) Q E _;rw[show((#[]:Array A0)++vs.toArray).toList=vs by simp];refine ze (h _ s.toks ?_ λc j e=>?_)
 ·rw[Heap.size_update,size_push'];exact JO _
 ·rw[ka _ _ _ _ (Zl (zt e))];exact zd _ e
def Fs:Dt->O AY
 |.int i=>U (.inl i)
 |.str x=>U (.inr x)
 |_=>Y
def Bv:Z Dt->O (Z AY)
 |[]=>U []
 |d::ds=>(Fs d).bind λk=>(Bv ds).bind λks=>U (k::ks)
def Gi:Dt->O (Z AY)
 |.tup ds=>Bv ds
 |_=>Y
def rY:Z Dt->O (Z (Z AY))
 |[]=>U []
 |d::ds=>(Gi d).bind λk=>(rY ds).bind λks=>U (k::ks)
def dK:AY->Dt
 |.inl i=>.int i
 |.inr x=>.str x
def BF(ks:Z AY):Dt:=.tup (ks.map dK)
theorem UD{k:AY}(h:Fs d=U k):d=dK k:=by
 cases d<;>cases h<;>rfl
theorem Pj:∀{ds:Z Dt} {ks:Z AY},Bv ds=U ks->ds=ks.map dK
 |[],_,h=>by cases h;rfl
 |d::ds,_,h=>by
  obtain⟨k,e1,h⟩:=AT h;obtain⟨ks,e2,h⟩:=AT h;cases h;rw[zw,UD e1,Pj e2]
theorem Pk(h:Gi d=U ks):d=BF ks:=by
 cases d with
 |tup ds=>exact congrArg Dt.tup (Pj h)
 |_=>cases h
theorem Ag:∀{ds:Z Dt} {cL:Z (Z AY)},rY ds=U cL->ds=cL.map BF
 |[],_,h=>by cases h;rfl
 |d::ds,_,h=>by
  obtain⟨k,e1,h⟩:=AT h;obtain⟨ks,e2,h⟩:=AT h;cases h;rw[zw,Pk e1,Ag e2]
theorem UO{k:AY}(h:AW K H (dK k) v):v=kV k:=by
 cases k with
 |inl i=>exact(show v=.int i by simpa only[dK,AW]using h)
 |inr x=>exact(show v=.str x/\x.length<=AA by simpa only[dK,AW]using h).1
theorem JR{K:B4}{H:Hp}:∀{ks:Z AY} {vs:Z V},aK K H (ks.map dK) vs->vs=ks.map kV
 |[],_,h=>by simp only[kC,aK]at h;exact h
 |k::ks,_,h=>by
  simp only[zw,aK]at h;obtain⟨v,r,rfl,h1,h2⟩:=h;rw[UO h1,JR h2,zw]
theorem WF(X:Cx):∀{us:Z A0},AX (ks.map kV) us->Ks ks us:=by
 induction ks with
 |nil=>intro us h;cases h;exact .nil
 |cons k ks a=>
  intro us h;cases h with
  |cons r t=>exact .cons (Fb (P:=X.prog) (w:=X.w) r) (a t)
theorem pK{AN:Z (A1×AE)}{σ:L2.St}{H:Hp}{s:A2}(I:AU X AN σ H s):∀{cL:Z (Z AY)} {vs:Z V} {AQ:Z A0},aK X.K H (cL.map BF) vs->AX vs AQ->AI (jz s.heap) cL AQ
 |[],_,_,h,r=>by
  simp only[kC,aK]at h;subst h;cases r;exact .nil
 |k::cL,_,_,h,r=>by
  simp only[zw,aK]at h;obtain⟨v,vs,rfl,h1,h2⟩:=h;cases r with
  |cons i e=>
   refine .cons ?_ (pK I h2 e);simp only[BF,AW]at h1;obtain⟨a,j,rfl,sq,f⟩:=h1;obtain⟨AQ,b,⟨o,g,c,n,d⟩,_⟩:=I.tuple sq;cases i;rw[JR f]at b;exact⟨a,o,AQ,n,rfl,g,c,d,WF X b⟩
theorem Ah{AN:Z (A1×AE)}{σ:L2.St}{H:Hp}{s:A2}(I:AU X AN σ H s){cL:Z (Z AY)}{vs:Z V}{AQ:Z A0}(h:aK X.K H (cL.map BF) vs)(r:AX vs AQ):∀{Yv:Z (Z AY)} {out:Z A0},AI (jz s.heap) Yv out->(∀u∈out,u∈AQ)->∃zs,AX zs out/\aK X.K H (Yv.map BF) zs
 |_,_,.nil,_=>⟨[],.nil,aK.nil⟩
 |l::Yv,u::out,.cons q t,hm=>by
  obtain⟨zs,z1,z2⟩:=Ah I h r t λx hx=>hm x (zo _ hx);have g:∀(cL:Z (Z AY)) (vs:Z V) (AQ:Z A0),aK X.K H (cL.map BF) vs->AX vs AQ->u∈AQ->∃v,As v u/\AW X.K H (BF l) v:=by
   intro cL
   induction cL with
   |nil=>
    intro vs AQ h r a;simp only[kC,aK]at h;subst h;cases r;cases a
   |cons k cL f=>
    intro vs AQ h r a;simp only[zw,aK]at h;obtain⟨v,vs,rfl,h1,h2⟩:=h;cases r with
    |@cons _ i _ _ b c=>
     rcases List.mem_cons.mp a with rfl|a
     ·have e:k=l:=by
       have:=pK I (cL:=[k]) (vs:=[v]) (AQ:=[u]) (by simp only[zw,kC];exact aK.cons h1 aK.nil) (.cons b .nil);cases this with
       |cons d _=>exact d.inj q
      subst e;exact⟨v,b,h1⟩
     ·exact f vs _ h2 c a
  obtain⟨v,b,h1⟩:=g cL vs AQ h r (hm u (zk ..));exact⟨v::zs,.cons b z1,by rw[zw];exact aK.cons h1 z2⟩
def Ln(k l:Z AY):Bool:=((k.zip l).all λp=>Vn p.1 p.2)
theorem Gj:∀{k l:Z AY},Ln k l=true->D8 k l
 |[],_,_=>by simp[D8]
 |_::_,[],_=>by simp[D8]
 |x::k,y::l,h=>by
  unfold Ln at h;rw[List.zip_cons_cons,kr,Zz]at h;exact⟨h.1,Gj h.2⟩
def CQ(cL:Z (Z AY)):Bool:=decide (cL.length<64)&&(cL.all (λk=>!k.isEmpty)&&cL.all λk=>cL.all λl=>Ln k l)
def u0:Z Bx->O Bx
 |[b]=>(wK b).bind λds=>(rY ds).bind λcL=>if CQ cL=true then U (.o ((jZ cL).map BF))else Y
 |_=>Y
theorem Lq(h:bh K H b v)(e:wK b=U ds):∃a vs,v=.ref a/\(qO K H a vs\/yh K H a vs)/\aK K H ds vs:=by
 cases b with
 |z d=>
  cases d<;>first|(cases e;done)|skip
  ·cases e;simp only[bh,AW]at h;obtain⟨a,vs,e,q,r⟩:=h;exact⟨a,vs,e,.inr q,r⟩
  ·cases e;simp only[bh,AW]at h;obtain⟨a,vs,e,q,r⟩:=h;exact⟨a,vs,e,.inl q.sq,r⟩
 |l c=>cases e;obtain⟨a,vs,e,q,r⟩:=h;exact⟨a,vs,e,.inl (.inl q),r⟩
 |o c=>cases e;obtain⟨a,vs,e,q,r⟩:=h;exact⟨a,vs,e,.inl (.inl (.inl q)),r⟩
 |n _=>cases e
 |m _ _=>cases e
theorem Pn:nC X (.builtin "sorted") u0:=by
 intro AN s σ H xs us Q I G h;obtain⟨bs,c,D,e,q⟩:=h;unfold u0 at e;split at e
 ·rename_i b;obtain⟨ds,ed,e⟩:=AT e;obtain⟨cL,ek,e⟩:=AT e;split at e
  ·rename_i hs;cases e;simp only[CQ,Zz,qi,qo,Qr]at hs;obtain⟨a0,L,B⟩:=hs;obtain⟨v,rfl,J⟩:=BM D;obtain⟨p,vs,rfl,sq,x⟩:=Lq J ed;obtain⟨u,rfl,F⟩:=BC G;cases F;have E:=Ag ek;subst E;have K:∃(AQ:Z A0) (o:AE) (T:String) (n:Nat),AX vs AQ/\s.heap.get? p=U o/\o.cls=.type T/\(T ="list" ∨ T ="tuple")/\o.data=.seq AQ.toArray n/\vs.length<=AA:=by
    rcases sq with sq|sq
    ·obtain⟨AQ,f,pl,j⟩:=I.list sq;obtain⟨o,g,c,n,d⟩:=pl.isList;exact⟨AQ,o,_,n,f,g,c,.inl rfl,d,j⟩
    ·obtain⟨AQ,f,⟨o,g,c,n,d⟩,j⟩:=I.tuple sq;exact⟨AQ,o,_,n,f,g,c,.inr rfl,d,j⟩
   obtain⟨AQ,o,T,n,f,g,N,hT,hd,j⟩:=K;have a2:AQ.length=cL.length:=by rw[<-f.length,x.length,zi]
   have tv:=pK I x f;refine W8 (kd:=tuples' true) (rk:=λv=>CM cL (BE cL AQ v)) (vs:=AQ) (λW Q' w=>SX g N hT hd (by rw[<-f.length];exact j) w)
    (λh2 W A' s' k Q' w=>JQ (Paired.imp' (λ_ _ z=>jz.keep z k) tv) (λk t=>by have:=L k t;cases k with|nil=>cases this|cons _ _=>exact List.cons_ne_nil _ _) (λk t l i=>Gj (B k t l i)) (by omega) w)
    (λA' s' k=>Pg (Paired.imp' (λ_ _ z=>jz.keep z k) tv) λk t l i=>Gj (B k t l i)) (by omega) λl h' tk m st hp up i ext hL=>?_
   have a1:=Ph tv hp up;have mem:∀u∈((AM st).map (·.2)).toList,u∈AQ:=λu A=>by
    rw[Array.toList_map]at A;obtain⟨pr,C,rfl⟩:=List.mem_map.mp A;have P:pr∈AQ.zip AQ:=by rw[<-pairsOf_toList];exact(Array.perm_iff_toList_perm.mp hp).mem_iff.mp C
    have:=mem_zip_self P;rw[<-this.1];exact this.2
   obtain⟨zs,z1,z2⟩:=Ah I x f a1 mem;have M:zs.length=cL.length:=by rw[z2.length,zi,(mC cL).length_eq]
   have y:H l=Y:=I.hok.fresh i;refine⟨.ref l,_,I.laid (t':=tk) (a:=l) (o:=.lst zs) ext i ⟨by rw[M];exact JJ (ZU a0 (by decide)),_,m,z1,?_⟩,rfl,q _ _ (bI y) (λa ea=>by cases ea;exact y) ⟨l,zs,rfl,aU,z2.kp (.of (bI y))⟩⟩;rw[hL]
  ·cases e
 ·cases e
end P1
namespace S6
theorem Xe{b:Source}{Q:Nat->A2->Prop}(a:n≠0)(h:∀i d,i<n->Q i { s with drawn:=d }):A7 M A (choose b n) Q E s:=
 λc p e=>⟨a,h _ _ (Nat.mod_lt _ (Nat.pos_of_ne_zero a))⟩
theorem Lr{α:Type}:∀{xs:Z α} {i:Nat} (hi:i<xs.length),(xs[i]::xs.eraseIdx i).Perm xs
 |x::xs,0,_=>List.Perm.refl _
 |x::xs,i+1,h=>by
  rw[List.eraseIdx_cons_succ,List.getElem_cons_succ];exact(List.Perm.swap _ _ _).trans ((Lr (xs:=xs) (i:=i) (by simpa using h)).cons x)
theorem fR:∀(n:Nat) (xs:Z α) (s:A2) (Q:Z α->A2->Prop),xs.length=n->(∀ys d,ys.Perm xs->Q ys { s with drawn:=d })->A7 M A (drawOrder n xs) Q E s:=by
 intro n
 induction n with
 |zero=>
  intro xs s Q a h;cases xs with
  |nil=>
   unfold drawOrder;exact ze (h [] s.drawn (List.Perm.refl _))
  |cons x xs=>simp at a
 |succ n c=>
  intro xs s Q a h;cases xs with
  |nil=>simp at a
  |cons x xs=>
   unfold drawOrder;refine zb (Xe (by simp) λi d hi=>?_);have e:(x::xs)[i]?=U (x::xs)[i]:=by simp[hi]
   rw[e];dsimp only;refine zb (c ((x::xs).eraseIdx i) _ _ (by rw[List.length_eraseIdx,zh hi];simp at a ⊢;omega) λys b hp=>ze ?_);exact h _ b ((List.Perm.cons _ hp).trans (Lr hi))
theorem Vp{α:Type}(next:Nat->Nat):∀(n k:Nat) (xs:Z α) (out:Array α),xs.length=n->(pickOrder.go next n k xs out).toList.Perm (out.toList++xs)
 |0,k,[],out,_=>by unfold pickOrder.go;simp
 |n+1,k,x::xs,out,hl=>by
  unfold pickOrder.go;have hi:next k%(x::xs).length<(x::xs).length:=Nat.mod_lt _ (by simp);have e:(x::xs)[next k%(x::xs).length]?=U (x::xs)[next k%(x::xs).length]:=by rw[Zs hi]
  rw[e];dsimp only;refine(Vp next n (k+1) _ _ (by rw[List.length_eraseIdx,zh hi];simp at hl ⊢;omega)).trans ?_;rw[Array.toList_push,Q4];exact(List.Perm.refl _).append (Lr hi)
theorem Xf(next:Nat->Nat)(xs:Array α):(pickOrder next xs).toList.Perm xs.toList:=by
 have:=Vp next xs.size 0 xs.toList #[] (by simp);simpa[pickOrder]using this
structure Wk (w:World) (h:Heap) (a:Addr) (es:Array (Int×Value)) (ep:Nat) (t:SetTable):Prop where
 at_:∃o,h.get? a=some o/\o.cls=.type "set" ∧ o.data=.set es ep t
 fit:t.fits es.size=true
 led:w.params.followText "set-order"=false->t.led=true
 non:1<es.size->t.plain=false
theorem Wk.keep{h':A6}{es:Array (Int×A0)}(x:Wk w h a es ep t)(k:∀o,h.get? a=U o->h'.get? a=U o):Wk w h' a es ep t:=
 ⟨let ⟨o,e,r⟩:=x.at_;⟨o,k o e,r⟩,x.fit,x.led,x.non⟩
def It(h:A6)(it a:A1)(first:A0)(i n ep:Nat):Prop:=∃o,h.get? it=U o/\o.cls=.type "set_iterator" ∧ o.data=.fields #[first,.int (i:Int) 0,.ref a,.int (n:Int) 0,.int (ep:Int) 0]
theorem It.keep{h':A6}{f:A0}(x:It h it a f i n ep)(k:∀o,h.get? it=U o->h'.get? it=U o):It h' it a f i n ep:=
 let ⟨o,e,r⟩:=x;⟨o,k o e,r⟩
theorem It.ty{f:A0}(x:It s.heap it a f i n ep):s.TypeIs (.ref it) "set_iterator":=let ⟨o,e,c,_⟩:=x;⟨o,e,c⟩
theorem iZ:Slot "set_iterator" "__next__" "set_iterator.__next__":=
 .of (owner :="set_iterator") (n :="__next__") (by rw[typeLookup_type,builtinLookup_eq_fast];kernel_rfl) (by decide +kernel) (by decide +kernel) (by decide +kernel)
  (by first|exact .inl (by decide +kernel)|exact .inr (by decide +kernel)) (by rw[isSubtype_type];kernel_rfl)
theorem yO:Slot "set_iterator" "__iter__" "set_iterator.__iter__":=
 .of (owner :="set_iterator") (n :="__iter__") (by rw[typeLookup_type,builtinLookup_eq_fast];kernel_rfl) (by decide +kernel) (by decide +kernel) (by decide +kernel)
  (by first|exact .inl (by decide +kernel)|exact .inr (by decide +kernel)) (by rw[isSubtype_type];kernel_rfl)
theorem Ip:entryFor table "set_iterator.__next__"=U Builtin.«set_iterator.__next__»:=entryFor_of_tree (by kernel_rfl)
theorem CT:entryFor table "set.__iter__"=U Builtin.«frozenset.__iter__»:=entryFor_alias (id' :="frozenset.__iter__") (by kernel_rfl) S (by decide +kernel) (by kernel_rfl)
theorem Ir:entryFor table "set_iterator.__iter__"=U Builtin.«dict_keyiterator.__iter__»:=entryFor_alias (id' :="dict_keyiterator.__iter__") (by kernel_rfl) S (by decide +kernel) (by kernel_rfl)
theorem Z5:Manifest.owners.lookup (String.ofList "rotareti_tes".toList.reverse)=U Manifest.sig_set_iterator:=by kernel_rfl
theorem Ls(a:A0):argsOk "set_iterator.__next__" ⟨[a],[]⟩:=by
 unfold argsOk;rw[signature?_of (id :="set_iterator.__next__") (n :="__txen__".toList) (o :="rotareti_tes".toList) (by kernel_rfl) Z5];kernel_rfl
theorem Lx(a:A0):argsOk "set_iterator.__iter__" ⟨[a],[]⟩:=by
 unfold argsOk;rw[signature?_of (id :="set_iterator.__iter__") (n :="__reti__".toList) (o :="rotareti_tes".toList) (by kernel_rfl) Z5];kernel_rfl
section
variable{es:Array (Int×A0)}
theorem Ea{first:A0}{Q:O A0->A2->Prop}(d:It s.heap it a first i es.size ep)(g:Wk w s.heap a es ep t)
  (h:A7 (A8 prog w) A.in1 (if let .int slot _:=first then(do
    match <-setNext a slot.toNat (i:Int).toNat (ep:Int).toNat with
    |some (x,next)=>
     setField (.ref it) 0 (rawInt next)
     setField (.ref it) 1 (rawInt ((i:Int)+1))
     ret x
    |none=>setField (.ref it) 2 .none;raiseNew (<-newExc (.type "StopIteration") []))
   else(do
    let U places <-seqItems? first|unsupported "internal:set_iterator"
    match places[(i:Int).toNat]? with
    |some (.int place _)=>
     let x <-setNextDrawn a place.toNat (ep:Int).toNat
     setField (.ref it) 1 (rawInt ((i:Int)+1))
     ret x
    |some _=>unsupported "internal:set_iterator"
    |none=>setField (.ref it) 0 (rawInt 0);setField (.ref it) 2 .none;raiseNew (<-newExc (.type "StopIteration") []))) (λf s'=>∃v,f=.done (.ret v)/\Q (U v) s') (λe s'=>s'.TypeIs e "StopIteration" ∧ Q Y s') s):A7 (A8 prog w) A (pyNext (.ref it)) Q E s:=by
 obtain⟨o,n,u,l⟩:=id d;obtain⟨y,j,q,p⟩:=g.at_;unfold pyNext;refine zb (y0 (KB (name:=Str.ofString "__next__") d.ty iZ (kf iZ d.ty Ip ?_ (Ls _))));unfold Builtin.«set_iterator.__next__»;refine zb (ze ?_);refine zb (wpAny_fieldsOf n l ?_);show A7 _ _ (setEntries a >>= _) _ _ s;refine zb (wpAny_setEntries_of j p g.fit ?_);rw[zC (by simp)];refine ZZ h (λf s' c=>?_) λe s' c=>?_
 ·obtain⟨v,rfl,m⟩:=c;exact⟨v,rfl,ze m⟩
 ·refine zb (ke (T :="StopIteration") (b:=true) c.1 isSubtype_stop ?_);exact ze c.2
theorem Vq{hp:A6}{Q:O A0->A2->Prop}(d:A.handled=Y)(h:∀h',(∀b o,hp.get? b=U o->h'.get? b=U o)->Q Y { s with heap:=h' }):
  A7 (A8 prog w) A.in1 (do raiseNew (<-newExc (.type "StopIteration") [])) (λ(c:Fin) s'=>∃v,c=.done (.ret v)/\Q (U v) s') (λe s'=>s'.TypeIs e "StopIteration" ∧ Q Y s') { s with heap:=hp }:=by
 refine zb ?_;simp only[newExc,newTuple];refine zb (qh ?_ (by size_fits));refine zb (m:=firstArgMember _ _) (wpAny_of_eq (a:=Value.none) (by first|rfl|(simp only[firstArgMember];rfl)) ?_);refine qh ?_ (by size_fits);simp only[raiseNew];refine zb (wpAny_handled ?_);rw[show A.in1.handled=Y from d];refine zb (ze (wpAny_throw ⟨⟨_,zv _ rfl,rfl⟩,?_⟩));exact h _ λb o e=>zd _ (zd _ e)
theorem It.put{f:A0}(d:It h it a f i n ep)(x:A0):It (h.update it (Obj.mapFields (·.setIfInBounds 0 x))) it a x i n ep:=by
 obtain⟨o,c,e,b⟩:=d;exact⟨_,QE _ c (KW (kg b _)),(Obj.cls_mapFields ..).trans e,by rw[kg b];simp⟩
theorem It.step{f:A0}(d:It h it a f i n ep):It (h.update it (Obj.mapFields (·.setIfInBounds 1 (rawInt ((i:Int)+1))))) it a f (i+1) n ep:=by
 obtain⟨o,c,e,b⟩:=d;exact⟨_,QE _ c (KW (kg b _)),(Obj.cls_mapFields ..).trans e,by rw[kg b];simp[rawInt]⟩
theorem It.field{f:A0}{k:Nat}{x:A0}(d:It s.heap it a f i n ep)(e:k<5)(h:Q () { s with heap:=s.heap.update it (Obj.mapFields (·.setIfInBounds k x)) }):A7 (A8 prog w) A (setField (.ref it) k x) Q E s:=by
 obtain⟨o,c,g,b⟩:=d;exact wpAny_setField c b (by simpa using e) h
theorem q8{f:AE->AE}{b:A1}(hb:b≠it)(e:h.get? b=U o):(h.update it f).get? b=U o:=by rw[ka _ _ _ _ hb];exact e
theorem Z6{slot next:Nat}{x:A0}{Q:O A0->A2->Prop}(c:It s.heap it a (.int (slot:Int) 0) i es.size ep)(f:Wk w s.heap a es ep t)
  (l:∀{g:A5} {j:B9} {d:O (A0×Nat)->A2->Prop},d (U (x,next)) s->A7 (A8 prog w) g (setNext a slot i ep) d j s)
  (h:∀h',It h' it a (.int (next:Int) 0) (i+1) es.size ep->(∀b o,b≠it->s.heap.get? b=U o->h'.get? b=U o)->Q (U x) { s with heap:=h' }):A7 (A8 prog w) A (pyNext (.ref it)) Q E s:=by
 refine Ea c f ?_;show A7 _ _ (setNext a slot i ep >>= _) _ _ s;refine zb (l ?_);refine zb (c.field (by decide) ?_);refine zb ((c.put _).field (s:={ s with heap:=_ }) (by decide) ?_);exact ze ⟨x,rfl,h _ ((c.put _).step) λb o hb e=>q8 hb (q8 hb e)⟩
theorem Gk{slot:Nat}{Q:O A0->A2->Prop}(j:A.handled=Y)(c:It s.heap it a (.int (slot:Int) 0) i es.size ep)(f:Wk w s.heap a es ep t)
  (m:∀{g:A5} {l:B9} {d:O (A0×Nat)->A2->Prop},d Y s->A7 (A8 prog w) g (setNext a slot i ep) d l s)
  (h:∀h',(∀b o,b≠it->s.heap.get? b=U o->h'.get? b=U o)->Q Y { s with heap:=h' }):A7 (A8 prog w) A (pyNext (.ref it)) Q E s:=by
 refine Ea c f ?_;show A7 _ _ (setNext a slot i ep >>= _) _ _ s;refine zb (m ?_);refine zb (c.field (by decide) (Vq j λh' k=>h h' λb o hb e=>k b o (q8 hb e)))
theorem ii{tp:A1}{g:AE}{c:Nat}{x:Int×A0}{Q:O A0->A2->Prop}(f:It s.heap it a (.ref tp) i es.size ep)(d:Wk w s.heap a es ep t)(p:s.heap.get? tp=U g)(n:g.data=.seq (pl.map λ(k:Nat)=>rawInt (k:Int)).toArray c)(q:pl[i]?=U j)(hx:es[j]?=U x)(h:∀h',It h' it a (.ref tp) (i+1) es.size ep->(∀b o,b≠it->s.heap.get? b=U o->h'.get? b=U o)->Q (U x.2) { s with heap:=h' }):A7 (A8 prog w) A (pyNext (.ref it)) Q E s:=by
 refine Ea f d ?_;show A7 _ _ (seqItems? (.ref tp) >>= _) _ _ s;refine zb (m:=seqItems? (.ref tp)) ?_;unfold seqItems?;refine zb (K0 p ?_);rw[n];refine ze ?_;dsimp only;rw[KP,show((pl.map λ(k:Nat)=>rawInt (k:Int)).toArray)[i]?=U (rawInt (j:Int)) by simp[q]];show A7 _ _ (setNextDrawn a j ep >>= _) _ _ s;obtain⟨y,l,v,u⟩:=d.at_;refine zb (m:=setNextDrawn a j ep) ?_;unfold setNextDrawn;refine zb (Q3 l u d.fit ?_);dsimp only;rw[zC (by simp),hx];refine ze ?_;refine zb (f.field (by decide) ?_);exact ze ⟨x.2,rfl,h _ f.step λb o hb e=>q8 hb e⟩
theorem Pq{tp:A1}{f:AE}{c:Nat}{Q:O A0->A2->Prop}(n:A.handled=Y)(d:It s.heap it a (.ref tp) i es.size ep)(j:Wk w s.heap a es ep t)(l:s.heap.get? tp=U f)(g:f.data=.seq (pl.map λ(k:Nat)=>rawInt (k:Int)).toArray c)(p:pl[i]?=Y)(h:∀h',(∀b o,b≠it->s.heap.get? b=U o->h'.get? b=U o)->Q Y { s with heap:=h' }):A7 (A8 prog w) A (pyNext (.ref it)) Q E s:=by
 refine Ea d j ?_;show A7 _ _ (seqItems? (.ref tp) >>= _) _ _ s;refine zb (m:=seqItems? (.ref tp)) ?_;unfold seqItems?;refine zb (K0 l ?_);rw[g];refine ze ?_;dsimp only;rw[KP,show((pl.map λ(k:Nat)=>rawInt (k:Int)).toArray)[i]?=Y by simpa using p];refine zb (d.field (by decide) ?_);refine zb ((d.put _).field (s:={ s with heap:=_ }) (by decide) (Vq n λh' k=>h h' λb o hb e=>k b o (q8 hb (q8 hb e))))
theorem wj{Q:Bool->A2->Prop}(h:Q (w.params.followText "set-order") s):A7 (A8 prog w) A setsByText Q E s:=by
 unfold setsByText;exact zb (wpAny_askSetting (ze h))
theorem Ly{f:A0}{Q:B9}(b:It s.heap it a f i n ep)(h:Q (.ref it) s):A7 (A8 prog w) A (pyIter (.ref it)) Q E s:=by
 refine wpAny_pyIter_slot b.ty yO (kf yO b.ty Ir ?_ (Lx _));show A7 _ _ (ret (.ref it)) _ _ s;exact ze ⟨_,rfl,"set_iterator", _,b.ty,iZ.lookup,h⟩
def Lz(w:A4)(a:A1)(ep:Nat)(es:Array (Int×A0)):Z A0:=(pickOrder (w.params.setOrder a ep) es).toList.map (·.2)
theorem Ai:(Lz w a ep es).Perm (es.toList.map (·.2)):=(Xf _ _).map _
theorem JT{slot:Nat}{Q:O (A0×Nat)->A2->Prop}(d:w.params.followText "set-order"=true)(b:Wk w s.heap a es ep t)(h:Q (((Lz w a ep es)[i]?).map λv=>(v,slot)) s):A7 (A8 prog w) A (setNext a slot i ep) Q E s:=by
 obtain⟨j,c,g,f⟩:=b.at_;unfold setNext;refine zb (Q3 c f b.fit (zb (wj ?_)));rw[d];simp only[↓reduceIte,bne_self_eq_false,zr];refine zb (m:=setWalk a) ?_;unfold setWalk;refine zb (Q3 c f b.fit (zb (wj ?_)));rw[d];simp only[↓reduceIte];refine zb (wpAny_askSetting (ze (ze ?_)));have e:(pickOrder (w.params.setOrder a ep) es)[i]?.map (λe=>(e.2,slot))=((Lz w a ep es)[i]?).map λv=>(v,slot):=by
  unfold Lz;rw[ZN,Option.map_map,qV];rfl
 rw[<-e]at h;exact h
theorem S5(l:A.handled=Y)(g:w.params.followText "set-order"=true)(p:a≠it)(c:es.size<=AA):Walks prog w A it [it,a] [it] es.size (λi v=>(Lz w a ep es)[i]?=U v) (λi h=>It h it a (.int 0 0) i es.size ep/\Wk w h a es ep t) where
 sub:=λb hb=>by simp at hb;simp[hb]
 frame:=λ_ _ _ st j=>⟨st.1.keep λo e=>j it (by simp) o e,st.2.keep λo e=>j a (by simp) o e⟩
 item:=λi s Q E hi st d=>by
  have m:(Lz w a ep es).length=es.size:=by rw[Ai.length_eq];simp
  obtain⟨v,f⟩:∃v,(Lz w a ep es)[i]?=U v:=⟨(Lz w a ep es)[i]'(by omega),by rw[Zs]⟩;refine Z6 (slot:=0) (next:=0) (x:=v) st.1 st.2 (λ{A' E' Q'} hq=>JT g st.2 (by rw[f];exact hq)) λh' n k=>?_;exact d v h' s.toks f ⟨n,st.2.keep λo e=>k a o p e⟩ λb o hb e=>k b o (λx=>hb (by simp[x])) e
 done:=λs Q E st d=>by
  have m:(Lz w a ep es).length=es.size:=by rw[Ai.length_eq];simp
  refine Gk (slot:=0) l st.1 st.2 (λ{A' E' Q'} hq=>JT g st.2 (by rw[QQ (by omega)];exact hq)) λh' k=>?_;exact d h' s.toks λb o hb e=>k b o (λx=>hb (by simp[x])) e
 self:=λ_ _ _ _ st d=>Ly st.1 d
def Xg(pl:Z Nat)(es:Array (Int×A0)):Z A0:=pl.filterMap λj=>es[j]?.map (·.2)
theorem Xh(h:pl.Perm (List.range es.size)):(Xg pl es).Perm (es.toList.map (·.2)):=by
 refine(h.filterMap _).trans ?_;rw[show(List.range es.size).filterMap (λj=>es[j]?.map (·.2))=((List.range es.size).filterMap λj=>es[j]?).map (·.2) by rw[List.map_filterMap],filterMap_getElem?_range]
theorem Pr:∀{pl:Z Nat},(∀j∈pl,j<es.size)->∀(i:Nat) (j:Nat),pl[i]?=U j->(Xg pl es)[i]?=es[j]?.map (·.2)
 |[],_,_,_,h=>by simp at h
 |k::pl,hb,i,j,h=>by
  have a:=hb k (zk ..);have e:Xg (k::pl) es=es[k].2::Xg pl es:=by simp[Xg,a]
  rw[e];cases i with
  |zero=>cases(show k=j by simpa using h);simp[a]
  |succ i=>rw[qr];exact Pr (λj b=>hb j (zo _ b)) i j (by simpa using h)
theorem S7{tp:A1}(n:A.handled=Y)(u:a≠it)(m:tp≠it)(hp:pl.Perm (List.range es.size)):Walks prog w A it [it,a,tp] [it] es.size (λi v=>(Xg pl es)[i]?=U v)
  (λi h=>It h it a (.ref tp) i es.size ep/\Wk w h a es ep t/\∃d c,h.get? tp=U d/\d.data=.seq (pl.map λ(k:Nat)=>rawInt (k:Int)).toArray c) where
 sub:=λb hb=>by simp at hb;simp[hb]
 frame:=λ_ _ _ st l=>⟨st.1.keep λo e=>l it (by simp) o e,st.2.1.keep λo e=>l a (by simp) o e,let ⟨d,c,e,r⟩:=st.2.2;⟨d,c,l tp (by simp) d e,r⟩⟩
 item:=λi s Q E hi st f=>by
  obtain⟨d,c,e1,e2⟩:=st.2.2;have p:pl.length=es.size:=by rw[hp.length_eq];simp
  have hb:∀j∈pl,j<es.size:=λj g=>List.mem_range.mp (hp.mem_iff.mp g);have g:pl[i]?=U (pl[i]'(by omega)):=by rw[Zs]
  have hx:es[pl[i]'(by omega)]?=U (es[pl[i]'(by omega)]'(hb _ (k7 _))):=by rw[qf]
  refine ii st.1 st.2.1 e1 e2 g hx λh' q k=>?_;exact f _ h' s.toks (by rw[Pr hb i _ g,hx];rfl) ⟨q,st.2.1.keep λo e=>k a o u e,d,c,k tp d m e1,e2⟩ λb o hb e=>k b o (λx=>hb (by simp[x])) e
 done:=λs Q E st f=>by
  obtain⟨d,c,e1,e2⟩:=st.2.2;have p:pl.length=es.size:=by rw[hp.length_eq];simp
  refine Pq n st.1 st.2.1 e1 e2 (by rw[QQ (by omega)]) λh' k=>?_;exact f h' s.toks λb o hb e=>k b o (λx=>hb (by simp[x])) e
 self:=λ_ _ _ _ st f=>Ly st.1 f
def u5(t:SetTable)(i:Nat):Nat:=if i=0 then 0 else t.place.getD 0 0+1
theorem fw(j:Nat):SetTable.below #[j] 0=0:=by
 show SetTable.below.go #[j] 0 1 0 1=0;unfold SetTable.below.go;rw[zh (by decide)];show(if #[j].getD 0 0<0 then _ else SetTable.below.go #[j] 0 0 0 0)=0;rw[zC (kL _)];rfl
theorem UC(j:Nat):SetTable.below #[j] (j+1)=1:=by
 show SetTable.below.go #[j] (j+1) 1 0 1=1;unfold SetTable.below.go;rw[zh (by decide)];show(if j<j+1 then SetTable.below.go #[j] (j+1) 0 1 1 else _)=1;rw[zh (qk _)];rfl
theorem Xi{P:O (A0×Nat)->Prop}{r:O (A0×Nat)}(hp:t.place.size=es.size)(c:es.size<=1)(hi:i<=es.size)
  (b:r=match es[SetTable.below t.place (u5 t i)]?,t.place[SetTable.below t.place (u5 t i)]? with
   |some (_,x),U j=>U (x,j+1)
   |_,_=>Y) (h:P (((es.toList.map (·.2))[i]?).map λv=>(v,u5 t (i+1)))):P r:=by
 subst b;by_cases h0:es.size=0
 ·have e:es=#[]:=Array.eq_empty_of_size_eq_zero h0;subst e;simpa using h
 ·have h1:es.size=1:=by omega
  obtain⟨x,rfl⟩:=Array.size_eq_one_iff.mp h1;obtain⟨j,a⟩:=Array.size_eq_one_iff.mp (hp.trans h1);have hi:i=0\/i=1:=by omega
  rcases hi with rfl|rfl
  ·have e1:u5 t 0=0:=rfl;have e2:u5 t (0+1)=j+1:=by unfold u5;rw[a];rfl
   rw[e2]at h;rw[e1,a,fw];exact h
  ·have e2:u5 t 1=j+1:=by unfold u5;rw[a];rfl
   rw[e2,a,UC];exact h
theorem Gm{Q:O (A0×Nat)->A2->Prop}(d:w.params.followText "set-order"=false)(b:Wk w s.heap a es ep t)(j:es.size<=1)(hi:i<=es.size)(h:Q (((es.toList.map (·.2))[i]?).map λv=>(v,u5 t (i+1))) s):A7 (A8 prog w) A (setNext a (u5 t i) i ep) Q E s:=by
 obtain⟨n,f,m,l⟩:=b.at_;have hp:t.place.size=es.size:=by
  have:=b.fit;simp only[SetTable.fits,Zz,beq_iff_eq]at this;exact this.1
 unfold setNext;refine zb (Q3 f l b.fit (zb (wj ?_)));rw[d];simp only[zr,↓reduceIte];split
 ·rename_i c;have c:(!t.plain&&decide (es.size>1))=true:=c;simp at c;omega
 ·have g:A7 (A8 prog w) A (if(!t.led&&!es.isEmpty)=true then unsupported "set:maker-not-led" else pure PUnit.unit) (λ_ s'=>s'=s) E s:=by
   rw[b.led d];exact ze rfl
  refine zb (ZZ g (λ_ s' e=>?_) λ_ _ x=>x);subst e;refine ze ?_;exact Xi (P:=λr=>Q r s') hp j hi S h
theorem Pu(l:A.handled=Y)(f:w.params.followText "set-order"=false)(j:es.size<=1)(n:a≠it):Walks prog w A it [it,a] [it] es.size (λi v=>(es.toList.map (·.2))[i]?=U v) (λi h=>It h it a (.int (u5 t i:Nat) 0) i es.size ep/\Wk w h a es ep t) where
 sub:=λb hb=>by simp at hb;simp[hb]
 frame:=λ_ _ _ st g=>⟨st.1.keep λo e=>g it (by simp) o e,st.2.keep λo e=>g a (by simp) o e⟩
 item:=λi s Q E hi st c=>by
  obtain⟨v,d⟩:∃v,(es.toList.map (·.2))[i]?=U v:=⟨(es.toList.map (·.2))[i]'(by simpa using hi),by rw[Zs]⟩;refine Z6 (x:=v) st.1 st.2 (λ{A' E' Q'} hq=>Gm f st.2 j (JJ hi) (by rw[d];exact hq)) λh' m k=>?_;exact c v h' s.toks d ⟨m,st.2.keep λo e=>k a o n e⟩ λb o hb e=>k b o (λx=>hb (by simp[x])) e
 done:=λs Q E st c=>by
  refine Gk l st.1 st.2 (λ{A' E' Q'} hq=>Gm f st.2 j (zg _) (by rw[QQ (by simp)];exact hq)) λh' k=>?_;exact c h' s.toks λb o hb e=>k b o (λx=>hb (by simp[x])) e
 self:=λ_ _ _ _ st c=>Ly st.1 c
theorem Z7(c:Wk w s.heap a es ep t)(z:es.size<=AA){Q:B9}
  (h:∀(it:A1) (h':A6) (d:Drawn) (fp:Z A1) (St:Nat->A6->Prop) (B:Z A0),B.Perm (es.toList.map (·.2))->(∀q:A5,q.handled=Y->Walks prog w q it fp [it] es.size (λi v=>B[i]?=U v) St)->St 0 h'->s.heap.objs.size<=it->it<h'.objs.size →
   (∀b∈fp,b=a\/s.heap.objs.size<=b)->(∀b∈fp,b<h'.objs.size)->(∀b o,s.heap.get? b=U o->h'.get? b=U o)->Q (.ref it) { s with heap:=h',drawn:=d }):A7 (A8 prog w) A (pyIter (.ref a)) Q E s:=by
 obtain⟨K,f,I,n⟩:=id c.at_;have C:s.TypeIs (.ref a) "set":=⟨K,f,I⟩;have j:a<s.heap.objs.size:=zt f;refine wpAny_pyIter_slot C F.slot_set_iter (kf F.slot_set_iter C CT ?_ (F.args_set_iter_1 _));show A7 _ _ (Builtin.Frozenset.sizeOf a >>= _) _ _ s;refine zb (m:=Builtin.Frozenset.sizeOf a) (zb (wpAny_setEntries_of f n c.fit (ze ?_)));have L:A7 (A8 prog w) A.in1 (setDrawn a) (λb s'=>s'=s/\b=(!(w.params.followText "set-order")&&(!t.plain&&decide (es.size>1)))) E s:=by
  unfold setDrawn;exact zb (Q3 f n c.fit (zb (wj (ze ⟨rfl,rfl⟩))))
 refine zb (ZZ L (λb s' e=>?_) λ_ _ x=>x);obtain⟨rfl,rfl⟩:=e;dsimp only;by_cases g:w.params.followText "set-order"=true
 ·rw[g];simp only[kQ,yA,zr,ZO];refine zb (ze ?_);refine zb (m:=setEpoch a) (wpAny_setEpoch_of f n c.fit ?_);refine zb (qh (ze ⟨_,rfl,"set_iterator", _,⟨_,zv _ rfl,rfl⟩,iZ.lookup,?_⟩));have:=h s'.heap.objs.size (s'.heap.push { cls:=.type "set_iterator",data:=.fields #[.int 0 0,.int 0 0,.ref a,.int es.size 0,.int ep 0] }) s'.drawn [s'.heap.objs.size,a] _ _ Ai (λq l=>S5 l g (t:=t) (ep:=ep) (Zl j) z)
   ⟨⟨_,zv _ rfl,rfl,rfl⟩,c.keep λo e=>zd _ e⟩ (zg _) (by rw[qv];exact qk _) (λb hb=>by simp at hb;rcases hb with rfl|rfl;exact .inr (zg _);exact .inl S)
   (λb hb=>by simp at hb;rw[qv];rcases hb with rfl|rfl;exact qk _;exact Qb j) λb o e=>zd _ e
  exact this
 ·have g:w.params.followText "set-order"=false:=by simpa using g
  rw[g];simp only[kX,ya];by_cases H:es.size<=1
  ·rw[zC (by simp;omega)];refine zb (ze ?_);refine zb (m:=setEpoch a) (wpAny_setEpoch_of f n c.fit ?_);refine zb (qh (ze ⟨_,rfl,"set_iterator", _,⟨_,zv _ rfl,rfl⟩,iZ.lookup,?_⟩));have:=h s'.heap.objs.size (s'.heap.push { cls:=.type "set_iterator",data:=.fields #[.int 0 0,.int 0 0,.ref a,.int es.size 0,.int ep 0] }) s'.drawn [s'.heap.objs.size,a] _ _ (List.Perm.refl _) (λq l=>Pu l g H (t:=t) (ep:=ep) (Zl j))
    ⟨⟨_,zv _ rfl,rfl,rfl⟩,c.keep λo e=>zd _ e⟩ (zg _) (by rw[qv];exact qk _) (λb hb=>by simp at hb;rcases hb with rfl|rfl;exact .inr (zg _);exact .inl S)
    (λb hb=>by simp at hb;rw[qv];rcases hb with rfl|rfl;exact qk _;exact Qb j) λb o e=>zd _ e
   exact this
  ·rw[zh (by rw[c.non (by omega)];simp;omega)];refine zb (fR _ _ _ _ (by simp) λpl d hp=>?_);refine zb (wpAny_newTuple ?_ (by rw[zi,hp.length_eq,KM];exact z));refine zb (m:=setEpoch a) (wpAny_setEpoch_of (zd _ f) n c.fit ?_);refine zb (qh (ze ⟨_,rfl,"set_iterator", _,⟨_,zv _ rfl,rfl⟩,iZ.lookup,?_⟩));generalize u:s'.heap.push { cls:=.type "tuple",data:=.seq (pl.map λ(k:Nat)=>rawInt (k:Int)).toArray }=G;have p:G.objs.size=s'.heap.objs.size+1:=by rw[<-u,qv]
   have J:G.get? s'.heap.objs.size=U { cls:=.type "tuple",data:=.seq (pl.map λ(k:Nat)=>rawInt (k:Int)).toArray }:=by rw[<-u];exact zv _ rfl
   have D:∀b o,s'.heap.get? b=U o->G.get? b=U o:=λb o e=>by rw[<-u];exact zd _ e
   have y:a<G.objs.size:=by rw[p];exact Qb j
   have:=h G.objs.size (G.push { cls:=.type "set_iterator",data:=.fields #[.ref s'.heap.objs.size,.int 0 0,.ref a,.int es.size 0,.int ep 0] }) d [G.objs.size,a,s'.heap.objs.size] _ _ (Xh hp) (λq l=>S7 l (t:=t) (ep:=ep) (tp:=s'.heap.objs.size) (Zl y) (by rw[p];exact Zl (qk _)) hp)
    ⟨⟨_,zv _ rfl,rfl,rfl⟩,c.keep λo e=>zd _ (D _ _ e),_,0,zd _ J,rfl⟩ (by rw[p];exact JO _) (by rw[qv];exact qk _)
    (λb hb=>by simp at hb;rcases hb with rfl|rfl|rfl;exact .inr (by rw[p];exact JO _);exact .inl rfl;exact .inr (zg _))
    (λb hb=>by
     simp at hb;rw[qv];rcases hb with rfl|rfl|rfl
     ·exact qk _
     ·exact Qb y
     ·exact Qb (by rw[p];exact qk _)) λb o e=>zd _ (D _ _ e)
   exact this
end
end S6
namespace S6
open P1
section
variable{es:Array (Int×A0)}
theorem Xj{b:Z A0}{a:Array A0}(f:b.length=n)(h:ItemsOf (λi v=>b[i]?=U v) a n):a.toList=b:=by
 apply List.ext_getElem?;intro j;by_cases d:j<n
 ·have c:j<a.size:=by rw[h.1];exact d
  have e:a.toList[j]?=U a[j]:=by simp[c]
  rw[e,h.2 j a[j] (by simp[c])]
 ·rw[QQ (by rw[qq,h.1];omega),QQ (by omega)]
theorem Px{Q:Z A0->A2->Prop}(z:A.handled=Y)(C:Wk w s.heap a es ep t)(D:es.size<=AA)
  (X:∀f h' d tk,f.Perm (es.toList.map (·.2))->s.heap.objs.size<=h'.objs.size->(∀b o,s.heap.get? b=some o->h'.get? b=some o)->Q f { s with heap:=h',drawn:=d,toks:=tk }):
  A7 (A8 prog w) A (collect (.ref a)) Q E s:=by
 obtain⟨n,g,j,b3⟩:=id C.at_;have hT:s.TypeIs (.ref a) "set":=⟨n,g,j⟩;have y:a<s.heap.objs.size:=zt g;unfold collect;refine zb (wpAny_runValue (JU F.entry_proto_collect ?_));rw[Around.under_plainId F.plain_proto_collect _];show A7 _ A.in1 (newList [] >>= λq=>again (.builtin "list.__iadd__" ⟨[q,.ref a],[]⟩)) _ _ s;refine zb (qh (ze ⟨plainId_quiet F.plain_list_iadd _,JU F.entry_list_iadd ?_⟩));rw[Around.under_plainId F.plain_list_iadd _];show A7 _ A.in1 (Builtin.List.listExtendWith (.ref s.heap.objs.size) (.ref a) (.ref s.heap.objs.size)) _ _ _;unfold Builtin.List.listExtendWith;generalize l:(s.heap.push { cls:=.type "list",data:=.seq ([]:Z A0).toArray })=H;have h:∀b o,s.heap.get? b=some o->H.get? b=some o:=λb o e=>by rw[<-l];exact zd _ e
 have J:H.objs.size=s.heap.objs.size+1:=by rw[<-l,qv]
 have P:H.get? s.heap.objs.size=some (seqObj "list" #[] 0):=by rw[<-l];exact zv _ rfl
 have a0:Wk w H a es ep t:=C.keep λo e=>h a o e;refine zb (QR (T :="set") ⟨n,h _ _ g,j⟩ ?_);have h1:Builtin.List.listSameRef (.ref s.heap.objs.size) (.ref a)=false:=by simp[Builtin.List.listSameRef];exact jS y
 simp only[h1,show(Value.type "set"==Value.type "list")=false by decide,show(Value.type "set"==Value.type "tuple")=false by decide,Bool.or_false,zr,ZO];refine zb (Z7 (s:={ s with heap:=H }) a0 D λit G d fp St f hp W N M a5 L b0 u=>?_);refine zb (qA ?_);unfold Builtin.List.listLengthHint;have i:Shared.TypeIs { s with heap:=G,drawn:=d } (.ref a) "set":=⟨n,u _ _ (h _ _ g),j⟩;refine zb (wpAny_specialOf (T :="set") i F.slot_set_len.lookup ?_)
 wp_delta
 refine zb (ke (T :="set") (b:=true) i (by rw[isSubtype_type];kernel_rfl) ?_);show A7 _ A.in1 (typeOf (Value.ref a) >>= _) _ _ _;refine zb (QR (T :="set") i (ze ?_));rw[zh (by decide)];show A7 _ A.in1 (Builtin.List.listTouch (Value.ref s.heap.objs.size) >>= λ_=>again (Code.builtin "list.extend.loop" ⟨[Value.ref s.heap.objs.size,Value.ref it,Value.ref s.heap.objs.size],[]⟩)) _ _ _;have p:G.get? s.heap.objs.size=some (seqObj "list" #[] 0):=u _ _ P;unfold Builtin.List.listTouch;refine zb (zb (listUpdate_at p S (listUpdate_at (get?_update_seq p _) S ?_ (by show _<=_;decide) (by show _<=_;decide)) (by show _<=_;decide) (by show _<=_;decide)));have K:s.heap.objs.size∉fp:=λc=>by
  rcases L _ c with e|e
  ·exact jS y e
  ·have e:H.objs.size<=s.heap.objs.size:=e;rw[J]at e;exact absurd e (Nat.not_succ_le_self _)
 have v:=get?_update_seq (get?_update_seq p (λx=>x.push Value.none)) (λx=>x.pop);generalize hU:(G.update s.heap.objs.size (Obj.mapSeq λx=>x.push Value.none)).update s.heap.objs.size (Obj.mapSeq λx=>x.pop)=U at v;have keep:∀b,b≠s.heap.objs.size->U.get? b=G.get? b:=λb hb=>by rw[<-hU,ka _ _ _ _ hb,ka _ _ _ _ hb]
 have a3:St 0 U:=(W A z).frame 0 G U N λb hb o e=>by rw[keep b λx=>K (x▸hb)];exact e
 show A7 _ A.in1 (again _) _ _ { s with heap:=U,drawn:=d };have ho:f.length=es.size:=by rw[hp.length_eq];simp
 refine ze ⟨plainId_quiet F.plain_extend_loop _,codeAny_extend_loopS (W A.in1 z).toS D s.heap.objs.size K _ es.size 0 { s with heap:=U,drawn:=d } #[] _ S (Q1 _) a3 v (ItemsOf.nil _) λs' a2 c' m B a1=>?_⟩;show A7 _ A (load s.heap.objs.size >>= _) _ _ s';refine zb (K0 B (ze ?_));show Q a2.toList s';rw[Xj ho a1];have I:=X f s'.heap s'.drawn s'.toks hp (JJ (zt B)) λb ob e=>by
  have hb:=zt e;refine m.heap b ob (λc=>?_) ((keep b (Zl hb)).trans (u _ _ (h _ _ e)));simp only[Q2,js,or_false]at c;rcases c with c|c
  ·exact Zl hb c
  ·have:H.objs.size<=it:=M;rw[J,<-c]at this;exact absurd hb (Nat.not_lt.mpr (Nat.le_of_succ_le this))
 have e1:s'.gens=s.gens:=m.gens;have e2:s'.os=s.os:=m.os;rw[<-e1,<-e2]at I;exact I
end
theorem Eb{α:Type}[DecidableEq α]:∀{xs ys:Z α},xs.Nodup->ys.Nodup->(∀z,z∈xs↔z∈ys)->xs.Perm ys
 |[],ys,_,_,h=>by
  have:ys=[]:=List.eq_nil_iff_forall_not_mem.mpr λz a=>by simpa using(h z).mpr a
  subst this;exact .refl _
 |x::xs,ys,hx,hy,h=>by
  have c:x∈ys:=(h x).mp (zk ..);have b:=List.nodup_cons.mp hx;refine((Eb b.2 (hy.erase x) λz=>?_).cons x).trans (List.perm_cons_erase c).symm;rw[hy.mem_erase_iff];constructor
  ·intro a;exact⟨λe=>b.1 (e▸a),(h z).mp (zo _ a)⟩
  ·intro⟨hn,a⟩;rcases List.mem_cons.mp ((h z).mpr a)with e|e
   ·exact absurd e hn
   ·exact e
theorem Bw{R:α->β->Prop}:∀{l l':Z β},l'.Perm l->∀{ys:Z α},AI R ys l->∃a,a.Perm ys/\AI R a l':=by
 intro l l' hp
 replace hp:=hp.symm
 induction hp with
 |nil=>intro ys h;exact⟨ys,.refl _,h⟩
 |cons x _ c=>intro ys h;cases h with|cons r t=>obtain⟨zs,z1,z2⟩:=c t;exact⟨_::zs,z1.cons _,.cons r z2⟩
 |swap x y l=>intro ys h;cases h with|cons r t=>cases t with|cons b g=>exact⟨_,List.Perm.swap _ _ _,.cons b (.cons r g)⟩
 |trans _ _ f e=>intro ys h;obtain⟨zs,z1,z2⟩:=f h;obtain⟨us,i,d⟩:=e z2;exact⟨us,i.trans z1,d⟩
theorem S8{R:α->β->Prop}{xs:Z α}{us:Z β}{ys:Z α}{vs:Z β}(h:AI R xs us)(k:AI R ys vs):AI R (xs++ys) (us++vs):=by
 induction h with
 |nil=>exact k
 |cons r _ a=>exact .cons r a
def BO(w:A4):AE:={ cls:=.type "set",dict:=Y,data:=.set #[] 0 (.fresh 0 0 (!w.params.followText "set-order")) }
structure E8 (prog:Program) (w:World) (S:Addr) (wr:List Addr) {κ:Type} (C:Heap->List κ->Prop) (P:Nat->Value->Prop) (val:Nat->κ) (n:Nat):Prop where
 keep:∀h h' ys,C h ys->(∀b o,b∉wr->h.get? b=some o->h'.get? b=some o)->C h' ys
 add:∀(A:Around) (E:B9) (s:Shared) (i:Nat) (v:Value) (ys:List κ) (Q:Bool->Shared->Prop),A.units<cLine->i<n->P i v->C s.heap ys->ys.length<=i →
  (∀b h' tk ys',Heap.SameBut S s.heap h'->C h' ys'->(∀z,z∈ys'↔z∈ys\/z=val i)->ys'.length<=i+1->s.toks<=tk->Q b { s with heap:=h',toks:=tk })->wpAny (model prog w) A (setAdd S v) Q E s
section
variable{R:Result->A2->Prop}{I:A1}{wr:Z A1}{P:Nat->A0->Prop}{St:Nat->A2->Prop}{C:A6->Z κ->Prop}{val:Nat->κ}
theorem Z8(W:WalksS prog w A.in1 I fp wr (λa b=>b=a) n P St)(S:A1)(M:S∉fp)(ad:E8 prog w S wr C P val n)(G:A.units+1<cLine):
  ∀(k i:Nat) (s:A2) (ys:Z κ),n-i=k->i<=n->St i s->C s.heap ys->(∀z,z∈ys↔∃j,j<i/\z=val j)->ys.length<=i →
   (∀s' d,Moved (S::wr) (λa b=>b=a) s s'->C s'.heap d->(∀z,z∈d↔∃j,j<n/\z=val j)->R (.ok (.ret .none)) s') →
   AF (A8 prog w) A (.builtin "set.update.loop" ⟨[.ref S,.ref I],[]⟩) R s:=by
 have sub:∀b,b∈wr->b∈S::wr:=λb q=>zo _ q;intro k
 induction k with
 |zero=>
  intro i s ys Q hi st h l t g;have:i=n:=by omega
  subst this;refine JU F.entry_set_update_loop ?_;rw[Around.under_plainId YA _];show A7 _ A.in1 (pyNext (.ref I) >>= _) _ _ s;refine zb (W.done s _ _ st λs' c=>?_);show A7 _ A.in1 (ret Value.none) _ _ s';exact ze (g s' ys (c.mono sub) (ad.keep _ _ _ h c.heap) l)
 |succ k H=>
  intro i s ys Q hi st h l t g;have f:i<n:=by omega
  refine JU F.entry_set_update_loop ?_;rw[Around.under_plainId YA _];show A7 _ A.in1 (pyNext (.ref I) >>= _) _ _ s;refine zb (W.item i s _ _ f st λv s' K E c=>?_);show A7 _ A.in1 (holding [v] (setAdd S v) >>= _) _ _ s';refine zb (qA (ad.add _ _ s' i v ys _ G f K (ad.keep _ _ _ h c.heap) t λb h' tk d p D u y m=>?_));refine ze ⟨plainId_quiet YA _,H (i+1) _ d (by omega) f (W.frame _ s' _ _ E m λb hb o e=>?_) D (λz=>?_) y λx L N J B=>?_⟩
  ·rw[p.2 b λq=>M (q▸hb)];exact e
  ·rw[u z,l z];constructor
   ·rintro(⟨j,X,e⟩|e)
    ·exact⟨j,by omega,e⟩
    ·exact⟨i,by omega,e⟩
   ·rintro⟨j,X,e⟩;by_cases q:j=i
    ·exact .inr (q▸e)
    ·exact .inl ⟨j,by omega,e⟩
  ·refine g x L (Moved.trans W.gtrans ((c.mono sub).then_heap m λb o hb e=>?_) N) J B;rw[p.2 b λq=>hb (by rw[q];exact zk)];exact e
end
theorem S9(x:A0){Q₁:B9}(h:Q₁ (.ref s.heap.objs.size) { s with heap:=s.heap.push (BO w) }):
  AF (A8 prog w) A (.call (.builtin "set.__new__") ⟨[.type "set",x],[]⟩) (wants Q₁ E) s:=by
 refine codeAny_of_tree ?_;show A7 _ A.in1 (do checkBuiltinCall "set.__new__" ⟨[.type "set",x],[]⟩;again (.builtin "set.__new__" ⟨[.type "set",x],[]⟩)) _ _ s;refine zb (wpAny_of_eq (F.newCall_set_1 x) (ze ⟨plainId_quiet F.plain_set_new _,JU F.entry_set_new ?_⟩));rw[Around.under_plainId F.plain_set_new _];unfold Builtin.«set.__new__» Builtin.Frozenset.newClass;have a:=sub_set_self;obtain⟨hp,g,d,tk,os⟩:=s;dsimp only
 wp_walk
 refine wpAny_askSetting (ze ?_);dsimp only;simp only[newObj];refine zb (wpAny_alloc (ze ?_));exact ze h
theorem BY:isSubtype (.type "tuple") (.type "set")=pure false:=by rw[isSubtype_type];kernel_rfl
theorem BI:isSubtype (.type "tuple") (.type "frozenset")=pure false:=by rw[isSubtype_type];kernel_rfl
theorem Z9(hU:A.units+60<cLine){T:String}{C:A6->Z κ->Prop}{P:Nat->A0->Prop}{val:Nat->κ}{Q:B9}(hh:A.handled=Y)(L:s.heap.get? l=U o)(a0:o.cls=.type T)(v:T ="list" ∨ T ="tuple")(a3:∀(d:A5) (E':B9) (M:B9) (h0:A6),d.handled=Y->(∀b a,s.heap.get? b=U a->h0.get? b=U a) →
   (∀(h':A6) (St:Nat->A6->Prop),(∀d,d.handled=Y->Walks prog w d h0.objs.size [h0.objs.size,l] [h0.objs.size] n P St)->St 0 h'->(∀b a,h0.get? b=U a->h'.get? b=U a)->M (.ref h0.objs.size) { s with heap:=h' })->A7 (A8 prog w) d (pyIter (.ref l)) M E' { s with heap:=h0 })(ad:E8 prog w s.heap.objs.size [s.heap.objs.size+1] C P val n)(X:∀h',h'.get? s.heap.objs.size=U (BO w)->(∀b a,s.heap.get? b=U a->h'.get? b=U a)->C h' [])(h:∀(h':A6) (tk:Nat) (ys:Z κ),C h' ys->(∀z,z∈ys↔∃j,j<n/\z=val j)->(∀b a,s.heap.get? b=U a->h'.get? b=U a)->Q (.ref s.heap.objs.size) { s with heap:=h',toks:=tk }):
  A7 (A8 prog w) A (call (.type "set") [.ref l]) Q E s:=by
 obtain⟨c,tl,e0⟩:=F.called_set.mro;have d1:=F.called_set.made;have e4:=F.called_set.sub;have a1:l<s.heap.objs.size:=zt L;refine Kt (codeAny_of_tree ?_);show A7 _ _ (callAny (.type "set") _) _ _ _;refine ze ⟨Code.quiet_builtin _ (by decide +kernel),JU F.entry_type_call ?_⟩;rw[Around.under_plain (weight_type_call_type "set" [.ref l] []) rfl];have h1:=F.called_set.notType;have h2:=F.called_set.canCreate;have d3:=F.typeCall_set_1 (.ref l)
 repeat (any_goals (first|assumption|wp_step))
 refine k6 (S9 (.ref l) (E:=E) (Q₁:=λJ N=>J=.ref s.heap.objs.size/\N={ s with heap:=s.heap.push (BO w) }) ⟨rfl,rfl⟩) λr N p=>?_;cases r with
 |error e=>exact p
 |ok fl=>
  cases fl with
  |ret J=>
   obtain⟨rfl,rfl⟩:=p;generalize t:s.heap.push (BO w)=H;have I:H.objs.size=s.heap.objs.size+1:=by rw[<-t,qv]
   have y:H.get? s.heap.objs.size=U (BO w):=by rw[<-t];exact zv _ rfl
   have i:∀b a,s.heap.get? b=U a->H.get? b=U a:=λb a e=>by rw[<-t];exact zd _ e
   have a2:Shared.TypeIs { s with heap:=H } (.ref s.heap.objs.size) "set":=⟨_,y,rfl⟩;have d0:=F.called_set.init.lookup;have d2:=F.called_set.init.bind (.ref s.heap.objs.size)
   repeat (any_goals (first|assumption|wp_step))
   refine k6 (ye (R:=wants (λr f=>r=.none/\∃h' tk ys,f={ s with heap:=h',toks:=tk }/\C h' ys/\(∀z,z∈ys↔∃j,j<n/\z=val j)/\(∀b a,s.heap.get? b=U a->h'.get? b=U a)) E) F.called_set.init.plain F.entry_set_init (check_set_init_1 a2 ?_)) λa5 f x=>?_
   ·have m:Shared.TypeIs { s with heap:=H } (.ref l) T:=⟨o,i _ _ L,a0⟩;have i1:isSubtype (.type T) (.type "set")=pure false:=by rcases v with rfl|rfl;exact F.sub_list_set;exact BY
    have i2:isSubtype (.type T) (.type "frozenset")=pure false:=by rcases v with rfl|rfl;exact F.sub_list_frozenset;exact BI
    have i3:(Value.type T==Value.type "dict")=false:=by rcases v with rfl|rfl<;>decide
    show A7 _ _ (Builtin.«set.__init__» ⟨[.ref s.heap.objs.size,.ref l],[]⟩) _ _ _;have K:∀d:A5,d.handled=Y->d.units+4<cLine->A7 (A8 prog w) d (Builtin.Frozenset.updateFrom "set.__init__" s.heap.objs.size (.ref l)) (λ_ f=>∃h' tk ys,f={ s with heap:=h',toks:=tk }/\C h' ys/\(∀z,z∈ys↔∃j,j<n/\z=val j)/\(∀b a,s.heap.get? b=U a->h'.get? b=U a)) E { s with heap:=H }:=by
     intro d D e5;unfold Builtin.Frozenset.updateFrom Builtin.Frozenset.isAnySet;refine zb (zb (ke m i1 ?_));refine ke m i2 ?_;simp only[zr,ZO];refine zb (QR m ?_);simp only[i3,zr,ZO];refine zb (a3 d _ _ H D i λG St W b3 B=>?_);rw[I]at W;rw[I];have c0:s.heap.objs.size∉[s.heap.objs.size+1,l]:=λq=>by
      simp only[Q2,js,or_false]at q;rcases q with q|q
      ·exact Zl (qk _) q
      ·exact jS a1 q
     refine zb (wpAny_runValue (Z8 (W d.in1 D).toS s.heap.objs.size c0 ad (by omega) (n-0) 0 _ [] S (Q1 _) b3 (X G (B _ _ y) λb a e=>B _ _ (i _ _ e)) (λz=>⟨λq=>(by cases q),λ⟨j,q,_⟩=>absurd q (kL _)⟩) (zg _) λs' ys g c1 c2=>?_));refine ze ⟨s'.heap,s'.toks,ys,?_,c1,c2,λb a e=>?_⟩
     ·have e1:s'.gens=s.gens:=g.gens;have e2:s'.os=s.os:=g.os;have e3:s'.drawn=s.drawn:=g.drawn;rw[<-e1,<-e2,<-e3]
     ·have hb:=zt e;refine g.heap b a (λq=>?_) (B _ _ (i _ _ e));simp only[Q2,js,or_false]at q;rcases q with q|q
      ·exact Zl hb q
      ·exact Zl (Qb hb) q
    have hb:(BO w).data=.set #[] 0 (.fresh 0 0 (!w.params.followText "set-order")):=rfl;unfold Builtin.«set.__init__» noKeywords;generalize c8:Builtin.Frozenset.updateFrom=UF at K ⊢;unfold BO at y
    wp_walk
    refine ZZ (K _ (by simp[hh]) (by simp;omega)) (λu f q=>?_) λ_ _ q=>q;obtain⟨h',tk,ys,rfl,q⟩:=q;show A7 _ _ (ret Value.none) _ _ _;exact ze ⟨rfl,h',tk,ys,rfl,q⟩
   ·cases a5 with
    |error e=>exact x
    |ok b0=>
     cases b0 with
     |ret r=>
      obtain⟨rfl,h',tk,ys,rfl,c1,c2,c3⟩:=x
      repeat (any_goals (first|assumption|wp_step))
      exact h _ _ _ c1 c2 c3
     |_=>exact False.elim x
  |_=>exact False.elim p
end S6
namespace S6
open PySem
def Tc(xs:Array Nat):Prop:=∀i j,i<j->j<xs.size->xs.getD i 0<xs.getD j 0
theorem D2{xs:Array Nat}{k a b:Nat}(h:k<xs.size):xs.getD k a=xs.getD k b:=by simp[Array.getD,h]
theorem af{xs:Array Nat}{k a:Nat}(h:xs[k]?=U j):k<xs.size/\xs.getD k a=j:=by
 have b:k<xs.size:=by
  by_cases q:k<xs.size
  ·exact q
  ·rw[KU (by omega)]at h;cases h
 refine⟨b,?_⟩;rw[qf b]at h;cases h;simp[Array.getD,b]
theorem W'{xs:Array Nat}{k a:Nat}(b:k<xs.size)(h:xs.getD k a=j):xs[k]?=U j:=by
 rw[qf b];simp[Array.getD,b]at h;rw[h]
theorem Gn(xs:Array Nat)(j:Nat)(a:Tc xs):∀(fuel lo hi:Nat),lo<=hi->hi<=xs.size->hi-lo<=fuel->(∀k,k<lo->xs.getD k 0<j)->(∀k,hi<=k->k<xs.size->j<=xs.getD k 0) →
  SetTable.below.go xs j fuel lo hi<=xs.size/\(∀k,k<SetTable.below.go xs j fuel lo hi->xs.getD k 0<j)/\∀k,SetTable.below.go xs j fuel lo hi<=k->k<xs.size->j<=xs.getD k 0
 |0,lo,hi,h1,h2,h3,h4,h5=>by
  have e:lo=hi:=by omega
  subst e;unfold SetTable.below.go;exact⟨h2,h4,h5⟩
 |fuel+1,lo,hi,h1,h2,h3,h4,h5=>by
  unfold SetTable.below.go;by_cases c:lo<hi
  ·rw[zh c];dsimp only;have d:(lo+hi) / 2<xs.size:=by omega
   rw[D2 (b:=0) d];by_cases q:xs.getD ((lo+hi) / 2) 0<j
   ·rw[zh q];refine Gn xs j a fuel _ hi (by omega) h2 (by omega) (λk f=>?_) h5;by_cases e:k=(lo+hi) / 2
    ·rw[e];exact q
    ·exact Nat.lt_trans (a k _ (by omega) d) q
   ·rw[zC q];refine Gn xs j a fuel lo _ (by omega) (by omega) (by omega) h4 λk f hs=>?_;by_cases e:k=(lo+hi) / 2
    ·rw[e];omega
    ·have:=a _ k (by omega:(lo+hi) / 2<k) hs;omega
  ·rw[zC c];have e:lo=hi:=by omega
   subst e;exact⟨h2,h4,h5⟩
theorem BQ{xs:Array Nat}(a:Tc xs)(j:Nat):SetTable.below xs j<=xs.size/\(∀k,k<SetTable.below xs j->xs.getD k 0<j)/\∀k,SetTable.below xs j<=k->k<xs.size->j<=xs.getD k 0:=
 Gn xs j a xs.size 0 xs.size (Q1 _) (zg _) (by omega) (λk h=>absurd h (kL _)) λk h h'=>absurd h' (by omega)
theorem Gp{xs:Array Nat}(b:Tc xs)(h:xs[i]?=U j):SetTable.below xs j=i:=by
 obtain⟨h1,h2,c⟩:=BQ b j;obtain⟨hi,e⟩:=af (a:=0) h;rcases Nat.lt_trichotomy (SetTable.below xs j) i with q|q|q
 ·have:=c _ (zg _) (by omega);have:=b _ _ q hi;omega
 ·exact q
 ·have:=h2 _ q;omega
theorem Vr(j:Nat):SetTable.has #[] j=false:=by
 unfold SetTable.has;simp
structure Tb (t:SetTable):Prop where
 mask:t.mask=7\/t.mask=31\/t.mask=127
 dum:t.dummies=#[]
 rise:Tc t.place
 bd:∀j:Nat,j∈t.place->j<=t.mask
 full:t.place.size<=t.mask
theorem Aj(h:Tb t)(e:t.place[i]?=U j):t.slot j=.live i:=by
 unfold SetTable.slot;simp only[Gp h.rise e,e,beq_self_eq_true,qS]
theorem Xk(h:Tb t)(e:j∉t.place):t.slot j=.empty:=by
 unfold SetTable.slot;have:(t.place[SetTable.below t.place j]?==U j)=false:=by
  cases q:t.place[SetTable.below t.place j]? with
  |none=>rfl
  |some x=>
   by_cases hx:x=j
   ·subst hx;exact absurd (Array.mem_of_getElem? q) e
   ·simp[hx]
 simp only[this,zr,ZO,h.dum,Vr]
def Iu(mask:Nat)(p:SetTable.Probe):SetTable.Probe:=
 if p.more>0 then { p with j:=p.j+1,more:=p.more-1 }else
 { p with j:=(SetTable.leap mask p.i p.perturb).1,more:=SetTable.runEnd mask (SetTable.leap mask p.i p.perturb).1-(SetTable.leap mask p.i p.perturb).1,i:=(SetTable.leap mask p.i p.perturb).1,perturb:=(SetTable.leap mask p.i p.perturb).2 }
theorem NX(t:SetTable)(p:SetTable.Probe):t.advance p=Iu t.mask p:=rfl
def E6(mask i perturb:Nat):SetTable.Probe:={ j:=i,more:=SetTable.runEnd mask i-i,i,perturb,dummy:=Y }
def gO(mask:Nat)(h:Int):Nat->SetTable.Probe
 |0=>E6 mask (SetTable.bits h%(mask+1)) (SetTable.bits h)
 |n+1=>Iu mask (gO mask h n)
theorem Vs(mask:Nat)(h:Int):∀n,(gO mask h n).dummy=Y
 |0=>rfl
 |n+1=>by
  have:=Vs mask h n;unfold gO Iu;split<;>exact this
theorem Py{t:SetTable}(b:Tb t)(a:Nat->Int)(h:Int):∀(d fuel n:Nat),d<fuel->(∀m,n<=m->m<n+d->∃i,t.place[i]?=U (gO t.mask h m).j/\a i≠h) →
  ((gO t.mask h (n+d)).j∉t.place->SetTable.probe.go t a h fuel (gO t.mask h n)=U (.empty (gO t.mask h (n+d)).j Y)) ∧
  ∀i,t.place[i]?=U (gO t.mask h (n+d)).j->a i=h->SetTable.probe.go t a h fuel (gO t.mask h n)=U (.candidate (gO t.mask h (n+d)).j i (gO t.mask h (n+d+1)))
 |0,fuel+1,n,_,_=>by
  refine⟨λe=>?_,λi e1 e2=>?_⟩
  ·unfold SetTable.probe.go;rw[Nat.add_zero]at e ⊢;rw[Xk b e];simp only[Vs]
  ·unfold SetTable.probe.go;rw[Nat.add_zero]at e1 ⊢;rw[Aj b e1];simp only[e2,beq_self_eq_true,qS,NX];rfl
 |d+1,fuel+1,n,hd,hp=>by
  obtain⟨i,e1,e2⟩:=hp n (zg _) (by omega);have c:=Py b a h d fuel (n+1) (by omega) λm h1 h2=>hp m (by omega) (by omega);have e:SetTable.probe.go t a h (fuel+1) (gO t.mask h n)=SetTable.probe.go t a h fuel (gO t.mask h (n+1)):=by
   conv=>lhs;unfold SetTable.probe.go
   rw[Aj b e1];simp only[beq_iff_eq,e2,ZO,NX];rfl
  rw[e,show n+(d+1)=n+1+d by omega];exact c
theorem Td:∀(xs ys:Z Nat),xs.Nodup->(∀x,x∈xs->x∈ys)->xs.length<=ys.length
 |[],_,_,_=>Q1 _
 |x::xs,ys,hn,hs=>by
  have b:=List.nodup_cons.mp hn;have c:=hs x (zk ..);have:=Td xs (ys.erase x) b.2 λz a=>(List.mem_erase_of_ne (λe:z=x=>b.1 (by rw[<-e];exact a))).mpr (hs z (zo _ a));have:=y7 c;have:0<ys.length:=kF c;simp only[qc];omega
def nx(M i:Nat):Nat:=(i*5+1)%M
def Pz(M:Nat):Nat->Nat->Nat
 |0,i=>i
 |k+1,i=>Pz M k (nx M i)
theorem Ed(M:Nat):∀(a b i:Nat),Pz M (a+b) i=Pz M b (Pz M a i)
 |0,b,i=>by rw[KG];rfl
 |a+1,b,i=>by rw[Nat.succ_add];exact Ed M a b _
theorem WS:(∀r,r<8->∃k,k<8/\Pz 8 k 0=r)/\Pz 8 8 0=0:=by decide +kernel
theorem Z':(∀r,r<32->∃k,k<32/\Pz 32 k 0=r)/\Pz 32 32 0=0:=by decide +kernel
theorem UU:(∀r,r<128->∃k,k<128/\Pz 128 k 0=r)/\Pz 128 128 0=0:=by decide +kernel
theorem GW{M:Nat}(h:(∀r,r<M->∃k,k<M/\Pz M k 0=r)/\Pz M M 0=0){r:Nat}(hi:i<M)(c:r<M):∃k,k<M/\Pz M k i=r:=by
 obtain⟨a,d,rfl⟩:=h.1 i hi;obtain⟨b,hb,rfl⟩:=h.1 r c;by_cases q:a<=b
 ·exact⟨b-a,by omega,by rw[<-Ed,show a+(b-a)=b by omega]⟩
 ·exact⟨M-a+b,by omega,by rw[<-Ed,show a+(M-a+b)=M+b by omega,Ed,h.2]⟩
theorem XY(h:mask=7\/mask=31\/mask=127){r:Nat}(hi:i<mask+1)(a:r<mask+1):∃k,k<mask+1/\Pz (mask+1) k i=r:=by
 rcases h with rfl|rfl|rfl
 ·exact GW WS hi a
 ·exact GW Z' hi a
 ·exact GW UU hi a
def lp(mask:Nat)(h:Int):Nat->Nat×Nat
 |0=>(SetTable.bits h%(mask+1),SetTable.bits h)
 |l+1=>SetTable.leap mask (lp mask h l).1 (lp mask h l).2
theorem Gq(mask i:Nat):i<=SetTable.runEnd mask i/\SetTable.runEnd mask i<=i+9:=by unfold SetTable.runEnd;split<;>omega
theorem N3(h:i<=mask):SetTable.runEnd mask i<=mask:=by unfold SetTable.runEnd;split<;>omega
theorem yP{mask:Nat}{h:Int}{s i p:Nat}(e:gO mask h s=E6 mask i p):∀k,k<=SetTable.runEnd mask i-i->gO mask h (s+k)={ E6 mask i p with j:=i+k,more:=SetTable.runEnd mask i-i-k }
 |0,_=>by rw[Nat.add_zero,e];rfl
 |k+1,hk=>by
  have a:=yP e k (by omega);show Iu mask (gO mask h (s+k))=_;rw[a];unfold Iu;rw[zh (by dsimp only;omega)];rfl
theorem PJ{h:Int}{s p:Nat}(e:gO mask h s=E6 mask i p):gO mask h (s+(SetTable.runEnd mask i-i)+1)=E6 mask (SetTable.leap mask i p).1 (SetTable.leap mask i p).2:=by
 show Iu mask (gO mask h (s+(SetTable.runEnd mask i-i)))=_;rw[yP e _ (zg _)];unfold Iu;rw[zC (by dsimp only;omega)];rfl
theorem MC(mask:Nat)(h:Int):∀l,∃s,s<=10*l/\gO mask h s=E6 mask (lp mask h l).1 (lp mask h l).2
 |0=>⟨0,by omega,rfl⟩
 |l+1=>by
  obtain⟨s,hs,e⟩:=MC mask h l;have:=Gq mask (lp mask h l).1;exact⟨_,by omega,PJ e⟩
theorem ir(mask:Nat)(h:Int):∀l,(lp mask h l).1<mask+1
 |0=>Nat.mod_lt _ (Nat.succ_pos _)
 |l+1=>Nat.mod_lt _ (Nat.succ_pos _)
theorem PK(mask:Nat)(h:Int):∀l,(lp mask h l).2*32 ^ l<=SetTable.bits h
 |0=>by simp[lp]
 |l+1=>by
  have a:=PK mask h l;show(lp mask h l).2 / 32*32 ^ (l+1)<=_;have h1:(lp mask h l).2 / 32*32<=(lp mask h l).2:=Nat.div_mul_le_self _ _;have h2:=Nat.mul_le_mul_right (32 ^ l) h1;rw[Nat.pow_succ,Nat.mul_comm (32 ^ l) 32,<-Nat.mul_assoc];exact ZH h2 a
theorem f7(h:Int):SetTable.bits h<18446744073709551616:=by
 unfold SetTable.bits;have h1:h%18446744073709551616<18446744073709551616:=Int.emod_lt_of_pos _ (by decide);have h2:0<=h%18446744073709551616:=Int.emod_nonneg _ (by decide);show(h%18446744073709551616).toNat<_;omega
theorem Vt(mask:Nat)(h:Int):∀k,(lp mask h (12+k)).2<32
 |0=>by
  have h1:=PK mask h 12;have h2:=f7 h;rw[show(32:Nat) ^ 12=1152921504606846976 from rfl]at h1;show(lp mask h 12).2<32;omega
 |k+1=>by
  have:=Vt mask h k;show(lp mask h (12+k)).2 / 32<32;omega
theorem YO(mask:Nat)(h:Int):∀k,(lp mask h (12+k)).1=Pz (mask+1) k (lp mask h 12).1:=by
 have step:∀k,(lp mask h (12+k+1)).1=nx (mask+1) (lp mask h (12+k)).1:=λk=>by
  have:=Vt mask h k;show((lp mask h (12+k)).1*5+1+(lp mask h (12+k)).2 / 32)%(mask+1)=_;rw[show(lp mask h (12+k)).2 / 32=0 by omega];rfl
 have b:∀k i,Pz (mask+1) k (nx (mask+1) i)=nx (mask+1) (Pz (mask+1) k i):=λk=>by
  induction k with
  |zero=>intro i;rfl
  |succ k a=>intro i;exact a _
 intro k
 induction k with
 |zero=>rfl
 |succ k a=>
  rw[show 12+(k+1)=12+k+1 by omega,step,a];exact(b k _).symm
theorem Ll(b:mask=7\/mask=31\/mask=127)(h:Int){r:Nat}(a:r<mask+1):∃l,l<mask+13/\(lp mask h l).1=r:=by
 obtain⟨k,c,e⟩:=XY b (ir mask h 12) a;exact⟨12+k,by omega,by rw[YO,e]⟩
theorem i6(h:Tb t):∃r,r<t.mask+1/\r∉t.place:=by
 by_cases q:∃r,r<t.mask+1/\r∉t.place
 ·exact q
 ·exfalso;have:=Td (List.range (t.mask+1)) t.place.toList y9 λx hx=>by
   rw[yz]at hx;by_cases a:x∈t.place
   ·exact Array.mem_toList_iff.mpr a
   ·exact absurd ⟨x,hx,a⟩ q
  rw[KM,qq]at this;have:=h.full;omega
theorem dy(a:Tb t)(h:Int):∃n,n<10*SetTable.turns t.mask/\(gO t.mask h n).j∉t.place:=by
 obtain⟨r,c,b⟩:=i6 a;obtain⟨l,d,e⟩:=Ll a.mask h c;obtain⟨s,hs,e'⟩:=MC t.mask h l;refine⟨s,by unfold SetTable.turns;omega,?_⟩;rw[e'];show(lp t.mask h l).1∉_;rw[e];exact b
theorem Te(f:Tb t)(h:Int):∃n,n<10*SetTable.turns t.mask/\(gO t.mask h n).j∉t.place/\∀m,m<n->(gO t.mask h m).j∈t.place:=by
 obtain⟨n,g,c⟩:=dy f h;have:∀k,(∃n,n<=k/\(gO t.mask h n).j∉t.place/\∀m,m<n->(gO t.mask h m).j∈t.place)\/∀m,m<=k->(gO t.mask h m).j∈t.place:=λk=>by
  induction k with
  |zero=>
   by_cases q:(gO t.mask h 0).j∈t.place
   ·exact .inr λm b=>by rw[show m=0 by omega];exact q
   ·exact .inl ⟨0,zg _,q,λm b=>absurd b (kL _)⟩
  |succ k a=>
   rcases a with⟨n,h1,h2⟩|a
   ·exact .inl ⟨n,by omega,h2⟩
   ·by_cases q:(gO t.mask h (k+1)).j∈t.place
    ·exact .inr λm b=>by
      by_cases e:m=k+1
      ·rw[e];exact q
      ·exact a m (by omega)
    ·exact .inl ⟨k+1,zg _,q,λm b=>a m (by omega)⟩
 rcases this n with⟨m,h1,h2,d⟩|q
 ·exact⟨m,by omega,h2,d⟩
 ·exact absurd (q n (zg _)) c
theorem gD(xs:Array α)(k:Nat)(a:α):xs.getD k a=xs[k]?.getD a:=by
 by_cases h:k<xs.size
 ·rw[qf h];simp[Array.getD,h]
 ·rw[KU (by omega)];simp[Array.getD,h]
structure Tok (t:SetTable) (es:Array (Int×Value)):Prop extends Tb t where
 size:t.place.size=es.size
 reach:∀(i j:Nat) e,t.place[i]?=some j->es[i]?=some e->∃n,n<10*SetTable.turns t.mask/\(gO t.mask e.1 n).j=j/\∀m,m<n->(gO t.mask e.1 m).j∈t.place
theorem yQ(xs:Array α)(p:Nat)(x:α):(SetTable.insertAt xs p x).toList=xs.toList.take p++x::xs.toList.drop p:=by
 unfold SetTable.insertAt;simp[Array.toList_extract,List.take_of_length_le]
theorem Du{xs:Array α}{p:Nat}(hp:p<=xs.size)(x:α)(i:Nat):(SetTable.insertAt xs p x)[i]?=if i<p then xs[i]? else if i=p then U x else xs[i-1]?:=by
 rw[<-qV,yQ,List.getElem?_append];have a:(xs.toList.take p).length=p:=by rw[kz,qq];omega
 rw[a];by_cases h1:i<p
 ·rw[zh h1,zh h1,List.getElem?_take,zh h1,qV]
 ·rw[zC h1,zC h1];by_cases h2:i=p
  ·rw[zh h2,h2,Nat.sub_self];rfl
  ·rw[zC h2,show i-p=(i-p-1)+1 by omega,qr,List.getElem?_drop,qV,show p+(i-p-1)=i-1 by omega]
theorem u6(xs:Array α)(p:Nat)(x:α):(SetTable.insertAt xs p x).size=xs.size+1:=by
 rw[<-qq,yQ,zS,qc,kz,kA,qq];omega
theorem Vu{xs:Array α}{p:Nat}{x y:α}:y∈SetTable.insertAt xs p x↔y∈xs\/y=x:=by
 rw[<-Array.mem_toList_iff,yQ,yi,Q2,<-Array.mem_toList_iff];constructor
 ·rintro(h|h|h)
  ·exact .inl (List.mem_of_mem_take h)
  ·exact .inr h
  ·exact .inl (List.mem_of_mem_drop h)
 ·rintro(h|h)
  ·rw[<-List.take_append_drop p xs.toList,yi]at h;rcases h with h|h
   ·exact .inl h
   ·exact .inr (.inr h)
  ·exact .inr (.inl h)
theorem fT{xs:Array Nat}(c:Tc xs)(h:j∉xs):Tc (SetTable.insertAt xs (SetTable.below xs j) j):=by
 obtain⟨h1,h2,e⟩:=BQ c j;intro a b f hb;rw[u6]at hb;have d:∀i,i<xs.size+1->(SetTable.insertAt xs (SetTable.below xs j) j).getD i 0=if i<SetTable.below xs j then xs.getD i 0 else if i=SetTable.below xs j then j else xs.getD (i-1) 0:=λi hi=>by
  rw[gD,Du h1];by_cases q1:i<SetTable.below xs j
  ·rw[zh q1,zh q1,<-gD]
  ·rw[zC q1,zC q1];by_cases q2:i=SetTable.below xs j
   ·rw[zh q2,zh q2];rfl
   ·rw[zC q2,zC q2,<-gD]
 have gt:∀k,SetTable.below xs j<=k->k<xs.size->j<xs.getD k 0:=λk g hs=>by
  have q:=e k g hs;rcases Nat.lt_or_eq_of_le q with q|q
  ·exact q
  ·exact absurd (Array.mem_of_getElem? (W' hs q.symm)) h
 rw[d a (by omega),d b hb];by_cases a1:a<SetTable.below xs j
 ·rw[zh a1];by_cases b1:b<SetTable.below xs j
  ·rw[zh b1];exact c a b f (by omega)
  ·rw[zC b1];have:=h2 a a1;by_cases b2:b=SetTable.below xs j
   ·rw[zh b2];exact this
   ·rw[zC b2];exact Nat.lt_trans this (gt _ (by omega) (by omega))
 ·rw[zC a1];by_cases a2:a=SetTable.below xs j
  ·rw[zh a2,zC (by omega),zC (by omega)];exact gt _ (by omega) (by omega)
  ·rw[zC a2,zC (by omega),zC (by omega)];exact c _ _ (by omega) (by omega)
theorem g0{es:Array (Int×A0)}(h:Tok t es){d:Int}{x:A0}(v:n<10*SetTable.turns t.mask)(s:(gO t.mask d n).j∉t.place)(hp:∀m,m<n->(gO t.mask d m).j∈t.place)(w:(gO t.mask d n).j<=t.mask)(hs:es.size+1<=t.mask):
  Tok (t.put (gO t.mask d n).j).1 (SetTable.insertAt es (t.put (gO t.mask d n).j).2 (d,x))/\(t.put (gO t.mask d n).j).1.led=t.led/\(t.put (gO t.mask d n).j).1.plain=t.plain/\(t.put (gO t.mask d n).j).1.mask=t.mask:=by
 have p:=h.dum;have u:t.put (gO t.mask d n).j=({ t with place:=SetTable.insertAt t.place (SetTable.below t.place (gO t.mask d n).j) (gO t.mask d n).j,dummies:=#[] },SetTable.below t.place (gO t.mask d n).j):=by
  unfold SetTable.put;rw[p];simp only[Vr,zr,ZO]
 rw[u];have l:=h.size;have hb:=(BQ h.rise (gO t.mask d n).j).1;refine⟨{ mask:=h.mask,dum:=rfl,rise:=fT h.rise s,bd:=λj o=>?_,full:=?_,size:=?_,reach:=λi j e h1 h2=>?_ },rfl,rfl,rfl⟩
 ·rcases Vu.mp o with q|q
  ·exact h.bd j q
  ·rw[q];exact w
 ·show(SetTable.insertAt _ _ _).size<=t.mask;rw[u6];omega
 ·show(SetTable.insertAt _ _ _).size=_;rw[u6,u6,l]
 ·have h1:(SetTable.insertAt t.place (SetTable.below t.place (gO t.mask d n).j) (gO t.mask d n).j)[i]?=U j:=h1;rw[Du hb]at h1;rw[Du (by rw[<-l];exact hb)]at h2;have f:∀e':Int×A0,(∃n,n<10*SetTable.turns t.mask/\(gO t.mask e'.1 n).j=j/\∀m,m<n->(gO t.mask e'.1 m).j∈t.place)->∃g,g<10*SetTable.turns t.mask/\(gO t.mask e'.1 g).j=j/\∀m,m<g->(gO t.mask e'.1 m).j∈SetTable.insertAt t.place (SetTable.below t.place (gO t.mask d n).j) (gO t.mask d n).j:=
   λe' ⟨n,a,b,c⟩=>⟨n,a,b,λm y=>Vu.mpr (.inl (c m y))⟩
  by_cases q1:i<SetTable.below t.place (gO t.mask d n).j
  ·rw[zh q1]at h1 h2;exact f e (h.reach i j e h1 h2)
  ·rw[zC q1]at h1 h2;by_cases q2:i=SetTable.below t.place (gO t.mask d n).j
   ·rw[zh q2]at h1 h2;cases h1;cases h2;exact f (d,x) ⟨n,v,rfl,hp⟩
   ·rw[zC q2]at h1 h2;exact f e (h.reach (i-1) j e h1 h2)
theorem NJ{mask:Nat}(h:Int):∀n,(gO mask h n).j+(gO mask h n).more<=mask
 |0=>by
  have h1:SetTable.bits h%(mask+1)<mask+1:=Nat.mod_lt _ (Nat.succ_pos _);have:=N3 (mask:=mask) (i:=SetTable.bits h%(mask+1)) (by omega);have:=Gq mask (SetTable.bits h%(mask+1));show SetTable.bits h%(mask+1)+(SetTable.runEnd mask (SetTable.bits h%(mask+1))-SetTable.bits h%(mask+1))<=mask;omega
 |n+1=>by
  have b:=NJ (mask:=mask) h n;show(Iu mask (gO mask h n)).j+(Iu mask (gO mask h n)).more<=mask;unfold Iu;split
  ·dsimp only;omega
  ·dsimp only;generalize a:(SetTable.leap mask (gO mask h n).i (gO mask h n).perturb).1=i;have h1:i<mask+1:=by rw[<-a];exact Nat.mod_lt _ (Nat.succ_pos _)
   have:=N3 (mask:=mask) (i:=i) (by omega);have:=Gq mask i;omega
theorem Tf(h:Int)(n:Nat):(gO mask h n).j<=mask:=by have:=NJ (mask:=mask) h n;omega
def Tg(owner:Array (O Nat))(j:Nat):Prop:=(owner.getD j (U 0)).isNone=false
theorem JV{mask:Nat}{h:Int}{owner:Array (O Nat)}:∀(fuel l s j:Nat),gO mask h s=E6 mask (lp mask h l).1 (lp mask h l).2->s<=10*l->(∀m,m<s->Tg owner (gO mask h m).j) →
  SetTable.layClean.free mask owner fuel (lp mask h l).1 (lp mask h l).2=U j->∃n,n<10*(l+fuel)/\(gO mask h n).j=j/\(owner.getD j (U 0)).isNone=true/\∀m,m<n->Tg owner (gO mask h m).j
 |0,l,s,j,_,_,_,e=>by unfold SetTable.layClean.free at e;cases e
 |fuel+1,l,s,j,hs,hl,ho,e=>by
  have i:=Gq mask (lp mask h l).1;unfold SetTable.layClean.free at e;cases c:(List.range (SetTable.runEnd mask (lp mask h l).1+1-(lp mask h l).1)).find? λk=>(owner.getD ((lp mask h l).1+k) (U 0)).isNone with
  |some k=>
   rw[c]at e;cases e;obtain⟨h1,h2,d⟩:=List.find?_range_eq_some.mp c;rw[yz]at h2;refine⟨s+k,by omega,?_,h1,λm g=>?_⟩
   ·rw[yP hs k (by omega)]
   ·by_cases q:m<s
    ·exact ho m q
    ·have f:=d (m-s) (by omega);rw[show m=s+(m-s) by omega,yP hs (m-s) (by omega)];simpa[Tg]using f
  |none=>
   rw[c]at e;have d:=List.find?_range_eq_none.mp c;obtain⟨n,a,b⟩:=JV fuel (l+1) _ j (PJ hs) (by omega) (λm g=>by
    by_cases q:m<s
    ·exact ho m q
    ·have f:=d (m-s) (by omega);rw[show m=s+(m-s) by omega,yP hs (m-s) (by omega)];simpa[Tg]using f) e
   exact⟨n,by omega,b⟩
theorem JW{mask:Nat}{h:Int}{owner:Array (O Nat)}:∀(fuel l:Nat),SetTable.layClean.free mask owner fuel (lp mask h l).1 (lp mask h l).2=Y->∀l',l<=l'->l'<l+fuel->Tg owner (lp mask h l').1
 |0,l,_,l',h1,h2=>by omega
 |fuel+1,l,e,l',h1,h2=>by
  have d:=Gq mask (lp mask h l).1;unfold SetTable.layClean.free at e;cases a:(List.range (SetTable.runEnd mask (lp mask h l).1+1-(lp mask h l).1)).find? λk=>(owner.getD ((lp mask h l).1+k) (U 0)).isNone with
  |some k=>rw[a]at e;cases e
  |none=>
   rw[a]at e;have c:=List.find?_range_eq_none.mp a;by_cases q:l'=l
   ·subst q;have b:=c 0 (by omega);simpa[Tg]using b
   ·exact JW fuel (l+1) e l' (by omega) (by omega)
structure Ow (mask:Nat) (hs:List Int) (owner:Array (Option Nat)):Prop where
 size:owner.size=mask+1
 lt:∀(j idx:Nat),owner[j]?=some (some idx)->idx<hs.length
 all:∀(idx:Nat) h,hs[idx]?=some h->∃j,owner[j]?=some (some idx)/\∃n,n<10*SetTable.turns mask/\(gO mask h n).j=j/\∀m,m<n->Tg owner (gO mask h m).j
 inj:∀(j j' idx:Nat),owner[j]?=some (some idx)->owner[j']?=some (some idx)->j=j'
theorem MW(o:Ow mask hs owner)(c:j<=mask):Tg owner j↔∃b,owner[j]?=U (U b):=by
 unfold Tg;have a:j<owner.size:=by rw[o.size];omega
 rw[gD,qf a];cases owner[j]with
 |none=>simp
 |some i=>simp
theorem Xl{f:Nat->Nat}:∀{xs:Z Nat},xs.Nodup->(∀x∈xs,∀y∈xs,f x=f y->x=y)->(xs.map f).Nodup:=λ{xs} hn hi=>
 List.pairwise_map.mpr (y8 (λb hb a e=>a (hi _ b _ hb e)) hn)
theorem XN(o:Ow mask hs owner)(g:hs.length<=mask):∃r,r<mask+1/\¬ Tg owner r:=by
 by_cases q:∃r,r<mask+1/\¬ Tg owner r
 ·exact q
 ·exfalso;have all:∀r,r<mask+1->∃d,owner[r]?=U (U d):=λr a=>by
   by_cases b:Tg owner r
   ·exact(MW o (by omega)).mp b
   ·exact absurd ⟨r,a,b⟩ q
  have f:∀r,r<mask+1->owner[r]?=U (U ((owner[r]?.getD Y).getD 0)):=λr a=>by
   obtain⟨d,e⟩:=all r a;rw[e];rfl
  have:=Td ((List.range (mask+1)).map λr=>(owner[r]?.getD Y).getD 0) (List.range hs.length) (Xl y9 λx hx y c e=>by
   rw[yz]at hx c;have e1:=f x hx;have e2:=f y c;rw[e]at e1;exact o.inj x y _ e1 e2) λx hx=>by
    obtain⟨r,a,rfl⟩:=List.mem_map.mp hx;rw[yz]at a;exact List.mem_range.mpr (o.lt r _ (f r a))
  rw[zi,KM,KM]at this;omega
theorem bg(f:mask=7\/mask=31\/mask=127)(o:Ow mask hs owner)(y:hs.length<=mask)(h:Int):
  ∃j,SetTable.layClean.free mask owner (SetTable.turns mask) (SetTable.bits h%(mask+1)) (SetTable.bits h)=U j/\Ow mask (hs++[h]) (owner.setIfInBounds j (U hs.length)):=by
 obtain⟨r,w,z⟩:=XN o y;cases p:SetTable.layClean.free mask owner (SetTable.turns mask) (SetTable.bits h%(mask+1)) (SetTable.bits h)with
 |none=>
  obtain⟨l,A,e⟩:=Ll f h w;have:=JW (h:=h) (owner:=owner) (SetTable.turns mask) 0 p l (Q1 _) (by unfold SetTable.turns;omega);rw[e]at this;exact absurd this z
 |some j=>
  obtain⟨n,h1,h2,s,x⟩:=JV (h:=h) (owner:=owner) (SetTable.turns mask) 0 0 j S (zg _) (λm f=>absurd f (kL _)) p;rw[KG]at h1;have B:j<=mask:=by rw[<-h2];exact Tf h n
  have v:j<owner.size:=by rw[o.size];omega
  have get:∀k:Nat,(owner.setIfInBounds j (U hs.length))[k]?=if k=j then U (U hs.length)else owner[k]?:=λk=>by
   rw[Array.getElem?_setIfInBounds];by_cases q:k=j
   ·rw[zh q,zh q.symm,zh v]
   ·rw[zC q,zC (λe=>q e.symm)]
  have old:∀k d:Nat,owner[k]?=U (U d)->k≠j:=λk d e q=>by
   subst q;rw[gD,e]at s;cases s
  have i:∀k,Tg owner k->Tg (owner.setIfInBounds j (U hs.length)) k:=λk q=>by
   unfold Tg at q ⊢;rw[gD]at q ⊢;rw[get];by_cases e:k=j
   ·rw[zh e];rfl
   ·rw[zC e];exact q
  refine⟨j,rfl,⟨by rw[Array.size_setIfInBounds];exact o.size,λk d e=>?_,λd g e=>?_,λa b d e1 e2=>?_⟩⟩
  ·rw[get]at e;rw[zS];by_cases q:k=j
   ·rw[zh q]at e;cases e;simp
   ·rw[zC q]at e;have:=o.lt k d e;simp;omega
  ·by_cases q:d<hs.length
   ·rw[Z3 q]at e;obtain⟨k,e1,t,a,b,c⟩:=o.all d g e;exact⟨k,by rw[get,zC (old k d e1)];exact e1,t,a,b,λm f=>i _ (c m f)⟩
   ·rw[QI (by omega)]at e;have:d-hs.length=0:=by
     by_cases u:d-hs.length=0
     ·exact u
     ·rw[QQ (by simp;omega)]at e;cases e
    rw[this]at e;cases e;have:d=hs.length:=by omega
    subst this;exact⟨j,by rw[get,zh rfl],n,h1,h2,λm f=>i _ (x m f)⟩
  ·rw[get]at e1 e2;by_cases q1:a=j
   ·by_cases q2:b=j
    ·rw[q1,q2]
    ·rw[zh q1]at e1;rw[zC q2]at e2;cases e1;have:=o.lt b _ e2;omega
   ·by_cases q2:b=j
    ·rw[zC q1]at e1;rw[zh q2]at e2;cases e2;have:=o.lt a _ e1;omega
    ·rw[zC q1]at e1;rw[zC q2]at e2;exact o.inj a b d e1 e2
theorem XE(mask:Nat):Ow mask [] (Array.replicate (mask+1) Y):=by
 have no:∀(j a:Nat),(Array.replicate (mask+1) (Y:O Nat))[j]?≠U (U a):=λj a e=>by
  rw[Array.getElem?_replicate]at e;split at e<;>cases e
 exact⟨Array.size_replicate,λj a e=>absurd e (no j a),λa h e=>by simp at e,λj b a e=>absurd e (no j a)⟩
theorem dQ(l:mask=7\/mask=31\/mask=127)(hs:Z Int)(b:hs.length<=mask):∃owner,SetTable.layClean mask hs.toArray=U owner/\Ow mask hs owner:=by
 have g:∀(ys xs:Z Int) (owner:Array (O Nat)),Ow mask xs owner->xs.length+ys.length<=mask->∃d,ys.foldl (λ(i:O (Array (O Nat)×Nat)) h=>do
   let (owner,k) <-i
   let j <-SetTable.layClean.free mask owner (SetTable.turns mask) (SetTable.bits h%(mask+1)) (SetTable.bits h)
   pure (owner.setIfInBounds j (U k),k+1)) (U (owner,xs.length))=U (d,xs.length+ys.length)/\Ow mask (xs++ys) d:=by
  intro ys
  induction ys with
  |nil=>intro xs owner o _;exact⟨owner,rfl,by rw[ZY];exact o⟩
  |cons y ys f=>
   intro xs owner o b;rw[qc]at b;obtain⟨j,e,o'⟩:=bg l o (by omega) y;obtain⟨a,e2,c⟩:=f (xs++[y]) _ o' (by simp;omega);refine⟨a,?_,by rw[Q4]at c;exact c⟩;rw[QO];simp only[Option.bind_eq_bind,JI,e,pure];rw[show(xs++[y]).length=xs.length+1 by simp]at e2;rw[qc,show xs.length+(ys.length+1)=xs.length+1+ys.length by omega];exact e2
 obtain⟨a,e,o⟩:=g hs [] _ (XE mask) (by simpa using b);refine⟨a,?_,by simpa using o⟩;unfold SetTable.layClean;rw[List.foldl_toArray];exact congrArg (Option.map (·.1)) e
theorem Le{α β:Type}{f:α->O β}{g:α->β}:∀{xs:Z α},(∀x∈xs,f x=U (g x))->xs.filterMap f=xs.map g
 |[],_=>rfl
 |x::xs,h=>by
  rw[k9,h x (zk ..),zw,Le λy a=>h y (zo _ a)]
theorem b6{xs:Z Nat}(h:xs.Pairwise (· < ·)):Tc xs.toArray:=by
 intro i j c b;have a:j<xs.length:=by simpa using b
 rw[gD,gD,List.getElem?_toArray,List.getElem?_toArray,Zs a,Zs (by omega)];exact List.pairwise_iff_getElem.mp h i j (by omega) a c
theorem Xm{es:Array (Int×A0)}{wanted:Nat}(D:SetTable.sizeAbove wanted-1=7\/SetTable.sizeAbove wanted-1=31\/SetTable.sizeAbove wanted-1=127)(K:es.size<=SetTable.sizeAbove wanted-1):
  ∃t' A,t.relaid (es.map (·.1)) wanted=U (t',A)/\(A.filterMap (es[·]?)).toList.Perm es.toList/\Tok t' (A.filterMap (es[·]?))/\t'.led=t.led/\t'.plain=t.plain/\t'.mask=SetTable.sizeAbove wanted-1:=by
 generalize M:SetTable.sizeAbove wanted-1=mask at D K ⊢;have hs:(es.toList.map (·.1)).length=es.size:=by simp
 obtain⟨d,e,o⟩:=dQ D (es.toList.map (·.1)) (by omega);have ea:es.map (·.1)=(es.toList.map (·.1)).toArray:=by
  apply Array.ext';simp
 let L:Z (Nat×Nat):=(List.range (mask+1)).filterMap λj=>(d.getD j Y).map λk=>(j,k)
 have f:∀j k,(j,k)∈L↔d[j]?=U (U k):=λj k=>by
  show(j,k)∈List.filterMap _ _↔_;rw[List.mem_filterMap];constructor
  ·rintro⟨a,l,q⟩;rw[gD]at q;cases h1:d[a]? with
   |none=>rw[h1]at q;cases q
   |some x=>
    rw[h1]at q;cases x with
    |none=>cases q
    |some y=>cases q;exact h1
  ·intro q;refine⟨j,List.mem_range.mpr ?_,?_⟩
   ·by_cases h:j<d.size
    ·rw[<-o.size];exact h
    ·rw[KU (by omega)]at q;cases q
   ·rw[gD,q];rfl
 have F:L.Pairwise λa b=>a.1<b.1:=by
  refine List.pairwise_filterMap.mpr (List.pairwise_lt_range.imp λ{a b} hab x hx y hy=>?_);cases h1:d.getD a Y with
  |none=>rw[h1]at hx;cases hx
  |some u=>
   cases h2:d.getD b Y with
   |none=>rw[h2]at hy;cases hy
   |some v=>rw[h1]at hx;rw[h2]at hy;cases hx;cases hy;exact hab
 have J:(L.map (·.2)).Nodup:=by
  refine List.pairwise_map.mpr (y8 (λ{a b} l hb hab e=>?_) F);have h1:=(f a.1 a.2).mp l;have h2:=(f b.1 b.2).mp hb;rw[e]at h1;have:=o.inj _ _ _ h1 h2;omega
 have w:(L.map (·.2)).Perm (List.range es.size):=Eb J y9 λz=>by
  rw[yo,yz];constructor
  ·rintro⟨a,l,rfl⟩;have:=o.lt _ _ ((f a.1 a.2).mp l);omega
  ·intro N;obtain⟨j,h1,_⟩:=o.all z ((es.toList.map (·.1))[z]'(by omega)) (Zs (by omega));exact⟨(j,z),(f j z).mpr h1,rfl⟩
 let g:Nat->Int×A0:=λk=>es.getD k (0,.none)
 have C:∀k,k<es.size->es[k]?=U (g k):=λk s=>by
  show _=U (es.getD k _);rw[gD,qf s];rfl
 have E:(L.map (·.2)).filterMap (λk=>es[k]?)=(L.map (·.2)).map g:=Le λk s=>C k (List.mem_range.mp (w.mem_iff.mp s));have eL:((L.map (·.2)).toArray.filterMap (λk=>es[k]?)).toList=L.map λp=>g p.2:=by
  rw[Array.toList_filterMap,E,QU];rfl
 refine⟨{ mask:=mask,place:=(L.map (·.1)).toArray,dummies:=#[],finger:=t.finger,led:=t.led,moves:=t.movedTo mask,plain:=t.plain },(L.map (·.2)).toArray,?_,?_,?_,rfl,rfl,rfl⟩
 ·unfold SetTable.relaid SetTable.laid;rw[M,ea,e];rfl
 ·rw[Array.toList_filterMap,E];refine(w.map g).trans ?_;have:(List.range es.size).map g=es.toList:=by
   apply List.ext_getElem?;intro i;rw[ZN];by_cases h:i<es.size
   ·rw[List.getElem?_range h,qV,C i h];rfl
   ·rw[QQ (by simp;omega),QQ (by simp;omega)];rfl
  rw[this]
 ·have sz:L.length=es.size:=by
   have:=w.length_eq;rw[zi,KM]at this;exact this
  refine { mask:=D,dum:=rfl,rise:=b6 (List.pairwise_map.mpr F),bd:=λj B=>?_,full:=?_,size:=?_,reach:=λi j x h1 h2=>?_ }
  ·have B:j∈L.map (·.1):=by simpa using B
   obtain⟨a,l,rfl⟩:=List.mem_map.mp B;have q:=(f a.1 a.2).mp l;have:a.1<d.size:=by
    by_cases h:a.1<d.size
    ·exact h
    ·rw[KU (by omega)]at q;cases q
   have:=o.size;show a.1<=mask;omega
  ·show(L.map (·.1)).toArray.size<=mask;simp only[zI,zi];omega
  ·rw[<-qq (xs:=Array.filterMap _ _),eL];simp
  ·have h1:(L.map (·.1)).toArray[i]?=U j:=h1;rw[List.getElem?_toArray,ZN]at h1;rw[<-qV,eL,ZN]at h2;cases hi:L[i]? with
   |none=>rw[hi]at h1;cases h1
   |some p=>
    rw[hi]at h1 h2;cases h1;cases h2;have hp:(p.1,p.2)∈L:=QA hi;have q:=(f p.1 p.2).mp hp;have s:p.2<es.size:=List.mem_range.mp (w.mem_iff.mp (List.mem_map.mpr ⟨p,hp,rfl⟩));have I:(es.toList.map (·.1))[p.2]?=U (g p.2).1:=by
     rw[ZN,qV,C _ s];rfl
    obtain⟨H,q1,n,a,b,c⟩:=o.all _ _ I;have:H=p.1:=o.inj _ _ _ q1 q;subst this;refine⟨n,a,b,λm G=>?_⟩;obtain⟨k,q2⟩:=(MW o (Tf _ _)).mp (c m G);show _∈(L.map (·.1)).toArray;rw[List.mem_toArray];exact List.mem_map.mpr ⟨(_,k),(f _ _).mpr q2,rfl⟩
end S6
namespace S6
open P1 L2
abbrev bZ(prog:A3)(w:A4)(ks:Z AY):Int:=tupleKeyHash (bF prog w) ks
def TE(prog:A3)(w:A4)(h:A6)(z:Z AY×A1)(e:Int×A0):Prop:=e=(bZ prog w z.1,.ref z.2)/\IsTupleKey (bF prog w) h z.1 z.2
structure FV (prog:Program) (w:World) (h:Heap) (zs:List (List AY×Addr)) (es:Array (Int×Value)) (t:SetTable):Prop where
 rel:Paired (TE prog w h) zs es.toList
 nd:(zs.map (·.1)).Nodup
 tok:Tok t es
 load:es.size*5<t.mask*3
 led:w.params.followText "set-order"=false->t.led=true
 non:0<es.size->t.plain=false
def Tu(prog:A3)(w:A4)(h:A6)(a:A1)(zs:Z (Z AY×A1)):Prop:=∃o es ep t,h.get? a=U o/\o.ExactSet/\o.data=.set es ep t/\FV prog w h zs es t
theorem Vv{h':A6}{b:A1}(x:IsTupleKey (bF prog w) h ks b)(k:∀o,h.get? b=U o->o.cls=.type "tuple" → h'.get? b=U o):IsTupleKey (bF prog w) h' ks b:=
 let ⟨o,AQ,n,e,c,r⟩:=x;⟨o,AQ,n,k o e c,c,r⟩
theorem PL{h':A6}{l:Z (Int×A0)}(k:∀b o,h.get? b=U o->o.cls=.type "tuple" → h'.get? b=U o)(r:AI (TE prog w h) zs l):AI (TE prog w h') zs l:=by
 induction r with
 |nil=>exact .nil
 |cons q _ a=>exact .cons ⟨q.1,Vv q.2 λo e c=>k _ o e c⟩ a
theorem FV.size{es:Array (Int×A0)}(x:FV prog w h zs es t):es.size=zs.length:=by rw[x.rel.length];simp
theorem Tok.fits{t:SetTable}{es:Array (Int×A0)}(h:Tok t es):t.fits es.size=true:=by
 unfold SetTable.fits SetTable.fill;have h1:=h.full;have h2:=h.size;rw[h.dum];simp[h2];omega
theorem Tok.odd{es:Array (Int×A0)}(h:Tok t es):t.gaveWay=false:=by
 unfold SetTable.gaveWay;rcases h.mask with e|e|e<;>rw[e]<;>rfl
theorem JX{d:Nat}{b:A1}{Q:Bool->A2->Prop}(e:IsTupleKey (bF prog w) s.heap ks b)(h:Q false s):A7 (A8 prog w) A (ofAClassStatement (d+1) (.ref b)) Q E s:=by
 have l:=e.typeIs;obtain⟨o,items,n,g,_,i,hi⟩:=e;unfold ofAClassStatement;refine zb (QR l ?_);dsimp only;refine zb (ze ?_);simp only[kQ,zr,ZO];refine zb (wpAny_seqItems g i ?_);dsimp only;refine zb ?_;rw[<-Array.forIn_toList];refine wpAny_forIn_list _ (λAS r s'=>r.1=Y/\s'=s/\∀v∈AS,carriedByValue v=true) _ ?_ ?_ _ _ ⟨rfl,rfl,hi.byValue⟩
 ·rintro v AS r s' ⟨c,rfl,f⟩;have j:ofAClassStatement d v=pure false:=by
   have:=f v zk;cases v with
   |ref a=>simp[carriedByValue]at this
   |_=>unfold ofAClassStatement;rfl
  rw[j];refine zb (ze ?_);simp only[zr,ZO];exact ze ⟨rfl,rfl,λu m=>f u (zo _ m)⟩
 ·rintro⟨q,p⟩ s' ⟨c,rfl,_⟩;simp only at c;subst c;exact ze h
theorem gg{b:A1}{Q:Bool->A2->Prop}(g:IsTupleKey (bF prog w) s.heap ks b)(vs:Z A0)(j:∀v∈vs,∃c a,v=.ref c/\IsTupleKey (bF prog w) s.heap a c)(h:Q false s):A7 (A8 prog w) A (searchCouldBeSeen (.ref b) vs) Q E s:=by
 unfold searchCouldBeSeen;refine zb ?_;refine wpAny_forIn_list _ (λAS r s'=>r.1=Y/\s'=s/\∀v∈AS,∃c a,v=.ref c/\IsTupleKey (bF prog w) s.heap a c) _ ?_ ?_ _ _ ⟨rfl,rfl,j⟩
 ·rintro v AS r s' ⟨d,rfl,i⟩;obtain⟨c,a,rfl,f⟩:=i v zk;have e:∀v∈AS,∃c a,v=.ref c/\IsTupleKey (bF prog w) s'.heap a c:=λu l=>i u (zo _ l);dsimp only;split
  ·exact ze ⟨rfl,rfl,e⟩
  ·refine zb (wpAny_eqIsQuiet_tuple g ?_);simp only[kQ,zr,ZO];refine zb (wpAny_eqIsQuiet_tuple f ?_);simp only[kQ,zr,ZO];refine zb (JX g ?_);simp only[zr,ZO];refine zb (JX f ?_);simp only[zr,ZO];exact ze ⟨rfl,rfl,e⟩
 ·rintro⟨n,m⟩ s' ⟨d,rfl,_⟩;simp only at d;subst d;exact ze h
theorem LK{h:A6}:∀{zs:Z (Z AY×A1)} {l:Z (Int×A0)},AI (TE prog w h) zs l->∀{i:Nat} {e},l[i]?=U e->∃z,zs[i]?=U z/\TE prog w h z e
 |_,_,.nil,i,e,q=>by simp at q
 |_,_,.cons r _,0,e,q=>by simp at q;subst q;exact⟨_,rfl,r⟩
 |_,_,.cons _ t,i+1,e,q=>by
  rw[qr]at q;obtain⟨z,z1,z2⟩:=LK t q;exact⟨z,by rw[qr];exact z1,z2⟩
theorem yR{h:A6}:∀{zs:Z (Z AY×A1)} {l:Z (Int×A0)},AI (TE prog w h) zs l->∀{i:Nat} {z},zs[i]?=U z->∃e,l[i]?=U e/\TE prog w h z e
 |_,_,.nil,i,e,q=>by simp at q
 |_,_,.cons r _,0,e,q=>by simp at q;subst q;exact⟨_,rfl,r⟩
 |_,_,.cons _ t,i+1,e,q=>by
  rw[qr]at q;obtain⟨z,z1,z2⟩:=yR t q;exact⟨z,by rw[qr];exact z1,z2⟩
theorem DO(p:Nat->Prop):∀(k n:Nat),p (n+k)->∃d,d<=k/\p (n+d)/\∀m,n<=m->m<n+d->¬ p m
 |0,n,h=>⟨0,zg _,h,λm h1 h2=>absurd h2 (by omega)⟩
 |k+1,n,h=>by
  by_cases q:p n
  ·exact⟨0,Q1 _,q,λm h1 h2=>absurd h2 (by omega)⟩
  ·obtain⟨d,h1,h2,c⟩:=DO p k (n+1) (by rw[show n+1+k=n+(k+1) by omega];exact h);refine⟨d+1,by omega,by rw[show n+(d+1)=n+1+d by omega];exact h2,λm a b=>?_⟩;by_cases e:m=n
   ·rw[e];exact q
   ·exact c m (by omega) (by omega)
theorem EB{es:Array (Int×A0)}{b:A1}(hu:A.units<cLine)(M:s.heap.get? a=U o)(P:o.data=.set es ep t)(x:FV prog w s.heap zs es t)(X:IsTupleKey (bF prog w) s.heap ks b){N:Nat}(hN:N<10*SetTable.turns t.mask)(g:(gO t.mask (bZ prog w ks) N).j∉t.place)(hp:∀m,m<N->(gO t.mask (bZ prog w ks) m).j∈t.place){Q:SetFound->A2->Prop}(h1:ks∈zs.map (·.1)->Q (.there Y) s)(h2:ks∉zs.map (·.1)->Q (.free (gO t.mask (bZ prog w ks) N).j false) s):
  ∀(k n fuel:Nat) (I:O SetTable.Probe),n+k=N->k<fuel->I.getD (t.probeStart (bZ prog w ks))=gO t.mask (bZ prog w ks) n->(∀m,m<n->∀i:Nat,t.place[i]?=U (gO t.mask (bZ prog w ks) m).j->∀z:Z AY×A1,zs[i]?=U z->z.1≠ks) →
   A7 (A8 prog w) A (setSearchFrom a (.ref b) (bZ prog w ks) true fuel I) Q E s:=by
 have get:∀{i:Nat} {e},es[i]?=U e->∃z,zs[i]?=U z/\TE prog w s.heap z e:=λ{i e} q=>LK x.rel (by rw[qV];exact q);have K:=x.tok.fits;intro k
 induction k using Nat.strongRecOn with
 |ind k ih=>
  intro n fuel I hn a5 a3 hb;cases fuel with
  |zero=>omega
  |succ fuel=>
  unfold setSearchFrom;refine zb (Q3 M P K ?_);dsimp only;rw[zC (by rw[x.tok.odd];decide)];refine zb (ze ?_);rw[a3];obtain⟨d,d1,d2,H⟩:=DO (λm=>m=N\/∃i:Nat,t.place[i]?=U (gO t.mask (bZ prog w ks) m).j/\∃e:Int×A0,es[i]?=U e/\e.1=bZ prog w ks) k n (.inl hn);have live:∀m,m<N->∃i:Nat,t.place[i]?=U (gO t.mask (bZ prog w ks) m).j/\∃e,es[i]?=U e:=λm B=>by
   obtain⟨i,hi,e⟩:=Array.getElem_of_mem (hp m B);have f:i<es.size:=by rw[<-x.tok.size];exact hi
   exact⟨i,by rw[qf hi,e],es[i],qf f⟩
  have pr:=Py x.tok.toTb (λi=>(es[i]?.map (·.1)).getD 0) (bZ prog w ks) d (10*SetTable.turns t.mask) n (by omega) λm a1 a2=>by
   have q:=H m a1 a2;obtain⟨i,e1,e,e2⟩:=live m (by omega);refine⟨i,e1,λq'=>q (.inr ⟨i,e1,e,e2,?_⟩)⟩;simpa[e2]using q'
  have L:t.probe (λi=>(es[i]?.map (·.1)).getD 0) (bZ prog w ks) (gO t.mask (bZ prog w ks) n)=SetTable.probe.go t (λi=>(es[i]?.map (·.1)).getD 0) (bZ prog w ks) (10*SetTable.turns t.mask) (gO t.mask (bZ prog w ks) n):=rfl;by_cases G:n+d=N
  ·have p1:=pr.1 (by rw[G];exact g);rw[G]at p1;show A7 _ _ (match t.probe (λi=>(es[i]?.map (·.1)).getD 0) (bZ prog w ks) (gO t.mask (bZ prog w ks) n)with|some met=>_|_=>_) _ _ _;rw[L,p1];dsimp only;refine ze (h2 λB=>?_);obtain⟨z,hz,D⟩:=List.mem_map.mp B;obtain⟨i,hi,e⟩:=j3 hz;obtain⟨p,e1,e2⟩:=yR x.rel (show zs[i]?=U z by rw[Zs hi,e]);rw[qV]at e1;have f:i<t.place.size:=by rw[x.tok.size,x.size];exact hi
   obtain⟨h,b1,b2,W⟩:=x.tok.reach i _ p (qf f) e1;rw[e2.1,D]at b2 W;have lt:h<N:=by
    rcases Nat.lt_trichotomy h N with q|q|q
    ·exact q
    ·exfalso;rw[<-q]at g;rw[b2]at g;exact g (Array.getElem_mem f)
    ·exact absurd (W N q) g
   by_cases q:h<n
   ·exact hb h q i (by rw[b2];exact qf f) z (by rw[Zs hi,e]) D
   ·exact H h (by omega) (by omega) (.inr ⟨i,by rw[b2];exact qf f,p,e1,by rw[e2.1,D]⟩)
  ·rcases d2 with q|⟨i,i1,e,i2,i3⟩
   ·exact absurd q G
   ·have p2:=pr.2 i i1 (by simpa[i2]using i3);show A7 _ _ (match t.probe (λi=>(es[i]?.map (·.1)).getD 0) (bZ prog w ks) (gO t.mask (bZ prog w ks) n)with|some met=>_|_=>_) _ _ _;rw[L,p2];dsimp only;obtain⟨z,z1,z2⟩:=get i2;have F:∀v∈((es.filter (·.1==bZ prog w ks)).toList.map (·.2)),∃c ls,v=.ref c/\IsTupleKey (bF prog w) s.heap ls c:=λv F=>by
     obtain⟨u,a0,rfl⟩:=List.mem_map.mp F;rw[Array.toList_filter,List.mem_filter]at a0;obtain⟨jj,hj,ej⟩:=j3 a0.1;obtain⟨y,y1,y2⟩:=LK x.rel (show es.toList[jj]?=U u by rw[Zs hj,ej]);exact⟨y.2,y.1,by rw[y2.1],y2.2⟩
    have J:A7 (A8 prog w) A (do
      let U (_,y):=es[i]?|unsupported "internal:set-entry"
      let equal <-holding [y] (eqBool y (.ref b))
      let (es',_,t') <-setState a
      if(true&&equal)=true then return SetFound.there Y
      let U same:=t'.sameMemory t.moves t.mask|unsupported "set.changed-during-lookup:is-the-new-block-at-the-old-address"
      let still <-match (if same then t'.slot (gO t.mask (bZ prog w ks) (n+d)).j else .empty)with
       |.live i'=>match es'[i']? with
        |some (_,y')=>do pure (if <-isSame y' y then U i' else Y)
        |none=>pure Y
       |_=>pure Y
      match still with
      |none=>rule "set.search.anew"; setSearchFrom a (.ref b) (bZ prog w ks) true fuel Y
      |some i'=>if equal then return .there (U i')else setSearchFrom a (.ref b) (bZ prog w ks) true fuel (U (gO t.mask (bZ prog w ks) (n+d+1)))) Q E s:=by
     rw[i2,z2.1];dsimp only;refine zb (qA (wpAny_eqBool_tuple hu z2.2 X ?_));refine zb (Q3 M P K ?_);dsimp only;by_cases l:z.1=ks
     ·rw[ZT l];simp only[Bool.and_self,qS];exact ze (h1 (List.mem_map.mpr ⟨z,QA z1,l⟩))
     ·rw[ZE l];simp only[ky,zr,ZO];have sm:t.sameMemory t.moves t.mask=U true:=by unfold SetTable.sameMemory;simp
      rw[sm];dsimp only;simp only[qS];rw[Aj x.tok.toTb i1];dsimp only;rw[i2,z2.1];dsimp only;refine zb (wpAny_isSame_ref_self (zb (ze ?_)));simp only[qS];refine ih (N-(n+d+1)) (by omega) (n+d+1) fuel _ (by omega) (by omega) S λm B i' C y y1=>?_;by_cases c1:m<n
      ·exact hb m c1 i' C y y1
      ·by_cases c2:m=n+d
       ·subst c2;have:i'=i:=by
         have s1:=Gp x.tok.rise C;have s2:=Gp x.tok.rise i1;omega
        subst this;rw[z1]at y1;cases y1;exact l
       ·have q:=H m (by omega) (by omega);intro e';obtain⟨p,e1,e2⟩:=yR x.rel y1;rw[qV]at e1;exact q (.inr ⟨i',C,p,e1,by rw[e2.1,e']⟩)
    split
    ·refine zb (gg X _ F ?_);simp only[zr,ZO];exact J
    ·exact J
def EK(ks:Z AY):Prop:=∃x:AJ,(Sum.inr x:AY)∈ks
theorem eQ{b:A1}{Q:Bool->A2->Prop}(c:IsTupleKey (bF prog w) s.heap ks b)(hx:EK ks)(h:Q false s):A7 (A8 prog w) A (hashByValue 8 (.ref b)) Q E s:=by
 have g:=c.typeIs;obtain⟨o,items,n,f,_,d,hi⟩:=c;unfold hashByValue;refine zb (wpAny_specialOf g F.slot_tuple_hash.lookup ?_);dsimp only;refine zb (wpAny_seqItems f d ?_);show A7 _ _ (forIn items _ _ >>= _) _ _ s;refine zb ?_;rw[<-Array.forIn_toList];refine wpAny_forIn_list _ (λAS r s'=>r.1=Y/\s'=s/\∃left,ItemsAre (bF prog w) left AS/\EK left) _ ?_ ?_ _ _ ⟨rfl,rfl,ks,hi,hx⟩
 ·rintro v AS r s' ⟨m,rfl,left,a,x,hx⟩;cases a with
  |@cons k _ j _ h1 l=>
   rcases bQ h1 with⟨i,t,rfl,rfl⟩|⟨y,t,rfl,rfl⟩
   ·have e:hashByValue 7 (.int i t)=pure true:=by unfold hashByValue;rfl
    rw[e];refine zb (ze ?_);simp only[kQ,zr,ZO];refine ze ⟨rfl,rfl,j,l,x,?_⟩;rcases List.mem_cons.mp hx with q|q
    ·cases q
    ·exact q
   ·have e:hashByValue 7 (.str y t)=pure false:=by unfold hashByValue;rfl
    rw[e];refine zb (ze ?_);simp only[kX,qS];exact ze (ze h)
 ·rintro⟨u,p⟩ s' ⟨m,rfl,left,a,x,hx⟩;cases a;cases hx
theorem Xn{es:Array (Int×A0)}(h:Tok t es):Tok { t with plain:=false } es:={ mask:=h.mask,dum:=h.dum,rise:=h.rise,bd:=h.bd,full:=h.full,size:=h.size,reach:=h.reach }
theorem bS{b:A1}{Q:Bool->A2->Prop}(hu:A.units<cLine)(hS:Tu prog w s.heap a zs)(hk:IsTupleKey (bF prog w) s.heap ks b)(hx:EK ks)(f1:zs.length+1<=70)(h:∀r h' X,Heap.SameBut a s.heap h'->Tu prog w h' a X->(∀z,z∈X↔z∈zs\/(z=(ks,b)/\ks∉zs.map (·.1)))->X.length<=zs.length+1->Q r { s with heap:=h' }):A7 (A8 prog w) A (setAddHashed a (.ref b) (bZ prog w ks)) Q E s:=by
 obtain⟨o,es,ep,t,y,a0,D,x⟩:=id hS;have f2:=x.size;have a5:=x.tok.fits;have a3:=x.load;have d1:o.cls≠.type "tuple":=by rw[a0.1];decide
 obtain⟨N,n,n2,n3⟩:=Te x.tok.toTb (bZ prog w ks);have f0:10*SetTable.turns t.mask<100000:=by
  unfold SetTable.turns;rcases x.tok.mask with e|e|e<;>rw[e]<;>decide
 unfold setAddHashed setAddHashedIn;refine qA (zb (Q3 y D a5 ?_));dsimp only;have hb:byScan (.ref b) es=false:=by unfold byScan;rfl
 rw[hb];simp only[zr,ZO];unfold setSearch;refine zb (EB hu y D x hk n n2 n3 (λf=>?_) (λf=>?_) N 0 100000 Y (by omega) (by omega) S λm f=>absurd f (kL _))
 ·dsimp only;exact ze (h _ s.heap zs (Heap.SameBut.refl a s.heap) hS (λz=>⟨.inl,λq=>q.elim id λq=>absurd f q.2⟩) (JO _))
 ·dsimp only;refine zb (Q3 y D a5 ?_);dsimp only;have hj:=Tf (mask:=t.mask) (bZ prog w ks) N;have e0:es.size+1<=t.mask:=by rcases x.tok.mask with e|e|e<;>rw[e]at a3 ⊢<;>omega
  obtain⟨pt,pl,pp,M⟩:=g0 (x:=.ref b) x.tok n n2 n3 hj e0;generalize hP:t.put (gO t.mask (bZ prog w ks) N).j=P at pt pl pp M ⊢;obtain⟨t1,p⟩:=P;dsimp only at pt pl pp M ⊢;have d2:(SetTable.insertAt es p (bZ prog w ks,.ref b)).toList.Perm (es.toList++[(bZ prog w ks,.ref b)]):=by
   rw[yQ];refine(List.perm_middle).trans ?_;rw[List.take_append_drop];exact(List.perm_append_singleton _ _).symm
  have r0:AI (TE prog w s.heap) (zs++[(ks,b)]) (es.toList++[(bZ prog w ks,.ref b)]):=S8 x.rel (.cons ⟨rfl,hk⟩ .nil);obtain⟨G,q1,r1⟩:=Bw d2 r0;have a2:(G.map (·.1)).Nodup:=(q1.map (·.1)).nodup_iff.mpr (by
   rw[qB];exact List.nodup_append.mpr ⟨x.nd,by simp,λu e5 v hv=>by simp at hv;subst hv;exact λe=>f (e▸e5)⟩)
  have m1:∀z,z∈G↔z∈zs\/(z=(ks,b)/\ks∉zs.map (·.1)):=λz=>by
   rw[q1.mem_iff,yi,List.mem_singleton];exact⟨λq=>q.imp id λe=>⟨e,f⟩,λq=>q.imp id λe=>e.1⟩
  have l1:G.length=zs.length+1:=by rw[q1.length_eq];simp
  have B:(SetTable.insertAt es p (bZ prog w ks,Value.ref b)).size=es.size+1:=u6 _ _ _;have up:∀(hp:A6) (F:AE) (e1 e2:Array (Int×A0)) (n:Nat) (u1 l:SetTable),hp.get? a=U F->F.data=.set e1 n u1->(hp.update a (Obj.putSet e2 l)).get? a=U { F with data:=.set e2 (n+1) l }:=λhp F e1 e2 n u1 l g q=>by
   have:=QE (Obj.putSet e2 l) g (by rw[putSet_of e2 l q];rfl);rw[putSet_of e2 l q]at this;exact this
  have kp:∀{h':A6},Heap.SameBut a s.heap h'->∀c J,s.heap.get? c=U J->J.cls=.type "tuple" → h'.get? c=U J:=λsb c J e ec=>by
   rw[sb.2 c λq=>by subst q;rw[y]at e;cases e;exact d1 ec];exact e
  have b0:∀t2:SetTable,Tok t2 (SetTable.insertAt es p (bZ prog w ks,.ref b))->t2.led=t1.led->t2.plain=false->t2.mask=t1.mask->A7 (A8 prog w) A (do
    storeSet a (SetTable.insertAt es p (bZ prog w ks,.ref b)) t2
    if(!false&&t2.tooFull)=true then setRelay a (SetTable.grown (es.size+1))
    pure true) Q E s:=by
   intro t2 H l2 p2 m2;have g1:=up s.heap o es (SetTable.insertAt es p (bZ prog w ks,.ref b)) ep t t2 y D;refine zb (wpAny_storeSet_of y D ?_ (fits_of_scanBound (by rw[B];have:scanBound=4096:=rfl;omega)));have L:Heap.SameBut a s.heap (s.heap.update a (Obj.putSet (SetTable.insertAt es p (bZ prog w ks,.ref b)) t2)):=Heap.SameBut.update ..;have b3:t2.fill=es.size+1:=by unfold SetTable.fill;rw[H.dum,H.size,B];rfl
   have c8:w.params.followText "set-order"=false->t2.led=true:=λq=>l2.trans (pl.trans (x.led q));by_cases d:t2.tooFull=true
   ·rw[d];simp only[kX,Bool.and_self,qS];have hf:t2.fill*5>=t2.mask*3:=by unfold SetTable.tooFull at d;simpa using d
    rw[b3,m2,M]at hf;have hg:SetTable.grown (es.size+1)=(es.size+1)*4:=by unfold SetTable.grown;rw[zC (by omega)]
    have c0:(es.size=4/\t.mask=7)\/(es.size=18/\t.mask=31):=by
     rcases x.tok.mask with e|e|e<;>rw[e]at hf a3
     ·exact .inl ⟨by omega,e⟩
     ·exact .inr ⟨by omega,e⟩
     ·omega
    have I:(es.size=4->SetTable.sizeAbove (SetTable.grown (es.size+1))=32)/\(es.size=18->SetTable.sizeAbove (SetTable.grown (es.size+1))=128):=by
     rw[hg];exact⟨λe=>by rw[e];decide,λe=>by rw[e];decide⟩
    have K:SetTable.sizeAbove (SetTable.grown (es.size+1))-1=31/\es.size=4\/SetTable.sizeAbove (SetTable.grown (es.size+1))-1=127/\es.size=18:=by
     rcases c0 with⟨e,_⟩|⟨e,_⟩
     ·exact .inl ⟨by rw[I.1 e],e⟩
     ·exact .inr ⟨by rw[I.2 e],e⟩
    obtain⟨t3,C,e3,d0,k3,l3,p3,m3⟩:=Xm (t:=t2) (es:=SetTable.insertAt es p (bZ prog w ks,.ref b)) (wanted:=SetTable.grown (es.size+1)) (by rcases K with⟨e,_⟩|⟨e,_⟩<;>rw[e]<;>simp) (by rw[B];rcases K with⟨e,e'⟩|⟨e,e'⟩<;>rw[e,e']<;>decide);unfold setRelay;refine zb (zb (Q3 g1 S H.fits ?_));dsimp only;have e4:¬ (SetTable.sizeAbove (SetTable.grown (es.size+1))>AA):=by
     rcases c0 with⟨e,_⟩|⟨e,_⟩
     ·rw[I.1 e];decide
     ·rw[I.2 e];decide
    rw[zC e4];have W:(C.filterMap (λi=>(SetTable.insertAt es p (bZ prog w ks,Value.ref b))[i]?)).size=(SetTable.insertAt es p (bZ prog w ks,Value.ref b)).size:=by
     rw[<-qq,d0.length_eq,qq]
    rw[e3];refine zb ?_;show A7 _ _ (if((C.filterMap (λi=>(SetTable.insertAt es p (bZ prog w ks,Value.ref b))[i]?)).size !=(SetTable.insertAt es p (bZ prog w ks,Value.ref b)).size)=true then _ else pure (C.filterMap (λi=>(SetTable.insertAt es p (bZ prog w ks,Value.ref b))[i]?),t3)) _ _ _;rw[zC (by rw[W];simp)];refine ze ?_;dsimp only;refine wpAny_storeSet_of g1 S ?_ (fits_of_scanBound (by rw[W,B];have:scanBound=4096:=rfl;omega));have g2:=up _ _ (SetTable.insertAt es p (bZ prog w ks,.ref b)) (C.filterMap (λi=>(SetTable.insertAt es p (bZ prog w ks,Value.ref b))[i]?)) _ t2 t3 g1 rfl;have a1:Heap.SameBut a s.heap ((s.heap.update a (Obj.putSet (SetTable.insertAt es p (bZ prog w ks,.ref b)) t2)).update a (Obj.putSet (C.filterMap (λi=>(SetTable.insertAt es p (bZ prog w ks,Value.ref b))[i]?)) t3)):=L.trans (Heap.SameBut.update ..);obtain⟨d3,q2,r2⟩:=Bw d0 r1;refine ze (h _ _ d3 a1 ⟨_,_,_,t3,g2,a0,rfl,⟨PL (kp a1) r2,(q2.map (·.1)).nodup_iff.mpr a2,k3,?_,λq=>l3.trans (c8 q),λ_=>p3.trans p2⟩⟩ (λz=>by rw[q2.mem_iff];exact m1 z) (by rw[q2.length_eq];omega));rw[W,B,m3];rcases K with⟨e,e'⟩|⟨e,e'⟩<;>rw[e,e']<;>decide
   ·have d:t2.tooFull=false:=by simpa using d
    rw[d];simp only[ky,zr,ZO];refine zb (ze ?_);refine ze (h _ _ G L ⟨_,_,_,t2,g1,a0,rfl,⟨PL (kp L) r1,a2,H,?_,c8,λ_=>p2⟩⟩ m1 (by omega));unfold SetTable.tooFull at d;rw[b3]at d;rw[B];simpa using d
  split
  ·refine zb (eQ hk hx ?_);simp only[zr,ZO];exact b0 { t1 with plain:=false } (Xn pt) S S rfl
  ·rename_i hp;refine zb (ze ?_);simp only[qS];exact b0 t1 pt S (by simpa using hp) rfl
end S6
namespace S1
open L2
theorem Ti{x:A0}(G:Z A0->Prop)(kd:SortKind)(rk:Z A0->A0->Nat){Q:B9}(v:∀(g:B9) (j:Z A0->A2->Prop),(∀vs h' d tk,G vs->s.heap.objs.size<=h'.objs.size->(∀c o,s.heap.get? c=U o->h'.get? c=U o)->j vs { s with heap:=h',drawn:=d,toks:=tk })->A7 (A8 prog w) A.in1 (collect x) j g s)
  (y:∀vs,G vs->2<=vs.length->∀(g:B9) (f:A5) (s':A2),(∀c o,s.heap.get? c=U o->s'.heap.get? c=U o)->∀Q:SortKind->A2->Prop,Q kd s'->A7 (A8 prog w) f (keyKind' vs.toArray) Q g s') (p:∀vs,G vs->∀(f:A5) (s':A2),(∀c o,s.heap.get? c=U o->s'.heap.get? c=U o)->Yu prog w f s' kd (rk vs) (pairsOf vs)) (i:∀vs,G vs->vs.length<64)
  (h:∀vs,G vs->∀(l:A1) (h':A6) (d:Drawn) (tk n:Nat) (st:SortSt),(AM st).Perm (pairsOf vs)->Up (rk vs) (AM st) (pairsOf vs).size->s.heap.objs.size<=l->(∀c o,s.heap.get? c=U o->h'.get? c=U o)->h'.get? l=U (seqObj "list" ((AM st).map (·.2)) n)->Q (.ref l) { s with heap:=h',drawn:=d,toks:=tk }):
  A7 (A8 prog w) A (call (.builtin "sorted") [x]) Q E s:=by
 refine Calls.call_function_entry kind_sorted plain_sorted entry_sorted (args_sorted1 _) ?_;unfold Builtin.«sorted»;refine zb (m:=checkCount "sorted" 1 1 _) (ze (zb (v _ _ λvs h1 d tk a t ext=>?_)));have z:=i vs a;refine zb (wpAny_newList ?_);have b:(h1.push (seqObj "list" vs.toArray 0)).get? h1.objs.size=U (seqObj "list" vs.toArray 0):=zv _ rfl;have old:∀s':A2,F8 h1.objs.size { s with heap:=h1.push (seqObj "list" vs.toArray 0),drawn:=d,toks:=tk } s'->∀c o,s.heap.get? c=U o->s'.heap.get? c=U o:=λs' q c o e=>
  q c o (Zl (zt (ext c o e))) (zd _ (ext c o e))
 refine zb (qA (kf slot_list_sort ⟨_,b,rfl⟩ entry_list_sort (Lc b (λq s' o=>y vs a q _ _ s' (old s' o)) (λs' o=>p vs a _ s' (old s' o)) (i vs a) λst q1 q2=>⟨_,rfl,ze ⟨_,rfl,?_⟩⟩) (args_list_sort _)));obtain⟨n,u⟩:=sortedHeap_at (out:=(AM st).map (·.2)) b;refine h vs a h1.objs.size _ d tk n st q1 q2 t (λc o e=>?_) u;have hb:=zt (ext c o e);rw[sortedHeap_old (Zl hb) (by rw[qv];exact Qb hb)];exact zd _ (ext c o e)
end S1
namespace P1
open L2 S6
section
theorem Xo{d:Drawn}(I:AU X AN σ H s):AU X AN σ H { s with drawn:=d }:=⟨I.ok,I.os,I.bare,I.base,I.loc,I.cell,I.free,I.jy,I.pin,I.hok,I.len⟩
variable{fs:Ev->O AZ}{p:Pos}
end
section
variable{xs ts:AZ}
end
section
variable{xs:AZ}
variable{fs:Ev->O AZ}{p':Pos}
end
end P1
namespace P1
open L2 S1 S6
def Ts(prog:A3)(w:A4)(h:A6)(a:A1)(zs:Z (Z AY×A1)):Prop:=∃o es ep t,h.get? a=U o/\o.ExactSet/\o.data=.set es ep t/\es.toList=zs.map (λz=>(bZ prog w z.1,(.ref z.2:A0)))/\t.fits es.size=true/\(w.params.followText "set-order"=false->t.led=true)/\(0<es.size->t.plain=false)
theorem PN{prog:A3}{w:A4}{h:A6}:∀{zs:Z (Z AY×A1)} {l:Z (Int×A0)},AI (TE prog w h) zs l->l=zs.map (λz=>(bZ prog w z.1,(.ref z.2:A0)))
 |_,_,.nil=>rfl
 |_,_,.cons r t=>by rw[zw,<-PN t,r.1]
theorem Ts.of(x:Tu prog w h a zs):Ts prog w h a zs:=
 let ⟨o,es,ep,t,e,r,d,q⟩:=x;⟨o,es,ep,t,e,r,d,PN q.rel,q.tok.fits,q.led,q.non⟩
theorem Ts.keep{h':A6}(x:Ts prog w h a zs)(k:∀o,h.get? a=U o->h'.get? a=U o):Ts prog w h' a zs:=
 let ⟨o,es,ep,t,e,r⟩:=x;⟨o,es,ep,t,k o e,r⟩
def FH(X:Cx)(a:A1)(zs:Z (Z AY×A1)):HO:=.ext λh=>Ts X.prog X.w h a zs
theorem dL(X:Cx)(h:Ks ks us):ItemsAre (bF X.prog X.w) ks us:=by
 induction h with
 |nil=>exact .nil
 |cons r _ a=>exact .cons r a
theorem Pt(X:Cx)(h:ItemsAre (bF X.prog X.w) ks us):Ks ks us:=by
 induction h with
 |nil=>exact .nil
 |cons r _ a=>exact .cons r a
theorem PX(X:Cx){v:A0}(q:jz h ks v):∃b,v=.ref b/\IsTupleKey (bF X.prog X.w) h ks b:=by
 obtain⟨a,o,AQ,n,e,g,c,d,p⟩:=q;exact⟨a,e,o,AQ.toArray,n,g,c,d,by simpa using dL X p⟩
theorem So(X:Cx){b:A1}(q:IsTupleKey (bF X.prog X.w) h ks b):jz h ks (.ref b):=by
 obtain⟨o,AQ,n,g,c,d,p⟩:=q;exact⟨b,o,AQ.toList,n,rfl,g,c,by simpa using d,Pt X p⟩
def cq(X:Cx):Z V->Hp->VK->Prop:=λxs H Q=>∃v b ds cL,xs=[v]/\bh X.K H b v/\wK b=U ds/\rY ds=U cL/\cL.length<=64/\(∀k∈cL,EK k) ∧
 ∀a zs H',AV H H'->H' a=U (FH X a zs)->(∀k,k∈zs.map (·.1)↔k∈cL)->(zs.map (·.1)).Nodup->(∀z∈zs,AW X.K H' (BF z.1) (.ref z.2))->Q (.ref a) H'
def CU(X:Cx)(S:A1)(AQ:Z A0)(h:A6)(ys:Z (Z AY)):Prop:=∃zs,zs.map (·.1)=ys/\Tu X.prog X.w h S zs/\∀z∈zs,(.ref z.2:A0)∈AQ
theorem yU{h:A6}:∀{cL:Z (Z AY)} {vs:Z A0},AI (jz h) cL vs->∀{i:Nat} {v:A0},vs[i]?=U v->∃k,cL[i]?=U k/\jz h k v
 |_,_,.nil,i,v,q=>by simp at q
 |_,_,.cons r _,0,v,q=>by simp at q;subst q;exact⟨_,rfl,r⟩
 |_,_,.cons _ t,i+1,v,q=>by
  rw[qr]at q;obtain⟨z,z1,z2⟩:=yU t q;exact⟨z,by rw[qr];exact z1,z2⟩
theorem Qa{h0:A6}{S:A1}(hs:AI (jz h0) cL AQ)(hl:cL.length<=64)(hx:∀k∈cL,EK k)(B:h0.objs.size=S):E8 X.prog X.w S [S+1] (λh zs=>(∀b o,h0.get? b=U o->h.get? b=U o)/\CU X S AQ h zs) (λi v=>AQ.toArray[i]?=U v) (λi=>cL.getD i []) AQ.length where
 keep:=λh h' ys t k=>by
  obtain⟨j,zs,e,t,m⟩:=t;have u:∀b o,(b=S\/b<S)->h.get? b=U o->h'.get? b=U o:=λb o hb e=>k b o (by
   simp only[Q2,js,or_false];rcases hb with rfl|hb
   ·exact Zl (qk _)
   ·exact Zl (Qb hb)) e
  have old:∀b o,h0.get? b=U o->h'.get? b=U o:=λb o e=>u b o (.inr (by rw[<-B];exact zt e)) (j b o e);refine⟨old,zs,e,?_,m⟩;obtain⟨o,es,ep,L,g,r,d,q⟩:=t;refine⟨o,es,ep,L,u S o (.inl rfl) g,r,d,⟨?_,q.nd,q.tok,q.load,q.led,q.non⟩⟩;have W:∀{zs:Z (Z AY×A1)} {l:Z (Int×A0)},AI (TE X.prog X.w h) zs l->(∀z∈zs,(.ref z.2:A0)∈AQ)->AI (TE X.prog X.w h') zs l:=by
   intro zs l r
   induction r with
   |nil=>intro _;exact .nil
   |cons q _ P=>
    intro m;refine .cons ⟨q.1,Vv q.2 λo e c=>?_⟩ (P λz n=>m z (zo _ n));obtain⟨i,hi,N⟩:=j3 (m _ (zk ..));obtain⟨kk,_,tv⟩:=yU hs (show AQ[i]?=U _ by rw[Zs hi,N]);obtain⟨b,eb,⟨ob,_,_,gb,_⟩⟩:=PX X tv;cases eb;exact u _ o (.inr (by rw[<-B];exact zt gb)) e
  exact W q.rel m
 add:=λA E s i v ys Q G hi p H n h=>by
  obtain⟨j,zs,e,t,m⟩:=H;have p:AQ[i]?=U v:=by simpa using p
  obtain⟨ks,e1,tv⟩:=yU hs p;have K:=tv.keep j;obtain⟨b,rfl,F⟩:=PX X K;have J:cL.getD i []=ks:=by simp[List.getD,e1]
  have a1:AQ.length=cL.length:=hs.length.symm;have a0:zs.length=ys.length:=by rw[<-e,zi]
  unfold setAdd;refine qA (zb (wpAny_pyHash_tuple G F ?_));refine bS (s:={ s with toks:=s.toks+(ks.length+1) }) G t F (hx ks (QA e1)) (by omega) λr h' D C M f l=>?_;refine h r h' _ (D.map (·.1)) C ⟨λc o g=>?_,D,rfl,M,λz n=>?_⟩ (λz=>?_) (by rw[zi];omega) (Nat.le_add_right _ _)
  ·rw[C.2 c λq=>by subst q;have:=zt g;rw[B]at this;exact kc _ this];exact j c o g
  ·rcases(f z).mp n with q|⟨q,_⟩
   ·exact m z q
   ·subst q;exact QA p
  ·rw[J,<-e,yo,yo];constructor
   ·rintro⟨y,a,rfl⟩;rcases(f y).mp a with q|⟨q,_⟩
    ·exact .inl ⟨y,q,rfl⟩
    ·exact .inr (congrArg Prod.fst q)
   ·rintro(⟨y,a,x⟩|I)
    ·exact⟨y,(f y).mpr (.inl a),x⟩
    ·rw[I];by_cases q:ks∈zs.map (·.1)
     ·obtain⟨y,a,x⟩:=List.mem_map.mp q;exact⟨y,(f y).mpr (.inl a),x⟩
     ·exact⟨(ks,b),(f _).mpr (.inr ⟨rfl,q⟩),rfl⟩
theorem RI(hc:X.calm=true)(hu:X.A.units+100<cLine):fK X (.type "set") (cq X):=by
 intro AN s σ H xs us Q I r h;obtain⟨v,b,ds,cL,rfl,rb,ed,ek,hl,hx,q⟩:=h;obtain⟨u,rfl,ru⟩:=BC r;obtain⟨p,vs,rfl,sq,D⟩:=Lq rb ed;have c0:=Ag ek;subst c0;cases ru;have hh:=I.ok.hd hc;have a3:∀(h':A6) (tk:Nat) (ys:Z (Z AY)) (AQ:Z A0),AX vs AQ->((∀b o,s.heap.get? b=U o->h'.get? b=U o)/\CU X s.heap.objs.size AQ h' ys)->(∀z,z∈ys↔∃j,j<AQ.length/\z=cL.getD j [])->(∀b F,s.heap.get? b=U F->h'.get? b=U F)->EP X AN σ Q (.ref s.heap.objs.size) { s with heap:=h',toks:=tk }:=by
  intro h' tk ys AQ J cu E k;obtain⟨_,zs,e,t,m⟩:=cu;have b0:=I.hok.fresh (zg s.heap.objs.size);have a5:AQ.length=cL.length:=by rw[<-J.length,D.length,zi]
  have tv:=pK I D J;refine⟨.ref s.heap.objs.size,_,I.laid (t':=tk) (a:=s.heap.objs.size) (o:=FH X s.heap.objs.size zs) k (zg _) ?_,rfl,q _ zs _ (bI b0) aU (λz=>?_) ?_ λz l=>?_⟩
  ·obtain⟨o,es,ep,t',N,_⟩:=id t;exact⟨Ts.of t,⟨o,N⟩,λh1 h2 t1 k1=>Ts.keep t1 k1⟩
  ·rw[e,E z];constructor
   ·rintro⟨j,f,rfl⟩;rw[a5]at f;simp[List.getD,f]
   ·intro l;obtain⟨j,f,e⟩:=j3 l;exact⟨j,by rw[a5];exact f,by simp[List.getD,f,e]⟩
  ·obtain⟨o,es,ep,t',N,_,_,x⟩:=t;exact x.nd
  ·obtain⟨o,es,ep,t',N,_,_,x⟩:=t;obtain⟨i,hi,ei⟩:=j3 l;obtain⟨ee,_,te⟩:=yR x.rel (show zs[i]?=U z by rw[Zs hi,ei]);have tz:=So X te.2;have b3:=m z l;obtain⟨j,f,ej⟩:=j3 b3;obtain⟨kk,_,a2⟩:=yU tv (show AQ[j]?=U (.ref z.2) by rw[Zs f,ej]);have ek:kk=z.1:=(a2.keep k).inj tz;obtain⟨w1,K,r2⟩:=Ah I D J (Yv:=[kk]) (out:=[.ref z.2]) (.cons a2 .nil) (λu hu=>by cases List.mem_singleton.mp hu;exact b3);cases K with
   |@cons w0 _ _ _ r0 K=>
    cases K;simp only[zw,kC,aK]at r2;obtain⟨v0,B,ev,M,_⟩:=r2;simp only[kP]at ev;rw[<-ev.1]at M;have hw:w0=V.ref z.2:=by
     have q1:=M;simp only[BF,AW]at q1;obtain⟨a0,ws,e0,_⟩:=q1;subst e0;cases r0;rfl
    rw[<-ek,<-hw];exact M.kp (.of (bI b0))
 have a1:∀h':A6,h'.get? s.heap.objs.size=U (BO X.w)->∀AQ:Z A0,CU X s.heap.objs.size AQ h' []:=λh' e AQ=>
  ⟨[],rfl,⟨_,#[],0,_,e,⟨rfl,rfl,rfl⟩,rfl,⟨.nil,j0,{ mask:=.inl rfl,dum:=rfl,rise:=λi j _ f=>absurd f (kL _),bd:=λj f=>by simp[SetTable.fresh]at f,full:=Q1 _,size:=rfl,reach:=λi j e h1=>by simp[SetTable.fresh]at h1 },(show 0*5<7*3 by decide),λq=>by simp[SetTable.fresh,q],λq=>absurd q (kc _)⟩⟩,λz l=>by cases l⟩
 rcases sq with sq|sq
 ·obtain⟨AQ,B,pl,l⟩:=I.list sq;obtain⟨o,g,c,n,d⟩:=pl.isList;refine Z9 (by omega) (T :="list") hh g c (.inl S) (P:=λi v=>AQ.toArray[i]?=U v) (n:=AQ.length) (λW E' Q' h0 C y G=>?_) (Qa (pK I D B) hl hx S) (λh' e k=>⟨k,a1 h' e AQ⟩) λh' tk zs tx E k=>a3 h' tk zs AQ B tx E k;refine yY (items:=AQ.toArray) ⟨o,y _ _ g,c,n,d⟩ ?_;have L:p≠h0.objs.size:=Zl (zt (y _ _ g));refine G _ (λi h=>h.IsListIter h0.objs.size p i/\h.IsList p AQ.toArray) (λW C=>by have:=Walks.list (prog:=X.prog) (w:=X.w) C h0.objs.size p L AQ.toArray;rw[zI]at this;exact this) ⟨⟨_,zv _ rfl,rfl,rfl⟩,⟨o,zd _ (y _ _ g),c,n,d⟩⟩ λb F e=>zd _ e
 ·obtain⟨AQ,B,pl,l⟩:=I.tuple sq;obtain⟨o,g,c,n,d⟩:=id pl;refine Z9 (by omega) (T :="tuple") hh g c (.inr S) (P:=λi v=>AQ.toArray[i]?=U v) (n:=AQ.length) (λW E' Q' h0 C y G=>?_) (Qa (pK I D B) hl hx S) (λh' e k=>⟨k,a1 h' e AQ⟩) λh' tk zs tx E k=>a3 h' tk zs AQ B tx E k;refine wpAny_pyIter_tuple (items:=AQ.toArray) ⟨o,y _ _ g,c,n,d⟩ ?_;have L:p≠h0.objs.size:=Zl (zt (y _ _ g));refine G _ (λi h=>h.IsTupleIter h0.objs.size p i/\h.IsTuple p AQ.toArray) (λW C=>by have:=Walks.tuple (prog:=X.prog) (w:=X.w) C h0.objs.size p L AQ.toArray;rw[zI]at this;exact this) ⟨⟨_,zv _ rfl,rfl,rfl⟩,⟨o,zd _ (y _ _ g),c,n,d⟩⟩ λb F e=>zd _ e
theorem SZ(I:AU X AN σ H s)(h:H a=U (FH X a zs)):Ts X.prog X.w s.heap a zs:=(I.hok _ _ h).1
def VA(X:Cx):Z V->Hp->VK->Prop:=λxs H Q=>∃a zs,xs=[.ref a]/\H a=U (FH X a zs)/\CQ (zs.map (·.1))=true/\(∀z∈zs,AW X.K H (BF z.1) (.ref z.2))/\∀l H' us,AV H H'->H l=Y->H' l=U (.lst us)->aK X.K H' ((jZ (zs.map (·.1))).map BF) us->Q (.ref l) H'
theorem VT(hc:X.calm=true):fK X (.builtin "sorted") (VA X):=by
 intro AN s σ H xs us Q I r h;obtain⟨a,zs,rfl,ha,hs,A,q⟩:=h;obtain⟨u,rfl,ru⟩:=BC r;cases ru;simp only[CQ,Zz,qi,qo,Qr]at hs;obtain⟨L,W,G⟩:=hs;rw[zi]at L;obtain⟨o,es,ep,t,ho,d0,hd,F,ft,d2,a0⟩:=SZ I ha;have f:es.size=zs.length:=by rw[<-qq,F,zi]
 have wk:Wk X.w s.heap a es ep t:=⟨⟨o,ho,d0.1,hd⟩,ft,d2,λq=>a0 (by omega)⟩;have a1:aK X.K H ((zs.map (·.1)).map BF) (zs.map λz=>(V.ref z.2))/\AX (zs.map λz=>(V.ref z.2)) (zs.map λz=>(.ref z.2:A0)):=by
  clear F ha q L W G f wk a0
  induction zs with
  |nil=>exact⟨aK.nil,.nil⟩
  |cons z zs x=>
   obtain⟨i1,i2⟩:=x λy hy=>A y (zo _ hy);exact⟨aK.cons (A z (zk ..)) i1,.cons S i2⟩
 have d1:=pK I a1.1 a1.2;have tz:∀z∈zs,jz s.heap z.1 (.ref z.2):=λz j=>by
  have:=pK I (cL:=[z.1]) (vs:=[V.ref z.2]) (AQ:=[.ref z.2]) (aK.cons (A z j) aK.nil) (.cons S .nil);cases this with
  |cons q' _=>exact q'
 refine Ti (λvs=>∃ys:Z (Z AY×A1),ys.Perm zs/\vs=ys.map λz=>(.ref z.2:A0)) (tuples' true) (λvs v=>CM (vs.map λu=>BE (zs.map (·.1)) (zs.map λz=>(.ref z.2:A0)) u) (BE (vs.map λu=>BE (zs.map (·.1)) (zs.map λz=>(.ref z.2:A0)) u) vs v))
  (λE' Q' E=>Px (by exact I.ok.hd hc) wk (by rw[f,sizeLine_eq];omega) λp h1 d tk hp a5 ext=>E p h1 d tk ?_ a5 ext) ?_ ?_ ?_ ?_
 ·rw[F,QU]at hp;have:∀{p vs:Z A0},p.Perm vs->∀zs:Z (Z AY×A1),vs=zs.map (λz=>(.ref z.2:A0))->∃ys:Z (Z AY×A1),ys.Perm zs/\p=ys.map λz=>(.ref z.2:A0):=by
   intro p vs hp
   induction hp with
   |nil=>intro zs e;cases zs with|nil=>exact⟨[],.refl _,rfl⟩|cons _ _=>cases e
   |cons y _ x=>
    intro zs e;cases zs with
    |nil=>cases e
    |cons z zs=>
     rw[zw]at e;injection e with e1 e2;obtain⟨ys,p1,p2⟩:=x zs e2;exact⟨z::ys,p1.cons _,by rw[zw,e1,p2]⟩
   |swap y1 y2 l=>
    intro zs e
    match zs,e with
    |z1::z2::zs,e=>
     simp only[zw,kP]at e;exact⟨z2::z1::zs,List.Perm.swap _ _ _,by simp only[zw];rw[e.1,e.2.1,e.2.2]⟩
    |[_],e=>simp at e
    |[],e=>cases e
   |trans _ _ c0 c8=>
    intro zs e;obtain⟨ys,p1,p2⟩:=c8 zs e;obtain⟨us,q1,q2⟩:=c0 ys p2;exact⟨us,q1.trans p1,q2⟩
  exact this hp zs rfl
 all_goals
  intro vs hG;obtain⟨ys,py,rfl⟩:=hG;have hm:∀v∈(ys.map λz=>(.ref z.2:A0)),v∈(zs.map λz=>(.ref z.2:A0)):=λv D=>((py.map _).mem_iff).mp D;have P:∀v∈(ys.map λz=>(.ref z.2:A0)),jz s.heap (BE (zs.map (·.1)) (zs.map λz=>(.ref z.2:A0)) v) v:=λv D=>(lD d1 v (hm v D)).2;have tv:=xT P;have a2:(ys.map λz=>(.ref z.2:A0)).map (λu=>BE (zs.map (·.1)) (zs.map λz=>(.ref z.2:A0)) u)=ys.map (·.1):=by
   rw[QU];refine JY λz f=>?_;have j:=py.mem_iff.mp f;exact(P (.ref z.2) (List.mem_map.mpr ⟨z,f,rfl⟩)).inj (tz z j)
  have mk:∀k∈(ys.map λz=>(.ref z.2:A0)).map (λu=>BE (zs.map (·.1)) (zs.map λz=>(.ref z.2:A0)) u),k∈zs.map (·.1):=λk c=>by
   rw[a2]at c;exact((py.map _).mem_iff).mp c
 ·intro h2 E' A' s' k Q' E;exact JQ (Paired.imp' (λ_ _ z=>jz.keep z k) tv) (λk c=>by have:=W k (mk k c);cases k with|nil=>cases this|cons _ _=>exact List.cons_ne_nil _ _) (λk c l m=>Gj (G k (mk k c) l (mk l m))) (by omega) E
 ·intro A' s' k;exact Pg (Paired.imp' (λ_ _ z=>jz.keep z k) tv) λk c l m=>Gj (G k (mk k c) l (mk l m))
 ·rw[zi,py.length_eq];exact L
 ·intro l h' d tk n st hp up m ext hL;have i:=Ph tv hp up;have mem:∀u∈((AM st).map (·.2)).toList,u∈(ys.map λz=>(.ref z.2:A0)):=λu B=>by
   rw[Array.toList_map]at B;obtain⟨pr,a3,rfl⟩:=List.mem_map.mp B;have b3:pr∈(ys.map λz=>(.ref z.2:A0)).zip (ys.map λz=>(.ref z.2:A0)):=by rw[<-pairsOf_toList];exact(Array.perm_iff_toList_perm.mp hp).mem_iff.mp a3
   have:=mem_zip_self b3;rw[<-this.1];exact this.2
  have J:H l=Y:=I.hok.fresh m;have back:∀{M:Z (Z AY)} {i:Z A0},AI (jz s.heap) M i->(∀u∈i,u∈(ys.map λz=>(.ref z.2:A0)))->∃b,AX b i/\aK X.K H (M.map BF) b:=by
   intro M i pr
   induction pr with
   |nil=>intro _;exact⟨[],.nil,aK.nil⟩
   |cons q0 _ x=>
    intro N;obtain⟨b,C,g⟩:=x λu B=>N u (zo _ B);obtain⟨z,f,ez⟩:=List.mem_map.mp (N _ (zk ..));subst ez;have j:=py.mem_iff.mp f;have ek:=q0.inj (tz z j);refine⟨.ref z.2::b,.cons S C,?_⟩;rw[zw,ek];exact aK.cons (A z j) g
  obtain⟨b,C,g⟩:=back i mem;rw[a2]at g;have es:jZ (ys.map (·.1))=jZ (zs.map (·.1)):=qZ ((mC _).trans (py.map _)) (uZ _);rw[es]at g;have b0:b.length=zs.length:=by rw[g.length,zi,(mC _).length_eq,zi]
  refine⟨.ref l,_,Xo (d:=d) (I.laid (t':=tk) (a:=l) (o:=.lst b) ext m ⟨by rw[b0,sizeLine_eq];omega,_,n,C,?_⟩),rfl,q _ _ b (bI J) J aU (g.kp (.of (bI J)))⟩;rw[hL]
def JZ{α:Type}[DecidableEq α]:Z α->Z α
 |[]=>[]
 |y::ys=>if y∈ys then JZ ys else y::JZ ys
section
variable [DecidableEq α]
theorem rZ:∀{ys:Z α} {z:α},z∈JZ ys↔z∈ys
 |[],z=>by simp[JZ]
 |y::ys,z=>by
  unfold JZ;split
  ·rename_i h;rw[rZ,Q2];exact⟨.inr,λq=>q.elim (λe=>e▸h) id⟩
  ·rw[Q2,Q2,rZ]
theorem LQ:∀(ys:Z α),(JZ ys).Nodup
 |[]=>j0
 |y::ys=>by
  unfold JZ;split
  ·exact LQ ys
  ·rename_i h;exact List.nodup_cons.mpr ⟨λq=>h (rZ.mp q),LQ ys⟩
theorem Ef:∀(ys:Z α),(JZ ys).length<=ys.length
 |[]=>zg _
 |y::ys=>by
  have:=Ef ys;unfold JZ;split<;>simp<;>omega
theorem LR{β:Type}[DecidableEq β]{f:α->β}(hi:∀a b,f a=f b->a=b):∀(ys:Z α),JZ (ys.map f)=(JZ ys).map f
 |[]=>rfl
 |y::ys=>by
  have c:f y∈ys.map f↔y∈ys:=⟨λq=>by obtain⟨z,d,e⟩:=List.mem_map.mp q;rw[<-hi _ _ e];exact d,λq=>List.mem_map.mpr ⟨y,q,rfl⟩⟩;rw[zw];unfold JZ;by_cases q:y∈ys
  ·rw[zh q,zh (c.mpr q),LR hi ys]
  ·rw[zC q,zC λh=>q (c.mp h),zw,LR hi ys]
end
section
def Qc(ks:Z AY):Bool:=ks.any λk=>k.isRight
theorem cr(h:Qc ks=true):EK ks:=by
 unfold Qc at h;rw[QP]at h;obtain⟨k,a,e⟩:=h;cases k with
 |inl i=>cases e
 |inr x=>exact⟨x,a⟩
def tU(X:Cx)(f:Ev->O (Z (Z AY))):L2.TE:=λσ H Q=>∃H0 ρ cL,bM X.K H0 H σ ρ/\f ρ=U cL/\∀a zs H',AV H H'->H' a=U (FH X a zs)->(∀k,k∈zs.map (·.1)↔k∈cL)->(zs.map (·.1)).Nodup->(∀z∈zs,AW X.K H' (BF z.1) (.ref z.2))->Q (.ref a) H'
def Pi(X:Cx)(e:Expr)(f:Ev->O (Z (Z AY))):Prop:=PE X e (tU X f)
structure LG (X:Cx) (e:Expr) (f:Ev->Option (List (List AY))):Prop where
 run:Pi X e f
def Nc(b:Bx):O (Z (Z AY)):=(wK b).bind λds=>(rY ds).bind λcL=>if cL.length<=64/\cL.all Qc=true then U cL else Y
def Tj(f:Ev->O Bx):Ev->O (Z (Z AY)):=λρ=>(f ρ).bind Nc
def Gs(fs:Ev->O (Z (Z AY))):Ev->O Bx:=λρ=>(fs ρ).bind λcL=>if CQ cL=true then U (.o ((jZ (JZ cL)).map BF))else Y
variable{fs:Ev->O (Z (Z AY))}{p:Pos}
theorem Vw(s:X.calm=true)(x:X.A.units+100<cLine)(u:Gl X "set")(y:X.mg "set"=Y)(j:QV X e f)(he:A9 (e::[]) X.env=(false,eval e X.env)::A9 [] X.env:=by rfl):LG X (.Call (.Name "set" p) [e] [] pos) (Tj f):=by
 refine⟨Ii (Jw (T :="set") (RI s x) u y S (bw j.run d7 he) (he:=he)) λσ H Q h=>?_⟩;obtain⟨H0,ρ,cL,E,c,q⟩:=h;obtain⟨b,eb,c⟩:=AT c;obtain⟨ds,o,c⟩:=AT c;obtain⟨B,ek,c⟩:=AT c;split at c
 ·rename_i d;cases c;rw[qo]at d;exact⟨H0,ρ,b,E,eb,λv H1 t z n=>⟨v,b,ds,cL,rfl,n,o,ek,d.1,λk w=>cr (d.2 k w),λa zs H2 i e2 m l g=>q a zs H2 (t.trans i) e2 m l g⟩⟩
 ·cases c
theorem UI{Yv:Z (Z AY)}(h:CQ cL=true)(d:Yv.length<=cL.length)(b:∀k∈Yv,k∈cL):CQ Yv=true:=by
 simp only[CQ,Zz,qi,qo,Qr]at h ⊢;exact⟨by omega,λk a=>h.2.1 k (b k a),λk a l c=>h.2.2 k (b k a) l (b l c)⟩
theorem Vx(t:X.calm=true)(x:Gl X "sorted")(y:X.mg "sorted"=Y)(j:LG X e fs)(he:A9 (e::[]) X.env=(false,eval e X.env)::A9 [] X.env:=by rfl):QV X (.Call (.Name "sorted" p) [e] [] pos) (Gs fs):=by
 refine⟨Ii (gq (id :="sorted") (VT t) x y S (bw j.run d7 he) (he:=he)) λσ H Q h=>?_⟩;obtain⟨H0,ρ,b,E,c,q⟩:=h;obtain⟨cL,o,c⟩:=AT c;split at c
 ·rename_i w;cases c;refine⟨H0,ρ,cL,E,o,λa zs H1 g e1 m d n=>⟨a,zs,rfl,e1,?_,n,λl H2 us i u e2 f=>?_⟩⟩
  ·have e3:=(Eb d (LQ cL) λz=>by rw[m z,rZ]).length_eq;have:=Ef cL;exact UI w (by omega) λk v=>(m k).mp v
  ·have s:=Eb d (LQ cL) λz=>by rw[m z,rZ]
   have es:jZ (zs.map (·.1))=jZ (JZ cL):=qZ ((mC _).trans s) (uZ _);rw[es]at f;exact q _ H2 (g.trans i) (λa ea=>by cases ea;exact g.free u) ⟨l,us,rfl,e2,f⟩
 ·cases c
end
end P1
namespace P1
open L2
def Gu:Bx->Bx->O Bx
 |.z (.str k),.z d=>U (.z (.tup [.str k,d]))
 |_,_=>Y
theorem Tn{a:Bx}{y:Dt}(h:Gu a b=U (.z y)):∃k d,a=.z (.str k)/\b=.z d/\y=.tup [.str k,d]:=by
 unfold Gu at h;split at h
 ·cases h;exact⟨_,_,rfl,rfl,rfl⟩
 ·cases h
def IR(AO:Z (AY×Dt)):Dt->Z (AY×Dt)
 |.tup [.str k,d]=>Lh AO (.inr k) d
 |_=>AO
def dictOf(out:Z Dt):Z (AY×Dt):=out.foldl IR []
theorem Qd(out:Z Dt)(k:AJ)(d:Dt):dictOf (out++[.tup [.str k,d]])=Lh (dictOf out) (.inr k) d:=by
 unfold dictOf;rw[List.foldl_append];rfl
theorem Xp{AO:Z (AY×V)}{k:AY}{r:A0}(I:L2.AU X AN σ H s)(e:H a=U (.dK AO))(l:AO.length<AA)(n:As (kV k) u)(g:As v r)(h:∀s',L2.AU X AN σ (B0 H a (.dK (BD AO k v))) s'->Q () s'):
  A7 (A8 X.prog X.w) A (dictSet a u r) Q E s:=by
 obtain⟨z,f,vs,b,m⟩:=Y6 I.hok e;have d:vs.length<=AA:=by rw[<-b.length];exact z
 have j:(BD AO k v).length<=AA:=by have:=lY AO k v;omega
 refine wpAny_dictSet_pairs (hsz:=d) (Fb n) m λh' c hs=>h _ ?_;have i:∃q,h'.get? a=U q:=let ⟨q,_,_,hq,_⟩:=c;⟨q,hq⟩;exact Dw I (by rw[e];exact True.intro) hs i (R3 j f (b.put k g) c)
section
variable{kx vx:Expr}{xs ts:AZ}
def EN(K:B4)(_:A1)(H:Hp)(a:Z Dt)(o:HO):Prop:=∃us,o=.dK us/\fL K H (dictOf a) us/\us.length<=a.length
theorem EN.kp{K:B4}{D:A1}{H H':Hp}{a:Z Dt}{o:HO}(k:Kp H H'):EN K D H a o->EN K D H' a o:=λ⟨us,e,r,z⟩=>⟨us,e,r.kp k,z⟩
theorem WJ(P:PV X kx fk)(u:PV X vx fv):Zr X (λD env=>do let g <-eval kx env;let vv <-holding [g] (eval vx env);standAt { kx.pos with endLine:=vx.pos.endLine,endCol:=vx.pos.endCol };holding [g,vv] (dictSet D g vv)) (NB (b2 Gu fk fv)) (EN X.K) 999 n:=by
 refine Zt λAN s σ H H0 ρ D o o1 ys I En eb hD ⟨us,e,r4,hl⟩ hi=>?_;subst e;obtain⟨b,e0,e1⟩:=AT eb;obtain⟨y,rfl,rfl⟩:=z9 e1;obtain⟨bk,N,eb⟩:=AT e0;obtain⟨W,L,eb⟩:=AT eb;obtain⟨c,F,rfl,rfl,rfl⟩:=Tn eb;refine zb (ZZ (P AN s σ H (λv a=>AV H a/\bh X.K a (.z (.str c)) v) I ⟨H0,ρ,_,En,N,λv a f _ d=>⟨f,d⟩⟩) (λg E i=>?_) λ_ _ z=>z);obtain⟨C,p,q,rk,l,t⟩:=i;refine zb (qA (ZZ (u AN E σ p (λv a=>AV p a/\AW X.K a F v) q ⟨H0,ρ,_,En.grow l,L,λv a f _ d=>⟨f,d⟩⟩) (λv f i=>?_) λ_ _ z=>z));obtain⟨h,a,G,w,A,d⟩:=i;have j:=l.trans A;have m:a D=U (.dK us):=j _ _ hD;obtain⟨rfl,J⟩:C=.str c/\c.length<=AA:=by simpa only[bh,AW]using t
 have kp:Kp a (B0 a D (.dK (BD us (Sum.inr c) h))):=.dk m;refine zb (Kb (qA ?_));simp only[List.length_singleton]at hi;refine Xp G m (by have:(1000:Nat)<AA:=(by decide);omega) (k:=Sum.inr c) rk w λQ M=>?_;have B:=((r4.kp (.of j)).put (x:=Sum.inr c) d J).kp kp;exact⟨a,_,M,j,kp,BD us (Sum.inr c) h,rfl,by rw[Qd];exact B,by have:=lY us (Sum.inr c) h;simp;omega⟩
def Vy(fi:Ev->O (Z Dt))(gt:Dt->Ev->O Ev)(p:Ev->O Bool)(fk fv:Ev->O Bx)(is:Z Nat)(n:Nat):Ev->O Bx:=λρ=>(fi ρ).bind λds=>
 if ds.length<1000 then(Bm gt p (b2 Gu fk fv) (mR is ρ++List.replicate n Y) ds).bind λa=>U (.m (dictOf a) Y)else Y
theorem bp(hu:X.A.units+100<cLine)(ts:AZ)(O:rM X scope cl xs is)(L:X.calm=true)(hi:FC X tgt iter fi)
  (j:∀C c d fp,D1 (HX X (xs++ts) scope cl C c d fp) tgt gt) (W:∀C c d fp,Fz (HX X (xs++ts) scope cl C c d fp) ifs p) (a0:∀C c d fp,QV (HX X (xs++ts) scope cl C c d fp) kx fk) (a1:∀C c d fp,QV (HX X (xs++ts) scope cl C c d fp) vx fv) (G:D0 is.length (is.length+ts.length) gt)
  (hs:∀x,foldedSetIterable iter X.env x=pure x:=by intro _;rfl):QV X (.DictComp kx vx [⟨tgt,iter,ifs,0⟩] scope pos) (Vy fi gt p fk fv is ts.length):=⟨λAN s σ H Q I h=>by
 obtain⟨H0,ρ,b,E,e,q⟩:=h;obtain⟨ds,ed,e⟩:=AT e;split at e
 ·rename_i P;obtain⟨a5,g,e⟩:=AT e;cases e;rw[arm_eval_DictComp];refine Kj (use:=none) S hs O.clos O.kind O.names ?_;refine gM (hi.run AN s σ H (λJ H'=>AV H H'/\B1 X.K J ds H') I ⟨H0,ρ,ds,E,ed,λJ H' s' y=>⟨s',y⟩⟩) λv s1 h1=>gM h1 λa3 s2 h2=>?_;obtain⟨it,fp,tn,J,H2,rfl,i,T,st,u,f,Y⟩:=h2;refine JC (B:=Vf) (Ac:=EN X.K) (O0:=.dK []) (N:=999) (RR:=λa2 C=>compPost (A8 X.prog X.w) X.A X.xe none (EP X AN σ Q) a2 C) (ts:=ts) (xs:=xs) O L (λC c d fp=>(j C c d fp).run) (λC c d fp=>(W C c d fp).run) (λC c d fp=>WJ (a0 C c d fp).run (a1 C c d fp).run) G (Nat.le_add_right ..) i ((E.grow f).caps is ts.length) (Zu T) st u Y g (ZH (vX g) (Nat.le_of_lt_succ P)) ?_
   qh (λ_=>Fd s2.heap i.big) (λ_=>⟨[],rfl,fL.nil,zg _⟩) EN.kp (λ_ _ _=>S) codeAny_compStart_dict λh=>h
  rintro D C s' H' o l I' z ⟨m,F⟩ n t ⟨us,rfl,rm,_⟩;refine⟨m,F,λh' M=>⟨.ref D,H',?_,rfl,q (.ref D) H' (f.trans n) (λa ea=>by cases ea;exact f.free l) ⟨D,us,rfl,t,rm,λb hb=>by cases hb⟩⟩⟩;obtain⟨f0,f1,f2,f3,f4,f5⟩:=z;exact I'.turned (t':=s'.toks) (λb o hb e=>(M.2 b hb).trans e) f0 f1 f3 f4 f5
 ·cases e⟩
end
section
variable{ks:Z (AY×V)}
end
section
variable{fd:Ev->O Bx}{xs ts:AZ}
end
theorem Qe{R:Result->A2->Prop}{d:A1}{AO:Z (AY×A0)}(D:A.handled=Y)(W:(d==sysModules)=false)(g:s.heap.DictAt (bF prog w) d AO ep)(E:AO.length<=AA)(S:A1)(n:d≠S)(l:A0)(u:Nat)(t:s.heap.get? S=some { cls:=.type "list",data:=.seq #[] u })(H:∀h' tk j a,(∀b o,b≠S->s.heap.get? b=some o->h'.get? b=some o)->h'.get? S=some { cls:=.type "list",dict:=Y,data:=.seq j a,slots:=#[] } →
   ItemsOf (λi v=>∃k x,AO[i]?=some (k,x)/\(bF prog w).is k v=true) j AO.length->R (.ok (.ret l)) { s with heap:=h',toks:=tk }):
  A7 (A8 prog w) A.in1 (Builtin.List.listExtendWith (.ref S) (.ref d) l)
   (λK s'=>match K with|.done f=>R (.ok f) s'|.again a=>a.quiet=true/\AF (A8 prog w) A a R s') (λe s'=>R (.error e) s') s:=by
 have C:d<s.heap.objs.size:=by obtain⟨o,_,Q,_⟩:=g;exact zt Q
 have P:S<s.heap.objs.size:=zt t;unfold Builtin.List.listExtendWith;refine zb (QR (T :="dict") g.dictOf.typeIs ?_);have h1:Builtin.List.listSameRef (.ref S) (.ref d)=false:=by simp[Builtin.List.listSameRef];exact λe=>n e.symm
 simp only[h1,show(Value.type "dict"==Value.type "list")=false by decide,show(Value.type "dict"==Value.type "tuple")=false by decide,Bool.or_false,zr,ZO];refine zb (wpAny_pyIter_dict W g ?_);refine zb (qA ?_);have c:=g.at' (h':=s.heap.push { cls:=.type "dict_keyiterator",data:=.fields #[.ref d,.int 0 0,.int AO.length 0,.int ep 0] }) λo e=>zd _ e;unfold Builtin.List.listLengthHint;refine zb (wpAny_specialOf (T :="dict") c.dictOf.typeIs F.slot_dict_len.lookup ?_)
 wp_delta
 refine zb (ke (T :="dict") (b:=true) c.dictOf.typeIs (by rw[isSubtype_type];kernel_rfl) ?_);show A7 _ A.in1 (typeOf (Value.ref d) >>= _) _ _ _;refine zb (QR (T :="dict") c.dictOf.typeIs (ze ?_));rw[zh (by decide)];show A7 _ A.in1 (Builtin.List.listTouch (Value.ref S) >>= λ_=>again (Code.builtin "list.extend.loop" ⟨[Value.ref S,Value.ref s.heap.objs.size,l],[]⟩)) _ _ _;generalize m:s.heap.push { cls:=.type "dict_keyiterator",data:=.fields #[.ref d,.int 0 0,.int AO.length 0,.int ep 0] }=G at c ⊢;have p:G.get? S=some { cls:=.type "list",data:=.seq #[] u }:=by
  rw[<-m];exact zd _ t
 have B:G.get? s.heap.objs.size=some { cls:=.type "dict_keyiterator",data:=.fields #[.ref d,.int 0 0,.int AO.length 0,.int ep 0] }:=by
  rw[<-m];exact zv _ rfl
 unfold Builtin.List.listTouch;refine zb (zb (listUpdate_at p rfl (listUpdate_at (get?_update_seq p _) rfl ?_ (by show _<=_;decide) (by show _<=_;decide)) (by show _<=_;decide) (by show _<=_;decide)));have y:s.heap.objs.size≠S:=jS P;have q:=get?_update_seq (get?_update_seq p (λx=>x.push Value.none)) (λx=>x.pop);generalize M:(G.update S (Obj.mapSeq λx=>x.push Value.none)).update S (Obj.mapSeq λx=>x.pop)=U at q;have keep:∀b,b≠S->U.get? b=G.get? b:=λb hb=>by rw[<-M,ka _ _ _ _ hb,ka _ _ _ _ hb]
 have L:U.IsKeyIter s.heap.objs.size d 0 AO.length ep/\U.DictAt (bF prog w) d AO ep:=⟨⟨_,(keep _ y).trans B,rfl,rfl⟩,c.at' λo e=>(keep d n).trans e⟩;show A7 _ A.in1 (again _) _ _ { s with heap:=U };have X:S∉[s.heap.objs.size,d]:=λh=>by
  simp only[Q2,js,or_false]at h;rcases h with h|h
  ·exact y h.symm
  ·exact n h.symm
 refine ze ⟨plainId_quiet F.plain_extend_loop _,codeAny_extend_loopS (Walks.dictKeys (A:=A.in1) D s.heap.objs.size d (Zl C) AO ep).toS E S X _ AO.length 0 { s with heap:=U } #[] _ rfl (Q1 _) L q (ItemsOf.nil _) λs' j a z I N=>?_⟩;rw[Moved.eq_with z];refine H s'.heap s'.toks j a (λb ob hb e=>?_) I N;have J:=zt e;refine z.heap b ob (λh=>?_) ((keep b hb).trans ?_)
 ·simp only[Q2,js,or_false]at h;rcases h with h|h
  ·exact hb h
  ·exact Zl J h
 ·rw[<-m];exact zd _ e
theorem Gv{Q:B9}{d:A1}{AO:Z (AY×A0)}(n:A.handled=Y)(C:(d==sysModules)=false)(h:s.heap.DictAt (bF prog w) d AO ep)(p:AO.length<=AA)(u:∀h' tk c f,(∀b o,s.heap.get? b=U o->h'.get? b=U o) →
   h'.get? s.heap.objs.size=U { cls:=.type "list",dict:=Y,data:=.seq c f,slots:=#[] }->ItemsOf (λi v=>∃k x,AO[i]?=U (k,x)/\(bF prog w).is k v=true) c AO.length->Q (.ref s.heap.objs.size) { s with heap:=h',toks:=tk }):
  A7 (A8 prog w) A (call (.type "list") [.ref d]) Q E s:=by
 have g:d<s.heap.objs.size:=by obtain⟨o,_,D,_⟩:=h;exact zt D
 refine callType_codes (Q₁:=λl m=>l=.ref s.heap.objs.size/\m={ s with heap:=s.heap.push { cls:=.type "list",data:=.seq #[] } }) F.called_list (F.typeCall_list_1 _) F.entry_list_init
  (code_list_new _ ⟨rfl,rfl⟩) λl m z=>?_
 obtain⟨rfl,rfl⟩:=z;have a:(s.heap.push { cls:=.type "list",data:=.seq #[] }).get? s.heap.objs.size=U { cls:=.type "list",data:=.seq #[] }:=zv _ rfl;have j:=h.at' (h':=s.heap.push { cls:=.type "list",data:=.seq #[] }) λo e=>zd _ e;refine⟨⟨_,a,rfl⟩,F.args_list_init_2 _ _,?_⟩;generalize t:s.heap.push { cls:=.type "list",data:=.seq #[] }=H at a j ⊢;show A7 _ _ (do let old <-Builtin.List.listItems (.ref s.heap.objs.size);Builtin.List.listUpdate (.ref s.heap.objs.size) (λ_=>#[]);letGo old.toList.reverse;Builtin.List.listExtendWith (.ref s.heap.objs.size) (.ref d) .none) _ _ { s with heap:=H };refine zb ?_;unfold Builtin.List.listItems;refine zb (wpAny_seqItems a S (ze ?_));show A7 _ _ (updateSeq s.heap.objs.size (λ_=>#[]) >>= λ_=>letGo (#[]:Array A0).toList.reverse >>= λ_=>Builtin.List.listExtendWith (.ref s.heap.objs.size) (.ref d) .none) _ _ _;refine zb (wpAny_updateSeq a S ?_);have B:=QE (Obj.mapSeq (λ_=>(#[]:Array A0))) a rfl;have oth:∀b o,b≠s.heap.objs.size->H.get? b=U o->(H.update s.heap.objs.size (Obj.mapSeq (λ_=>(#[]:Array A0)))).get? b=U o:=
  λb o hb e=>(QN _ _ (jI hb)).trans e
 refine zb (wpAny_letGo ?_);refine Qe (A:=A.in1) n C (j.at' λo e=>oth d o (Zl g) e) p s.heap.objs.size (Zl g) .none _ B λh' tk c f G q y=>?_;exact⟨rfl,u h' tk c f (λb o e=>G b o (Zl (zt e)) (oth b o (Zl (zt e)) (by rw[<-t];exact zd _ e))) q y⟩
theorem br{P:Nat->A0->Prop}(val:Nat->AJ)(a:∀i v,P i v->∃t,v=.str (val i) t):CmpOf prog w A .Lt P (λi j=>decide ((val i).cps.toList<(val j).cps.toList)):=λi j c b s Q E hi d h=>by
 obtain⟨t,rfl⟩:=a i c hi;obtain⟨u,rfl⟩:=a j b d;exact richCompare_gives (op:=.Lt) (typeIs_str s _ t) (typeIs_str s _ u) F.slot_str_lt F.entry_str_lt (F.args_str_lt_2 _ _) (gives_str_lt _ _ t u) (λx=>nomatch x) h
theorem De{P:Nat->A0->Prop}(val:Nat->AJ)(a:∀i v,P i v->∃t,v=.str (val i) t):CmpOf prog w A .Gt P (λi j=>decide ((val j).cps.toList<(val i).cps.toList)):=λi j c b s Q E hi d h=>by
 obtain⟨t,rfl⟩:=a i c hi;obtain⟨u,rfl⟩:=a j b d;exact richCompare_gives (op:=.Gt) (typeIs_str s _ t) (typeIs_str s _ u) F.slot_str_gt F.entry_str_gt (F.args_str_gt_2 _ _) (gives_str_gt _ _ t u) (λx=>nomatch x) h
def two(a b:AJ)(i:Nat):AJ:=if i=0 then a else b
theorem NF{a b:AJ}{t u:Tok}(i:Nat)(v:A0)(h:(#[Value.str a t,Value.str b u])[i]?=U v):∃t',v=.str (two a b i) t':=by
 match i,h with
 |0,h=>cases h;exact⟨t,rfl⟩
 |1,h=>cases h;exact⟨u,rfl⟩
 |_+2,h=>simp at h
theorem Qf{a b:AJ}{t u:Tok}{Q:B9}{d:Nat->Nat->Bool}(y:A.handled=Y)(f:CmpOf prog w A.in1 op (λi v=>(#[Value.str a t,Value.str b u])[i]?=U v) d)(h:∀h' tk,(∀c o,s.heap.get? c=U o->h'.get? c=U o)->Q (if d 1 0=true then .str b u else .str a t) { s with heap:=h',toks:=tk }):
  A7 (A8 prog w) A.in1 (pyIter (.ref s.heap.objs.size)) (λit l=>∃I fp wr n P St d,it=.ref I/\Walks prog w A.in1 I fp wr n P St/\St 0 l.heap/\(∀b∈fp,b<l.heap.objs.size)/\0<n/\CmpOf prog w A.in1 op P d ∧
   ∀v h' tk,P (argBest d (n-1)) v->(∀b o,b∉wr->l.heap.get? b=U o->h'.get? b=U o)->Q v { l with heap:=h',toks:=tk }) E
   { s with heap:=s.heap.push { cls:=.type "tuple",data:=.seq #[.str a t,.str b u] } }:=by
 have q:(s.heap.push { cls:=.type "tuple",data:=.seq #[.str a t,.str b u] }).IsTuple s.heap.objs.size #[.str a t,.str b u]:=⟨_,zv _ rfl,rfl,0,rfl⟩;refine wpAny_pyIter_tuple q ?_;have j:(s.heap.push { cls:=.type "tuple",data:=.seq #[.str a t,.str b u] }).objs.size=s.heap.objs.size+1:=qv ..;refine⟨_,[_,s.heap.objs.size],[_],_,_,_,d,rfl,Walks.tuple (A:=A.in1) y _ s.heap.objs.size (by rw[j];exact Zl (qk _)) #[.str a t,.str b u],
  ⟨⟨_,zv _ rfl,rfl,rfl⟩,q.push _⟩,λc f=>?_,by simp,f,λv h' tk B z=>?_⟩
 ·show c<((s.heap.push _).push _).objs.size;rw[qv,j];rcases List.mem_cons.mp f with rfl|f
  ·rw[j];exact qk _
  ·rcases List.mem_cons.mp f with rfl|f
   ·exact Qb (qk _)
   ·cases f
 ·have hold:∀c o,s.heap.get? c=U o->h'.get? c=U o:=λc o e=>by
   refine z c o (λm=>?_) (zd _ (zd _ e));rcases List.mem_cons.mp m with e1|m
   ·have:=zt e;rw[e1,j]at this;exact kc _ (Nat.lt_of_succ_lt this)
   ·cases m
  have:=h h' tk hold;have x:v=if d 1 0=true then Value.str b u else Value.str a t:=by
   have g:(#[Value.str a t,Value.str b u])[argBest d 1]?=U v:=B;unfold argBest argBest at g;by_cases p:d 1 0=true
   ·rw[zh p]at g ⊢;exact(by simpa using g.symm)
   ·rw[zC p]at g ⊢;exact(by simpa using g.symm)
  rw[x];exact this
def u9:Z Bx->O Bx
 |[.z (.str a),.z (.str b)]=>U (.z (.str (if Xq b a=true then b else a)))
 |_=>Y
where Xq (x y:AJ):Bool:=decide (x.cps.toList<y.cps.toList)
def Qg:Z Bx->O Bx
 |[.z (.str a),.z (.str b)]=>U (.z (.str (if u9.Xq a b=true then b else a)))
 |_=>Y
theorem Vz(j:X.calm=true):nC X (.builtin "min") u9:=by
 intro AN s σ H xs us Q I r h;obtain⟨bs,c,g,e,q⟩:=h;unfold u9 at e;split at e
 ·rename_i a b;cases e;obtain⟨v,w,rfl,f,d⟩:=Vj g;obtain⟨rfl,h1⟩:=Ss f;obtain⟨rfl,h2⟩:=Ss d;obtain⟨u,m,rfl,i,l⟩:=AX.two r;obtain⟨t,rfl⟩:=i;obtain⟨n,rfl⟩:=l;refine call_min_two (Qf (I.ok.hd j) (br (two a b) NF) λh' tk kp=>?_);show EP X AN σ Q (if u9.Xq b a=true then _ else _) _;by_cases hb:u9.Xq b a=true
  ·rw[zh hb]at q ⊢;exact⟨.str b,H,I.kept kp,⟨_,rfl⟩,q _ H (AV.refl H) trivial d⟩
  ·rw[zC hb]at q ⊢;exact⟨.str a,H,I.kept kp,⟨_,rfl⟩,q _ H (AV.refl H) trivial f⟩
 ·cases e
theorem Pl(j:X.calm=true):nC X (.builtin "max") Qg:=by
 intro AN s σ H xs us Q I r h;obtain⟨bs,c,g,e,q⟩:=h;unfold Qg at e;split at e
 ·rename_i a b;cases e;obtain⟨v,w,rfl,f,d⟩:=Vj g;obtain⟨rfl,h1⟩:=Ss f;obtain⟨rfl,h2⟩:=Ss d;obtain⟨u,m,rfl,i,l⟩:=AX.two r;obtain⟨t,rfl⟩:=i;obtain⟨n,rfl⟩:=l;refine call_max_two (Qf (I.ok.hd j) (De (two a b) NF) λh' tk kp=>?_);show EP X AN σ Q (if u9.Xq a b=true then _ else _) _;by_cases hb:u9.Xq a b=true
  ·rw[zh hb]at q ⊢;exact⟨.str b,H,I.kept kp,⟨_,rfl⟩,q _ H (AV.refl H) trivial d⟩
  ·rw[zC hb]at q ⊢;exact⟨.str a,H,I.kept kp,⟨_,rfl⟩,q _ H (AV.refl H) trivial f⟩
 ·cases e
def Gx:Z Bx->O Bx
 |[.n AO]=>(W7 AO).bind λys=>U (.o (ys.map Dt.str))
 |_=>Y
theorem ff(t:X.calm=true):nC X (.type "list") Gx:=by
 intro AN s σ H xs us Q I r h;obtain⟨bs,c,i,e,q⟩:=h;unfold Gx at e;split at e
 ·rename_i AO;obtain⟨ys,d,e⟩:=AT e;cases e;have x:AO.length=ys.length:=by have:=congrArg List.length (wg d);simpa using this
  obtain⟨v,rfl,l⟩:=BM i;obtain⟨a,ks,rfl,n,b⟩:=l;obtain⟨u,rfl,j⟩:=BC r;cases j;obtain⟨p,w,vs,f,o,es,ep,A⟩:=uN I.hok n;have E:vs.map (·.1)=ys.map Sum.inr:=by rw[Vm f,b.1];exact wg d
  have F:ks.length=vs.length:=f.length;refine Gv (I.ok.hd t) w ⟨o,es,A⟩ (by omega) λh' tk D B ext z m=>?_;have z1:=SN E m;have C:∀y∈ys,y.length<=AA:=Pc d b.2.2;have g:=I.hok.fresh (zg s.heap.objs.size);refine⟨.ref s.heap.objs.size,_,I.laid (t':=tk) (a:=s.heap.objs.size) (o:=.lst (ys.map V.str)) ext (zg _) ?_,rfl,q _ _ (bI g) (λa ea=>by cases ea;exact g) ⟨_,_,rfl,aU,Gf C⟩⟩;refine⟨by rw[zi,<-x,<-b.len];exact p,D.toList,B,Ae z1,?_⟩;rw[z]
 ·cases e
def CH(H:Hp)(a:A1):Hp:=λb=>if b=a then Y else H b
theorem VB{b:A1}(h:b≠a):CH H a b=H b:=zC h
theorem VD:CH H a a=Y:=zh rfl
def DZ:Bx->Bool
 |.z _=>true
 |_=>false
def Fk(K:B4)(n:Nat)(G:A1->Z (AY×Dt)->Z Bx->O (Z (AY×Dt))):Sp:=λvs H Q _=>vs.length=n+1/\∃a ks AO AS bs c,vs=.ref a::AS/\H a=U (.dK ks)/\fL K H AO ks/\pJ K H bs AS/\bs.all DZ=true/\G a AO bs=U c/\∀H' b,AV (CH H a) H'->H' a=U (.dK b)->fL K H' c b->Q .non H'
def Qh(n:Nat)(g:Ev->O An):A1->Z (AY×Dt)->Z Bx->O (Z (AY×Dt)):=λa AO bs=>(g ((Bx.m AO (U a)::bs).map U++List.replicate (n-(bs.length+1)) Y)).bind λr=>match r with
 |.nx ρ=>match ρ[0]? with
  |some (U (Bx.m kvs' (U b)))=>if b=a then U kvs' else Y
  |_=>Y
 |_=>Y
theorem Tp{c:Z (AY×Dt)}{bs:Z Bx}(h:Qh n g a AO bs=U c):∃ ρ,g ((Bx.m AO (U a)::bs).map U++List.replicate (n-(bs.length+1)) Y)=U (.nx ρ)/\ρ[0]?=U (U (.m c (U a))):=by
 obtain⟨r,er,h⟩:=AT h;cases r with
 |nx ρ=>
  dsimp only at h;split at h
  ·rename_i k b e;split at h
   ·rename_i hb;cases h;subst hb;exact⟨ρ,er,e⟩
   ·cases h
  ·cases h
 |rt _=>cases h
 |bk _=>cases h
 |ct _=>cases h
theorem Gy{α β:Type}{R:α->β->Prop}:∀{xs:Z α} {ys:Z β},AI R xs ys->∀{i:Nat} {x:α},xs[i]?=U x->∃y,ys[i]?=U y/\R x y
 |_,_,.nil,i,x,q=>by simp at q
 |_,_,.cons r _,0,x,q=>by simp at q;subst q;exact⟨_,rfl,r⟩
 |_,_,.cons _ t,i+1,x,q=>by
  rw[qr]at q;obtain⟨y,y1,y2⟩:=Gy t q;exact⟨y,by rw[qr];exact y1,y2⟩
theorem bM.startM{bs:Z Bx}{AS:Z V}{ks:Z (AY×V)}(p:H a=U (.dK ks))(s:fL K H AO ks)(r:pJ K H bs AS)(l:bs.all DZ=true):bM K (CH H a) H (L2.start N (.ref a::AS)) ((Bx.m AO (U a)::bs).map U++List.replicate (N.length-(bs.length+1)) Y):=by
 have w:bs.length=AS.length:=Paired.length r;have n:pJ K H (.m AO (U a)::bs) (.ref a::AS):=.cons ⟨a,ks,rfl,p,s,λb h=>by cases h;rfl⟩ r;have get:∀(i:Nat) b,((Bx.m AO (U a)::bs).map U++List.replicate (N.length-(bs.length+1)) Y)[i]?=U (U b)->(Bx.m AO (U a)::bs)[i]?=U b:=λi b e=>by
  by_cases hi:i<(Bx.m AO (U a)::bs).length
  ·rw[Z3 (by simpa using hi),ZN]at e;cases q:(Bx.m AO (U a)::bs)[i]? with
   |none=>rw[q]at e;cases e
   |some y=>rw[q]at e;simpa using e
  ·rw[QI (by simp at hi ⊢;omega),jv]at e;split at e<;>cases e
 have t:∀(i:Nat) b,((Bx.m AO (U a)::bs).map U++List.replicate (N.length-(bs.length+1)) Y)[i]?=U (U b)->i≠0->loose b=false:=λi b e hi=>by
  have e2:=get i b e;cases i with
  |zero=>exact absurd S hi
  |succ j=>
   rw[qr]at e2;have:=List.all_eq_true.mp l b (QA e2);cases b<;>first|rfl|cases this
 have g:∀c,uO c=true->loose c=true:=λc d=>by cases c<;>first|rfl|cases d
 have zero:∀(i:Nat) c,((Bx.m AO (U a)::bs).map U++List.replicate (N.length-(bs.length+1)) Y)[i]?=U (U c)->loose c=true->i=0:=λi c e d=>by
  by_cases hi:i=0
  ·exact hi
  ·rw[t i c e hi]at d;cases d
 have st:∀i v,(Value.ref a=Value.ref a)->(V.ref a::AS)[i]?=U v->(L2.start N (.ref a::AS))[i]?=U (U v):=λi v _ e=>by
  have hi:i<(V.ref a::AS).length:=(List.getElem?_eq_some_iff.mp e).1;unfold L2.start;rw[Z3 (by simpa using hi),ZN,e];rfl
 refine⟨by unfold L2.start;simp[w],λi b e=>?_,λi j c x b e1 f _ e3 hb _=>?_,λb o e=>?_,λi c x e f e2=>?_⟩
 ·obtain⟨v,e1,u⟩:=Gy n (get i b e);exact⟨v,st i v S e1,u⟩
 ·rw[zero i c e1 (g c f),zero j b e3 hb]
 ·by_cases hb:b=a
  ·subst hb;rw[VD]at e;cases e
  ·rw[VB hb]at e;exact e
 ·have hi:=zero i c e (g c f);subst hi;rw[st 0 (.ref a) S rfl]at e2;cases e2;exact VD
theorem fq{f:A1}{k m:Nat}(F:Bj K x qual st f fd)(S:bB N ps (aG st))(u:N.length=n)(C:ps.length=m+1)(l:∀(c:A0) (A:A5) (outer:Z Env) (s:A2) (H:Hp) (E:XK),gW k (A.deeper (AK qual (aG st) s.heap.objs.size f c))->R6 (rK xu P w K mg base N qual (aG st) f c A outer s H E).Yt (d8 st) g):
  ju P w K mg base xu (k+1) f fd ps (Fk K m (Qh n g)):=by
 subst u;refine F.ok S (λvs H Q E h=>by rw[C];exact h.1) λc A outer s H vs Q E B h=>?_;obtain⟨G,a,ks,AO,AS,bs,D,rfl,j,t,o,i,e,q⟩:=h;refine⟨_,(l c A outer s H E B).run,?_⟩;obtain⟨ρ,er,e0⟩:=Tp e;refine⟨CH H a,_,_,bM.startM j t o i,er,?_⟩;intro σ' H' d;obtain⟨v,ev,b,z,rfl,hb,y,p⟩:=d.val 0 _ e0;have:=p a rfl;subst this;exact q H' z d.base hb y
open Classical in
noncomputable def Gz(i n:Nat)(G:A1->Z (AY×Dt)->Z Bx->O (Z (AY×Dt)))(fs:Ev->O (Z Bx)):Ev->O An:=λρ=>match ρ[i]? with
 |some (U (.m AO w))=>(fs ρ).bind λbs=>if h:bs.length=n/\bs.all DZ=true/\∃b,∀a,G a AO bs=U b then U (.nx (ρ.set i (U (.m (Classical.choose h.2.2) w))))else Y
 |_=>Y
theorem Tq{fs:Ev->O (Z Bx)}{r:An}(h:Gz i n G fs ρ=U r):∃AO w bs c,ρ[i]?=U (U (.m AO w))/\fs ρ=U bs/\bs.length=n/\bs.all DZ=true/\(∀a,G a AO bs=U c)/\r=.nx (ρ.set i (U (.m c w))):=by
 unfold Gz at h;split at h
 ·rename_i AO w e;obtain⟨bs,eb,h⟩:=AT h;split at h
  ·rename_i b;cases h;exact⟨AO,w,bs,_,e,eb,b.1,b.2.1,Classical.choose_spec b.2.2,rfl⟩
  ·cases h
 ·cases h
theorem Sc{fs:Ev->O (Z Bx)}{b:Z (AY×Dt)}{w:O A1}{bs:Z Bx}(e:ρ[i]?=U (U (.m AO w)))(eb:fs ρ=U bs)(h:bs.length=n)(g:bs.all DZ=true)(c:∀a,G a AO bs=U b):Gz i n G fs ρ=U (.nx (ρ.set i (U (.m b w)))):=by
 unfold Gz;rw[e];simp only[eb,aln];have d:bs.length=n/\bs.all DZ=true/\∃b,∀a,G a AO bs=U b:=⟨h,g,b,c⟩;rw[dif_pos d];have:=Classical.choose_spec d.2.2 0;rw[c 0]at this;injection this with this;rw[<-this]
where aln {α β:Type} (a:α) (f:α->O β):(U a).bind f=f a:=rfl
theorem bM.ajc{H':Hp}{G:Z (AY×Dt)}{w:O A1}{ks I:Z (AY×V)}(E:bM K H0 H σ ρ)(h:ρ[i]?=U (U (.m AO w)))(hs:σ[i]?=U (U (.ref a)))(J:H a=U (.dK ks))(M:AV (CH H a) H')(Q:H' a=U (.dK I))(rm:fL K H' G I)(P:∀b,w=U b->b=a):
  bM K H0 H' σ (ρ.set i (U (.m G w))):=by
 have hi:i<ρ.length:=(List.getElem?_eq_some_iff.mp h).1;have hb:H0 a=Y:=E.new i _ a h S hs;have g:∀b u,b≠a->H b=U u->H' b=U u:=λb u F e=>M b u (by rw[VB F];exact e);have kp:Kp H H':=⟨λb xs e=>g b _ (lX e J (by intro z;cases z)) e,λb ob u e=>g b _ (lX e J (by intro z;cases z)) e⟩;refine⟨by rw[km];exact E.len,λj A e=>?_,λj W c f A e1 D e2 e3 L e5=>?_,λc o e=>?_,λj c f e1 D e2=>?_⟩
 ·rcases BB e with⟨rfl,e',_⟩|⟨F,e'⟩
  ·cases e';exact⟨_,hs,a,I,rfl,Q,rm,P⟩
  ·obtain⟨v,e1,x⟩:=E.val j A e';refine⟨v,e1,?_⟩;have B:∀f,v=.ref f->loose A=true->f≠a:=λf ev hl z=>by
    subst z;exact F (E.own i j _ _ _ h S hs e' hl (by rw[e1,ev])).symm
   cases A with
   |z d=>exact AW.kp kp x
   |l C=>
    obtain⟨f,p,rfl,q,s⟩:=x;have t:=B f S rfl;exact⟨f,p,rfl,q.imp (g _ _ t) λ⟨o,q⟩=>⟨o,g _ _ t q⟩,s.kp kp⟩
   |o C=>
    obtain⟨f,p,rfl,q,s⟩:=x;exact⟨f,p,rfl,g _ _ (B f S S) q,s.kp kp⟩
   |n C=>
    obtain⟨f,p,rfl,q,s⟩:=x;have t:=B f S rfl;exact⟨f,p,rfl,q.imp (g _ _ t) λ⟨o,q⟩=>⟨o,g _ _ t q⟩,s.kp kp⟩
   |m C _=>
    obtain⟨f,p,rfl,q,s,N⟩:=x;exact⟨f,p,rfl,g _ _ (B f S S) q,s.kp kp,N⟩
 ·have back:∀{j:Nat} {c:Bx},(ρ.set i (U (.m G w)))[j]?=U (U c)->∃y,ρ[j]?=U (U y)/\(uO c=true->uO y=true)/\(loose c=true->loose y=true):=λ{j c} e=>by
   rcases BB e with⟨rfl,e',_⟩|⟨_,e'⟩
   ·exact⟨_,h,λ_=>S,λ_=>S⟩
   ·exact⟨c,e',id,id⟩
  obtain⟨y,p1,p2,_⟩:=back e1;obtain⟨b2,q1,_,X⟩:=back e3;exact E.own j W y f b2 p1 (p2 D) e2 q1 (X L) e5
 ·have e2:=E.base c o e;exact g c o (λz=>by subst z;rw[hb]at e;cases e) e2
 ·rcases BB e1 with⟨rfl,e',_⟩|⟨_,e'⟩
  ·exact E.new _ _ f h S e2
  ·exact E.new j c f e' D e2
section
variable{fs:Ev->O (Z Bx)}{p px spos:Pos}{k:Nat}{f:A1}
theorem T1(i:Nat)(F:ju X.prog X.w X.K X.mg X.base xu k f fd ps (Fk X.K n G))(z:gW k X.A)(C:Gl X x)(I:X.mg x=U (.ref f))(hk:keepIn X.K (.ref f)=true)(hb:BA X.K fd ps [])
  (s:Vb X es fs) (W:X.N[i]?=U y:=by rfl) (l:U3 X.env.scope y:=by first|exact JS rfl|exact QY (JS S)|exact QY (QY S)) (hd:(y==("__debug__":AJ))=false:=by decide)
  (j:(y==("__classdict__":AJ))=false:=by decide) (J:(x==("__debug__":AJ))=false:=by decide) (he:A9 (.Name y px::es) X.env=(false,eval (.Name y px) X.env)::A9 es X.env:=by rfl) (L:(AD pos (A9 es X.env)).any (·.1)=false:=by rfl) (hs:swapsWith (.Call (.Name x p) (.Name y px::es) [] pos) Y spos.line X.env=pure false:=by rfl):
  K4 X (.Expr (.Call (.Name x p) (.Name y px::es) [] pos) spos) (Gz i n G fs):=⟨Oi (yj (Kv F z C I hk hb .nil OA (bw (rH (i:=i) W l hd j) s.run he) J he L) hs) λD σ H h=>by
 obtain⟨H0,ρ,r,E,e,q⟩:=h;obtain⟨AO,w,bs,B,d,eb,hl,o,P,rfl⟩:=Tq e;obtain⟨v,e1,a,ks,rfl,u,M,t⟩:=E.val i _ d;refine⟨_,e1,H0,ρ,bs,E,eb,λvs H1 b c=>?_⟩;have g:=b _ _ u;refine⟨by simp only[ZY,qc];rw[<-Paired.length c,hl],a,ks,AO,vs,bs,B,by simp,g,M.kp (.of b),c,o,P a,λH' a1 m a0 Q=>?_⟩;exact q σ H' ((E.grow b).ajc d e1 g m a0 Q t)⟩
end
def Yw:O Bool->Bool
 |some true=>true
 |_=>false
def Ma(x:Dt)(ys:Z Dt):O Bool:=if(ys.all λy=>(uz y x).isSome&&decide (min (uc y) (uc x)<=60))=true then U (ys.any λy=>Yw (uz y x))else Y
def inX(a b:Bx):O Bx:=match a with
 |.z d=>(wK b).bind λys=>(Ma d ys).bind λk=>U (.z (.bl k))
 |_=>Y
def Mf(a b:Bx):O Bx:=match a with
 |.z d=>(wK b).bind λys=>(Ma d ys).bind λk=>U (.z (.bl (!k)))
 |_=>Y
theorem LO(I:L2.AU X AN σ H s)(J:X.A.units+100<cLine){x:V}(w:AW X.K H d x)(t:As x u){ys:Z Dt}(rs:aK X.K H ys vs)(m:AX vs AQ){k:Bool}(f:Ma d ys=U k):
  ∃e:A0->Bool,(∀y,y∈AQ->SeqAt.EqAt X.A.in1 s y u (e y))/\AQ.any e=k:=by
 unfold Ma at f;split at f
 ·rename_i o;injection f with f;rw[qo]at o;have at_:∀(i:Nat) y,AQ[i]?=U y->∃c,ys[i]?=U c/\SeqAt.EqAt X.A.in1 s y u (Yw (uz c d)):=λi y l=>by
   have E:=m.length;have D:=rs.length;have hi:i<AQ.length:=(List.getElem?_eq_some_iff.mp l).1;have a:i<ys.length:=by omega
   obtain⟨v,ev,B⟩:=rs.get (show ys[i]?=U ys[i] by simp[a]);obtain⟨F,p,C⟩:=m.get ev;rw[l]at p;cases p;refine⟨ys[i],by simp[a],?_⟩;have j:=o ys[i] (k7 a);rw[Zz]at j;obtain⟨b,hb⟩:=Option.isSome_iff_exists.mp j.1;have:=LI I 60 (A:=X.A.in1) (ko j.2) (by rw[units_in1];omega) B w C t hb;rw[hb];cases b<;>exact this
  classical
  refine⟨λy=>decide (∃(i:Nat) (c:Dt),AQ[i]?=U y/\ys[i]?=U c/\Yw (uz c d)=true),λy l=>?_,?_⟩
  ·dsimp only;by_cases q:∃(i:Nat) (c:Dt),AQ[i]?=U y/\ys[i]?=U c/\Yw (uz c d)=true
   ·rw[ZT q];obtain⟨i,c,h1,h2,g⟩:=q;obtain⟨G,e1,e2⟩:=at_ i y h1;rw[h2]at e1;cases e1;rw[g]at e2;exact e2
   ·rw[ZE q];obtain⟨i,hi,n⟩:=j3 l;have h1:AQ[i]?=U y:=by rw[Zs hi,n]
    obtain⟨c,e1,e2⟩:=at_ i y h1;have:Yw (uz c d)=false:=by
     cases z:Yw (uz c d)with
     |false=>rfl
     |true=>exact absurd ⟨i,c,h1,e1,z⟩ q
    rw[this]at e2;exact e2
  ·rw[<-f,JE,QP,QP];constructor
   ·rintro⟨y,l,h⟩;obtain⟨i,c,h1,h2,g⟩:=ko h;exact⟨c,QA h2,g⟩
   ·rintro⟨c,j,g⟩;obtain⟨i,hi,n⟩:=j3 j;have E:=m.length;have D:=rs.length;have a:i<AQ.length:=by omega
    exact⟨AQ[i],k7 a,ZT ⟨i,c,by simp[a],by rw[Zs hi,n],g⟩⟩
 ·cases f
theorem Mg(n:X.A.units+100<cLine):Dy X (AG .NotIn) Mf:=by
 intro AN s σ H x y v u Q I l B h;obtain⟨a,b,c,j,t,e,q⟩:=h;unfold Mf at e;split at e
 ·rename_i d;obtain⟨ys,z,e⟩:=AT e;obtain⟨k,ek,e⟩:=AT e;cases e;obtain⟨p,vs,rfl,sq,m⟩:=Lq t z;cases B;rcases sq with sq|sq
  ·obtain⟨AQ,g,pl,o⟩:=I.list sq;obtain⟨f,f1,f2⟩:=LO I n j l m g ek;refine SeqAt.notIn_listAt f pl.isList (λw i=>f1 w (by simpa using i)) ⟨.bl (!k),H,I,by rw[show AQ.toArray.any f=AQ.any f by simp,f2];rfl,q _ H (AV.refl H) trivial (by simp only[bh,AW])⟩
  ·obtain⟨AQ,g,pl,o⟩:=I.tuple sq;obtain⟨f,f1,f2⟩:=LO I n j l m g ek;refine SeqAt.notIn_tupleAt f pl (λw i=>f1 w (by simpa using i)) ⟨.bl (!k),H,I,by rw[show AQ.toArray.any f=AQ.any f by simp,f2];rfl,q _ H (AV.refl H) trivial (by simp only[bh,AW])⟩
 ·cases e
section
variable{st:Z AB}
def Go(i:Nat)(ρ:Ev):O Ev:=match ρ[i]? with
 |some (U (.o ds))=>U (ρ.set i (U (.z (.lst ds))))
 |_=>Y
def F1(i:Nat)(g:Ev->O An):Ev->O An:=λρ=>(Go i ρ).bind g
theorem bE(h:RB X st g):RB X st (F1 i g):=by
 intro AN s σ H D I q;obtain⟨H0,ρ,r,E,e,f⟩:=q;obtain⟨m,e1,e2⟩:=AT e;unfold Go at e1;split at e1
 ·rename_i ds c;cases e1;obtain⟨v,j,a,vs,rfl,b,l⟩:=E.val i _ c;obtain⟨o,d⟩:=Fp I b;have kp:Kp H (B0 H a (.HS o (.lst vs))):=.lst b;refine h AN s σ _ D d ⟨H0,_,r,E.af7 c S j kp ?_,e2,f⟩;simp only[bh,AW];exact⟨a,vs,rfl,.inl ⟨o,aU⟩,l.kp kp⟩
 ·cases e1
theorem bj(h:R6 X st g):R6 X st (F1 i g):=⟨bE h.run⟩
end
open AutoSeq1 (wpAny_loadPart')
open SeqAt
section
variable{o:Expr}{fx:Ev->O Bx}
end
section
variable{t:Ev->O Bool}
def Xr(t:Ev->O Bool)(g:Ev->O An):Nat->Ev->O An
 |0,_=>Y
 |n+1,ρ=>(t ρ).bind λb=>if b=true then(g ρ).bind λr=>match r with
  |.nx ρ'=>Xr t g n ρ'
  |.ct ρ'=>Xr t g n ρ'
  |.bk ρ'=>U (.nx ρ')
  |.rt b=>U (.rt b)
  else U (.nx ρ)
theorem OW(n:Nat)(hp:PassesOwn (A8 X.prog X.w) X.A X.env X.xe)(l:PB X c t)(hb:RB X body g):GA X (.While c body [] pos) (Xr t g n):=
 Oi (YJ hp l hb) λD σ H q=>by
  obtain⟨H0,ρ,r,E,e,f⟩:=q;refine⟨λm σ H=>∃H0 ρ r,bM X.K H0 H σ ρ/\Xr t g m ρ=U r/\R5 X.K H0 D r,⟨n,H0,ρ,r,E,e,f⟩,?_⟩;rintro m σ H ⟨H0,ρ,r,E,e,f⟩;cases m with
  |zero=>cases e
  |succ m=>
   obtain⟨b,eb,e⟩:=AT e;refine⟨H0,ρ,b,E,eb,λH1 j=>?_⟩;cases b with
   |false=>
    rw[zC (by decide)]at e ⊢;cases e;exact f σ H1 (E.grow j)
   |true=>
    rw[zh rfl]at e ⊢;obtain⟨h,er,e⟩:=AT e;refine⟨λσ' H'=>∃i,i<m+1/\∃H0 ρ r,bM X.K H0 H' σ' ρ/\Xr t g i ρ=U r/\R5 X.K H0 D r,λσ' H' z=>z,H0,ρ,h,E.grow j,er,?_⟩;cases h with
    |nx d=>exact λσ' H' a=>⟨m,qk m,H0,d,r,a,e,f⟩
    |ct d=>exact λσ' H' a=>⟨m,qk m,H0,d,r,a,e,f⟩
    |bk d=>cases e;exact λσ' H' a=>f σ' H' a
    |rt b=>cases e;exact f
theorem Qi(n:Nat)(hp:PassesOwn (A8 X.prog X.w) X.A X.env X.xe)(a:QB X c t)(hb:R6 X body g):K4 X (.While c body [] pos) (Xr t g n):=⟨OW n hp a.run hb.run⟩
end
section
variable{h':A6}
theorem X9{t':Nat}{e:A1}(I:L2.AU X AN σ H s)(k:∀b o,b≠e->b≠it->s.heap.get? b=U o->h'.get? b=U o)(fe:qD X AN H e)(fi:qD X AN H it)(he:∃o,h'.get? e=U o)(hi:∃o,h'.get? it=U o)(new:gn X.prog X.w (B0 H s.heap.objs.size (.tup xs)) h' s.heap.objs.size (.tup xs)):L2.AU X AN σ (B0 H s.heap.objs.size (.tup xs)) { s with heap:=h',toks:=t' }:=by
 have h:H s.heap.objs.size=Y:=I.hok.fresh (zg _);have f:∀b u,H b=U u->b≠s.heap.objs.size:=λb u q z=>by rw[z,h]at q;cases q
 have ne:∀b u,H b=U u->b≠e/\b≠it:=λb u q=>⟨λz=>(by rw[z,fe.1]at q;cases q),λz=>(by rw[z,fi.1]at q;cases q)⟩;have d:∀b,b∉[e,it]->b≠e/\b≠it:=λb hb=>⟨λz=>hb (by simp[z]),λz=>hb (by simp[z])⟩;refine I.step (g':=s.gens) (d':=s.drawn) (ch:=[e,it]) (λb hb=>?_) (λb o _ _ a q _=>k b o (d b a).1 (d b a).2 q) (λb o _ _ a q _=>⟨o.slots,k b o (d b a).1 (d b a).2 q⟩) (λb o _ q n=>?_)
  (λb o a q=>⟨o,k b o (d b a).1 (d b a).2 q⟩) (λb ys q=>?_) (λb o u q=>?_) (λb ps q=>⟨#[],?_⟩) (λm i=>?_) (λb u q=>?_) I.bare
 ·rcases List.mem_cons.mp hb with rfl|hb
  ·exact⟨fe.2.2.2.1,fe.2.1,fe.2.2.2.2.1,fe.2.2.2.2.2⟩
  ·cases List.mem_singleton.mp hb;exact⟨fi.2.2.2.1,fi.2.1,fi.2.2.2.2.1,fi.2.2.2.2.2⟩
 ·rw[aP (Zl (zt q))];exact n
 ·rw[aP (f b _ q)];exact q
 ·rw[aP (f b _ q)];exact q
 ·rw[aP (f b _ q),q];simp
 ·obtain⟨o,es,ep,g,r⟩:=i;exact⟨o,es,ep,k _ o (jI fe.2.1) (jI fi.2.1) g,r⟩
 ·by_cases hb:b=s.heap.objs.size
  ·subst hb;rw[aU]at q;cases q;exact new
  ·rw[aP hb]at q;refine(I.hok b u q).stay (λc v a w=>k c v ?_ ?_ w) (λc w=>?_) λc ys w=>?_
   ·rcases a with rfl|z
    ·exact(ne _ _ q).1
    ·exact(ne _ _ z).1
   ·rcases a with rfl|z
    ·exact(ne _ _ q).2
    ·exact(ne _ _ z).2
   ·rw[aP (f c _ w)];exact w
   ·rw[aP (f c _ w)];exact w
end
def HC(K:B4)(l:A1):It:=
 ⟨λi H=>∃xs x,qO K H l xs/\xs[i]?=U x,λi H v H'=>∃p x,H p=Y/\(∀xs,qO K H l xs->xs[i]?=U x)/\v=.ref p/\H'=B0 H p (.tup [.int i,x]),λi H=>∃xs,qO K H l xs/\xs.length<=i⟩
theorem Xu(l e it:A1)(y:e≠it):
  C8 P w K (.Tuple elts x1 tpos) (HC K l) [e,it] e (λi h=>(∃old,IsEnum h e it i old)/\h.IsListIter it l i) where
 mem:=by simp
 obj:=λi h st b hb=>by
  obtain⟨⟨old,h1⟩,o,h2,_,J⟩:=st;rcases List.mem_cons.mp hb with rfl|hb
  ·exact⟨_,h1,λv z=>by cases z⟩
  ·cases List.mem_singleton.mp hb;exact⟨o,h2,λv z=>by rw[J]at z;cases z⟩
 keep:=λi h h' st k=>by
  obtain⟨⟨old,h1⟩,h2⟩:=st;exact⟨⟨old,k e (by simp) _ h1⟩,h2.at λo q=>k it (by simp) o q⟩
 item:=by
  intro X n g j A i AN s σ H E I a st m;subst n g j;obtain⟨⟨old,h1⟩,h2⟩:=st;obtain⟨xs,x,c,hx⟩:=m;obtain⟨AQ,f,p,L⟩:=I.list c;obtain⟨u,hu,F⟩:=f.get hx;have fe:=a e (by simp);have fi:=a it (by simp);refine wpAny_pyNext_enum_item h1 h2 p.isList (x:=u) (by simpa using hu) y λa3 ho a1 N a2 hk=>⟨_,rfl,?_⟩;refine wpAny_letOwnedTupleGo_enum ho λD C d=>?_;have elt:e<s.heap.objs.size:=zt h1;have a0:it<s.heap.objs.size:=by obtain⟨_,q,_⟩:=h2;exact zt q
  have M:D.get? s.heap.objs.size=U { cls:=.type "tuple",data:=.seq #[.int i s.toks,u] }:=(d.2 _ (jS elt)).trans N;have t:D.IsListIter it l (i+1):=a1.at λo q=>(d.2 it (jI y)).trans q;refine⟨.ref s.heap.objs.size,B0 H s.heap.objs.size (.tup [.int i,x]),X9 (t':=s.toks+1) I (λb o B G q=>(d.2 b B).trans (hk b o B G q)) fe fi ⟨_,C⟩ (by obtain⟨o,q,_⟩:=t;exact⟨o,q⟩) ?_,rfl,⟨_,x,I.hok.fresh (zg _),λys hy=>by rw[I.Ew hy c];exact hx,rfl,rfl⟩,⟨⟨_,by simpa using C⟩,t⟩,λb hb=>?_⟩
  ·exact⟨by show 2<=AA;decide,[.int i s.toks,u],.cons ⟨_,rfl⟩ (.cons F .nil),_,M,rfl,⟨_,rfl⟩,rfl⟩
  ·rcases List.mem_cons.mp hb with rfl|hb
   ·rw[aP (Zl elt)];exact fe.1
   ·cases List.mem_singleton.mp hb;rw[aP (Zl a0)];exact fi.1
 done:=by
  intro X n g j A i AN s σ H E I a st m;subst n g j;obtain⟨⟨old,h1⟩,h2⟩:=st;obtain⟨xs,c,hx⟩:=m;obtain⟨AQ,f,p,L⟩:=I.list c;obtain⟨f0,f1,f2,f3,W,Q⟩:=a it (by simp);have hl:=f.length;exact wpAny_pyNext_enum_end (I.ok.hd A) h1 h2 p.isList (by simp;omega) λh' eb=>⟨rfl,I.turned (t':=s.toks) (λb o hb e=>eb b o hb e) f0 f1 f3 W Q⟩
 self:=λ_ _ _ _ _ st h=>by
  obtain⟨⟨old,h1⟩,_⟩:=st;exact wpAny_pyIter_enum h1 h
def BJ(ds:Z Dt):Z Dt:=(List.range ds.length).zipWith (λk d=>.tup [.int (k:Nat),d]) ds
theorem J1(ds:Z Dt):(BJ ds).length=ds.length:=by simp[BJ]
theorem Xv(h:(BJ ds)[i]?=U d):∃c,ds[i]?=U c/\d=.tup [.int (i:Nat),c]:=by
 have hi:i<ds.length:=by
  have:=(List.getElem?_eq_some_iff.mp h).1;rwa [J1]at this
 refine⟨ds[i],by simp[hi],?_⟩;unfold BJ at h;rw[List.getElem?_zipWith]at h;simp[hi]at h;exact h.symm
theorem B1.enum(h:qO K Hs l vs)(r:aK K Hs ds vs):B1 K (HC K l) (BJ ds) Hs:=λi H s=>by
 have h':=s.seq h;have f:=r.kp (.of s);refine⟨λd e=>?_,λe=>⟨vs,h',by rw[J1]at e;rw[r.length];exact e⟩⟩;obtain⟨c,m,rfl⟩:=Xv e;obtain⟨v,ev,g⟩:=f.get m;refine⟨⟨vs,v,h',ev⟩,λx H' y=>?_⟩;obtain⟨p,n,hp,j,rfl,rfl⟩:=y;have:=j vs h';rw[ev]at this;cases this;have a:AV H (B0 H p (.tup [.int (i:Nat),v])):=λb o q=>by rw[aP (bH q hp)];exact q
 refine⟨a,?_⟩;simp only[AW];exact⟨p,_,rfl,.inl (.inl aU),aK.cons (by simp only[AW]) (aK.cons (AW.kp (.of a) g) aK.nil)⟩
section
variable{p:Pos}{fs:Ev->O (Z Bx)}
def UY(K:B4)(ta:TA):TI:=λσ H R=>ta σ H λvs H1=>∃l,vs=[.ref l]/\(∃xs,qO K H1 l xs)/\R (HC K l) H1
theorem Sa{ta:TA}(j:Gl X "enumerate")(m:X.mg "enumerate"=Y)(c:PA X [e] ta)(hs:A9 [e] X.env=[(false,eval e X.env)]:=by rfl):PI X (.Tuple elts x1 tpos) (.Call (.Name "enumerate" p) [e] [] pos) (UY X.K ta):=by
 intro AN s σ H R I h;refine Call_ (zU I j m boot_enumerate (PyProof.Rows.callWith_type1 (gM (c pos AN s σ H _ I h) λus s1 ⟨vs,H1,I1,r1,q1⟩=>?_) hs S));obtain⟨l,rfl,⟨xs,f⟩,q⟩:=q1;obtain⟨u,rfl,d⟩:=BC r1;cases d;obtain⟨AQ,o,p,n⟩:=I1.list f;refine call_enumerate_list p.isList λh' a g t i=>?_;refine wpAny_pyIter_enum a ?_;refine⟨s1.heap.objs.size+1,[s1.heap.objs.size+1,s1.heap.objs.size],_,_,H1,rfl,I1.kept (t':=s1.toks) i,Xu l _ _ (jS (qk _)),⟨⟨_,a⟩,g⟩,λb hb=>?_,q⟩;rcases List.mem_cons.mp hb with rfl|hb
 ·exact I1.N8 (JO _) (I1.hok.fresh (JO _))
 ·cases List.mem_singleton.mp hb;exact I1.N8 (zg _) (I1.hok.fresh (zg _))
def Qj:Z Bx->O (Z Dt)
 |[.z (.lst ds)]=>U (BJ ds)
 |_=>Y
theorem SH(m:Gl X "enumerate")(n:X.mg "enumerate"=Y)(f:ER X [e] fs)(hs:A9 [e] X.env=[(false,eval e X.env)]:=by rfl):NE X (.Tuple elts x1 tpos) (.Call (.Name "enumerate" p) [e] [] pos) (λρ=>(fs ρ).bind Qj):=λAN s σ H R I q=>by
 refine Sa m n f hs AN s σ H R I ?_;obtain⟨H0,ρ,ds,E,e,q⟩:=q;obtain⟨bs,eb,e⟩:=AT e;refine⟨H0,ρ,bs,E,eb,λvs H1 i h=>?_⟩;unfold Qj at e;split at e
 ·rename_i t;cases e;obtain⟨v,rfl,c⟩:=BM h;simp only[bh,AW]at c;obtain⟨a,l,rfl,b,g⟩:=c;refine⟨a,rfl,⟨l,b.sq⟩,q _ _ i λHs hs u d j=>.enum ?_ (g.part d j)⟩;rcases b with⟨o,b⟩|b
  ·exact .inl (.inr ⟨o,(d _ _ _ b).trans b⟩)
  ·exact .inr b
 ·cases e
theorem gS(a:Gl X "enumerate")(c:X.mg "enumerate"=Y)(b:Vb X [e] fs)(hs:A9 [e] X.env=[(false,eval e X.env)]:=by rfl):Eg X (.Tuple elts x1 tpos) (.Call (.Name "enumerate" p) [e] [] pos) (λρ=>(fs ρ).bind Qj):=⟨SH a c b.run hs⟩
end
def EZ(j i:Nat)(f:Ev->O Bx):Ev->O An:=λρ=>(f ρ).bind λb=>match b with
 |.z (.int k)=>match ρ[i]? with
  |some (U (.o ds))=>if -(2 ^ 62)<=k/\k<2 ^ 62 then(seqIndex? k ds.length).bind λm=>(ds[m]?).bind λd=>(WW (ρ.set i (U (.o (ds.eraseIdx m)))) j (.z d)).bind λa=>U (.nx a)else Y
  |_=>Y
 |_=>Y
theorem GC{K:B4}{H:Hp}:∀(m:Nat) {ds:Z Dt} {vs:Z V},aK K H ds vs->aK K H (ds.eraseIdx m) (vs.eraseIdx m)
 |m,[],vs,h=>by
  cases vs with
  |nil=>exact h
  |cons v vs=>have:=h.length;simp at this
 |m,d::ds,vs,h=>by
  cases vs with
  |nil=>have:=h.length;simp at this
  |cons v vs=>
   obtain⟨a,r,e,q,t⟩:∃a r,v::vs=a::r/\AW K H d a/\aK K H ds r:=by
    simpa only[aK]using h
   cases e;cases m with
   |zero=>exact t
   |succ m=>exact aK.cons q (GC m t)
theorem TM(j i:Nat){p:Pos}(J:X.N.Nodup)(he:PV X e f)(P:X.N[i]?=U x:=by rfl)(C:U3 X.env.scope x:=by first|exact JS rfl|exact QY (JS S)|exact QY (QY S))(hd:(x==("__debug__":AJ))=false:=by decide)(B:(x==("__classdict__":AJ))=false:=by decide)(l:A9 [e] X.env=[(false,eval e X.env)]:=by rfl)(L:attributeBase (.Name x p) "pop" X.env (eval (.Name x p) X.env)=eval (.Name x p) X.env:=by rfl)(M:((AD cpos (A9 [e] X.env)).all (λx=>!x.1)&&(backToKw cpos (keywordEach [] X.env)).all (λx=>x.1.isSome)
   && decide ([e].length+([]:Z AC).length+(if([]:Z AC).isEmpty then 0 else 1)<30))=true:=by rfl)(W:(apos.endLine==cpos.line)=true:=by rfl)(hj:X.N[j]?=U y:=by rfl)(hy:D4 X.env.scope y:=by first|exact JS rfl|exact QY S)(hs:swapsWith (.Call (.Attribute (.Name x p) "pop" apos) [e] [] cpos) (U (.Name y p2)) pos.line X.env=pure false:=by rfl)(G:X.fn y=true\/X.env.scope.names.lookup y=U .local:=by first|exact .inl rfl|exact .inr S):
  GA X (.Assign [.Name y p2] (.Call (.Attribute (.Name x p) "pop" apos) [e] [] cpos) pos) (EZ j i f):=
 Oi (zV J hj hy (U8 Ya PySem.F.slot_list_pop PySem.F.type_list_pop Y5 (rH (i:=i) P C hd B) (bw he d7 (by rw[l]<;>rfl)) L M W (by rw[l]<;>rfl) S) hs G) λD σ H h=>by
  obtain⟨H0,ρ,r,E,e,q⟩:=h;obtain⟨b,eb,e⟩:=AT e;split at e
  ·rename_i k;split at e
   ·rename_i ds s;split at e
    ·rename_i hb;obtain⟨m,em,e⟩:=AT e;obtain⟨d,ed,e⟩:=AT e;obtain⟨a0,Q,e⟩:=AT e;cases e;obtain⟨v,e1,a,vs,rfl,o,t⟩:=E.val i _ s;refine⟨_,e1,.inl ⟨rfl,vs,.inl (.inl o)⟩,H0,ρ,_,E,eb,λu H1 g n1 I=>?_⟩;have E1:=E.grow g;have n:=t.kp (.of g);obtain⟨w,A,K⟩:=n.get ed;have hu:u=.int k:=by simpa only[bh,AW]using I
     subst hu;have c:=g _ _ o;refine⟨a,vs,k,m,w,rfl,rfl,c,by omega,by omega,by rw[t.length];exact em,A,?_⟩;have E2:=E1.R0 s e1 c (GC m n);have kp:Kp H1 (B0 H1 a (.lst (vs.eraseIdx m))):=.lst c;exact q _ _ (Vd E2 (AV.refl _) (b:=.z d) (by simp only[bh];exact AW.kp kp K) trivial Q)
    ·cases e
   ·cases e
  ·cases e
theorem XA(j i:Nat){p:Pos}(l:X.N.Nodup)(he:QV X e f)(o:X.N[i]?=U x:=by rfl)(g:U3 X.env.scope x:=by first|exact JS rfl|exact QY (JS S)|exact QY (QY S))(n:(x==("__debug__":AJ))=false:=by decide)(b:(x==("__classdict__":AJ))=false:=by decide)(m:A9 [e] X.env=[(false,eval e X.env)]:=by rfl)(q:attributeBase (.Name x p) "pop" X.env (eval (.Name x p) X.env)=eval (.Name x p) X.env:=by rfl)(a:((AD cpos (A9 [e] X.env)).all (λx=>!x.1)&&(backToKw cpos (keywordEach [] X.env)).all (λx=>x.1.isSome)
   && decide ([e].length+([]:Z AC).length+(if([]:Z AC).isEmpty then 0 else 1)<30))=true:=by rfl)(d:(apos.endLine==cpos.line)=true:=by rfl)(s:X.N[j]?=U y:=by rfl)(c:D4 X.env.scope y:=by first|exact JS rfl|exact QY S)(hs:swapsWith (.Call (.Attribute (.Name x p) "pop" apos) [e] [] cpos) (U (.Name y p2)) pos.line X.env=pure false:=by rfl)(h:X.fn y=true\/X.env.scope.names.lookup y=U .local:=by first|exact .inl rfl|exact .inr S):
  K4 X (.Assign [.Name y p2] (.Call (.Attribute (.Name x p) "pop" apos) [e] [] cpos) pos) (EZ j i f):=
 ⟨TM j i l he.run o g n b m q a d s c hs h⟩
def GI(ρ:Ev)(i:Nat):Bx->O An
 |.o zs=>match ρ[i]? with
  |some (U (.o ds))=>if ds.length+zs.length<=AA then U (.nx (ρ.set i (U (.o (ds++zs)))))else Y
  |_=>Y
 |_=>Y
def F0(i:Nat)(f:Ev->O Bx):Ev->O An:=λρ=>(f ρ).bind (GI ρ i)
theorem iq(i:Nat){p:Pos}(he:PV X e f)(A:X.N[i]?=U x:=by rfl)(w:U3 X.env.scope x:=by first|exact JS rfl|exact QY (JS S)|exact QY (QY S))(z:(x==("__debug__":AJ))=false:=by decide)(s:(x==("__classdict__":AJ))=false:=by decide)(l:A9 [e] X.env=[(false,eval e X.env)]:=by rfl)(I:attributeBase (.Name x p) "extend" X.env (eval (.Name x p) X.env)=eval (.Name x p) X.env:=by rfl)(n:((AD cpos (A9 [e] X.env)).all (λx=>!x.1)&&(backToKw cpos (keywordEach [] X.env)).all (λx=>x.1.isSome)
   && decide ([e].length+([]:Z AC).length+(if([]:Z AC).isEmpty then 0 else 1)<30))=true:=by rfl)(t:(apos.endLine==cpos.line)=true:=by rfl)(hs:swapsWith (.Call (.Attribute (.Name x p) "extend" apos) [e] [] cpos) Y pos.line X.env=pure false:=by rfl):
  GA X (.Expr (.Call (.Attribute (.Name x p) "extend" apos) [e] [] cpos) pos) (F0 i f):=
 Oi (yj (U8 Ya PySem.F.slot_list_extend PySem.F.type_list_extend WK (rH (i:=i) A w z s) (bw he d7 (by rw[l]<;>rfl)) I n t (by rw[l]<;>rfl) S) hs) λD σ H h=>by
  obtain⟨H0,ρ,r,E,e,q⟩:=h;obtain⟨b,eb,e⟩:=AT e;cases b with
  |o zs=>
   simp only[GI]at e;split at e
   ·rename_i ds g;split at e
    ·rename_i G;cases e;obtain⟨v,e1,a,vs,rfl,d,j⟩:=E.val i _ g;refine⟨_,e1,.inl ⟨rfl,vs,.inl (.inl d)⟩,H0,ρ,_,E,eb,λu H1 c J y=>?_⟩;have B:=E.grow c;obtain⟨b,C,rfl,hb,m⟩:=y;refine⟨a,b,vs,C,rfl,rfl,c _ _ d,hb,by rw[j.length,m.length];exact G,q _ _ ?_⟩;exact B.R0 g e1 (c _ _ d) ((j.kp (.of c)).append m)
    ·cases e
   ·cases e
  |_=>cases e
theorem Se(i:Nat){p:Pos}(he:QV X e f)(j:X.N[i]?=U x:=by rfl)(g:U3 X.env.scope x:=by first|exact JS rfl|exact QY (JS S)|exact QY (QY S))(d:(x==("__debug__":AJ))=false:=by decide)(b:(x==("__classdict__":AJ))=false:=by decide)(h:A9 [e] X.env=[(false,eval e X.env)]:=by rfl)(l:attributeBase (.Name x p) "extend" X.env (eval (.Name x p) X.env)=eval (.Name x p) X.env:=by rfl)(a:((AD cpos (A9 [e] X.env)).all (λx=>!x.1)&&(backToKw cpos (keywordEach [] X.env)).all (λx=>x.1.isSome)
   && decide ([e].length+([]:Z AC).length+(if([]:Z AC).isEmpty then 0 else 1)<30))=true:=by rfl)(c:(apos.endLine==cpos.line)=true:=by rfl)(hs:swapsWith (.Call (.Attribute (.Name x p) "extend" apos) [e] [] cpos) Y pos.line X.env=pure false:=by rfl):
  K4 X (.Expr (.Call (.Attribute (.Name x p) "extend" apos) [e] [] cpos) pos) (F0 i f):=⟨iq i he.run j g d b h l a c hs⟩
section
variable{ek ev:Expr}
def HK:Ev->O An:=λ_=>Y
theorem adN:K4 X st HK:=⟨λD AN s σ H I q=>by
 obtain⟨H0,ρ,r,E,e,q⟩:=q;cases e⟩
def BK(f:Ev->O Bx):Ev->O An:=λρ=>(f ρ).bind λ_=>U (.nx ρ)
theorem Mh(he:QV X e f)(hs:swapsWith e Y pos.line X.env=pure false:=by rfl):K4 X (.Expr e pos) (BK f):=⟨Oi (yj he.run hs) λD σ H h=>by
 obtain⟨H0,ρ,r,E,e,q⟩:=h;obtain⟨b,eb,e⟩:=AT e;cases e;exact⟨H0,ρ,b,E,eb,λv H1 a d c=>q _ _ (E.grow a)⟩⟩
def J2:Bx->Bx->O Bx
 |.z (.str x),.z d=>U (.m [(.inr x,d)] Y)
 |_,_=>Y
theorem Tt{a c:Bx}(h:J2 a b=U c):∃x d,a=.z (.str x)/\b=.z d/\c=.m [(.inr x,d)] Y:=by
 unfold J2 at h;split at h
 ·cases h;exact⟨_,_,rfl,rfl,rfl⟩
 ·cases h
theorem YV(t:QV X ek fk)(m:QV X ev fv):QV X (.Dict [U ek] [ev] pos) (b2 J2 fk fv):=⟨Ii (XL (Za t.run m.run WB) S S (by simp) (zz S)) λσ H Q h=>by
 obtain⟨H0,ρ,c,E,e,q⟩:=h;obtain⟨a,ea,e⟩:=AT e;obtain⟨b,eb,e⟩:=AT e;intro p hp;have f:AV H (B0 H p (.dK [])):=bI hp;refine⟨H0,ρ,a,E.grow f,ea,λv H1 g u n=>⟨H0,ρ,b,(E.grow f).grow g,eb,λw H2 i y l=>?_⟩⟩;obtain⟨x,d,rfl,rfl,rfl⟩:=Tt e;obtain⟨rfl,hx⟩:v=.str x/\x.length<=AA:=by simpa only[bh,AW]using n
 have j:H2 p=U (.dK []):=i _ _ (g _ _ aU);have kp:Kp H2 (B0 H2 p (.dK (z7 [] [(Sum.inr x,w)]))):=.dk j;refine⟨j,[(Sum.inr x,w)],rfl,zz rfl,q _ _ ?_ (λa ea=>by cases ea;exact hp) ⟨p,_,rfl,aU,?_,λb h=>by cases h⟩⟩
 ·intro b o hb;have s:b≠p:=λz=>by rw[z,hp]at hb;cases hb
  rw[aP s];exact i _ _ (g _ _ (f _ _ hb))
 ·exact fL.cons (p:=(Sum.inr x,d)) (AW.kp kp l) hx fL.nil⟩
def FO(AO:Z (AY×α))(x:AY):Bool:=AO.any λa=>decide (a.1=x)
def Xw(a:Bx):Bx->O Bx
 |.n AO=>(Co a).bind λx=>U (.z (.bl (!FO AO x)))
 |_=>Y
theorem fL.alp{p:A1}{ks:Z (AY×V)}(b:Rd H p (.dK ks))(a:fL K H AO ks)(x:AY):∃o,Y7 H p (kV x) o/\o.isSome=FO AO x:=by
 refine⟨zY ks x,.inl ⟨ks,x,b,rfl,rfl⟩,?_⟩;unfold FO zY;rw[<-a.any,Option.isSome_map,JE,List.find?_isSome,QP]
theorem VF(w:X.A.units+100<cLine):Dy X (AG .NotIn) Xw:=by
 intro AN s σ H x y v u Q I l t h;obtain⟨a,b,c,j,f,e,q⟩:=h;unfold Xw at e;split at e
 ·rename_i AO;obtain⟨k,ek,e⟩:=AT e;cases e;obtain⟨p,ks,rfl,d,i⟩:=f;obtain⟨rfl,_⟩:=Li ek j;cases t;obtain⟨o,g,m⟩:=i.alp d k;exact Sz (by omega) I g l λs' n=>⟨.bl (!o.isSome),H,n,rfl,q _ H (AV.refl H) trivial (by simp only[bh,AW];rw[m])⟩
 ·cases e
end
section
variable{st:Expr}{fs:Ev->O Bx}
def Tv(a b:Bx):O Bx:=(oV a).bind λds=>match b with
 |.z (.int i)=>if i = -1 then U (.o ds.reverse)else Y
 |_=>Y
theorem Xx{a c:Bx}(h:Tv a b=U c):∃ds,oV a=U ds/\b=.z (.int (-1))/\c=.o ds.reverse:=by
 unfold Tv at h;obtain⟨ds,d,h'⟩:=AT h;clear h;split at h'
 ·split at h'
  ·rename_i hi;subst hi;injection h' with h';exact⟨ds,d,rfl,h'.symm⟩
  ·cases h'
 ·cases h'
theorem VG(he:QV X e f)(G:QV X st fs)(C:∀v i:A0,subscripted (.Slice Y Y (U st) p2) false v i=operate [v,i] (getItem v i):=by intro _ _;with_unfolding_all rfl):QV X (.Subscript e (.Slice Y Y (U st) p2) pos) (b2 Tv f fs):=by
 refine⟨?_⟩;intro AN s σ H Q I h;obtain⟨H0,ρ,c,E,g,q⟩:=h;obtain⟨a,ea,g⟩:=AT g;obtain⟨b,eb,g⟩:=AT g;refine Subscript_ (gM (he.run AN s σ H (λx H1=>AV H H1/\bh X.K H1 a x) I ⟨H0,ρ,a,E,ea,λv H1 t M m=>⟨t,m⟩⟩) λv t ⟨x,H1,I1,m,sm1,BM⟩=>?_);refine wpAny_Slice ?_;rw[evalPart_none];refine ze ?_;refine ze ?_;rw[evalPart_some];refine gM (G.run AN t σ H1 (λy H2=>AV H1 H2/\bh X.K H2 b y) I1 ⟨H0,ρ,b,E.grow sm1,eb,λv H2 d N j=>⟨d,j⟩⟩) λvk d ⟨y,H2,I2,j,sm2,F6⟩=>?_;obtain⟨ds,J,rfl,rfl⟩:=Xx g;have D:y=.int (-1):=by simpa only[bh,AW]using F6
 subst D;obtain⟨tk,rfl⟩:=j;obtain⟨p,vs,rfl,sq,F⟩:=(BM.same sm2).HW J;cases m;have n:L2.AU X AN σ H2 { d with heap:=d.heap.push { cls:=.type "slice",data:=.fields #[.none,.none,.int (-1) tk] } }:=I2.kept (t':=d.toks) λb L q=>zd _ q;obtain⟨AQ,r,B,u⟩:=n.list sq;show A7 (A8 X.prog X.w) X.A (subscriptTail e (.Slice Y Y (U st) p2) (.ref p) (.ref d.heap.objs.size)) (EP X AN σ Q) X.xe { d with heap:=d.heap.push { cls:=.type "slice",data:=.fields #[.none,.none,.int (-1) tk] } };refine tail_any (ops:=[.ref p,.ref d.heap.objs.size]) B.isList.typeIs list_getitem_lookup (wpAny_getItem_list_slice B.isList (Heap.IsSliceOf.new ..) .none .none (.int _ _) (by decide) ?_ (by rw[zI,<-r.length];exact u)) (C _ _);rw[PySem.W.krv_pick];have l:=n.hok.fresh (zg _);refine⟨.ref _,_,n.laid (t':=d.toks) (o:=.lst vs.reverse) (λb L q=>zd _ q) (zg _) ?_,rfl,q _ _ ((sm1.trans sm2).trans (bI l)) (λa z=>by cases z;exact(sm1.trans sm2).free l) ?_⟩
 ·exact⟨by rw[List.length_reverse];exact u,AQ.reverse,0,r.reverse,zv _ rfl⟩
 ·exact⟨_,_,rfl,aU,(aK.rev F).kp (.of (bI l))⟩
end
theorem ad{a b:Nat}(h:a≠b):@Ne A1 a b:=h
section
variable{K:Type} [DecidableEq K] {knd:KeyKind prog w K}
end
section
variable{ea eb:Expr}{p1 pos1 pos2:Pos}
end
theorem uD(xs:AZ)(is:Z Nat)(a:closureFor scope X.env=pure cl:=by with_unfolding_all rfl)(b:scope.kind=.function:=by rfl)(d:scope.names.all (λy=>decide (y.2≠.cell)||(cl.lookup y.1).isNone)=true:=by rfl)(e:scope.names.all (λy=>decide (y.2=.local->scope.names.lookup y.1=U .local))=true:=by decide +kernel)(sub:C7 X.env.cells cl:=by repeat (first|exact trivial|refine⟨rfl,?_⟩))(has:(relabel scope X.env).names.all (λy=>!(y.2==.cell||y.2==.free)||(cl.lookup y.1).isSome||scope.names.contains (y.1,.cell))=true:=by rfl)(c:Ik X scope cl xs is:=by repeat (first|exact TU|refine VQ S (by first|exact .inl rfl|exact .inr S) (by first|exact .inl rfl|exact .inr S) ⟨_,rfl⟩ ?_)):rM X scope cl xs is:=X1 a b d e sub has c
theorem j4{a:Scope}(h1:a.kind=.function:=by rfl)(h2:a.isCoroutine=false:=by rfl)(d:a.isGenerator=false:=by rfl)(f:N.Nodup:=by decide +kernel)(b:N.take ps.length=ps:=by rfl)(e:∀x∈ps,a.names.lookup x=U .local\/a.names.lookup x=U .cell:=by decide +kernel)(c:∀y∈a.names,y.2≠.free:=by decide +kernel):bB N ps a:=⟨h1,h2,d,f,b,e,c⟩
instance:Inhabited Dt:=⟨.non⟩
theorem Au(a:α)(f:α->O β):(U a).bind f=f a:=(JI a f).trans (Eq.refl _)
def hold:O Prop->Prop
 |none=>True
 |some p=>p
def bA:O Prop->O Prop->O Prop
 |none,q=>q
 |some p,Y=>U p
 |some p,U q=>U (p/\q)
def Mi(c:Prop):O Prop->O Prop
 |none=>Y
 |some p=>U (c->p)
theorem aB{p q:O Prop}(h:hold (bA p q)):hold p/\hold q:=by
 cases p with
 |none=>exact⟨trivial,h⟩
 |some p=>cases q with
  |none=>exact⟨h,trivial⟩
  |some q=>exact h
theorem mD{c:Prop}{p:O Prop}(h:hold (Mi c p))(a:c):hold p:=by
 cases p with
 |none=>trivial
 |some p=>exact h a
structure R {α β:Type} (f:Ev->Option β) (ρ:Ev) (c:α->β) where
 v:α
 D:Option Prop
 ok:hold D->f ρ=some (c v)
abbrev zE(e:α->Dt):α->Bx:=λa=>.z (e a)
abbrev oE(e:α->Dt):Z α->Bx:=λxs=>.o (xs.map e)
abbrev lE(e:α->Dt):Z α->Bx:=λxs=>.l (xs.map e)
abbrev tE:Bool->Bool:=λb=>b
abbrev iE(e:α->Dt):Z α->Z Dt:=λxs=>xs.map e
abbrev eI:Int->Dt:=Dt.int
abbrev eB:Bool->Dt:=Dt.bl
abbrev eS:AJ->Dt:=Dt.str
abbrev eD:Dt->Dt:=λd=>d
abbrev eN:Unit->Dt:=λ_=>.non
abbrev eL(e:α->Dt):Z α->Dt:=λxs=>.lst (xs.map e)
abbrev eT(e:α->Dt):Z α->Dt:=λxs=>.tup (xs.map e)
abbrev eO(e:α->Dt):O α->Dt:=λo=>match o with|none=>.non|some a=>e a
abbrev Na(a:α->Dt):α->Dt:=λx=>.tup [a x]
abbrev Xy(a:α->Dt)(b:β->Dt):α×β->Dt:=λx=>.tup [a x.1,b x.2]
abbrev ED(a:α->Dt)(b:β->Dt)(c:γ->Dt):α×β×γ->Dt:=λx=>.tup [a x.1,b x.2.1,c x.2.2]
abbrev EH(a:α->Dt)(b:β->Dt)(c:γ->Dt)(d:δ->Dt):α×β×γ×δ->Dt:=λx=>.tup [a x.1,b x.2.1,c x.2.2.1,d x.2.2.2]
structure RL {α:Type} (f:Ev->Option Bx) (ρ:Ev) (e:α->Dt) where
 v:List α
 D:Option Prop
 b:Bx
 lk:oV b=some (v.map e)
 ok:hold D->f ρ=some b
section
variable{fs:Ev->O (Z Bx)}{e:α->Dt}{e':β->Dt}
def gC(a:R f ρ (oE e)):RL f ρ e:=⟨a.v,a.D,_,rfl,a.ok⟩
def cX(a:R f ρ (lE e)):RL f ρ e:=⟨a.v,a.D,_,rfl,a.ok⟩
def yV(a:R f ρ (zE (eL e))):RL f ρ e:=⟨a.v,a.D,_,rfl,a.ok⟩
def Lp(b:Bx)(ds:Z Dt):Prop:=b=.z (.lst ds)\/b=.l ds
theorem Lp.HW(h:Lp b ds):oV b=U ds:=by rcases h with rfl|rfl<;>rfl
theorem Lp.get{b:Bx}{ds:Z Dt}{i:Nat}(h:Lp b ds)(hi:ρ[i]?=U (U b)):yu ρ i=U b:=by
 rcases h with rfl|rfl<;>(unfold yu;rw[hi])
theorem o8(h:oV b=U ds):Lp (P1.lend b) ds:=by
 cases b with
 |z d=>cases d<;>cases h;exact .inl rfl
 |l d=>cases h;exact .inr rfl
 |o d=>cases h;exact .inr rfl
 |n d=>cases h
 |m d _=>cases h
def aq(i:Nat)(c:α->Bx)(a:α)(h:yu ρ i=U (c a)):R (gv i) ρ c:=⟨a,Y,λ_=>h⟩
def jA(i:Nat)(e:α->Dt)(a:Z α)(h:Lp b (a.map e))(hi:ρ[i]?=U (U b)):RL (gv i) ρ e:=⟨a,Y,b,h.HW,λ_=>h.get hi⟩
def yW(d:Dt)(e:α->Dt)(a:α)(h:d=e a):R (cB d) ρ (zE e):=⟨a,Y,λ_=>by rw[h];rfl⟩
def GD(a:R f ρ (zE e)):R f ρ (zE eD):=⟨e a.v,a.D,a.ok⟩
def GF(a:R f ρ (zE e)):R f ρ (zE (eO e)):=⟨U a.v,a.D,a.ok⟩
def Tw:R (cB .non) ρ (zE (eO e)):=⟨Y,Y,λ_=>S⟩
def BL[Inhabited α](a:R f ρ (zE (eO e))):R f ρ (zE e):=⟨a.v.getD default,bA a.D (U (a.v.isSome=true)),λh=>by
 obtain⟨h1,h2⟩:=aB h;rw[a.ok h1];have h2:a.v.isSome=true:=h2;cases b:a.v with
 |none=>rw[b]at h2;cases h2
 |some x=>rfl⟩
def Mj(a:R f ρ (oE e)):R (b1 vW f) ρ (zE (eL e)):=⟨a.v,a.D,λh=>by simp only[b1,a.ok h,Au,vW]⟩
def jP(a:R f ρ (zE e)):R (b1 vW f) ρ (zE e):=⟨a.v,a.D,λh=>by simp only[b1,a.ok h,Au,vW]⟩
def fP(a:R fa ρ (zE eI))(b:R fb ρ (zE eI)):R (b2 dH fa fb) ρ (zE eI):=⟨a.v+b.v,bA a.D b.D,λh=>by
 obtain⟨h1,h2⟩:=aB h;simp only[b2,a.ok h1,b.ok h2,Au,dH]⟩
def Qk(a:R fa ρ (zE eI))(b:R fb ρ (zE eI)):R (b2 C2 fa fb) ρ (zE eI):=⟨a.v-b.v,bA a.D b.D,λh=>by
 obtain⟨h1,h2⟩:=aB h;simp only[b2,a.ok h1,b.ok h2,Au,i2]⟩
def ET(a b:Int):Prop:=(-18446744073709551616<a/\a<18446744073709551616)\/(-18446744073709551616<b/\b<18446744073709551616)
def IJ(a:R fa ρ (zE eI))(b:R fb ρ (zE eI)):R (b2 uU fa fb) ρ (zE eI):=⟨a.v*b.v,bA (bA a.D b.D) (U (ET a.v b.v)),λh=>by
 obtain⟨h,c⟩:=aB h;obtain⟨h1,h2⟩:=aB h;simp only[b2,a.ok h1,b.ok h2,Au];exact zh c⟩
def Ml(n:Int)(a : -18446744073709551616<n/\n<18446744073709551616)(b:R fb ρ (zE eI)):R (b2 uU (cB (.int n)) fb) ρ (zE eI):=⟨n*b.v,b.D,λh=>by
 simp only[b2,b.ok h,Au,cB];exact zh (.inl a)⟩
def VH(a:R fa ρ (zE eI))(n:Int)(b : -18446744073709551616<n/\n<18446744073709551616):R (b2 uU fa (cB (.int n))) ρ (zE eI):=⟨a.v*n,a.D,λh=>by
 simp only[b2,a.ok h,Au,cB];exact zh (.inr b)⟩
def su(a:R fa ρ (zE eI))(n:Int)(b:0<n/\n<1073741824):R (b2 yI fa (cB (.int n))) ρ (zE eI):=⟨a.v / n,a.D,λh=>by
 simp only[b2,a.ok h,Au,i2,cB,zh b]⟩
def vA(a:R fa ρ (zE eI))(b:R fb ρ (zE eI)):R (b2 fj fa fb) ρ (zE eI):=⟨a.v%b.v,bA (bA a.D b.D) (U (0<b.v)),λh=>by
 obtain⟨h,c⟩:=aB h;obtain⟨h1,h2⟩:=aB h;have c:0<b.v:=c;simp only[b2,a.ok h1,b.ok h2,Au,i2,zh c]⟩
def cQ(a:R fa ρ (zE eI))(n:Int)(b:0<n):R (b2 fj fa (cB (.int n))) ρ (zE eI):=⟨a.v%n,a.D,λh=>by
 simp only[b2,a.ok h,Au,i2,cB,zh b]⟩
def gL(a b:Int)(n:Nat)(h:0<=b/\b<=1000/\a.natAbs<18446744073709551616)(hb:b.toNat=n):R (b2 Hk (cB (.int a)) (cB (.int b))) ρ (zE eI):=⟨a ^ n,Y,λ_=>by
 simp only[b2,Au,cB];show((if 0<=b/\b<=1000/\a.natAbs<2 ^ 64 then U (Dt.int (a ^ b.toNat))else Y).bind λd=>U (Bx.z d))=_;rw[zh h,hb];rfl⟩
def N4(a:R fa ρ (zE eI))(b:R fb ρ (zE eI)):R (b2 Fu fa fb) ρ (zE eB):=⟨decide (a.v<=b.v),bA a.D b.D,λh=>by
 obtain⟨h1,h2⟩:=aB h;simp only[b2,a.ok h1,b.ok h2,Au,i2]⟩
def Md(a:R fa ρ (zE eI))(b:R fb ρ (zE eI)):R (b2 Ff fa fb) ρ (zE eB):=⟨decide (b.v<a.v),bA a.D b.D,λh=>by
 obtain⟨h1,h2⟩:=aB h;simp only[b2,a.ok h1,b.ok h2,Au,i2]⟩
def IT(a:R fa ρ (zE eI))(b:R fb ρ (zE eI)):R (b2 IM fa fb) ρ (zE eB):=⟨decide (b.v<=a.v),bA a.D b.D,λh=>by
 obtain⟨h1,h2⟩:=aB h;simp only[b2,a.ok h1,b.ok h2,Au,i2]⟩
def L6(a:R fa ρ (zE eI))(b:R fb ρ (zE eI)):R (b2 EO fa fb) ρ (zE eB):=⟨decide (a.v<b.v),bA a.D b.D,λh=>by
 obtain⟨h1,h2⟩:=aB h;simp only[b2,a.ok h1,b.ok h2,Au,EO]⟩
def Cf(x y:AJ):Bool:=decide (x.cps.toList<y.cps.toList)
end
class B6 {α:Type} [DecidableEq α] (e:α->Dt) (n:outParam Nat):Prop where
 eq:∀a b,uz (e a) (e b)=some (decide (a=b))
 dp:∀a,uc (e a)<=n
class CS {α:Type} (e:α->Dt):Prop where
 l:∀a,uz .non (e a)=some false
 r:∀a,uz (e a) .non=some false
instance:B6 eI 1:=⟨λa b=>rfl,λa=>by simp[uc]⟩
instance:B6 eB 1:=⟨λa b=>rfl,λa=>by simp[uc]⟩
instance:B6 eS 1:=⟨λa b=>rfl,λa=>by simp[uc]⟩
instance:CS eI:=⟨λa=>rfl,λa=>rfl⟩
instance:CS eB:=⟨λa=>rfl,λa=>rfl⟩
instance:CS eS:=⟨λa=>rfl,λa=>rfl⟩
section
variable [DecidableEq α] [DecidableEq β] [DecidableEq γ] [DecidableEq δ] {e:α->Dt}{e':β->Dt}{e'':γ->Dt}{e3:δ->Dt}{m k l:Nat}
theorem GJ[B6 e n]:∀xs ys:Z α,lu (xs.map e) (ys.map e)=U (decide (xs=ys))
 |[],[]=>by simp[lu]
 |[],y::ys=>by simp[lu]
 |x::xs,[]=>by simp[lu]
 |x::xs,y::ys=>by
  simp only[zw,lu,B6.eq,GJ xs ys];congr 1;by_cases h:x=y<;>by_cases h':xs=ys<;>simp[h,h']
theorem GK[B6 e n]:∀xs:Z α,uQ (xs.map e)<=n
 |[]=>by simp[uQ]
 |x::xs=>by
  have:=B6.dp (e:=e) x;have:=GK xs;simp only[zw,uQ];omega
instance [B6 e n]:B6 (eL e) (n+1):=⟨λa b=>GJ a b,λa=>by simp only[uc];have:=GK (e:=e) a;omega⟩
instance [B6 e n]:B6 (eT e) (n+1):=⟨λa b=>GJ a b,λa=>by simp only[uc];have:=GK (e:=e) a;omega⟩
instance:CS (eL e):=⟨λa=>rfl,λa=>rfl⟩
instance:CS (eT e):=⟨λa=>rfl,λa=>rfl⟩
instance:CS (Na e):=⟨λa=>rfl,λa=>rfl⟩
instance:CS (Xy e e'):=⟨λa=>rfl,λa=>rfl⟩
instance:CS (ED e e' e''):=⟨λa=>rfl,λa=>rfl⟩
instance:CS (EH e e' e'' e3):=⟨λa=>rfl,λa=>rfl⟩
instance [B6 e n]:B6 (Na e) (n+1):=⟨λa b=>by
 simp only[DP,lu,B6.eq,Ki],λa=>by
 have:=B6.dp (e:=e) a;simp only[uc,uQ];omega⟩
instance [B6 e n] [B6 e' m]:B6 (Xy e e') (max n m+1):=⟨λa b=>by
 obtain⟨a,a'⟩:=a;obtain⟨b,b'⟩:=b;simp only[DP,lu,B6.eq,Prod.mk.injEq,Bool.decide_and,Ki],λa=>by
 have:=B6.dp (e:=e) a.1;have:=B6.dp (e:=e') a.2;simp only[uc,uQ];omega⟩
instance [B6 e n] [B6 e' m] [B6 e'' k]:B6 (ED e e' e'') (max n (max m k)+1):=⟨λa b=>by
 obtain⟨a,a',a2⟩:=a;obtain⟨b,b',b2⟩:=b;simp only[DP,lu,B6.eq,Prod.mk.injEq,Bool.decide_and,Ki],λa=>by
 have:=B6.dp (e:=e) a.1;have:=B6.dp (e:=e') a.2.1;have:=B6.dp (e:=e'') a.2.2;simp only[uc,uQ];omega⟩
instance [B6 e n] [B6 e' m] [B6 e'' k] [B6 e3 l]:B6 (EH e e' e'' e3) (max n (max m (max k l))+1):=⟨λa b=>by
 obtain⟨a,a',a2,a3⟩:=a;obtain⟨b,b',b2,b3⟩:=b;simp only[DP,lu,B6.eq,Prod.mk.injEq,Bool.decide_and,Ki],λa=>by
 have:=B6.dp (e:=e) a.1;have:=B6.dp (e:=e') a.2.1;have:=B6.dp (e:=e'') a.2.2.1;have:=B6.dp (e:=e3) a.2.2.2;simp only[uc,uQ];omega⟩
instance [B6 e n] [CS e]:B6 (eO e) (n+1):=⟨λa b=>by
 cases a with
 |none=>cases b with
  |none=>exact rfl
  |some b=>exact(CS.l (e:=e) b).trans (by simp)
 |some a=>cases b with
  |none=>exact(CS.r (e:=e) a).trans (by simp)
  |some b=>exact(B6.eq (e:=e) a b).trans (by simp),λa=>by
 cases a with
 |none=>show uc .non<=n+1;simp[uc]
 |some a=>exact Nat.le_succ_of_le (B6.dp (e:=e) a)⟩
end
section
variable{fs:Ev->O (Z Bx)}{e:α->Dt}{e':β->Dt}
def C3[DecidableEq α][B6 e n](c:n<=100)(a:R fa ρ (zE e))(b:R fb ρ (zE e)):R (b2 BT fa fb) ρ (zE eB):=⟨decide (a.v=b.v),bA a.D b.D,λh=>by
 obtain⟨h1,h2⟩:=aB h;have:=B6.dp (e:=e) a.v;simp only[b2,a.ok h1,b.ok h2,Au,BT,oX,toD,zr,or_self,ZO,B6.eq];rw[zh (by omega)]⟩
def HL[DecidableEq α][B6 e n](c:n<=100)(a:R fa ρ (zE e))(b:R fb ρ (zE e)):R (b2 Sq fa fb) ρ (zE eB):=⟨!decide (a.v=b.v),bA a.D b.D,λh=>by
 obtain⟨h1,h2⟩:=aB h;have:=B6.dp (e:=e) a.v;simp only[b2,a.ok h1,b.ok h2,Au,Sq,oX,toD,zr,or_self,ZO,B6.eq];rw[zh (by omega)]⟩
theorem Eh(h:oV b=U ds):toD b=.lst ds/\oX b=false:=by
 cases b with
 |z d=>cases d<;>cases h;exact⟨rfl,rfl⟩
 |l d=>cases h;exact⟨rfl,rfl⟩
 |o d=>cases h;exact⟨rfl,rfl⟩
 |n d=>cases h
 |m d _=>cases h
def He[DecidableEq α][B6 e n](c:n+1<=100)(a:RL fa ρ e)(b:RL fb ρ e):R (b2 Sq fa fb) ρ (zE eB):=⟨!decide (a.v=b.v),bA a.D b.D,λh=>by
 obtain⟨h1,h2⟩:=aB h;simp only[b2,a.ok h1,b.ok h2,Au,Sq,(Eh a.lk).1,(Eh a.lk).2,(Eh b.lk).1,(Eh b.lk).2,zr,or_self,ZO];have e1:=B6.eq (e:=eL e) a.v b.v;rw[zh (ZH (Nat.min_le_left _ _) (ZH (B6.dp (e:=eL e) a.v) c)),e1,Au]⟩
def iL(a:R fa ρ (zE (eO e)))(b:∀x,Ga (.z (e x))=false):R (b2 DS fa (cB .non)) ρ (zE eB):=⟨a.v.isNone,a.D,λh=>by
 simp only[b2,a.ok h,Au,cB,DS];cases c:a.v with
 |none=>rfl
 |some x=>simp only[Option.isNone_some,b]⟩
def Ei(a:R fa ρ (zE (eO e)))(b:∀x,Ga (.z (e x))=false):R (b2 Bo fa (cB .non)) ρ (zE eB):=⟨a.v.isSome,a.D,λh=>by
 simp only[b2,a.ok h,Au,cB,Bo];cases c:a.v with
 |none=>rfl
 |some x=>simp only[yT,b,kX]⟩
def Ql(a:R fa ρ (zE eB))(b:R fb ρ (zE eB)):R (Om fa fb) ρ (zE eB):=⟨a.v&&b.v,bA a.D (Mi (a.v=true) b.D),λh=>by
 obtain⟨h1,h2⟩:=aB h;simp only[Om,a.ok h1,Au,KY];cases c:a.v with
 |true=>simp only[qS,ya];exact b.ok (mD h2 c)
 |false=>simp only[zr,ZO,yA]⟩
def Tz(a:R fa ρ (zE eB)):R (tV fa) ρ tE:=⟨a.v,a.D,λh=>by simp only[tV,a.ok h,Au,Zi]⟩
def SW(a:RL fa ρ e):R (tV fa) ρ tE:=⟨!a.v.isEmpty,a.D,λh=>by
 have:Zi a.b=U (!(a.v.map e).isEmpty):=by
  have:=a.lk;generalize a.v.map e=ds at this
  revert this
  generalize a.b=b;intro this;cases b with
  |z d=>cases d<;>cases this;rfl
  |l d=>cases this;rfl
  |o d=>cases this;rfl
  |n d=>cases this
  |m d _=>cases this
 simp only[tV,a.ok h,Au,this,List.isEmpty_map]⟩
def eE{g:Bx->Bx->O Bx}(a:R (b2 g fa fb) ρ (zE eB)):R (vZ g fa fb) ρ tE:=⟨a.v,a.D,λh=>by simp only[vZ,a.ok h,Au,KY]⟩
def VJ(a:R p ρ tE)(b:R q ρ tE):R (Ol p q) ρ tE:=⟨a.v&&b.v,bA a.D (Mi (a.v=true) b.D),λh=>by
 obtain⟨h1,h2⟩:=aB h;simp only[Ol,a.ok h1,Au];cases c:a.v with
 |true=>simp only[qS,ya];exact b.ok (mD h2 c)
 |false=>simp only[zr,ZO,yA]⟩
def FK(a:R p ρ tE)(b:R q ρ tE):R (D5 p q) ρ tE:=⟨a.v||b.v,bA a.D (Mi (a.v=false) b.D),λh=>by
 obtain⟨h1,h2⟩:=aB h;simp only[D5,a.ok h1,Au];cases c:a.v with
 |true=>simp only[qS,Bool.true_or]
 |false=>simp only[zr,ZO,Bool.false_or];exact b.ok (mD h2 c)⟩
def GP(a:R p ρ tE):R (Ij p) ρ tE:=⟨!a.v,a.D,λh=>by simp only[Ij,a.ok h,Au]⟩
def i9{g g':Bx->Bx->O Bx}(a:R (b2 g fa fb) ρ (zE eB))(b:R (b2 g' fb fc) ρ (zE eB)):R (F3 g g' fa fb fc) ρ (zE eB):=⟨a.v&&b.v,bA a.D (Mi (a.v=true) b.D),λh=>by
 obtain⟨h1,e⟩:=aB h;have e1:=a.ok h1;simp only[b2]at e1;obtain⟨x,ex,e1⟩:=AT e1;obtain⟨y,c,e1⟩:=AT e1;simp only[F3,ex,c,Au,e1,KY];cases d:a.v with
 |true=>
  have e2:=b.ok (mD e d);simp only[b2,c,Au]at e2;simp only[qS,ya];exact e2
 |false=>simp only[zr,ZO,yA]⟩
end
section
variable{ε:Type}{fd:Ev->O Bx}{fs:Ev->O (Z Bx)}{e:α->Dt}{e':β->Dt}{e'':γ->Dt}{e3:δ->Dt}
def P9(e:α->Dt):R (cg qR aH) ρ (zE (eT e)):=⟨[],Y,λ_=>S⟩
def bb(a:R fa ρ (zE e))(b:R fb ρ (zE e')):R (cg qR (ao fa (ao fb aH))) ρ (zE (Xy e e')):=⟨(a.v,b.v),bA a.D b.D,λh=>by
 obtain⟨h1,h2⟩:=aB h;simp only[cg,ao,aH,a.ok h1,b.ok h2,Au];rfl⟩
def TF(a:R fa ρ (zE e))(b:R fb ρ (zE e'))(c:R fc ρ (zE e'')):R (cg qR (ao fa (ao fb (ao fc aH)))) ρ (zE (ED e e' e'')):=⟨(a.v,b.v,c.v),bA a.D (bA b.D c.D),λh=>by
 obtain⟨h1,h⟩:=aB h;obtain⟨h2,d⟩:=aB h;simp only[cg,ao,aH,a.ok h1,b.ok h2,c.ok d,Au];rfl⟩
def Mp(a:R fa ρ (zE e))(b:R fb ρ (zE e'))(c:R fc ρ (zE e''))(d:R fd ρ (zE e3)):R (cg qR (ao fa (ao fb (ao fc (ao fd aH))))) ρ (zE (EH e e' e'' e3)):=⟨(a.v,b.v,c.v,d.v),bA a.D (bA b.D (bA c.D d.D)),λh=>by
 obtain⟨h1,h⟩:=aB h;obtain⟨h2,h⟩:=aB h;obtain⟨g,f⟩:=aB h;simp only[cg,ao,aH,a.ok h1,b.ok h2,c.ok g,d.ok f,Au];rfl⟩
def cM(e:α->Dt):R aH ρ (λxs:Z α=>xs.map (zE e)):=⟨[],Y,λ_=>S⟩
def bx(a:R fa ρ (zE e))(t:R fs ρ (λxs:Z α=>xs.map (zE e))):R (ao fa fs) ρ (λxs:Z α=>xs.map (zE e)):=⟨a.v::t.v,bA a.D t.D,λh=>by
 obtain⟨h1,h2⟩:=aB h;simp only[ao,a.ok h1,t.ok h2,Au,zw]⟩
theorem GQ:∀xs:Z α,K3 (xs.map (zE e))=U (xs.map e)
 |[]=>rfl
 |x::xs=>by simp only[zw,K3,GQ xs,Au]
def eF(t:R fs ρ (λxs:Z α=>xs.map (zE e)))(a:t.v.length<=1000):R (cg gY fs) ρ (oE e):=⟨t.v,t.D,λh=>by
 simp only[cg,t.ok h,Au,gY,zi,zh a,GQ]⟩
def g9(t:R fs ρ (λxs:Z Dt=>xs.map (zE eD)))(a:t.v.length<=1000):R (cg qR fs) ρ (zE eD):=⟨.tup t.v,t.D,λh=>by
 simp only[cg,t.ok h,Au,qR,zi,zh a,GQ,List.map_id_fun',id]⟩
def at'[Inhabited α](xs:Z α)(i:Int):α:=(Ie xs i).getD default
def In(n:Nat)(i:Int):Prop:=-(n:Int)<=i/\i<n
theorem Mq{xs:Z α}{i:Int}(h:In xs.length i):∃x,Ie xs i=U x:=by
 obtain⟨h1,h2⟩:=h;unfold Ie EL;by_cases h0:0<=i
 ·rw[zh h0,zh h2];exact⟨xs[i.toNat]'(by omega),Zs (by omega)⟩
 ·rw[zC h0,zh h1];exact⟨xs[(i+xs.length).toNat]'(by omega),Zs (by omega)⟩
theorem gd{xs:Z α}{i:Int}{x:α}(h:Ie xs i=U x):Ie (xs.map e) i=U (e x):=by
 unfold Ie at h ⊢;rw[zi];obtain⟨j,a,h⟩:=AT h;rw[a,Au,ZN,h];rfl
theorem NO[Inhabited α]{xs:Z α}{i:Int}(h:In xs.length i):Ie (xs.map e) i=U (e (at' xs i)):=by
 obtain⟨x,hx⟩:=Mq h;rw[gd hx];unfold at';rw[hx];rfl
theorem OF{i:Int}(h:oV b=U ds):gK b (.z (.int i))=(Ie ds i).bind λd=>U (.z d):=by
 cases b with
 |z d=>cases d<;>cases h;rfl
 |l d=>cases h;rfl
 |o d=>cases h;rfl
 |n d=>cases h
 |m d _=>cases h
def d9[Inhabited α](a:RL fa ρ e)(b:R fb ρ (zE eI)):R (b2 gK fa fb) ρ (zE e):=⟨at' a.v b.v,bA (bA a.D b.D) (U (In a.v.length b.v)),λh=>by
 obtain⟨h,c⟩:=aB h;obtain⟨h1,h2⟩:=aB h;simp only[b2,a.ok h1,b.ok h2,Au,OF a.lk,NO (show In a.v.length b.v from c)]⟩
def SL[Inhabited α](a:R fa ρ (zE (eT e)))(b:R fb ρ (zE eI)):R (b2 gK fa fb) ρ (zE e):=⟨at' a.v b.v,bA (bA a.D b.D) (U (In a.v.length b.v)),λh=>by
 obtain⟨h,c⟩:=aB h;obtain⟨h1,h2⟩:=aB h;simp only[b2,a.ok h1,b.ok h2,Au,gK,wK,NO (show In a.v.length b.v from c)]⟩
def ch(x:AJ)(i:Int):AJ:=⟨#[(Ie x.cps.toList i).getD 0]⟩
def Qm(a:R fa ρ (zE eS))(b:R fb ρ (zE eI)):R (b2 gK fa fb) ρ (zE eS):=⟨ch a.v b.v,bA (bA a.D b.D) (U (In a.v.length b.v)),λh=>by
 obtain⟨h,c⟩:=aB h;obtain⟨h1,h2⟩:=aB h;obtain⟨x,hx⟩:=Mq (xs:=a.v.cps.toList) (i:=b.v) (show In a.v.length b.v from c);simp only[b2,a.ok h1,b.ok h2,Au,gK,hx,ch,Option.getD_some]⟩
def nF(a:R fa ρ (zE e))(g:α->β)(e':β->Dt)(i:Int)(h:∀x,gK (.z (e x)) (.z (.int i))=U (.z (e' (g x)))):R (b2 gK fa (cB (.int i))) ρ (zE e'):=⟨g a.v,a.D,λb=>by
 simp only[b2,a.ok b,Au,cB,h]⟩
def cut(xs:Z α)(lo hi:O Int):Z α:=(xs.drop (HT.iK xs.length 0 lo)).take (HT.iK xs.length xs.length hi-HT.iK xs.length 0 lo)
theorem d6(xs:Z α)(lo hi:O Int):Bz (xs.map e) lo hi=(cut xs lo hi).map e:=by
 unfold Bz cut;rw[zi,List.map_take,List.map_drop]
abbrev pE:O Int->O Int:=λo=>o
def xU:R iM ρ pE:=⟨Y,Y,λ_=>S⟩
def xV(a:R fa ρ (zE eI)):R (jO fa) ρ pE:=⟨U a.v,a.D,λh=>by simp only[jO,a.ok h,Au,IN]⟩
variable{fl fh:Ev->O (O Int)}
theorem cS(h:oV b=U ds):EM b lo hi=U (.o (Bz ds lo hi)):=by
 cases b with
 |z d=>cases d<;>cases h;rfl
 |l d=>cases h;rfl
 |o d=>cases h;rfl
 |n d=>cases h
 |m d _=>cases h
def TJ(a:RL fa ρ e)(l:R fl ρ pE)(u:R fh ρ pE):R (Gb fa fl fh) ρ (oE e):=⟨cut a.v l.v u.v,bA a.D (bA l.D u.D),λh=>by
 obtain⟨h1,h⟩:=aB h;obtain⟨h2,b⟩:=aB h;simp only[Gb,a.ok h1,l.ok h2,u.ok b,Au,cS a.lk,d6]⟩
def BP(a:R fa ρ (zE eS))(l:R fl ρ pE)(u:R fh ρ pE):R (Gb fa fl fh) ρ (zE eS):=⟨Txt.slice a.v l.v u.v,bA a.D (bA l.D u.D),λh=>by
 obtain⟨h1,h⟩:=aB h;obtain⟨h2,b⟩:=aB h;simp only[Gb,a.ok h1,l.ok h2,u.ok b,Au,EM]⟩
def sy(n:Nat):Prop:=n<=1000000
def sE(a:R fa ρ (zE eS))(b:R fb ρ (zE eS)):R (b2 dH fa fb) ρ (zE eS):=⟨a.v++b.v,bA (bA a.D b.D) (U (sy (a.v.length+b.v.length))),λh=>by
 obtain⟨h,c⟩:=aB h;obtain⟨h1,h2⟩:=aB h;simp only[b2,a.ok h1,b.ok h2,Au,dH,zh (show a.v.length+b.v.length<=W4 from c)]⟩
theorem av{e:Bx}{f:Z Dt}(h:oV b=U ds)(h':oV e=U f)(c:ds.length+f.length<=W4):dH b e=U (.o (ds++f)):=by
 cases b with
 |z d=>
  cases d<;>cases h;cases e with
  |z a=>cases a<;>cases h';exact zh c
  |l a=>cases h';exact zh c
  |o a=>cases h';exact zh c
  |n a=>cases h'
  |m a=>cases h'
 |l d=>
  cases h;cases e with
  |z a=>cases a<;>cases h';exact zh c
  |l a=>cases h';exact zh c
  |o a=>cases h';exact zh c
  |n a=>cases h'
  |m a=>cases h'
 |o d=>
  cases h;cases e with
  |z a=>cases a<;>cases h';exact zh c
  |l a=>cases h';exact zh c
  |o a=>cases h';exact zh c
  |n a=>cases h'
  |m a=>cases h'
 |n d=>cases h
 |m d _=>cases h
def vB(a:RL fa ρ e)(b:RL fb ρ e):R (b2 dH fa fb) ρ (oE e):=⟨a.v++b.v,bA (bA a.D b.D) (U (sy (a.v.length+b.v.length))),λh=>by
 obtain⟨h,c⟩:=aB h;obtain⟨h1,h2⟩:=aB h;simp only[b2,a.ok h1,b.ok h2,Au];rw[av a.lk b.lk (by rw[zi,zi];exact c)];simp only[oE,qB]⟩
def NI(a:R fa ρ (zE eS))(b:R fb ρ (zE eI)):R (b2 uU fa fb) ρ (zE eS):=⟨Txt.mul a.v b.v,bA (bA a.D b.D) (U (b.v<=1000 ∧ -1000<=b.v/\a.v.length<=1000)),λh=>by
 obtain⟨h,c⟩:=aB h;obtain⟨h1,h2⟩:=aB h;simp only[b2,a.ok h1,b.ok h2,Au];exact zh c⟩
theorem fN(h:oV b=U ds):uW [b]=U (.z (.int ds.length)):=by
 cases b with
 |z d=>cases d<;>cases h;rfl
 |l d=>cases h;rfl
 |o d=>cases h;rfl
 |n d=>cases h
 |m d _=>cases h
theorem ap(h:oV b=U ds):wK b=U ds:=by
 cases b with
 |z d=>cases d<;>cases h;rfl
 |l d=>cases h;rfl
 |o d=>cases h;rfl
 |n d=>cases h
 |m d _=>cases h
def Bn(a:RL fa ρ e):R (cg uW (ao fa aH)) ρ (zE eI):=⟨(a.v.length:Int),a.D,λh=>by
 simp only[cg,ao,aH,a.ok h,Au,fN a.lk,zi]⟩
def NW(a:R fa ρ (zE eS)):R (cg uW (ao fa aH)) ρ (zE eI):=⟨(a.v.length:Int),a.D,λh=>by
 simp only[cg,ao,aH,a.ok h,Au,uW]⟩
def TQ:Dt->Int
 |.tup ds=>ds.length
 |.lst ds=>ds.length
 |.str x=>x.length
 |_=>0
def TV:Dt->Bool
 |.tup _=>true
 |.lst _=>true
 |.str _=>true
 |_=>false
def OB(a:R fa ρ (zE eD)):R (cg uW (ao fa aH)) ρ (zE eI):=⟨TQ a.v,bA a.D (U (TV a.v=true)),λh=>by
 obtain⟨h,b⟩:=aB h;have b:TV a.v=true:=b;simp only[cg,ao,aH,a.ok h,Au];cases c:a.v<;>rw[c]at b<;>first|(cases b;done)|rfl⟩
def wz(a:RL fa ρ e):R (cg lB (ao fa aH)) ρ (zE (eT e)):=⟨a.v,a.D,λh=>by
 simp only[cg,ao,aH,a.ok h,Au,lB,ap a.lk]⟩
def Wl(a:R fa ρ (zE (eT e))):R (cg O6 (ao fa aH)) ρ (oE e):=⟨a.v,a.D,λh=>by
 simp only[cg,ao,aH,a.ok h,Au,O6,wK]⟩
def PZ(a:R fa ρ (zE eI)):R (cg ZK (ao fa aH)) ρ (zE eI):=⟨if a.v<0 then -a.v else a.v,a.D,λh=>by
 simp only[cg,ao,aH,a.ok h,Au,ZK]⟩
def TX(a:R fa ρ (zE eB)):R (cg Sx (ao fa aH)) ρ (zE eI):=⟨if a.v=true then 1 else 0,a.D,λh=>by
 simp only[cg,ao,aH,a.ok h,Au,Sx]⟩
theorem Ak:∀l:Z Bool,Gd (l.map eB)=U l
 |[]=>rfl
 |a::l=>by simp only[zw,Gd,Ak l,Au]
def NH(a:RL fa ρ eB):R (cg CF (ao fa aH)) ρ (zE eB):=⟨a.v.all id,a.D,λh=>by
 simp only[cg,ao,aH,a.ok h,Au,CF,a.lk,Ak]⟩
def f8(a:RL fa ρ eB):R (cg Cb (ao fa aH)) ρ (zE eB):=⟨a.v.any id,a.D,λh=>by
 simp only[cg,ao,aH,a.ok h,Au,Cb,a.lk,Ak]⟩
def BR(a:R fa ρ (zE eI))(b:R fb ρ (zE eI)):R (cg CP (ao fa (ao fb aH))) ρ (zE eI):=⟨if b.v>a.v then b.v else a.v,bA a.D b.D,λh=>by
 obtain⟨h1,h2⟩:=aB h;simp only[cg,ao,aH,a.ok h1,b.ok h2,Au,CP]⟩
def OC(a:R fa ρ (zE eI))(b:R fb ρ (zE eI)):R (cg W6 (ao fa (ao fb aH))) ρ (zE eI):=⟨if b.v<a.v then b.v else a.v,bA a.D b.D,λh=>by
 obtain⟨h1,h2⟩:=aB h;simp only[cg,ao,aH,a.ok h1,b.ok h2,Au,W6]⟩
def VY(P:Dt->Bool)(a:R fa ρ (zE e)):R (JM P fa) ρ (zE eB):=⟨P (e a.v),a.D,λh=>by
 simp only[JM,b1,a.ok h,Au,oX,toD,zr,ZO]⟩
theorem BS:∀l:AZ,Ge (l.map eS)=U l
 |[]=>rfl
 |a::l=>by simp only[zw,Ge,BS l,Au]
def g7(s:AJ)(a:RL fa ρ eS):R (b1 (O9 s) fa) ρ (zE eS):=⟨Txt.join s a.v,bA a.D (U ((a.v.map (·.length)).sum+a.v.length*s.length<=100000)),λh=>by
 obtain⟨h,b⟩:=aB h;simp only[b1,a.ok h,Au,O9,a.lk,BS];exact zh b⟩
def Mr(a:RL fa ρ eS):R (cg Bq (ao fa aH)) ρ (oE eS):=⟨lg a.v,bA a.D (U (a.v.length<64)),λh=>by
 obtain⟨h,b⟩:=aB h;simp only[cg,ao,aH,a.ok h,Au,Bq,a.lk,BS];exact zh b⟩
def du(a:R fa ρ (zE e))(g:α->β)(e':β->Dt)(lo hi:O Int)(b:fl ρ=U lo)(d:fh ρ=U hi)(h:∀x,EM (.z (e x)) lo hi=U (.z (e' (g x)))):R (Gb fa fl fh) ρ (zE e'):=⟨g a.v,a.D,λc=>by
 simp only[Gb,a.ok c,b,d,Au,h]⟩
def Mo(a:R f ρ (zE e))(g:α->β)(e':β->Dt)(h:∀x,e x=e' (g x)):R f ρ (zE e'):=⟨g a.v,a.D,λb=>by rw[a.ok b];exact congrArg (λd=>U (Bx.z d)) (h a.v)⟩
def Al:Dt->AJ
 |.str x=>x
 |_=>⟨#[]⟩
def Ms(a:R f ρ (zE eD))(g:Dt->α)(e:α->Dt):R f ρ (zE e):=⟨g a.v,bA a.D (U (a.v=e (g a.v))),λb=>by
 obtain⟨h1,h2⟩:=aB b;have h2:a.v=e (g a.v):=h2;rw[a.ok h1];show U (Bx.z a.v)=U (Bx.z (e (g a.v)));rw[<-h2]⟩
class C1 {α:Type} (e:α->Dt):Prop where
 f:∀a,yJ (e a)=true
instance:C1 eI:=⟨λ_=>rfl⟩
instance:C1 eB:=⟨λ_=>rfl⟩
instance:C1 eS:=⟨λ_=>rfl⟩
theorem GR[DecidableEq α][B6 e n][C1 e](x:α)(ys:Z α):CI (e x) (ys.map e)=U (decide (x∈ys)):=by
 unfold CI;rw[zh ⟨C1.f x,by rw[List.all_map];exact List.all_eq_true.mpr λy _=>C1.f y⟩,yv];congr 1;rw[JE,QP,decide_eq_true_iff];constructor
 ·rintro⟨y,a,h⟩;simp only[Function.comp,B6.eq]at h;by_cases e1:y=x
  ·rw[<-e1];exact a
  ·simp only[e1,k4]at h;cases h
 ·intro h;exact⟨x,h,by simp only[Function.comp,B6.eq,yb]⟩
theorem OG(h:oV b=U ds):EF (.z d) b=CI d ds:=by
 cases b with
 |z a=>cases a<;>cases h;cases d<;>rfl
 |l a=>cases h;cases d<;>rfl
 |o a=>cases h;cases d<;>rfl
 |n a=>cases h
 |m a=>cases h
theorem VL:EF (.z d) (.z (.tup ds))=CI d ds:=by cases d<;>rfl
def My[DecidableEq α][B6 e n][C1 e](a:R fa ρ (zE e))(b:RL fb ρ e):R (b2 CB fa fb) ρ (zE eB):=⟨decide (a.v∈b.v),bA a.D b.D,λh=>by
 obtain⟨h1,h2⟩:=aB h;simp only[b2,a.ok h1,b.ok h2,Au,CB,OG b.lk,GR]⟩
def GS[DecidableEq α][B6 e n][C1 e](a:R fa ρ (zE e))(b:R fb ρ (zE (eT e))):R (b2 CB fa fb) ρ (zE eB):=⟨decide (a.v∈b.v),bA a.D b.D,λh=>by
 obtain⟨h1,h2⟩:=aB h;simp only[b2,a.ok h1,b.ok h2,Au,CB,VL,GR]⟩
def MU[DecidableEq α][B6 e n][C1 e](a:R fa ρ (zE e))(b:R fb ρ (zE (eT e))):R (b2 ZD fa fb) ρ (zE eB):=⟨!decide (a.v∈b.v),bA a.D b.D,λh=>by
 obtain⟨h1,h2⟩:=aB h;simp only[b2,a.ok h1,b.ok h2,Au,ZD,VL,GR]⟩
def OZ(a:R fa ρ (zE eS))(b:R fb ρ (zE eS)):R (b2 CB fa fb) ρ (zE eB):=⟨JF a.v b.v,bA a.D b.D,λh=>by
 obtain⟨h1,h2⟩:=aB h;simp only[b2,a.ok h1,b.ok h2,Au,CB,EF]⟩
end
structure AR {γ:Type} (cA:γ->List Bx->Prop) (fs:Ev->Option (List Bx)) (ρ:Ev) where
 v:γ
 D:Option Prop
 bs:List Bx
 h:cA v bs
 ok:hold D->fs ρ=some bs
section
variable{ε σ:Type}{fd:Ev->O Bx}{fs:Ev->O (Z Bx)}{e:α->Dt}{e':β->Dt}{e'':γ->Dt}{e3:δ->Dt}
def aN:Unit->Z Bx->Prop:=λ_ bs=>bs=[]
def aZ(e:α->Dt)(t:γ->Z Bx->Prop):α×γ->Z Bx->Prop:=λx bs=>∃r,bs=.z (e x.1)::r/\t x.2 r
def aL(e:α->Dt)(t:γ->Z Bx->Prop):Z α×γ->Z Bx->Prop:=λx bs=>∃b r,bs=b::r/\oV b=U (x.1.map e)/\t x.2 r
def bT:AR aN aH ρ:=⟨(),Y,[],rfl,λ_=>S⟩
def bU{t:γ->Z Bx->Prop}(a:R fa ρ (zE e))(r:AR t fs ρ):AR (aZ e t) (ao fa fs) ρ:=⟨(a.v,r.v),bA a.D r.D,_,⟨_,rfl,r.h⟩,λh=>by
 obtain⟨h1,h2⟩:=aB h;simp only[ao,a.ok h1,r.ok h2,Au]⟩
def wM{t:γ->Z Bx->Prop}(a:RL fa ρ e)(r:AR t fs ρ):AR (aL e t) (ao fa fs) ρ:=⟨(a.v,r.v),bA a.D r.D,_,⟨_,_,rfl,a.lk,r.h⟩,λh=>by
 obtain⟨h1,h2⟩:=aB h;simp only[ao,a.ok h1,r.ok h2,Au]⟩
def Ap{d:γ->Z Bx->Prop}{F:Z Bx->O Bx}{c:α->Bx}{T:γ->α}{b:γ->O Prop}(S:∀v bs,d v bs->bs.length=n/\(hold (b v)->F (bs.map lend)=U (c (T v))))(a:AR d fs ρ):R (cj n F fs) ρ c:=⟨T a.v,bA a.D (b a.v),λh=>by
 obtain⟨h1,h2⟩:=aB h;obtain⟨e,f⟩:=S a.v a.bs a.h;simp only[cj,a.ok h1,Au,zh e,f h2]⟩
theorem MG{bs:Z Bx}{c:α->Bx}(x:R g (bs.map U++List.replicate (n-bs.length) Y) (λr=>An.rt (c r)))(h:hold x.D):dY n g bs=U (c x.v):=by
 unfold dY;rw[x.ok h];rfl
def gp(xs:Z α)(P:α->O Prop):O Prop:=U (∀x∈xs,hold (P x))
theorem Qn{fs:Ev->O (Z Dt)}{c:Ev}{g:α->Z Dt}{π:α->Bool}:∀xs:Z α,(∀x∈xs,∃a,gt (e x) c=U a/\p a=U (π x)/\(π x=true->fs a=U (g x)))->CK gt p fs c (xs.map e)=U ((xs.filter π).flatMap g)
 |[],_=>rfl
 |x::xs,h=>by
  obtain⟨a,h1,h2,f⟩:=h x (zk ..);have b:=Qn (g:=g) (π:=π) xs λy d=>h y (zo _ d);cases hp:π x with
  |true=>simp only[zw,CK,h1,Au,h2,hp,qS,f hp,b,k8,List.flatMap_cons]
  |false=>simp only[zw,CK,h1,Au,h2,hp,b,k8,zr,ZO]
theorem Qo{g:α->β}:∀xs:Z α,xs.flatMap (λx=>[e' (g x)])=(xs.map g).map e'
 |[]=>rfl
 |x::xs=>by rw[List.flatMap_cons,Qo xs];rfl
theorem Qp{b:Ev}{g:α->β}{π:α->Bool}(xs:Z α)(h:∀x∈xs,∃a,gt (e x) b=U a/\p a=U (π x)/\(π x=true->fe a=U (.z (e' (g x))))):Bm gt p fe b (xs.map e)=U (((xs.filter π).map g).map e'):=by
 rw[<-Qo];exact Qn xs λx hx=>let ⟨a,h1,h2,h3⟩:=h x hx;⟨a,h1,h2,λhp=>by rw[h3 hp];rfl⟩
theorem C6{b:Ev}{g:α->β}(xs:Z α)(h:∀x∈xs,∃a,gt (e x) b=U a/\fe a=U (.z (e' (g x)))):Bm gt rR fe b (xs.map e)=U ((xs.map g).map e'):=
 (Qp (π:=λ_=>true) xs λx hx=>let ⟨a,h1,h2⟩:=h x hx;⟨a,h1,rfl,λ_=>h2⟩).trans (by rw[List.filter_eq_self.mpr λ_ _=>S])
def Am(it:R fi ρ (iE e))(c:α->Ev)(d:∀x,gt (e x) (mR is ρ++List.replicate n Y)=U (c x))(b:∀x,R fe (c x) (zE e')):R (gB fi gt rR fe is n) ρ (oE e'):=⟨it.v.map λx=>(b x).v,bA (bA it.D (U (it.v.length<=100000))) (gp it.v λx=>(b x).D),λh=>by
 obtain⟨h,a⟩:=aB h;obtain⟨h1,h2⟩:=aB h;have a:∀x∈it.v,hold (b x).D:=a;simp only[gB,it.ok h1,Au,zi,zh (show it.v.length<=100000 from h2),C6 it.v λx hx=>⟨c x,d x,(b x).ok (a x hx)⟩]⟩
def pN(it:R fi ρ (iE e))(a:α->Ev)(c:∀x,gt (e x) (mR is ρ++List.replicate n Y)=U (a x))(b:∀x,R fe (a x) (zE e'))(hb:∀x,(b x).D=Y):R (gB fi gt rR fe is n) ρ (oE e'):=⟨it.v.map λx=>(b x).v,bA it.D (U (it.v.length<=100000)),λh=>by
 obtain⟨h1,h2⟩:=aB h;simp only[gB,it.ok h1,Au,zi,zh (show it.v.length<=100000 from h2),C6 it.v λx hx=>⟨a x,c x,(b x).ok (by rw[hb x];trivial)⟩]⟩
def GX(it:R fi ρ (iE e))(a:α->Ev)(d:∀x,gt (e x) (mR is ρ++List.replicate n Y)=U (a x))(t:∀x,R p (a x) tE)(b:∀x,R fe (a x) (zE e'))(c:∀x,(t x).D=Y)(hb:∀x,(b x).D=Y):R (gB fi gt p fe is n) ρ (oE e'):=⟨(it.v.filter λx=>(t x).v).map λx=>(b x).v,bA it.D (U (it.v.length<=100000)),λh=>by
 obtain⟨h1,h2⟩:=aB h;simp only[gB,it.ok h1,Au,zi,zh (show it.v.length<=100000 from h2),Qp it.v λx hx=>⟨a x,d x,(t x).ok (by rw[c x];trivial),λ_=>(b x).ok (by rw[hb x];trivial)⟩]⟩
def GZ(a:RL fa ρ e):R (Io fa) ρ (iE e):=⟨a.v,a.D,λh=>by
 have:Zw a.b=U (a.v.map e):=by
  have:=a.lk
  revert this
  generalize a.b=b;generalize a.v.map e=ds;intro this;cases b with
  |z d=>cases d<;>cases this;rfl
  |l d=>cases this;rfl
  |o d=>cases this;rfl
  |n d=>cases this
  |m d _=>cases this
 simp only[Io,a.ok h,Au,this]⟩
def IL(a:R fa ρ (zE (eT e))):R (Io fa) ρ (iE e):=⟨a.v,a.D,λh=>by simp only[Io,a.ok h,Au,Zw]⟩
def CA(x:AJ):AZ:=x.cps.toList.map λc=>⟨#[c]⟩
theorem fE(x:AJ):BH x=(CA x).map eS:=by
 unfold BH CA;rw[QU];rfl
def DB:Dt->Z Dt
 |.tup ds=>ds
 |.lst ds=>ds
 |.str x=>BH x
 |_=>[]
def U'(a:R fa ρ (zE eD)):R (Io fa) ρ (iE eD):=⟨DB a.v,bA a.D (U (TV a.v=true)),λh=>by
 obtain⟨h,b⟩:=aB h;have b:TV a.v=true:=b;simp only[Io,a.ok h,Au];cases c:a.v<;>rw[c]at b<;>first|(cases b;done)|(simp only[Zw,DB,iE,eD,List.map_id_fun',id])⟩
def GM(a:R fa ρ (oE e)):R (EJ fa) ρ (iE e):=⟨a.v,a.D,λh=>by simp only[EJ,a.ok h,Au,GB]⟩
def rng(i:Int)(n:Nat):Z Int:=(List.range n).map λk:Nat=>i+(k:Int)
theorem VN(i:Int)(n:Nat):CJ i n=(rng i n).map eI:=by
 unfold CJ rng;rw[QU];rfl
def Rg(j:Int):Prop:=-4611686018427387904<=j/\j<4611686018427387904
def J3(a:R fa ρ (zE eI)):R (O7 (ao fa aH)) ρ (iE eI):=⟨rng 0 a.v.toNat,bA a.D (U (Rg a.v)),λh=>by
 obtain⟨h,b⟩:=aB h;simp only[O7,ao,aH,a.ok h,Au];show(if -(2 ^ 62)<=a.v/\a.v<2 ^ 62 then U (CJ 0 a.v.toNat)else Y)=_;exact(zh b).trans (by rw[VN])⟩
def U1(n:Int)(m:Nat)(b:n.toNat=m)(a:Rg n):R (O7 (ao (cB (.int n)) aH)) ρ (iE eI):=⟨rng 0 m,Y,λ_=>by
 simp only[O7,ao,aH,Au,cB];show(if -(2 ^ 62)<=n/\n<2 ^ 62 then U (CJ 0 n.toNat)else Y)=_;exact(zh a).trans (by rw[VN,b])⟩
end
section
variable{ε σ τ:Type}{fd:Ev->O Bx}{fs:Ev->O (Z Bx)}{e:α->Dt}{e':β->Dt}{g1 g2 k:Ev->O An}{cO:γ->An}
theorem iQ{ρ':Ev}(h:g1 ρ=U (.nx ρ')):aD g1 k ρ=k ρ':=by
 unfold aD;rw[h];rfl
def bC(x:R (aD g (aD g1 k)) ρ cO):R (aD (aD g g1) k) ρ cO:=⟨x.v,x.D,λh=>by
 rw[<-x.ok h];unfold aD;cases g ρ with
 |none=>rfl
 |some o=>cases o<;>rfl⟩
def bN(x:R k ρ cO):R (aD fB k) ρ cO:=⟨x.v,x.D,λh=>x.ok h⟩
def bG(x:γ)(h:cO x=.nx (kill is ρ)):R (cT is) ρ cO:=⟨x,Y,λ_=>by rw[h];rfl⟩
def fQ{c:α->Bx}(inj:α->γ)(a:R f ρ c)(h:∀x,cO (inj x)=.rt (c x))(d:∀x,Zj (c x)=U (.rt (c x))):R (aD (jw f) k) ρ cO:=⟨inj a.v,a.D,λb=>by
 have:jw f ρ=U (.rt (c a.v)):=by unfold jw;rw[a.ok b,Au,d]
 unfold aD;rw[this,h];rfl⟩
def G3{c:α->Bx}(i:Nat)(inj:α->γ)(a:α)(hi:ρ[i]?=U (U (c a)))(h:∀x,cO (inj x)=.rt (c x))(b:∀x,Zj (c x)=U (.rt (c x))):R (aD (CG i) k) ρ cO:=⟨inj a,Y,λd=>by
 have:CG i ρ=U (.rt (c a)):=by unfold CG;rw[hi];exact b a
 unfold aD;rw[this,h];rfl⟩
def bJ{c:α->Bx}(i:Nat)(a:R f ρ c)(d:∀x,WW ρ i (c x)=U (ρ.set i (U (c x))))(K:∀x,R k (ρ.set i (U (c x))) cO):R (aD (At i f) k) ρ cO:=⟨(K a.v).v,bA a.D (K a.v).D,λb=>by
 obtain⟨h1,h2⟩:=aB b;rw[iQ (ρ':=ρ.set i (U (c a.v))) (by unfold At;rw[a.ok h1,Au,d,Au])];exact(K a.v).ok h2⟩
def hW(a:R f ρ (zE e))(b:α->Ev)(d:∀x,gt (e x) ρ=U (b x))(K:∀x,R k (b x) cO):R (aD (HV gt f) k) ρ cO:=⟨(K a.v).v,bA a.D (K a.v).D,λc=>by
 obtain⟨h1,h2⟩:=aB c;rw[iQ (ρ':=b a.v) (by unfold HV;rw[a.ok h1,Au];simp only[d,Au])];exact(K a.v).ok h2⟩
def GN(i j:Nat)(a:R fa ρ (zE e))(b:R fb ρ (zE e'))(K:∀x y,R k ((ρ.set i (U (.z (e x)))).set j (U (.z (e' y)))) cO):R (aD (ZM i j (ao fa (ao fb aH))) k) ρ cO:=⟨(K a.v b.v).v,bA (bA a.D b.D) (K a.v b.v).D,λd=>by
 obtain⟨h1,c⟩:=aB d;obtain⟨h1,h2⟩:=aB h1;rw[iQ (ρ':=(ρ.set i (U (.z (e a.v)))).set j (U (.z (e' b.v)))) (by unfold ZM;simp only[ao,aH,a.ok h1,b.ok h2,Au,FU])];exact(K a.v b.v).ok c⟩
def wU(i:Nat)(xs:Z α)(hi:ρ[i]?=U (U (.o (xs.map e))))(a:R f ρ (zE e))(K:∀ys:Z α,R k (ρ.set i (U (.o (ys.map e)))) cO):R (aD (xM i f) k) ρ cO:=⟨(K (xs++[a.v])).v,bA (bA a.D (U (sy xs.length))) (K (xs++[a.v])).D,λc=>by
 obtain⟨h1,b⟩:=aB c;obtain⟨h1,h2⟩:=aB h1;have h2:xs.length<=1000000:=h2;rw[iQ (ρ':=ρ.set i (U (.o ((xs++[a.v]).map e)))) (by
  unfold xM;rw[a.ok h1,Au];simp only[Zk,hi,zi,qB,zw,kC];rw[zh (Kx h2 (by decide))])]
 exact(K _).ok b⟩
def o9(t:R p ρ tE)(a:R (aD g1 k) ρ cO)(b:R (aD g2 k) ρ cO):R (aD (xH p g1 g2) k) ρ cO:=⟨if t.v=true then a.v else b.v,bA t.D (bA (Mi (t.v=true) a.D) (Mi (t.v=false) b.D)),λe=>by
 obtain⟨h1,h2⟩:=aB e;obtain⟨h2,f⟩:=aB h2;have e1:∀c,t.v=c->aD (xH p g1 g2) k ρ=aD (if c=true then g1 else g2) k ρ:=λc g=>by
  unfold aD xH;rw[t.ok h1,Au,g];cases c<;>rfl
 cases d:t.v with
 |true=>rw[e1 true d];simp only[qS];exact a.ok (mD h2 d)
 |false=>rw[e1 false d];simp only[zr,ZO];exact b.ok (mD f d)⟩
def wV(E:σ->Ev)(t:R p ρ tE)(a:R g1 ρ (λs=>An.nx (E s)))(b:R g2 ρ (λs=>An.nx (E s)))(K:∀s,R k (E s) cO):R (aD (xH p g1 g2) k) ρ cO:=⟨(K (if t.v=true then a.v else b.v)).v,bA (bA t.D (bA (Mi (t.v=true) a.D) (Mi (t.v=false) b.D))) (K (if t.v=true then a.v else b.v)).D,λe=>by
 obtain⟨h,d⟩:=aB e;obtain⟨h1,h2⟩:=aB h;obtain⟨h2,f⟩:=aB h2;rw[iQ (ρ':=E (if t.v=true then a.v else b.v)) (by
  unfold xH;rw[t.ok h1,Au];cases c:t.v with
  |true=>simp only[qS];exact a.ok (mD h2 c)
  |false=>simp only[zr,ZO];exact b.ok (mD f c))]
 exact(K _).ok d⟩
def kY(step:σ->α->σ)(P:σ->α->O Prop):Z α->σ->Prop
 |[],_=>True
 |x::xs,s=>hold (P s x)/\kY step P xs (step s x)
theorem yX{gb:Ev->O An}(E:σ->Ev)(a:σ->α->Ev)(b:∀s x,gt (e x) (E s)=U (a s x))(body:∀s x,R gb (a s x) (λs=>An.nx (E s))):∀(xs:Z α) (s:σ),kY (λs x=>(body s x).v) (λs x=>(body s x).D) xs s->qH gt gb (xs.map e) (E s)=U (.nx (E (xs.foldl (λs x=>(body s x).v) s)))
 |[],s,_=>rfl
 |x::xs,s,h=>by
  simp only[zw,qH,b,Au,(body s x).ok h.1,QO];exact yX E a b body xs _ h.2
def G4(E:σ->Ev)(a:σ)(d:ρ=E a)(it:R fi ρ (iE e))(b:σ->α->Ev)(g:∀s x,gt (e x) (E s)=U (b s x))(body:∀s x,R gb (b s x) (λs=>An.nx (E s)))(K:∀s,R k (E s) cO):R (aD (pI fi gt gb) k) ρ cO:=⟨(K (it.v.foldl (λs x=>(body s x).v) a)).v,bA (bA it.D (U (kY (λs x=>(body s x).v) (λs x=>(body s x).D) it.v a))) (K (it.v.foldl (λs x=>(body s x).v) a)).D,λc=>by
 obtain⟨h,f⟩:=aB c;obtain⟨h1,h2⟩:=aB h;rw[iQ (ρ':=E (it.v.foldl (λs x=>(body s x).v) a)) (by
  unfold pI;rw[it.ok h1,Au];subst d;exact yX E b g body it.v a h2)]
 exact(K _).ok f⟩
def WA(E:σ->Ev)(a:σ)(f:ρ=E a)(it:R fi ρ (iE e))(b:σ->α->Ev)(h:∀s x,gt (e x) (E s)=U (b s x))(body:∀s x,R gb (b s x) (λs=>An.nx (E s)))(hb:∀s x,(body s x).D=Y)(K:∀s,R k (E s) cO):R (aD (pI fi gt gb) k) ρ cO:=⟨(K (it.v.foldl (λs x=>(body s x).v) a)).v,bA it.D (K (it.v.foldl (λs x=>(body s x).v) a)).D,λd=>by
 obtain⟨h1,g⟩:=aB d;have h2:∀(xs:Z α) (s:σ),kY (λs x=>(body s x).v) (λs x=>(body s x).D) xs s:=λxs=>by
  induction xs with
  |nil=>intro s;trivial
  |cons x xs c=>intro s;exact⟨by show hold (body s x).D;rw[hb s x];trivial,c _⟩
 rw[iQ (ρ':=E (it.v.foldl (λs x=>(body s x).v) a)) (by
  unfold pI;rw[it.ok h1,Au];subst f;exact yX E b h body it.v a (h2 _ _))]
 exact(K _).ok g⟩
inductive jt (σ τ:Type) where
 |nx (s:σ)|rt (r:τ)|bk (s:σ)|ct (s:σ)
def cC(E:σ->Ev)(c:τ->Bx):jt σ τ->An
 |.nx s=>.nx (E s)
 |.rt r=>.rt (c r)
 |.bk s=>.bk (E s)
 |.ct s=>.ct (E s)
def jB(step:σ->α->jt σ τ):Z α->σ->jt σ τ
 |[],s=>.nx s
 |x::xs,s=>match step s x with
  |.nx s'=>jB step xs s'
  |.ct s'=>jB step xs s'
  |.bk s'=>.nx s'
  |.rt r=>.rt r
def uf(step:σ->α->jt σ τ)(P:σ->α->O Prop):Z α->σ->Prop
 |[],_=>True
 |x::xs,s=>hold (P s x)/\match step s x with
  |.nx s'=>uf step P xs s'
  |.ct s'=>uf step P xs s'
  |.bk _=>True
  |.rt _=>True
theorem Ej{c:τ->Bx}(E:σ->Ev)(a:σ->α->Ev)(b:∀s x,gt (e x) (E s)=U (a s x))(body:∀s x,R gb (a s x) (cC E c)):∀(xs:Z α) (s:σ),uf (λs x=>(body s x).v) (λs x=>(body s x).D) xs s->qH gt gb (xs.map e) (E s)=U (cC E c (jB (λs x=>(body s x).v) xs s))
 |[],s,_=>rfl
 |x::xs,s,h=>by
  obtain⟨h1,h2⟩:=h;dsimp only at h2;simp only[zw,qH,b,Au,(body s x).ok h1,jB]
  revert h2
  cases(body s x).v with
  |nx s'=>intro h2;exact Ej E a b body xs s' h2
  |ct s'=>intro h2;exact Ej E a b body xs s' h2
  |bk s'=>intro _;rfl
  |rt r=>intro _;rfl
theorem yZ(step:σ->α->jt σ τ):∀(xs:Z α) (s:σ),(∃s',jB step xs s=.nx s')\/∃r,jB step xs s=.rt r
 |[],s=>.inl ⟨s,rfl⟩
 |x::xs,s=>by
  unfold jB;cases step s x with
  |nx s'=>exact yZ step xs s'
  |ct s'=>exact yZ step xs s'
  |bk s'=>exact .inl ⟨s',rfl⟩
  |rt r=>exact .inr ⟨r,rfl⟩
def BG(r:jt σ τ)(inj:τ->γ)(K:σ->γ):γ:=match r with
 |.rt r=>inj r
 |.nx s=>K s
 |.bk s=>K s
 |.ct s=>K s
def sI(r:jt σ τ)(K:σ->Prop):Prop:=match r with
 |.rt _=>True
 |.nx s=>K s
 |.bk s=>K s
 |.ct s=>K s
def Mt(r:jt σ τ)(K:σ->O Prop):O Prop:=U (sI r λs=>hold (K s))
def NV{c:τ->Bx}(E:σ->Ev)(a:σ)(g:ρ=E a)(it:R fi ρ (iE e))(b:σ->α->Ev)(j:∀s x,gt (e x) (E s)=U (b s x))(body:∀s x,R gb (b s x) (cC E c))(inj:τ->γ)(i:∀r,cO (inj r)=.rt (c r))(K:∀s,R k (E s) cO):R (aD (pI fi gt gb) k) ρ cO:=⟨BG (jB (λs x=>(body s x).v) it.v a) inj λs=>(K s).v,bA (bA it.D (U (uf (λs x=>(body s x).v) (λs x=>(body s x).D) it.v a))) (Mt (jB (λs x=>(body s x).v) it.v a) λs=>(K s).D),λf=>by
 obtain⟨h,d⟩:=aB f;obtain⟨h1,h2⟩:=aB h;have e1:pI fi gt gb ρ=U (cC E c (jB (λs x=>(body s x).v) it.v a)):=by
  unfold pI;rw[it.ok h1,Au];subst g;exact Ej E b j body it.v a h2
 rcases yZ (λs x=>(body s x).v) it.v a with⟨s',es⟩|⟨r,es⟩
 ·rw[es]at e1 d ⊢;rw[iQ e1];exact(K s').ok d
 ·rw[es]at e1 ⊢;show aD (pI fi gt gb) k ρ=U (cO (inj r));unfold aD;rw[e1,i];rfl⟩
theorem WN(h:ρ[i]?=U (U (.l ds))):qU i gt gb ρ=qH gt gb ds ρ:=by unfold qU;rw[h]
theorem LP(h:ρ[i]?=U (U (.z (.tup ds)))):qU i gt gb ρ=qH gt gb ds ρ:=by unfold qU;rw[h];rfl
theorem e8(h:ρ[i]?=U (U (.z (.lst ds)))):qU i gt gb ρ=qH gt gb ds ρ:=by unfold qU;rw[h];rfl
theorem TY(hp:Lp b ds)(h:ρ[i]?=U (U b)):qU i gt gb ρ=qH gt gb ds ρ:=by
 rcases hp with rfl|rfl
 ·exact e8 h
 ·exact WN h
def Mu(i:Nat){ρ':Ev}(xs:Z α)(d:qU i gt gb ρ=qH gt gb (xs.map e) ρ')(E:σ->Ev)(a:σ)(f:ρ'=E a)(b:σ->α->Ev)(h:∀s x,gt (e x) (E s)=U (b s x))(body:∀s x,R gb (b s x) (λs=>An.nx (E s)))(K:∀s,R k (E s) cO):R (aD (qU i gt gb) k) ρ cO:=⟨(K (xs.foldl (λs x=>(body s x).v) a)).v,bA (U (kY (λs x=>(body s x).v) (λs x=>(body s x).D) xs a)) (K (xs.foldl (λs x=>(body s x).v) a)).D,λc=>by
 obtain⟨h2,g⟩:=aB c;rw[iQ (ρ':=E (xs.foldl (λs x=>(body s x).v) a)) (by
  rw[d,f];exact yX E b h body xs a h2)]
 exact(K _).ok g⟩
def di{c:τ->Bx}(i:Nat){ρ':Ev}(xs:Z α)(g:qU i gt gb ρ=qH gt gb (xs.map e) ρ')(E:σ->Ev)(a:σ)(h:ρ'=E a)(b:σ->α->Ev)(l:∀s x,gt (e x) (E s)=U (b s x))(body:∀s x,R gb (b s x) (cC E c))(inj:τ->γ)(j:∀r,cO (inj r)=.rt (c r))(K:∀s,R k (E s) cO):R (aD (qU i gt gb) k) ρ cO:=⟨BG (jB (λs x=>(body s x).v) xs a) inj λs=>(K s).v,bA (U (uf (λs x=>(body s x).v) (λs x=>(body s x).D) xs a)) (Mt (jB (λs x=>(body s x).v) xs a) λs=>(K s).D),λf=>by
 obtain⟨h2,d⟩:=aB f;have e1:qU i gt gb ρ=U (cC E c (jB (λs x=>(body s x).v) xs a)):=by
  rw[g,h];exact Ej E b l body xs a h2
 rcases yZ (λs x=>(body s x).v) xs a with⟨s',es⟩|⟨r,es⟩
 ·rw[es]at e1 d ⊢;rw[iQ e1];exact(K s').ok d
 ·rw[es]at e1 ⊢;show aD (qU i gt gb) k ρ=U (cO (inj r));unfold aD;rw[e1,j];rfl⟩
class Ky {κ:Type} (c:κ->AY):Prop where
 inj:∀a b,c a=c b->a=b
abbrev kS:AJ->AY:=Sum.inr
abbrev kI:Int->AY:=Sum.inl
instance:Ky kS:=⟨λ_ _ h=>by cases h;rfl⟩
instance:Ky kI:=⟨λ_ _ h=>by cases h;rfl⟩
abbrev mE(e:α->Dt):Z (AJ×α)->Bx:=λm=>.m (m.map λq=>(kS q.1,e q.2)) Y
abbrev nE(e:α->Dt):Z (AJ×α)->Bx:=λm=>.n (m.map λq=>(kS q.1,e q.2))
section
variable [DecidableEq κ] {c:κ->AY}
def look[Inhabited α](m:Z (κ×α))(x:κ):α:=((m.find? λq=>decide (q.1=x)).map (·.2)).getD default
def has(m:Z (κ×α))(x:κ):Bool:=m.any λq=>decide (q.1=x)
def put(m:Z (κ×α))(x:κ)(a:α):Z (κ×α):=if has m x=true then m.map (λq=>if q.1=x then(q.1,a)else q)else m++[(x,a)]
theorem HR[Ky c](a b:κ):decide (c a=c b)=decide (a=b):=by
 by_cases h:a=b
 ·rw[h];simp
 ·rw[ZE h,ZE λz=>h (Ky.inj (c:=c) _ _ z)]
theorem T2[Ky c](m:Z (κ×α))(x:κ):Gg (m.map λq=>(c q.1,e q.2)) (c x)=((m.find? λq=>decide (q.1=x)).map (·.2)).map e:=by
 unfold Gg;rw[List.find?_map];simp only[Option.map_map,Function.comp_def,HR]
theorem S2[Ky c][Inhabited α]{m:Z (κ×α)}{x:κ}(h:has m x=true):Gg (m.map λq=>(c q.1,e q.2)) (c x)=U (e (look m x)):=by
 rw[T2];unfold look;unfold has at h;rw[QP]at h;obtain⟨q,a,hx⟩:=h;cases b:m.find? λq=>decide (q.1=x)with
 |none=>exact absurd hx (by simpa using List.find?_eq_none.mp b q a)
 |some q=>rfl
theorem VP[Ky c](m:Z (κ×α))(x:κ)(a:α):Lh (m.map λq=>(c q.1,e q.2)) (c x) (e a)=(put m x a).map λq=>(c q.1,e q.2):=by
 unfold Lh put has;rw[yv];simp only[Function.comp_def,HR];by_cases h:(m.any λq=>decide (q.1=x))=true
 ·rw[zh h,zh h];rw[QU,QU];refine JY λq _=>?_;simp only[Function.comp];by_cases b:q.1=x
  ·simp[b]
  ·have h':¬ c q.1=c x:=λz=>b (Ky.inj (c:=c) _ _ z);simp[b,h']
 ·rw[zC h,zC h];simp
end
theorem Qq:∀m:Z (AJ×α),W7 (m.map λq=>(kS q.1,e q.2))=U (m.map (·.1))
 |[]=>rfl
 |q::m=>by rw[zw,W7,Qq m,Au];rfl
def xW[Inhabited α](a:R fa ρ (nE e))(b:R fb ρ (zE eS)):R (b2 ud fa fb) ρ (zE e):=⟨look a.v b.v,bA (bA a.D b.D) (U (has a.v b.v=true)),λh=>by
 obtain⟨h,d⟩:=aB h;obtain⟨h1,h2⟩:=aB h;simp only[b2,a.ok h1,b.ok h2,Au,ud,Co,S2 (c:=kS) (show has a.v b.v=true from d)]⟩
end
section
variable{fs:Ev->O AZ}{e:α->Dt}
theorem za(h:oV b=U ds):wK b=U ds:=by
 cases b with
 |z d=>cases d<;>first|exact h|(cases h;done)
 |l _=>exact h
 |o _=>exact h
 |n _=>cases h
 |m _ _=>cases h
theorem L3(n:Nat):∃m,m=n:=⟨n,rfl⟩
noncomputable def kN(n:Nat):Nat:=Classical.choose (L3 n)
theorem Qs(n:Nat):kN n=n:=Classical.choose_spec (L3 n)
noncomputable def MS(n:Int)(m:Nat)(b:n.toNat=m)(a:Rg n):R (O7 (ao (cB (.int n)) aH)) ρ (iE eI):=⟨rng 0 (kN m),Y,λh=>by rw[Qs];exact(U1 n m b a).ok h⟩
end
end P1
namespace P1
open L2 S1 S6
class pP {α:Type} (e:α->Dt) where
 k:α->AY
 ok:∀a,Fs (e a)=some (k a)
 inj:∀a b,k a=k b->a=b
 same:∀a b,Vn (k a) (k b)=true
instance:pP eI:=⟨λi=>.inl i,λ_=>rfl,λa b h=>by cases h;rfl,λ_ _=>rfl⟩
instance:pP eS:=⟨λi=>.inr i,λ_=>rfl,λa b h=>by cases h;rfl,λ_ _=>rfl⟩
class rG {α:Type} (e:α->Dt) where
 k:α->List AY
 ok:∀a,Gi (e a)=some (k a)
 inj:∀a b,k a=k b->a=b
 shp:∀a b,Ln (k a) (k b)=true
 ne:∀a,(k a).isEmpty=false
class F2 {α:Type} (e:α->Dt) [rG e]:Prop where
 tx:∀a,Qc (rG.k e a)=true
section
variable{e:α->Dt}{e':β->Dt}{e'':γ->Dt}{e3:δ->Dt}
instance [pP e] [pP e']:rG (Xy e e'):=⟨λq=>[pP.k e q.1,pP.k e' q.2],λq=>by simp only[Gi,Bv,pP.ok,Au],λa b h=>by
 simp only[kP,and_true]at h;exact Prod.ext (pP.inj _ _ h.1) (pP.inj _ _ h.2),λa b=>by simp[Ln,pP.same],λ_=>rfl⟩
instance [pP e] [pP e'] [pP e'']:rG (ED e e' e''):=⟨λq=>[pP.k e q.1,pP.k e' q.2.1,pP.k e'' q.2.2],λq=>by simp only[Gi,Bv,pP.ok,Au],λa b h=>by
 simp only[kP,and_true]at h;exact Prod.ext (pP.inj _ _ h.1) (Prod.ext (pP.inj _ _ h.2.1) (pP.inj _ _ h.2.2)),λa b=>by simp[Ln,pP.same],λ_=>rfl⟩
instance [pP e] [pP e'] [pP e''] [pP e3]:rG (EH e e' e'' e3):=⟨λq=>[pP.k e q.1,pP.k e' q.2.1,pP.k e'' q.2.2.1,pP.k e3 q.2.2.2],λq=>by simp only[Gi,Bv,pP.ok,Au],λa b h=>by
 simp only[kP,and_true]at h;exact Prod.ext (pP.inj _ _ h.1) (Prod.ext (pP.inj _ _ h.2.1) (Prod.ext (pP.inj _ _ h.2.2.1) (pP.inj _ _ h.2.2.2))),λa b=>by simp[Ln,pP.same],λ_=>rfl⟩
instance [pP e]:F2 (Xy e eS):=⟨λa=>by simp[rG.k,Qc,pP.k]⟩
instance [pP e] [pP e']:F2 (ED e eS e'):=⟨λa=>by simp[rG.k,Qc,pP.k]⟩
instance [pP e] [pP e'] [pP e'']:F2 (EH e eS e' e''):=⟨λa=>by simp[rG.k,Qc,pP.k]⟩
variable{fs:Ev->O (Z (Z AY))}
theorem xX[rG e]:∀xs:Z α,rY (xs.map e)=U (xs.map (rG.k e))
 |[]=>rfl
 |x::xs=>by simp only[zw,rY,rG.ok,Au,xX xs]
def HH(e:α->Dt)[rG e](a b:α):Bool:=wL (rG.k e a) (rG.k e b)
def ug(e:α->Dt)[rG e](xs:Z α):Z α:=xs.mergeSort (HH e)
theorem jL[rG e](xs:Z α):(ug e xs).Perm xs:=ym ..
theorem T3[rG e](xs:Z α):(ug e xs).Pairwise (λa b=>HH e a b=true):=KF (le:=HH e) (λa b c=>xQ (rG.k e a) (rG.k e b) (rG.k e c)) (λa b=>xR (rG.k e a) (rG.k e b)) xs
theorem J4[rG e](xs:Z α):jZ (xs.map (rG.k e))=(ug e xs).map (rG.k e):=by
 refine(qZ ((jL xs).map _) (List.pairwise_map.mpr (T3 xs))).symm
theorem Lm[rG e](xs:Z α):(xs.map (rG.k e)).map BF=xs.map e:=by
 rw[QU];exact JY λa _=>(Pk (rG.ok a)).symm
theorem Qt[rG e](xs:Z α)(h:xs.length<64):CQ (xs.map (rG.k e))=true:=by
 simp only[CQ,Zz,qi,qo,Qr,zi,yo,forall_exists_index,and_imp,forall_apply_eq_imp_iff₂];exact⟨h,λa _=>rG.ne a,λa _ b _=>rG.shp a b⟩
def gf[rG e](a:RL fa ρ e):R (cg u0 (ao fa aH)) ρ (oE e):=⟨ug e a.v,bA a.D (U (a.v.length<64)),λh=>by
 obtain⟨h,b⟩:=aB h;simp only[cg,ao,aH,a.ok h,Au,u0,za a.lk,xX,Qt a.v b,qS,J4,Lm]⟩
abbrev uE(e:α->Dt)[rG e]:Z α->Z (Z AY):=λxs=>xs.map (rG.k e)
def L9[rG e][F2 e](a:RL fa ρ e):R (Tj fa) ρ (uE e):=⟨a.v,bA a.D (U (a.v.length<=64)),λh=>by
 obtain⟨h,b⟩:=aB h;have b:a.v.length<=64:=b;have c:(a.v.map (rG.k e)).all Qc=true:=by
  rw[List.all_map,qo];exact λx _=>F2.tx x
 simp only[Tj,a.ok h,Au,Nc,za a.lk,xX];rw[zh ⟨by rw[zi];exact b,c⟩]⟩
def NU[DecidableEq α][rG e](a:R fs ρ (uE e)):R (Gs fs) ρ (oE e):=⟨ug e (JZ a.v),bA a.D (U (a.v.length<64)),λh=>by
 obtain⟨h,b⟩:=aB h;simp only[Gs,a.ok h,Au,Qt a.v b,qS,LR rG.inj,J4,Lm]⟩
end
end P1
namespace P1
open L2
section
variable{fd:Ev->O Bx}{fs:Ev->O (Z Bx)}{e:α->Dt}{e':β->Dt}{k:Ev->O An}{cO:γ->An}
abbrev mW(w:O A1)(e:α->Dt):Z (AJ×α)->Bx:=λm=>.m (m.map λq=>(kS q.1,e q.2)) w
def aM(e:α->Dt)(t:γ->Z Bx->Prop):Z (AJ×α)×γ->Z Bx->Prop:=λx bs=>∃b r,bs=b::r/\(b=nE e x.1\/b=mE e x.1)/\t x.2 r
def cw{t:γ->Z Bx->Prop}(a:R fa ρ (nE e))(r:AR t fs ρ):AR (aM e t) (ao fa fs) ρ:=⟨(a.v,r.v),bA a.D r.D,_,⟨_,_,rfl,.inl rfl,r.h⟩,λh=>by
 obtain⟨h1,h2⟩:=aB h;simp only[ao,a.ok h1,r.ok h2,Au]⟩
def VR(w:O A1)(i:Nat)(m:Z (AJ×α))(hi:ρ[i]?=U (U (mW w e m)))(a:R fa ρ (zE e))(b:R fb ρ (zE eS))(K:∀d:Z (AJ×α),R k (ρ.set i (U (mW w e d))) cO):R (aD (Vk i fa fb) k) ρ cO:=⟨(K (put m b.v a.v)).v,bA (bA (bA a.D b.D) (U (m.length<1000))) (K (put m b.v a.v)).D,λg=>by
 obtain⟨h,c⟩:=aB g;obtain⟨h,f⟩:=aB h;obtain⟨h1,h2⟩:=aB h;rw[iQ (ρ':=ρ.set i (U (mW w e (put m b.v a.v)))) (by
  unfold Vk;rw[a.ok h1,Au,b.ok h2,Au];simp only[Pa,Co,Au,hi,mW,zi,zh (show m.length<1000 from f),VP])]
 exact(K _).ok c⟩
def EU(a:Z (AJ×β)):Z (AJ×β):=a.foldl (λm q=>put m q.1 q.2) []
theorem T4(a:Z (AJ×β)):dictOf (a.map (Xy eS e'))=(EU a).map λq=>(kS q.1,e' q.2):=by
 unfold dictOf EU;have:∀(a:Z (AJ×β)) (m:Z (AJ×β)),(a.map (Xy eS e')).foldl IR (m.map λq=>(kS q.1,e' q.2))=(a.foldl (λm q=>put m q.1 q.2) m).map λq=>(kS q.1,e' q.2):=by
  intro a
  induction a with
  |nil=>intro m;rfl
  |cons q a b=>
   intro m;rw[zw,QO,QO];show(a.map (Xy eS e')).foldl IR (Lh (m.map λq=>(kS q.1,e' q.2)) (kS q.1) (e' q.2))=_;rw[VP (c:=kS)];exact b _
 exact this a []
def ck(a:R fk ρ (zE eS))(b:R fv ρ (zE e)):R (b2 Gu fk fv) ρ (zE (Xy eS e)):=⟨(a.v,b.v),bA a.D b.D,λh=>by
 obtain⟨h1,h2⟩:=aB h;simp only[b2,a.ok h1,b.ok h2,Au,Gu]⟩
def UM(i:R fi ρ (iE e))(a:R (gB fi gt p (b2 Gu fk fv) is n) ρ (oE (Xy eS e'))):R (Vy fi gt p fk fv is n) ρ (mE e'):=⟨EU a.v,bA (bA i.D (U (i.v.length<1000))) a.D,λh=>by
 obtain⟨h,d⟩:=aB h;obtain⟨h1,h2⟩:=aB h;have h2:i.v.length<1000:=h2;have b:=a.ok d;unfold gB at b;unfold Vy;rw[i.ok h1,Au]at b ⊢;rw[zh (by rw[zi];omega)]at b;rw[zh (by rw[zi];exact h2)];obtain⟨f,c,b⟩:=AT b;rw[c,Au];injection b with b;injection b with b;rw[b,T4]⟩
def SA(a:R fa ρ (nE e)):R (cg Gx (ao fa aH)) ρ (oE eS):=⟨a.v.map (·.1),a.D,λh=>by
 simp only[cg,ao,aH,a.ok h,Au,Gx,Qq]⟩
def MH(a:R fa ρ (zE eS))(b:R fb ρ (zE eS)):R (cg u9 (ao fa (ao fb aH))) ρ (zE eS):=⟨if Cf b.v a.v=true then b.v else a.v,bA a.D b.D,λh=>by
 obtain⟨h1,h2⟩:=aB h;simp only[cg,ao,aH,a.ok h1,b.ok h2,Au,u9];rfl⟩
def Pe(a:R fa ρ (zE eS))(b:R fb ρ (zE eS)):R (cg Qg (ao fa (ao fb aH))) ρ (zE eS):=⟨if Cf a.v b.v=true then b.v else a.v,bA a.D b.D,λh=>by
 obtain⟨h1,h2⟩:=aB h;simp only[cg,ao,aH,a.ok h1,b.ok h2,Au,Qg];rfl⟩
theorem c9{bs:Z Bx}{m:Z (AJ×α)}{c:Z (AJ×α)->Ev}(x:R g ((mW (U a) e m::bs).map U++List.replicate (n-(bs.length+1)) Y) (λb=>An.nx (c b)))(h:hold x.D)(h0:∀b,(c b)[0]?=U (U (mW (U a) e b))):Qh n g a (m.map λq=>(kS q.1,e q.2)) bs=U (x.v.map λq=>(kS q.1,e q.2)):=by
 unfold Qh;rw[x.ok h,Au];simp only[h0,qS]
def az{c:γ->Z Bx->Prop}{cO:δ->An}{T:Z (AJ×α)->γ->Z (AJ×α)}{b:Z (AJ×α)->γ->O Prop}(w:O A1)(i:Nat)(m:Z (AJ×α))(hi:ρ[i]?=U (U (mW w e m)))(S:∀m v bs,c v bs->bs.length=n/\bs.all DZ=true/\(hold (b m v)->∀a,G a (m.map λq=>(kS q.1,e q.2)) bs=U ((T m v).map λq=>(kS q.1,e q.2))))(a:AR c fs ρ)(K:∀g:Z (AJ×α),R k (ρ.set i (U (mW w e g))) cO):R (aD (Gz i n G fs) k) ρ cO:=⟨(K (T m a.v)).v,bA (bA a.D (b m a.v)) (K (T m a.v)).D,λj=>by
 obtain⟨h,o⟩:=aB j;obtain⟨h1,h2⟩:=aB h;obtain⟨l,d,f⟩:=S m a.v a.bs a.h;rw[iQ (Sc hi (a.ok h1) l d (f h2))];exact(K _).ok o⟩
end
section
variable{e:α->Dt}
def sJ[DecidableEq α](x:α)(ys:Z α):Bool:=decide (x∈ys)
theorem zf[DecidableEq α]{x:α}{ys:Z α}:sJ x ys=true↔x∈ys:=by unfold sJ;rw[qi]
theorem l0[DecidableEq α][B6 e n](b:n<=60)(x:α)(ys:Z α):Ma (e x) (ys.map e)=U (decide (x∈ys)):=by
 unfold Ma;rw[zh]
 ·congr 1;rw[yv,JE,QP,qi];constructor
  ·rintro⟨y,a,h⟩;simp only[Function.comp,B6.eq]at h;by_cases q:y=x
   ·exact q▸a
   ·simp[q,Yw]at h
  ·intro h;exact⟨x,h,by simp[Function.comp,B6.eq,Yw]⟩
 ·rw[List.all_map,qo];intro y _;have:=B6.dp (e:=e) y;simp only[Function.comp,B6.eq,yT,ya,qi];omega
def NR[DecidableEq α][B6 e n](c:n<=60)(a:R fa ρ (zE e))(b:RL fb ρ e):R (b2 Mf fa fb) ρ (zE eB):=⟨!sJ a.v b.v,bA a.D b.D,λh=>by
 obtain⟨h1,h2⟩:=aB h;simp only[b2,a.ok h1,b.ok h2,Au,Mf,za b.lk,l0 c,sJ]⟩
end
end P1
namespace P1
open L2 S1 S6
def kT(xs:AZ):Z AY:=xs.map Sum.inr
theorem Qu:∀(xs:AZ),Bv (xs.map eS)=U (kT xs)
 |[]=>rfl
 |x::xs=>by simp only[zw,Bv,Fs,Au,Qu xs];rfl
theorem J5:∀(a:Z AZ),rY (a.map (eT eS))=U (a.map kT)
 |[]=>rfl
 |x::a=>by simp only[zw,rY,Gi,eT,Qu,Au,J5 a]
def HE(a b:AZ):Bool:=wL (kT a) (kT b)
def vC(a:Z AZ):Z AZ:=a.mergeSort HE
theorem pQ(xs:Z AZ):(vC xs).Perm xs:=ym ..
theorem Qv(xs:Z AZ):(vC xs).Pairwise (λa b=>HE a b=true):=KF (le:=HE) (λa b c=>xQ (kT a) (kT b) (kT c)) (λa b=>xR (kT a) (kT b)) xs
theorem T5(xs:Z AZ):jZ (xs.map kT)=(vC xs).map kT:=(qZ ((pQ xs).map _) (List.pairwise_map.mpr (Qv xs))).symm
theorem Y'(xs:Z AZ):(xs.map kT).map BF=xs.map (eT eS):=by
 rw[QU];refine JY λa _=>?_;show Dt.tup ((kT a).map dK)=Dt.tup (a.map eS);unfold kT;rw[QU];rfl
theorem eA(a b:AZ):Ln (kT a) (kT b)=true:=by
 unfold Ln kT;rw[qo];rintro⟨x,y⟩ h;obtain⟨h1,h2⟩:=yf h;obtain⟨p,_,rfl⟩:=List.mem_map.mp h1;obtain⟨q,_,rfl⟩:=List.mem_map.mp h2;rfl
theorem cE(xs:Z AZ)(h:xs.length<64)(c:∀x∈xs,x.isEmpty=false):CQ (xs.map kT)=true:=by
 simp only[CQ,Zz,qi,qo,Qr,zi,yo,forall_exists_index,and_imp,forall_apply_eq_imp_iff₂];refine⟨h,λa d=>?_,λa _ b _=>eA a b⟩;have:=c a d;cases a with
 |nil=>cases this
 |cons _ _=>rfl
def P'(a:RL fa ρ (eT eS)):R (cg u0 (ao fa aH)) ρ (oE (eT eS)):=⟨vC a.v,bA a.D (U (a.v.length<64/\∀x∈a.v,x.isEmpty=false)),λh=>by
 obtain⟨h,b⟩:=aB h;obtain⟨b,c⟩:a.v.length<64/\∀x∈a.v,x.isEmpty=false:=b;simp only[cg,ao,aH,a.ok h,Au,u0,za a.lk,J5,cE a.v b c,qS,T5,Y']⟩
section
variable{e:α->Dt}
theorem map_some(e:α->Dt)(xs:Z α):(xs.map U).map (eO e)=xs.map e:=by rw[QU];rfl
end
end P1
namespace P1
open L2
section
variable{k:Ev->O An}{cO:α->An}
def SK(i:Nat)(E:Ev)(a:Go i ρ=U E)(K:R k E cO):R (F1 i k) ρ cO:=⟨K.v,K.D,λh=>by
 unfold F1;rw[a];exact K.ok h⟩
end
section
variable{e:α->Dt}
end
section
variable{σ τ:Type}{k:Ev->O An}{cO:γ->An}
def J6(a:σ->Bool)(step:σ->jt σ τ):Nat->σ->jt σ τ
 |0,s=>.nx s
 |n+1,s=>if a s=true then(match step s with
  |.nx s'=>J6 a step n s'
  |.ct s'=>J6 a step n s'
  |.bk s'=>.nx s'
  |.rt r=>.rt r)else .nx s
def DH(b:σ->Bool)(a:σ->O Prop)(step:σ->jt σ τ)(P:σ->O Prop):Nat->σ->Prop
 |0,_=>False
 |n+1,s=>hold (a s)/\(b s=true->hold (P s)/\match step s with
  |.nx s'=>DH b a step P n s'
  |.ct s'=>DH b a step P n s'
  |.bk _=>True
  |.rt _=>True)
theorem Mv(a:σ->Bool)(step:σ->jt σ τ):∀(n:Nat) (s:σ),(∃s',J6 a step n s=.nx s')\/∃r,J6 a step n s=.rt r
 |0,s=>.inl ⟨s,rfl⟩
 |n+1,s=>by
  unfold J6;split
  ·cases step s with
   |nx s'=>exact Mv a step n s'
   |ct s'=>exact Mv a step n s'
   |bk s'=>exact .inl ⟨s',rfl⟩
   |rt r=>exact .inr ⟨r,rfl⟩
  ·exact .inl ⟨s,rfl⟩
theorem T6{c:τ->Bx}(E:σ->Ev)(a:∀s,R p (E s) tE)(body:∀s,R gb (E s) (cC E c)):∀(n:Nat) (s:σ),DH (λs=>(a s).v) (λs=>(a s).D) (λs=>(body s).v) (λs=>(body s).D) n s->Xr p gb n (E s)=U (cC E c (J6 (λs=>(a s).v) (λs=>(body s).v) n s))
 |0,s,h=>absurd h id
 |n+1,s,h=>by
  obtain⟨h1,h2⟩:=h;have e:p (E s)=U (a s).v:=(a s).ok h1;unfold Xr J6;rw[e,Au];cases f:(a s).v with
  |false=>rfl
  |true=>
   obtain⟨d,b⟩:=h2 f;rw[zh rfl,zh rfl,(body s).ok d,Au];cases hb:(body s).v with
   |nx s'=>dsimp only at b;rw[hb]at b;exact T6 E a body n s' b
   |ct s'=>dsimp only at b;rw[hb]at b;exact T6 E a body n s' b
   |bk s'=>rfl
   |rt r=>rfl
def V0{c:τ->Bx}(n:Nat)(E:σ->Ev)(a:σ)(f:ρ=E a)(b:∀s,R p (E s) tE)(body:∀s,R gb (E s) (cC E c))(inj:τ->γ)(g:∀r,cO (inj r)=.rt (c r))(K:∀s,R k (E s) cO):R (aD (Xr p gb n) k) ρ cO:=
 ⟨BG (J6 (λs=>(b s).v) (λs=>(body s).v) n a) inj λs=>(K s).v,bA (U (DH (λs=>(b s).v) (λs=>(b s).D) (λs=>(body s).v) (λs=>(body s).D) n a)) (Mt (J6 (λs=>(b s).v) (λs=>(body s).v) n a) λs=>(K s).D),λe=>by
 obtain⟨h2,d⟩:=aB e;have e1:Xr p gb n ρ=U (cC E c (J6 (λs=>(b s).v) (λs=>(body s).v) n a)):=by
  subst f;exact T6 E b body n a h2
 rcases Mv (λs=>(b s).v) (λs=>(body s).v) n a with⟨s',es⟩|⟨r,es⟩
 ·rw[es]at e1 d ⊢;rw[iQ e1];exact(K s').ok d
 ·rw[es]at e1 ⊢;show aD (Xr p gb n) k ρ=U (cO (inj r));unfold aD;rw[e1,g];rfl⟩
end
section
variable{e:α->Dt}
def HZ(fs:Ev->O (Z Bx)):Ev->O (Z Dt):=λρ=>(fs ρ).bind Qj
def wW(xs:Z α):Z (Int×α):=(List.range xs.length).zipWith (λ(k:Nat) x=>((k:Int),x)) xs
theorem Xz(xs:Z α):BJ (xs.map e)=(wW xs).map (Xy eI e):=by
 unfold BJ wW;rw[zi,List.zipWith_map_right,List.map_zipWith]
def dS(a:R fa ρ (zE (eL e))):R (HZ (ao fa aH)) ρ (iE (Xy eI e)):=⟨wW a.v,a.D,λh=>by
 simp only[HZ,ao,aH,a.ok h,Au,zE,eL,Qj,Xz]⟩
end
section
variable{σ τ:Type}
theorem Mw{step:σ->α->σ}{P:σ->α->O Prop}(I:Nat->σ->Prop):∀(xs:Z α) (m:Nat) (a:σ),I m a->(∀k x s,xs[k]?=U x->I (m+k) s->hold (P s x)/\I (m+k+1) (step s x))->kY step P xs a/\I (m+xs.length) (xs.foldl step a)
 |[],m,a,h0,_=>⟨trivial,h0⟩
 |x::xs,m,a,h0,hs=>by
  obtain⟨h1,h2⟩:=hs 0 x a S h0;have:=Mw I xs (m+1) (step a x) h2 λk y s e h=>by
   have:=hs (k+1) y s (by simpa using e) (by rw[show m+(k+1)=m+1+k by omega];exact h);rw[show m+(k+1)+1=m+1+k+1 by omega]at this;exact this
  refine⟨⟨h1,this.1⟩,?_⟩;rw[qc,show m+(xs.length+1)=m+1+xs.length by omega];exact this.2
theorem OL{i:Int}{k:Nat}{x:Int}(h:(rng i n)[k]?=U x):x=i+k/\k<n:=by
 unfold rng at h;rw[ZN]at h;cases a:(List.range n)[k]? with
 |none=>rw[a]at h;cases h
 |some j=>
  rw[a]at h;have b:k<n:=by simpa using(List.getElem?_eq_some_iff.mp a).1
  have:j=k:=by
   rw[List.getElem?_range b]at a;cases a;rfl
  subst this;cases h;exact⟨rfl,b⟩
theorem pR(i:Int)(n:Nat):(rng i n).length=n:=by unfold rng;simp
theorem Rl{i:Int}{x:Int}(h:x∈rng i n):i<=x/\x<i+n:=by
 unfold rng at h;obtain⟨k,a,rfl⟩:=List.mem_map.mp h;have:=List.mem_range.mp a;omega
theorem vD{step:σ->Int->σ}{P:σ->Int->O Prop}(I:Nat->σ->Prop)(n:Nat)(a:σ)(h0:I 0 a)(hs:∀(k:Nat) s,k<n->I k s->hold (P s k)/\I (k+1) (step s k)):kY step P (rng 0 n) a/\I n ((rng 0 n).foldl step a):=by
 have:=Mw (P:=P) I (rng 0 n) 0 a h0 λk x s e h=>by
  obtain⟨rfl,b⟩:=OL e;rw[KG]at h ⊢;rw[Int.zero_add];exact hs k s b h
 rw[pR,KG]at this;exact this
theorem G5{step:Unit->α->jt Unit Bool}{P:Unit->α->O Prop}:∀xs:Z α,(∀x∈xs,hold (P () x)/\(step () x=.nx ()\/step () x=.ct ()))->jB step xs ()=.nx ()/\uf step P xs ()
 |[],_=>⟨rfl,trivial⟩
 |x::xs,h=>by
  obtain⟨h1,h2⟩:=h x (zk ..);have a:=G5 (P:=P) xs λy b=>h y (zo _ b);rcases h2 with h2|h2
  ·exact⟨by unfold jB;rw[h2];exact a.1,h1,by rw[h2];exact a.2⟩
  ·exact⟨by unfold jB;rw[h2];exact a.1,h1,by rw[h2];exact a.2⟩
theorem pq[Inhabited α]{xs:Z α}{i:Int}(h:In xs.length i):at' xs i∈xs:=by
 obtain⟨x,hx⟩:=Mq h;unfold at';rw[hx];unfold Ie at hx;obtain⟨j,_,hx⟩:=AT hx;exact QA hx
theorem L5[Inhabited α]{xs:Z α}{k:Nat}{x:α}(h:xs[k]?=U x):at' xs (k:Int)=x:=by
 have a:k<xs.length:=(List.getElem?_eq_some_iff.mp h).1;unfold at' Ie EL;rw[zh (by omega),zh (by omega),Au,KP,h];rfl
theorem T7[Inhabited α](xs:Z α)(k:Nat)(h:k<xs.length):at' xs (k:Int)=xs[k]:=L5 (Zs h)
theorem B8{i:Int}(h0:0<=i)(h1:i<n):In n i:=⟨by omega,h1⟩
theorem G6{k:Nat}(h:k<n):In n (k:Int):=⟨by omega,by omega⟩
theorem jM{x m:Int}(a:0<m)(h:m<=n):In n (x%m):=B8 (Int.emod_nonneg _ (by omega)) (Int.lt_of_lt_of_le (Int.emod_lt_of_pos _ a) h)
theorem iR(x:Int){m:Int}(a:0<m):0<=x%m/\x%m<m:=⟨Int.emod_nonneg _ (by omega),Int.emod_lt_of_pos _ a⟩
theorem J7{j:Int}(h0:0<=j)(h1:j<=1000000):Rg j:=⟨by omega,by omega⟩
theorem Ic{a b:Int}(h0:0<=a)(h1:a<18446744073709551616):ET a b:=.inl ⟨by omega,h1⟩
theorem zj{xs:Z α}{x:α}(h:x∈cut xs lo hi):x∈xs:=List.mem_of_mem_drop (List.mem_of_mem_take h)
theorem Ek(xs:Z α)(lo hi:O Int):(cut xs lo hi).length<=xs.length:=by
 unfold cut;rw[kz,kA];omega
theorem gh{xs:Z α}{k:Nat}(h:k<=xs.length):cut xs (U (k:Int)) Y=xs.drop k:=by
 unfold cut;rw[HT.acw,HT.YW,Nat.min_eq_left h,List.take_of_length_le (by simp)]
theorem eG(x y:AJ):(x++y).length=x.length+y.length:=by
 show(x.cps++y.cps).size=_;rw[KS];rfl
theorem mU(x:AJ)(i:Int):(ch x i).length=1:=rfl
theorem slice_le(x:AJ)(l u:O Int):(Txt.slice x l u).length<=x.length:=PyProof.Txt.length_slice_le x l u
theorem XC(x:AJ):(CA x).length=x.length:=by unfold CA;rw[zi,qq];rfl
theorem XD(x:AJ):(BH x).length=x.length:=by rw[fE,zi,XC]
end
section
variable [Inhabited α] {e:α->Dt}{k:Ev->O An}{cO:γ->An}
def PM(j i:Nat)(xs:Z α)(hi:ρ[i]?=U (U (.o (xs.map e))))(a:R f ρ (zE eI))(K:∀(ys:Z α) (y:α),R k ((ρ.set i (U (.o (ys.map e)))).set j (U (zE e y))) cO):R (aD (EZ j i f) k) ρ cO:=
 ⟨(K (xs.drop 1) (at' xs 0)).v,bA (bA a.D (U (a.v=0/\0<xs.length))) (K (xs.drop 1) (at' xs 0)).D,λd=>by
 obtain⟨h1,c⟩:=aB d;obtain⟨h1,h2⟩:=aB h1;obtain⟨h0,b⟩:a.v=0/\0<xs.length:=h2;rw[iQ (ρ':=(ρ.set i (U (.o ((xs.drop 1).map e)))).set j (U (zE e (at' xs 0)))) (by
  unfold EZ;rw[a.ok h1,Au];show(match (Bx.z (Dt.int a.v))with|.z (.int k)=>_|_=>Y)=_;dsimp only;rw[hi];dsimp only;rw[h0];cases xs with
  |nil=>simp at b
  |cons x xs=>
   have e1:at' (x::xs) 0=x:=L5 (xs:=x::xs) (k:=0) rfl;rw[e1,zh (by decide)];have e2:seqIndex? 0 ((x::xs).map e).length=U 0:=by
    rw[PySem.seqIndex_of (by decide) (by simp)];rfl
   rw[e2];rfl)]
 exact(K (xs.drop 1) (at' xs 0)).ok c⟩
end
section
variable{e:α->Dt}{k:Ev->O An}{cO:γ->An}
def cz(i:Nat)(xs:Z α)(hi:ρ[i]?=U (U (.o (xs.map e))))(a:R f ρ (oE e))(K:∀ys:Z α,R k (ρ.set i (U (.o (ys.map e)))) cO):R (aD (F0 i f) k) ρ cO:=⟨(K (xs++a.v)).v,bA (bA a.D (U (sy (xs.length+a.v.length)))) (K (xs++a.v)).D,λc=>by
 obtain⟨h1,b⟩:=aB c;obtain⟨h1,h2⟩:=aB h1;have h2:xs.length+a.v.length<=1000000:=h2;rw[iQ (ρ':=ρ.set i (U (.o ((xs++a.v).map e)))) (by
  unfold F0;rw[a.ok h1,Au];show GI ρ i (.o (a.v.map e))=_;simp only[GI,hi,zi,qB];rw[zh (ZH h2 (by decide))])]
 exact(K _).ok b⟩
end
section
variable{e:α->Dt}{k:Ev->O An}{cO:γ->An}
def SG[Inhabited γ]:R (aD HK k) ρ cO:=⟨default,U False,λh=>absurd h id⟩
def LV{c:α->Bx}(a:R f ρ c)(K:R k ρ cO):R (aD (BK f) k) ρ cO:=⟨K.v,bA a.D K.D,λb=>by
 obtain⟨h1,h2⟩:=aB b;rw[iQ (ρ':=ρ) (by unfold BK;rw[a.ok h1,Au])];exact K.ok h2⟩
def PC(a:R fa ρ (zE eS))(b:R fb ρ (zE e)):R (b2 J2 fa fb) ρ (mE e):=⟨[(a.v,b.v)],bA a.D b.D,λh=>by
 obtain⟨h1,h2⟩:=aB h;simp only[b2,a.ok h1,b.ok h2,Au,J2];rfl⟩
theorem SU[DecidableEq κ]{c:κ->AY}[Ky c](m:Z (κ×α))(x:κ):FO (m.map λq=>(c q.1,e q.2)) (c x)=has m x:=by
 unfold FO has;rw[yv];simp only[Function.comp_def,HR]
def LD(a:R fa ρ (zE eS))(b:R fb ρ (nE e)):R (b2 Xw fa fb) ρ (zE eB):=⟨!has b.v a.v,bA a.D b.D,λh=>by
 obtain⟨h1,h2⟩:=aB h;simp only[b2,a.ok h1,b.ok h2,Au,Xw,Co,nE,SU]⟩
theorem UV{bs:Z Bx}{a:γ->Ev}(x:R g (bs.map U++List.replicate (n-bs.length) Y) (λr=>An.nx (a r)))(h:hold x.D):dY n g bs=U (.z .non):=by
 unfold dY;rw[x.ok h];rfl
end
section
variable{e:α->Dt}
def OE(a:RL fa ρ e):R (b2 Tv fa (b1 W3 (cB (.int 1)))) ρ (oE e):=⟨a.v.reverse,a.D,λh=>by
 simp only[b2,b1,a.ok h,Au,cB,W3,Tv,a.lk,qS,oE,List.map_reverse]⟩
end
section
variable{e:α->Dt}{e':β->Dt}
end
def RP(f:Ev->O β)(ρ:Ev)(c:α->β)(v:α)(D:O Prop):Prop:=hold D->f ρ=U (c v)
theorem R.tp{f:Ev->O β}{c:α->β}{a:α}{b:O Prop}(x:R f ρ c)(d:x.v=a:=by kernel_rfl)(e:x.D=b:=by kernel_rfl):RP f ρ c a b:=λh=>by
 subst d e;exact x.ok h
def RP.r{f:Ev->O β}{c:α->β}{v:α}{D:O Prop}(h:RP f ρ c v D):R f ρ c:=⟨v,D,h⟩
theorem GT{p:Z α->Prop}(h:∀a,p [a]):∀us:Z α,us.length=1->p us
 |[a],_=>h a
theorem EW{p:Z α->Prop}(h:∀a b,p [a,b]):∀us:Z α,us.length=2->p us
 |[a,b],_=>h a b
theorem VE{p:Z α->Prop}(h:∀a b c,p [a,b,c]):∀us:Z α,us.length=3->p us
 |[a,b,c],_=>h a b c
theorem T0{p:Z α->Prop}(h:∀a b c d,p [a,b,c,d]):∀us:Z α,us.length=4->p us
 |[a,b,c,d],_=>h a b c d
theorem WZ{p:Z α->Prop}(h:∀a b c d e,p [a,b,c,d,e]):∀us:Z α,us.length=5->p us
 |[a,b,c,d,e],_=>h a b c d e
end P1
namespace P1
open L2 S1
end P1
namespace P1
open L2
section
variable{fs:Ev->O (Z Bx)}{g1 g2:Ev->O An}
end
section
variable{AS:Z AB}{g1 g2:Ev->O An}
end
section
variable{ks:Z V}
end
section
variable{M0 M1 M2 er:Expr}{f0 f2:Ev->O Bx}{d0 d2:Dt}{z0 z1 z2 z3:Pos}
end
section
variable{st:Z AB}{fr:Ev->O Bx}{i':Nat}{W:Z Nat}{z:Pos}
end
section
variable{a b c g1 g2:Ev->O An}{k:Nat}
end
end P1
namespace P1
open L2 S6
section
variable{kx vx t1 i1 t2 i2:Expr}{f1 f2:Z Expr}{xs:AZ}{g1 g2:Dt->Ev->O Ev}{p1 p2:Ev->O Bool}{fi1 fi2:Ev->O (Z Dt)}{fs:Ev->O (Z Dt)}{N m:Nat}
def cls2(fi:Ev->O (Z Dt))(gt:Dt->Ev->O Ev)(p:Ev->O Bool)(fs:Ev->O (Z Dt))(is:Z Nat)(n:Nat):Ev->O (Z Dt):=λρ=>(fi ρ).bind λds=>CK gt p fs (mR is ρ++List.replicate n Y) ds
end
end P1
namespace P1
open L2
section
variable{e:α->Dt}{e':β->Dt}{fs:Ev->O (Z Dt)}
end
def hx(h:A6)(a:A1):HO:=.ext λh'=>h'.get? a=h.get? a
section
variable{H2:Hp}{as:Z A1}
end
section
variable{gs:Z (Int×A1×Z Dt)}{k:Int}{x:Dt}{u:V}
end
section
variable{e1 e2 ev:Expr}{f2:Ev->O Bx}{w:AJ}{pw py py2 py3 px p1 p3 p4 pl a1 a2 c1 c2:Pos}
end
end P1
namespace P1
open L2 S6
section
variable{kx vx t1 i1 t2 i2:Expr}{f1 f2:Z Expr}{xs:AZ}{g1 g2:Dt->Ev->O Ev}{p1 p2:Ev->O Bool}{fi1 fi2:Ev->O (Z Dt)}{m:Nat}
end
end P1
namespace P1
open L2
section
variable{e:α->Dt}{e0:β->Dt}{fd f2:Ev->O Bx}{kk:Ev->O An}{cO:γ->An}
end
section
variable{e:α->Dt}{fs:Ev->O (Z Dt)}
end
section
variable{a:Expr}
end
theorem dJ{bs:Z Bx}{c:α->Bx}{v:α}{D:O Prop}(x:RP g (bs.map U++List.replicate (n-bs.length) Y) (λr=>An.rt (c r)) v D)(h:hold D):dY n g bs=U (c v):=MG x.r h
section
variable{e:α->Dt}
end
open PySem.Builtin PySem.Builtin.Str
section
variable{o:Expr}{fx:Ev->O Bx}
end
section
variable{g:Ev->O AJ}
end
section
variable{e1 e2 e3:Expr}{gr:Ev->O An}{fx:Ev->O Dt}{tR tQ:TS}{xr xj y1 y2:AJ}{AS no:Z AB}{kk:Nat}{p0 p00 p01 p02 q1 q2 pt pj pa px pb pif pf2 px3 a1 c1 pe1 pr a2 pj2 c2 pe2:Pos}
end
section
variable{e:α->Dt}{ea:β->Dt}{eb:δ->Dt}{kk:Ev->O An}{cO:γ->An}
end
end P1
namespace P1
open L2 S1
section
variable{k:Nat}{f:A1}{F:Z Bx->O Bx}{p:Pos}
end
end P1
namespace P1
open L2 S1 S6
theorem G'{p:Z α->Prop}(h:p []):∀us:Z α,us.length=0->p us
 |[],_=>h
section
variable{e:α->Dt}{g:Ev->O Bx}{c:α->Bx}
end
def D6(d:Dt):R (cB d) ρ (zE eD):=yW d eD d rfl
def B5(i:Int):R (cB (.int i)) ρ (zE eI):=yW (.int i) eI i rfl
def DD(s:AJ):R (cB (.str s)) ρ (zE eS):=yW (.str s) eS s rfl
abbrev Nn(K:B4)(n:AJ)(f:A1):Prop:=nsIn K mainGlobals n=U (U (.ref f))
abbrev Lk(K:B4)(f:A1)(n:AJ)(st:AB)(b:A0)(od:O A1)(sl:Array (O A0))(kV d c:A0)(a:O A1)(cd ct:A0):Prop:=K.lookup f=U ⟨b,od,.func (fnOf n n (nH st) (d8 st) (aG st) .none kV d c a cd ct),sl⟩
end P1
namespace P1
open L2
section
variable{e:α->Dt}
def Iv(x:Dt)(ys:Z Dt):Bool:=ys.any λy=>Yw (uz y x)
def XF(x:Dt)(ys:Z Dt):Prop:=∀y∈ys,(uz y x).isSome=true/\min (uc y) (uc x)<=60
theorem dE{x:Dt}{ys:Z Dt}(h:XF x ys):Ma x ys=U (Iv x ys):=by
 unfold Ma;rw[zh]
 ·rfl
 ·rw[qo];intro y a;rw[(h y a).1,ya];exact ZT (h y a).2
def VM(a:R fa ρ (zE eD))(b:RL fb ρ e):R (b2 Mf fa fb) ρ (zE eB):=⟨!Iv a.v (b.v.map e),bA (bA a.D b.D) (U (XF a.v (b.v.map e))),λh=>by
 obtain⟨h,c⟩:=aB h;obtain⟨h1,h2⟩:=aB h;simp only[b2,a.ok h1,b.ok h2,Au,Mf,za b.lk,eD];show(Ma a.v (b.v.map e)).bind _=_;rw[dE c];rfl⟩
end
def IY(h:A6)(e:A1)(C:A0)(dx:O A1):Prop:=∃vs sl,h.get? e=U ⟨C,dx,.fields vs,sl⟩/\vs[1]?=U .none/\vs[2]?=U .none
def T8(h:A6)(e:A1)(C:A0)(dx:O A1)(fl:A0)(T:A1):Prop:=
 ∃vs sl a ts,h.get? e=U ⟨C,dx,.fields vs,sl⟩/\vs[1]?=U (.ref T)/\T≠e/\h.get? T=U a/\a.data=.fields ts/\ts[3]?=U fl/\vs[2]?=U .none
structure Mx (S ch:List Addr) (h h':Heap):Prop where
 keep:∀b o,h.get? b=some o->b∉ch->b∉S->h'.get? b=some o
 slot:∀b o,h.get? b=some o->b∉ch->∃sl,h'.get? b=some { o with slots:=sl }
theorem Mx.trans{S c1 c2:Z A1}{h1 h2:A6}(a:Mx S c1 h h1)(b:Mx S c2 h1 h2):Mx S (c1++c2) h h2:=by
 refine⟨λx o e n m=>b.keep x o (a.keep x o e (λz=>n (Zp _ z)) m) (λz=>n (ZA _ z)) m,λx o e n=>?_⟩;obtain⟨d,e1⟩:=a.slot x o e (λz=>n (Zp _ z));obtain⟨c,e2⟩:=b.slot x _ e1 (λz=>n (ZA _ z));exact⟨c,e2⟩
theorem Mx.mono{S S' c1 c2:Z A1}{h1:A6}(a:Mx S c1 h h1)(c:∀b∈c1,b∈c2)(hs:∀b∈S,b∈S'):Mx S' c2 h h1:=
 ⟨λx o e n m=>a.keep x o e (λz=>n (c _ z)) (λz=>m (hs _ z)),λx o e n=>a.slot x o e (λz=>n (c _ z))⟩
theorem Mx.uJ{S ch:Z A1}{h1:A6}{l:Z Env}(a:Mx S ch h h1)(f:∀b∈ch,∀o,h.get? b=U o->∃vs,o.data=.fields vs)(c:h.FunFrames base l):h1.FunFrames base l:=
 c.of_keeps λb o e g=>by
  obtain⟨sl,q⟩:=a.slot b o e λz=>by
   obtain⟨vs,d⟩:=f b z o e;exact g vs d
  exact⟨_,q,rfl⟩
section
variable{outer:Z Env}{L e T:A1}{C fl:A0}
theorem J8{d:A0}{x:Bool}{vs:Array A0}(D:A.frames=U (env::outer))(p:s.heap.FunFrames base (env::outer))(v:env.frame=U L)(he:s.heap.get? e=U ⟨C,dx,.fields vs,sl⟩)(hsz:1<vs.size)(h2:vs[2]?=U .none)(h:∀h' T,s.heap.objs.size<=T->Mx (BV (env::outer)) [e] s.heap h'->T8 h' e C dx (rawInt L) T->Q () { s with heap:=h' }):
  A7 M A (do let a <-frameOf env;let pl <-entryPlaceOf L x;let b <-EntryCells.newEntry d a .none (rawInt L) .none pl;setField (.ref e) 1 b) Q Ex s:=by
 have E:e∉BV (env::outer):=λB=>by
  obtain⟨_,o,l,y⟩:=p.mem B;rw[he]at l;cases l;exact y vs rfl
 refine zb (wpAny_frameOf_fun D p v λh1 c=>?_);refine zb (wpAny_entryPlaceOf λpl i=>?_);unfold EntryCells.newEntry newFields;refine zb (qh ?_ (i.sizeOk5 _ _ _ _ _));have g:h1.get? e=U ⟨C,dx,.fields vs,sl⟩:=(c.2.1 e E).trans he;have j:=zd (h:=h1) { cls:=.type "traceback",dict:=Y,data:=.fields ([d,.ref L,.none,rawInt L,.none]++(if pl.isEmpty then List.replicate 6 Value.none else pl)).toArray } g;refine wpAny_setField j S hsz (h _ h1.objs.size (by rw[c.1];exact zg _) ?_ ?_)
 ·have kp:∀b o,b≠e->h1.get? b=U o->_:=λb o hb w=>(QN _ (Obj.mapFields (·.setIfInBounds 1 (Value.ref h1.objs.size))) (jI hb)).trans (zd
   { cls:=.type "traceback",dict:=Y,data:=.fields ([d,.ref L,.none,rawInt L,.none]++(if pl.isEmpty then List.replicate 6 Value.none else pl)).toArray } w)
  refine⟨λb o q n m=>kp b o (λz=>n (by simp[z])) ((c.2.1 b m).trans q),λb o q n=>?_⟩;obtain⟨G,t⟩:=c.2.2 b o q;exact⟨G,kp b _ (λz=>n (by simp[z])) t⟩
 ·have f:h1.objs.size≠e:=jS (zt g);have u:=QE (Obj.mapFields (·.setIfInBounds 1 (Value.ref h1.objs.size))) j (KW (kg S _));have F:=(QN (h1.push { cls:=.type "traceback",dict:=Y,data:=.fields ([d,.ref L,.none,rawInt L,.none]++(if pl.isEmpty then List.replicate 6 Value.none else pl)).toArray })
   (Obj.mapFields (·.setIfInBounds 1 (Value.ref h1.objs.size))) (jI f)).trans (zv h1 S)
  refine⟨_,_,_,_,u,by simp[hsz],f,F,rfl,?_,?_⟩
  ·first|(simp;done)|(rcases i with rfl|⟨_,_,_,_,_,_,_,rfl⟩<;>simp)
  ·rw[Array.getElem?_setIfInBounds_ne (by decide)];exact h2
theorem aa(c:A.frames=U (env::outer))(d:s.heap.FunFrames base (env::outer))(b:env.frame=U L)(hx:IY s.heap e C dx)
  (h:∀h' T,s.heap.objs.size<=T->Mx (BV (env::outer)) [e] s.heap h'->T8 h' e C dx (rawInt L) T->Q () { s with heap:=h' }):A7 M A (noteFrame (.ref e) env) Q Ex s:=by
 obtain⟨vs,sl,a,h1,h2⟩:=hx;unfold noteFrame;simp only[b];refine zb (Jn a S h1 ?_);rw[zC (by decide)];exact J8 c d b a (Array.getElem?_eq_some_iff.mp h1).1 h2 h
theorem XH(b:env.frame=U L)(hx:T8 s.heap e C dx (rawInt L) T)(h:Q () s):A7 M A (noteFrame (.ref e) env) Q Ex s:=by
 obtain⟨vs,sl,g,ts,c,h1,i,d,a,f,h2⟩:=hx;unfold noteFrame;simp only[b];refine zb (Jn c S h1 ?_);rw[zh (show(Value.ref T !=Value.none)=true from by simp)];refine zb (Jn d a f ?_);rw[zh (show(rawInt L==rawInt L)=true from by simp)];exact ze h
theorem V1{fl':A0}(hx:T8 s.heap e C dx fl T):∀h',h'=s.heap.update T (Obj.mapFields (·.setIfInBounds 3 fl'))->Mx [] [T] s.heap h'/\T8 h' e C dx fl' T:=by
 obtain⟨vs,sl,j,ts,h,h1,c,d,a,g,h2⟩:=hx;have f:3<ts.size:=(Array.getElem?_eq_some_iff.mp g).1;intro h' i;subst i;have oth:∀b,b≠T->(s.heap.update T (Obj.mapFields (·.setIfInBounds 3 fl'))).get? b=s.heap.get? b:=λb hb=>QN _ _ (jI hb);refine⟨⟨λb o q n _=>(oth b λz=>n (by simp[z])).trans q,λb o q n=>⟨o.slots,(oth b λz=>n (by simp[z])).trans q⟩⟩,vs,sl,_,_,(oth e (jI c)).trans h,h1,c,
  QE _ d (KW (kg a _)),kg a _,by simp[f],h2⟩
theorem sO(fr:O A1)(hx:T8 s.heap e C dx fl T)(h:∀h',Mx [] [T] s.heap h'->T8 h' e C dx (fr.elim .none λf=>rawInt f) T->Q () { s with heap:=h' }):A7 M A (setFlight (.ref e) fr) Q Ex s:=by
 obtain⟨x1,a⟩:=V1 (fl':=fr.elim .none λf=>rawInt f) hx _ rfl;obtain⟨vs,sl,i,ts,d,h1,j,c,b,g,h2⟩:=hx;unfold setFlight;refine zb (Jn d S h1 ?_);rw[zh (show(Value.ref T !=Value.none)=true from by simp)];exact wpAny_setField c b (Array.getElem?_eq_some_iff.mp g).1 (h _ x1 a)
theorem V2(l:A.frames=U (env::outer))(m:s.heap.FunFrames base (env::outer))(g:env.frame=U L)(hx:T8 s.heap e C dx .none T)
  (h:∀h' a,s.heap.objs.size<=a->Mx (BV (env::outer)) [T,e] s.heap h'->T8 h' e C dx (rawInt L) a->Q () { s with heap:=h' }):A7 M A (noteFrame (.ref e) env) Q Ex s:=by
 obtain⟨x1,t⟩:=V1 (fl':=.none) hx _ rfl;obtain⟨vs,sl,u,ts,i,h1,n,f,d,j,h2⟩:=hx;unfold noteFrame;simp only[g];refine zb (Jn i S h1 ?_);rw[zh (show(Value.ref T !=Value.none)=true from by simp)];refine zb (Jn f d j ?_);rw[zC (show ¬ ((Value.none==rawInt L)=true) from by simp[rawInt])];refine zb (wpAny_setField f d (Array.getElem?_eq_some_iff.mp j).1 ?_);have p:Mx (BV (env::outer)) [T] _ _:=x1.mono (λ_ z=>z) (λ_ z=>nomatch z);refine J8 (base:=base) l (x1.uJ (λb z o q=>by
  obtain rfl:b=T:=by simpa using z
  rw[f]at q;cases q;exact⟨_,d⟩) m) g ((x1.keep e _ i (by simpa using jI n) (by simp))) (Array.getElem?_eq_some_iff.mp h1).1 h2 λh' a z c x=>?_
 exact h h' a (by have:=Heap.size_after_update s.heap T (Obj.mapFields (·.setIfInBounds 3 Value.none));exact this▸z) (p.trans c) x
end
structure zm (X:Cx) (H:Hp) (b:Addr):Prop where
 un:H b=none
 ab:X.s₀.heap.objs.size<=b
 nl:b≠X.env.locals
 nc:∀x c,X.env.cells.lookup x=some c->c≠b
section
variable{H':Hp}{h':A6}{ch:Z A1}
theorem zm.new(I:AU X [] σ H s){b:A1}(h:s.heap.objs.size<=b):zm X H b:=
 ⟨I.hok.fresh h,ZH I.sz h,λz=>by have:=I.lt;rw[<-z]at this;exact absurd this (Nat.not_lt.mpr h),λx c e z=>by
  obtain⟨v,q⟩:=I.cell x c e;have:c<s.heap.objs.size:=by
   obtain⟨o,q⟩:∃o,s.heap.get? c=U o:=by
    first|(obtain⟨o,q,_⟩:=q;exact⟨o,q⟩)|exact⟨_,q⟩
   exact zt q
  rw[z]at this;exact absurd this (Nat.not_lt.mpr h)⟩
theorem El{t':Nat}(j:X.pn=[])(I:AU X [] σ H s)(c:Mx (BV X.stack) ch s.heap h')(f:∀b∈ch,zm X H b):AU X [] σ H { s with heap:=h',toks:=t' }:=by
 refine I.step (g':=s.gens) (d':=s.drawn) (ch:=ch) (λb hb=>⟨.inr (f b hb).ab,(f b hb).nl,(f b hb).nc,λp hp=>by rw[j]at hp;cases hp⟩)
  (λb o l hb a e n=>c.keep b o e a λz=>(List.mem_cons.mp (I.Et b z)).elim l hb) (λb o _ _ a e n=>c.slot b o e a) (λ_ _ _ _ n=>n)
  (λb o a e=>let ⟨_,q⟩:=c.slot b o e a;⟨_,q⟩) (λ_ _ e=>e) (λ_ _ _ e=>e) (λb ps e=>⟨#[],by rw[e];simp⟩) (λm i=>?_) (λb u e=>?_) I.bare
 ·obtain⟨o,es,ep,g,r⟩:=i;obtain⟨sl,q⟩:=c.slot _ o g λz=>(f _ z).nl rfl;exact⟨_,es,ep,q,r⟩
 ·have ne:∀(d:A1) (w:HO),H d=U w->d∉ch/\d∉BV X.stack:=λd w q=>⟨λz=>(by rw[(f d z).un]at q;cases q),λz=>(by rw[I.Dq d z]at q;cases q)⟩;refine(I.hok b u e).stay (λd v h q=>?_) (λ_ q=>q) λ_ _ q=>q;rcases h with z|z
  ·subst z;exact c.keep _ _ q (ne _ _ e).1 (ne _ _ e).2
  ·exact c.keep _ _ q (ne _ _ z).1 (ne _ _ z).2
def RX(X:Cx)(E:XK)(e:A0)(s:A2):Prop:=
 ∃a C dx σ H,e=.ref a/\AU X [] σ H s/\zm X H a/\(IY s.heap a C dx\/∃T,zm X H T/\(T8 s.heap a C dx (rawInt X.env.locals) T\/T8 s.heap a C dx .none T))/\E C dx H
def Rw(P:A3)(w:A4):Wy:=λouter H s E e s'=>
 ∃a C dx H' T,e=.ref a/\s'.os=s.os/\AllBare s'.gens/\Un (BV outer) [] H H' s.heap s'.heap/\uI P w H' s'.heap/\s.heap.objs.size<=a/\s.heap.objs.size<=T/\H' a=Y/\H' T=Y ∧
  T8 s'.heap a C dx .none T/\E C dx H'
theorem WV{fs:Z A1}{h1 h2:A6}(u:Un fs [] H H' h h1)(c:Mx fs ch h1 h2)(g:∀b∈ch,h.get? b=Y):Un fs [] H H' h h2:=by
 have d:∀b o,h.get? b=U o->b∉ch:=λb o e z=>by rw[g b z]at e;cases e
 refine⟨λb o e n f x=>c.keep b o (u.keep b o e n f x) (d b o e) f,λb o e n f x=>?_,u.free,λb o e x=>?_,u.tups,u.wJ,u.yg⟩
 ·obtain⟨sl,q⟩:=u.slot b o e n f x;obtain⟨i,a⟩:=c.slot b _ q (d b o e);exact⟨i,a⟩
 ·obtain⟨o',q⟩:=u.there b o e x;obtain⟨sl,a⟩:=c.slot b _ q (d b o e);exact⟨_,a⟩
theorem V3{E:XK}{C:A0}(i:X.pn=[])(d:X.stack=X.env::X.outer)(f:X.env.frame=U X.env.locals)(I:AU X [] σ H s)(j:zm X H a)(hx:IY s.heap a C dx\/∃T,zm X H T/\(T8 s.heap a C dx (rawInt X.env.locals) T\/T8 s.heap a C dx .none T))(h:∀h' T,AU X [] σ H { s with heap:=h' }->zm X H T->T8 h' a C dx (rawInt X.env.locals) T->Q () { s with heap:=h' }):A7 (A8 X.prog X.w) X.A (noteFrame (.ref a) X.env) Q Ex s:=by
 rcases hx with x|⟨T,e,x|x⟩
 ·have fr:=I.stack;rw[d]at fr;refine aa (base:=X.base) (d▸I.ok.frames) fr f x λh' T z c g=>?_;rw[<-d]at c;have e:zm X H T:=zm.new I z;exact h h' T (El (t':=s.toks) i I c (λb hb=>(List.mem_singleton.mp hb)▸j)) e g
 ·exact XH f x (h s.heap T I e x)
 ·have fr:=I.stack;rw[d]at fr;refine V2 (base:=X.base) (d▸I.ok.frames) fr f x λh' l z c g=>?_;rw[<-d]at c;exact h h' l (El (t':=s.toks) i I c (λb hb=>by
   rcases List.mem_cons.mp hb with rfl|hb
   ·exact e
   ·exact(List.mem_singleton.mp hb)▸j)) (zm.new I z) g
theorem XJ{E:XK}(f:X.pn=[])(l:X.stack=X.env::X.outer)(d:X.env.frame=U X.env.locals):PassesOwn (A8 X.prog X.w) X.A X.env (RX X E):=by
 intro e s' h;obtain⟨a,C,dx,σ,H,rfl,I,g,hx,m⟩:=h;refine V3 (E:=E) f l d I g hx λh' T j i x=>?_;show A7 _ _ _ _ _ _;obtain⟨vs,sl,t,ts,h1,h2,q,v,p,u⟩:=id x;refine zb (Jn h1 S h2 ?_);rw[zC (by simp)];rw[d];refine sO (s:={ s' with heap:=h' }) (U X.env.locals) x λo c n=>?_;exact⟨a,C,dx,σ,H,rfl,El (s:={ s' with heap:=h' }) (t':=s'.toks) f j (c.mono (λ_ z=>z) λ_ z=>nomatch z) (λb hb=>(List.mem_singleton.mp hb)▸i),g,.inr ⟨T,i,.inl n⟩,m⟩
theorem TD{E:XK}{e:A0}(g:X.pn=[])(m:X.stack=X.env::X.outer)(l:X.env.frame=U X.env.locals)(i:X.ex=[])(h:RX X E e s):
  A7 (A8 X.prog X.w) X.A (leaving X.env e) (λ_ j=>Rw X.prog X.w X.outer X.H₀ X.s₀ E e j) Ex s:=by
 obtain⟨a,C,dx,σ,H,rfl,I,d,hx,o⟩:=h;unfold leaving;refine zb (V3 (E:=E) g m l I d hx λh' T n f x=>?_);refine sO (s:={ s with heap:=h' }) Y x λq c p=>?_;have J:=El (s:={ s with heap:=h' }) (t':=s.toks) g n (c.mono (λ_ z=>z) λ_ z=>nomatch z) (λb hb=>(List.mem_singleton.mp hb)▸f);have u:=J.base;rw[i]at u;exact⟨a,C,dx,H,T,rfl,J.os,J.bare,u,J.hok,d.ab,f.ab,d.un,f.un,p,o⟩
end
def Cc(K:B4)(C fI:A1)(bmB:Z A0)(newId:String):Bool:=match K.lookup C with
 |some ⟨.type "type", _,.cls cd,sl⟩=>(match cd.mro,sl.toList with
  |.ref C'::bm,[_,_,_,_,U (.builtin n),_]=>C'==C&&(n==newId&&(!cd.hasDel&&(PySem.W.tailIn K bmB bm&&(findIn K (.ref C) "__init__"==U (U (.ref fI))&&isFn K (.ref fI)))))
  |_,_=>false)
 |_=>false
def IS(h:A6)(C:A1)(bmB:Z A0)(newId:String):Prop:=∃nm q N bs a g b sub d m i c l e f j,h.get? C=U (excClassObj nm q C N bs a g b sub d m i c l e f j newId)/\OwnTail h bmB a
theorem Mz(X:K.In h)(q:Cc K C fI bmB newId=true):IS h C bmB newId/\findIn K (.ref C) "__init__"=U (U (.ref fI))/\isFn K (.ref fI)=true:=by
 unfold Cc at q;split at q
 ·rename_i t u sl w;split at q
  ·rename_i D m a f e b n g c hs;simp only[Zz,beq_iff_eq,Qr]at q;obtain⟨rfl,rfl,d,z,hi,i⟩:=q;obtain⟨nm,bs,B,o,j,x,s,sub,y,p,A⟩:=u;dsimp only at c d;subst c d;have v:sl=#[a,f,e,b,U (.builtin n),g]:=by
    obtain⟨l⟩:=sl;simp only at hs;rw[hs]
   subst v;exact⟨⟨nm,j,o,bs,m,x,s,sub,y,p,t,a,f,e,b,g,X _ _ w,PySem.W.tail_of_in X z⟩,hi,i⟩
  ·cases q
 ·cases q
section
variable{g:Array GenState}{d:Drawn}{t:Nat}{e:A1}{AS:Z A0}{B:String}
abbrev V4(C t:A1):AE:={ cls:=.ref C,data:=.fields #[.ref t,.none,.none,.none,.bool false,.none] }
theorem RE{Q:Fin->A2->Prop}(F:ExcBaseFacts B newId initId bmB)(X:K.In h)(hx:Cc K C fI bmB newId=true)(e:AS.length<=AA)
  (j:∀h',(∀b o,h.get? b=U o->h'.get? b=U o)->h'.get? (h.objs.size+1)=U (V4 C h.objs.size) →
   A7 (A8 prog w) A (call (.ref fI) (.ref (h.objs.size+1)::AS)) (λr s'=>r=.none/\Q (.done (.ret (.ref (h.objs.size+1)))) s') E ⟨h',g,d,t,os⟩):
  A7 (A8 prog w) A (Builtin.«type.__call__» ⟨.ref C::AS,[]⟩) Q E ⟨h,g,d,t,os⟩:=by
 obtain⟨x,hi,i⟩:=Mz X hx;obtain⟨nm,q,N,bs,m,P,H,sub,M,G,J,y,L,I,D,W,a,T⟩:=x
 repeat (first|with_reducible refine KI a ?_|with_reducible refine wpAny_madeBy_exc a ?_|wp_step)
 refine codeAny_call_builtin_code (Code.quiet_builtin _ F.quiet) (wpAny_check_new_subT F T a ?_);refine codeAny_exc_new_subT F T a ?_ e;show A7 _ _ _ _ _ _;have kp:∀b o,h.get? b=U o->((h.push { cls:=.type "tuple",data:=.seq AS.toArray }).push (V4 C h.objs.size)).get? b=U o:=λb o z=>zd _ (zd _ z);have f:((h.push { cls:=.type "tuple",data:=.seq AS.toArray }).push (V4 C h.objs.size)).get? (h.objs.size+1)=U (V4 C h.objs.size):=by heap_get
 have v:(Value.ref C::m).contains (.ref C)=true:=by simp
 unfold isInstance
 repeat (first|with_reducible refine KI f ?_|(with_reducible refine wpAny_isSubtype_exc (kp _ _ a) ?_;rw[v])|wp_step)
 show A7 _ _ (typeLookup (.ref C) _) _ _ _;refine(looks_findIn (X.keeps kp) hi).at ?_;refine qA (zb ?_);unfold bindSpecial;obtain⟨c,u,l⟩:∃c,h.get? fI=U c/\c.cls=.type "function":=by
  have this:(K.lookup fI).map (·.cls)=U (.type "function"):=beq_iff_eq.mp i;obtain⟨o,s,n⟩:=Option.map_eq_some_iff.mp this;exact⟨o,X _ _ s,n⟩
 refine zb (QR (T :="function") ⟨_,kp _ _ u,l⟩ ?_);rw[zh (by decide)];refine ze (zb (ZZ (j _ kp f) (λr s' e=>?_) λ_ _ x=>x));obtain⟨rfl,p⟩:=e
 wp_walk
 exact p
end
abbrev Yx(C t:A1)(dx:O A1):AE:={ cls:=.ref C,dict:=dx,data:=.fields #[.ref t,.none,.none,.none,.bool false,.none] }
section
variable{g:Array GenState}{d:Drawn}{t:Nat}{e:A1}{AS:Z A0}{B:String}
theorem ay{Q:B9}(F:ExcBaseFacts B newId initId bmB)(X:K.In h)(hx:Cc K C fI bmB newId=true)(f:AS.length<=AA)
  (c:∀h',(∀b o,h.get? b=U o->h'.get? b=U o)->h'.get? (h.objs.size+1)=U (Yx C h.objs.size Y) →
   A7 (A8 prog w) (A.under (.builtin "type.__call__" ⟨.ref C::AS,[]⟩)) (call (.ref fI) (.ref (h.objs.size+1)::AS)) (λr s'=>r=.none/\Q (.ref (h.objs.size+1)) s') E ⟨h',g,d,t,os⟩):
  A7 (A8 prog w) A (call (.ref C) AS) Q E ⟨h,g,d,t,os⟩:=by
 obtain⟨nm,q,N,bs,l,x,i,sub,u,z,s,j,y,n,m,v,a,T⟩:=(Mz X hx).1;have f1:=tc_lookup;have f2:=tc_bind (.ref C);have p:(⟨h,g,d,t,os⟩:A2).TypeIs (.ref C) "type":=⟨_,a,rfl⟩;refine Kt (codeAny_of_tree ?_);show A7 _ _ (callAny (.ref C) _) _ _ _
 repeat (any_goals (first|assumption|with_reducible refine KI a ?_|wp_step))
 refine⟨rfl,?_⟩;exact codeAny_call_builtin_at (Code.quiet_builtin _ (by decide +kernel)) entry_typeCall (wpAny_check_type_call_sub a (RE F X hx f λh' k e=>c h' k e))
theorem XG{x:Sem A0}{Q:Flow->A2->Prop}(l:bmB.contains (.type "BaseException")=true)(i:A.handled=Y)(f:A7 M A x (λv a=>∃e t dx,v=.ref e/\IS a.heap C bmB newId/\a.heap.get? e=U (Yx C t dx)/\E (.ref e) a) E s):A7 M A (raiseStmt env (U x) Y) Q E s:=by
 unfold raiseStmt;refine zb (ZZ f (λv a h1=>?_) λ_ _ z=>z);obtain⟨e,t,dx,rfl,⟨nm,q,N,bs,j,F,u,sub,D,p,y,n,B,w,o,G,b,T⟩,c,h⟩:=h1;obtain⟨hp,g,d,tk,os⟩:=a;dsimp only at b c;have m:(Value.ref C::j).contains (.type "BaseException")=true:=by rw[List.contains_cons,T.hasType l,Bool.or_true]
 repeat (first|with_reducible refine KI c ?_|with_reducible refine KI b ?_|(with_reducible refine wpAny_isSubtype_exc b ?_;rw[m])|wp_step)
 exact wpAny_raiseNew_none i h
theorem Os{Q:B9}{f:A1}(F:ExcBaseFacts B newId initId bmB)(x:IS h C bmB newId)(he:h.get? e=U (Yx C f dx))(u:AS.length<=AA)(c:∀h' t1,(∀b o,b≠e->h.get? b=U o->h'.get? b=U o)->h'.get? e=U (Yx C t1 dx)->h.objs.size<=t1->h'.objs.size=h.objs.size+1->Q .none ⟨h',g,d,t,os⟩):
  A7 (A8 prog w) A (call (.builtin initId) (.ref e::AS)) Q E ⟨h,g,d,t,os⟩:=by
 obtain⟨nm,q,N,bs,m,v,i,sub,n,G,s,j,D,l,p,y,a,T⟩:=x;refine Kt (ye F.init.plain F.initEntry (wpAny_check_init_subT F T a he S ?_))
 wp_walk
 refine c _ h.objs.size (λb o hb z=>?_) ?_ (zg _) ?_
 ·rw[QN _ _ (jI hb)];exact zd _ z
 ·rw[QE _ (zd _ he) rfl];rfl
 ·rw[Heap.size_after_update,qv]
end
abbrev EI:Z A0:=[.type "ValueError", .type "Exception", .type "BaseException", .type "object"]
theorem UQ(a:A0):refuseLoop a "__setattr__" EI=pure ():=by kernel_rfl
def sS:Z A0->Bool
 |.ref _::r=>sS r
 |l=>l==EI
theorem G7(d:A0):∀{l:Z A0},sS l=true->refuseLoop d "__setattr__" l=pure ()/\l.contains (.type "object")=true/\l.isEmpty=false
 |.ref c::r,e=>by
  have e':sS r=true:=by unfold sS at e;exact e
  obtain⟨a,b,_⟩:=G7 d (l:=r) e';exact⟨by rw[refuseLoop_ref];exact a,by rw[List.contains_cons,b,Bool.or_true],rfl⟩
 |[],e=>by cases e
 |.none::r,e=>by cases e
 |.bool _::r,e=>by cases e
 |.int _ _::r,e=>by cases e
 |.str _ _::r,e=>by cases e
 |.bytes _ _::r,e=>by cases e
 |.float _ _::r,e=>by cases e
 |.builtin _::r,e=>by cases e
 |.type n::r,e=>by
  have e':(.type n::r)=EI:=by unfold sS at e;exact beq_iff_eq.mp e
  rw[e'];exact⟨UQ d,by decide,rfl⟩
def Bi(K:B4)(C:A1)(name:AJ):Bool:=
 (clsIn K C).any (λa=>a.hasDict&&sS a.mro)&&(findIn K (.ref C) "__setattr__"==U (U (.builtin "object.__setattr__"))&&findIn K (.ref C) name==U Y)
section
variable{g:Array GenState}{d:Drawn}{t:Nat}{e:A1}
theorem OS{i:A1}{v:A0}(X:K.In h)(hs:Bi K C name=true)(he:h.get? e=U (Yx C i Y))(D:∀h' tk,(∀b o,b≠e->h.get? b=U o->h'.get? b=U o)->h'.get? e=U (Yx C i (U h.objs.size))->h'.Ns1 h.objs.size (λy=>if y=name then U v else Y)->Q () ⟨h',g,d,tk,os⟩):
  A7 (A8 prog w) A (setAttr (.ref e) name v) Q E ⟨h,g,d,t,os⟩:=by
 unfold Bi at hs;rw[Zz,Zz,beq_iff_eq,beq_iff_eq]at hs;obtain⟨h1,h2,H⟩:=hs;obtain⟨a,f,hb⟩:∃a,clsIn K C=U a/\(a.hasDict&&sS a.mro)=true:=by
  cases q:clsIn K C with
  |none=>rw[q]at h1;cases h1
  |some a=>rw[q]at h1;exact⟨a,rfl,h1⟩
 rw[Zz]at hb;obtain⟨p,hb⟩:=hb;obtain⟨p1,p2,p3⟩:=G7 (.ref e) hb;have I:InstAt h e (Yx C i Y) C Y:=⟨he,rfl,rfl,trivial⟩;refine PySem.W.set_plain (s:=⟨h,g,d,t,os⟩) X I h2 ?_;have c:=PySem.F.store_object;have sub:PySem.W.Looks (A8 prog w) h (isInstance (.ref e) (.type "object")) true:=I.type.andThen (looks_mroIn X (by unfold mroIn;rw[f,JI,zC (by rw[p3];decide),p2]));refine ye c.slot.plain c.entry (@check_slot (A8 prog w) _ _ ⟨h,g,d,t+1,os⟩ "object.__setattr__" "object" "__setattr__" (.ref e) [.str name t,v] [] _ c.kind c.split sub (c.args (.ref e) (.str name t) v) ?_);have L:PySem.W.Looks (A8 prog w) h (mroOf (.ref C)) a.mro:=(looks_clsIn X f).andThen .now;rw[PySem.W.osa_eq,refuse_eq];refine zb (zb (I.type.at (zb (L.at ?_))));rw[p1];refine ze (zb (I.type.at (zb ((looks_findIn X H).at (zb (ze ?_))))));refine zb (ze (zb ?_));show A7 _ _ (instanceDict e true) _ _ _;unfold instanceDict;refine zb (wpAny_loadPart he (zb ((looks_clsIn X f).at ?_)));rw[p];show A7 _ _ (alloc { cls:=.type "dict",data:=.dict #[] } >>= λdx=>update e (λo=>{ o with dict:=U dx }) >>= λ_=>dictMade (.ref C) e dx) _ _ _;have hp:∀b o,h.get? b=U o->(h.push { cls:=.type "dict",data:=.dict #[] }).get? b=U o:=λb o z=>zd _ z;have m:h.objs.size≠e:=jS (zt he);have J:((h.push { cls:=.type "dict",data:=.dict #[] }).update e (λo=>{ o with dict:=U h.objs.size })).get? h.objs.size=U { cls:=.type "dict",data:=.dict #[] }:=by
  rw[QN _ _ (jI m)];exact zv _ rfl
 refine zb (wpAny_alloc (zb (wpAny_update (hp _ _ he) (ze ?_))));show A7 _ _ (Builtin.ObjectAttr.storeInDict h.objs.size (.str name t) name v) _ _ _;unfold Builtin.ObjectAttr.storeInDict;refine zb (ze (zb ?_));have u:((h.push { cls:=.type "dict",data:=.dict #[] }).update e (λo=>{ o with dict:=U h.objs.size })).Ns1 h.objs.size (λ_=>Y):=
  .of_empty ⟨_,#[],0,J,rfl,λx z=>by simp at z,λ_=>S⟩
 refine wpAny_nsSet1 u λh' j l=>?_;obtain⟨o,es,ep,B,n,G⟩:=j.count (ns:=[name]) (Within.cons name v Within.nil);refine zb (wpAny_lookBehind B (by rw[n];exact pastItsLine_dict (ZH G (Nat.le_add_left _ _))) (ze ?_));refine D h' _ (λb o hb z=>?_) ?_ j
 ·rw[l.2 b (Zl (zt z)),QN _ _ (jI hb)];exact hp _ _ z
 ·rw[l.2 e (jI m),QE _ (hp _ _ he) rfl]
end
def uh(K:B4)(C:A1):Bool:=
 (clsIn K C).any (λa=>a.hasDict&&(!a.mro.isEmpty&&(a.mro.contains (.type "BaseException")&&a.mro.contains (.type "object"))))&&(findIn K (.ref C) "__getattribute__"==U (U (.builtin "BaseException.__getattribute__")) &&
  (findIn K (.ref C) "__getattr__"==U Y&&(findIn K (.ref C) "__class__"==U (U (.builtin "object.__class__")) &&
  (specialIn K (.builtin "object.__class__") "__get__"==U (U (.builtin "getset_descriptor.__get__"))&&takesIn K (.builtin "object.__class__")==U true))))
section
variable{g:Array GenState}{d:Drawn}{t:Nat}{e dx:A1}{v:A0}{vs:Array A0}{m:AJ->O A0}
theorem XM{es:Array DictEntry}(b:o.data=.dict es ep)(a:nsFind es name=U v):lookIn name o=U (U v):=by
 unfold lookIn;rw[b];dsimp only;unfold nsFind findBy at a;rw[<-Array.find?_toList]at a;obtain⟨c,h1,h2⟩:=Option.map_eq_some_iff.mp a;rw[h1];dsimp only;rw[h2]
structure F' (K:B4) (C:Addr) (cd:ClassData):Prop where
 cls:clsIn K C=some cd
 dct:cd.hasDict=true
 ne:cd.mro.isEmpty=false
 be:cd.mro.contains (.type "BaseException")=true
 ob:cd.mro.contains (.type "object")=true
 ga:findIn K (.ref C) "__getattribute__"=some (some (.builtin "BaseException.__getattribute__"))
 hk:findIn K (.ref C) "__getattr__"=some none
 cl:findIn K (.ref C) "__class__"=some (some (.builtin "object.__class__"))
 gt:specialIn K (.builtin "object.__class__") "__get__"=some (some (.builtin "getset_descriptor.__get__"))
 tk:takesIn K (.builtin "object.__class__")=some true
theorem Em(hs:uh K C=true):∃cd,F' K C cd:=by
 unfold uh at hs;simp only[Zz,beq_iff_eq]at hs;obtain⟨h1,h2,c,a,b,d⟩:=hs;cases q:clsIn K C with
 |none=>rw[q]at h1;cases h1
 |some cd=>
  rw[q]at h1;have h1:(cd.hasDict&&(!cd.mro.isEmpty&&(cd.mro.contains (.type "BaseException")&&cd.mro.contains (.type "object"))))=true:=h1;simp only[Zz,Qr]at h1;exact⟨cd,⟨q,h1.1,h1.2.1,h1.2.2.1,h1.2.2.2,h2,c,a,b,d⟩⟩
theorem F'.sub{cd:ClassData}(G:F' K C cd):mroIn K C (.type "object")=U true/\mroIn K C (.type "BaseException")=U true:=by
 unfold mroIn;rw[G.cls,JI,JI,zC (by rw[G.ne];decide),zC (by rw[G.ne];decide),G.ob,G.be];exact⟨rfl,rfl⟩
theorem N9{cd:ClassData}{Q:B9}{i n:Bool}{dx:O A1}{od:O AE}{tk:Tok}{fo:Builtin.ObjectAttr.Found}(X:K.In h)(G:F' K C cd)(I:InstAt h e ⟨.ref C,dx,.fields vs,sl⟩ C od)
  (l:findObj K C od name=U fo)
  (c:A7 (A8 prog w) A.in1 (match fo with|.value v=>ret v|.bind g a=>Builtin.ObjectAttr.bindTo g a (.ref e) (.ref C)|.missing=>unsupported "") (λb s'=>match b with|.done (.ret v)=>A7 (A8 prog w) A (handedOut v) Q E s'|_=>False) (λ_ _=>False) ⟨h,g,d,t,os⟩)
  (q:fo≠.missing):A7 (A8 prog w) A (getAttrBy (.ref e) (.str name tk) n i) Q E ⟨h,g,d,t,os⟩:=by
 have j:=looks_findIn (M:=A8 prog w) X G.ga;have m:PySem.W.Looks (A8 prog w) h (hookBefore (.ref C)) Y:=PySem.W.looks_hook X (by rw[zh (by rfl)];exact G.hk);have sub:PySem.W.Looks (A8 prog w) h (isInstance (.ref e) (.type "BaseException")) true:=I.type.andThen (looks_mroIn X G.sub.2);unfold getAttrBy;refine qA (zb (I.type.at (zb (j.at ?_))));have o:(Value.builtin "BaseException.__getattribute__"==Value.builtin "object.__getattribute__")=false:=by decide +kernel
 dsimp only;rw[zC (by rw[o,ky];decide)];unfold getAttrByItsOwn;refine zb (m.at (zb (y0 (qA ?_))));unfold callGetattribute;rw[zC (by cases i<;>simp[onTheHeap])];unfold boundAndCalled;have f:=PySem.F.attrBase_ValueError.ga;rw[f.bind];refine zb (ze ?_);refine Kt (ye f.plain PySem.F.entry_bexc_ga (@check_slot (A8 prog w) _ _ ⟨h,g,d,t,os⟩ "BaseException.__getattribute__" "BaseException" "__getattribute__" (.ref e) [.str name tk] [] _ (by decide +kernel) (by decide +kernel) sub (PySem.F.args_bexc_ga (.ref e) (.str name tk)) ?_));have p:=PySem.W.looks_find (M:=A8 prog w) X I l;refine zb (ze (zb (ze (zb (I.type.at (zb (p.at ?_)))))));cases fo with
 |missing=>exact absurd S q
 |value v=>
  refine ZZ c (λb s' z=>?_) (λ_ _ z=>False.elim z);rcases b with (_|_|_|_)|_<;>first|exact z|exact z.elim
 |bind g a=>
  refine ZZ c (λb s' z=>?_) (λ_ _ z=>False.elim z);rcases b with (_|_|_|_)|_<;>first|exact z|exact z.elim
theorem iX{Q:B9}{p:Bool}(X:K.In h)(hs:uh K C=true)(o:findIn K (.ref C) name=U Y)(he:h.get? e=U ⟨.ref C,U dx,.fields vs,sl⟩)(n:h.Ns1 dx m)(q:m name=U v)(c:handedIn v=true)
  (j:Q v ⟨h,g,d,t+1,os⟩):A7 (A8 prog w) A (getAttr (.ref e) name p) Q E ⟨h,g,d,t,os⟩:=by
 obtain⟨s,G⟩:=Em hs;obtain⟨a,es,ep,i,b,u,x,f⟩:=n;have I:InstAt h e ⟨.ref C,U dx,.fields vs,sl⟩ C (U a):=⟨he,rfl,rfl,i⟩;have l:findObj K C (U a) name=U (.value v):=by
  unfold findObj PySem.W.ownOf;rw[G.cls,o];simp only[JI,G.dct,qS,XM b ((f name).trans q)]
 unfold getAttr;refine zb (wpAny_mkText (N9 X G I l (ze ?_) (by intro z;cases z)));show A7 _ _ (handedOut v) _ _ _;rw[PySem.W.handedOut_of c];exact ze j
def No(e C:A1)(h:A6):Prop:=∃dx vs sl a,InstAt h e ⟨.ref C,dx,.fields vs,sl⟩ C a
theorem e7(hs:uh K C=true):PySem.W.KitX K (.ref e) (.ref C) (No e C) where
 ty:=λM h X ⟨dx,vs,sl,od,I⟩=>I.type
 it:=λM h X _=>by
  obtain⟨c,G⟩:=Em hs;have a:=G.cls;unfold clsIn at a;split at a
  ·rename_i f i m o b;intro u y x s' k q;unfold isType loadHead;exact zb (wpAny_loadPart (k _ _ (X _ _ b)) (ze q))
  ·cases a
 ne:=λh tp v AQ n sl X j=>by
  obtain⟨c,G⟩:=Em hs;have a:=G.cls;refine Bool.eq_false_iff.mpr λq=>?_;have e:C=tp:=Value.ref.inj (beq_iff_eq.mp q);subst e;unfold clsIn at a;split at a
  ·rename_i f i m o b;have z:=(X _ _ b).symm.trans j;cases z
  ·cases a
 ca:=λ{prog w A E Q s} X p k=>by
  obtain⟨c,G⟩:=Em hs;obtain⟨dx,vs,sl,od,I⟩:=p;obtain⟨h,g,d,t,os⟩:=s;have l:findObj K C od "__class__"=U (.bind (.builtin "getset_descriptor.__get__") (.builtin "object.__class__")):=by
   unfold findObj;rw[G.cls,JI,G.cl,JI];simp[G.gt,G.tk]
  unfold getAttr? getAttrBy?;refine zb (wpAny_mkText (zb (y0 (N9 X G I l ?_ (by intro z;cases z)))));refine zb (qA (Kt (PySem.W.class_get (s:=⟨h,g,d,t+1,os⟩) (od:=od) X I G.sub.1 (ze ?_))));exact PySem.W.handed_on S (ze k)
end
def J9(e C:A1)(dx:O A1):HO:=.ext λh=>∃t,h.get? e=U (Yx C t dx)
theorem T9{e t:A1}(q:h.get? e=U (Yx C t dx)):gn P w H h e (J9 e C dx):=⟨⟨t,q⟩,⟨_,q⟩,λ_ _ ⟨t,p⟩ k=>⟨t,k _ p⟩⟩
section
variable{o value:Expr}{tv:TE}{f:AJ}{pos' p:Pos}{B:String}{t:TA}
theorem Ua(I:AU X AN σ H s)(e:H a=U (J9 a C dx)):∃t,s.heap.get? a=U (Yx C t dx):=(I.hok a _ e).1
theorem AU.aec{h':A6}(I:AU X AN σ H s)(ea:H a=U (J9 a C dx))(k:∀b u,b≠a->s.heap.get? b=U u->h'.get? b=U u){t1:A1}(he:h'.get? a=U (Yx C t1 dx)):
  AU X AN σ H { s with heap:=h',toks:=tk }:=by
 have z:=I.write (t':=tk) (x:=a) (e:=a) (o:=J9 a C dx) (by rw[ea];trivial) (.inl S) k ⟨_,he⟩ (T9 he);have q:B0 H a (J9 a C dx)=H:=by
  funext b;by_cases hb:b=a
  ·subst hb;rw[aU,ea]
  ·rw[aP hb]
 rwa [q]at z
theorem AU.attr{h':A6}(I:AU X AN σ H s)(ea:H a=U (J9 a C Y))(A:As v u)(k:∀b o,b≠a->s.heap.get? b=U o->h'.get? b=U o){t1:A1}(he:h'.get? a=U (Yx C t1 (U s.heap.objs.size)))(t:h'.Ns1 s.heap.objs.size (λy=>if y=f then U u else Y)):
  AU X AN σ (B0 (B0 H s.heap.objs.size (.xd [(f,v)])) a (J9 a C (U s.heap.objs.size))) { s with heap:=h',toks:=tk }:=by
 have x:H s.heap.objs.size=Y:=I.hok.fresh (zg _);have m:a<s.heap.objs.size:=I.hok.lt ea;have B:s.heap.objs.size≠a:=jS m;have lt:∀b u,s.heap.get? b=U u->b≠s.heap.objs.size:=λb u q=>Zl (zt q);have e:∀b,b≠a->b≠s.heap.objs.size->B0 (B0 H s.heap.objs.size (.xd [(f,v)])) a (J9 a C (U s.heap.objs.size)) b=H b:=λb h1 h2=>by rw[aP h1,aP h2]
 have d:∀b w,H b=U w->(∀p,w≠.ext p)->b≠a:=λb w q h z=>by subst z;rw[ea]at q;cases q;exact h _ rfl
 have g:∀b w,H b=U w->b≠s.heap.objs.size:=λb w q z=>by rw[z,x]at q;cases q
 refine I.un (t':=tk) ⟨λb u q n _ _=>k b u (λz=>by subst z;rw[ea]at n;cases n) q,λb u q n _ _=>⟨u.slots,k b u (λz=>by subst z;rw[ea]at n;cases n) q⟩,
  λb u q n _=>?_,λb u q _=>?_,λb xs q=>?_,λb u xs q=>?_,λb ps q=>⟨#[],?_⟩⟩ (λb w q=>?_)
 ·rw[e b (λz=>by subst z;rw[ea]at n;cases n) (lt b u q)];exact n
 ·by_cases hb:b=a
  ·subst hb;exact⟨_,he⟩
  ·exact⟨u,k b u hb q⟩
 ·rw[e b (d b _ q λ_ z=>nomatch z) (g b _ q)];exact q
 ·rw[e b (d b _ q λ_ z=>nomatch z) (g b _ q)];exact q
 ·rw[e b (d b _ q λ_ z=>nomatch z) (g b _ q),q];simp
 ·by_cases hb:b=a
  ·subst hb;rw[aU]at q;cases q;exact T9 he
  ·rw[aP hb]at q;by_cases l:b=s.heap.objs.size
   ·subst l;rw[aU]at q;cases q;refine⟨_,t,λy=>?_⟩;by_cases j:y=f
    ·subst j;rw[zh rfl];simp only[List.lookup,beq_self_eq_true];exact A
    ·rw[zC j];have:(y==f)=false:=beq_eq_false_iff_ne.mpr j;simp only[List.lookup,this];trivial
   ·rw[aP l]at q;refine(I.hok b w q).stay (λc u i z=>k c u ?_ z) (λc z=>?_) λc xs z=>?_
    ·rcases i with i|i
     ·rw[i];exact hb
     ·exact d c _ i λ_ z=>nomatch z
    ·rw[e c (d c _ z λ_ z=>nomatch z) (g c _ z)];exact z
    ·rw[e c (d c _ z λ_ z=>nomatch z) (g c _ z)];exact z
def W1(C:A1)(ta tv:TE)(f:AJ):TS:=λD σ H=>tv σ H λy H1=>ta σ H1 λx H2=>∃a,x=.ref a/\H2 a=U (J9 a C Y)/\∀dx,H2 dx=Y->dx≠a->D.nx σ (B0 (B0 H2 dx (.xd [(f,y)])) a (J9 a C (U dx)))
theorem e6(m:Bi X.K C f=true)(b:PE X o ta)(c:PE X value tv)(hs:swapsWith value (U (.Attribute o f pos')) pos.line X.env=pure false:=by rfl):PS X (.Assign [.Attribute o f pos'] value pos) (W1 C ta tv f):=by
 intro AN s σ H D I h;refine plainObj_wpAny_Assign_Attribute (gM (c AN s σ H _ I h) λu s1 ⟨y,H1,I1,ry,q⟩=>gM (b AN s1 σ H1 _ I1 q) λov s2 ⟨x,H2,I2,rx,a,ex,ea,q2⟩=>?_) hs;subst ex;obtain rfl:ov=Value.ref a:=rx;obtain⟨t,n⟩:=Ua I2 ea;have i:H2 s2.heap.objs.size=Y:=I2.hok.fresh (zg _);obtain⟨p,g,d,tk,os⟩:=s2;refine OS I2.Es m n λh' j k l e=>?_;exact⟨σ,_,AU.attr (tk:=j) I2 ea ry k l e,q2 _ i (jS (I2.hok.lt ea))⟩
def fg(C:A1)(t:TA):TE:=λσ H Q=>t σ H λvs H1=>∃a v,vs=[.ref a,v]/\H1 a=U (J9 a C Y)/\Q .non H1
def V5(K:B4)(FE:A1)(initId:String):Prop:=
 specialIn K (.ref FE) "__getattribute__"=U (U (.builtin "type.__getattribute__"))/\PySem.W.readsIn K FE (.type "type")=true/\PySem.W.findCls K (.ref FE) (.type "type") "__init__"=U (.val (.builtin initId))
theorem et{pl:Sem Bool}{FE:A1}(F:ExcBaseFacts B newId initId bmB)(hx:Cc X.K C fI bmB newId=true)(o:Gl X x)(u:X.mg x=U (.ref FE))(hb:V5 X.K FE initId)(m:handedIn (.builtin initId)=true)(j:PA X (e::es) t)(c:(x==("__debug__":AJ))=false:=by decide)(he:A9 (e::es) X.env=(false,eval e X.env)::A9 es X.env:=by rfl)(i:(AD pos (A9 es X.env)).any (·.1)=false:=by rfl)(n:eval (.Call (.Attribute (.Name x p) "__init__" apos) (e::es) [] pos) X.env=(do
   let ov <-eval (.Name x p) X.env
   standAt apos.atName
   let (f,first) <-holding [ov] (getMethod ov "__init__" pl)
   callWith pos f first (AD pos (A9 (e::es) X.env)) (backToKw pos (keywordEach [] X.env))):=by rfl):
  PE X (.Call (.Attribute (.Name x p) "__init__" apos) (e::es) [] pos) (fg C t):=by
 intro AN s σ H Q I h;refine PySem.W.methodCall_KW (pl:=pl) (vU I o u ?_ c) n;refine PySem.W.method_cls I.Es hb.1 (PySem.W.cls_value I.Es hb.2.1 hb.2.2 m ?_);refine PyProof.Rows.callWith_builtin1 (gM (j pos AN _ σ H _ (I.tok (s.toks+1)) h) λus s1 ⟨vs,H1,I1,b,a,v,ev,ea,q⟩=>?_) he i;subst ev;cases b with
 |cons l b=>
  cases b with
  |cons y b=>
   cases b;obtain rfl:=l;obtain⟨z,h0⟩:=Ua I1 ea;have x1:=(Mz I1.Es hx).1;obtain⟨w,g,d,tk,os⟩:=s1;refine Os F x1 h0 (show 1<=AA by decide +kernel) λh' t1 k he _ _=>?_;exact⟨.non,H1,AU.aec (tk:=tk) I1 ea k he,rfl,q⟩
end
def pU(H:Hp)(a:A1):Hp:=λb=>if b=a then Y else H b
section
variable{f:AJ}{p:Pos}{B:String}
theorem AU.aed{d:A6->Prop}(I:AU X AN σ H s)(ea:H a=U (.ext d)):AU X [] σ (pU H a) s:=by
 have dn:∀b,H b=Y->pU H a b=Y:=λb q=>by unfold pU;split<;>first|rfl|exact q
 have ds:∀b u,H b=U u->(∀g,u≠.ext g)->pU H a b=U u:=λb u q n=>by
  unfold pU;rw[zC (λz=>by subst z;rw[ea]at q;cases q;exact n _ S)];exact q
 refine⟨I.ok,I.os,I.bare,⟨I.base.keep,I.base.slot,λb o e n x=>dn b (I.base.free b o e n x),I.base.there,λb xs q=>ds b _ (I.base.tups b xs q) (λ_ z=>nomatch z),λb o u q=>ds b _ (I.base.wJ b o u q) (λ_ z=>nomatch z),λb ps q=>?_⟩,
  I.loc,I.cell,dn _ I.free,λy c q=>dn _ (I.jy y c q),λp hp=>?_,λb u q=>?_,I.len⟩
 ·obtain⟨f,z⟩:=I.base.yg b ps q;exact⟨f,ds b _ z λ_ z=>nomatch z⟩
 ·obtain⟨z1,z2,z3⟩:=I.pin p (by rcases List.mem_append.mp hp with z|z;exact Zp _ z;cases z);exact⟨z1,dn _ z2,z3⟩
 ·have hb:H b=U u:=by
   unfold pU at q;split at q
   ·cases q
   ·exact q
  exact(I.hok b u hb).stay (λ_ _ _ z=>z) (λc z=>ds c _ z λ_ z=>nomatch z) λc xs z=>ds c _ z λ_ z=>nomatch z
def EV(C:A1)(f:AJ)(ok:V->Prop):Sp:=λvs H Q _=>∃a v,vs=[.ref a,v]/\ok v/\H a=U (J9 a C Y)/\∀H1 dx,AV H H1->H1 dx=Y->dx≠a->Q .non (B0 (B0 H1 dx (.xd [(f,v)])) a (J9 a C (U dx)))
def PQ(C:A1)(f:AJ)(ok:V->Prop)(E:XK)(t:TA):TS:=λ_ σ H=>t σ H λvs H1=>∃v,vs=[v]/\ok v/\∀H2 dx,AV H1 H2->H2 dx=Y->E (.ref C) (U dx) (B0 H2 dx (.xd [(f,v)]))
theorem d5{k:Nat}{E:XK}{t:TA}{ok:V->Prop}(Fe:ExcBaseFacts B newId initId bmB)(hx:Cc X.K C fI bmB newId=true)(a0:bmB.contains (.type "BaseException")=true)(hk:keepIn X.K (.ref C)=true)(F:ju X.prog X.w X.K X.mg X.base xu k fI fd ps (EV C f ok))(hb:BA X.K fd ps [])(W:gW (k+1) X.A)(hg:Gl X x)(hm:X.mg x=U (.ref C))(Yy:∀e s,RX X E e s->X.xe e s)(ha:PA X (e::es) t)(a1:(x==("__debug__":AJ))=false:=by decide)(hs:A9 (e::es) X.env=(false,eval e X.env)::A9 es X.env:=by rfl)(a2:(AD cpos (A9 es X.env)).any (·.1)=false:=by rfl):
  PS X (.Raise (U (.Call (.Name x p) (e::es) [] cpos)) Y pos) (PQ C f ok E t):=by
 intro AN s σ H D I h;rw[arm_exec_Raise];refine zb (Kb (XG (C:=C) (bmB:=bmB) (newId:=newId) a0 W.hd (zb (ZZ ?_ (λv s3 h3=>zb (Kb (ze h3))) λ_ _ x=>x))));refine kD (vU I hg hm ?_ a1);refine yB (h₀:=X.base) I.ok.mod.kin hk (gM (ha cpos AN s σ H _ I h) λus s1 ⟨vs,H1,I1,r,v,ev,hok,q⟩=>⟨I1.Es,?_⟩) hs a2;subst ev;have P:us.length=1:=r.length.symm;have hf:H1 (s1.heap.objs.size+1)=Y:=I1.hok.fresh (JO _);have M:zm X H1 (s1.heap.objs.size+1):=zm.new (I1.Dr (YF:=[]) λ_ z=>nomatch z) (JO _);obtain⟨a,g,d,tk,os⟩:=s1;refine ay Fe I1.Es hx (by rw[kM,P];decide +kernel) λh' k' he=>?_;have L:AU X AN σ (B0 H1 (a.objs.size+1) (J9 (a.objs.size+1) C Y)) ⟨h',g,d,tk,os⟩:=I1.laid (t':=tk) k' (JO _) (T9 he);have r2:AX [V.ref (a.objs.size+1),v] (Value.ref (a.objs.size+1)::us):=.cons S r;have a3:ps.length=2:=(F.len [V.ref (a.objs.size+1),v] (B0 H1 (a.objs.size+1) (J9 (a.objs.size+1) C Y)) (λ_ _=>True) E0 ⟨_,_,rfl,hok,aU,λ_ _ _ _ _=>trivial⟩).symm;rw[kM];refine Kt (k6 (F.run _ X.stack _ _ ⟨Value.ref (a.objs.size+1)::us,[]⟩ (Value.ref (a.objs.size+1)::us) _ (λy Q=>y=.non/\∃c dx,AV (B0 H1 (a.objs.size+1) (J9 (a.objs.size+1) C Y)) c/\c dx=Y/\dx≠a.objs.size+1/\Q=B0 (B0 c dx (.xd [(f,v)])) (a.objs.size+1) (J9 (a.objs.size+1) C (U dx))) E0 (W.make C us [])
  (L.env0.make C us []) (by have:=hb ⟨h',g,d,tk,os⟩ (Value.ref (a.objs.size+1)::us) L.Es (by rw[ZY,qc,P,a3]);rwa [ZY]at this) r2
  ⟨_,_,rfl,hok,aU,λc dx l N j=>⟨rfl,c,dx,l,N,j,rfl⟩⟩) λr s' i=>?_)
 cases r with
 |error e=>exact False.elim i
 |ok fl=>
  cases fl with
  |next=>exact False.elim i
  |brk=>exact False.elim i
  |cont=>exact False.elim i
  |ret u=>
   obtain⟨y,Q,G,ry,ey,c,dx,l,N,j,n⟩:=L.after i;subst ey n;obtain rfl:u=Value.none:=ry;refine⟨rfl,a.objs.size+1,?_⟩;have ea:(B0 (B0 c dx (.xd [(f,v)])) (a.objs.size+1) (J9 (a.objs.size+1) C (U dx))) (a.objs.size+1)=U (J9 (a.objs.size+1) C (U dx)):=aU;obtain⟨t1,h1⟩:=Ua G ea;have n:pU (B0 (B0 c dx (.xd [(f,v)])) (a.objs.size+1) (J9 (a.objs.size+1) C (U dx))) (a.objs.size+1)=B0 (pU c (a.objs.size+1)) dx (.xd [(f,v)]):=by
    funext b;unfold pU;by_cases hb:b=a.objs.size+1
    ·rw[zh hb,hb,aP (jI j),zh rfl]
    ·rw[zC hb,aP hb];by_cases m:b=dx
     ·rw[m,aU,aU]
     ·rw[aP m,aP m,zC hb]
   have J:=AU.aed G ea;rw[n]at J;have sm:AV H1 (pU c (a.objs.size+1)):=λb o eb=>by
    have hb:b≠a.objs.size+1:=λz=>by rw[z,hf]at eb;cases eb
    unfold pU;rw[zC hb];exact l b o (by rw[aP hb];exact eb)
   have a5:pU c (a.objs.size+1) dx=Y:=by unfold pU;rw[zC j];exact N
   refine⟨t1,U dx,rfl,(Mz G.Es hx).1,h1,Yy _ _ ⟨a.objs.size+1,.ref C,U dx,σ,_,rfl,J,⟨by rw[aP (jI j)];unfold pU;rw[zh rfl],M.ab,M.nl,M.nc⟩,.inl ⟨_,_,h1,⟨rfl,rfl⟩⟩,q _ _ sm a5⟩⟩
end
theorem Qw{name x:AJ}(hx:x≠name):∀(l:Z DictEntry) (i:Nat),l.findIdx? (λe=>e.key.isStr name)=U i->(l.eraseIdx i).find? (λe=>e.key.isStr x)=l.find? (λe=>e.key.isStr x)
 |[],i,hi=>by simp at hi
 |e::l,i,hi=>by
  rw[List.findIdx?_cons]at hi;by_cases he:e.key.isStr name=true
  ·simp only[he,qS,Option.some.injEq]at hi;subst hi;have:e.key.isStr x=false:=by
    cases b:e.key.isStr x
    ·rfl
    ·exact absurd (Value.isStr_inj _ _ _ b he) hx
   rw[List.eraseIdx_zero,List.tail_cons,JA,this]
  ·have c:e.key.isStr name=false:=by simpa using he
   simp only[c,zr,ZO]at hi;cases a:l.findIdx? (λe=>e.key.isStr name)with
   |none=>simp[a]at hi
   |some j=>
    simp only[a,Option.map_some,Option.some.injEq]at hi;subst hi;rw[List.eraseIdx_cons_succ,JA,JA];cases e.key.isStr x with
    |false=>exact Qw hx l j a
    |true=>rfl
theorem fm{m:AJ->O A0}{v:A0}{Q:Bool->A2->Prop}(B:s.heap.Ns a m)(u:m name=U v)(q:∀h' c,h'.Ns a c->(∀x,x≠name->c x=m x)->Heap.SameBut a s.heap h'->Q true { s with heap:=h' }):A7 M A (nsDel a name) Q E s:=by
 obtain⟨o,es,ep,b,f,j,p⟩:=id B;have D:es.any (·.refKey)=false:=by
  rw[Array.any_eq_false'];intro e y;obtain⟨n,t,h⟩:=j e y;simp[DictEntry.refKey,h]
 have g:es.any (·.key.isStr name)=true:=by
  have h1:=(p name).trans u;unfold nsFind findBy at h1;obtain⟨w,h2,_⟩:=Option.map_eq_some_iff.mp h1;rw[Array.any_eq_true'];exact⟨w,Array.mem_of_find?_eq_some h2,by have:=Array.find?_some h2;exact this⟩
 have z:nsHas name o=pure true:=by
  rw[nsHas_eq];unfold nsHasByArray;rw[f];show(if(es.any λx=>x.key.isStr name)=true then _ else _)=_;rw[zh g]
 unfold nsDel;refine zb (wpAny_loadPart b ?_);rw[z];refine zb (ze ?_);rw[zh rfl];refine zb (wpAny_updatePart b (ze ?_));obtain⟨cl,d,F,sl⟩:=o;subst f;cases hi:es.findIdx? (·.key.isStr name)with
 |none=>
  exfalso;obtain⟨i,C,hp⟩:=Array.any_eq_true.mp g;have:=Array.findIdx?_eq_none_iff.mp hi es[i] (Array.getElem_mem C);rw[this]at hp;cases hp
 |some i=>
  refine q _ (nsFind (es.eraseIdxIfInBounds i)) ⟨_,_,ep+1,QE _ b (by simp only[Obj.dropName_eq,Obj.dropNameByArray,hi]<;>rfl),(by simp only[Obj.dropName_eq,Obj.dropNameByArray,hi]<;>rfl),j.erase i,λ_=>S⟩ (λx hx=>?_) (Heap.SameBut.update ..);rw[<-p x];unfold nsFind findBy;rw[<-Array.find?_toList,<-Array.find?_toList,Array.toList_eraseIdxIfInBounds,Qw hx es.toList i (by rw[<-hi];obtain⟨l⟩:=es;simp)]
theorem bi(I:AU X AN σ H s)(hN:X.N.Nodup)(hi:X.N[i]?=U x)(hx:X.env.scope.names.lookup x=U .local)(hv:σ[i]?=U (U v))(h:∀s',AU X AN (σ.set i Y) H s'->Q () s'):A7 M A (deleteName X.env x) Q E s:=by
 obtain⟨m,hn,P⟩:=id I.loc;obtain⟨u,ru,lk⟩:=P i x v hi hv (.inl hx);have L:X.env.kindOf x=U .local:=hx;have hm:m x=U u:=by
  rcases lk with⟨_,q⟩|⟨q,_⟩
  ·exact q
  ·rw[L]at q;rcases q with q|q<;>cases q
 have go:∀h' d,h'.Ns X.env.locals d->(∀y,y≠x->d y=m y)->Heap.SameBut X.env.locals s.heap h'->Q () { s with heap:=h' }:=λh' d t B a=>by
  refine h _ ?_;have D:∀b o,X.s₀.heap.get? b=U o->b≠X.env.locals:=λb o e=>Zl (ZU (zt e) I.ok.above);have G:∀b w,H b=U w->b≠X.env.locals:=λb w q z=>by rw[z,I.free]at q;cases q
  refine⟨I.ok,I.os,I.bare,⟨λb o e n f y=>(a.2 b (D b o e)).trans (I.base.keep b o e n f y),λb o e n f y=>?_,I.base.free,λb o e y=>?_,I.base.tups,I.base.wJ,I.base.yg⟩,
   ⟨d,t,λj y C h1 h2 h3=>?_⟩,λy c e=>?_,I.free,I.jy,λp hp=>?_,λb w q=>?_,by rw[km];exact I.len⟩
  ·obtain⟨sl,q⟩:=I.base.slot b o e n f y;exact⟨sl,(a.2 b (D b o e)).trans q⟩
  ·obtain⟨o',q⟩:=I.base.there b o e y;exact⟨o',(a.2 b (D b o e)).trans q⟩
  ·have W:j≠i:=λz=>by
    subst z;rw[KO]at h2;split at h2
    ·split at h2<;>cases h2
    ·rename_i z;exact z rfl
   rw[List.getElem?_set_ne (jI W)]at h2;obtain⟨u',r',a0⟩:=P j y C h1 h2 h3;refine⟨u',r',?_⟩;rcases a0 with⟨F,l⟩|⟨F,c,l,J⟩
   ·exact .inl ⟨F,by rw[B y (λz=>W (Eu hN (z▸h1) hi))];exact l⟩
   ·refine .inr ⟨F,c,l,?_⟩;have:=I.cne y c l;unfold Heap.IsCell at J ⊢;rw[a.2 c this];exact J
  ·obtain⟨C,q⟩:=I.cell y c e;refine⟨C,?_⟩;unfold Heap.IsCell at q ⊢;rw[a.2 c (I.cne y c e)];exact q
  ·obtain⟨q1,q2,K,q4⟩:=I.pin p hp;exact⟨(a.2 _ K).trans q1,q2,K,q4⟩
  ·refine(I.hok b w q).stay (λc u g z=>(a.2 c ?_).trans z) (λ_ z=>z) λ_ _ z=>z;rcases g with g|g
   ·rw[g];exact G b w q
   ·exact G c _ g
 unfold deleteName;rw[L];dsimp only;rw[I.ok.kind,zC (by rw[show(ScopeKind.function==ScopeKind.class)=false from rfl,show(ScopeKind.function==ScopeKind.module)=false from rfl];simp)];refine zb (fm hn hm λh' d t B a=>?_);exact ze (go h' d t B a)
section
variable{E:XK}
theorem RX.lq{Ex:B9}{e:A0}(h:RX (X.wish Ex) E e s):RX X E e s:=by
 obtain⟨a,C,dx,σ,H,r,I,m,x,q⟩:=h;refine⟨a,C,dx,σ,H,r,I.lq,⟨m.un,m.ab,m.nl,m.nc⟩,?_,q⟩;rcases x with x|⟨T,b,x⟩
 ·exact .inl x
 ·exact .inr ⟨T,⟨b.un,b.ab,b.nl,b.nc⟩,x⟩
theorem Cy.mono{st:Z AB}{t:TS}{a:B9}(h:Cy (X.wish a) st t)(k:∀e s,a e s->X.xe e s):Cy X st t:=λAN s σ H D I b=>
 ZZ (h AN s σ H D (I.wish _) b) (λ_ _ q=>q.lq) k
end
theorem Bj.okX{f:A1}{k:Nat}(F:Bj K x qual st f fd)(S:bB N ps (aG st))(len:∀vs H Q E,sp vs H Q E->vs.length=ps.length)(b:∀(a:A0) (A:A5) (outer:Z Env) (s:A2) (H:Hp) (vs:Z V) (Q:VK) (E:XK),gW k (A.deeper (AK qual (aG st) s.heap.objs.size f a))->sp vs H Q E →
   ∃t,Cy ((rK (Rw P w) P w K mg base N qual (aG st) f a A outer s H E).wish (RX (rK (Rw P w) P w K mg base N qual (aG st) f a A outer s H E) E)) (d8 st) t/\t { nx:=λ_ H'=>Q .non H',rt:=Q } (start N vs) H):ju P w K mg base (Rw P w) (k+1) f fd ps sp:=by
 obtain⟨n,j,kV,l,m,o,a,ct,osl,rfl,d,c⟩:=F.ex;refine MM d c S len λA outer s H vs Q E i g=>?_;obtain⟨t,h,q⟩:=b a A outer s H vs Q E i g;exact⟨t,Cy.mono h λe s' hx=>TD rfl rfl rfl rfl hx,q⟩
def Yz(a C:A1)(dx:O A1):HO:=.ext λh=>∃vs sl,h.get? a=U ⟨.ref C,dx,.fields vs,sl⟩/\vs[2]?=U .none
theorem g3{vs:Array A0}(q:h.get? a=U ⟨.ref C,dx,.fields vs,sl⟩)(q2:vs[2]?=U .none):gn P w H h a (Yz a C dx):=
 ⟨⟨vs,sl,q,q2⟩,⟨_,q⟩,λ_ _ ⟨vs,sl,p,p2⟩ k=>⟨vs,sl,k _ p,p2⟩⟩
theorem OO{h':A6}{S ch:Z A1}(ok:uI P w H h)(c:Mx S ch h h')(f:∀b∈ch,H b=Y)(g:∀b∈S,H b=Y):uI P w H h':=λb u e=>by
 have ne:∀(d:A1) (w:HO),H d=U w->d∉ch/\d∉S:=λd w q=>⟨λz=>(by rw[f d z]at q;cases q),λz=>(by rw[g d z]at q;cases q)⟩;refine(ok b u e).stay (λd v a q=>?_) (λ_ q=>q) λ_ _ q=>q;rcases a with z|z
 ·subst z;exact c.keep _ _ q (ne _ _ e).1 (ne _ _ e).2
 ·exact c.keep _ _ q (ne _ _ z).1 (ne _ _ z).2
theorem ip{o:HO}(ok:uI P w H h)(d:H a=Y)(new:gn P w (B0 H a o) h a o):uI P w (B0 H a o) h:=λb u e=>by
 by_cases hb:b=a
 ·subst hb;rw[aU]at e;cases e;exact new
 ·rw[aP hb]at e;exact(ok b u e).stay (λ_ _ _ q=>q) (λc q=>by rw[aP (bH q d)];exact q) λc xs q=>by rw[aP (bH q d)];exact q
theorem YN{fs:Z A1}{H':Hp}{h':A6}{o:HO}(u:Un fs [] H H' h h')(d:H' a=Y)(f:h.get? a=Y):Un fs [] H (B0 H' a o) h h':=
 ⟨u.keep,u.slot,λb c e n x=>by rw[aP (λz=>by rw[z,f]at e;cases e)];exact u.free b c e n x,u.there,λb xs q=>by rw[aP (bH (u.tups b xs q) d)];exact u.tups b xs q,
  λb c xs q=>by rw[aP (bH (u.wJ b c xs q) d)];exact u.wJ b c xs q,λb ps q=>by
   obtain⟨m,z⟩:=u.yg b ps q;exact⟨m,by rw[aP (bH z d)];exact z⟩⟩
abbrev Cx.inX(X:Cx)(a:A1):Cx:={ X with A:=X.A.mark (U (.ref a)),calm:=false,xe:=λ_ _=>False }
theorem AU.inX(I:AU X AN σ H s):AU (Cx.inX X a) AN σ H s:=
 ⟨⟨I.ok.mod,I.ok.kind,I.ok.glob,I.ok.blt,I.ok.above,I.ok.inj,I.ok.has,I.ok.cab,λz=>(by cases z),I.ok.frames,I.ok.stk,I.ok.exf,I.ok.bs,I.ok.Ys,I.ok.Rx,I.ok.Wr,I.ok.uJ,I.ok.frf⟩,I.os,I.bare,I.base,I.loc,I.cell,I.free,I.jy,I.pin,I.hok,I.len⟩
theorem AU.alG(ok:X.Ok)(I:AU (Cx.inX X a) AN σ H s):AU X AN σ H s:=⟨ok,I.os,I.bare,I.base,I.loc,I.cell,I.free,I.jy,I.pin,I.hok,I.len⟩
def XT(X:Cx)(C:A1)(iv:Nat)(ts:A1->TS)(D:Be)(σ:L2.St):XK:=λb dx H2=>b=.ref C/\∃d:O A1,dx=d/\∀a,H2 a=Y →
 ts a { nx:=λσ' H'=>D.nx (σ'.set iv Y) H',rt:=D.rt } (σ.set iv (U (.ref a))) (B0 H2 a (Yz a C d))
theorem Ub{Cn:A1}{iv:Nat}{n cn:AJ}{np hp:Pos}{b0:AB}{ts:A1->TS}{D:Be}{H1:Hp}{f s':A2}{e:A0}(x:X.stack=X.env::X.outer)(hf:X.env.frame=U X.env.locals)(G:X.N.Nodup)(hi:X.N[iv]?=U n)(i:X.env.scope.names.lookup n=U .local)(hg:Gl X cn)(hm:X.mg cn=U (.ref Cn))(hx:exmOne X.K (.ref C) (.ref Cn)=U true)(hs:∀a,Cy (Cx.inX X a) (b0::suite) (ts a))(y:AU X AN σ H1 f)(hq:Rw X.prog X.w X.stack H1 f (XT X C iv ts D σ) e s')(a3:(cn==("__debug__":AJ))=false:=by decide):
  A7 (A8 X.prog X.w) X.A (noteFrame e X.env) (λ_ s2=>A7 (A8 X.prog X.w) X.A (setFlight e Y) (λ_ s3=>A7 (A8 X.prog X.w) X.A (handleBy e X.env [.ExceptHandler (U (.Name cn np)) (U n) (b0::suite) hp]) (SP X AN D) X.xe s3) X.xe s2) X.xe s':=by
 obtain⟨a,Cv,d,H2,T,rfl,os,I,un,F,ha,hT,t,nT,ex,rfl,_,rfl,hE⟩:=hq;have J0:AU X AN σ H2 s':=y.call' (ch:=[]) os un F I λ_ z=>nomatch z;have fr:=J0.stack;rw[x]at fr;have old:∀b,s'.heap.objs.size<=b->f.heap.get? b=Y:=λb z=>by
  cases q:f.heap.get? b with
  |none=>rfl
  |some o=>
   obtain⟨o',q'⟩:=un.there b o q (λz=>nomatch z);exact absurd (zt q') (Nat.not_lt.mpr z)
 have oa:f.heap.get? a=Y:=Heap.get?_none_of_le ha;have mk:∀(h:A6) (ch:Z A1) (tk:Nat),Mx (BV X.stack) ch s'.heap h->(∀b∈ch,f.heap.get? b=Y/\H2 b=Y)->(∃vs sl,h.get? a=U ⟨.ref C,d,.fields vs,sl⟩/\vs[2]?=U .none)->AU X AN σ (B0 H2 a (Yz a C d)) { s' with heap:=h,toks:=tk }:=λh ch tk c Q B=>by
  obtain⟨vs,sl,B,b3⟩:=B;refine y.call' (ch:=[]) (s':={ s' with heap:=h,toks:=tk }) os (YN (WV un c λb z=>(Q b z).1) t oa) ?_ I λ_ z=>nomatch z;exact ip (OO F c (λb z=>(Q b z).2) J0.Dq) t (g3 B b3)
 refine V2 (base:=X.base) (x▸y.ok.frames) fr hf ex λh4 p z c4 x4=>?_;rw[<-x]at c4;refine sO (s:={ s' with heap:=h4 }) Y x4 λl c5 x5=>?_;have a5:H2 p=Y:=F.fresh z;have L:=c4.trans (c5.mono (S':=BV X.stack) (c2:=[p]) (λ_ z=>z) λ_ z=>nomatch z);have E:∀b∈[T,a]++[p],f.heap.get? b=Y/\H2 b=Y:=λb hb=>by
  simp only[yi,Q2,js,or_false]at hb;rcases hb with (rfl|rfl)|rfl
  ·exact⟨Heap.get?_none_of_le hT,nT⟩
  ·exact⟨oa,t⟩
  ·exact⟨old _ z,a5⟩
 have a0:∃vs sl,l.get? a=U ⟨.ref C,d,.fields vs,sl⟩/\vs[2]?=U .none:=by
  obtain⟨vs,sl,_,_,q,_,_,_,_,_,q2⟩:=x5;exact⟨vs,sl,q,q2⟩
 have I5:=mk l _ s'.toks L E a0;have LT:PySem.W.Looks (A8 X.prog X.w) l (typeOf (.ref a)) (.ref C):=by
  obtain⟨vs,sl,q,_⟩:=a0;exact(PySem.W.Looks.ld q).andThen .now
 refine wpAny_handleBy_cons (codeAny_handlers_test (vU (X:=Cx.inX X a) (AU.inX I5) hg hm ?_ a3)) (by intro q;cases q);refine(PySem.W.exm_one I5.Es LT hx).at ?_;show AF _ _ _ _ _;refine codeAny_handlers_suite_as ?_;refine sO (s:={ s' with heap:=l }) Y x5 λh6 c6 x6=>?_;have I6:=mk h6 _ s'.toks (L.trans (c6.mono (S':=BV X.stack) (c2:=[p]) (λ_ z=>z) λ_ z=>nomatch z)) (λb hb=>by
  rcases List.mem_append.mp hb with hb|hb
  ·exact E b hb
  ·exact E b (ZA _ hb)) (by obtain⟨vs,sl,_,_,q,_,_,_,_,_,q2⟩:=x6;exact⟨vs,sl,q,q2⟩)
 refine qN (X:=X) (v:=.ref a) I6 G hi (.inl i) S (λs7 H=>?_) (.inr i);refine ZZ (hs a AN s7 _ _ _ (AU.inX H) (hE a t)) (λfl s8 m=>?_) λ_ _ z=>False.elim z;show A7 _ _ _ _ _ _;have P:∀{σ':L2.St} {H':Hp},AU (Cx.inX X a) AN σ' H' s8->(∀g,AU X AN (σ'.set iv Y) H' g->SP X AN D fl g) →
   A7 (A8 X.prog X.w) X.A (do bindName X.env n .none;unbindBehindTheSuite X.env n hp) (λ_ s5=>SP X AN D fl s5) X.xe s8:=λ{σ' H'} J k=>by
  have M:=AU.alG H.ok J;have a1:iv<σ'.length:=by rw[M.len];exact(List.getElem?_eq_some_iff.mp hi).1
  refine zb (wpAny_bindName (qN (v:=.non) M G hi (.inl i) S (λg j=>?_) (.inr i)));unfold unbindBehindTheSuite unbindName;refine wpAny_onRaise (zb (wpAny_point (zb (bi (v:=.non) j G hi i (by rw[List.getElem?_set_self a1]) λa2 c0=>wpAny_point (k a2 ?_)))));rwa [List.set_set]at c0
 cases fl with
 |next=>
  obtain⟨σ',H',J,q⟩:=m;exact P J λg j=>⟨_,H',j,q⟩
 |ret u=>
  obtain⟨v,σ',H',J,rv,q⟩:=m;exact P J λg j=>⟨v,_,H',j,rv,q⟩
 |brk=>
  obtain⟨_,_,_,q⟩:=m;exact False.elim q
 |cont=>
  obtain⟨_,_,_,q⟩:=m;exact False.elim q
section
variable{Cn f:A1}{iv iy k:Nat}{n cn:AJ}{np hp p py pa:Pos}{b0:AB}{ts:A1->TS}{tf:TE}{t:TA}
end
section
variable{d:A1}{fs:Z (AJ×V)}{f:AJ}{o:Expr}
theorem Tl(I:AU X AN σ H s)(ea:H a=U (Yz a C d))(b:H d=U (.xd fs)):∃vs sl m,s.heap.get? a=U ⟨.ref C,U d,.fields vs,sl⟩/\s.heap.Ns1 d m/\∀f,Cw (fs.lookup f) (m f):=by
 obtain⟨vs,sl,q,_⟩:=(I.hok a _ ea).1;obtain⟨m,c,r⟩:=I.hok d _ b;exact⟨vs,sl,m,q,c,r⟩
def LA(K:B4)(H:Hp)(C:A1)(c:V)(b:Bool):Prop:=
 (∃D,c=.ref D/\kitOne K (.ref C) (.ref D)=U b)\/(∃T,c=.ty T/\kitOne K (.ref C) (.type T)=U b) ∨
  ∃(tp:A1) (cs:Z A1),c=.ref tp/\H tp=U (.tup (cs.map V.ref))/\PySem.W.kitAny K (.ref C) (cs.map Value.ref)=U b
theorem Ka:∀{cs:Z A1} {us:Z A0},AX (cs.map V.ref) us->us=cs.map Value.ref
 |[],_,h=>by cases h;rfl
 |c::cs,_,h=>by
  cases h with
  |cons r t=>rw[Ka t];obtain rfl:=r;rfl
def bX(H:Hp)(a C:A1):Prop:=∃d:O A1,H a=U (Yz a C d)/\∀x,d=U x->∃fs,H x=U (.xd fs)
theorem RO(n:∀C,C∈Cs->uh X.K C=true):fK X (.builtin "isinstance") (λvs H Q=>∃a C c b,C∈Cs/\vs=[.ref a,c]/\bX H a C/\LA X.K H C c b/\Q (.bl b) H):=by
 intro AN s σ H vs us Q I r h;obtain⟨a,C,c,b,A,rfl,⟨d,ea,w⟩,hb,q⟩:=h;cases r with
 |cons u r=>
  cases r with
  |cons f r=>
   cases r;obtain rfl:=u;have Z:=e7 (e:=a) (n C A);have p:No a C s.heap:=by
    obtain⟨vs,sl,h1,_⟩:=(I.hok a _ ea).1;cases d with
    |none=>exact⟨Y,vs,sl,Y,h1,rfl,rfl,trivial⟩
    |some x=>
     obtain⟨fs,ex⟩:=w x rfl;obtain⟨m,⟨t,_,_,h2,_⟩,_⟩:=I.hok x _ ex;exact⟨U x,vs,sl,U t,h1,rfl,rfl,h2⟩
   rcases hb with⟨D,rfl,hb⟩|⟨T,rfl,hb⟩|⟨tp,cs,rfl,y,hb⟩
   ·obtain rfl:=f;exact kia_one Z I.Es p hb (λz=>nomatch z) λtk=>⟨.bl b,H,I.tok tk,rfl,q⟩
   ·obtain rfl:=f;exact kia_one Z I.Es p hb (λz=>nomatch z) λtk=>⟨.bl b,H,I.tok tk,rfl,q⟩
   ·obtain rfl:=f;obtain⟨_,AQ,v,o,g,l,⟨F,i⟩,j⟩:=I.hok tp _ y;obtain⟨G,E,B,osl⟩:=o;dsimp only at l i j;subst l i j;rw[Ka v]at g;exact PySem.W.kia_tup Z I.Es p g hb (λz=>nomatch z) λtk=>⟨.bl b,H,I.tok tk,rfl,q⟩
theorem j5(f:∀C,C∈Cs->uh X.K C=true):fK X (.builtin "isinstance") (λvs H Q=>∃(a C d:A1) (fs:Z (AJ×V)) (c:V) (b:Bool),C∈Cs/\vs=[.ref a,c]/\H a=U (Yz a C d)/\H d=U (.xd fs)/\LA X.K H C c b/\Q (.bl b) H):=λAN s σ H vs us Q I r ⟨a,C,d,fs,c,b,hm,e,ea,ed,hb,q⟩=>
 RO f AN s σ H vs us Q I r ⟨a,C,c,b,hm,e,⟨d,ea,λx z=>by cases z;exact⟨fs,ed⟩⟩,hb,q⟩
def OH(Cs:Z A1)(ta:TE)(f:AJ):TE:=λσ H Q=>ta σ H λx H1=>∃(a C d:A1) (v:V),C∈Cs/\x=.ref a/\H1 a=U (Yz a C d)/\H1 d=U (.xd [(f,v)])/\Q v H1
theorem Uc(r:As v u):handedIn u=true:=by
 cases v with
 |non=>obtain rfl:=r;rfl
 |bl b=>obtain rfl:=r;rfl
 |int i=>obtain⟨t,rfl⟩:=r;rfl
 |str x=>obtain⟨t,rfl⟩:=r;rfl
 |byt b=>obtain⟨t,rfl⟩:=r;rfl
 |flt b=>obtain⟨t,rfl⟩:=r;rfl
 |ref a=>obtain rfl:=r;rfl
 |ty n=>obtain rfl:=r;rfl
theorem bz(c:∀C,C∈Cs->uh X.K C=true/\findIn X.K (.ref C) f=U Y)(e:PE X o ta)(hb:attributeBase o f X.env (eval o X.env)=eval o X.env):PE X (.Attribute o f pos) (OH Cs ta f):=by
 intro AN s σ H Q I h;refine ai hb (gM (e AN s σ H _ I h) λu s1 ⟨x,H1,I1,rx,a,C,d,v,hm,ex,ea,ed,q⟩=>?_);subst ex;obtain rfl:u=Value.ref a:=rx;obtain⟨vs,sl,m,h1,h2,i⟩:=Tl I1 ea ed;have r:=i f;simp only[List.lookup,beq_self_eq_true]at r;cases b:m f with
 |none=>rw[b]at r;exact False.elim r
 |some u=>
  rw[b]at r;obtain⟨l,g,j,tk,os⟩:=s1;exact iX I1.Es (c C hm).1 (c C hm).2 h1 h2 b (Uc r) ⟨v,H1,I1.tok _,r,q⟩
end
def XW(K:B4)(C:A1)(f:AJ)(E:XK)(H0:Hp)(d:Dt):Prop:=∀dx H',AV H0 H'->(if f ="" then dx=Y else ∃x v,dx=U x/\H' x=U (.xd [(f,v)])/\AW K H' d v)->E (.ref C) dx H'
theorem XW.rebase{f:AJ}{E:XK}(s:AV H0 Hs)(h:XW K C f E H0 d):XW K C f E Hs d:=λdx H' s' e=>h dx H' (s.trans s') e
def tX(K:B4)(C:A1)(f:AJ)(E:XK)(gx:Ev->O Dt):TS:=λ_ σ H=>∃H0 ρ d,bM K H0 H σ ρ/\gx ρ=U d/\XW K C f E H0 d
structure GH (X:Cx) (C:Addr) (f:Str) (E:XK) (st:Stmt) (gx:Ev->Option Dt):Prop where
 run:PS X st (tX X.K C f E gx)
structure XQ (X:Cx) (C:Addr) (f:Str) (E:XK) (st:List Stmt) (gx:Ev->Option Dt):Prop where
 run:Cy X st (tX X.K C f E gx)
def zD:Bx->O Dt
 |.z d=>U d
 |_=>Y
section
variable{f:AJ}{E:XK}{gy:Ev->O Dt}{p:Pos}{AS a b:Z AB}{B:String}{pc:Ev->O Bool}
def MA(okX:Dt->Bool)(fe:Ev->O Bx):Ev->O Dt:=λρ=>(fe ρ).bind λb=>(zD b).bind λd=>if okX d=true then U d else Y
theorem abm{okX:Dt->Bool}{k:Nat}{ok:V->Prop}(t:ExcBaseFacts B newId initId bmB)(hx:Cc X.K C fI bmB newId=true)(y:bmB.contains (.type "BaseException")=true)(hk:keepIn X.K (.ref C)=true)(F:ju X.prog X.w X.K X.mg X.base xu k fI fd ps (EV C f ok))(hb:BA X.K fd ps [])(u:gW (k+1) X.A)(G:Gl X x)(I:X.mg x=U (.ref C))(W:∀e s,RX X E e s->X.xe e s)(he:QV X e fe)(M:∀d v K H,okX d=true->AW K H d v->ok v)(q:f ≠ "":=by decide)(J:(x==("__debug__":AJ))=false:=by decide)(hs:A9 [e] X.env=(false,eval e X.env)::A9 [] X.env:=by rfl)(L:(AD cpos (A9 [] X.env)).any (·.1)=false:=by rfl):
  GH X C f E (.Raise (U (.Call (.Name x p) [e] [] cpos)) Y pos) (MA okX fe):=⟨Oi (d5 t hx y hk F hb u G I W (bw he.run d7 hs) J hs L) λD σ H h=>by
 obtain⟨H0,ρ,d,Ev,a,w⟩:=h;obtain⟨b,eb,a⟩:=AT a;obtain⟨N,c,a⟩:=AT a;split at a
 ·rename_i Q;cases a;cases b with
  |z N=>
   cases c;refine⟨H0,ρ,_,Ev,eb,λv H1 s1 _ g=>⟨v,rfl,M _ _ _ _ Q g,λH2 dx j P=>?_⟩⟩;have i:AV H2 (B0 H2 dx (.xd [(f,v)])):=bI P;exact w (U dx) _ ((Ev.base.trans s1).trans (j.trans i)) (by rw[zC q];exact⟨dx,v,rfl,aU,AW.kp (Kp.of (j.trans i)) g⟩)
  |l _=>cases c
  |o _=>cases c
  |n _=>cases c
  |m _ _=>cases c
 ·cases a⟩
theorem zp(h:GH X C f E st gx):XQ X C f E (st::AS) gx:=⟨λAN s σ H D I a=>K2 (ZZ (h.run AN s σ H { nx:=λ_ _=>False,rt:=D.rt,bk:=D.bk,ct:=D.ct } I a) (λfl b q=>by
 cases fl with
 |next=>obtain⟨_,_,_,z⟩:=q;exact False.elim z
 |ret v=>exact q
 |brk=>exact q
 |cont=>exact q) λ_ _ z=>z)⟩
def V6(g:Ev->O An)(gx:Ev->O Dt):Ev->O Dt:=λρ=>(g ρ).bind λr=>match r with
 |.nx a=>gx a
 |_=>Y
theorem gX(h:K4 X st g)(hx:XQ X C f E AS gx):XQ X C f E (st::AS) (V6 g gx):=⟨λAN s σ H D I c=>by
 obtain⟨H0,ρ,d,Ev,a,w⟩:=c;obtain⟨r,er,a⟩:=AT a;cases r with
 |nx b=>
  refine K2 (ZZ (h.run AN s σ H { nx:=λσ' H'=>bM X.K H0 H' σ' b,rt:=λ_ _=>False } I ⟨H0,ρ,_,Ev,er,λσ' H' z=>z⟩) (λfl i q=>?_) λ_ _ z=>z);cases fl with
  |next=>
   obtain⟨σ',H',e,j⟩:=q;exact hx.run AN i σ' H' D e ⟨H0,b,d,j,a,w⟩
  |ret v=>obtain⟨_,_,_,_,_,z⟩:=q;exact False.elim z
  |brk=>obtain⟨_,_,_,z⟩:=q;exact False.elim z
  |cont=>obtain⟨_,_,_,z⟩:=q;exact False.elim z
 |rt _=>cases a
 |bk _=>cases a
 |ct _=>cases a⟩
def HP(pc:Ev->O Bool)(gx gy:Ev->O Dt):Ev->O Dt:=λρ=>(pc ρ).bind λk=>if k=true then gx ρ else gy ρ
theorem ik{sts:Z AB}:XQ X C f E sts (λ_=>Y):=⟨λAN s σ H D I b=>by
 obtain⟨H0,ρ,d,Ev,a,w⟩:=b;cases a⟩
theorem ib(j:QB X c pc)(i:XQ X C f E a gx)(hb:XQ X C f E b gy):GH X C f E (.If c a b pos) (HP pc gx gy):=⟨Oi (M' j.run i.run hb.run) λD σ H h=>by
 obtain⟨H0,ρ,d,Ev,e,w⟩:=h;obtain⟨k,ek,e⟩:=AT e;refine⟨H0,ρ,k,Ev,ek,λH1 g=>?_⟩;cases k with
 |true=>rw[zh rfl]at e ⊢;exact⟨H0,ρ,d,Ev.grow g,e,w⟩
 |false=>rw[zC ZI]at e ⊢;exact⟨H0,ρ,d,Ev.grow g,e,w⟩⟩
end
def EE(K:B4)(n:Nat)(Fx:Z Bx->O Dt)(C:A1)(f:AJ):Sp:=λvs H _ E=>vs.length=n/\∃bs d,pJ K H bs vs/\bs.all (λb=>!l9 b)=true/\Fx bs=U d/\XW K C f E H d
def nG(n:Nat)(gx:Ev->O Dt):Z Bx->O Dt:=λbs=>gx (bs.map U++List.replicate (n-bs.length) Y)
abbrev FM(P:A3)(w:A4)(K:B4)(mg:AJ->O A0)(base:A6)(N:AZ)(qual:AJ)(scope:Scope)(f:A1)(cd:A0)(A:A5)(outer:Z Env)(s:A2)(H:Hp)(E:XK):Cx:=
 (rK (Rw P w) P w K mg base N qual scope f cd A outer s H E).wish (RX (rK (Rw P w) P w K mg base N qual scope f cd A outer s H E) E)
theorem LY{f:A1}{a:AJ}{k m:Nat}(F:Bj K x qual st f fd)(S:bB N ps (aG st))(l:N.length=n)(o:ps.length=m)(c:∀(b:A0) (A:A5) (outer:Z Env) (s:A2) (H:Hp) (E:XK),gW k (A.deeper (AK qual (aG st) s.heap.objs.size f b)) →
   (∀e s',RX (FM P w K mg base N qual (aG st) f b A outer s H E) E e s'->(FM P w K mg base N qual (aG st) f b A outer s H E).xe e s') →
   PassesOwn (A8 P w) (A.deeper (AK qual (aG st) s.heap.objs.size f b)) (AK qual (aG st) s.heap.objs.size f b) (FM P w K mg base N qual (aG st) f b A outer s H E).xe →
   XQ (FM P w K mg base N qual (aG st) f b A outer s H E) C a E (d8 st) gx):ju P w K mg base (Rw P w) (k+1) f fd ps (EE K m (nG n gx) C a):=
 Bj.okX F S (λvs H Q E h=>h.1.trans o.symm) λb A outer s H vs Q E j i=>by
  obtain⟨_,bs,d,r,g,e,w⟩:=i;subst l;exact⟨_,(c b A outer s H E j (λe s' h=>h.lq) (XJ (X:=rK (Rw P _) P _ K mg base N qual (aG st) f b A outer s H E) rfl rfl rfl)).run,H,_,d,bM.start r g,e,w⟩
theorem TZ{c g fe a:AJ}{f FE:A1}{k:Nat}{d:Expr}{ok:V->Prop}{ρ0:V->Ev}{p1 p3 p4 p i n l t:Pos}{B:String}(F:Bj K x qual st f fd)(S:bB [c,g] [c,g] (aG st))(L:ExcBaseFacts B newId initId bmB)(hx:Cc K C f bmB newId=true)(a0:Bi K C a=true)(hm:mg fe=U (.ref FE))(hb:V5 K FE initId)(I:handedIn (.builtin initId)=true)(z:d8 st=[.Expr (.Call (.Attribute (.Name fe p1) "__init__" p2) [.Name c p3,d] [] p4) p,.Assign [.Attribute (.Name c i) a n] (.Name g l) t])(N:∀v,ok v->∃b,fa (ρ0 v)=U b/\∀H e,bM K H H [U (.ref e),U v] (ρ0 v))(u:∀(j:A0) (A:A5) (outer:Z Env) (s:A2) (H:Hp) (E:XK) (X:Cx),X=(rK xu P w K mg base [c,g] qual (aG st) f j A outer s H E).Yt->gW k X.A →
   Gl X fe/\QV X d fa/\PE X (.Name c p3) (YG 0)/\PE X (.Name c i) (YG 0)/\PE X (.Name g l) (YG 1)/\(fe==("__debug__":AJ))=false/\A9 [.Name c p3,d] X.env=(false,eval (.Name c p3) X.env)::A9 [d] X.env/\A9 [d] X.env=(false,eval d X.env)::A9 [] X.env ∧
   (AD p4 (A9 [d] X.env)).any (·.1)=false/\swapsWith (.Call (.Attribute (.Name fe p1) "__init__" p2) [.Name c p3,d] [] p4) Y p.line X.env=pure false/\swapsWith (.Name g l) (U (.Attribute (.Name c i) a n)) t.line X.env=pure false ∧
   ∃pl:Sem Bool,eval (.Call (.Attribute (.Name fe p1) "__init__" p2) [.Name c p3,d] [] p4) X.env=(do
    let ov <-eval (.Name fe p1) X.env
    standAt p2.atName
    let (f,first) <-holding [ov] (getMethod ov "__init__" pl)
    callWith p4 f first (AD p4 (A9 [.Name c p3,d] X.env)) (backToKw p4 (keywordEach [] X.env)))):
  ju P w K mg base xu (k+1) f fd [c,g] (EV C a ok):=
 Bj.ok F S (λvs H Q E h=>by obtain⟨_,_,rfl,_⟩:=h;rfl) λj A outer s H vs Q E hr a3=>by
  obtain⟨e,v,rfl,a2,ea,q⟩:=a3;obtain⟨h1,h2,G,h4,D,h6,o,h8,h9,a5,J,pl,W⟩:=u j A outer s H E _ rfl hr;rw[z];refine⟨_,qP (yj (et (pl:=pl) L hx h1 hm hb I (bw G (bw h2.run d7 h8) o) h6 o h9 W) a5) (Ds (e6 a0 h4 D J)),?_⟩;obtain⟨b,eb,a1⟩:=N v a2;refine⟨.ref e,rfl,H,ρ0 v,b,a1 H e,eb,λy H1 m _ _=>⟨e,y,rfl,m _ _ ea,?_⟩⟩;exact⟨v,rfl,.ref e,rfl,e,rfl,m _ _ ea,λdx hd M=>q H1 dx m hd M⟩
section
variable{k:Nat}{f h:A1}{F:Z Bx->O Bx}{fs:Ev->O (Z Bx)}{p q:Pos}
end
end P1
namespace P1
open L2 S6
section
variable{xs ts:AZ}
end
section
variable{e2 se:Expr}{fS:Ev->O AZ}{fx:Ev->O Dt}{no AS:Z AB}{tR tQ:TS}{p0 p02 px pb pif pk:Pos}{f:AJ}{E:XK}
end
end P1
namespace P1
open L2
section
variable{e1 e2 e3:Expr}{gr:Ev->O An}{xr xj y1 y2:AJ}{AS no:Z AB}{kk:Nat}{p0 p00 p01 p02 q1 q2 pt pj pa px pb pif pf2 px3 a1 c1 pe1 pr a2 pj2 c2 pe2:Pos}{fx:Ev->O Dt}{f:AJ}{E:XK}
end
section
variable{Cn f:A1}{iv k:Nat}{n cn:AJ}{np hp p pa:Pos}{b0:AB}{ts:A1->TS}{tf:TE}{t:TA}
def cm(X:Cx)(C f:A1)(iv:Nat)(ts:A1->TS)(tf:TE)(t:TA)(sp:Sp):TS:=λD σ H=>tf σ H λv H0=>v=.ref f/\t σ H0 λvs H1=>sp vs H1 (λ_ H2=>D.nx σ H2) (XT X C iv ts D σ)
theorem TC(d:X.stack=X.env::X.outer)(E:X.env.frame=U X.env.locals)(B:X.N.Nodup)(hi:X.N[iv]?=U n)(P:X.env.scope.names.lookup n=U .local)
  (j:Gl X cn) (l:X.mg cn=U (.ref Cn)) (hx:exmOne X.K (.ref C) (.ref Cn)=U true) (hs:∀a,Cy (Cx.inX X a) (b0::suite) (ts a))
  (J:PE X.Yt (.Name x p) tf) (F:ju X.prog X.w X.K X.mg X.base (Rw X.prog X.w) k f fd ps sp) (i:gW k X.A) (M:keepIn X.K (.ref f)=true) (hb:BA X.K fd ps []) (g:PA X.Yt (e::es) t)
  (m:(cn==("__debug__":AJ))=false:=by decide) (Q:A9 (e::es) X.env=(false,eval e X.env)::A9 es X.env:=by rfl) (o:(AD cpos (A9 es X.env)).any (·.1)=false:=by rfl)
  (y:swapsWith (.Call (.Name x p) (e::es) [] cpos) Y pa.line X.env=pure false:=by rfl):
  PS X (.Try [.Expr (.Call (.Name x p) (e::es) [] cpos) pa] [.ExceptHandler (U (.Name cn np)) (U n) (b0::suite) hp] [] [] pos) (cm X C f iv ts tf t sp):=by
 intro AN s σ H D I h;refine wpAny_Try_except (K2 (wpAny_Expr_any (kD ?_) I.quiet y));refine ZZ (J AN s σ H _ (I.wish _) h) (λu s0 ⟨v,H0,I0,r0,ev,q0⟩=>?_) (λ_ _ z=>False.elim z);subst ev;obtain rfl:u=Value.ref f:=r0;refine yB (h₀:=X.base) I.ok.mod.kin M (ZZ (g cpos AN s0 σ H0 _ I0 q0) (λus s1 ⟨vs,H1,I1,r,q⟩=>⟨I1.Es,?_⟩) (λ_ _ z=>False.elim z)) Q o;have c:=I1.lq;have G:us.length=ps.length:=by rw[<-r.length];exact F.len _ _ _ _ q
 rw[kM];refine Kt (k6 (F.run X.A X.stack s1 H1 ⟨us,[]⟩ us vs _ _ i c.env0 (by have:=hb s1 us c.Es (by rw[ZY];exact G);rwa [ZY]at this) r q) λr s' b=>?_);cases r with
 |error e=>exact Ub d E B hi P j l hx hs c b m
 |ok fl=>
  cases fl with
  |next=>exact False.elim b
  |brk=>exact False.elim b
  |cont=>exact False.elim b
  |ret u=>
   obtain⟨v,H2,L,W,q2⟩:=c.after b;exact Kk (Kk ⟨_,H2,L,q2⟩)
end
section
variable{fx:Ev->O Bx}
end
section
variable{xs:Array A0}
end
theorem vV:∀{AQ:Z A0} {ns:Z Int},IntsAre AQ ns->AX (ns.map V.int) AQ
 |_,_,.nil=>.nil
 |_,_,.cons y t h=>.cons ⟨t,rfl⟩ (vV h)
section
variable{e:α->Dt}
end
section
variable{e:α->Dt}{ea:β->Dt}{eb:δ->Dt}{fx:Ev->O Dt}
end
section
variable{e:α->Dt}{g:Ev->O β}{c:γ->β}
end
section
variable{E:XK}
theorem UA(m:∀e s,RX X E e s->X.xe e s):C0 (Rw X.prog X.w) X E:=λAN σ H s e s' I h=>by
 obtain⟨a,C,dx,H',T,rfl,os,l,un,j,f,t,u,i,ex,n⟩:=h;have J:AU X AN σ H' s':=I.call' (ch:=[]) os un j l λ_ z=>nomatch z;have g:AU X [] σ H' s':=⟨J.ok,J.os,J.bare,J.base,J.loc,J.cell,J.free,J.jy,λp hp=>J.pin p (List.mem_append.mpr ((List.mem_append.mp hp).elim .inl λz=>nomatch z)),J.hok,J.len⟩;have d:∀b,s.heap.objs.size<=b->H' b=Y->zm X H' b:=λb hb y=>⟨y,ZH I.sz hb,λz=>by have:=I.lt;rw[<-z]at this;exact absurd this (Nat.not_lt.mpr hb),λx c e z=>by
  obtain⟨v,q⟩:=I.cell x c e;have:c<s.heap.objs.size:=by
   obtain⟨o,q⟩:∃o,s.heap.get? c=U o:=by
    first|(obtain⟨o,q,_⟩:=q;exact⟨o,q⟩)|exact⟨_,q⟩
   exact zt q
  rw[z]at this;exact absurd this (Nat.not_lt.mpr hb)⟩
 exact m _ _ ⟨a,C,dx,σ,H',rfl,g,d a f u,.inr ⟨T,d T t i,.inr ex⟩,n⟩
end
section
variable{f:AJ}{E:XK}{fs:Ev->O (Z Bx)}{gy:Ev->O Dt}{p p1 epos:Pos}{AS:Z AB}
def EA(g h:Ev->O Dt):Ev->O Dt:=λρ=>match g ρ with
 |some d=>U d
 |none=>h ρ
def Kc(n:Nat)(Fx:Z Bx->O Dt)(fs:Ev->O (Z Bx)):Ev->O Dt:=λρ=>(fs ρ).bind λbs=>if bs.length=n then Fx (bs.map lend)else Y
end
section
variable{o:Expr}
def NL:Dt->Bool
 |.non=>true
 |.tup _=>true
 |_=>false
def LW:Dt->Bool
 |.non=>true
 |_=>false
end
section
variable{o l:Expr}{fs:Ev->O (Z Bx)}{z:AJ}
end
instance {σ τ:Type} [Inhabited σ]:Inhabited (jt σ τ):=⟨.nx default⟩
section
variable{e:α->Dt}
theorem Ud(a:∀x,∃ds,e x=.tup ds)(ys:Z (O α)):(ys.map (eO e)).all NL=true/\(LW ∘ eO e)=Option.isNone:=by
 refine⟨?_,?_⟩
 ·rw[qo];intro d b;obtain⟨o,_,rfl⟩:=List.mem_map.mp b;cases o with
  |none=>rfl
  |some x=>obtain⟨ds,q⟩:=a x;show NL (e x)=true;rw[q];rfl
 ·funext o;cases o with
  |none=>rfl
  |some x=>obtain⟨ds,q⟩:=a x;show LW (e x)=false;rw[q];rfl
end
section
variable{o e2:Expr}{fx fy:Ev->O Bx}
end
section
variable{f:AJ}{E:XK}{gy:Ev->O Dt}{sts AS:Z AB}{p0 p00 p01 p02:Pos}
theorem MI(h1:XQ X C f E sts gx)(h2:XQ X C f E sts gy):XQ X C f E sts (EA gx gy):=⟨λAN s σ H D I b=>by
 obtain⟨H0,ρ,d,Ev,a,w⟩:=b;unfold EA at a;split at a
 ·rename_i q;cases a;exact h1.run AN s σ H D I ⟨H0,ρ,_,Ev,q,w⟩
 ·exact h2.run AN s σ H D I ⟨H0,ρ,_,Ev,a,w⟩⟩
end
structure DQ (K:B4) (mg:Str->Option Value) (x:Str) (st:Stmt) (ps:AZ) where
 f:Addr
 fd:FuncData
 F:Bj K x x st f fd
 b:BA K fd ps []
 m:mg x=some (.ref f)
 k:keepIn K (.ref f)=true
structure IQ (K:B4) (C:Addr) (q:Str) (st:Stmt) (ps:AZ) where
 f:Addr
 fd:FuncData
 F:Bj K "__init__" q st f fd
 b:BA K fd ps []
def mG{f:A1}{od d:O A1}{j kV e b cd ct:A0}(X:K.In h)(G:h.Ns mainGlobals mg)(a:Nn K x f)(l:Lk K f x st j od sl kV e b d cd ct)(c:codeIn K cd x=true)(k:keepIn K (.ref f)=true)(hb:∀(kV g b:A0) (d:O A1) (i ct:A0) (us:Z A0),us.length=ps.length->bindArgs (fnOf x x (nH st) (d8 st) (aG st) .none kV g b d i ct) ⟨us,[]⟩=pure (ps.zip us):=by intro _ _ _ _ _ _;first|exact P1.GT λ_=>S|exact P1.EW λ_ _=>S|exact P1.VE λ_ _ _=>S|exact P1.T0 λ_ _ _ _=>S|exact P1.WZ λ_ _ _ _ _=>S|exact P1.G' S):DQ K mg x st ps:=
 ⟨f,_,KR l c k,(KR l c k).binds hb,kb X G a,k⟩
def ZB{f:A1}{q:AJ}{od d:O A1}{i kV e b cd ct:A0}(a:findIn K (.ref C) "__init__"=U (U (.ref f)))(l:K.lookup f=U ⟨i,od,.func (fnOf "__init__" q (nH st) (d8 st) (aG st) .none kV e b d cd ct),sl⟩)(c:codeIn K cd q=true)(k:keepIn K (.ref f)=true)(hb:∀(kV g b:A0) (d:O A1) (h ct:A0) (us:Z A0),us.length=ps.length->bindArgs (fnOf "__init__" q (nH st) (d8 st) (aG st) .none kV g b d h ct) ⟨us,[]⟩=pure (ps.zip us):=by intro _ _ _ _ _ _;exact P1.EW λ_ _=>S):IQ K C q st ps:=
 ⟨f,_,KR l c k,(KR l c k).binds hb⟩
theorem Me{v:Tok->A0}{tk:Tok}(X:K.In h)(G:h.Ns mainGlobals mg)(c:nsIn K mainGlobals x=U (U (v tk))):∃tk,mg x=U (v tk):=⟨tk,kb X G c⟩
abbrev Ok(P:A3)(w:A4)(base:A6)(d:DQ K mg x st ps)(k n:Nat)(F:Z Bx->O Bx):Prop:=ju P w K mg base xu k d.f d.fd ps (Zx K n F)
theorem HY{k m:Nat}(d:DQ K mg x st ps)(S:bB N ps (aG st))(c:∀(a:A0) (A:A5) (outer:Z Env) (s:A2) (H:Hp) (E:XK),gW k (A.deeper (AK x (aG st) s.heap.objs.size d.f a))->(A.deeper (AK x (aG st) s.heap.objs.size d.f a)).units+100<cLine->N.Nodup->R6 (rK xu P w K mg base N x (aG st) d.f a A outer s H E).Yt (d8 st) g)(e:N.length=n:=by rfl)(h:ps.length=m:=by rfl):Ok P w base d (k+1) m (dY n g):=MY d.F S e h λa A outer s H E b=>c a A outer s H E b (DY b) S.nd
section
variable{k m:Nat}{F:Z Bx->O Bx}{fs:Ev->O (Z Bx)}{p:Pos}
theorem dF(d:DQ X.K X.mg x st ps)(G:Ok X.prog X.w X.base d k n F)(g:gW m X.A)(a:Vb X (e::es) fs)(i:Gl X x:=by rfl)(h:k<=m:=by decide)(c:(x==("__debug__":AJ))=false:=by decide)(he:A9 (e::es) X.env=(false,eval e X.env)::A9 es X.env:=by rfl)(f:(AD pos (A9 es X.env)).any (·.1)=false:=by rfl):QV X (.Call (.Name x p) (e::es) [] pos) (cj n F fs):=
 DN G (g.mono h) i d.m d.k d.b a c he f
end
theorem FG{l:PySem.W.OpenLaw}{q:A3}{loose:AZ}{d:DefRec}{K:Params->B4}{T:B4->(AJ->O A0)->Type}{k:Nat}{F_law:Z Bx->O Bx}(b:∀{K mg},T K mg->DQ K mg "law" st [x])(B:gW k callerA)(y:d.name ="law")(G:∀(w:A4) (mg:AJ->O A0) (base:A6) (t:T (K w.params) mg),Ok l.prog w base (b t) k 1 F_law)(D:l.most=U 63)(v:d.params.defaults=[])(h1:∀ns:Z Int,ns.length<=63->F_law [.z (.lst (ns.map .int))]=U (.z (.bl true)))(h2:∀ns:Z Int,ns.length<=63->F_law [.l (ns.map .int)]=U (.z (.bl true)))(hb:∀(kV c i:A0) (j:O A1) (g ct u:A0),bindArgs (fnOf "law" "law" (nH st) (d8 st) (aG st) .none kV c i j g ct) ⟨[u],[]⟩=pure [(x,u)])(o:∀(w:A4) (h:A6),YP w h->(K w.params).In h)(F:∀(w:A4) (mg:AJ->O A0) (h:A6),(K w.params).In h->h.Ns mainGlobals mg->T (K w.params) mg):
  PySem.W.WalkO q loose XP YP l.row.toRowW d [] (λf vs=>PySem.call f vs):=
 L2.Zc (n:=63) (k:=k) (x:=x) (CX:=xu) (sp:=λK=>Zx K 1 F_law) D (by decide) v B o (λw mg fa h X N e=>by
  have t:=F w mg h X N;have A:=(b t).m;rw[y,A]at e;cases e;refine⟨(b t).fd,λs u=>?_,λbase _ _=>G w mg base t⟩;obtain⟨M,I,kV,c,i,j,g,ct,osl,e,L,J⟩:=(b t).F.ex;rw[e];exact .of_eq (hb kV c i j g ct u)) (λK H a ns C p E=>iS h1 h2 K H a ns C p E) λ_ _ _ _ z=>z
theorem Qx:entryFor table "proto.unchain"=U Builtin.«proto.unchain»:=entryFor_of_tree (by kernel_rfl)
theorem MF{a b:Sem α}{Q:α->A2->Prop}(h:a=b)(k:A7 (A8 prog w) A b Q E s):A7 (A8 prog w) A a Q E s:=h▸k
theorem MJ{v:A0}{e:A1}{vs:Array A0}{Q:B9}(he:s.heap.get? e=U o)(a:o.data=.fields vs)(h2:vs[2]?=U .none)(h:Q .none s):A7 (A8 prog w) A (runValue (.builtin "proto.unchain" ⟨[v,.ref e,.ref e,.bool false],[]⟩)) Q E s:=by
 refine wpAny_runValue (JU Qx ?_);show A7 _ _ (field (.ref e) 2 >>= _) _ _ s;refine zb (Jn he a h2 ?_);exact ze h
theorem Qy{e:A1}{x n d:Int}{vs:Array A0}{Q:O A0->A2->Prop}(f:A.handled=U (.ref e))(he:s.heap.get? e=U o)(i:o.data=.fields vs)(h2:vs[2]?=U .none)(c:IsRangeIter s.heap it x n d)(l:n<=0)(q:∀h',Heap.ExtBut it s.heap h'->Q Y { s with heap:=h' }):A7 (A8 prog w) A (pyNext (.ref it)) Q E s:=by
 have ty:s.TypeIs (.ref it) "range_iterator":=⟨_,c,rfl⟩;unfold pyNext;refine zb (y0 (KB (name:=Str.ofString "__next__") ty PySem.F.slot_range_iterator_next (kf PySem.F.slot_range_iterator_next ty PySem.F.entry_range_iterator_next ?_ (PySem.F.args_range_iterator_next_1 _))));show A7 _ _ (field (.ref it) 0 >>= _) _ _ s;refine zb (Jn c S (x:=rawInt x) S ?_);show A7 _ _ (field (.ref it) 1 >>= _) _ _ s;refine zb (Jn c S (x:=rawInt n) S ?_);show A7 _ _ (field (.ref it) 2 >>= _) _ _ s;refine zb (Jn c S (x:=rawInt d) S ?_);show A7 _ _ (if n<=0 then _ else _) _ _ s;rw[zh l];refine zb (Kn (zb ?_));show A7 _ _ (newExc (.type "StopIteration") [] >>= _) _ _ _;refine zb ?_;simp only[newExc,newTuple];refine zb (qh ?_ (by size_fits));refine zb (m:=firstArgMember _ _) (wpAny_of_eq (a:=Value.none) (by first|rfl|(simp only[firstArgMember];rfl)) ?_);refine qh ?_ (by size_fits);simp only[raiseNew];refine zb (wpAny_handled ?_)
 first|rw[show A.in1.handled=U (.ref e) from f]|rw[f]
 have lt:=zt he;have sz:(s.heap.push { cls:=.type "tuple",data:=.seq #[] }).objs.size=s.heap.objs.size+1:=by simp[Heap.push]
 dsimp only;rw[zh (show(Value.ref e !=Value.ref (s.heap.push { cls:=.type "tuple",data:=.seq #[] }).objs.size)=true from by
  rw[sz,bne_iff_ne];intro z;injection z with z;rw[z]at lt;exact absurd lt (Nat.not_lt.mpr (JO _)))]
 have g:=zd (h:=s.heap) { cls:=.type "tuple",data:=.seq #[] } he;refine zb (qA (MJ (zd _ g) i h2 ?_));have new:=zv (s.heap.push { cls:=.type "tuple",data:=.seq #[] }) (o:={ cls:=.type "StopIteration",data:=.fields (#[.ref s.heap.objs.size,.none,.none,.none,.bool false,.none]++ownMembersOf (.type "StopIteration") []) }) rfl;unfold updateField;refine zb (zb (K0 new ?_));refine MF (b:=update (s.heap.push { cls:=.type "tuple",data:=.seq #[] }).objs.size (Obj.mapFields λz=>z.setIfInBounds 2 (.ref e))) S (wpAny_update new ?_);refine wpAny_throw ?_;refine zb (ke (T :="StopIteration") (b:=true) ⟨_,QE _ new rfl,rfl⟩ isSubtype_stop ?_);refine ze (q _ λb p hb eb=>?_);have j:=zt eb;rw[QN _ _ (by rw[sz];exact jS (Qb j))];exact zd _ (zd _ eb)
structure G8 (k:Nat) (a:Addr) (A:Around):Prop where
 hd:A.handled=some (.ref a)
 dp:A.depth+3*k+5<recursionLimit
 un:A.units+16*k+200<cLine
theorem G8.deeper{k:Nat}(r:G8 (k+1) a A)(env:Env):G8 k a (A.deeper env):=
 ⟨r.hd,by have:=r.dp;show A.depth+1+3*k+5<_;omega,by have:=r.un;show A.units+3+16*k+200<_;omega⟩
theorem gW.inX{k:Nat}(r:gW k A)(a:A1):G8 k a (A.mark (U (.ref a))):=⟨rfl,r.dp,r.un⟩
abbrev Ix(P:A3)(w:A4)(K:B4)(mg:AJ->O A0)(base:A6)(N:AZ)(qual:AJ)(scope:Scope)(f:A1)(cd:A0)(A:A5)(outer:Z Env)(s:A2)(H:Hp):Cx:=
 { rK xu P w K mg base N qual scope f cd A outer s H E0 with calm:=false,xe:=λ_ _=>False }
theorem g4{outer:Z Env}{h:O A0}(e:Ez P w K mg base A outer s H):Ez P w K mg base { A with handled:=h } outer s H:=⟨e.frames,e.mod,e.bs,e.Ys,e.uJ,e.frf,e.hok,e.bare⟩
theorem Ue{f:A1}{cd:A0}{outer:Z Env}{a:A2}(S:bB N ps scope)(e0:Ez P w K mg base A outer s H)(b:vs.length=ps.length)(r:AX vs us)(x:InCallC s s.heap.objs.size (bindL (AK qual scope s.heap.objs.size f cd).kindOf (ps.zip us) λ_=>Y) (cellsFrom (s.heap.objs.size+1) scope.names []) (bindC (AK qual scope s.heap.objs.size f cd).kindOf (ps.zip us) λ_=>Y) a):
  AU (Ix P w K mg base N qual scope f cd A outer s H) [] (start N vs) H a:=by
 have I:AU (rK xu P w K mg base N qual scope f cd { A with handled:=Y } outer s H E0) [] (start N vs) H a:=Jv S rfl (g4 e0) b r x;exact⟨⟨I.ok.mod,I.ok.kind,I.ok.glob,I.ok.blt,I.ok.above,I.ok.inj,I.ok.has,I.ok.cab,λz=>(by cases z),Around.frames_deeper e0.frames,I.ok.stk,I.ok.exf,I.ok.bs,I.ok.Ys,I.ok.Rx,I.ok.Wr,I.ok.uJ,I.ok.frf⟩,I.os,I.bare,I.base,I.loc,I.cell,I.free,I.jy,I.pin,I.hok,I.len⟩
structure V7 (P:Program) (w:World) (K:B4) (mg:Str->Option Value) (base:Heap) (k:Nat) (f:Addr) (fd:FuncData) (ps:AZ) (sp:Addr->List V->Hp->VK->Prop):Prop where
 len:∀a vs H Q,sp a vs H Q->vs.length=ps.length
 run:∀(a:Addr) (A:Around) (outer:List Env) (s:Shared) (H:Hp) (args:Args) (us:List Value) (vs:List V) (Q:VK),G8 k a A->Ez P w K mg base A outer s H->BindsTo s fd args (ps.zip us)->AX vs us->sp a vs H Q →
  codeAny (model P w) A (.call (.ref f) args) (CR xu outer P w H s Q E0) s
theorem Bj.okH{f:A1}{k:Nat}{sp:A1->Z V->Hp->VK->Prop}(F:Bj K x qual st f fd)(S:bB N ps (aG st))(len:∀a vs H Q,sp a vs H Q->vs.length=ps.length)(l:∀(c:A0) (a:A1) (A:A5) (outer:Z Env) (s:A2) (H:Hp) (vs:Z V) (Q:VK),G8 k a (A.deeper (AK qual (aG st) s.heap.objs.size f c))->sp a vs H Q →
   ∃t,Cy (Ix P w K mg base N qual (aG st) f c A outer s H) (d8 st) t/\t { nx:=λ_ H'=>Q .non H',rt:=Q } (start N vs) H):V7 P w K mg base (k+1) f fd ps sp:=by
 obtain⟨oc,od,kV,a0,X,M,c,ct,osl,rfl,D,m⟩:=F.ex;refine⟨len,λa A outer s H W us vs Q i e0 hb r j=>?_⟩;have L:=len _ _ _ _ j;have g:K.In s.heap:=e0.mod.kin.keeps λb o e=>(e0.bs b o e).1;have B:s.heap.NoLimit:=e0.mod.nolimit.keeps λb o e=>(e0.bs b o e).1;have z:∀y∈ps.zip us,(aG st).names.lookup y.1=U .local\/((aG st).names.lookup y.1=U .cell/\((cellsFrom (s.heap.objs.size+1) (aG st).names []).lookup y.1).isSome=true):=λ⟨n,v⟩ hy=>by
  rcases S.par n (yf hy).1 with q|q
  ·exact .inl q
  ·exact .inr ⟨q,cellsFrom_some _ _ _ (.inl q)⟩
 refine codeAny_call_function (by have:=i.dp;omega) (g _ _ D) rfl S.co S.gen rfl (codeRec_of g m) (hb _ _ _ _ ?_);refine wpAny_newFunctionEnv_cells S.kind z λenv C E x=>?_;subst C;refine⟨B.keeps x.toInCall.keep,codeAny_func ?_⟩;obtain⟨t,G,p⟩:=l c a A outer s H vs Q (i.deeper _) j;have I:=Ue (f:=f) (qual:=qual) (cd:=c) S e0 L r x;refine ZZ (G [] E (start N vs) H _ I p) (λfl s' hs=>?_) λe s' hs=>False.elim hs;have h:∀{σ':L2.St} {H':Hp} {v:V} {u:A0},AU (Ix P w K mg base N qual (aG st) f c A outer s H) [] σ' H' s'->As v u->Q v H'->CE outer P w H s Q u s':=
  λ{σ' H' v u} J d q=>⟨v,H',J.os,J.bare,J.base,J.hok,d,q⟩
 cases fl with
 |ret u=>
  obtain⟨v,σ',H',J,d,q⟩:=hs;exact h J d q
 |next=>
  obtain⟨σ',H',J,q⟩:=hs;exact h (v:=V.non) (u:=Value.none) J rfl q
 |brk=>
  obtain⟨_,_,_,q⟩:=hs;exact False.elim q
 |cont=>
  obtain⟨_,_,_,q⟩:=hs;exact False.elim q
section
variable{k:Nat}{f:A1}{sp:A1->Z V->Hp->VK->Prop}{p:Pos}{t:TA}
def OM(sp:A1->Z V->Hp->VK->Prop)(a:A1)(t:TA):TE:=λσ H Q=>t σ H λvs H1=>sp a vs H1 Q
theorem TN(F:V7 X.prog X.w X.K X.mg X.base k f fd ps sp)(j:G8 k a X.A)(n:Gl X x)(o:X.mg x=U (.ref f))(l:keepIn X.K (.ref f)=true)(hb:BA X.K fd ps [])
  (g:PA X (e::es) t) (d:(x==("__debug__":AJ))=false:=by decide) (he:A9 (e::es) X.env=(false,eval e X.env)::A9 es X.env:=by rfl) (i:(AD pos (A9 es X.env)).any (·.1)=false:=by rfl):
  PE X (.Call (.Name x p) (e::es) [] pos) (OM sp a t):=by
 intro AN s σ H Q I h;refine kD (vU I n o ?_ d);refine yB (h₀:=X.base) I.ok.mod.kin l (gM (g pos AN s σ H _ I h) λus s1 ⟨vs,H1,I1,r,q⟩=>⟨I1.Es,?_⟩) he i;have m:us.length=ps.length:=by rw[<-r.length];exact F.len _ _ _ _ q
 have c:=hb s1 us I1.Es (by rw[ZY];exact m);rw[ZY]at c;refine Kt (k6 (F.run a X.A X.stack s1 H1 ⟨us,[]⟩ us vs Q j I1.env0 c r q) λr s' b=>?_);cases r with
 |error e=>exact False.elim b
 |ok fl=>
  cases fl with
  |ret u=>exact I1.after b
  |next=>exact False.elim b
  |brk=>exact False.elim b
  |cont=>exact False.elim b
end
def L0(e C:A1)(d:O A1)(lo:Int)(n:Nat):It:=⟨λi _=>i<n,λi H x H'=>H'=H/\x=.int (lo+i),λi H=>n<=i/\H e=U (Yz e C d)⟩
abbrev O3(e:A1):A5->Bool->Prop:=λA _=>A.handled=U (.ref e)
theorem Qz(e C:A1)(d:O A1)(it:A1)(lo:Int)(n:Nat):Ot (O3 e) P w K tg (L0 e C d lo n) [it] it (λi h=>IsRangeIter h it (lo+(i:Nat)*1) ((n:Int)-(i:Nat)) 1) where
 obj:=λi h st b hb=>by
  have e:b=it:=by simpa using hb
  subst e;exact⟨_,st,λv z=>by
   have u:Data.fields _=Data.cell v:=z;cases u⟩
 keep:=λi h h' st k=>k it (by simp) _ st
 item:=by
  intro X p f g t i AN s σ H E I a st j;subst p f g;obtain⟨f0,f1,f2,l,c,m⟩:=a it (by simp);have hi:i<n:=j;refine wpAny_pyNext_range_item st (by omega) λh' q A=>?_;have B:IsRangeIter h' it (lo+((i+1:Nat):Int)*1) ((n:Int)-((i+1:Nat):Int)) 1:=by
   have e1:lo+((i+1:Nat):Int)*1=lo+(i:Int)*1+1:=by omega
   have e2:(n:Int)-((i+1:Nat):Int)=(n:Int)-(i:Int)-1:=by omega
   rw[e1,e2];exact q
  refine⟨_,rfl,Jq (n :="range_iterator") q S S (by decide) ⟨.int (lo+i),H,I.turned (λb o hb e=>A.extBut b o (by simpa using hb) e) f0 f1 l c m,⟨s.toks,by rw[Int.mul_one]⟩,⟨rfl,rfl⟩,B,λb hb=>(a b hb).1⟩⟩
 done:=by
  intro X p f g t i AN s σ H E I a st j;subst p f g;obtain⟨f0,f1,f2,l,c,m⟩:=a it (by simp);obtain⟨D,y⟩:=j;obtain⟨vs,sl,x,h2⟩:=(I.hok e _ y).1;exact Qy t x S h2 st (by omega) λh' eb=>⟨rfl,I.turned (t':=s.toks) (λb o hb e=>eb b o hb e) f0 f1 l c m⟩
 self:=λ_ _ _ _ _ st h=>wpAny_pyIter_rangeiter st h
theorem B1.alN{e:A1}{d:O A1}(lo:Int)(n:Nat)(he:Hs e=U (Yz e C d)):B1 K (L0 e C d lo n) (CJ lo n) Hs:=λi H s=>by
 obtain⟨y1,y2⟩:=B1.rng (K:=K) (Hs:=Hs) lo n i H s;exact⟨y1,λh=>⟨y2 h,s _ _ he⟩⟩
section
variable{p0 p1:Pos}{xs:AZ}{e:A1}{a:Expr}{ta:TA}
theorem XR{Q:B9}{lo hi:Int}{t u v:Tok}(I:AU X AN σ H s)(h1 : -(2 ^ 62)<=lo)(h2:lo<2 ^ 62)(f : -(2 ^ 62)<=hi)(d:hi<2 ^ 62)(q:∀it a,AU X AN σ H a->IsRangeIter a.heap it (lo+((0:Nat):Int)*1) ((((hi-lo).toNat:Nat):Int)-((0:Nat):Int)) 1->qD X AN H it->Q (.ref it) a):
  A7 (A8 X.prog X.w) X.A (pyIter (.ref s.heap.objs.size)) Q E { s with heap:=s.heap.push { cls:=.type "range",data:=.fields #[.int lo t,.int hi u,.int 1 v] },toks:=tk }:=by
 refine wpAny_pyIter_range (IsRange.new ..) (small_one h1 h2 f d) ?_;have c:AU X AN σ H { s with heap:=s.heap.push { cls:=.type "range",data:=.fields #[.int lo t,.int hi u,.int 1 v] },toks:=tk }:=I.kept λb o e=>zd _ e;refine q _ _ (c.kept (t':=tk) λb o e=>zd _ e) ?_ (c.N8 (zg _) (c.hok.fresh (zg _)));have e1:lo+((0:Nat):Int)*1=lo:=by simp
 have e2:(((hi-lo).toNat:Nat):Int)-((0:Nat):Int)=Builtin.Range.rangeSize lo hi 1:=by rw[rangeSize_one];split<;>omega
 rw[e1,e2];exact zv _ rfl
def RC(K:B4)(e:A1)(gt:Dt->Ev->O Ev)(p:Ev->O Bool)(fe:Ev->O Bx)(is:Z Nat)(n j:Nat):TE:=λσ H Q=>∃ ρ C d a,bM K H H σ ρ/\H e=U (Yz e C d)/\Bm gt p fe (mR is ρ++List.replicate n Y) (CJ 0 j)=U a ∧
 ∀D us H',H D=Y->AV H H'->H' D=U (.lst us)->aK K H' a us->Q (.ref D) H'
theorem YU(ts:AZ)(j:Nat)(hj:j<=100000)(O:rM X scope cl xs is)(v:X.A.handled=U (.ref e))(P:Gl X "range")(W:X.mg "range"=Y)(G:PA X [a] ta)(F:∀ σ H R,R [V.int j] H->ta σ H R)
  (g:∀C c d fp,Ee (HX X (xs++ts) scope cl C c d fp) tgt gt) (a0:∀C c d fp,C4 (HX X (xs++ts) scope cl C c d fp) ifs p) (N:∀C c d fp,PV (HX X (xs++ts) scope cl C c d fp) elt fe) (y:D0 is.length (is.length+ts.length) gt)
  (l:A9 [a] X.env=[(false,eval a X.env)]:=by rfl) (hs:∀x,foldedSetIterable (.Call (.Name "range" p0) [a] [] p1) X.env x=pure x:=by intro _;rfl):
  PE X (.ListComp elt [⟨tgt,.Call (.Name "range" p0) [a] [] p1,ifs,0⟩] scope pos) (RC X.K e gt p fe is ts.length j):=λAN s σ H Q I h=>by
 obtain⟨ρ,Ce,u,a2,E,J,n,q⟩:=h;rw[eval_ListComp];refine Kj (use:=Y) S hs O.clos O.kind O.names ?_;refine Call_ (zU I P W boot_range (PyProof.Rows.callWith_type1 (gM (G p1 AN s σ H (λvs H1=>vs=[.int j]/\H1=H) I (F _ _ _ ⟨rfl,rfl⟩)) λus s1 ⟨vs,H1,I1,r1,q1⟩=>?_) l S));obtain⟨rfl,rfl⟩:=q1;cases r1 with
 |cons r L=>
  cases L;obtain⟨t,rfl⟩:=r;refine call_range_1 (XR I1 (by omega) (by omega) (by omega) (by omega) λit s2 I2 st f=>?_);have ej:(((j:Int)-0).toNat:Nat)=j:=by omega
  rw[ej]at st;refine FJ (B:=O3 e) (fp:=[it]) (RR:=λa1 C=>compPost (A8 X.prog X.w) X.A X.xe Y (EP X AN σ Q) a1 C) (ts:=ts) (xs:=xs) O v g a0 N y I2 (E.caps is ts.length) (Qz e Ce u it 0 j) st (λb hb=>by
   have z:b=it:=by simpa using hb
   rw[z];exact f) (B1.alN 0 j J) (by simpa[CJ]using hj) n ?_
  intro D C s' H' us i I' f ⟨m,hn⟩ s2' hD' r';refine⟨m,hn,λh' M=>⟨.ref D,H',?_,rfl,q D us H' i s2' hD' r'⟩⟩;obtain⟨f0,f1,f2,f3,f4,f5⟩:=f;exact I'.turned (t':=s'.toks) (λb o hb e=>(M.2 b hb).trans e) f0 f1 f3 f4 f5
end
section
variable{f:AJ}{E:XK}{fs:Ev->O (Z Bx)}{p:Pos}
theorem QC{k:Nat}{fa:A1}{Fx:Z Bx->O Dt}(G:ju X.prog X.w X.K X.mg X.base (Rw X.prog X.w) k fa fd ps (EE X.K n Fx C f))(o:gW k X.A)(u:Gl X x)(y:X.mg x=U (.ref fa))(q:keepIn X.K (.ref fa)=true)(hb:BA X.K fd ps [])(m:∀e s,RX X E e s->X.xe e s)(h:Vb X (e::es) fs)(g:(x==("__debug__":AJ))=false:=by decide)(he:A9 (e::es) X.env=(false,eval e X.env)::A9 es X.env:=by rfl)(i:(AD cpos (A9 es X.env)).any (·.1)=false:=by rfl)(l:swapsWith (.Call (.Name x p) (e::es) [] cpos) Y pos.line X.env=pure false:=by rfl):
  GH X C f E (.Expr (.Call (.Name x p) (e::es) [] cpos) pos) (Kc n Fx fs):=⟨λAN s σ H D I j=>by
 refine wpAny_Expr_any (ZZ (Kv (p:=p) (pos:=cpos) G o u y q hb .nil (UA m) h.run g he i AN s σ H (λ_ _=>False) I ?_) (λv c h1=>?_) λ_ _ z=>z) I.quiet l
 ·obtain⟨H0,ρ,d,Ev,a,w⟩:=j;obtain⟨bs,eb,a⟩:=AT a;split at a
  ·rename_i t;refine⟨H0,ρ,bs,Ev,eb,λvs H1 c b=>?_⟩;show EE X.K n Fx C f (vs++[]) H1 _ E;rw[ZY];exact⟨by rw[<-Paired.length b];exact t,_,d,FN b,K7 bs,a,w.rebase (Ev.base.trans c)⟩
  ·cases a
 ·obtain⟨_,_,_,_,z⟩:=h1;exact False.elim z⟩
end
theorem XW.of{f:AJ}{E:XK}(a:f ≠ "")(h:∀dx v H',AV H0 H'->H' dx=U (.xd [(f,v)])->AW K H' d v->E (.ref C) (U dx) H'):XW K C f E H0 d:=λdx H' s q=>by
 rw[zC a]at q;obtain⟨x,v,rfl,e,r⟩:=q;exact h x v H' s e r
section
variable{g:Array GenState}{d:Drawn}{t:Nat}{AS:Z A0}{B:String}
end
section
variable{E:XK}{p:Pos}{B:String}{k:Nat}{t:TA}
end
section
variable{p kp cp:Pos}{fs:Ev->O (Z Bx)}{j:Int}{kk:Nat}
end
section
variable{e:α->Dt}
end
section
variable{g:Ev->O AJ}
variable{e:α->Dt}
end
section
variable{e:α->Dt}{σ' τ:Type}
def qE(e:α->Dt):O (Z α)->Bx
 |none=>.z .non
 |some l=>.o (l.map e)
def FA(e:α->Dt):O (Z α)->Bx
 |none=>.z .non
 |some l=>.l (l.map e)
def hV:R (cB .non) ρ (qE e):=⟨Y,Y,λ_=>S⟩
def V8(a:R fa ρ (oE e)):R fa ρ (qE e):=⟨U a.v,a.D,λh=>a.ok h⟩
theorem TR{v:O (Z α)}(h:ρ[i]?=U (U (qE e v))):yu ρ i=U (FA e v):=by
 unfold yu;rw[h];cases v<;>rfl
def MK(i:Nat)(e:α->Dt)(v:O (Z α))(h:ρ[i]?=U (U (qE e v))):R (gv i) ρ (FA e):=⟨v,Y,λ_=>TR h⟩
class CY (c:Option (List α)->Bx) (e:outParam (α->Dt)):Prop where
 d:∀v,toD (c v)=eO (eL e) v/\oX (c v)=false
instance:CY (qE e) e:=⟨λv=>by cases v<;>exact⟨rfl,rfl⟩⟩
instance:CY (FA e) e:=⟨λv=>by cases v<;>exact⟨rfl,rfl⟩⟩
instance:CY (zE (eO (eL e))) e:=⟨λv=>⟨rfl,rfl⟩⟩
def MO[DecidableEq α][B6 (eO (eL e)) n]{f g:O (Z α)->Bx}[CY f e][CY g e](m:n<=100)(a:R fa ρ f)(b:R fb ρ g):R (b2 BT fa fb) ρ (zE eB):=⟨decide (a.v=b.v),bA a.D b.D,λh=>by
 obtain⟨h1,h2⟩:=aB h;have:=B6.dp (e:=eO (eL e)) a.v;obtain⟨i,j⟩:=CY.d (c:=f) (e:=e) a.v;obtain⟨d2,l⟩:=CY.d (c:=g) (e:=e) b.v;simp only[b2,a.ok h1,b.ok h2,Au,BT,i,d2,j,l,zr,or_self,ZO,B6.eq];rw[zh (by omega)]⟩
def g5[DecidableEq α][B6 (eO (eL e)) n]{f g:O (Z α)->Bx}[CY f e][CY g e](m:n<=100)(a:R fa ρ f)(b:R fb ρ g):R (b2 Sq fa fb) ρ (zE eB):=⟨!decide (a.v=b.v),bA a.D b.D,λh=>by
 obtain⟨h1,h2⟩:=aB h;have:=B6.dp (e:=eO (eL e)) a.v;obtain⟨i,j⟩:=CY.d (c:=f) (e:=e) a.v;obtain⟨d2,l⟩:=CY.d (c:=g) (e:=e) b.v;simp only[b2,a.ok h1,b.ok h2,Au,Sq,i,d2,j,l,zr,or_self,ZO,B6.eq];rw[zh (by omega)]⟩
def SC(a:R fa ρ (FA e)):R (b2 DS fa (cB .non)) ρ (zE eB):=⟨a.v.isNone,a.D,λh=>by
 simp only[b2,a.ok h,Au,cB,DS];cases a.v<;>rfl⟩
def df(a:R fa ρ (FA e)):R (JM BN fa) ρ (zE eB):=⟨a.v.isSome,a.D,λh=>by
 unfold JM b1;rw[a.ok h];cases a.v<;>rfl⟩
def l5{k:Ev->O An}{cO:γ->An}(i:Nat)(v:O (Z α))(hi:ρ[i]?=U (U (qE e v)))(K:∀ds:Z Dt,R k (ρ.set i (U (.o ds))) cO):R (aD (xM i (cB .non)) k) ρ cO:=⟨(K ((v.getD []).map e++[.non])).v,bA (U (v.isSome=true/\sy (v.getD []).length)) (K ((v.getD []).map e++[.non])).D,λb=>by
 obtain⟨h1,a⟩:=aB b;obtain⟨h1,h2⟩:v.isSome=true/\sy (v.getD []).length:=h1;cases v with
 |none=>cases h1
 |some l=>
  have h2:l.length<=1000000:=h2;have hi:ρ[i]?=U (U (.o (l.map e))):=hi;rw[iQ (ρ':=ρ.set i (U (.o (l.map e++[.non])))) (by
   unfold xM;simp only[cB,Au,Zk,hi,zi];rw[zh (Kx h2 (by decide))])]
  exact(K _).ok a⟩
end
theorem XS(h:lA d=true):∃x,d=.str x:=by
 cases d with
 |str x=>exact⟨x,rfl⟩
 |_=>cases h
theorem eR(h:d∈DB (.str x)):d=eS (Al d):=by
 unfold DB BH at h;obtain⟨c,_,rfl⟩:=List.mem_map.mp h;rfl
theorem To(x:AJ):(DB (.str x)).length=x.length:=XD x
theorem zq{i:Int}(h:i∈rng 0 n):∃k:Nat,k<n/\i=(k:Int):=by
 unfold rng at h;obtain⟨k,a,rfl⟩:=List.mem_map.mp h;exact⟨k,List.mem_range.mp a,by omega⟩
end P1
namespace P1
open L2 S1 S6
def same(w:Z AZ)(x y:AJ):Prop:=∃s∈w,x∈s/\y∈s
end P1
section
set_option maxHeartbeats 1000000
namespace P1
open L2
open PySem.Builtin PySem.Builtin.Str
abbrev cs(s:AJ):Z Nat:=s.cps.toList
theorem MN(a b:AJ):cs (a++b)=cs a++cs b:=Array.toList_append
theorem G9(a:AJ):a.length=(cs a).length:=by simp[Str.length]
theorem O'(y p q:AJ)(ps:AZ):Str.join y (p::q::ps)=p++y++Str.join y (q::ps):=rfl
theorem X3{c:Nat}{s:AJ}(h:c∈cs s):JF ⟨#[c]⟩ s=true:=by
 unfold JF;obtain⟨i,hi⟩:=(mem_iff_at s c).mp h;rcases StrLaws.occ_head s ⟨#[c]⟩ 1 (zg 1)with⟨h0,a⟩|⟨i,r,h0,_,_⟩
 ·exact absurd hi (a i)
 ·rw[h0];rfl
theorem Sr(h:n<=x.length):cs (Txt.slice x (U (n:Int)) Y)=(cs x).drop n:=by
 rw[slice_from_eq (b:=x.length) (by omega) (by omega) rfl];show((cs x).drop ((n:Int).toNat)).take _=_;rw[KP,List.take_of_length_le (by rw[kA,<-G9];omega)]
theorem Tk(h:n<=x.length):cs (Txt.slice x Y (U (n:Int)))=(cs x).take n:=by
 have:=slice_closes_to (x:=x) (j:=(n:Int)) ⟨by omega,by rw[show x.cps.toList.length=x.length by simp[Str.length]];omega⟩;rw[eq_of_beq this];show((cs x).drop 0).take _=_;simp
theorem iP:∀(y p:AJ) (ps:AZ),cs (Txt.join y (p::ps))=cs p++ps.flatMap λq=>cs y++cs q:=by
 intro y p ps;rw[show Txt.join y (p::ps)=Str.join y (p::ps) from StrLaws.glued_eq_join y _]
 induction ps generalizing p with
 |nil=>simp[Str.join]
 |cons q ps a=>rw[O',MN,MN,a,List.flatMap_cons,Q4,Q4]
end P1
end
section
set_option maxHeartbeats 1000000
namespace P1
open L2 S1 S6
section
variable [Inhabited α]
end
section
variable{e:α->Dt} [rG e]
end
end P1
end
namespace P1
open L2
open PySem.Builtin PySem.Builtin.Str
end P1
section
set_option maxHeartbeats 1000000
namespace P1
open L2
open PySem.Builtin PySem.Builtin.Str
end P1
end
section
set_option synthInstance.maxSize 100000
namespace G14
open L2 P1
noncomputable section
abbrev DV:=Z P1.Dt
abbrev aF:Type:=Int×AJ×AJ×Int
abbrev aJ:aF->Dt:=EH eI eS eS eI
abbrev qK:Type:=AJ×AJ×Int
abbrev Ao:qK->Dt:=ED eS eS eI
abbrev fU:Type:=AZ×(Z aF)×(Z qK)
abbrev bV:fU->Dt:=ED (eT eS) (eT aJ) (eT Ao)
abbrev nJ:Type:=AJ×AJ
abbrev uF:nJ->Dt:=Xy eS eS
abbrev CV:Type:=Int×Dt
def Ug:Z Dt:=[Dt.non,(Dt.bl true),(Dt.int 0),(Dt.str ""),(Dt.str "Zz"),((eL eS) [("a":AJ)]),Dt.emp,(Dt.tup [(Dt.str "a")]),(Dt.str "aaaaaaaaaaaaaaaaaaaa"),(Dt.int 1)]
def top(i:Nat):AB:=PySem.Challenge.pw_onefolk_k14_why_two_are_one.main.body.getD i (.Pass ⟨0,0,0,0⟩)
abbrev Hf:AB:=top 25
abbrev wX:AB:=top 26
abbrev BW:AB:=top 30
abbrev BX:AB:=top 27
abbrev zu:AB:=top 28
abbrev BZ:AB:=top 31
abbrev Ca:AB:=top 29
abbrev Hg:AB:=top 32
abbrev Kd:AB:=top 33
abbrev zx:AB:=top 13
abbrev Ke:AB:=top 12
abbrev jc:AB:=top 15
abbrev zy:AB:=top 16
abbrev zA:AB:=top 17
abbrev zB:AB:=top 19
abbrev Cd:AB:=top 23
abbrev Hh:AB:=top 22
abbrev QD:AB:=top 21
abbrev wB:AB:=top 20
abbrev Cg:AB:=top 38
abbrev um:AB:=top 34
abbrev zF:AB:=top 35
abbrev qL:AB:=top 37
abbrev q9:AB:=top 39
abbrev s_law:AB:=top 40
def fuel:Nat:=32
def wY:Ev->O An:=(aD (aD (At 2 (b2 fj (b2 dH (b2 uU (gv 2) (cB (.int 69621))) (gv 3)) (cB (.int 2147483647)))) fB) (cT [3]))
def sU:Ev->O An:=(aD (xH (vZ EO (gv 1) (cg uW (ao (gv 0) aH))) (aD (jw (b2 gK (gv 0) (gv 1))) fB) fB) (aD (At 2 (b2 fj (b2 uU (cB (.int 48271)) (b2 dH (b2 dH (b2 uU (gv 1) (gv 1)) (b2 uU (cB (.int 7)) (gv 1))) (cB (.int 11)))) (cB (.int 2147483647)))) (aD (pI (EJ (Gb (gv 0) iM (jO (cB (.int 3))))) (mz 3) wY) (aD (jw (gv 2)) fB))))
def fW:Z Bx->O Bx:=dY 4 sU
def lF:Ev->O An:=(aD (aD (At 3 (b2 fj (b2 dH (b2 dH (b2 uU (gv 3) (b2 dH (b2 fj (gv 3) (cB (.int 65521))) (cB (.int 40487)))) (b2 uU (cB (.int 7)) (gv 5))) (cB (.int 5))) (cB (.int 1999999973)))) (aD (xM 2 (b2 gK (cg gY (ao (gv 3) (ao (b2 fj (gv 4) (cB (.int 1000000))) aH))) (cg Sx (ao (b2 Ff (gv 4) (cB (.int 0))) aH)))) (aD (At 4 (b2 yI (gv 4) (cB (.int 1000000)))) fB))) (cT [5]))
def lR:Ev->O An:=(aD (At 2 (cg gY aH)) (aD (At 3 (b2 fj (b2 uU (b2 dH (b2 fj (gv 0) (cB (.int 1999999973))) (cB (.int 31))) (cB (.int 765432101))) (cB (.int 1999999973)))) (aD (At 4 (cB (.int 0))) (aD (xH (D5 (vZ EO (gv 0) (cB (.int 0))) (vZ IM (gv 0) (b2 Hk (cB (.int 10)) (cB (.int 18))))) (aD (aD (At 4 (cg ZK (ao (gv 0) aH))) fB) (cT [])) (aD fB (cT []))) (aD (pI (O7 (ao (gv 1) aH)) (mz 5) lF) (aD (CG 2) fB))))))
def cY:Z Bx->O Bx:=dY 6 lR
def vG:Ev->O An:=(aD (aD (ZM 8 9 (ao (b2 gK (gv 5) (gv 7)) (ao (b2 gK (gv 5) (b2 fj (b2 dH (gv 7) (cB (.int 1))) (cB (.int 30)))) aH))) (aD (At 10 (b2 gK (cg gY (ao (cB (.int 5)) (ao (b2 C2 (cB (.int 1000)) (gv 7)) (ao (b1 vW (b2 dH (cB (.int 1)) (gv 7))) (ao (b1 vW (b2 dH (cB (.int 1)) (b2 fj (b2 uU (gv 7) (gv 7)) (cB (.int 9))))) aH))))) (b2 fj (gv 2) (cB (.int 4))))) (aD (xM 6 (cg qR (ao (b2 C2 (cB (.int 0)) (gv 10)) (ao (b1 vW (cg u9 (ao (gv 8) (ao (gv 9) aH)))) (ao (b1 vW (cg Qg (ao (gv 8) (ao (gv 9) aH)))) (ao (b2 fj (gv 7) (cB (.int 3))) aH)))))) fB))) (cT [7,8,9,10]))
def pW:Ev->O An:=(aD (At 3 (cB (.str "abcd"))) (aD (At 4 (gB (O7 (ao (cB (.int 30)) aH)) (mz 1) rR (b2 uU (b2 gK (gv 0) (b2 yI (gv 1) (cB (.int 8)))) (b2 dH (cB (.int 1)) (b2 fj (gv 1) (cB (.int 8))))) [3] 1)) (aD (At 5 (gB (O7 (ao (cB (.int 30)) aH)) (mz 2) rR (b2 gK (gv 0) (b2 fj (b2 dH (b2 uU (cB (.int 7)) (gv 2)) (gv 1)) (cB (.int 30)))) [4,1] 1)) (aD (At 6 (cg gY aH)) (aD (pI (O7 (ao (b2 dH (cB (.int 29)) (b2 fj (gv 0) (cB (.int 2)))) aH)) (mz 7) vG) (aD (jw (cg qR (ao (cg lB (ao (cg Bq (ao (gv 4) aH)) aH)) (ao (cg lB (ao (gB (Io (cg u0 (ao (gv 6) aH))) (wO 4 (dW (mz 0) (dW (mz 1) (dW (mz 2) (dW (mz 3) Bl))))) rR (cg qR (ao (b2 C2 (cB (.int 0)) (gv 0)) (ao (gv 1) (ao (gv 2) (ao (gv 3) aH))))) [] 4) aH)) (ao (cg qR aH) aH))))) fB))))))
def pX:Z Bx->O Bx:=dY 11 pW
def pA:Ev->O An:=(aD (aD (At 7 (b2 gK (gv 2) (b2 fj (b2 dH (gv 6) (b2 gK (gv 0) (cB (.int 2)))) (cB (.int 15))))) (aD (At 8 (b2 dH (b2 dH (Gb (gv 3) iM (jO (gv 4))) (gv 7)) (Gb (gv 3) (jO (gv 4)) iM))) (aD (xH (vZ BT (b2 fj (b2 gK (gv 0) (cB (.int 3))) (cB (.int 3))) (cB (.int 1))) (aD (aD (At 8 (b2 uU (b2 gK (gv 2) (b2 yI (gv 6) (cB (.int 8)))) (b2 dH (cB (.int 1)) (b2 fj (gv 6) (cB (.int 8)))))) fB) (cT [])) (aD fB (cT []))) (aD (xM 5 (gv 8)) fB)))) (cT [6,7,8]))
def pY:Ev->O An:=(aD (At 2 (cB (.str "abcdefghijklmnopqrstuvwxyz"))) (aD (At 3 (b1 (O9 "") (gB (O7 (ao (b2 fj (b2 gK (gv 0) (cB (.int 0))) (cB (.int 6))) aH)) (mz 2) rR (b2 gK (gv 0) (b2 fj (b2 yI (b2 gK (gv 1) (gv 2)) (cB (.int 40))) (cB (.int 26)))) [2,0] 1))) (aD (At 4 (b2 fj (b2 gK (gv 0) (cB (.int 1))) (b2 dH (cg uW (ao (gv 3) aH)) (cB (.int 1))))) (aD (At 5 (cg gY aH)) (aD (pI (O7 (ao (gv 1) aH)) (mz 6) pA) (aD (CG 5) fB))))))
def mH:Z Bx->O Bx:=dY 9 pY
def mV:Ev->O An:=(aD (aD (At 9 (cj 2 cY (ao (b1 vW (cj 2 fW (ao (gv 0) (ao (b1 vW (b2 dH (b2 dH (gv 1) (cB (.int 1))) (gv 8))) aH)))) (ao (cB (.int 4)) aH)))) (aD (ZM 10 11 (ao (b2 fj (b2 gK (gv 9) (cB (.int 0))) (cg CP (ao (cB (.int 1)) (ao (gv 2) aH)))) (ao (b2 fj (b2 gK (gv 9) (cB (.int 1))) (cg CP (ao (cB (.int 1)) (ao (gv 2) aH)))) aH))) (aD (At 12 (b2 gK (cg gY (ao (b1 vW (b2 dH (cB (.int 1)) (b2 fj (b2 gK (gv 9) (cB (.int 2))) (cB (.int 3))))) (ao (b1 vW (b2 dH (cB (.int 1)) (b2 fj (b2 gK (gv 9) (cB (.int 2))) (cB (.int 9))))) (ao (b1 vW (b2 dH (cB (.int 1)) (b2 fj (b2 gK (gv 9) (cB (.int 2))) (cB (.int 1000))))) aH)))) (b2 fj (b2 gK (gv 5) (cB (.int 4))) (cB (.int 3))))) (aD (xH (vZ Sq (gv 10) (gv 11)) (aD (aD (xM 7 (cg qR (ao (b2 C2 (cB (.int 0)) (gv 12)) (ao (b2 gK (gv 6) (cg W6 (ao (gv 10) (ao (gv 11) aH)))) (ao (b2 gK (gv 6) (cg CP (ao (gv 10) (ao (gv 11) aH)))) (ao (b2 gK (cg gY (ao (cB (.int 0)) (ao (cB (.int 2)) (ao (cB (.int 10)) aH)))) (b2 fj (b2 gK (gv 9) (cB (.int 3))) (cB (.int 3)))) aH)))))) fB) (cT [])) (aD fB (cT []))) fB)))) (cT [8,9,10,11,12]))
def mX:Ev->O An:=(aD (aD (At 9 (cj 2 cY (ao (b1 vW (cj 2 fW (ao (gv 0) (ao (b1 vW (b2 dH (b2 dH (gv 1) (cB (.int 1))) (gv 8))) aH)))) (ao (cB (.int 8)) aH)))) (aD (ZM 10 11 (ao (b2 fj (b2 gK (gv 9) (cB (.int 5))) (cg CP (ao (cB (.int 1)) (ao (gv 2) aH)))) (ao (b2 fj (b2 gK (gv 9) (cB (.int 6))) (cg CP (ao (cB (.int 1)) (ao (gv 2) aH)))) aH))) (aD (xH (vZ Sq (gv 10) (gv 11)) (aD (aD (xM 14 (cg qR (ao (b2 gK (gv 6) (cg W6 (ao (gv 10) (ao (gv 11) aH)))) (ao (b2 gK (gv 6) (cg CP (ao (gv 10) (ao (gv 11) aH)))) (ao (b2 gK (cg gY (ao (cB (.int 2)) (ao (cB (.int 10)) aH))) (b2 fj (b2 gK (gv 9) (cB (.int 7))) (cB (.int 2)))) aH))))) fB) (cT [])) (aD fB (cT []))) fB))) (cT [8,9,10,11]))
def nM:Ev->O An:=(aD (At 5 (cj 2 cY (ao (b1 vW (cj 2 fW (ao (gv 0) (ao (gv 1) aH)))) (ao (cB (.int 6)) aH)))) (aD (At 6 (cg Bq (ao (cj 2 mH (ao (gv 5) (ao (gv 2) aH))) aH))) (aD (At 7 (cg gY aH)) (aD (pI (O7 (ao (gv 3) aH)) (mz 8) mV) (aD (At 13 (gB (Io (Gs (Tj (gv 7)))) (wO 4 (dW (mz 0) (dW (mz 1) (dW (mz 2) (dW (mz 3) Bl))))) rR (cg qR (ao (b2 C2 (cB (.int 0)) (gv 0)) (ao (gv 1) (ao (gv 2) (ao (gv 3) aH))))) [] 4)) (aD (At 14 (cg gY aH)) (aD (pI (O7 (ao (gv 4) aH)) (mz 8) mX) (aD (jw (cg qR (ao (cg lB (ao (gv 6) aH)) (ao (cg lB (ao (gv 13) aH)) (ao (cg lB (ao (Gs (Tj (gv 14))) aH)) aH))))) fB))))))))
def nO:Z Bx->O Bx:=dY 15 nM
def pZ:Ev->O An:=(aD (At 1 (cj 2 cY (ao (b1 vW (cj 2 fW (ao (gv 0) (ao (cB (.int 0)) aH)))) (ao (cB (.int 12)) aH)))) (aD (xH (vZ BT (b2 fj (b2 gK (gv 1) (cB (.int 9))) (cB (.int 16))) (cB (.int 5))) (aD (jw (cj 3 pX (ao (b2 yI (b2 gK (gv 1) (cB (.int 9))) (cB (.int 16))) (ao (b2 gK (gv 1) (cB (.int 10))) (ao (b2 gK (gv 1) (cB (.int 11))) aH))))) fB) fB) (aD (At 2 (b2 fj (b2 gK (gv 1) (cB (.int 6))) (cB (.int 15)))) (aD (jw (cj 5 nO (ao (gv 0) (ao (cB (.int 0)) (ao (gv 2) (ao (b2 fj (b2 gK (gv 1) (cB (.int 7))) (cB (.int 22))) (ao (b2 fj (b2 gK (gv 1) (cB (.int 8))) (cB (.int 4))) aH))))))) fB))))
def qb:Z Bx->O Bx:=dY 3 pZ
def vH:Ev->O An:=(aD (aD (At 7 (b2 gK (gB (Io (gv 2)) (mz 1) (vZ CB (gv 0) (gv 1)) (gv 1) [4] 1) (cB (.int 0)))) (aD (At 8 (b2 gK (gB (Io (gv 2)) (mz 1) (vZ CB (gv 0) (gv 1)) (gv 1) [5] 1) (cB (.int 0)))) (aD (xH (vZ Sq (gv 7) (gv 8)) (aD (aD (At 2 (b2 dH (gB (Io (gv 2)) (mz 2) (vZ Mf (gv 2) (cg gY (ao (gv 0) (ao (gv 1) aH)))) (gv 2) [7,8] 1) (cg gY (ao (b1 vW (cg Bq (ao (b2 dH (gv 7) (gv 8)) aH))) aH)))) fB) (cT [])) (aD fB (cT []))) fB))) (cT [3,4,5,6,7,8]))
def qd:Ev->O An:=(aD (At 2 (gB (Io (gv 0)) (mz 0) rR (b1 vW (cg gY (ao (gv 0) aH))) [] 1)) (aD (qU 1 (wO 4 (dW (mz 3) (dW (mz 4) (dW (mz 5) (dW (mz 6) Bl))))) vH) (aD (jw (cg u0 (ao (gB (Io (gv 2)) (mz 0) rR (cg lB (ao (gv 0) aH)) [] 1) aH))) fB)))
def qe:Z Bx->O Bx:=dY 9 qd
def wZ:Ev->O An:=(aD (aD (At 4 (cj 2 qe (ao (gv 0) (ao (gv 2) aH)))) (aD (xH (Ij (tV (cg Cb (ao (gB (Io (gv 4)) (mz 1) rR (Om (b2 CB (b2 gK (gv 0) (cB (.int 1))) (gv 1)) (b2 CB (b2 gK (gv 0) (cB (.int 2))) (gv 1))) [3] 1) aH)))) (aD (aD (xM 2 (gv 3)) fB) (cT [])) (aD fB (cT []))) fB)) (cT [3,4]))
def sV:Ev->O An:=(aD (At 2 (cg gY aH)) (aD (qU 1 (mz 3) wZ) (aD (CG 2) fB)))
def sW:Z Bx->O Bx:=dY 5 sV
def wD(rz:Z Bx->O Bx):Ev->O An:=(aD (xH (vZ BT (gv 1) (gv 2)) (aD (jw (b1 vW (cg gY aH))) fB) fB) (aD (qU 0 (mz 4) (aD (aD (xH (Ol (vZ Mf (gv 4) (gv 3)) (vZ CB (gv 1) (Gb (gv 4) (jO (cB (.int 1))) (jO (cB (.int 3)))))) (aD (At 5 (b2 gK (gv 4) (b2 dH (cB (.int 1)) (cg Sx (ao (b2 BT (b2 gK (gv 4) (cB (.int 1))) (gv 1)) aH))))) (aD (At 6 (cj 4 rz (ao (gv 0) (ao (gv 5) (ao (gv 2) (ao (b1 vW (b2 dH (gv 3) (cg gY (ao (gv 4) aH)))) aH)))))) (aD (xH (vZ Bo (gv 6) (cB .non)) (aD (jw (b1 vW (b2 dH (cg gY (ao (gv 4) aH)) (gv 6)))) fB) fB) fB))) fB) fB) (cT [4,5,6]))) (aD (jw (cB .non)) fB)))
def iw:Nat->Z Bx->O Bx
 |0=>dY 7 λ_=>Y
 |n+1=>dY 7 (wD (iw n))
def rz:Z Bx->O Bx:=iw fuel
def nP:Ev->O An:=(aD (jw (Om (JM lA (gv 0)) (Om (F3 Fu Fu (cB (.int 1)) (cg uW (ao (gv 0) aH)) (gv 2)) (cg CF (ao (gB (Io (gv 0)) (mz 1) rR (b2 CB (gv 1) (gv 0)) [1] 1) aH))))) fB)
def nQ:Z Bx->O Bx:=dY 3 nP
def wF:Ev->O An:=(aD (jw (cj 3 nQ (ao (gv 0) (ao (cB (.str "abcdefghijklmnopqrstuvwxyz")) (ao (cB (.int 8)) aH))))) fB)
def lG:Z Bx->O Bx:=dY 1 wF
def jd:Ev->O An:=(aD (aD (xH (D5 (Ij (tV (cj 1 lG (ao (gv 1) aH)))) (vZ ZD (gv 1) (b2 gK (gv 0) (cB (.int 0))))) (aD HK fB) fB) fB) (cT []))
def bR:Z Bx->O Bx:=dY 2 jd
def nR:Ev->O An:=(aD (jw (Vy (Io (gv 0)) (mz 0) rR (gv 0) (gv 0) [] 1)) fB)
def nU:Z Bx->O Bx:=dY 1 nR
def uo:Ev->O An:=(aD (aD (xH (D5 (vZ BT (b2 ud (gv 0) (gv 4)) (gv 1)) (vZ BT (b2 ud (gv 0) (gv 4)) (gv 2))) (aD (aD (Vk 0 (gv 3) (gv 4)) fB) (cT [])) (aD fB (cT []))) fB) (cT [4]))
def nW:Ev->O An:=(aD (aD (At 3 (cg u9 (ao (gv 1) (ao (gv 2) aH)))) (aD (pI (EJ (cg Gx (ao (gv 0) aH))) (mz 4) uo) fB)) (cT [3,4]))
def j6:A1->Z (AY×Dt)->Z Bx->O (Z (AY×Dt)):=Qh 5 nW
def uq:Ev->O An:=(aD (aD (At 7 (b2 ud (gv 4) (b2 gK (gv 6) (cB (.int 1))))) (aD (At 8 (b2 ud (gv 4) (b2 gK (gv 6) (cB (.int 2))))) (aD (xH (vZ Sq (gv 7) (gv 8)) (aD (aD (Gz 4 2 j6 (ao (gv 7) (ao (gv 8) aH))) (aD (xM 5 (gv 6)) fB)) (cT [])) (aD fB (cT []))) fB))) (cT [6,7,8]))
def nY:Ev->O An:=(aD (HV (wO 3 (dW (mz 1) (dW (mz 2) (dW (mz 3) Bl)))) (gv 0)) (aD (At 4 (cj 1 nU (ao (gv 1) aH))) (aD (At 5 (cg gY aH)) (aD (qU 2 (mz 6) uq) (aD (CG 5) fB)))))
def nZ:Z Bx->O Bx:=dY 9 nY
def qg:Ev->O An:=(aD (xH (vZ BT (b2 gK (gv 0) (cB (.int 1))) (gv 1)) (aD (jw (b2 gK (gv 0) (cB (.int 2)))) fB) fB) (aD (xH (vZ BT (b2 gK (gv 0) (cB (.int 2))) (gv 1)) (aD (jw (b2 gK (gv 0) (cB (.int 1)))) fB) fB) (aD (jw (cB .non)) fB)))
def jQ:Z Bx->O Bx:=dY 2 qg
def w5:Ev->O An:=(aD (aD (xM 2 (b2 ud (gv 0) (gv 3))) (aD (At 3 (cj 2 jQ (ao (b2 ud (gv 0) (gv 3)) (ao (gv 3) aH)))) fB)) (cT []))
def sX:Ev->O An:=(aD (At 2 (cg gY aH)) (aD (At 3 (gv 1)) (aD (Xr (vZ Bo (b2 ud (gv 0) (gv 3)) (cB .non)) w5 70) (aD (CG 2) fB))))
def sY:Z Bx->O Bx:=dY 4 sX
def Ci:Ev->O An:=(aD (aD (At 7 (cj 2 jQ (ao (gv 6) (ao (gv 5) aH)))) (aD (xH (Ol (vZ Bo (gv 7) (cB .non)) (vZ Xw (gv 7) (gv 3))) (aD (aD (Vk 3 (gv 6) (gv 7)) (aD (xM 4 (gv 7)) fB)) (cT [])) (aD fB (cT []))) fB)) (cT [6,7]))
def Cj:Ev->O An:=(aD (aD (EZ 5 4 (cB (.int 0))) (aD (qU 0 (mz 6) Ci) fB)) (cT [5,6,7]))
def zG:Ev->O An:=(aD (At 3 (b2 J2 (gv 1) (cB .non))) (aD (At 4 (cg gY (ao (gv 1) aH))) (aD (Xr (tV (gv 4)) Cj 70) (aD (xH (vZ Xw (gv 2) (gv 3)) (aD (jw (cB .non)) fB) fB) (aD (jw (b2 Tv (cj 2 sY (ao (gv 3) (ao (gv 2) aH))) (b1 W3 (cB (.int 1))))) fB)))))
def zH:Z Bx->O Bx:=dY 8 zG
def wG:Ev->O An:=(aD (BK (cj 2 bR (ao (gv 0) (ao (gv 1) aH)))) (aD (BK (cj 2 bR (ao (gv 0) (ao (gv 2) aH)))) (aD (jw (cj 3 zH (ao (b1 vW (cj 1 nZ (ao (gv 0) aH))) (ao (gv 1) (ao (gv 2) aH))))) fB)))
def oU:Z Bx->O Bx:=dY 3 wG
def qj:Ev->O An:=(aD (At 4 (cj 4 rz (ao (gv 1) (ao (gv 2) (ao (gv 3) (ao (b1 vW (cg gY aH)) aH)))))) (aD (At 5 (cj 3 oU (ao (gv 0) (ao (gv 2) (ao (gv 3) aH))))) (aD (xH (D5 (vZ Sq (gv 5) (gv 4)) (Ol (vZ Bo (gv 4) (cB .non)) (Ij (tV (JM BN (gv 5)))))) (aD (jw (cB (.bl false))) fB) fB) (aD (At 6 (cj 3 oU (ao (gv 0) (ao (gv 3) (ao (gv 2) aH))))) (aD (xH (vZ DS (gv 4) (cB .non)) (aD (jw (b2 DS (gv 6) (cB .non))) fB) fB) (aD (xM 5 (cB .non)) (aD (jw (Om (b2 BT (gv 6) (b2 Tv (gv 4) (b1 W3 (cB (.int 1))))) (b2 BT (cj 3 oU (ao (gv 0) (ao (gv 2) (ao (gv 3) aH)))) (gv 4)))) fB)))))))
def qm:Z Bx->O Bx:=dY 7 qj
def jF:Ev->O An:=(aD (At 1 (cg gY (ao (cB .non) (ao (cB (.bl true)) (ao (cB (.int 0)) (ao (cB (.str "")) (ao (cB (.str "Zz")) (ao (b1 vW (cg gY (ao (cB (.str "a")) aH))) (ao (cB .emp) (ao (cg qR (ao (cB (.str "a")) aH)) (ao (cB (.str "aaaaaaaaaaaaaaaaaaaa")) (ao (cB (.int 1)) aH)))))))))))) (aD (jw (b2 dH (b2 dH (gv 1) (gB (Io (Gb (gv 0) iM (jO (cB (.int 1))))) (mz 0) rR (b1 vW (b2 dH (gv 0) (cB (.str "q")))) [] 1)) (gB (Io (Gb (gv 0) iM (jO (cB (.int 1))))) (mz 0) rR (b1 vW (cg gY (ao (gv 0) aH))) [] 1))) fB))
def jG:Z Bx->O Bx:=dY 2 jF
def n6:Ev->O An:=(aD (At 3 (cB (.str "abcdefghijklmnopqrstuvwxyz0123456789 ABCDEFGHIJKLMNOPQRSTUVWXYZ"))) (aD (At 3 (b2 dH (gv 3) (cB (.str "!#$&'()*+,-./:;<=>?\x40[]^_`{|}~\"\\")))) (aD (At 4 (b2 gK (gv 3) (b2 fj (b2 yI (gv 2) (cB (.int 6))) (b2 gK (cg gY (ao (cB (.int 36)) (ao (cB (.int 94)) aH))) (b2 fj (b2 yI (gv 2) (cB (.int 3))) (cB (.int 2))))))) (aD (At 5 (b2 fj (gv 1) (b2 dH (cg uW (ao (gv 0) aH)) (cB (.int 1))))) (aD (jw (b2 gK (cg gY (ao (b1 vW (b2 dH (b2 dH (Gb (gv 0) iM (jO (gv 5))) (gv 4)) (Gb (gv 0) (jO (gv 5)) iM))) (ao (b1 vW (b2 dH (b2 dH (Gb (gv 0) iM (jO (gv 5))) (gv 4)) (Gb (gv 0) (jO (b2 dH (gv 5) (cB (.int 1)))) iM))) (ao (b1 vW (b2 dH (Gb (gv 0) iM (jO (gv 5))) (Gb (gv 0) (jO (b2 dH (gv 5) (cB (.int 1)))) iM))) aH)))) (b2 fj (gv 2) (cB (.int 3))))) fB)))))
def n8:Z Bx->O Bx:=dY 6 n6
def HM:Ev->O Bool:=D5 (Ij (tV (cj 1 lG (ao (gv 1) aH)))) (vZ ZD (gv 1) (b2 gK (gv 0) (cB (.int 0))))
def rA:Ev->O Dt:=HP HM (MA (λ_=>true) (gv 1)) (λ_=>Y)
def EA(g1 g2:Ev->O Dt):Ev->O Dt:=λρ=>match g1 ρ with
 |some d=>U d
 |none=>g2 ρ
def Ck:Ev->O Dt:=EA (Kc 2 (nG 2 rA) (ao (gv 0) (ao (gv 1) aH))) (V6 (BK (cj 2 bR (ao (gv 0) (ao (gv 1) aH)))) (Kc 2 (nG 2 rA) (ao (gv 0) (ao (gv 2) aH))))
def QF:Bx->O Bx
 |.z (.bl true)=>U (.z (.bl true))
 |_=>Y
def dM:Z Bx->O Bx
 |[b0,b1,b2,b3]=>(nG 3 Ck [b0,b1,b2]).bind λd=>(BT (.z d) b3).bind QF
 |_=>Y
def je:Ev->O An:=(aD (jw (Om (cj 4 dM (ao (gv 0) (ao (gv 1) (ao (gv 2) (ao (gv 1) aH))))) (cj 4 dM (ao (gv 0) (ao (gv 2) (ao (gv 1) (ao (gv 1) aH))))))) fB)
def jf:Z Bx->O Bx:=dY 3 je
def QG:Ev->O An:=(aD (aD (F0 7 (gB (Io (gv 2)) (mz 1) rR (cg qR (ao (gv 0) (ao (gv 1) aH))) [8] 1)) fB) (cT [8]))
def QH:Ev->O An:=(aD (aD (xH (Ij (tV (cj 4 dM (ao (gv 1) (ao (gv 11) (ao (gv 13) (ao (gv 11) aH))))))) (aD (jw (cB (.bl false))) fB) fB) fB) (cT [13]))
def QJ:Ev->O An:=(aD (aD (xH (vZ Mf (gv 11) (gv 2)) (aD (At 12 (b2 gK (gv 9) (b2 fj (b2 dH (b2 dH (gv 10) (cB (.int 1))) (b2 fj (b2 gK (gv 4) (cB (.int 4))) (cB (.int 9)))) (cg uW (ao (gv 9) aH))))) (aD (pI (EJ (cg gY (ao (cB (.str "other")) (ao (gv 11) (ao (gv 12) aH))))) (mz 13) QH) (aD (At 14 (b2 gK (b2 dH (gv 2) (cg gY (ao (cB (.str "")) aH))) (b2 fj (b2 gK (gv 4) (cB (.int 5))) (cg CP (ao (cB (.int 1)) (ao (cg uW (ao (gv 2) aH)) aH)))))) (aD (xH (Ol (vZ Sq (gv 2) (cg gY aH)) (Ij (tV (cj 3 jf (ao (gv 1) (ao (gv 11) (ao (gv 14) aH))))))) (aD (jw (cB (.bl false))) fB) fB) fB)))) fB) fB) (cT [10,11,12,13,14]))
def V9:Ev->O An:=(aD (At 1 (cj 1 qb (ao (gv 0) aH))) (aD (At 2 (cg O6 (ao (b2 gK (gv 1) (cB (.int 0))) aH))) (aD (At 3 (cj 2 sW (ao (b2 gK (gv 1) (cB (.int 0))) (ao (b2 gK (gv 1) (cB (.int 1))) aH)))) (aD (At 4 (Gb (cj 2 cY (ao (b1 vW (cj 2 fW (ao (gv 0) (ao (cB (.int 0)) aH)))) (ao (cB (.int 18)) aH))) (jO (cB (.int 12))) iM)) (aD (At 5 (b2 fj (b2 gK (gv 4) (cB (.int 0))) (cg CP (ao (cB (.int 1)) (ao (cg uW (ao (gv 2) aH)) aH))))) (aD (At 6 (b2 gK (cg gY (ao (cB (.int 100)) (ao (cB (.int 40)) aH))) (cg Sx (ao (b2 Ff (cg uW (ao (gv 2) aH)) (cB (.int 14))) aH)))) (aD (At 7 (cg gY aH)) (aD (pI (EJ (b2 dH (Gb (gv 2) (jO (gv 5)) iM) (Gb (gv 2) iM (jO (gv 5))))) (mz 8) QG) (aD (xH (Ij (tV (cg CF (ao (gB (Io (Gb (gv 7) iM (jO (gv 6)))) (mz 2) rR (b1 vW (cj 4 qm (ao (gv 0) (ao (gv 1) (ao (b2 gK (gv 2) (cB (.int 0))) (ao (b2 gK (gv 2) (cB (.int 1))) aH)))))) [1,3] 1) aH)))) (aD (jw (cB (.bl false))) fB) fB) (aD (At 9 (cj 1 jG (ao (gv 2) aH))) (aD (xH (vZ Sq (gv 2) (cg gY aH)) (aD (aD (xM 9 (b1 vW (cj 3 n8 (ao (b2 gK (gv 2) (b2 fj (b2 gK (gv 4) (cB (.int 1))) (cg uW (ao (gv 2) aH)))) (ao (b2 gK (gv 4) (cB (.int 2))) (ao (b2 gK (gv 4) (cB (.int 3))) aH)))))) fB) (cT [])) (aD fB (cT []))) (F1 9 (aD (pI (HZ (ao (gv 9) aH)) (wO 2 (dW (mz 10) (dW (mz 11) Bl))) QJ) (aD (jw (cB (.bl true))) fB))))))))))))))
def F_law:Z Bx->O Bx:=dY 15 V9
end
end G14
end
section
set_option synthInstance.maxSize 100000
namespace G14
open L2 P1
abbrev sZ:AB:=top 36
abbrev Uh:AB:=match top 2 with
 |.ClassDef _ _ _ b _ _ _ _ _ _ _=>b.getD 0 (.Pass ⟨0,0,0,0⟩)
 |s=>s
section
variable{fdI:FuncData}{FE c0 c1 c2 c3 c4 c5 c6 f_o:A1}{aep:FuncData}
def NY(D:A1)(n:Nat):A1->Z V->Hp->VK->Prop:=λa vs H Q=>vs=[.ref a,.int n]/\∃(d:A1) (fs:Z (AJ×V)),H a=U (Yz a D d)/\H d=U (.xd fs)/\∀H',AV H H'->Q (.bl true) H'
theorem Wa:bB ["_law_e","_law_at","_law_kinds"] ["_law_e","_law_at"] (aG sZ):=j4
theorem ag(F:Bj K "_law_only" "_law_only" sZ f_o aep)(a3:uh K D=true)(m0:mg "NoName"=U (.ref c0))(m1:mg "NoText"=U (.ref c1))(m2:mg "NoReason"=U (.ref c2))(m3:mg "NoUndo"=U (.ref c3))(m4:mg "NoRoom"=U (.ref c4))(M:mg "NoStep"=U (.ref c5))(m6:mg "NoRow"=U (.ref c6))(mF:mg "FolkError"=U (.ref FE))
  (h0:kitOne K (.ref D) (.ref c0)=U true) (h1:kitOne K (.ref D) (.ref c1)=U false) (h2:kitOne K (.ref D) (.ref c2)=U false) (h3:kitOne K (.ref D) (.ref c3)=U false) (h4:kitOne K (.ref D) (.ref c4)=U false) (h5:kitOne K (.ref D) (.ref c5)=U false) (h6:kitOne K (.ref D) (.ref c6)=U false)
  (hF:kitOne K (.ref D) (.ref FE)=U true) (X:kitOne K (.ref D) (.type "ValueError")=U true) (g:mg "isinstance"=Y) (a2:mg "ValueError"=Y) (j7:mg "range"=Y):
  V7 P w K mg base 1 f_o aep ["_law_e","_law_at"] (NY D 0):=by
 refine Bj.okH (k:=0) F Wa (λa vs H Q h=>by rw[h.1];rfl) λa1 a A outer s H vs Q G a5=>?_;have E:=Wa.nd;have L:(A.deeper (AK "_law_only" (aG sZ) s.heap.objs.size f_o a1)).units+100<cLine:=by have:=G.un;omega
 have f:∀C,C∈[D]->uh K C=true:=λC z=>by rw[List.mem_singleton.mp z];exact a3
 refine⟨_,(by exact(qP (zV (i:=2) E S (.inl S) (RT (bw (gq (j5 (Cs:=[D]) f) S g S (bw (pv 0) (bw (jY (v:=.ref c0) S m0 S) d7))) (bw (gq (j5 (Cs:=[D]) f) S g S (bw (pv 0) (bw (jY (v:=.ref c1) S m1 S) d7))) (bw (gq (j5 (Cs:=[D]) f) S g S (bw (pv 0) (bw (jY (v:=.ref c2) S m2 S) d7))) (bw (gq (j5 (Cs:=[D]) f) S g S (bw (pv 0) (bw (jY (v:=.ref c3) S m3 S) d7))) d7)))))) (qP (zV (i:=2) E S (.inl S) (K' ij (pv 2) (RT (bw (gq (j5 (Cs:=[D]) f) S g S (bw (pv 0) (bw (jY (v:=.ref c4) S m4 S) d7))) (bw (gq (j5 (Cs:=[D]) f) S g S (bw (pv 0) (bw (jY (v:=.ref c5) S M S) d7))) (bw (gq (j5 (Cs:=[D]) f) S g S (bw (pv 0) (bw (jY (v:=.ref c6) S m6 S) d7))) d7))))))
  (Ds (Kr (Kq (gq (j5 (Cs:=[D]) f) S g S (bw (pv 0) (bw (jY (v:=.ref FE) S mF S) d7))) (Kq (gq (j5 (Cs:=[D]) f) S g S (bw (pv 0) (bw (Ko (v:=.ty "ValueError") S a2 S S) d7))) (Rz (Ku (of_eq L) (pv 2) (YU (e:=a) ["_law_k"] 7 (by decide) (uD ["_law_at"] [1]) G.hd S j7 (bw Ry d7) (λ_ _ _ q=>q) (λ_ _ _ _=>(bf 1 (by show List.Nodup (_++_);decide +kernel)).run) (λ_ _ _ _=>cV.run) (λ_ _ _ _=>(qF (of_eq L) (ak 1) (ak 0) (cU _)).run) cW) (cU _)))))))))),?_⟩
 obtain⟨rfl,d,fs,ea,l,q⟩:=a5;refine⟨.ref a,rfl,a,D,d,fs,_,_,List.mem_singleton.mpr rfl,rfl,ea,l,.inl ⟨c0,rfl,h0⟩,?_⟩;refine⟨.ref a,rfl,a,D,d,fs,_,_,List.mem_singleton.mpr rfl,rfl,ea,l,.inl ⟨c1,rfl,h1⟩,?_⟩;refine⟨.ref a,rfl,a,D,d,fs,_,_,List.mem_singleton.mpr rfl,rfl,ea,l,.inl ⟨c2,rfl,h2⟩,?_⟩;refine⟨.ref a,rfl,a,D,d,fs,_,_,List.mem_singleton.mpr rfl,rfl,ea,l,.inl ⟨c3,rfl,h3⟩,?_⟩;refine⟨(show 4<=AA by decide +kernel),λp hp=>?_⟩;have y:AV H (B0 H p (.lst [.bl true,.bl false,.bl false,.bl false])):=bI hp;have t:=y _ _ ea;have m:=y _ _ l;refine⟨.ref p,rfl,?_⟩;refine⟨.ref a,rfl,a,D,d,fs,_,_,List.mem_singleton.mpr rfl,rfl,t,m,.inl ⟨c4,rfl,h4⟩,?_⟩;refine⟨.ref a,rfl,a,D,d,fs,_,_,List.mem_singleton.mpr rfl,rfl,t,m,.inl ⟨c5,rfl,h5⟩,?_⟩;refine⟨.ref a,rfl,a,D,d,fs,_,_,List.mem_singleton.mpr rfl,rfl,t,m,.inl ⟨c6,rfl,h6⟩,?_⟩;refine⟨(show 3<=AA by decide +kernel),λp2 W=>?_⟩;have J:=bI (o:=.lst [.bl false,.bl false,.bl false]) W;refine⟨p,p2,[.bl true,.bl false,.bl false,.bl false],[.bl false,.bl false,.bl false],rfl,rfl,J _ _ aU,aU,(show 7<=AA by decide +kernel),λp3 a0=>?_⟩;have s3:=bI (o:=.lst ([V.bl true,.bl false,.bl false,.bl false]++[.bl false,.bl false,.bl false])) a0;have x:=y.trans (J.trans s3);have u:=x _ _ ea;have I:=x _ _ l;have eu:B0 _ p3 _ p3=U (HO.lst ([V.bl true,.bl false,.bl false,.bl false]++[.bl false,.bl false,.bl false])):=aU (H:=B0 (B0 H p (.lst [.bl true,.bl false,.bl false,.bl false])) p2 (.lst [.bl false,.bl false,.bl false]));generalize B0 (B0 (B0 H p (.lst [.bl true,.bl false,.bl false,.bl false])) p2 (.lst [.bl false,.bl false,.bl false])) p3 (.lst ([V.bl true,.bl false,.bl false,.bl false]++[.bl false,.bl false,.bl false]))=H3 at *
 refine⟨.ref a,rfl,a,D,d,fs,_,_,List.mem_singleton.mpr rfl,rfl,u,I,.inl ⟨FE,rfl,hF⟩,true,rfl,?_⟩;show(if true=true then _ else _);rw[zh rfl];refine⟨.ref a,rfl,a,D,d,fs,_,_,List.mem_singleton.mpr rfl,rfl,u,I,.inr (.inl ⟨"ValueError",rfl,X⟩),true,rfl,?_⟩;show(if true=true then _ else _);rw[zh rfl];refine⟨.ref p3,rfl,[Y,U (.z (.int 0)),Y],D,d,[.bl true,.bl false,.bl false,.bl false,.bl false,.bl false,.bl false],?_,u,rfl,λDd us H4 hD B b0 r4=>?_⟩
 ·refine⟨rfl,λk b z=>?_,λk j c a b z n=>?_,AV.refl H3,λk c a z n=>?_⟩
  ·match k with
   |0=>cases z
   |1=>cases z;exact⟨_,rfl,by simp only[bh,AW];rfl⟩
   |2=>cases z
   |_+3=>cases z
  ·match k with
   |0=>cases z
   |1=>cases z;cases n
   |2=>cases z
   |_+3=>cases z
  ·match k with
   |0=>cases z
   |1=>cases z;cases n
   |2=>cases z
   |_+3=>cases z
 ·refine⟨.o [.bl true,.bl false,.bl false,.bl false,.bl false,.bl false,.bl false],.o [.bl true,.bl false,.bl false,.bl false,.bl false,.bl false,.bl false],.z (.bl true),⟨p3,_,rfl,B _ _ eu,?_⟩,⟨Dd,us,rfl,b0,r4⟩,rfl,λw H5 s5 _ N=>?_⟩
  ·have b:∀c,AW K H4 (.bl c) (.bl c):=λc=>by simp only[AW]
   exact aK.cons (b _) (aK.cons (b _) (aK.cons (b _) (aK.cons (b _) (aK.cons (b _) (aK.cons (b _) (aK.cons (b _) aK.nil))))))
  ·obtain rfl:w=.bl true:=by simpa only[bh,AW]using N
   exact q H5 (x.trans (B.trans s5))
theorem Uf:bB ["self","name"] ["self","name"] (aG Uh):=j4
theorem ba(F:Bj K "__init__" "NoName.__init__" Uh fI fdI)(hx:Cc K D fI EI "ValueError.__new__"=true)(f:Bi K D "name"=true)(g:mg "FolkError"=U (.ref FE))(hb:V5 K FE "ValueError.__init__"):
  ju P w K mg base xu 1 fI fdI ["self","name"] (EV D "name" λ_=>True):=by
 refine TZ (k:=0) (fa:=cB (.str "this name is refused")) (ρ0:=λ_=>[Y,Y]) F Uf PySem.F.excBase_ValueError hx f g hb (by decide +kernel) S (λv _=>⟨_,rfl,λH e=>⟨rfl,λi b z=>?_,λi j c a b z=>?_,AV.refl H,λi c a z=>?_⟩⟩) λh A outer s H E X d l=>?_
 ·match i with
  |0=>cases z
  |1=>cases z
  |_+2=>cases z
 ·match i with
  |0=>cases z
  |1=>cases z
  |_+2=>cases z
 ·match i with
  |0=>cases z
  |1=>cases z
  |_+2=>cases z
 ·subst d;exact⟨rfl,lC,pv 0,pv 0,pv 1,by decide,rfl,rfl,rfl,rfl,rfl,_,rfl⟩
variable{Aq X4 Ui ajJ:A1}{Hi QK Wb afb:FuncData}
theorem OX:bB ["ground","name"] ["ground","name"] (aG jc):=j4
theorem WO(F:Bj K "refuse_no_name" "refuse_no_name" jc X4 QK)(d:ju P w K mg base xu 2 Aq Hi ["thing"] (Zx K 1 lG))(b:mg "is_name"=U (.ref Aq))(g:keepIn K (.ref Aq)=true)(c:BA K Hi ["thing"] [])
  (hx:Cc K D fI EI "ValueError.__new__"=true) (h:keepIn K (.ref D)=true) (e:ju P w K mg base xu 1 fI fdI ["self","name"] (EV D "name" λ_=>True)) (hb:BA K fdI ["self","name"] []) (i:mg "NoName"=U (.ref D)):
  ju P w K mg base (Rw P w) 3 X4 QK ["ground","name"] (EE K 2 (nG 2 rA) D "name"):=by
 refine LY (k:=2) (gx:=rA) F OX S S λj A outer s H E a f hp=>?_;exact zp (ib (KZ (Fj (xG (uP (DN d (a.mono (by decide)) S b g c (aj (ak 1) aA)))) (yx (cN O2 (ak 1) (bD (ak 0) aC) (by with_unfolding_all rfl))))) (zp (abm (okX:=λ_=>true) PySem.F.excBase_ValueError hx (by decide) h e hb (a.mono (by decide)) S i f (ak 1) (λ_ _ _ _ _ _=>trivial))) ik)
theorem MI{f:AJ}{E:XK}{st:Z AB}{g1 g2:Ev->O Dt}(h1:XQ X C f E st g1)(h2:XQ X C f E st g2):XQ X C f E st (EA g1 g2):=⟨λAN s σ H D I b=>by
 obtain⟨H0,ρ,d,Ev,a,w⟩:=b;unfold EA at a;cases e:g1 ρ with
 |some q=>rw[e]at a;cases a;exact h1.run AN s σ H D I ⟨H0,ρ,_,Ev,e,w⟩
 |none=>rw[e]at a;exact h2.run AN s σ H D I ⟨H0,ρ,_,Ev,a,w⟩⟩
theorem YE:bB ["ground","one","other"] ["ground","one","other"] (aG wB):=j4
theorem UH(F:Bj K "why_one" "why_one" wB Ui Wb)(G:ju P w K mg base (Rw P w) 3 X4 QK ["ground","name"] (EE K 2 (nG 2 rA) D "name"))(f:ju P w K mg base xu 3 X4 QK ["ground","name"] (Zx K 2 bR))(a:mg "refuse_no_name"=U (.ref X4))(b:keepIn K (.ref X4)=true)(d:BA K QK ["ground","name"] []):
  ju P w K mg base (Rw P w) 4 Ui Wb ["ground","one","other"] (EE K 3 (nG 3 Ck) D "name"):=by
 refine LY (k:=3) (gx:=Ck) F YE S S λg A outer s H E c e hp=>?_;exact MI (zp (QC G (c.mono (by decide)) S a b d e (aj (ak 0) (aj (ak 1) aA)))) (gX (Mh (DN f (c.mono (by decide)) S a b d (aj (ak 0) (aj (ak 1) aA)))) (zp (QC G (c.mono (by decide)) S a b d e (aj (ak 0) (aj (ak 2) aA)))))
theorem LJ:bB ["_law_ground_here","_law_one","_law_other","_law_due","_law_refused_here","_law_e"] ["_law_ground_here","_law_one","_law_other","_law_due"] (aG qL):=j4
theorem Uj{r:Bx}(h:QF b=U r):b=.z (.bl true)/\r=.z (.bl true):=by
 unfold QF at h;split at h
 ·cases h;exact⟨rfl,rfl⟩
 ·cases h
theorem Uk(F:Bj K "_law_refused" "_law_refused" qL ajJ afb)(G:ju P w K mg base (Rw P w) 4 Ui Wb ["ground","one","other"] (EE K 3 (nG 3 Ck) D "name"))(a3:mg "why_one"=U (.ref Ui))(x:keepIn K (.ref Ui)=true)(a0:BA K Wb ["ground","one","other"] [])
  (a2:mg "FolkError"=U (.ref FE)) (d0:exmOne K (.ref D) (.ref FE)=U true) (c8:uh K D=true) (B:findIn K (.ref D) "name"=U Y) (GO:V7 P w K mg base 1 f_o aep ["_law_e","_law_at"] (NY D 0)) (M:mg "_law_only"=U (.ref f_o)) (a5:keepIn K (.ref f_o)=true) (a1:BA K aep ["_law_e","_law_at"] []):
  ju P w K mg base xu 6 ajJ afb ["_law_ground_here","_law_one","_law_other","_law_due"] (Zx K 4 dM):=by
 refine Bj.ok (k:=5) F LJ (λvs H Q E h=>h.1) λd3 A outer s H vs Q E t d2=>?_;have p:=LJ.nd;have hu:=DY t;have W:∀C,C∈[D]->uh K C=true/\findIn K (.ref C) "name"=U Y:=λC z=>by rw[List.mem_singleton.mp z];exact⟨c8,B⟩
 refine⟨_,(by exact(qP (zV (i:=4) p S (.inl S) Lu) (qP (TC (C:=D) (iv:=5) (f:=Ui) S S p S S S a2 d0 (λa=>Ds (zV (X:=Cx.inX _ a) (i:=4) p S (.inl S) (Kq (TN (X:=Cx.inX _ a) GO (gW.inX (t.mono (by decide)) a) S M a5 a1 (bw (pv 5) (bw Ry d7))) (Rz (Ku (X:=Cx.inX _ a) (of_eq hu) (bz (Cs:=[D]) W (pv 5) S) (pv 3) (cU _)))))) (jY (v:=.ref Ui) S a3 S) G (t.mono (by decide)) x a0 (bw (pv 0) (bw (pv 1) (bw (pv 2) d7)))) (Ds (Kr (pv 4)))))),?_⟩;obtain⟨I,bs,r,c0,no,er,q⟩:=d2;unfold dM at er;split at er
 ·rename_i b0 b1 b2 b3;obtain⟨g,m,n,l,rfl⟩:∃g m n l,vs=[g,m,n,l]:=by
   match vs,I with
   |[g,m,n,l],_=>exact⟨g,m,n,l,rfl⟩
  obtain⟨d,ex,er⟩:=AT er;obtain⟨c,J,er⟩:=AT er;obtain⟨rfl,rfl⟩:=Uj er;have d1:[b0,b1,b2].all (λb=>!l9 b)=true:=by
   simp only[kr,List.all_nil,Zz,Ki]at no ⊢;exact⟨no.1,no.2.1,no.2.2.1⟩
  cases c0 with
  |cons N e=>cases e with
   |cons y e=>cases e with
    |cons r2 e=>cases e with
     |cons r3 e=>
      refine⟨rfl,g,rfl,m,rfl,n,rfl,rfl,[b0,b1,b2],d,.cons N (.cons y (.cons r2 .nil)),d1,ex,XW.of (by decide) λdx v H' s' u r'=>⟨rfl,dx,rfl,λa na=>?_⟩⟩;have j:AV H' (B0 H' a (Yz a D dx)):=bI na;refine⟨.ref a,rfl,rfl,dx,[("name",v)],aU,j _ _ u,λH5 o=>⟨true,rfl,?_⟩⟩;show(if true=true then _ else _);rw[zh rfl];refine⟨.ref a,rfl,a,D,dx,v,List.mem_singleton.mpr rfl,rfl,o _ _ aU,o _ _ (j _ _ u),l,rfl,.z d,b3,.z (.bl true),AW.kp (Kp.of (j.trans o)) r',r3.same ((s'.trans j).trans o),J,λw L s6 _ r6=>?_⟩;exact⟨w,rfl,q w L (((s'.trans j).trans o).trans s6) trivial r6⟩
 ·cases er
end
structure T (K:B4) (mg:Str->Option Value) where
 {D:Addr}
 {FE:Addr}
 {c1:Addr}
 {c2:Addr}
 {c3:Addr}
 {c4:Addr}
 {c5:Addr}
 {c6:Addr}
 aby:mg "FolkError"=some (.ref FE)
 jmC:mg "NoName"=some (.ref D)
 m1:mg "NoText"=some (.ref c1)
 m2:mg "NoReason"=some (.ref c2)
 m3:mg "NoUndo"=some (.ref c3)
 m4:mg "NoRoom"=some (.ref c4)
 m5:mg "NoStep"=some (.ref c5)
 m6:mg "NoRow"=some (.ref c6)
 xJ:IQ K D "NoName.__init__" Uh ["self","name"]
 x_o:DQ K mg "_law_only" sZ ["_law_e","_law_at"]
 hbi:V5 K FE "ValueError.__init__"
 jx:Cc K D xJ.f EI "ValueError.__new__"=true
 alV:Bi K D "name"=true
 jkC:keepIn K (.ref D)=true
 jex:exmOne K (.ref D) (.ref FE)=some true
 ajO:uh K D=true
 jfn:findIn K (.ref D) "name"=some none
 h0:kitOne K (.ref D) (.ref D)=some true
 h1:kitOne K (.ref D) (.ref c1)=some false
 h2:kitOne K (.ref D) (.ref c2)=some false
 h3:kitOne K (.ref D) (.ref c3)=some false
 h4:kitOne K (.ref D) (.ref c4)=some false
 h5:kitOne K (.ref D) (.ref c5)=some false
 h6:kitOne K (.ref D) (.ref c6)=some false
 hF:kitOne K (.ref D) (.ref FE)=some true
 hve:kitOne K (.ref D) (.type "ValueError")=some true
 ahv:mg "ValueError"=none
 fX:DQ K mg "_law_cell" Hf ["_law_script","_law_k"]
 cZ:DQ K mg "_law_numbers" wX ["_law_cell_here","_law_many"]
 qp:DQ K mg "_law_chain" BW ["_law_x","_law_turn","_law_weigh"]
 qt:DQ K mg "_law_names" BX ["_law_xs","_law_many"]
 oh:DQ K mg "_law_ground" zu ["_law_script","_law_at","_law_many","_law_reasons","_law_bars"]
 qu:DQ K mg "_law_drawn" BZ ["_law_script"]
 qw:DQ K mg "_law_parts" Ca ["_law_names_here","_law_reasons"]
 tu:DQ K mg "_law_held" Hg ["_law_names_here","_law_reasons"]
 iz:DQ K mg "_law_way" Kd ["_law_reasons","_law_one","_law_other","_law_ahead"]
 ou:DQ K mg "is_text_of" zx ["thing","signs","longest"]
 jR:DQ K mg "is_name" Ke ["thing"]
 cH:DQ K mg "refuse_no_name" jc ["ground","name"]
 oA:DQ K mg "lone_heads" zy ["names"]
 fV:DQ K mg "join_heads" zA ["heads","one","other"]
 oF:DQ K mg "holding_of" zB ["ground"]
 jT:DQ K mg "other_end" Cd ["reason","name"]
 tB:DQ K mg "way_back" Hh ["came_by","end"]
 zJ:DQ K mg "way_by" QD ["reasons","start","end"]
 iB:DQ K mg "why_one" wB ["ground","one","other"]
 qx:DQ K mg "_law_right" Cg ["_law_ground_here","_law_held_here","_law_one","_law_other"]
 jH:DQ K mg "_law_odd_names" um ["_law_names_here"]
 oG:DQ K mg "_law_signed" zF ["_law_text","_law_place","_law_x"]
 fY:DQ K mg "_law_refused" qL ["_law_ground_here","_law_one","_law_other","_law_due"]
 jh:DQ K mg "_law_odd_beside" q9 ["_law_ground_here","_law_odd","_law_name"]
 x_law:DQ K mg "law" s_law ["_law_script"]
 ajP:mg "abs"=none
 afd:mg "all"=none
 ajQ:mg "any"=none
 QL:mg "enumerate"=none
 abz:mg "int"=none
 cG:mg "isinstance"=none
 zK:mg "len"=none
 Ul:mg "list"=none
 zL:mg "max"=none
 Wc:mg "min"=none
 j7:mg "range"=none
 afe:mg "set"=none
 pB:mg "sorted"=none
 ajR:mg "str"=none
 wH:mg "tuple"=none
 X8:∃tk,mg "LETTERS"=some (.str "abcdefghijklmnopqrstuvwxyz" tk)
 Hj:∃tk,mg "LONGEST_NAME"=some (.int 8 tk)
section
variable(t:T K mg)
theorem QM:bB ["_law_script","_law_k","_law_state","_law_cell_here"] ["_law_script","_law_k"] (aG Hf):=j4
theorem QS:Ok P w base t.fX 1 2 fW:=HY (g:=sU) t.fX QM λ_ _ _ _ _ _ b c a=>(au (gZ (cN ZQ (ak 1) (bK rQ S t.zK rO (aj (ak 0) aA)) (cU _)) (au (c7 (bD (ak 0) (ak 1))) aO) aO) (au (aX 2 a (aQ bO (aQ oY aC (aQ bL (aQ bL (aQ oY (ak 1) (ak 1)) (aQ oY aC (ak 1))) aC)) aC)) (au (qI PassesOwn.never S (DK (nD (ak 0) fu (dR aC))) (bf 3 a) (aY [3] (au (aX 2 a (aQ bO (aQ bL (aQ oY (ak 2) aC) (ak 3)) aC)) aO))) (au (c7 (ak 2)) aO))))
theorem Hl:bB ["_law_cell_here","_law_many","_law_found","_law_state","_law_digits","_law_k"] ["_law_cell_here","_law_many"] (aG wX):=j4
theorem Ho:Ok P w base t.cZ 1 2 cY:=HY (g:=lR) t.cZ Hl λ_ _ _ _ _ _ b c a=>(au (aX 2 a (cP aA)) (au (aX 3 a (aQ bO (aQ oY (aQ bL (aQ bO (ak 0) aC) aC) aC) aC)) (au (aX 4 a aC) (au (gZ (KZ (Fj (cN ZQ (ak 0) aC (cU _)) (yx (cN R' (ak 0) (aQ US aC aC) (cU _))))) (aY [] (au (aX 4 a (bK Si S t.ajP X' (aj (ak 0) aA))) aO)) (aY [] aO)) (au (qI PassesOwn.never S (lZ S t.j7 (aj (ak 1) aA)) (bf 5 a) (aY [5] (au (aX 3 a (aQ bO (aQ bL (aQ bL (aQ oY (ak 3) (aQ bL (aQ bO (ak 3) aC) aC)) (aQ oY aC (ak 5))) aC) aC)) (au (oW 2 (bD (cP (aj (ak 3) (aj (aQ bO (ak 4) aC) aA))) (gA Sy S t.abz Sv (aj (qF NA (ak 4) aC (cU _)) aA)))) (au (aX 4 a (aQ rN (ak 4) aC)) aO))))) (au (yC 2) aO))))))
theorem MP:bB ["_law_x","_law_turn","_law_weigh","_law_letters","_law_names_here","_law_order","_law_some","_law_k","_law_a","_law_b","_law_weight"] ["_law_x","_law_turn","_law_weigh"] (aG BW):=j4
theorem M4:Ok P w base t.qp 1 3 pX:=HY (g:=pW) t.qp MP λ_ _ _ _ _ _ b c a=>(au (aX 3 a lC) (au (aX 4 a (iY ["_law_k"] (uD ["_law_letters"] [3]) S (Sd (lZ S t.j7 (aj aC aA))) (λ_ _ _ _=>(bf 1 (by show List.Nodup (_++_);decide +kernel))) (λ_ _ _ _=>cV) (λ_ _ _ _=>(aQ oY (bD (ak 0) (aQ rN (ak 1) aC)) (aQ bL aC (aQ bO (ak 1) aC)))) (cW))) (au (K6 5 ["_law_k"] (uD ["_law_names_here","_law_turn"] [4,1]) S a (Sd (lZ S t.j7 (aj aC aA))) (λ_ _ _ _=>(bf 2 (by show List.Nodup (_++_);decide +kernel))) (λ_ _ _ _=>cV) (λ_ _ _ _=>(bD (ak 0) (aQ bO (aQ bL (aQ oY aC (ak 2)) (ak 1)) aC))) (cW)) (au (aX 6 a (cP aA)) (au (qI PassesOwn.never S (lZ S t.j7 (aj (aQ bL aC (aQ bO (ak 0) aC)) aA)) (bf 7 a) (aY [7,8,9,10] (au (R7 8 9 S a (aj (bD (ak 5) (ak 7)) (aj (bD (ak 5) (aQ bO (aQ bL (ak 7) aC) aC)) aA))) (au (aX 10 a (bD (cP (aj aC (aj (aQ FZ aC (ak 7)) (aj (fM (aQ bL aC (ak 7))) (aj (fM (aQ bL aC (aQ bO (aQ oY (ak 7) (ak 7)) aC))) aA))))) (aQ bO (ak 2) aC))) (au (oW 6 (qG (aj (aQ FZ aC (ak 10)) (aj (fM (bK (Vz S) S t.Wc Ld (aj (ak 8) (aj (ak 9) aA)))) (aj (fM (bK (Pl S) S t.zL rP (aj (ak 8) (aj (ak 9) aA)))) (aj (aQ bO (ak 7) aC) aA)))))) aO))))) (au (c7 (qG (aj (gA qY S t.wH qW (aj (bK Af S t.pB qX (aj (ak 4) aA)) aA)) (aj (gA qY S t.wH qW (aj (iY ["_law_weight","_law_a","_law_b","_law_k"] (uD [] []) S (iI (bK Pn S t.pB qX (aj (ak 6) aA))) (λ_ _ _ _=>(Fy S (dO (bf 0 (by show List.Nodup (_++_);decide +kernel)) (dO (bf 1 (by show List.Nodup (_++_);decide +kernel)) (dO (bf 2 (by show List.Nodup (_++_);decide +kernel)) (dO (bf 3 (by show List.Nodup (_++_);decide +kernel)) yD)))))) (λ_ _ _ _=>cV) (λ_ _ _ _=>(qG (aj (aQ FZ aC (ak 0)) (aj (ak 1) (aj (ak 2) (aj (ak 3) aA)))))) (Zo (mj (cW) (mj (cW) (mj (cW) (mj (cW) Ve)))))) aA)) (aj (qG aA) aA))))) aO))))))
theorem M5:bB ["_law_xs","_law_many","_law_letters","_law_stem","_law_at","_law_found","_law_k","_law_mark","_law_name"] ["_law_xs","_law_many"] (aG BX):=j4
theorem M6:Ok P w base t.qt 1 2 mH:=HY (g:=pY) t.qt M5 λ_ _ _ _ _ _ c b a=>(au (aX 2 a lC) (au (aX 3 a (Sf (iY ["_law_k"] (uD ["_law_letters","_law_xs"] [2,0]) S (Sd (lZ S t.j7 (aj (aQ bO (bD (ak 0) aC) aC) aA))) (λ_ _ _ _=>(bf 2 (by show List.Nodup (_++_);decide +kernel))) (λ_ _ _ _=>cV) (λ_ _ _ _=>(bD (ak 0) (aQ bO (aQ rN (bD (ak 1) (ak 2)) aC) aC))) (cW)))) (au (aX 4 a (aQ bO (bD (ak 0) aC) (aQ bL (bK rQ S t.zK rO (aj (ak 3) aA)) aC))) (au (aX 5 a (cP aA)) (au (qI PassesOwn.never S (lZ S t.j7 (aj (ak 1) aA)) (bf 6 a) (aY [6,7,8] (au (aX 7 a (bD (ak 2) (aQ bO (aQ bL (ak 6) (bD (ak 0) aC)) aC))) (au (aX 8 a (aQ bL (aQ bL (nD (ak 3) fu (dR (ak 4))) (ak 7)) (nD (ak 3) (dR (ak 4)) fu))) (au (gZ (cN (of_eq b) (aQ bO (bD (ak 0) aC) aC) aC (cU _)) (aY [] (au (aX 8 a (aQ oY (bD (ak 2) (aQ rN (ak 6) aC)) (aQ bL aC (aQ bO (ak 6) aC)))) aO)) (aY [] aO)) (au (oW 5 (ak 8)) aO)))))) (au (yC 5) aO))))))
theorem Iw:bB ["_law_script","_law_at","_law_many","_law_reasons","_law_bars","_law_head","_law_names_here","_law_told","_law_k","_law_xs","_law_a","_law_b","_law_weight","_law_found","_law_shut"] ["_law_script","_law_at","_law_many","_law_reasons","_law_bars"] (aG zu):=j4
theorem Iz(d:Ok P w base t.fX 1 2 fW)(f:Ok P w base t.qt 1 2 mH)(e:Ok P w base t.cZ 1 2 cY):Ok P w base t.oh 2 5 nO:=HY (g:=nM) t.oh Iw λ_ _ _ _ _ _ b c a=>(au (aX 5 a (dF t.cZ e b (aj (fM (dF t.fX d b (aj (ak 0) (aj (ak 1) aA)))) (aj aC aA)))) (au (aX 6 a (bK Af S t.pB qX (aj (dF t.qt f b (aj (ak 5) (aj (ak 2) aA))) aA))) (au (aX 7 a (cP aA)) (au (qI PassesOwn.never S (lZ S t.j7 (aj (ak 3) aA)) (bf 8 a) (aY [8,9,10,11,12] (au (aX 9 a (dF t.cZ e b (aj (fM (dF t.fX d b (aj (ak 0) (aj (fM (aQ bL (aQ bL (ak 1) aC) (ak 8))) aA)))) (aj aC aA)))) (au (R7 10 11 S a (aj (aQ bO (bD (ak 9) aC) (bK (uX S) S t.zL rP (aj aC (aj (ak 2) aA)))) (aj (aQ bO (bD (ak 9) aC) (bK (uX S) S t.zL rP (aj aC (aj (ak 2) aA)))) aA))) (au (aX 12 a (bD (cP (aj (fM (aQ bL aC (aQ bO (bD (ak 9) aC) aC))) (aj (fM (aQ bL aC (aQ bO (bD (ak 9) aC) aC))) (aj (fM (aQ bL aC (aQ bO (bD (ak 9) aC) aC))) aA)))) (aQ bO (bD (ak 5) aC) aC))) (au (gZ (cN (FT c) (ak 10) (ak 11) (cU _)) (aY [] (au (oW 7 (qG (aj (aQ FZ aC (ak 12)) (aj (bD (ak 6) (bK (ZV S) S t.Wc Ld (aj (ak 10) (aj (ak 11) aA)))) (aj (bD (ak 6) (bK (uX S) S t.zL rP (aj (ak 10) (aj (ak 11) aA)))) (aj (bD (cP (aj aC (aj aC (aj aC aA)))) (aQ bO (bD (ak 9) aC) aC)) aA)))))) aO)) (aY [] aO)) aO)))))) (au (K6 13 ["_law_weight","_law_a","_law_b","_law_k"] (uD [] []) S a (iI (Vx S S t.pB (Vw S c S t.afe (ak 7)))) (λ_ _ _ _=>(Fy S (dO (bf 0 (by show List.Nodup (_++_);decide +kernel)) (dO (bf 1 (by show List.Nodup (_++_);decide +kernel)) (dO (bf 2 (by show List.Nodup (_++_);decide +kernel)) (dO (bf 3 (by show List.Nodup (_++_);decide +kernel)) yD)))))) (λ_ _ _ _=>cV) (λ_ _ _ _=>(qG (aj (aQ FZ aC (ak 0)) (aj (ak 1) (aj (ak 2) (aj (ak 3) aA)))))) (Zo (mj (cW) (mj (cW) (mj (cW) (mj (cW) Ve)))))) (au (aX 14 a (cP aA)) (au (qI PassesOwn.never S (lZ S t.j7 (aj (ak 4) aA)) (bf 8 a) (aY [8,9,10,11] (au (aX 9 a (dF t.cZ e b (aj (fM (dF t.fX d b (aj (ak 0) (aj (fM (aQ bL (aQ bL (ak 1) aC) (ak 8))) aA)))) (aj aC aA)))) (au (R7 10 11 S a (aj (aQ bO (bD (ak 9) aC) (bK (uX S) S t.zL rP (aj aC (aj (ak 2) aA)))) (aj (aQ bO (bD (ak 9) aC) (bK (uX S) S t.zL rP (aj aC (aj (ak 2) aA)))) aA))) (au (gZ (cN (FT c) (ak 10) (ak 11) (cU _)) (aY [] (au (oW 14 (qG (aj (bD (ak 6) (bK (ZV S) S t.Wc Ld (aj (ak 10) (aj (ak 11) aA)))) (aj (bD (ak 6) (bK (uX S) S t.zL rP (aj (ak 10) (aj (ak 11) aA)))) (aj (bD (cP (aj aC (aj aC aA))) (aQ bO (bD (ak 9) aC) aC)) aA))))) aO)) (aY [] aO)) aO))))) (au (c7 (qG (aj (gA qY S t.wH qW (aj (ak 6) aA)) (aj (gA qY S t.wH qW (aj (ak 13) aA)) (aj (gA qY S t.wH qW (aj (Vx S S t.pB (Vw S c S t.afe (ak 14))) aA)) aA))))) aO))))))))
theorem M7:bB ["_law_script","_law_head","_law_many"] ["_law_script"] (aG BZ):=j4
theorem M8(c:Ok P w base t.fX 1 2 fW)(f:Ok P w base t.qp 1 3 pX)(d:Ok P w base t.oh 2 5 nO)(e:Ok P w base t.cZ 1 2 cY):Ok P w base t.qu 3 1 qb:=HY (g:=pZ) t.qu M7 λ_ _ _ _ _ _ a h b=>(au (aX 1 b (dF t.cZ e a (aj (fM (dF t.fX c a (aj (ak 0) (aj aC aA)))) (aj aC aA)))) (au (gZ (cN (of_eq h) (aQ bO (bD (ak 1) aC) aC) aC (cU _)) (au (c7 (dF t.qp f a (aj (aQ rN (bD (ak 1) aC) aC) (aj (bD (ak 1) aC) (aj (bD (ak 1) aC) aA))))) aO) aO) (au (aX 2 b (aQ bO (bD (ak 1) aC) aC)) (au (c7 (dF t.oh d a (aj (ak 0) (aj aC (aj (ak 2) (aj (aQ bO (bD (ak 1) aC) aC) (aj (aQ bO (bD (ak 1) aC) aC) aA))))))) aO))))
theorem M9:bB ["_law_names_here","_law_reasons","_law_found","_law_weight","_law_a","_law_b","_law_k","_law_one","_law_other"] ["_law_names_here","_law_reasons"] (aG Ca):=j4
theorem Nb:Ok P w base t.qw 1 2 qe:=HY (g:=qd) t.qw M9 λ_ _ _ _ _ _ c b a=>(au (K6 2 ["_law_name"] (uD [] []) S a (iI (ak 0)) (λ_ _ _ _=>(bf 0 (by show List.Nodup (_++_);decide +kernel))) (λ_ _ _ _=>cV) (λ_ _ _ _=>(fM (cP (aj (ak 0) aA)))) (cW)) (au (yF 1 PassesOwn.never S (Fy S (dO (bf 3 a) (dO (bf 4 a) (dO (bf 5 a) (dO (bf 6 a) yD))))) (aY [3,4,5,6,7,8] (au (aX 7 a (bD (iY ["_law_part"] (uD ["_law_a"] [4]) S (iI (ak 2)) (λ_ _ _ _=>(bf 1 (by show List.Nodup (_++_);decide +kernel))) (λ_ _ _ _=>(xO (cN JK (ak 0) (ak 1) (by with_unfolding_all rfl)))) (λ_ _ _ _=>(ak 1)) (cW)) aC)) (au (aX 8 a (bD (iY ["_law_part"] (uD ["_law_b"] [5]) S (iI (ak 2)) (λ_ _ _ _=>(bf 1 (by show List.Nodup (_++_);decide +kernel))) (λ_ _ _ _=>(xO (cN JK (ak 0) (ak 1) (by with_unfolding_all rfl)))) (λ_ _ _ _=>(ak 1)) (cW)) aC)) (au (gZ (cN (FT b) (ak 7) (ak 8) (cU _)) (aY [] (au (aX 2 a (aQ bL (iY ["_law_part"] (uD ["_law_one","_law_other"] [7,8]) S (iI (ak 2)) (λ_ _ _ _=>(bf 2 (by show List.Nodup (_++_);decide +kernel))) (λ_ _ _ _=>(xO (cN (Mg b) (ak 2) (cP (aj (ak 0) (aj (ak 1) aA))) (by with_unfolding_all rfl)))) (λ_ _ _ _=>(ak 2)) (cW)) (cP (aj (fM (bK Af S t.pB qX (aj (aQ bL (ak 7) (ak 8)) aA))) aA)))) aO)) (aY [] aO)) aO))))) (au (c7 (bK Pn S t.pB qX (aj (iY ["_law_part"] (uD [] []) S (iI (ak 2)) (λ_ _ _ _=>(bf 0 (by show List.Nodup (_++_);decide +kernel))) (λ_ _ _ _=>cV) (λ_ _ _ _=>(gA qY S t.wH qW (aj (ak 0) aA))) (cW)) aA))) aO)))
theorem QT:bB ["_law_names_here","_law_reasons","_law_found","_law_reason","_law_parts_here"] ["_law_names_here","_law_reasons"] (aG Hg):=j4
theorem QW(b:Ok P w base t.qw 1 2 qe):Ok P w base t.tu 2 2 sW:=HY (g:=sV) t.tu QT λ_ _ _ _ _ _ c d a=>(au (aX 2 a (cP aA)) (au (yF 1 PassesOwn.never S (bf 3 a) (aY [3,4] (au (aX 4 a (dF t.qw b c (aj (ak 0) (aj (ak 2) aA)))) (au (gZ (xG (uP (bK (YR S) S t.ajQ fF (aj (iY ["_law_part"] (uD ["_law_reason"] [3]) S (iI (ak 4)) (λ_ _ _ _=>(bf 1 (by show List.Nodup (_++_);decide +kernel))) (λ_ _ _ _=>cV) (λ_ _ _ _=>(Fl (qF JK (bD (ak 0) aC) (ak 1) (by with_unfolding_all rfl)) (K1 (qF JK (bD (ak 0) aC) (ak 1) (by with_unfolding_all rfl))))) (cW)) aA)))) (aY [] (au (oW 2 (ak 3)) aO)) (aY [] aO)) aO)))) (au (yC 2) aO)))
theorem xY:bB ["_law_reasons","_law_one","_law_other","_law_ahead","_law_reason","_law_there","_law_more"] ["_law_reasons","_law_one","_law_other","_law_ahead"] (aG Kd):=j4
theorem Cp:∀n:Nat,ju P w K mg base xu (n+1) t.iz.f t.iz.fd ["_law_reasons","_law_one","_law_other","_law_ahead"] (Zx K 4 (iw n))
 |0=>NN (k:=0+0) (g:=λ_=>Y) t.iz.F xY S S λh A outer s H E c=>ZP
 |n+1=>by
  have e:=Cp n;rw[show n+1+1=(n+1)+1 by omega];refine MY (k:=n+1) (g:=wD (iw n)) t.iz.F xY S S λh A outer s H E c=>?_;have d:=DY c;have a:=xY.nd;exact(au (gZ (cN (of_eq d) (ak 1) (ak 2) (cU _)) (au (c7 (fM (cP aA))) aO) aO) (au (yF 0 PassesOwn.never S (bf 4 a) (aY [4,5,6] (au (gZ (KZ (DG (cN (Mg d) (ak 4) (ak 3) (by with_unfolding_all rfl)) (yw (cN JK (ak 1) (nD (ak 4) (dR aC) (dR aC)) (by with_unfolding_all rfl))))) (au (aX 5 a (bD (ak 4) (aQ bL aC (gA Sy S t.abz Sv (aj (qF (of_eq d) (bD (ak 4) aC) (ak 1) (cU _)) aA))))) (au (aX 6 a (DN e (c.mono (by omega)) S t.iz.m t.iz.k t.iz.b (aj (ak 0) (aj (ak 5) (aj (ak 2) (aj (fM (aQ bL (ak 3) (cP (aj (ak 4) aA)))) aA)))))) (au (gZ (cN DX (ak 6) mQ (cU _)) (au (c7 (fM (aQ bL (cP (aj (ak 4) aA)) (ak 6)))) aO) aO) aO))) aO) aO))) (au (c7 mQ) aO)))
theorem Um:Ok P w base t.iz 33 4 rz:=Cp t fuel
theorem IK:bB ["thing","signs","longest"] ["thing","signs","longest"] (aG zx):=j4
theorem IV:Ok P w base t.ou 1 3 nQ:=HY (g:=nP) t.ou IK λ_ _ _ _ _ _ c b a=>(au (c7 (Fl (Sw (ak 0) S t.cG S t.ajR) (Fl (Ze DJ DJ aC (bK rQ S t.zK rO (aj (ak 0) aA)) (ak 2)) (K1 (bK (ZL S) S t.afd ZF (aj (iY ["sign"] (uD ["signs"] [1]) S (iI (ak 0)) (λ_ _ _ _=>(bf 1 (by show List.Nodup (_++_);decide +kernel))) (λ_ _ _ _=>cV) (λ_ _ _ _=>(qF JK (ak 1) (ak 0) (by with_unfolding_all rfl))) (cW)) aA)))))) aO)
theorem Uo:bB ["thing"] ["thing"] (aG Ke):=j4
theorem Uq(a:Ok P w base t.ou 1 3 nQ):Ok P w base t.jR 2 1 lG:=HY (g:=wF) t.jR Uo λ_ _ _ _ _ _ c i e=>by
 obtain⟨h,b⟩:=t.X8;obtain⟨f,d⟩:=t.Hj;exact(au (c7 (dF t.ou a c (aj (ak 0) (aj (Zh S b) (aj (Zg S d) aA))))) aO)
theorem zM:bB ["ground","name"] ["ground","name"] (aG jc):=j4
theorem qy(a:Ok P w base t.jR 2 1 lG):Ok P w base t.cH 3 2 bR:=HY (g:=jd) t.cH zM λ_ _ _ _ _ _ b d c=>(aY [] (au (gZ (KZ (Fj (xG (uP (dF t.jR a b (aj (ak 1) aA)))) (yx (cN O2 (ak 1) (bD (ak 0) aC) (by with_unfolding_all rfl))))) (au adN aO) aO) aO))
theorem IW:bB ["names"] ["names"] (aG zy):=j4
theorem Ja:Ok P w base t.oA 1 1 nU:=HY (g:=nR) t.oA IW λ_ _ _ _ _ _ b a c=>(au (c7 (bp a ["name"] (uD [] []) S (iI (ak 0)) (λ_ _ _ _=>(bf 0 (by show List.Nodup (_++_);decide +kernel))) (λ_ _ _ _=>cV) (λ_ _ _ _=>(ak 0)) (λ_ _ _ _=>(ak 0)) (cW))) aO)
theorem w6:bB ["heads","one","other","head","name"] ["heads","one","other"] (aG zA):=j4
theorem Jb:ju P w K mg base xu 1 t.fV.f t.fV.fd ["heads","one","other"] (Fk K 2 j6):=by
 unfold j6;refine fq (k:=0) (g:=nW) t.fV.F w6 S S λd A outer s H E c=>?_;have a:=DY c;have b:=w6.nd;exact(aY [3,4] (au (aX 3 b (bK (Vz S) S t.Wc Ld (aj (ak 1) (aj (ak 2) aA)))) (au (qI PassesOwn.never S (DK (gA (ff S) S t.Ul Lb (aj (ak 0) aA))) (bf 4 b) (aY [4] (au (gZ (KZ (Fj (cN (of_eq a) (rW a (ak 0) (ak 4)) (ak 1) (cU _)) (yx (cN (of_eq a) (rW a (ak 0) (ak 4)) (ak 2) (cU _))))) (aY [] (au (Vl 0 a (ak 3) (ak 4)) aO)) (aY [] aO)) aO))) aO)))
theorem Jc:bB ["ground","names","reasons","bars","heads","holding","reason","one","other"] ["ground"] (aG zB):=j4
theorem Jd(e:ju P w K mg base xu 1 t.fV.f t.fV.fd ["heads","one","other"] (Fk K 2 j6))(h:Ok P w base t.oA 1 1 nU):Ok P w base t.oF 2 1 nZ:=HY (g:=nY) t.oF Jc λ_ _ _ _ _ _ d c a=>(au (Pw (ak 0) (Fy S (dO (bf 1 a) (dO (bf 2 a) (dO (bf 3 a) yD))))) (au (aX 4 a (dF t.oA h d (aj (ak 1) aA))) (au (aX 5 a (cP aA)) (au (yF 2 PassesOwn.never S (bf 6 a) (aY [6,7,8] (au (aX 7 a (rW c (ak 4) (bD (ak 6) aC))) (au (aX 8 a (rW c (ak 4) (bD (ak 6) aC))) (au (gZ (cN (FT c) (ak 7) (ak 8) (cU _)) (aY [] (au (T1 4 e (d.mono (by decide)) S t.fV.m t.fV.k t.fV.b (aj (ak 7) (aj (ak 8) aA))) (au (oW 5 (ak 6)) aO))) (aY [] aO)) aO))))) (au (yC 5) aO)))))
theorem Nf:bB ["reason","name"] ["reason","name"] (aG Cd):=j4
theorem Ng:Ok P w base t.jT 1 2 jQ:=HY (g:=qg) t.jT Nf λ_ _ _ _ _ _ b a c=>(au (gZ (cN (of_eq a) (bD (ak 0) aC) (ak 1) (cU _)) (au (c7 (bD (ak 0) aC)) aO) aO) (au (gZ (cN (of_eq a) (bD (ak 0) aC) (ak 1) (cU _)) (au (c7 (bD (ak 0) aC)) aO) aO) (au (c7 mQ) aO)))
theorem QX:bB ["came_by","end","way","here"] ["came_by","end"] (aG Hh):=j4
theorem QZ(c:Ok P w base t.jT 1 2 jQ):Ok P w base t.tB 2 2 sY:=HY (g:=sX) t.tB QX λ_ _ _ _ _ _ d a b=>(au (aX 2 b (cP aA)) (au (aX 3 b (ak 1)) (au (Qi 70 PassesOwn.never (cN DX (rW a (ak 0) (ak 3)) mQ (cU _)) (aY [] (au (oW 2 (rW a (ak 0) (ak 3))) (au (aX 3 b (dF t.jT c d (aj (rW a (ak 0) (ak 3)) (aj (ak 3) aA)))) aO)))) (au (yC 2) aO))))
theorem Yc:bB ["reasons","start","end","came_by","reached","here","reason","there"] ["reasons","start","end"] (aG QD):=j4
theorem Yd(e:Ok P w base t.jT 1 2 jQ)(d:Ok P w base t.tB 2 2 sY):Ok P w base t.zJ 3 3 zH:=HY (g:=zG) t.zJ Yc λ_ _ _ _ _ _ c b a=>(au (aX 3 a (YV (ak 1) mQ)) (au (aX 4 a (cP (aj (ak 1) aA))) (au (Qi 70 PassesOwn.never (uP (ak 4)) (aY [5,6,7] (au (XA 5 4 a aC) (au (yF 0 PassesOwn.never S (bf 6 a) (aY [6,7] (au (aX 7 a (dF t.jT e c (aj (ak 6) (aj (ak 5) aA)))) (au (gZ (KZ (DG (cN DX (ak 7) mQ (cU _)) (yw (cN (VF b) (ak 7) (ak 3) (by with_unfolding_all rfl))))) (aY [] (au (Vl 3 b (ak 6) (ak 7)) (au (oW 4 (ak 7)) aO))) (aY [] aO)) aO)))) aO)))) (au (gZ (cN (VF b) (ak 2) (ak 3) (by with_unfolding_all rfl)) (au (c7 mQ) aO) aO) (au (c7 (VG (dF t.tB d c (aj (ak 3) (aj (ak 2) aA))) (NC Zy aC))) aO)))))
theorem Ur:bB ["ground","one","other"] ["ground","one","other"] (aG wB):=j4
theorem Us(c:Ok P w base t.oF 2 1 nZ)(b:Ok P w base t.cH 3 2 bR)(d:Ok P w base t.zJ 3 3 zH):Ok P w base t.iB 4 3 oU:=HY (g:=wG) t.iB Ur λ_ _ _ _ _ _ a f e=>(au (Mh (dF t.cH b a (aj (ak 0) (aj (ak 1) aA)))) (au (Mh (dF t.cH b a (aj (ak 0) (aj (ak 2) aA)))) (au (c7 (dF t.zJ d a (aj (fM (dF t.oF c a (aj (ak 0) aA))) (aj (ak 1) (aj (ak 2) aA))))) aO)))
theorem Nh:bB ["_law_ground_here","_law_held_here","_law_one","_law_other","_law_due","_law_found","_law_back"] ["_law_ground_here","_law_held_here","_law_one","_law_other"] (aG Cg):=j4
theorem Ni(e:Ok P w base t.iz 33 4 rz)(c:Ok P w base t.iB 4 3 oU):Ok P w base t.qx 34 4 qm:=HY (g:=qj) t.qx Nh λ_ _ _ _ _ _ a d b=>(au (aX 4 b (dF t.iz e a (aj (ak 1) (aj (ak 2) (aj (ak 3) (aj (fM (cP aA)) aA)))))) (au (aX 5 b (dF t.iB c a (aj (ak 0) (aj (ak 2) (aj (ak 3) aA))))) (au (gZ (KZ (Fj (cN (FT d) (ak 5) (ak 4) (cU _)) (yx (KZ (DG (cN DX (ak 4) mQ (cU _)) (yw (xG (uP (O4 (ak 5) S t.cG S t.Ul))))))))) (au (c7 JB) aO) aO) (au (aX 6 b (dF t.iB c a (aj (ak 0) (aj (ak 3) (aj (ak 2) aA))))) (au (gZ (cN DT (ak 4) mQ (cU _)) (au (c7 (qF DT (ak 6) mQ (cU _))) aO) aO) (au (oW 5 mQ) (au (c7 (Fl (qF (of_eq d) (ak 6) (VG (ak 4) (NC Zy aC)) (cU _)) (K1 (qF (of_eq d) (dF t.iB c a (aj (ak 0) (aj (ak 2) (aj (ak 3) aA)))) (ak 4) (cU _))))) aO)))))))
theorem Ar:bB ["_law_names_here","_law_found"] ["_law_names_here"] (aG um):=j4
theorem Av:Ok P w base t.jH 1 1 jG:=HY (g:=jF) t.jH Ar λ_ _ _ _ _ _ b c a=>(au (aX 1 a (cP (aj mQ (aj JB (aj aC (aj lC (aj lC (aj (fM (cP (aj lC aA))) (aj bq (aj (qG (aj lC aA)) (aj lC (aj aC aA)))))))))))) (au (c7 (aQ bL (aQ bL (ak 1) (iY ["_law_name"] (uD [] []) S (iI (nD (ak 0) fu (dR aC))) (λ_ _ _ _=>(bf 0 (by show List.Nodup (_++_);decide +kernel))) (λ_ _ _ _=>cV) (λ_ _ _ _=>(fM (aQ bL (ak 0) lC))) (cW))) (iY ["_law_name"] (uD [] []) S (iI (nD (ak 0) fu (dR aC))) (λ_ _ _ _=>(bf 0 (by show List.Nodup (_++_);decide +kernel))) (λ_ _ _ _=>cV) (λ_ _ _ _=>(fM (cP (aj (ak 0) aA)))) (cW)))) aO))
theorem Je:bB ["_law_text","_law_place","_law_x","_law_signs","_law_sign","_law_at"] ["_law_text","_law_place","_law_x"] (aG zF):=j4
theorem Jf:Ok P w base t.oG 1 3 n8:=HY (g:=n6) t.oG Je λ_ _ _ _ _ _ b c a=>(au (aX 3 a lC) (au (aX 3 a (aQ bL (ak 3) lC)) (au (aX 4 a (bD (ak 3) (aQ bO (aQ rN (ak 2) aC) (bD (cP (aj aC (aj aC aA))) (aQ bO (aQ rN (ak 2) aC) aC))))) (au (aX 5 a (aQ bO (ak 1) (aQ bL (bK rQ S t.zK rO (aj (ak 0) aA)) aC))) (au (c7 (bD (cP (aj (fM (aQ bL (aQ bL (nD (ak 0) fu (dR (ak 5))) (ak 4)) (nD (ak 0) (dR (ak 5)) fu))) (aj (fM (aQ bL (aQ bL (nD (ak 0) fu (dR (ak 5))) (ak 4)) (nD (ak 0) (dR (aQ bL (ak 5) aC)) fu))) (aj (fM (aQ bL (nD (ak 0) fu (dR (ak 5))) (nD (ak 0) (dR (aQ bL (ak 5) aC)) fu))) aA)))) (aQ bO (ak 2) aC))) aO)))))
theorem Ht(a:Ok P w base t.jR 2 1 lG):Ok P w base t.fY 6 4 dM:=
 Uk t.fY.F (UH t.iB.F (WO t.cH.F a t.jR.m t.jR.k t.jR.b t.jx t.jkC (ba t.xJ.F t.jx t.alV t.aby t.hbi) t.xJ.b t.jmC) (qy t a) t.cH.m t.cH.k t.cH.b) t.iB.m t.iB.k t.iB.b t.aby t.jex t.ajO t.jfn
  (ag t.x_o.F t.ajO t.jmC t.m1 t.m2 t.m3 t.m4 t.m5 t.m6 t.aby t.h0 t.h1 t.h2 t.h3 t.h4 t.h5 t.h6 t.hF t.hve t.cG t.ahv t.j7) t.x_o.m t.x_o.k t.x_o.b
theorem zN:bB ["_law_ground_here","_law_odd","_law_name"] ["_law_ground_here","_law_odd","_law_name"] (aG q9):=j4
theorem zO(b:Ok P w base t.fY 6 4 dM):Ok P w base t.jh 7 3 jf:=HY (g:=je) t.jh zN λ_ _ _ _ _ _ a d c=>(au (c7 (Fl (dF t.fY b a (aj (ak 0) (aj (ak 1) (aj (ak 2) (aj (ak 1) aA))))) (K1 (dF t.fY b a (aj (ak 0) (aj (ak 2) (aj (ak 1) (aj (ak 1) aA)))))))) aO)
theorem bP:bB ["_law_script","_law_ground_here","_law_names_here","_law_held_here","_law_xs","_law_at","_law_most","_law_pairs","_law_one","_law_odds","_law_k","_law_odd","_law_later","_law_second","_law_beside"] ["_law_script"] (aG s_law):=j4
theorem eg(h:Ok P w base t.fX 1 2 fW)(f:Ok P w base t.qu 3 1 qb)(n:Ok P w base t.tu 2 2 sW)(l:Ok P w base t.cZ 1 2 cY)(j:Ok P w base t.jh 7 3 jf)(m:Ok P w base t.jH 1 1 jG)(e:Ok P w base t.fY 6 4 dM)(d:Ok P w base t.qx 34 4 qm)(o:Ok P w base t.oG 1 3 n8):Ok P w base t.x_law 35 1 F_law:=HY (g:=V9) t.x_law bP λ_ _ _ _ _ _ b c a=>(au (aX 1 a (dF t.qu f b (aj (ak 0) aA))) (au (aX 2 a (gA P8 S t.Ul Lb (aj (bD (ak 1) aC) aA))) (au (aX 3 a (dF t.tu n b (aj (bD (ak 1) aC) (aj (bD (ak 1) aC) aA)))) (au (aX 4 a (nD (dF t.cZ l b (aj (fM (dF t.fX h b (aj (ak 0) (aj aC aA)))) (aj aC aA))) (dR aC) fu)) (au (aX 5 a (aQ bO (bD (ak 4) aC) (bK (uX S) S t.zL rP (aj aC (aj (bK rQ S t.zK rO (aj (ak 2) aA)) aA))))) (au (aX 6 a (bD (cP (aj aC (aj aC aA))) (gA Sy S t.abz Sv (aj (qF NA (bK rQ S t.zK rO (aj (ak 2) aA)) aC (cU _)) aA)))) (au (aX 7 a (cP aA)) (au (qI PassesOwn.never S (DK (aQ bL (nD (ak 2) (dR (ak 5)) fu) (nD (ak 2) fu (dR (ak 5))))) (bf 8 a) (aY [8] (au (Se 7 (iY ["_law_other"] (uD ["_law_one"] [8]) S (iI (ak 2)) (λ_ _ _ _=>(bf 1 (by show List.Nodup (_++_);decide +kernel))) (λ_ _ _ _=>cV) (λ_ _ _ _=>(qG (aj (ak 0) (aj (ak 1) aA)))) (cW))) aO))) (au (gZ (xG (uP (bK (ZL S) S t.afd ZF (aj (iY ["_law_pair"] (uD ["_law_ground_here","_law_held_here"] [1,3]) S (iI (nD (ak 7) fu (dR (ak 6)))) (λ_ _ _ _=>(bf 2 (by show List.Nodup (_++_);decide +kernel))) (λ_ _ _ _=>cV) (λ_ _ _ _=>(fM (dF t.qx d b (aj (ak 0) (aj (ak 1) (aj (bD (ak 2) aC) (aj (bD (ak 2) aC) aA))))))) (cW)) aA)))) (au (c7 JB) aO) aO) (au (aX 9 a (dF t.jH m b (aj (ak 2) aA))) (au (gZ (cN (FT c) (ak 2) (cP aA) (cU _)) (aY [] (au (oW 9 (fM (dF t.oG o b (aj (bD (ak 2) (aQ bO (bD (ak 4) aC) (bK rQ S t.zK rO (aj (ak 2) aA)))) (aj (bD (ak 4) aC) (aj (bD (ak 4) aC) aA)))))) aO)) (aY [] aO)) (bj (i:=9) (au (qI PassesOwn.never S (gS S t.QL (aj (ak 9) aA)) (Fy S (dO (bf 10 a) (dO (bf 11 a) yD))) (aY [10,11,12,13,14] (au (gZ (cN (Mg c) (ak 11) (ak 2) (by with_unfolding_all rfl)) (au (aX 12 a (bD (ak 9) (aQ bO (aQ bL (aQ bL (ak 10) aC) (aQ bO (bD (ak 4) aC) aC)) (bK rQ S t.zK rO (aj (ak 9) aA))))) (au (qI PassesOwn.never S (DK (cP (aj lC (aj (ak 11) (aj (ak 12) aA))))) (bf 13 a) (aY [13] (au (gZ (xG (uP (dF t.fY e b (aj (ak 1) (aj (ak 11) (aj (ak 13) (aj (ak 11) aA))))))) (au (c7 JB) aO) aO) aO))) (au (aX 14 a (bD (aQ bL (ak 2) (cP (aj lC aA))) (aQ bO (bD (ak 4) aC) (bK (uX S) S t.zL rP (aj aC (aj (bK rQ S t.zK rO (aj (ak 2) aA)) aA)))))) (au (gZ (KZ (DG (cN (FT c) (ak 2) (cP aA) (cU _)) (yw (xG (uP (dF t.jh j b (aj (ak 1) (aj (ak 11) (aj (ak 14) aA))))))))) (au (c7 JB) aO) aO) aO)))) aO) aO))) (au (c7 JB) aO))))))))))))))
theorem EG:Ok P w base t.x_law 35 1 F_law:=by
 have a:=QS (P:=P) (w:=w) (base:=base) t;have b:=Ho (P:=P) (w:=w) (base:=base) t;have n:=M4 (P:=P) (w:=w) (base:=base) t;have l:=M6 (P:=P) (w:=w) (base:=base) t;have h:=Iz (P:=P) (w:=w) (base:=base) t a l b;have y:=M8 (P:=P) (w:=w) (base:=base) t a n h b;have q:=Nb (P:=P) (w:=w) (base:=base) t;have o:=QW (P:=P) (w:=w) (base:=base) t q;have f:=Um (P:=P) (w:=w) (base:=base) t;have p:=IV (P:=P) (w:=w) (base:=base) t;have e:=Uq (P:=P) (w:=w) (base:=base) t p;have j:=qy (P:=P) (w:=w) (base:=base) t e;have A:=Ja (P:=P) (w:=w) (base:=base) t;have z:=Jb (P:=P) (w:=w) (base:=base) t;have g:=Jd (P:=P) (w:=w) (base:=base) t z A;have d:=Ng (P:=P) (w:=w) (base:=base) t;have s:=QZ (P:=P) (w:=w) (base:=base) t d;have v:=Yd (P:=P) (w:=w) (base:=base) t d s;have u:=Us (P:=P) (w:=w) (base:=base) t g j v;have x:=Ni (P:=P) (w:=w) (base:=base) t f u;have m:=Av (P:=P) (w:=w) (base:=base) t;have C:=Jf (P:=P) (w:=w) (base:=base) t;have c:=Ht (P:=P) (w:=w) (base:=base) t e;have i:=zO (P:=P) (w:=w) (base:=base) t c;have B:=eg (P:=P) (w:=w) (base:=base) t a y o b i m c x C;exact B
end
end G14
end
section
set_option synthInstance.maxSize 100000
namespace G14
open L2 P1
noncomputable section
def xg(a:Int)(b:Int):Int:=(let a:=(((a*69621)+b)%2147483647);a)
theorem Jg(d:B7)(e:Lp dG (d.map eI))(c:Int)(a:Int)(b:Int):RP wY [U dG,U (zE eI c),U (zE eI a),U (zE eI b)] (λs=>An.nx ((λa:Int=>[U dG,U (zE eI c),U (zE eI a),Y]) s)) (xg  a b) (Y):=R.tp (bC (bJ 2 (cQ (fP (VH (aq 2 (zE eI) a S) 69621 (by decide)) (aq 3 (zE eI) b S)) 2147483647 (by decide)) (λ_=>S) λa=>(bN (bG a S))))
def aV(c:B7)(a:Int):Int:=(if(decide (a<(c.length:Int)))=true then(at' c a)else(let b:=((48271*(((a*a)+(7*a))+11))%2147483647);(let b:Int:=((cut c Y (U 3)).foldl (λ(b:Int) (d:Int)=>(xg  b d)) b);b)))
def f9(b:B7)(a:Int):Prop:=(((decide (a<(b.length:Int)))=true->In b.length a)/\((decide (a<(b.length:Int)))=false->ET a a))
theorem Ut(b:B7)(d:Lp dG (b.map eI))(a:Int):RP sU [U dG,U (zE eI a),Y,Y] (λr=>An.rt (zE eI r)) (aV b a) (U (f9 b a)):=R.tp (o9 (eE (L6 (aq 1 (zE eI) a S) (Bn (jA 0 eI b d S)))) (bC (fQ (λr=>r) (d9 (jA 0 eI b d S) (aq 1 (zE eI) a S)) (λ_=>S) λ_=>S)) (bN (bJ 2 (cQ (Ml 48271 (by decide) (fP (fP (IJ (aq 1 (zE eI) a S) (aq 1 (zE eI) a S)) (Ml 7 (by decide) (aq 1 (zE eI) a S))) (B5 11))) 2147483647 (by decide)) (λ_=>S) λc=>(WA (λc:Int=>[U dG,U (zE eI a),U (zE eI c),Y]) c S (GM (TJ (jA 0 eI b d S) xU (xV (B5 3)))) _ (λ_ _=>S) (λ(c:Int) (e:Int)=>(Jg b d a c e).r) (λ_ _=>S) λc=>(fQ (λr=>r) (aq 2 (zE eI) c S) (λ_=>S) λ_=>S)))))
theorem pC:∀v bs,(aL eI (aZ eI aN)) v bs->bs.length=2/\(hold (U (f9 v.1 v.2.1))->fW (bs.map lend)=U ((zE eI) (aV v.1 v.2.1))):=by
 rintro⟨b,a,_⟩ _ ⟨dG,_,rfl,c,⟨_,rfl,rfl⟩⟩;exact⟨rfl,λh=>dJ (g:=sU) (n:=4) (bs:=[lend dG,.z (eI a)]) (Ut b (o8 c) a) h⟩
def cI(a:Int×B7×Int)(c:Int):Int×B7×Int:=(let b:=((((a.1*((a.1%65521)+40487))+(7*c))+5)%1999999973);(let e:=a.2.1++[(at' [b,(a.2.2%1000000)] (if(decide ((0:Int)<a.2.2))=true then(1:Int)else 0))];(let d:=(a.2.2 / (1000000:Int));(b,e,d))))
def jk(a:Int×B7×Int)(b:Int):Prop:=(ET a.1 ((a.1%65521)+40487)/\(let c:=((((a.1*((a.1%65521)+40487))+(7*b))+5)%1999999973);(In [c,(a.2.2%1000000)].length (if(decide ((0:Int)<a.2.2))=true then(1:Int)else 0)/\sy a.2.1.length)))
theorem Aw(e:Int)(c:Int)(a:Int×B7×Int)(b:Int):RP lF [U (zE eI e),U (zE eI c),U ((oE eI) a.2.1),U ((zE eI) a.1),U ((zE eI) a.2.2),U (zE eI b)] (λs=>An.nx ((λa:Int×B7×Int=>[U (zE eI e),U (zE eI c),U ((oE eI) a.2.1),U ((zE eI) a.1),U ((zE eI) a.2.2),Y]) s)) (cI  a b) (U (jk  a b)):=R.tp (bC (bJ 3 (cQ (fP (fP (IJ (aq 3 (zE eI) a.1 S) (fP (cQ (aq 3 (zE eI) a.1 S) 65521 (by decide)) (B5 40487))) (Ml 7 (by decide) (aq 5 (zE eI) b S))) (B5 5)) 1999999973 (by decide)) (λ_=>S) λd=>(bC (wU 2 a.2.1 S (d9 (gC (eF (bx (aq 3 (zE eI) d S) (bx (cQ (aq 4 (zE eI) a.2.2 S) 1000000 (by decide)) (cM eI))) (zz S))) (TX (Md (aq 4 (zE eI) a.2.2 S) (B5 0)))) λg=>(bC (bJ 4 (su (aq 4 (zE eI) a.2.2 S) 1000000 (by decide)) (λ_=>S) λf=>(bN (bG (d,g,f) S))))))))
def jo(g:Int)(b:Int)(f:B7)(d:Int)(e:Int):B7:=(let a:Int×B7×Int:=((rng 0 b.toNat).foldl (λ(a:Int×B7×Int) (c:Int)=>(cI  a c)) (d,f,e));a.2.1)
def lJ(g:Int)(c:Int)(f:B7)(d:Int)(e:Int):Prop:=(Rg c/\kY (λ(b:Int×B7×Int) (a:Int)=>(cI  b a)) (λ(b:Int×B7×Int) (a:Int)=>U (jk  b a)) (rng 0 c.toNat) (d,f,e))
def Ax:Ev->O An:=(aD (pI (O7 (ao (gv 1) aH)) (mz 5) lF) (aD (CG 2) fB))
theorem Ay(c:Int)(b:Int)(f:B7)(d:Int)(e:Int):RP Ax [U (zE eI c),U (zE eI b),U (oE eI f),U (zE eI d),U (zE eI e),Y] (λr=>An.rt (oE eI r)) (jo c b f d e) (U (lJ c b f d e)):=R.tp (G4 (λa:Int×B7×Int=>[U (zE eI c),U (zE eI b),U ((oE eI) a.2.1),U ((zE eI) a.1),U ((zE eI) a.2.2),Y]) (d,f,e) S (J3 (aq 1 (zE eI) b S)) _ (λ_ _=>S) (λ(a:Int×B7×Int) (g:Int)=>(Aw c b a g).r) λa=>(G3 2 (λr=>r) a.2.1 S (λ_=>S) λ_=>S))
def aR(a:Int)(c:Int):B7:=(let e:=([]:Z Int);(let d:=((((a%1999999973)+31)*765432101)%1999999973);(let b:=(0:Int);(let b:Int:=(if((decide (a<0))||(decide (((10:Int) ^ 18)<=a)))=true then(let b:=(if a<0 then -a else a);b)else b);(jo a c e d b)))))
def eU(a:Int)(c:Int):Prop:=(let e:=([]:Z Int);(let d:=((((a%1999999973)+31)*765432101)%1999999973);(let b:=(0:Int);(let b:Int:=(if((decide (a<0))||(decide (((10:Int) ^ 18)<=a)))=true then(let b:=(if a<0 then -a else a);b)else b);(lJ a c e d b)))))
theorem Jh(a:Int)(c:Int):RP lR [U (zE eI a),U (zE eI c),Y,Y,Y,Y] (λr=>An.rt (oE eI r)) (aR a c) (U (eU a c)):=R.tp (bJ 2 (eF (cM eI) (zz S)) (λ_=>S) λe=>(bJ 3 (cQ (VH (fP (cQ (aq 0 (zE eI) a S) 1999999973 (by decide)) (B5 31)) 765432101 (by decide)) 1999999973 (by decide)) (λ_=>S) λd=>(bJ 4 (B5 0) (λ_=>S) λb=>(wV (λb:Int=>[U (zE eI a),U (zE eI c),U (oE eI e),U (zE eI d),U (zE eI b),Y]) (FK (eE (L6 (aq 0 (zE eI) a S) (B5 0))) (eE (IT (aq 0 (zE eI) a S) (gL 10 18 18 (by decide) S)))) (bC (bJ 4 (PZ (aq 0 (zE eI) a S)) (λ_=>S) λb=>(bN (bG b S)))) (bN (bG b S)) λb=>(Ay a c e d b).r))))
theorem jC:∀v bs,(aZ eI (aZ eI aN)) v bs->bs.length=2/\(hold (U (eU v.1 v.2.1))->cY (bs.map lend)=U ((oE eI) (aR v.1 v.2.1))):=by
 rintro⟨a,b,_⟩ _ ⟨_,rfl,⟨_,rfl,rfl⟩⟩;exact⟨rfl,λh=>dJ (g:=lR) (n:=6) (bs:=[.z (eI a),.z (eI b)]) (Jh a b) h⟩
def dU(f:Int)(e:AZ)(d:Z aF)(a:Int):(Z aF):=(let y1:=(at' e a);let y2:=(at' e ((a+1)%30));let c:=y1;let b:=y2;(let g:=(at' [(5:Int),((1000:Int)-a),(1+a),(1+((a*a)%9))] (f%4));(let d:=d++[(((0:Int)-g),(if Cf b c=true then b else c),(if Cf c b=true then b else c),(a%3))];d)))
def j8(c:Int)(b:AZ)(d:Z aF)(a:Int):Prop:=((In b.length a/\In b.length ((a+1)%30))/\(let y1:=(at' b a);let y2:=(at' b ((a+1)%30));let g:=y1;let e:=y2;((ET a a/\In [(5:Int),((1000:Int)-a),(1+a),(1+((a*a)%9))].length (c%4))/\(let f:=(at' [(5:Int),((1000:Int)-a),(1+a),(1+((a*a)%9))] (c%4));sy d.length))))
theorem Hu(j:Int)(f:Int)(d:Int)(h:AJ)(g:AZ)(c:AZ)(b:Z aF)(a:Int):RP vG [U (zE eI j),U (zE eI f),U (zE eI d),U (zE eS h),U (oE eS g),U (oE eS c),U (oE aJ b),U (zE eI a),Y,Y,Y] (λs=>An.nx ((λb:(Z aF)=>[U (zE eI j),U (zE eI f),U (zE eI d),U (zE eS h),U (oE eS g),U (oE eS c),U (oE aJ b),Y,Y,Y,Y]) s)) (dU d c b a) (U (j8 d c b a)):=R.tp (bC (GN 8 9 (d9 (cX (aq 5 (lE eS) c S)) (aq 7 (zE eI) a S)) (d9 (cX (aq 5 (lE eS) c S)) (cQ (fP (aq 7 (zE eI) a S) (B5 1)) 30 (by decide))) λi e=>(bC (bJ 10 (d9 (gC (eF (bx (B5 5) (bx (Qk (B5 1000) (aq 7 (zE eI) a S)) (bx (jP (fP (B5 1) (aq 7 (zE eI) a S))) (bx (jP (fP (B5 1) (cQ (IJ (aq 7 (zE eI) a S) (aq 7 (zE eI) a S)) 9 (by decide)))) (cM eI))))) (zz S))) (cQ (aq 2 (zE eI) d S) 4 (by decide))) (λ_=>S) λl=>(bC (wU 6 b S (Mp (Qk (B5 0) (aq 10 (zE eI) l S)) (jP (MH (aq 8 (zE eS) i S) (aq 9 (zE eS) e S))) (jP (Pe (aq 8 (zE eS) i S) (aq 9 (zE eS) e S))) (cQ (aq 7 (zE eI) a S) 3 (by decide))) λb=>(bN (bG b S))))))))
def mJ(i:Int)(g:Int)(f:Int):fU:=(let h:=("abcd":AJ);(let d:=((rng 0 (kN 30)).map λa:Int=>(Txt.mul (ch h (a / (8:Int))) (1+(a%8))));(let e:=((rng 0 (kN 30)).map λa:Int=>(at' d (((7*a)+g)%30)));(let b:=([]:Z aF);(let b:(Z aF):=((rng 0 (29+(i%2)).toNat).foldl (λ(b:Z aF) (a:Int)=>(dU f e b a)) b);((lg d),((ug aJ b).map λc:aF=>(((0:Int)-c.1),c.2.1,c.2.2.1,c.2.2.2)),([]:Z qK)))))))
def mK(g:Int)(h:Int)(d:Int):Prop:=(let f:=("abcd":AJ);(((rng 0 (kN 30)).length<=100000/\(∀a∈(rng 0 (kN 30)),(In f.length (a / (8:Int))/\((1+(a%8))<=1000 ∧ -1000<=(1+(a%8))/\(ch f (a / (8:Int))).length<=1000))))/\(let e:=((rng 0 (kN 30)).map λa:Int=>(Txt.mul (ch f (a / (8:Int))) (1+(a%8))));(((rng 0 (kN 30)).length<=100000/\(∀a∈(rng 0 (kN 30)),In e.length (((7*a)+h)%30)))/\(let c:=((rng 0 (kN 30)).map λa:Int=>(at' e (((7*a)+h)%30)));(let b:=([]:Z aF);((Rg (29+(g%2))/\kY (λ(b:Z aF) (a:Int)=>(dU d c b a)) (λ(b:Z aF) (a:Int)=>U (j8 d c b a)) (rng 0 (29+(g%2)).toNat) b)/\(let b:(Z aF):=((rng 0 (29+(g%2)).toNat).foldl (λ(b:Z aF) (a:Int)=>(dU d c b a)) b);(e.length<64/\(b.length<64/\(ug aJ b).length<=100000))))))))))
theorem Q0(d:Int)(c:Int)(e:Int):RP pW [U (zE eI d),U (zE eI c),U (zE eI e),Y,Y,Y,Y,Y,Y,Y,Y] (λr=>An.rt (zE bV r)) (mJ d c e) (U (mK d c e)):=R.tp (bJ 3 (DD "abcd") (λ_=>S) λh=>(bJ 4 (Am (MS 30 30 S (by unfold Rg;decide)) _ (λ_=>S) (λb:Int=>(NI (Qm (aq 0 (zE eS) h S) (su (aq 1 (zE eI) b S) 8 (by decide))) (fP (B5 1) (cQ (aq 1 (zE eI) b S) 8 (by decide)))))) (λ_=>S) λg=>(bJ 5 (Am (MS 30 30 S (by unfold Rg;decide)) _ (λ_=>S) (λb:Int=>(d9 (cX (aq 0 (lE eS) g S)) (cQ (fP (Ml 7 (by decide) (aq 2 (zE eI) b S)) (aq 1 (zE eI) c S)) 30 (by decide))))) (λ_=>S) λi=>(bJ 6 (eF (cM aJ) (zz S)) (λ_=>S) λa=>(G4 (λa:(Z aF)=>[U (zE eI d),U (zE eI c),U (zE eI e),U (zE eS h),U (oE eS g),U (oE eS i),U (oE aJ a),Y,Y,Y,Y]) a S (J3 (fP (B5 29) (cQ (aq 0 (zE eI) d S) 2 (by decide)))) _ (λ_ _=>S) (λ(a:Z aF) (b:Int)=>(Hu d c e h g i a b).r) λa=>(fQ (λr=>r) (TF (wz (gC (Mr (cX (aq 4 (lE eS) g S))))) (wz (gC (pN (GZ (gC (gf (cX (aq 6 (lE aJ) a S))))) _ (λ_=>S) (λf:aF=>(Mp (Qk (B5 0) (aq 0 (zE eI) f.1 S)) (aq 1 (zE eS) f.2.1 S) (aq 2 (zE eS) f.2.2.1 S) (aq 3 (zE eI) f.2.2.2 S))) λ_=>S))) (P9 Ao)) (λ_=>S) λ_=>S))))))
theorem Q5:∀v bs,(aZ eI (aZ eI (aZ eI aN))) v bs->bs.length=3/\(hold (U (mK v.1 v.2.1 v.2.2.1))->pX (bs.map lend)=U ((zE bV) (mJ v.1 v.2.1 v.2.2.1))):=by
 rintro⟨c,a,b,_⟩ _ ⟨_,rfl,⟨_,rfl,⟨_,rfl,rfl⟩⟩⟩;exact⟨rfl,λh=>dJ (g:=pW) (n:=11) (bs:=[.z (eI c),.z (eI a),.z (eI b)]) (Q0 c a b) h⟩
def fH(f:B7)(g:AJ)(e:AJ)(d:Int)(c:AZ)(b:Int):AZ:=(let h:=(ch g ((b+(at' f 2))%15));(let a:=(((Txt.slice e Y (U d))++h)++(Txt.slice e (U d) Y));(let a:AJ:=(if(decide (((at' f 3)%3)=1))=true then(let a:=(Txt.mul (ch g (b / (8:Int))) (1+(b%8)));a)else a);(let c:=c++[a];c))))
def j9(b:B7)(e:AJ)(d:AJ)(c:Int)(h:AZ)(a:Int):Prop:=((In b.length 2/\In e.length ((a+(at' b 2))%15))/\(let g:=(ch e ((a+(at' b 2))%15));((sy ((Txt.slice d Y (U c)).length+g.length)/\sy (((Txt.slice d Y (U c))++g).length+(Txt.slice d (U c) Y).length))/\(let f:=(((Txt.slice d Y (U c))++g)++(Txt.slice d (U c) Y));((In b.length 3/\((decide (((at' b 3)%3)=1))=true->(In e.length (a / (8:Int))/\((1+(a%8))<=1000 ∧ -1000<=(1+(a%8))/\(ch e (a / (8:Int))).length<=1000))))/\(let f:AJ:=(if(decide (((at' b 3)%3)=1))=true then(let f:=(Txt.mul (ch e (a / (8:Int))) (1+(a%8)));f)else f);sy h.length))))))
theorem Hv(g:B7)(j:Lp dG (g.map eI))(h:Int)(f:AJ)(e:AJ)(d:Int)(a:AZ)(c:Int):RP pA [U dG,U (zE eI h),U (zE eS f),U (zE eS e),U (zE eI d),U (oE eS a),U (zE eI c),Y,Y] (λs=>An.nx ((λa:AZ=>[U dG,U (zE eI h),U (zE eS f),U (zE eS e),U (zE eI d),U (oE eS a),Y,Y,Y]) s)) (fH g f e d a c) (U (j9 g f e d a c)):=R.tp (bC (bJ 7 (Qm (aq 2 (zE eS) f S) (cQ (fP (aq 6 (zE eI) c S) (d9 (jA 0 eI g j S) (B5 2))) 15 (by decide))) (λ_=>S) λi=>(bC (bJ 8 (sE (sE (BP (aq 3 (zE eS) e S) xU (xV (aq 4 (zE eI) d S))) (aq 7 (zE eS) i S)) (BP (aq 3 (zE eS) e S) (xV (aq 4 (zE eI) d S)) xU)) (λ_=>S) λb=>(bC (wV (λb:AJ=>[U dG,U (zE eI h),U (zE eS f),U (zE eS e),U (zE eI d),U (oE eS a),U (zE eI c),U (zE eS i),U (zE eS b)]) (eE (C3 (by decide) (cQ (d9 (jA 0 eI g j S) (B5 3)) 3 (by decide)) (B5 1))) (bC (bJ 8 (NI (Qm (aq 2 (zE eS) f S) (su (aq 6 (zE eI) c S) 8 (by decide))) (fP (B5 1) (cQ (aq 6 (zE eI) c S) 8 (by decide)))) (λ_=>S) λb=>(bN (bG b S)))) (bN (bG b S)) λb=>(bC (wU 5 a S (aq 8 (zE eS) b S) λa=>(bN (bG a S))))))))))
def kh(c:B7)(d:Int)(g:AJ)(b:AJ):AZ:=(let f:=((at' c 1)%((b.length:Int)+1));(let a:=([]:AZ);(let a:AZ:=((rng 0 d.toNat).foldl (λ(a:AZ) (e:Int)=>(fH c g b f a e)) a);a)))
def pD(c:B7)(e:Int)(g:AJ)(b:AJ):Prop:=((In c.length 1/\0<((b.length:Int)+1))/\(let f:=((at' c 1)%((b.length:Int)+1));(let a:=([]:AZ);(Rg e/\kY (λ(a:AZ) (d:Int)=>(fH c g b f a d)) (λ(a:AZ) (d:Int)=>U (j9 c g b f a d)) (rng 0 e.toNat) a))))
def Hw:Ev->O An:=(aD (At 4 (b2 fj (b2 gK (gv 0) (cB (.int 1))) (b2 dH (cg uW (ao (gv 3) aH)) (cB (.int 1))))) (aD (At 5 (cg gY aH)) (aD (pI (O7 (ao (gv 1) aH)) (mz 6) pA) (aD (CG 5) fB))))
theorem Hx(d:B7)(g:Lp dG (d.map eI))(b:Int)(e:AJ)(c:AJ):RP Hw [U dG,U (zE eI b),U (zE eS e),U (zE eS c),Y,Y,Y,Y,Y] (λr=>An.rt (oE eS r)) (kh d b e c) (U (pD d b e c)):=R.tp (bJ 4 (vA (d9 (jA 0 eI d g S) (B5 1)) (fP (NW (aq 3 (zE eS) c S)) (B5 1))) (λ_=>S) λf=>(bJ 5 (eF (cM eS) (zz S)) (λ_=>S) λa=>(G4 (λa:AZ=>[U dG,U (zE eI b),U (zE eS e),U (zE eS c),U (zE eI f),U (oE eS a),Y,Y,Y]) a S (J3 (aq 1 (zE eI) b S)) _ (λ_ _=>S) (λ(a:AZ) (h:Int)=>(Hv d g b e c f a h).r) λa=>(G3 5 (λr=>r) a S (λ_=>S) λ_=>S))))
def bY(a:B7)(c:Int):AZ:=(let b:=("abcdefghijklmnopqrstuvwxyz":AJ);(let e:=(Txt.join "" ((rng 0 ((at' a 0)%6).toNat).map λd:Int=>(ch b (((at' a d) / (40:Int))%26))));(kh a c b e)))
def qz(a:B7)(d:Int):Prop:=(let c:=("abcdefghijklmnopqrstuvwxyz":AJ);(((((In a.length 0/\Rg ((at' a 0)%6))/\(rng 0 ((at' a 0)%6).toNat).length<=100000)/\(∀b∈(rng 0 ((at' a 0)%6).toNat),(In a.length b/\In c.length (((at' a b) / (40:Int))%26))))/\(((rng 0 ((at' a 0)%6).toNat).map λb:Int=>(ch c (((at' a b) / (40:Int))%26))).map (·.length)).sum+((rng 0 ((at' a 0)%6).toNat).map λb:Int=>(ch c (((at' a b) / (40:Int))%26))).length*("":AJ).length<=100000)/\(let e:=(Txt.join "" ((rng 0 ((at' a 0)%6).toNat).map λb:Int=>(ch c (((at' a b) / (40:Int))%26))));(pD a d c e))))
theorem Q6(a:B7)(c:Lp dG (a.map eI))(b:Int):RP pY [U dG,U (zE eI b),Y,Y,Y,Y,Y,Y,Y] (λr=>An.rt (oE eS r)) (bY a b) (U (qz a b)):=R.tp (bJ 2 (DD "abcdefghijklmnopqrstuvwxyz") (λ_=>S) λd=>(bJ 3 (g7 "" (gC (Am (J3 (cQ (d9 (jA 0 eI a c S) (B5 0)) 6 (by decide))) _ (λ_=>S) (λe:Int=>(Qm (aq 0 (zE eS) d S) (cQ (su (d9 (jA 1 eI a c (congrArg U (c.get S))) (aq 2 (zE eI) e S)) 40 (by decide)) 26 (by decide))))))) (λ_=>S) λf=>(Hx a c b d f).r))
theorem Q7:∀v bs,(aL eI (aZ eI aN)) v bs->bs.length=2/\(hold (U (qz v.1 v.2.1))->mH (bs.map lend)=U ((oE eS) (bY v.1 v.2.1))):=by
 rintro⟨c,a,_⟩ _ ⟨dG,_,rfl,b,⟨_,rfl,rfl⟩⟩;exact⟨rfl,λh=>dJ (g:=pY) (n:=9) (bs:=[lend dG,.z (eI a)]) (Q6 c (o8 b) a) h⟩
def dh(g:B7)(i:Int)(e:Int)(l:B7)(f:AZ)(b:Z aF)(h:Int):(Z aF):=(let a:=(aR (aV g ((i+1)+h)) 4);(let y1:=((at' a 0)%(if e>1 then e else 1));let y2:=((at' a 1)%(if e>1 then e else 1));let d:=y1;let c:=y2;(let j:=(at' [(1+((at' a 2)%3)),(1+((at' a 2)%9)),(1+((at' a 2)%1000))] ((at' l 4)%3));(let b:(Z aF):=(if(!decide (d=c))=true then(let b:=b++[(((0:Int)-j),(at' f (if c<d then c else d)),(at' f (if c>d then c else d)),(at' [(0:Int),(2:Int),(10:Int)] ((at' a 3)%3)))];b)else b);b))))
def ig(e:B7)(g:Int)(b:Int)(h:B7)(i:AZ)(j:Z aF)(f:Int):Prop:=(((f9 e ((g+1)+f))/\(eU (aV e ((g+1)+f)) 4))/\(let a:=(aR (aV e ((g+1)+f)) 4);(((In a.length 0/\0<(if b>1 then b else 1))/\(In a.length 1/\0<(if b>1 then b else 1)))/\(let y1:=((at' a 0)%(if b>1 then b else 1));let y2:=((at' a 1)%(if b>1 then b else 1));let d:=y1;let c:=y2;((((In a.length 2/\(In a.length 2/\In a.length 2))/\In h.length 4)/\In [(1+((at' a 2)%3)),(1+((at' a 2)%9)),(1+((at' a 2)%1000))].length ((at' h 4)%3))/\(let l:=(at' [(1+((at' a 2)%3)),(1+((at' a 2)%9)),(1+((at' a 2)%1000))] ((at' h 4)%3));((!decide (d=c))=true->((In i.length (if c<d then c else d)/\(In i.length (if c>d then c else d)/\(In a.length 3/\In [(0:Int),(2:Int),(10:Int)].length ((at' a 3)%3))))/\sy j.length))))))))
theorem CW(h:B7)(o:Lp dG (h.map eI))(e:Int)(b:Int)(m:Int)(l:Int)(f:B7)(c:AZ)(a:Z aF)(g:Int):RP mV [U dG,U (zE eI e),U (zE eI b),U (zE eI m),U (zE eI l),U (oE eI f),U (oE eS c),U (oE aJ a),U (zE eI g),Y,Y,Y,Y,Y,Y] (λs=>An.nx ((λa:(Z aF)=>[U dG,U (zE eI e),U (zE eI b),U (zE eI m),U (zE eI l),U (oE eI f),U (oE eS c),U (oE aJ a),Y,Y,Y,Y,Y,Y,Y]) s)) (dh h e b f c a g) (U (ig h e b f c a g)):=R.tp (bC (bJ 9 (Ap jC (bU (jP (Ap pC (wM (jA 0 eI h o S) (bU (jP (fP (fP (aq 1 (zE eI) e S) (B5 1)) (aq 8 (zE eI) g S))) bT)))) (bU (B5 4) bT))) (λ_=>S) λd=>(bC (GN 10 11 (vA (d9 (cX (aq 9 (lE eI) d S)) (B5 0)) (BR (B5 1) (aq 2 (zE eI) b S))) (vA (d9 (cX (aq 9 (lE eI) d S)) (B5 1)) (BR (B5 1) (aq 2 (zE eI) b S))) λj i=>(bC (bJ 12 (d9 (gC (eF (bx (jP (fP (B5 1) (cQ (d9 (cX (aq 9 (lE eI) d S)) (B5 2)) 3 (by decide)))) (bx (jP (fP (B5 1) (cQ (d9 (cX (aq 9 (lE eI) d S)) (B5 2)) 9 (by decide)))) (bx (jP (fP (B5 1) (cQ (d9 (cX (aq 9 (lE eI) d S)) (B5 2)) 1000 (by decide)))) (cM eI)))) (zz S))) (cQ (d9 (cX (aq 5 (lE eI) f S)) (B5 4)) 3 (by decide))) (λ_=>S) λn=>(bC (wV (λa:(Z aF)=>[U dG,U (zE eI e),U (zE eI b),U (zE eI m),U (zE eI l),U (oE eI f),U (oE eS c),U (oE aJ a),U (zE eI g),U (oE eI d),U (zE eI j),U (zE eI i),U (zE eI n),Y,Y]) (eE (HL (by decide) (aq 10 (zE eI) j S) (aq 11 (zE eI) i S))) (bC (wU 7 a S (Mp (Qk (B5 0) (aq 12 (zE eI) n S)) (d9 (cX (aq 6 (lE eS) c S)) (OC (aq 10 (zE eI) j S) (aq 11 (zE eI) i S))) (d9 (cX (aq 6 (lE eS) c S)) (BR (aq 10 (zE eI) j S) (aq 11 (zE eI) i S))) (d9 (gC (eF (bx (B5 0) (bx (B5 2) (bx (B5 10) (cM eI)))) (zz S))) (cQ (d9 (cX (aq 9 (lE eI) d S)) (B5 3)) 3 (by decide)))) λa=>(bN (bG a S)))) (bN (bG a S)) λa=>(bN (bG a S))))))))))
def dj(g:B7)(l:Int)(d:Int)(f:AZ)(a:Z qK)(j:Int):(Z qK):=(let e:=(aR (aV g ((l+1)+j)) 8);(let h:=((at' e 5)%(if d>1 then d else 1));let i:=((at' e 6)%(if d>1 then d else 1));let c:=h;let b:=i;(let a:(Z qK):=(if(!decide (c=b))=true then(let a:=a++[((at' f (if b<c then b else c)),(at' f (if b>c then b else c)),(at' [(2:Int),(10:Int)] ((at' e 7)%2)))];a)else a);a)))
def iu(e:B7)(g:Int)(a:Int)(h:AZ)(i:Z qK)(f:Int):Prop:=(((f9 e ((g+1)+f))/\(eU (aV e ((g+1)+f)) 8))/\(let b:=(aR (aV e ((g+1)+f)) 8);(((In b.length 5/\0<(if a>1 then a else 1))/\(In b.length 6/\0<(if a>1 then a else 1)))/\(let j:=((at' b 5)%(if a>1 then a else 1));let l:=((at' b 6)%(if a>1 then a else 1));let d:=j;let c:=l;((!decide (d=c))=true->((In h.length (if c<d then c else d)/\(In h.length (if c>d then c else d)/\(In b.length 7/\In [(2:Int),(10:Int)].length ((at' b 7)%2))))/\sy i.length))))))
theorem CZ(f:B7)(p:Lp dG (f.map eI))(d:Int)(b:Int)(l:Int)(j:Int)(n:B7)(c:AZ)(m:Z aF)(o:Z aF)(a:Z qK)(e:Int):RP mX [U dG,U (zE eI d),U (zE eI b),U (zE eI l),U (zE eI j),U (oE eI n),U (oE eS c),U (oE aJ m),U (zE eI e),Y,Y,Y,Y,U (oE aJ o),U (oE Ao a)] (λs=>An.nx ((λa:(Z qK)=>[U dG,U (zE eI d),U (zE eI b),U (zE eI l),U (zE eI j),U (oE eI n),U (oE eS c),U (oE aJ m),Y,Y,Y,Y,Y,U (oE aJ o),U (oE Ao a)]) s)) (dj f d b c a e) (U (iu f d b c a e)):=R.tp (bC (bJ 9 (Ap jC (bU (jP (Ap pC (wM (jA 0 eI f p S) (bU (jP (fP (fP (aq 1 (zE eI) d S) (B5 1)) (aq 8 (zE eI) e S))) bT)))) (bU (B5 8) bT))) (λ_=>S) λh=>(bC (GN 10 11 (vA (d9 (cX (aq 9 (lE eI) h S)) (B5 5)) (BR (B5 1) (aq 2 (zE eI) b S))) (vA (d9 (cX (aq 9 (lE eI) h S)) (B5 6)) (BR (B5 1) (aq 2 (zE eI) b S))) λi g=>(bC (wV (λa:(Z qK)=>[U dG,U (zE eI d),U (zE eI b),U (zE eI l),U (zE eI j),U (oE eI n),U (oE eS c),U (oE aJ m),U (zE eI e),U (oE eI h),U (zE eI i),U (zE eI g),Y,U (oE aJ o),U (oE Ao a)]) (eE (HL (by decide) (aq 10 (zE eI) i S) (aq 11 (zE eI) g S))) (bC (wU 14 a S (TF (d9 (cX (aq 6 (lE eS) c S)) (OC (aq 10 (zE eI) i S) (aq 11 (zE eI) g S))) (d9 (cX (aq 6 (lE eS) c S)) (BR (aq 10 (zE eI) i S) (aq 11 (zE eI) g S))) (d9 (gC (eF (bx (B5 2) (bx (B5 10) (cM eI))) (zz S))) (cQ (d9 (cX (aq 9 (lE eI) h S)) (B5 7)) 2 (by decide)))) λa=>(bN (bG a S)))) (bN (bG a S)) λa=>(bN (bG a S))))))))
def mZ(d:B7)(h:Int)(e:Int)(l:Int)(f:Int)(m:B7)(c:AZ)(i:Z aF):fU:=(let j:=((ug aJ (JZ i)).map λb:aF=>(((0:Int)-b.1),b.2.1,b.2.2.1,b.2.2.2));(let a:=([]:Z qK);(let a:(Z qK):=((rng 0 f.toNat).foldl (λ(a:Z qK) (g:Int)=>(dj d h e c a g)) a);(c,j,(ug Ao (JZ a))))))
def m7(e:B7)(h:Int)(f:Int)(j:Int)(g:Int)(l:B7)(i:AZ)(d:Z aF):Prop:=(((d.length<=64/\d.length<64)/\(ug aJ (JZ d)).length<=100000)/\(let m:=((ug aJ (JZ d)).map λc:aF=>(((0:Int)-c.1),c.2.1,c.2.2.1,c.2.2.2));(let a:=([]:Z qK);((Rg g/\kY (λ(a:Z qK) (b:Int)=>(dj e h f i a b)) (λ(a:Z qK) (b:Int)=>U (iu e h f i a b)) (rng 0 g.toNat) a)/\(let a:(Z qK):=((rng 0 g.toNat).foldl (λ(a:Z qK) (b:Int)=>(dj e h f i a b)) a);(a.length<=64/\a.length<64))))))
def ur:Ev->O An:=(aD (At 13 (gB (Io (Gs (Tj (gv 7)))) (wO 4 (dW (mz 0) (dW (mz 1) (dW (mz 2) (dW (mz 3) Bl))))) rR (cg qR (ao (b2 C2 (cB (.int 0)) (gv 0)) (ao (gv 1) (ao (gv 2) (ao (gv 3) aH))))) [] 4)) (aD (At 14 (cg gY aH)) (aD (pI (O7 (ao (gv 4) aH)) (mz 8) mX) (aD (jw (cg qR (ao (cg lB (ao (gv 6) aH)) (ao (cg lB (ao (gv 13) aH)) (ao (cg lB (ao (Gs (Tj (gv 14))) aH)) aH))))) fB))))
theorem Dc(i:B7)(n:Lp dG (i.map eI))(g:Int)(e:Int)(f:Int)(b:Int)(h:B7)(c:AZ)(d:Z aF):RP ur [U dG,U (zE eI g),U (zE eI e),U (zE eI f),U (zE eI b),U (oE eI h),U (oE eS c),U (oE aJ d),Y,Y,Y,Y,Y,Y,Y] (λr=>An.rt (zE bV r)) (mZ i g e f b h c d) (U (m7 i g e f b h c d)):=R.tp (bJ 13 (pN (GZ (gC (NU (L9 (cX (aq 7 (lE aJ) d S)))))) _ (λ_=>S) (λj:aF=>(Mp (Qk (B5 0) (aq 0 (zE eI) j.1 S)) (aq 1 (zE eS) j.2.1 S) (aq 2 (zE eS) j.2.2.1 S) (aq 3 (zE eI) j.2.2.2 S))) λ_=>S) (λ_=>S) λl=>(bJ 14 (eF (cM Ao) (zz S)) (λ_=>S) λa=>(G4 (λa:(Z qK)=>[U dG,U (zE eI g),U (zE eI e),U (zE eI f),U (zE eI b),U (oE eI h),U (oE eS c),U (oE aJ d),Y,Y,Y,Y,Y,U (oE aJ l),U (oE Ao a)]) a S (J3 (aq 4 (zE eI) b S)) _ (λ_ _=>S) (λ(a:Z qK) (m:Int)=>(CZ i n g e f b h c d l a m).r) λa=>(fQ (λr=>r) (TF (wz (cX (aq 6 (lE eS) c S))) (wz (cX (aq 13 (lE aJ) l S))) (wz (gC (NU (L9 (cX (aq 14 (lE Ao) a S))))))) (λ_=>S) λ_=>S))))
def m9(b:B7)(e:Int)(c:Int)(d:Int)(h:Int)(g:B7)(f:AZ):fU:=(let a:=([]:Z aF);(let a:(Z aF):=((rng 0 d.toNat).foldl (λ(a:Z aF) (i:Int)=>(dh b e c g f a i)) a);(mZ b e c d h g f a)))
def ni(c:B7)(f:Int)(d:Int)(e:Int)(i:Int)(h:B7)(g:AZ):Prop:=(let a:=([]:Z aF);((Rg e/\kY (λ(a:Z aF) (b:Int)=>(dh c f d h g a b)) (λ(a:Z aF) (b:Int)=>U (ig c f d h g a b)) (rng 0 e.toNat) a)/\(let a:(Z aF):=((rng 0 e.toNat).foldl (λ(a:Z aF) (b:Int)=>(dh c f d h g a b)) a);(m7 c f d e i h g a))))
def uw:Ev->O An:=(aD (At 7 (cg gY aH)) (aD (pI (O7 (ao (gv 3) aH)) (mz 8) mV) ur))
theorem Dg(h:B7)(i:Lp dG (h.map eI))(e:Int)(c:Int)(a:Int)(d:Int)(g:B7)(f:AZ):RP uw [U dG,U (zE eI e),U (zE eI c),U (zE eI a),U (zE eI d),U (oE eI g),U (oE eS f),Y,Y,Y,Y,Y,Y,Y,Y] (λr=>An.rt (zE bV r)) (m9 h e c a d g f) (U (ni h e c a d g f)):=R.tp (bJ 7 (eF (cM aJ) (zz S)) (λ_=>S) λb=>(G4 (λb:(Z aF)=>[U dG,U (zE eI e),U (zE eI c),U (zE eI a),U (zE eI d),U (oE eI g),U (oE eS f),U (oE aJ b),Y,Y,Y,Y,Y,Y,Y]) b S (J3 (aq 3 (zE eI) a S)) _ (λ_ _=>S) (λ(b:Z aF) (j:Int)=>(CW h i e c a d g f b j).r) λb=>(Dc h i e c a d g f b).r))
def nj(c:B7)(e:Int)(b:Int)(g:Int)(d:Int)(a:B7):fU:=(let f:=(lg (bY a b));(m9 c e b g d a f))
def nu(c:B7)(e:Int)(b:Int)(g:Int)(d:Int)(a:B7):Prop:=(((qz a b)/\(bY a b).length<64)/\(let f:=(lg (bY a b));(ni c e b g d a f)))
def Dh:Ev->O An:=(aD (At 6 (cg Bq (ao (cj 2 mH (ao (gv 5) (ao (gv 2) aH))) aH))) uw)
theorem Di(c:B7)(h:Lp dG (c.map eI))(f:Int)(a:Int)(e:Int)(d:Int)(b:B7):RP Dh [U dG,U (zE eI f),U (zE eI a),U (zE eI e),U (zE eI d),U (oE eI b),Y,Y,Y,Y,Y,Y,Y,Y,Y] (λr=>An.rt (zE bV r)) (nj c f a e d b) (U (nu c f a e d b)):=R.tp (bJ 6 (Mr (gC (Ap Q7 (wM (cX (aq 5 (lE eI) b S)) (bU (aq 2 (zE eI) a S) bT))))) (λ_=>S) λg=>(Dg c h f a e d b g).r)
def oH(a:B7)(b:Int)(d:Int)(f:Int)(e:Int):fU:=(let c:=(aR (aV a b) 6);(nj a b d f e c))
def oJ(a:B7)(b:Int)(d:Int)(f:Int)(e:Int):Prop:=(((f9 a b)/\(eU (aV a b) 6))/\(let c:=(aR (aV a b) 6);(nu a b d f e c)))
theorem Nj(a:B7)(f:Lp dG (a.map eI))(b:Int)(c:Int)(e:Int)(d:Int):RP nM [U dG,U (zE eI b),U (zE eI c),U (zE eI e),U (zE eI d),Y,Y,Y,Y,Y,Y,Y,Y,Y,Y] (λr=>An.rt (zE bV r)) (oH a b c e d) (U (oJ a b c e d)):=R.tp (bJ 5 (Ap jC (bU (jP (Ap pC (wM (jA 0 eI a f S) (bU (aq 1 (zE eI) b S) bT)))) (bU (B5 6) bT))) (λ_=>S) λg=>(Di a f b c e d g).r)
theorem Nk:∀v bs,(aL eI (aZ eI (aZ eI (aZ eI (aZ eI aN))))) v bs->bs.length=5/\(hold (U (oJ v.1 v.2.1 v.2.2.1 v.2.2.2.1 v.2.2.2.2.1))->nO (bs.map lend)=U ((zE bV) (oH v.1 v.2.1 v.2.2.1 v.2.2.2.1 v.2.2.2.2.1))):=by
 rintro⟨e,c,a,d,b,_⟩ _ ⟨dG,_,rfl,f,⟨_,rfl,⟨_,rfl,⟨_,rfl,⟨_,rfl,rfl⟩⟩⟩⟩⟩;exact⟨rfl,λh=>dJ (g:=nM) (n:=15) (bs:=[lend dG,.z (eI c),.z (eI a),.z (eI d),.z (eI b)]) (Nj e (o8 f) c a d b) h⟩
def iT(b:B7):fU:=(let a:=(aR (aV b 0) 12);(if(decide (((at' a 9)%16)=5))=true then(mJ ((at' a 9) / (16:Int)) (at' a 10) (at' a 11))else(let c:=((at' a 6)%15);(oH b 0 c ((at' a 7)%22) ((at' a 8)%4)))))
def mL(b:B7):Prop:=(((f9 b 0)/\(eU (aV b 0) 12))/\(let a:=(aR (aV b 0) 12);(In a.length 9/\(((decide (((at' a 9)%16)=5))=true->((In a.length 9/\(In a.length 10/\In a.length 11))/\(mK ((at' a 9) / (16:Int)) (at' a 10) (at' a 11))))/\((decide (((at' a 9)%16)=5))=false->(In a.length 6/\(let c:=((at' a 6)%15);((In a.length 7/\In a.length 8)/\(oJ b 0 c ((at' a 7)%22) ((at' a 8)%4))))))))))
theorem Q8(b:B7)(c:Lp dG (b.map eI)):RP pZ [U dG,Y,Y] (λr=>An.rt (zE bV r)) (iT b) (U (mL b)):=R.tp (bJ 1 (Ap jC (bU (jP (Ap pC (wM (jA 0 eI b c S) (bU (B5 0) bT)))) (bU (B5 12) bT))) (λ_=>S) λa=>(o9 (eE (C3 (by decide) (cQ (d9 (cX (aq 1 (lE eI) a S)) (B5 9)) 16 (by decide)) (B5 5))) (bC (fQ (λr=>r) (Ap Q5 (bU (su (d9 (cX (aq 1 (lE eI) a S)) (B5 9)) 16 (by decide)) (bU (d9 (cX (aq 1 (lE eI) a S)) (B5 10)) (bU (d9 (cX (aq 1 (lE eI) a S)) (B5 11)) bT)))) (λ_=>S) λ_=>S)) (bN (bJ 2 (cQ (d9 (cX (aq 1 (lE eI) a S)) (B5 6)) 15 (by decide)) (λ_=>S) λd=>(fQ (λr=>r) (Ap Nk (wM (jA 0 eI b c S) (bU (B5 0) (bU (aq 2 (zE eI) d S) (bU (cQ (d9 (cX (aq 1 (lE eI) a S)) (B5 7)) 22 (by decide)) (bU (cQ (d9 (cX (aq 1 (lE eI) a S)) (B5 8)) 4 (by decide)) bT)))))) (λ_=>S) λ_=>S)))))
theorem Q9:∀v bs,(aL eI aN) v bs->bs.length=1/\(hold (U (mL v.1))->qb (bs.map lend)=U ((zE bV) (iT v.1))):=by
 rintro⟨a,_⟩ _ ⟨dG,_,rfl,b,rfl⟩;exact⟨rfl,λh=>dJ (g:=pZ) (n:=3) (bs:=[lend dG]) (Q8 a (o8 b)) h⟩
def cJ(b:Z AZ)(q1:aF):(Z AZ):=(let c:=(at' ((b.filter λa:AZ=>(decide (q1.2.1∈a))).map λa:AZ=>a) 0);(let vx:=(at' ((b.filter λa:AZ=>(decide (q1.2.2.1∈a))).map λa:AZ=>a) 0);(let b:(Z AZ):=(if(!decide (c=vx))=true then(let b:=(((b.filter λa:AZ=>(!sJ a [c,vx])).map λa:AZ=>a)++[(lg (c++vx))]);b)else b);b)))
def gF(b:Z AZ)(q1:aF):Prop:=((b.length<=100000/\In ((b.filter λa:AZ=>(decide (q1.2.1∈a))).map λa:AZ=>a).length 0)/\(let c:=(at' ((b.filter λa:AZ=>(decide (q1.2.1∈a))).map λa:AZ=>a) 0);((b.length<=100000/\In ((b.filter λa:AZ=>(decide (q1.2.2.1∈a))).map λa:AZ=>a).length 0)/\(let vx:=(at' ((b.filter λa:AZ=>(decide (q1.2.2.1∈a))).map λa:AZ=>a) 0);((!decide (c=vx))=true->((b.length<=100000/\(sy (c.length+vx.length)/\(c++vx).length<64))/\sy (((b.filter λa:AZ=>(!sJ a [c,vx])).map λa:AZ=>a).length+[(lg (c++vx))].length)))))))
theorem Az(e:AZ)(f:Z aF){c:Bx}(g:Lp c (f.map aJ))(a:Z AZ)(q1:aF):RP vH [U ((zE (eT eS)) e),U c,U ((oE (eL eS)) a),U ((zE eI) q1.1),U ((zE eS) q1.2.1),U ((zE eS) q1.2.2.1),U ((zE eI) q1.2.2.2),Y,Y] (λs=>An.nx ((λa:(Z AZ)=>[U ((zE (eT eS)) e),U c,U ((oE (eL eS)) a),Y,Y,Y,Y,Y,Y]) s)) (cJ  a q1) (U (gF  a q1)):=R.tp (bC (bJ 7 (d9 (gC (GX (GZ (cX (aq 2 (lE (eL eS)) a S))) _ (λ_=>S) (λb:AZ=>(eE (My (aq 0 (zE eS) q1.2.1 S) (yV (aq 1 (zE (eL eS)) b S))))) (λb:AZ=>(aq 1 (zE (eL eS)) b S)) (λ_=>S) λ_=>S)) (B5 0)) (λ_=>S) λd=>(bC (bJ 8 (d9 (gC (GX (GZ (cX (aq 2 (lE (eL eS)) a S))) _ (λ_=>S) (λb:AZ=>(eE (My (aq 0 (zE eS) q1.2.2.1 S) (yV (aq 1 (zE (eL eS)) b S))))) (λb:AZ=>(aq 1 (zE (eL eS)) b S)) (λ_=>S) λ_=>S)) (B5 0)) (λ_=>S) λvx=>(bC (wV (λa:(Z AZ)=>[U ((zE (eT eS)) e),U c,U ((oE (eL eS)) a),U ((zE eI) q1.1),U ((zE eS) q1.2.1),U ((zE eS) q1.2.2.1),U ((zE eI) q1.2.2.2),U ((zE (eL eS)) d),U ((zE (eL eS)) vx)]) (eE (He (by decide) (yV (aq 7 (zE (eL eS)) d S)) (yV (aq 8 (zE (eL eS)) vx S)))) (bC (bJ 2 (vB (gC (GX (GZ (cX (aq 2 (lE (eL eS)) a S))) _ (λ_=>S) (λb:AZ=>(eE (NR (by decide) (aq 2 (zE (eL eS)) b S) (gC (eF (bx (aq 0 (zE (eL eS)) d S) (bx (aq 1 (zE (eL eS)) vx S) (cM (eL eS)))) (zz S)))))) (λb:AZ=>(aq 2 (zE (eL eS)) b S)) (λ_=>S) λ_=>S)) (gC (eF (bx (Mj (Mr (gC (vB (yV (aq 7 (zE (eL eS)) d S)) (yV (aq 8 (zE (eL eS)) vx S)))))) (cM (eL eS))) (zz S)))) (λ_=>S) λa=>(bN (bG a S)))) (bN (bG a S)) λa=>(bN (bG a S))))))))
def iD(c:AZ)(d:Z aF):(Z AZ):=(let a:=(c.map λb:AJ=>[b]);(let a:(Z AZ):=(d.foldl (λ(a:Z AZ) (q1:aF)=>(cJ  a q1)) a);(vC (a.map λe:AZ=>e))))
def lU(c:AZ)(d:Z aF):Prop:=(c.length<=100000/\(let a:=(c.map λe:AJ=>[e]);(kY (λ(a:Z AZ) (q1:aF)=>(cJ  a q1)) (λ(a:Z AZ) (q1:aF)=>U (gF  a q1)) d a/\(let a:(Z AZ):=(d.foldl (λ(a:Z AZ) (q1:aF)=>(cJ  a q1)) a);(a.length<=100000/\((a.map λb:AZ=>b).length<64/\∀x∈(a.map λb:AZ=>b),x.isEmpty=false))))))
theorem Ji(b:AZ)(c:Z aF){d:Bx}(e:Lp d (c.map aJ)):RP qd [U ((zE (eT eS)) b),U d,Y,Y,Y,Y,Y,Y,Y] (λr=>An.rt ((oE (eT eS)) r)) (iD b c) (U (lU b c)):=R.tp (bJ 2 (pN (IL (aq 0 (zE (eT eS)) b S)) _ (λ_=>S) (λf:AJ=>(Mj (eF (bx (aq 0 (zE eS) f S) (cM eS)) (zz S)))) λ_=>S) (λ_=>S) λa=>(Mu 1 c (TY e S) (λa:(Z AZ)=>[U ((zE (eT eS)) b),U d,U ((oE (eL eS)) a),Y,Y,Y,Y,Y,Y]) a S _ (λ_ _=>S) (λ(a:Z AZ) (q1:aF)=>(Az b c e a q1).r) λa=>(fQ (λr=>r) (P' (gC (pN (GZ (cX (aq 2 (lE (eL eS)) a S))) _ (λ_=>S) (λg:AZ=>(wz (yV (aq 0 (zE (eL eS)) g S)))) λ_=>S))) (λ_=>S) λ_=>S)))
theorem Jj:∀v bs,(aZ (eT eS) (aL aJ aN)) v bs->bs.length=2/\(hold (U (lU v.1 v.2.1))->qe (bs.map lend)=U ((oE (eT eS)) (iD v.1 v.2.1))):=by
 rintro⟨a,c,_⟩ _ ⟨_,rfl,⟨b,_,rfl,d,rfl⟩⟩;exact⟨rfl,λh=>dJ (g:=qd) (n:=9) (bs:=[.z (eT eS a),lend b]) (Ji a c (o8 d)) h⟩
def eV(d:AZ)(a:Z aF)(b:aF):(Z aF):=(let e:=(iD d a);(let a:(Z aF):=(if(!((e.map λc:AZ=>((decide (b.2.1∈c))&&(decide (b.2.2.1∈c)))).any id))=true then(let a:=a++[b];a)else a);a))
def lV(c:AZ)(a:Z aF)(b:aF):Prop:=((lU c a)/\(let d:=(iD c a);(d.length<=100000/\((!((d.map λe:AZ=>((decide (b.2.1∈e))&&(decide (b.2.2.1∈e)))).any id))=true->sy a.length))))
theorem Jk(c:AZ)(d:Z aF)(a:Z aF)(b:aF):RP wZ [U ((zE (eT eS)) c),U ((zE (eT aJ)) d),U (oE aJ a),U (zE aJ b),Y] (λs=>An.nx ((λa:(Z aF)=>[U ((zE (eT eS)) c),U ((zE (eT aJ)) d),U (oE aJ a),Y,Y]) s)) (eV c a b) (U (lV c a b)):=R.tp (bC (bJ 4 (Ap Jj (bU (aq 0 (zE (eT eS)) c S) (wM (cX (aq 2 (lE aJ) a S)) bT))) (λ_=>S) λe=>(bC (wV (λa:(Z aF)=>[U ((zE (eT eS)) c),U ((zE (eT aJ)) d),U (oE aJ a),U (zE aJ b),U ((oE (eT eS)) e)]) (GP (Tz (f8 (gC (pN (GZ (cX (aq 4 (lE (eT eS)) e S))) _ (λ_=>S) (λf:AZ=>(Ql (GS (nF (aq 0 (zE aJ) b S) (λq=>q.2.1) eS 1 λ_=>S) (aq 1 (zE (eT eS)) f S)) (GS (nF (aq 0 (zE aJ) b S) (λq=>q.2.2.1) eS 2 λ_=>S) (aq 1 (zE (eT eS)) f S)))) λ_=>S))))) (bC (wU 2 a S (aq 3 (zE aJ) b S) λa=>(bN (bG a S)))) (bN (bG a S)) λa=>(bN (bG a S))))))
def gj(d:AZ)(c:Z aF):(Z aF):=(let a:=([]:Z aF);(let a:(Z aF):=(c.foldl (λ(a:Z aF) (b:aF)=>(eV d a b)) a);a))
def tW(c:AZ)(d:Z aF):Prop:=(let a:=([]:Z aF);kY (λ(a:Z aF) (b:aF)=>(eV c a b)) (λ(a:Z aF) (b:aF)=>U (lV c a b)) d a)
theorem Uu(c:AZ)(b:Z aF):RP sV [U ((zE (eT eS)) c),U ((zE (eT aJ)) b),Y,Y,Y] (λr=>An.rt (oE aJ r)) (gj c b) (U (tW c b)):=R.tp (bJ 2 (eF (cM aJ) (zz S)) (λ_=>S) λa=>(Mu 1 b (LP S) (λa:(Z aF)=>[U ((zE (eT eS)) c),U ((zE (eT aJ)) b),U (oE aJ a),Y,Y]) a S _ (λ_ _=>S) (λ(a:Z aF) (d:aF)=>(Jk c b a d).r) λa=>(G3 2 (λr=>r) a S (λ_=>S) λ_=>S)))
theorem Uv:∀v bs,(aZ (eT eS) (aZ (eT aJ) aN)) v bs->bs.length=2/\(hold (U (tW v.1 v.2.1))->sW (bs.map lend)=U ((oE aJ) (gj v.1 v.2.1))):=by
 rintro⟨b,a,_⟩ _ ⟨_,rfl,⟨_,rfl,rfl⟩⟩;exact⟨rfl,λh=>dJ (g:=sV) (n:=5) (bs:=[.z (eT eS b),.z (eT aJ a)]) (Uu b a) h⟩
def bW:Nat->(Z aF)->AJ->AJ->(Z aF)->(O (Z aF))
 |0,_,_,_,_=>default
 |n+1,vk,vv,vx,zR=>(if(decide (vv=vx))=true then(U [])else(BG (jB (λ(d:Unit) (a:aF)=>((if((!sJ a zR)&&(decide (vv∈[(a.2.1,a.2.2.1).1,(a.2.1,a.2.2.1).2])))=true then(let c:=(at' [eI a.1,eS a.2.1,eS a.2.2.1,eI a.2.2.2] (1+(if(decide (a.2.1=vv))=true then(1:Int)else 0)));(let b:=(bW n vk (Al c) vx (zR++[a]));(if b.isSome=true then(jt.rt (U ([a]++(b.getD default))))else(jt.nx ()))))else(jt.nx ())):jt (Unit) (O (Z aF)))) vk ()) (λr=>r) λd:Unit=>Y))
def iG:Nat->(Z aF)->AJ->AJ->(Z aF)->Prop
 |0,_,_,_,_=>False
 |n+1,vk,vv,vx,zR=>((decide (vv=vx))=false->(uf (λ(d:Unit) (a:aF)=>((if((!sJ a zR)&&(decide (vv∈[(a.2.1,a.2.2.1).1,(a.2.1,a.2.2.1).2])))=true then(let c:=(at' [eI a.1,eS a.2.1,eS a.2.2.1,eI a.2.2.2] (1+(if(decide (a.2.1=vv))=true then(1:Int)else 0)));(let b:=(bW n vk (Al c) vx (zR++[a]));(if b.isSome=true then(jt.rt (U ([a]++(b.getD default))))else(jt.nx ()))))else(jt.nx ())):jt (Unit) (O (Z aF)))) (λ(d:Unit) (a:aF)=>U (((!sJ a zR)&&(decide (vv∈[(a.2.1,a.2.2.1).1,(a.2.1,a.2.2.1).2])))=true->(In [eI a.1,eS a.2.1,eS a.2.2.1,eI a.2.2.2].length (1+(if(decide (a.2.1=vv))=true then(1:Int)else 0))/\(let c:=(at' [eI a.1,eS a.2.1,eS a.2.2.1,eI a.2.2.2] (1+(if(decide (a.2.1=vv))=true then(1:Int)else 0)));(((c=eS (Al c)/\sy (zR.length+[a].length))/\(iG n vk (Al c) vx (zR++[a])))/\(let b:=(bW n vk (Al c) vx (zR++[a]));(b.isSome=true->(b.isSome=true/\sy ([a].length+(b.getD default).length))))))))) vk ()/\(sI (jB (λ(d:Unit) (a:aF)=>((if((!sJ a zR)&&(decide (vv∈[(a.2.1,a.2.2.1).1,(a.2.1,a.2.2.1).2])))=true then(let c:=(at' [eI a.1,eS a.2.1,eS a.2.2.1,eI a.2.2.2] (1+(if(decide (a.2.1=vv))=true then(1:Int)else 0)));(let b:=(bW n vk (Al c) vx (zR++[a]));(if b.isSome=true then(jt.rt (U ([a]++(b.getD default))))else(jt.nx ()))))else(jt.nx ())):jt (Unit) (O (Z aF)))) vk ()) λd:Unit=>True)))
def Ba(n:Nat)(j:∀v bs,(aL aJ (aZ eS (aZ eS (aL aJ aN)))) v bs->bs.length=4/\(hold (U (iG n v.1 v.2.1 v.2.2.1 v.2.2.2.1))->iw n (bs.map lend)=U ((zE (eO (eL aJ))) (bW n v.1 v.2.1 v.2.2.1 v.2.2.2.1))))(f:Z aF)(i:Lp dG (f.map aJ))(b:AJ)(vx:AJ)(d:Z aF){c:Bx}(g:Lp c (d.map aJ)):R (wD (iw n)) [U dG,U (zE eS b),U (zE eS vx),U c,Y,Y,Y] (λr=>An.rt ((zE (eO (eL aJ))) r)):=(o9 (eE (C3 (by decide) (aq 1 (zE eS) b S) (aq 2 (zE eS) vx S))) (bC (fQ (λr=>r) (GF (Mj (eF (cM aJ) (zz S)))) (λ_=>S) λ_=>S)) (bN (di 0 f (TY i S) (λe:Unit=>[U dG,U (zE eS b),U (zE eS vx),U c,Y,Y,Y]) () S _ (λ_ _=>S) (λ(e:Unit) (a:aF)=>((bC (o9 (VJ (eE (NR (by decide) (aq 4 (zE aJ) a S) (jA 3 aJ d g S))) (eE (GS (aq 1 (zE eS) b S) (Mo (du (aq 4 (zE aJ) a S) (λq=>(q.2.1,q.2.2.1)) uF (U 1) (U 3) S S λ_=>S) (λq=>[q.1,q.2]) (eT eS) λ_=>S)))) (bC (bJ 5 (SL (Mo (aq 4 (zE aJ) a S) (λq=>[eI q.1,eS q.2.1,eS q.2.2.1,eI q.2.2.2]) (eT eD) λ_=>S) (fP (B5 1) (TX (C3 (by decide) (nF (aq 4 (zE aJ) a S) (λq=>q.2.1) eS 1 λ_=>S) (aq 1 (zE eS) b S))))) (λ_=>S) λl=>(bC (bJ 6 (Ap j (wM (jA 0 aJ f i S) (bU (Ms (aq 5 (zE eD) l S) Al eS) (bU (aq 2 (zE eS) vx S) (wM (yV (Mj (vB (jA 3 aJ d g S) (gC (eF (bx (aq 4 (zE aJ) a S) (cM aJ)) (zz S)))))) bT))))) (λ_=>S) λh=>(bC (o9 (eE (Ei (aq 6 (zE (eO (eL aJ))) h S) λ_=>S)) (bC (fQ .rt (GF (Mj (vB (gC (eF (bx (aq 4 (zE aJ) a S) (cM aJ)) (zz S))) (yV (BL (aq 6 (zE (eO (eL aJ))) h S)))))) (λ_=>S) λ_=>S)) (bN (bN (bN (bG (.nx ()) S)))))))))) (bN (bN (bG (.nx ()) S))))):R _ _ (cC (λe:Unit=>[U dG,U (zE eS b),U (zE eS vx),U c,Y,Y,Y]) (zE (eO (eL aJ)))))) (λr=>r) (λ_=>S) λe=>(fQ (λr=>r) Tw (λ_=>S) λ_=>S))))
theorem Uw(n:Nat)(d:∀v bs,(aL aJ (aZ eS (aZ eS (aL aJ aN)))) v bs->bs.length=4/\(hold (U (iG n v.1 v.2.1 v.2.2.1 v.2.2.2.1))->iw n (bs.map lend)=U ((zE (eO (eL aJ))) (bW n v.1 v.2.1 v.2.2.1 v.2.2.2.1))))(b:Z aF)(g:Lp dG (b.map aJ))(c:AJ)(vx:AJ)(a:Z aF){f:Bx}(e:Lp f (a.map aJ)):(Ba n d b g c vx a e).v=bW (n+1) b c vx a:=by kernel_rfl
theorem Ux(n:Nat)(d:∀v bs,(aL aJ (aZ eS (aZ eS (aL aJ aN)))) v bs->bs.length=4/\(hold (U (iG n v.1 v.2.1 v.2.2.1 v.2.2.2.1))->iw n (bs.map lend)=U ((zE (eO (eL aJ))) (bW n v.1 v.2.1 v.2.2.1 v.2.2.2.1))))(b:Z aF)(g:Lp dG (b.map aJ))(c:AJ)(vx:AJ)(a:Z aF){f:Bx}(e:Lp f (a.map aJ)):(Ba n d b g c vx a e).D=U (iG (n+1) b c vx a):=by kernel_rfl
theorem wI:∀(n:Nat),∀v bs,(aL aJ (aZ eS (aZ eS (aL aJ aN)))) v bs->bs.length=4/\(hold (U (iG n v.1 v.2.1 v.2.2.1 v.2.2.2.1))->iw n (bs.map lend)=U ((zE (eO (eL aJ))) (bW n v.1 v.2.1 v.2.2.1 v.2.2.2.1)))
 |0=>by
  rintro⟨d,a,vx,b,_⟩ _ ⟨dG,_,rfl,e,⟨_,rfl,⟨_,rfl,⟨f,_,rfl,c,rfl⟩⟩⟩⟩;exact⟨rfl,λh=>absurd h id⟩
 |n+1=>by
  rintro⟨d,a,vx,b,_⟩ _ ⟨dG,_,rfl,e,⟨_,rfl,⟨_,rfl,⟨f,_,rfl,c,rfl⟩⟩⟩⟩;exact⟨rfl,λh=>(MG (g:=wD (iw n)) (n:=7) (bs:=[lend dG,.z (eS a),.z (eS vx),lend f]) (Ba n (wI n) d (o8 e) a vx b (o8 c)) ((congrArg hold (Ux n (wI n) d (o8 e) a vx b (o8 c))).mpr h)).trans (congrArg (λr=>U ((zE (eO (eL aJ))) r)) (Uw n (wI n) d (o8 e) a vx b (o8 c)))⟩
def jq(a:Dt)(c:AJ)(d:Int):Bool:=((lA a)&&(((decide ((1:Int)<=(TQ a)))&&(decide ((TQ a)<=d)))&&(((DB a).map λb:Dt=>(JF (Al b) c)).all id)))
def kj(a:Dt)(d:AJ)(c:Int):Prop:=((lA a)=true->((TV a=true/\((decide ((1:Int)<=(TQ a)))=true->TV a=true))/\(((decide ((1:Int)<=(TQ a)))&&(decide ((TQ a)<=c)))=true->((TV a=true/\(DB a).length<=100000)/\(∀b∈(DB a),b=eS (Al b))))))
theorem Nq(a:Dt)(b:AJ)(c:Int):RP nP [U (zE eD a),U (zE eS b),U (zE eI c)] (λr=>An.rt (zE eB r)) (jq a b c) (U (kj a b c)):=R.tp (fQ (λr=>r) (Ql (VY lA (aq 0 (zE eD) a S)) (Ql (i9 (N4 (B5 1) (OB (aq 0 (zE eD) a S))) (N4 (OB (aq 0 (zE eD) a S)) (aq 2 (zE eI) c S))) (NH (gC (Am (U' (aq 0 (zE eD) a S)) _ (λ_=>S) (λd:Dt=>(OZ (Ms (aq 1 (zE eD) d S) Al eS) (aq 0 (zE eS) b S)))))))) (λ_=>S) λ_=>S)
theorem Nr:∀v bs,(aZ eD (aZ eS (aZ eI aN))) v bs->bs.length=3/\(hold (U (kj v.1 v.2.1 v.2.2.1))->nQ (bs.map lend)=U ((zE eB) (jq v.1 v.2.1 v.2.2.1))):=by
 rintro⟨a,b,c,_⟩ _ ⟨_,rfl,⟨_,rfl,⟨_,rfl,rfl⟩⟩⟩;exact⟨rfl,λh=>dJ (g:=nP) (n:=3) (bs:=[.z (eD a),.z (eS b),.z (eI c)]) (Nq a b c) h⟩
def dI(a:Dt):Bool:=(jq a ("abcdefghijklmnopqrstuvwxyz":AJ) 8)
def rD(a:Dt):Prop:=(kj a ("abcdefghijklmnopqrstuvwxyz":AJ) 8)
theorem Ye(a:Dt):RP wF [U (zE eD a)] (λr=>An.rt (zE eB r)) (dI a) (U (rD a)):=R.tp (fQ (λr=>r) (Ap Nr (bU (aq 0 (zE eD) a S) (bU (DD "abcdefghijklmnopqrstuvwxyz") (bU (B5 8) bT)))) (λ_=>S) λ_=>S)
theorem Kf:∀v bs,(aZ eD aN) v bs->bs.length=1/\(hold (U (rD v.1))->lG (bs.map lend)=U ((zE eB) (dI v.1))):=by
 rintro⟨a,_⟩ _ ⟨_,rfl,rfl⟩;exact⟨rfl,λh=>dJ (g:=wF) (n:=1) (bs:=[.z (eD a)]) (Ye a) h⟩
def lK(b:fU)(a:AJ):Unit:=(if((!(dI (eS a)))||(!decide (a∈b.1)))=true then default else())
def eZ(b:fU)(a:AJ):Prop:=((rD (eS a))/\(((!(dI (eS a)))||(!decide (a∈b.1)))=true->False))
theorem Bb(b:fU)(a:AJ):RP jd [U (zE bV b),U (zE eS a)] (λ_:Unit=>An.nx [U (zE bV b),U (zE eS a)]) (lK b a) (U (eZ b a)):=R.tp (bC (o9 (FK (GP (Tz (Ap Kf (bU (GD (aq 1 (zE eS) a S)) bT)))) (eE (MU (aq 1 (zE eS) a S) (nF (aq 0 (zE bV) b S) (λq=>q.1) (eT eS) 0 λ_=>S)))) (bC SG) (bN (bN (bG () S)))))
theorem lM:∀v bs,(aZ bV (aZ eS aN)) v bs->bs.length=2/\(hold (U (eZ v.1 v.2.1))->bR (bs.map lend)=U ((zE eN) (lK v.1 v.2.1))):=by
 rintro⟨a,b,_⟩ _ ⟨_,rfl,⟨_,rfl,rfl⟩⟩;exact⟨rfl,λh=>UV (g:=jd) (n:=2) (bs:=[.z (bV a),.z (eS b)]) (Bb a b).r h⟩
def dN(b:AZ):(Z (AJ×AJ)):=(EU (b.map λa:AJ=>(a,a)))
def oK(a:AZ):Prop:=(a.length<1000/\a.length<=100000)
theorem Nt(a:AZ):RP nR [U ((zE (eT eS)) a)] (λr=>An.rt (mE eS r)) (dN a) (U (oK a)):=R.tp (fQ (λr=>r) (UM (IL (aq 0 (zE (eT eS)) a S)) (pN (IL (aq 0 (zE (eT eS)) a S)) _ (λ_=>S) (λb:AJ=>(ck (aq 0 (zE eS) b S) (aq 0 (zE eS) b S))) λ_=>S)) (λ_=>S) λ_=>S)
theorem Nu:∀v bs,(aZ (eT eS) aN) v bs->bs.length=1/\(hold (U (oK v.1))->nU (bs.map lend)=U ((mE eS) (dN v.1))):=by
 rintro⟨a,_⟩ _ ⟨_,rfl,rfl⟩;exact⟨rfl,λh=>dJ (g:=nR) (n:=1) (bs:=[.z (eT eS a)]) (Nt a) h⟩
def dw(d:AJ)(e:AJ)(c:AJ)(a:(Z (AJ×AJ)))(b:AJ):(Z (AJ×AJ)):=(let a:(Z (AJ×AJ)):=(if((decide ((look a b)=d))||(decide ((look a b)=e)))=true then(let a:=put a b c;a)else a);a)
def nA(c:AJ)(d:AJ)(e:AJ)(a:(Z (AJ×AJ)))(b:AJ):Prop:=((has a b=true/\((decide ((look a b)=c))=false->has a b=true))/\(((decide ((look a b)=c))||(decide ((look a b)=d)))=true->a.length<1000))
theorem Dj(d:AJ)(e:AJ)(c:AJ)(a:(Z (AJ×AJ)))(b:AJ):RP uo [U ((mW (U a_) eS) a),U (zE eS d),U (zE eS e),U (zE eS c),U (zE eS b)] (λs=>An.nx ((λa:(Z (AJ×AJ))=>[U ((mW (U a_) eS) a),U (zE eS d),U (zE eS e),U (zE eS c),Y]) s)) (dw d e c a b) (U (nA d e c a b)):=R.tp (bC (wV (λa:(Z (AJ×AJ))=>[U ((mW (U a_) eS) a),U (zE eS d),U (zE eS e),U (zE eS c),U (zE eS b)]) (FK (eE (C3 (by decide) (xW (aq 0 (nE eS) a S) (aq 4 (zE eS) b S)) (aq 1 (zE eS) d S))) (eE (C3 (by decide) (xW (aq 0 (nE eS) a S) (aq 4 (zE eS) b S)) (aq 2 (zE eS) e S)))) (bC (VR (U a_) 0 a S (aq 3 (zE eS) c S) (aq 4 (zE eS) b S) λa=>(bN (bG a S)))) (bN (bG a S)) λa=>(bN (bG a S))))
def kJ(a:(Z (AJ×AJ)))(b:AJ)(c:AJ):(Z (AJ×AJ)):=(let d:=(if Cf c b=true then c else b);(let a:(Z (AJ×AJ)):=((a.map (·.1)).foldl (λ(a:(Z (AJ×AJ))) (e:AJ)=>(dw b c d a e)) a);a))
def oM(a:(Z (AJ×AJ)))(b:AJ)(c:AJ):Prop:=(let e:=(if Cf c b=true then c else b);kY (λ(a:(Z (AJ×AJ))) (d:AJ)=>(dw b c e a d)) (λ(a:(Z (AJ×AJ))) (d:AJ)=>U (nA b c e a d)) (a.map (·.1)) a)
def tY(a:(Z (AJ×AJ)))(b:AJ)(c:AJ):R nW [U ((mW (U a_) eS) a),U (zE eS b),U (zE eS c),Y,Y] (λe=>An.nx [U ((mW (U a_) eS) e),U (zE eS b),U (zE eS c),Y,Y]):=(bC (bJ 3 (MH (aq 1 (zE eS) b S) (aq 2 (zE eS) c S)) (λ_=>S) λd=>(bC (G4 (λa:(Z (AJ×AJ))=>[U ((mW (U a_) eS) a),U (zE eS b),U (zE eS c),U (zE eS d),Y]) a S (GM (SA (aq 0 (nE eS) a S))) _ (λ_ _=>S) (λ(a:(Z (AJ×AJ))) (f:AJ)=>(Dj b c d a f).r) λa=>(bN (bG a S))))))
theorem Jl(b:(Z (AJ×AJ)))(a:AJ)(c:AJ):(tY (a_:=a_) b a c).v=kJ b a c:=by kernel_rfl
theorem Jm(b:(Z (AJ×AJ)))(a:AJ)(c:AJ):(tY (a_:=a_) b a c).D=U (oM b a c):=by kernel_rfl
theorem Nv:∀(b:(Z (AJ×AJ))) v bs,(aZ eS (aZ eS aN)) v bs->bs.length=2/\bs.all DZ=true/\(hold (U (oM b v.1 v.2.1))->∀a,j6 a (b.map λq=>(kS q.1,eS q.2)) bs=U ((kJ b v.1 v.2.1).map λq=>(kS q.1,eS q.2))):=by
 rintro b ⟨c,d,_⟩ _ ⟨_,rfl,⟨_,rfl,rfl⟩⟩;exact⟨rfl,rfl,λh a=>(c9 (g:=nW) (n:=5) (bs:=[.z (eS c),.z (eS d)]) (tY (a_:=a) b c d) ((congrArg hold (Jm (a_:=a) b c d)).mpr h) (λ_=>S)).trans (congrArg (λr:(Z (AJ×AJ))=>U (r.map λq=>(kS q.1,eS q.2))) (Jl (a_:=a) b c d))⟩
def dB(a:(Z (AJ×AJ))×(Z aF))(b:aF):(Z (AJ×AJ))×(Z aF):=(let d:=(look a.1 b.2.1);(let e:=(look a.1 b.2.2.1);(let c:(Z (AJ×AJ))×(Z aF):=(if(!decide (d=e))=true then(let g:=(kJ a.1 d e);(let f:=a.2++[b];(g,f)))else(a.1,a.2));(c.1,c.2))))
def jJ(a:(Z (AJ×AJ))×(Z aF))(b:aF):Prop:=(has a.1 b.2.1=true/\(let c:=(look a.1 b.2.1);(has a.1 b.2.2.1=true/\(let d:=(look a.1 b.2.2.1);((!decide (c=d))=true->((oM a.1 c d)/\(let e:=(kJ a.1 c d);sy a.2.length)))))))
theorem Dk(f:fU)(d:AZ)(h:Z aF)(g:Z qK)(a:(Z (AJ×AJ))×(Z aF))(b:aF):RP uq [U (zE bV f),U ((zE (eT eS)) d),U ((zE (eT aJ)) h),U ((zE (eT Ao)) g),U ((mE eS) a.1),U ((oE aJ) a.2),U (zE aJ b),Y,Y] (λs=>An.nx ((λa:(Z (AJ×AJ))×(Z aF)=>[U (zE bV f),U ((zE (eT eS)) d),U ((zE (eT aJ)) h),U ((zE (eT Ao)) g),U ((mE eS) a.1),U ((oE aJ) a.2),Y,Y,Y]) s)) (dB  a b) (U (jJ  a b)):=R.tp (bC (bJ 7 (xW (aq 4 (nE eS) a.1 S) (nF (aq 6 (zE aJ) b S) (λq=>q.2.1) eS 1 λ_=>S)) (λ_=>S) λe=>(bC (bJ 8 (xW (aq 4 (nE eS) a.1 S) (nF (aq 6 (zE aJ) b S) (λq=>q.2.2.1) eS 2 λ_=>S)) (λ_=>S) λi=>(bC (wV (λc:(Z (AJ×AJ))×(Z aF)=>[U (zE bV f),U ((zE (eT eS)) d),U ((zE (eT aJ)) h),U ((zE (eT Ao)) g),U ((mE eS) c.1),U ((oE aJ) c.2),U (zE aJ b),U (zE eS e),U (zE eS i)]) (eE (HL (by decide) (aq 7 (zE eS) e S) (aq 8 (zE eS) i S))) (bC (az Y 4 a.1 S Nv (bU (aq 7 (zE eS) e S) (bU (aq 8 (zE eS) i S) bT)) λl=>(bC (wU 5 a.2 S (aq 6 (zE aJ) b S) λj=>(bN (bG (l,j) S)))))) (bN (bG (a.1,a.2) S)) λc=>(bN (bG (c.1,c.2) S))))))))
def jr(c:fU):(Z aF):=(let q1:=c;(let e:=(dN q1.1);(let b:=([]:Z aF);(let a:(Z (AJ×AJ))×(Z aF):=(q1.2.1.foldl (λ(a:(Z (AJ×AJ))×(Z aF)) (d:aF)=>(dB  a d)) (e,b));a.2))))
def kO(d:fU):Prop:=(let q1:=d;((oK q1.1)/\(let e:=(dN q1.1);(let c:=([]:Z aF);kY (λ(a:(Z (AJ×AJ))×(Z aF)) (b:aF)=>(dB  a b)) (λ(a:(Z (AJ×AJ))×(Z aF)) (b:aF)=>U (jJ  a b)) q1.2.1 (e,c)))))
theorem Nx(b:fU):RP nY [U (zE bV b),Y,Y,Y,Y,Y,Y,Y,Y] (λr=>An.rt (oE aJ r)) (jr b) (U (kO b)):=R.tp (hW (aq 0 (zE bV) b S) _ (λ_=>S) λq1=>(bJ 4 (Ap Nu (bU (aq 1 (zE (eT eS)) q1.1 S) bT)) (λ_=>S) λe=>(bJ 5 (eF (cM aJ) (zz S)) (λ_=>S) λc=>(Mu 2 q1.2.1 (LP S) (λa:(Z (AJ×AJ))×(Z aF)=>[U (zE bV b),U ((zE (eT eS)) q1.1),U ((zE (eT aJ)) q1.2.1),U ((zE (eT Ao)) q1.2.2),U ((mE eS) a.1),U ((oE aJ) a.2),Y,Y,Y]) (e,c) S _ (λ_ _=>S) (λ(a:(Z (AJ×AJ))×(Z aF)) (d:aF)=>(Dk b q1.1 q1.2.1 q1.2.2 a d).r) λa=>(G3 5 (λr=>r) a.2 S (λ_=>S) λ_=>S)))))
theorem Ny:∀v bs,(aZ bV aN) v bs->bs.length=1/\(hold (U (kO v.1))->nZ (bs.map lend)=U ((oE aJ) (jr v.1))):=by
 rintro⟨a,_⟩ _ ⟨_,rfl,rfl⟩;exact⟨rfl,λh=>dJ (g:=nY) (n:=9) (bs:=[.z (bV a)]) (Nx a) h⟩
def aW(a:aF)(b:AJ):(O AJ):=(if(decide (a.2.1=b))=true then(U a.2.2.1)else(if(decide (a.2.2.1=b))=true then(U a.2.1)else Y))
theorem Rc(a:aF)(b:AJ):RP qg [U (zE aJ a),U (zE eS b)] (λr=>An.rt ((zE (eO eS)) r)) (aW a b) Y:=R.tp (o9 (eE (C3 (by decide) (nF (aq 0 (zE aJ) a S) (λq=>q.2.1) eS 1 λ_=>S) (aq 1 (zE eS) b S))) (bC (fQ (λr=>r) (GF (nF (aq 0 (zE aJ) a S) (λq=>q.2.2.1) eS 2 λ_=>S)) (λ_=>S) λ_=>S)) (bN (o9 (eE (C3 (by decide) (nF (aq 0 (zE aJ) a S) (λq=>q.2.2.1) eS 2 λ_=>S) (aq 1 (zE eS) b S))) (bC (fQ (λr=>r) (GF (nF (aq 0 (zE aJ) a S) (λq=>q.2.1) eS 1 λ_=>S)) (λ_=>S) λ_=>S)) (bN (fQ (λr=>r) Tw (λ_=>S) λ_=>S)))))
theorem Cq:∀v bs,(aZ aJ (aZ eS aN)) v bs->bs.length=2/\(hold (Y)->jQ (bs.map lend)=U ((zE (eO eS)) (aW v.1 v.2.1))):=by
 rintro⟨b,a,_⟩ _ ⟨_,rfl,⟨_,rfl,rfl⟩⟩;exact⟨rfl,λh=>dJ (g:=qg) (n:=2) (bs:=[.z (aJ b),.z (eS a)]) (Rc b a) h⟩
def eY(b:(Z (AJ×(O aF))))(a:(Z aF)×AJ):jt ((Z aF)×AJ) (Z aF):=(let d:=a.1++[((look b a.2).getD default)];(let c:=((aW ((look b a.2).getD default) a.2).getD default);(jt.nx (d,c))))
def jD(b:(Z (AJ×(O aF))))(a:(Z aF)×AJ):Prop:=(((has b a.2=true/\(look b a.2).isSome=true)/\sy a.1.length)/\(let c:=a.1++[((look b a.2).getD default)];((has b a.2=true/\(look b a.2).isSome=true)/\(aW ((look b a.2).getD default) a.2).isSome=true)))
theorem Jo(b:(Z (AJ×(O aF))))(val:AJ)(a:(Z aF)×AJ):RP w5 [U ((nE (eO aJ)) b),U (zE eS val),U ((oE aJ) a.1),U ((zE eS) a.2)] (cC (λa:(Z aF)×AJ=>[U ((nE (eO aJ)) b),U (zE eS val),U ((oE aJ) a.1),U ((zE eS) a.2)]) (oE aJ)) (eY b a ) (U (jD b a )):=R.tp (bC (wU 2 a.1 S (BL (xW (aq 0 (nE (eO aJ)) b S) (aq 3 (zE eS) a.2 S))) λc=>(bC (bJ 3 (BL (Ap Cq (bU (BL (xW (aq 0 (nE (eO aJ)) b S) (aq 3 (zE eS) a.2 S))) (bU (aq 3 (zE eS) a.2 S) bT)))) (λ_=>S) λd=>(bN (bG (.nx (c,d)) S))))))
def iU(b:(Z (AJ×(O aF))))(val:AJ):(Z aF):=(let c:=([]:Z aF);(let d:=val;(BG (J6 (λa:(Z aF)×AJ=>(look b a.2).isSome) (λa:(Z aF)×AJ=>((eY b a):jt ((Z aF)×AJ) (Z aF))) 70 (c,d)) (λr=>r) λa:(Z aF)×AJ=>a.1)))
def pG(b:(Z (AJ×(O aF))))(val:AJ):Prop:=(let d:=([]:Z aF);(let c:=val;(DH (λa:(Z aF)×AJ=>(look b a.2).isSome) (λa:(Z aF)×AJ=>U (has b a.2=true)) (λa:(Z aF)×AJ=>((eY b a):jt ((Z aF)×AJ) (Z aF))) (λa:(Z aF)×AJ=>U (jD b a)) 70 (d,c)/\(sI (J6 (λa:(Z aF)×AJ=>(look b a.2).isSome) (λa:(Z aF)×AJ=>((eY b a):jt ((Z aF)×AJ) (Z aF))) 70 (d,c)) λa:(Z aF)×AJ=>True))))
theorem Uy(b:(Z (AJ×(O aF))))(val:AJ):RP sX [U ((nE (eO aJ)) b),U (zE eS val),Y,Y] (λr=>An.rt (oE aJ r)) (iU b val) (U (pG b val)):=R.tp (bJ 2 (eF (cM aJ) (zz S)) (λ_=>S) λc=>(bJ 3 (aq 1 (zE eS) val S) (λ_=>S) λd=>(V0 70 (λa:(Z aF)×AJ=>[U ((nE (eO aJ)) b),U (zE eS val),U ((oE aJ) a.1),U ((zE eS) a.2)]) (c,d) S (λa:(Z aF)×AJ=>(eE (Ei (xW (aq 0 (nE (eO aJ)) b S) (aq 3 (zE eS) a.2 S)) λ_=>S))) (λa:(Z aF)×AJ=>((Jo b val a).r:R _ _ (cC (λa:(Z aF)×AJ=>[U ((nE (eO aJ)) b),U (zE eS val),U ((oE aJ) a.1),U ((zE eS) a.2)]) (oE aJ)))) (λr=>r) (λ_=>S) λa=>(G3 2 (λr=>r) a.1 S (λ_=>S) λ_=>S))))
theorem Uz:∀v bs,(aM (eO aJ) (aZ eS aN)) v bs->bs.length=2/\(hold (U (pG v.1 v.2.1))->sY (bs.map lend)=U ((oE aJ) (iU v.1 v.2.1))):=by
 rintro⟨a,val,_⟩ _ ⟨_,_,rfl,(rfl|rfl),⟨_,rfl,rfl⟩⟩
 all_goals exact⟨rfl,λh=>dJ (g:=sX) (n:=4) (bs:=[nE (eO aJ) a,.z (eS val)]) (Uy a val) h⟩
def dD(f:AJ)(a:(Z (AJ×(O aF)))×AZ)(d:aF):(Z (AJ×(O aF)))×AZ:=(let b:=(aW d f);(let c:(Z (AJ×(O aF)))×AZ:=(if(b.isSome&&(!has a.1 (b.getD default)))=true then(let g:=put a.1 (b.getD default) (U d);(let e:=a.2++[(b.getD default)];(g,e)))else(a.1,a.2));(c.1,c.2)))
def gQ(d:AJ)(b:(Z (AJ×(O aF)))×AZ)(c:aF):Prop:=(let a:=(aW c d);((a.isSome=true->a.isSome=true)/\((a.isSome&&(!has b.1 (a.getD default)))=true->((a.isSome=true/\b.1.length<1000)/\(let e:=put b.1 (a.getD default) (U c);(a.isSome=true/\sy b.2.length))))))
theorem Rf(h:Z aF)(j:Lp dG (h.map aJ))(f:AJ)(val:AJ)(b:AJ)(a:(Z (AJ×(O aF)))×AZ)(c:aF):RP Ci [U dG,U (zE eS f),U (zE eS val),U ((mE (eO aJ)) a.1),U ((oE eS) a.2),U (zE eS b),U (zE aJ c),Y] (λs=>An.nx ((λa:(Z (AJ×(O aF)))×AZ=>[U dG,U (zE eS f),U (zE eS val),U ((mE (eO aJ)) a.1),U ((oE eS) a.2),U (zE eS b),Y,Y]) s)) (dD b a c) (U (gQ b a c)):=R.tp (bC (bJ 7 (Ap Cq (bU (aq 6 (zE aJ) c S) (bU (aq 5 (zE eS) b S) bT))) (λ_=>S) λe=>(bC (wV (λd:(Z (AJ×(O aF)))×AZ=>[U dG,U (zE eS f),U (zE eS val),U ((mE (eO aJ)) d.1),U ((oE eS) d.2),U (zE eS b),U (zE aJ c),U ((zE (eO eS)) e)]) (VJ (eE (Ei (aq 7 (zE (eO eS)) e S) λ_=>S)) (eE (LD (BL (aq 7 (zE (eO eS)) e S)) (aq 3 (nE (eO aJ)) a.1 S)))) (bC (VR Y 3 a.1 S (GF (aq 6 (zE aJ) c S)) (BL (aq 7 (zE (eO eS)) e S)) λi=>(bC (wU 4 a.2 S (BL (aq 7 (zE (eO eS)) e S)) λg=>(bN (bG (i,g) S)))))) (bN (bG (a.1,a.2) S)) λd=>(bN (bG (d.1,d.2) S))))))
def gR(g:Z aF)(c:AZ×(Z (AJ×(O aF)))):jt (AZ×(Z (AJ×(O aF)))) (O (Z aF)):=(let b:=c.1;let d:=b.drop 1;let e:=at' b 0;(let a:(Z (AJ×(O aF)))×AZ:=(g.foldl (λ(a:(Z (AJ×(O aF)))×AZ) (f:aF)=>(dD e a f)) (c.2,d));(jt.nx (a.2,a.1))))
def qC(g:Z aF)(b:AZ×(Z (AJ×(O aF)))):Prop:=(((0:Int)=0/\0<b.1.length)/\(let e:=b.1;let f:=e.drop 1;let d:=at' e 0;kY (λ(a:(Z (AJ×(O aF)))×AZ) (c:aF)=>(dD d a c)) (λ(a:(Z (AJ×(O aF)))×AZ) (c:aF)=>U (gQ d a c)) g (b.2,f)))
theorem Rh(c:Z aF)(f:Lp dG (c.map aJ))(d:AJ)(val:AJ)(a:AZ×(Z (AJ×(O aF)))):RP Cj [U dG,U (zE eS d),U (zE eS val),U ((mE (eO aJ)) a.2),U ((oE eS) a.1),Y,Y,Y] (cC (λa:AZ×(Z (AJ×(O aF)))=>[U dG,U (zE eS d),U (zE eS val),U ((mE (eO aJ)) a.2),U ((oE eS) a.1),Y,Y,Y]) (qE aJ)) (gR c a ) (U (qC c a )):=R.tp (bC (PM 5 4 a.1 S (B5 0) λg e=>(bC (Mu 0 c (TY f S) (λb:(Z (AJ×(O aF)))×AZ=>[U dG,U (zE eS d),U (zE eS val),U ((mE (eO aJ)) b.1),U ((oE eS) b.2),U (zE eS e),Y,Y]) (a.2,g) S _ (λ_ _=>S) (λ(b:(Z (AJ×(O aF)))×AZ) (h:aF)=>(Rf c f d val e b h).r) λb=>(bN (bG (.nx (b.2,b.1)) S))))))
def dZ(d:Z aF)(b:AJ)(val:AJ):(O (Z aF)):=(let e:=([(b,Y)]:(Z (AJ×(O aF))));(let c:=[b];(BG (J6 (λa:AZ×(Z (AJ×(O aF)))=>(!a.1.isEmpty)) (λa:AZ×(Z (AJ×(O aF)))=>((gR d a):jt (AZ×(Z (AJ×(O aF)))) (O (Z aF)))) 70 (c,e)) (λr=>r) λa:AZ×(Z (AJ×(O aF)))=>(if(!has a.2 val)=true then Y else(U (iU a.2 val).reverse)))))
def vN(b:Z aF)(c:AJ)(val:AJ):Prop:=(let e:=([(c,Y)]:(Z (AJ×(O aF))));(let d:=[c];(DH (λa:AZ×(Z (AJ×(O aF)))=>(!a.1.isEmpty)) (λa:AZ×(Z (AJ×(O aF)))=>Y) (λa:AZ×(Z (AJ×(O aF)))=>((gR b a):jt (AZ×(Z (AJ×(O aF)))) (O (Z aF)))) (λa:AZ×(Z (AJ×(O aF)))=>U (qC b a)) 70 (d,e)/\(sI (J6 (λa:AZ×(Z (AJ×(O aF)))=>(!a.1.isEmpty)) (λa:AZ×(Z (AJ×(O aF)))=>((gR b a):jt (AZ×(Z (AJ×(O aF)))) (O (Z aF)))) 70 (d,e)) λa:AZ×(Z (AJ×(O aF)))=>((!has a.2 val)=false->(pG a.2 val))))))
theorem PD(c:Z aF)(f:Lp dG (c.map aJ))(b:AJ)(val:AJ):RP zG [U dG,U (zE eS b),U (zE eS val),Y,Y,Y,Y,Y] (λr=>An.rt (qE aJ r)) (dZ c b val) (U (vN c b val)):=R.tp (bJ 3 (PC (aq 1 (zE eS) b S) Tw) (λ_=>S) λg=>(bJ 4 (eF (bx (aq 1 (zE eS) b S) (cM eS)) (zz S)) (λ_=>S) λd=>(V0 70 (λa:AZ×(Z (AJ×(O aF)))=>[U dG,U (zE eS b),U (zE eS val),U ((mE (eO aJ)) a.2),U ((oE eS) a.1),Y,Y,Y]) (d,g) S (λa:AZ×(Z (AJ×(O aF)))=>(SW (cX (aq 4 (lE eS) a.1 S)))) (λa:AZ×(Z (AJ×(O aF)))=>((Rh c f b val a).r:R _ _ (cC (λa:AZ×(Z (AJ×(O aF)))=>[U dG,U (zE eS b),U (zE eS val),U ((mE (eO aJ)) a.2),U ((oE eS) a.1),Y,Y,Y]) (qE aJ)))) (λr=>r) (λ_=>S) λa=>(o9 (eE (LD (aq 2 (zE eS) val S) (aq 3 (nE (eO aJ)) a.2 S))) (bC (fQ (λr=>r) (hV (e:=aJ)) (λ_=>S) (λv=>by cases v<;>rfl))) (bN (fQ (λr=>r) (V8 (OE (gC (Ap Uz (cw (aq 3 (nE (eO aJ)) a.2 S) (bU (aq 2 (zE eS) val S) bT)))))) (λ_=>S) (λv=>by cases v<;>rfl)))))))
theorem hX:∀v bs,(aL aJ (aZ eS (aZ eS aN))) v bs->bs.length=3/\(hold (U (vN v.1 v.2.1 v.2.2.1))->zH (bs.map lend)=U ((qE aJ) (dZ v.1 v.2.1 v.2.2.1))):=by
 rintro⟨b,a,val,_⟩ _ ⟨dG,_,rfl,c,⟨_,rfl,⟨_,rfl,rfl⟩⟩⟩;exact⟨rfl,λh=>dJ (g:=zG) (n:=8) (bs:=[lend dG,.z (eS a),.z (eS val)]) (PD b (o8 c) a val) h⟩
def gJ(b:fU)(a:AJ)(c:AJ):(O (Z aF)):=(dZ (jr b) a c)
def lN(a:fU)(b:AJ)(c:AJ):Prop:=((eZ a b)/\((eZ a c)/\((kO a)/\(vN (jr a) b c))))
theorem Yg(a:fU)(b:AJ)(c:AJ):RP wG [U (zE bV a),U (zE eS b),U (zE eS c)] (λr=>An.rt (qE aJ r)) (gJ a b c) (U (lN a b c)):=R.tp (LV (Ap lM (bU (aq 0 (zE bV) a S) (bU (aq 1 (zE eS) b S) bT))) (LV (Ap lM (bU (aq 0 (zE bV) a S) (bU (aq 2 (zE eS) c S) bT))) (fQ (λr=>r) (Ap hX (wM (yV (Mj (Ap Ny (bU (aq 0 (zE bV) a S) bT)))) (bU (aq 1 (zE eS) b S) (bU (aq 2 (zE eS) c S) bT)))) (λ_=>S) (λv=>by cases v<;>rfl))))
theorem Bc:∀v bs,(aZ bV (aZ eS (aZ eS aN))) v bs->bs.length=3/\(hold (U (lN v.1 v.2.1 v.2.2.1))->oU (bs.map lend)=U ((qE aJ) (gJ v.1 v.2.1 v.2.2.1))):=by
 rintro⟨b,a,c,_⟩ _ ⟨_,rfl,⟨_,rfl,⟨_,rfl,rfl⟩⟩⟩;exact⟨rfl,λh=>dJ (g:=wG) (n:=3) (bs:=[.z (bV b),.z (eS a),.z (eS c)]) (Yg b a c) h⟩
def gU(d:fU)(vs:Z aF)(b:AJ)(vx:AJ):Bool:=(let a:=(bW fuel vs b vx []);(let c:=(gJ d b vx);(if((!decide (c=a))||(a.isSome&&(!c.isSome)))=true then false else(let e:=(gJ d vx b);(if a.isNone=true then e.isNone else(let c:=((c.getD []).map aJ++[.non]);((decide (e=(U (a.getD default).reverse)))&&(decide ((gJ d b vx)=a)))))))))
def jW(c:fU)(vs:Z aF)(a:AJ)(vx:AJ):Prop:=((iG fuel vs a vx [])/\(let d:=(bW fuel vs a vx []);((lN c a vx)/\(let b:=(gJ c a vx);(((!decide (b=d))||(d.isSome&&(!b.isSome)))=false->((lN c vx a)/\(let e:=(gJ c vx a);(d.isNone=false->((b.isSome=true/\sy (b.getD []).length)/\(let b:=((b.getD []).map aJ++[.non]);(d.isSome=true/\((decide (e=(U (d.getD default).reverse)))=true->(lN c a vx)))))))))))))
theorem Ri(b:fU)(vs:Z aF){f:Bx}(h:Lp f (vs.map aJ))(a:AJ)(vx:AJ):RP qj [U (zE bV b),U f,U (zE eS a),U (zE eS vx),Y,Y,Y] (λr=>An.rt (zE eB r)) (gU b vs a vx) (U (jW b vs a vx)):=R.tp (bJ 4 (Ap (wI fuel) (wM (jA 1 aJ vs h S) (bU (aq 2 (zE eS) a S) (bU (aq 3 (zE eS) vx S) (wM (yV (Mj (eF (cM aJ) (zz S)))) bT))))) (λ_=>S) λc=>(bJ 5 (Ap Bc (bU (aq 0 (zE bV) b S) (bU (aq 2 (zE eS) a S) (bU (aq 3 (zE eS) vx S) bT)))) (λv=>by cases v<;>rfl) λd=>(o9 (FK (eE (g5 (e:=aJ) (by decide) (MK 5 aJ d S) (aq 4 (zE (eO (eL aJ))) c S))) (VJ (eE (Ei (aq 4 (zE (eO (eL aJ))) c S) λ_=>S)) (GP (Tz (df (MK 5 aJ d S)))))) (bC (fQ (λr=>r) (yW (.bl false) eB false S) (λ_=>S) λ_=>S)) (bN (bJ 6 (Ap Bc (bU (aq 0 (zE bV) b S) (bU (aq 3 (zE eS) vx S) (bU (aq 2 (zE eS) a S) bT)))) (λv=>by cases v<;>rfl) λg=>(o9 (eE (iL (aq 4 (zE (eO (eL aJ))) c S) λ_=>S)) (bC (fQ (λr=>r) (SC (MK 6 aJ g S)) (λ_=>S) λ_=>S)) (bN (l5 5 d S λd=>(fQ (λr=>r) (Ql (MO (e:=aJ) (by decide) (MK 6 aJ g S) (V8 (OE (yV (BL (aq 4 (zE (eO (eL aJ))) c S)))))) (MO (e:=aJ) (by decide) (Ap Bc (bU (aq 0 (zE bV) b S) (bU (aq 2 (zE eS) a S) (bU (aq 3 (zE eS) vx S) bT)))) (aq 4 (zE (eO (eL aJ))) c S))) (λ_=>S) λ_=>S)))))))))
theorem Rj:∀v bs,(aZ bV (aL aJ (aZ eS (aZ eS aN)))) v bs->bs.length=4/\(hold (U (jW v.1 v.2.1 v.2.2.1 v.2.2.2.1))->qm (bs.map lend)=U ((zE eB) (gU v.1 v.2.1 v.2.2.1 v.2.2.2.1))):=by
 rintro⟨a,vs,b,vx,_⟩ _ ⟨_,rfl,⟨c,_,rfl,d,⟨_,rfl,⟨_,rfl,rfl⟩⟩⟩⟩;exact⟨rfl,λh=>dJ (g:=qj) (n:=7) (bs:=[.z (bV a),lend c,.z (eS b),.z (eS vx)]) (Ri a vs (o8 d) b vx) h⟩
def cF(b:AZ):DV:=(let c:=Ug;((c++((cut b Y (U 1)).map λa:AJ=>(eS (a++("q":AJ)))))++((cut b Y (U 1)).map λa:AJ=>((eL eS) [a]))))
def jK(b:AZ):Prop:=(let c:=Ug;(((((cut b Y (U 1)).length<=100000/\(∀a∈(cut b Y (U 1)),sy (a.length+("q":AJ).length)))/\sy (c.length+((cut b Y (U 1)).map λa:AJ=>(eS (a++("q":AJ)))).length))/\(cut b Y (U 1)).length<=100000)/\sy ((c++((cut b Y (U 1)).map λa:AJ=>(eS (a++("q":AJ))))).length+((cut b Y (U 1)).map λa:AJ=>((eL eS) [a])).length)))
theorem Dm(a:AZ)(c:Lp dG (a.map eS)):RP jF [U dG,Y] (λr=>An.rt (oE eD r)) (cF a) (U (jK a)):=R.tp (bJ 1 (eF (bx (D6 .non) (bx (D6 (.bl true)) (bx (D6 (.int 0)) (bx (D6 (.str "")) (bx (D6 (.str "Zz")) (bx (GD (Mj (eF (bx (DD "a") (cM eS)) (zz S)))) (bx (yW .emp eD .emp S) (bx (g9 (bx (D6 (.str "a")) (cM eD)) (zz S)) (bx (D6 (.str "aaaaaaaaaaaaaaaaaaaa")) (bx (D6 (.int 1)) (cM eD))))))))))) (zz S)) (λ_=>S) λd=>(fQ (λr=>r) (vB (gC (vB (cX (aq 1 (lE eD) d S)) (gC (Am (GZ (gC (TJ (jA 0 eS a c S) xU (xV (B5 1))))) _ (λ_=>S) (λb:AJ=>(GD (jP (sE (aq 0 (zE eS) b S) (DD "q"))))))))) (gC (pN (GZ (gC (TJ (jA 0 eS a c S) xU (xV (B5 1))))) _ (λ_=>S) (λb:AJ=>(GD (Mj (eF (bx (aq 0 (zE eS) b S) (cM eS)) (zz S))))) λ_=>S))) (λ_=>S) λ_=>S))
theorem Dp:∀v bs,(aL eS aN) v bs->bs.length=1/\(hold (U (jK v.1))->jG (bs.map lend)=U ((oE eD) (cF v.1))):=by
 rintro⟨a,_⟩ _ ⟨dG,_,rfl,b,rfl⟩;exact⟨rfl,λh=>dJ (g:=jF) (n:=2) (bs:=[lend dG]) (Dm a (o8 b)) h⟩
def kW(a:AJ)(f:Int)(d:Int):AJ:=(let c:=("abcdefghijklmnopqrstuvwxyz0123456789 ABCDEFGHIJKLMNOPQRSTUVWXYZ":AJ);(let c:=(c++("!#$&'()*+,-./:;<=>?\x40[]^_`{|}~\"\\":AJ));(let e:=(ch c ((d / (6:Int))%(at' [(36:Int),(94:Int)] ((d / (3:Int))%2))));(let b:=(f%((a.length:Int)+1));(at' [(((Txt.slice a Y (U b))++e)++(Txt.slice a (U b) Y)),(((Txt.slice a Y (U b))++e)++(Txt.slice a (U (b+1)) Y)),((Txt.slice a Y (U b))++(Txt.slice a (U (b+1)) Y))] (d%3))))))
def oO(a:AJ)(f:Int)(c:Int):Prop:=(let e:=("abcdefghijklmnopqrstuvwxyz0123456789 ABCDEFGHIJKLMNOPQRSTUVWXYZ":AJ);(sy (e.length+("!#$&'()*+,-./:;<=>?\x40[]^_`{|}~\"\\":AJ).length)/\(let e:=(e++("!#$&'()*+,-./:;<=>?\x40[]^_`{|}~\"\\":AJ));(((In [(36:Int),(94:Int)].length ((c / (3:Int))%2)/\0<(at' [(36:Int),(94:Int)] ((c / (3:Int))%2)))/\In e.length ((c / (6:Int))%(at' [(36:Int),(94:Int)] ((c / (3:Int))%2))))/\(let d:=(ch e ((c / (6:Int))%(at' [(36:Int),(94:Int)] ((c / (3:Int))%2))));(0<((a.length:Int)+1)/\(let b:=(f%((a.length:Int)+1));(((sy ((Txt.slice a Y (U b)).length+d.length)/\sy (((Txt.slice a Y (U b))++d).length+(Txt.slice a (U b) Y).length))/\((sy ((Txt.slice a Y (U b)).length+d.length)/\sy (((Txt.slice a Y (U b))++d).length+(Txt.slice a (U (b+1)) Y).length))/\sy ((Txt.slice a Y (U b)).length+(Txt.slice a (U (b+1)) Y).length)))/\In [(((Txt.slice a Y (U b))++d)++(Txt.slice a (U b) Y)),(((Txt.slice a Y (U b))++d)++(Txt.slice a (U (b+1)) Y)),((Txt.slice a Y (U b))++(Txt.slice a (U (b+1)) Y))].length (c%3)))))))))
theorem Nz(a:AJ)(d:Int)(c:Int):RP n6 [U (zE eS a),U (zE eI d),U (zE eI c),Y,Y,Y] (λr=>An.rt (zE eS r)) (kW a d c) (U (oO a d c)):=R.tp (bJ 3 (DD "abcdefghijklmnopqrstuvwxyz0123456789 ABCDEFGHIJKLMNOPQRSTUVWXYZ") (λ_=>S) λe=>(bJ 3 (sE (aq 3 (zE eS) e S) (DD "!#$&'()*+,-./:;<=>?\x40[]^_`{|}~\"\\")) (λ_=>S) λe=>(bJ 4 (Qm (aq 3 (zE eS) e S) (vA (su (aq 2 (zE eI) c S) 6 (by decide)) (d9 (gC (eF (bx (B5 36) (bx (B5 94) (cM eI))) (zz S))) (cQ (su (aq 2 (zE eI) c S) 3 (by decide)) 2 (by decide))))) (λ_=>S) λf=>(bJ 5 (vA (aq 1 (zE eI) d S) (fP (NW (aq 0 (zE eS) a S)) (B5 1))) (λ_=>S) λb=>(fQ (λr=>r) (d9 (gC (eF (bx (jP (sE (sE (BP (aq 0 (zE eS) a S) xU (xV (aq 5 (zE eI) b S))) (aq 4 (zE eS) f S)) (BP (aq 0 (zE eS) a S) (xV (aq 5 (zE eI) b S)) xU))) (bx (jP (sE (sE (BP (aq 0 (zE eS) a S) xU (xV (aq 5 (zE eI) b S))) (aq 4 (zE eS) f S)) (BP (aq 0 (zE eS) a S) (xV (fP (aq 5 (zE eI) b S) (B5 1))) xU))) (bx (jP (sE (BP (aq 0 (zE eS) a S) xU (xV (aq 5 (zE eI) b S))) (BP (aq 0 (zE eS) a S) (xV (fP (aq 5 (zE eI) b S) (B5 1))) xU))) (cM eS)))) (zz S))) (cQ (aq 2 (zE eI) c S) 3 (by decide))) (λ_=>S) λ_=>S)))))
theorem NK:∀v bs,(aZ eS (aZ eI (aZ eI aN))) v bs->bs.length=3/\(hold (U (oO v.1 v.2.1 v.2.2.1))->n8 (bs.map lend)=U ((zE eS) (kW v.1 v.2.1 v.2.2.1))):=by
 rintro⟨c,a,b,_⟩ _ ⟨_,rfl,⟨_,rfl,⟨_,rfl,rfl⟩⟩⟩;exact⟨rfl,λh=>dJ (g:=n6) (n:=6) (bs:=[.z (eS c),.z (eI a),.z (eI b)]) (Nz c a b) h⟩
def jE(a:fU)(b:Dt)(vx:Dt)(c:Dt):Bool:=true
def Hy(b:fU)(a:Dt):Bool:=((!(dI a))||(!decide ((Al a)∈b.1)))
def F5(b:fU)(a:Dt):Prop:=((rD a)/\((!(dI a))=false->a=eS (Al a)))
def iH(a:fU)(c:Dt)(vx:Dt)(b:Dt):Prop:=b=b/\BT (.z b) (.z b)=U (.z (.bl true))/\F5 a c/\((Hy a c=true/\b=c)\/(Hy a c=false/\eZ a (Al c)/\F5 a vx/\Hy a vx=true/\b=vx))
theorem Sk(c:fU)(a:Dt):RP HM [U (zE bV c),U (zE eD a)] (λb=>b) (Hy c a) (U (F5 c a)):=R.tp (FK (GP (Tz (Ap Kf (bU (aq 1 (zE eD) a S) bT)))) (eE (MU (Ms (aq 1 (zE eD) a S) Al eS) (nF (aq 0 (zE bV) c S) (λq=>q.1) (eT eS) 0 λ_=>S))))
theorem Mb{b:fU}{a:Dt}(h:F5 b a):nG 2 rA [.z (bV b),.z a]=if Hy b a=true then U a else Y:=by
 have e:HM [U (.z (bV b)),U (.z a)]=U (Hy b a):=Sk b a h;show rA [U (.z (bV b)),U (.z a)]=_;unfold rA HP;rw[e];rfl
theorem qM:∀v bs,(aZ bV (aZ eD (aZ eD (aZ eD aN)))) v bs->bs.length=4/\(hold (U (iH v.1 v.2.1 v.2.2.1 v.2.2.2.1))->dM (bs.map lend)=U ((zE eB) (jE v.1 v.2.1 v.2.2.1 v.2.2.2.1))):=by
 rintro⟨b,a,vx,e,_⟩ _ ⟨_,rfl,⟨_,rfl,⟨_,rfl,⟨_,rfl,rfl⟩⟩⟩⟩;refine⟨rfl,λh=>?_⟩;obtain⟨_,i,h1,h2⟩:iH b a vx e:=h;have ex:nG 3 Ck [.z (bV b),.z a,.z vx]=U e:=by
  show Ck [U (.z (bV b)),U (.z a),U (.z vx)]=_;unfold Ck EA;have e1:=Mb h1;have c1:Kc 2 (nG 2 rA) (ao (gv 0) (ao (gv 1) aH)) [U (.z (bV b)),U (.z a),U (.z vx)]=nG 2 rA [.z (bV b),.z a]:=rfl;rw[c1,e1];rcases h2 with⟨c,rfl⟩|⟨c,d,e2,c2,rfl⟩
  ·rw[c];rfl
  ·rw[c];have ev:a=eS (Al a):=h1.2 (by unfold Hy at c;cases q:dI a with|true=>rfl|false=>rw[q]at c;cases c);have fr:bR [.z (bV b),.z (eS (Al a))]=U ((zE eN) (lK b (Al a))):=(lM (b,Al a,()) [.z (bV b),.z (eS (Al a))] ⟨_,rfl,⟨_,rfl,rfl⟩⟩).2 d;have f:Kc 2 (nG 2 rA) (ao (gv 0) (ao (gv 2) aH)) [U (.z (bV b)),U (.z a),U (.z e)]=nG 2 rA [.z (bV b),.z e]:=rfl;have g:BK (cj 2 bR (ao (gv 0) (ao (gv 1) aH))) [U (.z (bV b)),U (.z a),U (.z e)]=U (.nx [U (.z (bV b)),U (.z a),U (.z e)]):=by
    have c3:cj 2 bR (ao (gv 0) (ao (gv 1) aH)) [U (.z (bV b)),U (.z a),U (.z e)]=bR [.z (bV b),.z a]:=rfl;unfold BK;rw[c3,ev,fr];rfl
   show V6 _ _ _=_;unfold V6;rw[g];show Kc 2 (nG 2 rA) (ao (gv 0) (ao (gv 2) aH)) [U (.z (bV b)),U (.z a),U (.z e)]=U e;rw[f,Mb e2,c2];rfl
 show((nG 3 Ck [.z (bV b),.z a,.z vx]).bind λd=>(BT (.z d) (.z e)).bind QF)=U (.z (.bl true));rw[ex];show(BT (.z e) (.z e)).bind QF=_;rw[i];rfl
def lO(b:fU)(a:Dt)(c:AJ):Bool:=((jE b a (eS c) a)&&(jE b (eS c) a a))
def lQ(b:fU)(a:Dt)(c:AJ):Prop:=((iH b a (eS c) a)/\((jE b a (eS c) a)=true->(iH b (eS c) a a)))
theorem Bd(b:fU)(a:Dt)(c:AJ):RP je [U (zE bV b),U (zE eD a),U (zE eS c)] (λr=>An.rt (zE eB r)) (lO b a c) (U (lQ b a c)):=R.tp (fQ (λr=>r) (Ql (Ap qM (bU (aq 0 (zE bV) b S) (bU (aq 1 (zE eD) a S) (bU (GD (aq 2 (zE eS) c S)) (bU (aq 1 (zE eD) a S) bT))))) (Ap qM (bU (aq 0 (zE bV) b S) (bU (GD (aq 2 (zE eS) c S)) (bU (aq 1 (zE eD) a S) (bU (aq 1 (zE eD) a S) bT)))))) (λ_=>S) λ_=>S)
theorem Bf:∀v bs,(aZ bV (aZ eD (aZ eS aN))) v bs->bs.length=3/\(hold (U (lQ v.1 v.2.1 v.2.2.1))->jf (bs.map lend)=U ((zE eB) (lO v.1 v.2.1 v.2.2.1))):=by
 rintro⟨a,c,b,_⟩ _ ⟨_,rfl,⟨_,rfl,⟨_,rfl,rfl⟩⟩⟩;exact⟨rfl,λh=>dJ (g:=je) (n:=3) (bs:=[.z (bV a),.z (eD c),.z (eS b)]) (Bd a c b) h⟩
def rE(b:AZ)(a:Z nJ)(c:AJ):(Z nJ):=(let a:=a++(b.map λvx:AJ=>(c,vx));a)
def Hz(a:AZ)(b:Z nJ)(c:AJ):Prop:=(a.length<=100000/\sy (b.length+(a.map λvx:AJ=>(c,vx)).length))
theorem Y1(h:B7)(i:Lp dG (h.map eI))(d:fU)(b:AZ)(vs:Z aF)(f:B7)(e:Int)(g:Int)(a:Z nJ)(c:AJ):RP QG [U dG,U (zE bV d),U (oE eS b),U (oE aJ vs),U (oE eI f),U (zE eI e),U (zE eI g),U (oE uF a),U (zE eS c),Y,Y,Y,Y,Y,Y] (λs=>An.nx ((λa:(Z nJ)=>[U dG,U (zE bV d),U (oE eS b),U (oE aJ vs),U (oE eI f),U (zE eI e),U (zE eI g),U (oE uF a),Y,Y,Y,Y,Y,Y,Y]) s)) (rE b a c) (U (Hz b a c)):=R.tp (bC (cz 7 a S (pN (GZ (cX (aq 2 (lE eS) b S))) _ (λ_=>S) (λvx:AJ=>(bb (aq 0 (zE eS) c S) (aq 1 (zE eS) vx S))) λ_=>S) λa=>(bN (bG a S))))
def vP(b:fU)(a:Dt)(d:Unit)(c:Dt):jt (Unit) Bool:=(if(!(jE b a c a))=true then(jt.rt false)else(jt.nx ()))
def HB(b:fU)(a:Dt)(d:Unit)(c:Dt):Prop:=(iH b a c a)
theorem OK(n:B7)(o:Lp dG (n.map eI))(b:fU)(i:AZ)(vs:Z aF)(l:B7)(g:Int)(m:Int)(f:Z nJ)(h:DV)(e:Int)(a:Dt)(j:Dt)(d:Unit)(c:Dt):RP QH [U dG,U (zE bV b),U (oE eS i),U (oE aJ vs),U (oE eI l),U (zE eI g),U (zE eI m),U (oE uF f),Y,U ((zE (eL eD)) h),U (zE eI e),U (zE eD a),U (zE eD j),U (zE eD c),Y] (cC (λd:Unit=>[U dG,U (zE bV b),U (oE eS i),U (oE aJ vs),U (oE eI l),U (zE eI g),U (zE eI m),U (oE uF f),Y,U ((zE (eL eD)) h),U (zE eI e),U (zE eD a),U (zE eD j),Y,Y]) (zE eB)) (vP b a d c) (U (HB b a d c)):=R.tp (bC (o9 (GP (Tz (Ap qM (bU (aq 1 (zE bV) b S) (bU (aq 11 (zE eD) a S) (bU (aq 13 (zE eD) c S) (bU (aq 11 (zE eD) a S) bT))))))) (bC (fQ .rt (yW (.bl false) eB false S) (λ_=>S) λ_=>S)) (bN (bN (bG (.nx ()) S)))))
def mO(b:fU)(a:AZ)(e:B7)(d:DV)(i:Unit)(q2:CV):jt (Unit) Bool:=(if(!Iv q2.2 (a.map eS))=true then(let f:=(at' d (((q2.1+1)+((at' e 4)%9))%(d.length:Int)));(BG (jB (λ(c:Unit) (h:Dt)=>((vP b q2.2 c h):jt (Unit) Bool)) [(Dt.str "other"),q2.2,f] ()) (λr=>jt.rt r) λc:Unit=>(let g:=(at' (a++[("":AJ)]) ((at' e 5)%(if(a.length:Int)>1 then(a.length:Int)else 1)));(if((!decide (a=([]:AZ)))&&(!(lO b q2.2 g)))=true then(jt.rt false)else(jt.nx ())))))else(jt.nx ()))
def vQ(f:fU)(a:AZ)(c:B7)(d:DV)(i:Unit)(q2:CV):Prop:=(XF q2.2 (a.map eS)/\((!Iv q2.2 (a.map eS))=true->(((In c.length 4/\0<(d.length:Int))/\In d.length (((q2.1+1)+((at' c 4)%9))%(d.length:Int)))/\(let g:=(at' d (((q2.1+1)+((at' c 4)%9))%(d.length:Int)));(uf (λ(b:Unit) (e:Dt)=>((vP f q2.2 b e):jt (Unit) Bool)) (λ(b:Unit) (e:Dt)=>U (HB f q2.2 b e)) [(Dt.str "other"),q2.2,g] ()/\(sI (jB (λ(b:Unit) (e:Dt)=>((vP f q2.2 b e):jt (Unit) Bool)) [(Dt.str "other"),q2.2,g] ()) λb:Unit=>(((sy (a.length+[("":AJ)].length)/\(In c.length 5/\0<(if(a.length:Int)>1 then(a.length:Int)else 1)))/\In (a++[("":AJ)]).length ((at' c 5)%(if(a.length:Int)>1 then(a.length:Int)else 1)))/\(let h:=(at' (a++[("":AJ)]) ((at' c 5)%(if(a.length:Int)>1 then(a.length:Int)else 1)));((!decide (a=([]:AZ)))=true->(lQ f q2.2 h))))))))))
theorem gT(l:B7)(m:Lp dG (l.map eI))(d:fU)(a:AZ)(vs:Z aF)(c:B7)(f:Int)(g:Int)(e:Z nJ)(b:DV)(j:Unit)(q2:CV):RP QJ [U dG,U (zE bV d),U (oE eS a),U (oE aJ vs),U (oE eI c),U (zE eI f),U (zE eI g),U (oE uF e),Y,U ((zE (eL eD)) b),U ((zE eI) q2.1),U ((zE eD) q2.2),Y,Y,Y] (cC (λj:Unit=>[U dG,U (zE bV d),U (oE eS a),U (oE aJ vs),U (oE eI c),U (zE eI f),U (zE eI g),U (oE uF e),Y,U ((zE (eL eD)) b),Y,Y,Y,Y,Y]) (zE eB)) (mO d a c b j q2) (U (vQ d a c b j q2)):=R.tp (bC (o9 (eE (VM (aq 11 (zE eD) q2.2 S) (cX (aq 2 (lE eS) a S)))) (bC (bJ 12 (d9 (yV (aq 9 (zE (eL eD)) b S)) (vA (fP (fP (aq 10 (zE eI) q2.1 S) (B5 1)) (cQ (d9 (cX (aq 4 (lE eI) c S)) (B5 4)) 9 (by decide))) (Bn (yV (aq 9 (zE (eL eD)) b S))))) (λ_=>S) λi=>(bC (NV (λh:Unit=>[U dG,U (zE bV d),U (oE eS a),U (oE aJ vs),U (oE eI c),U (zE eI f),U (zE eI g),U (oE uF e),Y,U ((zE (eL eD)) b),U ((zE eI) q2.1),U ((zE eD) q2.2),U (zE eD i),Y,Y]) () S (GM (eF (bx (D6 (.str "other")) (bx (aq 11 (zE eD) q2.2 S) (bx (aq 12 (zE eD) i S) (cM eD)))) (zz S))) _ (λ_ _=>S) (λ(h:Unit) (o:Dt)=>((OK l m d a vs c f g e b q2.1 q2.2 i h o).r:R _ _ (cC (λh:Unit=>[U dG,U (zE bV d),U (oE eS a),U (oE aJ vs),U (oE eI c),U (zE eI f),U (zE eI g),U (oE uF e),Y,U ((zE (eL eD)) b),U ((zE eI) q2.1),U ((zE eD) q2.2),U (zE eD i),Y,Y]) (zE eB)))) .rt (λ_=>S) λh=>(bC (bJ 14 (d9 (gC (vB (cX (aq 2 (lE eS) a S)) (gC (eF (bx (DD "") (cM eS)) (zz S))))) (vA (d9 (cX (aq 4 (lE eI) c S)) (B5 5)) (BR (B5 1) (Bn (cX (aq 2 (lE eS) a S)))))) (λ_=>S) λn=>(bC (o9 (VJ (eE (He (by decide) (cX (aq 2 (lE eS) a S)) (gC (eF (cM eS) (zz S))))) (GP (Tz (Ap Bf (bU (aq 1 (zE bV) d S) (bU (aq 11 (zE eD) q2.2 S) (bU (aq 14 (zE eS) n S) bT))))))) (bC (fQ .rt (yW (.bl false) eB false S) (λ_=>S) λ_=>S)) (bN (bN (bN (bG (.nx ()) S)))))))))))) (bN (bN (bG (.nx ()) S)))))
def Rk(f:B7):Bool:=(let c:=(iT f);(let a:=c.1;(let vs:=(gj c.1 c.2.1);(let e:=(cut (aR (aV f 0) 18) (U 12) Y);(let h:=((at' e 0)%(if(a.length:Int)>1 then(a.length:Int)else 1));(let l:=(at' [(100:Int),(40:Int)] (if(decide ((14:Int)<(a.length:Int)))=true then(1:Int)else 0));(let d:=([]:Z nJ);(let d:(Z nJ):=(((cut a (U h) Y)++(cut a Y (U h))).foldl (λ(d:Z nJ) (j:AJ)=>(rE a d j)) d);(if(!(((cut d Y (U l)).map λg:nJ=>(gU c vs g.1 g.2)).all id))=true then false else(let b:=(cF a);(let b:DV:=(if(!decide (a=([]:AZ)))=true then(let b:=b++[(eS (kW (at' a ((at' e 1)%(a.length:Int))) (at' e 2) (at' e 3)))];b)else b);(BG (jB (λ(i:Unit) (q2:CV)=>((mO c a e b i q2):jt (Unit) Bool)) (wW b) ()) (λr=>r) λi:Unit=>true))))))))))))
def Rm(h:B7):Prop:=((mL h)/\(let e:=(iT h);(let a:=e.1;((tW e.1 e.2.1)/\(let vs:=(gj e.1 e.2.1);(((f9 h 0)/\(eU (aV h 0) 18))/\(let b:=(cut (aR (aV h 0) 18) (U 12) Y);((In b.length 0/\0<(if(a.length:Int)>1 then(a.length:Int)else 1))/\(let f:=((at' b 0)%(if(a.length:Int)>1 then(a.length:Int)else 1));(In [(100:Int),(40:Int)].length (if(decide ((14:Int)<(a.length:Int)))=true then(1:Int)else 0)/\(let l:=(at' [(100:Int),(40:Int)] (if(decide ((14:Int)<(a.length:Int)))=true then(1:Int)else 0));(let c:=([]:Z nJ);((sy ((cut a (U f) Y).length+(cut a Y (U f)).length)/\kY (λ(c:Z nJ) (j:AJ)=>(rE a c j)) (λ(c:Z nJ) (j:AJ)=>U (Hz a c j)) ((cut a (U f) Y)++(cut a Y (U f))) c)/\(let c:(Z nJ):=(((cut a (U f) Y)++(cut a Y (U f))).foldl (λ(c:Z nJ) (j:AJ)=>(rE a c j)) c);(((cut c Y (U l)).length<=100000/\(∀i∈(cut c Y (U l)),(jW e vs i.1 i.2)))/\((!(((cut c Y (U l)).map λi:nJ=>(gU e vs i.1 i.2)).all id))=false->((jK a)/\(let d:=(cF a);(((!decide (a=([]:AZ)))=true->(((((In b.length 1/\0<(a.length:Int))/\In a.length ((at' b 1)%(a.length:Int)))/\(In b.length 2/\In b.length 3))/\(oO (at' a ((at' b 1)%(a.length:Int))) (at' b 2) (at' b 3)))/\sy d.length))/\(let d:DV:=(if(!decide (a=([]:AZ)))=true then(let d:=d++[(eS (kW (at' a ((at' b 1)%(a.length:Int))) (at' b 2) (at' b 3)))];d)else d);(uf (λ(g:Unit) (q2:CV)=>((mO e a b d g q2):jt (Unit) Bool)) (λ(g:Unit) (q2:CV)=>U (vQ e a b d g q2)) (wW d) ()/\(sI (jB (λ(g:Unit) (q2:CV)=>((mO e a b d g q2):jt (Unit) Bool)) (wW d) ()) λg:Unit=>True))))))))))))))))))))))
theorem aE(h:B7)(j:Lp dG (h.map eI)):RP V9 [U dG,Y,Y,Y,Y,Y,Y,Y,Y,Y,Y,Y,Y,Y,Y] (λr=>An.rt (zE eB r)) (Rk h) (U (Rm h)):=R.tp (bJ 1 (Ap Q9 (wM (jA 0 eI h j S) bT)) (λ_=>S) λd=>(bJ 2 (Wl (nF (aq 1 (zE bV) d S) (λq=>q.1) (eT eS) 0 λ_=>S)) (λ_=>S) λa=>(bJ 3 (Ap Uv (bU (nF (aq 1 (zE bV) d S) (λq=>q.1) (eT eS) 0 λ_=>S) (bU (nF (aq 1 (zE bV) d S) (λq=>q.2.1) (eT aJ) 1 λ_=>S) bT))) (λ_=>S) λvs=>(bJ 4 (TJ (gC (Ap jC (bU (jP (Ap pC (wM (jA 0 eI h j S) (bU (B5 0) bT)))) (bU (B5 18) bT)))) (xV (B5 12)) xU) (λ_=>S) λe=>(bJ 5 (vA (d9 (cX (aq 4 (lE eI) e S)) (B5 0)) (BR (B5 1) (Bn (cX (aq 2 (lE eS) a S))))) (λ_=>S) λf=>(bJ 6 (d9 (gC (eF (bx (B5 100) (bx (B5 40) (cM eI))) (zz S))) (TX (Md (Bn (cX (aq 2 (lE eS) a S))) (B5 14)))) (λ_=>S) λg=>(bJ 7 (eF (cM uF) (zz S)) (λ_=>S) λb=>(G4 (λb:(Z nJ)=>[U dG,U (zE bV d),U (oE eS a),U (oE aJ vs),U (oE eI e),U (zE eI f),U (zE eI g),U (oE uF b),Y,Y,Y,Y,Y,Y,Y]) b S (GM (vB (gC (TJ (cX (aq 2 (lE eS) a S)) (xV (aq 5 (zE eI) f S)) xU)) (gC (TJ (cX (aq 2 (lE eS) a S)) xU (xV (aq 5 (zE eI) f S)))))) _ (λ_ _=>S) (λ(b:Z nJ) (m:AJ)=>(Y1 h j d a vs e f g b m).r) λb=>(o9 (GP (Tz (NH (gC (Am (GZ (gC (TJ (cX (aq 7 (lE uF) b S)) xU (xV (aq 6 (zE eI) g S))))) _ (λ_=>S) (λl:nJ=>(jP (Ap Rj (bU (aq 0 (zE bV) d S) (wM (cX (aq 1 (lE aJ) vs S)) (bU (nF (aq 2 (zE uF) l S) (λq=>q.1) eS 0 λ_=>S) (bU (nF (aq 2 (zE uF) l S) (λq=>q.2) eS 1 λ_=>S) bT)))))))))))) (bC (fQ (λr=>r) (yW (.bl false) eB false S) (λ_=>S) λ_=>S)) (bN (bJ 9 (Ap Dp (wM (cX (aq 2 (lE eS) a S)) bT)) (λ_=>S) λc=>(wV (λc:DV=>[U dG,U (zE bV d),U (oE eS a),U (oE aJ vs),U (oE eI e),U (zE eI f),U (zE eI g),U (oE uF b),Y,U (oE eD c),Y,Y,Y,Y,Y]) (eE (He (by decide) (cX (aq 2 (lE eS) a S)) (gC (eF (cM eS) (zz S))))) (bC (wU 9 c S (GD (jP (Ap NK (bU (d9 (cX (aq 2 (lE eS) a S)) (vA (d9 (cX (aq 4 (lE eI) e S)) (B5 1)) (Bn (cX (aq 2 (lE eS) a S))))) (bU (d9 (cX (aq 4 (lE eI) e S)) (B5 2)) (bU (d9 (cX (aq 4 (lE eI) e S)) (B5 3)) bT)))))) λc=>(bN (bG c S)))) (bN (bG c S)) λc=>(SK 9 [U dG,U (zE bV d),U (oE eS a),U (oE aJ vs),U (oE eI e),U (zE eI f),U (zE eI g),U (oE uF b),Y,U ((zE (eL eD)) c),Y,Y,Y,Y,Y] S (NV (λi:Unit=>[U dG,U (zE bV d),U (oE eS a),U (oE aJ vs),U (oE eI e),U (zE eI f),U (zE eI g),U (oE uF b),Y,U ((zE (eL eD)) c),Y,Y,Y,Y,Y]) () S (dS (aq 9 (zE (eL eD)) c S)) _ (λ_ _=>S) (λ(i:Unit) (q2:CV)=>((gT h j d a vs e f g b c i q2).r:R _ _ (cC (λi:Unit=>[U dG,U (zE bV d),U (oE eS a),U (oE aJ vs),U (oE eI e),U (zE eI f),U (zE eI g),U (oE uF b),Y,U ((zE (eL eD)) c),Y,Y,Y,Y,Y]) (zE eB)))) (λr=>r) (λ_=>S) λi=>(fQ (λr=>r) (yW (.bl true) eB true S) (λ_=>S) λ_=>S)))))))))))))))
theorem L8:∀v bs,(aL eI aN) v bs->bs.length=1/\(hold (U (Rm v.1))->F_law (bs.map lend)=U ((zE eB) (Rk v.1))):=by
 rintro⟨a,_⟩ _ ⟨dG,_,rfl,b,rfl⟩;exact⟨rfl,λh=>dJ (g:=V9) (n:=15) (bs:=[lend dG]) (aE a (o8 b)) h⟩
theorem MT(h:∀ns:Z Int,ns.length<=63->Rm ns/\Rk ns=true):(∀ns:Z Int,ns.length<=63->F_law [.z (.lst (ns.map .int))]=U (.z (.bl true)))/\∀ns:Z Int,ns.length<=63->F_law [.l (ns.map .int)]=U (.z (.bl true)):=
 ⟨λns a=>((L8 (ns,()) [.z (.lst (ns.map .int))] ⟨_,_,rfl,rfl,rfl⟩).2 (h ns a).1).trans (by rw[(h ns a).2]),λns a=>((L8 (ns,()) [.l (ns.map .int)] ⟨_,_,rfl,rfl,rfl⟩).2 (h ns a).1).trans (by rw[(h ns a).2])⟩
end
end G14
end
section
set_option synthInstance.maxSize 100000
namespace G14
open L2 P1
theorem HD(a:Z Int)(k:Int)(h0:0<=k)(h1:k<=1000):f9 a k:=by
 unfold f9;exact⟨λh=>B8 h0 (by simpa using h),λ_=>Ic h0 (by omega)⟩
theorem WH(k:Nat)(s:Int×Z Int×Int)(d:k<1000)(h:(0<=s.1/\s.1<1999999973)/\s.2.1.length=k/\(∀x∈s.2.1,0<=x)/\0<=s.2.2):jk s k/\(0<=(cI s k).1/\(cI s k).1<1999999973)/\(cI s k).2.1.length=k+1/\(∀x∈(cI s k).2.1,0<=x)/\0<=(cI s k).2.2:=by
 obtain⟨h1,h2,c,b⟩:=h;have a:In 2 (if(decide ((0:Int)<s.2.2))=true then(1:Int)else 0):=by split<;>exact B8 (by omega) (by omega)
 refine⟨⟨Ic h1.1 (by omega),a,?_⟩,iR _ (by decide),?_,?_,Int.ediv_nonneg b (by decide)⟩
 ·show s.2.1.length<=1000000;omega
 ·show(s.2.1++[_]).length=k+1;rw[zS,h2];rfl
 ·intro x hx;rcases List.mem_append.mp hx with hx|hx
  ·exact c x hx
  ·cases List.mem_singleton.mp hx;have:=pq (xs:=[((((s.1*((s.1%65521)+40487))+(7*k))+5)%1999999973),(s.2.2%1000000)]) a;simp only[Q2,js,or_false]at this;rcases this with e|e<;>rw[e]
   ·exact(iR _ (by decide)).1
   ·exact(iR _ (by decide)).1
theorem HF(c m:Int)(h0:0<=m)(h1:m<=1000):eU c m/\(aR c m).length=m.toNat/\∀x∈aR c m,0<=x:=by
 have b:∀st a:Int,(0<=st/\st<1999999973)->0<=a->lJ c m [] st a/\(jo c m [] st a).length=m.toNat/\∀x∈jo c m [] st a,0<=x:=λst a hs d=>by
  have:=vD (P:=λs k=>U (jk s k)) (λk s=>(0<=s.1/\s.1<1999999973)/\s.2.1.length=k/\(∀x∈s.2.1,0<=x)/\0<=s.2.2) (step:=λs k=>cI s k) m.toNat (st,[],a) ⟨hs,rfl,λx h=>(by cases h),d⟩ λk s e h=>WH k s (by omega) h;exact⟨⟨J7 h0 (by omega),this.1⟩,this.2.2.1,this.2.2.2.1⟩
 refine b _ _ (iR _ (by decide)) ?_;dsimp only;split<;>(try split)<;>omega
theorem lW{m:Z (AJ×α)}:has m x=true↔x∈m.map (·.1):=by
 unfold has;rw[QP,yo];constructor
 ·rintro⟨q,a,h⟩;exact⟨q,a,ko h⟩
 ·rintro⟨q,a,h⟩;exact⟨q,a,ZT h⟩
theorem zQ[Inhabited α]{pre AS:Z (AJ×α)}{n:AJ}{h:α}(b:n∉pre.map (·.1)):look (pre++(n,h)::AS) n=h:=by
 unfold look;have:pre.find? (λq=>decide (q.1=n))=Y:=List.find?_eq_none.mpr λq a e=>b (List.mem_map.mpr ⟨q,a,ko e⟩);rw[List.find?_append,this];simp
theorem Sl{pre AS:Z (AJ×α)}{n:AJ}{h v:α}(f:n∉pre.map (·.1))(c:n∉AS.map (·.1)):put (pre++(n,h)::AS) n v=pre++(n,v)::AS:=by
 unfold put;rw[zh (lW.mpr (by simp))];have a:∀l:Z (AJ×α),n∉l.map (·.1)->l.map (λq=>if q.1=n then(q.1,v)else q)=l:=λl d=>by
  conv=>rhs;rw[<-List.map_id l]
  refine JY λq b=>?_;rw[zC λe=>d (List.mem_map.mpr ⟨q,b,e⟩)];rfl
 rw[qB,zw,a pre f,a AS c];simp
theorem Kg[Inhabited α]{m:Z (AJ×α)}(h:x∈m.map (·.1)):(x,look m x)∈m:=by
 unfold look;cases a:m.find? λq=>decide (q.1=x)with
 |none=>
  obtain⟨q,b,rfl⟩:=List.mem_map.mp h;have:=List.find?_eq_none.mp a q b;simp at this
 |some q=>
  have h1:=List.mem_of_find?_eq_some a;have h2:q.1=x:=by simpa using List.find?_some a
  show(x,q.2)∈m;rw[<-h2];exact h1
theorem Eo[Inhabited α]{m:Z (AJ×α)}(a:(m.map (·.1)).Nodup){q:AJ×α}(h:q∈m):look m q.1=q.2:=by
 obtain⟨b,AS,rfl⟩:=List.append_of_mem h;have:q.1∉b.map (·.1):=λe=>by
  rw[qB,zw,KL]at a;exact a.2.2 _ e _ (zk ..) rfl
 exact zQ this
def mn(one a:AJ):AJ:=if Cf a one=true then a else one
def jn(one a h:AJ):AJ:=if h=one\/h=a then mn one a else h
theorem Kh(a b:AJ):mn a b=a\/mn a b=b:=by unfold mn;split;exact .inr rfl;exact .inl rfl
def jm(m:Z (AJ×AJ))(one a:AJ):Z (AJ×AJ):=m.map λq=>(q.1,jn one a q.2)
theorem Wg(m:Z (AJ×AJ))(one a:AJ):(jm m one a).map (·.1)=m.map (·.1):=by unfold jm;rw[QU];rfl
theorem SS{one a:AJ}(b:(m.map (·.1)).Nodup)(h:x∈m.map (·.1)):look (jm m one a) x=jn one a (look m x):=by
 have h1:=Kg h;have:(x,jn one a (look m x))∈jm m one a:=List.mem_map.mpr ⟨_,h1,rfl⟩;exact Eo (by rw[Wg];exact b) this
theorem By(one a:AJ):∀(b pre:Z (AJ×AJ)),((pre++b).map (·.1)).Nodup->(pre++b).length<1000 →
  kY (λ(c:(Z (AJ×AJ))) (name:AJ)=>(dw one a (mn one a) c name)) (λ(c:(Z (AJ×AJ))) (name:AJ)=>U (nA one a (mn one a) c name)) (b.map (·.1)) (pre++b) ∧
  (b.map (·.1)).foldl (λ(c:(Z (AJ×AJ))) (name:AJ)=>(dw one a (mn one a) c name)) (pre++b)=pre++jm b one a
 |[],pre,_,_=>⟨trivial,rfl⟩
 |(n,h)::AS,pre,nd,hl=>by
  have g:n∉pre.map (·.1):=λe=>by
   rw[qB,zw,KL]at nd;exact nd.2.2 _ e _ (zk ..) rfl
  have i:n∉AS.map (·.1):=by
   rw[qB,zw,KL,List.nodup_cons]at nd;exact nd.2.1.1
  have f:has (pre++(n,h)::AS) n=true:=lW.mpr (by simp);have e:dw one a (mn one a) (pre++(n,h)::AS) n=pre++(n,jn one a h)::AS:=by
   unfold dw;dsimp only;rw[zQ g];unfold jn;by_cases q:h=one\/h=a
   ·rw[zh q,zh (by simpa using q),Sl g i]
   ·rw[zC q,zC (by simpa using q)]
  have d:=By one a AS (pre++[(n,jn one a h)]) (by simpa using nd) (by simpa using hl);rw[Q4]at d;refine⟨⟨⟨⟨f,λ_=>f⟩,λ_=>hl⟩,?_⟩,?_⟩
  ·show kY _ _ _ (dw one a (mn one a) (pre++(n,h)::AS) n);rw[e];exact d.1
  ·rw[zw,QO,e];rw[show pre++(n,jn one a h)::AS=pre++([(n,jn one a h)]++AS) by simp,d.2];unfold jm;simp
theorem WI(one a:AJ)(c:(m.map (·.1)).Nodup)(b:m.length<1000):oM m one a/\kJ m one a=jm m one a:=By one a m [] c b
theorem Wh:∀(a m:Z (AJ×AJ)),((m++a).map (·.1)).Nodup->a.foldl (λm q=>put m q.1 q.2) m=m++a
 |[],m,_=>by simp
 |q::a,m,nd=>by
  rw[QO];have:put m q.1 q.2=m++[q]:=by
   unfold put;rw[zC];intro e;have e:=lW.mp e;rw[qB,zw,KL]at nd;exact nd.2.2 _ e _ (zk ..) rfl
  rw[this,Wh a (m++[q]) (by simpa using nd)];simp
theorem Ep(n_:AZ)(b:n_.Nodup)(a:n_.length<1000):oK n_/\dN n_=n_.map λn=>(n,n):=by
 refine⟨⟨a,by omega⟩,?_⟩;unfold dN EU;rw[Wh _ [] (by rw[kM,QU];show(n_.map id).Nodup;rw[List.map_id];exact b)];rfl
structure Hd (n_:AZ) (m:List (Str×Str)):Prop where
 keys:m.map (·.1)=n_
 nd:n_.Nodup
 len:n_.length<1000
 mem:∀x∈n_,look m x∈n_
 idem:∀x∈n_,look m (look m x)=look m x
theorem Hd.kn(h:Hd n_ m):(m.map (·.1)).Nodup:=by rw[h.keys];exact h.nd
theorem Hd.ml(h:Hd n_ m):m.length<1000:=by rw[<-zi (f:=(·.1)),h.keys];exact h.len
theorem Hd.has(h:Hd n_ m)(hx:x∈n_):has m x=true:=lW.mpr (by rw[h.keys];exact hx)
theorem Hd.lone(b:n_.Nodup)(c:n_.length<1000):Hd n_ (n_.map λn=>(n,n)):=by
 have k:(n_.map λn=>(n,n)).map (·.1)=n_:=by rw[QU];show n_.map id=n_;rw[List.map_id]
 have a:∀x∈n_,look (n_.map λn=>(n,n)) x=x:=λx hx=>Eo (q:=(x,x)) (by rw[k];exact b) (List.mem_map.mpr ⟨x,hx,rfl⟩);exact⟨k,b,c,λx hx=>by rw[a x hx];exact hx,λx hx=>by rw[a x hx,a x hx]⟩
theorem Bg(a:n_.Nodup)(hx:x∈n_):look (n_.map λn=>(n,n)) x=x:=
 Eo (q:=(x,x)) (by rw[QU];show(n_.map id).Nodup;rw[List.map_id];exact a) (List.mem_map.mpr ⟨x,hx,rfl⟩)
theorem Hd.uy(h:Hd n_ m){one a:AJ}(hx:x∈n_):look (jm m one a) x=jn one a (look m x):=SS h.kn (by rw[h.keys];exact hx)
theorem Hd.join(h:Hd n_ m){a b:AJ}(c:a∈n_)(hb:b∈n_):Hd n_ (jm m (look m a) (look m b)):=by
 have f:=h.mem a c;have g:=h.mem b hb;refine⟨(Wg _ _ _).trans h.keys,h.nd,h.len,λx hx=>?_,λx hx=>?_⟩
 ·rw[h.uy hx];unfold jn;split
  ·rcases Kh (look m a) (look m b)with e|e<;>rw[e]<;>assumption
  ·exact h.mem x hx
 ·have d:jn (look m a) (look m b) (look m x)∈n_:=by
   unfold jn;split
   ·rcases Kh (look m a) (look m b)with e|e<;>rw[e]<;>assumption
   ·exact h.mem x hx
  rw[h.uy hx,h.uy d];unfold jn;by_cases q:look m x=look m a\/look m x=look m b
  ·rw[zh q];rcases Kh (look m a) (look m b)with e|e
   ·rw[e,h.idem a c,zh (.inl S)]
   ·rw[e,h.idem b hb,zh (.inr S)]
  ·rw[zC q,h.idem x hx,zC q]
theorem hZ(a:AJ):jm m a a=m:=by
 unfold jm
 conv=>rhs;rw[<-List.map_id m]
 refine JY λq _=>?_;unfold jn mn;have:Cf a a=false:=by simp[Cf]
 rw[this];by_cases e:q.2=a
 ·rw[zh (.inl e),zC (by decide),<-e];rfl
 ·rw[zC (by simp[e])];rfl
def Yi(n_:AZ)(m:Z (AJ×AJ)):AZ:=n_.filter λx=>decide (look m x=x)
theorem Cu{p q:AJ->Bool}{c:AJ}:∀{l:AZ},l.Nodup->c∈l->p c=true->(∀x∈l,q x=(p x&&decide (x≠c)))->(l.filter q).length+1=(l.filter p).length
 |[],_,h,_,_=>by cases h
 |x::l,nd,b,hp,hq=>by
  have hx:=hq x (zk ..);obtain⟨nx,d⟩:=List.nodup_cons.mp nd;rcases List.mem_cons.mp b with rfl|b
  ·have e:l.filter q=l.filter p:=List.filter_congr λy a=>by
    rw[hq y (zo _ a)];have:y≠c:=λe=>nx (e▸a);simp[this]
   rw[k8,k8,hx,hp];simp[e]
  ·have f:=Cu (p:=p) (q:=q) d b hp λy a=>hq y (zo _ a);have:x≠c:=λe=>nx (e▸b);rw[k8,k8,hx];cases p x<;>simp[this]<;>omega
theorem Hd.abL(h:Hd n_ m){a b:AJ}(d:a∈n_)(hb:b∈n_)(i:look m a≠look m b):(Yi n_ (jm m (look m a) (look m b))).length+1=(Yi n_ m).length:=by
 have j:=h.mem a d;have n:=h.mem b hb;have i1:=h.idem a d;have i2:=h.idem b hb;have g:∀c,c∈n_->look m c=c->(c=look m a/\mn (look m a) (look m b)=look m b\/c=look m b/\mn (look m a) (look m b)=look m a)->(Yi n_ (jm m (look m a) (look m b))).length+1=(Yi n_ m).length:=λc o l f=>by
  refine Cu h.nd o (ZT l) λx hx=>?_;rw[h.uy hx];rw[JE];simp only[qi,Zz];unfold jn;by_cases q:look m x=look m a\/look m x=look m b
  ·rw[zh q];rcases f with⟨rfl,e⟩|⟨rfl,e⟩
   ·rw[e];constructor
    ·rintro rfl;exact⟨i2,λz=>i z.symm⟩
    ·rintro⟨e1,e2⟩;rcases q with q|q
     ·exact absurd (e1.symm.trans q) e2
     ·exact q.symm.trans e1
   ·rw[e];constructor
    ·rintro rfl;exact⟨i1,i⟩
    ·rintro⟨e1,e2⟩;rcases q with q|q
     ·exact q.symm.trans e1
     ·exact absurd (e1.symm.trans q) e2
  ·rw[zC q];constructor
   ·intro e1;refine⟨e1,λe2=>q ?_⟩;rcases f with⟨rfl,_⟩|⟨rfl,_⟩
    ·exact .inl (e1.trans e2)
    ·exact .inr (e1.trans e2)
   ·exact λe1=>e1.1
 rcases Kh (look m a) (look m b)with e|e
 ·exact g (look m b) n i2 (.inr ⟨rfl,e⟩)
 ·exact g (look m a) j i1 (.inl ⟨rfl,e⟩)
abbrev dX:=Int×AJ×AJ×Int
def Rs(n_:AZ)(rs:Z dX):Prop:=∀r∈rs,r.2.1∈n_/\r.2.2.1∈n_
def jb(m:Z (AJ×AJ))(r:dX):Z (AJ×AJ):=jm m (look m r.2.1) (look m r.2.2.1)
def hb(n_:AZ)(rs:Z dX):Z (AJ×AJ):=rs.foldl jb (dN n_)
theorem IX(b:n_.Nodup)(a:n_.length<1000):Hd n_ (dN n_):=by rw[(Ep n_ b a).2];exact Hd.lone b a
theorem Er(n_:AZ)(rs:Z dX)(r:dX):hb n_ (rs++[r])=jb (hb n_ rs) r:=List.foldl_append (l:=rs) (l':=[r])
theorem LU:∀{xs ys:AZ},xs.Nodup->(∀x∈xs,x∈ys)->xs.length<=ys.length
 |[],_,_,_=>Q1 _
 |x::xs,ys,nd,h=>by
  obtain⟨c,b⟩:=List.nodup_cons.mp nd;have hx:=h x (zk ..);have:=LU (ys:=ys.erase x) b λz a=>(List.mem_erase_of_ne (λe:z=x=>c (e▸a))).mpr (h z (zo _ a));rw[y7 hx]at this;have:=kF hx;rw[qc];omega
structure PH (n_:AZ) (P:List AZ) (m:List (Str×Str)):Prop where
 sub:∀p∈P,∀y∈p,y∈n_
 cov:∀x∈n_,∃p∈P,x∈p
 cls:∀p∈P,∀x∈p,∀y∈n_,(y∈p↔look m x=look m y)
 ne:∀p∈P,p≠[]
 nd:∀p∈P,p.Nodup
 uni:∀p∈P,∀q∈P,∀x,x∈p->x∈q->p=q
 len:P.length<=n_.length
 pn:P.Nodup
 srt:∀p∈P,p.Pairwise Rv
theorem TW(b:n_.Nodup)(f:n_.length<1000):PH n_ (n_.map λname:AJ=>[name]) (dN n_):=by
 rw[(Ep n_ b f).2];have inv:∀p,p∈(n_.map λname:AJ=>[name])->∃n∈n_,p=[n]:=λp hp=>by
  obtain⟨n,a,e⟩:=List.mem_map.mp hp;exact⟨n,a,e.symm⟩
 refine⟨λp hp y c=>?_,λx hx=>⟨[x],List.mem_map.mpr ⟨x,hx,rfl⟩,List.mem_singleton.mpr rfl⟩,λp hp x hx y c=>?_,λp hp e=>?_,λp hp=>?_,λp hp q d x h1 h2=>?_,by rw[zi];exact zg _,?_,λp hp=>?_⟩
 ·obtain⟨n,a,rfl⟩:=inv p hp;cases List.mem_singleton.mp c;exact a
 ·obtain⟨n,a,rfl⟩:=inv p hp;cases List.mem_singleton.mp hx;rw[Bg b a,Bg b c,List.mem_singleton];exact⟨λe=>e.symm,λe=>e.symm⟩
 ·obtain⟨n,a,rfl⟩:=inv p hp;cases e
 ·obtain⟨n,a,rfl⟩:=inv p hp;exact List.nodup_cons.mpr ⟨λz=>(by cases z),j0⟩
 ·obtain⟨n,a,rfl⟩:=inv p hp;obtain⟨g,i,rfl⟩:=inv q d;cases List.mem_singleton.mp h1;cases List.mem_singleton.mp h2;rfl
 ·unfold List.Nodup;rw[List.pairwise_map];exact b.imp λh e=>h (by injection e)
 ·obtain⟨n,a,rfl⟩:=inv p hp;exact List.pairwise_singleton _ _
theorem FD{P:Z AZ}{a:AJ}(h:∃p∈P,a∈p):In ((P.filter λpart:AZ=>(decide (a∈part))).map λpart:AZ=>part).length (0:Int)/\at' ((P.filter λpart:AZ=>(decide (a∈part))).map λpart:AZ=>part) (0:Int)∈P/\a∈at' ((P.filter λpart:AZ=>(decide (a∈part))).map λpart:AZ=>part) (0:Int):=by
 obtain⟨p,hp,c⟩:=h;have m:p∈((P.filter λpart:AZ=>(decide (a∈part))).map λpart:AZ=>part):=List.mem_map.mpr ⟨p,List.mem_filter.mpr ⟨hp,ZT c⟩,rfl⟩;have i:In ((P.filter λpart:AZ=>(decide (a∈part))).map λpart:AZ=>part).length (0:Int):=G6 (k:=0) (kF m);refine⟨i,?_⟩;obtain⟨q,b,e⟩:=List.mem_map.mp (pq i);rw[<-e];exact⟨(List.mem_filter.mp b).1,ko (List.mem_filter.mp b).2⟩
theorem IU{P:Z AZ}(h:Hd n_ m)(p:PH n_ P m){one d:AZ}{a b:AJ}(h1:one∈P)(h2:d∈P)(t:a∈one)(hb:b∈d)(D:one≠d):
  (one++d).length<=n_.length/\PH n_ (((P.filter λpart:AZ=>(!sJ part [one,d])).map λpart:AZ=>part)++[(lg (one++d))]) (jm m (look m a) (look m b)):=by
 have F:=p.sub _ h1 _ t;have G:=p.sub _ h2 _ hb;have C:(one++d).Nodup:=List.nodup_append.mpr ⟨p.nd _ h1,p.nd _ h2,λx hx y g e=>D (p.uni _ h1 _ h2 x hx (e▸g))⟩;have v:∀x∈one++d,x∈n_:=λx hx=>(List.mem_append.mp hx).elim (p.sub _ h1 _) (p.sub _ h2 _);have c1:∀y∈n_,(y∈one↔look m y=look m a):=λy g=>(p.cls _ h1 _ t y g).trans ⟨Eq.symm,Eq.symm⟩;have c2:∀y∈n_,(y∈d↔look m y=look m b):=λy g=>(p.cls _ h2 _ hb y g).trans ⟨Eq.symm,Eq.symm⟩;have old:∀q,q∈((P.filter λpart:AZ=>(!sJ part [one,d])).map λpart:AZ=>part)↔q∈P/\q≠one/\q≠d:=λq=>by
  rw[List.map_id',List.mem_filter,Qr,<-Bool.not_eq_true,zf];simp
 have s:∀y,y∈lg (one++d)↔y∈one\/y∈d:=λy=>(fD _).mem_iff.trans yi;have E:∀q,q∈P->q≠one->q≠d->∀x∈q,look m x≠look m a/\look m x≠look m b:=λq c i j x hx=>by
  have l:=p.sub _ c _ hx;exact⟨λe=>i (p.uni _ c _ h1 x hx ((c1 x l).mpr e)),λe=>j (p.uni _ c _ h2 x hx ((c2 x l).mpr e))⟩
 refine⟨LU C v,⟨λq c y g=>?_,λx hx=>?_,λq c x hx y g=>?_,λq c=>?_,λq c=>?_,λq c u n x hx o=>?_,?_,?_,λq c=>?_⟩⟩
 ·rcases List.mem_append.mp c with c|c
  ·exact p.sub _ ((old q).mp c).1 _ g
  ·cases List.mem_singleton.mp c;exact v y ((fD _).mem_iff.mp g)
 ·obtain⟨q,c,o⟩:=p.cov x hx;by_cases e:q=one\/q=d
  ·refine⟨_,List.mem_append.mpr (.inr (List.mem_singleton.mpr S)),(s x).mpr ?_⟩;rcases e with rfl|rfl
   ·exact .inl o
   ·exact .inr o
  ·exact⟨q,List.mem_append.mpr (.inl ((old q).mpr ⟨c,λz=>e (.inl z),λz=>e (.inr z)⟩)),o⟩
 ·rcases List.mem_append.mp c with c|c
  ·obtain⟨c,i,j⟩:=(old q).mp c;have l:=p.sub _ c _ hx;have f:=E q c i j x hx;rw[h.uy l,h.uy g,p.cls _ c _ hx y g];unfold jn;rw[zC (λz=>z.elim f.1 f.2)];by_cases e:look m y=look m a\/look m y=look m b
   ·rw[zh e];constructor
    ·intro z;rw[z]at f;exact absurd e (λw=>w.elim f.1 f.2)
    ·intro z;rcases Kh (look m a) (look m b)with w|w<;>rw[w]at z
     ·exact absurd z f.1
     ·exact absurd z f.2
   ·rw[zC e]
  ·cases List.mem_singleton.mp c;have A:=(s x).mp hx;have l:=v x (List.mem_append.mpr A);rw[s,h.uy l,h.uy g,c1 y g,c2 y g];unfold jn;rw[zh (A.elim (λz=>.inl ((c1 x l).mp z)) (λz=>.inr ((c2 x l).mp z)))];by_cases e:look m y=look m a\/look m y=look m b
   ·rw[zh e];exact⟨λ_=>S,λ_=>e⟩
   ·rw[zC e];refine⟨λz=>absurd z e,λz=>?_⟩;rcases Kh (look m a) (look m b)with w|w<;>rw[w]at z
    ·exact .inl z.symm
    ·exact .inr z.symm
 ·rcases List.mem_append.mp c with c|c
  ·exact p.ne _ ((old q).mp c).1
  ·cases List.mem_singleton.mp c;intro e;have:=(s a).mpr (.inl t);rw[e]at this;cases this
 ·rcases List.mem_append.mp c with c|c
  ·exact p.nd _ ((old q).mp c).1
  ·cases List.mem_singleton.mp c;exact(fD _).nodup_iff.mpr C
 ·have B:∀q,q∈P->q≠one->q≠d->x∈q->x∈lg (one++d)->False:=λq c i j e1 e2=>
   ((s x).mp e2).elim (λz=>i (p.uni _ c _ h1 x e1 z)) (λz=>j (p.uni _ c _ h2 x e1 z))
  rcases List.mem_append.mp c with c|c<;>rcases List.mem_append.mp n with n|n
  ·exact p.uni _ ((old q).mp c).1 _ ((old u).mp n).1 x hx o
  ·cases List.mem_singleton.mp n;obtain⟨z,i,j⟩:=(old q).mp c;exact(B q z i j hx o).elim
  ·cases List.mem_singleton.mp c;obtain⟨z,i,j⟩:=(old u).mp n;exact(B u z i j o hx).elim
  ·exact(List.mem_singleton.mp c).trans (List.mem_singleton.mp n).symm
 ·rw[zS,List.map_id'];have:(P.filter λpart:AZ=>(!sJ part [one,d])).length<P.length:=by
   rw[List.length_filter_lt_length_iff_exists];refine⟨one,h1,?_⟩;rw[Qr,Bool.not_eq_false];exact zf.mpr (zk ..)
  have:=p.len;show _+1<=_;omega
 ·rw[KL];refine⟨by rw[List.map_id'];exact p.pn.filter _,List.nodup_cons.mpr ⟨λz=>(by cases z),j0⟩,λx hx y g e=>?_⟩;cases List.mem_singleton.mp g;obtain⟨z,i,j⟩:=(old x).mp hx;have:a∈x:=by rw[e];exact(s a).mpr (.inl t)
  exact i (p.uni _ z _ h1 a this t)
 ·rcases List.mem_append.mp c with c|c
  ·exact p.srt _ ((old q).mp c).1
  ·cases List.mem_singleton.mp c;exact rT _
theorem UG{P:Z AZ}(h:Hd n_ m)(d:n_.length<64)(p:PH n_ P m){r:dX}(c:r.2.1∈n_)(hb:r.2.2.1∈n_):
  gF P r/\PH n_ (cJ P r) (jm m (look m r.2.1) (look m r.2.2.1)):=by
 obtain⟨i1,a,a1⟩:=FD (p.cov _ c);obtain⟨i2,b,a2⟩:=FD (p.cov _ hb);have pl:=p.len;unfold gF cJ;dsimp only;generalize at' ((P.filter λpart:AZ=>(decide (r.2.1∈part))).map λpart:AZ=>part) (0:Int)=one at *
 generalize at' ((P.filter λpart:AZ=>(decide (r.2.2.1∈part))).map λpart:AZ=>part) (0:Int)=other at *
 by_cases e:one=other
 ·subst e;refine⟨⟨⟨by omega,i1⟩,⟨by omega,i2⟩,λz=>by simp at z⟩,?_⟩;rw[zC (by simp),(p.cls _ a _ a1 _ hb).mp a2,hZ];exact p
 ·obtain⟨c1,c2⟩:=IU h p a b a1 a2 e;rw[zS]at c1;refine⟨⟨⟨by omega,i1⟩,⟨by omega,i2⟩,λ_=>⟨⟨by omega,?_,?_⟩,?_⟩⟩,?_⟩
  ·show _<=1000000;omega
  ·rw[zS];omega
  ·have:=c2.len;rw[zS]at this;show _<=1000000;omega
  ·rw[zh (by simp[e])];exact c2
theorem HJ{n_:AZ}(b:n_.length<64):∀(rs:Z dX) (P:Z AZ) (m:Z (AJ×AJ)),Rs n_ rs->Hd n_ m->PH n_ P m →
  kY (λ(a:Z AZ) (q1:dX)=>(cJ a q1)) (λ(a:Z AZ) (q1:dX)=>U (gF a q1)) rs P/\PH n_ (rs.foldl (λ(a:Z AZ) (q1:dX)=>(cJ a q1)) P) (rs.foldl jb m)
 |[],_,_,_,_,p=>⟨trivial,p⟩
 |r::rs,P,m,hr,h,p=>by
  obtain⟨e,hb⟩:=hr r (zk ..);obtain⟨d,q⟩:=UG h b p e hb;have c:=HJ b rs (cJ P r) (jb m r) (λx hx=>hr x (zo _ hx)) (h.join e hb) q;exact⟨⟨d,c.1⟩,c.2⟩
theorem XI(b:n_.Nodup)(a:n_.length<64){rs:Z dX}(e:Rs n_ rs):lU n_ rs/\∃P,iD n_ rs=vC P/\PH n_ P (hb n_ rs):=by
 obtain⟨d,p⟩:=HJ a rs _ _ e (IX b (by omega)) (TW b (by omega));have pl:=p.len;refine⟨⟨by omega,d,by show List.length _<=100000;exact ZH pl (by omega),by show(List.map _ _).length<64;rw[zi];exact Kx pl a,λx hx=>?_⟩,_,congrArg vC (List.map_id' _),p⟩;obtain⟨y,c,rfl⟩:=List.mem_map.mp hx;have:=p.ne _ c;cases y
 ·exact absurd S this
 ·rfl
theorem Yj{P:Z AZ}(p:PH n_ P m){a b:AJ}(d:a∈n_)(hb:b∈n_):(((vC P).map λpart:AZ=>((decide (a∈part))&&(decide (b∈part)))).any id)=decide (look m a=look m b):=by
 rw[JE,QP,qi];constructor
 ·rintro⟨x,hx,e⟩;obtain⟨q,c,rfl⟩:=List.mem_map.mp hx;have e:(decide (a∈q)&&decide (b∈q))=true:=e;rw[Zz,qi,qi]at e;exact(p.cls q ((pQ P).mem_iff.mp c) a e.1 b hb).mp e.2
 ·intro e;obtain⟨q,c,hx⟩:=p.cov a d;refine⟨_,List.mem_map.mpr ⟨q,(pQ P).mem_iff.mpr c,rfl⟩,?_⟩;show(_&&_)=true;rw[Zz,qi,qi];exact⟨hx,(p.cls q c a hx b hb).mpr e⟩
theorem BU{α:Type}(c:Array α):∀(n:Nat) (a:Array α),((List.replicate n c).foldl (·++·) a).size=a.size+n*c.size
 |0,a=>by simp
 |n+1,a=>by
  rw[yk,QO,BU c n,KS,Nat.succ_mul];omega
theorem K9(x:AJ)(k:Int):(Txt.mul x k).length<=x.length*k.toNat:=by
 unfold Txt.mul;split
 ·exact Q1 _
 split
 ·rename_i h0 h;simp only[Bool.or_eq_true,beq_iff_eq]at h;rcases h with h|h
  ·subst h;simp
  ·rw[h];simp
 ·show(Array.size _)<=_;rw[BU];have:x.cps.size=x.length:=rfl;rw[this,Nat.mul_comm];simp
def LT:AJ:=("abcdefghijklmnopqrstuvwxyz":AJ)
theorem UJ:LT.length=26:=by decide +kernel
theorem fJ(h:n<=1000):sy n:=ZH h (by decide)
theorem UL(xs:Z Int)(o:6<=xs.length)(b:AJ)(hs:b.length<=5)(at_:Int)(k:Nat)(a:AZ)(l:k<200)(h:a.length=k/\∀n∈a,n.length<=12):j9 xs LT b at_ a k/\(fH xs LT b at_ a k).length=k+1/\∀n∈fH xs LT b at_ a k,n.length<=12:=by
 have j:=ZH (slice_le b Y (U at_)) hs;have g:=ZH (slice_le b (U at_) Y) hs;have c1:=mU LT ((↑k+at' xs 2)%15);have i:=iR (k:Int) (m:=8) (by decide);have d:(0:Int)<=(k:Int) / 8/\(k:Int) / 8<26:=by omega
 refine⟨⟨⟨B8 (by decide) (by omega),jM (by decide) (by rw[UJ];decide)⟩,⟨fJ (by omega),fJ (by rw[eG];omega)⟩,⟨B8 (by decide) (by omega),λ_=>⟨B8 d.1 (by rw[UJ];exact d.2),by omega,by omega,by rw[mU];decide⟩⟩,fJ (by omega)⟩,?_⟩;have e:∀n:AJ,n.length<=12->(a++[n]).length=k+1/\∀m∈a++[n],m.length<=12:=λn f=>⟨by simp[h.1],λm c=>by
  rcases List.mem_append.mp c with c|c
  ·exact h.2 m c
  ·cases List.mem_singleton.mp c;exact f⟩
 unfold fH;dsimp only;split
 ·exact e _ (by have:=K9 (ch LT ((k:Int) / 8)) (1+(k:Int)%8);rw[mU]at this;exact ZH this (by omega))
 ·exact e _ (by rw[eG,eG,c1];omega)
theorem LH(xs:AZ)(n:Nat)(h:∀x∈xs,x.length<=n):(Txt.join "" xs).length<=xs.length*n:=by
 have h1:=StrLaws.join_length_le ("":AJ) xs;rw[<-StrLaws.glued_eq_join]at h1;have h2:(xs.map (·.length)).sum<=xs.length*n:=by
  clear h1
  induction xs with
  |nil=>simp
  |cons a l c=>
   have:=c λx hx=>h x (zo _ hx);have:=h a (zk ..);simp only[zw,List.sum_cons,qc,Nat.succ_mul];omega
 have b:("":AJ).length=0:=rfl;rw[b,Nat.mul_zero]at h1;exact ZH h1 (by omega)
theorem UK(xs:AZ)(h:∀x∈xs,x.length=1):(xs.map (·.length)).sum=xs.length:=by
 induction xs with
 |nil=>rfl
 |cons a l b=>
  have:=b λx hx=>h x (zo _ hx);have:=h a (zk ..);simp only[zw,List.sum_cons,qc];omega
theorem cy(xs:Z Int)(i:6<=xs.length)(a:Int)(h0:0<=a)(h1:a<=200):qz xs a/\(bY xs a).length=a.toNat/\∀n∈bY xs a,n.length<=12:=by
 have e:=iR (at' xs 0) (m:=6) (by decide);have st:∀b:AJ,b.length<=5->pD xs a LT b/\(kh xs a LT b).length=a.toNat/\∀n∈kh xs a LT b,n.length<=12:=λb hs=>by
  have:=vD (P:=λf k=>U (j9 xs LT b (at' xs 1%((b.length:Int)+1)) f k)) (step:=λf k=>fH xs LT b (at' xs 1%((b.length:Int)+1)) f k) (λk s=>s.length=k/\∀n∈s,n.length<=12) a.toNat [] ⟨rfl,λn h=>(by cases h)⟩ λk s d h=>UL xs i b hs _ k s (by omega) h;exact⟨⟨⟨B8 (by decide) (by omega),by omega⟩,J7 h0 (by omega),this.1⟩,this.2⟩
 have c1:∀x∈((rng 0 (at' xs 0%6).toNat).map λc:Int=>ch LT (at' xs c / 40%26)),x.length=1:=λx hx=>by
  obtain⟨k,_,rfl⟩:=List.mem_map.mp hx;exact mU _ _
 have:=st (Txt.join "" ((rng 0 (at' xs 0%6).toNat).map λc:Int=>ch LT (at' xs c / 40%26))) (by
  have:=LH _ 1 λx hx=>Nat.le_of_eq (c1 x hx);rw[zi,pR]at this;omega)
 refine⟨⟨⟨⟨⟨⟨B8 (by decide) (by omega),J7 e.1 (by omega)⟩,by rw[pR];omega⟩,λk d=>?_⟩,?_⟩,this.1⟩,this.2⟩
 ·obtain⟨j,l,rfl⟩:=zq d;exact⟨B8 (by omega) (by omega),jM (by decide) (by rw[show("abcdefghijklmnopqrstuvwxyz":AJ)=LT from rfl,UJ];decide)⟩
 ·rw[show("abcdefghijklmnopqrstuvwxyz":AJ)=LT from rfl,UK _ c1,zi,pR];have g:("":AJ).length=0:=rfl;rw[g];omega
def Ct(xs:Z Int)(a:AJ)(at_:Int)(k:Int):AJ:=if(decide (((at' xs 3)%3)=1))=true then(Txt.mul (ch LT (k / (8:Int))) (1+(k%8)))else(((Txt.slice a Y (U at_))++(ch LT ((k+(at' xs 2))%15)))++(Txt.slice a (U at_) Y))
theorem yd{α β:Type}(g:β->α):∀(l:Z β) (f:Z α),l.foldl (λf k=>f++[g k]) f=f++l.map g
 |[],f=>by simp
 |k::l,f=>by rw[QO,yd g l];simp
theorem RH(xs:Z Int)(a:Int):∃b at_,bY xs a=(rng 0 a.toNat).map (Ct xs b at_):=by
 refine⟨_,_,(yd (Ct xs _ _) _ []).trans (kM _)⟩
theorem UW{a b m c:AJ}(h:(a++m)++b=(a++c)++b):m=c:=by
 have h:=congrArg (λs:AJ=>s.cps.toList) h;have h:((a.cps++m.cps)++b.cps).toList=((a.cps++c.cps)++b.cps).toList:=h;simp only[Array.toList_append]at h;have:=List.append_cancel_left (List.append_cancel_right h);cases m;cases c;congr 1;exact Array.ext' this
theorem LZ:∀i:Fin 30,∀j:Fin 30,Txt.mul (ch LT ((i.val:Int) / 8)) (1+(i.val:Int)%8)=Txt.mul (ch LT ((j.val:Int) / 8)) (1+(j.val:Int)%8)->i=j:=by decide +kernel
theorem TH:∀i:Fin 15,∀j:Fin 15,ch LT (i.val:Int)=ch LT (j.val:Int)->i=j:=by decide +kernel
theorem gi{x y:Int}(hx:0<=x/\x<15)(a:0<=y/\y<15)(h:ch LT x=ch LT y):x=y:=by
 have:=TH ⟨x.toNat,by omega⟩ ⟨y.toNat,by omega⟩ (by
  show ch LT ((x.toNat:Nat):Int)=ch LT ((y.toNat:Nat):Int);rw[yn hx.1,yn a.1];exact h)
 have:=congrArg Fin.val this;have:x.toNat=y.toNat:=this;omega
theorem VZ{xs:Z Int}{a:AJ}{at_:Int}(hi:i<15)(b:j<15)(h:Ct xs a at_ i=Ct xs a at_ j):i=j:=by
 unfold Ct at h;by_cases e:(decide (((at' xs 3)%3)=1))=true
 ·rw[zh e,zh e]at h;exact congrArg Fin.val (LZ ⟨i,by omega⟩ ⟨j,by omega⟩ h)
 ·rw[zC e,zC e]at h;have:=gi (iR _ (by decide)) (iR _ (by decide)) (UW h);omega
theorem Ud{g:Int->AJ}(h:∀i j:Nat,i<n->j<n->g i=g j->i=j):((rng 0 n).map g).Nodup:=by
 unfold rng;rw[QU];unfold List.Nodup;rw[List.pairwise_map];refine y8 ?_ (y9 (n:=n));intro a b d hb c e;refine c (h a b (List.mem_range.mp d) (List.mem_range.mp hb) ?_);have e:g (0+(a:Int))=g (0+(b:Int)):=e;rwa [Int.zero_add,Int.zero_add]at e
theorem aI(xs:Z Int)(a:Int)(h:a<=15):(bY xs a).Nodup:=by
 obtain⟨b,at_,e⟩:=RH xs a;rw[e];exact Ud λi j hi c=>VZ (by omega) (by omega)
def Lw(c:Nat):Prop:=97<=c/\c<=122
def Nm(s:AJ):Prop:=1<=s.length/\s.length<=8/\∀c∈cs s,Lw c
theorem Po{c:Nat}(h:Lw c):c∈cs LT:=by
 have:∀i:Fin 26,97+i.val∈cs LT:=by decide +kernel
 have:=this ⟨c-97,by unfold Lw at h;omega⟩;unfold Lw at h;rwa [show 97+(c-97)=c by omega]at this
theorem im{s:AJ}(h:Nm s):dI (.str s)=true:=by
 unfold dI jq;rw[show lA (.str s)=true from rfl,show TQ (.str s)=(s.length:Int) from rfl,ZT (show(1:Int)<=s.length by have:=h.1;omega),ZT (show(s.length:Int)<=8 by have:=h.2.1;omega)];show List.all _ id=true;rw[qo];intro b hb;obtain⟨d,a,rfl⟩:=List.mem_map.mp hb;obtain⟨c,e,rfl⟩:=List.mem_map.mp (show d∈P1.BH s from a);exact X3 (Po (h.2.2 c e))
theorem Wp(c:Nat)(n:Int)(h:1<=n):cs (Txt.mul ⟨#[c]⟩ n)=List.replicate n.toNat c:=by
 unfold Txt.mul;split
 ·omega
 split
 ·rename_i h;simp only[Bool.or_eq_true,beq_iff_eq]at h;rcases h with h|h
  ·subst h;rfl
  ·cases h
 ·have:∀(k:Nat) (a:Array Nat),((List.replicate k (#[c]:Array Nat)).foldl (·++·) a).toList=a.toList++List.replicate k c:=by
   intro k
   induction k with
   |zero=>intro a;simp
   |succ k b=>
    intro a;rw[yk,QO,b,Array.toList_append,yk];simp
  exact(this _ _).trans (by simp)
theorem IF{i:Int}(h:0<=i/\i<26):ch LT i=⟨#[97+i.toNat]⟩:=by
 have:∀i:Fin 26,ch LT (i.val:Int)=⟨#[97+i.val]⟩:=by decide +kernel
 have:=this ⟨i.toNat,by omega⟩;rwa [show((⟨i.toNat,by omega⟩:Fin 26).val:Int)=i by show(i.toNat:Int)=i;omega]at this
theorem Wi{i n:Int}(h:0<=i/\i<26)(h1:1<=n)(b:n<=8):Nm (Txt.mul (ch LT i) n):=by
 have e:=Wp (97+i.toNat) n h1;rw[<-IF h]at e;refine⟨?_,?_,λc a=>?_⟩
 ·rw[G9,e,List.length_replicate];omega
 ·rw[G9,e,List.length_replicate];omega
 ·rw[e]at a;rw[(List.mem_replicate.mp a).2];unfold Lw;omega
theorem X2{l:AZ}{c:Nat}(h:c∈cs (Txt.join "" l)):∃q∈l,c∈cs q:=by
 cases l with
 |nil=>cases h
 |cons p ps=>
  rw[iP]at h;rcases List.mem_append.mp h with h|h
  ·exact⟨p,zk ..,h⟩
  ·obtain⟨q,a,h⟩:=List.mem_flatMap.mp h;exact⟨q,zo _ a,h⟩
theorem Yk(xs:Z Int)(e:Int):∃(b:AJ) (at_:Int),(∀c∈cs b,Lw c)/\b.length<=5/\0<=at_/\at_<=(b.length:Int)/\bY xs e=(rng 0 e.toNat).map (Ct xs b at_):=by
 have g:=iR (at' xs 0) (m:=6) (by decide);have mem:∀x∈((rng 0 (at' xs 0%6).toNat).map λa:Int=>ch LT (at' xs a / 40%26)),x.length=1/\∀c∈cs x,Lw c:=λx hx=>by
  obtain⟨k,_,rfl⟩:=List.mem_map.mp hx;refine⟨mU _ _,λc d=>?_⟩;rw[IF (iR _ (by decide))]at d;cases List.mem_singleton.mp d;have:=iR (at' xs k / 40) (m:=26) (by decide);unfold Lw;omega
 refine⟨Txt.join "" ((rng 0 (at' xs 0%6).toNat).map λa:Int=>ch LT (at' xs a / 40%26)),at' xs 1%(((Txt.join "" ((rng 0 (at' xs 0%6).toNat).map λa:Int=>ch LT (at' xs a / 40%26))).length:Int)+1),λc d=>?_,?_,?_,?_,(yd (Ct xs _ _) _ []).trans (kM _)⟩
 ·obtain⟨q,f,h⟩:=X2 d;exact(mem q f).2 c h
 ·have:=LH _ 1 λx hx=>Nat.le_of_eq (mem x hx).1;rw[zi,pR]at this;omega
 ·exact(iR _ (by omega)).1
 ·have:=(iR (at' xs 1) (m:=((Txt.join "" ((rng 0 (at' xs 0%6).toNat).map λa:Int=>ch LT (at' xs a / 40%26))).length:Int)+1) (by omega)).2;omega
theorem a6{xs:Z Int}{a:AJ}{at_:Int}(h1:∀c∈cs a,Lw c)(h2:a.length<=5)(h:0<=at_)(l:at_<=(a.length:Int)){k:Int}(j:0<=k/\k<15):Nm (Ct xs a at_ k):=by
 unfold Ct;split
 ·exact Wi (by omega) (by omega) (by omega)
 ·have f:=Tk (x:=a) (n:=at_.toNat) (by omega);have d:=Sr (x:=a) (n:=at_.toNat) (by omega);rw[yn h]at f d;have c1:=IF (i:=(k+at' xs 2)%15) (by have:=iR (k+at' xs 2) (m:=15) (by decide);omega);have m:=iR (k+at' xs 2) (m:=15) (by decide);have e:cs ((Txt.slice a Y (U at_)++ch LT ((k+at' xs 2)%15))++Txt.slice a (U at_) Y)=((cs a).take at_.toNat++[97+((k+at' xs 2)%15).toNat])++(cs a).drop at_.toNat:=by
   rw[MN,MN,f,d,c1]
  have g:((Txt.slice a Y (U at_)++ch LT ((k+at' xs 2)%15))++Txt.slice a (U at_) Y).length=a.length+1:=by
   rw[G9,e,zS,zS,kz,kA,<-G9];show _+1+_=_;omega
  refine⟨by rw[g];omega,by rw[g];omega,λc b=>?_⟩;rw[e]at b;rcases List.mem_append.mp b with b|b
  ·rcases List.mem_append.mp b with b|b
   ·exact h1 c (List.mem_of_mem_take b)
   ·cases List.mem_singleton.mp b;unfold Lw;omega
  ·exact h1 c (List.mem_of_mem_drop b)
def NQ(n_:AZ):Prop:=∀x∈n_,∀y∈n_,x++("q":AJ)≠y
theorem MZ:∀i:Fin 30,∀j:Fin 30,Txt.mul (ch LT ((i.val:Int) / 8)) (1+(i.val:Int)%8)++("q":AJ)≠Txt.mul (ch LT ((j.val:Int) / 8)) (1+(j.val:Int)%8):=by decide +kernel
theorem dm(xs:Z Int)(c:Int)(h:c<=15):(∀n∈bY xs c,Nm n)/\NQ (bY xs c):=by
 obtain⟨o,at_,h1,h2,f,g,e⟩:=Yk xs c;rw[e];constructor
 ·intro n l;obtain⟨k,b,rfl⟩:=List.mem_map.mp l;obtain⟨j,m,rfl⟩:=zq b;exact a6 h1 h2 f g (by omega)
 ·intro x hx y d a;obtain⟨k,b,rfl⟩:=List.mem_map.mp hx;obtain⟨i,hi,rfl⟩:=zq b;obtain⟨k,b,rfl⟩:=List.mem_map.mp d;obtain⟨j,m,rfl⟩:=zq b;unfold Ct at a;by_cases e:(decide (((at' xs 3)%3)=1))=true
  ·rw[zh e,zh e]at a;exact MZ ⟨i,by omega⟩ ⟨j,by omega⟩ a
  ·rw[zC e,zC e]at a;have:=congrArg Str.length a;rw[eG,eG,eG,eG,eG,mU,mU]at this;have:("q":AJ).length=1:=rfl;omega
theorem NP{a b:Int}(c:0<=a/\a<n)(hb:0<=b/\b<n):In n (if b<a then b else a):=by split<;>exact B8 (by omega) (by omega)
theorem NT{a b:Int}(c:0<=a/\a<n)(hb:0<=b/\b<n):In n (if b>a then b else a):=by split<;>exact B8 (by omega) (by omega)
theorem Wj{a:Int}(b:n=a.toNat){x y:Int}(h:(!decide (x%(if a>1 then a else 1)=y%(if a>1 then a else 1)))=true):(0<=x%(if a>1 then a else 1)/\x%(if a>1 then a else 1)<n)/\(0<=y%(if a>1 then a else 1)/\y%(if a>1 then a else 1)<n):=by
 by_cases e:a>1
 ·rw[zh e]at h ⊢;have h1:=iR x (m:=a) (by omega);have h2:=iR y (m:=a) (by omega);omega
 ·rw[zC e]at h;simp at h
theorem pH{a:Int}:0<(if a>1 then a else 1):=by split<;>omega
theorem Yl(c:Z Int)(at_ a:Int)(p:0<=at_)(a1:at_<=500)(f:Z Int)(s:6<=f.length)(n_:AZ)(o:n_.length=a.toNat)(k:Nat)(t:k<60)(e:Z dX)(h:e.length<=k/\Rs n_ e):
  ig c at_ a f n_ e k/\(dh c at_ a f n_ e k).length<=k+1/\Rs n_ (dh c at_ a f n_ e k):=by
 obtain⟨n,l,q⟩:=HF (aV c ((at_+1)+k)) 4 (by decide) (by decide);have l:(aR (aV c ((at_+1)+k)) 4).length=4:=l;unfold ig dh;dsimp only;generalize aR (aV c ((at_+1)+k)) 4=xs at *
 have j:=λx y=>Wj (x:=x) (y:=y) o;have m:=@pH a;generalize (if a>1 then a else 1)=mm at *
 have b:∀i:Nat,i<4->In xs.length (i:Int):=λi hi=>G6 (by omega);refine⟨⟨⟨HD _ _ (by omega) (by omega),n⟩,⟨⟨b 0 (by decide),m⟩,b 1 (by decide),m⟩,⟨⟨⟨b 2 (by decide),b 2 (by decide),b 2 (by decide)⟩,B8 (by decide) (by omega)⟩,jM (by decide) (Int.le_refl 3)⟩,λg=>?_⟩,?_⟩
 ·have:=j _ _ g;exact⟨⟨NP this.1 this.2,NT this.1 this.2,b 3 (by decide),jM (by decide) (by decide)⟩,fJ (by omega)⟩
 ·split
  ·rename_i g;have:=j _ _ g;refine⟨by rw[zS];show _+1<=_;omega,λr d=>?_⟩;rcases List.mem_append.mp d with d|d
   ·exact h.2 r d
   ·cases List.mem_singleton.mp d;exact⟨pq (NP this.1 this.2),pq (NT this.1 this.2)⟩
  ·exact⟨by omega,h.2⟩
theorem Ym(c:Z Int)(at_ a:Int)(p:0<=at_)(a1:at_<=500)(n_:AZ)(o:n_.length=a.toNat)(k:Nat)(s:k<60)(d:Z (AJ×AJ×Int))(h:d.length<=k/\∀b∈d,b.1∈n_/\b.2.1∈n_):
  iu c at_ a n_ d k/\(dj c at_ a n_ d k).length<=k+1/\∀b∈dj c at_ a n_ d k,b.1∈n_/\b.2.1∈n_:=by
 obtain⟨n,l,q⟩:=HF (aV c ((at_+1)+k)) 8 (by decide) (by decide);have l:(aR (aV c ((at_+1)+k)) 8).length=8:=l;unfold iu dj;dsimp only;generalize aR (aV c ((at_+1)+k)) 8=xs at *
 have j:=λx y=>Wj (x:=x) (y:=y) o;have m:=@pH a;generalize (if a>1 then a else 1)=mm at *
 have f:∀i:Nat,i<8->In xs.length (i:Int):=λi hi=>G6 (by omega);refine⟨⟨⟨HD _ _ (by omega) (by omega),n⟩,⟨⟨f 5 (by decide),m⟩,f 6 (by decide),m⟩,λg=>?_⟩,?_⟩
 ·have:=j _ _ g;exact⟨⟨NP this.1 this.2,NT this.1 this.2,f 7 (by decide),jM (by decide) (by decide)⟩,fJ (by omega)⟩
 ·split
  ·rename_i g;have:=j _ _ g;refine⟨by rw[zS];show _+1<=_;omega,λr e=>?_⟩;rcases List.mem_append.mp e with e|e
   ·exact h.2 r e
   ·cases List.mem_singleton.mp e;exact⟨pq (NP this.1 this.2),pq (NT this.1 this.2)⟩
  ·exact⟨by omega,h.2⟩
structure Gr (g:AZ×(List dX)×(List (Str×Str×Int))):Prop where
 nd:g.1.Nodup
 len:g.1.length<=30
 rs:Rs g.1 g.2.1
 bs:∀b∈g.2.2,b.1∈g.1/\b.2.1∈g.1
 rl:g.2.1.length<64
 bl:g.2.2.length<64
 so:g.1.Pairwise Rv
 nm:∀n∈g.1,Nm n
 nq:NQ g.1
theorem Rs.turn{rs:Z dX}(h:Rs n_ rs):Rs n_ (rs.map λa:(Int×AJ×AJ×Int)=>(((0:Int)-a.1),a.2.1,a.2.2.1,a.2.2.2)):=λr c=>by
 obtain⟨q,b,rfl⟩:=List.mem_map.mp c;exact h q b
theorem Yn(d:Z Int)(at_ a g i:Int)(m:0<=at_)(a1:at_<=500)(K:0<=a)(u:a<=15)(B:0<=g)(Q:g<60)(b0:0<=i)(b1:i<60):oJ d at_ a g i/\Gr (oH d at_ a g i):=by
 obtain⟨F,o,X⟩:=HF (aV d at_) 6 (by decide) (by decide);have o:(aR (aV d at_) 6).length=6:=o;have G:∀c:Z Int,6<=c.length->nu d at_ a g i c/\Gr (nj d at_ a g i c):=λc q=>by
  obtain⟨I,t,W⟩:=cy c q a K (by omega);have knd:=aI c a u;have l:(lg (bY c a)).length=a.toNat:=by rw[(fD _).length_eq,t]
  have p:(lg (bY c a)).Nodup:=(fD _).nodup_iff.mpr knd;have z:∀n_:AZ,n_.length=a.toNat->n_.Nodup->n_.Pairwise Rv->(∀n∈n_,Nm n)->NQ n_->ni d at_ a g i c n_/\Gr (m9 d at_ a g i c n_):=λn_ l p H nm w=>by
   obtain⟨t1,t2,t3⟩:=vD (P:=λf k=>U (ig d at_ a c n_ f k)) (step:=λf k=>dh d at_ a c n_ f k) (λk s=>s.length<=k/\Rs n_ s) g.toNat [] ⟨zg 0,λr h=>(by cases h)⟩ λk s N h=>Yl d at_ a m a1 c q n_ l k (by omega) s h;obtain⟨M,J,C⟩:=vD (P:=λf k=>U (iu d at_ a n_ f k)) (step:=λf k=>dj d at_ a n_ f k) (λk s=>s.length<=k/\∀b∈s,b.1∈n_/\b.2.1∈n_) i.toNat [] ⟨zg 0,λr h=>(by cases h)⟩ λk s N h=>Ym d at_ a m a1 n_ l k (by omega) s h;have sl:=Kx J (show i.toNat<64 by omega);have c6:∀j:Z dX,j.length<=g.toNat->Rs n_ j->m7 d at_ a g i c n_ j/\Gr (mZ d at_ a g i c n_ j):=λj tl D=>by
    have dl:=Ef j;have sp:=(jL (e:=EH eI eS eS eI) (JZ j)).length_eq;refine⟨⟨⟨⟨by omega,by omega⟩,by rw[sp];omega⟩,⟨J7 b0 (by omega),M⟩,JJ sl,sl⟩,p,?_,?_,?_,?_,?_,H,nm,w⟩
    ·show n_.length<=30;omega
    ·exact Rs.turn λr E=>D r (rZ.mp ((jL _).mem_iff.mp E))
    ·exact λb hb=>C b (rZ.mp ((jL _).mem_iff.mp hb))
    ·show(List.map _ _).length<64;rw[zi,sp];omega
    ·show(ug _ _).length<64;rw[(jL _).length_eq];exact Kx (Ef _) sl
   have:=c6 _ t2 t3;exact⟨⟨⟨J7 B (by omega),t1⟩,this.1⟩,this.2⟩
  have mem:∀n,n∈lg (bY c a)->n∈bY c a:=λn h=>(fD _).mem_iff.mp h;obtain⟨v,A⟩:=dm c a u;have:=z _ l p (rT _) (λn h=>v n (mem n h)) λx hx y L=>A x (mem x hx) y (mem y L);exact⟨⟨⟨I,by rw[t];omega⟩,this.1⟩,this.2⟩
 have:=G _ (Nat.le_of_eq o.symm);exact⟨⟨⟨HD _ _ m (by omega),F⟩,this.1⟩,this.2⟩
def LC:AJ:=("abcd":AJ)
theorem Sb:LC.length=4:=by decide +kernel
theorem Ha(h:i<30):ch LC ((i:Int) / 8)=ch LT ((i:Int) / 8):=by
 have:∀i:Fin 30,ch LC ((i.val:Int) / 8)=ch LT ((i.val:Int) / 8):=by decide +kernel
 exact this ⟨i,h⟩
theorem U0(d:Int)(a n_:AZ)(e:a.length=30)(hs:∀x∈a,x∈n_)(k:Nat)(f:k<30)(b:Z dX)(h:b.length<=k/\Rs n_ b):j8 d a b k/\(dU d a b k).length<=k+1/\Rs n_ (dU d a b k):=by
 have i1:In a.length (k:Int):=G6 (by omega);have i2:In a.length (((k:Int)+1)%30):=jM (by decide) (by omega);have a1:=hs _ (pq i1);have a2:=hs _ (pq i2);refine⟨⟨⟨i1,i2⟩,⟨Ic (by omega) (by omega),jM (by decide) (Int.le_refl 4)⟩,fJ (by omega)⟩,?_,?_⟩
 ·show(b++[_]).length<=k+1;rw[zS];show _+1<=_;omega
 ·intro r c;rcases List.mem_append.mp (show r∈b++[_] from c)with c|c
  ·exact h.2 r c
  ·cases List.mem_singleton.mp c;refine⟨?_,?_⟩
   ·show(if Cf _ _=true then _ else _)∈n_;split
    ·exact a2
    ·exact a1
   ·show(if Cf _ _=true then _ else _)∈n_;split
    ·exact a2
    ·exact a1
theorem OY:(((rng 0 (kN 30)).map λa:Int=>(Txt.mul (ch LC (a / (8:Int))) (1+(a%8)))).length=30/\((rng 0 (kN 30)).map λa:Int=>(Txt.mul (ch LC (a / (8:Int))) (1+(a%8)))).Nodup)/\(∀n∈((rng 0 (kN 30)).map λa:Int=>(Txt.mul (ch LC (a / (8:Int))) (1+(a%8)))),Nm n)/\NQ ((rng 0 (kN 30)).map λa:Int=>(Txt.mul (ch LC (a / (8:Int))) (1+(a%8)))):=by
 rw[Qs];have c:∀n,n∈((rng 0 30).map λa:Int=>(Txt.mul (ch LC (a / (8:Int))) (1+(a%8))))->∃i:Nat,i<30/\n=Txt.mul (ch LT ((i:Int) / 8)) (1+(i:Int)%8):=λn h=>by
  obtain⟨k,f,rfl⟩:=List.mem_map.mp h;obtain⟨i,hi,rfl⟩:=zq f;exact⟨i,hi,by rw[Ha hi]⟩
 refine⟨⟨by rw[zi,pR],Ud λi j hi b e=>?_⟩,λn h=>?_,λx hx y d=>?_⟩
 ·rw[Ha hi,Ha b]at e;exact congrArg Fin.val (LZ ⟨i,hi⟩ ⟨j,b⟩ e)
 ·obtain⟨i,hi,rfl⟩:=c n h;exact Wi (by omega) (by omega) (by omega)
 ·obtain⟨i,hi,rfl⟩:=c x hx;obtain⟨j,b,rfl⟩:=c y d;exact MZ ⟨i,hi⟩ ⟨j,b⟩
theorem VX(x turn c:Int):mK x turn c/\Gr (mJ x turn c):=by
 have w:=iR x (m:=2) (by decide);obtain⟨⟨u,o⟩,nm,p⟩:=OY;unfold mK mJ;dsimp only;rw[show("abcd":AJ)=LC from rfl];have d0:(rng 0 (kN 30)).length<=100000:=by rw[pR,Qs];decide
 have l:∀a∈rng 0 (kN 30),In LC.length (a / 8)/\(1+a%8<=1000 ∧ -1000<=1+a%8/\(ch LC (a / 8)).length<=1000):=λk g=>by
  rw[Qs]at g;obtain⟨h1,h2⟩:=Rl g;have v:=iR k (m:=8) (by decide);refine⟨B8 (by omega) (by rw[Sb];omega),by omega,by omega,by rw[mU];decide⟩
 generalize ((rng 0 (kN 30)).map λa:Int=>(Txt.mul (ch LC (a / (8:Int))) (1+(a%8))))=n_ at *
 have j:∀i:Int,In n_.length (((7*i)+turn)%30):=λi=>jM (by decide) (by omega);have q:((rng 0 (kN 30)).map λa:Int=>(at' n_ (((7*a)+turn)%30))).length=30:=by rw[zi,pR,Qs]
 have os:∀y∈((rng 0 (kN 30)).map λa:Int=>(at' n_ (((7*a)+turn)%30))),y∈n_:=λy d=>by
  obtain⟨k,_,rfl⟩:=List.mem_map.mp d;exact pq (j k)
 generalize ((rng 0 (kN 30)).map λa:Int=>(at' n_ (((7*a)+turn)%30)))=order at *
 obtain⟨t1,t2,t3⟩:=vD (P:=λf k=>U (j8 c order f k)) (step:=λf k=>dU c order f k) (λk s=>s.length<=k/\Rs n_ s) (29+(x%2)).toNat [] ⟨zg 0,λr h=>(by cases h)⟩ λk s g h=>U0 c order n_ q os k (by omega) s h;generalize (rng 0 (29+(x%2)).toNat).foldl (λf k=>dU c order f k) []=so at *
 have sp:=(jL (e:=aJ) so).length_eq;have mem:∀y,y∈lg n_↔y∈n_:=λy=>(fD n_).mem_iff;refine⟨⟨⟨d0,l⟩,⟨d0,λk _=>j k⟩,⟨J7 (by omega) (by omega),t1⟩,by omega,by omega,by rw[sp];omega⟩,(fD n_).nodup_iff.mpr o,?_,?_,?_,?_,?_,rT _,λn h=>nm n ((mem n).mp h),λx hx y d=>p x ((mem x).mp hx) y ((mem y).mp d)⟩
 ·show(lg n_).length<=30;rw[(fD n_).length_eq];omega
 ·exact Rs.turn λr t=>by
   have:=t3 r ((jL _).mem_iff.mp t);exact⟨(mem _).mpr this.1,(mem _).mpr this.2⟩
 ·exact λb hb=>(by cases hb)
 ·show(List.map _ _).length<64;rw[zi,sp];omega
 ·show 0<64;decide
theorem SD(b:Z Int):mL b/\Gr (iT b):=by
 obtain⟨f,d,l⟩:=HF (aV b 0) 12 (by decide) (by decide);have d:(aR (aV b 0) 12).length=12:=d;unfold mL iT;dsimp only;generalize aR (aV b 0) 12=head at *
 have a:∀i:Nat,i<12->In head.length (i:Int):=λi hi=>G6 (by omega);have c:=VX (at' head 9 / 16) (at' head 10) (at' head 11);have e:=iR (at' head 6) (m:=15) (by decide);have h:=iR (at' head 7) (m:=22) (by decide);have j:=iR (at' head 8) (m:=4) (by decide);have g:=Yn b 0 (at' head 6%15) (at' head 7%22) (at' head 8%4) (by decide) (by decide) e.1 (by omega) h.1 (by omega) j.1 (by omega);refine⟨⟨⟨HD _ _ (by decide) (by decide),f⟩,a 9 (by decide),λ_=>⟨⟨a 9 (by decide),a 10 (by decide),a 11 (by decide)⟩,c.1⟩,λ_=>⟨a 6 (by decide),⟨a 7 (by decide),a 8 (by decide)⟩,g.1⟩⟩,?_⟩;split
 ·exact c.2
 ·exact g.2
def Tr(F:Z dX):AJ->Z dX->AJ->Prop
 |s,[],e=>s=e
 |s,r::p,e=>r∈F/\∃t,aW r s=U t/\Tr F t p e
def Ru(F:Z dX)(x y:AJ):Prop:=∃p,Tr F x p y
theorem oR{r:dX}(h:aW r x=U y):(r.2.1=x/\r.2.2.1=y)\/(r.2.2.1=x/\r.2.1=y):=by
 unfold aW at h;by_cases h1:r.2.1=x
 ·rw[ZT h1,zh rfl]at h;exact .inl ⟨h1,ja h⟩
 ·rw[ZE h1,zC (by decide)]at h;by_cases h2:r.2.2.1=x
  ·rw[ZT h2,zh rfl]at h;exact .inr ⟨h2,ja h⟩
  ·rw[ZE h2,zC (by decide)]at h;cases h
theorem Wm{r:dX}(a:r.2.1≠r.2.2.1)(h:aW r x=U y):aW r y=U x:=by
 unfold aW;rcases oR h with⟨h1,h2⟩|⟨h1,h2⟩
 ·have:r.2.1≠y:=λz=>a (z.trans h2.symm);rw[ZE this,zC (by decide),ZT h2,zh rfl,h1]
 ·rw[ZT h2,zh rfl,h1]
theorem Tr.app{F:Z dX}:∀{p:Z dX} {x y z:AJ} {q:Z dX},Tr F x p y->Tr F y q z->Tr F x (p++q) z
 |[],_,_,_,_,h,h'=>by cases h;exact h'
 |_::_,_,_,_,_,⟨m,t,e,h⟩,h'=>⟨m,t,e,h.app h'⟩
theorem Tr.rev{F:Z dX}(a:∀r∈F,r.2.1≠r.2.2.1):∀{p:Z dX} {x y:AJ},Tr F x p y->Tr F y p.reverse x
 |[],_,_,h=>by cases h;rfl
 |r::p,x,y,⟨m,t,e,h⟩=>by
  rw[kU];exact(h.rev a).app ⟨m,x,Wm (a r m) e,rfl⟩
theorem Ru.symm{F:Z dX}(a:∀r∈F,r.2.1≠r.2.2.1){x y:AJ}:Ru F x y->Ru F y x:=λ⟨p,h⟩=>⟨_,h.rev a⟩
theorem Ru.trans{F:Z dX}{z:AJ}:Ru F x y->Ru F y z->Ru F x z:=λ⟨_,h⟩ ⟨_,h'⟩=>⟨_,h.app h'⟩
inductive Fo:List dX->Prop
 |nil:Fo []
 |snoc {F:List dX} {r:dX}:Fo F->¬ Ru F r.2.1 r.2.2.1->Fo (F++[r])
theorem Fo.ne{F:Z dX}(h:Fo F):∀r∈F,r.2.1≠r.2.2.1:=by
 induction h with
 |nil=>intro r h;cases h
 |@snoc F r _ a b=>
  intro x hx e;rcases List.mem_append.mp hx with hx|hx
  ·exact b x hx e
  ·cases List.mem_singleton.mp hx;exact a ⟨[],e⟩
theorem Tr.mono{F G:Z dX}:∀{p:Z dX} {x y:AJ},Tr F x p y->(∀r∈p,r∈G)->Tr G x p y
 |[],_,_,h,_=>h
 |r::p,_,_,⟨_,t,e,h⟩,hg=>⟨hg r (zk ..),t,e,h.mono λz a=>hg z (zo _ a)⟩
theorem Tr.mem{F:Z dX}:∀{p:Z dX} {x y:AJ},Tr F x p y->∀r∈p,r∈F
 |[],_,_,_,_,h=>by cases h
 |r::p,_,_,⟨m,_,_,h⟩,z,a=>by
  rcases List.mem_cons.mp a with rfl|a
  ·exact m
  ·exact h.mem z a
theorem Tr.cut{F:Z dX}:∀{p1:Z dX} {r:dX} {p2:Z dX} {x y:AJ},Tr F x (p1++r::p2) y->∃a b,Tr F x p1 a/\aW r a=U b/\Tr F b p2 y
 |[],_,_,x,_,⟨_,t,e,h⟩=>⟨x,t,rfl,e,h⟩
 |q::p1,_,_,_,_,⟨m,t,e,h⟩=>by
  obtain⟨a,b,h1,h2,c⟩:=h.cut;exact⟨a,b,⟨m,t,e,h1⟩,h2,c⟩
theorem uni{F:Z dX}(h:Fo F):∀{s e:AJ} {p q:Z dX},Tr F s p e->Tr F s q e->p.Nodup->q.Nodup->p=q:=by
 induction h with
 |nil=>
  intro s e p q hp g _ _;cases p with
  |nil=>cases q with
   |nil=>rfl
   |cons _ _=>cases g.1
  |cons _ _=>cases hp.1
 |@snoc F r G A o=>
  have i:=G.ne;have x:∀{s e:AJ} {p:Z dX},Tr (F++[r]) s p e->p.Nodup->Tr F s p e\/∃p1 p2 a b,p=p1++r::p2/\Tr F s p1 a/\aW r a=U b/\Tr F b p2 e/\p1.Nodup/\p2.Nodup:=by
   intro s e p hp E;by_cases B:r∈p
   ·obtain⟨p1,p2,rfl⟩:=List.append_of_mem B;obtain⟨a,b,t1,t2,t3⟩:=hp.cut;obtain⟨t,n,I⟩:=List.nodup_append.mp E;obtain⟨H,D⟩:=List.nodup_cons.mp n;refine .inr ⟨p1,p2,a,b,rfl,t1.mono λz f=>?_,t2,t3.mono λz f=>?_,t,D⟩
    ·rcases List.mem_append.mp (t1.mem z f)with h|h
     ·exact h
     ·cases List.mem_singleton.mp h;exact absurd S (I _ f _ (zk ..))
    ·rcases List.mem_append.mp (t3.mem z f)with h|h
     ·exact h
     ·cases List.mem_singleton.mp h;exact absurd f H
   ·refine .inl (hp.mono λz f=>?_);rcases List.mem_append.mp (hp.mem z f)with h|h
    ·exact h
    ·cases List.mem_singleton.mp h;exact absurd f B
  have C:∀{a b:AJ},aW r a=U b->Ru F a b->False:=λ{a b} h c=>by
   rcases oR h with⟨h1,h2⟩|⟨h1,h2⟩
   ·exact A (h1▸h2▸c)
   ·exact A ((h1▸h2▸c.symm i))
  have y:∀{s e:AJ} {p1 p2:Z dX} {a b:AJ},Tr F s p1 a->aW r a=U b->Tr F b p2 e->Ru F s e->False:=λt1 t2 t3 c=>
   C t2 ((Ru.symm i ⟨_,t1⟩).trans (c.trans (Ru.symm i ⟨_,t3⟩)))
  intro s e p q hp g np m;rcases x hp np with h1|⟨p1,p2,a,b,rfl,t1,t2,t3,t,n⟩
  ·rcases x g m with h2|⟨q1,q2,c,d,rfl,j,l,v,_,_⟩
   ·exact o h1 h2 np m
   ·exact(y j l v ⟨_,h1⟩).elim
  ·rcases x g m with h2|⟨q1,q2,c,d,rfl,j,l,v,L,J⟩
   ·exact(y t1 t2 t3 ⟨_,h2⟩).elim
   ·by_cases u:a=c
    ·subst u;have:b=d:=ja (t2.symm.trans l);subst this;rw[o t1 j t L,o t3 v n J]
    ·exfalso;have K:c=b:=by
      rcases oR t2 with⟨x1,w⟩|⟨x1,w⟩<;>rcases oR l with⟨y1,y2⟩|⟨y1,y2⟩
      ·exact absurd (x1.symm.trans y1) u
      ·exact y1.symm.trans w
      ·exact y1.symm.trans w
      ·exact absurd (x1.symm.trans y1) u
     subst K;exact C t2 ((Ru.symm i ⟨_,t1⟩).trans ⟨_,j⟩)
theorem C5{P:Z α->Prop}(h0:P [])(h1:∀l x,P l->P (l++[x]))(l:Z α):P l:=by
 have:∀m:Z α,P m.reverse:=λm=>by
  induction m with
  |nil=>exact h0
  |cons x m a=>rw[kU];exact h1 _ x a
 have:=this l.reverse;rwa [List.reverse_reverse]at this
theorem Hd.hb(f:n_.Nodup)(g:n_.length<1000){rs:Z dX}:Rs n_ rs->Hd n_ (hb n_ rs):=by
 induction rs using C5 with
 |h0=>intro _;exact IX f g
 |h1 rs r e=>
  intro a;obtain⟨d,c⟩:=a r (by simp);rw[Er];exact(e λz b=>a z (Zp _ b)).join d c
theorem RF(h:n_.Nodup)(i:n_.length<1000){pre:Z dX}:∀{a:Z dX},Rs n_ (pre++a)->∀x∈n_,∀y∈n_,look (hb n_ pre) x=look (hb n_ pre) y->look (hb n_ (pre++a)) x=look (hb n_ (pre++a)) y:=λ{a}=>by
 induction a using C5 with
 |h0=>intro _ x hx y b e;rw[ZY];exact e
 |h1 a r g=>
  intro d x hx y b e;rw[<-Q4]at d ⊢;have c:Rs n_ (pre++a):=λz f=>d z (Zp _ f);have H:=Hd.hb h i c;rw[Er];unfold jb;rw[H.uy hx,H.uy b,g c x hx y b e]
theorem gz(i:n_.Nodup)(j:n_.length<1000){rs:Z dX}(d:Rs n_ rs){r:dX}(h:r∈rs):look (hb n_ rs) r.2.1=look (hb n_ rs) r.2.2.1:=by
 obtain⟨a,c,rfl⟩:=List.append_of_mem h;have l:Rs n_ ((a++[r])++c):=λz b=>d z (by simpa using b);obtain⟨g,f⟩:=d r h;have e:a++r::c=(a++[r])++c:=by simp
 rw[e];refine RF i j l _ g _ f ?_;have H:=Hd.hb i j (rs:=a) λz b=>d z (Zp _ b);rw[Er];unfold jb;rw[H.uy g,H.uy f];unfold jn;rw[zh (.inl S),zh (.inr S)]
theorem Rn{n_:AZ}(b:n_.Nodup)(a:n_.length<1000){F:Z dX}(c:Rs n_ F):∀{p:Z dX} {x y:AJ},Tr F x p y->look (hb n_ F) x=look (hb n_ F) y
 |[],_,_,h=>by cases h;rfl
 |r::p,_,_,⟨m,t,e,h⟩=>by
  rw[<-Rn b a c h];have:=gz b a c m;rcases oR e with⟨h1,h2⟩|⟨h1,h2⟩
  ·rw[<-h1,<-h2];exact this
  ·rw[<-h1,<-h2];exact this.symm
structure HI (n_:AZ) (m:List (Str×Str)) (hd:List dX):Prop where
 h:Hd n_ m
 e2:m=hb n_ hd
 rs:Rs n_ hd
 len:hd.length+(Yi n_ m).length=n_.length
 fo:Fo hd
theorem UR(a:n_.Nodup)(b:n_.length<1000):HI n_ (dN n_) []:=by
 refine⟨IX a b,rfl,λr h=>(by cases h),?_,.nil⟩;unfold Yi;rw[(Ep n_ a b).2,List.filter_eq_self.mpr λx hx=>ZT (Bg a hx)];simp
theorem Yo(o:n_.Nodup)(t:n_.length<64){a:Z dX}(i:HI n_ m a){r:dX}(d:r.2.1∈n_)(b:r.2.2.1∈n_):
  jJ (m,a) r/\lV n_ a r/\∃n g,dB (m,a) r=(n,g)/\eV n_ a r=g/\HI n_ n g:=by
 obtain⟨q,P,l,f⟩:=XI o t i.rs;rw[<-i.e2]at f;have s:=Yj f d b;have j:=WI (look m r.2.1) (look m r.2.2.1) i.h.kn i.h.ml;have u:=i.len;have fl:a.length<=1000000:=by omega
 refine⟨⟨i.h.has d,i.h.has b,λ_=>⟨j.1,fl⟩⟩,⟨q,?_,λ_=>fl⟩,?_⟩
 ·show(iD n_ a).length<=100000;rw[l,(pQ P).length_eq];have:=f.len;omega
 unfold dB eV;dsimp only;rw[l,s,j.2];by_cases e:look m r.2.1=look m r.2.2.1
 ·exact⟨m,a,by simp[e],by simp[e],i⟩
 ·refine⟨jm m (look m r.2.1) (look m r.2.2.1),a++[r],by simp[e],by simp[e],i.h.join d b,?_,?_,?_,.snoc i.fo λ⟨p,c⟩=>?_⟩
  ·rw[Er,<-i.e2];rfl
  ·intro x hx;rcases List.mem_append.mp hx with hx|hx
   ·exact i.rs x hx
   ·cases List.mem_singleton.mp hx;exact⟨d,b⟩
  ·have:=i.h.abL d b e;rw[zS];show _+1+_=_;omega
  ·exact e (i.e2▸Rn o (by omega) i.rs c)
theorem Kl{n_:AZ}(h:n_.Nodup)(j:n_.length<64):∀(c:Z dX) (m:Z (AJ×AJ)) (b:Z dX),Rs n_ c->HI n_ m b →
  kY (λ(d:(Z (AJ×AJ))×(Z dX)) (a:dX)=>(dB d a)) (λ(d:(Z (AJ×AJ))×(Z dX)) (a:dX)=>U (jJ d a)) c (m,b) ∧
  kY (λ(f:Z dX) (a:dX)=>(eV n_ f a)) (λ(f:Z dX) (a:dX)=>U (lV n_ f a)) c b ∧
  ∃g e,c.foldl (λ(d:(Z (AJ×AJ))×(Z dX)) (a:dX)=>(dB d a)) (m,b)=(g,e)/\c.foldl (λ(f:Z dX) (a:dX)=>(eV n_ f a)) b=e/\HI n_ g e
 |[],m,b,_,i=>⟨trivial,trivial,m,b,rfl,rfl,i⟩
 |r::c,m,b,hr,i=>by
  obtain⟨n,hb⟩:=hr r (zk ..);obtain⟨l,d2,g,e,e1,e2,i'⟩:=Yo h j i n hb;obtain⟨f1,f2,o,p,g1,g2,i2⟩:=Kl h j c g e (λx hx=>hr x (zo _ hx)) i';refine⟨⟨l,?_⟩,⟨d2,?_⟩,o,p,?_,?_,i2⟩
  ·show kY _ _ c (dB (m,b) r);rw[e1];exact f1
  ·show kY _ _ c (eV n_ b r);rw[e2];exact f2
  ·rw[QO,e1];exact g1
  ·rw[QO,e2];exact g2
theorem Ro(b:n_.Nodup)(e:n_.length<64){rs:Z dX}(d:Rs n_ rs)(c:Z (AJ×AJ×Int)):
  kO (n_,rs,c)/\tW n_ rs/\∃a,jr (n_,rs,c)=a/\gj n_ rs=a/\Rs n_ a/\Fo a/\a.length<=n_.length:=by
 obtain⟨f1,f2,g,f,g1,g2,i2⟩:=Kl b e rs _ _ d (UR b (by omega));have l:=(Ep n_ b (by omega)).1;have:=i2.len;exact⟨⟨l,f1⟩,f2,f,congrArg Prod.snd g1,g2,i2.rs,i2.fo,by omega⟩
theorem Yp{α:Type}[DecidableEq α]:∀{xs ys:Z α},xs.Nodup->(∀x∈xs,x∈ys)->xs.length<=ys.length
 |[],_,_,_=>Q1 _
 |x::xs,ys,nd,h=>by
  obtain⟨c,b⟩:=List.nodup_cons.mp nd;have hx:=h x (zk ..);have:=Yp (ys:=ys.erase x) b λz a=>(List.mem_erase_of_ne (λe:z=x=>c (e▸a))).mpr (h z (zo _ a));rw[y7 hx]at this;have:=kF hx;rw[qc];omega
def CO(n:Nat)(F:Z dX)(s e:AJ)(c:Z dX):Unit->dX->jt Unit (O (Z dX)):=λ(f:Unit) (a:aF)=>((if((!sJ a c)&&(decide (s∈[(a.2.1,a.2.2.1).1,(a.2.1,a.2.2.1).2])))=true then(let d:=(at' [eI a.1,eS a.2.1,eS a.2.2.1,eI a.2.2.2] (1+(if(decide (a.2.1=s))=true then(1:Int)else 0)));(let b:=(bW n F (Al d) e (c++[a]));(if b.isSome=true then(jt.rt (U ([a]++(b.getD default))))else(jt.nx ()))))else(jt.nx ())):jt (Unit) (O (Z aF)))
def GE(n:Nat)(F:Z dX)(s e:AJ)(c:Z dX):Unit->dX->O Prop:=λ(f:Unit) (a:aF)=>U (((!sJ a c)&&(decide (s∈[(a.2.1,a.2.2.1).1,(a.2.1,a.2.2.1).2])))=true->(In [eI a.1,eS a.2.1,eS a.2.2.1,eI a.2.2.2].length (1+(if(decide (a.2.1=s))=true then(1:Int)else 0))/\(let b:=(at' [eI a.1,eS a.2.1,eS a.2.2.1,eI a.2.2.2] (1+(if(decide (a.2.1=s))=true then(1:Int)else 0)));(((b=eS (Al b)/\sy (c.length+[a].length))/\(iG n F (Al b) e (c++[a])))/\(let d:=(bW n F (Al b) e (c++[a]));(d.isSome=true->(d.isSome=true/\sy ([a].length+(d.getD default).length))))))))
theorem VI(n:Nat)(F:Z dX)(s e:AJ)(a:Z dX):bW (n+1) F s e a=if(decide (s=e))=true then(U [])else(BG (jB (CO n F s e a) F ()) (λr=>r) λb:Unit=>Y):=rfl
theorem eC(n:Nat)(F:Z dX)(s e:AJ)(a:Z dX):iG (n+1) F s e a=((decide (s=e))=false->(uf (CO n F s e a) (GE n F s e a) F ()/\(sI (jB (CO n F s e a) F ()) λb:Unit=>True))):=rfl
def oth(r:dX)(s:AJ):AJ:=if r.2.1=s then r.2.2.1 else r.2.1
theorem SR(r:dX)(s:AJ):In [eI r.1,eS r.2.1,eS r.2.2.1,eI r.2.2.2].length (1+(if(decide (r.2.1=s))=true then(1:Int)else 0))/\at' [eI r.1,eS r.2.1,eS r.2.2.1,eI r.2.2.2] (1+(if(decide (r.2.1=s))=true then(1:Int)else 0))=eS (oth r s):=by
 unfold oth;by_cases h:r.2.1=s
 ·rw[ZT h,zh rfl,zh h];exact⟨B8 (by decide) (by show(1:Int)+1<4;decide),rfl⟩
 ·rw[ZE h,zC (by decide),zC h];exact⟨B8 (by decide) (by show(1:Int)+0<4;decide),rfl⟩
theorem M3{r:dX}{s:AJ}(h:s∈[r.2.1,r.2.2.1]):aW r s=U (oth r s):=by
 unfold aW oth;by_cases h1:r.2.1=s
 ·rw[ZT h1,zh rfl,zh h1]
 ·have h2:r.2.2.1=s:=by
   simp only[Q2,js,or_false]at h;rcases h with h|h
   ·exact absurd h.symm h1
   ·exact h.symm
  rw[ZE h1,zC (by decide),ZT h2,zh rfl,zC h1]
theorem WC{r:dX}{s t:AJ}(h:aW r s=U t):s∈[r.2.1,r.2.2.1]:=by
 rcases oR h with⟨h1,_⟩|⟨h1,_⟩<;>simp[h1]
def Gw(F:Z dX)(s e:AJ)(a p:Z dX):Prop:=Tr F s p e/\p.Nodup/\∀r∈p,r∉a
theorem Mc{F:Z dX}(K:F.length<=64):∀(n:Nat) (s e:AJ) (a:Z dX),(∀r∈a,r∈F)->a.Nodup->F.length<n+a.length →
  iG n F s e a/\(∀p,bW n F s e a=U p->Gw F s e a p)/\(bW n F s e a=Y->∀p,Gw F s e a p->False)
 |0,s,e,a,ha,nd,hl=>by
  have:=Yp nd ha;omega
 |n+1,s,e,a,ha,nd,hl=>by
  have X:=Yp nd ha;rw[eC,VI];by_cases l:s=e
  ·rw[ZT l,zh rfl];refine⟨λz=>(by cases z),λp h=>?_,λh=>(by cases h)⟩;cases h;exact⟨l,j0,λr h=>(by cases h)⟩
  ·rw[ZE l,zC (by decide)];have N:∀L:Z dX,(∀r∈L,r∈F)->uf (CO n F s e a) (GE n F s e a) L ()/\((jB (CO n F s e a) L ()=.nx ()/\∀r∈L,r∉a->∀t,aW r s=U t->∀p,Gw F t e (a++[r]) p->False)\/∃p,jB (CO n F s e a) L ()=.rt (U p)/\Gw F s e a p):=by
    intro L
    induction L with
    |nil=>exact λ_=>⟨trivial,.inl ⟨rfl,λr h=>(by cases h)⟩⟩
    |cons r L P=>
     intro B;obtain⟨i1,i2⟩:=P λz b=>B z (zo _ b);have v:=B r (zk ..);obtain⟨H,C⟩:=SR r s;by_cases d:r∉a/\s∈[r.2.1,r.2.2.1]
     ·have c:((!sJ r a)&&(decide (s∈[(r.2.1,r.2.2.1).1,(r.2.1,r.2.2.1).2])))=true:=by
       have m:sJ r a=false:=by
        cases q:sJ r a with
        |false=>rfl
        |true=>exact absurd (zf.mp q) d.1
       rw[m,ZT (show s∈[(r.2.1,r.2.2.1).1,(r.2.1,r.2.2.1).2] from d.2)];rfl
      obtain⟨E,u,J⟩:=Mc K n (oth r s) e (a++[r]) (λz b=>by
       rcases List.mem_append.mp b with b|b
       ·exact ha z b
       ·cases List.mem_singleton.mp b;exact v) (List.nodup_append.mpr ⟨nd,List.nodup_cons.mpr ⟨λz=>(by cases z),j0⟩,λx hx y W z=>by
        cases List.mem_singleton.mp W;exact d.1 (z▸hx)⟩) (by rw[zS];show _<n+(_+1);omega)
      have st:CO n F s e a () r=if(bW n F (oth r s) e (a++[r])).isSome=true then(jt.rt (U ([r]++((bW n F (oth r s) e (a++[r])).getD default))))else(jt.nx ()):=by
       unfold CO;rw[zh c];dsimp only;rw[C];rfl
      have j:hold (GE n F s e a () r):=by
       show _->_;intro _;refine⟨H,?_⟩;dsimp only;rw[C];refine⟨⟨⟨rfl,fJ ?_⟩,E⟩,λh=>⟨h,fJ ?_⟩⟩
       ·show _+1<=1000;omega
       ·cases q:bW n F (oth r s) e (a++[r])with
        |none=>rw[show Al (eS (oth r s))=oth r s from rfl,q];show 1+0<=1000;decide
        |some p=>
         rw[show Al (eS (oth r s))=oth r s from rfl,q];have g:=u p q;have:=Yp g.2.1 g.1.mem;show 1+p.length<=1000;omega
      cases q:bW n F (oth r s) e (a++[r])with
      |some p=>
       rw[q]at st;have st:CO n F s e a () r=.rt (U (r::p)):=st;have g:=u p q;refine⟨⟨j,by rw[st];trivial⟩,.inr ⟨r::p,by unfold jB;rw[st],⟨v,_,M3 d.2,g.1⟩,List.nodup_cons.mpr ⟨λz=>g.2.2 r z (by simp),g.2.1⟩,λz b=>?_⟩⟩;rcases List.mem_cons.mp b with rfl|b
       ·exact d.1
       ·exact λw=>g.2.2 z b (Zp _ w)
      |none=>
       rw[q]at st;have st:CO n F s e a () r=.nx ():=st;refine⟨⟨j,by rw[st];exact i1⟩,?_⟩;rcases i2 with⟨e1,e2⟩|⟨p,e1,e2⟩
       ·refine .inl ⟨by unfold jB;rw[st];exact e1,λz b i t f p hp=>?_⟩;rcases List.mem_cons.mp b with rfl|b
        ·rw[M3 d.2]at f;cases f;exact J q p hp
        ·exact e2 z b i t f p hp
       ·exact .inr ⟨p,by unfold jB;rw[st];exact e1,e2⟩
     ·have c:((!sJ r a)&&(decide (s∈[(r.2.1,r.2.2.1).1,(r.2.1,r.2.2.1).2])))=false:=by
       by_cases h1:r∈a
       ·rw[zf.mpr h1];rfl
       ·have h2:¬ s∈[(r.2.1,r.2.2.1).1,(r.2.1,r.2.2.1).2]:=λz=>d ⟨h1,z⟩;rw[ZE h2,ky]
      have st:CO n F s e a () r=.nx ():=by
       unfold CO;rw[c,zC (by decide)]
      have j:hold (GE n F s e a () r):=by
       show _->_;intro z;rw[c]at z;cases z
      refine⟨⟨j,by rw[st];exact i1⟩,?_⟩;rcases i2 with⟨e1,e2⟩|⟨p,e1,e2⟩
      ·refine .inl ⟨by unfold jB;rw[st];exact e1,λz b i t f p hp=>?_⟩;rcases List.mem_cons.mp b with rfl|b
       ·exact d ⟨i,WC f⟩
       ·exact e2 z b i t f p hp
      ·exact .inr ⟨p,by unfold jB;rw[st];exact e1,e2⟩
   obtain⟨D,Q⟩:=N F λr h=>h;rcases Q with⟨e1,e2⟩|⟨p,e1,e2⟩
   ·rw[e1];refine⟨λ_=>⟨D,trivial⟩,λp h=>(by cases h),λ_ p hp=>?_⟩;cases p with
    |nil=>exact l hp.1
    |cons r p=>
     obtain⟨⟨m,t,o,h⟩,I,A⟩:=hp;obtain⟨M,G⟩:=List.nodup_cons.mp I;refine e2 r m (A r (zk ..)) t o p ⟨h,G,λz b w=>?_⟩;rcases List.mem_append.mp w with w|w
     ·exact A z (zo _ b) w
     ·cases List.mem_singleton.mp w;exact M b
   ·rw[e1];refine⟨λ_=>⟨D,trivial⟩,λq h=>?_,λh=>(by cases h)⟩;cases h;exact e2
abbrev Cm:=Z (AJ×(O aF))
inductive Bk (F:List dX) (s:Str):Cm->Prop
 |base:Bk F s [(s,none)]
 |snoc {L:Cm} {x:Str} {r:dX} {y:Str}:Bk F s L->x∉L.map (·.1)->r∈F->aW r x=some y->y∈L.map (·.1)->Bk F s (L++[(x,some r)])
theorem Bk.facts{F:Z dX}{s:AJ}(e:Rs n_ F)(hs:s∈n_){L:Cm}(h:Bk F s L):(L.map (·.1)).Nodup/\(∀x∈L.map (·.1),x∈n_)/\s∈L.map (·.1):=by
 induction h with
 |base=>exact⟨List.nodup_cons.mpr ⟨λz=>(by cases z),j0⟩,λx hx=>by cases List.mem_singleton.mp hx;exact hs,List.mem_singleton.mpr rfl⟩
 |@snoc L x r y h hx m o i g=>
  obtain⟨i1,i2,f⟩:=g;rw[qB];refine⟨List.nodup_append.mpr ⟨i1,List.nodup_cons.mpr ⟨λz=>(by cases z),j0⟩,λa d b hb z=>?_⟩,λz c=>?_,Zp _ f⟩
  ·cases List.mem_singleton.mp hb;have z:a=x:=z;rw[z]at d;exact hx d
  ·rcases List.mem_append.mp c with c|c
   ·exact i2 z c
   ·cases List.mem_singleton.mp c;rcases oR o with⟨h1,_⟩|⟨h1,_⟩
    ·show x∈n_;rw[<-h1];exact(e r m).1
    ·show x∈n_;rw[<-h1];exact(e r m).2
theorem Bk.len{F:Z dX}{s:AJ}(a:Rs n_ F)(hs:s∈n_){L:Cm}(h:Bk F s L):L.length<=n_.length:=by
 obtain⟨h1,h2,_⟩:=h.facts a hs;have:=Yp h1 h2;rwa [zi]at this
theorem X0{L:Cm}{v:O dX}(h:x∉L.map (·.1)):put L x v=L++[(x,v)]:=by
 unfold put;rw[zC λz=>h (lW.mp z)]
theorem DL{n_:AZ}{F:Z dX}{s:AJ}(u:Rs n_ F)(hs:s∈n_)(B:n_.length<64)(v:∀r∈F,r.2.1≠r.2.2.1){here:AJ}:∀(R:Z dX),(∀r∈R,r∈F)->∀(L:Cm) (q:AZ),Bk F s L->here∈L.map (·.1)->q.length<=L.length →
  kY (λ(a:Cm×AZ) (i:aF)=>(dD here a i)) (λ(a:Cm×AZ) (i:aF)=>U (gQ here a i)) R (L,q) ∧
  ∃f ad,R.foldl (λ(a:Cm×AZ) (i:aF)=>(dD here a i)) (L,q)=(f,q++ad)/\f.map (·.1)=L.map (·.1)++ad/\Bk F s f/\∀r∈R,∀y,aW r here=U y->y∈f.map (·.1)
 |[],_,L,q,b,_,_=>⟨trivial,L,[],by rw[ZY];rfl,by rw[ZY],b,λr h=>(by cases h)⟩
 |r::R,hR,L,q,b,hh,hq=>by
  have w:=hR r (zk ..);have D:=b.len u hs;have o:∀(l:Cm) (a1:AZ),dD here (L,q) r=(l,q++a1)->gQ here (L,q) r->l.map (·.1)=L.map (·.1)++a1->Bk F s l->(∀y,aW r here=U y->y∈l.map (·.1))->(q++a1).length<=l.length->(kY (λ(a:Cm×AZ) (i:aF)=>(dD here a i)) (λ(a:Cm×AZ) (i:aF)=>U (gQ here a i)) (r::R) (L,q)/\∃f ad,(r::R).foldl (λ(a:Cm×AZ) (i:aF)=>(dD here a i)) (L,q)=(f,q++ad)/\f.map (·.1)=L.map (·.1)++ad/\Bk F s f/\∀z∈r::R,∀y,aW z here=U y->y∈f.map (·.1)):=λl a1 e d k b1 c A=>by
   obtain⟨i1,f,ad,i2,p,x,C⟩:=DL u hs B v R (λz m=>hR z (zo _ m)) l (q++a1) b1 (by rw[k];exact Zp _ hh) A;refine⟨⟨d,by show kY _ _ R (dD here (L,q) r);rw[e];exact i1⟩,f,a1++ad,?_,?_,x,λz m y g=>?_⟩
   ·rw[QO,e,i2,Q4]
   ·rw[p,k,Q4]
   ·rcases List.mem_cons.mp m with rfl|m
    ·rw[p];exact Zp _ (c y g)
    ·exact C z m y g
  cases j:aW r here with
  |none=>
   refine o L [] ?_ ?_ (by rw[ZY]) b (λy g=>by rw[j]at g;cases g) (by rw[ZY];exact hq)
   ·unfold dD;dsimp only;rw[j,ZY];rfl
   ·unfold gQ;dsimp only;rw[j];exact⟨λz=>z,λz=>(by cases z)⟩
  |some t=>
   by_cases n:t∈L.map (·.1)
   ·have c:(!has L t)=false:=by rw[lW.mpr n];rfl
    refine o L [] ?_ ?_ (by rw[ZY]) b (λy g=>by rw[j]at g;cases g;exact n) (by rw[ZY];exact hq)
    ·unfold dD;dsimp only;rw[j,ZY,show(!has L ((U t).getD default))=false from c];rfl
    ·unfold gQ;dsimp only;rw[j,show(!has L ((U t).getD default))=false from c];exact⟨λz=>z,λz=>(by cases z)⟩
   ·have c:(!has L t)=true:=by
     cases q:has L t with
     |false=>rfl
     |true=>exact absurd (lW.mp q) n
    refine o (L++[(t,U r)]) [t] ?_ ?_ (by rw[qB];rfl) (.snoc b n w (Wm (v r w) j) hh) (λy g=>by rw[j]at g;cases g;rw[qB];exact ZA _ (List.mem_singleton.mpr S)) (by rw[zS,zS];show _+1<=_+1;omega)
    ·unfold dD;dsimp only;rw[j,show(!has L ((U t).getD default))=true from c];show(put L t (U r),q++[t])=_;rw[X0 n]
    ·unfold gQ;dsimp only;rw[j];exact⟨λz=>z,λ_=>⟨⟨rfl,by omega⟩,rfl,fJ (by show q.length<=1000;omega)⟩⟩
structure Iq (F:List dX) (s:Str) (q:AZ) (L:Cm):Prop where
 b:Bk F s L
 sub:∀x∈q,x∈L.map (·.1)
 len:q.length<=L.length
 cl:∀x∈L.map (·.1),x∉q->∀r∈F,∀y,aW r x=some y->y∈L.map (·.1)
theorem outer{n_:AZ}{F:Z dX}{s:AJ}(g:Rs n_ F)(hs:s∈n_)(l:n_.length<64)(j:∀r∈F,r.2.1≠r.2.2.1):∀(n:Nat) (q:AZ) (L:Cm),Iq F s q L->n_.length-L.length+q.length<n->∃f,Iq F s [] f ∧
  J6 (λa:AZ×Cm=>(!a.1.isEmpty)) (λa:AZ×Cm=>((gR F a):jt (AZ×Cm) (O (Z aF)))) n (q,L)=.nx ([],f) ∧
  DH (λa:AZ×Cm=>(!a.1.isEmpty)) (λa:AZ×Cm=>Y) (λa:AZ×Cm=>((gR F a):jt (AZ×Cm) (O (Z aF)))) (λa:AZ×Cm=>U (qC F a)) n (q,L)
 |0,_,_,_,h=>by omega
 |n+1,[],L,i,_=>⟨L,i,rfl,trivial,λz=>(by cases z)⟩
 |n+1,h::q,L,i,hm=>by
  have w:=i.sub h (zk ..);have v:=i.len;rw[qc]at v hm;obtain⟨d,f,ad,e,k,b,c⟩:=DL g hs l j (here:=h) F (λr h=>h) L q i.b w (by omega);have D:f.length=L.length+ad.length:=by
   have:=congrArg List.length k;rwa [zS,zi,zi]at this
  have C:=b.len g hs;have i':Iq F s (q++ad) f:=by
   refine⟨b,λx hx=>?_,by rw[zS];omega,λx hx o=>?_⟩
   ·rw[k];rcases List.mem_append.mp hx with hx|hx
    ·exact Zp _ (i.sub x (zo _ hx))
    ·exact ZA _ hx
   ·rw[k]at hx;rcases List.mem_append.mp hx with hx|hx
    ·by_cases m:x=h
     ·subst m;exact c
     ·intro r B y u;rw[k];refine Zp _ (i.cl x hx (λz=>?_) r B y u);rcases List.mem_cons.mp z with z|z
      ·exact m z
      ·exact o (Zp _ z)
    ·exact absurd (ZA _ hx) o
  have st:gR F (h::q,L)=.nx (q++ad,f):=by
   unfold gR;dsimp only;rw[show at' (h::q) (0:Int)=h from T7 _ 0 (by simp),show(h::q).drop 1=q from rfl,e]
  obtain⟨p,i2,t,A⟩:=outer g hs l j n (q++ad) f i' (by rw[zS];omega);refine⟨p,i2,?_,trivial,λ_=>⟨?_,?_⟩⟩
  ·unfold J6;rw[zh (show(!(h::q,L).1.isEmpty)=true from S),st];exact t
  ·show qC F (h::q,L);refine⟨⟨rfl,by show 0<(h::q).length;simp⟩,?_⟩;dsimp only;rw[show at' (h::q) (0:Int)=h from T7 _ 0 (by simp)];exact d
  ·dsimp only;rw[st];exact A
theorem back{F:Z dX}{s:AJ}(I:∀r∈F,r.2.1≠r.2.2.1){L:Cm}(h:Bk F s L):(L.map (·.1)).Nodup->∀x∈L.map (·.1),∃w,Tr F x w s/\w.Nodup/\(∀r∈w,r.2.1∈L.map (·.1)/\r.2.2.1∈L.map (·.1))/\w.length<L.length ∧
  ∀(a:Cm),(∀k∈L.map (·.1),look a k=look L k/\has a k=true)->∀(n:Nat) (c:Z dX),w.length<n->c.length+w.length<=100 →
   J6 (λd:(Z aF)×AJ=>(look a d.2).isSome) (λd:(Z aF)×AJ=>((eY a d):jt ((Z aF)×AJ) (Z aF))) n (c,x)=.nx (c++w,s) ∧
   DH (λd:(Z aF)×AJ=>(look a d.2).isSome) (λd:(Z aF)×AJ=>U (has a d.2=true)) (λd:(Z aF)×AJ=>((eY a d):jt ((Z aF)×AJ) (Z aF))) (λd:(Z aF)×AJ=>U (jD a d)) n (c,x):=by
 induction h with
 |base=>
  intro _ x hx;cases List.mem_singleton.mp hx;refine⟨[],rfl,j0,λr h=>(by cases h),Nat.zero_lt_succ _,λa h2 n c i _=>?_⟩;obtain⟨l,g⟩:=h2 s (List.mem_singleton.mpr S);have l:look a s=Y:=l.trans (zQ (pre:=[]) (AS:=[]) (λz=>by cases z));cases n with
  |zero=>cases i
  |succ n=>
   refine⟨?_,g,λz=>?_⟩
   ·unfold J6;rw[zC (by show ¬ (look a s).isSome=true;rw[l];decide),ZY]
   ·have z:(look a s).isSome=true:=z;rw[l]at z;cases z
 |@snoc L y r z b u m o j A=>
  intro p x hx;rw[qB]at p hx ⊢;have v:=(List.nodup_append.mp p).1;have B:∀k∈L.map (·.1),look (L++[(y,U r)]) k=look L k:=λk f=>by
   have:=Kg f;have h1:(k,look L k)∈L++[(y,U r)]:=Zp _ this;exact Eo (m:=L++[(y,U r)]) (by rw[qB];exact p) h1
  rcases List.mem_append.mp hx with hx|hx
  ·obtain⟨w,t1,t2,t3,C,t⟩:=A v x hx;refine⟨w,t1,t2,λq e=>⟨Zp _ (t3 q e).1,Zp _ (t3 q e).2⟩,by rw[zS];omega,λa h2=>t a λk f=>?_⟩;obtain⟨a1,a2⟩:=h2 k (Zp _ f);exact⟨a1.trans (B k f),a2⟩
  ·have ex:x=y:=List.mem_singleton.mp hx;subst ex;obtain⟨w,t1,t2,t3,C,t⟩:=A v z j;have D:r∉w:=λq=>by
    obtain⟨a1,a2⟩:=t3 r q;rcases oR o with⟨h1,_⟩|⟨h1,_⟩
    ·exact u (h1▸a1)
    ·exact u (h1▸a2)
   refine⟨r::w,⟨m,z,o,t1⟩,List.nodup_cons.mpr ⟨D,t2⟩,λq e=>?_,by rw[zS,qc];show _+1<_+1;omega,λa h2 n c i E=>?_⟩
   ·rcases List.mem_cons.mp e with rfl|e
    ·rcases oR o with⟨h1,h2⟩|⟨h1,h2⟩
     ·exact⟨ZA _ (by rw[h1];exact List.mem_singleton.mpr S),Zp _ (by rw[h2];exact j)⟩
     ·exact⟨Zp _ (by rw[h2];exact j),ZA _ (by rw[h1];exact List.mem_singleton.mpr S)⟩
    ·exact⟨Zp _ (t3 q e).1,Zp _ (t3 q e).2⟩
   ·obtain⟨l,g⟩:=h2 x (ZA _ (List.mem_singleton.mpr S));have l:look a x=U r:=l.trans (zQ (pre:=L) (AS:=[]) u);rw[qc]at i E;cases n with
    |zero=>cases i
    |succ n=>
     have st:eY a (c,x)=.nx (c++[r],z):=by
      unfold eY;dsimp only;rw[l];show jt.nx (c++[r],(aW r x).getD default)=_;rw[o];rfl
     obtain⟨G,H⟩:=t a (λk f=>by
      obtain⟨a1,a2⟩:=h2 k (Zp _ f);exact⟨a1.trans (B k f),a2⟩) n (c++[r]) (by omega) (by rw[zS];show _+1+_<=100;omega)
     refine⟨?_,g,λ_=>⟨?_,?_⟩⟩
     ·unfold J6;rw[zh (by show(look a x).isSome=true;rw[l];rfl),st];show J6 _ _ n (c++[r],z)=_;rw[G,Q4];rfl
     ·show jD a (c,x);unfold jD;dsimp only;rw[l];exact⟨⟨⟨g,rfl⟩,fJ (by show c.length<=1000;omega)⟩,⟨g,rfl⟩,by show(aW r x).isSome=true;rw[o];rfl⟩
     ·dsimp only;rw[st];exact H
theorem LN{F:Z dX}(f:Rs n_ F)(G:n_.length<64)(fo:Fo F){s e:AJ}(hs:s∈n_):vN F s e/\(∀p,dZ F s e=U p->Tr F s p e/\p.Nodup)/\(dZ F s e=Y->¬ Ru F s e):=by
 have d:=fo.ne;have v:Iq F s [s] [(s,Y)]:=⟨.base,λx hx=>hx,zg _,λx hx n=>absurd hx n⟩;obtain⟨L,i,l,g⟩:=outer f hs G d 70 [s] [(s,Y)] v (by show n_.length-1+1<70;omega);have K:0<n_.length:=kF hs;obtain⟨f1,f2,H⟩:=i.b.facts f hs;have J:=i.b.len f hs;have D:∀{p:Z dX} {x y:AJ},Tr F x p y->x∈L.map (·.1)->y∈L.map (·.1):=by
  intro p
  induction p with
  |nil=>intro x y h hx;cases h;exact hx
  |cons r p B=>
   intro x y h hx;obtain⟨m,t,o,h⟩:=h;exact B h (i.cl x hx (λz=>by cases z) r m t o)
 unfold vN dZ;dsimp only;rw[l];by_cases a:e∈L.map (·.1)
 ·have c:(!has L e)=false:=by rw[lW.mpr a];rfl
  obtain⟨w,t1,t2,t3,I,u⟩:=back d i.b f1 e a;obtain⟨j,C⟩:=u L (λk E=>⟨rfl,lW.mpr E⟩) 70 [] (by omega) (by show 0+_<=100;omega);have tb:iU L e=w:=by
   unfold iU;dsimp only;rw[j];rfl
  have A:pG L e:=by
   unfold pG;dsimp only;rw[j];exact⟨C,trivial⟩
  refine⟨⟨g,λ_=>A⟩,λp hp=>?_,λh=>?_⟩
  ·have hp:(if(!has L e)=true then Y else(U (iU L e).reverse))=U p:=hp;rw[c,zC (by decide),tb]at hp;cases hp;exact⟨t1.rev d,(List.reverse_perm w).nodup_iff.mpr t2⟩
  ·have h:(if(!has L e)=true then Y else(U (iU L e).reverse))=Y:=h;rw[c,zC (by decide)]at h;cases h
 ·have c:(!has L e)=true:=by
   cases q:has L e with
   |false=>rfl
   |true=>exact absurd (lW.mp q) a
  refine⟨⟨g,λz=>?_⟩,λp hp=>?_,λ_ ⟨p,h⟩=>a (D h H)⟩
  ·rw[c]at z;cases z
  ·have hp:(if(!has L e)=true then Y else(U (iU L e).reverse))=U p:=hp;rw[c,zh rfl]at hp;cases hp
theorem Yq(d:Dt)(b:AJ)(n:Int)(h:n<=1000):kj d b n:=by
 unfold kj;intro hs;obtain⟨x,rfl⟩:=XS hs;refine⟨⟨rfl,λ_=>S⟩,λa=>⟨⟨rfl,?_⟩,λs h=>eR h⟩⟩;rw[To];have h2:(x.length:Int)<=n:=ko ((Zz _ _).mp a).2;omega
theorem Rp{a:AJ}{n:Int}(h:jq d a n=true):lA d=true:=by
 unfold jq at h;rw[Zz]at h;exact h.1
theorem NZ(d:Dt):rD d:=Yq d _ 8 (by decide)
theorem XB(h:dI d=true):lA d=true:=Rp h
theorem C9(h:(uz d d).isSome=true)(b:uc d<=100):BT (.z d) (.z d)=U (.z (.bl true)):=by
 obtain⟨k,a⟩:=Option.isSome_iff_exists.mp h;unfold BT;rw[zC (by intro z;rcases z with z|z<;>cases z)];show(if min (uc d) (uc d)<=100 then _ else _)=_;rw[zh (by omega)];show(uz d d).bind _=_;rw[a,FP a];rfl
theorem Rq(h:lA d=false):dI d=false:=by
 cases e:dI d with
 |false=>rfl
 |true=>rw[XB e]at h;cases h
theorem a8(x:AJ)(ns:AZ):Iv (.str x) (ns.map eS)=decide (x∈ns)/\XF (.str x) (ns.map eS):=by
 constructor
 ·unfold Iv;rw[yv,JE,QP,qi];constructor
  ·rintro⟨y,a,h⟩;have h:Yw (uz (eS y) (eS x))=true:=h;rw[B6.eq]at h;by_cases q:y=x
   ·exact q▸a
   ·rw[ZE q]at h;cases h
  ·intro h;refine⟨x,h,?_⟩;show Yw (uz (eS x) (eS x))=true;rw[B6.eq,ZT rfl];rfl
 ·intro d b;obtain⟨y,_,rfl⟩:=List.mem_map.mp b;refine⟨?_,?_⟩
  ·show(uz (eS y) (eS x)).isSome=true;rw[B6.eq];rfl
  ·have:=B6.dp (e:=eS) y;omega
theorem ce(h:∀y,uz (.str y) d=U false)(ns:AZ):Iv d (ns.map eS)=false/\XF d (ns.map eS):=by
 constructor
 ·unfold Iv;rw[yv,List.any_eq_false];intro y _ e;have e:Yw (uz (.str y) d)=true:=e;rw[h]at e;cases e
 ·intro e a;obtain⟨y,_,rfl⟩:=List.mem_map.mp a;have:=B6.dp (e:=eS) y;exact⟨by show(uz (.str y) d).isSome=true;rw[h];rfl,by omega⟩
theorem Yr{f:AJ}(h:Nm f)(t x:Int):oO f t x:=by
 have:=h.1;have:=h.2.1;have c:=slice_le f Y (U (t%((f.length:Int)+1)));have a:=slice_le f (U (t%((f.length:Int)+1))) Y;have b:=slice_le f (U (t%((f.length:Int)+1)+1)) Y;have o:at' [(36:Int),94] (x / 3%2)=36\/at' [(36:Int),94] (x / 3%2)=94:=by
  have:=pq (xs:=[(36:Int),94]) (i:=x / 3%2) (jM (by decide) (by decide));simpa using this
 refine⟨fJ (by decide +kernel),⟨⟨jM (by decide) (by decide),by omega⟩,jM (by omega) ?_⟩,by omega,⟨⟨fJ ?_,fJ ?_⟩,⟨fJ ?_,fJ ?_⟩,fJ ?_⟩,jM (by decide) (Int.le_refl 3)⟩
 ·rcases o with o|o<;>rw[o]<;>decide +kernel
 ·rw[mU];omega
 ·rw[eG,mU];omega
 ·rw[mU];omega
 ·rw[eG,mU];omega
 ·omega
theorem Rr{g:fU}(s:Gr g)(hx:x∈g.1):Hy g (eS x)=false/\eZ g x:=by
 have a:((!(dI (eS x)))||(!decide (x∈g.1)))=false:=by
  rw[show dI (eS x)=true from im (s.nm x hx),ZT hx];rfl
 exact⟨a,NZ _,λh=>by rw[a]at h;cases h⟩
theorem ON{g:fU}(s:Gr g)(hx:x∈g.1)(j:y∈g.1):jW g (gj g.1 g.2.1) x y/\gU g (gj g.1 g.2.1) x y=true:=by
 have E:=s.len;obtain⟨c,_,a,e1,e2,o,fo,H⟩:=Ro s.nd (by omega) s.rs g.2.2;have e1:jr g=a:=e1;have c:kO g:=c;have i:=fo.ne;obtain⟨a1,a2,u⟩:=LN o (by omega) fo (e:=y) hx;obtain⟨c1,c2,c3⟩:=LN o (by omega) fo (e:=x) j;obtain⟨m,w,A⟩:=Mc (F:=a) (by omega) fuel x y [] (λr h=>(by cases h)) j0 (by show _<32+0;omega);have C:gJ g x y=dZ a x y:=by unfold gJ;rw[e1]
 have D:gJ g y x=dZ a y x:=by unfold gJ;rw[e1]
 have f:lN g x y:=⟨(Rr s hx).2,(Rr s j).2,c,by rw[e1];exact a1⟩;have l:lN g y x:=⟨(Rr s j).2,(Rr s hx).2,c,by rw[e1];exact c1⟩;rw[e2];unfold jW gU;dsimp only;rw[C,D];have B:∀{p:Z dX},Tr a x p y->p.Nodup->Gw a x y [] p:=λt n=>⟨t,n,λr _ h=>by cases h⟩;cases v:bW fuel a x y []with
 |none=>
  have b:dZ a x y=Y:=by
   cases q:dZ a x y with
   |none=>rfl
   |some p=>exact(A v p (B (a2 p q).1 (a2 p q).2)).elim
  have d:dZ a y x=Y:=by
   cases q:dZ a y x with
   |none=>rfl
   |some p=>exact(u b (Ru.symm i ⟨p,(c2 p q).1⟩)).elim
  rw[b,d];exact⟨⟨m,f,λ_=>⟨l,λz=>(by cases z)⟩⟩,by simp⟩
 |some q=>
  obtain⟨t1,t2,_⟩:=w q v;have b:dZ a x y=U q:=by
   cases h:dZ a x y with
   |none=>exact(u h ⟨q,t1⟩).elim
   |some p=>rw[uni fo (a2 p h).1 t1 (a2 p h).2 t2]
  have d:dZ a y x=U q.reverse:=by
   cases h:dZ a y x with
   |none=>exact(c3 h ⟨_,t1.rev i⟩).elim
   |some p=>rw[uni fo (c2 p h).1 (t1.rev i) (c2 p h).2 ((List.reverse_perm q).nodup_iff.mpr t2)]
  rw[b,d];have G:=Yp t2 t1.mem;refine⟨⟨m,f,λ_=>⟨l,λ_=>⟨⟨rfl,fJ (by show q.length<=1000;omega)⟩,rfl,λ_=>f⟩⟩⟩,?_⟩;simp
structure Od (g:fU) (d:Dt):Prop where
 e:F5 g d
 q:BT (.z d) (.z d)=some (.z (.bl true))
 a:XF d (g.1.map eS)
 c:Iv d (g.1.map eS)=false->Hy g d=true
theorem HN(g:fU)(x:AJ):Od g (eS x):=by
 obtain⟨a1,a2⟩:=a8 x g.1;refine⟨⟨NZ _,λ_=>S⟩,C9 S (by show 1<=100;decide),a2,λh=>?_⟩;have h:decide (x∈g.1)=false:=a1.symm.trans h;unfold Hy;rw[show Al (eS x)=x from rfl,h];cases dI (eS x)<;>rfl
theorem vR{g:fU}(h:lA d=false)(h1:(uz d d).isSome=true)(h2:uc d<=100)(a:∀y,uz (.str y) d=U false):Od g d:=by
 refine⟨⟨NZ _,λe=>?_⟩,C9 h1 h2,(ce a g.1).2,λ_=>?_⟩
 ·rw[Rq h]at e;cases e
 ·unfold Hy;rw[Rq h];rfl
theorem S3{g:fU}:∀d∈Ug,Od g d:=by
 intro d a;unfold Ug at a;simp only[Q2,js,or_false]at a;rcases a with rfl|rfl|rfl|rfl|rfl|rfl|rfl|rfl|rfl|rfl
 ·exact vR S S (by decide) λ_=>S
 ·exact vR S S (by decide) λ_=>S
 ·exact vR S S (by decide) λ_=>S
 ·exact HN g ""
 ·exact HN g "Zz"
 ·exact vR S S (by decide) λ_=>S
 ·exact vR S S (by decide) λ_=>S
 ·exact vR S S (by decide) λ_=>S
 ·exact HN g "aaaaaaaaaaaaaaaaaaaa"
 ·exact vR S S (by decide) λ_=>S
theorem Ps{g:fU}(s:Gr g):jK g.1/\(cF g.1).length<=100/\10<=(cF g.1).length/\∀d∈cF g.1,Od g d:=by
 have c:=s.len;have sub:∀x,x∈cut g.1 Y (U 1)->x∈g.1:=λx h=>zj h;have cl:(cut g.1 Y (U 1)).length<=g.1.length:=Ek _ _ _;have b:Ug.length=10:=rfl;have tl:(cF g.1).length=10+(cut g.1 Y (U 1)).length+(cut g.1 Y (U 1)).length:=by
  show((Ug++List.map _ _)++List.map _ _).length=_;rw[zS,zS,zi,zi,b]
 refine⟨⟨⟨⟨⟨by omega,λx hx=>?_⟩,?_⟩,by omega⟩,?_⟩,by omega,by omega,?_⟩
 ·have:=(s.nm x (sub x hx)).2.1;exact fJ (by rw[show("q":AJ).length=1 from rfl];omega)
 ·exact fJ (by rw[zi,b];omega)
 ·exact fJ (by rw[zS,zi,zi,b];omega)
 ·intro d a;rcases List.mem_append.mp (show d∈(Ug++List.map _ _)++List.map _ _ from a)with a|a
  ·rcases List.mem_append.mp a with a|a
   ·exact S3 d a
   ·obtain⟨x,hx,rfl⟩:=List.mem_map.mp a;exact HN g _
  ·obtain⟨x,hx,rfl⟩:=List.mem_map.mp a;exact vR S (by rw[B6.eq];rfl) (by show 2<=100;decide) λ_=>S
theorem io{g:fU}(s:Gr g){xs:Z Int}(hx:xs.length=6){h:Z Dt}(u:∀d∈h,Od g d)(h0:0<h.length)(q:CV)(x:q.2∈h):vQ g g.1 xs h () q/\mO g g.1 xs h () q=.nx ():=by
 obtain⟨k,d⟩:=q;have D:=s.len;have f:=u d x;unfold vQ mO;dsimp only;cases t:Iv d (g.1.map eS)with
 |true=>exact⟨⟨f.a,λz=>(by cases z)⟩,rfl⟩
 |false=>
  have cn:=f.c t;have o:∀v,iH g d v d:=λv=>⟨rfl,f.q,f.e,.inl ⟨cn,rfl⟩⟩;generalize at' h (((k+1)+((at' xs 4)%9))%(h.length:Int))=Wd;have L:=G5 (step:=λ(i:Unit) (n:Dt)=>((vP g d i n):jt (Unit) Bool)) (P:=λ(i:Unit) (n:Dt)=>U (HB g d i n)) [(Dt.str "other"),d,Wd] λv _=>⟨o v,.inl rfl⟩;rw[L.1];have A:In (g.1++[("":AJ)]).length ((at' xs 5)%(if(g.1.length:Int)>1 then(g.1.length:Int)else 1)):=jM pH (by rw[zS];show _<=((g.1.length+1:Nat):Int);split<;>omega);refine⟨⟨f.a,λ_=>⟨⟨⟨B8 (by decide) (by omega),by omega⟩,jM (by omega) (Int.le_refl _)⟩,L.2,⟨⟨fJ (by show _+1<=1000;omega),B8 (by decide) (by omega),pH⟩,A⟩,λl=>?_⟩⟩,?_⟩
  ·have l:g.1≠[]:=by simpa using l
   have hp:0<g.1.length:=List.length_pos_iff.mpr l;have C:at' (g.1++[("":AJ)]) ((at' xs 5)%(if(g.1.length:Int)>1 then(g.1.length:Int)else 1))∈g.1:=by
    have b:0<=(at' xs 5)%(if(g.1.length:Int)>1 then(g.1.length:Int)else 1)/\(at' xs 5)%(if(g.1.length:Int)>1 then(g.1.length:Int)else 1)<g.1.length:=by
     have:=iR (at' xs 5) (m:=if(g.1.length:Int)>1 then(g.1.length:Int)else 1) pH;refine⟨this.1,Int.lt_of_lt_of_le this.2 ?_⟩;split<;>omega
    obtain⟨j,B⟩:∃j:Nat,(at' xs 5)%(if(g.1.length:Int)>1 then(g.1.length:Int)else 1)=(j:Int):=⟨_,(yn b.1).symm⟩;rw[B]at b ⊢;have p:j<g.1.length:=by omega
    rw[T7 _ j (by rw[zS];show j<_+1;omega),List.getElem_append_left p];exact k7 p
   obtain⟨w,y⟩:=Rr s C;exact⟨o _,λ_=>⟨rfl,f.q,⟨NZ _,λ_=>S⟩,.inr ⟨w,y,f.e,cn,rfl⟩⟩⟩
  ·show(if((!decide (g.1=([]:AZ)))&&(!(true&&true)))=true then(jt.rt false)else(jt.nx ()))=jt.nx ();rw[show(!(true&&true))=false from rfl,ky,zC (by decide)]
theorem P3{xs:Z α}{q:Int×α}(h:q∈wW xs):q.2∈xs:=by
 unfold wW at h;obtain⟨i,hi⟩:=List.mem_iff_getElem?.mp h;rw[List.getElem?_zipWith]at hi;cases h1:(List.range xs.length)[i]? with
 |none=>rw[h1]at hi;cases hi
 |some a=>
  cases h2:xs[i]? with
  |none=>rw[h1,h2]at hi;cases hi
  |some b=>
   rw[h1,h2]at hi;cases hi;exact QA h2
theorem MQ(ns:List Int)(_:ns.length<=63):Rm ns/\Rk ns=true:=by
 obtain⟨d,s⟩:=SD ns;obtain⟨o,i,J⟩:=HF (aV ns 0) 18 (by decide) (by decide);have i:(aR (aV ns 0) 18).length=18:=i;have hx:(cut (aR (aV ns 0) 18) (U 12) Y).length=6:=by
  rw[show cut (aR (aV ns 0) 18) (U 12) Y=_ from gh (k:=12) (by omega),kA,i]
 unfold Rm Rk;dsimp only;generalize iT ns=g at *
 generalize cut (aR (aV ns 0) 18) (U 12) Y=xs at *
 have F:=s.len;have d2:=(Ro s.nd (by omega) s.rs g.2.2).2.1;have I:=Ek g.1 (U ((at' xs 0)%(if(g.1.length:Int)>1 then(g.1.length:Int)else 1))) Y;have K:=Ek g.1 Y (U ((at' xs 0)%(if(g.1.length:Int)>1 then(g.1.length:Int)else 1)));have D:∀z∈((cut g.1 (U ((at' xs 0)%(if(g.1.length:Int)>1 then(g.1.length:Int)else 1))) Y)++(cut g.1 Y (U ((at' xs 0)%(if(g.1.length:Int)>1 then(g.1.length:Int)else 1))))),z∈g.1:=λz a=>(List.mem_append.mp a).elim zj zj;have H:((cut g.1 (U ((at' xs 0)%(if(g.1.length:Int)>1 then(g.1.length:Int)else 1))) Y)++(cut g.1 Y (U ((at' xs 0)%(if(g.1.length:Int)>1 then(g.1.length:Int)else 1))))).length<=60:=by rw[zS];omega
 have t:sy ((cut g.1 (U ((at' xs 0)%(if(g.1.length:Int)>1 then(g.1.length:Int)else 1))) Y).length+(cut g.1 Y (U ((at' xs 0)%(if(g.1.length:Int)>1 then(g.1.length:Int)else 1)))).length):=fJ (by omega);generalize ((cut g.1 (U ((at' xs 0)%(if(g.1.length:Int)>1 then(g.1.length:Int)else 1))) Y)++(cut g.1 Y (U ((at' xs 0)%(if(g.1.length:Int)>1 then(g.1.length:Int)else 1)))))=M at *
 obtain⟨p1,p2,p3⟩:=Mw (P:=λv x=>U (Hz g.1 v x)) (step:=λv x=>rE g.1 v x) (λk v=>v.length<=30*k/\∀z∈v,z.1∈g.1/\z.2∈g.1) M 0 ([]:List nJ) ⟨zg 0,λz h=>(by cases h)⟩ λk x v e h=>by
  have Q:=(List.getElem?_eq_some_iff.mp e).1;have B:=D x (QA e);rw[KG]at h ⊢;refine⟨⟨by omega,?_⟩,?_,?_⟩
  ·show _<=1000000;rw[zi];omega
  ·show(v++List.map _ _).length<=_;rw[zS,zi];omega
  ·intro z a;rcases List.mem_append.mp (show z∈v++List.map _ _ from a)with a|a
   ·exact h.2 z a
   ·obtain⟨y,C,rfl⟩:=List.mem_map.mp a;exact⟨B,C⟩
 generalize M.foldl (λv x=>rE g.1 v x) ([]:List nJ)=Z at *
 have G:Z.length<=1800:=by omega
 have u:In [(100:Int),(40:Int)].length (if(decide ((14:Int)<(g.1.length:Int)))=true then(1:Int)else 0):=by split<;>exact B8 (by decide) (by decide)
 generalize at' [(100:Int),(40:Int)] (if(decide ((14:Int)<(g.1.length:Int)))=true then(1:Int)else 0)=vy at *
 have E:=Ek Z Y (U vy);have rt:∀z∈cut Z Y (U vy),jW g (gj g.1 g.2.1) z.1 z.2/\gU g (gj g.1 g.2.1) z.1 z.2=true:=λz a=>ON s (p3 z (zj a)).1 (p3 z (zj a)).2;have A:((cut Z Y (U vy)).map λp:nJ=>(gU g (gj g.1 g.2.1) p.1 p.2)).all id=true:=by
  rw[qo];intro b hb;obtain⟨z,a,rfl⟩:=List.mem_map.mp hb;exact(rt z a).2
 obtain⟨l,L,N,m⟩:=Ps s;rw[A];have n:∀c:List Dt,(∀d∈c,Od g d)->0<c.length->jB (λ(f:Unit) (q2:CV)=>((mO g g.1 xs c f q2):jt (Unit) Bool)) (wW c) ()=.nx ()/\uf (λ(f:Unit) (q2:CV)=>((mO g g.1 xs c f q2):jt (Unit) Bool)) (λ(f:Unit) (q2:CV)=>U (vQ g g.1 xs c f q2)) (wW c) ():=λc h1 h2=>G5 _ λq w=>by
  obtain⟨b1,b2⟩:=io s hx h1 h2 q (P3 w);exact⟨b1,.inl b2⟩
 have c0:f9 ns 0:=HD _ _ (by decide) (by decide);by_cases j:g.1=[]
 ·have e:(!decide (g.1=([]:AZ)))=false:=by rw[ZT j];rfl
  rw[e];simp only[zr,ZO];obtain⟨f1,f2⟩:=n (cF g.1) m (by omega);rw[f1];exact⟨⟨d,d2,⟨c0,o⟩,⟨B8 (by decide) (by omega),pH⟩,u,⟨t,p1⟩,⟨by omega,λz a=>(rt z a).1⟩,λ_=>⟨l,λz=>z.elim,f2,trivial⟩⟩,rfl⟩
 ·have e:(!decide (g.1=([]:AZ)))=true:=by rw[ZE j];rfl
  have hp:0<g.1.length:=List.length_pos_iff.mpr j;have i1:In g.1.length ((at' xs 1)%(g.1.length:Int)):=jM (by omega) (Int.le_refl _);rw[e];simp only[qS];obtain⟨f1,f2⟩:=n (cF g.1++[(eS (kW (at' g.1 ((at' xs 1)%(g.1.length:Int))) (at' xs 2) (at' xs 3)))]) (λz a=>by
   rcases List.mem_append.mp a with a|a
   ·exact m z a
   ·cases List.mem_singleton.mp a;exact HN g _) (by rw[zS];show 0<_+1;omega)
  rw[f1];exact⟨⟨d,d2,⟨c0,o⟩,⟨B8 (by decide) (by omega),pH⟩,u,⟨t,p1⟩,⟨by omega,λz a=>(rt z a).1⟩,λ_=>⟨l,λ_=>⟨⟨⟨⟨⟨B8 (by decide) (by omega),by omega⟩,i1⟩,B8 (by decide) (by omega),B8 (by decide) (by omega)⟩,Yr (s.nm _ (pq i1)) _ _⟩,fJ (by omega)⟩,f2,trivial⟩⟩,rfl⟩
theorem H1:∀ns:Z Int,ns.length<=63->F_law [.z (.lst (ns.map .int))]=U (.z (.bl true)):=(MT MQ).1
theorem H2:∀ns:Z Int,ns.length<=63->F_law [.l (ns.map .int)]=U (.z (.bl true)):=(MT MQ).2
end G14
end
open PySem PySem.W PyProof.Rows
namespace PySem.W.Fast
def tw6551127075008816098:=0
def tw920487045520995282:=0
def tw13996656886501493168:=0
def tw5052819468244469349:=0
def tw16403420229095585767:=0
def tw12957249079134534177:=0
def tw13460152545754273584:=0
def tw15145724290685770493:=0
def tw9404555492715923421:=0
def tw17557369082890789152:=0
def tw15643601617223755838:=0
def tw1845215810363448998:=0
def tw10107309804448459306:=0
def tw10113482418488880213:=0
def tw14582085314988459357:=0
def tw16694534465447238939:=0
def tw6143072753752045751:=0
def tw10484984399595748243:=0
def tw14621896788432153607:=0
def tw5289291651992536865:=0
def tw10277540358547551482:=0
def tw10540122561016888735:=0
def tw2594647876736885429:=0
def tw12058816005221409687:=0
def tw14325535383115795907:=0
def tw17714097262920173027:=0
def tw3146760792241155998:=0
def tw9696935347731992719:=0
def tw2719672711582489898:=0
def tw11321672298300850462:=0
def tw244909304420460905:=0
def tw5402717539054729688:=0
def tw999896261629255792:=0
def tw4242641290165631672:=0
def tw8216240096744409002:=0
def tw4931100007058258398:=0
def tw1482040319525450080:=0
def tw17609813732221779733:=0
def tw8218300118364863338:=0
def tw18296789317854796396:=0
def tw7446253455167353439:=0
def tw15079536910739457889:=0
def tw11715511128458812478:=0
def tw10136337045695469502:=0
def tw9992838405029602850:=0
def tw2661788197724082057:=0
def tw14870195659750162025:=0
def tw6147278589144801429:=0
def tw8218690781001296598:=0
def tw8263329917563984563:=0
def tw11522243873912508739:=0
def tw1265284082165688223:=0
def tw2186222823138380049:=0
def tw16868410614023079882:=0
def tw10414824530222120855:=0
def tw862225805959674682:=0
def tw9799370110350838256:=0
def tw14028584597387240256:=0
def tw14496980251392705527:=0
def tw13697633918438361269:=0
def tw13843704228805907681:=0
def tw3983454184879229624:=0
def tw7102371120802432021:=0
def tw1732940598362775400:=0
def tw12278652240464485122:=0
def tw15986551162030494580:=0
def tw4723947190273858896:=0
def tw15760637978441219761:=0
def tw3321894847237748453:=0
def tw9028283260279815392:=0
def tw13630332828806257712:=0
def tw10946159120331956453:=0
def tw11512916128488688305:=0
def tw5363552135266752111:=0
def tw2331382240242429610:=0
def tw11446008570230847769:=0
def tw15744901368273054510:=0
def tw12971130499368389442:=0
def tw9195046449063236450:=0
def tw7533027207228361063:=0
def tw11254084402810179042:=0
def tw13860328312259272284:=0
def tw11812038864426841355:=0
def tw1633867291008515694:=0
def tw10751701816919628799:=0
def tw6753069839537919873:=0
def tw17707427825444834158:=0
def tw17081131731197679686:=0
def tw7119184234366772512:=0
def tw12943217001562179002:=0
def tw17859389446906493904:=0
def tw1756239673559123559:=0
def tw1193495754912066243:=0
def tw17141524062894834727:=0
def tw15430675986852021134:=0
def tw11439851575612613491:=0
def tw11126685792039147664:=0
def tw1474816542563538343:=0
def tw11745279648308876702:=0
def tw6456120729257761737:=0
def tw6690141774815362758:=0
def tw6511460206460219748:=0
def tw12067111273261079058:=0
def tw8408744285463792034:=0
def tw15980240469781292149:=0
def tw6971102534648588496:=0
def tw11487895307495496227:=0
def tw10082835065830386410:=0
def tw7512180870482025693:=0
def tw14857763839892279879:=0
def tw16291864597473555798:=0
def tw18250203088120662343:=0
def tw132614690514082972:=0
def tw1524239980384932325:=0
def tw17195969273543077984:=0
def tw15082090332390205471:=0
def tw11190944208027958111:=0
def tw5425417647522914470:=0
def tw16428437111239039276:=0
def tw8951513486624134608:=0
def tw1746103554009969910:=0
def tw5223883546741312168:=0
def tw16310544724127475067:=0
def tw8969194341010866233:=0
def tw16856850555510969951:=0
def tw13421110265102994310:=0
def tw11014071779653720640:=0
def tw8834377281986361633:=0
def tw7292204057479375968:=0
def tw3671604123725208777:=0
def tw14171705786099549381:=0
def tw15751981681719370525:=0
def tw12539523083558522330:=0
def tw9108314056076587635:=0
def tw17257737408945987492:=0
def tw762747722721371123:=0
def tw7115400720369278836:=0
def tw10865715659765676109:=0
def tw11778814025540385665:=0
def tw8555434475047032900:=0
def tw14480560271444598056:=0
def tw17681737944816475068:=0
def tw13246611854140198676:=0
def tw13167794174641892766:=0
def tw13818530750875915630:=0
def tw16887837293160713539:=0
def tw9254583389568419633:=0
def tw9698355067490251477:=0
def tw10860425509602647105:=0
def tw9347865028155815101:=0
def tw5604403554047639312:=0
def tw4812416209199586103:=0
def tw9573352086246046283:=0
def tw14733504692648301622:=0
def tw17507565735742550867:=0
def tw7382113974029382678:=0
def tw15463656994093373068:=0
def tw51598331593020716:=0
def tw11536711936751660255:=0
def tw7033613958755392318:=0
def tw16973541002352776992:=0
def tw1882145748493884633:=0
def tw5021973697217960897:=0
def tw10071923767881111141:=0
def tw1682484441805212766:=0
def tw14799954991087899076:=0
def tw8890169663122619306:=0
def tw3508642476086525341:=0
def tw12489820937007113729:=0
def tw1466210449718236394:=0
def tw10844893602427029947:=0
def tw14697842906232334178:=0
def tw9790089127345578518:=0
def tw14255707813769037128:=0
def tw14569727140591538662:=0
def tw82763276466097676:=0
def tw8854677961169108438:=0
def tw5891427158901164902:=0
def tw8259459495076799762:=0
def tw8570786779854326449:=0
def tw3788702748308251054:=0
def tw5927860861391222902:=0
def tw3461927605805848272:=0
def tw5079511134468991286:=0
def tw12348495949387037824:=0
def tw8417057697502057264:=0
def tw2871209354368621283:=0
def tw14179978177541781331:=0
def tw2473499682573675499:=0
def tw2592243563255080024:=0
end PySem.W.Fast
set_option maxRecDepth 100000 in
set_option maxHeartbeats 0 in
theorem PySem.Challenge.cw_onefolk_k14_why_two_are_one_holds : PySem.Challenge.rw_onefolk_k14_why_two_are_one.Holds := by
 w_on;refine PySem.W.holds_law (by decide +kernel) λsaid=>?_
 k_head;(case hw=>w_witness2)
 k_fill
 refine P1.FG (l:=PySem.Challenge.rw_onefolk_k14_why_two_are_one) (T:=G14.T) (k:=35) (x := "_law_script") (st:=G14.s_law) (F_law:=G14.F_law) (λt=>t.x_law) ⟨rfl,by decide,by decide⟩ rfl (λw mg base t=>G14.EG t) rfl rfl G14.H1 G14.H2 (λ_ _ _ _ _ _ _=>rfl) (λw h Y=>PySem.W.kIn_of Y) ?F
 case F=>
  intro w mg h KX G
  refine' ⟨kb KX G _,kb KX G _,kb KX G _,kb KX G _,kb KX G _,kb KX G _,kb KX G _,kb KX G _,P1.ZB _ _ _ _,P1.mG KX G _ _ _ _,⟨_,_,_⟩,_,_,_,_,_,_,_,_,_,_,_,_,_,_,_,qa KX G _,P1.mG KX G _ _ _ _,P1.mG KX G _ _ _ _,P1.mG KX G _ _ _ _,P1.mG KX G _ _ _ _,P1.mG KX G _ _ _ _,P1.mG KX G _ _ _ _,P1.mG KX G _ _ _ _,P1.mG KX G _ _ _ _,P1.mG KX G _ _ _ _,P1.mG KX G _ _ _ _,P1.mG KX G _ _ _ _,P1.mG KX G _ _ _ _,P1.mG KX G _ _ _ _,P1.mG KX G _ _ _ _,P1.mG KX G _ _ _ _,P1.mG KX G _ _ _ _,P1.mG KX G _ _ _ _,P1.mG KX G _ _ _ _,P1.mG KX G _ _ _ _,P1.mG KX G _ _ _ _,P1.mG KX G _ _ _ _,P1.mG KX G _ _ _ _,P1.mG KX G _ _ _ _,P1.mG KX G _ _ _ _,P1.mG KX G _ _ _ _,qa KX G _,qa KX G _,qa KX G _,qa KX G _,qa KX G _,qa KX G _,qa KX G _,qa KX G _,qa KX G _,qa KX G _,qa KX G _,qa KX G _,qa KX G _,qa KX G _,qa KX G _,P1.Me KX G _,P1.Me KX G _⟩
  all_goals try (show _=_;k_is)
  all_goals try kernel_rfl
