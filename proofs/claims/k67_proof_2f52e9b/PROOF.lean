import PyProof.Rows.All
import Wide.All
import OpenK.AllK
import Wide.FinOn
import PyProof.EqAt
import PyProof.EqKinds
import PyProof.TupleCall
import PyProof.StrLoop
import PyProof.StrWalks
import PyProof.CompFree
import PyProof.NeKinds
import PyProof.Rows.RuleN_isinstance
import PyProof.ConsumeWalk
import PyProof.IsiPairs
import PyProof.IsiSeqPairs
import PyProof.IsiHeapPairs
import PyProof.IsiNone
import PyProof.PureStr
import PyProof.StrCalls
import PyProof.Rows.SortStr
import PyProof.Rows.StrJoin2
import PyProof.CallStr
import PyProof.WalkInts
import PyProof.Rows.StrDigits
import PyProof.DictWalks
import PyProof.DictTruth
import PyProof.CollectWalk
import PyProof.WalkLemmas
import PyProof.Rows.SortShellK
import PyProof.Rows.SortWalk
import PyProof.SetKind
import PyProof.FactsAll.set
import PyProof.Rows.SetFrom
import PyProof.TupleKey
import PyProof.IsRules
import PyProof.WalksMore
import PyProof.SetRoads
import PyProof.DictCompW
import PyProof.ListRange
import PyProof.FString5
import PyProof.MeetsSeq2
import PyProof.FactsAll.tuple_0
import PyProof.FactsAll.tuple_2
import PyProof.FactsAll.tuple_3
import PyProof.EnumFor
import PyProof.EnumMake
import PyProof.EnumStmt
import PyProof.Rows.EnumRows
import PyProof.SumWalk
import PyProof.Rows.SeqCalls
import KE.KRevSl
import PyProof.ZipIter
import PyProof.TupleIter
import PyProof.AttrMiss
import KE.KDictOf
import KE.KDictLaws
import PyProof.TupleOfStr
import PyProof.StrCalls2
import PyProof.Rows.StrNews2
import PyProof.Rows.StrItems
import PyProof.Rows.StrSplitAre
import PyProof.Rows.StrGen4
import PyProof.Rows.RegStrFacts
import PyProof.Rows.FStr
import PyProof.SetNew
import PyProof.Rows.SetObj
import PyProof.Seq
import PyProof.Rows.SortShell
import PyProof.FactsAll.list_3
import KE.KIntText
import PyProof.StrCalls6
import PyProof.FitsReplace
import PyProof.ToksMono
import PyProof.FactsAll.str_4
import PyProof.StrBlock
import PyProof.RangeIter
import PyProof.CodeObj
import PyProof.Rows.CallKwBuiltin
import PyProof.StrLawsTight
import PyProof.Rows.StrPartPair
import PyProof.Rows.CatFin
import PyProof.Rows.StrClose
import PyProof.Rows.StrNext
import PyProof.Rows.StrBetween
import Lean
import PySem.Challenge.RW_onefolk_k67_whole_reasons_struck_and_put
open Option renaming some->U,none->Y
abbrev Z:=List
abbrev O:=Option
theorem S{α:Sort u}{a:α}:a=a:=rfl
open PySem renaming Value->A0,Addr->A1,Shared->A2,Program->A3,World->A4,Around->A5,Heap->A6,wpAny->A7,model->A8,starEach->A9,sizeLine->AA,Stmt->AB,Keyword->AC,backTo->AD,Obj->AE,codeAny->AF,compareOp->AG,bootBuiltins->AH,Paired->AI,Str->AJ
open PyProof.Rows renaming envOfC->AK,wpS_bind->AL,arrOf->AM
open PySem.W (instObj methodObj keepIn cellsFrom_some fnOf codeIn nsIn mg_of)
set_option maxRecDepth 100000
set_option maxHeartbeats 4000000
set_option linter.all false
set_option Elab.async false
open PySem PySem.Spec PyProof.Rows
variable{w:A4}{i:Nat}{t:SetTable}{x:AJ}{a:A1}{prog:A3}{us:Z A0}{u:A0}{κ:Type}{h:A6}{items:Array A0}{P:A3}{α β:Type}{e:Expr}{n:Nat}{mg:AJ->O A0}{base:A6}{l:PySem.W.OpenLaw}{env:Env}{m:Z (AJ×AJ)}{AN:Z (A1×AE)}{s:A2}{it:A1}{j:Nat}{M:Model}{A:A5}{Q:O A0->A2->Prop}{hi:O Int}{D:A1}{es:Z Expr}{pos:Pos}{y:AJ}{c tg:Expr}{body:Z AB}{fp:Z A1}{iter:Expr}{lo:O Int}{pl:Z Nat}{C:A1}{op:CmpOp}{AQ:Z A0}{name:AJ}{tpos:Pos}{fd:FuncData}{apos:Pos}{qual:AJ}{scope:Scope}{osl:Array (O A0)}{p2 cpos:Pos}{XP:(AJ->O A0)->A6->Prop}{YP:A4->A6->Prop}{cl:Z (AJ×A1)}{is:Z Nat}{ifs:Z Expr}{elt tgt:Expr}{el:A1->Env->Sem Unit}{B:A5->Bool->Prop}{RR:A0->A1->Result->A2->Prop}{ep mask:Nat}{owner:Array (O Nat)}{elts:Z Expr}{x1:Nat}{γ δ:Type}{os:OsState}{bmB:Z A0}{newId initId:String}{a_:A1}
abbrev AZ:=Z PySem.Str
abbrev BA:=PySem.Value->PySem.Shared->Prop
abbrev B1:=PySem.W.Frag
abbrev B9:=Z Int
abbrev zb:=@wpAny_bind
abbrev zd:=@Heap.get?_push_of_some
abbrev ze:=@wpAny_pure
abbrev zg:=@List.mem_cons_self
abbrev zh:=@List.length_map
abbrev zi:=@List.mem_cons_of_mem
abbrev zk:=@if_pos
abbrev zl:=@Bool.false_eq_true
abbrev zo:=@Nat.le_refl
abbrev zr:=@List.map_cons
abbrev zt:=@List.mem_append_left
abbrev zv:=@Heap.get?_push_size
abbrev zw:=@if_neg
abbrev zz:=@Heap.lt_size
abbrev zC:=@List.size_toArray
abbrev zD:=@Nat.le_of_ble_eq_true
abbrev zI:=@List.length_append
abbrev zS:=@Nat.ne_of_lt
abbrev z4:=@List.getElem?_eq_getElem
abbrev z5:=@decide_eq_false
abbrev Zl:=@List.mem_append_right
abbrev Zp:=@List.getElem?_map
abbrev Zs:=@decide_eq_true
abbrev ZA:=@Nat.le_trans
abbrev ZE:=@decide_eq_true_eq
abbrev ZH:=@Bool.false_ne_true
abbrev ZI:=@List.append_assoc
abbrev ZN:=@if_false
abbrev ZO:=@List.getElem?_append_left
abbrev ZT:=@List.append_nil
abbrev ZU:=@Nat.lt_of_lt_of_le
abbrev ZY:=@Bool.and_eq_true
abbrev ZZ:=@List.length_cons
abbrev Z3:=@List.getElem?_cons_succ
abbrev qa:=@Array.length_toList
abbrev qc:=@Array.getElem?_eq_getElem
abbrev qf:=@Nat.lt_succ_self
abbrev qh:=@List.all_eq_true
abbrev qi:=@PySem.W.mg_none_of
abbrev qk:=@List.map_append
abbrev qo:=@List.foldl_cons
abbrev qq:=@Heap.size_push
abbrev qr:=@List.getElem?_append_right
abbrev qv:=@Array.getElem?_toList
abbrev qA:=@if_true
abbrev qB:=@List.map_map
abbrev qS:=@wpAny_newObj_type
abbrev qV:=@List.getElem?_eq_none
abbrev Qb:=@List.map_congr_left
abbrev Qr:=@Nat.lt_succ_of_lt
abbrev QA:=@Bool.not_eq_true'
abbrev QE:=@List.mem_of_getElem?
abbrev QI:=@wpAny_mono
abbrev QN:=@of_decide_eq_true
abbrev QO:=@List.getElem?_replicate
abbrev QP:=@Nat.zero_le
abbrev QQ:=@wpAny_holding
abbrev QR:=@wpAny_typeOf
abbrev QU:=@wpAny_setState_of
abbrev QY:=@List.mem_cons
abbrev Q1:=@List.map_id'
abbrev Q2:=@Option.some.inj
abbrev Q3:=@decide_eq_false_iff_not
abbrev Q4:=@Or.inr
abbrev ja:=@wpAny_truthy_bool
abbrev js:=@List.getElem_of_mem
abbrev jv:=@List.mem_filter
abbrev jI:=@List.filter_append
abbrev jS:=@Nat.le_of_lt
abbrev j0:=@List.Pairwise.imp_of_mem
abbrev j3:=@List.nodup_nil
abbrev Jn:=@Heap.get?_update_ne
abbrev JA:=@Nat.lt_irrefl
abbrev JE:=@List.not_mem_nil
abbrev JI:=@List.any_eq_true
abbrev JJ:=@List.append_of_mem
abbrev JO:=@List.rel_of_pairwise_cons
abbrev JP:=@codeAny_builtin
abbrev JS:=@List.cons.injEq
abbrev JU:=@Bool.eq_iff_iff
abbrev JY:=@List.map_nil
abbrev ka:=@List.pairwise_map
abbrev kb:=@Or.inl
abbrev kc:=@List.any_cons
abbrev ke:=@PySem.mem_of_lookup
abbrev kf:=@wpAny_isInstance
abbrev kg:=@wpAny_call_entry
abbrev ki:=@List.length_pos_of_mem
abbrev km:=@wpAny_passesOwn
abbrev ko:=@Nat.not_lt_zero
abbrev kq:=@List.length_set
abbrev kr:=@List.find?_cons
abbrev ku:=@List.all_cons
abbrev ky:=@Bool.not_true
abbrev kz:=@List.lookup_cons_self
abbrev kA:=@List.reverse_cons
abbrev kB:=@Bool.not_false
abbrev kC:=@decide_false
abbrev kD:=@List.mem_map
abbrev kF:=@List.length_take
abbrev kK:=@List.filter_cons
abbrev kL:=@List.filterMap_cons
abbrev kM:=@Bool.and_true
abbrev kN:=@wpAny_comprehension_free
abbrev kP:=@wpAny_getItem_str_slice
abbrev kQ:=@List.pairwise_mergeSort
abbrev kR:=@Nat.zero_add
abbrev kU:=@List.nodup_append
abbrev kX:=@List.length_range
abbrev k5:=@Array.size_append
abbrev k6:=@Array.getElem?_eq_none
abbrev k7:=@Heap.get?_update_self
abbrev k8:=@wpAny_rule
abbrev k9:=@List.length_drop
abbrev Kb:=@decide_true
abbrev Ki:=@Nat.le_succ
abbrev Kj:=@List.map_id
abbrev Kk:=@List.mem_erase_of_ne
abbrev Kn:=@List.nil_append
abbrev Kt:=@List.replicate_succ
abbrev Kx:=@List.mergeSort_perm
abbrev KA:=@Nat.ne_of_gt
abbrev KB:=@wpAny_load
abbrev KF:=@List.mem_range
abbrev KG:=@Bool.false_and
abbrev KI:=@Bool.and_false
abbrev KL:=@Option.isSome_some
abbrev KM:=@Obj.data_mapFields
abbrev KO:=@Ne.symm
abbrev KP:=@List.getElem?_set
abbrev KS:=@List.foldl_append
abbrev KU:=@List.filter_congr
abbrev KW:=@Int.toNat_natCast
abbrev K0:=@wpAny_standAt
abbrev K2:=@Bool.true_and
abbrev ya:=@PySem.F.args_tuple_add_2
abbrev yb:=@List.length_erase_of_mem
abbrev ye:=@List.nodup_range
abbrev yf:=@List.getElem_mem
abbrev yi:=@wpAny_callSpecial?_slot
abbrev yk:=@PySem.F.entry_tuple_add
abbrev ym:=@List.filter_cons_of_neg
abbrev yn:=@F.plain_set_update_loop
variable{K:B1}{N:AZ}{E:BA}{ts ps n_:AZ}
namespace L2
abbrev AY:=Sum Int AJ
def lH:AY->A0->Bool
 |.inl k,v=>Value.isInt k v
 |.inr x,v=>Value.isStrOf x v
def WE(w:A4):AY->Int
 |.inl k=>hashInt k
 |.inr x=>hashStr w x
theorem bU:∀{k:AY} {v:A0},lH k v=true->(∃i t,k=Sum.inl i/\v=Value.int i t)\/(∃x t,k=Sum.inr x/\v=Value.str x t)
 |.inl i,v,h=>by
  obtain⟨t,e⟩:=Value.isInt_shape (k:=i) (v:=v) h;exact .inl ⟨i,t,rfl,e⟩
 |.inr x,v,h=>by
  obtain⟨t,e⟩:=Value.isStrOf_shape (x:=x) (v:=v) h;exact .inr ⟨x,t,rfl,e⟩
theorem XC(i:Int)(t:Tok):lH (.inl i) (.int i t)=true:=by simp[lH,Value.isInt]
theorem XD(x:AJ)(t:Tok):lH (.inr x) (.str x t)=true:=by simp[lH,Value.isStrOf]
theorem X9(a b:Int):decide ((Sum.inl a:AY)=Sum.inl b)=(a==b):=by
 by_cases e:a=b
 ·subst e;simp
 ·have h:¬ (Sum.inl a:AY)=Sum.inl b:=λq=>e (Sum.inl.inj q);rw[z5 h];exact(beq_eq_false_iff_ne.mpr e).symm
theorem hZ(a b:AJ):decide ((Sum.inr a:AY)=Sum.inr b)=decide (a=b):=by
 by_cases e:a=b
 ·subst e;simp
 ·have h:¬ (Sum.inr a:AY)=Sum.inr b:=λq=>e (Sum.inr.inj q);rw[z5 h,z5 e]
theorem ar(a:Int)(b:AJ):decide ((Sum.inl a:AY)=Sum.inr b)=false:=z5 (λq=>nomatch q)
theorem W1(a:AJ)(b:Int):decide ((Sum.inr a:AY)=Sum.inl b)=false:=z5 (λq=>nomatch q)
def bw(prog:A3)(w:A4):PySem.KeyKind prog w AY where
 is:=lH
 hash:=WE w
 inj:=λv a b ha hb=>by
  rcases bU ha with⟨i,t,rfl,rfl⟩|⟨x,t,rfl,rfl⟩
  ·rcases bU hb with⟨j,u,rfl,e⟩|⟨y,u,rfl,e⟩
   ·injection e with e1 _;rw[e1]
   ·exact nomatch e
  ·rcases bU hb with⟨j,u,rfl,e⟩|⟨y,u,rfl,e⟩
   ·exact nomatch e
   ·injection e with e1 _;rw[e1]
 byValue:=λk v h=>by
  rcases bU h with⟨i,t,rfl,rfl⟩|⟨x,t,rfl,rfl⟩<;>rfl
 pyHash:=λc h=>by
  rcases bU c with⟨i,t,rfl,rfl⟩|⟨x,t,rfl,rfl⟩
  ·exact wpAny_pyHash_int h
  ·exact wpAny_pyHash_str h
 eqBool:=λd c h=>by
  rcases bU d with⟨i,t,rfl,rfl⟩|⟨x,t,rfl,rfl⟩
  ·rcases bU c with⟨j,u,rfl,rfl⟩|⟨y,u,rfl,rfl⟩
   ·rw[X9]at h;exact wpAny_eqBool_int h
   ·rw[ar]at h;exact SeqAt.EqAt.int_str i t y u _ _ _ _ h
  ·rcases bU c with⟨j,u,rfl,rfl⟩|⟨y,u,rfl,rfl⟩
   ·rw[W1]at h;exact SeqAt.EqAt.str_int x t j u _ _ _ _ h
   ·rw[hZ]at h;exact wpAny_eqBool_str h
 «strs»:=λk x t v h=>by
  rcases bU h with⟨i,u,rfl,e⟩|⟨y,u,rfl,e⟩
  ·exact nomatch e
  ·injection e with e1 _;subst e1;cases v<;>rfl
theorem Qj(prog:A3)(w:A4)(i:Int)(t:Tok):(bw prog w).is (.inl i) (.int i t)=true:=XC i t
theorem Qk(prog:A3)(w:A4)(x:AJ)(t:Tok):(bw prog w).is (.inr x) (.str x t)=true:=XD x t
end L2
namespace L2
inductive V where
 |non|bl (b:Bool)|int (i:Int)|str (x:Str)|byt (b:Array UInt8)|flt (b:UInt64)|ref (a:Addr)|ty (n:String)
 deriving DecidableEq
def Au:V->A0->Prop
 |.non,u=>u=Value.none
 |.bl b,u=>u=Value.bool b
 |.int i,u=>∃t,u=Value.int i t
 |.str x,u=>∃t,u=Value.str x t
 |.byt b,u=>∃t,u=Value.bytes b t
 |.flt b,u=>∃t,u=Value.float b t
 |.ref a,u=>u=Value.ref a
 |.ty n,u=>u=Value.type n
abbrev AX:Z V->Z A0->Prop:=AI Au
theorem AX.length{xs:Z V}{us:Z A0}(r:AX xs us):xs.length=us.length:=Paired.length r
theorem AX.get:∀{xs:Z V} {us:Z A0} {i:Nat} {x:V},AX xs us->xs[i]?=U x->∃u,us[i]?=U u/\Au x u
 |_,_,_,_,.nil,e=>by simp at e
 |_,_,0,_,.cons r _,e=>by simp at e;subst e;exact⟨_,rfl,r⟩
 |_,_,i+1,x,.cons _ t,e=>by
  obtain⟨u,h1,h2⟩:=AX.get (i:=i) (x:=x) t (by simpa using e);exact⟨u,by simpa using h1,h2⟩
theorem AX.set{x:V}{u:A0}(r:Au x u):∀{xs:Z V} {us:Z A0} (i:Nat),AX xs us->AX (xs.set i x) (us.set i u)
 |_,_,_,.nil=>.nil
 |_,_,0,.cons _ t=>.cons r t
 |_,_,i+1,.cons q t=>.cons q (AX.set r i t)
theorem AX.append:∀{xs ys:Z V} {us a:Z A0},AX xs us->AX ys a->AX (xs++ys) (us++a)
 |_,_,_,_,.nil,s=>s
 |_,_,_,_,.cons r t,s=>.cons r (AX.append t s)
theorem AX.take:∀{xs:Z V} {us:Z A0} (n:Nat),AX xs us->AX (xs.take n) (us.take n)
 |_,_,0,_=>.nil
 |_,_,_+1,.nil=>.nil
 |_,_,n+1,.cons r t=>.cons r (AX.take n t)
theorem AX.drop:∀{xs:Z V} {us:Z A0} (n:Nat),AX xs us->AX (xs.drop n) (us.drop n)
 |_,_,0,r=>r
 |_,_,_+1,.nil=>.nil
 |_,_,n+1,.cons _ t=>AX.drop n t
def G4:O V->O A0->Prop
 |some v,U u=>Au v u
 |none,Y=>True
 |_,_=>False
def KV:Z (κ×V)->Z (κ×A0)->Prop:=AI λ(p:κ×V) (q:κ×A0)=>p.1=q.1/\Au p.2 q.2
def kV:AY->V
 |.inl i=>.int i
 |.inr x=>.str x
inductive HO where
 |lst (xs:List V)
 |tup (xs:List V)
 |dK (AO:List (AY×V))|dT (AO:List (List AY×V))
 |set (S:Int->Bool) (n:Nat)
 |ins (C dx:Addr) (fs:List (Str×V))
 |own (x:Addr)
 |xd (fs:List (Str×V))
 |met (f x:Addr)
 |rng (lo hi:Int)
 |vW (o:Obj) (u:HO)
 |tbl (ps:Array Value)
 |ext (φ:Heap->Prop)
abbrev Hp:=A1->O HO
def B6(H:Hp)(a:A1)(o:HO):Hp:=λb=>if b=a then U o else H b
theorem bV{H:Hp}{o:HO}:B6 H a o a=U o:=by unfold B6;rw[zk rfl]
theorem aR{H:Hp}{b:A1}{o:HO}(h:b≠a):B6 H a o b=H b:=by unfold B6;rw[zw h]
def wH(h:A6)(a:A1)(items:Array A0):Prop:=∃o,h.get? a=U o/\o.cls=.type "tuple" ∧ (∃n,o.data=.seq items n)/\o.dict=Y
theorem wH.weak(x:wH h a items):IsTup h a items:=let ⟨o,e,c,d,_⟩:=x;⟨o,e,c,d⟩
theorem wH.new(h:A6)(items:Array A0):wH (h.push { cls:=.type "tuple",data:=.seq items }) h.objs.size items:=⟨_,zv _ rfl,rfl,⟨_,rfl⟩,rfl⟩
theorem pG{H:Hp}{b:A1}{o u:HO}(h:H a=U o)(h':H b=U u)(d:o≠u):a≠b:=by
 intro e;subst e;rw[h]at h';exact d (Q2 h')
theorem dO{H:Hp}{b:A1}{o:HO}(h:H a=U o)(h':H b=Y):a≠b:=by
 intro e;subst e;rw[h]at h';cases h'
section
variable(P:A3)(w:A4)
def iD(H:Hp)(h:A6)(a:A1):HO->Prop
 |.lst xs=>xs.length<=AA/\∃(AQ:Z A0) (n:Nat),AX xs AQ/\h.get? a=U { cls:=.type "list",data:=.seq AQ.toArray n }
 |.tup xs=>xs.length<=AA/\∃AQ:Z A0,AX xs AQ/\wH h a AQ.toArray
 |.dK AO=>AO.length<=AA/\(a==sysModules)=false/\∃vs,KV AO vs/\h.DictOf (bw P w) a vs
 |.dT AO=>AO.length<=AA/\(a==sysModules)=false/\∃xs:Z (Z AY×A1×A0),
   AI (λ(p:Z AY×V) (q:Z AY×A1×A0)=>p.1=q.1/\H q.2.1=U (.tup (p.1.map kV))/\Au p.2 q.2.2) AO xs ∧
   ∃o es ep,h.get? a=U o/\o.ExactDict/\o.data=.dict es ep/\es.toList=xs.map (entryOfKey (tupleKind (bw P w)))/\(xs.map (·.1)).Nodup
 |.set S n=>h.SetOf (intKind P w) a S n
 |.ins C dx fs=>H dx=U (.own a)/\fs.length<=1000/\dx≠a/\h.get? a=U (instObj C dx) ∧
   ∃mA,h.Ns1 dx mA/\(∀f,G4 (fs.lookup f) (mA f))/\PySem.Within mA (fs.map (·.1))
 |.own _=>∃o,h.get? a=U o
 |.xd fs=>∃mA,h.Ns1 a mA/\∀f,G4 (fs.lookup f) (mA f)
 |.rng lo hi=>∃t u v,h.get? a=U { cls:=.type "range",data:=.fields #[.int lo t,.int hi u,.int 1 v] }
 |.vW o u=>h.get? a=U o/\iD H h a u
 |.tbl ps=>h.get? a=U { cls:=.none,data:=.fields ps }
 |.met f x=>h.get? a=U (methodObj (.ref f) (.ref x))
 |.ext b=>b h/\(∃o,h.get? a=U o)/\∀h1 h2:A6,b h1->(∀o,h1.get? a=U o->h2.get? a=U o)->b h2
def zW(H:Hp)(h:A6):Prop:=∀a o,H a=U o->iD P w H h a o
end
section
variable{H H':Hp}{h':A6}{o:HO}
theorem iD.lt(x:iD P w H h a o):a<h.objs.size:=by
 cases o with
 |lst xs=>obtain⟨_,_,_,_,e⟩:=x;exact zz e
 |tup xs=>obtain⟨_,_,_,p⟩:=x;exact p.weak.lt
 |dK AO=>obtain⟨_,_,_,_,o,_,_,e,_⟩:=x;exact zz e
 |dT AO=>obtain⟨_,_,_,_,o,_,_,e,_⟩:=x;exact zz e
 |set S n=>obtain⟨o,_,_,_,e,_⟩:=x;exact zz e
 |ins C dx fs=>obtain⟨_,_,_,e,_⟩:=x;exact zz e
 |own y=>obtain⟨_,e⟩:=x;exact zz e
 |xd fs=>obtain⟨_,⟨_,_,_,e,_⟩,_⟩:=x;exact zz e
 |rng lo hi=>obtain⟨_,_,_,e⟩:=x;exact zz e
 |vW c u=>obtain⟨e,_⟩:=x;exact zz e
 |tbl ps=>exact zz (show h.get? a=U _ from x)
 |met f y=>exact zz (show h.get? a=U _ from x)
 |ext b=>obtain⟨_,⟨_,e⟩,_⟩:=x;exact zz e
theorem Paired.acN{α β:Type}{F G:α->β->Prop}:∀{c:Z α} {d:Z β},AI F c d->(∀a b,F a b->G a b)->AI G c d
 |_,_,.nil,_=>.nil
 |_,_,.cons r t,f=>.cons (f _ _ r) (Paired.acN t f)
theorem Paired.imp'{F G:α->β->Prop}(f:∀a b,F a b->G a b){c:Z α}{d:Z β}(r:AI F c d):AI G c d:=Paired.acN r f
theorem iD.stay(x:iD P w H h a o)(k:∀b u,(b=a\/H b=U (.own a))->h.get? b=U u->h'.get? b=U u)
  (ho:∀b,H b=U (.own a)->H' b=U (.own a)) (l:∀b xs,H b=U (.tup xs)->H' b=U (.tup xs)):iD P w H' h' a o:=by
 induction o with
 |lst xs=>obtain⟨z,AQ,n,r,e⟩:=x;exact⟨z,AQ,n,r,k _ _ (.inl rfl) e⟩
 |tup xs=>obtain⟨z,AQ,r,g,e,c⟩:=x;exact⟨z,AQ,r,g,k _ _ (.inl rfl) e,c⟩
 |dK AO=>obtain⟨z,y,vs,r,g,es,ep,e,c⟩:=x;exact⟨z,y,vs,r,g,es,ep,k _ _ (.inl rfl) e,c⟩
 |dT AO=>
  obtain⟨z,y,xs,r,g,es,ep,e,c⟩:=x;exact⟨z,y,xs,Paired.acN r λp q z=>⟨z.1,l _ _ z.2.1,z.2.2⟩,g,es,ep,k _ _ (.inl rfl) e,c⟩
 |set S n=>obtain⟨g,es,ep,t,e,c⟩:=x;exact⟨g,es,ep,t,k _ _ (.inl rfl) e,c⟩
 |ins C dx fs=>
  obtain⟨d,z,ne,e,mA,⟨i,es,ep,e2,c⟩,r⟩:=x;exact⟨ho _ d,z,ne,k _ _ (.inl rfl) e,mA,⟨i,es,ep,k _ _ (.inr d) e2,c⟩,r⟩
 |own y=>obtain⟨g,e⟩:=x;exact⟨g,k _ _ (.inl rfl) e⟩
 |xd fs=>obtain⟨mA,⟨i,es,ep,e,c⟩,r⟩:=x;exact⟨mA,⟨i,es,ep,k _ _ (.inl rfl) e,c⟩,r⟩
 |rng lo hi=>obtain⟨t,u,v,e⟩:=x;exact⟨t,u,v,k _ _ (.inl rfl) e⟩
 |vW g u j=>obtain⟨e,q⟩:=x;exact⟨k _ _ (.inl rfl) e,j q⟩
 |tbl ps=>
  have e:h.get? a=U { cls:=.none,data:=.fields ps }:=x;show h'.get? a=U { cls:=.none,data:=.fields ps };exact k a _ (.inl rfl) e
 |met f y=>
  have e:h.get? a=U (methodObj (.ref f) (.ref y)):=x;show h'.get? a=U (methodObj (.ref f) (.ref y));exact k a _ (.inl rfl) e
 |ext m=>obtain⟨p,⟨o,e⟩,st⟩:=x;exact⟨st _ _ p λo q=>k _ _ (.inl rfl) q,⟨o,k _ _ (.inl rfl) e⟩,st⟩
theorem zW.lt(x:zW P w H h)(e:H a=U o):a<h.objs.size:=(x a o e).lt
theorem zW.fresh(x:zW P w H h)(e:h.objs.size<=a):H a=Y:=by
 cases q:H a with
 |none=>rfl
 |some u=>exact absurd (ZU (x.lt q) e) (JA _)
theorem zW.kept(x:zW P w H h)(k:∀b u,h.get? b=U u->h'.get? b=U u):zW P w H h':=λa o e=>
 (x a o e).stay (λb u _ q=>k b u q) (λ_ q=>q) λ_ _ q=>q
theorem zW.laid(x:zW P w H h)(k:∀b u,h.get? b=U u->h'.get? b=U u)(hp:h.objs.size<=a)(new:iD P w (B6 H a o) h' a o):zW P w (B6 H a o) h':=λb u e=>by
 have d:=x.fresh hp;by_cases hb:b=a
 ·subst hb;rw[bV]at e;cases e;exact new
 ·rw[aR hb]at e;exact(x b u e).stay (λc v _ q=>k c v q) (λc q=>by rw[aR (dO q d)];exact q) λc xs q=>by rw[aR (dO q d)];exact q
end
def Rd(H:Hp)(a:A1)(u:HO):Prop:=H a=U u\/∃o,H a=U (.vW o u)
theorem Rd.ok{H:Hp}{u:HO}(r:Rd H a u)(x:zW P w H h):iD P w H h a u:=by
 rcases r with r|⟨o,r⟩
 ·exact x a u r
 ·obtain⟨_,q⟩:=x a _ r;exact q
def Ee:O HO->Prop
 |some (.lst _)=>True
 |some (.dK _)=>True
 |some (.dT _)=>True
 |some (.set _ _)=>True
 |some (.ins _ _ _)=>True
 |some (.ext _)=>True
 |_=>False
section
variable{H:Hp}{h':A6}{x e:A1}{o':HO}
theorem zW.write(ok:zW P w H h)(f:Ee (H x))(he:e=x\/H e=U (.own x))(k:∀b u,b≠e->h.get? b=U u->h'.get? b=U u)(l:∃u,h'.get? e=U u)
  (new:iD P w (B6 H x o') h' x o'):zW P w (B6 H x o') h':=λb u q=>by
 have i:∀c y,H c=U (.own y)->c≠x:=λc y r z=>by subst z;rw[r]at f;exact f
 have m:∀c xs,H c=U (.tup xs)->c≠x:=λc xs r z=>by subst z;rw[r]at f;exact f
 by_cases hb:b=x
 ·subst hb;rw[bV]at q;cases q;exact new
 ·rw[aR hb]at q;by_cases d:b=e
  ·have g:H b=U (.own x):=by
    rcases he with z|z
    ·exact absurd (d.trans z) hb
    ·rw[d];exact z
   rw[q]at g;cases g;obtain⟨v,j⟩:=l;exact⟨v,by rw[d];exact j⟩
  ·refine(ok b u q).stay (λc v a r=>k c v ?_ r) (λc r=>by rw[aR (i c b r)];exact r) λc xs r=>by rw[aR (m c xs r)];exact r
   rcases a with rfl|a
   ·exact d
   ·rintro rfl;rcases he with z|z
    ·exact i c b a z
    ·rw[a]at z;cases z;exact hb rfl
end
structure Un (fs ex:List Addr) (H H':Hp) (h h':Heap):Prop where
 keep:∀b o,h.get? b=some o->H b=none->b∉fs->b∉ex->h'.get? b=some o
 slot:∀b o,h.get? b=some o->H b=none->b∈fs->b∉ex->∃sl,h'.get? b=some { o with slots:=sl }
 free:∀b o,h.get? b=some o->H b=none->b∉ex->H' b=none
 there:∀b o,h.get? b=some o->b∉ex->∃o',h'.get? b=some o'
 tups:∀b xs,H b=some (.tup xs)->H' b=some (.tup xs)
 Fp:∀b o u,H b=some (.vW o u)->H' b=some (.vW o u)
 JX:∀b ps,H b=some (.tbl ps)->∃more,H' b=some (.tbl (ps++more))
section
variable{fs fs' ex ex':Z A1}{H H1 H2:Hp}{h1 h2 h':A6}{x e:A1}{o:HO}
theorem Un.any(u:Un fs ex H H1 h h1){b:A1}{a:AE}(q:h.get? b=U a)(n:H b=Y)(hx:b∉ex):∃sl,h1.get? b=U { a with slots:=sl }:=by
 by_cases hb:b∈fs
 ·exact u.slot b a q n hb hx
 ·exact⟨a.slots,u.keep b a q n hb hx⟩
theorem Un.kept(k:∀b u,h.get? b=U u->h'.get? b=U u):Un fs ex H H h h':=
 ⟨λb a q _ _ _=>k b a q,λb a q _ _ _=>⟨a.slots,k b a q⟩,λ_ _ _ n _=>n,λb a q _=>⟨a,k b a q⟩,λ_ _ q=>q,λ_ _ _ q=>q,λ_ ps q=>⟨#[],by rw[q];simp⟩⟩
theorem Un.refl:Un fs ex H H h h:=Un.kept λ_ _ q=>q
theorem Un.laid(k:∀b u,h.get? b=U u->h'.get? b=U u)(hp:h.objs.size<=a)(c:H a=Y):Un fs ex H (B6 H a o) h h' where
 keep:=λb u q _ _ _=>k b u q
 slot:=λb u q _ _ _=>⟨u.slots,k b u q⟩
 free:=λb u q n _=>by rw[aR (zS (ZU (zz q) hp))];exact n
 there:=λb u q _=>⟨u,k b u q⟩
 tups:=λb xs q=>by rw[aR (dO q c)];exact q
 Fp:=λb u xs q=>by rw[aR (dO q c)];exact q
 JX:=λb ps q=>⟨#[],by rw[aR (dO q c),q];simp⟩
theorem Un.write(a:Ee (H x))(he:e=x\/H e=U (.own x))(k:∀b u,b≠e->h.get? b=U u->h'.get? b=U u)(f:∃u,h'.get? e=U u):Un fs ex H (B6 H x o) h h':=by
 have hx:∀b,H b=Y->b≠x:=λb n z=>by subst z;rw[n]at a;exact a
 have hb:∀b,H b=Y->b≠e:=λb n z=>by
  subst z;rcases he with r|r
  ·exact hx b n r
  ·rw[n]at r;cases r
 have c:∀b u,H b=U u->¬ Ee (U u)->b≠x:=λb u q nm z=>by subst z;rw[q]at a;exact nm a
 refine⟨λb u q n _ _=>k b u (hb b n) q,λb u q n _ _=>⟨u.slots,k b u (hb b n) q⟩,λb u q n _=>by rw[aR (hx b n)];exact n,λb u q _=>?_,
  λb xs q=>by rw[aR (c b _ q λz=>z)];exact q,λb u xs q=>by rw[aR (c b _ q λz=>z)];exact q,λb ps q=>⟨#[],by rw[aR (c b _ q λz=>z),q];simp⟩⟩
 by_cases d:b=e
 ·subst d;exact f
 ·exact⟨u,k b u d q⟩
end
def GG(h:A6)(H:Hp):Z A1:=(List.range h.objs.size).filter λa=>(H a).isSome
def M8(h:A6)(H:Hp):A6:=PySem.W.hideAll h (GG h H)
theorem XF(h:A6)(H:Hp):(M8 h H).objs.size=h.objs.size:=PySem.W.hideAll_size _ _
theorem ZD{H:Hp}{b:A1}{o:AE}(e:h.get? b=U o)(n:H b=Y):(M8 h H).get? b=U o:=
 PySem.W.hideAll_get _ e λa=>by
  have q:(H b).isSome=true:=(List.mem_filter.mp a).2;rw[n]at q;simp at q
theorem Tk{H:Hp}{b:A1}{o:AE}(e:(M8 h H).get? b=U o):h.get? b=U o/\H b=Y:=by
 have e':h.get? b=U o:=PySem.W.of_hideAll (GG h H) e;refine⟨e',?_⟩;cases q:H b with
 |none=>rfl
 |some x=>
  have a:b∈GG h H:=List.mem_filter.mpr ⟨List.mem_range.mpr (zz e'),by simp[q]⟩;have z:(M8 h H).get? b=Y:=PySem.W.hideAll_none (GG h H) a;rw[z]at e;cases e
def UB(g h:A6)(L:A1):Z (A1×AE):=(List.range h.objs.size).filterMap λa=>if a=L\/(g.get? a).isSome=true then Y else(h.get? a).map λo=>(a,o)
def AS(g h:A6)(L d:A1):Z (A1×AE):=(UB g h L).filter λp=>decide (p.1≠d)
end L2
namespace L2
structure Mod (K:B1) (mg:Str->Option Value) (base:Heap):Prop where
 kin:K.In base
 glob:base.Ns mainGlobals mg
 blt:∃mb,base.Ns builtinsNs mb/\∀x:Str,x ≠ "__name__" → mb x=bootBuiltins x
 nolimit:base.NoLimit
structure Cx where
 prog:Program
 w:World
 K:B1
 mg:Str->Option Value
 base:Heap
 A:Around
 N:AZ
 s₀:Shared
 H₀:Hp
 env:Env
 outer:List Env
 stack:List Env
 ex:List Addr
 fn:Str->Bool
 calm:Bool
 pn:List (Addr×Obj)
 xe:BA
def Cf(l:Z Env):Z A1:=l.filterMap (·.frame)
abbrev Cx.fs(X:Cx):Z A1:=Cf X.outer
def Zq(a:Scope)(x:AJ):Prop:=a.names.lookup x=U .local\/a.names.lookup x=U .cell\/a.names.lookup x=U .free
def DE(a:Scope)(x:AJ):Prop:=a.names.lookup x=U .local\/a.names.lookup x=U .cell
def K'(env:Env)(h:A6)(m:AJ->O A0)(x:AJ)(u:A0):Prop:=
 (env.kindOf x=U .local/\m x=U u)\/((env.kindOf x=U .cell\/env.kindOf x=U .free)/\∃c,env.cells.lookup x=U c/\h.IsCell c (U u))
structure Cx.Ok (X:Cx):Prop where
 mod:Mod X.K X.mg X.base
 kind:X.env.scope.kind=.function
 glob:X.env.globals=mainGlobals
 blt:X.env.builtins=builtinsNs
 above:X.s₀.heap.objs.size<=X.env.locals
 inj:∀x y c,X.env.cells.lookup x=some c->X.env.cells.lookup y=some c->x=y
 has:∀x,(X.env.kindOf x=some .cell\/X.env.kindOf x=some .free)->∃c,X.env.cells.lookup x=some c
 cab:∀x c,X.fn x=true->X.env.cells.lookup x=some c->X.s₀.heap.objs.size<=c
 hd:X.calm=true->X.A.handled=none
 frames:X.A.frames=some X.stack
 stk:X.stack=X.outer\/(X.stack=X.env::X.outer/\X.env.frame=some X.env.locals)
 exf:∀b∈X.ex,b≠X.env.locals/\∀x c,X.env.cells.lookup x=some c->c≠b
 bs:∀b o,X.base.get? b=some o->X.s₀.heap.get? b=some o/\X.H₀ b=none
 bsz:X.base.objs.size<=X.s₀.heap.objs.size
 ZF:∀b o,X.base.get? b=some o->b∉X.ex
 acQ:∀b∈X.ex,b∉X.fs
 G5:X.s₀.heap.FunFrames X.base X.outer
 frf:∀b∈X.fs,X.H₀ b=none
structure AU (X:Cx) (AN:List (Addr×Obj)) (σ:List (Option V)) (H:Hp) (s:Shared):Prop where
 ok:X.Ok
 os:s.os=X.s₀.os
 bare:AllBare s.gens
 base:Un X.fs X.ex X.H₀ H X.s₀.heap s.heap
 loc:∃m,s.heap.Ns X.env.locals m/\∀(i:Nat) (x:Str) (v:V),X.N[i]?=some x->σ[i]?=some (some v)->Zq X.env.scope x->∃u,Au v u/\K' X.env s.heap m x u
 cell:∀x c,X.env.cells.lookup x=some c->∃v,s.heap.IsCell c v
 free:H X.env.locals=none
 rJ:∀x c,X.env.cells.lookup x=some c->H c=none
 pin:∀p∈X.pn++AN,s.heap.get? p.1=some p.2/\H p.1=none/\p.1≠X.env.locals/\p.1∉X.fs/\∀v,p.2.data≠.cell v
 hok:zW X.prog X.w H s.heap
 len:σ.length=X.N.length
section
variable{X:Cx}{σ:Z (O V)}{H H':Hp}{h':A6}
theorem Cx.Ok.akr(ok:X.Ok){b:A1}{o:AE}(e:X.base.get? b=U o):b∉X.fs:=λhb=>by
 have:=(ok.G5.mem hb).1;rw[e]at this;cases this
theorem AU.bs(I:AU X AN σ H s):∀b o,X.base.get? b=U o->s.heap.get? b=U o/\H b=Y:=λb o e=>
 ⟨I.base.keep b o (I.ok.bs b o e).1 (I.ok.bs b o e).2 (I.ok.akr e) (I.ok.ZF b o e),I.base.free b o (I.ok.bs b o e).1 (I.ok.bs b o e).2 (I.ok.ZF b o e)⟩
theorem AU.bk(I:AU X AN σ H s):∀b o,X.base.get? b=U o->s.heap.get? b=U o:=λb o e=>(I.bs b o e).1
theorem AU.mod(I:AU X AN σ H s):Mod X.K X.mg X.base:=I.ok.mod
theorem AU.kIn(I:AU X AN σ H s):X.K.In s.heap:=I.ok.mod.kin.keeps I.bk
theorem AU.lt(I:AU X AN σ H s):X.env.locals<s.heap.objs.size:=let ⟨_,hn,_⟩:=I.loc;hn.lt
theorem AU.sz(I:AU X AN σ H s):X.s₀.heap.objs.size<=s.heap.objs.size:=ZA I.ok.above (jS I.lt)
theorem AU.aks(I:AU X AN σ H s)(h:s.heap.objs.size<=a):a∉X.fs:=λhb=>by
 obtain⟨_,o,ho,_⟩:=I.ok.G5.mem hb;exact absurd (ZU (zz ho) (ZA I.sz h)) (JA _)
theorem AU.cne(I:AU X AN σ H s):∀x c,X.env.cells.lookup x=U c->c≠X.env.locals:=λx c e z=>by
 obtain⟨v,o,ho,hd⟩:=I.cell x c e;obtain⟨m,⟨o',es,ep,b,a,_⟩,_⟩:=I.loc;rw[z,b]at ho;cases ho;rw[a]at hd;cases hd
theorem AU.G5(I:AU X AN σ H s):s.heap.FunFrames X.base X.outer:=by
 have all:∀(l:Z Env),(∀b∈Cf l,b∈X.fs)->X.s₀.heap.FunFrames X.base l->s.heap.FunFrames X.base l:=by
  intro l
  induction l with
  |nil=>intro _ _;trivial
  |cons env r d=>
   intro hs h;obtain⟨f,⟨L,o,c,i,ho,hd⟩,g⟩:=h;have a:L∈X.fs:=hs L (by unfold Cf;rw[kL,c];exact zg);obtain⟨sl,e⟩:=I.base.slot L o ho (I.ok.frf L a) a λz=>I.ok.acQ L z a;exact⟨f,⟨L,_,c,i,e,hd⟩,d (λb hb=>hs b (by unfold Cf;rw[kL,c];exact zi _ hb)) g⟩
 exact all X.outer (λ_ hb=>hb) I.ok.G5
theorem AU.stack(I:AU X AN σ H s):s.heap.FunFrames X.base X.stack:=by
 rcases I.ok.stk with e|⟨e,a⟩
 ·rw[e];exact I.G5
 ·rw[e];obtain⟨m,b,_⟩:=I.loc;refine .cons (by rw[I.ok.kind];decide) a b ?_ I.G5;exact Heap.get?_none_of_le (ZA I.ok.bsz I.ok.above)
theorem AU.M9(I:AU X AN σ H s):∀b∈Cf X.stack,b∈X.env.locals::X.fs:=λb hb=>by
 rcases I.ok.stk with e|⟨e,a⟩
 ·rw[e]at hb;exact zi _ hb
 ·rw[e]at hb;unfold Cf at hb;rw[kL,a]at hb;exact hb
theorem AU.V3(I:AU X AN σ H s):∀b∈Cf X.stack,H b=Y:=λb hb=>by
 rcases List.mem_cons.mp (I.M9 b hb)with e|hb
 ·rw[e];exact I.free
 ·obtain⟨_,o,ho,_⟩:=I.ok.G5.mem hb;exact I.base.free b o ho (I.ok.frf b hb) λz=>I.ok.acQ b z hb
theorem AU.step{g':Array GenState}{t':Nat}{d':Drawn}{ch:Z A1}(I:AU X AN σ H s)
  (f:∀b∈ch,(b∈X.ex\/X.s₀.heap.objs.size<=b)/\b≠X.env.locals/\(∀x c,X.env.cells.lookup x=U c->c≠b)/\∀p∈X.pn++AN,p.1≠b)
  (keep:∀b o,b≠X.env.locals->b∉X.fs->b∉ch->s.heap.get? b=U o->H b=Y->h'.get? b=U o)
  (slot:∀b o,b≠X.env.locals->b∈X.fs->b∉ch->s.heap.get? b=U o->H b=Y->∃sl,h'.get? b=U { o with slots:=sl }) (free:∀b o,b∉ch->s.heap.get? b=U o->H b=Y->H' b=Y)
  (L:∀b o,b∉ch->s.heap.get? b=U o->∃o',h'.get? b=U o')
  (B:∀b xs,H b=U (.tup xs)->H' b=U (.tup xs)) (J:∀b o u,H b=U (.vW o u)->H' b=U (.vW o u)) (A:∀b ps,H b=U (.tbl ps)->∃more,H' b=U (.tbl (ps++more)))
  (E:∀m,s.heap.Ns X.env.locals m->h'.Ns X.env.locals m) (D:zW X.prog X.w H' h') (hg:AllBare g'):
  AU X AN σ H' { s with heap:=h',gens:=g',drawn:=d',toks:=t' }:=by
 have y:∀b o,X.s₀.heap.get? b=U o->b≠X.env.locals:=λb o e=>zS (ZU (zz e) I.ok.above);have g:∀b o,X.s₀.heap.get? b=U o->b∉X.ex->b∉ch:=λb o e hx hb=>by
  rcases(f b hb).1 with z|z
  ·exact hx z
  ·exact absurd (ZU (zz e) z) (JA _)
 have j:∀x c,X.env.cells.lookup x=U c->∀v,s.heap.IsCell c v->h'.IsCell c v:=λx c e v ⟨o,ho,hd⟩=>by
  have a:c∉ch:=λz=>(f c z).2.2.1 x c e rfl;by_cases t:c∈X.fs
  ·obtain⟨sl,q⟩:=slot c o (I.cne x c e) t a ho (I.rJ x c e);exact⟨_,q,hd⟩
  ·exact⟨o,keep c o (I.cne x c e) t a ho (I.rJ x c e),hd⟩
 refine⟨I.ok,I.os,hg,⟨λb o e n hb hx=>?_,λb o e n hb hx=>?_,λb o e n hx=>?_,λb o e hx=>?_,λb xs e=>B b xs (I.base.tups b xs e),λb o xs e=>J b o xs (I.base.Fp b o xs e),λb ps e=>?_⟩,?_,λx c e=>?_,?_,λx c e=>?_,λp hp=>?_,D,I.len⟩
 ·exact keep b o (y b o e) hb (g b o e hx) (I.base.keep b o e n hb hx) (I.base.free b o e n hx)
 ·obtain⟨sl,e1⟩:=I.base.slot b o e n hb hx;obtain⟨C,e2⟩:=slot b _ (y b o e) hb (g b o e hx) e1 (I.base.free b o e n hx);exact⟨C,e2⟩
 ·obtain⟨o',e1⟩:=I.base.there b o e hx;exact free b o' (g b o e hx) e1 (I.base.free b o e n hx)
 ·obtain⟨o',e1⟩:=I.base.there b o e hx;exact L b o' (g b o e hx) e1
 ·obtain⟨G,e1⟩:=I.base.JX b ps e;obtain⟨F,e2⟩:=A b _ e1;exact⟨G++F,by rw[e2,Array.append_assoc]⟩
 ·obtain⟨m,M,K⟩:=I.loc;refine⟨m,E m M,λi x v e1 e2 e3=>?_⟩;obtain⟨u,r,l⟩:=K i x v e1 e2 e3;refine⟨u,r,?_⟩;rcases l with l|⟨k,c,e,z⟩
  ·exact .inl l
  ·exact .inr ⟨k,c,e,j x c e _ z⟩
 ·obtain⟨v,z⟩:=I.cell x c e;exact⟨v,j x c e v z⟩
 ·obtain⟨m,⟨o,_,_,ho,_⟩,_⟩:=I.loc;exact free _ o (λz=>(f _ z).2.1 S) ho I.free
 ·obtain⟨v,o,ho,hd⟩:=I.cell x c e;exact free c o (λz=>(f c z).2.2.1 x c e S) ho (I.rJ x c e)
 ·obtain⟨e,n,ne,h,d⟩:=I.pin p hp;have a:p.1∉ch:=λz=>(f p.1 z).2.2.2 p hp rfl;exact⟨keep p.1 p.2 ne h a e n,free p.1 p.2 a e n,ne,h,d⟩
theorem AU.un{t':Nat}(I:AU X AN σ H s)(u:Un X.fs [] H H' s.heap h')(f:zW X.prog X.w H' h'):AU X AN σ H' { s with heap:=h',toks:=t' }:=by
 obtain⟨m,⟨o,es,ep,ho,r⟩,_⟩:=id I.loc;obtain⟨sl,c⟩:=u.any ho I.free (by simp);exact I.step (g':=s.gens) (d':=s.drawn) (ch:=[]) (λ_ z=>nomatch z) (λb o _ hb _ e n=>u.keep b o e n hb (by simp)) (λb o _ hb _ e n=>u.slot b o e n hb (by simp)) (λb o _ e n=>u.free b o e n (by simp)) (λb o _ e=>u.there b o e (by simp)) u.tups u.Fp u.JX (λj h=>by
  obtain⟨o',d,g,a,i⟩:=h;rw[ho]at a;cases a;exact⟨_,d,g,c,i⟩) f I.bare
theorem AU.call{g':Array GenState}{t':Nat}{d':Drawn}{ch:Z A1}(I:AU X AN σ H s)(u:Un (Cf X.stack) ch H H' s.heap h')(i:zW X.prog X.w H' h')(hg:AllBare g')
  (g:∀b∈ch,(b∈X.ex\/X.s₀.heap.objs.size<=b)/\b≠X.env.locals/\(∀x c,X.env.cells.lookup x=U c->c≠b)/\∀p∈X.pn++AN,p.1≠b):
  AU X AN σ H' { s with heap:=h',gens:=g',drawn:=d',toks:=t' }:=by
 obtain⟨m,⟨o,es,ep,ho,r⟩,_⟩:=id I.loc;obtain⟨sl,d⟩:=u.any ho I.free λz=>(g _ z).2.1 rfl;exact I.step (ch:=ch) g (λb o d hb a e n=>u.keep b o e n (λz=>(List.mem_cons.mp (I.M9 b z)).elim d hb) a) (λb o _ _ a e n=>u.any e n a) (λb o a e n=>u.free b o e n a) (λb o a e=>u.there b o e a) u.tups u.Fp u.JX (λt l=>by
  obtain⟨o',h,j,f,q⟩:=l;rw[ho]at f;cases f;exact⟨_,h,j,d,q⟩) i hg
theorem AU.turned{t':Nat}(I:AU X AN σ H s)(k:∀b o,b≠it->s.heap.get? b=U o->h'.get? b=U o)(i:H it=Y)(f:it≠X.env.locals)(h1:it∈X.ex\/X.s₀.heap.objs.size<=it)(h2:∀x c,X.env.cells.lookup x=U c->c≠it)(g:∀p∈X.pn++AN,p.1≠it):AU X AN σ H { s with heap:=h',toks:=t' }:=by
 have d:∀b u,H b=U u->b≠it:=λb u e z=>by rw[z,i]at e;cases e
 refine I.step (g':=s.gens) (d':=s.drawn) (ch:=[it]) (λb hb=>?_) (λb o _ _ a e _=>k b o (λz=>a (by simp[z])) e) (λb o _ _ a e _=>⟨o.slots,k b o (λz=>a (by simp[z])) e⟩) (λ_ _ _ _ n=>n)
  (λb o a e=>⟨o,k b o (λz=>a (by simp[z])) e⟩) (λ_ _ e=>e) (λ_ _ _ e=>e) (λb ps e=>⟨#[],by rw[e];simp⟩) (λm h=>?_) (λb u e=>?_) I.bare
 ·have e:b=it:=by simpa using hb
  subst e;exact⟨h1,f,h2,g⟩
 ·obtain⟨o,es,ep,ho,r⟩:=h;exact⟨o,es,ep,k _ o (KO f) ho,r⟩
 ·refine(I.hok b u e).stay (λc v a q=>k c v ?_ q) (λ_ q=>q) λ_ _ q=>q;rcases a with z|z
  ·rw[z];exact d b u e
  ·exact d c _ z
theorem AU.tok(I:AU X AN σ H s)(t:Nat):AU X AN σ H { s with toks:=t }:=I.un (h':=s.heap) (t':=t) Un.refl I.hok
theorem AU.kept{t':Nat}(I:AU X AN σ H s)(k:∀b u,s.heap.get? b=U u->h'.get? b=U u):AU X AN σ H { s with heap:=h',toks:=t' }:=I.un (Un.kept k) (I.hok.kept k)
theorem AU.laid{a:A1}{o:HO}{t':Nat}(I:AU X AN σ H s)(k:∀b u,s.heap.get? b=U u->h'.get? b=U u)(hp:s.heap.objs.size<=a)(new:iD X.prog X.w (B6 H a o) h' a o):
  AU X AN σ (B6 H a o) { s with heap:=h',toks:=t' }:=I.un (Un.laid k hp (I.hok.fresh hp)) (I.hok.laid k hp new)
theorem AU.write{x e:A1}{o:HO}{t':Nat}(I:AU X AN σ H s)(a:Ee (H x))(he:e=x\/H e=U (.own x))(k:∀b u,b≠e->s.heap.get? b=U u->h'.get? b=U u)(c:∃u,h'.get? e=U u)
  (new:iD X.prog X.w (B6 H x o) h' x o):AU X AN σ (B6 H x o) { s with heap:=h',toks:=t' }:=I.un (Un.write a he k c) (I.hok.write a he k c new)
theorem AU.Nb{a:Z (A1×AE)}(I:AU X AN σ H s)(h:∀p∈a,s.heap.get? p.1=U p.2/\H p.1=Y/\p.1≠X.env.locals/\p.1∉X.fs/\∀v,p.2.data≠.cell v):AU X a σ H s:=
 ⟨I.ok,I.os,I.bare,I.base,I.loc,I.cell,I.free,I.rJ,λp hp=>(List.mem_append.mp hp).elim (λz=>I.pin p (zt _ z)) (h p),I.hok,I.len⟩
theorem Ql(c:N.Nodup)(a:N[i]?=U x)(b:N[j]?=U x):i=j:=by
 obtain⟨h1,e1⟩:=List.getElem?_eq_some_iff.mp a;obtain⟨h2,e2⟩:=List.getElem?_eq_some_iff.mp b;exact(List.getElem_inj c).mp (e1.trans e2.symm)
theorem XH{v:V}{Q:Unit->A2->Prop}(I:AU X AN σ H s)(P:X.N.Nodup)(hi:X.N[i]?=U x)(hx:DE X.env.scope x)(r:Au v u)(h:∀s',AU X AN (σ.set i (U v)) H s'->(∃a,Heap.SameBut a s.heap s'.heap/\(a=X.env.locals\/X.env.cells.lookup x=U a))->Q () s')(hf:X.fn x=true\/X.env.scope.names.lookup x=U .local:=by first|exact .inl rfl|exact .inr rfl|assumption):A7 M A (storeName X.env x u) Q E s:=by
 obtain⟨m,J,hl⟩:=id I.loc;have c0:(X.env.scope.kind==.class||(X.env.scope.kind==.module&&X.env.locals !=X.env.globals))=false:=by rw[I.ok.kind];rfl
 have W:i<σ.length:=by rw[I.len];exact(List.getElem?_eq_some_iff.mp hi).1
 have cne:=I.cne;have a2:∀{a:A1} {h':A6},(∃o,s.heap.get? a=U o/\H a=Y)->Heap.SameBut a s.heap h'->zW X.prog X.w H h':=λ{a h'} ha hs b ob e=>by
  obtain⟨_,_,a5⟩:=ha;refine(I.hok b ob e).stay (λc t f q=>(hs.2 c ?_).trans q) (λ_ q=>q) λ_ _ q=>q;rintro rfl;rcases f with rfl|f
  ·rw[a5]at e;cases e
  ·rw[a5]at f;cases f
 rcases hx with g|g
 ·refine wpAny_storeName_local g J (λh' b9 hs=>?_) c0;obtain⟨oL,_,_,b0,_⟩:=id J;refine h _ ⟨I.ok,I.os,I.bare,⟨λb o e n hb hx=>?_,λb o e n hb hx=>?_,I.base.free,λb o e hx=>?_,I.base.tups,I.base.Fp,I.base.JX⟩,⟨_,b9,λj y D e1 e2 e3=>?_⟩,λy c e=>?_,I.free,I.rJ,λp hp=>?_,a2 ⟨oL,b0,I.free⟩ hs,by simpa using I.len⟩ ⟨_,hs,.inl rfl⟩
  ·exact(hs.2 b (zS (ZU (zz e) I.ok.above))).trans (I.base.keep b o e n hb hx)
  ·obtain⟨sl,e1⟩:=I.base.slot b o e n hb hx;exact⟨sl,(hs.2 b (zS (ZU (zz e) I.ok.above))).trans e1⟩
  ·obtain⟨o',e1⟩:=I.base.there b o e hx;exact⟨o',(hs.2 b (zS (ZU (zz e) I.ok.above))).trans e1⟩
  ·by_cases l:j=i
   ·subst l;rw[hi]at e1;cases e1;rw[List.getElem?_set_self W]at e2;cases e2;exact⟨u,r,.inl ⟨g,by simp⟩⟩
   ·rw[List.getElem?_set_ne (KO l)]at e2;obtain⟨F,K,q⟩:=hl j y D e1 e2 e3;refine⟨F,K,?_⟩;rcases q with⟨k,e⟩|⟨k,c,e,z⟩
    ·refine .inl ⟨k,?_⟩;have:y≠x:=λe=>l (Ql P e1 (e▸hi));simp[this,e]
    ·exact .inr ⟨k,c,e,z.sameBut hs (cne y c e)⟩
  ·obtain⟨t,z⟩:=I.cell y c e;exact⟨t,z.sameBut hs (cne y c e)⟩
  ·obtain⟨e,n,ne,C,d⟩:=I.pin p hp;exact⟨(hs.2 p.1 ne).trans e,n,ne,C,d⟩
 ·have G:X.fn x=true:=by
   rcases hf with z|z
   ·exact z
   ·rw[z]at g;cases g
  obtain⟨c,f⟩:=I.ok.has x (.inl g);obtain⟨t,z⟩:=I.cell x c f;refine wpAny_storeName_cell I.ok.kind g f z (λh' a0 hs=>?_);obtain⟨L,a3,b3⟩:=id z;refine h { s with heap:=h' } ⟨I.ok,I.os,I.bare,⟨λb o e n hb hx=>?_,λb o e n hb hx=>?_,I.base.free,λb o e hx=>?_,I.base.tups,I.base.Fp,I.base.JX⟩,⟨m,J.sameBut hs (KO (cne x c f)),λj y D e1 e2 e3=>?_⟩,λy B e=>?_,I.free,I.rJ,λp hp=>?_,a2 ⟨L,a3,I.rJ x c f⟩ hs,by simpa using I.len⟩ ⟨c,hs,.inr f⟩
  ·exact(hs.2 b (zS (ZU (zz e) (I.ok.cab x c G f)))).trans (I.base.keep b o e n hb hx)
  ·obtain⟨sl,e1⟩:=I.base.slot b o e n hb hx;exact⟨sl,(hs.2 b (zS (ZU (zz e) (I.ok.cab x c G f)))).trans e1⟩
  ·obtain⟨o',e1⟩:=I.base.there b o e hx;exact⟨o',(hs.2 b (zS (ZU (zz e) (I.ok.cab x c G f)))).trans e1⟩
  ·by_cases l:j=i
   ·subst l;rw[hi]at e1;cases e1;rw[List.getElem?_set_self W]at e2;cases e2;exact⟨u,r,.inr ⟨.inl g,c,f,a0⟩⟩
   ·rw[List.getElem?_set_ne (KO l)]at e2;obtain⟨F,K,q⟩:=hl j y D e1 e2 e3;refine⟨F,K,?_⟩;rcases q with q|⟨k,B,e,z'⟩
    ·exact .inl q
    ·refine .inr ⟨k,B,e,z'.sameBut hs ?_⟩;rintro rfl;exact l (Ql P e1 (I.ok.inj _ _ _ e f▸hi))
  ·by_cases a1:B=c
   ·subst a1;exact⟨_,a0⟩
   ·obtain⟨w2,z2⟩:=I.cell y B e;exact⟨w2,z2.sameBut hs a1⟩
  ·obtain⟨e,n,ne,C,d⟩:=I.pin p hp;refine⟨(hs.2 p.1 ?_).trans e,n,ne,C,d⟩;intro q;rw[q,a3]at e;have q':L=p.2:=Q2 e;exact d t (by rw[<-q'];exact b3)
theorem zX{v:V}{Q:Unit->A2->Prop}(I:AU X AN σ H s)(c:X.N.Nodup)(hi:X.N[i]?=U x)(hx:DE X.env.scope x)(r:Au v u)(h:∀s',AU X AN (σ.set i (U v)) H s'->Q () s')(a:X.fn x=true\/X.env.scope.names.lookup x=U .local:=by first|exact .inl rfl|exact .inr rfl|assumption):A7 M A (storeName X.env x u) Q E s:=
 XH I c hi hx r (λs' b _=>h s' b) a
theorem AU.call'{s':A2}{ch:Z A1}(I:AU X AN σ H s)(ho:s'.os=s.os)(u:Un (Cf X.stack) ch H H' s.heap s'.heap)(d:zW X.prog X.w H' s'.heap)(hg:AllBare s'.gens)
  (a:∀b∈ch,(b∈X.ex\/X.s₀.heap.objs.size<=b)/\b≠X.env.locals/\(∀x c,X.env.cells.lookup x=U c->c≠b)/\∀p∈X.pn++AN,p.1≠b):AU X AN σ H' s':=by
 obtain⟨h',g',d',t',o'⟩:=s';have e:o'=s.os:=ho;subst e;exact I.call (g':=g') (t':=t') (d':=d') u d hg a
end
abbrev XK:=A0->O A1->Hp->Prop
abbrev St:=Z (O V)
abbrev VK:=V->Hp->Prop
abbrev TE:=St->Hp->VK->Prop
abbrev TT:=St->Hp->(Bool->Hp->Prop)->Prop
abbrev TA:=St->Hp->(Z V->Hp->Prop)->Prop
structure C3 where
 nx:St->Hp->Prop
 rt:VK
 bk:St->Hp->Prop:=λ_ _=>False
 ct:St->Hp->Prop:=λ_ _=>False
abbrev TS:=C3->St->Hp->Prop
def EP(X:Cx)(AN:Z (A1×AE))(σ:St)(Q:VK)(u:A0)(s':A2):Prop:=∃v H',AU X AN σ H' s'/\Au v u/\Q v H'
def TP(X:Cx)(AN:Z (A1×AE))(σ:St)(Q:Bool->Hp->Prop)(b:Bool)(s':A2):Prop:=∃H',AU X AN σ H' s'/\Q b H'
def AP(X:Cx)(AN:Z (A1×AE))(σ:St)(Q:Z V->Hp->Prop)(us:Z A0)(s':A2):Prop:=∃vs H',AU X AN σ H' s'/\AX vs us/\Q vs H'
def SP(X:Cx)(AN:Z (A1×AE))(D:C3)(f:Flow)(s':A2):Prop:=
 match f with
 |.next=>∃ σ' H',AU X AN σ' H' s'/\D.nx σ' H'
 |.brk=>∃ σ' H',AU X AN σ' H' s'/\D.bk σ' H'
 |.cont=>∃ σ' H',AU X AN σ' H' s'/\D.ct σ' H'
 |.ret u=>∃v σ' H',AU X AN σ' H' s'/\Au v u/\D.rt v H'
def PE(X:Cx)(e:Expr)(t:TE):Prop:=
 ∀(AN:Z (A1×AE)) (s:A2) (σ:St) (H:Hp) (Q:VK),AU X AN σ H s->t σ H Q->A7 (A8 X.prog X.w) X.A (eval e X.env) (EP X AN σ Q) X.xe s
def PT(X:Cx)(e:Expr)(t:TT):Prop:=
 ∀(AN:Z (A1×AE)) (s:A2) (σ:St) (H:Hp) (Q:Bool->Hp->Prop),AU X AN σ H s->t σ H Q->A7 (A8 X.prog X.w) X.A (isTrue e X.env (eval e X.env)) (TP X AN σ Q) X.xe s
def PW(X:Cx)(e:Expr)(t:TT):Prop:=
 ∀(a:Sem A0) (AN:Z (A1×AE)) (s:A2) (σ:St) (H:Hp) (Q:Bool->Hp->Prop),AU X AN σ H s->t σ H Q->A7 (A8 X.prog X.w) X.A (isTrue e X.env a) (TP X AN σ Q) X.xe s
theorem PW.pt{X:Cx}{t:TT}(h:PW X e t):PT X e t:=h _
def PA(X:Cx)(es:Z Expr)(t:TA):Prop:=
 ∀(pos:Pos) (AN:Z (A1×AE)) (s:A2) (σ:St) (H:Hp) (Q:Z V->Hp->Prop),AU X AN σ H s->t σ H Q->A7 (A8 X.prog X.w) X.A (spliced (AD pos (A9 es X.env))) (AP X AN σ Q) X.xe s
def PS(X:Cx)(st:AB)(t:TS):Prop:=
 ∀(AN:Z (A1×AE)) (s:A2) (σ:St) (H:Hp) (D:C3),AU X AN σ H s->t D σ H->A7 (A8 X.prog X.w) X.A (exec st X.env) (SP X AN D) X.xe s
def TQ(X:Cx)(st:Z AB)(t:TS):Prop:=
 ∀(AN:Z (A1×AE)) (s:A2) (σ:St) (H:Hp) (D:C3),AU X AN σ H s->t D σ H->A7 (A8 X.prog X.w) X.A (execs st X.env) (SP X AN D) X.xe s
theorem jc{t:Sem α}{Q b:α->A2->Prop}(h:A7 M A t Q E s)(c:∀a s,Q a s->b a s):A7 M A t b E s:=QI h c λ_ _ x=>x
end L2
namespace L2
section
variable{X:Cx}
def ME(i:Nat):TE:=λσ H Q=>∃v,σ[i]?=U (U v)/\Q v H
def tC(v:V):TE:=λ_ H Q=>Q v H
theorem wI(j:X.N[i]?=U x)(g:Zq X.env.scope x)(hd:(x==("__debug__":AJ))=false:=by decide)(n:(x==("__classdict__":AJ))=false:=by decide):PE X (.Name x pos) (ME i):=by
 intro AN s σ H Q I h;obtain⟨v,e,h⟩:=h;obtain⟨m,q,p⟩:=I.loc;obtain⟨u,r,l⟩:=p i x v j e g;have b:EP X AN σ Q u s:=⟨v,H,I,r,h⟩;rcases l with⟨a,o⟩|⟨a,c,f,d⟩
 ·exact wpAny_Name (wpAny_loadName_local I.ok.kind a q o b) hd
 ·rcases a with a|a
  ·exact wpAny_Name (wpAny_loadName_cell I.ok.kind a f d b) hd
  ·exact wpAny_Name (wpAny_loadName_free I.ok.kind a f d b n) hd
theorem UX{i j pos}:PE X (.Constant (.int i) j pos) (tC (.int i)):=λ_ _ _ H _ I h=>wpAny_Constant_int ⟨.int i,H,I.tok _,⟨_,rfl⟩,h⟩
theorem d5{b j pos}:PE X (.Constant (.bool b) j pos) (tC (.bl b)):=λ_ _ _ H _ I h=>Constant_bool ⟨.bl b,H,I,rfl,h⟩
theorem SI{j pos}:PE X (.Constant .none j pos) (tC .non):=λ_ _ _ H _ I h=>Constant_none ⟨.non,H,I,rfl,h⟩
theorem SV{x j pos}:PE X (.Constant (.str x) j pos) (tC (.str x)):=λ_ _ _ H _ I h=>Calls.Constant_str ⟨.str x,H,I.tok _,⟨_,rfl⟩,h⟩
def Gl(X:Cx)(x:AJ):Prop:=X.env.kindOf x=U .globalImplicit
theorem V4{σ:St}{H:Hp}{Q:BA}(I:AU X AN σ H s)(hg:Gl X x)(a:X.mg x=U u)(h:Q u s)(hd:(x==("__debug__":AJ))=false:=by decide):A7 (A8 X.prog X.w) X.A (eval (.Name x pos) X.env) Q E s:=
 Calls.Name_function_global I.ok.kind hg (Calls.loadGlobal_global (by rw[I.ok.glob];exact I.mod.glob.keeps I.bk) a h) hd
theorem Nf{σ:St}{H:Hp}{Q:BA}(I:AU X AN σ H s)(hg:Gl X x)(c:X.mg x=Y)(a:AH x=U u)(h:Q u s)(b:x ≠ "__name__":=by decide)(hd:(x==("__debug__":AJ))=false:=by decide):A7 (A8 X.prog X.w) X.A (eval (.Name x pos) X.env) Q E s:=by
 obtain⟨d,h1,h2⟩:=I.mod.blt;exact Calls.Name_function_global I.ok.kind hg (Calls.loadGlobal_builtin (by rw[I.ok.glob];exact I.mod.glob.keeps I.bk) c (by rw[I.ok.blt];exact h1.keeps I.bk) ((h2 x b).trans a) h) hd
theorem V5{v:V}(hg:Gl X x)(a:X.mg x=U u)(r:Au v u)(hd:(x==("__debug__":AJ))=false:=by decide):PE X (.Name x pos) (tC v):=
 λ_ _ _ H _ I h=>V4 I hg a ⟨v,H,I,r,h⟩ hd
theorem Gp{v:V}(hg:Gl X x)(c:X.mg x=Y)(a:AH x=U u)(r:Au v u)(b:x ≠ "__name__":=by decide)(hd:(x==("__debug__":AJ))=false:=by decide):PE X (.Name x pos) (tC v):=
 λ_ _ _ H _ I h=>Nf I hg c a ⟨v,H,I,r,h⟩ b hd
variable{a b:Expr}{ta tb:TE}
variable{tA tB':TT}{AS:Z Expr}
def OL(t u:TT):TT:=λσ H Q=>t σ H λc H1=>if c=true then u σ H1 Q else Q false H1
def LA(t u:TT):TT:=λσ H Q=>t σ H λc H1=>if c=true then Q true H1 else u σ H1 Q
def RO(t:TT):TT:=λσ H Q=>t σ H λc H1=>Q (!c) H1
theorem V'(ha:PT X a tA):PW X (.BoolOp .And [a] pos) tA:=by
 intro wh AN s σ H Q I h;refine isTrue_and (jc (ha AN s σ H Q I h) λc b e=>?_);cases c with
 |true=>exact isTrue_and_nil e
 |false=>exact e
theorem OP(ha:PT X a tA):PW X (.BoolOp .Or [a] pos) tA:=by
 intro wh AN s σ H Q I h;refine isTrue_or (jc (ha AN s σ H Q I h) λc b e=>?_);cases c with
 |false=>exact isTrue_or_nil e
 |true=>exact e
theorem U1(ha:PT X a tA)(hb:PW X (.BoolOp .And (b::AS) pos) tB'):PW X (.BoolOp .And (a::b::AS) pos) (OL tA tB'):=by
 intro wh AN s σ H Q I h;refine isTrue_and (jc (ha AN s σ H _ I h) λc s1 ⟨H1,I1,q1⟩=>?_);cases c with
 |true=>exact hb wh AN s1 σ H1 Q I1 q1
 |false=>exact⟨H1,I1,q1⟩
theorem Op(ha:PT X a tA)(hb:PW X (.BoolOp .Or (b::AS) pos) tB'):PW X (.BoolOp .Or (a::b::AS) pos) (LA tA tB'):=by
 intro wh AN s σ H Q I h;refine isTrue_or (jc (ha AN s σ H _ I h) λc s1 ⟨H1,I1,q1⟩=>?_);cases c with
 |true=>exact⟨H1,I1,q1⟩
 |false=>exact hb wh AN s1 σ H1 Q I1 q1
theorem fR(ha:PT X a tA):PT X (.UnaryOp .Not a pos) (RO tA):=by
 intro AN s σ H Q I h;exact isTrue_not (ha AN s σ H (λc H1=>Q (!c) H1) I h)
def fw(ta tb:TE):TE:=λσ H Q=>ta σ H λx H1=>∃c,x=.bl c/\if c=true then tb σ H1 Q else Q (.bl false) H1
def Uf(ta:TE):TE:=λσ H Q=>ta σ H λx H1=>∃c,x=.bl c/\Q (.bl (!c)) H1
theorem WN{op}{t:TE}(h:PE X a t):PE X (.BoolOp op [a] pos) t:=λAN s σ H Q I b=>BoolOp_one (h AN s σ H Q I b)
theorem Of(ha:PE X a ta)(hb:PE X (.BoolOp .And (b::AS) pos) tb):PE X (.BoolOp .And (a::b::AS) pos) (fw ta tb):=by
 intro AN s σ H Q I h;refine BoolOp_and (jc (ha AN s σ H _ I h) λv s1 ⟨x,H1,I1,r1,q1⟩=>?_);obtain⟨c,rfl,q1⟩:=q1;cases r1;refine ja ?_;cases c with
 |true=>exact hb AN s1 σ H1 Q I1 q1
 |false=>exact⟨.bl false,H1,I1,rfl,q1⟩
theorem T2(ha:PE X a ta):PE X (.UnaryOp .Not a pos) (Uf ta):=by
 intro AN s σ H Q I h;refine UnaryOp_ (jc (ha AN s σ H _ I h) λv s1 ⟨x,H1,I1,r1,q1⟩=>?_);obtain⟨c,rfl,q1⟩:=q1;cases r1;exact not_of (ja ⟨.bl (!c),H1,I1,rfl,q1⟩)
end
end L2
namespace L2
def wJ(K:B1)(H:Hp)(a:A1)(xs:Z V):Prop:=
 Rd H a (.lst xs) ∨
  ∃(o:AE) (AQ:Array A0) (n:Nat),K.lookup a=U o/\o.cls=.type "list" ∧ o.dict=Y/\o.data=.seq AQ n/\AQ.size<=AA/\AX xs AQ.toList
def Cy(K:B1)(H:Hp)(a:A1)(xs:Z V):Prop:=
 Rd H a (.tup xs) ∨
  ∃(o:AE) (AQ:Array A0) (n:Nat),K.lookup a=U o/\(o.cls=.type "tuple" ∧ o.dict=Y)/\o.data=.seq AQ n/\AQ.size<=AA/\AX xs AQ.toList
def HG:A0->O V
 |.none=>U .non
 |.bool b=>U (.bl b)
 |.int i _=>U (.int i)
 |.str x _=>U (.str x)
 |.bytes b _=>U (.byt b)
 |.float b _=>U (.flt b)
 |.ref a=>U (.ref a)
 |.type n=>U (.ty n)
 |_=>Y
theorem Au.abs{x:V}(r:Au x u):HG u=U x:=by
 cases x with
 |non=>cases r;rfl
 |bl _=>cases r;rfl
 |int _=>obtain⟨t,rfl⟩:=r;rfl
 |str _=>obtain⟨t,rfl⟩:=r;rfl
 |byt _=>obtain⟨t,rfl⟩:=r;rfl
 |flt _=>obtain⟨t,rfl⟩:=r;rfl
 |ref _=>cases r;rfl
 |ty _=>cases r;rfl
theorem Au.inj{x y:V}{u:A0}(r:Au x u)(q:Au y u):x=y:=Q2 (r.abs.symm.trans q.abs)
theorem AX.inj:∀{xs ys:Z V} {us:Z A0},AX xs us->AX ys us->xs=ys
 |_,_,_,.nil,.nil=>rfl
 |_,_,_,.cons r t,.cons r' t'=>by rw[r.inj r',AX.inj t t']
section
variable{X:Cx}{σ:St}{H:Hp}{xs ys:Z V}
theorem AU.list(I:AU X AN σ H s)(h:wJ X.K H a xs):∃AQ:Z A0,AX xs AQ/\PlainL s.heap a AQ.toArray/\xs.length<=AA:=by
 rcases h with h|⟨o,AQ,n,c,b,hd,hs,d,r⟩
 ·obtain⟨z,AQ,n,r,e⟩:=h.ok I.hok;exact⟨AQ,r,⟨_,n,e,rfl,rfl,rfl⟩,z⟩
 ·refine⟨AQ.toList,r,⟨o,n,I.kIn a o c,b,hd,by simpa using hs⟩,?_⟩;have e:=r.length;simp only[qa]at e;omega
theorem AU.tuple(I:AU X AN σ H s)(h:Cy X.K H a xs):∃AQ:Z A0,AX xs AQ/\IsTup s.heap a AQ.toArray/\xs.length<=AA:=by
 rcases h with h|⟨o,AQ,n,c,b,hs,d,r⟩
 ·obtain⟨z,AQ,r,p⟩:=h.ok I.hok;exact⟨AQ,r,p.weak,z⟩
 ·refine⟨AQ.toList,r,⟨o,I.kIn a o c,b.1,n,by simpa using hs⟩,?_⟩;have e:=r.length;simp only[qa]at e;omega
theorem AU.Qm(I:AU X AN σ H s)(h:wJ X.K H a xs)(h':wJ X.K H a ys):xs=ys:=by
 obtain⟨AQ,r,⟨o,n,e,_,_,d⟩,_⟩:=I.list h;obtain⟨c,f,⟨o',i,e',_,_,b⟩,_⟩:=I.list h';rw[e]at e';cases e';rw[d]at b;injection b with g _;have:AQ=c:=by simpa using congrArg Array.toList g
 subst this;exact r.inj f
theorem AU.K1(I:AU X AN σ H s)(h:Cy X.K H a xs)(h':Cy X.K H a ys):xs=ys:=by
 obtain⟨AQ,r,⟨o,e,_,n,d⟩,_⟩:=I.tuple h;obtain⟨c,f,⟨o',e',_,i,b⟩,_⟩:=I.tuple h';rw[e]at e';cases e';rw[d]at b;injection b with g _;have:AQ=c:=by simpa using congrArg Array.toList g
 subst this;exact r.inj f
end
abbrev Cx.wish(X:Cx)(E:BA):Cx:={ X with xe:=E }
abbrev Cx.nox(X:Cx):Cx:=X.wish λ_ _=>False
theorem Cx.Ok.wish{X:Cx}(ok:X.Ok)(E:BA):(X.wish E).Ok:=
 ⟨ok.mod,ok.kind,ok.glob,ok.blt,ok.above,ok.inj,ok.has,ok.cab,ok.hd,ok.frames,ok.stk,ok.exf,ok.bs,ok.bsz,ok.ZF,ok.acQ,ok.G5,ok.frf⟩
theorem Cx.Ok.wK{X:Cx}(ok:(X.wish E).Ok):X.Ok:=
 ⟨ok.mod,ok.kind,ok.glob,ok.blt,ok.above,ok.inj,ok.has,ok.cab,ok.hd,ok.frames,ok.stk,ok.exf,ok.bs,ok.bsz,ok.ZF,ok.acQ,ok.G5,ok.frf⟩
section
variable{X:Cx}{σ:St}{H:Hp}
theorem AU.wish(I:AU X AN σ H s)(E:BA):AU (X.wish E) AN σ H s:=⟨I.ok.wish E,I.os,I.bare,I.base,I.loc,I.cell,I.free,I.rJ,I.pin,I.hok,I.len⟩
theorem AU.wK(I:AU (X.wish E) AN σ H s):AU X AN σ H s:=⟨I.ok.wK,I.os,I.bare,I.base,I.loc,I.cell,I.free,I.rJ,I.pin,I.hok,I.len⟩
theorem SP.wK{D:C3}{f:Flow}{s':A2}(h:SP (X.wish E) AN D f s'):SP X AN D f s':=by
 cases f with
 |next=>obtain⟨σ',H',I,q⟩:=h;exact⟨σ',H',I.wK,q⟩
 |brk=>obtain⟨σ',H',I,q⟩:=h;exact⟨σ',H',I.wK,q⟩
 |cont=>obtain⟨σ',H',I,q⟩:=h;exact⟨σ',H',I.wK,q⟩
 |ret u=>obtain⟨v,σ',H',I,r,q⟩:=h;exact⟨v,σ',H',I.wK,r,q⟩
theorem TQ.nox{st:Z AB}{t:TS}(h:TQ X.nox st t):TQ X st t:=λAN s σ H D I a=>
 QI (h AN s σ H D (I.wish _) a) (λ_ _ q=>q.wK) λ_ _ z=>False.elim z
end
section
variable{X:Cx}{st:AB}{AS:Z AB}{t u:TS}{te:TE}
def Rl:TS:=λD σ H=>D.nx σ H
def WF(t u:TS):TS:=λD σ H=>t { D with nx:=u D } σ H
theorem RE:TQ X [] Rl:=λ_ _ σ H _ I h=>wpAny_execs_nil ⟨σ,H,I,h⟩
theorem ZG(h1:PS X st t)(h2:TQ X AS u):TQ X (st::AS) (WF t u):=by
 intro AN s σ H D I h;refine wpAny_execs_cons (jc (h1 AN s σ H { D with nx:=u D } I h) λf b q=>?_);cases f with
 |next=>
  obtain⟨σ',H',a,q⟩:=q;exact h2 AN b σ' H' D a q
 |ret v=>exact q
 |brk=>exact q
 |cont=>exact q
theorem AU.quiet{σ:St}{H:Hp}(I:AU X AN σ H s):interactive X.env=false:=by simp[interactive,I.ok.kind]
def fq(te:TE):TS:=λD σ H=>te σ H λ_ H1=>D.nx σ H1
theorem Ng(he:PE X e te)(hs:swapsWith e Y pos.line X.env=pure false:=by rfl):PS X (.Expr e pos) (fq te):=by
 intro AN s σ H D I h;exact wpAny_Expr_any (jc (he AN s σ H _ I h) λv s1 ⟨x,H1,I1,r1,q1⟩=>⟨σ,H1,I1,q1⟩) I.quiet hs
def ck(te:TE):TS:=λD σ H=>te σ H D.rt
theorem ZJ(he:PE X e te):PS X (.Return (U e) pos) (ck te):=by
 intro AN s σ H D I h;exact wpAny_Return_some (jc (he AN s σ H _ I h) λv s1 ⟨x,H1,I1,r1,q1⟩=>⟨x,σ,H1,I1,r1,q1⟩)
def bo(c:TT)(t u:TS):TS:=λD σ H=>c σ H λb H1=>if b=true then t D σ H1 else u D σ H1
theorem gg{a b:Z AB}{tc:TT}(e:PT X c tc)(ha:TQ X a t)(hb:TQ X b u):PS X (.If c a b pos) (bo tc t u):=by
 intro AN s σ H D I h;refine wpAny_If (jc (e AN s σ H _ I h) λd s1 ⟨H1,I1,q1⟩=>?_);cases d with
 |true=>exact ha AN s1 σ H1 D I1 q1
 |false=>exact hb AN s1 σ H1 D I1 q1
end
abbrev TG:=V->St->Hp->(St->Hp->Prop)->Prop
abbrev DJ:=Z V->St->Hp->(St->Hp->Prop)->Prop
def PG(X:Cx)(a:Expr)(t:TG):Prop:=
 ∀(AN:Z (A1×AE)) (s:A2) (σ:St) (H:Hp) (v:V) (u:A0) (Q:St->Hp->Prop),AU X AN σ H s->Au v u->t v σ H Q →
  A7 (A8 X.prog X.w) X.A (assign a X.env u) (λ_ s'=>∃ σ' H',AU X AN σ' H' s'/\Q σ' H') X.xe s
def Zr(X:Cx)(ts:Z Expr)(t:DJ):Prop:=
 ∀(AN:Z (A1×AE)) (s:A2) (σ:St) (H:Hp) (vs:Z V) (us:Z A0) (Q:St->Hp->Prop),AU X AN σ H s->AX vs us->t vs σ H Q →
  A7 (A8 X.prog X.w) X.A (assignInOrder ((assignEach ts X.env).map (·.2)) us) (λ_ s'=>∃ σ' H',AU X AN σ' H' s'/\Q σ' H') X.xe s
section
variable{X:Cx}
def LL(i:Nat):TG:=λv σ H Q=>Q (σ.set i (U v)) H
theorem V6(c:X.N.Nodup)(hi:X.N[i]?=U x)(hx:DE X.env.scope x)(a:X.fn x=true\/X.env.scope.names.lookup x=U .local:=by first|exact .inl rfl|exact .inr rfl|assumption):PG X (.Name x pos) (LL i):=by
 intro AN s σ H v u Q I r h;exact wpAny_assign_Name (zX I c hi hx r (λs' b=>⟨_,H,b,h⟩) a)
def dE:DJ:=λvs σ H Q=>vs=[]/\Q σ H
def PQ(t:TG)(u:DJ):DJ:=λvs σ H Q=>∃v r,vs=v::r/\t v σ H λσ' H'=>u r σ' H' Q
theorem dC:Zr X [] dE:=by
 intro AN s σ H vs us Q I r h;obtain⟨e,h⟩:=h;subst e;cases r;exact assignInOrder_nil ⟨σ,H,I,h⟩
theorem ZK{t:TG}{u:DJ}(h1:PG X e t)(h2:Zr X es u)(hs:(assignEach (e::es) X.env).map (·.2)=assign e X.env::(assignEach es X.env).map (·.2):=by rfl):Zr X (e::es) (PQ t u):=by
 intro AN s σ H vs us Q I r h;obtain⟨v,b,e1,h⟩:=h;subst e1;cases r with
 |cons r a=>
  rw[hs];refine assignInOrder_cons (jc (h1 AN s σ H _ _ _ I r h) λ_ s1 ⟨σ1,H1,I1,q1⟩=>?_);exact h2 AN s1 σ1 H1 _ _ Q I1 a q1
def XI(K:B1)(n:Nat)(t:DJ):TG:=λv σ H Q=>∃a xs,v=.ref a/\Cy K H a xs/\xs.length=n/\t xs σ H Q
theorem SA{k:Nat}{t:DJ}(i:X.calm=true)(h:Zr X es t)(p:(assignEach es X.env).length=n:=by rfl)(f:(assignEach es X.env).findIdx? (·.1)=Y:=by rfl):PG X (.Tuple es k pos) (XI X.K n t):=by
 intro AN s σ H v u Q I r c;obtain⟨a,xs,e1,g,m,c⟩:=c;subst e1;cases r;obtain⟨AQ,d,j,q⟩:=I.tuple g;refine assign_Tuple_tuple (I.ok.hd i) j (by simp[p,<-m,d.length]) f λh' hx=>?_;have l:AU X AN σ H { s with heap:=h' }:=I.kept (t':=s.toks) λb o e=>hx b o (zS (zz e)) e;exact h AN _ σ H xs _ Q l (by simpa using d) c
def NJ(te:TE)(g:TG):TS:=λD σ H=>te σ H λx H1=>g x σ H1 D.nx
theorem UZ{te:TE}{g:TG}(he:PE X e te)(hg:PG X tg g)(hs:swapsWithSole [tg] e pos.line X.env=pure false:=by rfl)(a:swappedStores [tg] e X.env=pure Y:=by rfl)(h1:(assignEach [tg] X.env).map (·.2)=[assign tg X.env]:=by rfl):PS X (.Assign [tg] e pos) (NJ te g):=by
 intro AN s σ H D I h;refine wpAny_Assign_stores (jc (he AN s σ H _ I h) λv s1 ⟨x,H1,I1,r1,q1⟩=>?_) hs a;rw[h1];exact jc (hg AN s1 σ H1 x v _ I1 r1 q1) λ_ b q=>q
theorem ZL{te:TE}{pos':Pos}(b:X.N.Nodup)(hi:X.N[i]?=U x)(hx:DE X.env.scope x)(he:PE X e te)(hs:swapsWith e (U (.Name x pos')) pos.line X.env=pure false:=by rfl)(a:X.fn x=true\/X.env.scope.names.lookup x=U .local:=by first|exact .inl rfl|exact .inr rfl|assumption):
  PS X (.Assign [.Name x pos'] e pos) (NJ te (LL i)):=by
 intro AN s σ H D I h;refine wpAny_Assign_Name (jc (he AN s σ H _ I h) λv s1 ⟨y,H1,I1,r1,q1⟩=>?_) hs;exact zX I1 b hi hx r1 (λd c=>⟨_,H1,c,q1⟩) a
def SK(i j:Nat)(ta:TA):TS:=λD σ H=>ta σ H λvs H1=>∃v w,vs=[v,w]/\D.nx ((σ.set i (U v)).set j (U w)) H1
theorem RH{a b:Expr}{ta:TA}{px py pt:Pos}{kt k2 pt2}(u:X.calm=true)(g:X.N.Nodup)(hi:X.N[i]?=U x)(C:X.N[j]?=U y)(B:i≠j)(hx:X.env.scope.names.lookup x=U .local)(l:X.env.scope.names.lookup y=U .local)(ha:PA X [a,b] ta)(t:swappedStores [.Tuple [.Name x px,.Name y py] kt pt] (.Tuple [a,b] k2 pt2) X.env=pure (U [x,y]))(hs:swapsWithSole [.Tuple [.Name x px,.Name y py] kt pt] (.Tuple [a,b] k2 pt2) pos.line X.env=pure false:=by rfl):
  PS X (.Assign [.Tuple [.Name x px,.Name y py] kt pt] (.Tuple [a,b] k2 pt2) pos) (SK i j ta):=by
 intro AN s σ H D I h;rw[exec_Assign_arm];refine zb (K0 ?_);rw[hs];refine zb (ze ?_);rw[zw (by decide)];refine zb (Tuple_ (jc (ha _ AN s σ H _ I h) λus s1 ⟨vs,H1,I1,r1,q1⟩=>?_));obtain⟨v,w,e1,q1⟩:=q1;subst e1;obtain⟨d,c,rfl,z,m⟩:∃d c,us=[d,c]/\Au v d/\Au w c:=by
  cases r1 with
  |cons p q=>
   cases q with
   |cons p' n=>
    cases n;exact⟨_,_,rfl,p,p'⟩
 refine qS ?_ (by show 2<=AA;decide);have G:AU X AN σ H1 { s1 with heap:=s1.heap.push { cls:=.type "tuple",data:=.seq [d,c].toArray } }:=I1.kept (t':=s1.toks) λb o e=>zd _ e;rw[t];refine zb (ze ?_);show A7 (A8 X.prog X.w) X.A (do rule "assign.swapped-stores"; let items <-unpackItems (.ref s1.heap.objs.size) 2 Y;assignInOrder [λv=>bindName X.env y v,λv=>bindName X.env x v] items.reverse;pure Flow.next) _ _ _;refine zb (k8 (zb (unpackItems_tuple (items:=#[d,c]) (I.ok.hd u) (IsTup.new s1.heap _) λh' E=>?_)));have F:=G.kept (h':=h') (t':=s1.toks) λb o e=>E b o (zS (zz e)) e;show A7 _ _ (assignInOrder [λv=>bindName X.env y v,λv=>bindName X.env x v] [c,d] >>= λ_=>pure Flow.next) _ _ _;refine zb (assignInOrder_cons (wpAny_bindName (zX F g C (.inl l) m (λK J=>?_) (.inr l))));refine assignInOrder_cons (wpAny_bindName (zX J g hi (.inl hx) z (λL f=>assignInOrder_nil (ze ?_)) (.inr hx)));rw[List.set_comm _ _ (KO B)]at f;exact⟨_,H1,f,q1⟩
def SS(c:TT)(tb:TS):TS:=λD σ H=>∃W:Nat->St->Hp->Prop,(∃m,W m σ H)/\∀m σ H,W m σ H →
 c σ H λb H1=>if b=true then ∃N:St->Hp->Prop,(∀ σ' H',N σ' H'->∃a,a<m/\W a σ' H')/\tb { D with nx:=N,ct:=N,bk:=D.nx } σ H1 else D.nx σ H1
theorem ZM{tc:TT}{tb:TS}(hp:PassesOwn (A8 X.prog X.w) X.A X.env X.xe)(t:PT X c tc)(hb:TQ X body tb):PS X (.While c body [] pos) (SS tc tb):=by
 intro AN s σ H D I h;obtain⟨W,⟨y,q⟩,turn⟩:=h;refine wpAny_While (codeAny_whileLoop (λn s'=>∃ σ' H',AU X AN σ' H' s'/\W n σ' H') ?_ y ⟨σ,H,I,q⟩);rintro n u ⟨e,H1,x,z⟩;refine km hp (jc (t AN u e H1 _ x (turn n e H1 z)) λb s2 ⟨H2,I2,q2⟩=>?_);cases b with
 |true=>
  obtain⟨N,p,q2⟩:=q2;rw[zk rfl];refine km hp (jc (hb AN s2 e H2 _ I2 q2) λf B g=>?_);cases f with
  |next=>
   obtain⟨a,d,o,j⟩:=g;obtain⟨l,m,i⟩:=p a d j;exact⟨l,m,a,d,o,i⟩
  |cont=>
   obtain⟨a,d,o,j⟩:=g;obtain⟨l,m,i⟩:=p a d j;exact⟨l,m,a,d,o,i⟩
  |brk=>exact g
  |ret v=>exact g
 |false=>
  rw[zw ZH];exact wpAny_execs_nil ⟨e,H2,I2,q2⟩
end
structure It where
 go:Nat->Hp->Prop
 yld:Nat->Hp->V->Hp->Prop
 stop:Nat->Hp->Prop
def uK(X:Cx)(AN:Z (A1×AE))(H:Hp)(b:A1):Prop:=
 H b=Y/\b≠X.env.locals/\b∉X.fs/\(b∈X.ex\/X.s₀.heap.objs.size<=b)/\(∀x c,X.env.cells.lookup x=U c->c≠b)/\∀p∈X.pn++AN,p.1≠b
theorem AU.ZP{X:Cx}{σ:St}{H H':Hp}{b:A1}(I:AU X AN σ H s)(hb:s.heap.objs.size<=b)(a:H' b=Y):uK X AN H' b:=by
 refine⟨a,KA (ZU I.lt hb),I.aks hb,.inr (ZA I.sz hb),λx c e z=>?_,λp hp z=>?_⟩
 ·obtain⟨v,q⟩:=I.cell x c e;exact absurd (ZU q.lt (by rw[z];exact hb)) (JA _)
 ·exact absurd (ZU (zz (I.pin p hp).1) (by rw[z];exact hb)) (JA _)
structure C9 (P:Program) (w:World) (K:B1) (tg:Expr) (J:It) (fp:List Addr) (it:Addr) (tn:Nat->Heap->Prop):Prop where
 mem:it∈fp
 obj:∀i h,tn i h->∀b∈fp,∃o,h.get? b=some o/\∀v,o.data≠.cell v
 keep:∀i h h',tn i h->(∀b∈fp,∀o,h.get? b=some o->h'.get? b=some o)->tn i h'
 item:∀(X:Cx),X.prog=P->X.w=w->X.K=K->X.calm=true->∀(i:Nat) (AN:List (Addr×Obj)) (s:Shared) (σ:St) (H:Hp) (E:BA),AU X AN σ H s->(∀b∈fp,uK X AN H b)->tn i s.heap->J.go i H →
  wpAny (model P w) X.A (pyNext (.ref it)) (λr s1=>∃u,r=some u ∧
   wpAny (model P w) X.A (letOwnedTupleGo tg (.ref it) u) (λ_ s2=>∃x H',AU X AN σ H' s2/\Au x u/\J.yld i H x H'/\tn (i+1) s2.heap/\∀b∈fp,H' b=none) E s1) E s
 done:∀(X:Cx),X.prog=P->X.w=w->X.K=K->X.calm=true->∀(i:Nat) (AN:List (Addr×Obj)) (s:Shared) (σ:St) (H:Hp) (E:BA),AU X AN σ H s->(∀b∈fp,uK X AN H b)->tn i s.heap->J.stop i H →
  wpAny (model P w) X.A (pyNext (.ref it)) (λr s1=>r=none/\AU X AN σ H s1) E s
 self:∀(A:Around) (i:Nat) (s:Shared) (Q:BA) (E:BA),tn i s.heap->Q (.ref it) s->wpAny (model P w) A (pyIter (.ref it)) Q E s
abbrev TI:=St->Hp->(It->Hp->Prop)->Prop
def Mk(X:Cx)(AN:Z (A1×AE))(σ:St)(tg:Expr)(R:It->Hp->Prop)(c:A0)(a:A2):Prop:=
 ∃(it:A1) (fp:Z A1) (tn:Nat->A6->Prop) (J:It) (H':Hp),c=.ref it/\AU X AN σ H' a/\C9 X.prog X.w X.K tg J fp it tn/\tn 0 a.heap/\(∀b∈fp,uK X AN H' b)/\R J H'
def PI(X:Cx)(tg iter:Expr)(b:TI):Prop:=
 ∀(AN:Z (A1×AE)) (s:A2) (σ:St) (H:Hp) (R:It->Hp->Prop),AU X AN σ H s->b σ H R →
  A7 (A8 X.prog X.w) X.A (eval iter X.env) (λv a=>A7 (A8 X.prog X.w) X.A (pyIter v) (Mk X AN σ tg R) X.xe a) X.xe s
theorem K3{o:AE}{n:String}{vs:Array A0}{Q:Unit->A2->Prop}(ho:s.heap.get? it=U o)(b:o.cls=.type n)(hd:o.data=.fields vs)(c:["enumerate","zip","dict_itemiterator","dict_reverseitemiterator","odict_iterator","itertools.zip_longest","itertools.pairwise"].contains n=false)(a:Q () s):A7 M A (letOwnedTupleGo tg (.ref it) u) Q E s:=by
 unfold letOwnedTupleGo;cases tg<;>first
  |exact ze a
  |(cases u<;>first
    |exact ze a
    |(refine zb (KB ho ?_)
      rw[b,hd];show A7 M A (if(["enumerate","zip","dict_itemiterator","dict_reverseitemiterator","odict_iterator","itertools.zip_longest","itertools.pairwise"].contains n&&vs[0]?==U (rawInt _))=true then _ else _) Q E s;rw[zw (by intro h;rw[c,KG]at h;cases h)];exact ze a))
def GV(K:B1)(a:A1):It:=
 ⟨λi H=>∃xs x,wJ K H a xs/\xs[i]?=U x,λi H x H'=>H'=H/\∀xs,wJ K H a xs->xs[i]?=U x,λi H=>∃xs,wJ K H a xs/\xs.length<=i⟩
def IM(K:B1)(a:A1):It:=
 ⟨λi H=>∃xs x,Cy K H a xs/\xs[i]?=U x,λi H x H'=>H'=H/\∀xs,Cy K H a xs->xs[i]?=U x,λi H=>∃xs,Cy K H a xs/\xs.length<=i⟩
def G0(lo:Int)(n:Nat):It:=⟨λi _=>i<n,λi H x H'=>H'=H/\x=.int (lo+i),λi _=>n<=i⟩
theorem XJ(a it:A1):C9 P w K tg (GV K a) [it] it (λi h=>h.IsListIter it a i) where
 mem:=by simp
 obj:=λi h st b hb=>by
  have e:b=it:=by simpa using hb
  subst e;obtain⟨o,e,c,d⟩:=st;exact⟨o,e,λv z=>by rw[d]at z;cases z⟩
 keep:=λi h h' st k=>st.at λo e=>k it (by simp) o e
 item:=by
  intro X q m y B i AN s σ H E I f st hg;subst q m y;obtain⟨xs,x,g,hx⟩:=hg;obtain⟨AQ,t,p,F⟩:=I.list g;obtain⟨u,J,C⟩:=t.get hx;obtain⟨f0,f1,f2,l,j,n⟩:=f it (by simp);refine wpAny_pyNext_list_item st p.isList (x:=u) (by simpa using J) λh' A G=>?_;have D:AU X AN σ H { s with heap:=h' }:=I.turned (t':=s.toks) (λb o hb e=>(G.2 b hb).trans e) f0 f1 l j n;obtain⟨o,e,c,d⟩:=id A;exact⟨u,rfl,K3 (s:={ s with heap:=h' }) e c d (by decide) ⟨x,H,D,C,⟨rfl,λys L=>by rw[I.Qm L g];exact hx⟩,A,λb hb=>(f b hb).1⟩⟩
 done:=by
  intro X q m y B i AN s σ H E I f st hg;subst q m y;obtain⟨xs,g,hx⟩:=hg;obtain⟨AQ,t,p,F⟩:=I.list g;obtain⟨f0,f1,f2,l,j,n⟩:=f it (by simp);have M:=t.length;exact wpAny_pyNext_list_end (I.ok.hd B) st p.isList (by simp;omega) λh' eb=>⟨rfl,I.turned (t':=s.toks) (λb o hb e=>eb b o hb e) f0 f1 l j n⟩
 self:=λ_ _ _ _ _ st h=>wpAny_pyIter_listiter st h
theorem TV(a it:A1):C9 P w K tg (IM K a) [it] it (λi h=>h.IsTupleIter it a i) where
 mem:=by simp
 obj:=λi h st b hb=>by
  have e:b=it:=by simpa using hb
  subst e;obtain⟨o,e,c,d⟩:=st;exact⟨o,e,λv z=>by rw[d]at z;cases z⟩
 keep:=λi h h' st k=>st.at λo e=>k it (by simp) o e
 item:=by
  intro X q m y B i AN s σ H E I f st hg;subst q m y;obtain⟨xs,x,g,hx⟩:=hg;obtain⟨AQ,t,p,F⟩:=I.tuple g;obtain⟨u,J,C⟩:=t.get hx;obtain⟨f0,f1,f2,l,j,n⟩:=f it (by simp);refine wpAny_pyNext_tuple_item st (show s.heap.IsTuple a AQ.toArray from p) (x:=u) (by simpa using J) λh' A G=>?_;have D:AU X AN σ H { s with heap:=h' }:=I.turned (t':=s.toks) (λb o hb e=>(G.2 b hb).trans e) f0 f1 l j n;obtain⟨o,e,c,d⟩:=id A;exact⟨u,rfl,K3 (s:={ s with heap:=h' }) e c d (by decide) ⟨x,H,D,C,⟨rfl,λys L=>by rw[I.K1 L g];exact hx⟩,A,λb hb=>(f b hb).1⟩⟩
 done:=by
  intro X q m y B i AN s σ H E I f st hg;subst q m y;obtain⟨xs,g,hx⟩:=hg;obtain⟨AQ,t,p,F⟩:=I.tuple g;obtain⟨f0,f1,f2,l,j,n⟩:=f it (by simp);have M:=t.length;exact wpAny_pyNext_tuple_end (I.ok.hd B) st (show s.heap.IsTuple a AQ.toArray from p) (by simp;omega) λh' eb=>⟨rfl,I.turned (t':=s.toks) (λb o hb e=>eb b o hb e) f0 f1 l j n⟩
 self:=λ_ _ _ _ _ st h=>wpAny_pyIter_tupleiter st h
theorem TX(it:A1)(lo:Int)(n:Nat):C9 P w K tg (G0 lo n) [it] it (λi h=>IsRangeIter h it (lo+(i:Nat)*1) ((n:Int)-(i:Nat)) 1) where
 mem:=by simp
 obj:=λi h st b hb=>by
  have e:b=it:=by simpa using hb
  subst e;exact⟨_,st,λv z=>by
   have u:Data.fields _=Data.cell v:=z;cases u⟩
 keep:=λi h h' st k=>k it (by simp) _ st
 item:=by
  intro X g m l f i AN s σ H E I a st hg;subst g m l;obtain⟨f0,f1,f2,d,c,j⟩:=a it (by simp);have W:=Walks.range (prog:=X.prog) (w:=X.w) (I.ok.hd f) it lo 1 n;refine W.item i s _ _ hg st λv h' tk q p kk=>?_;obtain⟨t,rfl⟩:=q;have x:AU X AN σ H { s with heap:=h',toks:=tk }:=I.turned (λb o hb e=>kk b o (by simpa using hb) e) f0 f1 d c j;refine⟨_,rfl,K3 (s:={ s with heap:=h',toks:=tk }) (n :="range_iterator") p S S (by decide) ⟨.int (lo+i),H,x,⟨t,?_⟩,⟨rfl,rfl⟩,p,λb hb=>(a b hb).1⟩⟩;rw[Int.mul_one]
 done:=by
  intro X g m l f i AN s σ H E I a st hg;subst g m l;obtain⟨f0,f1,f2,d,c,j⟩:=a it (by simp);exact wpAny_pyNext_range_end (I.ok.hd f) st (by have:n<=i:=hg;omega) λh' eb=>⟨rfl,I.turned (t':=s.toks) (λb o hb e=>eb b o hb e) f0 f1 d c j⟩
 self:=λ_ _ _ _ _ st h=>wpAny_pyIter_rangeiter st h
end L2
namespace L2
section
variable{X:Cx}
theorem ZQ{σ:St}{H:Hp}{R:It->Hp->Prop}{lo hi:Int}{t u v:Tok}{tk:Nat}(I:AU X AN σ H s)(h1 : -(2 ^ 62)<=lo)(h2:lo<2 ^ 62)(d : -(2 ^ 62)<=hi)(c:hi<2 ^ 62)(q:R (G0 lo (hi-lo).toNat) H):A7 (A8 X.prog X.w) X.A (pyIter (.ref s.heap.objs.size)) (Mk X AN σ tg R) E { s with heap:=s.heap.push { cls:=.type "range",data:=.fields #[.int lo t,.int hi u,.int 1 v] },toks:=tk }:=by
 refine wpAny_pyIter_range (IsRange.new ..) (small_one h1 h2 d c) ?_;have a:AU X AN σ H { s with heap:=s.heap.push { cls:=.type "range",data:=.fields #[.int lo t,.int hi u,.int 1 v] },toks:=tk }:=I.kept λb o e=>zd _ e;refine⟨(s.heap.push { cls:=.type "range",data:=.fields #[.int lo t,.int hi u,.int 1 v] }).objs.size,[(s.heap.push { cls:=.type "range",data:=.fields #[.int lo t,.int hi u,.int 1 v] }).objs.size],_,_,H,rfl,
  a.kept (t':=tk) λb o e=>zd _ e,TX _ lo (hi-lo).toNat,?_,λb hb=>?_,q⟩
 ·have e1:lo+((0:Nat):Int)*1=lo:=by simp
  have e2:(((hi-lo).toNat:Nat):Int)-((0:Nat):Int)=Builtin.Range.rangeSize lo hi 1:=by rw[rangeSize_one];split<;>omega
  show IsRangeIter _ _ (lo+((0:Nat):Int)*1) ((((hi-lo).toNat:Nat):Int)-((0:Nat):Int)) 1;rw[e1,e2];exact zv _ rfl
 ·have e:b=(s.heap.push { cls:=.type "range",data:=.fields #[.int lo t,.int hi u,.int 1 v] }).objs.size:=by simpa using hb
  subst e;exact a.ZP (zo _) (a.hok.fresh (zo _))
def S0(ta:TA):TI:=λσ H R=>ta σ H λvs H1=>∃j:Int,vs=[.int j] ∧ -(2 ^ 62)<=j/\j<2 ^ 62/\R (G0 0 j.toNat) H1
theorem XM{a:Expr}{ta:TA}{p:Pos}(hg:Gl X "range")(c:X.mg "range"=Y)(ha:PA X [a] ta)(hs:A9 [a] X.env=[(false,eval a X.env)]:=by rfl):PI X tg (.Call (.Name "range" p) [a] [] pos) (S0 ta):=by
 intro AN s σ H R I h;refine Call_ (Nf I hg c boot_range (PyProof.Rows.callWith_type1 (jc (ha pos AN s σ H _ I h) λus s1 ⟨vs,H1,I1,r1,q1⟩=>?_) hs S));obtain⟨j,e,q1,q2,q⟩:=q1;subst e;cases r1 with
 |cons r b=>
  cases b;obtain⟨t,rfl⟩:=r;exact call_range_1 (ZQ I1 (by omega) (by omega) q1 q2 (by simpa using q))
def XU(c:TI)(g:TG)(tb:TS):TS:=λD σ H=>c σ H λJ H1=>∃W:Nat->Nat->St->Hp->Prop,(∃m,W 0 m σ H1)/\∀i m σ H,W i m σ H →
 (J.stop i H/\D.nx σ H)\/(J.go i H/\∃N:St->Hp->Prop,(∀ σ' H',N σ' H'->∃a,a<m/\W (i+1) a σ' H')/\∀x H',J.yld i H x H'->g x σ H' λb H2=>tb { D with nx:=N,ct:=N,bk:=D.nx } b H2)
def CG(fp:Z A1)(h:A6):Z (A1×AE):=fp.filterMap λb=>(h.get? b).map λo=>(b,o)
theorem uL{b:A1}{o:AE}(hb:b∈fp)(e:h.get? b=U o):(b,o)∈CG fp h:=List.mem_filterMap.mpr ⟨b,hb,by rw[e];rfl⟩
theorem XQ{p:A1×AE}(hp:p∈CG fp h):p.1∈fp/\h.get? p.1=U p.2:=by
 obtain⟨b,hb,e⟩:=List.mem_filterMap.mp hp;cases q:h.get? b with
 |none=>rw[q]at e;cases e
 |some o=>
  rw[q]at e;have e':(b,o)=p:=Q2 e;subst e';exact⟨hb,q⟩
theorem AU.pinned{σ:St}{H:Hp}(I:AU X AN σ H s)(a:∀b∈fp,uK X AN H b)(ho:∀b∈fp,∃o,s.heap.get? b=U o/\∀v,o.data≠.cell v):AU X (AN++CG fp s.heap) σ H s:=
 I.Nb λp hp=>(List.mem_append.mp hp).elim (λz=>I.pin p (Zl _ z)) λz=>by
  obtain⟨hb,e⟩:=XQ z;obtain⟨f0,f1,f2,_⟩:=a p.1 hb;obtain⟨o,e',d⟩:=ho p.1 hb;rw[e]at e';cases e';exact⟨e,f0,f1,f2,d⟩
theorem AU.wL{pl:Z (A1×AE)}{σ:St}{H:Hp}(I:AU X (AN++pl) σ H s):AU X AN σ H s:=I.Nb λp hp=>I.pin p (Zl _ (zt _ hp))
theorem ZR{B:TI}{g:TG}{tb:TS}(hp:PassesOwn (A8 X.prog X.w) X.A X.env X.xe)(C:X.calm=true)(hi:PI X tg iter B)(hg:PG X tg g)(hb:TQ X body tb)(hs:∀x,foldedSetIterable iter X.env x=pure x:=by intro _;rfl):PS X (.For tg iter body [] pos) (XU B g tb):=by
 intro AN s σ H D I h;refine wpAny_For (jc (hi AN s σ H _ I h) λv s1 h1=>jc h1 λa1 s2 h2=>?_) hs;obtain⟨it,fp,tn,J,H2,e,I2,T,M,f2,W,⟨m0,w0⟩,turn⟩:=h2;subst e;have y:∀{H':Hp},(∀b∈fp,H' b=Y)->∀b∈fp,uK X AN H' b:=λhn b hb=>⟨hn b hb,(f2 b hb).2⟩;refine codeAny_forLoop_any (λn s'=>∃i σ' H',AU X AN σ' H' s'/\tn i s'.heap/\(∀b∈fp,H' b=Y)/\W i n σ' H') ?_ m0 ⟨0,σ,H2,I2,M,λb hb=>(f2 b hb).1,w0⟩;rintro n E ⟨i,p,t,F,K,G,Q⟩;rcases turn i n p t Q with⟨a0,qn⟩|⟨P,N,hN,step⟩
 ·refine km hp (jc (T.done X S S S C i AN E p t X.xe F (y G) K a0) λr s4 ⟨hr,I4⟩=>?_);subst hr;exact wpAny_execs_nil ⟨p,t,I4,qn⟩
 ·refine km hp (jc (T.item X S S S C i AN E p t X.xe F (y G) K P) λr s4 ⟨u,hr,h4⟩=>?_);subst hr;refine km hp (jc h4 λ_ s5 ⟨x,H5,I5,r5,y5,st5,fr5⟩=>?_);have L:=I5.pinned (y fr5) (T.obj _ _ st5);refine km hp (jc (hg _ s5 p H5 x u _ L r5 (step x H5 y5)) λ_ s6 ⟨σ6,H6,I6,q6⟩=>?_);refine km hp (jc (hb _ s6 σ6 H6 _ I6 q6) λf z l=>?_);have again:∀{j:St} {a:Hp},AU X (AN++CG fp s5.heap) j a z->N j a->∃m,m<n/\∃i σ' H',AU X AN σ' H' z/\tn i z.heap/\(∀b∈fp,H' b=Y)/\W i m σ' H':=λ{j a} c q=>by
   obtain⟨m',hm,w7⟩:=hN j a q;refine⟨m',hm,i+1,j,a,c.wL,T.keep _ _ _ st5 λb hb o e=>(c.pin (b,o) (Zl _ (Zl _ (uL hb e)))).1,λb hb=>?_,w7⟩;obtain⟨o,e,d⟩:=T.obj _ _ st5 b hb;exact(c.pin (b,o) (Zl _ (Zl _ (uL hb e)))).2.1
  cases f with
  |next=>obtain⟨j,a,c,q⟩:=l;exact again c q
  |cont=>obtain⟨j,a,c,q⟩:=l;exact again c q
  |brk=>obtain⟨j,a,c,l⟩:=l;exact⟨j,a,c.wL,l⟩
  |ret v=>obtain⟨x7,j,a,c,r7,l⟩:=l;exact⟨x7,j,a,c.wL,r7,l⟩
end
end L2
namespace L2
abbrev R2:=V->V->Hp->VK->Prop
def xX(X:Cx)(f:A0->A0->Sem A0)(r:R2):Prop:=
 ∀(AN:Z (A1×AE)) (s:A2) (σ:St) (H:Hp) (x y:V) (v u:A0) (Q:VK),AU X AN σ H s->Au x v->Au y u->r x y H Q →
  A7 (A8 X.prog X.w) X.A (f v u) (EP X AN σ Q) X.xe s
def DL(X:Cx)(f:A0->Sem A0)(r:V->Hp->VK->Prop):Prop:=
 ∀(AN:Z (A1×AE)) (s:A2) (σ:St) (H:Hp) (x:V) (v:A0) (Q:VK),AU X AN σ H s->Au x v->r x H Q →
  A7 (A8 X.prog X.w) X.A (f v) (EP X AN σ Q) X.xe s
def fZ(X:Cx)(f:A0)(r:Z V->Hp->VK->Prop):Prop:=
 ∀(AN:Z (A1×AE)) (s:A2) (σ:St) (H:Hp) (xs:Z V) (us:Z A0) (Q:VK),AU X AN σ H s->AX xs us->r xs H Q →
  A7 (A8 X.prog X.w) X.A (call f us) (EP X AN σ Q) X.xe s
def cy(X:Cx)(r:V->Hp->(Bool->Hp->Prop)->Prop):Prop:=
 ∀(AN:Z (A1×AE)) (s:A2) (σ:St) (H:Hp) (x:V) (v:A0) (Q:Bool->Hp->Prop),AU X AN σ H s->Au x v->r x H Q →
  A7 (A8 X.prog X.w) X.A (truthy v) (TP X AN σ Q) X.xe s
def FM(r:R2)(ta tb:TE):TE:=λσ H Q=>ta σ H λx H1=>tb σ H1 λy H2=>r x y H2 Q
def LM(r:V->Hp->VK->Prop)(ta:TE):TE:=λσ H Q=>ta σ H λx H1=>r x H1 Q
def rI(C:Int->Int->Prop)(g:Int->Int->V):R2:=λx y H Q=>∃i j,x=.int i/\y=.int j/\C i j/\Q (g i j) H
def De(g:Int->Int->V):R2:=λx y H Q=>∃i j,x=.int i/\y=.int j/\Q (g i j) H
def rU(g:Int->V):V->Hp->VK->Prop:=λx H Q=>∃i,x=.int i/\Q (g i) H
section
variable{X:Cx}{a b:Expr}{ta tb tc:TE}
theorem ID(ha:PE X a ta)(hb:PE X b tb){σ:St}{H:Hp}{R:V->V->Hp->Prop}(I:AU X AN σ H s)(h:ta σ H λx H1=>tb σ H1 λy H2=>R x y H2){Q:BA}{f:A0->A0->Sem A0}(d:∀v u c x y H2,AU X AN σ H2 c->Au x v->Au y u->R x y H2->A7 (A8 X.prog X.w) X.A (f v u) Q X.xe c):
  A7 (A8 X.prog X.w) X.A (eval a X.env) (λv e=>A7 (A8 X.prog X.w) X.A (eval b X.env) (λu g=>A7 (A8 X.prog X.w) X.A (f v u) Q X.xe g) X.xe e) X.xe s:=by
 refine jc (ha AN s σ H _ I h) λv s1 ⟨x,H1,I1,r1,q1⟩=>?_;refine jc (hb AN s1 σ H1 _ I1 q1) λu c ⟨y,H2,I2,r2,q2⟩=>?_;exact d v u c x y H2 I2 r1 r2 q2
theorem S3{op:Operator}{r:R2}(ho:xX X (binaryOp op) r)(ha:PE X a ta)(hb:PE X b tb):PE X (.BinOp a op b pos) (FM r ta tb):=by
 intro AN s σ H Q I h;exact wpAny_BinOp (ID ha hb I h λv u e x y H2 c f d q=>ho AN e σ H2 x y v u Q c f d q)
theorem VM{op:UnaryOp}{r:V->Hp->VK->Prop}(ho:DL X (unaryOp op) r)(ha:PE X a ta):PE X (.UnaryOp op a pos) (LM r ta):=by
 intro AN s σ H Q I h;exact UnaryOp_ (jc (ha AN s σ H _ I h) λv s1 ⟨x,H1,I1,r1,q1⟩=>ho AN s1 σ H1 x v Q I1 r1 q1)
theorem FU{f:A0->A0->Sem A0}{C:Int->Int->Prop}{g:Int->Int->Int}
  (d:∀(i j:Int) (t u:Tok) (s:A2) (Q:BA) (E:BA),C i j->Q (.int (g i j) s.toks) { s with toks:=s.toks+1 }->A7 (A8 X.prog X.w) X.A (f (.int i t) (.int j u)) Q E s):
  xX X f (rI C λi j=>.int (g i j)):=by
 intro AN s σ H x y v u Q I b e h;obtain⟨i,j,rfl,rfl,c,q⟩:=h;obtain⟨t,rfl⟩:=b;obtain⟨a,rfl⟩:=e;exact d i j t a s _ _ c ⟨.int (g i j),H,I.tok _,⟨_,rfl⟩,q⟩
theorem MM{f:A0->A0->Sem A0}{g:Int->Int->Int}
  (c:∀(i j:Int) (t u:Tok) (s:A2) (Q:BA) (E:BA),Q (.int (g i j) s.toks) { s with toks:=s.toks+1 }->A7 (A8 X.prog X.w) X.A (f (.int i t) (.int j u)) Q E s):
  xX X f (De λi j=>.int (g i j)):=by
 intro AN s σ H x y v u Q I d b h;obtain⟨i,j,rfl,rfl,q⟩:=h;obtain⟨t,rfl⟩:=d;obtain⟨a,rfl⟩:=b;exact c i j t a s _ _ ⟨.int (g i j),H,I.tok _,⟨_,rfl⟩,q⟩
theorem GH{f:A0->A0->Sem A0}{g:Int->Int->Bool}
  (c:∀(i j:Int) (t u:Tok) (s:A2) (Q:BA) (E:BA),Q (.bool (g i j)) s->A7 (A8 X.prog X.w) X.A (f (.int i t) (.int j u)) Q E s):
  xX X f (De λi j=>.bl (g i j)):=by
 intro AN s σ H x y v u Q I d b h;obtain⟨i,j,rfl,rfl,q⟩:=h;obtain⟨t,rfl⟩:=d;obtain⟨a,rfl⟩:=b;exact c i j t a s _ _ ⟨.bl (g i j),H,I,rfl,q⟩
def c5(i j:Int):Prop:=0<j/\j<1073741824
def Sa(i j:Int):Prop:=0<=j/\j<=1000000/\i.natAbs<2 ^ 64
def II(i j:Int):Prop:=(-(2 ^ 64)<i/\i<2 ^ 64)\/(-(2 ^ 64)<j/\j<2 ^ 64)
theorem II.ok{i j:Int}(h:II i j):IntMulOk i j:=by
 rcases h with⟨h1,h2⟩|⟨h1,h2⟩
 ·exact .of_left (intBits_le_64 h1 h2)
 ·exact .of_right (intBits_le_64 h1 h2)
theorem fT:xX X (binaryOp .Add) (De λi j=>.int (i+j)):=MM λ_ _ _ _ _ _ _ q=>add_int q
theorem az:xX X (binaryOp .Sub) (De λi j=>.int (i-j)):=MM λ_ _ _ _ _ _ _ q=>sub_int q
theorem YE:xX X (binaryOp .Mult) (rI II λi j=>.int (i*j)):=FU λ_ _ _ _ _ _ _ a q=>mul_int q a.ok
theorem Y':xX X (binaryOp .FloorDiv) (rI c5 λi j=>.int (i / j)):=FU λi j _ _ _ _ _ a q=>by
 have h1:(0:Int)<j:=a.1;have h2:j<1073741824:=a.2;exact floordiv_int (by omega) (by rw[Int.fdiv_eq_ediv_of_nonneg i (by omega)];exact q) (.inl (PyProof.noPylong_small (by omega)))
theorem VW:xX X (binaryOp .Mod) (rI (λ_ j=>0<j) λi j=>.int (i%j)):=FU λi j _ _ _ _ _ a q=>by
 have h1:(0:Int)<j:=a;exact mod_int' (by omega) (by rw[Int.fmod_eq_emod_of_nonneg i (by omega)];exact q)
theorem ac:xX X (binaryOp .Pow) (rI Sa λi j=>.int (i ^ j.toNat)):=FU λ_ _ _ _ _ _ _ a q=>pow_int_small a.1 a.2.1 a.2.2 q
theorem TW{f:A0->Sem A0}{g:Int->Int}
  (a:∀(i:Int) (t:Tok) (s:A2) (Q:BA) (E:BA),Q (.int (g i) s.toks) { s with toks:=s.toks+1 }->A7 (A8 X.prog X.w) X.A (f (.int i t)) Q E s):
  DL X f (rU λi=>.int (g i)):=by
 intro AN s σ H x v Q I b h;obtain⟨i,rfl,q⟩:=h;obtain⟨t,rfl⟩:=b;exact a i t s _ _ ⟨.int (g i),H,I.tok _,⟨_,rfl⟩,q⟩
theorem Tl:DL X (unaryOp .USub) (rU λi=>.int (-i)):=TW λ_ _ _ _ _ q=>neg_int q
theorem TY{σ:St}{H:Hp}{Q:VK}{k a:Bool}(I:AU X AN σ H s)(q:Q (.bl k) H)(e:k=a):EP X AN σ Q (.bool a) s:=by
 subst e;exact⟨.bl k,H,I,rfl,q⟩
theorem Z':xX X (AG .Lt) (De λi j=>.bl (decide (i<j))):=GH λ_ _ _ _ _ _ _ q=>lt_int q
theorem Pv:xX X (AG .LtE) (De λi j=>.bl (decide (i<=j))):=GH λ_ _ _ _ _ _ _ q=>le_int q
theorem UT:xX X (AG .Gt) (De λi j=>.bl (decide (j<i))):=GH λ_ _ _ _ _ _ _ q=>gt_int q
theorem aa:xX X (AG .GtE) (De λi j=>.bl (decide (j<=i))):=GH λ_ _ _ _ _ _ _ q=>ge_int q
theorem XR:xX X (AG .In) (λx y H Q=>∃i j,x=.str i/\y=.str j/\Q (.bl (!(Builtin.Str.occurrences j i 0 j.length 1).isEmpty)) H):=by
 intro AN s σ H x y v u Q I b a h;obtain⟨i,j,rfl,rfl,q⟩:=h;obtain⟨t,rfl⟩:=b;obtain⟨c,rfl⟩:=a;exact in_str (TY I q S)
theorem SW:xX X (AG .Is) (λx y H Q=>y=.non/\Q (.bl (decide (x=.non))) H):=by
 intro AN s σ H x y v u Q I a b h;obtain⟨rfl,q⟩:=h;cases b;refine is_none_gen (TY I q ?_);cases x<;>first
  |(cases a;rfl)
  |(obtain⟨t,rfl⟩:=a;rfl)
theorem TN:xX X (AG .IsNot) (λx y H Q=>y=.non/\Q (.bl (!decide (x=.non))) H):=by
 intro AN s σ H x y v u Q I a b h;obtain⟨rfl,q⟩:=h;cases b;refine isnot_none_gen (TY I q ?_);cases x<;>first
  |(cases a;rfl)
  |(obtain⟨t,rfl⟩:=a;rfl)
theorem cj(b:Expr)(h:op≠.In:=by decide)(h2:op≠.NotIn:=by decide):behindInMarks op b=false:=by
 have e1:(op==CmpOp.In)=false:=by cases op<;>first|rfl|exact absurd S h
 have e2:(op==CmpOp.NotIn)=false:=by cases op<;>first|rfl|exact absurd S h2
 cases b<;>simp[behindInMarks,e1,e2]
theorem gh{r:R2}(ho:xX X (AG op) r)(ha:PE X a ta)(hb:PE X b tb)(e:behindInMarks op b=false):PE X (.Compare a [op] [b] pos) (FM r ta tb):=by
 intro AN s σ H Q I h;exact wpAny_Compare1 (ID ha hb I h λv u c x y H2 f d g q=>ho AN c σ H2 x y v u Q f d g q) e
def SZ(t:TE):TT:=λσ H Q=>t σ H λx H'=>∃k,x=.bl k/\Q k H'
theorem T1{r:R2}(ho:xX X (AG op) r)(ha:PE X a ta)(hb:PE X b tb)(d:behindInMarks op b=false):PT X (.Compare a [op] [b] pos) (SZ (FM r ta tb)):=by
 intro AN s σ H Q I h;refine wpAny_isTrue_Compare1 (jc (ha AN s σ H _ I h) λv s1 ⟨x,H1,I1,r1,q1⟩=>jc (hb AN s1 σ H1 _ I1 q1) λu s2 ⟨y,H2,I2,r2,q2⟩=>
  jc (ho AN s2 σ H2 x y v u _ I2 r1 r2 q2) λc s3 ⟨z,H3,I3,r3,k,e,q3⟩=>?_) d
 subst e;cases r3;exact ja ⟨H3,I3,q3⟩
def ZS(r d:R2)(ta tb tc:TE):TE:=λσ H Q=>ta σ H λx H1=>tb σ H1 λy H2=>r x y H2 λz a=>∃k,z=.bl k ∧
 (if k=true then tc σ a λc b=>d y c b Q else Q (.bl false) a)
theorem ZV{f:CmpOp}{r g:R2}(ho:xX X (AG op) r)(j:xX X (AG f) g)(ha:PE X a ta)(hb:PE X b tb)(i:PE X c tc)(l:lastMarks [op,f] [b,c]=false:=by with_unfolding_all rfl):PE X (.Compare a [op,f] [b,c] pos) (ZS r g ta tb tc):=by
 intro AN s σ H Q I h;refine Compare_chain (jc (ha AN s σ H _ I h) λv s1 ⟨x,H1,I1,r1,q1⟩=>chain_link (jc (hb AN s1 σ H1 _ I1 q1) λu s2 ⟨y,H2,I2,r2,q2⟩=>
  jc (ho AN s2 σ H2 x y v u _ I2 r1 r2 q2) λd s3 ⟨z,H3,I3,r3,k,e,q3⟩=>?_)) l
 subst e;cases r3;refine ja ?_;cases k with
 |false=>exact ite_ff ⟨.bl false,H3,I3,rfl,q3⟩
 |true=>exact ite_tt (chain_last (jc (i AN s3 σ H3 _ I3 q3) λw' s4 ⟨z',H4,I4,r4,q4⟩=>j AN s4 σ H4 y z' u w' Q I4 r2 r4 q4))
def He(K:B1)(x:V)(H:Hp)(k:Bool):Prop:=
 match x with
 |.non=>k=false
 |.bl b=>k=b
 |.int i=>k=(i != 0)
 |.str y=>y.length<=AA/\k=((y.length:Int) != 0)
 |.byt y=>y.size<=AA/\k=((y.size:Int) != 0)
 |.ref p=>(∃xs,wJ K H p xs/\k=!xs.isEmpty)\/(∃xs,Cy K H p xs/\k=!xs.isEmpty)\/∃AO,H p=U (.dK AO)/\k=!AO.isEmpty
 |_=>False
theorem T3{AO:Z (κ×V)}{vs:Z (κ×A0)}(r:KV AO vs):(!vs.isEmpty)=!AO.isEmpty:=by
 cases r<;>rfl
theorem G6{xs:Z V}(r:AX xs AQ):(!AQ.toArray.isEmpty)=!xs.isEmpty:=by
 cases r<;>simp
theorem CJ:(AA:Nat)<2 ^ 63:=by rw[sizeLine_eq];decide
theorem Pe:cy X (λx H Q=>∃k,He X.K x H k/\Q k H):=by
 intro AN s σ H x v Q I a h;obtain⟨k,e,q⟩:=h;have j:=CJ;have hs:AA=16777216:=sizeLine_eq;cases x with
 |non=>
  cases a;have e':k=false:=e;subst e';exact truthy_none ⟨H,I,q⟩
 |bl b=>
  cases a;have e':k=b:=e;subst e';exact ja ⟨H,I,q⟩
 |int i=>
  obtain⟨t,rfl⟩:=a;have e':k=(i != 0):=e;subst e';exact PySem.P.truthy_int ⟨H,I,q⟩
 |str y=>
  obtain⟨t,rfl⟩:=a;obtain⟨g,e'⟩:y.length<=AA/\k=((y.length:Int) != 0):=e;subst e';exact PySem.P.truthy_str (by omega) ⟨H,I.tok _,q⟩
 |byt y=>
  obtain⟨t,rfl⟩:=a;obtain⟨g,e'⟩:y.size<=AA/\k=((y.size:Int) != 0):=e;subst e';exact PySem.W.truthy_bytes (by omega) ⟨H,I.tok _,q⟩
 |ref p=>
  cases a;have e':(∃xs,wJ X.K H p xs/\k=!xs.isEmpty)\/(∃xs,Cy X.K H p xs/\k=!xs.isEmpty)\/∃AO,H p=U (.dK AO)/\k=!AO.isEmpty:=e;rcases e' with⟨xs,hx,e'⟩|⟨xs,hx,e'⟩|⟨AO,hx,e'⟩
  ·subst e';obtain⟨AQ,r,pl,d⟩:=I.list hx;have c:=r.length;exact wpAny_truthy_list pl.isList (by simp only[zC];omega) ⟨H,I.tok _,by rw[G6 r];exact q⟩
  ·subst e';obtain⟨AQ,r,pl,d⟩:=I.tuple hx;have c:=r.length;exact truthy_tuple pl (by simp only[zC];omega) ⟨H,I.tok _,by rw[G6 r];exact q⟩
  ·subst e';obtain⟨d,f,vs,r,m⟩:AO.length<=AA/\(p==sysModules)=false/\∃vs,KV AO vs/\s.heap.DictOf (bw X.prog X.w) p vs:=I.hok p _ hx;have c:AO.length=vs.length:=Paired.length r;exact wpAny_truthy_dict f m (by omega) ⟨H,I.tok _,by rw[T3 r];exact q⟩
 |_=>exact(show False from e).elim
theorem ZW(ha:PE X a ta)(he:∀b,isTrue a X.env b=(do let v <-b;standAt a.pos;holding [v] (truthy v))):
  PT X a (λσ H Q=>ta σ H λx H'=>∃k,He X.K x H' k/\Q k H'):=by
 intro AN s σ H Q I h;exact isTrue_plain (jc (ha AN s σ H _ I h) λv s1 ⟨x,H1,I1,r1,q1⟩=>Pe AN s1 σ H1 x v Q I1 r1 q1) (he _)
theorem T4:xX X (binaryOp .Add) (λx y H Q=>∃i j,x=.str i/\y=.str j/\i.length+j.length<=AA/\Q (.str (i++j)) H):=by
 intro AN s σ H x y v u Q I d c h;obtain⟨i,j,rfl,rfl,a,q⟩:=h;obtain⟨t,rfl⟩:=d;obtain⟨b,rfl⟩:=c;exact add_str (λb tk=>⟨.str (i++j),H,I.tok _,⟨_,rfl⟩,q⟩) a
theorem BE{x:V}(r:AX [x] us):∃u,us=[u]/\Au x u:=by
 cases r with
 |cons b a=>cases a;exact⟨_,rfl,b⟩
theorem CD{x y:V}(r:AX [x,y] us):∃u a,us=[u,a]/\Au x u/\Au y a:=by
 cases r with
 |cons b e=>
  cases e with
  |cons d c=>cases c;exact⟨_,_,rfl,b,d⟩
theorem ZX:fZ X (.builtin "abs") (λxs H Q=>∃i,xs=[.int i]/\Q (.int (if i<0 then -i else i)) H):=by
 intro AN s σ H xs us Q I r h;obtain⟨i,rfl,q⟩:=h;obtain⟨u,rfl,t,rfl⟩:=BE r;exact call_abs_int λu tk=>⟨.int (if i<0 then -i else i),H,I.tok _,⟨_,rfl⟩,q⟩
theorem XS:fZ X (.type "int") (λxs H Q=>(∃i,xs=[.int i]/\Q (.int i) H)\/∃k,xs=[.bl k]/\Q (.int (if k then 1 else 0)) H):=by
 intro AN s σ H xs us Q I r h;rcases h with⟨i,rfl,q⟩|⟨k,rfl,q⟩
 ·obtain⟨u,rfl,t,rfl⟩:=BE r;exact call_int_int ⟨.int i,H,I,⟨_,rfl⟩,q⟩
 ·obtain⟨u,rfl,a⟩:=BE r;cases a;exact call_int_bool ⟨.int (if k then 1 else 0),H,I.tok _,⟨_,rfl⟩,q⟩
end
end L2
namespace L2
structure UQ (h:Heap) (x dx C:Addr) (mA:Str->Option Value):Prop where
 obj:h.get? x=some (instObj C dx)
 ns:h.Ns1 dx mA
 ne:dx≠x
section
variable{x dx f:A1}{mA:AJ->O A0}{v:A0}
end
theorem G4.some_of{v:V}{o:O A0}(r:G4 (U v) o):∃u,o=U u/\Au v u:=by
 cases o with
 |none=>exact(show False from r).elim
 |some u=>exact⟨u,rfl,r⟩
section
variable{H H':Hp}{h':A6}{dx:A1}{fs fs':Z (AJ×V)}
theorem Gq(c:zW P w H h)(e:H a=U (.ins C dx fs)):∃mA,UQ h a dx C mA/\(∀f,G4 (fs.lookup f) (mA f))/\PySem.Within mA (fs.map (·.1))/\fs.length<=1000/\H dx=U (.own a):=by
 obtain⟨d,z,ne,b,mA,n,r,q⟩:=(show iD P w H h a (.ins C dx fs) from c a _ e);exact⟨mA,⟨b,n,ne⟩,r,q,z,d⟩
end
structure gO (K:B1) (C:Addr) (f:Str) (v:V) (u:Value):Prop where
 at_:PySem.W.findIn K (.ref C) f=some (some u)
 rel:Au v u
 get:PySem.W.specialIn K u "__get__"=some none
 cp:PySem.W.copiedNames.contains f=false
section
variable{X:Cx}{σ:St}{H:Hp}{dx:A1}{fs:Z (AJ×V)}{f:AJ}{v:V}
end
section
variable{X:Cx}{o value:Expr}{f:AJ}{pos':Pos}{ta tv:TE}
end
section
variable{X:Cx}{σ:St}{H:Hp}{Q:BA}{c:A0}{b:Bool}
end
end L2
namespace L2
structure nR (k:Nat) (A:Around):Prop where
 hd:A.handled=none
 dp:A.depth+3*k+5<recursionLimit
 un:A.units+16*k+200<cLine
theorem nR.mono{k:Nat}(r:nR k A)(h:j<=k):nR j A:=⟨r.hd,by have:=r.dp;omega,by have:=r.un;omega⟩
theorem nR.deeper{k:Nat}(r:nR (k+1) A)(env:Env):nR k (A.deeper env):=
 ⟨r.hd,by have:=r.dp;show A.depth+1+3*k+5<_;omega,by have:=r.un;show A.units+3+16*k+200<_;omega⟩
theorem nR.depth{k:Nat}(r:nR k A):A.depth<recursionLimit:=by have:=r.dp;omega
def Z0:TA:=λ_ H Q=>Q [] H
def zY(ta:TE)(a:TA):TA:=λσ H Q=>ta σ H λx H1=>a σ H1 λxs H2=>Q (x::xs) H2
section
variable{X:Cx}{te:TE}{t:TA}
theorem tL:PA X [] Z0:=λ_ _ _ _ H Q I h=>Calls.spliced_nil ⟨[],H,I,.nil,h⟩
theorem gP(ha:PE X e te)(a:PA X es t)(hs:A9 (e::es) X.env=(false,eval e X.env)::A9 es X.env:=by rfl):PA X (e::es) (zY te t):=by
 intro pos AN s σ H Q I h;rw[hs];show A7 _ _ (spliced ((false,eval e X.env)::AD pos (A9 es X.env))) _ _ s;refine Calls.spliced_cons (jc (ha AN s σ H _ I h) λu s1 ⟨x,H1,I1,r1,q1⟩=>?_);exact jc (a pos AN s1 σ H1 _ I1 q1) λus s2 ⟨xs,H2,I2,r2,q2⟩=>⟨x::xs,H2,I2,.cons r1 r2,q2⟩
def g4(t:TA):TE:=λσ H Q=>t σ H λxs H1=>xs.length<=AA/\∀p,H1 p=Y->Q (.ref p) (B6 H1 p (.tup xs))
def YN(t:TA):TE:=λσ H Q=>t σ H λxs H1=>xs.length<=AA/\∀p,H1 p=Y->Q (.ref p) (B6 H1 p (.lst xs))
theorem PM{x1}(h:PA X es t):PE X (.Tuple es x1 pos) (g4 t):=by
 intro AN s σ H Q I c;refine wpAny_Tuple_spliced (jc (h pos AN s σ H _ I c) λus s1 ⟨xs,H1,I1,r,z,q⟩=>⟨by rw[<-r.length];exact z,?_⟩);have a:H1 s1.heap.objs.size=Y:=I1.hok.fresh (zo _);refine⟨.ref s1.heap.objs.size,B6 H1 s1.heap.objs.size (.tup xs),I1.laid (t':=s1.toks) (λb u e=>zd _ e) (zo _) ?_,rfl,q _ a⟩;exact⟨z,us,r,⟨_,zv _ rfl,rfl,⟨_,rfl⟩,rfl⟩⟩
theorem YV(h:PA X es t):PE X (.List es pos) (YN t):=by
 intro AN s σ H Q I c;refine wpAny_List_spliced (jc (h pos AN s σ H _ I c) λus s1 ⟨xs,H1,I1,r,z,q⟩=>⟨by rw[<-r.length];exact z,?_⟩);have a:H1 s1.heap.objs.size=Y:=I1.hok.fresh (zo _);refine⟨.ref s1.heap.objs.size,B6 H1 s1.heap.objs.size (.lst xs),I1.laid (t':=s1.toks) (λb u e=>zd _ e) (zo _) ?_,rfl,q _ a⟩;exact⟨z,us,0,r,zv _ rfl⟩
end
abbrev Sp:=Z V->Hp->VK->XK->Prop
abbrev Zt:=Z Env->Hp->A2->XK->A0->A2->Prop
structure GS (P:Program) (w:World) (K:B1) (mg:Str->Option Value) (base:Heap) (A:Around) (outer:List Env) (s:Shared) (H:Hp):Prop where
 frames:A.frames=some outer
 mod:Mod K mg base
 bs:∀b o,base.get? b=some o->s.heap.get? b=some o/\H b=none
 bsz:base.objs.size<=s.heap.objs.size
 G5:s.heap.FunFrames base outer
 frf:∀b∈Cf outer,H b=none
 hok:zW P w H s.heap
 bare:AllBare s.gens
def CE(outer:Z Env)(P:A3)(w:A4)(H:Hp)(s:A2)(Q:VK)(u:A0)(s':A2):Prop:=
 ∃v H',s'.os=s.os/\AllBare s'.gens/\Un (Cf outer) [] H H' s.heap s'.heap/\zW P w H' s'.heap/\Au v u/\Q v H'
def CR(CX:Zt)(outer:Z Env)(P:A3)(w:A4)(H:Hp)(s:A2)(Q:VK)(E:XK)(r:Result)(s':A2):Prop:=
 match r with
 |.ok (.ret u)=>CE outer P w H s Q u s'
 |.ok _=>False
 |.error e=>CX outer H s E e s'
structure wM (P:Program) (w:World) (K:B1) (mg:Str->Option Value) (base:Heap) (CX:Zt) (k:Nat) (f:Addr) (fd:FuncData) (ps:AZ) (sp:Sp):Prop where
 len:∀vs H Q E,sp vs H Q E->vs.length=ps.length
 run:∀(A:Around) (outer:List Env) (s:Shared) (H:Hp) (args:Args) (us:List Value) (vs:List V) (Q:VK) (E:XK),nR k A->GS P w K mg base A outer s H->BindsTo s fd args (ps.zip us)->AX vs us->sp vs H Q E →
  codeAny (model P w) A (.call (.ref f) args) (CR CX outer P w H s Q E) s
section
variable{X:Cx}{σ:St}{H:Hp}{s':A2}
theorem AU.env0(I:AU X AN σ H s):GS X.prog X.w X.K X.mg X.base X.A X.stack s H:=
 ⟨I.ok.frames,I.ok.mod,I.bs,ZA I.ok.bsz I.sz,I.stack,I.V3,I.hok,I.bare⟩
theorem AU.after{Q:VK}(I:AU X AN σ H s)(h:CE X.stack X.prog X.w H s Q u s'):EP X AN σ Q u s':=by
 obtain⟨v,H',os,c,un,f,r,q⟩:=h;obtain⟨e,g,d,t,a⟩:=s';obtain rfl:a=s.os:=os;exact⟨v,H',I.call (h':=e) (g':=g) (d':=d) (t':=t) (ch:=[]) un f c (λb z=>absurd z (by simp)),r,q⟩
end
def de(sp:Sp)(dvs:Z V)(E:XK)(t:TA):TE:=λσ H Q=>t σ H λvs H1=>sp (vs++dvs) H1 Q E
def BT(K:B1)(fd:FuncData)(ps:AZ)(ds:Z A0):Prop:=
 ∀(s:A2) (us:Z A0),K.In s.heap->(us++ds).length=ps.length->BindsTo s fd ⟨us,[]⟩ (ps.zip (us++ds))
theorem BT.all(h:∀us:Z A0,us.length=ps.length->bindArgs fd ⟨us,[]⟩=pure (ps.zip us)):BT K fd ps []:=λs us _ a=>by
 rw[ZT]at a ⊢;exact .of_eq (h us a)
def C6(CX:Zt)(X:Cx)(E:XK):Prop:=∀(AN:Z (A1×AE)) (σ:St) (H:Hp) (s:A2) (e:A0) (s':A2),AU X AN σ H s->CX X.stack H s E e s'->X.xe e s'
section
variable{X:Cx}{CX:Zt}{k:Nat}{f:A1}{sp:Sp}{dvs:Z V}{ds:Z A0}{E:XK}{m:AJ}{p:Pos}{o:Expr}{ta:TE}{t:TA}
theorem TM{σ:St}{H:Hp}{Q:VK}{vs:Z V}(F:wM X.prog X.w X.K X.mg X.base CX k f fd ps sp)(d:nR k X.A)(hb:BT X.K fd ps ds)(hd:AX dvs ds)(hx:C6 CX X E)(I:AU X AN σ H s)(r:AX vs us)(h:sp (vs++dvs) H Q E):A7 (A8 X.prog X.w) X.A (call (.ref f) us) (EP X AN σ Q) X.xe s:=by
 have b:AX (vs++dvs) (us++ds):=r.append hd;have c:(us++ds).length=ps.length:=by rw[<-b.length];exact F.len _ _ _ _ h
 refine wpAny_call (codeAny_mono (F.run X.A X.stack s H ⟨us,[]⟩ (us++ds) (vs++dvs) Q E d I.env0 (hb s us I.kIn c) b h) λr s' a=>?_);cases r with
 |error e=>exact hx AN σ H s e s' I a
 |ok fl=>
  cases fl with
  |ret u=>exact I.after a
  |next=>exact False.elim a
  |brk=>exact False.elim a
  |cont=>exact False.elim a
theorem V7(F:wM X.prog X.w X.K X.mg X.base CX k f fd ps sp)(c:nR k X.A)(hg:Gl X x)(d:X.mg x=U (.ref f))(a:keepIn X.K (.ref f)=true)(hb:BT X.K fd ps ds)(hd:AX dvs ds)(hx:C6 CX X E)
  (ha:PA X (e::es) t) (b:(x==("__debug__":AJ))=false:=by decide) (he:A9 (e::es) X.env=(false,eval e X.env)::A9 es X.env:=by rfl) (g:(AD pos (A9 es X.env)).any (·.1)=false:=by rfl):
  PE X (.Call (.Name x p) (e::es) [] pos) (de sp dvs E t):=by
 intro AN s σ H Q I h;refine wpAny_Call_Name_kw (V4 I hg d ?_ b);refine PySem.W.callWith_K (h₀:=X.base) I.ok.mod.kin a (jc (ha pos AN s σ H _ I h) λus s1 ⟨vs,H1,I1,r,q⟩=>⟨I1.kIn,?_⟩) he g;exact TM F c hb hd hx I1 r q
end
section
variable{X:Cx}{CX:Zt}{k:Nat}{f:A1}{ks:AZ}{sp:Sp}{E:XK}{m:AJ}{p kpos:Pos}{o:Expr}{kws:Z AC}{te ta:TE}{t tk:TA}{nm:O AJ}
variable{g:Z A0->Z A0->Z A0}{gV:Z V->Z V->Z V}
end
structure bx (N P:AZ) (sc:Scope):Prop where
 kind:sc.kind=.function
 co:sc.isCoroutine=false
 gen:sc.isGenerator=false
 nd:N.Nodup
 pre:N.take P.length=P
 par:∀x∈P,sc.names.lookup x=some .local\/sc.names.lookup x=some .cell
 agf:∀y∈sc.names,y.2≠.free
theorem K4{b:AJ->O NameKind}{x:AJ}:∀{binds:Z (AJ×A0)} {m:AJ->O A0},(∀v,(x,v)∉binds)->bindL b binds m x=m x
 |[],_,_=>rfl
 |(n,v)::r,m,h=>by
  unfold bindL;rw[K4 λw a=>h w (zi _ a)];split
  ·have:x≠n:=by rintro rfl;exact h v zg
   simp[this]
  ·rfl
theorem K5{b:AJ->O NameKind}{x:AJ}:∀{binds:Z (AJ×A0)} {m:AJ->O A0},(∀v,(x,v)∉binds)->bindC b binds m x=m x
 |[],_,_=>rfl
 |(n,v)::r,m,h=>by
  unfold bindC;rw[K5 λw a=>h w (zi _ a)];split
  ·rfl
  ·have:x≠n:=by rintro rfl;exact h v zg
   simp[this]
theorem K6{a:AJ->O NameKind}{x:AJ}{v:A0}:∀{P:AZ} {vs:Z A0} {i:Nat} {m:AJ->O A0},P.Nodup->P[i]?=U x->vs[i]?=U v->a x=U .local →
  bindL a (P.zip vs) m x=U v
 |[],_,_,_,_,h,_,_=>by simp at h
 |_::_,[],_,_,_,_,h,_=>by simp at h
 |p::P,w::vs,0,m,nd,h1,h2,hk=>by
  simp at h1 h2;subst h1;subst h2;show bindL a ((p,w)::P.zip vs) m p=_;unfold bindL;rw[K4 λv b=>(List.nodup_cons.mp nd).1 (List.of_mem_zip b).1,zk hk];simp
 |p::P,w::vs,i+1,m,nd,h1,h2,hk=>by
  show bindL a ((p,w)::P.zip vs) m x=_;unfold bindL;exact K6 (i:=i) (List.nodup_cons.mp nd).2 (by simpa using h1) (by simpa using h2) hk
theorem K7{a:AJ->O NameKind}{x:AJ}{v:A0}:∀{P:AZ} {vs:Z A0} {i:Nat} {m:AJ->O A0},P.Nodup->P[i]?=U x->vs[i]?=U v->a x≠U .local →
  bindC a (P.zip vs) m x=U v
 |[],_,_,_,_,h,_,_=>by simp at h
 |_::_,[],_,_,_,_,h,_=>by simp at h
 |p::P,w::vs,0,m,nd,h1,h2,hk=>by
  simp at h1 h2;subst h1;subst h2;show bindC a ((p,w)::P.zip vs) m p=_;unfold bindC;rw[K5 λv b=>(List.nodup_cons.mp nd).1 (List.of_mem_zip b).1,zw hk];simp
 |p::P,w::vs,i+1,m,nd,h1,h2,hk=>by
  show bindC a ((p,w)::P.zip vs) m x=_;unfold bindC;exact K7 (i:=i) (List.nodup_cons.mp nd).2 (by simpa using h1) (by simpa using h2) hk
def start(N:AZ)(vs:Z V):St:=vs.map U++List.replicate (N.length-vs.length) Y
def G7(CX:Zt)(P:A3)(w:A4)(K:B1)(mg:AJ->O A0)(base:A6)(N:AZ)(qual:AJ)(scope:Scope)(f:A1)(a:A0)(A:A5)(outer:Z Env)(s:A2)(H:Hp)(E:XK):Cx where
 prog:=P
 w:=w
 K:=K
 mg:=mg
 base:=base
 A:=A.deeper (AK qual scope s.heap.objs.size f a)
 N:=N
 s₀:=s
 H₀:=H
 env:=AK qual scope s.heap.objs.size f a
 outer:=outer
 stack:=AK qual scope s.heap.objs.size f a::outer
 ex:=[]
 calm:=true
 fn:=λ_=>true
 pn:=[]
 xe:=λe s'=>A7 (A8 P w) (A.deeper (AK qual scope s.heap.objs.size f a)) (leaving (AK qual scope s.heap.objs.size f a) e) (λ_ b=>CX outer H s E e b) (λe' b=>CX outer H s E e' b) s'
theorem Qn{a:Scope}(h:a.names.lookup x=U .cell):∃c,(cellsFrom n a.names []).lookup x=U c:=by
 have q:=cellsFrom_some a.names n [] (.inl h);exact Option.isSome_iff_exists.mp q
theorem X3{CX:Zt}{f:A1}{g:A0}{outer:Z Env}{o:A2}{H:Hp}{E:XK}{vs:Z V}(S:bx N ps scope)(hd:A.handled=Y)(e0:GS P w K mg base A outer s H)(D:vs.length=ps.length)(r:AX vs us)(x:InCallC s s.heap.objs.size (bindL (AK qual scope s.heap.objs.size f g).kindOf (ps.zip us) λ_=>Y) (cellsFrom (s.heap.objs.size+1) scope.names []) (bindC (AK qual scope s.heap.objs.size f g).kindOf (ps.zip us) λ_=>Y) o):
  AU (G7 CX P w K mg base N qual scope f g A outer s H E) [] (start N vs) H o:=by
 have F:ps.length<=N.length:=by have:=congrArg List.length S.pre;rw[kF]at this;omega
 obtain⟨h1,tk,rfl,m⟩:=x.done;have j:∀b:A1,b∉(G7 CX P w K mg base N qual scope f g A outer s H E).ex:=λb z=>absurd (show b∈([]:Z A1) from z) (by simp);refine⟨⟨e0.mod,S.kind,rfl,rfl,zo _,λy z c h1 h2=>?_,λy d=>?_,λy c _ h=>?_,λ_=>hd,Around.frames_deeper e0.frames,.inr ⟨rfl,rfl⟩,λb z=>absurd z (j b),e0.bs,e0.bsz,λb _ _=>j b,λb z=>absurd z (j b),e0.G5,e0.frf⟩,
  rfl,e0.bare,Un.kept m,⟨_,x.toInCall.ns,λi y v h1 h2 C=>?_⟩,λy c h=>⟨_,x.cell y c h⟩,e0.hok.fresh (zo _),λy c h=>?_,λp hp=>absurd (show p∈([]:Z (A1×AE)) from hp) (by simp),e0.hok.kept m,?_⟩
 ·exact name_of_addr x.apart (ke h1) (ke h2)
 ·have d:scope.names.lookup y=U .cell\/scope.names.lookup y=U .free:=d;rcases d with d|d
  ·exact Qn d
  ·exact absurd rfl (S.agf _ (ke d))
 ·exact jS (x.above y c (ke h))
 ·have hi:i<vs.length:=by
   unfold start at h2;by_cases hi:i<vs.length
   ·exact hi
   ·rw[qr (by simpa using hi)]at h2;rw[QO]at h2;split at h2<;>cases h2
  have ha:vs[i]?=U v:=by
   unfold start at h2;rw[ZO (by simpa using hi),Zp]at h2;cases e:vs[i]? with
   |none=>rw[e]at h2;cases h2
   |some a=>rw[e]at h2;cases h2;rfl
  obtain⟨u,t,B⟩:=r.get ha;have hp:ps[i]?=U y:=by
   rw[<-S.pre,List.getElem?_take_of_lt (by omega)];exact h1
  have l:ps.Nodup:=by rw[<-S.pre];exact S.nd.sublist (List.take_sublist _ _)
  refine⟨u,B,?_⟩;rcases S.par y (QE hp)with k|k
  ·exact .inl ⟨k,K6 l hp t k⟩
  ·obtain⟨c,e⟩:=Qn (n:=s.heap.objs.size+1) k;refine .inr ⟨.inl k,c,e,?_⟩;have q:=x.cell y c e;rw[K7 l hp t (by show scope.names.lookup y≠_;rw[k];decide)]at q;exact q
 ·exact e0.hok.fresh (jS (x.above y c (ke h)))
 ·unfold start;show _=N.length;rw[zI,zh,List.length_replicate];omega
theorem T'{CX:Zt}{k:Nat}{f:A1}{j:Arguments}{l kV h m a ct D:A0}{p X:O A1}{sp:Sp}(F:K.lookup f=U ⟨D,X,.func (fnOf name qual j body scope l kV h m p a ct),osl⟩)(a0:codeIn K a qual=true)(S:bx N ps scope)(len:∀vs H Q E,sp vs H Q E->vs.length=ps.length)(a1:∀(A:A5) (outer:Z Env) (s:A2) (H:Hp) (vs:Z V) (Q:VK) (E:XK),nR k (A.deeper (AK qual scope s.heap.objs.size f a))->sp vs H Q E →
   ∃t,TQ (G7 CX P w K mg base N qual scope f a A outer s H E) body t/\t { nx:=λ_ H'=>Q .non H',rt:=Q } (start N vs) H):
  wM P w K mg base CX (k+1) f (fnOf name qual j body scope l kV h m p a ct) ps sp:=by
 refine⟨len,λA outer s H a2 us vs Q E d e0 hb r z=>?_⟩;have hl:=len _ _ _ _ z;have i:K.In s.heap:=e0.mod.kin.keeps λb o e=>(e0.bs b o e).1;have C:s.heap.NoLimit:=e0.mod.nolimit.keeps λb o e=>(e0.bs b o e).1;have G:∀y∈ps.zip us,scope.names.lookup y.1=U .local\/(scope.names.lookup y.1=U .cell/\((cellsFrom (s.heap.objs.size+1) scope.names []).lookup y.1).isSome=true):=λ⟨n,v⟩ hy=>by
  rcases S.par n (List.of_mem_zip hy).1 with q|q
  ·exact .inl q
  ·exact .inr ⟨q,cellsFrom_some _ _ _ (.inl q)⟩
 refine codeAny_call_function d.depth (i _ _ F) rfl S.co S.gen rfl (PySem.W.codeRec_of i a0) (hb _ _ _ _ ?_);refine wpAny_newFunctionEnv_cells S.kind G λenv L B x=>?_;subst L;refine⟨C.keeps x.toInCall.keep,codeAny_func ?_⟩;obtain⟨t,M,hq⟩:=a1 A outer s H vs Q E (d.deeper _) z;have I:AU (G7 CX P w K mg base N qual scope f a A outer s H E) [] (start N vs) H B:=X3 S d.hd e0 hl r x;refine QI (M [] B (start N vs) H _ I hq) (λfl s' hs=>?_) λe s' hs=>hs;have g:∀{σ':St} {H':Hp} {v:V} {u:A0},AU (G7 CX P w K mg base N qual scope f a A outer s H E) [] σ' H' s'->Au v u->Q v H'->CE outer P w H s Q u s':=
  λ{σ' H' v u} J c q=>⟨v,H',J.os,J.bare,J.base,J.hok,c,q⟩
 cases fl with
 |ret u=>
  obtain⟨v,σ',H',J,c,q⟩:=hs;exact g J c q
 |next=>
  obtain⟨σ',H',J,q⟩:=hs;exact g (v:=V.non) (u:=Value.none) J rfl q
 |brk=>
  obtain⟨_,_,_,q⟩:=hs;exact False.elim q
 |cont=>
  obtain⟨_,_,_,q⟩:=hs;exact False.elim q
end L2
namespace L2
section
variable{X:Cx}{p:Pos}{t:TA}{id T:String}{r:Z V->Hp->VK->Prop}
def IF(r:Z V->Hp->VK->Prop)(t:TA):TE:=λσ H Q=>t σ H λvs H1=>r vs H1 Q
theorem qG(b:fZ X (.builtin id) r)(hg:Gl X x)(d:X.mg x=Y)(a:AH x=U (.builtin id))(ha:PA X (e::es) t)(f:x ≠ "__name__":=by decide)(c:(x==("__debug__":AJ))=false:=by decide)
  (he:A9 (e::es) X.env=(false,eval e X.env)::A9 es X.env:=by rfl) (g:(AD pos (A9 es X.env)).any (·.1)=false:=by rfl):PE X (.Call (.Name x p) (e::es) [] pos) (IF r t):=by
 intro AN s σ H Q I h;refine wpAny_Call_Name_kw (Nf I hg d a ?_ f c);exact PyProof.Rows.callWith_builtin1 (jc (ha pos AN s σ H _ I h) λus s1 ⟨vs,H1,I1,r1,q1⟩=>b AN s1 σ H1 vs us Q I1 r1 q1) he g
theorem K8(b:fZ X (.type T) r)(hg:Gl X x)(d:X.mg x=Y)(a:AH x=U (.type T))(ha:PA X (e::es) t)(f:x ≠ "__name__":=by decide)(c:(x==("__debug__":AJ))=false:=by decide)
  (he:A9 (e::es) X.env=(false,eval e X.env)::A9 es X.env:=by rfl) (g:(AD pos (A9 es X.env)).any (·.1)=false:=by rfl):PE X (.Call (.Name x p) (e::es) [] pos) (IF r t):=by
 intro AN s σ H Q I h;refine wpAny_Call_Name_kw (Nf I hg d a ?_ f c);exact PyProof.Rows.callWith_type1 (jc (ha pos AN s σ H _ I h) λus s1 ⟨vs,H1,I1,r1,q1⟩=>b AN s1 σ H1 vs us Q I1 r1 q1) he g
end
end L2
namespace HT
open PySem PyProof.Rows
section
open PySem.SeqAt
open PySem.AutoSeq1 (wpAny_loadPart')
open PySem.MeetsSeq PySem.MeetsSeq2 PySem.MeetsSeq3
end
theorem ac1{t b:A1}{vs a:Z A0}{Q:BA}(p:IsTup s.heap t vs.toArray)(hb:IsTup s.heap b a.toArray)(g:vs≠[])
  (h1:a=[]->Q (.ref t) s) (h2:a≠[]->Q (.ref s.heap.objs.size) { s with heap:=s.heap.push { cls:=.type "tuple",data:=.seq (vs++a).toArray } })
  (hsz:vs.length+a.length<=AA):A7 (A8 prog w) A (binaryOp .Add (.ref t) (.ref b)) Q E s:=by
 obtain⟨⟨cls,l,data,sl⟩,ho,i,n,hd⟩:=id p;obtain⟨⟨cls2,m,q,o⟩,d,f,h,j⟩:=id hb;simp only at i hd f j;subst i hd f j;have e:vs.toArray++a.toArray=(vs++a).toArray:=by simp
 by_cases c:a=[]
 ·exact concat_meets ⟨_,ho,rfl⟩ ⟨_,d,rfl⟩ noFill_tuple_add seq_tuple_add PySem.F.slot_tuple_add yk (ya _ _)
   (tuple_addW1 t b vs.toArray a.toArray n h l m sl o (by simpa using g) (by simp[c])) ⟨ho,d,h1 c⟩
 ·refine concat_meets ⟨_,ho,rfl⟩ ⟨_,d,rfl⟩ noFill_tuple_add seq_tuple_add PySem.F.slot_tuple_add yk (ya _ _)
   (tuple_addW2 t b vs.toArray a.toArray n h l m sl o (by simpa using g) (by simpa using c) (by rw[zC,zC];exact hsz)) ⟨ho,d,?_⟩
  rw[e];exact h2 c
def jy(n d:Nat):O Int->Nat
 |none=>d
 |some v=>if v<0 then(v+(n:Int)).toNat else min v.toNat n
theorem Y2(n d:Nat)(hd:d<=n)(o:O Int):jy n d o<=n:=by
 cases o with
 |none=>exact hd
 |some v=>
  show(if v<0 then(v+(n:Int)).toNat else min v.toNat n)<=n;by_cases a:v<0
  ·rw[zk a];omega
  ·rw[zw a];exact Nat.min_le_right _ _
theorem V8(v:Int)(n d:Nat):(if v<0 then max (v+(n:Int)) 0 else min v (n:Int))=((jy n d (U v):Nat):Int):=by
 show(if v<0 then max (v+(n:Int)) 0 else min v (n:Int))=(((if v<0 then(v+(n:Int)).toNat else min v.toNat n):Nat):Int);by_cases a:v<0
 ·simp only[zk a];omega
 ·simp only[zw a];omega
theorem T5(lo hi:O Int)(n:Nat):Builtin.Slice.sliceAdjust lo hi 1 (n:Int)=(((jy n 0 lo:Nat):Int),((jy n n hi:Nat):Int)):=by
 have h1:¬ ((1:Int)<0):=by omega
 unfold Builtin.Slice.sliceAdjust;simp only[h1,ZN];refine Prod.ext ?_ ?_
 ·cases lo with
  |none=>rfl
  |some v=>exact V8 v n 0
 ·cases hi with
  |none=>rfl
  |some v=>exact V8 v n n
theorem T6(i j:Nat):Builtin.Slice.slicePlaces (i:Int) (j:Int) 1=j-i:=by
 unfold Builtin.Slice.slicePlaces;have h1:(1:Int)>0:=by omega
 simp only[h1,qA,Int.ediv_one];split<;>omega
theorem G8{v:A0}{o:O Int}{Q:O Int->A2->Prop}(p:IsPart v o)(h:Q o s):A7 (A8 prog w) A (Builtin.Slice.slicePartIndex v) Q E s:=by
 cases p with
 |none=>exact slicePart_none h
 |int i t=>exact slicePart_int h
theorem uc{sl:A1}{a d:A0}{Q:Int×Int×Nat->A2->Prop}(hs:s.heap.IsSliceOf sl a d .none)(pl:IsPart a lo)(e:IsPart d hi)(h:Q (((jy n 0 lo:Nat):Int),1,jy n n hi-jy n 0 lo) s):A7 (A8 prog w) A (Builtin.Slice.sliceApplied (.ref sl) (pure (n:Int))) Q E s:=by
 obtain⟨os,b,f,c⟩:=id hs;unfold Builtin.Slice.sliceApplied Builtin.Slice.sliceFields;refine zb (zb (wpAny_field b c (x:=a) S (zb (wpAny_field b c (x:=d) S (zb (wpAny_field b c (x:=.none) S (ze ?_)))))));refine zb (slicePart_none ?_);show A7 _ _ (if((1:Int)==0)=true then _ else _) _ _ s;rw[zw (by decide)];refine zb (G8 pl (zb (G8 e (zb (ze ?_)))));show A7 _ _ (match Builtin.Slice.sliceAdjust lo hi 1 (n:Int)with|(lo,hi)=>pure (lo,(1:Int),Builtin.Slice.slicePlaces lo hi 1)) _ _ s;rw[T5 lo hi n];show A7 _ _ (pure (((jy n 0 lo:Nat):Int),(1:Int),Builtin.Slice.slicePlaces ((jy n 0 lo:Nat):Int) ((jy n n hi:Nat):Int) 1)) _ _ s;rw[T6];exact ze h
theorem Z1(xs:Array A0)(i k:Nat):((List.range k).filterMap λ(m:Nat)=>xs[((i:Int)+(m:Int)*1).toNat]?).toArray=((xs.toList.drop i).take k).toArray:=by
 have e:(λ(m:Nat)=>xs[((i:Int)+(m:Int)*1).toNat]?)=λm=>xs[i+m]?:=by
  funext m;have:((i:Int)+(m:Int)*1).toNat=i+m:=by omega
  rw[this]
 rw[e];have:=pick_run xs i k;rw[List.filterMap_map]at this;have e2:((λx=>xs[x]?) ∘ λx=>i+x)=λm=>xs[i+m]?:=rfl;rw[e2]at this;rw[this]
theorem zZ{t sl:A1}{c d:A0}{Q:BA}(b:IsTup s.heap t items)(hs:s.heap.IsSliceOf sl c d .none)(pl:IsPart c lo)(j:IsPart d hi)(g:¬ (jy items.size 0 lo=0/\jy items.size items.size hi=items.size))(h:Q (.ref s.heap.objs.size) { s with heap:=s.heap.push { cls:=.type "tuple",data:=.seq ((items.toList.drop (jy items.size 0 lo)).take (jy items.size items.size hi-jy items.size 0 lo)).toArray } })(hsz:items.size<=AA):A7 (A8 prog w) A (getItem (.ref t) (.ref sl)) Q E s:=by
 have a:sizeOk (.seq ((items.toList.drop (jy items.size 0 lo)).take (jy items.size items.size hi-jy items.size 0 lo)).toArray):=by
  show((items.toList.drop (jy items.size 0 lo)).take (jy items.size items.size hi-jy items.size 0 lo)).toArray.size<=AA;rw[zC,kF,k9,qa];omega
 have o:jy items.size items.size hi<=items.size:=Y2 _ _ (zo _) hi;obtain⟨os,i,f,n⟩:=id hs;have e:s.TypeIs (.ref sl) "slice":=⟨os,i,f⟩;unfold getItem
 try with_reducible refine QQ ?_
 first|refine zb (ze ?_)|skip
 refine zb (wpAny_sequenceKey b.typeIs (by decide) ?_);refine zb (yi (name:=Str.ofString "__getitem__") b.typeIs PyProof.Rows.slot_tuple_getitem
  (kg PyProof.Rows.slot_tuple_getitem b.typeIs entry_tuple_getitem ?_ (args_tuple_getitem _ _)))
 show A7 _ _ (Builtin.Tuple.tupleItemsOf (.ref t) >>= _) _ _ s;refine zb (tupleItemsOf_ b ?_);refine zb (QR e ?_);rw[zk (by decide)];refine zb (uc hs pl j ?_);have l:¬ ((((jy items.size 0 lo:Nat):Int)==0&&(1:Int)==1&&(jy items.size items.size hi-jy items.size 0 lo)==items.size)=true):=by
  intro q;rw[ZY,ZY]at q;have q1:((jy items.size 0 lo:Nat):Int)=0:=eq_of_beq q.1.1;have q2:jy items.size items.size hi-jy items.size 0 lo=items.size:=eq_of_beq q.2;exact g ⟨by omega,by omega⟩
 show A7 _ _ (if(((jy items.size 0 lo:Nat):Int)==0&&(1:Int)==1&&(jy items.size items.size hi-jy items.size 0 lo)==items.size)=true then _ else _) _ _ s;rw[zw l,Z1]
 first
  |exact zb (m:=Builtin.Tuple.tupleExact _) (qS (ze ⟨_,rfl,ze h⟩) a)
  |exact zb (m:=Builtin.Tuple.tupleExact _) (qS (zb (ze (ze ⟨_,rfl,ze h⟩))) a)
  |exact zb (zb (m:=Builtin.Tuple.tupleExact _) (qS (ze (ze ⟨_,rfl,ze h⟩)) a))
  |exact zb (zb (m:=Builtin.Tuple.tupleExact _) (qS (ze ⟨_,rfl,ze h⟩) a))
end HT
namespace L2
abbrev TO:=St->Hp->(O Int->Hp->Prop)->Prop
def PO(X:Cx)(e:O Expr)(t:TO):Prop:=
 ∀(AN:Z (A1×AE)) (s:A2) (σ:St) (H:Hp) (Q:O Int->Hp->Prop),AU X AN σ H s->t σ H Q →
  A7 (A8 X.prog X.w) X.A (evalPart e X.env) (λu s'=>∃o H',AU X AN σ H' s'/\IsPart u o/\Q o H') X.xe s
def TD:TO:=λ_ H Q=>Q Y H
def P5(t:TE):TO:=λσ H Q=>t σ H λx H1=>∃i,x=.int i/\Q (U i) H1
section
variable{X:Cx}{te:TE}{lo hi:O Expr}{tl th:TO}
theorem ah:PO X Y TD:=by
 intro AN s σ H Q I h;rw[evalPart_none];exact ze ⟨Y,H,I,.none,h⟩
theorem i7(h:PE X e te):PO X (U e) (P5 te):=by
 intro AN s σ H Q I a;rw[evalPart_some];refine jc (h AN s σ H _ I a) λu s1 ⟨x,H1,I1,r1,q1⟩=>?_;obtain⟨i,rfl,q⟩:=q1;obtain⟨t,rfl⟩:=r1;exact⟨U i,H1,I1,.int i t,q⟩
def GL(X:Cx)(r:V->O Int->O Int->Hp->VK->Prop):Prop:=
 ∀(AN:Z (A1×AE)) (s:A2) (σ:St) (H:Hp) (x:V) (v b a:A0) (lo hi:O Int) (sl:A1) (Q:VK),AU X AN σ H s->Au x v->s.heap.IsSliceOf sl b a .none->IsPart b lo->IsPart a hi->r x lo hi H Q →
  ∃T id,typeLookup (.type T) "__getitem__"=pure (U (.builtin id))/\s.TypeIs v T/\A7 (A8 X.prog X.w) X.A (getItem v (.ref sl)) (EP X AN σ Q) X.xe s
def bq(r:V->O Int->O Int->Hp->VK->Prop)(te:TE)(tl th:TO):TE:=λσ H Q=>te σ H λx H1=>tl σ H1 λl H2=>th σ H2 λu a=>r x l u a Q
theorem Z2{r:V->O Int->O Int->Hp->VK->Prop}(c:GL X r)(he:PE X e te)(d:PO X lo tl)(i:PO X hi th):PE X (.Subscript e (.Slice lo hi Y p2) pos) (bq r te tl th):=by
 intro AN s σ H Q I h;refine Subscript_ (jc (he AN s σ H _ I h) λv s1 ⟨x,H1,I1,r1,q1⟩=>?_);refine wpAny_Slice (jc (d AN s1 σ H1 _ I1 q1) λvl s2 ⟨l,H2,I2,pl,q2⟩=>jc (i AN s2 σ H2 _ I2 q2) λvu s3 ⟨u,H3,I3,pu,q3⟩=>?_);rw[evalPart_none];refine ze ?_;have g:AU X AN σ H3 { s3 with heap:=s3.heap.push { cls:=.type "slice",data:=.fields #[vl,vu,.none] } }:=I3.kept (t':=s3.toks) λb j q=>zd _ q;obtain⟨T,id,f,a,hg⟩:=c AN { s3 with heap:=s3.heap.push { cls:=.type "slice",data:=.fields #[vl,vu,.none] } } σ H3 x v vl vu l u s3.heap.objs.size Q g r1 (Heap.IsSliceOf.new ..) pl pu q3;show A7 (A8 X.prog X.w) X.A (subscriptTail e (.Slice lo hi Y p2) v (.ref s3.heap.objs.size)) (EP X AN σ Q) X.xe { s3 with heap:=s3.heap.push { cls:=.type "slice",data:=.fields #[vl,vu,.none] } };exact tail_any (ops:=[.ref s3.heap.objs.size,v]) a f hg (by with_unfolding_all rfl)
def Qo(xs:Z V)(lo hi:O Int):Z V:=(xs.drop (HT.jy xs.length 0 lo)).take (HT.jy xs.length xs.length hi-HT.jy xs.length 0 lo)
theorem Ed(xs:Z V)(lo hi:O Int):(Qo xs lo hi).length<=xs.length:=by
 unfold Qo;rw[kF,k9];omega
def XL(K:B1):V->O Int->O Int->Hp->VK->Prop:=λx lo hi H Q=>∃a xs,x=.ref a/\Cy K H a xs ∧
 ¬ (HT.jy xs.length 0 lo=0/\HT.jy xs.length xs.length hi=xs.length)/\∀p,H p=Y->Q (.ref p) (B6 H p (.tup (Qo xs lo hi)))
theorem a9:GL X (XL X.K):=by
 intro AN s σ H x v j m lo hi sl Q I g hs pl i h;obtain⟨a,xs,rfl,hx,f,q⟩:=h;cases g;obtain⟨AQ,r,e,d⟩:=I.tuple hx;have c:AQ.toArray.size=xs.length:=by rw[zC];exact r.length.symm
 refine⟨"tuple", _,PyProof.Rows.slot_tuple_getitem.lookup,e.typeIs,?_⟩;refine HT.zZ e hs pl i (by rw[c];exact f) ?_ (by rw[c];exact d);rw[c];refine⟨.ref s.heap.objs.size,_,I.laid (t':=s.toks) (o:=.tup (Qo xs lo hi)) (λb l q=>zd _ q) (zo _) ?_,rfl,q _ (I.hok.fresh (zo _))⟩;exact⟨ZA (Ed xs lo hi) d,_,(r.drop (HT.jy xs.length 0 lo)).take (HT.jy xs.length xs.length hi-HT.jy xs.length 0 lo),wH.new _ _⟩
def cz(K:B1):R2:=λx y H Q=>∃a b xs ys,x=.ref a/\y=.ref b/\Cy K H a xs/\Cy K H b ys/\xs≠[]/\xs.length+ys.length<=AA ∧
 (ys=[]->Q (.ref a) H)/\(ys≠[]->∀p,H p=Y->Q (.ref p) (B6 H p (.tup (xs++ys))))
theorem AX.Gs{xs:Z V}(r:AX xs us):us=[]↔xs=[]:=by
 cases r with
 |nil=>simp
 |cons _ _=>simp
theorem WS:xX X (binaryOp .Add) (cz X.K):=by
 intro AN s σ H x y v u Q I f g h;obtain⟨a,b,xs,ys,rfl,rfl,ha,hb,hx,e,q1,q2⟩:=h;cases f;cases g;obtain⟨AQ,d,p1,_⟩:=I.tuple ha;obtain⟨j,c,p2,_⟩:=I.tuple hb;refine HT.ac1 p1 p2 (λz=>hx (d.Gs.mp z)) (λz=>⟨.ref a,H,I,rfl,q1 (c.Gs.mp z)⟩) (λz=>?_) (by rw[<-d.length,<-c.length];exact e);refine⟨.ref s.heap.objs.size,_,I.laid (t':=s.toks) (o:=.tup (xs++ys)) (λb i q=>zd _ q) (zo _) ?_,rfl,q2 (λw=>z (c.Gs.mpr w)) _ (I.hok.fresh (zo _))⟩;exact⟨by rw[zI];exact e,_,d.append c,wH.new _ _⟩
end
end L2
namespace L2
def EH(n:Nat)(i:Int):O Nat:=if 0<=i then(if i<n then U i.toNat else Y)else if -(n:Int)<=i then U (i+n).toNat else Y
def JZ(xs:Z α)(i:Int):O α:=(EH xs.length i).bind λj=>xs[j]?
theorem dS{i:Int}(h:EH n i=U j):seqIndex? i n=U j/\j<n ∧ -(n:Int)<=i/\i<n:=by
 unfold EH at h;by_cases h0:0<=i
 ·rw[zk h0]at h;by_cases h1:i<n
  ·rw[zk h1]at h;have e:i.toNat=j:=Q2 h;exact⟨by rw[seqIndex_of h0 h1,e],by omega,by omega,h1⟩
  ·rw[zw h1]at h;cases h
 ·rw[zw h0]at h;by_cases h1 : -(n:Int)<=i
  ·rw[zk h1]at h;have e:(i+n).toNat=j:=Q2 h;exact⟨by rw[seqIndex_neg (by omega) h1,e],by omega,h1,by omega⟩
  ·rw[zw h1]at h;cases h
theorem Nh{xs:Z α}{i:Int}{v:α}(h:JZ xs i=U v):∃j,seqIndex? i xs.length=U j/\xs[j]?=U v/\j<xs.length ∧ -(xs.length:Int)<=i/\i<xs.length:=by
 unfold JZ at h;cases e:EH xs.length i with
 |none=>rw[e]at h;cases h
 |some j=>
  rw[e]at h;obtain⟨h1,h2,b,a⟩:=dS e;exact⟨j,h1,h,h2,b,a⟩
def Wa(b:Expr):Prop:=∀o i,subscripted b false o i=operate [o,i] (getItem o i)
def DA(X:Cx)(r:R2):Prop:=
 ∀(value a:Expr) (AN:Z (A1×AE)) (s:A2) (σ:St) (H:Hp) (x y:V) (v u:A0) (Q:VK),AU X AN σ H s->Au x v->Au y u->r x y H Q →
  subscripted a false v u=operate [v,u] (getItem v u)->A7 (A8 X.prog X.w) X.A (subscriptTail value a v u) (EP X AN σ Q) X.xe s
def N4(X:Cx)(id:String)(r:V->Z V->Hp->VK->Prop):Prop:=
 ∀(AN:Z (A1×AE)) (s:A2) (σ:St) (H:Hp) (x:V) (xs:Z V) (v:A0) (us:Z A0) (Q:VK),AU X AN σ H s->Au x v->AX xs us->r x xs H Q →
  A7 (A8 X.prog X.w) X.A (call (.builtin id) (v::us)) (EP X AN σ Q) X.xe s
section
variable{X:Cx}{a b:Expr}{ta tb:TE}
theorem DA.or{r c:R2}(h:DA X r)(h':DA X c):DA X (λx y H Q=>r x y H Q\/c x y H Q):=by
 intro value a AN s σ H x y v u Q I d b q hs;rcases q with q|q
 ·exact h value a AN s σ H x y v u Q I d b q hs
 ·exact h' value a AN s σ H x y v u Q I d b q hs
theorem cx{r:R2}(e:DA X r)(ha:PE X a ta)(hb:PE X b tb)(hs:Wa b):PE X (.Subscript a b pos) (FM r ta tb):=by
 intro AN s σ H Q I h;exact Subscript_ (ID ha hb I h λv u c x y H2 f d g q=>e a b AN c σ H2 x y v u Q f d g q (hs _ _))
def LU(K:B1):R2:=λx y H Q=>∃p xs i v,x=.ref p/\y=.int i/\wJ K H p xs/\JZ xs i=U v/\Q v H
def NA(K:B1):R2:=λx y H Q=>∃p xs i v,x=.ref p/\y=.int i/\Cy K H p xs/\JZ xs i=U v/\Q v H
def LW:R2:=λx y H Q=>∃z i c,x=.str z/\y=.int i/\z.length<=AA/\JZ z.cps.toList i=U c/\Q (.str ⟨#[c]⟩) H
theorem Sl:DA X (LU X.K):=by
 intro value A AN s σ H x y v u Q I g o h hs;obtain⟨p,xs,i,z,rfl,rfl,l,m,q⟩:=h;cases g;obtain⟨t,rfl⟩:=o;obtain⟨AQ,r,pl,C⟩:=I.list l;obtain⟨j,h1,h2,B,e,d⟩:=Nh m;obtain⟨w,b,f⟩:=r.get h2;have n:=r.length;have D:=CJ;have c:EP X AN σ Q w s:=⟨z,H,I,f,q⟩;by_cases h0:0<=i
 ·have a:i.toNat=j:=by
   rw[seqIndex_of h0 d]at h1;exact Q2 h1
  exact item_listR pl.isList h0 (by omega) (by rw[a];simpa using b) c hs
 ·have a:(i+(AQ.toArray.size:Int)).toNat=j:=by
   rw[seqIndex_neg (by omega) e]at h1;rw[zC,<-n];exact Q2 h1
  exact subscriptTail_builtinR (x:=w) pl.isList.typeIs slot_list_getitem.lookup
   (wpAny_getItem_list_neg (Q:=λr s'=>r=w/\EP X AN σ Q r s') pl.isList (by omega) (by rw[zC]<;>omega) (by omega) (by rw[a];simpa using b) ⟨rfl,c⟩) hs
theorem f8:DA X (NA X.K):=by
 intro value o AN s σ H x y v u Q I b l h hs;obtain⟨p,xs,i,z,rfl,rfl,c,e,q⟩:=h;cases b;obtain⟨t,rfl⟩:=l;obtain⟨AQ,r,pl,B⟩:=I.tuple c;obtain⟨j,h1,h2,A,n,m⟩:=Nh e;obtain⟨w,d,a⟩:=r.get h2;have f:=r.length;have C:=CJ;have g:EP X AN σ Q w s:=⟨z,H,I,a,q⟩;exact subscriptTail_builtinR (x:=w) pl.typeIs slot_tuple_getitem.lookup
  (getItem_tuple (j:=j) (Q:=λr s'=>r=w/\EP X AN σ Q r s') pl (by omega) (by omega) (by rw[zC,<-f];exact h1) (by simpa using d) ⟨rfl,g⟩) hs
theorem ap:DA X LW:=by
 intro value l AN s σ H x y v u Q I d g h hs;obtain⟨z,i,c,rfl,rfl,o,e,q⟩:=h;obtain⟨t,rfl⟩:=d;obtain⟨m,rfl⟩:=g;obtain⟨j,h1,h2,n,b,a⟩:=Nh e;have f:z.cps.toList.length=z.length:=by simp[Str.length]
 rw[f]at h1 b a;have p:=CJ;exact tail_any (typeIs_str s z t) slot_str_getitem.lookup (getItem_str (c:=c) (by
  have e1:decide (i < -(2 ^ 63:Int))=false:=z5 (by omega);have e2:decide (i>=2 ^ 63)=false:=z5 (by omega);rw[e1,e2,Bool.or_false]) (by rw[h1];simpa using h2) ⟨.str ⟨#[c]⟩,H,I.tok _,⟨_,rfl⟩,q⟩) hs
def VX(K:B1):R2:=λx y H Q=>LU K x y H Q\/NA K x y H Q\/LW x y H Q
theorem gz:DA X (VX X.K):=Sl.or (f8.or ap)
theorem AU.lst{σ:St}{H:Hp}{p:A1}{xs:Z V}(I:AU X AN σ H s)(h:H p=U (.lst xs)):
  ∃(AQ:Z A0) (n:Nat),AX xs AQ/\s.heap.get? p=U { cls:=.type "list",data:=.seq AQ.toArray n }/\xs.length<=AA:=by
 obtain⟨z,AQ,n,r,e⟩:=I.hok p _ h;exact⟨AQ,n,r,e,z⟩
theorem Ni(lo hi:O Int)(n:Nat):(sliceBounds lo hi Y n).1=((HT.jy n 0 lo:Nat):Int)/\(sliceBounds lo hi Y n).2.1=((HT.jy n n hi:Nat):Int)/\(sliceBounds lo hi Y n).2.2=1:=by
 refine⟨?_,?_,rfl⟩
 ·cases lo with
  |none=>simp[sliceBounds,HT.jy]
  |some i=>
   simp only[sliceBounds,HT.jy,Option.getD_none,show(1:Int)>0 by decide,qA];by_cases h:i<0
   ·simp only[h,qA]<;>omega
   ·simp only[h,ZN]<;>omega
 ·cases hi with
  |none=>simp[sliceBounds,HT.jy]
  |some i=>
   simp only[sliceBounds,HT.jy,Option.getD_none,show(1:Int)>0 by decide,qA];by_cases h:i<0
   ·simp only[h,qA]<;>omega
   ·simp only[h,ZN]<;>omega
theorem J0(AQ:Z A0)(lo hi:O Int):slicePick AQ.toArray lo hi Y=((AQ.drop (HT.jy AQ.length 0 lo)).take (HT.jy AQ.length AQ.length hi-HT.jy AQ.length 0 lo)).toArray:=by
 obtain⟨h1,h2,a⟩:=Ni lo hi AQ.toArray.size;unfold slicePick;rw[h1,h2,a];simp only[sliceRange_one,pick_run,zC]<;>rfl
def bX(K:B1):V->O Int->O Int->Hp->VK->Prop:=λx lo hi H Q=>∃a xs,x=.ref a/\wJ K H a xs/\∀p,H p=Y->Q (.ref p) (B6 H p (.lst (Qo xs lo hi)))
theorem P9:GL X (bX X.K):=by
 intro AN s σ H x v i l lo hi sl Q I e hs pl g h;obtain⟨a,xs,rfl,hx,q⟩:=h;cases e;obtain⟨AQ,r,c,f⟩:=I.list hx;have d:=r.length;refine⟨"list", _,slot_list_getitem.lookup,c.isList.typeIs,?_⟩;refine wpAny_getItem_list_slice c.isList hs pl g .none (by simp) ?_ (by rw[zC]<;>omega);rw[J0,<-d];refine⟨.ref s.heap.objs.size,_,I.laid (t':=s.toks) (o:=.lst (Qo xs lo hi)) (λb j q=>zd _ q) (zo _) ?_,rfl,q _ (I.hok.fresh (zo _))⟩;exact⟨ZA (Ed xs lo hi) f,_,0,(r.drop (HT.jy xs.length 0 lo)).take (HT.jy xs.length xs.length hi-HT.jy xs.length 0 lo),zv _ rfl⟩
def vX:V->Bool
 |.non=>true
 |.bl _=>true
 |.int _=>true
 |.str _=>true
 |_=>false
def DB:V->V->Bool
 |.non,.non=>true
 |.bl a,.bl b=>a==b
 |.bl a,.int b=>(if a then 1 else 0)==b
 |.int a,.bl b=>a==(if b then 1 else 0)
 |.int a,.int b=>a==b
 |.str a,.str b=>a==b
 |_,_=>false
theorem PD{y x:V}{v:A0}(e:Au y u)(c:Au x v)(fy:vX y=true)(fx:vX x=true):SeqAt.EqAt A s u v (DB y x):=by
 cases y with
 |non=>
  cases e;cases x with
  |non=>cases c;exact SeqAt.EqAt.same _
  |bl b=>cases c;exact SeqAt.EqAt.none_bool b
  |int b=>obtain⟨t,rfl⟩:=c;exact SeqAt.EqAt.none_int b t
  |str b=>obtain⟨t,rfl⟩:=c;exact SeqAt.EqAt.none_str b t
  |_=>exact absurd (show false=true from fx) ZH
 |bl a=>
  cases e;cases x with
  |non=>cases c;exact SeqAt.EqAt.bool_none a
  |bl b=>cases c;exact SeqAt.EqAt.bool_bool a b
  |int b=>obtain⟨t,rfl⟩:=c;exact SeqAt.EqAt.bool_int a b t
  |str b=>obtain⟨t,rfl⟩:=c;exact SeqAt.EqAt.bool_str a b t
  |_=>exact absurd (show false=true from fx) ZH
 |int a=>
  obtain⟨d,rfl⟩:=e;cases x with
  |non=>cases c;exact SeqAt.EqAt.int_none a d
  |bl b=>cases c;exact SeqAt.EqAt.int_bool a d b
  |int b=>obtain⟨t,rfl⟩:=c;exact SeqAt.EqAt.int_int a d b t
  |str b=>obtain⟨t,rfl⟩:=c;exact SeqAt.EqAt.int_str a d b t
  |_=>exact absurd (show false=true from fx) ZH
 |str a=>
  obtain⟨d,rfl⟩:=e;cases x with
  |non=>cases c;exact SeqAt.EqAt.str_none a d
  |bl b=>cases c;exact SeqAt.EqAt.str_bool a d b
  |int b=>obtain⟨t,rfl⟩:=c;exact SeqAt.EqAt.str_int a d b t
  |str b=>obtain⟨t,rfl⟩:=c;exact SeqAt.EqAt.str_str a d b t
  |_=>exact absurd (show false=true from fx) ZH
 |_=>exact absurd (show false=true from fy) ZH
def T7(x:V)(u:A0):Bool:=match u with
 |.none=>DB .non x
 |.bool b=>DB (.bl b) x
 |.int i _=>DB (.int i) x
 |.str z _=>DB (.str z) x
 |_=>false
theorem Z4{x y:V}(r:Au y u)(f:vX y=true):T7 x u=DB y x:=by
 cases y with
 |non=>cases r;rfl
 |bl b=>cases r;rfl
 |int i=>obtain⟨t,rfl⟩:=r;rfl
 |str z=>obtain⟨t,rfl⟩:=r;rfl
 |_=>exact absurd (show false=true from f) ZH
theorem z6{x:V}:∀{xs:Z V} {us:Z A0},AX xs us->xs.all vX=true->us.any (T7 x)=xs.any λy=>DB y x
 |_,_,.nil,_=>rfl
 |y::xs,u::us,.cons r t,f=>by
  rw[ku,ZY]at f;rw[kc,kc,Z4 r f.1,z6 t f.2]
theorem wN{A:A5}{s:A2}{x:V}{v:A0}(b:Au x v)(fx:vX x=true):∀{xs:Z V} {us:Z A0},AX xs us->xs.all vX=true->∀u∈us,SeqAt.EqAt A s u v (T7 x u)
 |_,_,.nil,_=>λu a=>by cases a
 |y::xs,u::us,.cons r t,f=>λc a=>by
  rw[ku,ZY]at f;rcases List.mem_cons.mp a with rfl|a
  ·rw[Z4 r f.1];exact PD r b f.1 fx
  ·exact wN b fx t f.2 c a
def GE(x:V)(xs:Z V):Bool:=xs.any λy=>DB y x
def L4(K:B1)(a:Bool):R2:=λx y H Q=>∃p xs,y=.ref p/\(wJ K H p xs\/Cy K H p xs)/\vX x=true/\xs.all vX=true/\Q (.bl (if a then !GE x xs else GE x xs)) H
theorem X4:xX X (AG .In) (L4 X.K false):=by
 intro AN s σ H x y v u Q I c e h;obtain⟨p,xs,rfl,a,fx,fs,q⟩:=h;cases e;rcases a with a|a
 ·obtain⟨AQ,r,pl,d⟩:=I.list a;refine SeqAt.in_listAt (T7 x) pl.isList (λw b=>wN c fx r fs w (by simpa using b)) ⟨.bl _,H,I,rfl,?_⟩;rw[show AQ.toArray.any (T7 x)=AQ.any (T7 x) by simp,z6 r fs];exact q
 ·obtain⟨AQ,r,pl,d⟩:=I.tuple a;refine SeqAt.in_tupleAt (T7 x) pl (λw b=>wN c fx r fs w (by simpa using b)) ⟨.bl _,H,I,rfl,?_⟩;rw[show AQ.toArray.any (T7 x)=AQ.any (T7 x) by simp,z6 r fs];exact q
theorem Nj:xX X (AG .NotIn) (L4 X.K true):=by
 intro AN s σ H x y v u Q I c e h;obtain⟨p,xs,rfl,a,fx,fs,q⟩:=h;cases e;rcases a with a|a
 ·obtain⟨AQ,r,pl,d⟩:=I.list a;refine SeqAt.notIn_listAt (T7 x) pl.isList (λw b=>wN c fx r fs w (by simpa using b)) ⟨.bl _,H,I,rfl,?_⟩;rw[show AQ.toArray.any (T7 x)=AQ.any (T7 x) by simp,z6 r fs];exact q
 ·obtain⟨AQ,r,pl,d⟩:=I.tuple a;refine SeqAt.notIn_tupleAt (T7 x) pl (λw b=>wN c fx r fs w (by simpa using b)) ⟨.bl _,H,I,rfl,?_⟩;rw[show AQ.toArray.any (T7 x)=AQ.any (T7 x) by simp,z6 r fs];exact q
theorem Nk:xX X (AG .NotIn) (λx y H Q=>∃i j,x=.str i/\y=.str j/\Q (.bl (!(!(Builtin.Str.occurrences j i 0 j.length 1).isEmpty))) H):=by
 intro AN s σ H x y v u Q I b a h;obtain⟨i,j,rfl,rfl,q⟩:=h;obtain⟨t,rfl⟩:=b;obtain⟨c,rfl⟩:=a;exact notIn_str ⟨.bl _,H,I,rfl,q⟩
theorem Np:fZ X (.builtin "len") (λxs H Q=>∃p ys,xs=[.ref p]/\(wJ X.K H p ys\/Cy X.K H p ys)/\Q (.int ys.length) H):=by
 intro AN s σ H xs us Q I r h;obtain⟨p,ys,rfl,a,q⟩:=h;obtain⟨u,rfl,d⟩:=BE r;cases d;have f:=CJ;rcases a with a|a
 ·obtain⟨AQ,c,pl,e⟩:=I.list a;have b:=c.length;exact Calls.call_len_list pl.isList (by simp only[zC]<;>omega) ⟨.int ys.length,H,I.tok _,⟨s.toks+1,by rw[zC,b]⟩,q⟩
 ·obtain⟨AQ,c,pl,e⟩:=I.tuple a;have b:=c.length;exact len_tuple pl (by simp only[zC]<;>omega) ⟨.int ys.length,H,I.tok _,⟨s.toks+1,by rw[zC,b]⟩,q⟩
theorem Nq:fZ X (.builtin "len") (λxs H Q=>∃z,xs=[.str z]/\z.length<=AA/\Q (.int z.length) H):=by
 intro AN s σ H xs us Q I r h;obtain⟨z,rfl,a,q⟩:=h;obtain⟨u,rfl,t,rfl⟩:=BE r;have b:=CJ;exact len_str (by omega) ⟨.int z.length,H,I.tok _,⟨_,rfl⟩,q⟩
theorem fZ.or{f:A0}{r a:Z V->Hp->VK->Prop}(h:fZ X f r)(h':fZ X f a):fZ X f (λxs H Q=>r xs H Q\/a xs H Q):=by
 intro AN s σ H xs us Q I rs q;rcases q with q|q
 ·exact h AN s σ H xs us Q I rs q
 ·exact h' AN s σ H xs us Q I rs q
theorem J1:fZ X (.type "tuple") (λxs H Q=>∃p ys,xs=[.ref p]/\((wJ X.K H p ys/\∀l,H l=Y->Q (.ref l) (B6 H l (.tup ys)))\/(Cy X.K H p ys/\Q (.ref p) H))):=by
 intro AN s σ H xs us Q I r h;obtain⟨p,ys,rfl,h⟩:=h;obtain⟨u,rfl,g⟩:=BE r;cases g;rcases h with⟨a,q⟩|⟨a,q⟩
 ·obtain⟨AQ,c,pl,f⟩:=I.list a;have j:=c.length;refine call_tuple_list pl.isList (λh' kp=>?_) (by simp only[zC]<;>omega);have d:AU X AN σ H { s with heap:=h' }:=I.kept (t':=s.toks) kp;have i:AU X AN σ (B6 H h'.objs.size (.tup ys)) { s with heap:=h'.push { cls:=.type "tuple",data:=.seq AQ.toArray } }:=
   d.laid (t':=s.toks) (λb o e=>zd _ e) (zo _) (show iD X.prog X.w _ _ _ (.tup ys) from⟨f,AQ,c,wH.new _ _⟩)
  exact⟨.ref h'.objs.size,_,i,rfl,q _ (d.hok.fresh (zo _))⟩
 ·obtain⟨AQ,c,pl,f⟩:=I.tuple a;exact call_tuple_same pl ⟨.ref p,H,I,rfl,q⟩
def MZ(K:B1)(T:String)(x:V)(H:Hp):Prop:=match x with
 |.str _=>T ="str"
 |.int _=>T ="int"
 |.ref p=>(T ="list" ∧ ∃xs,wJ K H p xs)\/(T ="tuple" ∧ ∃o,K.lookup p=U o/\o.cls=.type "tuple" ∧ o.dict=Y) ∨
   (T ="dict" ∧ ((∃AO,H p=U (.dK AO))\/∃AO,H p=U (.dT AO)))\/(T ="set" ∧ ∃S n,H p=U (.set S n))
 |_=>False
theorem VU{σ:St}{H:Hp}{T:String}{x:V}{v:A0}(I:AU X AN σ H s)(r:Au x v)(ty:MZ X.K T x H):
  s.TypeIs v T/\∀a,v=.ref a->∃d,s.heap.get? a=U d/\d.dict=Y:=by
 cases x with
 |str z=>
  obtain⟨t,rfl⟩:=r;cases(show T ="str" from ty);exact⟨typeIs_str s z t,λ_ e=>nomatch e⟩
 |int i=>
  obtain⟨t,rfl⟩:=r;cases(show T ="int" from ty);exact⟨typeIs_int s i t,λ_ e=>nomatch e⟩
 |ref p=>
  cases r;rcases ty with⟨rfl,xs,f⟩|⟨rfl,o,b,g,hd⟩|⟨rfl,b⟩|⟨rfl,S,n,b⟩
  ·obtain⟨AQ,_,pl,_⟩:=I.list f;refine⟨pl.isList.typeIs,λa e=>?_⟩;cases e;obtain⟨o,n,e,c,hd,_⟩:=pl;exact⟨o,e,hd⟩
  ·refine⟨⟨o,I.kIn p o b,g⟩,λa e=>?_⟩;cases e;exact⟨o,I.kIn _ o b,hd⟩
  ·have z:∃o,s.heap.get? p=U o/\o.ExactDict:=by
    rcases b with⟨AO,b⟩|⟨AO,b⟩
    ·obtain⟨_,_,_,_,o,_,_,e,ex,_⟩:=I.hok p _ b;exact⟨o,e,ex⟩
    ·obtain⟨_,_,_,_,o,_,_,e,ex,_⟩:=I.hok p _ b;exact⟨o,e,ex⟩
   obtain⟨o,e,ex⟩:=z;refine⟨⟨o,e,ex.1⟩,λa e2=>?_⟩;cases e2;exact⟨o,e,ex.2.1⟩
  ·obtain⟨o,_,_,_,e,ex,_⟩:=I.hok p _ b;refine⟨⟨o,e,ex.1⟩,λa e2=>?_⟩;cases e2;exact⟨o,e,ex.2.1⟩
 |_=>exact False.elim ty
def gp(K:B1)(T:String)(r:V->Z V->Hp->VK->Prop)(to:TE)(t:TA):TE:=λσ H Q=>to σ H λx H1=>MZ K T x H1/\t σ H1 λxs H2=>r x xs H2 Q
variable{o:Expr}{to:TE}{t:TA}{T id:String}{r:V->Z V->Hp->VK->Prop}
theorem Z5(pa:PlainAttrs T)(slot:Slot T name id)(f:typeOf (.builtin id)=pure (.type "method_descriptor"))(d:N4 X id r)(ho:PE X o to)(ha:PA X (e::es) t)
  (g:attributeBase o name X.env (eval o X.env)=eval o X.env:=by rfl)
  (b:((AD cpos (A9 (e::es) X.env)).all (λx=>!x.1)&&(backToKw cpos (keywordEach [] X.env)).all (λx=>x.1.isSome)
   && decide ((e::es).length+([]:Z AC).length+(if([]:Z AC).isEmpty then 0 else 1)<30))=true:=by rfl)
  (i:(apos.endLine==cpos.line)=true:=by rfl) (hs:A9 (e::es) X.env=(false,eval e X.env)::A9 es X.env:=by rfl) (c:(AD cpos (A9 es X.env)).any (·.1)=false:=by rfl):
  PE X (.Call (.Attribute o name apos) (e::es) [] cpos) (gp X.K T r to t):=by
 intro AN s σ H Q I h;refine wpAny_Call_method_late g b i S (jc (ho AN s σ H _ I h) λv s1 ⟨x,H1,I1,r1,ty,q1⟩=>?_);obtain⟨h1,h2⟩:=VU I1 r1 ty;refine⟨T,id,pa,slot,f,h1,h2,?_⟩;have a:=ha cpos AN s1 σ H1 _ I1 q1;rw[hs]at a ⊢;refine Calls.callWith_builtin (by show(false||(AD cpos (A9 es X.env)).any (·.1))=false;rw[c]<;>rfl) (Calls.evalArgs_plain ?_);exact jc a λus s2 ⟨vs,H2,I2,r2,q2⟩=>d AN s2 σ H2 x vs v us Q I2 r1 r2 q2
end
end L2
namespace L2
def N1(X:Cx)(id:String)(r:V->Z V->Hp->VK->Prop):Prop:=
 ∀(AN:Z (A1×AE)) (s:A2) (σ:St) (H:Hp) (x:V) (xs:Z V) (v:A0) (us:Z A0) (Q:VK),AU X AN σ H s->Au x v->AX xs us->r x xs H Q →
  A7 (A8 X.prog X.w) X.A (call (.builtin id) (v::us)) (EP X AN σ Q) X.xe s
theorem AX.one:∀{x:V} {us:Z A0},AX [x] us->∃u,us=[u]/\Au x u
 |_,_,.cons r .nil=>⟨_,rfl,r⟩
theorem AX.two:∀{x y:V} {us:Z A0},AX [x,y] us->∃u v,us=[u,v]/\Au x u/\Au y v
 |_,_,_,.cons r (.cons q .nil)=>⟨_,_,rfl,r,q⟩
theorem AX.eraseIdx:∀{xs:Z V} {us:Z A0} (i:Nat),AX xs us->AX (xs.eraseIdx i) (us.eraseIdx i)
 |_,_,_,.nil=>.nil
 |_,_,0,.cons _ t=>t
 |_,_,i+1,.cons r t=>.cons r (AX.eraseIdx i t)
theorem AX.reverse{xs:Z V}(h:AX xs us):AX xs.reverse us.reverse:=by
 induction h with
 |nil=>exact .nil
 |cons r t a=>rw[kA,kA];exact AX.append a (.cons r .nil)
theorem K9{α:Type}:∀(l:Z α) (i:Nat),(l.eraseIdx i).length<=l.length
 |[],_=>zo _
 |_::_,0=>Ki _
 |_::r,i+1=>Nat.succ_le_succ (K9 r i)
section
variable{X:Cx}{σ:St}{H:Hp}{l b:A1}{xs ys zs:Z V}
theorem AU.Z6{its':Z A0}{f:Array A0->Array A0}{t':Nat}(I:AU X AN σ H s)(g:H l=U (.lst xs))(e:s.heap.get? l=U { cls:=.type "list",data:=.seq AQ.toArray n })(b:f AQ.toArray=its'.toArray)(a:AX ys its')(c:ys.length<=AA):
  AU X AN σ (B6 H l (.lst ys)) { s with heap:=s.heap.update l (Obj.mapSeq f),toks:=t' }:=by
 have q:=PySem.IsL.update e f;rw[b]at q;refine I.write (x:=l) (e:=l) (by rw[g];exact trivial) (.inl S) (λh u hb d=>(Heap.get?_update_other s.heap (Obj.mapSeq f) (KO hb)).trans d) ⟨_,q⟩ ?_;exact⟨c,its',_,a,q⟩
theorem AU.aiE(I:AU X AN σ H s)(a:H l=U (.lst xs)):xs.length<=AA/\∃(AQ:Z A0) (n:Nat),AX xs AQ/\xs.length=AQ.length/\s.heap.get? l=U { cls:=.type "list",data:=.seq AQ.toArray n }:=by
 obtain⟨z,AQ,n,r,e⟩:=I.hok l _ a;exact⟨z,AQ,n,r,r.length,e⟩
end
section
variable{X:Cx}
def dr:V->Z V->Hp->VK->Prop:=λx vs H Q=>∃l xs y,x=.ref l/\vs=[y]/\H l=U (.lst xs)/\xs.length<AA/\Q .non (B6 H l (.lst (xs++[y])))
theorem La:N1 X "list.append" dr:=by
 intro AN s σ H x vs v us Q I b c h;obtain⟨l,xs,y,rfl,rfl,a,g,q⟩:=h;cases b;obtain⟨u,rfl,d⟩:=c.one;obtain⟨z,AQ,n,r,f,e⟩:=I.aiE a;refine call_meets F.slot_list_append ⟨_,e,rfl⟩ F.entry_list_append (F.args_list_append_2 _ _) (PySem.list_append l AQ.toArray n u (by rw[zC];omega)) ⟨e,?_⟩;refine⟨.non,_,I.Z6 (its':=AQ++[u]) a e (by simp) (r.append (.cons d .nil)) ?_,rfl,q⟩;rw[zI,List.length_singleton];omega
def PY:V->Z V->Hp->VK->Prop:=λx vs H Q=>∃l xs i k y,x=.ref l/\vs=[.int i]/\H l=U (.lst xs) ∧ -(2 ^ 63)<=i/\i<2 ^ 63/\seqIndex? i xs.length=U k/\xs[k]?=U y/\Q y (B6 H l (.lst (xs.eraseIdx k)))
theorem Z7:N1 X "list.pop" PY:=by
 intro AN s σ H x vs v us Q I c g h;obtain⟨l,xs,i,k,y,rfl,rfl,a,h1,h2,f,o,q⟩:=h;cases c;obtain⟨u,rfl,j⟩:=g.one;obtain⟨t,rfl⟩:=j;obtain⟨z,AQ,n,r,m,e⟩:=I.aiE a;obtain⟨w,d,b⟩:=r.get o;refine call_meets F.slot_list_pop ⟨_,e,rfl⟩ F.entry_list_pop (F.args_list_pop_2 _ _)
  (MeetsSeq.list_pop_at l AQ.toArray n i t k w (fitsIndex_both h1 h2) (by rw[zC,<-m];exact f) (by rw[<-qv];exact d) (by rw[zC];omega)) ⟨e,?_⟩
 refine⟨y,_,I.Z6 (its':=AQ.eraseIdx k) a e ?_ (r.eraseIdx k) ?_,b,q⟩
 ·show AQ.toArray.eraseIdxIfInBounds k=(AQ.eraseIdx k).toArray;rw[List.eraseIdxIfInBounds_toArray]
 ·have:=K9 xs k;omega
end
section
variable{X:Cx}
end
end L2
namespace L2
section
variable [DecidableEq κ]
def CK(AO:Z (κ×V))(k:κ):O V:=(AO.find? λa=>decide (a.1=k)).map (·.2)
def BC(AO:Z (κ×V))(k:κ)(v:V):Z (κ×V):=
 if(AO.any λa=>decide (a.1=k))=true then AO.map (λa=>if a.1=k then(a.1,v)else a)else AO++[(k,v)]
theorem z7{p:κ×V}{r:Z (κ×V)}{k:κ}(e:p.1=k):CK (p::r) k=U p.2:=by simp[CK,kr,e]
theorem z8{p:κ×V}{r:Z (κ×V)}{k:κ}(e:¬ p.1=k):CK (p::r) k=CK r k:=by simp[CK,kr,e]
theorem Qp(k:κ):∀AO:Z (κ×V),(AO.any λa=>decide (a.1=k))=(CK AO k).isSome
 |[]=>rfl
 |p::r=>by
  rw[kc];by_cases e:p.1=k
  ·simp only[z7 e,Zs e,Bool.true_or,KL]
  ·rw[z8 e,z5 e,Bool.false_or];exact Qp k r
theorem nT(AO:Z (κ×V))(k:κ)(v:V):(BC AO k v).length<=AO.length+1:=by
 unfold BC;split
 ·rw[zh];omega
 ·rw[zI,ZZ,List.length_nil];omega
theorem G4.CN{o:O V}{u:O A0}(r:G4 o u):o.isSome=u.isSome:=by
 cases o with
 |none=>cases u with
  |none=>rfl
  |some _=>exact(show False from r).elim
 |some _=>cases u with
  |none=>exact(show False from r).elim
  |some _=>rfl
theorem KV.val{AO:Z (κ×V)}{vs:Z (κ×A0)}(r:KV AO vs)(k:κ):G4 (CK AO k) (valueAt vs k):=by
 unfold KV at r
 induction r with
 |nil=>exact True.intro
 |@cons p q ps a h t c=>
  obtain⟨h1,h2⟩:=h;by_cases e:p.1=k
  ·have e':q.1=k:=h1.symm.trans e;have b:valueAt (q::a) k=U q.2:=by simp[valueAt,kr,e']
   rw[z7 e,b];exact h2
  ·have e':¬ q.1=k:=λz=>e (h1.trans z);have b:valueAt (q::a) k=valueAt a k:=by simp[valueAt,kr,e']
   rw[z8 e,b];exact c
theorem KV.any{AO:Z (κ×V)}{vs:Z (κ×A0)}(r:KV AO vs)(k:κ):(AO.any λa=>decide (a.1=k))=vs.any λa=>decide (a.1=k):=by
 unfold KV at r
 induction r with
 |nil=>rfl
 |cons h t b=>rw[kc,kc,b,h.1]
theorem KV.repl{AO:Z (κ×V)}{vs:Z (κ×A0)}(r:KV AO vs)(k:κ){y:V}(c:Au y u):
  KV (AO.map λa=>if a.1=k then(a.1,y)else a) (vs.map λa=>if a.1=k then(a.1,u)else a):=by
 unfold KV at r ⊢
 induction r with
 |nil=>exact .nil
 |@cons p q ps d h t b=>
  rw[zr,zr];refine .cons ?_ b;obtain⟨h1,h2⟩:=h;by_cases e:p.1=k
  ·rw[zk e,zk (h1.symm.trans e)];exact⟨h1,c⟩
  ·rw[zw e,zw (λz=>e (h1.trans z))];exact⟨h1,h2⟩
theorem KV.put{AO:Z (κ×V)}{vs:Z (κ×A0)}(r:KV AO vs)(k:κ){y:V}(a:Au y u):KV (BC AO k y) (stored vs k u):=by
 unfold BC stored;rw[r.any k];by_cases e:(vs.any λb=>decide (b.1=k))=true
 ·rw[zk e,zk e];exact r.repl k a
 ·rw[zw e,zw e];exact Paired.snoc r ⟨rfl,a⟩
theorem KV.length{AO:Z (κ×V)}{vs:Z (κ×A0)}(r:KV AO vs):AO.length=vs.length:=Paired.length r
end
theorem G9{k:AY}(r:Au (kV k) u):(bw P w).is k u=true:=by
 cases k with
 |inl i=>obtain⟨t,e⟩:=(show ∃t,u=Value.int i t from r);subst e;exact Qj P w i t
 |inr x=>obtain⟨t,e⟩:=(show ∃t,u=Value.str x t from r);subst e;exact Qk P w x t
theorem Lb{P:A3}{w:A4}:∀{ks:Z AY} {us:Z A0},AX (ks.map kV) us->ItemsAre (bw P w) ks us
 |[],_,r=>by rw[JY]at r;cases r;exact .nil
 |k::ks,_,r=>by
  rw[zr]at r;cases r with
  |cons h t=>exact .cons (G9 h) (Lb t)
abbrev KT(H:Hp):Z (Z AY×V)->Z (Z AY×A1×A0)->Prop:=AI λp q=>p.1=q.1/\H q.2.1=U (.tup (p.1.map kV))/\Au p.2 q.2.2
theorem KT.val{H:Hp}{AO:Z (Z AY×V)}{xs:Z (Z AY×A1×A0)}(r:KT H AO xs)(k:Z AY):G4 (CK AO k) ((atKey xs k).map (·.2)):=by
 induction r with
 |nil=>exact True.intro
 |@cons p q ps a h t c=>
  obtain⟨h1,_,h2⟩:=h;by_cases e:p.1=k
  ·have e':q.1=k:=h1.symm.trans e;have b:atKey (q::a) k=U q.2:=by simp[atKey,kr,e']
   rw[z7 e,b];exact h2
  ·have e':¬ q.1=k:=λz=>e (h1.trans z);have b:atKey (q::a) k=atKey a k:=by simp[atKey,kr,e']
   rw[z8 e,b];exact c
theorem KT.repl{H:Hp}{AO:Z (Z AY×V)}{xs:Z (Z AY×A1×A0)}(r:KT H AO xs)(k:Z AY){y:V}(d:Au y u):
  KT H (AO.map λa=>if a.1=k then(a.1,y)else a) (xs.map (putAt k u)):=by
 induction r with
 |nil=>exact .nil
 |@cons p q ps f h t c=>
  rw[zr,zr];refine .cons ?_ c;obtain⟨h1,h2,b⟩:=h;unfold putAt;by_cases e:p.1=k
  ·rw[zk e,zk (h1.symm.trans e)];exact⟨h1,h2,d⟩
  ·rw[zw e,zw (λz=>e (h1.trans z))];exact⟨h1,h2,b⟩
theorem KT.put{H:Hp}{AO:Z (Z AY×V)}{xs:Z (Z AY×A1×A0)}(r:KT H AO xs)(k:Z AY){b:A1}{y:V}(hb:H b=U (.tup (k.map kV)))(a:Au y u):
  KT H (BC AO k y) (storedH xs k b u):=by
 have e:(AO.any λc=>decide (c.1=k))=(atKey xs k).isSome:=by
  rw[Qp,(r.val k).CN,Option.isSome_map]
 unfold BC storedH;rw[e];by_cases q:(atKey xs k).isSome=true
 ·rw[zk q,zk q];exact r.repl k a
 ·rw[zw q,zw q];exact Paired.snoc r ⟨rfl,hb,a⟩
theorem KT.keeps{H H':Hp}{AO:Z (Z AY×V)}{xs:Z (Z AY×A1×A0)}(r:KT H AO xs)(a:∀b ys,H b=U (.tup ys)->H' b=U (.tup ys)):KT H' AO xs:=
 Paired.acN r λ_ _ z=>⟨z.1,a _ _ z.2.1,z.2.2⟩
section
variable{H:Hp}
theorem LS{u:HO}(ok:zW P w H h)(e:Rd H a u):iD P w H h a u:=e.ok ok
theorem vY{AO:Z (AY×V)}(ok:zW P w H h)(e:Rd H a (.dK AO)):AO.length<=AA/\(a==sysModules)=false/\∃vs,KV AO vs/\h.DictOf (bw P w) a vs:=
 show iD P w H h a (.dK AO) from LS ok e
theorem Z8{AO:Z (AY×V)}(ok:zW P w H h)(e:H a=U (.dK AO)):AO.length<=AA/\(a==sysModules)=false/\∃vs,KV AO vs/\h.DictOf (bw P w) a vs:=vY ok (.inl e)
theorem Nr{ks:Z AY}(ok:zW P w H h)(e:H a=U (.tup (ks.map kV))):(tupleKind (bw P w)).is h ks a:=by
 obtain⟨_,AQ,r,o,h1,h2,⟨n,b⟩,_⟩:=(show iD P w H h a (.tup (ks.map kV)) from ok a _ e);exact⟨o,AQ.toArray,n,h1,h2,b,by simpa using Lb r⟩
theorem Wb{AO:Z (Z AY×V)}(ok:zW P w H h)(e:Rd H a (.dT AO)):AO.length<=AA/\(a==sysModules)=false ∧
  ∃xs,KT H AO xs/\h.DictOfH (tupleKind (bw P w)) a xs:=by
 obtain⟨z,y,xs,r,o,es,ep,h1,h2,f,d,c⟩:=(show iD P w H h a (.dT AO) from LS ok e);refine⟨z,y,xs,r,o,es,ep,h1,h2,f,d,λx hx=>?_,c⟩;have all:∀{l:Z (Z AY×V)} {m:Z (Z AY×A1×A0)},KT H l m->∀x∈m,(tupleKind (bw P w)).is h x.1 x.2.1:=by
  intro l m q
  induction q with
  |nil=>intro x hx;exact nomatch hx
  |@cons p q ps i b t g=>
   intro x hx;rcases List.mem_cons.mp hx with e|hx
   ·subst e;exact Nr ok (by rw[<-b.1];exact b.2.1)
   ·exact g x hx
 exact all r x hx
theorem Pf{AO:Z (Z AY×V)}(ok:zW P w H h)(e:H a=U (.dT AO)):AO.length<=AA/\(a==sysModules)=false ∧
  ∃xs,KT H AO xs/\h.DictOfH (tupleKind (bw P w)) a xs:=Wb ok (.inl e)
end
def Z9(H:Hp)(a:A1)(y:V)(r:O V):Prop:=
 (∃AO k,Rd H a (.dK AO)/\y=kV k/\r=CK AO k)\/∃AO k b,Rd H a (.dT AO)/\y=.ref b/\H b=U (.tup (k.map kV))/\r=CK AO k
def FF(H:Hp)(a:A1)(y v:V)(H':Hp):Prop:=
 (∃AO k,H a=U (.dK AO)/\y=kV k/\AO.length<AA/\H'=B6 H a (.dK (BC AO k v))) ∨
 ∃AO k b,H a=U (.dT AO)/\y=.ref b/\H b=U (.tup (k.map kV))/\AO.length<AA/\H'=B6 H a (.dT (BC AO k v))
theorem FF.k{H:Hp}{a:A1}{AO:Z (AY×V)}{k:AY}{v:V}(e:H a=U (.dK AO))(b:AO.length<AA):FF H a (kV k) v (B6 H a (.dK (BC AO k v))):=.inl ⟨AO,k,e,rfl,b,rfl⟩
section
variable{X:Cx}{σ:St}{H:Hp}{y v:V}{r:A0}{o:O V}
theorem AU.big(I:AU X AN σ H s):sysModules<s.heap.objs.size:=by
 have h:mainGlobals<s.heap.objs.size:=(I.mod.glob.keeps I.bk).lt;exact Nat.lt_trans (by decide) h
theorem X5{Q:BA}(t:A.units+1<cLine)(I:AU X AN σ H s)(g:Z9 H a y (U v))(n:Au y u)(h:∀c s',AU X AN σ H s'->Au v c->Q c s'):
  A7 (A8 X.prog X.w) A (getItem (.ref a) u) Q E s:=by
 rcases g with⟨AO,k,e,m,l⟩|⟨AO,k,b,e,m,eb,l⟩
 ·subst m;obtain⟨z,hd,vs,i,j⟩:=vY I.hok e;obtain⟨c,f,d⟩:=G4.some_of (v:=v) (o:=valueAt vs k) (by rw[l];exact i.val k);exact wpAny_getItem_of (G9 n) j.mapOf f (h c _ (I.tok _) d)
 ·subst m;cases(show u=Value.ref b from n);obtain⟨z,hd,xs,i,j⟩:=Wb I.hok e;obtain⟨c,f,d⟩:=G4.some_of (v:=v) (o:=(atKey xs k).map (·.2)) (by rw[l];exact i.val k);obtain⟨p,hp,q⟩:=Option.map_eq_some_iff.mp f;refine wpAny_getItem_heap (tupleKind_room_in1 t) (Nr I.hok eb) j hp ?_;rw[q];exact h c _ (I.tok _) d
theorem g0{Q:BA}(j:A.units+1<cLine)(I:AU X AN σ H s)(g:Z9 H a y o)(i:Au y u)(h:∀s',AU X AN σ H s'->Q (.bool (!o.isSome)) s'):
  A7 (A8 X.prog X.w) A (AG .NotIn u (.ref a)) Q E s:=by
 rcases g with⟨AO,k,e,f,l⟩|⟨AO,k,b,e,f,eb,l⟩
 ·subst f;obtain⟨z,hd,vs,c,d⟩:=vY I.hok e;refine wpAny_notIn_of (G9 i) hd d.mapOf ?_;rw[<-(c.val k).CN,<-l];exact h _ (I.tok _)
 ·subst f;cases(show u=Value.ref b from i);obtain⟨z,hd,xs,c,d⟩:=Wb I.hok e;refine wpAny_notIn_heap (tupleKind_room_in1 j) (Nr I.hok eb) hd d ?_;have q:=(c.val k).CN;rw[Option.isSome_map]at q;rw[<-q,<-l];exact h _ (I.tok _)
theorem Gu{h':A6}{t':Nat}{c:HO}(I:AU X AN σ H s)(d:Ee (H a))(hs:Heap.SameBut a s.heap h')(he:∃q,h'.get? a=U q)(new:iD X.prog X.w (B6 H a c) h' a c):
  AU X AN σ (B6 H a c) { s with heap:=h',toks:=t' }:=
 I.write (x:=a) (e:=a) d (.inl S) (λb q hb z=>(hs.2 b hb).trans z) he new
theorem T8{H':Hp}{h':A6}{AO:Z (AY×V)}{vs:Z (AY×A0)}(z:AO.length<=AA)(hd:(a==sysModules)=false)(c:KV AO vs)(b:h'.DictOf (bw P w) a vs):
  iD P w H' h' a (.dK AO):=⟨z,hd,vs,c,b⟩
theorem X6{H':Hp}{Q:Unit->A2->Prop}(J:A.units+1<cLine)(I:AU X AN σ H s)(g:FF H a y v H')(B:Au y u)(x:Au v r)(h:∀s',AU X AN σ H' s'->Q () s'):
  A7 (A8 X.prog X.w) A (setItem (.ref a) u r) Q E s:=by
 rcases g with⟨AO,k,e,p,l,n⟩|⟨AO,k,b,e,p,eb,l,n⟩
 ·subst p n;obtain⟨z,hd,vs,d,j⟩:=Z8 I.hok e;have o:vs.length<=AA:=by rw[<-d.length];exact z
  have m:(BC AO k v).length<=AA:=by have:=nT AO k v;omega
  refine wpAny_setItem_pairs (hsz:=o) (G9 B) j λh' f hs=>h _ ?_;have G:∃q,h'.get? a=U q:=let ⟨q,_,_,i,_⟩:=f;⟨q,i⟩;exact Gu I (by rw[e];exact True.intro) hs G (T8 m hd (d.put k x) f)
 ·subst p n;cases(show u=Value.ref b from B);obtain⟨z,hd,xs,d,j⟩:=Pf I.hok e;have o:xs.length<=AA:=by rw[<-Paired.length d];exact z
  have m:(BC AO k v).length<=AA:=by have:=nT AO k v;omega
  refine wpAny_setItem_heap (hsz:=o) (tupleKind_room_in1 J) (Nr I.hok eb) j λh' f hs=>h _ ?_;obtain⟨q,es,ep,i,h2,F,D,_,C⟩:=f;refine Gu I (by rw[e];exact True.intro) hs ⟨q,i⟩ ⟨m,hd,_,(d.put k eb x).keeps λc ys t=>?_,q,es,ep,i,h2,F,D,C⟩;rw[aR (pG t e (λz=>nomatch z))];exact t
end
section
variable{X:Cx}{σ:St}{H:Hp}{AO:Z (AY×V)}{k:AY}
end
def IY(i:Expr):Prop:=∀a iv,subscripted i false a iv=operate [a,iv] (getItem a iv)
theorem eW{value a:Expr}{T id:String}{Q:BA}(l:typeLookup (.type T) "__getitem__"=pure (U (.builtin id)))(hs:IY a)(h:A7 (A8 prog w) A (eval value env) (λo g=>A7 (A8 prog w) A (eval a env) (λi b=>b.TypeIs o T/\A7 (A8 prog w) A (getItem o i) Q E b) E g) E s):
  A7 (A8 prog w) A (eval (.Subscript value a pos) env) Q E s:=by
 refine Subscript_ (QI h (λo g m=>QI m (λi b c=>?_) λ_ _ x=>x) λ_ _ x=>x);obtain⟨e,c⟩:=c;unfold subscriptTail;refine zb ?_;rw[getitemInPython_of_ne e.not_modules];refine zb (wpAny_specialOf e l ?_);have d:A7 (A8 prog w) A (subscripted a false o i) (λr f=>A7 (A8 prog w) A (letTemporaryGo value o r >>= λ_=>pure r) Q E f) E b:=by
  rw[hs o i];exact wpAny_operating (QI c (λr f j=>zb (wpAny_letTemporaryGo (ze j))) λ_ _ x=>x)
 first
  |exact ze (zb d)
  |exact zb (ze (zb d))
  |exact zb d
theorem Qq{X:Cx}{σ:St}{H:Hp}{y:V}{o:O V}(I:AU X AN σ H s)(g:Z9 H a y o):s.TypeIs (.ref a) "dict":=by
 rcases g with⟨AO,k,e,_,_⟩|⟨AO,k,b,e,_,_,_⟩
 ·obtain⟨_,_,vs,_,c⟩:=vY I.hok e;exact c.typeIs
 ·obtain⟨_,_,xs,_,c⟩:=Wb I.hok e;exact c.typeIs
def VQ(td ty:TE):TE:=λσ H Q=>td σ H λx H1=>ty σ H1 λy H2=>∃a v,x=.ref a/\Z9 H2 a y (U v)/\Q v H2
def P6(td ty tv:TE):TS:=λD σ H=>tv σ H λv H1=>td σ H1 λx H2=>ty σ H2 λy c=>∃a b,x=.ref a/\FF c a y v b/\D.nx σ b
section
variable{X:Cx}{o i value:Expr}{pos':Pos}{td ty tv:TE}
theorem XG(d:X.A.units+1<cLine)(ho:PE X o td)(hi:PE X i ty)(hs:IY i):PE X (.Subscript o i pos) (VQ td ty):=by
 intro AN s σ H Q I h;refine eW PySem.F.slot_dict_getitem.lookup hs (jc (ho AN s σ H _ I h) λu s1 ⟨x,H1,I1,rx,q1⟩=>jc (hi AN s1 σ H1 _ I1 q1) λiv s2 ⟨y,H2,I2,ry,a,v,ex,g,q2⟩=>?_);subst ex;obtain rfl:u=Value.ref a:=rx;exact⟨Qq I2 g,X5 d I2 g ry λe f c b=>⟨v,H2,c,b,q2⟩⟩
theorem UC(d:X.A.units+1<cLine)(ho:PE X o td)(hi:PE X i ty)(b:PE X value tv)(hs:swapsWith value (U (.Subscript o i pos')) pos.line X.env=pure false):
  PS X (.Assign [.Subscript o i pos'] value pos) (P6 td ty tv):=by
 intro AN s σ H D I h;refine wpAny_Assign_Subscript (jc (b AN s σ H _ I h) λr s1 ⟨v,H1,I1,rv,q1⟩=>jc (ho AN s1 σ H1 _ I1 q1) λu s2 ⟨x,H2,I2,rx,q2⟩=>jc (hi AN s2 σ H2 _ I2 q2) λiv s3 ⟨y,H3,I3,ry,a,H4,ex,g,q3⟩=>?_) hs;subst ex;obtain rfl:u=Value.ref a:=rx;exact X6 d I3 g ry rv λe c=>⟨σ,H4,c,q3⟩
end
theorem Qs{H:Hp}(h:A6)(hb:sysModules<h.objs.size):iD P w H (h.push { cls:=.type "dict",data:=.dict #[] }) h.objs.size (.dK []):=
 ⟨QP _,beq_eq_false_iff_ne.mpr (KO (zS hb)),[],.nil,Heap.DictOf.new h⟩
section
variable{X:Cx}
end
def T9:Z (TE×TE)->St->Hp->(Z (V×V)->Hp->Prop)->Prop
 |[],_,H,Q=>Q [] H
 |(tk,tv)::r,σ,H,Q=>tk σ H λx H1=>tv σ H1 λy H2=>T9 r σ H2 λps a=>Q ((x,y)::ps) a
abbrev VV:Z (V×V)->Z (A0×A0)->Prop:=AI λp q=>Au p.1 q.1/\Au p.2 q.2
def FO(X:Cx)(pos:Pos)(b:Z (O Expr))(a:Z Expr)(c:Z (TE×TE)):Prop:=
 ∀(AN:Z (A1×AE)) (s:A2) (σ:St) (H:Hp) (Q:Z (V×V)->Hp->Prop),AU X AN σ H s->T9 c σ H Q →
  A7 (A8 X.prog X.w) X.A (evalPairs (pairTrees b a X.env pos)) (λvs s'=>∃ps H',AU X AN σ H' s'/\VV ps vs/\Q ps H') X.xe s
theorem dy{X:Cx}:FO X pos [] [] []:=λAN s σ H Q I h=>pairTrees_nil_walk ⟨[],H,I,.nil,h⟩
theorem f'{X:Cx}{k v:Expr}{ks:Z (O Expr)}{vs:Z Expr}{tk tv:TE}{a:Z (TE×TE)}(c:PE X k tk)(b:PE X v tv)(d:FO X pos ks vs a):
  FO X pos (U k::ks) (v::vs) ((tk,tv)::a):=λAN s σ H Q I h=>
 pairTrees_cons_walk (jc (c AN s σ H _ I h) λu s1 ⟨x,H1,I1,rx,q1⟩=>jc (b AN s1 σ H1 _ I1 q1) λw2 s2 ⟨y,H2,I2,ry,q2⟩=>
  jc (d AN s2 σ H2 _ I2 q2) λws s3 ⟨ps,H3,I3,rel,q3⟩=>⟨(x,y)::ps,H3,I3,.cons ⟨rx,ry⟩ rel,q3⟩)
def CP(AO more:Z (AY×V)):Z (AY×V):=more.foldl (λb a=>BC b a.1 a.2) AO
theorem KV.merge:∀{more:Z (AY×V)} {rs:Z (AY×A0)} {AO:Z (AY×V)} {vs:Z (AY×A0)},KV more rs->KV AO vs->KV (CP AO more) (merged vs rs):=by
 intro more rs AO vs r;unfold KV at r
 induction r generalizing AO vs with
 |nil=>intro q;exact q
 |@cons p q ps c h t a=>
  intro b;have e:KV (BC AO p.1 p.2) (stored vs q.1 q.2):=by
   have:=b.put p.1 h.2;rw[<-h.1];exact this
  exact a e
theorem yS:∀(more AO:Z (AY×V)),(CP AO more).length<=AO.length+more.length
 |[],AO=>by show AO.length<=AO.length+0;omega
 |p::r,AO=>by
  have h1:=yS r (BC AO p.1 p.2);have h2:=nT AO p.1 p.2;show(CP (BC AO p.1 p.2) r).length<=_;rw[ZZ];omega
theorem Hf{P:A3}{w:A4}:∀{AO:Z (AY×V)} {e:Z (A0×A0)},VV (AO.map λd=>(kV d.1,d.2)) e->∃rs,Carries (bw P w) e rs/\KV AO rs
 |[],_,r=>by rw[JY]at r;cases r;exact⟨[],True.intro,.nil⟩
 |p::AO,_,r=>by
  rw[zr]at r;cases r with
  |@cons a b as bs h t=>
   obtain⟨rs,c,q⟩:=Hf (P:=P) (w:=w) t;obtain⟨b1,b2⟩:=b;exact⟨(p.1,b2)::rs,⟨G9 h.1,rfl,c⟩,.cons ⟨rfl,h.2⟩ q⟩
def be(b:Z (TE×TE)):TE:=λσ H Q=>∀p,H p=Y->T9 b σ (B6 H p (.dK [])) λps H2=>H2 p=U (.dK [])/\∃AO:Z (AY×V),ps=AO.map (λa=>(kV a.1,a.2))/\AO.length<=15/\Q (.ref p) (B6 H2 p (.dK (CP [] AO)))
theorem WB{X:Cx}{b:Z (O Expr)}{d:Z Expr}{g:Z (TE×TE)}(h:FO X pos b d g)(u:b.all (·.isSome)=true)(n:b.length=d.length)(h0:b≠[])(i:b.length<=15):PE X (.Dict b d pos) (be g):=by
 intro AN s σ H Q I q;have t:=I.hok.fresh (zo s.heap.objs.size);have m:=I.laid (a:=s.heap.objs.size) (o:=.dK []) (h':=s.heap.push { cls:=.type "dict",data:=.dict #[] }) (t':=s.toks) (λ_ _ q=>zd _ q) (zo _) (Qs s.heap I.big);refine wpAny_Dict_walk (knd:=bw X.prog X.w) u n h0 i (jc (h AN _ σ _ _ m (q _ t)) λws s2 ⟨ps,H2,I2,rel,e,AO,ep,lk,q2⟩=>?_);subst ep;obtain⟨rs,c,rk⟩:=Hf (P:=X.prog) (w:=X.w) rel;obtain⟨z,hd,x,v,j⟩:=Z8 I2.hok e;cases v;refine⟨rs,c,j,λh' f hs=>⟨.ref s.heap.objs.size,_,?_,rfl,q2⟩⟩;have p:(CP [] AO).length<=AA:=by
  have h1:=yS AO [];rw[List.length_nil]at h1;rw[sizeLine_eq];omega
 have l:∃q,h'.get? s.heap.objs.size=U q:=let ⟨q,_,_,hq,_⟩:=f;⟨q,hq⟩;exact Gu I2 (by rw[e];exact True.intro) hs l (T8 p hd (rk.merge .nil) f)
structure M1 (X:Cx) (o:Expr) (m:Str) (apos:Pos) (e:Expr) (cpos:Pos):Prop where
 base:attributeBase o m X.env (eval o X.env)=eval o X.env
 few:((backTo cpos (starEach [e] X.env)).all (λx=>!x.1)&&(backToKw cpos (keywordEach [] X.env)).all (λx=>x.1.isSome)
  && decide (([e]:List Expr).length+([]:List Keyword).length+(if([]:List Keyword).isEmpty then 0 else 1)<30))=true
 line:(apos.endLine==cpos.line)=true
 trees:backTo cpos (starEach [e] X.env)=[(false,eval e X.env)]
structure M2 (X:Cx) (o:Expr) (m:Str) (apos:Pos) (e f:Expr) (cpos:Pos):Prop where
 base:attributeBase o m X.env (eval o X.env)=eval o X.env
 few:((backTo cpos (starEach [e,f] X.env)).all (λx=>!x.1)&&(backToKw cpos (keywordEach [] X.env)).all (λx=>x.1.isSome)
  && decide (([e,f]:List Expr).length+([]:List Keyword).length+(if([]:List Keyword).isEmpty then 0 else 1)<30))=true
 line:(apos.endLine==cpos.line)=true
 trees:backTo cpos (starEach [e,f] X.env)=[(false,eval e X.env),(false,eval f X.env)]
section
variable{X:Cx}{σ:St}{H:Hp}{y d:V}{r:A0}{o:O V}
end
section
variable{X:Cx}{o f:Expr}{td ty tx:TE}
end
section
variable{X:Cx}{σ:St}{H:Hp}{AO:Z (AY×V)}
end
section
variable{X:Cx}{σ:St}{H:Hp}{y:V}
end
end L2
namespace Att
open PySem PySem.W PySem.Calls PyProof.Rows
theorem Fq{P:Params}:∀(c:Z Int) (vs:Z A0),WellAll P h vs (c.map WData.int)->IntsAre vs c:=by
 intro c
 induction c with
 |nil=>
  intro vs w;rw[JY]at w;cases w;exact .nil
 |cons n c d=>
  intro vs w;rw[zr]at w;cases w with
  |cons a b=>
   cases a;exact .cons _ _ (d _ b)
theorem X7{l:OpenLaw}(u:l.most=U n){P:Params}{args:Z WData}{i:Z A0}(f:l.row.toRowW.claim.pre args=true)(w:WellAll P h i args):
  ∃a vs b,i=[Value.ref a]/\args=[WData.list (b.map WData.int)]/\h.get? a=U { cls:=.type "list",data:=.seq vs.toArray }/\IntsAre vs b/\b.length<=n:=by
 have s:WShape.hasAll [] args [.list .int]=true:=(pre_splitW f).1;have g:l.pre.holds [] { args:=args }=true:=(pre_splitW f).2;obtain⟨d,r,rfl,h1,h2⟩:=hasAllW_cons s;obtain rfl:=hasAllW_nil h2;obtain⟨xs,rfl,o⟩:=hasW_list h1;obtain⟨b,rfl⟩:=items_int o;have m:b.length<=n:=by
  unfold OpenLaw.pre at g;have e:(WTm.not (.lt (.lit (.int (n:Int))) (.len (.arg 0)))).holds [] { args:=[.list (b.map .int)] }=true:=by
   have e:=(holds_andW g).1;rw[u]at e;exact e
  have c:=condW_of e (w_not (w_lt w_lit (w_len_list (w_arg S))));rw[zh]at c;refine Nat.le_of_not_lt λq=>?_;have j:(n:Int)<((b.length:Nat):Int):=by omega
  first
   |(rw[Zs j]at c;exact absurd c (by decide))
   |(simp at c;omega)
 cases w with
 |cons p t=>
  cases t;cases p with
  |list ho v=>exact⟨_,_,b,rfl,rfl,ho,Fq b _ v,m⟩
theorem X8(l:OpenLaw)(args:Z WData):l.row.toRowW.claim.post args (.bool true) args=true:=
 postW_of (r:=l.row.toRowW) (X:=(true==true))
  (show WShape.has [] (.bool true) .bool=true by first|rfl|decide|simp[WShape.has,WShape.arms,WShape.armsAll])
  (show(WTm.eq .res (.lit (.bool true))).value [] { args:=args,res:=U (.bool true),after:=args }=U (.bool (true==true)) from w_eq_bool (w_res S) w_lit) rfl
theorem Qt{l:OpenLaw}{q:A3}{loose:AZ}{d:DefRec}(E:l.most=U n)(D:d.params.defaults=[])(call:∀(w:A4) (g b:A2) (mg h:AJ->O A0) (fa:A1) (o:AE) (j c i:A0) (a:A1) (vs:Z A0) (e:Z Int),
   Ground q loose [] XP w g mg h b.heap->YP w b.heap →
   b.heap.get? fa=U o->o.data=.func (docDef d.name d.params d.body d.scope j c i)->b.heap.CodeRec c d.name->mg d.name=U (.ref fa) →
   b.heap.get? a=U { cls:=.type "list",data:=.seq vs.toArray }->IntsAre vs e->e.length<=n->b.gens=#[] →
   AF (A8 l.prog w) callerA (.call (.ref fa) ⟨[.ref a],[]⟩) (λr s'=>r=.ok (.ret (.bool true))/\OldK b.heap s'.heap/\s'.os=b.os/\AllBare s'.gens) b):
  WalkO q loose XP YP l.row.toRowW d [] (λf vs=>PySem.call f vs):=by
 intro w g b mg h G Y fa o j c i x kV ho hd v m t hg I H as s J L F K;obtain rfl:x=.none:=Dflts.none m D;obtain rfl:kV=.none:=Dflts.noKw m;obtain⟨a,vs,e,rfl,rfl,B,z,A⟩:=X7 E s F;refine enter_call (codeAny_mono (call w g b mg h fa o j c i a vs e G Y ho (fd_plain hd) v t B z A hg) λr s' C=>?_);obtain⟨rfl,h2,u,p⟩:=C;exact⟨.inl ⟨.bool true,.bool true,[],rfl,λ_=>S,.bool true,X8 l _,λ_=>⟨List.Pairwise.nil,λ_ y=>(nomatch y)⟩⟩,h2,u,p⟩
section
variable{K:Frag}
end
end Att
namespace L2
theorem xY:∀{vs:Z A0} {a:Z Int},IntsAre vs a->AX (a.map V.int) vs
 |_,_,.nil=>.nil
 |_,_,.cons n t h=>.cons ⟨t,rfl⟩ (xY h)
def CY(H:Hp):Prop:=∀b,H b=Y\/∃o xs,H b=U (.vW o (.lst xs))
theorem dt{l:AJ->O A0}{CX:Zt}{k:Nat}{fa:A1}{sp:Sp}{c:A2}{vs:Z A0}{g:Z Int}(B:K.In c.heap)(y:c.heap.Ns mainGlobals mg)(hb:c.heap.Ns builtinsNs l)(Q:∀x:AJ,x ≠ "__name__" → l x=AH x)(a1:c.heap.NoLimit)(hg:c.gens=#[])(ha:c.heap.get? a=U { cls:=.type "list",data:=.seq vs.toArray })(hi:IntsAre vs g)(I:g.length<=AA)(hr:nR k callerA)(F:∀base:A6,K.In base->base.Ns mainGlobals mg->wM P w K mg base CX k fa fd [x] sp)(a5:∀(s:A2) (u:A0),BindsTo s fd ⟨[u],[]⟩ [(x,u)])(a2:∀H:Hp,CY H->wJ K H a (g.map V.int)->sp [.ref a] H (λv _=>v=.bl true) λ_ _ _=>False)(M:∀H e s',CX [] H c (λ_ _ _=>False) e s'->False):
  AF (A8 P w) callerA (.call (.ref fa) ⟨[.ref a],[]⟩) (λr s'=>r=.ok (.ret (.bool true))/\OldK c.heap s'.heap/\s'.os=c.os/\AllBare s'.gens) c:=by
 have D:=xY hi;have a0:=hi.length;have G:∀H:Hp,CY H->wJ K H a (g.map V.int)->zW P w H c.heap->(∀b,H b≠Y->b=a)->(H a≠Y->K.lookup a=Y) →
   AF (A8 P w) callerA (.call (.ref fa) ⟨[.ref a],[]⟩) (λr s'=>r=.ok (.ret (.bool true))/\OldK c.heap s'.heap/\s'.os=c.os/\AllBare s'.gens) c:=by
  intro H C X p A hK;have t:∀{b:A1} {o:AE},c.heap.get? b=U o->H b=Y->(M8 c.heap H).get? b=U o:=λe n=>ZD e n;have N:∀{b:A1} {o:AE} {es:Array DictEntry} {ep:Nat},c.heap.get? b=U o->o.data=.dict es ep->H b=Y:=λ{b o es ep} e d=>by
   cases q:H b with
   |none=>rfl
   |some u=>
    have e':b=a:=A b (by rw[q];simp);subst e';rw[ha]at e;cases e;have d':Data.seq vs.toArray _=Data.dict es ep:=d;cases d'
  have i:∀{b:A1} {m:AJ->O A0},c.heap.Ns b m->(M8 c.heap H).Ns b m:=λ{b m} ⟨o,es,ep,e,d,r⟩=>⟨o,es,ep,t e (N e d),d,r⟩;have E:K.In (M8 c.heap H):=λb o e=>t (B b o e) (by
   cases q:H b with
   |none=>rfl
   |some u=>
    have e':b=a:=A b (by rw[q];simp);subst e';rw[hK (by rw[q];simp)]at e;cases e)
  have hM:Mod K mg (M8 c.heap H):=⟨E,i y,⟨l,i hb,Q⟩,let ⟨mc,h1,h2⟩:=a1;⟨mc,i h1,h2⟩⟩;have e0:GS P w K mg (M8 c.heap H) callerA [] c H:=⟨rfl,hM,λb o e=>Tk e,Nat.le_of_eq (XF _ _),trivial,λb hb=>absurd (show b∈([]:Z A1) from hb) (by simp),p,.of_eq hg⟩;refine codeAny_mono ((F _ E (i y)).run callerA [] c H ⟨[.ref a],[]⟩ [.ref a] [.ref a] _ _ hr e0 (a5 c (.ref a)) (.cons S .nil) (a2 H C X)) λr s' h=>?_;cases r with
  |error e=>exact(M H e s' h).elim
  |ok fl=>
   cases fl with
   |next=>exact False.elim h
   |brk=>exact False.elim h
   |cont=>exact False.elim h
   |ret u=>
    obtain⟨v,H',os,J,un,a3,r',q⟩:=h;have L:v=.bl true:=q;subst L;obtain rfl:u=Value.bool true:=r';refine⟨rfl,OldK.of_keep λb o e=>?_,os,J⟩;cases q:H b with
    |none=>exact un.keep b o e q (by intro z;exact absurd (show b∈([]:Z A1) from z) (by simp)) (by simp)
    |some u=>
     rcases C b with z|⟨W,xs,z⟩
     ·rw[q]at z;cases z
     ·have z2:=un.Fp b W _ z;obtain⟨e1,_⟩:=p b _ z;obtain⟨e2,_⟩:=a3 b _ z2;rw[e]at e1;cases e1;exact e2
 cases j:K.lookup a with
 |some o=>
  have e:=B a o j;rw[ha]at e;cases e;refine G (λ_=>Y) (λ_=>.inl S) (.inr ⟨_,vs.toArray,_,j,rfl,rfl,rfl,by rw[zC,a0];exact I,by simpa using D⟩) (λb u z=>by have f:(Y:O HO)=U u:=z;cases f) (λb z=>absurd S z) λz=>absurd S z
 |none=>
  refine G (λb=>if b=a then U (.vW { cls:=.type "list",data:=.seq vs.toArray } (.lst (g.map V.int)))else Y) (λb=>?_) (.inl (.inr ⟨{ cls:=.type "list",data:=.seq vs.toArray },zk rfl⟩)) (λb u z=>?_) (λb z=>?_) λ_=>j
  ·by_cases hb:b=a
   ·exact .inr ⟨_,_,zk hb⟩
   ·exact .inl (zw hb)
  ·by_cases hb:b=a
   ·have f:=(zk hb).symm.trans z;cases f;subst hb;exact⟨ha,by rw[zh];exact I,vs,_,D,ha⟩
   ·have f:=(zw hb).symm.trans z;cases f
  ·by_cases hb:b=a
   ·exact hb
   ·exact absurd (zw hb) z
end L2
namespace L2
theorem bS{k:Nat}{q:A3}{loose:AZ}{d:DefRec}{K:Params->B1}{CX:A4->Zt}{sp:A4->Sp}(L:l.most=U n)(p:n<=AA)(J:d.params.defaults=[])(I:nR k callerA)(M:∀(w:A4) (h:A6),YP w h->(K w.params).In h)(F:∀(w:A4) (mg:AJ->O A0) (fa:A1) (h:A6),(K w.params).In h->h.Ns mainGlobals mg->mg d.name=U (.ref fa) →
   ∃fd:FuncData,(∀(s:A2) (u:A0),BindsTo s fd ⟨[u],[]⟩ [(x,u)]) ∧
    ∀base:A6,(K w.params).In base->base.Ns mainGlobals mg->wM l.prog w (K w.params) mg base (CX w) k fa fd [x] (sp w))(D:∀(w:A4) (H:Hp) (a:A1) (c:Z Int),c.length<=n->CY H->wJ (K w.params) H a (c.map V.int)->sp w [.ref a] H (λv _=>v=.bl true) λ_ _ _=>False)(m:∀(w:A4) (H:Hp) (s:A2) (e:A0) (s':A2),CX w [] H s (λ_ _ _=>False) e s'->False):
  PySem.W.WalkO q loose XP YP l.row.toRowW d [] (λf vs=>PySem.call f vs):=by
 refine Att.Qt L J λw P A mg Q fa o pm N X a vs c G Y ho hd a0 y E B j hg=>?_;have i:=M w _ Y;obtain⟨fd,hb,C⟩:=F w mg fa _ i G.T.g y;exact dt i G.T.g G.T.b G.T.builtins G.T.nolimit hg E B (ZA j p) I C hb (λH z t=>D w H a c j z t) λH e s'=>m w H A e s'
theorem g5{k:Nat}{q:A3}{loose:AZ}{d:DefRec}{K:Params->B1}{CX:Zt}{sp:B1->Sp}(p:l.most=U n)(m:n<=AA)(o:d.params.defaults=[])(j:nR k callerA)(t:∀(w:A4) (h:A6),YP w h->(K w.params).In h)(F:∀(w:A4) (mg:AJ->O A0) (fa:A1) (h:A6),(K w.params).In h->h.Ns mainGlobals mg->mg d.name=U (.ref fa) →
   ∃fd:FuncData,(∀(s:A2) (u:A0),BindsTo s fd ⟨[u],[]⟩ [(x,u)]) ∧
    ∀base:A6,(K w.params).In base->base.Ns mainGlobals mg->wM l.prog w (K w.params) mg base CX k fa fd [x] (sp (K w.params)))(c:∀(K:B1) (H:Hp) (a:A1) (b:Z Int),b.length<=n->CY H->wJ K H a (b.map V.int)->sp K [.ref a] H (λv _=>v=.bl true) λ_ _ _=>False)(i:∀(H:Hp) (s:A2) (e:A0) (s':A2),CX [] H s (λ_ _ _=>False) e s'->False):
  PySem.W.WalkO q loose XP YP l.row.toRowW d [] (λf vs=>PySem.call f vs):=
 bS (K:=K) (CX:=λ_=>CX) (sp:=λw=>sp (K w.params)) p m o j t F (λw H a b h1 h2 g=>c (K w.params) H a b h1 h2 g) λ_ H s e s'=>i H s e s'
end L2
namespace L2
def uM(s:AB):Arguments:=match s with
 |.FunctionDef _ a _ _ _ _ _ _ _ _=>a
 |_=>{ posonlyargs:=[],args:=[],vararg:=Y,kwonlyargs:=[],kw_defaults:=[],kwarg:=Y,defaults:=[] }
def jz(s:AB):Z AB:=match s with
 |.FunctionDef _ _ b _ _ _ _ _ _ _=>b
 |_=>[]
def aK(s:AB):Scope:=match s with
 |.FunctionDef _ _ _ _ _ _ a _ _ _=>a
 |_=>{ kind:=.function,names:=[],isGenerator:=false,isCoroutine:=false }
abbrev Nt:Zt:=λ_ _ _ _ _ _=>False
abbrev E0:XK:=λ_ _ _=>False
theorem NY{X:Cx}:C6 Nt X E0:=λ_ _ _ _ _ _ _ h=>h.elim
structure Cs (K:B1) (x qual:Str) (st:Stmt) (f:Addr) (fd:FuncData):Prop where
 ex:∃(oc:Value) (od:Option Addr) (kV doc pm:Value) (an:Option Addr) (cdv ct:Value) (osl:Array (Option Value)),
  fd=fnOf x qual (uM st) (jz st) (aK st) .none kV doc pm an cdv ct/\K.lookup f=some ⟨oc,od,.func fd,osl⟩/\codeIn K cdv qual=true
 kp:keepIn K (.ref f)=true
theorem Cs.ok{st:AB}{f:A1}{k:Nat}{sp:Sp}(F:Cs K x qual st f fd)(S:bx N ps (aK st))(len:∀vs H Q E,sp vs H Q E->vs.length=ps.length)(e:∀(a:A0) (A:A5) (outer:Z Env) (s:A2) (H:Hp) (vs:Z V) (Q:VK) (E:XK),nR k (A.deeper (AK qual (aK st) s.heap.objs.size f a))->sp vs H Q E →
   ∃t,TQ (G7 Nt P w K mg base N qual (aK st) f a A outer s H E).nox (jz st) t/\t { nx:=λ_ H'=>Q .non H',rt:=Q } (start N vs) H):wM P w K mg base Nt (k+1) f fd ps sp:=by
 obtain⟨i,j,kV,n,m,l,a,ct,osl,rfl,c,d⟩:=F.ex;refine T' c d S len λA outer s H vs Q E g b=>?_;obtain⟨t,h,q⟩:=e a A outer s H vs Q E g b;exact⟨t,h.nox,q⟩
theorem Cs.binds{st:AB}{f:A1}(F:Cs K x qual st f fd)(h:∀(kV d c:A0) (b:O A1) (a ct:A0) (us:Z A0),us.length=ps.length->bindArgs (fnOf x qual (uM st) (jz st) (aK st) .none kV d c b a ct) ⟨us,[]⟩=pure (ps.zip us)):BT K fd ps []:=by
 obtain⟨i,j,kV,d,c,b,a,ct,osl,rfl,e,g⟩:=F.ex;exact .all (h kV d c b a ct)
theorem Md{st:AB}{f:A1}{g:A0}{h e:O A1}{kV b d a ct:A0}(l:K.lookup f=U ⟨g,h,.func (fnOf x qual (uM st) (jz st) (aK st) .none kV b d e a ct),osl⟩)(c:codeIn K a qual=true)(k:keepIn K (.ref f)=true):Cs K x qual st f (fnOf x qual (uM st) (jz st) (aK st) .none kV b d e a ct):=⟨⟨g,h,kV,b,d,e,a,ct,osl,rfl,l,c⟩,k⟩
section
variable{X:Cx}
theorem pv(i:Nat)(b:X.N[i]?=U x:=by rfl)(a:Zq X.env.scope x:=by first|exact kb rfl|exact Q4 (kb S)|exact Q4 (Q4 S))(hd:(x==("__debug__":AJ))=false:=by decide)(c:(x==("__classdict__":AJ))=false:=by decide):PE X (.Name x pos) (ME i):=wI b a hd c
end
def AV(H H':Hp):Prop:=∀b o,H b=U o->H' b=U o
theorem AV.refl(H:Hp):AV H H:=λ_ _ h=>h
theorem AV.trans{H H1 H2:Hp}(a:AV H H1)(b:AV H1 H2):AV H H2:=λc o h=>b c o (a c o h)
theorem AV.free{H H':Hp}(e:AV H H'){l:A1}(h:H' l=Option.none):H l=Option.none:=by
 cases q:H l with
 |none=>rfl
 |some o=>
  rw[e l o q]at h;cases h
theorem AV.seq{H H':Hp}{xs:Z V}(e:AV H H')(h:wJ K H a xs):wJ K H' a xs:=by
 rcases h with (h|⟨o,h⟩)|h
 ·exact .inl (.inl (e _ _ h))
 ·exact .inl (.inr ⟨o,e _ _ h⟩)
 ·exact .inr h
end L2
variable{H:L2.Hp}{o:L2.HO}{X:L2.Cx}{σ:L2.St}{v:L2.V}{ta te:L2.TE}{J:L2.It}{vs:Z L2.V}{sp:L2.Sp}{ks:Z L2.AY}{zs:Z (Z L2.AY×A1)}{H0 Hs:L2.Hp}{cJ:Z (Z L2.AY)}
namespace P1
open L2
inductive Dt where
 |non|bl (b:Bool)|int (i:Int)|str (x:Str)|tup (xs:List Dt)|lst (xs:List Dt)|emp
inductive Bx where
 |z (d:Dt)|l (ds:List Dt)|o (ds:List Dt)|n (AO:List (AY×Dt))|m (AO:List (AY×Dt)) (w:Option Addr)
abbrev Ev:=Z (O Bx)
def EW(K:B1)(H:Hp)(a:A1)(xs:Z V):Prop:=
 (∃o,H a=U (.vW o (.lst xs))) ∨
  ∃(o:AE) (AQ:Array A0) (n:Nat),K.lookup a=U o/\o.cls=.type "list" ∧ o.dict=Y/\o.data=.seq AQ n/\AQ.size<=AA/\AX xs AQ.toList
theorem EW.sq{xs:Z V}(h:EW K H a xs):wJ K H a xs:=by
 rcases h with h|h
 ·exact .inl (.inr h)
 ·exact .inr h
mutual
def AW(K:B1)(H:Hp):Dt->V->Prop
 |.non,v=>v=.non
 |.bl b,v=>v=.bl b
 |.int i,v=>v=.int i
 |.str x,v=>v=.str x/\x.length<=AA
 |.tup ds,v=>∃a vs,v=.ref a/\Cy K H a vs/\aO K H ds vs
 |.lst ds,v=>∃a vs,v=.ref a/\EW K H a vs/\aO K H ds vs
 |.emp,v=>∃a o,v=.ref a/\H a=U (.vW o (.dK []))
def aO(K:B1)(H:Hp):Z Dt->Z V->Prop
 |[],vs=>vs=[]
 |d::ds,vs=>∃v r,vs=v::r/\AW K H d v/\aO K H ds r
end
structure Kp (H H':Hp):Prop where
 t:∀a xs,H a=some (.tup xs)->H' a=some (.tup xs)
 f:∀a o u,H a=some (.vW o u)->H' a=some (.vW o u)
theorem Kp.of{H':Hp}(s:AV H H'):Kp H H':=⟨λa _ h=>s a _ h,λa _ _ h=>s a _ h⟩
theorem Kp.sqT{H':Hp}{xs:Z V}(k:Kp H H')(h:Cy K H a xs):Cy K H' a xs:=by
 rcases h with (h|⟨o,h⟩)|h
 ·exact .inl (.inl (k.t _ _ h))
 ·exact .inl (.inr ⟨o,k.f _ _ _ h⟩)
 ·exact .inr h
theorem Kp.fzL{H':Hp}{xs:Z V}(k:Kp H H')(h:EW K H a xs):EW K H' a xs:=by
 rcases h with⟨o,h⟩|h
 ·exact .inl ⟨o,k.f _ _ _ h⟩
 ·exact .inr h
theorem Kp.lst{xs:Z V}(h:H a=U (.lst xs)):Kp H (B6 H a o):=by
 refine⟨λb ys e=>?_,λb c u e=>?_⟩
 ·rw[aR (pG e h (by intro z;cases z))];exact e
 ·rw[aR (pG e h (by intro z;cases z))];exact e
theorem Kp.dk{xs:Z (AY×V)}(h:H a=U (.dK xs)):Kp H (B6 H a o):=by
 refine⟨λb ys e=>?_,λb c u e=>?_⟩
 ·rw[aR (pG e h (by intro z;cases z))];exact e
 ·rw[aR (pG e h (by intro z;cases z))];exact e
mutual
theorem AW.kp{K:B1}{H H':Hp}(k:Kp H H'):∀{d:Dt} {v:V},AW K H d v->AW K H' d v
 |.non,_,h=>by simpa only[AW]using h
 |.bl _,_,h=>by simpa only[AW]using h
 |.int _,_,h=>by simpa only[AW]using h
 |.str _,_,h=>by simpa only[AW]using h
 |.tup ds,_,h=>by
  simp only[AW]at h ⊢;obtain⟨a,vs,e,q,r⟩:=h;exact⟨a,vs,e,k.sqT q,aO.kp k r⟩
 |.lst ds,_,h=>by
  simp only[AW]at h ⊢;obtain⟨a,vs,e,q,r⟩:=h;exact⟨a,vs,e,k.fzL q,aO.kp k r⟩
 |.emp,_,h=>by
  simp only[AW]at h ⊢;obtain⟨a,o,e,q⟩:=h;exact⟨a,o,e,k.f _ _ _ q⟩
theorem aO.kp{K:B1}{H H':Hp}(k:Kp H H'):∀{ds:Z Dt} {vs:Z V},aO K H ds vs->aO K H' ds vs
 |[],_,h=>by simpa only[aO]using h
 |d::ds,_,h=>by
  simp only[aO]at h ⊢;obtain⟨v,r,e,q,t⟩:=h;exact⟨v,r,e,AW.kp k q,aO.kp k t⟩
end
theorem aO.length{K:B1}{H:Hp}:∀{ds:Z Dt} {vs:Z V},aO K H ds vs->vs.length=ds.length
 |[],_,h=>by simp only[aO]at h;subst h;rfl
 |d::ds,_,h=>by
  simp only[aO]at h;obtain⟨v,r,rfl,_,t⟩:=h;simp[aO.length t]
theorem aO.nil:aO K H [] []:=by simp only[aO]
theorem aO.cons{K:B1}{H:Hp}{d:Dt}{v:V}{ds:Z Dt}{vs:Z V}(h:AW K H d v)(t:aO K H ds vs):aO K H (d::ds) (v::vs):=by
 simp only[aO];exact⟨v,vs,rfl,h,t⟩
theorem aO.append{K:B1}{H:Hp}:∀{ds es:Z Dt} {vs us:Z V},aO K H ds vs->aO K H es us->aO K H (ds++es) (vs++us)
 |[],_,_,_,h,t=>by simp only[aO]at h;subst h;exact t
 |d::ds,_,_,_,h,t=>by
  simp only[aO]at h;obtain⟨v,r,rfl,q,h⟩:=h;exact aO.cons q (aO.append h t)
theorem aO.drop{K:B1}{H:Hp}:∀(n:Nat) {ds:Z Dt} {vs:Z V},aO K H ds vs->aO K H (ds.drop n) (vs.drop n)
 |0,_,_,h=>h
 |n+1,[],_,h=>by simp only[aO]at h;subst h;exact aO.nil
 |n+1,d::ds,_,h=>by
  simp only[aO]at h;obtain⟨v,r,rfl,q,h⟩:=h;exact aO.drop n h
theorem aO.take{K:B1}{H:Hp}:∀(n:Nat) {ds:Z Dt} {vs:Z V},aO K H ds vs->aO K H (ds.take n) (vs.take n)
 |0,_,_,_=>aO.nil
 |n+1,[],_,h=>by simp only[aO]at h;subst h;exact aO.nil
 |n+1,d::ds,_,h=>by
  simp only[aO]at h;obtain⟨v,r,rfl,q,h⟩:=h;exact aO.cons q (aO.take n h)
theorem aO.get{K:B1}{H:Hp}:∀{ds:Z Dt} {vs:Z V} {i:Nat} {d:Dt},aO K H ds vs->ds[i]?=U d->∃v,vs[i]?=U v/\AW K H d v
 |[],_,_,_,_,e=>by simp at e
 |d::ds,_,0,_,h,e=>by
  simp only[aO]at h;obtain⟨v,r,rfl,q,h⟩:=h;simp at e;subst e;exact⟨v,rfl,q⟩
 |d::ds,_,i+1,_,h,e=>by
  simp only[aO]at h;obtain⟨v,r,rfl,q,h⟩:=h;obtain⟨u,e1,e2⟩:=aO.get h (i:=i) (by simpa using e);exact⟨u,by simpa using e1,e2⟩
def DO:AY->Prop
 |.inl _=>True
 |.inr x=>x.length<=AA
def fQ(K:B1)(H:Hp)(AO:Z (AY×Dt))(ks:Z (AY×V)):Prop:=ks.map (·.1)=AO.map (·.1)/\aO K H (AO.map (·.2)) (ks.map (·.2))/\∀p∈AO,DO p.1
theorem fQ.kp{K:B1}{H H':Hp}{AO:Z (AY×Dt)}{ks:Z (AY×V)}(h:fQ K H AO ks)(k:Kp H H'):fQ K H' AO ks:=⟨h.1,h.2.1.kp k,h.2.2⟩
def aX(K:B1)(H:Hp):Bx->V->Prop
 |.z d,v=>AW K H d v
 |.l ds,v=>∃a vs,v=.ref a/\Rd H a (.lst vs)/\aO K H ds vs
 |.o ds,v=>∃a vs,v=.ref a/\H a=U (.lst vs)/\aO K H ds vs
 |.n AO,v=>∃a ks,v=.ref a/\Rd H a (.dK ks)/\fQ K H AO ks
 |.m AO w,v=>∃a ks,v=.ref a/\H a=U (.dK ks)/\fQ K H AO ks/\∀b,w=U b->b=a
theorem aX.same{H':Hp}(s:AV H H'){b:Bx}(h:aX K H b v):aX K H' b v:=by
 cases b with
 |z d=>exact AW.kp (.of s) h
 |l ds=>
  obtain⟨a,vs,e,q,r⟩:=h;refine⟨a,vs,e,?_,r.kp (.of s)⟩;rcases q with q|⟨o,q⟩
  ·exact .inl (s _ _ q)
  ·exact .inr ⟨o,s _ _ q⟩
 |o ds=>
  obtain⟨a,vs,e,q,r⟩:=h;exact⟨a,vs,e,s _ _ q,r.kp (.of s)⟩
 |n AO=>
  obtain⟨a,vs,e,q,r⟩:=h;refine⟨a,vs,e,?_,r.kp (.of s)⟩;rcases q with q|⟨o,q⟩
  ·exact .inl (s _ _ q)
  ·exact .inr ⟨o,s _ _ q⟩
 |m AO _=>
  obtain⟨a,vs,e,q,r⟩:=h;exact⟨a,vs,e,s _ _ q,r.1.kp (.of s),r.2⟩
def rG:Bx->O (Z Dt)
 |.z (.lst ds)=>U ds
 |.l ds=>U ds
 |.o ds=>U ds
 |_=>Y
theorem aX.J2{b:Bx}{ds:Z Dt}(h:aX K H b v)(e:rG b=U ds):∃a vs,v=.ref a/\wJ K H a vs/\aO K H ds vs:=by
 cases b with
 |z d=>
  cases d<;>first|(cases e;done)|skip;cases e;simp only[aX,AW]at h;obtain⟨a,vs,e,q,r⟩:=h;exact⟨a,vs,e,q.sq,r⟩
 |l c=>
  cases e;obtain⟨a,vs,e,q,r⟩:=h;exact⟨a,vs,e,.inl q,r⟩
 |o c=>
  cases e;obtain⟨a,vs,e,q,r⟩:=h;exact⟨a,vs,e,.inl (.inl q),r⟩
 |n _=>cases e
 |m _ _=>cases e
abbrev ud(K:B1)(H:Hp):Z Bx->Z V->Prop:=AI (aX K H)
def Nw(H:Hp):Bx->V->Prop
 |.o _,v=>∀a,v=.ref a->H a=Y
 |.m _ _,v=>∀a,v=.ref a->H a=Y
 |_,_=>True
theorem Nw.old{H1:Hp}(s:AV H H1){b:Bx}(h:Nw H1 b v):Nw H b v:=by
 cases b with
 |o ds=>exact λa e=>s.free (h a e)
 |m ds _=>exact λa e=>s.free (h a e)
 |_=>trivial
def loose:Bx->Bool
 |.z _=>false
 |_=>true
def wF:Bx->Bool
 |.o _=>true
 |.m _ _=>true
 |_=>false
structure bZ (K:B1) (H0 H:Hp) (σ:L2.St) (ρ:Ev):Prop where
 len:σ.length=ρ.length
 val:∀(i:Nat) b,ρ[i]?=some (some b)->∃v,σ[i]?=some (some v)/\aX K H b v
 own:∀(i j:Nat) c a b,ρ[i]?=some (some c)->wF c=true->σ[i]?=some (some (.ref a))->ρ[j]?=some (some b)->loose b=true->σ[j]?=some (some (.ref a))->i=j
 base:AV H0 H
 new:∀(i:Nat) c a,ρ[i]?=some (some c)->wF c=true->σ[i]?=some (some (.ref a))->H0 a=none
theorem bZ.grow{H':Hp}{ρ:Ev}(r:bZ K H0 H σ ρ)(s:AV H H'):bZ K H0 H' σ ρ:=
 ⟨r.len,λi b e=>let ⟨v,e1,h⟩:=r.val i b e;⟨v,e1,h.same s⟩,r.own,r.base.trans s,r.new⟩
def tF(K:B1)(f:Ev->O Bx):TE:=λσ H Q=>∃H0 ρ b,bZ K H0 H σ ρ/\f ρ=U b/\∀v H',AV H H'->Nw H b v->aX K H' b v->Q v H'
def OI(K:B1)(f:Ev->O (Z Bx)):TA:=λσ H Q=>∃H0 ρ bs,bZ K H0 H σ ρ/\f ρ=U bs/\∀vs H',AV H H'->ud K H' bs vs->Q vs H'
def D6(K:B1)(f:Ev->O Bool):TT:=λσ H Q=>∃H0 ρ b,bZ K H0 H σ ρ/\f ρ=U b/\∀H',AV H H'->Q b H'
def PV(X:Cx)(e:Expr)(f:Ev->O Bx):Prop:=PE X e (tF X.K f)
structure QV (X:Cx) (e:Expr) (f:Ev->Option Bx):Prop where
 run:PV X e f
def Fn(X:Cx)(es:Z Expr)(f:Ev->O (Z Bx)):Prop:=PA X es (OI X.K f)
structure Zu (X:Cx) (es:List Expr) (f:Ev->Option (List Bx)):Prop where
 run:Fn X es f
def PB(X:Cx)(e:Expr)(f:Ev->O Bool):Prop:=PT X e (D6 X.K f)
structure QB (X:Cx) (e:Expr) (f:Ev->Option Bool):Prop where
 run:PB X e f
theorem Ft{t t':TE}(h:PE X e t)(m:∀ σ H Q,t' σ H Q->t σ H Q):PE X e t':=λAN s σ H Q I q=>h AN s σ H Q I (m σ H Q q)
theorem MW{e:Z Expr}{t t':TA}(h:PA X e t)(m:∀ σ H Q,t' σ H Q->t σ H Q):PA X e t':=λpos AN s σ H Q I q=>h pos AN s σ H Q I (m σ H Q q)
theorem IZ{t t':TT}(h:PT X e t)(m:∀ σ H Q,t' σ H Q->t σ H Q):PT X e t':=λAN s σ H Q I q=>h AN s σ H Q I (m σ H Q q)
theorem NH{t t':TT}(h:PW X e t)(m:∀ σ H Q,t' σ H Q->t σ H Q):PW X e t':=λwh AN s σ H Q I q=>h wh AN s σ H Q I (m σ H Q q)
theorem Wd{e:AB}{t t':TS}(h:PS X e t)(m:∀D σ H,t' D σ H->t D σ H):PS X e t':=λAN s σ H D I q=>h AN s σ H D I (m D σ H q)
theorem Hk{e:Z AB}{t t':TS}(h:TQ X e t)(m:∀D σ H,t' D σ H->t D σ H):TQ X e t':=λAN s σ H D I q=>h AN s σ H D I (m D σ H q)
def rF(K:B1)(g:Bx->Bx->O Bx):R2:=λx y H Q=>∃a b c,aX K H a x/\aX K H b y/\g a b=U c/\∀w H',AV H H'->Nw H c w->aX K H' c w->Q w H'
def OA(K:B1)(g:Bx->O Bx):V->Hp->VK->Prop:=λx H Q=>∃a c,aX K H a x/\g a=U c/\∀w H',AV H H'->Nw H c w->aX K H' c w->Q w H'
def NV(K:B1)(g:Z Bx->O Bx):Z V->Hp->VK->Prop:=λxs H Q=>∃bs c,ud K H bs xs/\g bs=U c/\∀w H',AV H H'->Nw H c w->aX K H' c w->Q w H'
abbrev Fv(X:Cx)(f:A0->A0->Sem A0)(g:Bx->Bx->O Bx):Prop:=xX X f (rF X.K g)
abbrev ML(X:Cx)(f:A0->Sem A0)(g:Bx->O Bx):Prop:=DL X f (OA X.K g)
abbrev uf(X:Cx)(f:A0)(g:Z Bx->O Bx):Prop:=fZ X f (NV X.K g)
theorem xX.imp{f:A0->A0->Sem A0}{r a:R2}(h:xX X f r)(m:∀x y H Q,a x y H Q->r x y H Q):xX X f a:=λAN s σ H x y v u Q I c b q=>h AN s σ H x y v u Q I c b (m x y H Q q)
theorem DL.imp{f:A0->Sem A0}{r a:V->Hp->VK->Prop}(h:DL X f r)(m:∀x H Q,a x H Q->r x H Q):DL X f a:=λAN s σ H x v Q I b q=>h AN s σ H x v Q I b (m x H Q q)
theorem fZ.imp{f:A0}{r a:Z V->Hp->VK->Prop}(h:fZ X f r)(m:∀x H Q,a x H Q->r x H Q):fZ X f a:=λAN s σ H xs us Q I b q=>h AN s σ H xs us Q I b (m xs H Q q)
def b2(g:Bx->Bx->O Bx)(fa fb:Ev->O Bx):Ev->O Bx:=λρ=>(fa ρ).bind λx=>(fb ρ).bind λy=>g x y
def b1(g:Bx->O Bx)(fa:Ev->O Bx):Ev->O Bx:=λρ=>(fa ρ).bind g
def cT(g:Z Bx->O Bx)(fs:Ev->O (Z Bx)):Ev->O Bx:=λρ=>(fs ρ).bind g
theorem AT{o:O α}{f:α->O β}{b:β}(h:o.bind f=U b):∃a,o=U a/\f a=U b:=by
 cases o with
 |none=>cases h
 |some a=>exact⟨a,rfl,h⟩
theorem HQ{g:Bx->Bx->O Bx}{fa fb:Ev->O Bx}(σ:L2.St)(H:Hp)(Q:VK)(h:tF K (b2 g fa fb) σ H Q):FM (rF K g) (tF K fa) (tF K fb) σ H Q:=by
 obtain⟨H0,ρ,c,E,e,q⟩:=h;obtain⟨a,ea,e⟩:=AT e;obtain⟨b,eb,e⟩:=AT e;refine⟨H0,ρ,a,E,ea,λv H1 f p i=>⟨H0,ρ,b,E.grow f,eb,λu H2 d s m=>?_⟩⟩;exact⟨a,b,c,i.same d,m,e,λw o n j l=>q w o ((f.trans d).trans n) (j.old (f.trans d)) l⟩
theorem gL{g:Bx->O Bx}{fa:Ev->O Bx}(σ:L2.St)(H:Hp)(Q:VK)(h:tF K (b1 g fa) σ H Q):LM (OA K g) (tF K fa) σ H Q:=by
 obtain⟨H0,ρ,c,E,e,q⟩:=h;obtain⟨a,ea,e⟩:=AT e;exact⟨H0,ρ,a,E,ea,λv H1 b m d=>⟨a,c,d,e,λw l j f i=>q w l (b.trans j) (f.old b) i⟩⟩
theorem DT{g:Z Bx->O Bx}{fs:Ev->O (Z Bx)}(σ:L2.St)(H:Hp)(Q:VK)(h:tF K (cT g fs) σ H Q):IF (NV K g) (OI K fs) σ H Q:=by
 obtain⟨H0,ρ,c,E,e,q⟩:=h;obtain⟨a,ea,e⟩:=AT e;exact⟨H0,ρ,a,E,ea,λv H1 b d=>⟨a,c,d,e,λw l j f i=>q w l (b.trans j) (f.old b) i⟩⟩
section
variable{a b:Expr}{fa fb fc f:Ev->O Bx}{fs:Ev->O (Z Bx)}
theorem bA{op:Operator}{g:Bx->Bx->O Bx}(ho:Fv X (binaryOp op) g)(ha:QV X a fa)(hb:QV X b fb):QV X (.BinOp a op b pos) (b2 g fa fb):=⟨have ha:=ha.run;have hb:=hb.run;Ft (S3 ho ha hb) HQ⟩
theorem fm{op:UnaryOp}{g:Bx->O Bx}(ho:ML X (unaryOp op) g)(ha:QV X a fa):QV X (.UnaryOp op a pos) (b1 g fa):=⟨have ha:=ha.run;Ft (VM ho ha) gL⟩
theorem oU{g:Bx->Bx->O Bx}(ho:Fv X (AG op) g)(ha:QV X a fa)(hb:QV X b fb)(c:behindInMarks op b=false):QV X (.Compare a [op] [b] pos) (b2 g fa fb):=⟨have ha:=ha.run;have hb:=hb.run;Ft (gh ho ha hb c) HQ⟩
def Hg:Bx->O Bool
 |.z (.bl b)=>U b
 |_=>Y
theorem z9{b:Bx}{k:Bool}(h:aX K H b v)(e:Hg b=U k):v=.bl k:=by
 cases b with
 |z d=>
  cases d<;>first|(cases e;done)|skip;cases e;simpa only[aX,AW]using h
 |_=>cases e
theorem P3(σ:L2.St)(H:Hp)(Q:Bool->Hp->Prop)(h:D6 K (λρ=>(f ρ).bind Hg) σ H Q):tF K f σ H (λx H'=>∃k,x=.bl k/\Q k H'):=by
 obtain⟨H0,ρ,k,E,e,q⟩:=h;obtain⟨b,eb,e⟩:=AT e;exact⟨H0,ρ,b,E,eb,λv H1 c d a=>⟨k,z9 a e,q H1 c⟩⟩
theorem bK{g:Bx->Bx->O Bx}(ho:Fv X (AG op) g)(ha:QV X a fa)(hb:QV X b fb)(c:behindInMarks op b=false):QB X (.Compare a [op] [b] pos) (λρ=>(b2 g fa fb ρ).bind Hg):=⟨have ha:=ha.run;have hb:=hb.run;IZ (T1 ho ha hb c) λσ H Q h=>HQ σ H _ (P3 σ H Q h)⟩
def EG(g g':Bx->Bx->O Bx)(fa fb fc:Ev->O Bx):Ev->O Bx:=λρ=>(fa ρ).bind λx=>(fb ρ).bind λy=>(g x y).bind λr=>(Hg r).bind λk=>if k=true then(fc ρ).bind λw=>g' y w else U (.z (.bl false))
theorem cS{g g':Bx->Bx->O Bx}(σ:L2.St)(H:Hp)(Q:VK)(h:tF K (EG g g' fa fb fc) σ H Q):ZS (rF K g) (rF K g') (tF K fa) (tF K fb) (tF K fc) σ H Q:=by
 obtain⟨H0,ρ,d,E,e,q⟩:=h;obtain⟨a,ea,e⟩:=AT e;obtain⟨b,eb,e⟩:=AT e;obtain⟨r,er,e⟩:=AT e;obtain⟨k,ek,e⟩:=AT e;refine⟨H0,ρ,a,E,ea,λv H1 n G A=>⟨H0,ρ,b,E.grow n,eb,λu H2 l J j=>?_⟩⟩;refine⟨a,b,r,A.same l,j,er,λw D m I C=>⟨k,z9 C ek,?_⟩⟩;have c:=(n.trans l).trans m;cases k with
 |false=>
  rw[zw ZH]at e ⊢;cases e;exact q _ D c trivial (by simp only[aX,AW])
 |true=>
  rw[zk rfl]at e ⊢;obtain⟨i,p,e⟩:=AT e;refine⟨H0,ρ,i,E.grow c,p,λx L f F o=>?_⟩;exact⟨b,i,d,(j.same m).same f,o,e,λy t z s B=>q y t ((c.trans f).trans z) (s.old (c.trans f)) B⟩
theorem Qu{e:CmpOp}{g g':Bx->Bx->O Bx}(ho:Fv X (AG op) g)(f:Fv X (AG e) g')(ha:QV X a fa)(hb:QV X b fb)(d:QV X c fc)(h:lastMarks [op,e] [b,c]=false:=by with_unfolding_all rfl):QV X (.Compare a [op,e] [b,c] pos) (EG g g' fa fb fc):=⟨have ha:=ha.run;have hb:=hb.run;have d:=d.run;Ft (ZV ho f ha hb d h) cS⟩
def zp(ρ:Ev)(i:Nat):O Bx:=match ρ[i]? with
 |some (U (.o ds))=>U (.l ds)
 |some (U (.m AO _))=>U (.n AO)
 |some (U b)=>U b
 |_=>Y
theorem Qv{ρ:Ev}{b:Bx}(E:bZ K H0 H σ ρ)(e:zp ρ i=U b):∃v,σ[i]?=U (U v)/\aX K H b v:=by
 unfold zp at e;split at e
 ·rename_i ds h;cases e;obtain⟨v,e1,a,vs,e2,q,r⟩:=E.val i _ h;exact⟨v,e1,a,vs,e2,.inl q,r⟩
 ·rename_i ds h;cases e;obtain⟨v,e1,a,vs,e2,q,r⟩:=E.val i _ h;exact⟨v,e1,a,vs,e2,.inl q,r.1⟩
 ·rename_i c h;cases e;exact E.val i _ h
 ·cases e
theorem Aa{ρ:Ev}{b:Bx}(e:zp ρ i=U b):wF b=false:=by
 unfold zp at e;split at e
 ·cases e;rfl
 ·cases e;rfl
 ·rename_i c h1 h2 a;cases e;cases b with
  |o ds=>exact absurd S (h1 ds)
  |m ds _=>exact absurd S (h2 ds _)
  |_=>rfl
 ·cases e
theorem aj(i:Nat)(c:X.N[i]?=U x:=by rfl)(a:Zq X.env.scope x:=by first|exact kb rfl|exact Q4 (kb S)|exact Q4 (Q4 S))(hd:(x==("__debug__":AJ))=false:=by decide)(d:(x==("__classdict__":AJ))=false:=by decide):QV X (.Name x pos) (λρ=>zp ρ i):=⟨Ft (wI c a hd d) λσ H Q h=>by
 obtain⟨H0,ρ,b,E,e,q⟩:=h;obtain⟨v,e1,r⟩:=Qv E e;refine⟨v,e1,q v H (AV.refl H) ?_ r⟩;cases b with
 |o ds=>have:=Aa e;cases this
 |m ds _=>have:=Aa e;cases this
 |_=>trivial⟩
def cB(d:Dt):Ev->O Bx:=λ_=>U (.z d)
theorem Yb{d:Dt}(h:PE X e (tC v))(r:∀H,AW X.K H d v):PV X e (cB d):=Ft h λσ H Q q=>by
 obtain⟨H0,ρ,b,E,e,q⟩:=q;cases e;exact q v H (AV.refl H) trivial (r H)
theorem aF{i j}:QV X (.Constant (.int i) j pos) (cB (.int i)):=⟨Yb UX λH=>by simp only[AW]⟩
theorem vZ{i j}:QV X (.Constant (.bool i) j pos) (cB (.bl i)):=⟨Yb d5 λH=>by simp only[AW]⟩
theorem wO{j}:QV X (.Constant .none j pos) (cB .non):=⟨Yb SI λH=>by simp only[AW]⟩
theorem Ll{j}(hx:x.length<=AA:=by decide):PV X (.Constant (.str x) j pos) (cB (.str x)):=Yb SV λH=>by unfold AW;exact⟨rfl,hx⟩
theorem Qw{i:Int}{t:Tok}(hg:Gl X x)(a:X.mg x=U (.int i t))(hd:(x==("__debug__":AJ))=false:=by decide):QV X (.Name x pos) (cB (.int i)):=⟨Yb (V5 hg a (v:=.int i) ⟨t,rfl⟩ hd) λH=>by simp only[AW]⟩
theorem Sn{t:Tok}(hg:Gl X x)(b:X.mg x=U (.str y t))(a:y.length<=AA:=by decide)(hd:(x==("__debug__":AJ))=false:=by decide):QV X (.Name x pos) (cB (.str y)):=⟨Yb (V5 hg b (v:=.str y) ⟨t,rfl⟩ hd) λH=>by unfold AW;exact⟨rfl,a⟩⟩
def FH:Bx->O Bool
 |.z .non=>U false
 |.z (.bl b)=>U b
 |.z (.int i)=>U (i != 0)
 |.z (.str x)=>U ((x.length:Int) != 0)
 |.z (.tup ds)=>U (!ds.isEmpty)
 |.z (.lst ds)=>U (!ds.isEmpty)
 |.l ds=>U (!ds.isEmpty)
 |.o ds=>U (!ds.isEmpty)
 |.z .emp=>Y
 |.n _=>Y
 |.m _ _=>Y
theorem aO.isEmpty{ds:Z Dt}(h:aO K H ds vs):(!ds.isEmpty)=!vs.isEmpty:=by
 have:=h.length;cases ds<;>cases vs<;>simp_all
theorem dm{b:Bx}{k:Bool}(r:aX K H b v)(e:FH b=U k):He K v H k:=by
 cases b with
 |z d=>
  cases d with
  |non=>cases e;simp only[aX,AW]at r;subst r;rfl
  |bl b=>cases e;simp only[aX,AW]at r;subst r;rfl
  |int b=>cases e;simp only[aX,AW]at r;subst r;rfl
  |str x=>cases e;simp only[aX,AW]at r;obtain⟨rfl,h⟩:=r;exact⟨h,rfl⟩
  |tup ds=>
   cases e;simp only[aX,AW]at r;obtain⟨a,vs,rfl,q,r⟩:=r;exact .inr (.inl ⟨vs,q,r.isEmpty⟩)
  |lst ds=>
   cases e;obtain⟨a,vs,rfl,q,r⟩:=r.J2 rfl;exact .inl ⟨vs,q,r.isEmpty⟩
  |emp=>cases e
 |l ds=>
  cases e;obtain⟨a,vs,rfl,q,r⟩:=r.J2 rfl;exact .inl ⟨vs,q,r.isEmpty⟩
 |o ds=>
  cases e;obtain⟨a,vs,rfl,q,r⟩:=r.J2 rfl;exact .inl ⟨vs,q,r.isEmpty⟩
 |n _=>cases e
 |m _ _=>cases e
theorem CQ(h:QV X e f)(he:∀a,isTrue e X.env a=(do let v <-a;standAt e.pos;holding [v] (truthy v)):=by intro _;rfl):QB X e (λρ=>(f ρ).bind FH):=⟨have h:=h.run;IZ (ZW h he) λσ H Q q=>by
 obtain⟨H0,ρ,k,E,e,q⟩:=q;obtain⟨b,eb,e⟩:=AT e;exact⟨H0,ρ,b,E,eb,λv H1 d g c=>⟨k,dm c e,q H1 d⟩⟩⟩
def Nu(p q:Ev->O Bool):Ev->O Bool:=λρ=>(p ρ).bind λc=>if c=true then q ρ else U false
def C'(p q:Ev->O Bool):Ev->O Bool:=λρ=>(p ρ).bind λc=>if c=true then U true else q ρ
def Qx(p:Ev->O Bool):Ev->O Bool:=λρ=>(p ρ).bind λc=>U (!c)
def ae(X:Cx)(e:Expr)(f:Ev->O Bool):Prop:=PW X e (D6 X.K f)
structure EB (X:Cx) (e:Expr) (f:Ev->Option Bool):Prop where
 run:ae X e f
variable{p q:Ev->O Bool}{AS:Z Expr}
theorem Ab(ha:QB X a p):EB X (.BoolOp .And [a] pos) p:=⟨have ha:=ha.run;V' ha⟩
theorem xZ(ha:QB X a p):EB X (.BoolOp .Or [a] pos) p:=⟨have ha:=ha.run;OP ha⟩
theorem SC(σ:L2.St)(H:Hp)(Q:Bool->Hp->Prop)(h:D6 K (Nu p q) σ H Q):OL (D6 K p) (D6 K q) σ H Q:=by
 obtain⟨H0,ρ,k,E,e,w⟩:=h;obtain⟨c,b,e⟩:=AT e;refine⟨H0,ρ,c,E,b,λH1 a=>?_⟩;cases c with
 |true=>rw[zk rfl]at e ⊢;exact⟨H0,ρ,k,E.grow a,e,λH2 d=>w H2 (a.trans d)⟩
 |false=>rw[zw ZH]at e ⊢;cases e;exact w H1 a
theorem On(σ:L2.St)(H:Hp)(Q:Bool->Hp->Prop)(h:D6 K (C' p q) σ H Q):LA (D6 K p) (D6 K q) σ H Q:=by
 obtain⟨H0,ρ,k,E,e,w⟩:=h;obtain⟨c,b,e⟩:=AT e;refine⟨H0,ρ,c,E,b,λH1 a=>?_⟩;cases c with
 |true=>rw[zk rfl]at e ⊢;cases e;exact w H1 a
 |false=>rw[zw ZH]at e ⊢;exact⟨H0,ρ,k,E.grow a,e,λH2 d=>w H2 (a.trans d)⟩
theorem Ad(ha:QB X a p)(hb:EB X (.BoolOp .And (b::AS) pos) q):EB X (.BoolOp .And (a::b::AS) pos) (Nu p q):=⟨have ha:=ha.run;have hb:=hb.run;NH (U1 ha hb) SC⟩
theorem CT(ha:QB X a p)(hb:EB X (.BoolOp .Or (b::AS) pos) q):EB X (.BoolOp .Or (a::b::AS) pos) (C' p q):=⟨have ha:=ha.run;have hb:=hb.run;NH (Op ha hb) On⟩
theorem J3(h:EB X e p):QB X e p:=⟨have h:=h.run;h.pt⟩
theorem Hh(ha:QB X a p):QB X (.UnaryOp .Not a pos) (Qx p):=⟨have ha:=ha.run;IZ (fR ha) λσ H Q h=>by
 obtain⟨H0,ρ,k,E,e,w⟩:=h;obtain⟨c,b,e⟩:=AT e;cases e;exact⟨H0,ρ,c,E,b,λH1 d=>w H1 d⟩⟩
def yI(fa fb:Ev->O Bx):Ev->O Bx:=λρ=>((fa ρ).bind Hg).bind λc=>if c=true then fb ρ else U (.z (.bl false))
def Fu(fa:Ev->O Bx):Ev->O Bx:=λρ=>((fa ρ).bind Hg).bind λc=>U (.z (.bl (!c)))
theorem wQ{op}(h:QV X a fa):QV X (.BoolOp op [a] pos) fa:=⟨have h:=h.run;WN h⟩
theorem mG(ha:QV X a fa)(hb:QV X (.BoolOp .And (b::AS) pos) fb):QV X (.BoolOp .And (a::b::AS) pos) (yI fa fb):=⟨have ha:=ha.run;have hb:=hb.run;Ft (Of ha hb) λσ H Q h=>by
 obtain⟨H0,ρ,k,E,e,w⟩:=h;obtain⟨c,f,e⟩:=AT e;obtain⟨x,ex,f⟩:=AT f;refine⟨H0,ρ,x,E,ex,λv H1 d m g=>⟨c,z9 g f,?_⟩⟩;cases c with
 |true=>rw[zk rfl]at e ⊢;exact⟨H0,ρ,k,E.grow d,e,λv H2 i j l=>w v H2 (d.trans i) (j.old d) l⟩
 |false=>rw[zw ZH]at e ⊢;cases e;exact w _ H1 d trivial (by simp only[aX,AW])⟩
theorem UA(ha:QV X a fa):QV X (.UnaryOp .Not a pos) (Fu fa):=⟨have ha:=ha.run;Ft (T2 ha) λσ H Q h=>by
 obtain⟨H0,ρ,k,E,e,w⟩:=h;obtain⟨c,b,e⟩:=AT e;obtain⟨x,ex,b⟩:=AT b;cases e;exact⟨H0,ρ,x,E,ex,λv H1 f g d=>⟨c,z9 d b,w _ H1 f trivial (by simp only[aX,AW])⟩⟩⟩
theorem Wf:Fn X [] (λ_=>U []):=MW tL λσ H Q h=>by
 obtain⟨H0,ρ,bs,E,e,q⟩:=h;cases e;exact q [] H (AV.refl H) .nil
def aq(f:Ev->O Bx)(fs:Ev->O (Z Bx)):Ev->O (Z Bx):=λρ=>(f ρ).bind λb=>(fs ρ).bind λbs=>U (b::bs)
theorem Qy(h1:PV X e f)(h2:Fn X es fs)(hs:A9 (e::es) X.env=(false,eval e X.env)::A9 es X.env:=by rfl):Fn X (e::es) (aq f fs):=MW (gP h1 h2 hs) λσ H Q h=>by
 obtain⟨H0,ρ,bs,E,e,q⟩:=h;obtain⟨b,eb,e⟩:=AT e;obtain⟨g,i,e⟩:=AT e;cases e;refine⟨H0,ρ,b,E,eb,λv H1 c l d=>⟨H0,ρ,g,E.grow c,i,λvs H2 a j=>?_⟩⟩;exact q (v::vs) H2 (c.trans a) (.cons (d.same a) j)
def CV:Bx->O Bx
 |.z d=>U (.z d)
 |.o ds=>U (.z (.lst ds))
 |.l _=>Y
 |.n _=>Y
 |.m _ _=>Y
theorem Ua{a:A1}(I:L2.AU X AN σ H s)(h:H a=U (.lst vs)):∃o,L2.AU X AN σ (B6 H a (.vW o (.lst vs))) s:=by
 obtain⟨z,AQ,n,r,e⟩:=I.hok a _ h;refine⟨{ cls:=.type "list",data:=.seq AQ.toArray n },⟨I.ok,I.os,I.bare,⟨I.base.keep,I.base.slot,λb d q1 q2 f=>?_,I.base.there,λb xs q=>?_,λb d u q=>?_,λb ps q=>?_⟩,I.loc,I.cell,?_,λx c q=>?_,λp hp=>?_,?_,I.len⟩⟩
 ·have:=I.base.free b d q1 q2 f;rw[aR (dO h this).symm];exact this
 ·have:=I.base.tups b xs q;rw[aR (pG this h (by intro z;cases z))];exact this
 ·have:=I.base.Fp b d u q;rw[aR (pG this h (by intro z;cases z))];exact this
 ·obtain⟨m,this⟩:=I.base.JX b ps q;rw[aR (pG this h (by intro z;cases z))];exact⟨m,this⟩
 ·rw[aR (dO h I.free).symm];exact I.free
 ·rw[aR (dO h (I.rJ x c q)).symm];exact I.rJ x c q
 ·obtain⟨q1,q2,f⟩:=I.pin p hp;refine⟨q1,?_,f⟩;rw[aR (dO h q2).symm];exact q2
 ·intro b u q;by_cases hb:b=a
  ·subst hb;rw[bV]at q;cases q;exact⟨e,z,AQ,n,r,e⟩
  ·rw[aR hb]at q;refine(I.hok b u q).stay (λc v _ w=>w) (λc w=>?_) λc xs w=>?_
   ·rw[aR (pG w h (by intro z;cases z))];exact w
   ·rw[aR (pG w h (by intro z;cases z))];exact w
theorem jV(h:QV X e f):QV X e (b1 CV f):=⟨by
 have h:=h.run;intro AN s σ H Q I q;obtain⟨H0,ρ,b,E,e,q⟩:=q;obtain⟨x,ex,e⟩:=AT e;cases x with
 |z d=>
  cases e;exact h AN s σ H Q I ⟨H0,ρ,_,E,ex,λv H' s' i g=>q v H' s' trivial g⟩
 |l ds=>cases e
 |n ds=>cases e
 |m ds _=>cases e
 |o ds=>
  cases e;refine jc (h AN s σ H (λv H'=>AV H H'/\Nw H (.o ds) v/\aX X.K H' (.o ds) v) I ⟨H0,ρ,_,E,ex,λv H' s' i g=>⟨s',i,g⟩⟩) λu B p=>?_;obtain⟨v,H1,y,w,s',i,g⟩:=p;obtain⟨a,vs,rfl,ha,rs⟩:=g;obtain⟨o,A⟩:=Ua y ha;refine⟨.ref a,_,A,w,q _ _ (λc t j=>?_) trivial ?_⟩
  ·rw[aR (dO j (i a S))];exact s' c t j
  ·simp only[aX,AW];exact⟨a,vs,rfl,.inl ⟨o,bV⟩,rs.kp (.lst ha)⟩⟩
def Nv:Z Bx->O (Z Dt)
 |[]=>U []
 |.z d::r=>(Nv r).bind λds=>U (d::ds)
 |_=>Y
theorem Hi{K:B1}{H:Hp}:∀{bs:Z Bx} {vs:Z V} {ds:Z Dt},ud K H bs vs->Nv bs=U ds->aO K H ds vs
 |_,_,_,.nil,e=>by cases e;exact aO.nil
 |b::bs,_,_,.cons h t,e=>by
  cases b with
  |z d=>
   simp only[Nv]at e;obtain⟨a,e1,e2⟩:=AT e;cases e2;exact aO.cons h (Hi t e1)
  |_=>cases e
theorem Hj:∀{bs:Z Bx} {ds:Z Dt},Nv bs=U ds->ds.length=bs.length
 |[],_,e=>by cases e;rfl
 |.z d::r,_,e=>by
  simp only[Nv]at e;obtain⟨a,e1,e2⟩:=AT e;cases e2;simp[Hj e1]
 |.l _::_,_,e=>by cases e
 |.o _::_,_,e=>by cases e
 |.n _::_,_,e=>by cases e
 |.m _ _::_,_,e=>by cases e
def jW(bs:Z Bx):O Bx:=if bs.length<=1000 then(Nv bs).bind λds=>U (.z (.tup ds))else Y
def qH(bs:Z Bx):O Bx:=if bs.length<=1000 then(Nv bs).bind λds=>U (.o ds)else Y
theorem cG{p:A1}(h:H p=Y):AV H (B6 H p o):=λb u e=>by rw[aR (dO e h)];exact e
theorem LB(h:n<=1000):n<=AA:=ZA h (by decide)
theorem gn{x1}(h:Zu X es fs):QV X (.Tuple es x1 pos) (cT jW fs):=⟨have h:=h.run;Ft (PM h) λσ H Q q=>by
 obtain⟨H0,ρ,c,E,e,q⟩:=q;obtain⟨bs,f,e⟩:=AT e;refine⟨H0,ρ,bs,E,f,λvs H1 d b=>?_⟩;unfold jW at e;split at e
 ·rename_i g;obtain⟨ds,e1,e⟩:=AT e;cases e;have a:=Hi b e1;refine⟨LB (by rw[a.length,Hj e1];exact g),λp hp=>q _ _ (d.trans (cG hp)) trivial ?_⟩;simp only[aX,AW];exact⟨p,vs,rfl,.inl (.inl bV),a.kp (.of (cG hp))⟩
 ·cases e⟩
theorem jX(h:Zu X es fs):QV X (.List es pos) (cT qH fs):=⟨have h:=h.run;Ft (YV h) λσ H Q q=>by
 obtain⟨H0,ρ,c,E,e,q⟩:=q;obtain⟨bs,g,e⟩:=AT e;refine⟨H0,ρ,bs,E,g,λvs H1 b f=>?_⟩;unfold qH at e;split at e
 ·rename_i i;obtain⟨ds,e1,e⟩:=AT e;cases e;have d:=Hi f e1;refine⟨LB (by rw[d.length,Hj e1];exact i),λp hp=>q _ _ (b.trans (cG hp)) (λa ea=>by cases ea;exact b.free hp) ?_⟩;exact⟨p,vs,rfl,bV,d.kp (.of (cG hp))⟩
 ·cases e⟩
theorem bO{id:String}{g:Z Bx->O Bx}{p:Pos}(b:uf X (.builtin id) g)(hg:Gl X x)(d:X.mg x=Y)(a:AH x=U (.builtin id))(ha:Zu X (e::es) fs)(f:x ≠ "__name__":=by decide)(c:(x==("__debug__":AJ))=false:=by decide)(he:A9 (e::es) X.env=(false,eval e X.env)::A9 es X.env:=by rfl)(h:(AD pos (A9 es X.env)).any (·.1)=false:=by rfl):QV X (.Call (.Name x p) (e::es) [] pos) (cT g fs):=⟨have ha:=ha.run;Ft (qG b hg d a ha f c he h) DT⟩
theorem iM{T:String}{g:Z Bx->O Bx}{p:Pos}(b:uf X (.type T) g)(hg:Gl X x)(d:X.mg x=Y)(a:AH x=U (.type T))(ha:Zu X (e::es) fs)(f:x ≠ "__name__":=by decide)(c:(x==("__debug__":AJ))=false:=by decide)(he:A9 (e::es) X.env=(false,eval e X.env)::A9 es X.env:=by rfl)(h:(AD pos (A9 es X.env)).any (·.1)=false:=by rfl):QV X (.Call (.Name x p) (e::es) [] pos) (cT g fs):=⟨have ha:=ha.run;Ft (K8 b hg d a ha f c he h) DT⟩
end
inductive As where
 |nx (ρ:Ev)|rt (b:Bx)|bk (ρ:Ev)|ct (ρ:Ev)
def Ub(K:B1)(H0:Hp)(D:C3):As->Prop
 |.nx ρ=>∀ σ H,bZ K H0 H σ ρ->D.nx σ H
 |.rt b=>∀v H,AV H0 H->Nw H0 b v->aX K H b v->D.rt v H
 |.bk ρ=>∀ σ H,bZ K H0 H σ ρ->D.bk σ H
 |.ct ρ=>∀ σ H,bZ K H0 H σ ρ->D.ct σ H
def tG(K:B1)(g:Ev->O As):TS:=λD σ H=>∃H0 ρ r,bZ K H0 H σ ρ/\g ρ=U r/\Ub K H0 D r
def IL(X:Cx)(st:AB)(g:Ev->O As):Prop:=PS X st (tG X.K g)
structure Qz (X:Cx) (st:Stmt) (g:Ev->Option As):Prop where
 run:IL X st g
def Zr(X:Cx)(st:Z AB)(g:Ev->O As):Prop:=TQ X st (tG X.K g)
structure Yc (X:Cx) (st:List Stmt) (g:Ev->Option As):Prop where
 run:Zr X st g
def aD(g1 g2:Ev->O As):Ev->O As:=λρ=>(g1 ρ).bind λr=>match r with
 |.nx a=>g2 a
 |r=>U r
section
variable{a b:Expr}{fa fb fc f:Ev->O Bx}{fs:Ev->O (Z Bx)}{st:AB}{AS:Z AB}{g g1 g2:Ev->O As}
theorem aH  :Yc X [] (λρ=>U (.nx ρ)):=⟨Hk RE λD σ H h=>by
 obtain⟨H0,ρ,r,E,e,q⟩:=h;cases e;exact q σ H E⟩
theorem au(h1:Qz X st g1)(h2:Yc X AS g2):Yc X (st::AS) (aD g1 g2):=⟨have h1:=h1.run;have h2:=h2.run;Hk (ZG h1 h2) λD σ H h=>by
 obtain⟨H0,ρ,r,E,e,q⟩:=h;obtain⟨c,e1,e⟩:=AT e;refine⟨H0,ρ,c,E,e1,?_⟩;cases c with
 |nx a=>exact λσ' H' d=>⟨H0,a,r,d,e,q⟩
 |rt b=>cases e;exact q
 |bk a=>cases e;exact q
 |ct a=>cases e;exact q⟩
def EU:Bx->O As
 |.l _=>Y
 |.n _=>Y
 |b=>U (.rt b)
theorem cg(h:QV X e f):Qz X (.Return (U e) pos) (λρ=>(f ρ).bind EU):=⟨have h:=h.run;Wd (ZJ h) λD σ H h=>by
 obtain⟨H0,ρ,r,E,e,q⟩:=h;obtain⟨b,eb,e⟩:=AT e;refine⟨H0,ρ,b,E,eb,λv H1 c g a=>?_⟩;cases b with
 |l ds=>cases e
 |z d=>cases e;exact q v H1 (E.base.trans c) trivial a
 |o ds=>cases e;exact q v H1 (E.base.trans c) (g.old E.base) a
 |n ds=>cases e
 |m ds _=>cases e;exact q v H1 (E.base.trans c) (g.old E.base) a⟩
def Fw(i:Nat)(ρ:Ev):O As:=match ρ[i]? with
 |some (U b)=>EU b
 |_=>Y
theorem Ae(i:Nat){p:Pos}(g:X.N[i]?=U x:=by rfl)(f:Zq X.env.scope x:=by first|exact kb rfl|exact Q4 (kb S)|exact Q4 (Q4 S))(hd:(x==("__debug__":AJ))=false:=by decide)(j:(x==("__classdict__":AJ))=false:=by decide):Qz X (.Return (U (.Name x p)) pos) (Fw i):=⟨Wd (ZJ (wI g f hd j)) λD σ H h=>by
 obtain⟨H0,ρ,r,E,e,q⟩:=h;unfold Fw at e;split at e
 ·rename_i b hb;obtain⟨v,e1,c⟩:=E.val i b hb;refine⟨v,e1,?_⟩;cases b with
  |l ds=>cases e
  |z d=>cases e;exact q v H E.base trivial c
  |o ds=>cases e;exact q v H E.base (λa ea=>E.new i _ a hb S (by rw[e1,ea])) c
  |n ds=>cases e
  |m ds _=>cases e;exact q v H E.base (λa ea=>E.new i _ a hb S (by rw[e1,ea])) c
 ·cases e⟩
def yd(p:Ev->O Bool)(g1 g2:Ev->O As):Ev->O As:=λρ=>(p ρ).bind λk=>if k=true then g1 ρ else g2 ρ
theorem f9{p:Ev->O Bool}{u v:Z AB}(a:QB X c p)(ha:Yc X u g1)(hb:Yc X v g2):Qz X (.If c u v pos) (yd p g1 g2):=⟨have a:=a.run;have ha:=ha.run;have hb:=hb.run;Wd (gg a ha hb) λD σ H h=>by
 obtain⟨H0,ρ,r,E,e,q⟩:=h;obtain⟨k,ek,e⟩:=AT e;refine⟨H0,ρ,k,E,ek,λH1 b=>?_⟩;cases k with
 |true=>rw[zk rfl]at e ⊢;exact⟨H0,ρ,r,E.grow b,e,q⟩
 |false=>rw[zw ZH]at e ⊢;exact⟨H0,ρ,r,E.grow b,e,q⟩⟩
theorem BB{l:Z α}{x y:α}(h:(l.set i x)[j]?=U y):(j=i/\y=x/\i<l.length)\/(j≠i/\l[j]?=U y):=by
 rw[KP]at h;by_cases e:i=j
 ·subst e;rw[zk rfl]at h;split at h
  ·cases h;exact .inl ⟨rfl,rfl,by assumption⟩
  ·cases h
 ·rw[zw e]at h;exact .inr ⟨λz=>e z.symm,h⟩
theorem Hl{l:Z α}(x:α)(h:i<l.length):(l.set i x)[i]?=U x:=by
 rw[KP,zk rfl,zk h]
theorem Ho{l:Z α}(x:α)(h:j≠i):(l.set i x)[j]?=l[j]?:=by
 rw[KP,zw (KO h)]
theorem bZ.set{H1:Hp}{ρ:Ev}{b:Bx}(E:bZ K H0 H σ ρ)(s:AV H H1)(r:aX K H1 b v)(w:wF b=true\/loose b=false)(n:Nw H b v):bZ K H0 H1 (σ.set i (U v)) (ρ.set i (U b)):=by
 have D:=E.grow s;have C:∀(j:Nat) (g:Bx) (a:A1),ρ[j]?=U (U g)->loose g=true->σ[j]?=U (U (.ref a))->H a≠Y:=λj g a e1 e2 e3 z=>by
  obtain⟨G,h,x⟩:=E.val j g e1;rw[e3]at h;cases h;cases g with
  |z d=>cases e2
  |l ds=>
   obtain⟨y,vs,f,q,_⟩:=x;cases f;rcases q with q|⟨o,q⟩<;>(rw[z]at q;cases q)
  |o ds=>
   obtain⟨y,vs,f,q,_⟩:=x;cases f;rw[z]at q;cases q
  |n ds=>
   obtain⟨y,vs,f,q,_⟩:=x;cases f;rcases q with q|⟨o,q⟩<;>(rw[z]at q;cases q)
  |m ds _=>
   obtain⟨y,vs,f,q,_⟩:=x;cases f;rw[z]at q;cases q
 have A:wF b=true->∀a,v=.ref a->H a=Y:=λho=>by
  cases b with
  |o ds=>exact n
  |m ds _=>exact n
  |_=>cases ho
 refine⟨by rw[kq,kq];exact E.len,λj g e=>?_,λj k c a g e1 p e2 e3 h f=>?_,D.base,λj c a e1 p e2=>?_⟩
 ·rcases BB e with⟨rfl,e',hi⟩|⟨u,e'⟩
  ·cases e';exact⟨v,Hl _ (by rw[E.len];exact hi),r⟩
  ·rw[Ho _ u];exact D.val j g e'
 ·rcases BB e1 with⟨rfl,e',hi⟩|⟨u,e'⟩
  ·cases e';rw[Hl _ (by rw[E.len];exact hi)]at e2;cases e2;rcases BB e3 with⟨rfl,t,_⟩|⟨B,t⟩
   ·rfl
   ·rw[Ho _ B]at f;exact absurd (A p a S) (C k g a t h f)
  ·rw[Ho _ u]at e2;rcases BB e3 with⟨rfl,t,hi⟩|⟨B,t⟩
   ·cases t;rw[Hl _ (by rw[E.len];exact hi)]at f;cases f;have F:loose c=true:=by cases c<;>first|rfl|cases p
    rcases w with w|w
    ·exact absurd (A w a S) (C j _ a e' F e2)
    ·rw[w]at h;cases h
   ·rw[Ho _ B]at f;exact E.own j k c a g e' p e2 t h f
 ·rcases BB e1 with⟨rfl,e',hi⟩|⟨u,e'⟩
  ·cases e';rw[Hl _ (by rw[E.len];exact hi)]at e2;cases e2;exact E.base.free (A p a S)
  ·rw[Ho _ u]at e2;exact E.new j c a e' p e2
def Yd(ρ:Ev)(i:Nat):Bx->O Ev
 |.l _=>Y
 |.n _=>Y
 |b=>U (ρ.set i (U b))
theorem Wg{H1:Hp}{ρ ρ':Ev}{b:Bx}(E:bZ K H0 H σ ρ)(s:AV H H1)(r:aX K H1 b v)(n:Nw H b v)(e:Yd ρ i b=U ρ'):bZ K H0 H1 (σ.set i (U v)) ρ':=by
 cases b with
 |l ds=>cases e
 |z d=>cases e;exact E.set s r (.inr S) n
 |o d=>cases e;exact E.set s r (.inl S) n
 |n ds=>cases e
 |m d _=>cases e;exact E.set s r (.inl S) n
theorem bD(i:Nat){p:Pos}(g:X.N.Nodup)(he:QV X e f)(hi:X.N[i]?=U x:=by rfl)(hx:DE X.env.scope x:=by first|exact kb rfl|exact Q4 S)(hs:swapsWith e (U (.Name x p)) pos.line X.env=pure false:=by rfl)(j:X.fn x=true\/X.env.scope.names.lookup x=U .local:=by first|exact .inl rfl|exact .inr S):Qz X (.Assign [.Name x p] e pos) (λρ=>(f ρ).bind λb=>(Yd ρ i b).bind λρ'=>U (.nx ρ')):=⟨have he:=he.run;Wd (ZL g hi hx he hs j) λD σ H h=>by
 obtain⟨H0,ρ,r,E,e,q⟩:=h;obtain⟨b,eb,e⟩:=AT e;obtain⟨ρ',l,e⟩:=AT e;cases e;exact⟨H0,ρ,b,E,eb,λv H1 d a c=>q _ _ (Wg E d c a l)⟩⟩
def Lo(σ:L2.St)(ρ:Ev)(σ':L2.St)(ρ':Ev):Prop:=∀(j:Nat) b,loose b=true->ρ'[j]?=U (U b)->ρ[j]?=U (U b)/\σ'[j]?=σ[j]?
theorem Lo.refl{ρ:Ev}:Lo σ ρ σ ρ:=λ_ _ _ e=>⟨e,rfl⟩
theorem Lo.trans{σ h f:L2.St}{ρ d g:Ev}(a:Lo σ ρ h d)(b:Lo h d f g):Lo σ ρ f g:=λj c l e=>by
 obtain⟨e1,e2⟩:=b j c l e;obtain⟨e3,i⟩:=a j c l e1;exact⟨e3,e2.trans i⟩
theorem Lo.set{ρ:Ev}(i:Nat)(v:V)(d:Dt):Lo σ ρ (σ.set i (U v)) (ρ.set i (U (.z d))):=λj b l e=>by
 rcases BB e with⟨rfl,e',_⟩|⟨a,e'⟩
 ·cases e';cases l
 ·exact⟨e',Ho _ a⟩
def OB(K:B1)(g:Dt->Ev->O Ev):TG:=λv σ H Q=>∃H0 ρ d a,bZ K H0 H σ ρ/\AW K H d v/\g d ρ=U a/\∀ σ',bZ K H0 H σ' a->Lo σ ρ σ' a->Q σ' H
def FX(X:Cx)(t:Expr)(g:Dt->Ev->O Ev):Prop:=PG X t (OB X.K g)
structure Ch (X:Cx) (t:Expr) (g:Dt->Ev->Option Ev):Prop where
 run:FX X t g
theorem aP(i:Nat)(f:X.N.Nodup)(hi:X.N[i]?=U x:=by rfl)(hx:DE X.env.scope x:=by first|exact kb rfl|exact Q4 S)(a:X.fn x=true\/X.env.scope.names.lookup x=U .local:=by first|exact .inl rfl|exact .inr S):Ch X (.Name x pos) (λd ρ=>U (ρ.set i (U (.z d)))):=⟨λAN s σ H v u Q I r h=>by
 obtain⟨H0,ρ,d,g,E,c,e,q⟩:=h;cases e;exact V6 f hi hx a AN s σ H v u Q I r (q _ (E.set (b:=.z d) (AV.refl H) c (.inr S) trivial) (Lo.set i v d))⟩
def OO(K:B1)(g:Z Dt->Ev->O Ev):DJ:=λvs σ H Q=>∃H0 ρ ds a,bZ K H0 H σ ρ/\aO K H ds vs/\g ds ρ=U a/\∀ σ',bZ K H0 H σ' a->Lo σ ρ σ' a->Q σ' H
def PU(X:Cx)(t:Z Expr)(g:Z Dt->Ev->O Ev):Prop:=L2.Zr X t (OO X.K g)
structure GU (X:Cx) (t:List Expr) (g:List Dt->Ev->Option Ev):Prop where
 run:PU X t g
def rK:Z Dt->Ev->O Ev
 |[],ρ=>U ρ
 |_,_=>Y
def bQ(g:Dt->Ev->O Ev)(gs:Z Dt->Ev->O Ev):Z Dt->Ev->O Ev
 |d::ds,ρ=>(g d ρ).bind (gs ds)
 |_,_=>Y
theorem lJ  :GU X [] rK:=⟨λAN s σ H vs us Q I r h=>by
 obtain⟨H0,ρ,ds,b,E,a,e,q⟩:=h;cases ds with
 |nil=>cases e;unfold aO at a;exact dC AN s σ H vs us Q I r ⟨a,q _ E Lo.refl⟩
 |cons d ds=>cases e⟩
theorem aY{t:Expr}{ts:Z Expr}{gt:Dt->Ev->O Ev}{gs:Z Dt->Ev->O Ev}(h1:Ch X t gt)(h2:GU X ts gs)(hs:(assignEach (t::ts) X.env).map (·.2)=assign t X.env::(assignEach ts X.env).map (·.2):=by rfl):GU X (t::ts) (bQ gt gs):=⟨have h1:=h1.run;have h2:=h2.run;λAN s σ H vs us Q I r h=>by
 obtain⟨H0,ρ,ds,g,E,b,e,q⟩:=h;cases ds with
 |nil=>cases e
 |cons d ds=>
  unfold aO at b;obtain⟨v,n,rfl,c,i⟩:=b;simp only[bQ]at e;obtain⟨a,e1,e⟩:=AT e;exact ZK h1 h2 hs AN s σ H _ us Q I r ⟨v,n,rfl,H0,ρ,d,a,E,c,e1,λp j m=>⟨H0,a,ds,g,j,i,e,λf o l=>q f o (m.trans l)⟩⟩⟩
def pH(n:Nat)(gs:Z Dt->Ev->O Ev):Dt->Ev->O Ev
 |.tup ds,ρ=>if ds.length=n then gs ds ρ else Y
 |_,_=>Y
theorem qI{ts:Z Expr}{k:Nat}{gs:Z Dt->Ev->O Ev}(i:X.calm=true)(h:GU X ts gs)(m:(assignEach ts X.env).length=n:=by rfl)(c:(assignEach ts X.env).findIdx? (·.1)=Y:=by rfl):Ch X (.Tuple ts k pos) (pH n gs):=⟨have h:=h.run;λAN s σ H v u Q I r f=>by
 obtain⟨H0,ρ,d,j,E,b,e,q⟩:=f;cases d with
 |tup ds=>
  simp only[pH]at e;split at e
  ·rename_i l;unfold AW at b;obtain⟨a,vs,rfl,g,rs⟩:=b;exact SA i h m c AN s σ H _ u Q I r ⟨a,vs,rfl,g,by rw[rs.length];exact l,H0,ρ,ds,j,E,rs,e,q⟩
  ·cases e
 |_=>cases e⟩
theorem CW{gt:Dt->Ev->O Ev}(he:QV X e f)(hg:Ch X tg gt)(hs:swapsWithSole [tg] e pos.line X.env=pure false:=by rfl)(g:swappedStores [tg] e X.env=pure Y:=by rfl)(h1:(assignEach [tg] X.env).map (·.2)=[assign tg X.env]:=by rfl):Qz X (.Assign [tg] e pos) (λρ=>(f ρ).bind λb=>match b with|.z d=>(gt d ρ).bind λρ'=>U (.nx ρ')|_=>Y):=⟨have he:=he.run;have hg:=hg.run;Wd (UZ he hg hs g h1) λD σ H h=>by
 obtain⟨H0,ρ,r,E,e,q⟩:=h;obtain⟨b,eb,e⟩:=AT e;refine⟨H0,ρ,b,E,eb,λv H1 i l a=>?_⟩;cases b with
 |z d=>
  obtain⟨ρ',j,e⟩:=AT e;cases e;exact⟨H0,ρ,d,ρ',E.grow i,a,j,λσ' c _=>q _ _ c⟩
 |_=>cases e⟩
def GI(i j:Nat)(ρ:Ev):Z Bx->O As
 |[.z d,.z d']=>U (.nx ((ρ.set i (U (.z d))).set j (U (.z d'))))
 |_=>Y
theorem LF(i j:Nat){px py pt:Pos}{kt k2 pt2}(l:X.calm=true)(m:X.N.Nodup)(ha:Zu X [a,b] fs)(hi:X.N[i]?=U x:=by rfl)(s:X.N[j]?=U y:=by rfl)(u:i≠j:=by decide)(hx:X.env.scope.names.lookup x=U .local:=by rfl)(v:X.env.scope.names.lookup y=U .local:=by rfl)(g:swappedStores [.Tuple [.Name x px,.Name y py] kt pt] (.Tuple [a,b] k2 pt2) X.env=pure (U [x,y]):=by rfl)(hs:swapsWithSole [.Tuple [.Name x px,.Name y py] kt pt] (.Tuple [a,b] k2 pt2) pos.line X.env=pure false:=by rfl):Qz X (.Assign [.Tuple [.Name x px,.Name y py] kt pt] (.Tuple [a,b] k2 pt2) pos) (λρ=>(fs ρ).bind (GI i j ρ)):=⟨have ha:=ha.run;Wd (RH l m hi s u hx v ha g hs) λD σ H h=>by
 obtain⟨H0,ρ,r,E,e,q⟩:=h;obtain⟨bs,eb,e⟩:=AT e;refine⟨H0,ρ,bs,E,eb,λvs H1 n c=>?_⟩;unfold GI at e;split at e
 ·rename_i d o;cases e;cases c with
  |cons p t=>
   cases t with
   |cons p' f=>
    cases f;refine⟨_,_,rfl,q _ _ ?_⟩;exact((E.grow n).set (b:=.z d) (AV.refl H1) p (.inr S) trivial).set (b:=.z o) (AV.refl H1) p' (.inr S) trivial
 ·cases e⟩
def Fm(ρ:Ev)(i:Nat):Bx->O As
 |.z d=>match ρ[i]? with
  |some (U (.o ds))=>if ds.length<AA then U (.nx (ρ.set i (U (.o (ds++[d])))))else Y
  |_=>Y
 |_=>Y
theorem bZ.aiQ{ρ:Ev}{t c1:Bx}{a:A1}{u:HO}(E:bZ K H0 H σ ρ)(h:ρ[i]?=U (U t))(ho:wF t=true)(hs:σ[i]?=U (U (.ref a)))(k:Kp H (B6 H a u))(r:aX K (B6 H a u) c1 (.ref a)):
  bZ K H0 (B6 H a u) σ (ρ.set i (U c1)):=by
 have hi:i<ρ.length:=(List.getElem?_eq_some_iff.mp h).1;have hb:H0 a=Y:=E.new i t a h ho hs;have lo:∀c,wF c=true->loose c=true:=λc F=>by cases c<;>first|rfl|cases F
 refine⟨by rw[kq];exact E.len,λj A e=>?_,λj D c f A e1 y e2 e3 G N=>?_,λc o e=>?_,λj c f e1 y e2=>?_⟩
 ·rcases BB e with⟨rfl,e',_⟩|⟨B,e'⟩
  ·cases e';exact⟨_,hs,r⟩
  ·obtain⟨v,e1,w⟩:=E.val j A e';refine⟨v,e1,?_⟩;have x:∀f,v=.ref f->loose A=true->f≠a:=λf ev M z=>by
    subst z;exact B (E.own i j t _ _ h ho hs e' M (by rw[e1,ev])).symm
   cases A with
   |z d=>exact AW.kp k w
   |l C=>
    obtain⟨f,s,rfl,q,p⟩:=w;refine⟨f,s,rfl,?_,p.kp k⟩;have g:=x f S rfl;rcases q with q|⟨o,q⟩
    ·exact .inl (by rw[aR g];exact q)
    ·exact .inr ⟨o,by rw[aR g];exact q⟩
   |o C=>
    obtain⟨f,s,rfl,q,p⟩:=w;have g:=x f S rfl;exact⟨f,s,rfl,by rw[aR g];exact q,p.kp k⟩
   |n C=>
    obtain⟨f,s,rfl,q,p⟩:=w;refine⟨f,s,rfl,?_,p.kp k⟩;have g:=x f S rfl;rcases q with q|⟨o,q⟩
    ·exact .inl (by rw[aR g];exact q)
    ·exact .inr ⟨o,by rw[aR g];exact q⟩
   |m C=>
    obtain⟨f,s,rfl,q,p⟩:=w;have g:=x f S rfl;exact⟨f,s,rfl,by rw[aR g];exact q,p.1.kp k,p.2⟩
 ·have back:∀(m:Nat) (b:Bx),(ρ.set i (U c1))[m]?=U (U b)->loose b=true->∃b0,ρ[m]?=U (U b0)/\loose b0=true/\(wF b=true->wF b0=true):=λm b e l=>by
   rcases BB e with⟨rfl,e',_⟩|⟨B,e'⟩
   ·exact⟨_,h,lo _ ho,λ_=>ho⟩
   ·exact⟨b,e',l,λz=>z⟩
  obtain⟨b0,q1,q2,J⟩:=back j _ e1 (lo _ y);obtain⟨b1,I,L,_⟩:=back D _ e3 G;exact E.own j D b0 f b1 q1 (J y) e2 I L N
 ·rw[aR (dO e hb)];exact E.base c o e
 ·rcases BB e1 with⟨rfl,e',_⟩|⟨B,e'⟩
  ·exact E.new _ t f h ho e2
  ·exact E.new j c f e' y e2
theorem bZ.Z6{ρ:Ev}{ds es:Z Dt}{a:A1}{us:Z V}(E:bZ K H0 H σ ρ)(h:ρ[i]?=U (U (.o ds)))(hs:σ[i]?=U (U (.ref a)))(ha:H a=U (.lst vs))(r:aO K H es us):
  bZ K H0 (B6 H a (.lst us)) σ (ρ.set i (U (.o es))):=E.aiQ h S hs (.lst ha) ⟨a,us,rfl,bV,r.kp (.lst ha)⟩
theorem wR(i:Nat){p:Pos}(he:QV X e f)(o:X.N[i]?=U x:=by rfl)(n:Zq X.env.scope x:=by first|exact kb rfl|exact Q4 (kb S)|exact Q4 (Q4 S))(hd:(x==("__debug__":AJ))=false:=by decide)(s:(x==("__classdict__":AJ))=false:=by decide)(g:A9 [e] X.env=[(false,eval e X.env)]:=by rfl)(y:attributeBase (.Name x p) "append" X.env (eval (.Name x p) X.env)=eval (.Name x p) X.env:=by rfl)(m:((AD cpos (A9 [e] X.env)).all (λx=>!x.1)&&(backToKw cpos (keywordEach [] X.env)).all (λx=>x.1.isSome)&&decide ([e].length+([]:Z AC).length+(if([]:Z AC).isEmpty then 0 else 1)<30))=true:=by rfl)(A:(apos.endLine==cpos.line)=true:=by rfl)(hs:swapsWith (.Call (.Attribute (.Name x p) "append" apos) [e] [] cpos) Y pos.line X.env=pure false:=by rfl):Qz X (.Expr (.Call (.Attribute (.Name x p) "append" apos) [e] [] cpos) pos) (λρ=>(f ρ).bind (Fm ρ i)):=⟨have he:=he.run;Wd (Ng (Z5 PySem.F.plainAttrs_list PySem.F.slot_list_append PySem.F.type_list_append La (wI (i:=i) o n hd s) (gP he tL (by rw[g]<;>rfl)) y m A (by rw[g]<;>rfl) S) hs) λD σ H h=>by
  obtain⟨H0,ρ,r,E,e,q⟩:=h;obtain⟨b,eb,e⟩:=AT e;cases b with
  |z d=>
   simp only[Fm]at e;split at e
   ·rename_i ds j;split at e
    ·rename_i w;cases e;obtain⟨v,e1,a,vs,rfl,ha,rs⟩:=E.val i _ j;refine⟨_,e1,.inl ⟨rfl,vs,.inl (.inl ha)⟩,H0,ρ,_,E,eb,λu H1 c B l=>?_⟩;have t:=E.grow c;refine⟨a,vs,u,rfl,rfl,c _ _ ha,by rw[rs.length];exact w,q _ _ ?_⟩;exact t.Z6 j e1 (c _ _ ha) ((rs.kp (.of c)).append (aO.cons l aO.nil))
    ·cases e
   ·cases e
  |_=>cases e⟩
end
def IU(x:AJ):It:=⟨λi _=>i<x.cps.size,λi H v H'=>H'=H/\∃c,x.cps[i]?=U c/\v=.str ⟨#[c]⟩,λi _=>x.cps.size<=i⟩
def Sm(h:A6)(it:A1)(x:AJ)(i:Nat):Prop:=∃t,h.IsStrIter it "str_ascii_iterator" x t i\/h.IsStrIter it "str_iterator" x t i
theorem QC(it:A1)(x:AJ):C9 P w K tg (IU x) [it] it (λi h=>Sm h it x i) where
 mem:=by simp
 obj:=λi h st b hb=>by
  have e:b=it:=by simpa using hb
  subst e;obtain⟨t,⟨o,e,c,d⟩|⟨o,e,c,d⟩⟩:=st
  ·exact⟨o,e,λv z=>by rw[d]at z;cases z⟩
  ·exact⟨o,e,λv z=>by rw[d]at z;cases z⟩
 keep:=λi h h' st k=>by
  obtain⟨t,⟨o,e,c⟩|⟨o,e,c⟩⟩:=st
  ·exact⟨t,.inl ⟨o,k it (by simp) o e,c⟩⟩
  ·exact⟨t,.inr ⟨o,k it (by simp) o e,c⟩⟩
 item:=by
  intro X p m q n i AN s σ H E I l st hg;subst p m q;obtain⟨f0,f1,f2,a,f,j⟩:=l it (by simp);have hi:i<x.cps.size:=hg;have hx:x.cps[i]?=U x.cps[i]:=by simp[hi]
  obtain⟨t,st|st⟩:=st
  ·refine wpAny_pyNext_ascii_item st hx λh' g y=>?_;have u:L2.AU X AN σ H { s with heap:=h',toks:=s.toks+1 }:=I.turned (λb o hb e=>(y.2 b hb).trans e) f0 f1 a f j;obtain⟨o,e,c,d⟩:=id g;exact⟨_,rfl,K3 (s:={ s with heap:=h',toks:=s.toks+1 }) e c d (by decide) ⟨.str ⟨#[x.cps[i]]⟩,H,u,⟨_,rfl⟩,⟨rfl,_,hx,rfl⟩,⟨t,.inl g⟩,λb hb=>(l b hb).1⟩⟩
  ·refine wpAny_pyNext_wide_item st hx λh' g y=>?_;have u:L2.AU X AN σ H { s with heap:=h',toks:=s.toks+1 }:=I.turned (λb o hb e=>(y.2 b hb).trans e) f0 f1 a f j;obtain⟨o,e,c,d⟩:=id g;exact⟨_,rfl,K3 (s:={ s with heap:=h',toks:=s.toks+1 }) e c d (by decide) ⟨.str ⟨#[x.cps[i]]⟩,H,u,⟨_,rfl⟩,⟨rfl,_,hx,rfl⟩,⟨t,.inr g⟩,λb hb=>(l b hb).1⟩⟩
 done:=by
  intro X p m q n i AN s σ H E I l st hg;subst p m q;obtain⟨f0,f1,f2,a,f,j⟩:=l it (by simp);have hx:x.cps[i]?=Y:=by have:x.cps.size<=i:=hg;simp[this]
  obtain⟨t,st|st⟩:=st
  ·exact wpAny_pyNext_ascii_end (I.ok.hd n) st hx λh' eb=>⟨rfl,I.turned (t':=s.toks) (λb o hb e=>eb b o hb e) f0 f1 a f j⟩
  ·exact wpAny_pyNext_wide_end (I.ok.hd n) st hx λh' eb=>⟨rfl,I.turned (t':=s.toks) (λb o hb e=>eb b o hb e) f0 f1 a f j⟩
 self:=λ_ _ _ _ _ st h=>by
  obtain⟨t,st|st⟩:=st
  ·exact wpAny_pyIter_striter_ascii st h
  ·exact wpAny_pyIter_striter_wide st h
def cw(K:B1)(tl:TE):TI:=λσ H R=>tl σ H λx H1=>(∃a,x=.ref a/\(∃xs,wJ K H1 a xs)/\R (GV K a) H1)\/(∃a,x=.ref a/\(∃xs,Cy K H1 a xs)/\R (IM K a) H1)\/∃y,x=.str y/\R (IU y) H1
theorem Uc{l:Expr}{tl:TE}(g:PE X l tl):PI X tg l (cw X.K tl):=by
 intro AN s σ H R I h;refine jc (g AN s σ H _ I h) λv s1 ⟨x,H1,I1,r1,q1⟩=>?_;have c:∀(o:AE) (b:A1),b∈[s1.heap.objs.size]->uK X AN H1 b:=λo b hb=>by
  have e:b=s1.heap.objs.size:=by simpa using hb
  subst e;exact I1.ZP (zo _) (I1.hok.fresh (zo _))
 rcases q1 with⟨a,e,⟨xs,d⟩,q⟩|⟨a,e,⟨xs,d⟩,q⟩|⟨y,e,q⟩
 ·subst e;cases r1;obtain⟨AQ,f,p,i⟩:=I1.list d;refine wpAny_pyIter_list p.isList ?_;exact⟨s1.heap.objs.size,[s1.heap.objs.size],_,_,H1,rfl,I1.kept (t':=s1.toks) λb o e=>zd _ e,XJ a _,⟨_,zv _ rfl,rfl,rfl⟩,c default,q⟩
 ·subst e;cases r1;obtain⟨AQ,f,p,i⟩:=I1.tuple d;refine wpAny_pyIter_tuple (show s1.heap.IsTuple a AQ.toArray from p) ?_;exact⟨s1.heap.objs.size,[s1.heap.objs.size],_,_,H1,rfl,I1.kept (t':=s1.toks) λb o e=>zd _ e,TV a _,⟨_,zv _ rfl,rfl,rfl⟩,c default,q⟩
 ·subst e;obtain⟨t,rfl⟩:=r1;cases ha:y.cps.all (· < 128)with
  |true=>
   refine wpAny_pyIter_ascii ha ?_;exact⟨s1.heap.objs.size,[s1.heap.objs.size],_,_,H1,rfl,I1.kept (t':=s1.toks) λb o e=>zd _ e,QC _ y,⟨t,.inl ⟨_,zv _ rfl,rfl,rfl⟩⟩,c default,q⟩
  |false=>
   refine wpAny_pyIter_wide ha ?_;exact⟨s1.heap.objs.size,[s1.heap.objs.size],_,_,H1,rfl,I1.kept (t':=s1.toks) λb o e=>zd _ e,QC _ y,⟨t,.inr ⟨_,zv _ rfl,rfl,rfl⟩⟩,c default,q⟩
def B5(K:B1)(J:It)(ds:Z Dt)(Hs:Hp):Prop:=∀(i:Nat) (H:Hp),AV Hs H →
 (∀d,ds[i]?=U d->J.go i H/\∀x H',J.yld i H x H'->AV H H'/\AW K H' d x)/\(ds.length<=i->J.stop i H)
theorem B5.of{ds:Z Dt}(h:∀(i:Nat) (H:Hp),AV Hs H →
  (∀d,ds[i]?=U d->J.go i H/\∀x H',J.yld i H x H'->H'=H/\AW K H d x)/\(ds.length<=i->J.stop i H)):B5 K J ds Hs:=λi H s=>
 ⟨λd e=>⟨((h i H s).1 d e).1,λx H' y=>by
  obtain⟨rfl,r⟩:=((h i H s).1 d e).2 x H' y;exact⟨AV.refl _,r⟩⟩,(h i H s).2⟩
def BI(x:AJ):Z Dt:=x.cps.toList.map λc=>.str ⟨#[c]⟩
theorem B5.list{ds:Z Dt}(h:wJ K Hs a vs)(r:aO K Hs ds vs):B5 K (GV K a) ds Hs:=.of λi H s=>by
 have h':=s.seq h;have b:=r.kp (.of s);refine⟨λd e=>?_,λe=>⟨vs,h',by rw[r.length];exact e⟩⟩;obtain⟨v,ev,c⟩:=b.get e;refine⟨⟨vs,v,h',ev⟩,λx H' y=>?_⟩;obtain⟨y1,y2⟩:=y;have:=y2 vs h';rw[ev]at this;cases this;exact⟨y1,c⟩
theorem B5.tup{ds:Z Dt}(h:Cy K Hs a vs)(r:aO K Hs ds vs):B5 K (IM K a) ds Hs:=.of λi H s=>by
 have h':=(Kp.of s).sqT h;have b:=r.kp (.of s);refine⟨λd e=>?_,λe=>⟨vs,h',by rw[r.length];exact e⟩⟩;obtain⟨v,ev,c⟩:=b.get e;refine⟨⟨vs,v,h',ev⟩,λx H' y=>?_⟩;obtain⟨y1,y2⟩:=y;have:=y2 vs h';rw[ev]at this;cases this;exact⟨y1,c⟩
theorem B5.str(x:AJ):B5 K (IU x) (BI x) Hs:=.of λi H s=>by
 refine⟨λd e=>?_,λe=>?_⟩
 ·unfold BI at e;rw[Zp]at e;cases h:x.cps.toList[i]? with
  |none=>rw[h]at e;cases e
  |some c=>
   rw[h]at e;cases e;have b:x.cps[i]?=U c:=by simpa using h
   have hi:i<x.cps.size:=by
    have:=(List.getElem?_eq_some_iff.mp h).1;simpa using this
   refine⟨hi,λv H' y=>?_⟩;obtain⟨y1,f,a,rfl⟩:=y;rw[b]at a;cases a;refine⟨y1,?_⟩;unfold AW;exact⟨rfl,by show(1:Nat)<=AA;decide⟩
 ·have:(BI x).length=x.cps.size:=by simp[BI]
  show x.cps.size<=i;omega
def QD(lo:Int)(n:Nat):Z Dt:=(List.range n).map λk=>.int (lo+(k:Nat))
theorem B5.rng(lo:Int)(n:Nat):B5 K (G0 lo n) (QD lo n) Hs:=.of λi H s=>by
 refine⟨λd e=>?_,λe=>?_⟩
 ·unfold QD at e;rw[Zp]at e;by_cases hi:i<n
  ·rw[List.getElem?_range hi]at e;cases e;refine⟨hi,λv H' y=>?_⟩;obtain⟨y1,y2⟩:=y;refine⟨y1,?_⟩;unfold AW;exact y2
  ·rw[qV (by simp;omega)]at e;cases e
 ·have:(QD lo n).length=n:=by simp[QD]
  show n<=i;omega
def iF(K:B1)(f:Ev->O (Z Dt)):TI:=λσ H R=>∃H0 ρ ds,bZ K H0 H σ ρ/\f ρ=U ds/\∀J H',AV H H' →
 (∀Hs,AV Hs H'->(∀a,H a=Y->Hs a=H' a)->(∀a o u,H' a=U (.vW o u)->Hs a=H' a)->(∀a vs,H' a=U (.tup vs)->Hs a=H' a)->B5 K J ds Hs)->R J H'
def hX(X:Cx)(tg iter:Expr)(f:Ev->O (Z Dt)):Prop:=PI X tg iter (iF X.K f)
structure Fa (X:Cx) (tg iter:Expr) (f:Ev->Option (List Dt)):Prop where
 run:hX X tg iter f
def EV:Bx->O (Z Dt)
 |.z (.lst ds)=>U ds
 |.z (.tup ds)=>U ds
 |.z (.str x)=>U (BI x)
 |.o ds=>U ds
 |_=>Y
section
variable{f:Ev->O Bx}{fs:Ev->O (Z Bx)}
mutual
theorem AW.part{K:B1}{H Hs:Hp}(b:∀a o u,H a=U (.vW o u)->Hs a=H a)(c:∀a vs,H a=U (.tup vs)->Hs a=H a):∀{d:Dt} {v:V},AW K H d v->AW K Hs d v
 |.non,_,h=>by simpa only[AW]using h
 |.bl _,_,h=>by simpa only[AW]using h
 |.int _,_,h=>by simpa only[AW]using h
 |.str _,_,h=>by simpa only[AW]using h
 |.tup ds,_,h=>by
  simp only[AW]at h ⊢;obtain⟨a,vs,e,q,r⟩:=h;refine⟨a,vs,e,?_,aO.part b c r⟩;rcases q with (q|⟨o,q⟩)|q
  ·exact .inl (.inl ((c _ _ q).trans q))
  ·exact .inl (.inr ⟨o,(b _ _ _ q).trans q⟩)
  ·exact .inr q
 |.lst ds,_,h=>by
  simp only[AW]at h ⊢;obtain⟨a,vs,e,q,r⟩:=h;refine⟨a,vs,e,?_,aO.part b c r⟩;rcases q with⟨o,q⟩|q
  ·exact .inl ⟨o,(b _ _ _ q).trans q⟩
  ·exact .inr q
 |.emp,_,h=>by
  simp only[AW]at h ⊢;obtain⟨a,o,e,q⟩:=h;exact⟨a,o,e,(b _ _ _ q).trans q⟩
theorem aO.part{K:B1}{H Hs:Hp}(c:∀a o u,H a=U (.vW o u)->Hs a=H a)(b:∀a vs,H a=U (.tup vs)->Hs a=H a):∀{ds:Z Dt} {vs:Z V},aO K H ds vs->aO K Hs ds vs
 |[],_,h=>by simpa only[aO]using h
 |d::ds,_,h=>by
  simp only[aO]at h ⊢;obtain⟨v,r,e,q,t⟩:=h;exact⟨v,r,e,AW.part c b q,aO.part c b t⟩
end
theorem Af(h:QV X e f):Fa X tg e (λρ=>(f ρ).bind EV):=⟨have h:=h.run;λAN s σ H R I q=>by
 refine Uc h AN s σ H R I ?_;obtain⟨H0,ρ,ds,E,e,q⟩:=q;obtain⟨b,eb,e⟩:=AT e;refine⟨H0,ρ,b,E,eb,λv H1 t w i=>?_⟩;cases b with
 |z d=>
  cases d with
  |tup p=>
   cases e;simp only[aX,AW]at i;obtain⟨a,vs,rfl,c,rs⟩:=i;refine .inr (.inl ⟨a,rfl,⟨vs,c⟩,q _ _ t λHs hs u g j=>.tup ?_ (rs.part g j)⟩);rcases c with (c|⟨o,c⟩)|c
   ·exact .inl (.inl ((j _ _ c).trans c))
   ·exact .inl (.inr ⟨o,(g _ _ _ c).trans c⟩)
   ·exact .inr c
  |lst p=>
   cases e;simp only[aX,AW]at i;obtain⟨a,vs,rfl,c,rs⟩:=i;refine .inl ⟨a,rfl,⟨vs,c.sq⟩,q _ _ t λHs hs u g j=>.list ?_ (rs.part g j)⟩;rcases c with⟨o,c⟩|c
   ·exact .inl (.inr ⟨o,(g _ _ _ c).trans c⟩)
   ·exact .inr c
  |str x=>
   cases e;simp only[aX,AW]at i;obtain⟨rfl,_⟩:=i;exact .inr (.inr ⟨x,rfl,q _ _ t λHs hs u g j=>.str x⟩)
  |_=>cases e
 |l p=>cases e
 |n p=>cases e
 |m p=>cases e
 |o p=>
  cases e;obtain⟨a,vs,rfl,c,rs⟩:=i;refine .inl ⟨a,rfl,⟨vs,.inl (.inl c)⟩,q _ _ t λHs hs u g j=>.list (.inl (.inl ((u a (w a S)).trans c))) (rs.part g j)⟩⟩
def L0:Z Bx->O (Z Dt)
 |[.z (.int j)]=>if -(2 ^ 62)<=j/\j<2 ^ 62 then U (QD 0 j.toNat)else Y
 |_=>Y
theorem ug{p:Pos}(hg:Gl X "range")(d:X.mg "range"=Y)(ha:Zu X [e] fs)(hs:A9 [e] X.env=[(false,eval e X.env)]:=by rfl):Fa X tg (.Call (.Name "range" p) [e] [] pos) (λρ=>(fs ρ).bind L0):=⟨have ha:=ha.run;λAN s σ H R I q=>by
 refine XM hg d ha hs AN s σ H R I ?_;obtain⟨H0,ρ,ds,E,e,q⟩:=q;obtain⟨bs,eb,e⟩:=AT e;refine⟨H0,ρ,bs,E,eb,λvs H1 c b=>?_⟩;unfold L0 at e;split at e
 ·rename_i j;split at e
  ·rename_i a;cases e;cases b with
   |cons p t=>
    cases t;simp only[aX,AW]at p;subst p;exact⟨j,rfl,a.1,a.2,q _ _ c λHs _ _ _ _=>.rng 0 _⟩
  ·cases e
 ·cases e⟩
def uh(gt:Dt->Ev->O Ev)(gb:Ev->O As):Z Dt->Ev->O As
 |[],ρ=>U (.nx ρ)
 |d::ds,ρ=>(gt d ρ).bind λc=>(gb c).bind λr=>match r with
  |.nx a=>uh gt gb ds a
  |.ct a=>uh gt gb ds a
  |.bk a=>U (.nx a)
  |.rt b=>U (.rt b)
noncomputable def gj(H:Hp)(σ:L2.St)(ρ:Ev):Hp:=λa=>@ite _ (∃(i:Nat) (c:Bx),ρ[i]?=U (U c)/\wF c=true/\σ[i]?=U (U (.ref a))) (Classical.propDecidable _) Y (H a)
theorem Ag{ρ:Ev}:AV (gj H σ ρ) H:=λa o e=>by
 unfold gj at e;split at e
 ·cases e
 ·exact e
theorem bZ.rebase{ρ:Ev}(E:bZ K Hs H σ ρ)(s:AV H0 Hs):bZ K H0 H σ ρ:=⟨E.len,E.val,E.own,s.trans E.base,λi c a e1 b e2=>s.free (E.new i c a e1 b e2)⟩
theorem bZ.sans{ρ:Ev}(E:bZ K H0 H σ ρ):bZ K (gj H σ ρ) H σ ρ:=⟨E.len,E.val,E.own,Ag,λi c a e1 b e2=>by
 unfold gj;rw[zk ⟨i,c,e1,b,e2⟩]⟩
theorem bZ.sub{ρ:Ev}(E:bZ K H0 H σ ρ):AV H0 (gj H σ ρ):=λa o e=>by
 unfold gj;split
 ·rename_i h;obtain⟨i,c,e1,b,e2⟩:=h;rw[E.new i c a e1 b e2]at e;cases e
 ·exact E.base a o e
theorem jA{ρ:Ev}(E:bZ K H0 H σ ρ)(h:∀vs,H a≠U (.lst vs))(h2:∀vs,H a≠U (.dK vs)):gj H σ ρ a=H a:=by
 unfold gj;split
 ·rename_i e;obtain⟨i,c,e1,g,e2⟩:=e;obtain⟨v,e3,d⟩:=E.val i _ e1;rw[e2]at e3;cases e3;cases c with
  |o ds=>obtain⟨f,vs,b,q,_⟩:=d;cases b;exact absurd q (h vs)
  |m ds _=>obtain⟨f,vs,b,q,_⟩:=d;cases b;exact absurd q (h2 vs)
  |_=>cases g
 ·rfl
theorem Ub.rebase{K:B1}{H0 Hs:Hp}{D:C3}{r:As}(s:AV H0 Hs)(h:Ub K H0 D r):Ub K Hs D r:=by
 cases r with
 |nx ρ=>exact λσ H E=>h σ H (E.rebase s)
 |bk ρ=>exact λσ H E=>h σ H (E.rebase s)
 |ct ρ=>exact λσ H E=>h σ H (E.rebase s)
 |rt b=>exact λv H s' n r=>h v H (s.trans s') (n.old s) r
theorem um{gt:Dt->Ev->O Ev}{gb:Ev->O As}{ds:Z Dt}{H1:Hp}{ρ:Ev}{D:C3}{r:As}(t:bZ X.K H0 H1 σ ρ)(Y:B5 X.K J ds (gj H1 σ ρ))(e:uh gt gb ds ρ=U r)(q:Ub X.K H0 D r):
  ∃W:Nat->Nat->L2.St->Hp->Prop,(∃m,W 0 m σ H1)/\∀i m σ H,W i m σ H →
   (J.stop i H/\D.nx σ H)\/(J.go i H/\∃N:L2.St->Hp->Prop,(∀ σ' H',N σ' H'->∃o,o<m/\W (i+1) o σ' H')/\∀x H',J.yld i H x H'->OB X.K gt x σ H' λc H2=>tG X.K gb { D with nx:=N,ct:=N,bk:=D.nx } c H2):=by
 have n:=t.sans;have q2:=q.rebase t.sub;generalize gj H1 σ ρ=Hs at Y n q2;refine⟨λi m σ' H'=>m=ds.length-i/\i<=ds.length/\∃d,bZ X.K Hs H' σ' d/\uh gt gb (ds.drop i) d=U r,⟨ds.length,by simp,QP _,ρ,n,by simpa using e⟩,?_⟩;rintro i m σ' H' ⟨rfl,C,d,h,e'⟩;obtain⟨y1,y2⟩:=Y i H' h.base;by_cases j:i<ds.length
 ·right;have hd:ds[i]?=U ds[i]:=by simp[j]
  obtain⟨u,z⟩:=y1 _ hd;rw[List.drop_eq_getElem_cons j]at e';simp only[uh]at e';obtain⟨l,e1,e'⟩:=AT e';obtain⟨p,e2,e'⟩:=AT e';refine⟨u,λc H2=>∃a,bZ X.K Hs H2 c a/\uh gt gb (ds.drop (i+1)) a=U r,λc H2 ⟨a,g,e3⟩=>⟨ds.length-(i+1),by omega,rfl,j,a,g,e3⟩,λx H2 w=>?_⟩;obtain⟨v,y⟩:=z x H2 w;refine⟨Hs,d,ds[i],l,h.grow v,y,e1,λB g _=>⟨Hs,l,p,g,e2,?_⟩⟩;cases p with
  |nx a=>exact λc A f=>⟨a,f,e'⟩
  |ct a=>exact λc A f=>⟨a,f,e'⟩
  |bk a=>cases e';exact q2
  |rt b=>cases e';exact q2
 ·left;have s:ds.length<=i:=by omega
  refine⟨y2 s,?_⟩;rw[List.drop_eq_nil_of_le s]at e';cases e';exact q2 σ' H' h
theorem tM{fi:Ev->O (Z Dt)}{gt:Dt->Ev->O Ev}{gb:Ev->O As}(hp:PassesOwn (A8 X.prog X.w) X.A X.env X.xe)(p:X.calm=true)(hi:Fa X tg iter fi)(hg:Ch X tg gt)(hb:Yc X body gb)(hs:∀x,foldedSetIterable iter X.env x=pure x:=by intro _;rfl):Qz X (.For tg iter body [] pos) (λρ=>(fi ρ).bind λds=>uh gt gb ds ρ):=⟨have hi:=hi.run;have hg:=hg.run;have hb:=hb.run;Wd (ZR hp p hi hg hb hs) λD σ H h=>by
 obtain⟨H0,ρ,r,E,e,q⟩:=h;obtain⟨ds,l,e⟩:=AT e;refine⟨H0,ρ,ds,E,l,λJ H1 s y=>?_⟩;have d:=E.grow s;refine um d ?_ e q;refine y _ Ag (λa ha=>?_) (λa o u ha=>jA d (λvs z=>by rw[ha]at z;cases z) (λvs z=>by rw[ha]at z;cases z)) λa vs ha=>jA d (λvs z=>by rw[ha]at z;cases z) (λvs z=>by rw[ha]at z;cases z);unfold gj;split
 ·rename_i j;obtain⟨i,c,e1,n,e2⟩:=j;obtain⟨v,e3,f⟩:=E.val i _ e1;rw[e2]at e3;cases e3;cases c with
  |o ds=>obtain⟨g,vs,b,q,_⟩:=f;cases b;rw[ha]at q;cases q
  |m ds _=>obtain⟨g,vs,b,q,_⟩:=f;cases b;rw[ha]at q;cases q
  |_=>cases n
 ·rfl⟩
theorem bZ.lend{ρ:Ev}{ds:Z Dt}(E:bZ K H0 H σ ρ)(h:ρ[i]?=U (U (.o ds))):bZ K H0 H σ (ρ.set i (U (.l ds))):=by
 have back:∀(j:Nat) (b:Bx),(ρ.set i (U (.l ds)))[j]?=U (U b)->(j=i/\b=.l ds)\/(j≠i/\ρ[j]?=U (U b)):=λj b e=>by
  rcases BB e with⟨rfl,e',_⟩|⟨f,e'⟩
  ·cases e';exact .inl ⟨rfl,rfl⟩
  ·exact .inr ⟨f,e'⟩
 refine⟨by rw[kq];exact E.len,λj b e=>?_,λj k c a b e1 d e2 e3 n g=>?_,E.base,λj c a e1 d e2=>?_⟩
 ·rcases back j b e with⟨rfl,rfl⟩|⟨f,e'⟩
  ·obtain⟨v,e1,a,vs,e2,q,r⟩:=E.val _ _ h;exact⟨v,e1,a,vs,e2,.inl q,r⟩
  ·exact E.val j b e'
 ·rcases back j _ e1 with⟨rfl,z⟩|⟨f,e'⟩
  ·subst z;cases d
  ·rcases back k _ e3 with⟨rfl,z⟩|⟨p,m⟩
   ·exact E.own j _ c a _ e' d e2 h S g
   ·exact E.own j k c a b e' d e2 m n g
 ·rcases back j _ e1 with⟨rfl,z⟩|⟨f,e'⟩
  ·subst z;cases d
  ·exact E.new j c a e' d e2
def zq(i:Nat)(gt:Dt->Ev->O Ev)(gb:Ev->O As)(ρ:Ev):O As:=match ρ[i]? with
 |some (U (.o ds))=>uh gt gb ds (ρ.set i (U (.l ds)))
 |some (U (.l ds))=>uh gt gb ds ρ
 |some (U b)=>(EV b).bind λds=>uh gt gb ds ρ
 |_=>Y
theorem MB{ρ:Ev}{ds:Z Dt}(E:bZ X.K H0 H σ ρ)(h:ρ[i]?=U (U (.l ds))):∃a vs,σ[i]?=U (U (.ref a))/\wJ X.K H a vs/\B5 X.K (GV X.K a) ds (gj H σ ρ):=by
 obtain⟨v,e1,a,vs,rfl,q,r⟩:=E.val i _ h;have e:gj H σ ρ a=H a:=by
  unfold gj;split
  ·rename_i f;obtain⟨j,c,e2,d,e3⟩:=f;have:=E.own j i c a _ e2 d e3 h S e1;subst this;rw[h]at e2;cases e2;cases d
  ·rfl
 refine⟨a,vs,e1,.inl q,.list (.inl ?_) (r.part (λb o u hb=>jA E (λvs z=>by rw[hb]at z;cases z) (λvs z=>by rw[hb]at z;cases z)) λb g hb=>jA E (λvs z=>by rw[hb]at z;cases z) (λvs z=>by rw[hb]at z;cases z))⟩;rcases q with q|⟨o,q⟩
 ·exact .inl (e.trans q)
 ·exact .inr ⟨o,e.trans q⟩
theorem Gv(i:Nat){p:Pos}{gt:Dt->Ev->O Ev}{gb:Ev->O As}(hp:PassesOwn (A8 X.prog X.w) X.A X.env X.xe)(J:X.calm=true)(hg:Ch X tg gt)(hb:Yc X body gb)(K:X.N[i]?=U x:=by rfl)(I:Zq X.env.scope x:=by first|exact kb rfl|exact Q4 (kb S)|exact Q4 (Q4 S))(hd:(x==("__debug__":AJ))=false:=by decide)(L:(x==("__classdict__":AJ))=false:=by decide)(hs:∀y,foldedSetIterable (.Name x p) X.env y=pure y:=by intro _;rfl):Qz X (.For tg (.Name x p) body [] pos) (zq i gt gb):=⟨have hg:=hg.run;have hb:=hb.run;Wd (ZR hp J (Uc (wI (i:=i) K I hd L)) hg hb hs) λD σ H h=>by
 obtain⟨H0,ρ,r,E,e,q⟩:=h;unfold zq at e;split at e
 ·rename_i ds s;have F:=E.lend s;have hi:i<ρ.length:=(List.getElem?_eq_some_iff.mp s).1;obtain⟨a,vs,e1,sq,Y⟩:=MB F (Hl _ hi);exact⟨_,e1,.inl ⟨a,rfl,⟨vs,sq⟩,um F Y e q⟩⟩
 ·rename_i ds s;obtain⟨a,vs,e1,sq,Y⟩:=MB E s;exact⟨_,e1,.inl ⟨a,rfl,⟨vs,sq⟩,um E Y e q⟩⟩
 ·rename_i b G M s;obtain⟨ds,f,e⟩:=AT e;obtain⟨v,e1,g⟩:=E.val i _ s;have t:∀b o u,H b=U (.vW o u)->gj H σ ρ b=H b:=λb o u hb=>jA E (λvs z=>by rw[hb]at z;cases z) (λvs z=>by rw[hb]at z;cases z);have B:∀b C,H b=U (.tup C)->gj H σ ρ b=H b:=λb C hb=>jA E (λvs z=>by rw[hb]at z;cases z) (λvs z=>by rw[hb]at z;cases z);cases b with
  |z d=>
   cases d with
   |tup j=>
    cases f;simp only[aX,AW]at g;obtain⟨a,vs,rfl,c,rs⟩:=g;refine⟨_,e1,.inr (.inl ⟨a,rfl,⟨vs,c⟩,um E (.tup ?_ (rs.part t B)) e q⟩)⟩;rcases c with (c|⟨o,c⟩)|c
    ·exact .inl (.inl ((B _ _ c).trans c))
    ·exact .inl (.inr ⟨o,(t _ _ _ c).trans c⟩)
    ·exact .inr c
   |lst j=>
    cases f;simp only[aX,AW]at g;obtain⟨a,vs,rfl,c,rs⟩:=g;refine⟨_,e1,.inl ⟨a,rfl,⟨vs,c.sq⟩,um E (.list ?_ (rs.part t B)) e q⟩⟩;rcases c with⟨o,c⟩|c
    ·exact .inl (.inr ⟨o,(t _ _ _ c).trans c⟩)
    ·exact .inr c
   |str x=>
    cases f;simp only[aX,AW]at g;obtain⟨rfl,_⟩:=g;exact⟨_,e1,.inr (.inr ⟨x,rfl,um E (.str x) e q⟩)⟩
   |_=>cases f
  |l j=>cases f
  |o j=>exact absurd S (G j)
  |n j=>cases f
  |m j=>cases f
 ·cases e⟩
end
def C8(a:Z (AJ×A1)):Z (AJ×A1)->Prop
 |[]=>True
 |(n,c)::r=>a.lookup n=U c/\C8 a r
theorem C8.get{a:Z (AJ×A1)}:∀{cl:Z (AJ×A1)},C8 a cl->∀{x:AJ} {c:A1},cl.lookup x=U c->a.lookup x=U c
 |[],_,_,_,e=>by cases e
 |(n,d)::r,h,x,c,e=>by
  rw[List.lookup_cons]at e;by_cases hx:x==n
  ·simp only[hx]at e;cases e;have:x=n:=by simpa using hx
   rw[this];exact h.1
  ·have hx:(x==n)=false:=by simpa using hx
   simp only[hx]at e;exact C8.get h.2 e
structure MO (X:Cx) (scope:Scope) (cl:List (Str×Addr)) (x:Str) (i:Nat):Prop where
 n:X.N[i]?=some x
 k:X.env.kindOf x=some .cell\/X.env.kindOf x=some .free
 k':(relabel scope X.env).names.lookup x=some .cell\/(relabel scope X.env).names.lookup x=some .free
 c:∃c,cl.lookup x=some c
def J4(X:Cx)(scope:Scope)(cl:Z (AJ×A1)):AZ->Z Nat->Prop
 |[],[]=>True
 |x::xs,i::is=>MO X scope cl x i/\J4 X scope cl xs is
 |_,_=>False
theorem J4.get{X:Cx}{scope:Scope}{cl:Z (AJ×A1)}:∀{xs:AZ} {is:Z Nat},J4 X scope cl xs is->xs.length=is.length/\∀(j:Nat) (x:AJ),xs[j]?=U x->∃i,is[j]?=U i/\MO X scope cl x i
 |[],[],_=>⟨rfl,λj x e=>by simp at e⟩
 |x::xs,i::is,h=>by
  obtain⟨h1,h2⟩:=h;obtain⟨l,g⟩:=J4.get h2;refine⟨by simp[l],λj y e=>?_⟩;cases j with
  |zero=>simp at e;subst e;exact⟨i,rfl,h1⟩
  |succ j=>obtain⟨k,e1,e2⟩:=g j y (by simpa using e);exact⟨k,by simpa using e1,e2⟩
 |[],_::_,h=>h.elim
 |_::_,[],h=>h.elim
def I0(a:Z (AJ×NameKind))(x:AJ):Bool:=match a.lookup x with
 |some .cell=>true
 |_=>false
def JW(X:Cx)(a:AZ)(scope:Scope)(cl:Z (AJ×A1))(C:A1)(s₀:A2)(H₀:Hp)(fp:Z A1):Cx:=
 { X with N:=a,s₀:=s₀,H₀:=H₀,env:=compEnvC scope (cellsFrom (C+1) scope.names cl) C X.env,outer:=X.stack,ex:=fp,fn:=I0 scope.names,pn:=[],xe:=λ_ _=>False }
structure IR (h:Heap) (cs:List (Str×Addr)):Prop where
 inj:∀x y c,cs.lookup x=some c->cs.lookup y=some c->x=y
 cell:∀x c,cs.lookup x=some c->∃v,h.IsCell c v
theorem lA{n:AJ}{a:α}{l:Z (AJ×α)}(h:x≠n):((n,a)::l).lookup x=l.lookup x:=by
 rw[List.lookup_cons,beq_eq_false_iff_ne.mpr h]
theorem HH:∀(g:Z (AJ×NameKind)) (h:A6) (d:Z (AJ×A1)),IR h d->IR (pushCells h g) (cellsFrom h.objs.size g d)
 |[],_,_,x=>x
 |(n,k)::r,h,d,x=>by
  unfold pushCells cellsFrom;split
  ·have i:∀y c,d.lookup y=U c->c≠h.objs.size:=λy c e=>let ⟨_,q⟩:=x.cell y c e;zS q.lt;have:=HH r (h.push { cls:=.type "cell",data:=.cell Y }) ((n,h.objs.size)::d) ⟨λy z c e1 e2=>?_,λy c e=>?_⟩
   ·rwa [qq]at this
   ·by_cases a:y=n<;>by_cases f:z=n
    ·rw[a,f]
    ·subst a;rw[kz]at e1;rw[lA f]at e2;cases e1;exact absurd S (i _ _ e2)
    ·subst f;rw[kz]at e2;rw[lA a]at e1;cases e2;exact absurd S (i _ _ e1)
    ·rw[lA a]at e1;rw[lA f]at e2;exact x.inj y z c e1 e2
   ·by_cases a:y=n
    ·subst a;rw[kz]at e;cases e;exact⟨Y,_,zv _ rfl,rfl⟩
    ·rw[lA a]at e;obtain⟨v,q⟩:=x.cell y c e;exact⟨v,q.keeps λb o e=>zd _ e⟩
  ·exact HH r h d x
theorem Ah:∀(b:Z (AJ×NameKind)) (n:Nat) (a:Z (AJ×A1)) (x:AJ) (c:A1),(cellsFrom n b a).lookup x=U c->a.lookup x=U c\/n<=c
 |[],_,_,_,_,e=>.inl e
 |(m,k)::r,n,a,x,c,e=>by
  unfold cellsFrom at e;split at e
  ·rcases Ah r _ _ x c e with h|h
   ·by_cases hx:x=m
    ·subst hx;rw[kz]at h;cases h;exact .inr (zo _)
    ·rw[lA hx]at h;exact .inl h
   ·exact .inr (by omega)
  ·exact Ah r _ _ x c e
theorem Nx:∀(b:Z (AJ×NameKind)) (n:Nat) (a:Z (AJ×A1)) (x:AJ),(x,NameKind.cell)∉b->(cellsFrom n b a).lookup x=a.lookup x
 |[],_,_,_,_=>rfl
 |(m,k)::r,n,a,x,h=>by
  unfold cellsFrom;have c:(x,NameKind.cell)∉r:=λz=>h (zi _ z);split
  ·rename_i d;rw[Nx r _ _ x c,lA λz=>h (by rw[z,<-beq_iff_eq.mp d];exact zg ..)]
  ·exact Nx r _ _ x c
theorem Ud:∀(b:Z (AJ×NameKind)) (n:Nat) (a:Z (AJ×A1)) (x:AJ),((x,NameKind.cell)∈b\/∃c,a.lookup x=U c)->∃c,(cellsFrom n b a).lookup x=U c
 |[],_,_,_,h=>h.elim (λz=>by simp at z) λz=>z
 |(m,k)::r,n,a,x,h=>by
  unfold cellsFrom;split
  ·refine Ud r _ _ x ?_;by_cases hx:x=m
   ·exact .inr ⟨n,by rw[hx,kz]⟩
   ·rw[lA hx];exact h.imp_left λz=>(List.mem_cons.mp z).elim (λz=>absurd (congrArg Prod.fst z) hx) λz=>z
  ·rename_i d;exact Ud r _ _ x (h.imp_left λz=>(List.mem_cons.mp z).elim (λz=>by cases z;exact absurd S d) λz=>z)
theorem Ye{g:A1}{Q:Env->A2->Prop}(h:Q (newEnv scope s.heap.objs.size g (cellsFrom (s.heap.objs.size+1) scope.names cl) qual Y .none (U env) builtinsNs) { s with heap:=pushCells (s.heap.push { cls:=.type "dict",data:=.dict #[] }) scope.names }):
  A7 M A (newFunctionEnv scope g cl [] qual Y .none (U env)) Q E s:=by
 simp only[newFunctionEnv,KL,qA];refine zb (wpAny_alloc ?_);refine zb (wpAny_layCells _ (λname a b=>by cases a==NameKind.cell<;>simp) _ _ _ _ ?_);rw[show({ s with heap:=s.heap.push { cls:=.type "dict",data:=.dict #[] } }:A2).heap.objs.size=s.heap.objs.size+1 from qq ..];rw[List.forIn_nil];exact zb (ze (ze h))
structure uN (X:Cx) (scope:Scope) (cl:List (Str×Addr)) (xs:AZ) (is:List Nat):Prop where
 clos:closureFor scope X.env=pure cl
 kind:scope.kind=.function
 cell:∀y∈scope.names,y.2=.cell->cl.lookup y.1=none
 names:∀y∈scope.names,y.2=.local->scope.names.lookup y.1=some .local
 sub:C8 X.env.cells cl
 has:∀x,((relabel scope X.env).names.lookup x=some .cell\/(relabel scope X.env).names.lookup x=some .free)->(x,NameKind.cell)∈scope.names\/∃c,cl.lookup x=some c
 cap:J4 X scope cl xs is
def zu(is:Z Nat)(σ:L2.St):L2.St:=is.map λi=>(σ[i]?).bind λv=>v
def kE(is:Z Nat)(ρ:Ev):Ev:=is.map λi=>zp ρ i
def D1(n m:Nat)(g:Dt->Ev->O Ev):Prop:=∀d ρ a,g d ρ=U a->a.length=ρ.length/\∀j,j<n\/m<=j->a[j]?=ρ[j]?
def FY(n m:Nat)(g:Z Dt->Ev->O Ev):Prop:=∀d ρ a,g d ρ=U a->a.length=ρ.length/\∀j,j<n\/m<=j->a[j]?=ρ[j]?
theorem cZ{m:Nat}(h:n<=i:=by decide)(h':i<m:=by decide):D1 n m (λd ρ=>U (ρ.set i (U (.z d)))):=λd ρ b e=>by
 cases e;exact⟨by rw[kq],λj a=>Ho _ (by omega)⟩
theorem Wh{m:Nat}:FY n m rK:=λd ρ a e=>by
 cases d with
 |nil=>cases e;exact⟨rfl,λ_ _=>S⟩
 |cons=>cases e
theorem nU{m:Nat}{g:Dt->Ev->O Ev}{gs:Z Dt->Ev->O Ev}(h:D1 n m g)(hs:FY n m gs):FY n m (bQ g gs):=λd ρ o e=>by
 cases d with
 |nil=>cases e
 |cons d ds=>
  simp only[bQ]at e;obtain⟨l,e1,e⟩:=AT e;obtain⟨a,b⟩:=h _ _ _ e1;obtain⟨f,i⟩:=hs _ _ _ e;exact⟨f.trans a,λj c=>(i j c).trans (b j c)⟩
theorem My{m k:Nat}{gs:Z Dt->Ev->O Ev}(hs:FY n m gs):D1 n m (pH k gs):=λd ρ a e=>by
 cases d with
 |tup ds=>
  simp only[pH]at e;split at e
  ·exact hs _ _ _ e
  ·cases e
 |_=>cases e
def Fy(gt:Dt->Ev->O Ev)(p:Ev->O Bool)(fs:Ev->O (Z Dt))(ρ:Ev):Z Dt->O (Z Dt)
 |[]=>U []
 |d::ds=>(gt d ρ).bind λa=>(p a).bind λk=>if k=true then(fs a).bind λys=>(Fy gt p fs ρ ds).bind λzs=>U (ys++zs)else Fy gt p fs ρ ds
def Hm:Bx->O (Z Dt)
 |.z y=>U [y]
 |_=>Y
def Ef(gt:Dt->Ev->O Ev)(p:Ev->O Bool)(fe:Ev->O Bx)(ρ:Ev):Z Dt->O (Z Dt):=Fy gt p (λρ=>(fe ρ).bind Hm) ρ
theorem CZ{b:Bx}{ys:Z Dt}(h:Hm b=U ys):∃y,b=.z y/\ys=[y]:=by
 cases b<;>cases h;exact⟨_,rfl,rfl⟩
theorem yg{gt:Dt->Ev->O Ev}{p:Ev->O Bool}{fe:Ev->O Bx}{ρ:Ev}:∀{ds out:Z Dt},Ef gt p fe ρ ds=U out->out.length<=ds.length
 |[],_,e=>by cases e;exact zo _
 |d::ds,out,e=>by
  simp only[Ef,Fy]at e;obtain⟨f,_,e⟩:=AT e;obtain⟨k,_,e⟩:=AT e;cases k with
  |false=>
   rw[zw ZH]at e;exact ZA (yg (gt:=gt) (p:=p) (fe:=fe) e) (by simp)
  |true=>
   rw[zk rfl]at e;obtain⟨ys,a,e⟩:=AT e;obtain⟨zs,c,e⟩:=AT e;obtain⟨b,_,a⟩:=AT a;obtain⟨y,_,rfl⟩:=CZ a;cases e;simpa using yg (gt:=gt) (p:=p) (fe:=fe) c
def CC(X:Cx)(ifs:Z Expr)(p:Ev->O Bool):Prop:=(ifs=[]/\p=λ_=>U true)\/∃c,ifs=[c]/\PB X c p
structure Dc (X:Cx) (ifs:List Expr) (p:Ev->Option Bool):Prop where
 run:CC X ifs p
section
variable{xs:AZ}{gt:Dt->Ev->O Ev}{p:Ev->O Bool}{fe:Ev->O Bx}{fi:Ev->O (Z Dt)}
theorem WU{p:Hp}{d:A2}(a:L2.AU X AN σ p d)(O:uN X scope cl xs is)(w:∀b∈fp,uK X AN p b)(C:∀b∈fp,b<d.heap.objs.size):
  L2.AU (JW X (xs++ts) scope cl d.heap.objs.size d p fp) [] (zu is σ++List.replicate ts.length Y) p { d with heap:=pushCells (d.heap.push { cls:=.type "dict",data:=.dict #[] }) scope.names }:=by
 obtain⟨Q,F⟩:=O.cap.get;have g:=O.sub;have H:(d.heap.push { cls:=.type "dict",data:=.dict #[] }).objs.size=d.heap.objs.size+1:=qq ..;have t:∀b o,d.heap.get? b=U o->(pushCells (d.heap.push { cls:=.type "dict",data:=.dict #[] }) scope.names).get? b=U o:=λb o e=>pushCells_keeps _ _ b o (zd _ e);have A:IR (pushCells (d.heap.push { cls:=.type "dict",data:=.dict #[] }) scope.names) (cellsFrom (d.heap.objs.size+1) scope.names cl):=by
  rw[<-H];refine HH _ _ _ ⟨λx y c e1 e2=>a.ok.inj x y c (g.get e1) (g.get e2),λx c e=>?_⟩;obtain⟨v,q⟩:=a.cell x c (g.get e);exact⟨v,q.keeps λb o e=>zd _ e⟩
 have D:∀x c,(cellsFrom (d.heap.objs.size+1) scope.names cl).lookup x=U c->X.env.cells.lookup x=U c\/d.heap.objs.size<c:=λx c e=>(Ah _ _ _ x c e).imp_left g.get;refine⟨⟨a.ok.mod,O.kind,a.ok.glob,a.ok.blt,zo _,A.inj,λx hx=>Ud _ _ _ x (O.has x hx),λx c hx e=>?_,a.ok.hd,a.ok.frames,.inl rfl,λb hb=>⟨zS (C b hb),λx c e=>?_⟩,a.bs,ZA a.ok.bsz a.sz,λb o e hb=>?_,λb hb W=>?_,a.stack,a.V3⟩,
  rfl,a.bare,Un.kept t,⟨_,(Heap.Ns.new d.heap (.type "dict")).keeps (pushCells_keeps _ _),λj x v e1 e2 _=>?_⟩,A.cell,a.hok.fresh (zo _),λx c e=>(D x c e).elim (a.rJ x c) λh=>a.hok.fresh (jS h),λq N=>absurd (show q∈([]:Z (A1×AE)) from N) (by simp),a.hok.kept t,?_⟩
 ·refine(Ah _ _ _ x c e).elim (λh=>?_) λh=>jS h;have hx:(x,NameKind.cell)∈scope.names:=by
   have hx:I0 scope.names x=true:=hx;unfold I0 at hx;split at hx
   ·rename_i q;exact mem_of_lookup q
   ·cases hx
  rw[O.cell _ hx rfl]at h;cases h
 ·rcases D x c e with h|h
  ·exact(w b hb).2.2.2.2.1 x c h
  ·exact KA (Nat.lt_trans (C b hb) h)
 ·obtain⟨_,_,_,z,_⟩:=w b hb;rcases z with z|z
  ·exact a.ok.ZF b o e z
  ·exact absurd (ZU (zz e) (ZA a.ok.bsz z)) (JA _)
 ·obtain⟨_,M,P,_⟩:=w b hb;rcases List.mem_cons.mp (a.M9 b W)with z|z
  ·exact M z
  ·exact P z
 ·have B:j<is.length:=by
   by_cases B:j<is.length
   ·exact B
   ·rw[qr (by simp[zu];omega)]at e2;rw[QO]at e2;split at e2<;>cases e2
  have I:xs[j]?=U x:=by
   have e1:(xs++ts)[j]?=U x:=e1;rw[ZO (by omega)]at e1;exact e1
  obtain⟨i,L,f⟩:=F j x I;have e3:σ[i]?=U (U v):=by
   rw[ZO (by simp[zu];omega)]at e2;unfold zu at e2;rw[Zp,L]at e2;cases q:σ[i]? with
   |none=>rw[Option.map_some,q]at e2;cases e2
   |some o=>
    rw[Option.map_some,q]at e2;have:o=U v:=by simpa using e2
    rw[this]
  have J:Zq X.env.scope x:=by
   rcases f.k with k|k
   ·exact .inr (.inl k)
   ·exact .inr (.inr k)
  obtain⟨m',a0,G⟩:=a.loc;obtain⟨u,r,l⟩:=G i x v f.n e3 J;refine⟨u,r,?_⟩;rcases l with⟨k,_⟩|⟨k,c,K,E⟩
  ·rcases f.k with s|s<;>(rw[k]at s;cases s)
  ·obtain⟨c',m⟩:=f.c;have:=g.get m;rw[K]at this;cases this;refine .inr ⟨f.k',c,(Nx _ _ _ x λz=>by rw[O.cell _ z rfl]at m;cases m).trans m,?_⟩;obtain⟨o,ho,hd⟩:=E;exact⟨o,t c o ho,hd⟩
 ·show(zu is σ++List.replicate ts.length Y).length=(xs++ts).length;simp[zu,Q]
theorem bZ.caps{ρ:Ev}(E:bZ K H0 H σ ρ)(is:Z Nat)(n:Nat):bZ K H H (zu is σ++List.replicate n Y) (kE is ρ++List.replicate n Y):=by
 have f:∀(j:Nat) c,(kE is ρ++List.replicate n Y)[j]?=U (U c)->wF c=false:=λj c e=>by
  by_cases g:j<is.length
  ·rw[ZO (by simp[kE];omega)]at e;unfold kE at e;rw[Zp]at e;cases q:is[j]? with
   |none=>rw[q]at e;cases e
   |some i=>
    rw[q]at e;have:zp ρ i=U c:=by simpa using e
    exact Aa this
  ·rw[qr (by simp[kE];omega),QO]at e;split at e<;>cases e
 refine⟨by simp[zu,kE],λj b e=>?_,λj k c a b e d=>absurd d (by rw[f j c e];exact ZH),AV.refl H,λj c a e d=>absurd d (by rw[f j c e];exact ZH)⟩;by_cases g:j<is.length
 ·rw[ZO (by simp[kE];omega)]at e;rw[ZO (by simp[zu];omega)];unfold kE at e;unfold zu;rw[Zp]at e ⊢;cases q:is[j]? with
  |none=>rw[q]at e;cases e
  |some i=>
   rw[q]at e;have:zp ρ i=U b:=by simpa using e
   obtain⟨v,e1,r⟩:=Qv E this;exact⟨v,by simp[e1],r⟩
 ·rw[qr (by simp[kE];omega),QO]at e;split at e<;>cases e
theorem bZ.forget{ρ ρ':Ev}(E:bZ K H0 H σ ρ')(g:ρ'.length=ρ.length)(h:∀(j:Nat) b,ρ[j]?=U (U b)->ρ'[j]?=U (U b)):bZ K H0 H σ ρ:=
 ⟨E.len.trans g,λj b e=>E.val j b (h j b e),λi j c a b e1 d e2 e3 f l=>E.own i j c a b (h _ _ e1) d e2 (h _ _ e3) f l,E.base,λi c a e1 d e2=>E.new i c a (h _ _ e1) d e2⟩
structure DI (Hb:Hp) (σ:L2.St) (ρ:Ev) (n:Nat):Prop where
 own:∀(j:Nat) c,ρ[j]?=some (some c)->wF c=false
 lt:∀(j:Nat) b,ρ[j]?=some (some b)->j<n
 old:∀(j:Nat) c a,ρ[j]?=some (some c)->loose c=true->σ[j]?=some (some (.ref a))->Hb a≠none
def Fx(σ σ':L2.St)(ρ:Ev):Prop:=∀(j:Nat) c,loose c=true->ρ[j]?=U (U c)->σ'[j]?=σ[j]?
theorem DI.fx{d:Hp}{σ':L2.St}{ρ:Ev}(P:DI d σ ρ n)(f:Fx σ σ' ρ):DI d σ' ρ n:=⟨P.own,P.lt,λj c a e b ea=>P.old j c a e b (by rw[<-f j c b e];exact ea)⟩
theorem F3{ρ:Ev}(E:bZ K H0 H σ ρ)(j:Nat)(c:Bx)(a:A1)(e:ρ[j]?=U (U c))(h:loose c=true)(ea:σ[j]?=U (U (.ref a))):H a≠Y:=λz=>by
 obtain⟨v,e1,b⟩:=E.val j _ e;rw[ea]at e1;cases e1;cases c with
 |z d=>cases h
 |l f=>
  obtain⟨g,vs,e2,q,_⟩:=b;cases e2;rcases q with q|⟨o,q⟩<;>(rw[z]at q;cases q)
 |n f=>
  obtain⟨g,vs,e2,q,_⟩:=b;cases e2;rcases q with q|⟨o,q⟩<;>(rw[z]at q;cases q)
 |o f=>
  obtain⟨g,vs,e2,q,_⟩:=b;cases e2;rw[z]at q;cases q
 |m f _=>
  obtain⟨g,vs,e2,q,_⟩:=b;cases e2;rw[z]at q;cases q
theorem bZ.grown{f:Hp}{ρ:Ev}(E:bZ K f H σ ρ)(P:DI f σ ρ n)(h:f D=Y)(kp:Kp H (B6 H D o)):bZ K f (B6 H D o) σ ρ:=by
 refine⟨E.len,λj b e=>?_,λj k c a b e p=>absurd p (by rw[P.own j c e];exact ZH),λc o e=>?_,λj c a e p=>absurd p (by rw[P.own j c e];exact ZH)⟩
 ·obtain⟨v,ev,s⟩:=E.val j b e;refine⟨v,ev,?_⟩;cases b with
  |z d=>exact AW.kp kp s
  |o g=>have:=P.own j _ e;cases this
  |m g _=>have:=P.own j _ e;cases this
  |n g=>
   obtain⟨a,vs,rfl,q,i⟩:=s;refine⟨a,vs,rfl,?_,i.kp kp⟩;have ha:a≠D:=λz=>P.old j _ _ e S ev (by rw[z];exact h);exact q.imp (λq=>by rw[aR ha];exact q) λ⟨o,q⟩=>⟨o,by rw[aR ha];exact q⟩
  |l g=>
   obtain⟨a,vs,rfl,q,i⟩:=s;refine⟨a,vs,rfl,?_,i.kp kp⟩;have ha:a≠D:=λz=>P.old j _ _ e S ev (by rw[z];exact h);exact q.imp (λq=>by rw[aR ha];exact q) λ⟨o,q⟩=>⟨o,by rw[aR ha];exact q⟩
 ·rw[aR (dO e h)];exact E.base c o e
def FL(X:Cx)(el:A1->Env->Sem Unit)(fs:Ev->O (Z Dt))(Ac:A1->Hp->Z Dt->HO->Prop)(N n:Nat):Prop:=∀(AN:Z (A1×AE)) (s:A2) (σ:L2.St) (H a:Hp) (ρ:Ev) (D:A1) (o:HO) (b ys:Z Dt),L2.AU X AN σ H s->bZ X.K a H σ ρ->DI a σ ρ n->a D=Y->fs ρ=U ys->H D=U o->Ac D H b o->b.length+ys.length<=N →
 A7 (A8 X.prog X.w) X.A (el D X.env) (λ_ s'=>∃ σ' H' o',L2.AU X AN σ' H' s'/\bZ X.K a H' σ' ρ/\Fx σ σ' ρ/\H' D=U o'/\Ac D H' (b++ys) o') X.xe s
theorem No{fs:Ev->O (Z Dt)}{Ac:A1->Hp->Z Dt->HO->Prop}{N:Nat}(h:∀(AN:Z (A1×AE)) (s:A2) (σ:L2.St) (H c:Hp) (ρ:Ev) (D:A1) (o:HO) (b ys:Z Dt),L2.AU X AN σ H s->bZ X.K c H σ ρ->fs ρ=U ys->H D=U o->Ac D H b o->b.length+ys.length<=N →
  A7 (A8 X.prog X.w) X.A (el D X.env) (λ_ s'=>∃a o',L2.AU X AN σ (B6 a D o') s'/\AV H a/\Kp a (B6 a D o')/\Ac D (B6 a D o') (b++ys) o') X.xe s):FL X el fs Ac N n:=λAN s σ H c ρ D o b ys I E P d e1 e2 a1 l=>by
 refine QI (h AN s σ H c ρ D o b ys I E e1 e2 a1 l) (λ_ s' ⟨a,o',I',s9,kp,a'⟩=>?_) λ_ _ z=>z;exact⟨σ,_,o',I',(E.grow s9).grown P d kp,λ_ _ _ _=>S,bV,a'⟩
structure Wi (B:Around->Bool->Prop) (P:Program) (w:World) (K:B1) (tg:Expr) (J:It) (fp:List Addr) (it:Addr) (tn:Nat->Heap->Prop):Prop where
 obj:∀i h,tn i h->∀b∈fp,∃o,h.get? b=some o/\∀v,o.data≠.cell v
 keep:∀i h h',tn i h->(∀b∈fp,∀o,h.get? b=some o->h'.get? b=some o)->tn i h'
 item:∀(X:Cx),X.prog=P->X.w=w->X.K=K->B X.A X.calm->∀(i:Nat) (AN:List (Addr×Obj)) (s:Shared) (σ:L2.St) (H:Hp) (E:BA),L2.AU X AN σ H s->(∀b∈fp,uK X AN H b)->tn i s.heap->J.go i H →
  wpAny (model P w) X.A (pyNext (.ref it)) (λr s1=>∃u,r=some u ∧
   wpAny (model P w) X.A (letOwnedTupleGo tg (.ref it) u) (λ_ s2=>∃x H',L2.AU X AN σ H' s2/\Au x u/\J.yld i H x H'/\tn (i+1) s2.heap/\∀b∈fp,H' b=none) E s1) E s
 done:∀(X:Cx),X.prog=P->X.w=w->X.K=K->B X.A X.calm->∀(i:Nat) (AN:List (Addr×Obj)) (s:Shared) (σ:L2.St) (H:Hp) (E:BA),L2.AU X AN σ H s->(∀b∈fp,uK X AN H b)->tn i s.heap->J.stop i H →
  wpAny (model P w) X.A (pyNext (.ref it)) (λr s1=>r=none/\L2.AU X AN σ H s1) E s
 self:∀(A:Around) (i:Nat) (s:Shared) (Q:BA) (E:BA),tn i s.heap->Q (.ref it) s->wpAny (model P w) A (pyIter (.ref it)) Q E s
abbrev Ld:A5->Bool->Prop:=λ_ c=>c=true
theorem QF{tn:Nat->A6->Prop}(T:C9 P w K tg J fp it tn):Wi Ld P w K tg J fp it tn:=⟨T.obj,T.keep,T.item,T.done,T.self⟩
theorem Yg{F:Expr}{d:Nat}{g1:Pos}{Ac:A1->Hp->Z Dt->HO->Prop}{fs:Ev->O (Z Dt)}{N m:Nat}{l:Hp}{tn:Nat->A6->Prop}{ds o0 out:Z Dt}{ρ:Ev}{R:Result->A2->Prop}(d1:B X.A X.calm)(hx:X.xe=λ_ _=>False)(Qh:FX X tgt gt)(f5:CC X ifs p)(g6:FL X el fs Ac N m)(d8:D1 n m gt)(f4:n<=m)(I:L2.AU X AN σ H s)(E:bZ X.K l H σ ρ)(P:DI l σ ρ n)(hD:l D=none)(e0:H D=U o)(hA:Ac D H o0 o)(T:Wi B X.prog X.w X.K tgt J fp it tn)(st:tn 0 s.heap)(hf:∀b∈fp,uK X AN H b)(Y:B5 X.K J ds l)(f3:Fy gt p fs ρ ds=U out)(hN:o0.length+out.length<=N)(c1:∀{D:A1} {H H':Hp} {t:Z Dt} {o:HO},Kp H H'->Ac D H t o->Ac D H' t o)(h3:∀(it:A0) (D:A1) (env:Env),compTurn F d it (.ref D) env=(standAt g1 >>= λ_=>pyNext it >>= λr=>match r with
   |none=>pure (.done .next)
   |some v=>letOwnedTupleGo tgt it v >>= λ_=>assign tgt env v >>= λ_=>(forIn ifs true λc r=>if r=true then isTrue c env (eval c env) >>= λok=>pure (ForInStep.yield ok)else pure (ForInStep.yield r)) >>= λok=>if ok=true then el D env >>= λ_=>again (.compLoop F d it (.ref D) env)else again (.compLoop F d it (.ref D) env)))(h0:∀{it c0:A0} {env:Env} {Q:Fin->A2->Prop} {E:BA} {s:A2},A7 (A8 X.prog X.w) X.A ((compTurn F d it c0 env).onRaise (λx=>noteFrame x env >>= λ_=>theTreesLotGoes x)) Q E s->A7 (A8 X.prog X.w) (X.A.under (.compLoop F d it c0 env)) ((A8 X.prog X.w).den (.compLoop F d it c0 env)) Q E s)(hR:∀s' σ' H' o',L2.AU X AN σ' H' s'->bZ X.K l H' σ' ρ->Fx σ σ' ρ->H' D=U o'->Ac D H' (o0++out) o'->R (.ok .next) s'):
  AF (A8 X.prog X.w) X.A (.compLoop F d (.ref it) (.ref D) X.env) R s:=by
 have b3:∀{H':Hp},(∀b∈fp,H' b=none)->∀b∈fp,uK X AN H' b:=λ{H'} hn b hb=>⟨hn b hb,(hf b hb).2⟩;refine codeAny_loop S (λk s'=>∃(i:Nat) (σ':L2.St) (H':Hp) (t o2:Z Dt) (o:HO),k=ds.length-i/\i<=ds.length/\L2.AU X AN σ' H' s'/\tn i s'.heap/\(∀b∈fp,H' b=none)/\bZ X.K l H' σ' ρ/\Fx σ σ' ρ/\H' D=U o/\Ac D H' t o/\Fy gt p fs ρ (ds.drop i)=U o2/\t++o2=o0++out) ?_ ds.length
  ⟨0,σ,H,o0,out,o,by simp,QP _,I,st,λb hb=>(hf b hb).1,E,λ_ _ _ _=>S,e0,hA,by simpa using f3,rfl⟩
 rintro k s4 ⟨i,a2,H4,t,o2,o,rfl,hi,I4,c6,c8,E4,F4,a0,r4,g,ho⟩;have P4:=P.fx F4;refine h0 (wpAny_noted ?_);rw[h3];obtain⟨y1,y2⟩:=Y i H4 E4.base;by_cases b0:i<ds.length
 ·have hd:ds[i]?=U ds[i]:=by simp[b0]
  obtain⟨go,yl⟩:=y1 _ hd;rw[List.drop_eq_getElem_cons b0]at g;simp only[Fy]at g;obtain⟨y,e1,g⟩:=AT g;obtain⟨k,ek,g⟩:=AT g;obtain⟨h2,b9⟩:=d8 _ _ _ e1;have back:∀{a3:L2.St} {H5:Hp},bZ X.K l H5 a3 y->bZ X.K l H5 a3 ρ:=λE5=>E5.forget h2 λj b e=>by rw[b9 j (.inl (P.lt j b e))];exact e
  refine zb (K0 (zb ?_));refine jc (T.item X S S S d1 i AN s4 a2 H4 _ I4 (b3 c8) c6 go) λr s5 ⟨u,hr,h5⟩=>?_;subst hr;refine zb (jc h5 λ_ s6 ⟨x,H6,I6,r6,y6,st6,fr6⟩=>?_);obtain⟨sm,rx⟩:=yl x H6 y6;have E4:=E4.grow sm;have a0:=sm _ _ a0;have r4:=c1 (.of sm) r4;have f0:=I6.pinned (b3 fr6) (T.obj _ _ st6);have ha:=Qh _ s6 a2 H6 x u (λσ' H'=>H'=H6/\bZ X.K l H6 σ' y/\Lo a2 ρ σ' y) f0 r6 ⟨l,ρ,ds[i],y,E4,rx,e1,λσ' E' L'=>⟨rfl,E',L'⟩⟩;rw[hx]at ha;refine zb (QI ha (λ_ s7 h7=>?_) λ_ _ z=>z.elim);obtain⟨W,H7,I7,rfl,E7,L7⟩:=h7;have P7:DI l W y m:=by
   refine⟨λj c e=>?_,λj c e=>?_,λj c a e C ea=>?_⟩
   ·cases c with
    |o ds=>exact P.own j _ (L7 j _ S e).1
    |m ds _=>exact P.own j _ (L7 j _ S e).1
    |_=>rfl
   ·refine Nat.lt_of_not_le λh=>?_;rw[b9 j (.inr h)]at e;exact absurd (ZU (P.lt j c e) f4) (Nat.not_lt.mpr h)
   ·obtain⟨e',ee⟩:=L7 j c C e;exact P4.old j c a e' C (by rw[<-ee];exact ea)
  have c3:∀{a3:L2.St},Fx W a3 y->Fx σ a3 ρ:=λf j c C e=>by
   have e':y[j]?=U (U c):=by rw[b9 j (.inl (P.lt j c e))];exact e
   exact(f j c C e').trans ((L7 j c C e').2.trans (F4 j c C e))
  have ht:A7 (A8 X.prog X.w) X.A (forIn ifs true λc r=>if r=true then do let ok <-isTrue c X.env (eval c X.env);pure (ForInStep.yield ok)else pure (ForInStep.yield r))
    (λok L=>ok=k/\∃q,L2.AU X (AN++CG fp s6.heap) W q L/\AV H7 q) (notedBy (A8 X.prog X.w) X.A X.env λe s'=>R (.error e) s') s7:=by
   rcases f5 with⟨rfl,rfl⟩|⟨c,rfl,hc⟩
   ·cases ek;exact wpAny_tests_nil ⟨rfl,H7,I7,AV.refl H7⟩
   ·refine wpAny_tests_one ?_;have:=hc _ s7 W H7 (λb q=>b=k/\AV H7 q) I7 ⟨l,y,k,E7,ek,λq L=>⟨rfl,L⟩⟩;rw[hx]at this;exact QI this (λb L ⟨q,I8,eb,s8'⟩=>⟨eb,q,I8,s8'⟩) λ_ _ z=>z.elim
  refine zb (QI ht (λok L h8=>?_) λ_ _ z=>z);obtain⟨rfl,q,I8,G⟩:=h8;have d0:∀{a1:L2.St} {M:Hp} {s9:A2},L2.AU X (AN++CG fp s6.heap) a1 M s9->L2.AU X AN a1 M s9/\tn (i+1) s9.heap/\∀b∈fp,M b=none:=λ{a1 M s9} I9=>by
   refine⟨I9.wL,T.keep _ _ _ st6 λb hb o e=>(I9.pin (b,o) (Zl _ (Zl _ (uL hb e)))).1,λb hb=>?_⟩;obtain⟨o,e,d⟩:=T.obj _ _ st6 b hb;exact(I9.pin (b,o) (Zl _ (Zl _ (uL hb e)))).2.1
  cases ok with
  |false=>
   rw[zw ZH]at g;obtain⟨I9,f2,f1⟩:=d0 I8;exact ze ⟨rfl,ds.length-(i+1),by omega,i+1,W,q,t,o2,o,rfl,b0,I9,f2,f1,back (E7.grow G),c3 (λ_ _ _ _=>S),G _ _ a0,c1 (.of G) r4,g,ho⟩
  |true=>
   rw[zk rfl]at g;obtain⟨ys,eb,g⟩:=AT g;obtain⟨zs,e5,g⟩:=AT g;cases g;have C:=congrArg List.length ho;simp only[zI]at C;have he:=g6 _ L W q l y D o t ys I8 (E7.grow G) P7 hD eb (G _ _ a0) (c1 (.of G) r4) (by omega);rw[hx]at he;refine zb (QI he (λ_ h6 h1=>?_) λ_ _ z=>z.elim);obtain⟨a1,M,o',h4,E9,F9,d2,a5⟩:=h1;obtain⟨e3,g2,d3⟩:=d0 h4;exact ze ⟨rfl,ds.length-(i+1),by omega,i+1,a1,M,t++ys,zs,o',rfl,b0,e3,g2,d3,back E9,c3 F9,d2,a5,e5,by rw[ZI];exact ho⟩
 ·have c2:ds.length<=i:=by omega
  rw[List.drop_eq_nil_of_le c2]at g;cases g;refine zb (K0 (zb ?_));refine jc (T.done X S S S d1 i AN s4 a2 H4 _ I4 (b3 c8) c6 (y2 c2)) λr s5 ⟨hr,I5⟩=>?_;subst hr;rw[ZT]at ho;exact ze (hR s5 a2 H4 o I5 E4 F4 a0 (by rw[<-ho];exact r4))
theorem Le{f:Expr}{mk:Sem A0}{o0:AE}{O0:HO}{Ac:A1->Hp->Z Dt->HO->Prop}{fs:Ev->Option (Z Dt)}{N m:Nat}{H2:Hp}{a:A2}{tn:Nat->A6->Prop}{ds out:Z Dt}{ρ:Ev}(O:uN X scope cl xs is)(d8:B X.A X.calm)(Qh:∀C n t fp,FX (JW X (xs++ts) scope cl C n t fp) tgt gt)(d1:∀C n t fp,CC (JW X (xs++ts) scope cl C n t fp) ifs p)(c8:∀C n t fp,FL (JW X (xs++ts) scope cl C n t fp) el fs Ac N m)(d2:D1 is.length m gt)(c1:is.length<=m)(I2:L2.AU X AN σ H2 a)(W:bZ X.K H2 H2 (zu is σ++List.replicate ts.length none) (kE is ρ++List.replicate ts.length none))(T:Wi B X.prog X.w X.K tgt J fp it tn)(st:tn 0 a.heap)(hf:∀b∈fp,uK X AN H2 b)(Y:B5 X.K J ds H2)(c0:Fy gt p fs (kE is ρ++List.replicate ts.length none) ds=U out)(g1:out.length<=N)(d3:∀(D C:A1) (s':A2) (H':Hp) (o:HO),H2 D=none->L2.AU X AN σ H' s'->uK X AN H' C->(∃m,s'.heap.Ns C m)->AV H2 H'->H' D=U o->Ac D H' out o->RR (.ref D) C (.ok .next) s')(b0:∀{Q:BA},Q (.ref a.heap.objs.size) { a with heap:=a.heap.push o0 }->A7 (A8 X.prog X.w) X.A mk Q E a)(e0:∀H,iD X.prog X.w H (a.heap.push o0) a.heap.objs.size O0)(c3:∀H,Ac a.heap.objs.size H [] O0)(e4:∀{D:A1} {H H':Hp} {o1:Z Dt} {o:HO},Kp H H'->Ac D H o1 o->Ac D H' o1 o)(e5:∀(it:A0) (D:A1) (env:Env),compTurn f 0 it (.ref D) env=(standAt iter.pos >>= λ_=>pyNext it >>= λr=>match r with
   |none=>pure (.done .next)
   |some v=>letOwnedTupleGo tgt it v >>= λ_=>assign tgt env v >>= λ_=>(forIn ifs true λc r=>if r=true then isTrue c env (eval c env) >>= λok=>pure (ForInStep.yield ok)else pure (ForInStep.yield r)) >>= λok=>if ok=true then el D env >>= λ_=>again (.compLoop f 0 it (.ref D) env)else again (.compLoop f 0 it (.ref D) env)))(d0:∀{it d:A0} {env:Env} {R:Result->A2->Prop} {s:A2},AF (A8 X.prog X.w) X.A (.compLoop f 0 it d env) R s->A7 (A8 X.prog X.w) X.A (pyIter it) (λa3 s'=>AF (A8 X.prog X.w) X.A (.compLoop f 0 a3 d env) R s') (notedBy (A8 X.prog X.w) X.A env λx s'=>R (.error x) s') s->AF (A8 X.prog X.w) X.A (.compStart f 0 it d env) R s)(b3:∀{it d:A0} {env:Env} {Q:Fin->A2->Prop} {E:BA} {s:A2},A7 (A8 X.prog X.w) X.A ((compTurn f 0 it d env).onRaise (λx=>noteFrame x env >>= λ_=>theTreesLotGoes x)) Q E s->A7 (A8 X.prog X.w) (X.A.under (.compLoop f 0 it d env)) ((A8 X.prog X.w).den (.compLoop f 0 it d env)) Q E s):
  A7 (A8 X.prog X.w) X.A mk (λd b9=>A7 (A8 X.prog X.w) X.A (newFunctionEnv scope X.env.globals cl [] X.env.qual none .none (U X.env)) (λa0 g2=>
   AF (A8 X.prog X.w) X.A (.compStart f 0 (.ref it) d { a0 with scope:=relabel scope X.env }) (RR d a0.locals) g2) E b9) E a:=by
 refine b0 (Ye ?_);have I:H2 a.heap.objs.size=none:=I2.hok.fresh (zo _);have y:L2.AU X AN σ (B6 H2 a.heap.objs.size O0) { a with heap:=a.heap.push o0 }:=
  I2.laid (t':=a.toks) (λb o e=>zd _ e) (zo _) (e0 _)
 have a1:∀b∈fp,b<a.heap.objs.size:=λb hb=>let ⟨o,e,_⟩:=T.obj 0 _ st b hb;zz e;have G:∀b∈fp,uK X AN (B6 H2 a.heap.objs.size O0) b:=λb hb=>⟨by rw[aR (zS (a1 b hb))];exact(hf b hb).1,(hf b hb).2⟩;have a2:tn 0 (a.heap.push o0):=T.keep 0 _ _ st λb hb o e=>zd _ e;have u:∀b∈fp,b<(a.heap.push o0).objs.size:=λb hb=>by rw[qq];exact Qr (a1 b hb)
 generalize e1:({ a with heap:=a.heap.push o0 }:A2)=s3 at *
 have c6:s3.heap=a.heap.push o0:=by rw[<-e1]
 rw[<-c6]at a2 u;have IC:=WU (ts:=ts) y O G u;have M:tn 0 (pushCells (s3.heap.push { cls:=.type "dict",data:=.dict #[] }) scope.names):=T.keep 0 _ _ a2 λb hb o e=>pushCells_keeps _ _ b o (zd _ e);have c2:∀b∈fp,uK (JW X (xs++ts) scope cl s3.heap.objs.size s3 (B6 H2 a.heap.objs.size O0) fp) [] (B6 H2 a.heap.objs.size O0) b:=λb hb=>by
  obtain⟨f0,f1,f2,L,F,P⟩:=G b hb;refine⟨f0,zS (u b hb),λz=>?_,.inl hb,λx c e z=>?_,λq hq=>absurd (show q∈([]:Z (A1×AE)) from hq) (by simp)⟩
  ·rcases List.mem_cons.mp (y.M9 b z)with q|q
   ·exact f1 q
   ·exact f2 q
  ·rcases Ah _ _ _ x c e with h|h
   ·exact F x c (O.sub.get h) z
   ·rw[z]at h;exact absurd (ZU (u b hb) (Nat.le_of_succ_le h)) (JA _)
 have P0:DI H2 (zu is σ++List.replicate ts.length none) (kE is ρ++List.replicate ts.length none) is.length:=by
  have g:∀(j:Nat) c,(kE is ρ++List.replicate ts.length none)[j]?=U (U c)->j<is.length/\wF c=false:=λj c e=>by
   by_cases hj:j<is.length
   ·refine⟨hj,?_⟩;rw[ZO (by simp[kE];omega)]at e;unfold kE at e;rw[Zp]at e;cases q:is[j]? with
    |none=>rw[q]at e;cases e
    |some i=>rw[q]at e;exact Aa (by simpa using e)
   ·rw[qr (by simp[kE];omega),QO]at e;split at e<;>cases e
  exact⟨λj c e=>(g j c e).2,λj c e=>(g j c e).1,F3 W⟩
 have h:=Yg (B:=B) (X:=JW X (xs++ts) scope cl s3.heap.objs.size s3 (B6 H2 a.heap.objs.size O0) fp) (R:=RR (.ref a.heap.objs.size) s3.heap.objs.size) (o0:=[]) d8 S (Qh _ _ _ _) (d1 _ _ _ _) (c8 _ _ _ _) d2 c1 IC (W.grow (cG I)) P0 I bV (c3 _) T M c2 Y c0 (by simpa using g1) e4 e5 b3 λs5 g6 H5 o5 l E5 _ e3 a5=>by
  have IB:L2.AU X AN σ H5 s5:=y.call' (ch:=fp) l.os l.base l.hok l.bare λb hb=>by
   obtain⟨f0,f1,f2,L,F,P⟩:=G b hb;exact⟨L,f1,F,P⟩
  obtain⟨m,hn,_⟩:=l.loc;exact d3 _ _ s5 H5 o5 I IB (y.ZP (zo _) l.free) ⟨m,hn⟩ E5.base e3 a5
 exact d0 h (T.self _ 0 _ _ _ M h)
def EM(K:B1)(_:A1)(H:Hp)(a:Z Dt)(o:HO):Prop:=∃us,o=.lst us/\aO K H a us
theorem EM.kp{K:B1}{D:A1}{H H':Hp}{a:Z Dt}{o:HO}(k:Kp H H'):EM K D H a o->EM K D H' a o:=λ⟨us,e,r⟩=>⟨us,e,r.kp k⟩
def MG(fe:Ev->O Bx):Ev->O (Z Dt):=λρ=>(fe ρ).bind Hm
theorem g3(h:PV X elt fe):FL X (λD env=>do let _ <-call (.builtin "list.append") [.ref D,<-eval elt env]) (MG fe) (EM X.K) 100000 n:=by
 refine No λAN s σ H Hb ρ D o o1 ys I En i hD ⟨us,e,r4⟩ hl=>?_;subst e;obtain⟨b,eb,i⟩:=AT i;obtain⟨y,rfl,rfl⟩:=CZ i;refine zb (QI (h AN s σ H (λv a=>AV H a/\AW X.K a y v) I ⟨Hb,ρ,_,En,eb,λv a g _ d=>⟨g,d⟩⟩) (λv g p=>?_) λ_ _ z=>z);obtain⟨c,a,m,q,f,d⟩:=p;have j:=f _ _ hD;refine zb (QI ((La (X:=X)) _ g σ a (.ref D) [c] (.ref D) [v] (λw l=>l=B6 a D (.lst (us++[c]))) m S (.cons q .nil) ⟨_,us,c,rfl,rfl,j,by rw[r4.length];have h0:(100000:Nat)<AA:=(by decide);simp at hl;omega,rfl⟩) (λw A t=>?_) λ_ _ z=>z);obtain⟨x,l,u,_,rfl⟩:=t;have kp:Kp a (B6 a D (.lst (us++[c]))):=.lst j;exact ze ⟨a,_,u,f,kp,us++[c],rfl,((r4.kp (.of f)).append (aO.cons d aO.nil)).kp kp⟩
theorem Ai{H2:Hp}{l:A2}{tn:Nat->A6->Prop}{ds out:Z Dt}{ρ:Ev}(O:uN X scope cl xs is)(G:B X.A X.calm)(u:∀C i j fp,FX (JW X (xs++ts) scope cl C i j fp) tgt gt)(x:∀C i j fp,CC (JW X (xs++ts) scope cl C i j fp) ifs p)(v:∀C i j fp,PV (JW X (xs++ts) scope cl C i j fp) elt fe)(z:D1 is.length (is.length+ts.length) gt)(I:L2.AU X AN σ H2 l)(y:bZ X.K H2 H2 (zu is σ++List.replicate ts.length none) (kE is ρ++List.replicate ts.length none))(T:Wi B X.prog X.w X.K tgt J fp it tn)(st:tn 0 l.heap)(H:∀b∈fp,uK X AN H2 b)(Y:B5 X.K J ds H2)(L:ds.length<=100000)(q:Ef gt p fe (kE is ρ++List.replicate ts.length none) ds=U out)(F:∀(D C:A1) (s':A2) (H':Hp) (us:Z V),H2 D=none->L2.AU X AN σ H' s'->uK X AN H' C->(∃m,s'.heap.Ns C m)->AV H2 H'->H' D=U (.lst us)->aO X.K H' out us->RR (.ref D) C (.ok .next) s'):
  A7 (A8 X.prog X.w) X.A (newList []) (λn t=>A7 (A8 X.prog X.w) X.A (newFunctionEnv scope X.env.globals cl [] X.env.qual none .none (U X.env)) (λs M=>
   AF (A8 X.prog X.w) X.A (.compStart (.ListComp elt [⟨tgt,iter,ifs,0⟩] scope pos) 0 (.ref it) n { s with scope:=relabel scope X.env }) (RR n s.locals) M) E t) E l:=
 Le (B:=B) (Ac:=EM X.K) (O0:=.lst []) (N:=100000) O G u x (λC i j fp=>g3 (v C i j fp)) z (Nat.le_add_right ..) I y T st H Y q (ZA (yg q) L) (λD C s' H' o a b c d e f g=>by obtain⟨us,rfl,r⟩:=g;exact F D C s' H' us a b c d e f r)
  qS (λ_=>⟨QP _,[],0,.nil,zv _ rfl⟩) (λ_=>⟨[],rfl,aO.nil⟩) EM.kp (λ_ _ _=>S) codeAny_compStart_list λh=>h
end
def iC(K:B1)(f:Ev->O (Z Dt)):TI:=λσ H R=>∃H0 ρ ds,bZ K H0 H σ ρ/\f ρ=U ds/\∀J H',AV H H'->B5 K J ds H'->R J H'
def b7(X:Cx)(tg iter:Expr)(f:Ev->O (Z Dt)):Prop:=PI X tg iter (iC X.K f)
structure FD (X:Cx) (tg iter:Expr) (f:Ev->Option (List Dt)):Prop where
 run:b7 X tg iter f
def F2:Bx->O (Z Dt)
 |.z (.lst ds)=>U ds
 |.z (.tup ds)=>U ds
 |.z (.str x)=>U (BI x)
 |.o ds=>U ds
 |.l ds=>U ds
 |_=>Y
section
variable{f:Ev->O Bx}{fs:Ev->O (Z Bx)}{xs:AZ}{gt:Dt->Ev->O Ev}{p:Ev->O Bool}{fe:Ev->O Bx}{fi:Ev->O (Z Dt)}
theorem fA(h:Fa X tgt iter fi):FD X tgt iter fi:=⟨have h:=h.run;λAN s σ H R I q=>by
 obtain⟨H0,ρ,ds,E,e,q⟩:=q;exact h AN s σ H R I ⟨H0,ρ,ds,E,e,λJ H' s' y=>q J H' s' (y H' (AV.refl H') (λ_ _=>S) (λ_ _ _ _=>S) λ_ _ _=>S)⟩⟩
theorem gk(h:QV X e f):FD X tgt e (λρ=>(f ρ).bind F2):=⟨have h:=h.run;λAN s σ H R I q=>by
 refine Uc h AN s σ H R I ?_;obtain⟨H0,ρ,ds,E,e,q⟩:=q;obtain⟨b,eb,e⟩:=AT e;refine⟨H0,ρ,b,E,eb,λv H1 i p g=>?_⟩;cases b with
 |z d=>
  cases d with
  |tup j=>
   cases e;simp only[aX,AW]at g;obtain⟨a,vs,rfl,c,rs⟩:=g;exact .inr (.inl ⟨a,rfl,⟨vs,c⟩,q _ _ i (.tup c rs)⟩)
  |lst j=>
   cases e;obtain⟨a,vs,rfl,c,rs⟩:=g.J2 rfl;exact .inl ⟨a,rfl,⟨vs,c⟩,q _ _ i (.list c rs)⟩
  |str x=>
   cases e;simp only[aX,AW]at g;obtain⟨rfl,_⟩:=g;exact .inr (.inr ⟨x,rfl,q _ _ i (.str x)⟩)
  |_=>cases e
 |l j=>
  cases e;obtain⟨a,vs,rfl,c,rs⟩:=g.J2 rfl;exact .inl ⟨a,rfl,⟨vs,c⟩,q _ _ i (.list c rs)⟩
 |o j=>
  cases e;obtain⟨a,vs,rfl,c,rs⟩:=g.J2 rfl;exact .inl ⟨a,rfl,⟨vs,c⟩,q _ _ i (.list c rs)⟩
 |n _=>cases e
 |m _ _=>cases e⟩
def eU(fi:Ev->O (Z Dt))(gt:Dt->Ev->O Ev)(p:Ev->O Bool)(fe:Ev->O Bx)(is:Z Nat)(n:Nat):Ev->O Bx:=λρ=>(fi ρ).bind λds=>
 if ds.length<=100000 then(Ef gt p fe (kE is ρ++List.replicate n Y) ds).bind λa=>U (.o a)else Y
theorem j9(ts:AZ)(O:uN X scope cl xs is)(L:X.calm=true)(hi:FD X tgt iter fi)(g:∀C c d fp,Ch (JW X (xs++ts) scope cl C c d fp) tgt gt)(j:∀C c d fp,Dc (JW X (xs++ts) scope cl C c d fp) ifs p)(i:∀C c d fp,QV (JW X (xs++ts) scope cl C c d fp) elt fe)(G:D1 is.length (is.length+ts.length) gt)(hs:∀x,foldedSetIterable iter X.env x=pure x:=by intro _;rfl):QV X (.ListComp elt [⟨tgt,iter,ifs,0⟩] scope pos) (eU fi gt p fe is ts.length):=⟨have hi:=hi.run;have g:=λC c d fp=>(g C c d fp).run;have j:=λC c d fp=>(j C c d fp).run;have i:=λC c d fp=>(i C c d fp).run;λAN s σ H Q I h=>by
 obtain⟨H0,ρ,b,E,e,q⟩:=h;obtain⟨ds,ed,e⟩:=AT e;split at e
 ·rename_i W;obtain⟨a1,eo,e⟩:=AT e;cases e;rw[eval_ListComp];refine kN (use:=none) S hs O.clos O.kind O.names ?_;refine jc (hi AN s σ H (λJ H'=>AV H H'/\B5 X.K J ds H') I ⟨H0,ρ,ds,E,ed,λJ H' s' y=>⟨s',y⟩⟩) λv s1 h1=>jc h1 λa0 s2 h2=>?_;obtain⟨it,fp,tn,J,H2,rfl,P,T,st,M,f,Y⟩:=h2;refine Ai (B:=Ld) (RR:=λl C=>compPost (A8 X.prog X.w) X.A X.xe none (EP X AN σ Q) l C) (ts:=ts) (xs:=xs) O L g j i G P ((E.grow f).caps is ts.length) (QF T) st M Y W eo ?_;intro D C s' H' us hD t u ⟨m,hn⟩ s2' hD' r';refine⟨m,hn,λh' N=>⟨.ref D,H',?_,rfl,q _ _ (f.trans s2') (λa ea=>by cases ea;exact f.free hD) ⟨D,us,rfl,hD',r'⟩⟩⟩;obtain⟨f0,f1,f2,n,z,F⟩:=u;exact t.turned (t':=s'.toks) (λb o hb e=>(N.2 b hb).trans e) f0 f1 n z F
 ·cases e⟩
theorem Gw(i:Nat){py spos:Pos}(ts:AZ)(O:uN X scope cl xs is)(b0:X.calm=true)(hN:X.N.Nodup)(hi:FD X tgt iter fi)(l:∀C c d fp,Ch (JW X (xs++ts) scope cl C c d fp) tgt gt)(t:∀C c d fp,Dc (JW X (xs++ts) scope cl C c d fp) ifs p)(n:∀C c d fp,QV (JW X (xs++ts) scope cl C c d fp) elt fe)(a3:D1 is.length (is.length+ts.length) gt)(c0:swapsWith (.ListComp elt [⟨tgt,iter,ifs,0⟩] scope pos) (U (.Name y py)) spos.line X.env=pure true:=by with_unfolding_all rfl)(hy:X.N[i]?=U y:=by rfl)(hx:DE X.env.scope y:=by first|exact kb rfl|exact Q4 S)(hf:X.fn y=true\/X.env.scope.names.lookup y=U .local:=by first|exact .inl rfl|exact .inr S)(hs:∀x,foldedSetIterable iter X.env x=pure x:=by intro _;rfl):Qz X (.Assign [.Name y py] (.ListComp elt [⟨tgt,iter,ifs,0⟩] scope pos) spos) (λρ=>(eU fi gt p fe is ts.length ρ).bind λb=>(Yd ρ i b).bind λρ'=>U (.nx ρ')):=⟨have hi:=hi.run;have l:=λC c d fp=>(l C c d fp).run;have t:=λC c d fp=>(t C c d fp).run;have n:=λC c d fp=>(n C c d fp).run;λAN s σ H D I h=>by
 obtain⟨H0,ρ,r,E,e,q⟩:=h;obtain⟨b,eb,e⟩:=AT e;obtain⟨ds,ed,eb⟩:=AT eb;split at eb
 ·rename_i c1;obtain⟨a0,eo,eb⟩:=AT eb;cases eb;cases e;rw[exec_Assign_Name_used _ _ _ _ c0];refine zb (K0 (zb ?_));show A7 _ X.A (do let _ <-comprehension (.ListComp elt [⟨tgt,iter,ifs,0⟩] scope pos) scope X.env _ (newList []) false (eval iter X.env) (U (assign (.Name y py) X.env))) _ _ s;refine zb (QI (kN (use:=U (assign (.Name y py) X.env)) (Q:=λ_ s'=>SP X AN D .next s') S hs O.clos O.kind O.names ?_) (λ_ s' hq=>ze (ze hq)) λ_ _ e=>e);refine jc (hi AN s σ H (λJ H'=>AV H H'/\B5 X.K J ds H') I ⟨H0,ρ,ds,E,ed,λJ H' s' y=>⟨s',y⟩⟩) λv s1 h1=>jc h1 λc2 s2 h2=>?_;obtain⟨it,fp,tn,J,H2,rfl,I2,T,st,b3,j,Y⟩:=h2;refine Ai (B:=Ld) (RR:=λM C=>compPost (A8 X.prog X.w) X.A X.xe (U (assign (.Name y py) X.env)) (λ_ s'=>SP X AN D .next s') M C) (ts:=ts) (xs:=xs) O b0 l t n a3 I2 ((E.grow j).caps is ts.length) (QF T) st b3 Y c1 eo ?_;intro f C s' H' us hD F fC ⟨m,hn⟩ s2' hD' r';show A7 _ X.A (assign (.Name y py) X.env (.ref f)) _ _ s';obtain⟨f0,f1,f2,W,f4,f5⟩:=fC;obtain⟨g,a2,ep,P,G,a1⟩:=id hn;have a5:L2.AU X (AN++[(C,g)]) σ H' s':=F.Nb λL hp=>by
   rcases List.mem_append.mp hp with z|z
   ·exact F.pin L (Zl _ z)
   ·have:L=(C,g):=by simpa using z
    subst this;exact⟨P,f0,f1,f2,λv z=>by rw[G]at z;cases z⟩
  refine jc (L2.V6 hN hy hx hf (AN++[(C,g)]) s' σ H' (.ref f) (.ref f) (λσ' u=>σ'=σ.set i (U (.ref f))/\u=H') a5 S ⟨rfl,rfl⟩) λ_ s'' ⟨σ',u,J',e1,e2⟩=>?_;subst e1 e2;have b9:=(J'.pin (C,g) (by simp)).1;refine⟨m,⟨g,a2,ep,b9,G,a1⟩,λh' sb=>?_⟩;refine⟨σ.set i (U (.ref f)),u,J'.wL.turned (t':=s''.toks) (λb o hb e=>(sb.2 b hb).trans e) f0 f1 W f4 f5,q _ _ ?_⟩;exact E.set (j.trans s2') (b:=.o a0) ⟨f,us,rfl,hD',r'⟩ (.inl S) λa ea=>by cases ea;exact j.free hD
 ·cases eb⟩
def lend:Bx->Bx
 |.o ds=>.l ds
 |.m ds _=>.n ds
 |b=>b
def iL:Bx->Bool
 |.o _=>true
 |.m _ _=>true
 |_=>false
def Dx(K:B1)(n:Nat)(F:Z Bx->O Bx):Sp:=λvs H Q _=>vs.length=n/\∃bs r,ud K H bs vs/\bs.all (λb=>!iL b)=true/\F bs=U r/\∀v H',AV H H'->Nw H r v->aX K H' r v->Q v H'
def cX(n:Nat)(g:Ev->O As):Z Bx->O Bx:=λbs=>(g (bs.map U++List.replicate (n-bs.length) Y)).bind λr=>match r with
 |.rt b=>U b
 |.nx _=>U (.z .non)
 |_=>Y
theorem bZ.start{K:B1}{H:Hp}{N:AZ}{bs:Z Bx}{vs:Z V}(r:ud K H bs vs)(ho:bs.all (λb=>!iL b)=true):bZ K H H (L2.start N vs) (bs.map U++List.replicate (N.length-bs.length) Y):=by
 have h:bs.length=vs.length:=Paired.length r;have get:∀(i:Nat) b,(bs.map U++List.replicate (N.length-bs.length) Y)[i]?=U (U b)->bs[i]?=U b:=λi b e=>by
  by_cases hi:i<bs.length
  ·rw[ZO (by simpa using hi),Zp]at e;cases q:bs[i]? with
   |none=>rw[q]at e;cases e
   |some l=>rw[q]at e;simpa using e
  ·rw[qr (by simp;omega),QO]at e;split at e<;>cases e
 have f:∀(i:Nat) c,(bs.map U++List.replicate (N.length-bs.length) Y)[i]?=U (U c)->wF c=true->False:=λi c e d=>by
  have:=List.all_eq_true.mp ho _ (QE (get i _ e));cases c with
  |o ds=>cases this
  |m ds _=>cases this
  |_=>cases d
 refine⟨?_,λi b e=>?_,λi j c a b e d=>(f i c e d).elim,AV.refl H,λi c a e d=>(f i c e d).elim⟩
 ·unfold L2.start;simp[h]
 ·have e':=get i b e;have hi:i<bs.length:=(List.getElem?_eq_some_iff.mp e').1;have:∀{bs:Z Bx} {vs:Z V} {i:Nat} {b:Bx},AI (aX K H) bs vs->bs[i]?=U b->∃v,vs[i]?=U v/\aX K H b v:=by
   intro bs vs i b r
   induction r generalizing i with
   |nil=>intro e;simp at e
   |cons p t g=>
    intro e;cases i with
    |zero=>simp at e;subst e;exact⟨_,rfl,p⟩
    |succ i=>obtain⟨v,e1,e2⟩:=g (i:=i) (by simpa using e);exact⟨v,by simpa using e1,e2⟩
  obtain⟨v,e1,e2⟩:=this r e';refine⟨v,?_,e2⟩;unfold L2.start;rw[ZO (by simp;omega),Zp,e1];rfl
end
theorem cr{st:AB}{f:A1}{k:Nat}{g:Ev->O As}(F:Cs K x qual st f fd)(S:bx N ps (aK st))(j:∀(a:A0) (A:A5) (outer:Z Env) (s:A2) (H:Hp) (E:XK),nR k (A.deeper (AK qual (aK st) s.heap.objs.size f a))->Zr (G7 Nt P w K mg base N qual (aK st) f a A outer s H E).nox (jz st) g):
  wM P w K mg base Nt (k+1) f fd ps (Dx K ps.length (cX N.length g)):=by
 refine F.ok S (λvs H Q E h=>h.1) λa A outer s H vs Q E l h=>?_;obtain⟨n,bs,r,m,ho,e,q⟩:=h;refine⟨_,j a A outer s H E l,?_⟩;obtain⟨c,er,e⟩:=AT e;refine⟨H,_,c,bZ.start m ho,er,?_⟩;cases c with
 |rt b=>cases e;exact λv H' s' i c=>q v H' s' i c
 |nx ρ=>cases e;exact λσ H' d=>q _ H' d.base trivial (by unfold aX AW;rfl)
 |bk ρ=>cases e
 |ct ρ=>cases e
section
variable{k:Nat}{f:A1}{F:Z Bx->O Bx}{p:Pos}{fs:Ev->O (Z Bx)}
theorem QG{K:B1}{H:Hp}:∀{bs:Z Bx} {vs:Z V},ud K H bs vs->ud K H (bs.map lend) vs
 |_,_,.nil=>.nil
 |b::bs,_,.cons h t=>by
  refine .cons ?_ (QG t);cases b with
  |z d=>exact h
  |l ds=>exact h
  |o ds=>obtain⟨a,vs,e,q,r⟩:=h;exact⟨a,vs,e,.inl q,r⟩
  |n ds=>exact h
  |m ds _=>obtain⟨a,vs,e,q,r⟩:=h;exact⟨a,vs,e,.inl q,r.1⟩
theorem Wj:∀bs:Z Bx,(bs.map lend).all (λb=>!iL b)=true
 |[]=>rfl
 |b::bs=>by
  rw[zr,ku,Wj bs];cases b<;>rfl
def bL(n:Nat)(F:Z Bx->O Bx)(fs:Ev->O (Z Bx)):Ev->O Bx:=λρ=>(fs ρ).bind λbs=>if bs.length=n then F (bs.map lend)else Y
theorem bp(G:wM X.prog X.w X.K X.mg X.base Nt k f fd ps (Dx X.K n F))(l:nR k X.A)(hg:Gl X x)(m:X.mg x=U (.ref f))(g:keepIn X.K (.ref f)=true)(hb:BT X.K fd ps [])(ha:Zu X (e::es) fs)(i:(x==("__debug__":AJ))=false:=by decide)(he:A9 (e::es) X.env=(false,eval e X.env)::A9 es X.env:=by rfl)(s:(AD pos (A9 es X.env)).any (·.1)=false:=by rfl):QV X (.Call (.Name x p) (e::es) [] pos) (bL n F fs):=⟨have ha:=ha.run;Ft (V7 G l hg m g hb .nil (NY) ha i he s) λσ H Q h=>by
 obtain⟨H0,ρ,r,E,e,q⟩:=h;obtain⟨bs,eb,e⟩:=AT e;refine⟨H0,ρ,bs,E,eb,λvs H1 b a=>?_⟩;split at e
 ·rename_i o;rw[ZT];exact⟨by rw[<-Paired.length a];exact o,_,r,QG a,Wj bs,e,λv H2 c d j=>q v H2 (b.trans c) (d.old b) j⟩
 ·cases e⟩
end
end P1
variable{b:P1.Bx}{d:P1.Dt}{G:A1->Z (L2.AY×P1.Dt)->Z P1.Bx->O (Z (L2.AY×P1.Dt))}{f:P1.Ev->O P1.Bx}{q:P1.Ev->O Bool}{g:P1.Ev->O P1.As}{p:P1.Ev->O Bool}{AO:Z (L2.AY×P1.Dt)}{ds:Z P1.Dt}{fa:P1.Ev->O P1.Bx}{ρ:P1.Ev}{fb fc:P1.Ev->O P1.Bx}{gt:P1.Dt->P1.Ev->O P1.Ev}{gb:P1.Ev->O P1.As}{fi:P1.Ev->O (Z P1.Dt)}{fe:P1.Ev->O P1.Bx}{Ac:A1->L2.Hp->Z P1.Dt->L2.HO->Prop}{fk fo fv f1:P1.Ev->O P1.Bx}{gx:P1.Ev->O P1.Dt}{iH b_1:P1.Bx}
namespace P1
open L2 SeqAt
open AutoSeq1 (wpAny_loadPart')
def J5(h:A6)(a:A1):Prop:=∃o ep,h.get? a=U o/\o.ExactDict/\o.data=.dict #[] ep
section
variable{b:A1}
theorem Aj{AO:Z (AY×V)}{vs:Z (AY×A0)}(q:AO=[])(r:KV AO vs)(d:h.DictOf (bw P w) a vs):J5 h a:=by
 subst q;cases r;obtain⟨o,es,ep,h1,h2,c,_,b,_⟩:=d;have:es=#[]:=by
  have:=b.length;apply Array.eq_empty_of_size_eq_zero;simpa using this
 subst this;exact⟨o,ep,h1,h2,c⟩
theorem J5.dict(P:A3)(w:A4)(x:J5 h a):h.DictOf (strKind P w) a []:=by
 obtain⟨o,ep,h1,h2,c⟩:=x;exact⟨o,#[],ep,h1,h2,c,λe b=>by simp at b,.nil,j3⟩
theorem MR(ha:(a==sysModules)=false)(hb:(b==sysModules)=false)(c:J5 s.heap a)(d:J5 s.heap b)(e:A.units<cLine):RcAt A s (.ref a) (.ref b) true:=λprog w E Q h=>
 PySem.W.keq_eq (knd:=strKind prog w) ha hb (c.dict prog w) (d.dict prog w) e (λ_=>.nil) h
theorem TZ(ha:(a==sysModules)=false)(hb:(b==sysModules)=false)(c:J5 s.heap a)(d:J5 s.heap b)(e:A.units<cLine):RcNeAt A s (.ref a) (.ref b) false:=λprog w E Q h=>
 PySem.W.keq_ne (r:=true) (knd:=strKind prog w) ha hb (c.dict prog w) (d.dict prog w) e (λ_=>.nil) h
theorem QH(o:AE)(b:AJ)(u:Tok):Meets (Builtin.«dict.__eq__» ⟨[.ref a,.str b u],[]⟩) (λ_ R s=>(s.heap.get? a=U o/\o.cls=.type "dict")/\R (.ok (.ret .notImplemented)) s):=
 .of_wp λprog w A R s h=>by
  have c:s.TypeIs (.ref a) "dict":=⟨o,h.1.1,h.1.2⟩;show A7 _ _ (Builtin.Dict.dictSlotArgs "__eq__" ⟨[.ref a,.str b u],[]⟩ >>= _) _ _ s;refine zb ?_;unfold Builtin.Dict.dictSlotArgs;refine zb (wpAny_notOrdered_dict c ?_);show A7 _ _ (pure (Value.ref a,Value.str b u)) _ _ s;refine ze ?_;refine zb (kf (T :="str") (typeIs_str s b u) PySem.F.sub_str_dict ?_);simp only[kB,qA];refine zb (k8 ?_);exact ze ⟨_,rfl,h.2⟩
theorem QJ(b:AJ)(u:Tok)(es:Array DictEntry)(ep:Nat)(e:O A1)(sl:Array (O A0)):Meets (Builtin.«str.__eq__» ⟨[.str b u,.ref a],[]⟩) (λ_ R s=>s.heap.get? a=U { cls:=.type "dict",dict:=e,data:=.dict es ep,slots:=sl }/\R (.ok (.ret .notImplemented)) s):=
 .of_wp λprog w A R s h=>by obtain⟨hp,g,d,tk,os⟩:=s;obtain⟨c,h⟩:=h;wp_walk using wpAny_loadPart' c,KB c;exact⟨_,rfl,h⟩
theorem Lf(x:AJ)(t:Tok)(d:J5 s.heap a)(g:A.units<cLine):RcAt A s (.str x t) (.ref a) false:=λprog w E Q h=>by
 obtain⟨⟨i,f,j,sl⟩,ep,ho,⟨c,hd,hs⟩,e⟩:=d;simp only at c e;subst c e;exact rc_eq_decline_or (k:=false) (typeIs_str s x t) ⟨_,ho,rfl⟩ (by decide) PySem.F.sub_dict_str PySem.F.slot_str_eq PySem.F.slot_dict_eq_refl
  (λ_ b=>call_meets PySem.F.slot_str_eq (typeIs_str s x t) PySem.F.entry_str_eq (PySem.F.args_str_eq_2 _ _) (QJ x t #[] ep f sl) ⟨ho,b⟩)
  (λ_ b=>call_meets PySem.F.slot_dict_eq_refl ⟨_,ho,rfl⟩ PySem.F.entry_dict_eq (PySem.F.args_dict_eq_2 _ _) (QH _ x t) ⟨⟨ho,rfl⟩,b⟩)
  (λ_ b=>wpAny_of_eq (rfl:isSame (.str x t) (.ref a)=pure false) b) (.inr g) h
theorem QK(o:AE)(b:AJ)(u:Tok):Meets (Builtin.«dict.__ne__» ⟨[.ref a,.str b u],[]⟩) (λ_ R s=>(s.heap.get? a=U o/\o.cls=.type "dict")/\R (.ok (.ret .notImplemented)) s):=
 .of_wp λprog w A R s h=>by
  have c:s.TypeIs (.ref a) "dict":=⟨o,h.1.1,h.1.2⟩;show A7 _ _ (Builtin.Dict.dictSlotArgs "__ne__" ⟨[.ref a,.str b u],[]⟩ >>= _) _ _ s;refine zb ?_;unfold Builtin.Dict.dictSlotArgs;refine zb (wpAny_notOrdered_dict c ?_);show A7 _ _ (pure (Value.ref a,Value.str b u)) _ _ s;refine ze ?_;refine zb (kf (T :="str") (typeIs_str s b u) PySem.F.sub_str_dict ?_);simp only[kB,qA];refine zb (k8 ?_);exact ze ⟨_,rfl,h.2⟩
theorem QL(b:AJ)(u:Tok)(es:Array DictEntry)(ep:Nat)(e:O A1)(sl:Array (O A0)):Meets (Builtin.«str.__ne__» ⟨[.str b u,.ref a],[]⟩) (λ_ R s=>s.heap.get? a=U { cls:=.type "dict",dict:=e,data:=.dict es ep,slots:=sl }/\R (.ok (.ret .notImplemented)) s):=
 .of_wp λprog w A R s h=>by obtain⟨hp,g,d,tk,os⟩:=s;obtain⟨c,h⟩:=h;wp_walk using wpAny_loadPart' c,KB c;exact⟨_,rfl,h⟩
theorem Yh(x:AJ)(t:Tok)(d:J5 s.heap a)(g:A.units<cLine):RcNeAt A s (.str x t) (.ref a) true:=λprog w E Q h=>by
 obtain⟨⟨i,f,j,sl⟩,ep,ho,⟨c,hd,hs⟩,e⟩:=d;simp only at c e;subst c e;exact rc_ne_decline_or (k:=false) (typeIs_str s x t) ⟨_,ho,rfl⟩ (by decide) PySem.F.sub_dict_str PySem.F.slot_str_ne PySem.F.slot_dict_ne_refl
  (λ_ b=>call_meets PySem.F.slot_str_ne (typeIs_str s x t) PySem.F.entry_str_ne (PySem.F.args_str_ne_2 _ _) (QL x t #[] ep f sl) ⟨ho,b⟩)
  (λ_ b=>call_meets PySem.F.slot_dict_ne_refl ⟨_,ho,rfl⟩ PySem.F.entry_dict_ne (PySem.F.args_dict_ne_2 _ _) (QK _ x t) ⟨⟨ho,rfl⟩,b⟩)
  (λ_ b=>wpAny_of_eq (rfl:isSame (.str x t) (.ref a)=pure false) b) (.inr g) h
theorem Yi(x:AJ)(t:Tok)(d:J5 s.heap a)(c:A.units<cLine):EqAt A s (.str x t) (.ref a) false:=λprog w E Q h=>by
 unfold eqBool;refine QQ ?_;refine wpAny_ite_split (λb=>absurd (eq_of_beq b) nofun) (λ_=>?_);exact zb (Lf x t d c prog w E _ (ja h))
end
mutual
def yh:Dt->Nat
 |.tup xs=>wU xs+1
 |.lst xs=>wU xs+1
 |_=>1
def wU:Z Dt->Nat
 |[]=>0
 |d::ds=>max (yh d) (wU ds)
end
mutual
def Cz:Dt->Dt->O Bool
 |.non,.non=>U true
 |.non,.bl _=>U false|.non,.int _=>U false|.non,.str _=>U false|.non,.tup _=>U false|.non,.lst _=>U false
 |.bl a,.bl b=>U (a==b)
 |.bl a,.int b=>U ((if a then 1 else 0)==b)
 |.bl _,.non=>U false|.bl _,.str _=>U false|.bl _,.tup _=>U false|.bl _,.lst _=>U false
 |.int a,.int b=>U (a==b)
 |.int a,.bl b=>U (a==(if b then 1 else 0))
 |.int _,.non=>U false|.int _,.str _=>U false|.int _,.tup _=>U false|.int _,.lst _=>U false
 |.str a,.str b=>U (a==b)
 |.str _,.non=>U false|.str _,.bl _=>U false|.str _,.int _=>U false|.str _,.tup _=>U false|.str _,.lst _=>U false|.str _,.emp=>U false
 |.tup xs,.tup ys=>mH xs ys
 |.tup _,.non=>U false|.tup _,.bl _=>U false|.tup _,.int _=>U false|.tup _,.str _=>U false|.tup _,.lst _=>U false
 |.lst xs,.lst ys=>mH xs ys
 |.emp,.emp=>U true
 |.lst _,.non=>U false|.lst _,.bl _=>U false|.lst _,.int _=>U false|.lst _,.str _=>U false|.lst _,.tup _=>U false
 |_,_=>Y
def mH:Z Dt->Z Dt->O Bool
 |[],[]=>U true
 |[],_::_=>U false
 |_::_,[]=>U false
 |x::xs,y::ys=>match Cz x y with
  |some b=>match mH xs ys with
   |some c=>U (b&&c)
   |none=>Y
  |none=>Y
end
mutual
theorem QM:∀{d:Dt} {k:Bool},Cz d d=U k->k=true
 |.non,_,e=>by cases e;rfl
 |.bl b,_,e=>by cases e;simp
 |.int b,_,e=>by cases e;simp
 |.str b,_,e=>by cases e;simp
 |.tup xs,_,e=>Dd (ds:=xs) e
 |.lst xs,_,e=>Dd (ds:=xs) e
 |.emp,_,e=>by cases e;rfl
theorem Dd:∀{ds:Z Dt} {k:Bool},mH ds ds=U k->k=true
 |[],_,e=>by simp only[mH]at e;cases e;rfl
 |d::ds,_,e=>by
  simp only[mH]at e;cases h:Cz d d with
  |none=>rw[h]at e;cases e
  |some b=>
   rw[h]at e;simp only at e;cases h2:mH ds ds with
   |none=>rw[h2]at e;cases e
   |some c=>
    rw[h2]at e;cases e;rw[QM h,Dd h2];rfl
end
theorem Gx(xs ys:Z Dt):Cz (.tup xs) (.tup ys)=mH xs ys:=rfl
theorem wV:∀{xs ys:Z Dt} {k:Bool},mH xs ys=U k->∃e:Nat->Bool,(∀(j:Nat) x y,xs[j]?=U x->ys[j]?=U y->Cz x y=U (e j))/\k=((List.range (min xs.length ys.length)).all e&&xs.length==ys.length)
 |[],[],k,h=>by simp only[mH]at h;cases h;exact⟨λ_=>true,λj x y e=>by simp at e,by simp⟩
 |[],y::ys,k,h=>by simp only[mH]at h;cases h;exact⟨λ_=>true,λj x y e=>by simp at e,by simp⟩
 |x::xs,[],k,h=>by simp only[mH]at h;cases h;exact⟨λ_=>true,λj x y _ e=>by simp at e,by simp⟩
 |x::xs,y::ys,k,h=>by
  simp only[mH]at h;cases h1:Cz x y with
  |none=>rw[h1]at h;cases h
  |some b=>
   rw[h1]at h;simp only at h;cases h2:mH xs ys with
   |none=>rw[h2]at h;cases h
   |some c=>
    rw[h2]at h;cases h;obtain⟨e,g,d⟩:=wV h2;refine⟨λj=>match j with|0=>b|j+1=>e j,λj u v a ev=>?_,?_⟩
    ·cases j with
     |zero=>simp at a ev;subst a ev;exact h1
     |succ j=>exact g j u v (by simpa using a) (by simpa using ev)
    ·have:min (x::xs).length (y::ys).length=min xs.length ys.length+1:=by simp only[ZZ];omega
     rw[this,List.range_succ_eq_map,ku,List.all_map,d];have hb:((x::xs).length==(y::ys).length)=(xs.length==ys.length):=by
      rw[JU];simp
     rw[hb,Bool.and_assoc];rfl
theorem wW:∀{ds:Z Dt} {j:Nat} {d:Dt},ds[j]?=U d->yh d<=wU ds
 |[],_,_,e=>by simp at e
 |d::ds,0,_,e=>by simp at e;subst e;simp only[wU];exact Nat.le_max_left _ _
 |d::ds,j+1,_,e=>by
  simp only[wU];exact ZA (wW (ds:=ds) (j:=j) (by simpa using e)) (Nat.le_max_right _ _)
theorem Gy(I:L2.AU X AN σ H s)(h:Cy X.K H a vs):∃b,s.heap.get? a=U b/\b.cls=.type "tuple":=by
 obtain⟨AQ,_,⟨b,e,c,_⟩,_⟩:=I.tuple h;exact⟨b,e,c⟩
theorem Gz(I:L2.AU X AN σ H s)(h:wJ X.K H a vs):∃b,s.heap.get? a=U b/\b.cls=.type "list":=by
 obtain⟨AQ,_,⟨b,n,e,c,_⟩,_⟩:=I.list h;exact⟨b,e,c⟩
theorem rM(I:L2.AU X AN σ H s){o:AE}(h:H a=U (.vW o (.dK []))):∃b,s.heap.get? a=U b/\b.cls=.type "dict":=by
 obtain⟨e,_,_,vs,_,b,es,ep,e2,ex,_⟩:=I.hok a _ h;exact⟨b,e2,ex.1⟩
theorem Dg{n m:String}(h:∃b,s.heap.get? a=U b/\b.cls=.type n)(q:∃b,s.heap.get? a=U b/\b.cls=.type m)(f:n≠m):False:=by
 obtain⟨o,e,c⟩:=h;obtain⟨o',e',d⟩:=q;rw[e]at e';cases e';rw[c]at d;exact f (by injection d)
mutual
theorem AW.inj(I:L2.AU X AN σ H s):∀{d e:Dt} {v:V},AW X.K H d v->AW X.K H e v->d=e
 |.non,e,v,h,q=>by
  simp only[AW]at h;subst h;cases e<;>simp only[AW]at q<;>first|rfl|(cases q;done)|(obtain⟨a,b,z,_⟩:=q;cases z;done)|(obtain⟨z,_⟩:=q;cases z;done)
 |.bl _,e,v,h,q=>by
  simp only[AW]at h;subst h;cases e<;>simp only[AW]at q<;>first|(cases q;rfl)|(cases q;done)|(obtain⟨a,b,z,_⟩:=q;cases z;done)|(obtain⟨z,_⟩:=q;cases z;done)
 |.int _,e,v,h,q=>by
  simp only[AW]at h;subst h;cases e<;>simp only[AW]at q<;>first|(cases q;rfl)|(cases q;done)|(obtain⟨a,b,z,_⟩:=q;cases z;done)|(obtain⟨z,_⟩:=q;cases z;done)
 |.str x,e,v,h,q=>by
  simp only[AW]at h;have g:v=.str x:=h.1;subst g;cases e with
  |str y=>
   simp only[AW]at q;have z:V.str x=V.str y:=q.1;injection z with z;rw[z]
  |tup es=>simp only[AW]at q;obtain⟨a,b,z,_⟩:=q;cases z
  |lst es=>simp only[AW]at q;obtain⟨a,b,z,_⟩:=q;cases z
  |emp=>simp only[AW]at q;obtain⟨a,b,z,_⟩:=q;cases z
  |_=>simp only[AW]at q;cases q
 |.tup ds,e,v,h,q=>by
  simp only[AW]at h;obtain⟨a,vs,rfl,sq,r⟩:=h;cases e with
  |tup es=>
   simp only[AW]at q;obtain⟨b,us,z,c,f⟩:=q;cases z;have:=I.K1 sq c;subst this;rw[aO.inj I r f]
  |lst es=>
   simp only[AW]at q;obtain⟨b,us,z,c,f⟩:=q;cases z;exact(Dg (Gy I sq) (Gz I c.sq) (by decide)).elim
  |emp=>
   simp only[AW]at q;obtain⟨b,o,z,c⟩:=q;cases z;exact(Dg (Gy I sq) (rM I c) (by decide)).elim
  |str x=>simp only[AW]at q;have z:=q.1;cases z
  |_=>simp only[AW]at q;cases q
 |.lst ds,e,v,h,q=>by
  simp only[AW]at h;obtain⟨a,vs,rfl,sq,r⟩:=h;cases e with
  |lst es=>
   simp only[AW]at q;obtain⟨b,us,z,c,f⟩:=q;cases z;have:=I.Qm sq.sq c.sq;subst this;rw[aO.inj I r f]
  |tup es=>
   simp only[AW]at q;obtain⟨b,us,z,c,f⟩:=q;cases z;exact(Dg (Gz I sq.sq) (Gy I c) (by decide)).elim
  |emp=>
   simp only[AW]at q;obtain⟨b,o,z,c⟩:=q;cases z;exact(Dg (Gz I sq.sq) (rM I c) (by decide)).elim
  |str x=>simp only[AW]at q;have z:=q.1;cases z
  |_=>simp only[AW]at q;cases q
 |.emp,e,v,h,q=>by
  simp only[AW]at h;obtain⟨a,o,rfl,sq⟩:=h;cases e with
  |emp=>rfl
  |tup es=>
   simp only[AW]at q;obtain⟨b,us,z,c,f⟩:=q;cases z;exact(Dg (rM I sq) (Gy I c) (by decide)).elim
  |lst es=>
   simp only[AW]at q;obtain⟨b,us,z,c,f⟩:=q;cases z;exact(Dg (rM I sq) (Gz I c.sq) (by decide)).elim
  |str x=>simp only[AW]at q;have z:=q.1;cases z
  |_=>simp only[AW]at q;cases q
theorem aO.inj(I:L2.AU X AN σ H s):∀{ds es:Z Dt} {vs:Z V},aO X.K H ds vs->aO X.K H es vs->ds=es
 |[],es,vs,h,q=>by
  simp only[aO]at h;subst h;cases es with
  |nil=>rfl
  |cons e es=>simp only[aO]at q;obtain⟨_,_,z,_⟩:=q;cases z
 |d::ds,es,vs,h,q=>by
  simp only[aO]at h;obtain⟨v,r,rfl,h1,h2⟩:=h;cases es with
  |nil=>simp only[aO]at q;cases q
  |cons e es=>
   simp only[aO]at q;obtain⟨b,a,z,q1,q2⟩:=q;cases z;rw[AW.inj I h1 q1,aO.inj I h2 q2]
end
theorem L9(I:L2.AU X AN σ H s):∀(n:Nat) {A:A5} {d e:Dt} {x y:V} {u v:A0} {k:Bool},min (yh d) (yh e)<=n->A.units+n<cLine->AW X.K H d x->AW X.K H e y->Au x u->Au y v->Cz d e=U k->EqAt A s u v k:=by
 intro n
 induction n with
 |zero=>
  intro A d e x y u v k Q;have h1:1<=yh d:=by cases d<;>simp only[yh]<;>omega
  have h2:1<=yh e:=by cases e<;>simp only[yh]<;>omega
  omega
 |succ n ih=>
  intro A d e x y u v k Q hA m c w g ek;have h:A.units<cLine:=by omega
  by_cases J:u=v/\∃a,u=.ref a
  ·obtain⟨rfl,a,rfl⟩:=J;have hx:x=.ref a:=by have:=w.abs;simpa[HG]using this.symm
   have hy:y=.ref a:=by have:=g.abs;simpa[HG]using this.symm
   subst hx hy;have:=AW.inj I m c;subst this;rw[QM ek];exact EqAt.same _
  ·have items:∀{ds es:Z Dt} {vs us:Z V} {AQ l:Z A0} {f:Nat->Bool},min (wU ds) (wU es)<=n->aO X.K H ds vs->aO X.K H es us->AX vs AQ->AX us l->(∀(j:Nat) x y,ds[j]?=U x->es[j]?=U y->Cz x y=U (f j)) →
     ∀j (h1:j<AQ.toArray.size) (h2:j<l.toArray.size),EqAt A.in1 s AQ.toArray[j] l.toArray[j] (f j):=by
    intro ds es vs us AQ l f hm r1 r2 w1 w2 E j h1 h2;have l1:=w1.length;have l2:=w2.length;have l3:=r1.length;have l4:=r2.length;have j1:j<AQ.length:=by simpa using h1
    have j2:j<l.length:=by simpa using h2
    have P:ds[j]?=U ds[j]:=by simp
    have d2:es[j]?=U es[j]:=by simp
    obtain⟨a,ea,B⟩:=r1.get P;obtain⟨b,eb,C⟩:=r2.get d2;obtain⟨p,ep,rp⟩:=w1.get ea;obtain⟨q,eq,rq⟩:=w2.get eb;have e1:AQ.toArray[j]=p:=by simpa[j1]using ep
    have e2:l.toArray[j]=q:=by simpa[j2]using eq
    rw[e1,e2];have m1:=wW P;have m2:=wW d2;exact ih (by omega) (by rw[units_in1];omega) B C rp rq (E j _ _ P d2)
   cases d with
   |non=>
    cases m;cases w;cases e with
    |non=>cases c;cases g;cases ek;exact EqAt.same _
    |bl b=>cases c;cases g;cases ek;exact EqAt.none_bool b
    |int b=>cases c;obtain⟨t,rfl⟩:=g;cases ek;exact EqAt.none_int b t
    |str b=>obtain⟨rfl,_⟩:=c;obtain⟨t,rfl⟩:=g;cases ek;exact EqAt.none_str b t
    |tup es=>obtain⟨b,us,rfl,sq,_⟩:=c;cases g;cases ek;obtain⟨_,_,p,_⟩:=I.tuple sq;exact EqAt.none_tuple p h
    |lst es=>obtain⟨b,us,rfl,sq,_⟩:=c;cases g;cases ek;obtain⟨_,_,p,_⟩:=I.list sq.sq;exact EqAt.none_list p.isList h
    |emp=>cases ek
   |bl a=>
    cases m;cases w;cases e with
    |non=>cases c;cases g;cases ek;exact EqAt.bool_none a
    |bl b=>cases c;cases g;cases ek;exact EqAt.bool_bool a b
    |int b=>cases c;obtain⟨t,rfl⟩:=g;cases ek;exact EqAt.bool_int a b t
    |str b=>obtain⟨rfl,_⟩:=c;obtain⟨t,rfl⟩:=g;cases ek;exact EqAt.bool_str a b t
    |tup es=>obtain⟨b,us,rfl,sq,_⟩:=c;cases g;cases ek;obtain⟨_,_,p,_⟩:=I.tuple sq;exact EqAt.bool_tuple a p h
    |lst es=>obtain⟨b,us,rfl,sq,_⟩:=c;cases g;cases ek;obtain⟨_,_,p,_⟩:=I.list sq.sq;exact EqAt.bool_list a p.isList h
    |emp=>cases ek
   |int a=>
    cases m;obtain⟨i,rfl⟩:=w;cases e with
    |non=>cases c;cases g;cases ek;exact EqAt.int_none a i
    |bl b=>cases c;cases g;cases ek;exact EqAt.int_bool a i b
    |int b=>cases c;obtain⟨t,rfl⟩:=g;cases ek;exact EqAt.int_int a i b t
    |str b=>obtain⟨rfl,_⟩:=c;obtain⟨t,rfl⟩:=g;cases ek;exact EqAt.int_str a i b t
    |tup es=>obtain⟨b,us,rfl,sq,_⟩:=c;cases g;cases ek;obtain⟨_,_,p,_⟩:=I.tuple sq;exact EqAt.int_tuple a i p h
    |lst es=>obtain⟨b,us,rfl,sq,_⟩:=c;cases g;cases ek;obtain⟨_,_,p,_⟩:=I.list sq.sq;exact EqAt.int_list a i p.isList h
    |emp=>cases ek
   |str a=>
    obtain⟨rfl,_⟩:=m;obtain⟨i,rfl⟩:=w;cases e with
    |non=>cases c;cases g;cases ek;exact EqAt.str_none a i
    |bl b=>cases c;cases g;cases ek;exact EqAt.str_bool a i b
    |int b=>cases c;obtain⟨t,rfl⟩:=g;cases ek;exact EqAt.str_int a i b t
    |str b=>obtain⟨rfl,_⟩:=c;obtain⟨t,rfl⟩:=g;cases ek;exact EqAt.str_str a i b t
    |tup es=>obtain⟨b,us,rfl,sq,_⟩:=c;cases g;cases ek;obtain⟨_,_,p,_⟩:=I.tuple sq;exact EqAt.str_tuple a i p h
    |lst es=>obtain⟨b,us,rfl,sq,_⟩:=c;cases g;cases ek;obtain⟨_,_,p,_⟩:=I.list sq.sq;exact EqAt.str_list a i p.isList h
    |emp=>
     simp only[AW]at c;obtain⟨p,o,rfl,e⟩:=c;cases g;cases ek;obtain⟨_,_,vs,r,q⟩:=vY I.hok (.inr ⟨o,e⟩);exact Yi a i (Aj S r q) h
   |tup ds=>
    obtain⟨a,vs,rfl,M,B⟩:=m;cases w;obtain⟨AQ,F,p,_⟩:=I.tuple M;cases e with
    |non=>cases c;cases g;cases ek;exact EqAt.tuple_none p h
    |bl b=>cases c;cases g;cases ek;exact EqAt.tuple_bool b p h
    |int b=>cases c;obtain⟨t,rfl⟩:=g;cases ek;exact EqAt.tuple_int b t p h
    |str b=>obtain⟨rfl,_⟩:=c;obtain⟨t,rfl⟩:=g;cases ek;exact EqAt.tuple_str b t p h
    |lst es=>obtain⟨b,us,rfl,sq,_⟩:=c;cases g;cases ek;obtain⟨_,_,p2,_⟩:=I.list sq.sq;exact EqAt.tuple_list p p2.isList h
    |tup es=>
     obtain⟨b,us,rfl,N,C⟩:=c;cases g;obtain⟨l,D,p2,_⟩:=I.tuple N;change mH _ _=U _ at ek;obtain⟨f,E,rfl⟩:=wV ek;have G:a≠b:=λz=>J ⟨by rw[z],a,rfl⟩;have z:=EqAt.of_refs G (RcAt.tuples (A:=A) (e:=f) p p2 h (items (by simp only[yh]at Q;omega) B C F D E));have q1:AQ.toArray.size=ds.length:=by rw[zC,<-F.length,B.length]
     have q2:l.toArray.size=es.length:=by rw[zC,<-D.length,C.length]
     rw[q1,q2]at z;exact z
    |emp=>cases ek
   |lst ds=>
    obtain⟨a,vs,rfl,M,B⟩:=m;cases w;obtain⟨AQ,F,p,_⟩:=I.list M.sq;cases e with
    |non=>cases c;cases g;cases ek;exact EqAt.list_none p.isList h
    |bl b=>cases c;cases g;cases ek;exact EqAt.list_bool b p.isList h
    |int b=>cases c;obtain⟨t,rfl⟩:=g;cases ek;exact EqAt.list_int b t p.isList h
    |str b=>obtain⟨rfl,_⟩:=c;obtain⟨t,rfl⟩:=g;cases ek;exact EqAt.list_str b t p.isList h
    |tup es=>obtain⟨b,us,rfl,sq,_⟩:=c;cases g;cases ek;obtain⟨_,_,p2,_⟩:=I.tuple sq;exact EqAt.list_tuple p.isList p2 h
    |lst es=>
     obtain⟨b,us,rfl,N,C⟩:=c;cases g;obtain⟨l,D,p2,_⟩:=I.list N.sq;change mH _ _=U _ at ek;obtain⟨f,E,rfl⟩:=wV ek;have G:a≠b:=λz=>J ⟨by rw[z],a,rfl⟩;have q1:AQ.toArray.size=ds.length:=by rw[zC,<-F.length,B.length]
     have q2:l.toArray.size=es.length:=by rw[zC,<-D.length,C.length]
     by_cases W:AQ.toArray.size=l.toArray.size
     ·have z:=EqAt.of_refs G (RcAt.lists (A:=A) (e:=f) p.isList p2.isList W h (items (by simp only[yh]at Q;omega) B C F D E));have L:ds.length=es.length:=by omega
      rw[q1]at z;rw[L,Nat.min_self,beq_self_eq_true,kM,<-L];exact z
     ·have L:(ds.length==es.length)=false:=by rw[beq_eq_false_iff_ne];omega
      rw[L,KI];exact EqAt.of_refs G (RcAt.lists_lengths p.isList p2.isList (by simpa using W) h)
    |emp=>cases ek
   |emp=>
    cases e<;>first|(cases ek;done)|skip;simp only[AW]at m c;obtain⟨a,o,rfl,e1⟩:=m;obtain⟨b,o',rfl,e2⟩:=c;cases w;cases g;cases ek;obtain⟨_,m1,vs,r,q⟩:=vY I.hok (.inr ⟨o,e1⟩);obtain⟨_,m2,a0,r',q'⟩:=vY I.hok (.inr ⟨o',e2⟩);exact EqAt.of_refs (λz=>J ⟨by rw[z],a,rfl⟩) (MR m1 m2 (Aj S r q) (Aj S r' q') h)
theorem QS(I:L2.AU X AN σ H s){es:Z Dt}{us:Z V}{c:Z A0}{f:Nat->Bool}(J:min (wU ds) (wU es)<=n)(E:A.units+n+1<cLine)(h:aO X.K H ds vs)(e:aO X.K H es us)(g:AX vs AQ)(i:AX us c)(v:∀(j:Nat) x y,ds[j]?=U x->es[j]?=U y->Cz x y=U (f j)):∀j (h1:j<AQ.toArray.size) (h2:j<c.toArray.size),EqAt A.in1 s AQ.toArray[j] c.toArray[j] (f j):=by
 intro j h1 h2;have C:=g.length;have F:=i.length;have l3:=h.length;have B:=e.length;have l:j<AQ.length:=by simpa using h1
 have u:j<c.length:=by simpa using h2
 have d:ds[j]?=U (ds[j]'(by omega)):=by simp
 have d2:es[j]?=U (es[j]'(by omega)):=by simp
 obtain⟨a,ea,t⟩:=h.get d;obtain⟨b,eb,z⟩:=e.get d2;obtain⟨p,ep,o⟩:=g.get ea;obtain⟨q,m,w⟩:=i.get eb;have e1:AQ.toArray[j]=p:=by simpa[l]using ep
 have e2:c.toArray[j]=q:=by simpa[u]using m
 rw[e1,e2];have D:=wW d;have G:=wW d2;exact L9 I n (by omega) (by rw[units_in1];omega) t z o w (v j _ _ d d2)
def iW(K:B1)(H:Hp):Dt->V->Prop
 |.lst ds,v=>∃a vs,v=.ref a/\wJ K H a vs/\aO K H ds vs
 |d,v=>AW K H d v
def mD:Bx->Bool
 |.n _=>true
 |.m _ _=>true
 |_=>false
def toD:Bx->Dt
 |.z d=>d
 |.l ds=>.lst ds
 |.o ds=>.lst ds
 |.n _=>.non
 |.m _ _=>.non
theorem aX.toD(h:aX K H b v)(a:mD b=false):iW K H (toD b) v:=by
 cases b with
 |z d=>
  cases d with
  |lst ds=>exact h.J2 rfl
  |_=>exact h
 |l ds=>exact h.J2 rfl
 |o ds=>exact h.J2 rfl
 |n _=>cases a
 |m _ _=>cases a
theorem Wm(I:L2.AU X AN σ H s){e:Dt}{x y:V}{v:A0}{k:Bool}(Q:min (yh d) (yh e)<=100)(hA:X.A.units+100<cLine)(z:iW X.K H d x)(h:iW X.K H e y)(B:Au x u)(i:Au y v)(ek:Cz d e=U k):RcAt X.A s u v k/\RcNeAt X.A s u v (!k):=by
 have g:X.A.units<cLine:=by omega
 cases d with
 |non=>
  cases z;cases B;cases e with
  |non=>
   cases h;cases i;cases ek;exact⟨.none_none,.none_none⟩
  |bl c=>
   cases h;cases i;cases ek;exact⟨.none_bool c,.none_bool c⟩
  |int c=>
   cases h;obtain⟨t2,rfl⟩:=i;cases ek;exact⟨.none_int c t2,.none_int c t2⟩
  |str c=>
   obtain⟨rfl,_⟩:=h;obtain⟨t2,rfl⟩:=i;cases ek;exact⟨.none_str c t2,.none_str c t2⟩
  |tup c=>
   obtain⟨a2,w,rfl,j,l⟩:=h;cases i;obtain⟨t,m,p2,_⟩:=I.tuple j;cases ek;exact⟨.none_tuple p2 g,.none_tuple p2 g⟩
  |lst c=>
   obtain⟨a2,w,rfl,j,l⟩:=h;cases i;obtain⟨t,m,p2,_⟩:=I.list j;cases ek;exact⟨.none_list p2.isList g,.none_list p2.isList g⟩
  |emp=>cases ek
 |bl x1=>
  cases z;cases B;cases e with
  |non=>
   cases h;cases i;cases ek;exact⟨.bool_none x1,.bool_none x1⟩
  |bl c=>
   cases h;cases i;cases ek;exact⟨.bool_bool x1 c,.bool_bool x1 c⟩
  |int c=>
   cases h;obtain⟨t2,rfl⟩:=i;cases ek;exact⟨.bool_int x1 c t2,.bool_int x1 c t2⟩
  |str c=>
   obtain⟨rfl,_⟩:=h;obtain⟨t2,rfl⟩:=i;cases ek;exact⟨.bool_str x1 c t2,.bool_str x1 c t2⟩
  |tup c=>
   obtain⟨a2,w,rfl,j,l⟩:=h;cases i;obtain⟨t,m,p2,_⟩:=I.tuple j;cases ek;exact⟨.bool_tuple x1 p2 g,.bool_tuple x1 p2 g⟩
  |lst c=>
   obtain⟨a2,w,rfl,j,l⟩:=h;cases i;obtain⟨t,m,p2,_⟩:=I.list j;cases ek;exact⟨.bool_list x1 p2.isList g,.bool_list x1 p2.isList g⟩
  |emp=>cases ek
 |int x1=>
  cases z;obtain⟨t1,rfl⟩:=B;cases e with
  |non=>
   cases h;cases i;cases ek;exact⟨.int_none x1 t1,.int_none x1 t1⟩
  |bl c=>
   cases h;cases i;cases ek;exact⟨.int_bool x1 t1 c,.int_bool x1 t1 c⟩
  |int c=>
   cases h;obtain⟨t2,rfl⟩:=i;cases ek;exact⟨.int_int x1 t1 c t2,.int_int x1 t1 c t2⟩
  |str c=>
   obtain⟨rfl,_⟩:=h;obtain⟨t2,rfl⟩:=i;cases ek;exact⟨.int_str x1 t1 c t2,.int_str x1 t1 c t2⟩
  |tup c=>
   obtain⟨a2,w,rfl,j,l⟩:=h;cases i;obtain⟨t,m,p2,_⟩:=I.tuple j;cases ek;exact⟨.int_tuple x1 t1 p2 g,.int_tuple x1 t1 p2 g⟩
  |lst c=>
   obtain⟨a2,w,rfl,j,l⟩:=h;cases i;obtain⟨t,m,p2,_⟩:=I.list j;cases ek;exact⟨.int_list x1 t1 p2.isList g,.int_list x1 t1 p2.isList g⟩
  |emp=>cases ek
 |str x1=>
  obtain⟨rfl,_⟩:=z;obtain⟨t1,rfl⟩:=B;cases e with
  |non=>
   cases h;cases i;cases ek;exact⟨.str_none x1 t1,.str_none x1 t1⟩
  |bl c=>
   cases h;cases i;cases ek;exact⟨.str_bool x1 t1 c,.str_bool x1 t1 c⟩
  |int c=>
   cases h;obtain⟨t2,rfl⟩:=i;cases ek;exact⟨.str_int x1 t1 c t2,.str_int x1 t1 c t2⟩
  |str c=>
   obtain⟨rfl,_⟩:=h;obtain⟨t2,rfl⟩:=i;cases ek;exact⟨.str_str x1 t1 c t2,.str_str x1 t1 c t2⟩
  |tup c=>
   obtain⟨a2,w,rfl,j,l⟩:=h;cases i;obtain⟨t,m,p2,_⟩:=I.tuple j;cases ek;exact⟨.str_tuple x1 t1 p2 g,.str_tuple x1 t1 p2 g⟩
  |lst c=>
   obtain⟨a2,w,rfl,j,l⟩:=h;cases i;obtain⟨t,m,p2,_⟩:=I.list j;cases ek;exact⟨.str_list x1 t1 p2.isList g,.str_list x1 t1 p2.isList g⟩
  |emp=>
   simp only[iW,AW]at h;obtain⟨p,o,rfl,e⟩:=h;cases i;cases ek;obtain⟨_,_,vs,r,q⟩:=vY I.hok (.inr ⟨o,e⟩);exact⟨Lf x1 t1 (Aj S r q) g,Yh x1 t1 (Aj S r q) g⟩
 |tup x1=>
  obtain⟨a1,a0,rfl,J,C⟩:=z;cases B;obtain⟨F,D,p1,_⟩:=I.tuple J;cases e with
  |non=>
   cases h;cases i;cases ek;exact⟨.tuple_none p1 g,.tuple_none p1 g⟩
  |bl c=>
   cases h;cases i;cases ek;exact⟨.tuple_bool c p1 g,.tuple_bool c p1 g⟩
  |int c=>
   cases h;obtain⟨t2,rfl⟩:=i;cases ek;exact⟨.tuple_int c t2 p1 g,.tuple_int c t2 p1 g⟩
  |str c=>
   obtain⟨rfl,_⟩:=h;obtain⟨t2,rfl⟩:=i;cases ek;exact⟨.tuple_str c t2 p1 g,.tuple_str c t2 p1 g⟩
  |tup c=>
   obtain⟨a2,w,rfl,j,l⟩:=h;cases i;obtain⟨t,m,p2,_⟩:=I.tuple j;change mH _ _=U _ at ek;obtain⟨f,L,rfl⟩:=wV ek;have q1:F.toArray.size=x1.length:=by rw[zC,<-D.length,C.length]
   have q2:t.toArray.size=c.length:=by rw[zC,<-m.length,l.length]
   have it:=QS I (n:=99) (A:=X.A) (by simp only[yh]at Q;omega) (by omega) C l D m L;rw[<-q1,<-q2];exact⟨.tuples p1 p2 g it,.tuples p1 p2 g it⟩
  |lst c=>
   obtain⟨a2,w,rfl,j,l⟩:=h;cases i;obtain⟨t,m,p2,_⟩:=I.list j;cases ek;exact⟨.tuple_list p1 p2.isList g,.tuple_list p1 p2.isList g⟩
  |emp=>cases ek
 |lst x1=>
  obtain⟨a1,a0,rfl,J,C⟩:=z;cases B;obtain⟨F,D,p1,_⟩:=I.list J;cases e with
  |non=>
   cases h;cases i;cases ek;exact⟨.list_none p1.isList g,.list_none p1.isList g⟩
  |bl c=>
   cases h;cases i;cases ek;exact⟨.list_bool c p1.isList g,.list_bool c p1.isList g⟩
  |int c=>
   cases h;obtain⟨t2,rfl⟩:=i;cases ek;exact⟨.list_int c t2 p1.isList g,.list_int c t2 p1.isList g⟩
  |str c=>
   obtain⟨rfl,_⟩:=h;obtain⟨t2,rfl⟩:=i;cases ek;exact⟨.list_str c t2 p1.isList g,.list_str c t2 p1.isList g⟩
  |tup c=>
   obtain⟨a2,w,rfl,j,l⟩:=h;cases i;obtain⟨t,m,p2,_⟩:=I.tuple j;cases ek;exact⟨.list_tuple p1.isList p2 g,.list_tuple p1.isList p2 g⟩
  |lst c=>
   obtain⟨a2,w,rfl,j,l⟩:=h;cases i;obtain⟨t,m,p2,_⟩:=I.list j;change mH _ _=U _ at ek;obtain⟨f,L,rfl⟩:=wV ek;have q1:F.toArray.size=x1.length:=by rw[zC,<-D.length,C.length]
   have q2:t.toArray.size=c.length:=by rw[zC,<-m.length,l.length]
   have it:=QS I (n:=99) (A:=X.A) (by simp only[yh]at Q;omega) (by omega) C l D m L;by_cases E:F.toArray.size=t.toArray.size
   ·have G:x1.length=c.length:=by omega
    rw[G,Nat.min_self,beq_self_eq_true,kM,<-G,<-q1];exact⟨.lists p1.isList p2.isList E g it,.lists p1.isList p2.isList E g it⟩
   ·have G:(x1.length==c.length)=false:=by rw[beq_eq_false_iff_ne];omega
    rw[G,KI];exact⟨.lists_lengths p1.isList p2.isList (by simpa using E) g,.lists_lengths p1.isList p2.isList (by simpa using E) g⟩
  |emp=>cases ek
 |emp=>
  cases e<;>first|(cases ek;done)|skip;simp only[iW,AW]at z h;obtain⟨a,o,rfl,e1⟩:=z;obtain⟨b,o',rfl,e2⟩:=h;cases B;cases i;cases ek;obtain⟨_,N,vs,r,q⟩:=vY I.hok (.inr ⟨o,e1⟩);obtain⟨_,P,a3,W,M⟩:=vY I.hok (.inr ⟨o',e2⟩);exact⟨MR N P (Aj S r q) (Aj S W M) g,TZ N P (Aj S r q) (Aj S W M) g⟩
def Bn(a b:Bx):O Bx:=if mD a=true\/mD b=true then Y else if min (yh (toD a)) (yh (toD b))<=100 then(Cz (toD a) (toD b)).bind λk=>U (.z (.bl k))else Y
def Fz(a b:Bx):O Bx:=if mD a=true\/mD b=true then Y else if min (yh (toD a)) (yh (toD b))<=100 then(Cz (toD a) (toD b)).bind λk=>U (.z (.bl (!k)))else Y
theorem of_eq(l:X.A.units+100<cLine):Fv X (AG .Eq) Bn:=by
 intro AN s σ H x y v u Q I f m h;obtain⟨a,b,c,g,j,e,q⟩:=h;unfold Bn at e;split at e
 ·cases e
 rename_i d;have ha:mD a=false:=by cases h:mD a with|false=>rfl|true=>exact absurd (.inl h) d
 have hb:mD b=false:=by cases h:mD b with|false=>rfl|true=>exact absurd (.inr h) d
 split at e
 ·rename_i i;obtain⟨k,ek,e⟩:=AT e;cases e;exact(Wm I i l (g.toD ha) (j.toD hb) f m ek).1 X.prog X.w X.xe _ ⟨.bl k,H,I,rfl,q _ H (AV.refl H) trivial (by unfold aX AW;rfl)⟩
 ·cases e
theorem nW(l:X.A.units+100<cLine):Fv X (AG .NotEq) Fz:=by
 intro AN s σ H x y v u Q I f m h;obtain⟨a,b,c,g,j,e,q⟩:=h;unfold Fz at e;split at e
 ·cases e
 rename_i d;have ha:mD a=false:=by cases h:mD a with|false=>rfl|true=>exact absurd (.inl h) d
 have hb:mD b=false:=by cases h:mD b with|false=>rfl|true=>exact absurd (.inr h) d
 split at e
 ·rename_i i;obtain⟨k,ek,e⟩:=AT e;cases e;exact(Wm I i l (g.toD ha) (j.toD hb) f m ek).2 X.prog X.w X.xe _ ⟨.bl (!k),H,I,rfl,q _ H (AV.refl H) trivial (by unfold aX AW;rfl)⟩
 ·cases e
theorem FJ{i:Int}:aX K H (.z (.int i)) (.int i):=by unfold aX AW;rfl
theorem Hr{b:Bool}:aX K H (.z (.bl b)) (.bl b):=by unfold aX AW;rfl
theorem Ff(h:x.length<=AA):aX K H (.z (.str x)) (.str x):=by unfold aX AW;exact⟨rfl,h⟩
theorem Ny{i:Int}(h:aX K H (.z (.int i)) v):v=.int i:=by simpa only[aX,AW]using h
theorem Yj(h:aX K H (.z (.str x)) v):v=.str x/\x.length<=AA:=by simpa only[aX,AW]using h
theorem GB(h:aX K H (.z (.tup ds)) v):∃a vs,v=.ref a/\Cy K H a vs/\aO K H ds vs:=by simpa only[aX,AW]using h
def i2(g:Int->Int->O Dt):Bx->Bx->O Bx
 |.z (.int i),.z (.int j)=>(g i j).bind λd=>U (.z d)
 |_,_=>Y
theorem Ht{f:A0->A0->Sem A0}{r:R2}{g:Int->Int->O Dt}(ho:xX X f r)(h:∀i j d H Q,g i j=U d->(∀v,AW X.K H d v->Q v H)->r (.int i) (.int j) H Q):Fv X f (i2 g):=xX.imp ho λx y H Q q=>by
 obtain⟨a,b,c,l,n,e,q⟩:=q;unfold i2 at e;split at e
 ·rename_i i j;obtain⟨d,o,e⟩:=AT e;cases e;rw[Ny l,Ny n];exact h i j d H Q o λv m=>q v H (AV.refl H) trivial m
 ·cases e
theorem Fh{i:Int}:AW K H (.int i) (.int i):=by unfold AW;rfl
theorem EQ{b:Bool}:AW K H (.bl b) (.bl b):=by unfold AW;rfl
abbrev C1:=i2 λi j=>U (.int (i-j))
abbrev EK:=i2 λi j=>U (.bl (decide (i<=j)))
abbrev IH:=i2 λi j=>U (.bl (decide (j<i)))
abbrev GW:=i2 λi j=>U (.bl (decide (j<=i)))
abbrev Hu:=i2 λi j=>if 0<j/\j<1073741824 then U (.int (i / j))else Y
abbrev jZ:=i2 λi j=>if 0<j then U (.int (i%j))else Y
abbrev HV:=i2 λi j=>if 0<=j/\j<=1000/\i.natAbs<2 ^ 64 then U (.int (i ^ j.toNat))else Y
theorem Dh:Fv X (binaryOp .Sub) C1:=Ht az λi j d H Q e q=>by cases e;exact⟨i,j,rfl,rfl,q _ Fh⟩
theorem CB:Fv X (AG .LtE) EK:=Ht Pv λi j d H Q e q=>by cases e;exact⟨i,j,rfl,rfl,q _ EQ⟩
theorem OQ:Fv X (AG .Gt) IH:=Ht UT λi j d H Q e q=>by cases e;exact⟨i,j,rfl,rfl,q _ EQ⟩
theorem LG:Fv X (AG .GtE) GW:=Ht aa λi j d H Q e q=>by cases e;exact⟨i,j,rfl,rfl,q _ EQ⟩
theorem GC:Fv X (binaryOp .FloorDiv) Hu:=Ht Y' λi j d H Q e q=>by
 split at e
 ·rename_i h;cases e;exact⟨i,j,rfl,rfl,h,q _ Fh⟩
 ·cases e
theorem dN:Fv X (binaryOp .Mod) jZ:=Ht VW λi j d H Q e q=>by
 split at e
 ·rename_i h;cases e;exact⟨i,j,rfl,rfl,h,q _ Fh⟩
 ·cases e
theorem d6:Fv X (binaryOp .Pow) HV:=Ht ac λi j d H Q e q=>by
 split at e
 ·rename_i h;cases e;exact⟨i,j,rfl,rfl,⟨h.1,by omega,h.2.2⟩,q _ Fh⟩
 ·cases e
def F7:Bx->O Bx
 |.z (.int i)=>U (.z (.int (-i)))
 |_=>Y
theorem U2:ML X (unaryOp .USub) F7:=DL.imp Tl λx H Q q=>by
 obtain⟨a,c,b,e,q⟩:=q;unfold F7 at e;split at e
 ·rename_i i;cases e;exact⟨i,Ny b,q _ H (AV.refl H) trivial FJ⟩
 ·cases e
def Uh:Nat:=1000000
theorem To:Uh<=AA:=by decide
theorem cq{l b:A1}{us:Z V}{Q:VK}(I:L2.AU X AN σ H s)(t:wJ X.K H l vs)(hb:wJ X.K H b us)(i:vs.length+us.length<=AA)(q:∀p,H p=Y->Q (.ref p) (B6 H p (.lst (vs++us)))):
  A7 (A8 X.prog X.w) X.A (binaryOp .Add (.ref l) (.ref b)) (EP X AN σ Q) X.xe s:=by
 obtain⟨AQ,d,⟨⟨u,y,D,sl⟩,m,e1,c1,g,f⟩,z1⟩:=I.list t;obtain⟨a,c,⟨⟨cls2,C,B,j⟩,n,e2,c2,d2,h⟩,z2⟩:=I.list hb;simp only at c1 g f c2 d2 h;subst c1 g f c2 d2 h;have v:=d.length;have z:=c.length;have e:AQ.toArray++a.toArray=(AQ++a).toArray:=by simp
 refine concat_meets ⟨_,e1,rfl⟩ ⟨_,e2,rfl⟩ noFill_list_add seq_list_add PySem.F.slot_list_add PySem.F.entry_list_add (PySem.F.args_list_add_2 _ _) (list_addW l b AQ.toArray a.toArray m n Y Y sl j (by rw[zC,zC];omega)) ⟨e1,e2,?_⟩;rw[e];exact⟨.ref s.heap.objs.size,_,I.laid (t':=s.toks) (o:=.lst (vs++us)) (λb x q=>zd _ q) (zo _) ⟨by rw[zI];exact i,_,0,d.append c,zv _ rfl⟩,rfl,q _ (I.hok.fresh (zo _))⟩
theorem SL{l b:A1}{us:Z V}{Q:VK}(I:L2.AU X AN σ H s)(e:Cy X.K H l vs)(hb:Cy X.K H b us)(o:vs.length+us.length<=AA)(m:vs=[]->Q (.ref b) H)(q1:us=[]->Q (.ref l) H)(q2:∀p,H p=Y->Q (.ref p) (B6 H p (.tup (vs++us)))):
  A7 (A8 X.prog X.w) X.A (binaryOp .Add (.ref l) (.ref b)) (EP X AN σ Q) X.xe s:=by
 by_cases a:vs=[]
 ·obtain⟨AQ,g,⟨⟨t,j,x,sl⟩,e1,c1,f,d⟩,z1⟩:=I.tuple e;obtain⟨q,u,⟨⟨cls2,n,v,i⟩,e2,c2,h,c⟩,z2⟩:=I.tuple hb;simp only at c1 d c2 c;subst c1 d c2 c;have:AQ=[]:=g.Gs.mpr a;exact concat_meets ⟨_,e1,rfl⟩ ⟨_,e2,rfl⟩ noFill_tuple_add seq_tuple_add PySem.F.slot_tuple_add yk (ya _ _)
   (tuple_addW0 l b AQ.toArray q.toArray f h j n sl i (by simp[this])) ⟨e1,e2,⟨.ref b,H,I,rfl,m a⟩⟩
 ·exact WS AN s σ H (.ref l) (.ref b) (.ref l) (.ref b) Q I S S ⟨l,b,vs,us,rfl,rfl,e,hb,a,o,q1,λ_=>q2⟩
def gC:Bx->Bx->O Bx
 |.z (.int i),.z (.int j)=>U (.z (.int (i+j)))
 |.z (.str i),.z (.str j)=>if i.length+j.length<=Uh then U (.z (.str (i++j)))else Y
 |.z (.tup xs),.z (.tup ys)=>if xs.length+ys.length<=Uh then U (.z (.tup (xs++ys)))else Y
 |a,b=>(rG a).bind λxs=>(rG b).bind λys=>if xs.length+ys.length<=Uh then U (.o (xs++ys))else Y
theorem D5(i j:AJ):(i++j).length=i.length+j.length:=by
 show(i.cps++j.cps).size=_;rw[k5];rfl
theorem dR:Fv X (binaryOp .Add) gC:=by
 intro AN s σ H x y v u Q I g w h;obtain⟨a,b,c,n,o,e,q⟩:=h;have B:=To;unfold gC at e;split at e
 ·rename_i i j;cases e;exact fT AN s σ H x y v u Q I g w ⟨i,j,Ny n,Ny o,q _ H (AV.refl H) trivial FJ⟩
 ·rename_i i j;split at e
  ·rename_i A;cases e;exact T4 AN s σ H x y v u Q I g w ⟨i,j,(Yj n).1,(Yj o).1,by omega,q _ H (AV.refl H) trivial (Ff (by rw[D5];omega))⟩
  ·cases e
 ·rename_i xs ys;split at e
  ·rename_i A;cases e;obtain⟨l,vs,rfl,sl,d⟩:=GB n;obtain⟨m,us,rfl,t,f⟩:=GB o;cases g;cases w;have h1:=d.length;have h2:=f.length;refine SL I sl t (by omega) (λz=>q _ H (AV.refl H) trivial ?_) (λz=>q _ H (AV.refl H) trivial ?_) λp hp=>q _ _ (cG hp) trivial ?_
   ·unfold aX AW;refine⟨m,us,rfl,t,?_⟩;have:xs=[]:=by subst z;exact List.eq_nil_of_length_eq_zero (by simpa using h1.symm)
    rw[this,Kn];exact f
   ·unfold aX AW;refine⟨l,vs,rfl,sl,?_⟩;have:ys=[]:=by subst z;exact List.eq_nil_of_length_eq_zero (by simpa using h2.symm)
    rw[this,ZT];exact d
   ·unfold aX AW;exact⟨p,_,rfl,.inl (.inl bV),(d.append f).kp (.of (cG hp))⟩
  ·cases e
 ·obtain⟨xs,ea,e⟩:=AT e;obtain⟨ys,eb,e⟩:=AT e;split at e
  ·rename_i A;cases e;obtain⟨l,vs,rfl,sl,d⟩:=n.J2 ea;obtain⟨m,us,rfl,t,f⟩:=o.J2 eb;cases g;cases w;have h1:=d.length;have h2:=f.length;refine cq I sl t (by omega) λp hp=>q _ _ (cG hp) (λa ea=>by cases ea;exact hp) ⟨p,_,rfl,bV,(d.append f).kp (.of (cG hp))⟩
  ·cases e
def Ak:Bx->Bx->O Bx
 |.z (.int i),.z (.int j)=>if(-(2 ^ 64)<i/\i<2 ^ 64)\/(-(2 ^ 64)<j/\j<2 ^ 64)then U (.z (.int (i*j)))else Y
 |.z (.str x),.z (.int n)=>if n<=1000 ∧ -1000<=n/\x.length<=1000 then U (.z (.str (Txt.mul x n)))else Y
 |_,_=>Y
theorem yU(x:Array Nat):∀(n:Nat) (a:Array Nat),((List.replicate n x).foldl (·++·) a).size=a.size+n*x.size
 |0,a=>by simp
 |n+1,a=>by
  rw[Kt,qo,yU x n,k5,Nat.succ_mul];omega
theorem Nz(x:AJ)(n:Int):(Txt.mul x n).length<=n.toNat*x.length+x.length:=by
 unfold Txt.mul;split
 ·exact QP _
 ·split
  ·exact Nat.le_add_left _ _
  ·show((List.replicate n.toNat x.cps).foldl (·++·) #[]).size<=_;rw[yU];show(#[]:Array Nat).size+n.toNat*x.cps.size<=n.toNat*x.cps.size+x.cps.size;simp
theorem wX:Fv X (binaryOp .Mult) Ak:=by
 intro AN s σ H x y v u Q I g o h;obtain⟨a,b,c,l,m,e,q⟩:=h;unfold Ak at e;split at e
 ·rename_i i j;split at e
  ·rename_i f;cases e;exact YE AN s σ H x y v u Q I g o ⟨i,j,Ny l,Ny m,f,q _ H (AV.refl H) trivial FJ⟩
  ·cases e
 ·rename_i d n;split at e
  ·rename_i f;cases e;obtain⟨rfl,hx⟩:=Yj l;have w:=Ny m;subst w;obtain⟨t,rfl⟩:=g;obtain⟨p,rfl⟩:=o;have hs:AA=16777216:=sizeLine_eq;have A:n.toNat*d.length<=1000*1000:=Nat.mul_le_mul (by omega) f.2.2;refine SB.mul ⟨?_,λh1 h2=>?_,λh1 h2=>?_⟩ λp k=>⟨.str _,H,I.tok _,⟨_,rfl⟩,q _ H (AV.refl H) trivial (Ff (ZA (Nz d n) (by omega)))⟩
   ·have e1:decide (n < -(2 ^ 63:Int))=false:=z5 (by omega);have e2:decide (n>=2 ^ 63)=false:=z5 (by omega);rw[e1,e2];rfl
   ·have z:0<n:=by omega
    have:(1000:Int)<=(2 ^ 63-1) / n:=(Int.le_ediv_iff_mul_le z).mpr (by omega);omega
   ·show decide (d.length*n.toNat>AA)=false;rw[Nat.mul_comm];exact z5 (by omega)
  ·cases e
 ·cases e
def Lg(i j:AJ):Bool:=!(Builtin.Str.occurrences j i 0 j.length 1).isEmpty
def Al:Dt->Bool
 |.non=>true
 |.bl _=>true
 |.int _=>true
 |.str _=>true
 |_=>false
def CH(x:Dt)(ys:Z Dt):O Bool:=if Al x=true/\ys.all Al=true then U (ys.any λy=>match Cz y x with|some true=>true|_=>false)else Y
def uo:Bx->O (Z Dt)
 |.z (.lst ds)=>U ds
 |.z (.tup ds)=>U ds
 |.l ds=>U ds
 |.o ds=>U ds
 |_=>Y
def EC:Bx->Bx->O Bool
 |.z (.str i),.z (.str j)=>U (Lg i j)
 |.z d,b=>(uo b).bind λys=>CH d ys
 |_,_=>Y
def Cc(a b:Bx):O Bx:=(EC a b).bind λk=>U (.z (.bl k))
def FV(a b:Bx):O Bx:=(EC a b).bind λk=>U (.z (.bl (!k)))
theorem QT(r:AW K H d v)(f:Al d=true):vX v=true:=by
 cases d<;>first|(cases f;done)|skip
 all_goals simp only[AW]at r
 ·subst r;rfl
 ·subst r;rfl
 ·subst r;rfl
 ·obtain⟨rfl,_⟩:=r;rfl
theorem Lh{K:B1}{H:Hp}:∀{ds:Z Dt} {vs:Z V},aO K H ds vs->ds.all Al=true->vs.all vX=true
 |[],_,h,_=>by simp only[aO]at h;subst h;rfl
 |d::ds,_,h,f=>by
  simp only[aO]at h;obtain⟨v,r,rfl,h1,h2⟩:=h;rw[ku,ZY]at f;rw[ku,QT h1 f.1,Lh h2 f.2];rfl
theorem NK(b:Bool):(match U b with|some true=>true|_=>false)=b:=by cases b<;>rfl
theorem Sr{e:Dt}{x y:V}(a:AW K H d x)(b:AW K H e y)(fd:Al d=true)(fe:Al e=true):DB x y=(match Cz d e with|some true=>true|_=>false):=by
 cases d<;>first|(cases fd;done)|skip
 all_goals (cases e<;>first|(cases fe;done)|skip)
 all_goals simp only[AW]at a b
 all_goals first
  |(subst a;subst b;exact(NK _).symm)
  |(obtain⟨rfl,_⟩:=a;subst b;exact(NK _).symm)
  |(subst a;obtain⟨rfl,_⟩:=b;exact(NK _).symm)
  |(obtain⟨rfl,_⟩:=a;obtain⟨rfl,_⟩:=b;exact(NK _).symm)
theorem Wn{K:B1}{H:Hp}{d:Dt}{x:V}(a:AW K H d x)(fd:Al d=true):∀{ds:Z Dt} {vs:Z V},aO K H ds vs->ds.all Al=true->GE x vs=ds.any λy=>match Cz y d with|some true=>true|_=>false
 |[],_,h,_=>by simp only[aO]at h;subst h;rfl
 |e::ds,_,h,f=>by
  simp only[aO]at h;obtain⟨v,r,rfl,h1,h2⟩:=h;rw[ku,ZY]at f;have:=Wn a fd h2 f.2;unfold GE at this ⊢;rw[kc,kc,Sr h1 a f.1 fd,this]
theorem Am(h:aX K H b v)(e:uo b=U ds):∃a vs,v=.ref a/\(wJ K H a vs\/Cy K H a vs)/\aO K H ds vs:=by
 cases b with
 |z d=>
  cases d<;>first|(cases e;done)|skip
  ·cases e;obtain⟨a,vs,e,q,r⟩:=GB h;exact⟨a,vs,e,.inr q,r⟩
  ·cases e;obtain⟨a,vs,e,q,r⟩:=h.J2 rfl;exact⟨a,vs,e,.inl q,r⟩
 |l c=>
  cases e;obtain⟨a,vs,e,q,r⟩:=h.J2 rfl;exact⟨a,vs,e,.inl q,r⟩
 |o c=>
  cases e;obtain⟨a,vs,e,q,r⟩:=h.J2 rfl;exact⟨a,vs,e,.inl q,r⟩
 |n _=>cases e
 |m _ _=>cases e
theorem Li{a:Bx}{x y:V}{k:Bool}(g:aX X.K H a x)(h:aX X.K H b y)(e:EC a b=U k):
  (∃i j,x=.str i/\y=.str j/\k=Lg i j)\/(∃p xs,y=.ref p/\(wJ X.K H p xs\/Cy X.K H p xs)/\vX x=true/\xs.all vX=true/\k=GE x xs):=by
 unfold EC at e;split at e
 ·rename_i i j;cases e;exact .inl ⟨i,j,(Yj g).1,(Yj h).1,rfl⟩
 ·rename_i d _;obtain⟨ys,l,e⟩:=AT e;unfold CH at e;split at e
  ·rename_i c;cases e;obtain⟨p,vs,rfl,sq,rs⟩:=Am h l;have f:AW X.K H d x:=g;exact .inr ⟨p,vs,rfl,sq,QT f c.1,Lh rs c.2,(Wn f c.1 rs c.2).symm⟩
  ·cases e
 ·cases e
theorem Wo:Fv X (AG .In) Cc:=by
 intro AN s σ H x y v u Q I f d h;obtain⟨a,b,c,g,l,e,q⟩:=h;obtain⟨k,ek,e⟩:=AT e;cases e;rcases Li g l ek with⟨i,j,rfl,rfl,rfl⟩|⟨p,xs,rfl,sq,f1,f2,rfl⟩
 ·exact XR AN s σ H _ _ v u Q I f d ⟨i,j,rfl,rfl,q _ H (AV.refl H) trivial Hr⟩
 ·exact X4 AN s σ H _ _ v u Q I f d ⟨p,xs,rfl,sq,f1,f2,q _ H (AV.refl H) trivial Hr⟩
theorem VZ:Fv X (AG .NotIn) FV:=by
 intro AN s σ H x y v u Q I f d h;obtain⟨a,b,c,g,l,e,q⟩:=h;obtain⟨k,ek,e⟩:=AT e;cases e;rcases Li g l ek with⟨i,j,rfl,rfl,rfl⟩|⟨p,xs,rfl,sq,f1,f2,rfl⟩
 ·exact Nk AN s σ H _ _ v u Q I f d ⟨i,j,rfl,rfl,q _ H (AV.refl H) trivial Hr⟩
 ·exact Nj AN s σ H _ _ v u Q I f d ⟨p,xs,rfl,sq,f1,f2,q _ H (AV.refl H) trivial Hr⟩
def NP:Bx->Bool
 |.z .non=>true
 |_=>false
theorem Lj(h:aX K H b v):decide (v=.non)=NP b:=by
 cases b with
 |z d=>
  cases d<;>simp only[aX,AW]at h
  ·subst h;rfl
  ·subst h;rfl
  ·subst h;rfl
  ·obtain⟨rfl,_⟩:=h;rfl
  ·obtain⟨_,_,rfl,_⟩:=h;rfl
  ·obtain⟨_,_,rfl,_⟩:=h;rfl
  ·obtain⟨_,_,rfl,_⟩:=h;rfl
 |l ds=>obtain⟨_,_,rfl,_⟩:=h;rfl
 |o ds=>obtain⟨_,_,rfl,_⟩:=h;rfl
 |n ds=>obtain⟨_,_,rfl,_⟩:=h;rfl
 |m ds _=>obtain⟨_,_,rfl,_⟩:=h;rfl
def FB(a:Bx):Bx->O Bx
 |.z .non=>U (.z (.bl (NP a)))
 |_=>Y
def wg(a:Bx):Bx->O Bx
 |.z .non=>U (.z (.bl (!NP a)))
 |_=>Y
theorem F5:Fv X (AG .Is) FB:=xX.imp SW λx y H Q q=>by
 obtain⟨a,b,c,f,d,e,q⟩:=q;unfold FB at e;split at e
 ·cases e;simp only[aX,AW]at d;exact⟨d,by rw[Lj f];exact q _ H (AV.refl H) trivial Hr⟩
 ·cases e
theorem GD:Fv X (AG .IsNot) wg:=xX.imp TN λx y H Q q=>by
 obtain⟨a,b,c,f,d,e,q⟩:=q;unfold wg at e;split at e
 ·cases e;simp only[aX,AW]at d;exact⟨d,by rw[Lj f];exact q _ H (AV.refl H) trivial Hr⟩
 ·cases e
def gF:Bx->Bx->O Bx
 |.z (.str x),.z (.int i)=>(JZ x.cps.toList i).bind λc=>U (.z (.str ⟨#[c]⟩))
 |b,.z (.int i)=>(uo b).bind λds=>(JZ ds i).bind λd=>U (.z d)
 |_,_=>Y
theorem WZ{i:Int}(r:aO K H ds vs)(e:JZ ds i=U d):∃v,JZ vs i=U v/\AW K H d v:=by
 unfold JZ at e ⊢;rw[r.length];obtain⟨j,a,e⟩:=AT e;rw[a];exact r.get e
theorem bI{a b:Expr}(ha:QV X a fa)(hb:QV X b fb)(hs:Wa b:=by intro _ _;with_unfolding_all rfl):QV X (.Subscript a b pos) (b2 gF fa fb):=⟨have ha:=ha.run;have hb:=hb.run;Ft (cx gz ha hb hs) λσ H Q h=>by
 obtain⟨H0,ρ,c,E,e,q⟩:=h;obtain⟨a,ea,e⟩:=AT e;obtain⟨b,eb,e⟩:=AT e;refine⟨H0,ρ,a,E,ea,λv H1 g A o=>⟨H0,ρ,b,E.grow g,eb,λu H2 f B n=>?_⟩⟩;have j:=o.same f;unfold gF at e;split at e
 ·rename_i x i;obtain⟨y,t,e⟩:=AT e;cases e;exact .inr (.inr ⟨_,_,y,(Yj j).1,Ny n,(Yj j).2,t,q _ _ (g.trans f) trivial (Ff (by show(1:Nat)<=AA;decide))⟩)
 ·obtain⟨ds,s,e⟩:=AT e;obtain⟨d,z,e⟩:=AT e;cases e;obtain⟨p,vs,rfl,sq,rs⟩:=Am j s;obtain⟨w,m,l⟩:=WZ rs z;have hi:=Ny n;rcases sq with sq|sq
  ·exact .inl ⟨p,vs,_,w,rfl,hi,sq,m,q _ _ (g.trans f) trivial l⟩
  ·exact .inr (.inl ⟨p,vs,_,w,rfl,hi,sq,m,q _ _ (g.trans f) trivial l⟩)
 ·cases e⟩
theorem c9:AH "bool"=U (.type "bool"):=by decide +kernel
theorem Ui:AH "int"=U (.type "int"):=by decide +kernel
theorem bP:AH "str"=U (.type "str"):=by decide +kernel
theorem nY:AH "tuple"=U (.type "tuple"):=by decide +kernel
theorem UO:AH "list"=U (.type "list"):=by decide +kernel
theorem nD:AH "isinstance"=U (.builtin "isinstance"):=by decide +kernel
theorem mJ:AH "len"=U (.builtin "len"):=by decide +kernel
theorem Ta:AH "abs"=U (.builtin "abs"):=by decide +kernel
theorem fg:AH "all"=U (.builtin "all"):=by decide +kernel
theorem Uj:AH "min"=U (.builtin "min"):=by decide +kernel
theorem Di:AH "max"=U (.builtin "max"):=by decide +kernel
theorem qw:AH "sorted"=U (.builtin "sorted"):=by decide +kernel
def BM:Dt->Bool
 |.bl _=>true
 |_=>false
theorem av(I:L2.AU X AN σ H s){x:V}{v:A0}{Q:VK}(f:iW X.K H d x)(g:Au x v)(q:Q (.bl (BM d)) H):A7 (A8 X.prog X.w) X.A (call (.builtin "isinstance") [v,.type "bool"]) (EP X AN σ Q) X.xe s:=by
 cases d with
 |non=>simp only[iW,AW]at f;subst f;cases g;exact IsiPair.NoneType_bool ⟨.bl _,H,I.tok _,rfl,q⟩
 |bl b=>simp only[iW,AW]at f;subst f;cases g;exact IsiPair.bool_bool ⟨.bl _,H,I,rfl,q⟩
 |int b=>simp only[iW,AW]at f;subst f;obtain⟨t,rfl⟩:=g;exact IsiPair.int_bool ⟨.bl _,H,I.tok _,rfl,q⟩
 |str b=>simp only[iW,AW]at f;obtain⟨rfl,_⟩:=f;obtain⟨t,rfl⟩:=g;exact IsiPair.str_bool ⟨.bl _,H,I.tok _,rfl,q⟩
 |tup ds=>simp only[iW,AW]at f;obtain⟨a,vs,rfl,sq,_⟩:=f;cases g;obtain⟨_,_,p,_⟩:=I.tuple sq;exact IsiPair.isTuple_bool p (λ_ _ e=>e) ⟨.bl _,H,I.tok _,rfl,q⟩
 |lst ds=>simp only[iW]at f;obtain⟨a,vs,rfl,sq,_⟩:=f;cases g;obtain⟨_,_,p,_⟩:=I.list sq;exact IsiPair.isList_bool p.isList (λ_ _ e=>e) ⟨.bl _,H,I.tok _,rfl,q⟩
 |emp=>simp only[iW,AW]at f;obtain⟨a,o,rfl,sq⟩:=f;cases g;obtain⟨h,e,c⟩:=rM I sq;exact IsiPair.dict_bool e c ⟨.bl _,H,I.tok _,rfl,q⟩
theorem QW{p:Pos}(he:QV X e f)(hg:Gl X "isinstance")(m:X.mg "isinstance"=Y)(g:Gl X "bool")(d:X.mg "bool"=Y)(hs:A9 [e,.Name "bool" p2] X.env=[(false,eval e X.env),(false,eval (.Name "bool" p2) X.env)]:=by rfl):QV X (.Call (.Name "isinstance" p) [e,.Name "bool" p2] [] pos) (b1 (λb=>if mD b=true then Y else U (.z (.bl (BM (toD b))))) f):=⟨by
 have he:=he.run;have i:fZ X (.builtin "isinstance") (λxs H Q=>∃b x,xs=[x,.ty "bool"]/\aX X.K H b x/\mD b=false/\Q (.bl (BM (toD b))) H):=by
  intro AN s σ H xs us Q I r h;obtain⟨b,x,rfl,n,t,q⟩:=h;obtain⟨u,y,rfl,a,l⟩:=CD r;cases l;exact av I (n.toD t) a q
 have ha:PA X [e,.Name "bool" p2] (zY (tF X.K f) (zY (tC (.ty "bool")) Z0)):=gP he (gP (Gp g d (v:=.ty "bool") (u:=.type "bool") c9 S) tL) (by rw[hs]<;>rfl);refine Ft (qG i hg m nD ha (by decide) (by decide) (by rw[hs]<;>rfl) S) λσ H Q h=>?_;obtain⟨H0,ρ,c,E,e,q⟩:=h;obtain⟨b,eb,e⟩:=AT e;split at e
 ·cases e
 rename_i o;cases e;exact⟨H0,ρ,b,E,eb,λv H1 j w a=>⟨b,v,rfl,a,by simpa using o,q _ _ j trivial Hr⟩⟩⟩
def Dj:Dt->Bool
 |.bl _=>true
 |.int _=>true
 |_=>false
theorem bg(I:L2.AU X AN σ H s){x:V}{v:A0}{Q:VK}(f:iW X.K H d x)(g:Au x v)(q:Q (.bl (Dj d)) H):A7 (A8 X.prog X.w) X.A (call (.builtin "isinstance") [v,.type "int"]) (EP X AN σ Q) X.xe s:=by
 cases d with
 |non=>simp only[iW,AW]at f;subst f;cases g;exact IsiPair.NoneType_int ⟨.bl _,H,I.tok _,rfl,q⟩
 |bl b=>simp only[iW,AW]at f;subst f;cases g;exact IsiPair.bool_int ⟨.bl _,H,I,rfl,q⟩
 |int b=>simp only[iW,AW]at f;subst f;obtain⟨t,rfl⟩:=g;exact IsiPair.int_int ⟨.bl _,H,I,rfl,q⟩
 |str b=>simp only[iW,AW]at f;obtain⟨rfl,_⟩:=f;obtain⟨t,rfl⟩:=g;exact IsiPair.str_int ⟨.bl _,H,I.tok _,rfl,q⟩
 |tup ds=>simp only[iW,AW]at f;obtain⟨a,vs,rfl,sq,_⟩:=f;cases g;obtain⟨_,_,p,_⟩:=I.tuple sq;exact IsiPair.isTuple_int p (λ_ _ e=>e) ⟨.bl _,H,I.tok _,rfl,q⟩
 |lst ds=>simp only[iW]at f;obtain⟨a,vs,rfl,sq,_⟩:=f;cases g;obtain⟨_,_,p,_⟩:=I.list sq;exact IsiPair.isList_int p.isList (λ_ _ e=>e) ⟨.bl _,H,I.tok _,rfl,q⟩
 |emp=>simp only[iW,AW]at f;obtain⟨a,o,rfl,sq⟩:=f;cases g;obtain⟨h,e,c⟩:=rM I sq;exact IsiPair.dict_int e c ⟨.bl _,H,I.tok _,rfl,q⟩
theorem Uk{p:Pos}(he:QV X e f)(hg:Gl X "isinstance")(m:X.mg "isinstance"=Y)(g:Gl X "int")(d:X.mg "int"=Y)(hs:A9 [e,.Name "int" p2] X.env=[(false,eval e X.env),(false,eval (.Name "int" p2) X.env)]:=by rfl):QV X (.Call (.Name "isinstance" p) [e,.Name "int" p2] [] pos) (b1 (λb=>if mD b=true then Y else U (.z (.bl (Dj (toD b))))) f):=⟨by
 have he:=he.run;have i:fZ X (.builtin "isinstance") (λxs H Q=>∃b x,xs=[x,.ty "int"]/\aX X.K H b x/\mD b=false/\Q (.bl (Dj (toD b))) H):=by
  intro AN s σ H xs us Q I r h;obtain⟨b,x,rfl,n,t,q⟩:=h;obtain⟨u,y,rfl,a,l⟩:=CD r;cases l;exact bg I (n.toD t) a q
 have ha:PA X [e,.Name "int" p2] (zY (tF X.K f) (zY (tC (.ty "int")) Z0)):=gP he (gP (Gp g d (v:=.ty "int") (u:=.type "int") Ui S) tL) (by rw[hs]<;>rfl);refine Ft (qG i hg m nD ha (by decide) (by decide) (by rw[hs]<;>rfl) S) λσ H Q h=>?_;obtain⟨H0,ρ,c,E,e,q⟩:=h;obtain⟨b,eb,e⟩:=AT e;split at e
 ·cases e
 rename_i o;cases e;exact⟨H0,ρ,b,E,eb,λv H1 j w a=>⟨b,v,rfl,a,by simpa using o,q _ _ j trivial Hr⟩⟩⟩
def qJ:Dt->Bool
 |.str _=>true
 |_=>false
theorem hV(I:L2.AU X AN σ H s){x:V}{v:A0}{Q:VK}(f:iW X.K H d x)(g:Au x v)(q:Q (.bl (qJ d)) H):A7 (A8 X.prog X.w) X.A (call (.builtin "isinstance") [v,.type "str"]) (EP X AN σ Q) X.xe s:=by
 cases d with
 |non=>simp only[iW,AW]at f;subst f;cases g;exact IsiPair.NoneType_str ⟨.bl _,H,I.tok _,rfl,q⟩
 |bl b=>simp only[iW,AW]at f;subst f;cases g;exact IsiPair.bool_str ⟨.bl _,H,I.tok _,rfl,q⟩
 |int b=>simp only[iW,AW]at f;subst f;obtain⟨t,rfl⟩:=g;exact IsiPair.int_str ⟨.bl _,H,I.tok _,rfl,q⟩
 |str b=>simp only[iW,AW]at f;obtain⟨rfl,_⟩:=f;obtain⟨t,rfl⟩:=g;exact IsiPair.str_str ⟨.bl _,H,I,rfl,q⟩
 |tup ds=>simp only[iW,AW]at f;obtain⟨a,vs,rfl,sq,_⟩:=f;cases g;obtain⟨_,_,p,_⟩:=I.tuple sq;exact IsiPair.isTuple_str p (λ_ _ e=>e) ⟨.bl _,H,I.tok _,rfl,q⟩
 |lst ds=>simp only[iW]at f;obtain⟨a,vs,rfl,sq,_⟩:=f;cases g;obtain⟨_,_,p,_⟩:=I.list sq;exact IsiPair.isList_str p.isList (λ_ _ e=>e) ⟨.bl _,H,I.tok _,rfl,q⟩
 |emp=>simp only[iW,AW]at f;obtain⟨a,o,rfl,sq⟩:=f;cases g;obtain⟨h,e,c⟩:=rM I sq;exact IsiPair.dict_str e c ⟨.bl _,H,I.tok _,rfl,q⟩
theorem Ul{p:Pos}(he:QV X e f)(hg:Gl X "isinstance")(m:X.mg "isinstance"=Y)(g:Gl X "str")(d:X.mg "str"=Y)(hs:A9 [e,.Name "str" p2] X.env=[(false,eval e X.env),(false,eval (.Name "str" p2) X.env)]:=by rfl):QV X (.Call (.Name "isinstance" p) [e,.Name "str" p2] [] pos) (b1 (λb=>if mD b=true then Y else U (.z (.bl (qJ (toD b))))) f):=⟨by
 have he:=he.run;have i:fZ X (.builtin "isinstance") (λxs H Q=>∃b x,xs=[x,.ty "str"]/\aX X.K H b x/\mD b=false/\Q (.bl (qJ (toD b))) H):=by
  intro AN s σ H xs us Q I r h;obtain⟨b,x,rfl,n,t,q⟩:=h;obtain⟨u,y,rfl,a,l⟩:=CD r;cases l;exact hV I (n.toD t) a q
 have ha:PA X [e,.Name "str" p2] (zY (tF X.K f) (zY (tC (.ty "str")) Z0)):=gP he (gP (Gp g d (v:=.ty "str") (u:=.type "str") bP S) tL) (by rw[hs]<;>rfl);refine Ft (qG i hg m nD ha (by decide) (by decide) (by rw[hs]<;>rfl) S) λσ H Q h=>?_;obtain⟨H0,ρ,c,E,e,q⟩:=h;obtain⟨b,eb,e⟩:=AT e;split at e
 ·cases e
 rename_i o;cases e;exact⟨H0,ρ,b,E,eb,λv H1 j w a=>⟨b,v,rfl,a,by simpa using o,q _ _ j trivial Hr⟩⟩⟩
def B4:Dt->Bool
 |.tup _=>true
 |_=>false
theorem Yk(I:L2.AU X AN σ H s){x:V}{v:A0}{Q:VK}(f:iW X.K H d x)(g:Au x v)(q:Q (.bl (B4 d)) H):A7 (A8 X.prog X.w) X.A (call (.builtin "isinstance") [v,.type "tuple"]) (EP X AN σ Q) X.xe s:=by
 cases d with
 |non=>simp only[iW,AW]at f;subst f;cases g;exact IsiPair.NoneType_tuple ⟨.bl _,H,I.tok _,rfl,q⟩
 |bl b=>simp only[iW,AW]at f;subst f;cases g;exact IsiPair.bool_tuple ⟨.bl _,H,I.tok _,rfl,q⟩
 |int b=>simp only[iW,AW]at f;subst f;obtain⟨t,rfl⟩:=g;exact IsiPair.int_tuple ⟨.bl _,H,I.tok _,rfl,q⟩
 |str b=>simp only[iW,AW]at f;obtain⟨rfl,_⟩:=f;obtain⟨t,rfl⟩:=g;exact IsiPair.str_tuple ⟨.bl _,H,I.tok _,rfl,q⟩
 |tup ds=>simp only[iW,AW]at f;obtain⟨a,vs,rfl,sq,_⟩:=f;cases g;obtain⟨_,_,p,_⟩:=I.tuple sq;exact IsiPair.isTuple_tuple p (λ_ _ e=>e) ⟨.bl _,H,I,rfl,q⟩
 |lst ds=>simp only[iW]at f;obtain⟨a,vs,rfl,sq,_⟩:=f;cases g;obtain⟨_,_,p,_⟩:=I.list sq;exact IsiPair.isList_tuple p.isList (λ_ _ e=>e) ⟨.bl _,H,I.tok _,rfl,q⟩
 |emp=>simp only[iW,AW]at f;obtain⟨a,o,rfl,sq⟩:=f;cases g;obtain⟨h,e,c⟩:=rM I sq;exact IsiPair.dict_tuple e c ⟨.bl _,H,I.tok _,rfl,q⟩
theorem NQ{p:Pos}(he:QV X e f)(hg:Gl X "isinstance")(m:X.mg "isinstance"=Y)(g:Gl X "tuple")(d:X.mg "tuple"=Y)(hs:A9 [e,.Name "tuple" p2] X.env=[(false,eval e X.env),(false,eval (.Name "tuple" p2) X.env)]:=by rfl):QV X (.Call (.Name "isinstance" p) [e,.Name "tuple" p2] [] pos) (b1 (λb=>if mD b=true then Y else U (.z (.bl (B4 (toD b))))) f):=⟨by
 have he:=he.run;have i:fZ X (.builtin "isinstance") (λxs H Q=>∃b x,xs=[x,.ty "tuple"]/\aX X.K H b x/\mD b=false/\Q (.bl (B4 (toD b))) H):=by
  intro AN s σ H xs us Q I r h;obtain⟨b,x,rfl,n,t,q⟩:=h;obtain⟨u,y,rfl,a,l⟩:=CD r;cases l;exact Yk I (n.toD t) a q
 have ha:PA X [e,.Name "tuple" p2] (zY (tF X.K f) (zY (tC (.ty "tuple")) Z0)):=gP he (gP (Gp g d (v:=.ty "tuple") (u:=.type "tuple") nY S) tL) (by rw[hs]<;>rfl);refine Ft (qG i hg m nD ha (by decide) (by decide) (by rw[hs]<;>rfl) S) λσ H Q h=>?_;obtain⟨H0,ρ,c,E,e,q⟩:=h;obtain⟨b,eb,e⟩:=AT e;split at e
 ·cases e
 rename_i o;cases e;exact⟨H0,ρ,b,E,eb,λv H1 j w a=>⟨b,v,rfl,a,by simpa using o,q _ _ j trivial Hr⟩⟩⟩
def eR(K:B1)(f:Ev->O (O Int)):TO:=λσ H Q=>∃H0 ρ o,bZ K H0 H σ ρ/\f ρ=U o/\∀H',AV H H'->Q o H'
def f7(X:Cx)(e:O Expr)(f:Ev->O (O Int)):Prop:=PO X e (eR X.K f)
structure Fk (X:Cx) (e:Option Expr) (f:Ev->Option (Option Int)):Prop where
 run:f7 X e f
theorem Mb{e:O Expr}{t t':TO}(h:PO X e t)(m:∀ σ H Q,t' σ H Q->t σ H Q):PO X e t':=λAN s σ H Q I q=>h AN s σ H Q I (m σ H Q q)
def wY:Ev->O (O Int):=λ_=>U Y
theorem uq  :Fk X Y wY:=⟨Mb ah λσ H Q h=>by
 obtain⟨H0,ρ,o,E,e,q⟩:=h;cases e;exact q H (AV.refl H)⟩
def IN:Bx->O (O Int)
 |.z (.int i)=>U (U i)
 |_=>Y
def Ao(f:Ev->O Bx):Ev->O (O Int):=λρ=>(f ρ).bind IN
theorem ur(h:QV X e f):Fk X (U e) (Ao f):=⟨have h:=h.run;Mb (i7 h) λσ H Q q=>by
 obtain⟨H0,ρ,o,E,e,q⟩:=q;obtain⟨b,eb,e⟩:=AT e;refine⟨H0,ρ,b,E,eb,λv H1 c d a=>?_⟩;unfold IN at e;split at e
 ·rename_i i;cases e;exact⟨i,Ny a,q H1 c⟩
 ·cases e⟩
def C0(xs:Z Dt)(lo hi:O Int):Z Dt:=(xs.drop (HT.jy xs.length 0 lo)).take (HT.jy xs.length xs.length hi-HT.jy xs.length 0 lo)
theorem QX(r:aO K H ds vs)(lo hi:O Int):aO K H (C0 ds lo hi) (Qo vs lo hi):=by
 unfold C0 Qo;rw[r.length];exact(r.drop _).take _
theorem eP(ds:Z Dt)(h1:HT.jy ds.length 0 lo=0)(h2:HT.jy ds.length ds.length hi=ds.length):C0 ds lo hi=ds:=by
 unfold C0;rw[h1,h2];simp
theorem Aq{t sl:A1}{b c:A0}{Q:BA}(a:IsTup s.heap t items)(hs:s.heap.IsSliceOf sl b c .none)(pl:IsPart b lo)(i:IsPart c hi)(h1:HT.jy items.size 0 lo=0)(h2:HT.jy items.size items.size hi=items.size)(h:Q (.ref t) s):A7 (A8 prog w) A (getItem (.ref t) (.ref sl)) Q E s:=by
 obtain⟨os,g,e,j⟩:=id hs;have d:s.TypeIs (.ref sl) "slice":=⟨os,g,e⟩;unfold getItem
 try with_reducible refine QQ ?_
 first|refine zb (ze ?_)|skip
 refine zb (wpAny_sequenceKey a.typeIs (by decide) ?_);refine zb (yi (name:=Str.ofString "__getitem__") a.typeIs PyProof.Rows.slot_tuple_getitem
  (kg PyProof.Rows.slot_tuple_getitem a.typeIs entry_tuple_getitem ?_ (args_tuple_getitem _ _)))
 show A7 _ _ (Builtin.Tuple.tupleItemsOf (.ref t) >>= _) _ _ s;refine zb (tupleItemsOf_ a ?_);refine zb (QR d ?_);rw[zk (by decide)];refine zb (HT.uc hs pl i ?_);have f:(((HT.jy items.size 0 lo:Nat):Int)==0&&(1:Int)==1&&(HT.jy items.size items.size hi-HT.jy items.size 0 lo)==items.size)=true:=by
  rw[h1,h2];simp
 show A7 _ _ (if(((HT.jy items.size 0 lo:Nat):Int)==0&&(1:Int)==1&&(HT.jy items.size items.size hi-HT.jy items.size 0 lo)==items.size)=true then _ else _) _ _ s;rw[zk f]
 first
  |refine zb (zb (QR a.typeIs (ze ?_)))
  |refine zb (QR a.typeIs (zb (ze ?_)))
  |refine zb (QR a.typeIs ?_)
 rw[zk (by decide)]
 first
  |exact zb (k8 (ze ⟨_,rfl,ze h⟩))
  |exact zb (k8 (zb (ze (ze ⟨_,rfl,ze h⟩))))
def EL(b:Bx)(lo hi:O Int):O Bx:=match b with
 |.z (.str x)=>U (.z (.str (Txt.slice x lo hi)))
 |.z (.tup ds)=>U (.z (.tup (C0 ds lo hi)))
 |b=>(rG b).bind λds=>U (.o (C0 ds lo hi))
def Re(K:B1):V->O Int->O Int->Hp->VK->Prop:=λx lo hi H Q=>∃b c,aX K H b x/\EL b lo hi=U c/\∀w H',AV H H'->Nw H c w->aX K H' c w->Q w H'
theorem aw:GL X (Re X.K):=by
 intro AN s σ H x v C G lo hi sl Q I m hs pl f h;obtain⟨b,c,n,e,q⟩:=h;unfold EL at e;split at e
 ·rename_i y;cases e;obtain⟨rfl,g⟩:=Yj n;obtain⟨t,rfl⟩:=m;refine⟨"str", _,F.slot_str_getitem.lookup,typeIs_str _ _ _,?_⟩;obtain⟨o,e1,e2,e3⟩:=hs;have w:∀A k,EP X AN σ Q (.str (Txt.slice y lo hi) A) { s with toks:=k }:=λA k=>⟨.str _,H,I.tok _,⟨_,rfl⟩,q _ H (AV.refl H) trivial (Ff (ZA (Txt.slice_le y _ _) g))⟩;cases pl with
  |none=>
   cases f with
   |none=>exact kP (l:=Y) (u:=Y) (st:=Y) ⟨o,e1,e2,e3⟩ S (post_val_or_str ⟨ZA (Txt.slice_le y _ _) g,w⟩)
   |int j z=>exact kP (l:=Y) (u:=U (j,z)) (st:=Y) ⟨o,e1,e2,e3⟩ S (post_val_or_str ⟨ZA (Txt.slice_le y _ _) g,w⟩)
  |int i E=>
   cases f with
   |none=>exact kP (l:=U (i,E)) (u:=Y) (st:=Y) ⟨o,e1,e2,e3⟩ S (post_val_or_str ⟨ZA (Txt.slice_le y _ _) g,w⟩)
   |int j z=>exact kP (l:=U (i,E)) (u:=U (j,z)) (st:=Y) ⟨o,e1,e2,e3⟩ S (post_val_or_str ⟨ZA (Txt.slice_le y _ _) g,w⟩)
 ·rename_i ds;cases e;obtain⟨a,vs,rfl,sq,rs⟩:=GB n;by_cases d:HT.jy vs.length 0 lo=0/\HT.jy vs.length vs.length hi=vs.length
  ·cases m;obtain⟨AQ,r,D,L⟩:=I.tuple sq;have B:AQ.toArray.size=vs.length:=by rw[zC];exact r.length.symm
   refine⟨"tuple", _,PyProof.Rows.slot_tuple_getitem.lookup,D.typeIs,Aq D hs pl f (by rw[B];exact d.1) (by rw[B];exact d.2) ⟨.ref a,H,I,rfl,q _ H (AV.refl H) trivial ?_⟩⟩;rw[eP ds (by rw[<-rs.length];exact d.1) (by rw[<-rs.length];exact d.2)];exact n
  ·refine a9 AN s σ H _ v C G lo hi sl Q I m hs pl f ⟨a,vs,rfl,sq,d,λp hp=>q _ _ (cG hp) trivial ?_⟩;unfold aX AW;exact⟨p,_,rfl,.inl (.inl bV),(QX rs lo hi).kp (.of (cG hp))⟩
 ·obtain⟨ds,J,e⟩:=AT e;cases e;obtain⟨a,vs,rfl,sq,rs⟩:=n.J2 J;exact P9 AN s σ H _ v C G lo hi sl Q I m hs pl f ⟨a,vs,rfl,sq,λp hp=>q _ _ (cG hp) (λa ea=>by cases ea;exact hp) ⟨p,_,rfl,bV,(QX rs lo hi).kp (.of (cG hp))⟩⟩
def Um(f:Ev->O Bx)(fl fh:Ev->O (O Int)):Ev->O Bx:=λρ=>(f ρ).bind λb=>(fl ρ).bind λlo=>(fh ρ).bind λhi=>EL b lo hi
theorem Ln{lo hi:O Expr}{fl fh:Ev->O (O Int)}(he:QV X e f)(i:Fk X lo fl)(a:Fk X hi fh):QV X (.Subscript e (.Slice lo hi Y p2) pos) (Um f fl fh):=⟨have he:=he.run;have i:=i.run;have a:=a.run;Ft (Z2 aw he i a) λσ H Q h=>by
 obtain⟨H0,ρ,c,E,e,q⟩:=h;obtain⟨b,eb,e⟩:=AT e;obtain⟨lo,el,e⟩:=AT e;obtain⟨hi,t,e⟩:=AT e;refine⟨H0,ρ,b,E,eb,λv H1 g u m=>⟨H0,ρ,lo,E.grow g,el,λH2 d=>⟨H0,ρ,hi,E.grow (g.trans d),t,λx l=>?_⟩⟩⟩;have j:=(g.trans d).trans l;exact⟨b,c,(m.same d).same l,e,λw p s o n=>q w p (j.trans s) (o.old j) n⟩⟩
def qK:Z Bx->O Bx
 |[.z (.str x)]=>U (.z (.int x.length))
 |[b]=>(uo b).bind λds=>U (.z (.int ds.length))
 |_=>Y
theorem BS(r:ud K H [b] vs):∃v,vs=[v]/\aX K H b v:=by
 cases r with
 |cons p t=>cases t;exact⟨_,rfl,p⟩
theorem ER{c:Bx}(r:ud K H [b,c] vs):∃v u,vs=[v,u]/\aX K H b v/\aX K H c u:=by
 cases r with
 |cons p t=>
  cases t with
  |cons p' a=>cases a;exact⟨_,_,rfl,p,p'⟩
theorem mK:uf X (.builtin "len") qK:=fZ.imp (Np.or Nq) λxs H Q q=>by
 obtain⟨bs,c,b,e,q⟩:=q;unfold qK at e;split at e
 ·rename_i x;cases e;obtain⟨v,rfl,a⟩:=BS b;obtain⟨rfl,hx⟩:=Yj a;exact .inr ⟨x,rfl,hx,q _ H (AV.refl H) trivial FJ⟩
 ·obtain⟨ds,d,e⟩:=AT e;cases e;obtain⟨v,rfl,a⟩:=BS b;obtain⟨p,vs,rfl,sq,rs⟩:=Am a d;exact .inl ⟨p,vs,rfl,sq,by rw[rs.length];exact q _ H (AV.refl H) trivial FJ⟩
 ·cases e
def ES:Z Bx->O Bx
 |[.z (.int i)]=>U (.z (.int (if i<0 then -i else i)))
 |_=>Y
theorem UV:uf X (.builtin "abs") ES:=fZ.imp ZX λxs H Q q=>by
 obtain⟨bs,c,b,e,q⟩:=q;unfold ES at e;split at e
 ·rename_i i;cases e;obtain⟨v,rfl,a⟩:=BS b;have:=Ny a;subst this;exact⟨i,rfl,q _ H (AV.refl H) trivial FJ⟩
 ·cases e
def Yl:Z Bx->O Bx
 |[.z (.int i)]=>U (.z (.int i))
 |[.z (.bl k)]=>U (.z (.int (if k then 1 else 0)))
 |_=>Y
theorem NS:uf X (.type "int") Yl:=fZ.imp XS λxs H Q q=>by
 obtain⟨bs,c,b,e,q⟩:=q;unfold Yl at e;split at e
 ·rename_i i;cases e;obtain⟨v,rfl,a⟩:=BS b;have:=Ny a;subst this;exact .inl ⟨i,rfl,q _ H (AV.refl H) trivial FJ⟩
 ·rename_i k;cases e;obtain⟨v,rfl,a⟩:=BS b;simp only[aX,AW]at a;subst a;exact .inr ⟨k,rfl,q _ H (AV.refl H) trivial FJ⟩
 ·cases e
def lK:Z Bx->O Bx
 |[b]=>(uo b).bind λds=>U (.z (.tup ds))
 |_=>Y
theorem qL:uf X (.type "tuple") lK:=fZ.imp J1 λxs H Q q=>by
 obtain⟨bs,c,d,e,q⟩:=q;unfold lK at e;split at e
 ·obtain⟨ds,f,e⟩:=AT e;cases e;obtain⟨v,rfl,b⟩:=BS d;obtain⟨p,vs,rfl,sq,rs⟩:=Am b f;refine⟨p,vs,rfl,?_⟩;rcases sq with sq|sq
  ·refine .inl ⟨sq,λl a=>q _ _ (cG a) trivial ?_⟩;unfold aX AW;exact⟨l,vs,rfl,.inl (.inl bV),rs.kp (.of (cG a))⟩
  ·refine .inr ⟨sq,q _ H (AV.refl H) trivial ?_⟩;unfold aX AW;exact⟨p,vs,rfl,sq,rs⟩
 ·cases e
def Lq:Z Dt->O (Z Bool)
 |[]=>U []
 |.bl b::ds=>(Lq ds).bind λbs=>U (b::bs)
 |_=>Y
theorem Hv{K:B1}{H:Hp}:∀{ds:Z Dt} {bs:Z Bool} {vs:Z V} {us:Z A0},Lq ds=U bs->aO K H ds vs->AX vs us->us=bs.map Value.bool
 |[],_,_,_,e,r,w=>by
  cases e;simp only[aO]at r;subst r;cases w;rfl
 |d::ds,_,_,_,e,r,w=>by
  simp only[aO]at r;obtain⟨v,a,rfl,h1,h2⟩:=r;cases d<;>first|(cases e;done)|skip;simp only[Lq]at e;obtain⟨bs,e1,e⟩:=AT e;cases e;simp only[AW]at h1;subst h1;cases w with
  |cons p t=>
   cases p;rw[Hv e1 h2 t];rfl
theorem CM(bs:Z Bool):((List.range bs.length).all λi=>bs.getD i false)=bs.all id:=by
 rw[JU,qh,qh];constructor
 ·intro h b hb;obtain⟨i,hi,rfl⟩:=List.mem_iff_getElem.mp hb;have:=h i (by simpa using hi);simpa[List.getD,hi]using this
 ·intro h i hi;have hi:i<bs.length:=by simpa using hi
  have:=h bs[i] (yf hi);simpa[List.getD,hi]using this
def CS:Z Bx->O Bx
 |[b]=>(rG b).bind λds=>(Lq ds).bind λbs=>U (.z (.bl (bs.all id)))
 |_=>Y
theorem QZ(bs:Z Bool):TruthOf prog w A (λi v=>(bs.map Value.bool).toArray[i]?=U v) λi=>bs.getD i false:=λi v s Q E h q=>by
 have h':(bs.map Value.bool)[i]?=U v:=by simpa using h
 rw[Zp]at h';cases e:bs[i]? with
 |none=>rw[e]at h';cases h'
 |some b=>
  rw[e]at h';cases h';have:bs.getD i false=b:=by simp[List.getD,e]
  have a:Q b s:=by rw[<-this];exact q
  exact ja a
theorem We(l:X.calm=true):uf X (.builtin "all") CS:=by
 intro AN s σ H xs us Q I r h;obtain⟨bs,c,y,e,q⟩:=h;unfold CS at e;split at e
 ·obtain⟨ds,p,e⟩:=AT e;obtain⟨ks,ek,e⟩:=AT e;cases e;obtain⟨v,rfl,f⟩:=BS y;obtain⟨a,vs,rfl,sq,rs⟩:=f.J2 p;obtain⟨u,rfl,t⟩:=BE r;cases t;obtain⟨AQ,w,pl,C⟩:=I.list sq;have d:=Hv ek rs w;have B:a<s.heap.objs.size:=by obtain⟨o,n,e,_⟩:=pl;exact zz e
  refine call_all_walk (wpAny_pyIter_list pl.isList ?_);refine⟨s.heap.objs.size,_,_,_,_,_,λi=>ks.getD i false,rfl,Walks.list (by show X.A.handled=Y;exact I.ok.hd l) s.heap.objs.size a (zS B) AQ.toArray,⟨⟨_,zv _ rfl,rfl,rfl⟩,pl.isList.push _⟩,?_,λh' tk k=>?_⟩
  ·rw[d];exact QZ ks
  ·have z:AQ.toArray.size=ks.length:=by rw[d];simp
   rw[z,CM];have x:L2.AU X AN σ H { s with heap:=s.heap.push { cls:=.type "list_iterator",data:=.fields #[.ref a,.int 0 0] } }:=I.kept (t':=s.toks) λb o e=>zd _ e;refine⟨.bl _,H,?_,rfl,q _ H (AV.refl H) trivial Hr⟩;obtain⟨f0,f1,f2,g,j,m⟩:=I.ZP (b:=s.heap.objs.size) (H':=H) (zo _) (I.hok.fresh (zo _));exact x.turned (it:=s.heap.objs.size) (λb o hb e=>k b o (by simpa using hb) e) f0 f1 g j m
 ·cases e
end P1
namespace P1
open L2
def gv(i:Nat):Ev->O Bx:=λρ=>zp ρ i
def pN(g:Bx->Bx->O Bx)(fa fb:Ev->O Bx):Ev->O Bool:=λρ=>(b2 g fa fb ρ).bind Hg
def tV(f:Ev->O Bx):Ev->O Bool:=λρ=>(f ρ).bind FH
def aJ:Ev->O (Z Bx):=λ_=>U []
def Lr(p:Dt->Bool)(f:Ev->O Bx):Ev->O Bx:=b1 (λb=>if mD b=true then Y else U (.z (.bl (p (toD b))))) f
def dU:Ev->O As:=λρ=>U (.nx ρ)
def fG(f:Ev->O Bx):Ev->O As:=λρ=>(f ρ).bind EU
def B0(i:Nat)(f:Ev->O Bx):Ev->O As:=λρ=>(f ρ).bind λb=>(Yd ρ i b).bind λa=>U (.nx a)
def Q0(gt:Dt->Ev->O Ev)(f:Ev->O Bx):Ev->O As:=λρ=>(f ρ).bind λb=>match b with|.z d=>(gt d ρ).bind λa=>U (.nx a)|_=>Y
def FR(i j:Nat)(fs:Ev->O (Z Bx)):Ev->O As:=λρ=>(fs ρ).bind (GI i j ρ)
def J6(i:Nat)(f:Ev->O Bx):Ev->O As:=λρ=>(f ρ).bind (Fm ρ i)
def rH(fi:Ev->O (Z Dt))(gt:Dt->Ev->O Ev)(gb:Ev->O As):Ev->O As:=λρ=>(fi ρ).bind λds=>uh gt gb ds ρ
def D4(f:Ev->O Bx):Ev->O (Z Dt):=λρ=>(f ρ).bind EV
def Hw(f:Ev->O Bx):Ev->O (Z Dt):=λρ=>(f ρ).bind F2
def Zv(fs:Ev->O (Z Bx)):Ev->O (Z Dt):=λρ=>(fs ρ).bind L0
def jd(i:Nat):Dt->Ev->O Ev:=λd ρ=>U (ρ.set i (U (.z d)))
def FN:Ev->O Bool:=λ_=>U true
theorem kJ:Dc X [] FN:=⟨.inl ⟨rfl,rfl⟩⟩
theorem eE(h:QB X c p):Dc X [c] p:=⟨have h:=h.run;.inr ⟨c,rfl,h⟩⟩
theorem SR:J4 X scope cl [] []:=trivial
theorem WV{xs:AZ}(n:X.N[i]?=U x)(k:X.env.kindOf x=U .cell\/X.env.kindOf x=U .free)(a:(relabel scope X.env).names.lookup x=U .cell\/(relabel scope X.env).names.lookup x=U .free)(c:∃c,cl.lookup x=U c)(r:J4 X scope cl xs is):J4 X scope cl (x::xs) (i::is):=⟨⟨n,k,a,c⟩,r⟩
theorem mem_of_lookup{a:Z (AJ×NameKind)}{x:AJ}{k:NameKind}:a.lookup x=U k->(x,k)∈a:=ke
theorem R1{xs:AZ}(clos:closureFor scope X.env=pure cl)(kind:scope.kind=.function)(cell:scope.names.all (λy=>decide (y.2≠.cell)||(cl.lookup y.1).isNone)=true)(names:scope.names.all (λy=>decide (y.2=.local->scope.names.lookup y.1=U .local))=true)(sub:C8 X.env.cells cl)(has:(relabel scope X.env).names.all (λy=>!(y.2==.cell||y.2==.free)||(cl.lookup y.1).isSome||scope.names.contains (y.1,.cell))=true)(cap:J4 X scope cl xs is):uN X scope cl xs is where
 clos:=clos
 kind:=kind
 cell:=λy a b=>by
  have:=List.all_eq_true.mp cell y a;simp only[b,ne_eq,not_true_eq_false,kC,Bool.false_or,Option.isNone_iff_eq_none]at this;exact this
 names:=λy a=>QN (List.all_eq_true.mp names y a)
 sub:=sub
 has:=λx hx=>by
  have h:∃k,(relabel scope X.env).names.lookup x=U k/\(k==NameKind.cell||k==NameKind.free)=true:=by
   rcases hx with hx|hx
   ·exact⟨_,hx,rfl⟩
   ·exact⟨_,hx,rfl⟩
  obtain⟨k,e,c⟩:=h;have:=List.all_eq_true.mp has _ (mem_of_lookup e);simp only[c,ky,Bool.false_or,Bool.or_eq_true]at this;rcases this with h|h
  ·exact .inr (Option.isSome_iff_exists.mp h)
  ·exact .inl (List.contains_iff_mem.mp h)
 cap:=cap
theorem Wq{k:Nat}(r:nR k A):A.units+100<cLine:=by have:=r.un;omega
theorem XW{F:Z Bx->O Bx}(h:∀b:Z Int,b.length<=63->F [.z (.lst (b.map .int))]=U (.z (.bl true)))(i:∀b:Z Int,b.length<=63->F [.l (b.map .int)]=U (.z (.bl true)))(K:B1)(H:Hp)(a:A1)(b:Z Int)(f:b.length<=63)(_:CY H)(d:wJ K H a (b.map V.int)):
  Dx K 1 F [.ref a] H (λv _=>v=.bl true) λ_ _ _=>False:=by
 have rs:∀c:Z Int,aO K H (c.map Dt.int) (c.map V.int):=λc=>by
  induction c with
  |nil=>exact aO.nil
  |cons m c g=>exact aO.cons (by unfold AW;rfl) g
 have e:∀v (H':Hp),AV H H'->Nw H (.z (.bl true)) v->aX K H' (.z (.bl true)) v->v=.bl true:=λv H' _ _ r=>by simpa only[aX,AW]using r
 rcases d with d|d
 ·exact⟨rfl,[.l (b.map .int)],_,.cons ⟨a,_,rfl,d,rs b⟩ .nil,rfl,i b f,e⟩
 ·refine⟨rfl,[.z (.lst (b.map .int))],_,.cons ?_ .nil,rfl,h b f,e⟩;unfold aX AW;exact⟨a,_,rfl,.inr d,rs b⟩
theorem SD{st:AB}{f:A1}{k m:Nat}(F:Cs K x qual st f fd)(S:bx N ps (aK st))(d:N.length=n)(c:ps.length=m)(b:∀(a:A0) (A:A5) (outer:Z Env) (s:A2) (H:Hp) (E:XK),nR k (A.deeper (AK qual (aK st) s.heap.objs.size f a))->Zr (G7 Nt P w K mg base N qual (aK st) f a A outer s H E).nox (jz st) g):
  wM P w K mg base Nt (k+1) f fd ps (Dx K m (cX n g)):=by
 subst d c;exact cr F S b
section
variable{st:Expr}{fs:Ev->O Bx}
theorem NT{α β:Type}{f:α->O β}{g:α->β}:∀l:Z α,(∀a∈l,f a=U (g a))->l.filterMap f=l.map g
 |[],_=>rfl
 |a::l,h=>by
  rw[kL,h a (zg ..),zr,NT l λb hb=>h b (zi _ hb)]
theorem aO.rev{K:B1}{H:Hp}:∀{ds:Z Dt} {vs:Z V},aO K H ds vs->aO K H ds.reverse vs.reverse
 |[],_,h=>by simp only[aO]at h;subst h;exact aO.nil
 |d::ds,_,h=>by
  simp only[aO]at h;obtain⟨v,r,rfl,hd,a⟩:=h;rw[kA,kA];exact aO.append (aO.rev a) (aO.cons hd aO.nil)
end
def D3:Bx->Bx->O Bx
 |.z (.int i),.z (.int j)=>U (.z (.bl (decide (i<j))))
 |.z (.str x),.z (.str y)=>U (.z (.bl (decide (x.cps.toList<y.cps.toList))))
 |_,_=>Y
theorem Uo:Fv X (AG .Lt) D3:=by
 intro AN s σ H x y v u Q I d l h;obtain⟨a,b,c,f,g,e,q⟩:=h;unfold D3 at e;split at e
 ·rename_i i j;cases e;exact Z' AN s σ H x y v u Q I d l ⟨i,j,Ny f,Ny g,q _ H (AV.refl H) trivial (by unfold aX;exact EQ)⟩
 ·rename_i i j;cases e;obtain⟨rfl,_⟩:=Yj f;obtain⟨rfl,_⟩:=Yj g;obtain⟨t,rfl⟩:=d;obtain⟨m,rfl⟩:=l;exact PySem.P.lt_str ⟨.bl _,H,I,rfl,q _ H (AV.refl H) trivial (by unfold aX;exact EQ)⟩
 ·cases e
def Hx:Z Dt->O AZ
 |[]=>U []
 |.str x::r=>(Hx r).bind λys=>U (x::ys)
 |_=>Y
theorem Dk{K:B1}{H:Hp}:∀{ds:Z Dt} {vs:Z V} {ys:AZ},aO K H ds vs->Hx ds=U ys->vs=ys.map V.str/\∀y∈ys,y.length<=AA
 |[],_,_,h,e=>by cases e;simp only[aO]at h;subst h;exact⟨rfl,λy a=>by cases a⟩
 |.str x::ds,_,_,h,e=>by
  simp only[Hx]at e;obtain⟨ys,e1,e2⟩:=AT e;cases e2;simp only[aO]at h;obtain⟨v,r,rfl,hd,b⟩:=h;obtain⟨rfl,hx⟩:v=.str x/\x.length<=AA:=by simpa only[AW]using hd
  obtain⟨rfl,h2⟩:=Dk b e1;refine⟨rfl,λy a=>?_⟩;rcases List.mem_cons.mp a with rfl|a
  ·exact hx
  ·exact h2 y a
 |.non::_,_,_,_,e=>by cases e
 |.bl _::_,_,_,_,e=>by cases e
 |.int _::_,_,_,_,e=>by cases e
 |.tup _::_,_,_,_,e=>by cases e
 |.lst _::_,_,_,_,e=>by cases e
 |.emp::_,_,_,_,e=>by cases e
theorem Hy{K:B1}{H:Hp}:∀{ys:AZ},(∀y∈ys,y.length<=AA)->aO K H (ys.map Dt.str) (ys.map V.str)
 |[],_=>aO.nil
 |y::ys,h=>aO.cons (by unfold AW;exact⟨rfl,h y (zg ..)⟩) (Hy λz a=>h z (zi _ a))
theorem zx:∀{ys:AZ} {AQ:Z A0},AX (ys.map V.str) AQ->StrsAre AQ ys
 |[],_,h=>by cases h;exact .nil
 |y::ys,_,h=>by
  cases h with
  |cons r t=>
   obtain⟨tk,rfl⟩:=r;exact .cons y tk (zx t)
theorem Dl:∀{AQ:Z A0} {ys:AZ},StrsAre AQ ys->AX (ys.map V.str) AQ
 |_,_,.nil=>.nil
 |_,_,.cons y t h=>.cons ⟨t,rfl⟩ (Dl h)
theorem NZ:fZ X (.builtin "sorted") (λxs H Q=>∃p ys,xs=[.ref p]/\wJ X.K H p (ys.map V.str)/\ys.length<64/\∀l zs,H l=Y->zs.Perm ys->sortedS zs=true->Q (.ref l) (B6 H l (.lst (zs.map V.str)))):=by
 intro AN s σ H xs us Q I r h;obtain⟨p,ys,rfl,t,v,q⟩:=h;obtain⟨u,rfl,m⟩:=BE r;cases m;obtain⟨AQ,f,pl,d⟩:=I.list t;have g:=f.length;rw[zh]at g d;refine sorted_strs pl.isList (zx f) (by omega) λc zs hs hp j=>?_;obtain⟨n,i⟩:=sortedAll_at s.heap AQ c;refine⟨.ref (s.heap.objs.size+1),_,I.laid (t':=s.toks) (a:=s.heap.objs.size+1) (o:=.lst (zs.map V.str)) (λb o e=>sortedAll_old e) (Ki _) ?_,rfl,q _ zs (I.hok.fresh (Ki _)) hp j⟩;refine⟨by rw[zh,hp.length_eq];exact d,c.toList,n,Dl hs,?_⟩;rw[i]
def uO(a b:AJ):Prop:=ltCps b.cps.toList a.cps.toList=false
theorem Ar:∀(p:AJ) (l:AZ),risingS p l=true->(p::l).Pairwise uO
 |p,[],_=>by simp
 |p,x::r,h=>by
  have h':(!ltCps x.cps.toList p.cps.toList&&risingS x r)=true:=h;rw[ZY]at h';have c:=Ar x r h'.2;have hx:uO p x:=by simpa[uO]using h'.1
  refine List.pairwise_cons.mpr ⟨λy b=>?_,c⟩;rcases List.mem_cons.mp b with rfl|b
  ·exact hx
  ·have a:uO x y:=JO c b;unfold uO at hx a ⊢;rw[ltCps_eq]at hx a ⊢;simp only[Q3]at hx a ⊢;exact List.le_trans (α:=Nat) hx a
theorem N5{l:AZ}(h:sortedS l=true):l.Pairwise uO:=by
 cases l with
 |nil=>exact .nil
 |cons p l=>exact Ar p l h
theorem Av{a b:AJ}(h:uO a b)(h':uO b a):a=b:=by
 unfold uO at h h';rw[ltCps_eq]at h h';simp only[Q3]at h h';have:=List.le_antisymm (as:=a.cps.toList) (bs:=b.cps.toList) h h';cases a;cases b;simp only[Str.mk.injEq];exact Array.toList_inj.mp this
theorem N6:∀{l l':AZ},l.Perm l'->l.Pairwise uO->l'.Pairwise uO->l=l'
 |[],l',h,_,_=>by rw[List.nil_perm.mp h]
 |a::l,[],h,_,_=>by cases List.perm_nil.mp h
 |a::l,b::l',h,p,p'=>by
  have e:a=b:=by
   have ha:a∈b::l':=h.mem_iff.mp (zg ..);have hb:b∈a::l:=h.mem_iff.mpr (zg ..);rcases List.mem_cons.mp ha with h1|h1
   ·exact h1
   ·rcases List.mem_cons.mp hb with h2|h2
    ·exact h2.symm
    ·exact Av (JO p h2) (JO p' h1)
  subst e;rw[N6 ((List.perm_cons a).mp h) (List.pairwise_cons.mp p).2 (List.pairwise_cons.mp p').2]
def Ym(a b:AJ):Bool:=!ltCps b.cps.toList a.cps.toList
def qM(ys:AZ):AZ:=ys.mergeSort Ym
theorem jf(ys:AZ):(qM ys).Perm ys:=Kx ys Ym
theorem zy(ys:AZ):(qM ys).Pairwise uO:=by
 have h:=kQ (le:=Ym) (λa b c h1 h2=>by
  unfold Ym at *
  rw[ltCps_eq]at *
  simp only[QA,Q3]at *
  exact List.le_trans (α:=Nat) h1 h2) (λa b=>by
  unfold Ym;rw[ltCps_eq,ltCps_eq];simp only[Bool.or_eq_true,QA,Q3];exact List.le_total a.cps.toList b.cps.toList) ys
 exact h.imp λ{a b} hh=>by simpa[Ym,uO]using hh
theorem hW{ys zs:AZ}(hp:zs.Perm ys)(hs:sortedS zs=true):zs=qM ys:=N6 (hp.trans (jf ys).symm) (N5 hs) (zy ys)
def Hz:Z Bx->O Bx
 |[b]=>(rG b).bind λds=>(Hx ds).bind λys=>if ys.length<64 then U (.o ((qM ys).map Dt.str))else Y
 |_=>Y
theorem Ls:uf X (.builtin "sorted") Hz:=fZ.imp NZ λxs H Q q=>by
 obtain⟨bs,c,j,e,q⟩:=q;unfold Hz at e;split at e
 ·rename_i b;obtain⟨ds,g,e⟩:=AT e;obtain⟨ys,n,e⟩:=AT e;split at e
  ·rename_i i;cases e;obtain⟨v,rfl,f⟩:=BS j;obtain⟨p,vs,rfl,sq,rs⟩:=f.J2 g;obtain⟨rfl,m⟩:=Dk rs n;refine⟨p,ys,rfl,sq,i,λl zs d hp hs=>?_⟩;rw[hW hp hs];refine q _ _ (cG d) (λa ea=>by cases ea;exact d) ⟨l,_,rfl,bV,Hy λy h=>m y ((jf ys).mem_iff.mp h)⟩
  ·cases e
 ·cases e
def Q5(x:AJ)(b:Bx):O Bx:=(rG b).bind λds=>(Hx ds).bind λys=>if(ys.map (·.length)).sum+ys.length*x.length<=100000 then U (.z (.str (Txt.join x ys)))else Y
theorem a4:N4 X "str.join" (λx xs H Q=>∃y p ys,x=.str y/\xs=[.ref p]/\wJ X.K H p (ys.map V.str)/\(ys.map (·.length)).sum+ys.length*y.length<=100000/\Q (.str (Txt.join y ys)) H):=by
 intro AN s σ H x xs v us Q I a rs h;obtain⟨y,p,ys,rfl,rfl,sq,hb,q⟩:=h;obtain⟨t,rfl⟩:=a;obtain⟨u,rfl,b⟩:=BE rs;cases b;obtain⟨AQ,c,pl,e⟩:=I.list sq;exact join_list pl.isList (zx c) (by omega) λd k=>⟨.str _,H,I.tok _,⟨_,rfl⟩,q⟩
theorem Pp{p1:Pos}(h:QV X e f)(hx:x.length<=AA:=by decide)(s:attributeBase (.Constant (.str x) j p1) "join" X.env (eval (.Constant (.str x) j p1) X.env)=eval (.Constant (.str x) j p1) X.env:=by rfl)(g:((AD cpos (A9 [e] X.env)).all (λx=>!x.1)&&(backToKw cpos (keywordEach [] X.env)).all (λx=>x.1.isSome)&&decide ([e].length+([]:Z AC).length+(if([]:Z AC).isEmpty then 0 else 1)<30))=true:=by rfl)(t:(apos.endLine==cpos.line)=true:=by rfl)(hs:A9 [e] X.env=(false,eval e X.env)::A9 [] X.env:=by rfl):QV X (.Call (.Attribute (.Constant (.str x) j p1) "join" apos) [e] [] cpos) (b1 (Q5 x) f):=⟨have h:=h.run;Ft (Z5 (T :="str") F.plainAttrs_str F.slot_str_join F.type_str_join a4 (Ll (hx:=hx)) (Qy h Wf hs) s g t hs S) λσ H Q q=>by
  obtain⟨H0,ρ,c,E,e,q⟩:=q;obtain⟨a,ea,e⟩:=AT e;refine⟨H0,ρ,_,E,rfl,λv H1 b u d=>?_⟩;obtain⟨rfl,z⟩:v=.str x/\x.length<=AA:=by simpa only[aX,AW]using d
  refine⟨rfl,H0,ρ,[a],E.grow b,by simp only[aq,ea,Option.bind_some],λvs H2 i m=>?_⟩;obtain⟨w,rfl,n⟩:=BS m;unfold Q5 at e;obtain⟨ds,l,e⟩:=AT e;obtain⟨ys,o,e⟩:=AT e;split at e
  ·rename_i hb;cases e;obtain⟨p,y,rfl,sq,rs⟩:=n.J2 l;obtain⟨rfl,A⟩:=Dk rs o;refine⟨x,p,ys,rfl,rfl,sq,hb,q _ _ (b.trans i) trivial ?_⟩;unfold aX AW;exact⟨rfl,joinOk_length (joinOk_of (by omega))⟩
  ·cases e⟩
def J7:Z Bx->O Bx
 |[.z (.int a),.z (.int b)]=>U (.z (.int (if b>a then b else a)))
 |_=>Y
def Yn:Z Bx->O Bx
 |[.z (.int a),.z (.int b)]=>U (.z (.int (if b<a then b else a)))
 |_=>Y
theorem IJ{a:Bx}(h:ud K H [a,b] vs):∃v w,vs=[v,w]/\aX K H a v/\aX K H b w:=by
 cases h with
 |cons p t=>
  cases t with
  |cons p' c=>cases c;exact⟨_,_,rfl,p,p'⟩
theorem Dm(g:X.calm=true):uf X (.builtin "max") J7:=by
 intro AN s σ H xs us Q I r h;obtain⟨bs,c,m,e,q⟩:=h;unfold J7 at e;split at e
 ·rename_i a b;cases e;obtain⟨v,w,rfl,d,l⟩:=IJ m;have f:=Ny d;have i:=Ny l;subst f i;obtain⟨u,p,rfl,j,n⟩:=AX.two r;obtain⟨t,rfl⟩:=j;obtain⟨o,rfl⟩:=n;refine max_two_ints (I.ok.hd g) λh' tk kp=>?_;by_cases hb:b>a
  ·rw[zk hb]at q ⊢;exact⟨.int b,H,I.kept kp,⟨_,rfl⟩,q _ H (AV.refl H) trivial FJ⟩
  ·rw[zw hb]at q ⊢;exact⟨.int a,H,I.kept kp,⟨_,rfl⟩,q _ H (AV.refl H) trivial FJ⟩
 ·cases e
theorem Me(g:X.calm=true):uf X (.builtin "min") Yn:=by
 intro AN s σ H xs us Q I r h;obtain⟨bs,c,m,e,q⟩:=h;unfold Yn at e;split at e
 ·rename_i a b;cases e;obtain⟨v,w,rfl,d,l⟩:=IJ m;have f:=Ny d;have i:=Ny l;subst f i;obtain⟨u,p,rfl,j,n⟩:=AX.two r;obtain⟨t,rfl⟩:=j;obtain⟨o,rfl⟩:=n;refine min_two_ints (I.ok.hd g) λh' tk kp=>?_;by_cases hb:b<a
  ·rw[zk hb]at q ⊢;exact⟨.int b,H,I.kept kp,⟨_,rfl⟩,q _ H (AV.refl H) trivial FJ⟩
  ·rw[zw hb]at q ⊢;exact⟨.int a,H,I.kept kp,⟨_,rfl⟩,q _ H (AV.refl H) trivial FJ⟩
 ·cases e
def HB(AO:Z (AY×Dt))(x:AY):O Dt:=(AO.find? λa=>decide (a.1=x)).map (·.2)
def N7(AO:Z (AY×Dt))(x:AY)(d:Dt):Z (AY×Dt):=
 if(AO.any λa=>decide (a.1=x))=true then AO.map (λa=>if a.1=x then(a.1,d)else a)else AO++[(x,d)]
theorem fQ.nil:fQ K H [] []:=⟨rfl,aO.nil,λp hp=>by cases hp⟩
theorem fQ.inv{p:AY×Dt}{ks:Z (AY×V)}(h:fQ K H (p::AO) ks):∃v r,ks=(p.1,v)::r/\AW K H p.2 v/\DO p.1/\fQ K H AO r:=by
 obtain⟨h1,h2,a⟩:=h;cases ks with
 |nil=>simp at h1
 |cons q r=>
  simp only[zr,JS]at h1;obtain⟨e,h1⟩:=h1;simp only[zr,aO]at h2;obtain⟨v,d,e2,b,c⟩:=h2;simp only[JS]at e2;obtain⟨rfl,rfl⟩:=e2;exact⟨q.2,r,by rw[<-e],b,a p (zg ..),h1,c,λx hx=>a x (zi _ hx)⟩
theorem fQ.cons{p:AY×Dt}{AO:Z (AY×Dt)}{v:V}{r:Z (AY×V)}(a:AW K H p.2 v)(hp:DO p.1)(h:fQ K H AO r):fQ K H (p::AO) ((p.1,v)::r):=
 ⟨by simp[h.1],aO.cons a h.2.1,λx hx=>by
  rcases List.mem_cons.mp hx with rfl|hx
  ·exact hp
  ·exact h.2.2 x hx⟩
theorem fQ.append{AO:Z (AY×Dt)}{ks:Z (AY×V)}{x:AY}{d:Dt}{v:V}(h:fQ K H AO ks)(a:AW K H d v)(hx:DO x):fQ K H (AO++[(x,d)]) (ks++[(x,v)]):=
 ⟨by simp[h.1],by rw[qk,qk];exact aO.append h.2.1 (aO.cons a aO.nil),λp hp=>by
  rcases List.mem_append.mp hp with hp|hp
  ·exact h.2.2 p hp
  ·cases List.mem_singleton.mp hp;exact hx⟩
theorem fQ.len{ks:Z (AY×V)}(h:fQ K H AO ks):ks.length=AO.length:=by
 have:=congrArg List.length h.1;simpa using this
theorem fQ.look:∀{AO:Z (AY×Dt)} {ks:Z (AY×V)} {x:AY} {d:Dt},fQ K H AO ks->HB AO x=U d->∃v,CK ks x=U v/\AW K H d v
 |[],_,_,_,_,e=>by cases e
 |p::AO,_,x,d,h,e=>by
  obtain⟨v,r,rfl,a,c,b⟩:=h.inv;unfold HB at e;by_cases hp:p.1=x
  ·rw[List.find?_cons_of_pos (by simpa using hp)]at e;cases e;exact⟨v,z7 (by rw[hp]),a⟩
  ·rw[List.find?_cons_of_neg (by simpa using hp)]at e;obtain⟨w,e1,e2⟩:=fQ.look b e;exact⟨w,(z8 (by simpa using hp)).trans e1,e2⟩
theorem fQ.any:∀{AO:Z (AY×Dt)} {ks:Z (AY×V)} {x:AY},fQ K H AO ks->(ks.any λa=>decide (a.1=x))=AO.any λa=>decide (a.1=x)
 |[],ks,_,h=>by
  have:=h.len;cases ks with
  |nil=>rfl
  |cons _ _=>simp at this
 |p::AO,_,x,h=>by
  obtain⟨v,r,rfl,c,d,b⟩:=h.inv;rw[kc,kc,fQ.any b]
theorem fQ.aaG:∀{AO:Z (AY×Dt)} {ks:Z (AY×V)} {x:AY} {d:Dt} {v:V},fQ K H AO ks->AW K H d v->fQ K H (AO.map λa=>if a.1=x then(a.1,d)else a) (ks.map λa=>if a.1=x then(a.1,v)else a)
 |[],ks,_,_,_,h,_=>by
  have:=h.len;cases ks with
  |nil=>exact fQ.nil
  |cons _ _=>simp at this
 |p::AO,_,x,d,v,h,hd=>by
  obtain⟨w,r,rfl,e,c,f⟩:=h.inv;rw[zr,zr];have b:=fQ.aaG (x:=x) f hd;by_cases hp:p.1=x
  ·rw[zk hp,zk (by simp[hp])];exact fQ.cons (p:=(p.1,d)) hd c b
  ·rw[zw hp,zw (by simpa using hp)];exact fQ.cons e c b
theorem fQ.put{ks:Z (AY×V)}{x:AY}(h:fQ K H AO ks)(a:AW K H d v)(hx:DO x):fQ K H (N7 AO x d) (BC ks x v):=by
 unfold N7 BC;rw[h.any];split
 ·exact h.aaG a
 ·exact h.append a hx
section
variable{ek o:Expr}{pos':Pos}
def Co:Bx->O AY
 |.z (.str x)=>U (.inr x)
 |.z (.int i)=>U (.inl i)
 |_=>Y
theorem N8{k:AY}(e:Co b=U k)(r:aX K H b v):v=kV k/\DO k:=by
 unfold Co at e;split at e
 ·cases e;simp only[aX,AW]at r;exact r
 ·cases e;simp only[aX,AW]at r;exact⟨r,trivial⟩
 ·cases e
def nZ:Bx->Bx->O Bx
 |.n AO,b=>(Co b).bind λk=>(HB AO k).bind λd=>U (.z d)
 |_,_=>Y
theorem Uq{a c:Bx}(h:nZ a b=U c):∃AO k d,a=.n AO/\Co b=U k/\HB AO k=U d/\c=.z d:=by
 unfold nZ at h;split at h
 ·obtain⟨k,ek,h⟩:=AT h;obtain⟨d,e,h⟩:=AT h;cases h;exact⟨_,k,d,rfl,ek,e,rfl⟩
 ·cases h
theorem kh(C:X.A.units+100<cLine)(ho:QV X o fo)(f:QV X ek fk)(hs:IY ek:=by intro _ _;rfl):QV X (.Subscript o ek pos) (b2 nZ fo fk):=⟨have ho:=ho.run;have f:=f.run;Ft (XG (by omega) ho f hs) λσ H Q h=>by
 obtain⟨H0,ρ,c,E,e,q⟩:=h;obtain⟨a,ea,e⟩:=AT e;obtain⟨b,eb,e⟩:=AT e;refine⟨H0,ρ,a,E,ea,λv H1 i z j=>⟨H0,ρ,b,E.grow i,eb,λw H2 g B s=>?_⟩⟩;obtain⟨AO,x,d,rfl,l,m,rfl⟩:=Uq e;obtain⟨p,ks,rfl,y,u⟩:=j.same g;obtain⟨t,ev,n⟩:=u.look m;obtain⟨rfl,_⟩:=N8 l s;exact⟨p,t,rfl,.inl ⟨ks,x,y,rfl,ev.symm⟩,q _ _ (i.trans g) trivial n⟩⟩
def Q6(ρ:Ev)(i:Nat):Bx->Bx->O As
 |.z d,b=>(Co b).bind λx=>match ρ[i]? with
  |some (U (.m AO w))=>if AO.length<1000 then U (.nx (ρ.set i (U (.m (N7 AO x d) w))))else Y
  |_=>Y
 |_,_=>Y
def Wr(i:Nat)(f fk:Ev->O Bx):Ev->O As:=λρ=>(f ρ).bind λb=>(fk ρ).bind λk=>Q6 ρ i b k
theorem Ur{k:Bx}{r:As}(h:Q6 ρ i b k=U r):∃d y AO w,b=.z d/\Co k=U y/\ρ[i]?=U (U (.m AO w))/\AO.length<1000/\r=.nx (ρ.set i (U (.m (N7 AO y d) w))):=by
 unfold Q6 at h;split at h
 ·obtain⟨y,c,h⟩:=AT h;split at h
  ·rename_i e;split at h
   ·rename_i a;cases h;exact⟨_,y,_,_,rfl,c,e,a,rfl⟩
   ·cases h
  ·cases h
 ·cases h
theorem Ws(i:Nat){p:Pos}(M:X.A.units+100<cLine)(he:QV X e f)(g:QV X ek fk)(z:X.N[i]?=U x:=by rfl)(o:Zq X.env.scope x:=by first|exact kb rfl|exact Q4 (kb S)|exact Q4 (Q4 S))(hd:(x==("__debug__":AJ))=false:=by decide)(C:(x==("__classdict__":AJ))=false:=by decide)(hs:swapsWith e (U (.Subscript (.Name x p) ek pos')) pos.line X.env=pure false:=by rfl):Qz X (.Assign [.Subscript (.Name x p) ek pos'] e pos) (λρ=>(f ρ).bind λb=>(fk ρ).bind λk=>Q6 ρ i b k):=⟨have he:=he.run;have g:=g.run;Wd (UC (by omega) (wI (i:=i) z o hd C) g he hs) λD σ H h=>by
  obtain⟨H0,ρ,r,E,e,q⟩:=h;obtain⟨b,eb,e⟩:=AT e;obtain⟨k,ek,e⟩:=AT e;refine⟨H0,ρ,b,E,eb,λv H1 I P B=>?_⟩;obtain⟨d,y,AO,L,rfl,J,n,K,rfl⟩:=Ur e;have j:=E.grow I;obtain⟨w,e1,a,ks,rfl,ha,m,G⟩:=j.val i _ n;refine⟨_,e1,H0,ρ,_,j,ek,λu H2 c Q s=>?_⟩;obtain⟨rfl,F⟩:=N8 J s;have t:=j.grow c;have l:=c _ _ ha;have kp:Kp H2 (B6 H2 a (.dK (BC ks y v))):=.dk l;refine⟨a,_,rfl,FF.k (k:=y) l (by rw[m.len];exact Nat.lt_trans K (by decide)),q _ _ ?_⟩;exact t.aiQ n S e1 kp ⟨a,_,rfl,bV,((m.kp (.of c)).put (x:=y) (aX.same c B) F).kp kp,G⟩⟩
end
section
variable{a b:Expr}{fs:Ev->O (Z Bx)}
theorem HD{j}(hx:x.length<=AA:=by decide):QV X (.Constant (.str x) j pos) (cB (.str x)):=⟨P1.Ll (hx:=hx)⟩
end
section
variable{a b:Expr}{fs:Ev->O (Z Bx)}
variable{AS:Z Expr}
theorem ak(h1:QV X e f)(h2:Zu X es fs)(hs:A9 (e::es) X.env=(false,eval e X.env)::A9 es X.env:=by rfl):Zu X (e::es) (aq f fs):=⟨P1.Qy (h1:=h1.run) (h2:=h2.run) (hs:=hs)⟩
theorem aB  :Zu X [] (λ_=>U []):=⟨P1.Wf ⟩
end
theorem Y1{st:AB}{f:A1}{k m:Nat}(F:Cs K x qual st f fd)(S:bx N ps (aK st))(e:N.length=n)(d:ps.length=m)(b:∀(a:A0) (A:A5) (outer:Z Env) (s:A2) (H:Hp) (E:XK),nR k (A.deeper (AK qual (aK st) s.heap.objs.size f a))->Yc (G7 Nt P w K mg base N qual (aK st) f a A outer s H E).nox (jz st) g):
  wM P w K mg base Nt (k+1) f fd ps (Dx K m (cX n g)):=SD F S e d λa A outer s H E c=>(b a A outer s H E c).run
theorem Eh:∀(vs:Z A0) (ys:AZ),vs.length=ys.length->(∀(j:Nat) v,vs[j]?=U v->∃y t,ys[j]?=U y/\v=.str y t)->StrsAre vs ys
 |[],[],_,_=>.nil
 |v::vs,y::ys,hl,h=>by
  obtain⟨b,t,e,rfl⟩:=h 0 v rfl;cases e;exact .cons y t (Eh vs ys (by simpa using hl) λj v a=>h (j+1) v (by simpa using a))
theorem Us{AO:Z (AY×A0)}{ys:AZ}(b:AO.map (·.1)=ys.map Sum.inr){a:Array A0}(h:ItemsOf (λi v=>∃k x,AO[i]?=U (k,x)/\(bw prog w).is k v=true) a AO.length):StrsAre a.toList ys:=by
 have f:AO.length=ys.length:=by have:=congrArg List.length b;simpa using this
 refine Eh _ _ (by rw[qa,h.1,f]) λj v d=>?_;obtain⟨k,x,e,hi⟩:=h.2 j v (by simpa using d);have e1:(AO.map (·.1))[j]?=U k:=by rw[Zp,e];rfl
 rw[b,Zp]at e1;cases c:ys[j]? with
 |none=>rw[c]at e1;cases e1
 |some y=>
  rw[c]at e1;cases e1;have g:lH (Sum.inr y) v=true:=hi;rcases bU g with⟨i,t,e2,e3⟩|⟨z,t,e2,e3⟩
  ·cases e2
  ·cases e2;exact⟨_,t,rfl,e3⟩
def Yo:Z (AY×Dt)->O AZ
 |[]=>U []
 |(.inr x,_)::r=>(Yo r).bind λys=>U (x::ys)
 |(.inl _,_)::_=>Y
theorem yj:∀{AO:Z (AY×Dt)} {ys:AZ},Yo AO=U ys->AO.map (·.1)=ys.map Sum.inr
 |[],_,e=>by cases e;rfl
 |(.inr x,_)::r,_,e=>by
  obtain⟨ys,e1,e⟩:=AT e;cases e;rw[zr,zr,yj e1]
 |(.inl _,_)::_,_,e=>by cases e
theorem SE{ys:AZ}(e:Yo AO=U ys)(h:∀p∈AO,DO p.1)(y:AJ)(a:y∈ys):y.length<=AA:=by
 have:(Sum.inr y:AY)∈AO.map (·.1):=by rw[yj e];exact List.mem_map.mpr ⟨y,a,rfl⟩
 obtain⟨p,hp,ep⟩:=List.mem_map.mp this;have:=h p hp;rw[ep]at this;exact this
theorem Wt:∀{ks:Z (AY×V)} {vs:Z (AY×A0)},KV ks vs->vs.map (·.1)=ks.map (·.1)
 |_,_,.nil=>rfl
 |_,_,.cons h t=>by rw[zr,zr,Wt t,h.1]
theorem bZ.ai6(E:bZ K H0 H σ ρ)(i:Nat):bZ K H0 H σ (ρ.set i Y):=by
 have back:∀(j:Nat) (b:Bx),(ρ.set i Y)[j]?=U (U b)->ρ[j]?=U (U b):=λj b e=>by
  rw[KP]at e;split at e
  ·split at e<;>cases e
  ·exact e
 refine⟨by rw[kq];exact E.len,λj b e=>E.val j b (back j b e),λj k c a b e1 d e2 e3 f g=>E.own j k c a b (back _ _ e1) d e2 (back _ _ e3) f g,E.base,λj c a e1 d e2=>E.new j c a (back _ _ e1) d e2⟩
def kill(is:Z Nat)(ρ:Ev):Ev:=is.foldl (λρ i=>ρ.set i Y) ρ
theorem bZ.kill{K:B1}{H0 H:Hp}{σ:L2.St}:∀(is:Z Nat) {ρ:Ev},bZ K H0 H σ ρ->bZ K H0 H σ (P1.kill is ρ)
 |[],_,E=>E
 |i::is,_,E=>bZ.kill is (E.ai6 i)
def dj(is:Z Nat):Ev->O As:=λρ=>U (.nx (kill is ρ))
theorem a6{c:Z AB}(is:Z Nat)(h:Zr X c g):Zr X c (aD g (dj is)):=Hk h λD σ H q=>by
 obtain⟨H0,ρ,r,E,e,q⟩:=q;obtain⟨a,e1,e⟩:=AT e;refine⟨H0,ρ,a,E,e1,?_⟩;cases a with
 |nx f=>cases e;exact λσ' H' d=>q σ' H' (d.kill is)
 |rt b=>cases e;exact q
 |bk b=>cases e;exact q
 |ct b=>cases e;exact q
theorem bf{a:Z AB}(is:Z Nat)(h:Yc X a g):Yc X a (aD g (dj is)):=⟨a6 is h.run⟩
end P1
namespace S1
section
variable(rk:A0->Nat)
def at_(xs:Array Keyed)(i:Nat):Nat:=match xs[i]? with
 |some p=>rk p.1
 |none=>0
def Up(xs:Array Keyed)(k:Nat):Prop:=∀i j,i<=j->j<k->at_ rk xs i<=at_ rk xs j
def CL(xs:Array Keyed)(k:Nat):Prop:=∀i j,i<=j->j<k->at_ rk xs j<=at_ rk xs i
structure Bs (kd:SortKind) (b:Array Keyed) (st:SortSt):Prop where
 pm:(arrOf st).Perm b
 kd:kindOf st=kd
 fl:failedOf st=none
 pd:pendingOf st=#[]
variable{rk}{kd:SortKind}{b:Array Keyed}
theorem Bs.sz{st:SortSt}(h:Bs kd b st):(AM st).size=b.size:=h.pm.size_eq
theorem Bs.arr{st:SortSt}{xs:Array Keyed}(h:Bs kd b st)(hp:xs.Perm (AM st)):Bs kd b (PyProof.Rows.setArr st xs):=⟨hp.trans h.pm,h.kd,h.fl,h.pd⟩
theorem wZ{xs ys:Array Keyed}(h:xs[i]?=ys[j]?):at_ rk xs i=at_ rk ys j:=by unfold at_;rw[h]
theorem LH{xs:Array Keyed}{p d:Nat}(hs:p<xs.size)(hd:d<=p)(k:Nat):at_ rk (bubble xs p d) k=if k=p-d then at_ rk xs p else if p-d<k/\k<=p then at_ rk xs (k-1)else at_ rk xs k:=by
 have e:=getElem?_bubble hs d hd k;by_cases q:k=p-d
 ·simp only[zk q]at e ⊢;exact wZ e
 ·simp only[zw q]at e ⊢;by_cases q2:p-d<k/\k<=p
  ·simp only[zk q2]at e ⊢;exact wZ e
  ·simp only[zw q2]at e ⊢;exact wZ e
theorem Ut{xs:Array Keyed}(a:j<=xs.size)(k:Nat):at_ rk (mirror xs i j ((j-i) / 2)) k=if i<=k/\k<j then at_ rk xs (i+j-1-k)else at_ rk xs k:=by
 have e:=getElem?_mirror_all (i:=i) a k;by_cases q:i<=k/\k<j
 ·simp only[zk q]at e ⊢;exact wZ e
 ·simp only[zw q]at e ⊢;exact wZ e
theorem Aw{xs:Array Keyed}(a:j<=xs.size)(he:∀k,i<=k->k<j->at_ rk xs k=at_ rk xs (j-1))(k:Nat):at_ rk (mirror xs i j ((j-i) / 2)) k=at_ rk xs k:=by
 rw[Ut a];by_cases q:i<=k/\k<j
 ·rw[zk q,he (i+j-1-k) (by omega) (by omega),he k q.1 q.2]
 ·rw[zw q]
end
section
variable{b:Array Keyed}{kd:SortKind}{rk:A0->Nat}
def Zw(prog:A3)(w:A4)(A:A5)(s:A2)(kd:SortKind)(rk:A0->Nat)(b:Array Keyed):Prop:=
 ∀(E:BA) (p q:Keyed) (Q:Bool->A2->Prop),p∈b.toList->q∈b.toList->Q (decide (rk p.1<rk q.1)) s->A7 (A8 prog w) A (keyLt' kd p.1 q.1) Q E s
theorem Q7{st:SortSt}{Q:O Bool->SortSt->Prop}(a:Zw prog w A s kd rk b)(B:Bs kd b st)(hi:i<b.size)(f:j<b.size)(h:Q (U (decide (at_ rk (AM st) i<at_ rk (AM st) j))) st):wpS (A8 prog w) A E s (ltAt' i j) Q st:=by
 have get:∀k,k<b.size->∃p,(AM st)[k]?=U p/\p∈b.toList:=λk d=>by
  have c:k<(AM st).size:=by rw[B.sz];exact d
  exact⟨(AM st)[k],getElem?_pos _ k c,(Array.perm_iff_toList_perm.mp B.pm).mem_iff.mp (by simp)⟩
 obtain⟨p,e1,g⟩:=get i hi;obtain⟨q,e2,e⟩:=get j f;have h:Q (U (decide (rk p.1<rk q.1))) st:=by unfold at_ at h;rw[e1,e2]at h;exact h
 rw[ltAt'_eq];refine AL (wpS_get ?_);show wpS _ _ _ _ (elem' (AM st) i >>= λx=>elem' (AM st) j >>= λy=>lt' x y) Q st;rw[elem'_eq,elem'_eq,e1,e2];refine AL (wpS_pure ?_);refine AL (wpS_pure ?_);rw[lt'_eq];refine AL (wpS_get ?_);rw[B.kd];exact AL (wpS_lift (wpAny_attempt (a _ p q _ g e ⟨rfl,wpS_pure h⟩)))
theorem NO{st:SortSt}{a:Nat}{Q:AscSt->SortSt->Prop}(f:Zw prog w A s kd rk b)(v:n<=b.size)(ha:1<=a)(l:a<=n)(B:Bs kd b st)(hs:Up rk (AM st) a)(h:∀m,a<=m->m<=n->Up rk (AM st) m->(m=n\/at_ rk (AM st) m<at_ rk (AM st) (m-1))->Q (Y,m) st):wpS (A8 prog w) A E s (ascLoop a n) Q st:=by
 unfold ascLoop;refine wpS_forRange (I:=λx c t=>t=st/\c=(Y,x)/\Up rk (AM st) x) ?_ ?_ ⟨rfl,rfl,hs⟩
 ·rintro x c t g u ⟨rfl,rfl,d⟩;refine AL (Q7 f B (by omega) (by omega) ?_);by_cases q:at_ rk (AM t) x<at_ rk (AM t) (x-1)
  ·simp only[q,Kb,qA];exact wpS_pure (h x g (by omega) d (.inr q))
  ·simp only[q,kC,zl,ZN];refine wpS_pure ⟨rfl,rfl,λi j o p=>?_⟩;by_cases hx:j<x
   ·exact d i j o hx
   ·have e:j=x:=by omega
    subst e;by_cases hi:i=j
    ·rw[hi];exact zo _
    ·have:=d i (j-1) (by omega) (by omega);omega
 ·rintro c t ⟨rfl,rfl,d⟩;rw[show max a n=n by omega]at d ⊢;exact h n l (zo _) d (.inl S)
theorem t3{st:SortSt}{m:Nat}{Q:O Nat->SortSt->Prop}(d:Zw prog w A s kd rk b)(l:n<=b.size)(h1:1<=m)(e:m<=n)(B:Bs kd b st)(hs:CL rk (AM st) m)(h:∀k t,Bs kd b t->1<=k->k<=n->Up rk (AM t) k->Q (U k) t):wpS (A8 prog w) A E s (tail3 m n) Q st:=by
 unfold tail3;have c:m<=(AM st).size:=by rw[B.sz];omega
 refine AL (wpS_reverse ?_);have a:Bs kd b (PyProof.Rows.setArr st (mirror (AM st) 0 m ((m-0) / 2))):=B.arr (mirror_perm _ _ _ _);refine AL (NO d l h1 e a (λi j p o=>?_) λk q f g _=>wpS_pure (h k _ a (by omega) f g));show at_ rk (mirror (AM st) 0 m ((m-0) / 2)) i<=at_ rk (mirror (AM st) 0 m ((m-0) / 2)) j;rw[Ut c,Ut c,zk ⟨by omega,by omega⟩,zk ⟨by omega,by omega⟩];exact hs _ _ (by omega) (by omega)
theorem fF{st:SortSt}{m:Nat}{Q:DescSt->SortSt->Prop}(g:Zw prog w A s kd rk b)(H:n<=b.size)(h1:1<=m)(u:m<=n)(B:Bs kd b st)(hs:CL rk (AM st) m)(h:∀k e t,Bs kd b t->m<=k->k<=n->CL rk (AM t) k->e+1<=k->(∀i,k-(e+1)<=i->i<k->at_ rk (AM t) i=at_ rk (AM t) (k-1))->Q (Y,k,e) t):wpS (A8 prog w) A E s (descLoop m n) Q st:=by
 unfold descLoop;refine wpS_forRange (I:=λx c t=>∃e,c=(Y,x,e)/\Bs kd b t/\CL rk (AM t) x/\e+1<=x/\∀i,x-(e+1)<=i->i<x->at_ rk (AM t) i=at_ rk (AM t) (x-1)) ?_ ?_ ⟨0,rfl,B,hs,by omega,λi q1 q2=>by rw[show i=m-1 by omega]⟩
 ·rintro x c t o F ⟨e,rfl,a,dn,f,d⟩;have v:x<=(AM t).size:=by rw[a.sz];omega
  have grow:∀xs:Array Keyed,(∀k,at_ rk xs k=at_ rk (AM t) k)->at_ rk (AM t) x<=at_ rk (AM t) (x-1)->CL rk xs (x+1):=λxs l D i j y z=>by
   rw[l,l];by_cases hx:j<x
   ·exact dn i j y hx
   ·have p:j=x:=by omega
    subst p;by_cases hi:i=j
    ·rw[hi];exact zo _
    ·have:=dn i (j-1) (by omega) (by omega);omega
  dsimp only;refine AL (Q7 g a (by omega) (by omega) ?_);by_cases q:at_ rk (AM t) x<at_ rk (AM t) (x-1)
  ·simp only[q,Kb,qA];by_cases h0:e>0
   ·rw[zk h0];exact AL (wpS_reverse (wpS_pure ⟨0,rfl,a.arr (mirror_perm _ _ _ _),grow _ (Aw v d) (by omega),by omega,λi q1 q2=>by rw[show i=x by omega];rfl⟩))
   ·rw[zw h0];exact wpS_pure ⟨0,rfl,a,grow _ (λ_=>S) (by omega),by omega,λi q1 q2=>by rw[show i=x by omega];rfl⟩
  ·simp only[q,kC,zl,ZN];refine AL (Q7 g a (by omega) (by omega) ?_);by_cases q2:at_ rk (AM t) (x-1)<at_ rk (AM t) x
   ·simp only[q2,Kb,qA];exact wpS_pure (h x e t a o (by omega) dn f d)
   ·simp only[q2,kC,zl,ZN];refine wpS_pure ⟨e+1,rfl,a,grow _ (λ_=>S) (by omega),by omega,λi G C=>?_⟩;rw[show x+1-1=x by omega];by_cases hi:i=x
    ·rw[hi]
    ·rw[d i (by omega) (by omega)];omega
 ·rintro c t ⟨e,rfl,a,dn,f,d⟩;rw[show max m n=n by omega]at dn f d ⊢;exact h n e t a u (zo _) dn f d
theorem NR{st:SortSt}{m:Nat}{Q:O Nat->SortSt->Prop}(a:Zw prog w A s kd rk b)(d:n<=b.size)(o:m+1<=n)(B:Bs kd b st)(hs:CL rk (AM st) (m+1))(h:∀k t,Bs kd b t->1<=k->k<=n->Up rk (AM t) k->Q (U k) t):wpS (A8 prog w) A E s (descPart m n) Q st:=by
 unfold descPart;refine AL (wpS_lift (k8 ⟨rfl,?_⟩));refine AL (fF a d (by omega) o B hs λk e t c v f dn u l=>?_);have g:k<=(AM t).size:=by rw[c.sz];omega
 by_cases h0:e>0
 ·simp only[zk h0];refine AL (wpS_reverse (t3 a d (by omega) f (c.arr (mirror_perm _ _ _ _)) (λi j p q=>?_) h));show at_ rk (mirror (AM t) _ _ _) j<=at_ rk (mirror (AM t) _ _ _) i;rw[Aw g l,Aw g l];exact dn i j p q
 ·simp only[zw h0];exact t3 a d (by omega) f c dn h
theorem gI{st:SortSt}{Q:O Nat->SortSt->Prop}(a:Zw prog w A s kd rk b)(e:n<=b.size)(h1:1<=n)(B:Bs kd b st)(h:∀k t,Bs kd b t->1<=k->k<=n->Up rk (AM t) k->Q (U k) t):wpS (A8 prog w) A E s (countRun' 0 n) Q st:=by
 rw[countRun0_eq];refine AL (NO a e (zo 1) h1 B (λi j p l=>by rw[show i=j by omega];exact zo _) λm o g c or=>?_);by_cases d:m=n
 ·simp only[zk (show(m==n)=true by simpa using d)];exact wpS_pure (h m st B o g c)
 ·simp only[zw (show ¬ (m==n)=true by simpa using d)];have lt:=or.resolve_left d;have f:m<=(AM st).size:=by rw[B.sz];omega
  by_cases g1:m>1
  ·rw[zk g1];refine AL (Q7 a B (by omega) (by omega) ?_);by_cases q:at_ rk (AM st) 0<at_ rk (AM st) (m-1)
   ·simp only[q,Kb,qA];exact wpS_pure (h m st B o g c)
   ·simp only[q,kC,zl,ZN];have all:∀k,0<=k->k<m->at_ rk (AM st) k=at_ rk (AM st) (m-1):=λk _ v=>by
     have a1:=c 0 k (by omega) v;have a2:=c k (m-1) (by omega) (by omega);omega
    refine AL (wpS_reverse (NR a e (by omega) (B.arr (mirror_perm _ _ _ _)) (λi j p l=>?_) h));show at_ rk (mirror (AM st) _ _ _) j<=at_ rk (mirror (AM st) _ _ _) i;rw[Aw f all,Aw f all];by_cases x:j<m
    ·rw[all i (by omega) (by omega),all j (by omega) x];exact zo _
    ·have u:j=m:=by omega
     subst u;by_cases hi:i=j
     ·rw[hi];exact zo _
     ·rw[all i (by omega) (by omega)];omega
  ·rw[zw g1];have e1:m=1:=by omega
   subst e1;refine NR a e (by omega) B (λi j p l=>?_) h;by_cases hi:i=j
   ·rw[hi];exact zo _
   ·rw[show i=0 by omega,show j=1 by omega];exact jS lt
theorem Iy{st:SortSt}{g:Nat}{Q:Bool->SortSt->Prop}(G:Zw prog w A s kd rk b)(J:n<=b.size)(M:g<=n)(B:Bs kd b st)(hs:Up rk (AM st) g)(h:∀t,Bs kd b t->Up rk (AM t) n->Q true t):wpS (A8 prog w) A E s (binarySort' 0 n g) Q st:=by
 rw[binarySort'_eq];simp only[kR];refine AL (wpS_mono (wpS_forRange (I:=λk c t=>c=(Y,())/\Bs kd b t/\Up rk (AM t) (min k n)) (Q:=λc t=>c=(Y,())/\Bs kd b t/\Up rk (AM t) n) ?_ ?_ ?_) ?_)
 ·rintro k c t L H ⟨rfl,f,d⟩;rw[show min k n=k by omega]at d;have o:k<b.size:=by omega
  refine AL (wpS_mono (wpS_forRange (I:=λx c a=>a=t/\∃l r,c=(Y,l,r)/\l<=r/\r<=k/\r-l<=k-x/\(∀i,i<l->at_ rk (AM t) i<=at_ rk (AM t) k)/\(∀i,r<=i->i<k->at_ rk (AM t) k<at_ rk (AM t) i))
   (Q:=λc a=>a=t/\∃l r,c=(Y,l,r)/\l<=k/\(∀i,i<l->at_ rk (AM t) i<=at_ rk (AM t) k)/\(∀i,l<=i->i<k->at_ rk (AM t) k<at_ rk (AM t) i)) ?_ ?_ ?_) ?_)
  ·rintro x c a _ hx ⟨rfl,l,r,rfl,C,m,F,lo,hi⟩;dsimp only;by_cases v:l>=r
   ·rw[zk v];have e:l=r:=by omega
    subst e;exact wpS_pure ⟨rfl,l,l,rfl,m,lo,hi⟩
   ·rw[zw v];refine AL (Q7 G f o (by omega) ?_);by_cases q:at_ rk (AM a) k<at_ rk (AM a) ((l+r) / 2)
    ·simp only[q,Kb,qA];refine wpS_pure ⟨rfl,l,(l+r) / 2,rfl,by omega,by omega,by omega,lo,λi q1 q2=>?_⟩;have:=d ((l+r) / 2) i q1 q2;omega
    ·simp only[q,kC,zl,ZN];refine wpS_pure ⟨rfl,(l+r) / 2+1,r,rfl,by omega,by omega,by omega,λi q1=>?_,hi⟩;have:=d i ((l+r) / 2) (by omega) (by omega);omega
  ·rintro c a ⟨rfl,l,r,rfl,C,m,F,lo,hi⟩;have e:l=r:=by omega
   subst e;exact⟨rfl,l,l,rfl,m,lo,hi⟩
  ·exact⟨rfl,0,k,rfl,by omega,by omega,by omega,λi hi=>by omega,λi q1 q2=>by omega⟩
  ·rintro c a ⟨rfl,l,r,rfl,K,lo,hi⟩;show wpS _ _ _ _ (moveDown' k l >>= λ_=>pure (ForInStep.yield (Y,()))) _ _;rw[moveDown'_eq];refine AL (wpS_modify (wpS_pure ⟨rfl,f.arr (bubble_perm _ _ _),?_⟩));rw[show min (k+1) n=k+1 by omega];have p:k<(AM a).size:=by rw[f.sz];exact o
   intro i j u D;show at_ rk (bubble (AM a) k (k-l)) i<=at_ rk (bubble (AM a) k (k-l)) j;rw[LH p (by omega),LH p (by omega),show k-(k-l)=l by omega]
   repeat' split
   all_goals first
    |(exfalso;omega)
    |exact zo _
    |exact lo _ (by omega)
    |exact jS (hi _ (by omega) (by omega))
    |exact d _ _ (by omega) (by omega)
 ·rintro c t ⟨y,f,d⟩;refine⟨y,f,?_⟩;rwa [show min (max (max g 1) n) n=n by omega]at d
 ·refine⟨rfl,B,λi j u D=>?_⟩;by_cases z:g=0
  ·rw[show i=j by omega];exact zo _
  ·exact hs i j u (by omega)
 ·rintro c t ⟨rfl,f,d⟩;exact wpS_pure (h t f d)
def Dn(kd:SortKind)(rk:A0->Nat)(b:Array Keyed)(st:SortSt):Prop:=(AM st).Perm b/\failedOf st=Y/\pendingOf st=#[(0,b.size,0)]/\Up rk (AM st) b.size
theorem Bs.dn{st:SortSt}(B:Bs kd b st)(a:Up rk (AM st) b.size):Dn kd rk b (setPending st ((pendingOf st).push (0,b.size,0))):=⟨B.pm,B.fl,(by show(pendingOf st).push _=_;rw[B.pd];rfl),a⟩
theorem Gc{st:SortSt}{Q:Unit->SortSt->Prop}(d:Zw prog w A s kd rk b)(B:Bs kd b st)(h2:2<=b.size)(p:b.size<64)
  (h:∀t,(AM t).Perm b->failedOf t=Y->Up rk (AM t) b.size->Q () t):wpS (A8 prog w) A E s sortRuns' Q st:=by
 rw[sortRuns'_eq];refine AL (wpS_get ?_);have l:minRun' b.size b.size 0=b.size:=by
  obtain⟨f,o⟩:∃f,b.size=f+1:=⟨b.size-1,by omega⟩;have q:minRun' (f+1) b.size 0=b.size:=(minRun'_succ f b.size 0).trans (zk p);rwa [<-o]at q
 simp only[B.sz,l];have back:∀{t:SortSt},Bs kd b t->(pendingOf t).back?=Y:=λB=>by rw[B.pd];rfl
 refine AL (wpS_mono (wpS_forRange (I:=λx c t=>(x=0/\c=(Y,0)/\Bs kd b t)\/(1<=x/\c=(Y,b.size)/\Dn kd rk b t)) (Q:=λc t=>c=(Y,b.size)/\Dn kd rk b t) ?_ ?_ (.inl ⟨rfl,rfl,B⟩)) ?_)
 ·rintro x c t _ hx (⟨rfl,rfl,i⟩|⟨z,rfl,D⟩)
  ·dsimp only;rw[zw (by omega)];simp only[Nat.sub_zero,Nat.min_self,kR];refine AL (gI d (zo _) (by omega) i λm t2 a y n g=>?_);dsimp only;by_cases lt:m<b.size
   ·rw[zk lt];refine AL (wpS_lift (k8 ⟨rfl,AL (Iy d (zo _) n a g λt3 B3 v=>?_)⟩));simp only[ky,zl,ZN];refine AL (wpS_get ?_);rw[back B3];exact AL (wpS_modify (wpS_pure (.inr ⟨by omega,rfl,B3.dn v⟩)))
   ·rw[zw lt];have e:m=b.size:=by omega
    subst e;refine AL (wpS_get ?_);rw[back a];exact AL (wpS_modify (wpS_pure (.inr ⟨by omega,rfl,a.dn g⟩)))
  ·dsimp only;rw[zk (zo _)];exact wpS_pure ⟨rfl,D⟩
 ·rintro c t (⟨hx,_,_⟩|⟨_,j,D⟩)
  ·omega
  ·exact⟨j,D⟩
 ·rintro c t ⟨rfl,D⟩;dsimp only;refine AL (wpS_mono (wpS_forRange (I:=λ_ c u=>u=t/\c=(Y,())) (Q:=λc u=>u=t/\c=(Y,())) ?_ (λ_ _ q=>q) ⟨rfl,rfl⟩) ?_)
  ·rintro x c u _ _ ⟨rfl,rfl⟩;refine AL (wpS_get ?_);rw[zk (by rw[D.2.2.1];exact zo 1)];exact wpS_pure ⟨rfl,rfl⟩
  ·rintro c u ⟨rfl,rfl⟩;exact wpS_pure (h _ D.1 D.2.1 D.2.2.2)
def EX(a:A1)(s s':A2):Prop:=∀c o,c≠a->s.heap.get? c=U o->s'.heap.get? c=U o
theorem N0{vs:Z A0}{P:Fin->A2->Prop}(ho:s.heap.get? a=U (seqObj "list" vs.toArray n))(l:2<=vs.length->∀s',EX a s s'->∀Q:SortKind->A2->Prop,Q kd s'->A7 (A8 prog w) A (keyKind' vs.toArray) Q E s')(g:∀s',EX a s s'->Zw prog w A s' kd rk (pairsOf vs))(p:vs.length<64)(h:∀st:SortSt,(AM st).Perm (pairsOf vs)->Up rk (AM st) (pairsOf vs).size->P (.done (.ret .none)) { s with heap:=sortedHeap s.heap a vs ((AM st).map (·.2)) }):
  A7 (A8 prog w) A (Builtin.«list.sort» ⟨[.ref a],[]⟩) P E s:=by
 rw[list_sort_plain];have ha:=zz ho;refine zb (listItems_at ho S (zb (listUpdate_at ho S ?_)));obtain⟨e1,g1⟩:∃e1,(s.heap.update a (Obj.mapSeq λ_=>#[])).get? a=U (seqObj "list" #[] e1):=⟨_,get?_update_seq ho λ_=>#[]⟩;refine zb (seqEpoch_at g1 S (zb (wpAny_newTuple (zb (wpAny_newList (QQ ?_))))));have z1:(s.heap.update a (Obj.mapSeq λ_=>#[])).objs.size=s.heap.objs.size:=Heap.size_update ..;have keep:∀c,c<s.heap.objs.size->(((s.heap.update a (Obj.mapSeq λ_=>#[])).push (seqObj "tuple" vs.toArray 0)).push (seqObj "list" #[] 0)).get? c=(s.heap.update a (Obj.mapSeq λ_=>#[])).get? c:=λc b=>by
  rw[Heap.get?_push_ne _ _ _ (by rw[size_push',z1];exact zS (Qr b)),Heap.get?_push_ne _ _ _ (by rw[z1];exact zS b)]
 have d:=(keep a ha).trans g1;have old:EX a s { s with heap:=((s.heap.update a (Obj.mapSeq λ_=>#[])).push (seqObj "tuple" vs.toArray 0)).push (seqObj "list" #[] 0) }:=λc o b e=>by
  show(((s.heap.update a (Obj.mapSeq λ_=>#[])).push (seqObj "tuple" vs.toArray 0)).push (seqObj "list" #[] 0)).get? c=U o;rw[keep c (zz e),Jn _ _ _ _ b];exact e
 show A7 _ _ _ _ _ { s with heap:=((s.heap.update a (Obj.mapSeq λ_=>#[])).push (seqObj "tuple" vs.toArray 0)).push (seqObj "list" #[] 0) };have y:vs.toArray.size=vs.length:=by simp
 have f:∀st:SortSt,(AM st).Perm (pairsOf vs)->((AM st).map (·.2)).size<=AA+1:=λst hp=>by
  have q:((AM st).map (·.2)).size=vs.length:=(Array.size_map ..).trans (hp.size_eq.trans (pairsOf_size _));rw[q,sizeLine_eq];omega
 by_cases h2:vs.toArray.size<2
 ·simp only[zk h2];refine zb (ze ?_);rw[StateT.run_pure];refine zb (ze (zb (seqEpoch_at d S (zb (listUpdate_at d S ?_ (hsz2:=f (SortSt.mk' general' (pairsOf vs) #[] 7 Y) (Array.Perm.refl _)))))));simp only[bne_self_eq_false,zl,ZN];refine ze (h (SortSt.mk' general' (pairsOf vs) #[] 7 Y) (Array.Perm.refl _) λi j z u=>?_);rw[pairsOf_size]at u;rw[show i=j by omega];exact zo _
 ·simp only[zw h2];refine zb (l (by omega) _ old _ ?_);refine zb (QI (Gc (g _ old) (st:=SortSt.mk' kd (pairsOf vs) #[] 7 Y) (Q:=λ_ t=>(AM t).Perm (pairsOf vs)/\failedOf t=Y/\Up rk (AM t) (pairsOf vs).size) ⟨Array.Perm.refl _,rfl,rfl,rfl⟩ (by rw[pairsOf_size];omega) (by rw[pairsOf_size];exact p) λt q1 q2 x=>⟨q1,q2,x⟩) ?_ λ_ _ q=>q);rintro⟨⟨⟩,t⟩ s' ⟨rfl,hp,m,v⟩;dsimp only;refine zb (seqEpoch_at d S (zb (listUpdate_at d S ?_ (hsz2:=f t hp))));rw[m];simp only[bne_self_eq_false,zl,ZN];exact ze (h t hp v)
theorem Yp{x:A0}{vs:Z A0}{Q:BA}(u:∀(b:BA) (f:Z A0->A2->Prop),(∀h' tk,s.heap.objs.size<=h'.objs.size->(∀c o,s.heap.get? c=U o->h'.get? c=U o)->f vs { s with heap:=h',toks:=tk })->A7 (A8 prog w) A.in1 (collect x) f b s)
  (j:2<=vs.length->∀(b:BA) (a:A5) (s':A2),(∀c o,s.heap.get? c=U o->s'.heap.get? c=U o)->∀Q:SortKind->A2->Prop,Q kd s'->A7 (A8 prog w) a (keyKind' vs.toArray) Q b s') (i:∀(a:A5) (s':A2),(∀c o,s.heap.get? c=U o->s'.heap.get? c=U o)->Zw prog w a s' kd rk (pairsOf vs)) (t:vs.length<64)
  (h:∀(l:A1) (h':A6) (tk n:Nat) (st:SortSt),(AM st).Perm (pairsOf vs)->Up rk (AM st) (pairsOf vs).size->s.heap.objs.size<=l->(∀c o,s.heap.get? c=U o->h'.get? c=U o)->h'.get? l=U (seqObj "list" ((AM st).map (·.2)) n)->Q (.ref l) { s with heap:=h',toks:=tk }):
  A7 (A8 prog w) A (call (.builtin "sorted") [x]) Q E s:=by
 refine Calls.call_function_entry kind_sorted plain_sorted entry_sorted (args_sorted1 _) ?_;unfold Builtin.«sorted»;refine zb (m:=checkCount "sorted" 1 1 _) (ze (zb (u _ _ λh1 tk p ext=>zb (wpAny_newList ?_))));have d:(h1.push (seqObj "list" vs.toArray 0)).get? h1.objs.size=U (seqObj "list" vs.toArray 0):=zv _ rfl;have old:∀s':A2,EX h1.objs.size { s with heap:=h1.push (seqObj "list" vs.toArray 0),toks:=tk } s'->∀c o,s.heap.get? c=U o->s'.heap.get? c=U o:=λs' q c o e=>
  q c o (zS (zz (ext c o e))) (zd _ (ext c o e))
 refine zb (QQ (kg slot_list_sort ⟨_,d,rfl⟩ entry_list_sort (N0 d (λq s' o=>j q _ _ s' (old s' o)) (λs' o=>i _ s' (old s' o)) t λst q1 q2=>⟨_,rfl,ze ⟨_,rfl,?_⟩⟩) (args_list_sort _)));obtain⟨n,g⟩:=sortedHeap_at (out:=(AM st).map (·.2)) d;refine h h1.objs.size _ tk n st q1 q2 p (λc o e=>?_) g;have hb:=zz (ext c o e);rw[sortedHeap_old (zS hb) (by rw[qq];exact Qr hb)];exact zd _ (ext c o e)
end
end S1
namespace S1
open L2
theorem Yq(fb:Bool)(x y:A0):keyLt' (tuples' fb) x y=(do
  let xs <-Builtin.List.listItems x
  let ys <-Builtin.List.listItems y
  for ((p,q),i) in (xs.toList.zip ys.toList).zipIdx do
   if !(<-eqBool p q)then return <-oneLt' (fb&&i==0) p q
  return decide (xs.size<ys.size)):=rfl
def Wu:AY->AY->Bool
 |.inl a,.inl b=>decide (a<b)
 |.inr x,.inr y=>decide (x.cps.toList<y.cps.toList)
 |.inl _,.inr _=>true
 |.inr _,.inl _=>false
def Wv:AY->AY->Bool
 |.inl _,.inl _=>true
 |.inr _,.inr _=>true
 |_,_=>false
def lM:Z AY->Z AY->Bool
 |[],[]=>false
 |[],_::_=>true
 |_::_,[]=>false
 |x::xs,y::ys=>if x=y then lM xs ys else Wu x y
def D9:Z AY->Z AY->Prop
 |x::xs,y::ys=>Wv x y=true/\D9 xs ys
 |_,_=>True
theorem E8{x y:AY}{p q:A0}{Q:Bool->A2->Prop}(hp:lH x p=true)(c:lH y q=true)(h:Q (decide (x=y)) s):A7 (A8 prog w) A (eqBool p q) Q E s:=
 (bw prog w).eqBool (a:=x) (b:=y) hp c h
theorem Ps{fb:Bool}{x y:AY}{p q:A0}{Q:Bool->A2->Prop}(hs:Wv x y=true)(hp:lH x p=true)(a:lH y q=true)(h:Q (Wu x y) s):A7 (A8 prog w) A (oneLt' fb p q) Q E s:=by
 rcases bU hp with⟨i,t,rfl,rfl⟩|⟨z,t,rfl,rfl⟩
 ·rcases bU a with⟨j,u,rfl,rfl⟩|⟨z,u,rfl,rfl⟩
  ·cases fb with
   |true=>exact oneLt_int h
   |false=>
    rw[oneLt'_eq];simp only[zl,ZN];refine zb (show A7 _ _ (AG .Lt (.int i t) (.int j u)) _ _ _ from lt_int ?_);exact ja h
  ·cases hs
 ·rcases bU a with⟨j,u,rfl,rfl⟩|⟨b,u,rfl,rfl⟩
  ·cases hs
  ·cases fb with
   |true=>exact oneLt_str h
   |false=>
    rw[oneLt'_eq];simp only[zl,ZN];refine zb (show A7 _ _ (AG .Lt (.str z t) (.str b u)) _ _ _ from PySem.P.lt_str ?_);exact ja h
def Ks(ks:Z AY)(AQ:Z A0):Prop:=AI (λk v=>lH k v=true) ks AQ
def DS:Z AY->Z AY->O Bool
 |x::xs,y::ys=>if x=y then DS xs ys else U (Wu x y)
 |_,_=>Y
theorem MU:∀ks a:Z AY,lM ks a=match DS ks a with|some r=>r|none=>decide (ks.length<a.length)
 |[],[]=>rfl
 |[],_::_=>by simp[lM,DS]
 |_::_,[]=>rfl
 |x::xs,y::ys=>by
  simp only[lM,DS];by_cases e:x=y
  ·rw[zk e,zk e,MU xs ys];simp only[ZZ,Nat.add_lt_add_iff_right]
  ·rw[zw e,zw e]
def turn(fb:Bool):(A0×A0)×Nat->O Bool×Unit->Sem (ForInStep (O Bool×Unit)):=λx _=>match x with
 |((p,q),i)=>do
  let e <-eqBool p q
  if(!e)=true then do
    let r <-oneLt' (fb&&i==0) p q
    pure (ForInStep.done (U r,()))
   else pure (ForInStep.yield (Y,()))
theorem FE(fb:Bool):∀(ks b:Z AY) (AQ a:Z A0) (i:Nat) (R:O Bool×Unit->A2->Prop),Ks ks AQ->Ks b a->D9 ks b->R (DS ks b,()) s->A7 (A8 prog w) A (forIn ((AQ.zip a).zipIdx i) ((Y,()):O Bool×Unit) (turn fb)) R E s
 |[],_,_,_,_,R,.nil,_,_,h=>ze h
 |_::_,[],_::_,_,_,R,_,.nil,_,h=>ze h
 |x::xs,y::ys,p::AQ,q::a,i,R,.cons hp hk,.cons hq hl,hs,h=>by
  rw[List.zip_cons_cons,List.zipIdx_cons,List.forIn_cons];refine zb ?_;show A7 _ _ (eqBool p q >>= _) _ _ _;refine zb (E8 hp hq ?_);by_cases e:x=y
  ·simp only[e,Kb,ky,zl,ZN];refine ze (FE fb xs ys AQ a (i+1) R hk hl hs.2 ?_);simp only[DS,zk e]at h;exact h
  ·simp only[e,kC,kB,qA];refine zb (Ps hs.1 hp hq (ze (ze ?_)));simp only[DS,zw e]at h;exact h
theorem WO{fb:Bool}{c:A1}{j g:AE}{d:Z A0}{m:Nat}{b:Z AY}{Q:Bool->A2->Prop}(ha:s.heap.get? a=U j)(o:j.data=.seq AQ.toArray n)(p:s.heap.get? c=U g)(q:g.data=.seq d.toArray m)(f:Ks ks AQ)(i:Ks b d)(hs:D9 ks b)(h:Q (lM ks b) s):A7 (A8 prog w) A (keyLt' (tuples' fb) (.ref a) (.ref c)) Q E s:=by
 rw[Yq];refine zb (listItems_at ha o (zb (listItems_at p q ?_)));have t:AQ.length=ks.length:=(Paired.length f).symm;have l:d.length=b.length:=(Paired.length i).symm;refine zb (FE fb ks b AQ d 0 _ f i hs ?_);rw[MU]at h;cases e:DS ks b with
 |some r=>rw[e]at h;exact ze h
 |none=>
  rw[e]at h;refine ze ?_;simpa[t,l]using h
theorem TK(x:AY):Wu x x=false:=by
 cases x with
 |inl a=>simp[Wu]
 |inr a=>simp[Wu]
theorem Yr{x y z:AY}(h:Wu x y=true)(h':Wu y z=true):Wu x z=true:=by
 cases x<;>cases y<;>cases z<;>simp only[Wu,ZE,zl,reduceCtorEq]at h h' ⊢
 ·omega
 ·exact List.lt_trans h h'
theorem OY{x y:AY}(h:Wu x y=false)(h':Wu y x=false):x=y:=by
 cases x<;>cases y<;>simp only[Wu,Q3,Bool.true_eq_false,reduceCtorEq]at h h'
 ·congr 1;omega
 ·rename_i a b;have:=List.le_antisymm (as:=a.cps.toList) (bs:=b.cps.toList) h' h;cases a;cases b;simp only at this;rw[Array.toList_inj.mp this]
theorem w5:∀xs:Z AY,lM xs xs=false
 |[]=>rfl
 |x::xs=>by simp only[lM,qA];exact w5 xs
theorem qN:∀{xs ys zs:Z AY},lM xs ys=true->lM ys zs=true->lM xs zs=true
 |[],[],_,h,_=>by cases h
 |[],_::_,[],_,h'=>by cases h'
 |[],_::_,_::_,_,_=>rfl
 |_::_,[],_,h,_=>by cases h
 |_::_,_::_,[],_,h'=>by cases h'
 |x::xs,y::ys,z::zs,h,h'=>by
  simp only[lM]at h h' ⊢;by_cases e1:x=y
  ·subst e1;rw[zk rfl]at h;by_cases e2:x=z
   ·subst e2;rw[zk rfl]at h' ⊢;exact qN h h'
   ·rw[zw e2]at h' ⊢;exact h'
  ·rw[zw e1]at h;by_cases e2:y=z
   ·subst e2;rw[zw e1];exact h
   ·rw[zw e2]at h';have:=Yr h h';rw[zw (λe=>by subst e;rw[TK]at this;cases this)];exact this
theorem Ax:∀{xs ys:Z AY},lM xs ys=false->lM ys xs=false->xs=ys
 |[],[],_,_=>rfl
 |[],_::_,h,_=>by cases h
 |_::_,[],_,h'=>by cases h'
 |x::xs,y::ys,h,h'=>by
  simp only[lM]at h h';by_cases e:x=y
  ·subst e;rw[zk rfl]at h h';rw[Ax h h']
  ·rw[zw e]at h;rw[zw (KO e)]at h';exact absurd (OY h h') e
def w6(xs ys:Z AY):Bool:=!lM ys xs
theorem uP(a b c:Z AY)(h:w6 a b=true)(h':w6 b c=true):w6 a c=true:=by
 unfold w6 at *
 simp only[QA]at *
 cases f:lM c a with
 |false=>rfl
 |true=>
  cases d:lM a b with
  |true=>rw[qN f d]at h';cases h'
  |false=>
   have e:=Ax d h;subst e;rw[f]at h';cases h'
theorem zA(a b:Z AY):(w6 a b||w6 b a)=true:=by
 unfold w6;cases h:lM b a with
 |false=>rfl
 |true=>
  cases h':lM a b with
  |false=>rfl
  |true=>have:=qN h h';rw[w5]at this;cases this
theorem Dp{a b:Z AY}(h:w6 a b=true)(h':w6 b a=true):a=b:=by
 unfold w6 at *
 simp only[QA]at *
 exact Ax h' h
theorem rN{α:Type}{le:α->α->Prop}(c:∀a b,le a b->le b a->a=b):∀{l l':Z α},l.Perm l'->l.Pairwise le->l'.Pairwise le->l=l'
 |[],l',h,_,_=>by rw[List.nil_perm.mp h]
 |a::l,[],h,_,_=>by cases List.perm_nil.mp h
 |a::l,b::l',h,p,p'=>by
  have e:a=b:=by
   have ha:a∈b::l':=h.mem_iff.mp (zg ..);have hb:b∈a::l:=h.mem_iff.mpr (zg ..);rcases List.mem_cons.mp ha with h1|h1
   ·exact h1
   ·rcases List.mem_cons.mp hb with h2|h2
    ·exact h2.symm
    ·exact c a b (JO p h2) (JO p' h1)
  subst e;rw[rN c ((List.perm_cons a).mp h) (List.pairwise_cons.mp p).2 (List.pairwise_cons.mp p').2]
def lN(cJ:Z (Z AY)):Z (Z AY):=cJ.mergeSort w6
theorem ou(cJ:Z (Z AY)):(lN cJ).Perm cJ:=Kx ..
theorem xg(cJ:Z (Z AY)):(lN cJ).Pairwise (λa b=>w6 a b=true):=kQ uP zA cJ
theorem uw{out:Z (Z AY)}(hp:out.Perm cJ)(hs:out.Pairwise (λa b=>w6 a b=true)):out=lN cJ:=rN (λ_ _=>Dp) (hp.trans (ou cJ).symm) hs (xg cJ)
def CI(cJ:Z (Z AY))(k:Z AY):Nat:=cJ.countP λu=>lM u k
theorem Lx{α:Type}{p q:α->Bool}:∀{l:Z α},(∀x∈l,p x=true->q x=true)->(∃x∈l,p x=false/\q x=true)->l.countP p<l.countP q
 |[],_,⟨x,hx,_⟩=>by cases hx
 |a::l,h,⟨x,hx,h1,h2⟩=>by
  have le:l.countP p<=l.countP q:=List.countP_mono_left λy b=>h y (zi _ b);rw[List.countP_cons,List.countP_cons];rcases List.mem_cons.mp hx with rfl|hx
  ·rw[h1,h2];simp;omega
  ·have:=Lx (λy b=>h y (zi _ b)) ⟨x,hx,h1,h2⟩;have ha:=h a (zg ..);cases hp:p a with
   |true=>rw[ha hp];simp;omega
   |false=>simp;omega
theorem Ww{a b:Z AY}(ha:a∈cJ):decide (CI cJ a<CI cJ b)=lM a b:=by
 cases h:lM a b with
 |true=>
  refine Zs (Lx (λu _ c=>qN c h) ⟨a,ha,w5 a,h⟩)
 |false=>
  refine z5 (Nat.not_lt.mpr (List.countP_mono_left λu _ c=>?_));cases hb:lM b a with
  |true=>exact qN c hb
  |false=>rw[Ax h hb];exact c
def j4(h:A6)(ks:Z AY)(v:A0):Prop:=∃(a:A1) (o:AE) (AQ:Z A0) (n:Nat),v=.ref a/\h.get? a=U o/\o.cls=.type "tuple" ∧ o.data=.seq AQ.toArray n/\Ks ks AQ
theorem j4.keep{h':A6}{v:A0}(q:j4 h ks v)(k:∀c o,h.get? c=U o->h'.get? c=U o):j4 h' ks v:=by
 obtain⟨a,o,AQ,n,e,g,c,d,p⟩:=q;exact⟨a,o,AQ,n,e,k _ _ g,c,d,p⟩
theorem UM{k l:AY}{v:A0}(h:lH k v=true)(h':lH l v=true):k=l:=by
 rcases bU h with⟨i,t,rfl,rfl⟩|⟨x,t,rfl,rfl⟩
 ·rcases bU h' with⟨j,u,rfl,e⟩|⟨y,u,rfl,e⟩
  ·cases e;rfl
  ·cases e
 ·rcases bU h' with⟨j,u,rfl,e⟩|⟨y,u,rfl,e⟩
  ·cases e
  ·cases e;rfl
theorem Ks.inj:∀{ks a:Z AY} {AQ:Z A0},Ks ks AQ->Ks a AQ->ks=a
 |_,_,[],h,h'=>by cases h;cases h';rfl
 |_,_,v::AQ,h,h'=>by
  cases h with
  |cons p t=>cases h' with
   |cons p' t'=>rw[UM p p',Ks.inj t t']
theorem j4.inj{h:A6}{ks i:Z AY}{v:A0}(q:j4 h ks v)(j:j4 h i v):ks=i:=by
 obtain⟨a,o,AQ,n,rfl,g,c,d,p⟩:=q;obtain⟨m,o',l,s,e,b,t,f,p'⟩:=j;cases e;rw[g]at b;cases b;rw[d]at f;injection f with e1 e2;have e3:AQ=l:=by simpa using congrArg Array.toList e1
 subst e3;exact p.inj p'
theorem Oa{α β:Type}{f:α->Sem β}:∀(xs:Z α) (ys:Z β) (Q:Z β->A2->Prop),AI (λx y=>∀(b:BA) (a:β->A2->Prop),a y s->A7 (A8 prog w) A (f x) a b s) xs ys->Q ys s->A7 (A8 prog w) A (xs.mapM f) Q E s
 |[],_,Q,.nil,h=>by rw[List.mapM_nil];exact ze h
 |x::xs,y::ys,Q,.cons h t,q=>by
  rw[List.mapM_cons];exact zb (h _ _ (zb (Oa xs ys _ t (ze q))))
theorem SF(v:A0):firstOfTuple' v=(do
  if(<-typeOf v) != .type "tuple" then return Y
  return (<-Builtin.List.listItems v)[0]?):=rfl
theorem Ys{k:AY}{v:A0}(q:j4 s.heap (k::ks) v):∃u,lH k u=true/\∀(e:BA) (b:O A0->A2->Prop),b (U u) s->A7 (A8 prog w) A (firstOfTuple' v) b e s:=by
 obtain⟨a,o,AQ,n,rfl,g,c,d,p⟩:=q;cases p with
 |@cons _ u _ AQ hp t=>
  refine⟨u,hp,λe b h=>?_⟩;rw[SF];refine zb (QR (T :="tuple") ⟨o,g,c⟩ ?_);rw[zw (by decide)];exact zb (listItems_at g d (ze h))
theorem Y3{k:AY}(h:lH k u=true)(b:BA)(a:BA)(q:a (.type (if k.isLeft then "int" else "str")) s):A7 (A8 prog w) A (typeOf u) a b s:=by
 rcases bU h with⟨i,t,rfl,rfl⟩|⟨x,t,rfl,rfl⟩
 ·exact QR (typeIs_int s i t) q
 ·exact QR (typeIs_str s x t) q
theorem Ly{vs:Z A0}{Q:SortKind->A2->Prop}(j:AI (j4 s.heap) cJ vs)(i:∀k∈cJ,k≠[])(o:∀k∈cJ,∀l∈cJ,D9 k l)(h2:1<=vs.length)(h:Q (tuples' true) s):A7 (A8 prog w) A (keyKind' vs.toArray) Q E s:=by
 have step:∀(cJ:Z (Z AY)) (vs:Z A0),AI (j4 s.heap) cJ vs->(∀k∈cJ,k≠[])->∃us:Z A0,AI (λv u=>∀(c:BA) (a:O A0->A2->Prop),a (U u) s->A7 (A8 prog w) A (firstOfTuple' v) a c s) vs us/\AI (λ(k:Z AY) u=>∃x r,k=x::r/\lH x u=true) cJ us:=by
  intro cJ vs j
  induction j with
  |nil=>intro _;exact⟨[],.nil,.nil⟩
  |@cons k v cJ vs q t d=>
   intro i;obtain⟨us,p1,p2⟩:=d λk e=>i k (zi _ e);cases k with
   |nil=>exact absurd S (i _ (zg ..))
   |cons x r=>
    obtain⟨u,g,C⟩:=Ys (prog:=prog) (w:=w) (A:=A) q;exact⟨u::us,.cons C p1,.cons ⟨x,r,rfl,g⟩ p2⟩
 obtain⟨us,p1,p2⟩:=step cJ vs j i;have B:us.length=vs.length:=(Paired.length p1).symm;have y:∀{l:Z A0} {n:Z A0},AI (λv u=>∀(c:BA) (a:O A0->A2->Prop),a (U u) s->A7 (A8 prog w) A (firstOfTuple' v) a c s) l n->AI (λv u=>∀(c:BA) (a:O A0->A2->Prop),a u s->A7 (A8 prog w) A (firstOfTuple' v) a c s) l (n.map U):=λh=>by
  induction h with
  |nil=>exact .nil
  |cons q t d=>exact .cons q d
 rw[keyKind'_eq,List.mapM_toArray,map_eq_pure_bind];refine zb (zb (Oa vs (us.map U) _ (y p1) (ze ?_)));have F:(us.map U).toArray.all (·.isSome)=true:=by simp
 rw[zk F];refine zb (k8 ?_);have z:(us.map U).toArray.filterMap id=us.toArray:=by simp
 rw[z,oneTypeOnly'_eq,List.mapM_toArray,map_eq_pure_bind];have ty:∀(cJ:Z (Z AY)) (us:Z A0),AI (λ(k:Z AY) u=>∃x r,k=x::r/\lH x u=true) cJ us->∃ts:Z A0,AI (λu t=>∀(c:BA) (a:BA),a t s->A7 (A8 prog w) A (typeOf u) a c s) us ts/\AI (λ(k:Z AY) t=>∃x r,k=x::r/\t=.type (if x.isLeft then "int" else "str")) cJ ts:=by
  intro cJ us hp
  induction hp with
  |nil=>exact⟨[],.nil,.nil⟩
  |@cons k u cJ us q t d=>
   obtain⟨ts,q1,q2⟩:=d;obtain⟨x,r,rfl,hx⟩:=q;exact⟨_::ts,.cons (λc a h=>Y3 hx c a h) q1,.cons ⟨x,r,rfl,rfl⟩ q2⟩
 obtain⟨ts,q1,q2⟩:=ty cJ us p2;refine zb (zb (zb (Oa us ts _ q1 (ze ?_))));have lt:ts.length=vs.length:=by rw[<-Paired.length q1,B]
 cases q2 with
 |nil=>simp at lt;omega
 |@cons J G H m h0 p=>
  obtain⟨b,r,rfl,rfl⟩:=h0;have same:∀t∈m,t=Value.type (if b.isLeft then "int" else "str"):=by
   have D:∀(cJ:Z (Z AY)) (ts:Z A0),AI (λ(k:Z AY) t=>∃x r,k=x::r/\t=Value.type (if x.isLeft then "int" else "str")) cJ ts->(∀k∈cJ,D9 (b::r) k)->∀t∈ts,t=Value.type (if b.isLeft then "int" else "str"):=by
    intro cJ ts hp
    induction hp with
    |nil=>intro _ t f;cases f
    |@cons k t cJ ts q _ d=>
     intro hs u g;rcases List.mem_cons.mp g with rfl|g
     ·obtain⟨x,I,rfl,rfl⟩:=q;have:=(hs _ (zg ..)).1;cases b<;>cases x<;>first|rfl|cases this
     ·exact d (λk e=>hs k (zi _ e)) u g
   exact D _ _ p λk e=>o _ (zg ..) k (zi _ e)
  have e0:(Value.type (if b.isLeft then "int" else "str")::m).toArray[0]?=U (Value.type (if b.isLeft then "int" else "str")):=by simp
  have e1:((Value.type (if b.isLeft then "int" else "str")::m).toArray.all λx=>x==Value.type (if b.isLeft then "int" else "str"))=true:=by
   simp only[List.all_toArray,qh];intro t f;rcases List.mem_cons.mp f with rfl|f
   ·simp
   ·rw[same t f];simp
  rw[e0];simp only[e1,qA];refine ze (ze ?_);have e2:((U (Value.type (if b.isLeft then "int" else "str"))).any λx=>x !=Value.type "tuple")=true:=by
   cases b with
   |inl _=>exact(by decide:((U (Value.type "int")).any λx=>x !=Value.type "tuple")=true)
   |inr _=>exact(by decide:((U (Value.type "str")).any λx=>x !=Value.type "tuple")=true)
  rw[e2];exact h
def BD(cJ:Z (Z AY))(vs:Z A0)(v:A0):Z AY:=match (vs.zip cJ).find? (λp=>p.1==v)with
 |some p=>p.2
 |none=>[]
theorem mL{h:A6}:∀{cJ:Z (Z AY)} {vs:Z A0},AI (j4 h) cJ vs->∀v∈vs,BD cJ vs v∈cJ/\j4 h (BD cJ vs v) v
 |_,_,.nil,v,hv=>by cases hv
 |k::cJ,u::vs,.cons q t,v,hv=>by
  unfold BD;rw[List.zip_cons_cons,kr];by_cases e:u=v
  ·subst e;simp only[beq_self_eq_true];exact⟨zg ..,q⟩
  ·have e':(u==v)=false:=by simpa using e
   simp only[e'];have b:v∈vs:=by
    rcases List.mem_cons.mp hv with h|h
    ·exact absurd h.symm e
    ·exact h
   have a:=mL t v b;exact⟨zi _ a.1,a.2⟩
theorem Ei{h:A6}:∀{cJ:Z (Z AY)} {vs:Z A0},AI (j4 h) cJ vs->∀(K:A0->Z AY),(∀v∈vs,j4 h (K v) v)->vs.map K=cJ
 |_,_,.nil,_,_=>rfl
 |k::cJ,v::vs,.cons q t,K,hK=>by
  rw[zr,(hK v (zg ..)).inj q,Ei t K λu a=>hK u (zi _ a)]
theorem zB{h:A6}:∀{vs:Z A0} {K:A0->Z AY},(∀v∈vs,j4 h (K v) v)->AI (j4 h) (vs.map K) vs
 |[],_,_=>.nil
 |v::vs,K,hK=>.cons (hK v (zg ..)) (zB λu a=>hK u (zi _ a))
theorem Q8{vs:Z A0}(b:AI (j4 s.heap) cJ vs)(t:∀k∈cJ,∀l∈cJ,D9 k l):Zw prog w A s (tuples' true) (λv=>CI cJ (BD cJ vs v)) (pairsOf vs):=by
 intro E p q Q hp f h;rw[pairsOf_toList]at hp f;obtain⟨i,t1⟩:=mL b p.1 (mem_zip_self hp).2;obtain⟨u,t2⟩:=mL b q.1 (mem_zip_self f).2;rw[Ww i]at h;have y:=t _ i _ u;obtain⟨a,o,AQ,n,e,g,c,d,k⟩:=t1;obtain⟨z,o',D,B,e',m,C,x,j⟩:=t2;rw[e,e'];exact WO g d m x k j y h
theorem Q9{vs:Z A0}(a:AI (j4 h) cJ vs){xs:Array Keyed}(hp:xs.Perm (pairsOf vs))(m:Up (λv=>CI cJ (BD cJ vs v)) xs (pairsOf vs).size):AI (j4 h) (lN cJ) (xs.map (·.2)).toList:=by
 have c:xs.toList.Perm (vs.zip vs):=by rw[<-pairsOf_toList];exact Array.perm_iff_toList_perm.mp hp
 have b:∀p∈xs.toList,p.1=p.2/\p.1∈vs:=λp q=>mem_zip_self (c.mem_iff.mp q);have e:(xs.map (·.2)).toList=xs.toList.map (·.1):=by
  rw[Array.toList_map];exact Qb λp q=>(b p q).1.symm
 have pv:(xs.toList.map (·.1)).Perm vs:=by
  have:=c.map Prod.fst;rwa [List.map_fst_zip (zo _)]at this
 have f:lN cJ=(xs.toList.map (·.1)).map (BD cJ vs):=by
  refine(uw ?_ ?_).symm
  ·have:=pv.map (BD cJ vs);rwa [Ei a _ λv q=>(mL a v q).2]at this
  ·rw[List.pairwise_iff_getElem];intro i j hi l n;have o:i<xs.size:=by simpa using hi
   have d:j<xs.size:=by simpa using l
   have u:=m i j (jS n) (by rw[<-hp.size_eq];exact d);unfold at_ at u;rw[getElem?_pos xs i o,getElem?_pos xs j d]at u;have g:=(mL a xs[j].1 (b xs[j] (by simp)).2).1;simp only[List.getElem_map,Array.getElem_toList];unfold w6;rw[<-Ww g,z5 (Nat.not_lt.mpr u)];rfl
 rw[f,e];refine zB λv q=>(mL a v ?_).2;exact pv.mem_iff.mp q
end S1
namespace P1
open L2 S1
theorem Uu{l:A1}{o:AE}{T:String}{vs:Z A0}{Q:Z A0->A2->Prop}(ho:s.heap.get? l=U o)(a:o.cls=.type T)(d:T ="list" ∨ T ="tuple")(hd:o.data=.seq vs.toArray n)(g:vs.length<=AA)(h:∀h' tk,s.heap.objs.size<=h'.objs.size->(∀c o,s.heap.get? c=U o->h'.get? c=U o)->Q vs { s with heap:=h',toks:=tk }):A7 (A8 prog w) A (collect (.ref l)) Q E s:=by
 unfold collect;refine zb (wpAny_runValue (JP entry_proto_collect' ?_));show A7 _ _ (newList [] >>= λq=>again (.builtin "list.__iadd__" ⟨[q,.ref l],[]⟩)) _ _ s;refine zb (wpAny_newList (ze ⟨Code.quiet_builtin _ (by decide +kernel),JP entry_list_iadd' ?_⟩));show A7 _ _ (Builtin.List.listExtendWith (.ref s.heap.objs.size) (.ref l) (.ref s.heap.objs.size)) _ _ _;unfold Builtin.List.listExtendWith;have g1:(s.heap.push (seqObj "list" #[] 0)).get? l=U o:=zd _ ho;refine zb (QR (T:=T) ⟨o,g1,a⟩ ?_);have b:(Value.type T==Value.type "list" || Value.type T==Value.type "tuple")=true:=by rcases d with rfl|rfl<;>decide
 rw[zk (by rw[Bool.or_assoc,b];simp)];refine zb (listItems_at g1 hd (zb (listItems_at (xs:=#[]) (n:=0) (zv _ S) S ?_)));rw[zw (by simp)];have g2:(s.heap.push (seqObj "list" #[] 0)).get? s.heap.objs.size=U (seqObj "list" #[] 0):=zv _ rfl;refine zb (listUpdate_at (xs:=#[]) (n:=0) g2 S (ze ?_) (QP _) (by show(#[]++vs.toArray).size<=AA+1;simp only[k5,zC,List.length_nil];omega));show A7 (A8 prog w) A (load s.heap.objs.size >>= _) Q E _;refine zb (KB (get?_update_seq g2 _) ?_);show A7 _ _ (pure ((#[]:Array A0)++vs.toArray).toList) Q E _;rw[show((#[]:Array A0)++vs.toArray).toList=vs by simp];refine ze (h _ s.toks ?_ λc f e=>?_)
 ·rw[Heap.size_update,size_push'];exact Ki _
 ·rw[Jn _ _ _ _ (zS (zz e))];exact zd _ e
def GN:Dt->O AY
 |.int i=>U (.inl i)
 |.str x=>U (.inr x)
 |_=>Y
def Ej:Z Dt->O (Z AY)
 |[]=>U []
 |d::ds=>(GN d).bind λk=>(Ej ds).bind λks=>U (k::ks)
def HF:Dt->O (Z AY)
 |.tup ds=>Ej ds
 |_=>Y
def uQ:Z Dt->O (Z (Z AY))
 |[]=>U []
 |d::ds=>(HF d).bind λk=>(uQ ds).bind λks=>U (k::ks)
def dK:AY->Dt
 |.inl i=>.int i
 |.inr x=>.str x
def BH(ks:Z AY):Dt:=.tup (ks.map dK)
theorem Pi{k:AY}(h:GN d=U k):d=dK k:=by
 cases d<;>cases h<;>rfl
theorem Ra:∀{ds:Z Dt} {ks:Z AY},Ej ds=U ks->ds=ks.map dK
 |[],_,h=>by cases h;rfl
 |d::ds,_,h=>by
  obtain⟨k,e1,h⟩:=AT h;obtain⟨ks,e2,h⟩:=AT h;cases h;rw[zr,Pi e1,Ra e2]
theorem Rb(h:HF d=U ks):d=BH ks:=by
 cases d with
 |tup ds=>exact congrArg Dt.tup (Ra h)
 |_=>cases h
theorem Dq:∀{ds:Z Dt} {cJ:Z (Z AY)},uQ ds=U cJ->ds=cJ.map BH
 |[],_,h=>by cases h;rfl
 |d::ds,_,h=>by
  obtain⟨k,e1,h⟩:=AT h;obtain⟨ks,e2,h⟩:=AT h;cases h;rw[zr,Rb e1,Dq e2]
theorem cv{k:AY}(h:AW K H (dK k) v):v=kV k:=by
 cases k with
 |inl i=>exact(show v=.int i by simpa only[dK,AW]using h)
 |inr x=>exact(show v=.str x/\x.length<=AA by simpa only[dK,AW]using h).1
theorem Lz{K:B1}{H:Hp}:∀{ks:Z AY} {vs:Z V},aO K H (ks.map dK) vs->vs=ks.map kV
 |[],_,h=>by simp only[JY,aO]at h;exact h
 |k::ks,_,h=>by
  simp only[zr,aO]at h;obtain⟨v,r,rfl,h1,h2⟩:=h;rw[cv h1,Lz h2,zr]
theorem bi(X:Cx):∀{us:Z A0},AX (ks.map kV) us->Ks ks us:=by
 induction ks with
 |nil=>intro us h;cases h;exact .nil
 |cons k ks a=>
  intro us h;cases h with
  |cons r t=>exact .cons (G9 (P:=X.prog) (w:=X.w) r) (a t)
theorem rO{AN:Z (A1×AE)}{σ:L2.St}{H:Hp}{s:A2}(I:AU X AN σ H s):∀{cJ:Z (Z AY)} {vs:Z V} {AQ:Z A0},aO X.K H (cJ.map BH) vs->AX vs AQ->AI (j4 s.heap) cJ AQ
 |[],_,_,h,r=>by
  simp only[JY,aO]at h;subst h;cases r;exact .nil
 |k::cJ,_,_,h,r=>by
  simp only[zr,aO]at h;obtain⟨v,vs,rfl,h1,h2⟩:=h;cases r with
  |cons f e=>
   refine .cons ?_ (rO I h2 e);simp only[BH,AW]at h1;obtain⟨a,i,rfl,sq,rs⟩:=h1;obtain⟨AQ,b,⟨o,g,c,n,d⟩,_⟩:=I.tuple sq;cases f;rw[Lz rs]at b;exact⟨a,o,AQ,n,rfl,g,c,d,bi X b⟩
theorem Dr{AN:Z (A1×AE)}{σ:L2.St}{H:Hp}{s:A2}(I:AU X AN σ H s){cJ:Z (Z AY)}{vs:Z V}{AQ:Z A0}(h:aO X.K H (cJ.map BH) vs)(r:AX vs AQ):∀{Zx:Z (Z AY)} {out:Z A0},AI (j4 s.heap) Zx out->(∀u∈out,u∈AQ)->∃zs,AX zs out/\aO X.K H (Zx.map BH) zs
 |_,_,.nil,_=>⟨[],.nil,aO.nil⟩
 |l::Zx,u::out,.cons q t,hm=>by
  obtain⟨zs,z1,z2⟩:=Dr I h r t λx hx=>hm x (zi _ hx);have g:∀(cJ:Z (Z AY)) (vs:Z V) (AQ:Z A0),aO X.K H (cJ.map BH) vs->AX vs AQ->u∈AQ->∃v,Au v u/\AW X.K H (BH l) v:=by
   intro cJ
   induction cJ with
   |nil=>
    intro vs AQ h r a;simp only[JY,aO]at h;subst h;cases r;cases a
   |cons k cJ d=>
    intro vs AQ h r a;simp only[zr,aO]at h;obtain⟨v,vs,rfl,h1,h2⟩:=h;cases r with
    |@cons _ i _ _ b f=>
     rcases List.mem_cons.mp a with rfl|a
     ·have e:k=l:=by
       have:=rO I (cJ:=[k]) (vs:=[v]) (AQ:=[u]) (by simp only[zr,JY];exact aO.cons h1 aO.nil) (.cons b .nil);cases this with
       |cons c _=>exact c.inj q
      subst e;exact⟨v,b,h1⟩
     ·exact d vs _ h2 f a
  obtain⟨v,b,h1⟩:=g cJ vs AQ h r (hm u (zg ..));exact⟨v::zs,.cons b z1,by rw[zr];exact aO.cons h1 z2⟩
def Ob(k l:Z AY):Bool:=((k.zip l).all λp=>Wv p.1 p.2)
theorem HJ:∀{k l:Z AY},Ob k l=true->D9 k l
 |[],_,_=>by simp[D9]
 |_::_,[],_=>by simp[D9]
 |x::k,y::l,h=>by
  unfold Ob at h;rw[List.zip_cons_cons,ku,ZY]at h;exact⟨h.1,HJ h.2⟩
def FP(cJ:Z (Z AY)):Bool:=decide (cJ.length<64)&&(cJ.all (λk=>!k.isEmpty)&&cJ.all λk=>cJ.all λl=>Ob k l)
def oV:Z Bx->O Bx
 |[b]=>(uo b).bind λds=>(uQ ds).bind λcJ=>if FP cJ=true then U (.o ((lN cJ).map BH))else Y
 |_=>Y
theorem GF(h:aX K H b v)(e:uo b=U ds):∃a vs,v=.ref a/\(wJ K H a vs\/Cy K H a vs)/\aO K H ds vs:=by
 cases b with
 |z d=>
  cases d<;>first|(cases e;done)|skip
  ·cases e;simp only[aX,AW]at h;obtain⟨a,vs,e,q,r⟩:=h;exact⟨a,vs,e,.inr q,r⟩
  ·cases e;simp only[aX,AW]at h;obtain⟨a,vs,e,q,r⟩:=h;exact⟨a,vs,e,.inl q.sq,r⟩
 |l c=>cases e;obtain⟨a,vs,e,q,r⟩:=h;exact⟨a,vs,e,.inl (.inl q),r⟩
 |o c=>cases e;obtain⟨a,vs,e,q,r⟩:=h;exact⟨a,vs,e,.inl (.inl (.inl q)),r⟩
 |n _=>cases e
 |m _ _=>cases e
theorem Ay:uf X (.builtin "sorted") oV:=by
 intro AN s σ H xs us Q I G h;obtain⟨bs,c,rb,e,q⟩:=h;unfold oV at e;split at e
 ·rename_i b;obtain⟨ds,ed,e⟩:=AT e;obtain⟨cJ,ek,e⟩:=AT e;split at e
  ·rename_i hs;cases e;simp only[FP,ZY,ZE,qh,QA]at hs;obtain⟨M,J,y⟩:=hs;obtain⟨v,rfl,W⟩:=BS rb;obtain⟨p,vs,rfl,sq,rs⟩:=GF W ed;obtain⟨u,rfl,ru⟩:=BE G;cases ru;have P:=Dq ek;subst P;have K:∃(AQ:Z A0) (o:AE) (T:String) (n:Nat),AX vs AQ/\s.heap.get? p=U o/\o.cls=.type T/\(T ="list" ∨ T ="tuple")/\o.data=.seq AQ.toArray n/\vs.length<=AA:=by
    rcases sq with sq|sq
    ·obtain⟨AQ,f,pl,t⟩:=I.list sq;obtain⟨o,g,c,n,d⟩:=pl.isList;exact⟨AQ,o,_,n,f,g,c,.inl rfl,d,t⟩
    ·obtain⟨AQ,f,⟨o,g,c,n,d⟩,t⟩:=I.tuple sq;exact⟨AQ,o,_,n,f,g,c,.inr rfl,d,t⟩
   obtain⟨AQ,o,T,n,f,g,C,N,hd,t⟩:=K;have a1:AQ.length=cJ.length:=by rw[<-f.length,rs.length,zh]
   have tv:=rO I rs f;refine Yp (kd:=tuples' true) (rk:=λv=>CI cJ (BD cJ AQ v)) (vs:=AQ) (λE' L x=>Uu g C N hd (by rw[<-f.length];exact t) x)
    (λh2 E' B s' k L x=>Ly (Paired.imp' (λ_ _ z=>j4.keep z k) tv) (λk j=>by have:=J k j;cases k with|nil=>cases this|cons _ _=>exact List.cons_ne_nil _ _) (λk j l i=>HJ (y k j l i)) (by omega) x)
    (λB s' k=>Q8 (Paired.imp' (λ_ _ z=>j4.keep z k) tv) λk j l i=>HJ (y k j l i)) (by omega) λl h' tk m st hp up i ext hL=>?_
   have D:=Q9 tv hp up;have mem:∀u∈((AM st).map (·.2)).toList,u∈AQ:=λu A=>by
    rw[Array.toList_map]at A;obtain⟨pr,a0,rfl⟩:=List.mem_map.mp A;have E:pr∈AQ.zip AQ:=by rw[<-pairsOf_toList];exact(Array.perm_iff_toList_perm.mp hp).mem_iff.mp a0
    have:=mem_zip_self E;rw[<-this.1];exact this.2
   obtain⟨zs,z1,z2⟩:=Dr I rs f D mem;have F:zs.length=cJ.length:=by rw[z2.length,zh,(ou cJ).length_eq]
   have w:H l=Y:=I.hok.fresh i;refine⟨.ref l,_,I.laid (t':=tk) (a:=l) (o:=.lst zs) ext i ⟨by rw[F];exact jS (ZU M (by decide)),_,m,z1,?_⟩,rfl,q _ _ (cG w) (λa ea=>by cases ea;exact w) ⟨l,zs,rfl,bV,z2.kp (.of (cG w))⟩⟩;rw[hL]
  ·cases e
 ·cases e
end P1
namespace S6
theorem Yt{b:Source}{Q:Nat->A2->Prop}(a:n≠0)(h:∀i d,i<n->Q i { s with drawn:=d }):A7 M A (choose b n) Q E s:=
 λe p c=>⟨a,h _ _ (Nat.mod_lt _ (Nat.pos_of_ne_zero a))⟩
theorem Oc{α:Type}:∀{xs:Z α} {i:Nat} (hi:i<xs.length),(xs[i]::xs.eraseIdx i).Perm xs
 |x::xs,0,_=>List.Perm.refl _
 |x::xs,i+1,h=>by
  rw[List.eraseIdx_cons_succ,List.getElem_cons_succ];exact(List.Perm.swap _ _ _).trans ((Oc (xs:=xs) (i:=i) (by simpa using h)).cons x)
theorem UD:∀(n:Nat) (xs:Z α) (s:A2) (Q:Z α->A2->Prop),xs.length=n->(∀ys d,ys.Perm xs->Q ys { s with drawn:=d })->A7 M A (drawOrder n xs) Q E s:=by
 intro n
 induction n with
 |zero=>
  intro xs s Q a h;cases xs with
  |nil=>
   unfold drawOrder;exact ze (h [] s.drawn (List.Perm.refl _))
  |cons x xs=>simp at a
 |succ n b=>
  intro xs s Q a h;cases xs with
  |nil=>simp at a
  |cons x xs=>
   unfold drawOrder;refine zb (Yt (by simp) λi d hi=>?_);have e:(x::xs)[i]?=U (x::xs)[i]:=by simp[hi]
   rw[e];dsimp only;refine zb (b ((x::xs).eraseIdx i) _ _ (by rw[List.length_eraseIdx,zk hi];simp at a ⊢;omega) λys c hp=>ze ?_);exact h _ c ((List.Perm.cons _ hp).trans (Oc hi))
theorem Wx{α:Type}(next:Nat->Nat):∀(n k:Nat) (xs:Z α) (out:Array α),xs.length=n->(pickOrder.go next n k xs out).toList.Perm (out.toList++xs)
 |0,k,[],out,_=>by unfold pickOrder.go;simp
 |n+1,k,x::xs,out,hl=>by
  unfold pickOrder.go;have hi:next k%(x::xs).length<(x::xs).length:=Nat.mod_lt _ (by simp);have e:(x::xs)[next k%(x::xs).length]?=U (x::xs)[next k%(x::xs).length]:=by rw[z4 hi]
  rw[e];dsimp only;refine(Wx next n (k+1) _ _ (by rw[List.length_eraseIdx,zk hi];simp at hl ⊢;omega)).trans ?_;rw[Array.toList_push,ZI];exact(List.Perm.refl _).append (Oc hi)
theorem Yu(next:Nat->Nat)(xs:Array α):(pickOrder next xs).toList.Perm xs.toList:=by
 have:=Wx next xs.size 0 xs.toList #[] (by simp);simpa[pickOrder]using this
structure Wk (w:World) (h:Heap) (a:Addr) (es:Array (Int×Value)) (ep:Nat) (t:SetTable):Prop where
 at_:∃o,h.get? a=some o/\o.cls=.type "set" ∧ o.data=.set es ep t
 fit:t.fits es.size=true
 led:w.params.followText "set-order"=false->t.led=true
 non:1<es.size->t.plain=false
theorem Wk.keep{h':A6}{es:Array (Int×A0)}(x:Wk w h a es ep t)(k:∀o,h.get? a=U o->h'.get? a=U o):Wk w h' a es ep t:=
 ⟨let ⟨o,e,r⟩:=x.at_;⟨o,k o e,r⟩,x.fit,x.led,x.non⟩
def It(h:A6)(it a:A1)(first:A0)(i n ep:Nat):Prop:=∃o,h.get? it=U o/\o.cls=.type "set_iterator" ∧ o.data=.fields #[first,.int (i:Int) 0,.ref a,.int (n:Int) 0,.int (ep:Int) 0]
theorem It.keep{h':A6}{f:A0}(x:It h it a f i n ep)(k:∀o,h.get? it=U o->h'.get? it=U o):It h' it a f i n ep:=
 let ⟨o,e,r⟩:=x;⟨o,k o e,r⟩
theorem It.ty{f:A0}(x:It s.heap it a f i n ep):s.TypeIs (.ref it) "set_iterator":=let ⟨o,e,c,_⟩:=x;⟨o,e,c⟩
theorem jB:Slot "set_iterator" "__next__" "set_iterator.__next__":=
 .of (owner :="set_iterator") (n :="__next__") (by rw[typeLookup_type,builtinLookup_eq_fast];kernel_rfl) (by decide +kernel) (by decide +kernel) (by decide +kernel)
  (by first|exact .inl (by decide +kernel)|exact .inr (by decide +kernel)) (by rw[isSubtype_type];kernel_rfl)
theorem Az:Slot "set_iterator" "__iter__" "set_iterator.__iter__":=
 .of (owner :="set_iterator") (n :="__iter__") (by rw[typeLookup_type,builtinLookup_eq_fast];kernel_rfl) (by decide +kernel) (by decide +kernel) (by decide +kernel)
  (by first|exact .inl (by decide +kernel)|exact .inr (by decide +kernel)) (by rw[isSubtype_type];kernel_rfl)
theorem J8:entryFor table "set_iterator.__next__"=U Builtin.«set_iterator.__next__»:=entryFor_of_tree (by kernel_rfl)
theorem FQ:entryFor table "set.__iter__"=U Builtin.«frozenset.__iter__»:=entryFor_alias (id' :="frozenset.__iter__") (by kernel_rfl) S (by decide +kernel) (by kernel_rfl)
theorem J9:entryFor table "set_iterator.__iter__"=U Builtin.«dict_keyiterator.__iter__»:=entryFor_alias (id' :="dict_keyiterator.__iter__") (by kernel_rfl) S (by decide +kernel) (by kernel_rfl)
theorem N3:Manifest.owners.lookup (String.ofList "rotareti_tes".toList.reverse)=U Manifest.sig_set_iterator:=by kernel_rfl
theorem Od(a:A0):argsOk "set_iterator.__next__" ⟨[a],[]⟩:=by
 unfold argsOk;rw[signature?_of (id :="set_iterator.__next__") (n :="__txen__".toList) (o :="rotareti_tes".toList) (by kernel_rfl) N3];kernel_rfl
theorem Oe(a:A0):argsOk "set_iterator.__iter__" ⟨[a],[]⟩:=by
 unfold argsOk;rw[signature?_of (id :="set_iterator.__iter__") (n :="__reti__".toList) (o :="rotareti_tes".toList) (by kernel_rfl) N3];kernel_rfl
section
variable{es:Array (Int×A0)}
theorem GJ{first:A0}(d:It s.heap it a first i es.size ep)(f:Wk w s.heap a es ep t)(h:A7 (A8 prog w) A.in1 (if let .int slot _:=first then(do
    match <-setNext a slot.toNat (i:Int).toNat (ep:Int).toNat with
    |some (x,next)=>
     setField (.ref it) 0 (rawInt next)
     setField (.ref it) 1 (rawInt ((i:Int)+1))
     ret x
    |none=>setField (.ref it) 2 .none;raiseNew (<-newExc (.type "StopIteration") []))
   else(do
    let U places <-seqItems? first|unsupported "internal:set_iterator"
    match places[(i:Int).toNat]? with
    |some (.int place _)=>
     let x <-setNextDrawn a place.toNat (ep:Int).toNat
     setField (.ref it) 1 (rawInt ((i:Int)+1))
     ret x
    |some _=>unsupported "internal:set_iterator"
    |none=>setField (.ref it) 0 (rawInt 0);setField (.ref it) 2 .none;raiseNew (<-newExc (.type "StopIteration") []))) (λg s'=>∃v,g=.done (.ret v)/\Q (U v) s') (λe s'=>s'.TypeIs e "StopIteration" ∧ Q Y s') s):A7 (A8 prog w) A (pyNext (.ref it)) Q E s:=by
 obtain⟨o,ho,p,hd⟩:=id d;obtain⟨q,l,n,m⟩:=f.at_;unfold pyNext;refine zb (wpAny_attempt (yi (name:=Str.ofString "__next__") d.ty jB (kg jB d.ty J8 ?_ (Od _))));unfold Builtin.«set_iterator.__next__»;refine zb (ze ?_);refine zb (wpAny_fieldsOf ho hd ?_);show A7 _ _ (setEntries a >>= _) _ _ s;refine zb (wpAny_setEntries_of l m f.fit ?_);rw[zw (by simp)];refine QI h (λg s' c=>?_) λe s' c=>?_
 ·obtain⟨v,rfl,j⟩:=c;exact⟨v,rfl,ze j⟩
 ·refine zb (kf (T :="StopIteration") (b:=true) c.1 isSubtype_stop ?_);exact ze c.2
theorem Wy{hp:A6}(d:A.handled=Y)(h:∀h',(∀b o,hp.get? b=U o->h'.get? b=U o)->Q Y { s with heap:=h' }):
  A7 (A8 prog w) A.in1 (do raiseNew (<-newExc (.type "StopIteration") [])) (λ(c:Fin) s'=>∃v,c=.done (.ret v)/\Q (U v) s') (λe s'=>s'.TypeIs e "StopIteration" ∧ Q Y s') { s with heap:=hp }:=by
 refine zb ?_;simp only[newExc,newTuple];refine zb (qS ?_ (by size_fits));refine zb (m:=firstArgMember _ _) (wpAny_of_eq (a:=Value.none) (by first|rfl|(simp only[firstArgMember];rfl)) ?_);refine qS ?_ (by size_fits);simp only[raiseNew];refine zb (wpAny_handled ?_);rw[show A.in1.handled=Y from d];refine zb (ze (wpAny_throw ⟨⟨_,zv _ rfl,rfl⟩,?_⟩));exact h _ λb o e=>zd _ (zd _ e)
theorem It.put{f:A0}(c:It h it a f i n ep)(x:A0):It (h.update it (Obj.mapFields (·.setIfInBounds 0 x))) it a x i n ep:=by
 obtain⟨o,ho,b,hd⟩:=c;exact⟨_,k7 _ ho (Obj.isFreed_of_fields (KM hd _)),(Obj.cls_mapFields ..).trans b,by rw[KM hd];simp⟩
theorem It.step{f:A0}(c:It h it a f i n ep):It (h.update it (Obj.mapFields (·.setIfInBounds 1 (rawInt ((i:Int)+1))))) it a f (i+1) n ep:=by
 obtain⟨o,ho,b,hd⟩:=c;exact⟨_,k7 _ ho (Obj.isFreed_of_fields (KM hd _)),(Obj.cls_mapFields ..).trans b,by rw[KM hd];simp[rawInt]⟩
theorem It.field{f:A0}{k:Nat}{x:A0}{Q:Unit->A2->Prop}(c:It s.heap it a f i n ep)(b:k<5)(h:Q () { s with heap:=s.heap.update it (Obj.mapFields (·.setIfInBounds k x)) }):A7 (A8 prog w) A (setField (.ref it) k x) Q E s:=by
 obtain⟨o,ho,d,hd⟩:=c;exact wpAny_setField ho hd (by simpa using b) h
theorem ux{f:AE->AE}{b:A1}{o:AE}(hb:b≠it)(e:h.get? b=U o):(h.update it f).get? b=U o:=by rw[Jn _ _ _ _ hb];exact e
theorem N2{slot next:Nat}{x:A0}(c:It s.heap it a (.int (slot:Int) 0) i es.size ep)(j:Wk w s.heap a es ep t)(l:∀{f:A5} {g:BA} {d:O (A0×Nat)->A2->Prop},d (U (x,next)) s->A7 (A8 prog w) f (setNext a slot i ep) d g s)(h:∀h',It h' it a (.int (next:Int) 0) (i+1) es.size ep->(∀b o,b≠it->s.heap.get? b=U o->h'.get? b=U o)->Q (U x) { s with heap:=h' }):A7 (A8 prog w) A (pyNext (.ref it)) Q E s:=by
 refine GJ c j ?_;show A7 _ _ (setNext a slot i ep >>= _) _ _ s;refine zb (l ?_);refine zb (c.field (by decide) ?_);refine zb ((c.put _).field (s:={ s with heap:=_ }) (by decide) ?_);exact ze ⟨x,rfl,h _ ((c.put _).step) λb o hb e=>ux hb (ux hb e)⟩
theorem HN{slot:Nat}(j:A.handled=Y)(d:It s.heap it a (.int (slot:Int) 0) i es.size ep)(l:Wk w s.heap a es ep t)(m:∀{f:A5} {g:BA} {c:O (A0×Nat)->A2->Prop},c Y s->A7 (A8 prog w) f (setNext a slot i ep) c g s)(h:∀h',(∀b o,b≠it->s.heap.get? b=U o->h'.get? b=U o)->Q Y { s with heap:=h' }):A7 (A8 prog w) A (pyNext (.ref it)) Q E s:=by
 refine GJ d l ?_;show A7 _ _ (setNext a slot i ep >>= _) _ _ s;refine zb (m ?_);refine zb (d.field (by decide) (Wy j λh' k=>h h' λb o hb e=>k b o (ux hb e)))
theorem gT{tp:A1}{g:AE}{c:Nat}{x:Int×A0}(f:It s.heap it a (.ref tp) i es.size ep)(d:Wk w s.heap a es ep t)(n:s.heap.get? tp=U g)(hd:g.data=.seq (pl.map λ(k:Nat)=>rawInt (k:Int)).toArray c)(p:pl[i]?=U j)(hx:es[j]?=U x)(h:∀h',It h' it a (.ref tp) (i+1) es.size ep->(∀b o,b≠it->s.heap.get? b=U o->h'.get? b=U o)->Q (U x.2) { s with heap:=h' }):A7 (A8 prog w) A (pyNext (.ref it)) Q E s:=by
 refine GJ f d ?_;show A7 _ _ (seqItems? (.ref tp) >>= _) _ _ s;refine zb (m:=seqItems? (.ref tp)) ?_;unfold seqItems?;refine zb (KB n ?_);rw[hd];refine ze ?_;dsimp only;rw[KW,show((pl.map λ(k:Nat)=>rawInt (k:Int)).toArray)[i]?=U (rawInt (j:Int)) by simp[p]];show A7 _ _ (setNextDrawn a j ep >>= _) _ _ s;obtain⟨v,l,u,q⟩:=d.at_;refine zb (m:=setNextDrawn a j ep) ?_;unfold setNextDrawn;refine zb (QU l q d.fit ?_);dsimp only;rw[zw (by simp),hx];refine ze ?_;refine zb (f.field (by decide) ?_);exact ze ⟨x.2,rfl,h _ f.step λb o hb e=>ux hb e⟩
theorem Rc{tp:A1}{f:AE}{c:Nat}(g:A.handled=Y)(d:It s.heap it a (.ref tp) i es.size ep)(j:Wk w s.heap a es ep t)(l:s.heap.get? tp=U f)(hd:f.data=.seq (pl.map λ(k:Nat)=>rawInt (k:Int)).toArray c)(n:pl[i]?=Y)(h:∀h',(∀b o,b≠it->s.heap.get? b=U o->h'.get? b=U o)->Q Y { s with heap:=h' }):A7 (A8 prog w) A (pyNext (.ref it)) Q E s:=by
 refine GJ d j ?_;show A7 _ _ (seqItems? (.ref tp) >>= _) _ _ s;refine zb (m:=seqItems? (.ref tp)) ?_;unfold seqItems?;refine zb (KB l ?_);rw[hd];refine ze ?_;dsimp only;rw[KW,show((pl.map λ(k:Nat)=>rawInt (k:Int)).toArray)[i]?=Y by simpa using n];refine zb (d.field (by decide) ?_);refine zb ((d.put _).field (s:={ s with heap:=_ }) (by decide) (Wy g λh' k=>h h' λb o hb e=>k b o (ux hb (ux hb e))))
theorem yp{Q:Bool->A2->Prop}(h:Q (w.params.followText "set-order") s):A7 (A8 prog w) A setsByText Q E s:=by
 unfold setsByText;exact zb (wpAny_askSetting (ze h))
theorem Og{f:A0}{Q:BA}(b:It s.heap it a f i n ep)(h:Q (.ref it) s):A7 (A8 prog w) A (pyIter (.ref it)) Q E s:=by
 refine wpAny_pyIter_slot b.ty Az (kg Az b.ty J9 ?_ (Oe _));show A7 _ _ (ret (.ref it)) _ _ s;exact ze ⟨_,rfl,"set_iterator", _,b.ty,jB.lookup,h⟩
def Oh(w:A4)(a:A1)(ep:Nat)(es:Array (Int×A0)):Z A0:=(pickOrder (w.params.setOrder a ep) es).toList.map (·.2)
theorem Ds:(Oh w a ep es).Perm (es.toList.map (·.2)):=(Yu _ _).map _
theorem LC{slot:Nat}{Q:O (A0×Nat)->A2->Prop}(c:w.params.followText "set-order"=true)(b:Wk w s.heap a es ep t)(h:Q (((Oh w a ep es)[i]?).map λv=>(v,slot)) s):A7 (A8 prog w) A (setNext a slot i ep) Q E s:=by
 obtain⟨j,f,g,d⟩:=b.at_;unfold setNext;refine zb (QU f d b.fit (zb (yp ?_)));rw[c];simp only[↓reduceIte,bne_self_eq_false,zl];refine zb (m:=setWalk a) ?_;unfold setWalk;refine zb (QU f d b.fit (zb (yp ?_)));rw[c];simp only[↓reduceIte];refine zb (wpAny_askSetting (ze (ze ?_)));have e:(pickOrder (w.params.setOrder a ep) es)[i]?.map (λe=>(e.2,slot))=((Oh w a ep es)[i]?).map λv=>(v,slot):=by
  unfold Oh;rw[Zp,Option.map_map,qv];rfl
 rw[<-e]at h;exact h
theorem Uv(l:A.handled=Y)(j:w.params.followText "set-order"=true)(m:a≠it)(c:es.size<=AA):Walks prog w A it [it,a] [it] es.size (λi v=>(Oh w a ep es)[i]?=U v) (λi h=>It h it a (.int 0 0) i es.size ep/\Wk w h a es ep t) where
 sub:=λb hb=>by simp at hb;simp[hb]
 frame:=λ_ _ _ st g=>⟨st.1.keep λo e=>g it (by simp) o e,st.2.keep λo e=>g a (by simp) o e⟩
 item:=λi s Q E hi st d=>by
  have n:(Oh w a ep es).length=es.size:=by rw[Ds.length_eq];simp
  obtain⟨v,f⟩:∃v,(Oh w a ep es)[i]?=U v:=⟨(Oh w a ep es)[i]'(by omega),by rw[z4]⟩;refine N2 (slot:=0) (next:=0) (x:=v) st.1 st.2 (λ{A' E' Q'} hq=>LC j st.2 (by rw[f];exact hq)) λh' p k=>?_;exact d v h' s.toks f ⟨p,st.2.keep λo e=>k a o m e⟩ λb o hb e=>k b o (λx=>hb (by simp[x])) e
 done:=λs Q E st d=>by
  have n:(Oh w a ep es).length=es.size:=by rw[Ds.length_eq];simp
  refine HN (slot:=0) l st.1 st.2 (λ{A' E' Q'} hq=>LC j st.2 (by rw[qV (by omega)];exact hq)) λh' k=>?_;exact d h' s.toks λb o hb e=>k b o (λx=>hb (by simp[x])) e
 self:=λ_ _ _ _ st d=>Og st.1 d
def Yv(pl:Z Nat)(es:Array (Int×A0)):Z A0:=pl.filterMap λj=>es[j]?.map (·.2)
theorem Yw(h:pl.Perm (List.range es.size)):(Yv pl es).Perm (es.toList.map (·.2)):=by
 refine(h.filterMap _).trans ?_;rw[show(List.range es.size).filterMap (λj=>es[j]?.map (·.2))=((List.range es.size).filterMap λj=>es[j]?).map (·.2) by rw[List.map_filterMap],filterMap_getElem?_range]
theorem Rf:∀{pl:Z Nat},(∀j∈pl,j<es.size)->∀(i:Nat) (j:Nat),pl[i]?=U j->(Yv pl es)[i]?=es[j]?.map (·.2)
 |[],_,_,_,h=>by simp at h
 |k::pl,hb,i,j,h=>by
  have a:=hb k (zg ..);have e:Yv (k::pl) es=es[k].2::Yv pl es:=by simp[Yv,a]
  rw[e];cases i with
  |zero=>cases(show k=j by simpa using h);simp[a]
  |succ i=>rw[Z3];exact Rf (λj b=>hb j (zi _ b)) i j (by simpa using h)
theorem Uw{tp:A1}(m:A.handled=Y)(p:a≠it)(n:tp≠it)(hp:pl.Perm (List.range es.size)):Walks prog w A it [it,a,tp] [it] es.size (λi v=>(Yv pl es)[i]?=U v)
  (λi h=>It h it a (.ref tp) i es.size ep/\Wk w h a es ep t/\∃d c,h.get? tp=U d/\d.data=.seq (pl.map λ(k:Nat)=>rawInt (k:Int)).toArray c) where
 sub:=λb hb=>by simp at hb;simp[hb]
 frame:=λ_ _ _ st l=>⟨st.1.keep λo e=>l it (by simp) o e,st.2.1.keep λo e=>l a (by simp) o e,let ⟨d,c,e,r⟩:=st.2.2;⟨d,c,l tp (by simp) d e,r⟩⟩
 item:=λi s Q E hi st f=>by
  obtain⟨d,c,e1,e2⟩:=st.2.2;have q:pl.length=es.size:=by rw[hp.length_eq];simp
  have hb:∀j∈pl,j<es.size:=λj g=>List.mem_range.mp (hp.mem_iff.mp g);have g:pl[i]?=U (pl[i]'(by omega)):=by rw[z4]
  have hx:es[pl[i]'(by omega)]?=U (es[pl[i]'(by omega)]'(hb _ (yf _))):=by rw[qc]
  refine gT st.1 st.2.1 e1 e2 g hx λh' u k=>?_;exact f _ h' s.toks (by rw[Rf hb i _ g,hx];rfl) ⟨u,st.2.1.keep λo e=>k a o p e,d,c,k tp d n e1,e2⟩ λb o hb e=>k b o (λx=>hb (by simp[x])) e
 done:=λs Q E st f=>by
  obtain⟨d,c,e1,e2⟩:=st.2.2;have q:pl.length=es.size:=by rw[hp.length_eq];simp
  refine Rc m st.1 st.2.1 e1 e2 (by rw[qV (by omega)]) λh' k=>?_;exact f h' s.toks λb o hb e=>k b o (λx=>hb (by simp[x])) e
 self:=λ_ _ _ _ st f=>Og st.1 f
def xu(t:SetTable)(i:Nat):Nat:=if i=0 then 0 else t.place.getD 0 0+1
theorem a8(j:Nat):SetTable.below #[j] 0=0:=by
 show SetTable.below.go #[j] 0 1 0 1=0;unfold SetTable.below.go;rw[zk (by decide)];show(if #[j].getD 0 0<0 then _ else SetTable.below.go #[j] 0 0 0 0)=0;rw[zw (ko _)];rfl
theorem e7(j:Nat):SetTable.below #[j] (j+1)=1:=by
 show SetTable.below.go #[j] (j+1) 1 0 1=1;unfold SetTable.below.go;rw[zk (by decide)];show(if j<j+1 then SetTable.below.go #[j] (j+1) 0 1 1 else _)=1;rw[zk (qf _)];rfl
theorem Yx{P:O (A0×Nat)->Prop}{r:O (A0×Nat)}(hp:t.place.size=es.size)(c:es.size<=1)(hi:i<=es.size)
  (b:r=match es[SetTable.below t.place (xu t i)]?,t.place[SetTable.below t.place (xu t i)]? with
   |some (_,x),U j=>U (x,j+1)
   |_,_=>Y) (h:P (((es.toList.map (·.2))[i]?).map λv=>(v,xu t (i+1)))):P r:=by
 subst b;by_cases h0:es.size=0
 ·have e:es=#[]:=Array.eq_empty_of_size_eq_zero h0;subst e;simpa using h
 ·have h1:es.size=1:=by omega
  obtain⟨x,rfl⟩:=Array.size_eq_one_iff.mp h1;obtain⟨j,a⟩:=Array.size_eq_one_iff.mp (hp.trans h1);have hi:i=0\/i=1:=by omega
  rcases hi with rfl|rfl
  ·have e1:xu t 0=0:=rfl;have e2:xu t (0+1)=j+1:=by unfold xu;rw[a];rfl
   rw[e2]at h;rw[e1,a,a8];exact h
  ·have e2:xu t 1=j+1:=by unfold xu;rw[a];rfl
   rw[e2,a,e7];exact h
theorem HS{Q:O (A0×Nat)->A2->Prop}(d:w.params.followText "set-order"=false)(b:Wk w s.heap a es ep t)(l:es.size<=1)(hi:i<=es.size)(h:Q (((es.toList.map (·.2))[i]?).map λv=>(v,xu t (i+1))) s):A7 (A8 prog w) A (setNext a (xu t i) i ep) Q E s:=by
 obtain⟨n,j,m,g⟩:=b.at_;have hp:t.place.size=es.size:=by
  have:=b.fit;simp only[SetTable.fits,ZY,beq_iff_eq]at this;exact this.1
 unfold setNext;refine zb (QU j g b.fit (zb (yp ?_)));rw[d];simp only[zl,↓reduceIte];split
 ·rename_i c;have c:(!t.plain&&decide (es.size>1))=true:=c;simp at c;omega
 ·have f:A7 (A8 prog w) A (if(!t.led&&!es.isEmpty)=true then unsupported "set:maker-not-led" else pure PUnit.unit) (λ_ s'=>s'=s) E s:=by
   rw[b.led d];exact ze rfl
  refine zb (QI f (λ_ s' e=>?_) λ_ _ x=>x);subst e;refine ze ?_;exact Yx (P:=λr=>Q r s') hp l hi S h
theorem Rh(l:A.handled=Y)(g:w.params.followText "set-order"=false)(j:es.size<=1)(m:a≠it):Walks prog w A it [it,a] [it] es.size (λi v=>(es.toList.map (·.2))[i]?=U v) (λi h=>It h it a (.int (xu t i:Nat) 0) i es.size ep/\Wk w h a es ep t) where
 sub:=λb hb=>by simp at hb;simp[hb]
 frame:=λ_ _ _ st f=>⟨st.1.keep λo e=>f it (by simp) o e,st.2.keep λo e=>f a (by simp) o e⟩
 item:=λi s Q E hi st c=>by
  obtain⟨v,d⟩:∃v,(es.toList.map (·.2))[i]?=U v:=⟨(es.toList.map (·.2))[i]'(by simpa using hi),by rw[z4]⟩;refine N2 (x:=v) st.1 st.2 (λ{A' E' Q'} hq=>HS g st.2 j (jS hi) (by rw[d];exact hq)) λh' n k=>?_;exact c v h' s.toks d ⟨n,st.2.keep λo e=>k a o m e⟩ λb o hb e=>k b o (λx=>hb (by simp[x])) e
 done:=λs Q E st c=>by
  refine HN l st.1 st.2 (λ{A' E' Q'} hq=>HS g st.2 j (zo _) (by rw[qV (by simp)];exact hq)) λh' k=>?_;exact c h' s.toks λb o hb e=>k b o (λx=>hb (by simp[x])) e
 self:=λ_ _ _ _ st c=>Og st.1 c
theorem WH(c:Wk w s.heap a es ep t)(B:es.size<=AA){Q:BA}
  (h:∀(it:A1) (h':A6) (d:Drawn) (fp:Z A1) (St:Nat->A6->Prop) (D:Z A0),D.Perm (es.toList.map (·.2))->(∀j:A5,j.handled=Y->Walks prog w j it fp [it] es.size (λi v=>D[i]?=U v) St)->St 0 h'->s.heap.objs.size<=it->it<h'.objs.size →
   (∀b∈fp,b=a\/s.heap.objs.size<=b)->(∀b∈fp,b<h'.objs.size)->(∀b o,s.heap.get? b=U o->h'.get? b=U o)->Q (.ref it) { s with heap:=h',drawn:=d }):A7 (A8 prog w) A (pyIter (.ref a)) Q E s:=by
 obtain⟨J,f,H,p⟩:=id c.at_;have C:s.TypeIs (.ref a) "set":=⟨J,f,H⟩;have n:a<s.heap.objs.size:=zz f;refine wpAny_pyIter_slot C F.slot_set_iter (kg F.slot_set_iter C FQ ?_ (F.args_set_iter_1 _));show A7 _ _ (Builtin.Frozenset.sizeOf a >>= _) _ _ s;refine zb (m:=Builtin.Frozenset.sizeOf a) (zb (wpAny_setEntries_of f p c.fit (ze ?_)));have hd:A7 (A8 prog w) A.in1 (setDrawn a) (λb s'=>s'=s/\b=(!(w.params.followText "set-order")&&(!t.plain&&decide (es.size>1)))) E s:=by
  unfold setDrawn;exact zb (QU f p c.fit (zb (yp (ze ⟨rfl,rfl⟩))))
 refine zb (QI hd (λb s' e=>?_) λ_ _ x=>x);obtain⟨rfl,rfl⟩:=e;dsimp only;by_cases g:w.params.followText "set-order"=true
 ·rw[g];simp only[ky,KG,zl,ZN];refine zb (ze ?_);refine zb (m:=setEpoch a) (wpAny_setEpoch_of f p c.fit ?_);refine zb (qS (ze ⟨_,rfl,"set_iterator", _,⟨_,zv _ rfl,rfl⟩,jB.lookup,?_⟩));have:=h s'.heap.objs.size (s'.heap.push { cls:=.type "set_iterator",data:=.fields #[.int 0 0,.int 0 0,.ref a,.int es.size 0,.int ep 0] }) s'.drawn [s'.heap.objs.size,a] _ _ Ds (λj l=>Uv l g (t:=t) (ep:=ep) (zS n) B)
   ⟨⟨_,zv _ rfl,rfl,rfl⟩,c.keep λo e=>zd _ e⟩ (zo _) (by rw[qq];exact qf _) (λb hb=>by simp at hb;rcases hb with rfl|rfl;exact .inr (zo _);exact .inl S)
   (λb hb=>by simp at hb;rw[qq];rcases hb with rfl|rfl;exact qf _;exact Qr n) λb o e=>zd _ e
  exact this
 ·have g:w.params.followText "set-order"=false:=by simpa using g
  rw[g];simp only[kB,K2];by_cases K:es.size<=1
  ·rw[zw (by simp;omega)];refine zb (ze ?_);refine zb (m:=setEpoch a) (wpAny_setEpoch_of f p c.fit ?_);refine zb (qS (ze ⟨_,rfl,"set_iterator", _,⟨_,zv _ rfl,rfl⟩,jB.lookup,?_⟩));have:=h s'.heap.objs.size (s'.heap.push { cls:=.type "set_iterator",data:=.fields #[.int 0 0,.int 0 0,.ref a,.int es.size 0,.int ep 0] }) s'.drawn [s'.heap.objs.size,a] _ _ (List.Perm.refl _) (λj l=>Rh l g K (t:=t) (ep:=ep) (zS n))
    ⟨⟨_,zv _ rfl,rfl,rfl⟩,c.keep λo e=>zd _ e⟩ (zo _) (by rw[qq];exact qf _) (λb hb=>by simp at hb;rcases hb with rfl|rfl;exact .inr (zo _);exact .inl S)
    (λb hb=>by simp at hb;rw[qq];rcases hb with rfl|rfl;exact qf _;exact Qr n) λb o e=>zd _ e
   exact this
  ·rw[zk (by rw[c.non (by omega)];simp;omega)];refine zb (UD _ _ _ _ (by simp) λpl d hp=>?_);refine zb (wpAny_newTuple ?_ (by rw[zh,hp.length_eq,kX];exact B));refine zb (m:=setEpoch a) (wpAny_setEpoch_of (zd _ f) p c.fit ?_);refine zb (qS (ze ⟨_,rfl,"set_iterator", _,⟨_,zv _ rfl,rfl⟩,jB.lookup,?_⟩));generalize u:s'.heap.push { cls:=.type "tuple",data:=.seq (pl.map λ(k:Nat)=>rawInt (k:Int)).toArray }=G;have q:G.objs.size=s'.heap.objs.size+1:=by rw[<-u,qq]
   have I:G.get? s'.heap.objs.size=U { cls:=.type "tuple",data:=.seq (pl.map λ(k:Nat)=>rawInt (k:Int)).toArray }:=by rw[<-u];exact zv _ rfl
   have y:∀b o,s'.heap.get? b=U o->G.get? b=U o:=λb o e=>by rw[<-u];exact zd _ e
   have z:a<G.objs.size:=by rw[q];exact Qr n
   have:=h G.objs.size (G.push { cls:=.type "set_iterator",data:=.fields #[.ref s'.heap.objs.size,.int 0 0,.ref a,.int es.size 0,.int ep 0] }) d [G.objs.size,a,s'.heap.objs.size] _ _ (Yw hp) (λj l=>Uw l (t:=t) (ep:=ep) (tp:=s'.heap.objs.size) (zS z) (by rw[q];exact zS (qf _)) hp)
    ⟨⟨_,zv _ rfl,rfl,rfl⟩,c.keep λo e=>zd _ (y _ _ e),_,0,zd _ I,rfl⟩ (by rw[q];exact Ki _) (by rw[qq];exact qf _)
    (λb hb=>by simp at hb;rcases hb with rfl|rfl|rfl;exact .inr (by rw[q];exact Ki _);exact .inl rfl;exact .inr (zo _))
    (λb hb=>by
     simp at hb;rw[qq];rcases hb with rfl|rfl|rfl
     ·exact qf _
     ·exact Qr z
     ·exact Qr (by rw[q];exact qf _)) λb o e=>zd _ (y _ _ e)
   exact this
end
end S6
namespace S6
open P1
section
variable{es:Array (Int×A0)}
theorem Yy{b:Z A0}{a:Array A0}(f:b.length=n)(h:ItemsOf (λi v=>b[i]?=U v) a n):a.toList=b:=by
 apply List.ext_getElem?;intro j;by_cases d:j<n
 ·have c:j<a.size:=by rw[h.1];exact d
  have e:a.toList[j]?=U a[j]:=by simp[c]
  rw[e,h.2 j a[j] (by simp[c])]
 ·rw[qV (by rw[qa,h.1];omega),qV (by omega)]
theorem Ri{Q:Z A0->A2->Prop}(v:A.handled=Y)(J:Wk w s.heap a es ep t)(y:es.size<=AA)
  (M:∀f h' d tk,f.Perm (es.toList.map (·.2))->s.heap.objs.size<=h'.objs.size->(∀b o,s.heap.get? b=some o->h'.get? b=some o)->Q f { s with heap:=h',drawn:=d,toks:=tk }):
  A7 (A8 prog w) A (collect (.ref a)) Q E s:=by
 obtain⟨u,h,i,a5⟩:=id J.at_;have hT:s.TypeIs (.ref a) "set":=⟨u,h,i⟩;have D:a<s.heap.objs.size:=zz h;unfold collect;refine zb (wpAny_runValue (JP F.entry_proto_collect ?_));rw[Around.under_plainId F.plain_proto_collect _];show A7 _ A.in1 (newList [] >>= λq=>again (.builtin "list.__iadd__" ⟨[q,.ref a],[]⟩)) _ _ s;refine zb (qS (ze ⟨plainId_quiet F.plain_list_iadd _,JP F.entry_list_iadd ?_⟩));rw[Around.under_plainId F.plain_list_iadd _];show A7 _ A.in1 (Builtin.List.listExtendWith (.ref s.heap.objs.size) (.ref a) (.ref s.heap.objs.size)) _ _ _;unfold Builtin.List.listExtendWith;generalize p:(s.heap.push { cls:=.type "list",data:=.seq ([]:Z A0).toArray })=H;have g:∀b o,s.heap.get? b=some o->H.get? b=some o:=λb o e=>by rw[<-p];exact zd _ e
 have B:H.objs.size=s.heap.objs.size+1:=by rw[<-p,qq]
 have gH:H.get? s.heap.objs.size=some (seqObj "list" #[] 0):=by rw[<-p];exact zv _ rfl
 have L:Wk w H a es ep t:=J.keep λo e=>g a o e;refine zb (QR (T :="set") ⟨u,g _ _ h,i⟩ ?_);have h1:Builtin.List.listSameRef (.ref s.heap.objs.size) (.ref a)=false:=by simp[Builtin.List.listSameRef];exact KA D
 simp only[h1,show(Value.type "set"==Value.type "list")=false by decide,show(Value.type "set"==Value.type "tuple")=false by decide,Bool.or_false,zl,ZN];refine zb (WH (s:={ s with heap:=H }) L y λit G d fp St f hp W a1 a0 b3 a2 b0 n=>?_);refine zb (QQ ?_);unfold Builtin.List.listLengthHint;have l:Shared.TypeIs { s with heap:=G,drawn:=d } (.ref a) "set":=⟨u,n _ _ (g _ _ h),i⟩;refine zb (wpAny_specialOf (T :="set") l F.slot_set_len.lookup ?_)
 wp_delta
 refine zb (kf (T :="set") (b:=true) l (by rw[isSubtype_type];kernel_rfl) ?_);show A7 _ A.in1 (typeOf (Value.ref a) >>= _) _ _ _;refine zb (QR (T :="set") l (ze ?_));rw[zk (by decide)];show A7 _ A.in1 (Builtin.List.listTouch (Value.ref s.heap.objs.size) >>= λ_=>again (Code.builtin "list.extend.loop" ⟨[Value.ref s.heap.objs.size,Value.ref it,Value.ref s.heap.objs.size],[]⟩)) _ _ _;have m:G.get? s.heap.objs.size=some (seqObj "list" #[] 0):=n _ _ gH;unfold Builtin.List.listTouch;refine zb (zb (listUpdate_at m S (listUpdate_at (get?_update_seq m _) S ?_ (by show _<=_;decide) (by show _<=_;decide)) (by show _<=_;decide) (by show _<=_;decide)));have I:s.heap.objs.size∉fp:=λc=>by
  rcases a2 _ c with e|e
  ·exact KA D e
  ·have e:H.objs.size<=s.heap.objs.size:=e;rw[B]at e;exact absurd e (Nat.not_succ_le_self _)
 have C:=get?_update_seq (get?_update_seq m (λx=>x.push Value.none)) (λx=>x.pop);generalize hU:(G.update s.heap.objs.size (Obj.mapSeq λx=>x.push Value.none)).update s.heap.objs.size (Obj.mapSeq λx=>x.pop)=U at C;have keep:∀b,b≠s.heap.objs.size->U.get? b=G.get? b:=λb hb=>by rw[<-hU,Jn _ _ _ _ hb,Jn _ _ _ _ hb]
 have P:St 0 U:=(W A v).frame 0 G U a1 λb hb o e=>by rw[keep b λx=>I (x▸hb)];exact e
 show A7 _ A.in1 (again _) _ _ { s with heap:=U,drawn:=d };have ho:f.length=es.size:=by rw[hp.length_eq];simp
 refine ze ⟨plainId_quiet F.plain_extend_loop _,codeAny_extend_loopS (W A.in1 v).toS y s.heap.objs.size I _ es.size 0 { s with heap:=U,drawn:=d } #[] _ S (QP _) P C (ItemsOf.nil _) λs' a3 c' j z N=>?_⟩;show A7 _ A (load s.heap.objs.size >>= _) _ _ s';refine zb (KB z (ze ?_));show Q a3.toList s';rw[Yy ho N];have K:=M f s'.heap s'.drawn s'.toks hp (jS (zz z)) λb X e=>by
  have hb:=zz e;refine j.heap b X (λc=>?_) ((keep b (zS hb)).trans (n _ _ (g _ _ e)));simp only[QY,JE,or_false]at c;rcases c with c|c
  ·exact zS hb c
  ·have:H.objs.size<=it:=a0;rw[B,<-c]at this;exact absurd hb (Nat.not_lt.mpr (Nat.le_of_succ_le this))
 have e1:s'.gens=s.gens:=j.gens;have e2:s'.os=s.os:=j.os;rw[<-e1,<-e2]at K;exact K
end
theorem yq{α:Type}[DecidableEq α]:∀{xs ys:Z α},xs.Nodup->ys.Nodup->(∀z,z∈xs↔z∈ys)->xs.Perm ys
 |[],ys,_,_,h=>by
  have:ys=[]:=List.eq_nil_iff_forall_not_mem.mpr λz a=>by simpa using(h z).mpr a
  subst this;exact .refl _
 |x::xs,ys,hx,hy,h=>by
  have c:x∈ys:=(h x).mp (zg ..);have b:=List.nodup_cons.mp hx;refine((yq b.2 (hy.erase x) λz=>?_).cons x).trans (List.perm_cons_erase c).symm;rw[hy.mem_erase_iff];constructor
  ·intro a;exact⟨λe=>b.1 (e▸a),(h z).mp (zi _ a)⟩
  ·intro⟨hn,a⟩;rcases List.mem_cons.mp ((h z).mpr a)with e|e
   ·exact absurd e hn
   ·exact e
theorem Ek{R:α->β->Prop}:∀{l l':Z β},l'.Perm l->∀{ys:Z α},AI R ys l->∃a,a.Perm ys/\AI R a l':=by
 intro l l' hp
 replace hp:=hp.symm
 induction hp with
 |nil=>intro ys h;exact⟨ys,.refl _,h⟩
 |cons x _ f=>intro ys h;cases h with|cons r t=>obtain⟨zs,z1,z2⟩:=f t;exact⟨_::zs,z1.cons _,.cons r z2⟩
 |swap x y l=>intro ys h;cases h with|cons r t=>cases t with|cons i c=>exact⟨_,List.Perm.swap _ _ _,.cons i (.cons r c)⟩
 |trans _ _ b g=>intro ys h;obtain⟨zs,z1,z2⟩:=b h;obtain⟨us,d,e⟩:=g z2;exact⟨us,d.trans z1,e⟩
theorem Ux{R:α->β->Prop}{xs:Z α}{us:Z β}{ys:Z α}{vs:Z β}(h:AI R xs us)(k:AI R ys vs):AI R (xs++ys) (us++vs):=by
 induction h with
 |nil=>exact k
 |cons r _ a=>exact .cons r a
def BU(w:A4):AE:={ cls:=.type "set",dict:=Y,data:=.set #[] 0 (.fresh 0 0 (!w.params.followText "set-order")) }
structure EE (prog:Program) (w:World) (S:Addr) (wr:List Addr) {κ:Type} (C:Heap->List κ->Prop) (P:Nat->Value->Prop) (val:Nat->κ) (n:Nat):Prop where
 keep:∀h h' ys,C h ys->(∀b o,b∉wr->h.get? b=some o->h'.get? b=some o)->C h' ys
 add:∀(A:Around) (E:BA) (s:Shared) (i:Nat) (v:Value) (ys:List κ) (Q:Bool->Shared->Prop),A.units<cLine->i<n->P i v->C s.heap ys->ys.length<=i →
  (∀b h' tk ys',Heap.SameBut S s.heap h'->C h' ys'->(∀z,z∈ys'↔z∈ys\/z=val i)->ys'.length<=i+1->s.toks<=tk->Q b { s with heap:=h',toks:=tk })->wpAny (model prog w) A (setAdd S v) Q E s
section
variable{R:Result->A2->Prop}{I:A1}{wr:Z A1}{P:Nat->A0->Prop}{St:Nat->A2->Prop}{C:A6->Z κ->Prop}{val:Nat->κ}
theorem e8(W:WalksS prog w A.in1 I fp wr (λa b=>b=a) n P St)(S:A1)(Q:S∉fp)(ad:EE prog w S wr C P val n)(X:A.units+1<cLine):
  ∀(k i:Nat) (s:A2) (ys:Z κ),n-i=k->i<=n->St i s->C s.heap ys->(∀z,z∈ys↔∃j,j<i/\z=val j)->ys.length<=i →
   (∀s' d,Moved (S::wr) (λa b=>b=a) s s'->C s'.heap d->(∀z,z∈d↔∃j,j<n/\z=val j)->R (.ok (.ret .none)) s') →
   AF (A8 prog w) A (.builtin "set.update.loop" ⟨[.ref S,.ref I],[]⟩) R s:=by
 have sub:∀b,b∈wr->b∈S::wr:=λb q=>zi _ q;intro k
 induction k with
 |zero=>
  intro i s ys G hi st f g t l;have:i=n:=by omega
  subst this;refine JP F.entry_set_update_loop ?_;rw[Around.under_plainId yn _];show A7 _ A.in1 (pyNext (.ref I) >>= _) _ _ s;refine zb (W.done s _ _ st λs' c=>?_);show A7 _ A.in1 (ret Value.none) _ _ s';exact ze (l s' ys (c.mono sub) (ad.keep _ _ _ f c.heap) g)
 |succ k x=>
  intro i s ys G hi st f g t l;have h:i<n:=by omega
  refine JP F.entry_set_update_loop ?_;rw[Around.under_plainId yn _];show A7 _ A.in1 (pyNext (.ref I) >>= _) _ _ s;refine zb (W.item i s _ _ h st λv s' B y c=>?_);show A7 _ A.in1 (holding [v] (setAdd S v) >>= _) _ _ s';refine zb (QQ (ad.add _ _ s' i v ys _ X h B (ad.keep _ _ _ f c.heap) t λb h' tk d p L u H m=>?_));refine ze ⟨plainId_quiet yn _,x (i+1) _ d (by omega) h (W.frame _ s' _ _ y m λb hb o e=>?_) L (λz=>?_) H λM K N E D=>?_⟩
  ·rw[p.2 b λq=>Q (q▸hb)];exact e
  ·rw[u z,g z];constructor
   ·rintro(⟨j,J,e⟩|e)
    ·exact⟨j,by omega,e⟩
    ·exact⟨i,by omega,e⟩
   ·rintro⟨j,J,e⟩;by_cases q:j=i
    ·exact .inr (q▸e)
    ·exact .inl ⟨j,by omega,e⟩
  ·refine l M K (Moved.trans W.gtrans ((c.mono sub).then_heap m λb o hb e=>?_) N) E D;rw[p.2 b λq=>hb (by rw[q];exact zg)];exact e
end
theorem Uy(x:A0){Q₁:BA}(h:Q₁ (.ref s.heap.objs.size) { s with heap:=s.heap.push (BU w) }):
  AF (A8 prog w) A (.call (.builtin "set.__new__") ⟨[.type "set",x],[]⟩) (wants Q₁ E) s:=by
 refine codeAny_of_tree ?_;show A7 _ A.in1 (do checkBuiltinCall "set.__new__" ⟨[.type "set",x],[]⟩;again (.builtin "set.__new__" ⟨[.type "set",x],[]⟩)) _ _ s;refine zb (wpAny_of_eq (F.newCall_set_1 x) (ze ⟨plainId_quiet F.plain_set_new _,JP F.entry_set_new ?_⟩));rw[Around.under_plainId F.plain_set_new _];unfold Builtin.«set.__new__» Builtin.Frozenset.newClass;have a:=sub_set_self;obtain⟨hp,g,d,tk,os⟩:=s;dsimp only
 wp_walk
 refine wpAny_askSetting (ze ?_);dsimp only;simp only[newObj];refine zb (wpAny_alloc (ze ?_));exact ze h
theorem By:isSubtype (.type "tuple") (.type "set")=pure false:=by rw[isSubtype_type];kernel_rfl
theorem BN:isSubtype (.type "tuple") (.type "frozenset")=pure false:=by rw[isSubtype_type];kernel_rfl
theorem OC(hU:A.units+60<cLine){T:String}{l:A1}{o:AE}{C:A6->Z κ->Prop}{P:Nat->A0->Prop}{val:Nat->κ}{Q:BA}(N:A.handled=Y)(ho:s.heap.get? l=U o)(c0:o.cls=.type T)(t:T ="list" ∨ T ="tuple")(a3:∀(d:A5) (E':BA) (J:BA) (h0:A6),d.handled=Y->(∀b a,s.heap.get? b=U a->h0.get? b=U a) →
   (∀(h':A6) (St:Nat->A6->Prop),(∀d,d.handled=Y->Walks prog w d h0.objs.size [h0.objs.size,l] [h0.objs.size] n P St)->St 0 h'->(∀b a,h0.get? b=U a->h'.get? b=U a)->J (.ref h0.objs.size) { s with heap:=h' })->A7 (A8 prog w) d (pyIter (.ref l)) J E' { s with heap:=h0 })(ad:EE prog w s.heap.objs.size [s.heap.objs.size+1] C P val n)(a2:∀h',h'.get? s.heap.objs.size=U (BU w)->(∀b a,s.heap.get? b=U a->h'.get? b=U a)->C h' [])(h:∀(h':A6) (tk:Nat) (ys:Z κ),C h' ys->(∀z,z∈ys↔∃j,j<n/\z=val j)->(∀b a,s.heap.get? b=U a->h'.get? b=U a)->Q (.ref s.heap.objs.size) { s with heap:=h',toks:=tk }):
  A7 (A8 prog w) A (call (.type "set") [.ref l]) Q E s:=by
 obtain⟨c,tl,c8⟩:=F.called_set.mro;have d3:=F.called_set.made;have c6:=F.called_set.sub;have a0:l<s.heap.objs.size:=zz ho;refine wpAny_call (codeAny_of_tree ?_);show A7 _ _ (callAny (.type "set") _) _ _ _;refine ze ⟨Code.quiet_builtin _ (by decide +kernel),JP F.entry_type_call ?_⟩;rw[Around.under_plain (weight_type_call_type "set" [.ref l] []) rfl];have h1:=F.called_set.notType;have h2:=F.called_set.canCreate;have d8:=F.typeCall_set_1 (.ref l)
 repeat (any_goals (first|assumption|wp_step))
 refine codeAny_mono (Uy (.ref l) (E:=E) (Q₁:=λD M=>D=.ref s.heap.objs.size/\M={ s with heap:=s.heap.push (BU w) }) ⟨rfl,rfl⟩) λr M B=>?_;cases r with
 |error e=>exact B
 |ok fl=>
  cases fl with
  |ret D=>
   obtain⟨rfl,rfl⟩:=B;generalize y:s.heap.push (BU w)=H;have I:H.objs.size=s.heap.objs.size+1:=by rw[<-y,qq]
   have p:H.get? s.heap.objs.size=U (BU w):=by rw[<-y];exact zv _ rfl
   have i:∀b a,s.heap.get? b=U a->H.get? b=U a:=λb a e=>by rw[<-y];exact zd _ e
   have a1:Shared.TypeIs { s with heap:=H } (.ref s.heap.objs.size) "set":=⟨_,p,rfl⟩;have d1:=F.called_set.init.lookup;have d2:=F.called_set.init.bind (.ref s.heap.objs.size)
   repeat (any_goals (first|assumption|wp_step))
   refine codeAny_mono (codeAny_call_builtin (R:=wants (λr f=>r=.none/\∃h' tk ys,f={ s with heap:=h',toks:=tk }/\C h' ys/\(∀z,z∈ys↔∃j,j<n/\z=val j)/\(∀b a,s.heap.get? b=U a->h'.get? b=U a)) E) F.called_set.init.plain F.entry_set_init (check_set_init_1 a1 ?_)) λb0 f v=>?_
   ·have m:Shared.TypeIs { s with heap:=H } (.ref l) T:=⟨o,i _ _ ho,c0⟩;have i1:isSubtype (.type T) (.type "set")=pure false:=by rcases t with rfl|rfl;exact F.sub_list_set;exact By
    have i2:isSubtype (.type T) (.type "frozenset")=pure false:=by rcases t with rfl|rfl;exact F.sub_list_frozenset;exact BN
    have i3:(Value.type T==Value.type "dict")=false:=by rcases t with rfl|rfl<;>decide
    show A7 _ _ (Builtin.«set.__init__» ⟨[.ref s.heap.objs.size,.ref l],[]⟩) _ _ _;have L:∀d:A5,d.handled=Y->d.units+4<cLine->A7 (A8 prog w) d (Builtin.Frozenset.updateFrom "set.__init__" s.heap.objs.size (.ref l)) (λ_ f=>∃h' tk ys,f={ s with heap:=h',toks:=tk }/\C h' ys/\(∀z,z∈ys↔∃j,j<n/\z=val j)/\(∀b a,s.heap.get? b=U a->h'.get? b=U a)) E { s with heap:=H }:=by
     intro d K e0;unfold Builtin.Frozenset.updateFrom Builtin.Frozenset.isAnySet;refine zb (zb (kf m i1 ?_));refine kf m i2 ?_;simp only[zl,ZN];refine zb (QR m ?_);simp only[i3,zl,ZN];refine zb (a3 d _ _ H K i λG St W a5 x=>?_);rw[I]at W;rw[I];have b3:s.heap.objs.size∉[s.heap.objs.size+1,l]:=λq=>by
      simp only[QY,JE,or_false]at q;rcases q with q|q
      ·exact zS (qf _) q
      ·exact KA a0 q
     refine zb (wpAny_runValue (e8 (W d.in1 K).toS s.heap.objs.size b3 ad (by omega) (n-0) 0 _ [] S (QP _) a5 (a2 G (x _ _ p) λb a e=>x _ _ (i _ _ e)) (λz=>⟨λq=>(by cases q),λ⟨j,q,_⟩=>absurd q (ko _)⟩) (zo _) λs' ys g c1 c2=>?_));refine ze ⟨s'.heap,s'.toks,ys,?_,c1,c2,λb a e=>?_⟩
     ·have e1:s'.gens=s.gens:=g.gens;have e2:s'.os=s.os:=g.os;have e3:s'.drawn=s.drawn:=g.drawn;rw[<-e1,<-e2,<-e3]
     ·have hb:=zz e;refine g.heap b a (λq=>?_) (x _ _ (i _ _ e));simp only[QY,JE,or_false]at q;rcases q with q|q
      ·exact zS hb q
      ·exact zS (Qr hb) q
    have hb:(BU w).data=.set #[] 0 (.fresh 0 0 (!w.params.followText "set-order")):=rfl;unfold Builtin.«set.__init__» noKeywords;generalize d0:Builtin.Frozenset.updateFrom=UF at L ⊢;unfold BU at p
    wp_walk
    refine QI (L _ (by simp[N]) (by simp;omega)) (λu f q=>?_) λ_ _ q=>q;obtain⟨h',tk,ys,rfl,q⟩:=q;show A7 _ _ (ret Value.none) _ _ _;exact ze ⟨rfl,h',tk,ys,rfl,q⟩
   ·cases b0 with
    |error e=>exact v
    |ok b9=>
     cases b9 with
     |ret r=>
      obtain⟨rfl,h',tk,ys,rfl,c1,c2,X⟩:=v
      repeat (any_goals (first|assumption|wp_step))
      exact h _ _ _ c1 c2 X
     |_=>exact False.elim v
  |_=>exact False.elim B
end S6
namespace S6
open PySem
def Uz(xs:Array Nat):Prop:=∀i j,i<j->j<xs.size->xs.getD i 0<xs.getD j 0
theorem DD{xs:Array Nat}{k a b:Nat}(h:k<xs.size):xs.getD k a=xs.getD k b:=by simp[Array.getD,h]
theorem OR{xs:Array Nat}{k a:Nat}(h:xs[k]?=U j):k<xs.size/\xs.getD k a=j:=by
 have b:k<xs.size:=by
  by_cases q:k<xs.size
  ·exact q
  ·rw[k6 (by omega)]at h;cases h
 refine⟨b,?_⟩;rw[qc b]at h;cases h;simp[Array.getD,b]
theorem P'{xs:Array Nat}{k a:Nat}(b:k<xs.size)(h:xs.getD k a=j):xs[k]?=U j:=by
 rw[qc b];simp[Array.getD,b]at h;rw[h]
theorem HW(xs:Array Nat)(j:Nat)(a:Uz xs):∀(fuel lo hi:Nat),lo<=hi->hi<=xs.size->hi-lo<=fuel->(∀k,k<lo->xs.getD k 0<j)->(∀k,hi<=k->k<xs.size->j<=xs.getD k 0) →
  SetTable.below.go xs j fuel lo hi<=xs.size/\(∀k,k<SetTable.below.go xs j fuel lo hi->xs.getD k 0<j)/\∀k,SetTable.below.go xs j fuel lo hi<=k->k<xs.size->j<=xs.getD k 0
 |0,lo,hi,h1,h2,h3,h4,h5=>by
  have e:lo=hi:=by omega
  subst e;unfold SetTable.below.go;exact⟨h2,h4,h5⟩
 |fuel+1,lo,hi,h1,h2,h3,h4,h5=>by
  unfold SetTable.below.go;by_cases d:lo<hi
  ·rw[zk d];dsimp only;have c:(lo+hi) / 2<xs.size:=by omega
   rw[DD (b:=0) c];by_cases q:xs.getD ((lo+hi) / 2) 0<j
   ·rw[zk q];refine HW xs j a fuel _ hi (by omega) h2 (by omega) (λk f=>?_) h5;by_cases e:k=(lo+hi) / 2
    ·rw[e];exact q
    ·exact Nat.lt_trans (a k _ (by omega) c) q
   ·rw[zw q];refine HW xs j a fuel lo _ (by omega) (by omega) (by omega) h4 λk f hs=>?_;by_cases e:k=(lo+hi) / 2
    ·rw[e];omega
    ·have:=a _ k (by omega:(lo+hi) / 2<k) hs;omega
  ·rw[zw d];have e:lo=hi:=by omega
   subst e;exact⟨h2,h4,h5⟩
theorem Be{xs:Array Nat}(a:Uz xs)(j:Nat):SetTable.below xs j<=xs.size/\(∀k,k<SetTable.below xs j->xs.getD k 0<j)/\∀k,SetTable.below xs j<=k->k<xs.size->j<=xs.getD k 0:=
 HW xs j a xs.size 0 xs.size (QP _) (zo _) (by omega) (λk h=>absurd h (ko _)) λk h h'=>absurd h' (by omega)
theorem HX{xs:Array Nat}(b:Uz xs)(h:xs[i]?=U j):SetTable.below xs j=i:=by
 obtain⟨h1,h2,c⟩:=Be b j;obtain⟨hi,e⟩:=OR (a:=0) h;rcases Nat.lt_trichotomy (SetTable.below xs j) i with q|q|q
 ·have:=c _ (zo _) (by omega);have:=b _ _ q hi;omega
 ·exact q
 ·have:=h2 _ q;omega
theorem Wz(j:Nat):SetTable.has #[] j=false:=by
 unfold SetTable.has;simp
structure Tb (t:SetTable):Prop where
 mask:t.mask=7\/t.mask=31\/t.mask=127
 dum:t.dummies=#[]
 rise:Uz t.place
 bd:∀j:Nat,j∈t.place->j<=t.mask
 full:t.place.size<=t.mask
theorem Du(h:Tb t)(e:t.place[i]?=U j):t.slot j=.live i:=by
 unfold SetTable.slot;simp only[HX h.rise e,e,beq_self_eq_true,qA]
theorem Yz(h:Tb t)(e:j∉t.place):t.slot j=.empty:=by
 unfold SetTable.slot;have:(t.place[SetTable.below t.place j]?==U j)=false:=by
  cases q:t.place[SetTable.below t.place j]? with
  |none=>rfl
  |some x=>
   by_cases hx:x=j
   ·subst hx;exact absurd (Array.mem_of_getElem? q) e
   ·simp[hx]
 simp only[this,zl,ZN,h.dum,Wz]
def Ka(mask:Nat)(p:SetTable.Probe):SetTable.Probe:=
 if p.more>0 then { p with j:=p.j+1,more:=p.more-1 }else
 { p with j:=(SetTable.leap mask p.i p.perturb).1,more:=SetTable.runEnd mask (SetTable.leap mask p.i p.perturb).1-(SetTable.leap mask p.i p.perturb).1,i:=(SetTable.leap mask p.i p.perturb).1,perturb:=(SetTable.leap mask p.i p.perturb).2 }
theorem Mo(t:SetTable)(p:SetTable.Probe):t.advance p=Ka t.mask p:=rfl
def E6(mask i perturb:Nat):SetTable.Probe:={ j:=i,more:=SetTable.runEnd mask i-i,i,perturb,dummy:=Y }
def gJ(mask:Nat)(h:Int):Nat->SetTable.Probe
 |0=>E6 mask (SetTable.bits h%(mask+1)) (SetTable.bits h)
 |n+1=>Ka mask (gJ mask h n)
theorem WD(mask:Nat)(h:Int):∀n,(gJ mask h n).dummy=Y
 |0=>rfl
 |n+1=>by
  have:=WD mask h n;unfold gJ Ka;split<;>exact this
theorem Rj{t:SetTable}(b:Tb t)(a:Nat->Int)(h:Int):∀(d fuel n:Nat),d<fuel->(∀m,n<=m->m<n+d->∃i,t.place[i]?=U (gJ t.mask h m).j/\a i≠h) →
  ((gJ t.mask h (n+d)).j∉t.place->SetTable.probe.go t a h fuel (gJ t.mask h n)=U (.empty (gJ t.mask h (n+d)).j Y)) ∧
  ∀i,t.place[i]?=U (gJ t.mask h (n+d)).j->a i=h->SetTable.probe.go t a h fuel (gJ t.mask h n)=U (.candidate (gJ t.mask h (n+d)).j i (gJ t.mask h (n+d+1)))
 |0,fuel+1,n,_,_=>by
  refine⟨λe=>?_,λi e1 e2=>?_⟩
  ·unfold SetTable.probe.go;rw[Nat.add_zero]at e ⊢;rw[Yz b e];simp only[WD]
  ·unfold SetTable.probe.go;rw[Nat.add_zero]at e1 ⊢;rw[Du b e1];simp only[e2,beq_self_eq_true,qA,Mo];rfl
 |d+1,fuel+1,n,hd,hp=>by
  obtain⟨i,e1,e2⟩:=hp n (zo _) (by omega);have c:=Rj b a h d fuel (n+1) (by omega) λm h1 h2=>hp m (by omega) (by omega);have e:SetTable.probe.go t a h (fuel+1) (gJ t.mask h n)=SetTable.probe.go t a h fuel (gJ t.mask h (n+1)):=by
   conv=>lhs;unfold SetTable.probe.go
   rw[Du b e1];simp only[beq_iff_eq,e2,ZN,Mo];rfl
  rw[e,show n+(d+1)=n+1+d by omega];exact c
theorem UG:∀(xs ys:Z Nat),xs.Nodup->(∀x,x∈xs->x∈ys)->xs.length<=ys.length
 |[],_,_,_=>QP _
 |x::xs,ys,hn,hs=>by
  have b:=List.nodup_cons.mp hn;have c:=hs x (zg ..);have:=UG xs (ys.erase x) b.2 λz a=>(Kk (λe:z=x=>b.1 (by rw[<-e];exact a))).mpr (hs z (zi _ a));have:=yb c;have:0<ys.length:=ki c;simp only[ZZ];omega
def nx(M i:Nat):Nat:=(i*5+1)%M
def Rk(M:Nat):Nat->Nat->Nat
 |0,i=>i
 |k+1,i=>Rk M k (nx M i)
theorem GK(M:Nat):∀(a b i:Nat),Rk M (a+b) i=Rk M b (Rk M a i)
 |0,b,i=>by rw[kR];rfl
 |a+1,b,i=>by rw[Nat.succ_add];exact GK M a b _
theorem Pm:(∀r,r<8->∃k,k<8/\Rk 8 k 0=r)/\Rk 8 8 0=0:=by decide +kernel
theorem iA:(∀r,r<32->∃k,k<32/\Rk 32 k 0=r)/\Rk 32 32 0=0:=by decide +kernel
theorem e9:(∀r,r<128->∃k,k<128/\Rk 128 k 0=r)/\Rk 128 128 0=0:=by decide +kernel
theorem HC{M:Nat}(h:(∀r,r<M->∃k,k<M/\Rk M k 0=r)/\Rk M M 0=0){r:Nat}(hi:i<M)(c:r<M):∃k,k<M/\Rk M k i=r:=by
 obtain⟨a,ha,rfl⟩:=h.1 i hi;obtain⟨b,hb,rfl⟩:=h.1 r c;by_cases q:a<=b
 ·exact⟨b-a,by omega,by rw[<-GK,show a+(b-a)=b by omega]⟩
 ·exact⟨M-a+b,by omega,by rw[<-GK,show a+(M-a+b)=M+b by omega,GK,h.2]⟩
theorem g7(h:mask=7\/mask=31\/mask=127){r:Nat}(hi:i<mask+1)(a:r<mask+1):∃k,k<mask+1/\Rk (mask+1) k i=r:=by
 rcases h with rfl|rfl|rfl
 ·exact HC Pm hi a
 ·exact HC iA hi a
 ·exact HC e9 hi a
def lp(mask:Nat)(h:Int):Nat->Nat×Nat
 |0=>(SetTable.bits h%(mask+1),SetTable.bits h)
 |l+1=>SetTable.leap mask (lp mask h l).1 (lp mask h l).2
theorem HY(mask i:Nat):i<=SetTable.runEnd mask i/\SetTable.runEnd mask i<=i+9:=by unfold SetTable.runEnd;split<;>omega
theorem M'(h:i<=mask):SetTable.runEnd mask i<=mask:=by unfold SetTable.runEnd;split<;>omega
theorem Ba{mask:Nat}{h:Int}{s i p:Nat}(e:gJ mask h s=E6 mask i p):∀k,k<=SetTable.runEnd mask i-i->gJ mask h (s+k)={ E6 mask i p with j:=i+k,more:=SetTable.runEnd mask i-i-k }
 |0,_=>by rw[Nat.add_zero,e];rfl
 |k+1,hk=>by
  have a:=Ba e k (by omega);show Ka mask (gJ mask h (s+k))=_;rw[a];unfold Ka;rw[zk (by dsimp only;omega)];rfl
theorem Rm{h:Int}{s p:Nat}(e:gJ mask h s=E6 mask i p):gJ mask h (s+(SetTable.runEnd mask i-i)+1)=E6 mask (SetTable.leap mask i p).1 (SetTable.leap mask i p).2:=by
 show Ka mask (gJ mask h (s+(SetTable.runEnd mask i-i)))=_;rw[Ba e _ (zo _)];unfold Ka;rw[zw (by dsimp only;omega)];rfl
theorem NW(mask:Nat)(h:Int):∀l,∃s,s<=10*l/\gJ mask h s=E6 mask (lp mask h l).1 (lp mask h l).2
 |0=>⟨0,by omega,rfl⟩
 |l+1=>by
  obtain⟨s,hs,e⟩:=NW mask h l;have:=HY mask (lp mask h l).1;exact⟨_,by omega,Rm e⟩
theorem aI(mask:Nat)(h:Int):∀l,(lp mask h l).1<mask+1
 |0=>Nat.mod_lt _ (Nat.succ_pos _)
 |l+1=>Nat.mod_lt _ (Nat.succ_pos _)
theorem Rn(mask:Nat)(h:Int):∀l,(lp mask h l).2*32 ^ l<=SetTable.bits h
 |0=>by simp[lp]
 |l+1=>by
  have a:=Rn mask h l;show(lp mask h l).2 / 32*32 ^ (l+1)<=_;have h1:(lp mask h l).2 / 32*32<=(lp mask h l).2:=Nat.div_mul_le_self _ _;have h2:=Nat.mul_le_mul_right (32 ^ l) h1;rw[Nat.pow_succ,Nat.mul_comm (32 ^ l) 32,<-Nat.mul_assoc];exact ZA h2 a
theorem Sk(h:Int):SetTable.bits h<18446744073709551616:=by
 unfold SetTable.bits;have h1:h%18446744073709551616<18446744073709551616:=Int.emod_lt_of_pos _ (by decide);have h2:0<=h%18446744073709551616:=Int.emod_nonneg _ (by decide);show(h%18446744073709551616).toNat<_;omega
theorem WK(mask:Nat)(h:Int):∀k,(lp mask h (12+k)).2<32
 |0=>by
  have h1:=Rn mask h 12;have h2:=Sk h;rw[show(32:Nat) ^ 12=1152921504606846976 from rfl]at h1;show(lp mask h 12).2<32;omega
 |k+1=>by
  have:=WK mask h k;show(lp mask h (12+k)).2 / 32<32;omega
theorem TH(mask:Nat)(h:Int):∀k,(lp mask h (12+k)).1=Rk (mask+1) k (lp mask h 12).1:=by
 have step:∀k,(lp mask h (12+k+1)).1=nx (mask+1) (lp mask h (12+k)).1:=λk=>by
  have:=WK mask h k;show((lp mask h (12+k)).1*5+1+(lp mask h (12+k)).2 / 32)%(mask+1)=_;rw[show(lp mask h (12+k)).2 / 32=0 by omega];rfl
 have b:∀k i,Rk (mask+1) k (nx (mask+1) i)=nx (mask+1) (Rk (mask+1) k i):=λk=>by
  induction k with
  |zero=>intro i;rfl
  |succ k a=>intro i;exact a _
 intro k
 induction k with
 |zero=>rfl
 |succ k a=>
  rw[show 12+(k+1)=12+k+1 by omega,step,a];exact(b k _).symm
theorem NE(b:mask=7\/mask=31\/mask=127)(h:Int){r:Nat}(a:r<mask+1):∃l,l<mask+13/\(lp mask h l).1=r:=by
 obtain⟨k,c,e⟩:=g7 b (aI mask h 12) a;exact⟨12+k,by omega,by rw[TH,e]⟩
theorem WJ(h:Tb t):∃r,r<t.mask+1/\r∉t.place:=by
 by_cases q:∃r,r<t.mask+1/\r∉t.place
 ·exact q
 ·exfalso;have:=UG (List.range (t.mask+1)) t.place.toList ye λx hx=>by
   rw[KF]at hx;by_cases a:x∈t.place
   ·exact Array.mem_toList_iff.mpr a
   ·exact absurd ⟨x,hx,a⟩ q
  rw[kX,qa]at this;have:=h.full;omega
theorem gf(a:Tb t)(h:Int):∃n,n<10*SetTable.turns t.mask/\(gJ t.mask h n).j∉t.place:=by
 obtain⟨r,b,c⟩:=WJ a;obtain⟨l,d,e⟩:=NE a.mask h b;obtain⟨s,hs,e'⟩:=NW t.mask h l;refine⟨s,by unfold SetTable.turns;omega,?_⟩;rw[e'];show(lp t.mask h l).1∉_;rw[e];exact c
theorem UJ(d:Tb t)(h:Int):∃n,n<10*SetTable.turns t.mask/\(gJ t.mask h n).j∉t.place/\∀m,m<n->(gJ t.mask h m).j∈t.place:=by
 obtain⟨n,g,f⟩:=gf d h;have:∀k,(∃n,n<=k/\(gJ t.mask h n).j∉t.place/\∀m,m<n->(gJ t.mask h m).j∈t.place)\/∀m,m<=k->(gJ t.mask h m).j∈t.place:=λk=>by
  induction k with
  |zero=>
   by_cases q:(gJ t.mask h 0).j∈t.place
   ·exact .inr λm b=>by rw[show m=0 by omega];exact q
   ·exact .inl ⟨0,zo _,q,λm b=>absurd b (ko _)⟩
  |succ k a=>
   rcases a with⟨n,h1,h2⟩|a
   ·exact .inl ⟨n,by omega,h2⟩
   ·by_cases q:(gJ t.mask h (k+1)).j∈t.place
    ·exact .inr λm b=>by
      by_cases e:m=k+1
      ·rw[e];exact q
      ·exact a m (by omega)
    ·exact .inl ⟨k+1,zo _,q,λm b=>a m (by omega)⟩
 rcases this n with⟨m,h1,h2,c⟩|q
 ·exact⟨m,by omega,h2,c⟩
 ·exact absurd (q n (zo _)) f
theorem gD(xs:Array α)(k:Nat)(a:α):xs.getD k a=xs[k]?.getD a:=by
 by_cases h:k<xs.size
 ·rw[qc h];simp[Array.getD,h]
 ·rw[k6 (by omega)];simp[Array.getD,h]
structure Tok (t:SetTable) (es:Array (Int×Value)):Prop extends Tb t where
 size:t.place.size=es.size
 reach:∀(i j:Nat) e,t.place[i]?=some j->es[i]?=some e->∃n,n<10*SetTable.turns t.mask/\(gJ t.mask e.1 n).j=j/\∀m,m<n->(gJ t.mask e.1 m).j∈t.place
theorem Bb(xs:Array α)(p:Nat)(x:α):(SetTable.insertAt xs p x).toList=xs.toList.take p++x::xs.toList.drop p:=by
 unfold SetTable.insertAt;simp[Array.toList_extract,List.take_of_length_le]
theorem Gq{xs:Array α}{p:Nat}(hp:p<=xs.size)(x:α)(i:Nat):(SetTable.insertAt xs p x)[i]?=if i<p then xs[i]? else if i=p then U x else xs[i-1]?:=by
 rw[<-qv,Bb,List.getElem?_append];have a:(xs.toList.take p).length=p:=by rw[kF,qa];omega
 rw[a];by_cases h1:i<p
 ·rw[zk h1,zk h1,List.getElem?_take,zk h1,qv]
 ·rw[zw h1,zw h1];by_cases h2:i=p
  ·rw[zk h2,h2,Nat.sub_self];rfl
  ·rw[zw h2,show i-p=(i-p-1)+1 by omega,Z3,List.getElem?_drop,qv,show p+(i-p-1)=i-1 by omega]
theorem xG(xs:Array α)(p:Nat)(x:α):(SetTable.insertAt xs p x).size=xs.size+1:=by
 rw[<-qa,Bb,zI,ZZ,kF,k9,qa];omega
theorem WL{xs:Array α}{p:Nat}{x y:α}:y∈SetTable.insertAt xs p x↔y∈xs\/y=x:=by
 rw[<-Array.mem_toList_iff,Bb,List.mem_append,QY,<-Array.mem_toList_iff];constructor
 ·rintro(h|h|h)
  ·exact .inl (List.mem_of_mem_take h)
  ·exact .inr h
  ·exact .inl (List.mem_of_mem_drop h)
 ·rintro(h|h)
  ·rw[<-List.take_append_drop p xs.toList,List.mem_append]at h;rcases h with h|h
   ·exact .inl h
   ·exact .inr (.inr h)
  ·exact .inr (.inl h)
theorem P8{xs:Array Nat}(c:Uz xs)(h:j∉xs):Uz (SetTable.insertAt xs (SetTable.below xs j) j):=by
 obtain⟨h1,h2,e⟩:=Be c j;intro a b g hb;rw[xG]at hb;have d:∀i,i<xs.size+1->(SetTable.insertAt xs (SetTable.below xs j) j).getD i 0=if i<SetTable.below xs j then xs.getD i 0 else if i=SetTable.below xs j then j else xs.getD (i-1) 0:=λi hi=>by
  rw[gD,Gq h1];by_cases q1:i<SetTable.below xs j
  ·rw[zk q1,zk q1,<-gD]
  ·rw[zw q1,zw q1];by_cases q2:i=SetTable.below xs j
   ·rw[zk q2,zk q2];rfl
   ·rw[zw q2,zw q2,<-gD]
 have gt:∀k,SetTable.below xs j<=k->k<xs.size->j<xs.getD k 0:=λk f hs=>by
  have q:=e k f hs;rcases Nat.lt_or_eq_of_le q with q|q
  ·exact q
  ·exact absurd (Array.mem_of_getElem? (P' hs q.symm)) h
 rw[d a (by omega),d b hb];by_cases a1:a<SetTable.below xs j
 ·rw[zk a1];by_cases b1:b<SetTable.below xs j
  ·rw[zk b1];exact c a b g (by omega)
  ·rw[zw b1];have:=h2 a a1;by_cases b2:b=SetTable.below xs j
   ·rw[zk b2];exact this
   ·rw[zw b2];exact Nat.lt_trans this (gt _ (by omega) (by omega))
 ·rw[zw a1];by_cases a2:a=SetTable.below xs j
  ·rw[zk a2,zw (by omega),zw (by omega)];exact gt _ (by omega) (by omega)
  ·rw[zw a2,zw (by omega),zw (by omega)];exact c _ _ (by omega) (by omega)
theorem UP{es:Array (Int×A0)}(h:Tok t es){d:Int}{x:A0}(v:n<10*SetTable.turns t.mask)(o:(gJ t.mask d n).j∉t.place)(hp:∀m,m<n->(gJ t.mask d m).j∈t.place)(s:(gJ t.mask d n).j<=t.mask)(hs:es.size+1<=t.mask):
  Tok (t.put (gJ t.mask d n).j).1 (SetTable.insertAt es (t.put (gJ t.mask d n).j).2 (d,x))/\(t.put (gJ t.mask d n).j).1.led=t.led/\(t.put (gJ t.mask d n).j).1.plain=t.plain/\(t.put (gJ t.mask d n).j).1.mask=t.mask:=by
 have hd:=h.dum;have p:t.put (gJ t.mask d n).j=({ t with place:=SetTable.insertAt t.place (SetTable.below t.place (gJ t.mask d n).j) (gJ t.mask d n).j,dummies:=#[] },SetTable.below t.place (gJ t.mask d n).j):=by
  unfold SetTable.put;rw[hd];simp only[Wz,zl,ZN]
 rw[p];have l:=h.size;have hb:=(Be h.rise (gJ t.mask d n).j).1;refine⟨{ mask:=h.mask,dum:=rfl,rise:=P8 h.rise o,bd:=λj w=>?_,full:=?_,size:=?_,reach:=λi j e h1 h2=>?_ },rfl,rfl,rfl⟩
 ·rcases WL.mp w with q|q
  ·exact h.bd j q
  ·rw[q];exact s
 ·show(SetTable.insertAt _ _ _).size<=t.mask;rw[xG];omega
 ·show(SetTable.insertAt _ _ _).size=_;rw[xG,xG,l]
 ·have h1:(SetTable.insertAt t.place (SetTable.below t.place (gJ t.mask d n).j) (gJ t.mask d n).j)[i]?=U j:=h1;rw[Gq hb]at h1;rw[Gq (by rw[<-l];exact hb)]at h2;have g:∀e':Int×A0,(∃n,n<10*SetTable.turns t.mask/\(gJ t.mask e'.1 n).j=j/\∀m,m<n->(gJ t.mask e'.1 m).j∈t.place)->∃f,f<10*SetTable.turns t.mask/\(gJ t.mask e'.1 f).j=j/\∀m,m<f->(gJ t.mask e'.1 m).j∈SetTable.insertAt t.place (SetTable.below t.place (gJ t.mask d n).j) (gJ t.mask d n).j:=
   λe' ⟨n,a,b,c⟩=>⟨n,a,b,λm u=>WL.mpr (.inl (c m u))⟩
  by_cases q1:i<SetTable.below t.place (gJ t.mask d n).j
  ·rw[zk q1]at h1 h2;exact g e (h.reach i j e h1 h2)
  ·rw[zw q1]at h1 h2;by_cases q2:i=SetTable.below t.place (gJ t.mask d n).j
   ·rw[zk q2]at h1 h2;cases h1;cases h2;exact g (d,x) ⟨n,v,rfl,hp⟩
   ·rw[zw q2]at h1 h2;exact g e (h.reach (i-1) j e h1 h2)
theorem MC{mask:Nat}(h:Int):∀n,(gJ mask h n).j+(gJ mask h n).more<=mask
 |0=>by
  have h1:SetTable.bits h%(mask+1)<mask+1:=Nat.mod_lt _ (Nat.succ_pos _);have:=M' (mask:=mask) (i:=SetTable.bits h%(mask+1)) (by omega);have:=HY mask (SetTable.bits h%(mask+1));show SetTable.bits h%(mask+1)+(SetTable.runEnd mask (SetTable.bits h%(mask+1))-SetTable.bits h%(mask+1))<=mask;omega
 |n+1=>by
  have b:=MC (mask:=mask) h n;show(Ka mask (gJ mask h n)).j+(Ka mask (gJ mask h n)).more<=mask;unfold Ka;split
  ·dsimp only;omega
  ·dsimp only;generalize a:(SetTable.leap mask (gJ mask h n).i (gJ mask h n).perturb).1=i;have h1:i<mask+1:=by rw[<-a];exact Nat.mod_lt _ (Nat.succ_pos _)
   have:=M' (mask:=mask) (i:=i) (by omega);have:=HY mask i;omega
theorem UL(h:Int)(n:Nat):(gJ mask h n).j<=mask:=by have:=MC (mask:=mask) h n;omega
def UW(owner:Array (O Nat))(j:Nat):Prop:=(owner.getD j (U 0)).isNone=false
theorem LK{mask:Nat}{h:Int}{owner:Array (O Nat)}:∀(fuel l s j:Nat),gJ mask h s=E6 mask (lp mask h l).1 (lp mask h l).2->s<=10*l->(∀m,m<s->UW owner (gJ mask h m).j) →
  SetTable.layClean.free mask owner fuel (lp mask h l).1 (lp mask h l).2=U j->∃n,n<10*(l+fuel)/\(gJ mask h n).j=j/\(owner.getD j (U 0)).isNone=true/\∀m,m<n->UW owner (gJ mask h m).j
 |0,l,s,j,_,_,_,e=>by unfold SetTable.layClean.free at e;cases e
 |fuel+1,l,s,j,hs,hl,ho,e=>by
  have i:=HY mask (lp mask h l).1;unfold SetTable.layClean.free at e;cases c:(List.range (SetTable.runEnd mask (lp mask h l).1+1-(lp mask h l).1)).find? λk=>(owner.getD ((lp mask h l).1+k) (U 0)).isNone with
  |some k=>
   rw[c]at e;cases e;obtain⟨h1,h2,f⟩:=List.find?_range_eq_some.mp c;rw[KF]at h2;refine⟨s+k,by omega,?_,h1,λm g=>?_⟩
   ·rw[Ba hs k (by omega)]
   ·by_cases q:m<s
    ·exact ho m q
    ·have d:=f (m-s) (by omega);rw[show m=s+(m-s) by omega,Ba hs (m-s) (by omega)];simpa[UW]using d
  |none=>
   rw[c]at e;have f:=List.find?_range_eq_none.mp c;obtain⟨n,a,b⟩:=LK fuel (l+1) _ j (Rm hs) (by omega) (λm g=>by
    by_cases q:m<s
    ·exact ho m q
    ·have d:=f (m-s) (by omega);rw[show m=s+(m-s) by omega,Ba hs (m-s) (by omega)];simpa[UW]using d) e
   exact⟨n,by omega,b⟩
theorem LQ{mask:Nat}{h:Int}{owner:Array (O Nat)}:∀(fuel l:Nat),SetTable.layClean.free mask owner fuel (lp mask h l).1 (lp mask h l).2=Y->∀l',l<=l'->l'<l+fuel->UW owner (lp mask h l').1
 |0,l,_,l',h1,h2=>by omega
 |fuel+1,l,e,l',h1,h2=>by
  have d:=HY mask (lp mask h l).1;unfold SetTable.layClean.free at e;cases a:(List.range (SetTable.runEnd mask (lp mask h l).1+1-(lp mask h l).1)).find? λk=>(owner.getD ((lp mask h l).1+k) (U 0)).isNone with
  |some k=>rw[a]at e;cases e
  |none=>
   rw[a]at e;have c:=List.find?_range_eq_none.mp a;by_cases q:l'=l
   ·subst q;have b:=c 0 (by omega);simpa[UW]using b
   ·exact LQ fuel (l+1) e l' (by omega) (by omega)
structure Ow (mask:Nat) (hs:List Int) (owner:Array (Option Nat)):Prop where
 size:owner.size=mask+1
 lt:∀(j idx:Nat),owner[j]?=some (some idx)->idx<hs.length
 all:∀(idx:Nat) h,hs[idx]?=some h->∃j,owner[j]?=some (some idx)/\∃n,n<10*SetTable.turns mask/\(gJ mask h n).j=j/\∀m,m<n->UW owner (gJ mask h m).j
 inj:∀(j j' idx:Nat),owner[j]?=some (some idx)->owner[j']?=some (some idx)->j=j'
theorem M3{hs:Z Int}(o:Ow mask hs owner)(c:j<=mask):UW owner j↔∃b,owner[j]?=U (U b):=by
 unfold UW;have a:j<owner.size:=by rw[o.size];omega
 rw[gD,qc a];cases owner[j]with
 |none=>simp
 |some i=>simp
theorem YB{f:Nat->Nat}:∀{xs:Z Nat},xs.Nodup->(∀x∈xs,∀y∈xs,f x=f y->x=y)->(xs.map f).Nodup:=λ{xs} hn hi=>
 List.pairwise_map.mpr (j0 (λha hb a e=>a (hi _ ha _ hb e)) hn)
theorem hJ{hs:Z Int}(o:Ow mask hs owner)(g:hs.length<=mask):∃r,r<mask+1/\¬ UW owner r:=by
 by_cases q:∃r,r<mask+1/\¬ UW owner r
 ·exact q
 ·exfalso;have all:∀r,r<mask+1->∃c,owner[r]?=U (U c):=λr a=>by
   by_cases b:UW owner r
   ·exact(M3 o (by omega)).mp b
   ·exact absurd ⟨r,a,b⟩ q
  have f:∀r,r<mask+1->owner[r]?=U (U ((owner[r]?.getD Y).getD 0)):=λr a=>by
   obtain⟨c,e⟩:=all r a;rw[e];rfl
  have:=UG ((List.range (mask+1)).map λr=>(owner[r]?.getD Y).getD 0) (List.range hs.length) (YB ye λx hx y d e=>by
   rw[KF]at hx d;have e1:=f x hx;have e2:=f y d;rw[e]at e1;exact o.inj x y _ e1 e2) λx hx=>by
    obtain⟨r,a,rfl⟩:=List.mem_map.mp hx;rw[KF]at a;exact List.mem_range.mpr (o.lt r _ (f r a))
  rw[zh,kX,kX]at this;omega
theorem S'(f:mask=7\/mask=31\/mask=127){hs:Z Int}(o:Ow mask hs owner)(y:hs.length<=mask)(h:Int):
  ∃j,SetTable.layClean.free mask owner (SetTable.turns mask) (SetTable.bits h%(mask+1)) (SetTable.bits h)=U j/\Ow mask (hs++[h]) (owner.setIfInBounds j (U hs.length)):=by
 obtain⟨r,x,z⟩:=hJ o y;cases p:SetTable.layClean.free mask owner (SetTable.turns mask) (SetTable.bits h%(mask+1)) (SetTable.bits h)with
 |none=>
  obtain⟨l,A,e⟩:=NE f h x;have:=LQ (h:=h) (owner:=owner) (SetTable.turns mask) 0 p l (QP _) (by unfold SetTable.turns;omega);rw[e]at this;exact absurd this z
 |some j=>
  obtain⟨n,h1,h2,i,t⟩:=LK (h:=h) (owner:=owner) (SetTable.turns mask) 0 0 j S (zo _) (λm f=>absurd f (ko _)) p;rw[kR]at h1;have B:j<=mask:=by rw[<-h2];exact UL h n
  have v:j<owner.size:=by rw[o.size];omega
  have get:∀k:Nat,(owner.setIfInBounds j (U hs.length))[k]?=if k=j then U (U hs.length)else owner[k]?:=λk=>by
   rw[Array.getElem?_setIfInBounds];by_cases q:k=j
   ·rw[zk q,zk q.symm,zk v]
   ·rw[zw q,zw (λe=>q e.symm)]
  have old:∀k d:Nat,owner[k]?=U (U d)->k≠j:=λk d e q=>by
   subst q;rw[gD,e]at i;cases i
  have s:∀k,UW owner k->UW (owner.setIfInBounds j (U hs.length)) k:=λk q=>by
   unfold UW at q ⊢;rw[gD]at q ⊢;rw[get];by_cases e:k=j
   ·rw[zk e];rfl
   ·rw[zw e];exact q
  refine⟨j,rfl,⟨by rw[Array.size_setIfInBounds];exact o.size,λk d e=>?_,λd g e=>?_,λa b d e1 e2=>?_⟩⟩
  ·rw[get]at e;rw[zI];by_cases q:k=j
   ·rw[zk q]at e;cases e;simp
   ·rw[zw q]at e;have:=o.lt k d e;simp;omega
  ·by_cases q:d<hs.length
   ·rw[ZO q]at e;obtain⟨k,e1,w,a,b,c⟩:=o.all d g e;exact⟨k,by rw[get,zw (old k d e1)];exact e1,w,a,b,λm f=>s _ (c m f)⟩
   ·rw[qr (by omega)]at e;have:d-hs.length=0:=by
     by_cases u:d-hs.length=0
     ·exact u
     ·rw[qV (by simp;omega)]at e;cases e
    rw[this]at e;cases e;have:d=hs.length:=by omega
    subst this;exact⟨j,by rw[get,zk rfl],n,h1,h2,λm f=>s _ (t m f)⟩
  ·rw[get]at e1 e2;by_cases q1:a=j
   ·by_cases q2:b=j
    ·rw[q1,q2]
    ·rw[zk q1]at e1;rw[zw q2]at e2;cases e1;have:=o.lt b _ e2;omega
   ·by_cases q2:b=j
    ·rw[zw q1]at e1;rw[zk q2]at e2;cases e2;have:=o.lt a _ e1;omega
    ·rw[zw q1]at e1;rw[zw q2]at e2;exact o.inj a b d e1 e2
theorem OZ(mask:Nat):Ow mask [] (Array.replicate (mask+1) Y):=by
 have no:∀(j a:Nat),(Array.replicate (mask+1) (Y:O Nat))[j]?≠U (U a):=λj a e=>by
  rw[Array.getElem?_replicate]at e;split at e<;>cases e
 exact⟨Array.size_replicate,λj a e=>absurd e (no j a),λa h e=>by simp at e,λj b a e=>absurd e (no j a)⟩
theorem RC(l:mask=7\/mask=31\/mask=127)(hs:Z Int)(b:hs.length<=mask):∃owner,SetTable.layClean mask hs.toArray=U owner/\Ow mask hs owner:=by
 have i:∀(ys xs:Z Int) (owner:Array (O Nat)),Ow mask xs owner->xs.length+ys.length<=mask->∃d,ys.foldl (λ(f:O (Array (O Nat)×Nat)) h=>do
   let (owner,k) <-f
   let j <-SetTable.layClean.free mask owner (SetTable.turns mask) (SetTable.bits h%(mask+1)) (SetTable.bits h)
   pure (owner.setIfInBounds j (U k),k+1)) (U (owner,xs.length))=U (d,xs.length+ys.length)/\Ow mask (xs++ys) d:=by
  intro ys
  induction ys with
  |nil=>intro xs owner o _;exact⟨owner,rfl,by rw[ZT];exact o⟩
  |cons y ys g=>
   intro xs owner o b;rw[ZZ]at b;obtain⟨j,e,o'⟩:=S' l o (by omega) y;obtain⟨a,e2,c⟩:=g (xs++[y]) _ o' (by simp;omega);refine⟨a,?_,by rw[ZI]at c;exact c⟩;rw[qo];simp only[Option.bind_eq_bind,Option.bind_some,e,pure];rw[show(xs++[y]).length=xs.length+1 by simp]at e2;rw[ZZ,show xs.length+(ys.length+1)=xs.length+1+ys.length by omega];exact e2
 obtain⟨a,e,o⟩:=i hs [] _ (OZ mask) (by simpa using b);refine⟨a,?_,by simpa using o⟩;unfold SetTable.layClean;rw[List.foldl_toArray];exact congrArg (Option.map (·.1)) e
theorem NT{α β:Type}{f:α->O β}{g:α->β}:∀{xs:Z α},(∀x∈xs,f x=U (g x))->xs.filterMap f=xs.map g
 |[],_=>rfl
 |x::xs,h=>by
  rw[kL,h x (zg ..),zr,NT λy a=>h y (zi _ a)]
theorem et{xs:Z Nat}(h:xs.Pairwise (· < ·)):Uz xs.toArray:=by
 intro i j b c;have a:j<xs.length:=by simpa using c
 rw[gD,gD,List.getElem?_toArray,List.getElem?_toArray,z4 a,z4 (by omega)];exact List.pairwise_iff_getElem.mp h i j (by omega) a b
theorem YC{es:Array (Int×A0)}{wanted:Nat}(B:SetTable.sizeAbove wanted-1=7\/SetTable.sizeAbove wanted-1=31\/SetTable.sizeAbove wanted-1=127)(I:es.size<=SetTable.sizeAbove wanted-1):
  ∃t' w,t.relaid (es.map (·.1)) wanted=U (t',w)/\(w.filterMap (es[·]?)).toList.Perm es.toList/\Tok t' (w.filterMap (es[·]?))/\t'.led=t.led/\t'.plain=t.plain/\t'.mask=SetTable.sizeAbove wanted-1:=by
 generalize H:SetTable.sizeAbove wanted-1=mask at B I ⊢;have hs:(es.toList.map (·.1)).length=es.size:=by simp
 obtain⟨d,e,o⟩:=RC B (es.toList.map (·.1)) (by omega);have ea:es.map (·.1)=(es.toList.map (·.1)).toArray:=by
  apply Array.ext';simp
 let L:Z (Nat×Nat):=(List.range (mask+1)).filterMap λj=>(d.getD j Y).map λk=>(j,k)
 have f:∀j k,(j,k)∈L↔d[j]?=U (U k):=λj k=>by
  show(j,k)∈List.filterMap _ _↔_;rw[List.mem_filterMap];constructor
  ·rintro⟨a,ha,q⟩;rw[gD]at q;cases h1:d[a]? with
   |none=>rw[h1]at q;cases q
   |some x=>
    rw[h1]at q;cases x with
    |none=>cases q
    |some y=>cases q;exact h1
  ·intro q;refine⟨j,List.mem_range.mpr ?_,?_⟩
   ·by_cases h:j<d.size
    ·rw[<-o.size];exact h
    ·rw[k6 (by omega)]at q;cases q
   ·rw[gD,q];rfl
 have D:L.Pairwise λa b=>a.1<b.1:=by
  refine List.pairwise_filterMap.mpr (List.pairwise_lt_range.imp λ{a b} hab x hx y hy=>?_);cases h1:d.getD a Y with
  |none=>rw[h1]at hx;cases hx
  |some u=>
   cases h2:d.getD b Y with
   |none=>rw[h2]at hy;cases hy
   |some v=>rw[h1]at hx;rw[h2]at hy;cases hx;cases hy;exact hab
 have G:(L.map (·.2)).Nodup:=by
  refine List.pairwise_map.mpr (j0 (λ{a b} ha hb hab e=>?_) D);have h1:=(f a.1 a.2).mp ha;have h2:=(f b.1 b.2).mp hb;rw[e]at h1;have:=o.inj _ _ _ h1 h2;omega
 have s:(L.map (·.2)).Perm (List.range es.size):=yq G ye λz=>by
  rw[kD,KF];constructor
  ·rintro⟨a,ha,rfl⟩;have:=o.lt _ _ ((f a.1 a.2).mp ha);omega
  ·intro K;obtain⟨j,h1,_⟩:=o.all z ((es.toList.map (·.1))[z]'(by omega)) (z4 (by omega));exact⟨(j,z),(f j z).mpr h1,rfl⟩
 let g:Nat->Int×A0:=λk=>es.getD k (0,.none)
 have hg:∀k,k<es.size->es[k]?=U (g k):=λk l=>by
  show _=U (es.getD k _);rw[gD,qc l];rfl
 have C:(L.map (·.2)).filterMap (λk=>es[k]?)=(L.map (·.2)).map g:=NT λk l=>hg k (List.mem_range.mp (s.mem_iff.mp l));have eL:((L.map (·.2)).toArray.filterMap (λk=>es[k]?)).toList=L.map λp=>g p.2:=by
  rw[Array.toList_filterMap,C,qB];rfl
 refine⟨{ mask:=mask,place:=(L.map (·.1)).toArray,dummies:=#[],finger:=t.finger,led:=t.led,moves:=t.movedTo mask,plain:=t.plain },(L.map (·.2)).toArray,?_,?_,?_,rfl,rfl,rfl⟩
 ·unfold SetTable.relaid SetTable.laid;rw[H,ea,e];rfl
 ·rw[Array.toList_filterMap,C];refine(s.map g).trans ?_;have:(List.range es.size).map g=es.toList:=by
   apply List.ext_getElem?;intro i;rw[Zp];by_cases h:i<es.size
   ·rw[List.getElem?_range h,qv,hg i h];rfl
   ·rw[qV (by simp;omega),qV (by simp;omega)];rfl
  rw[this]
 ·have sz:L.length=es.size:=by
   have:=s.length_eq;rw[zh,kX]at this;exact this
  refine { mask:=B,dum:=rfl,rise:=et (List.pairwise_map.mpr D),bd:=λj A=>?_,full:=?_,size:=?_,reach:=λi j x h1 h2=>?_ }
  ·have A:j∈L.map (·.1):=by simpa using A
   obtain⟨a,ha,rfl⟩:=List.mem_map.mp A;have q:=(f a.1 a.2).mp ha;have:a.1<d.size:=by
    by_cases h:a.1<d.size
    ·exact h
    ·rw[k6 (by omega)]at q;cases q
   have:=o.size;show a.1<=mask;omega
  ·show(L.map (·.1)).toArray.size<=mask;simp only[zC,zh];omega
  ·rw[<-qa (xs:=Array.filterMap _ _),eL];simp
  ·have h1:(L.map (·.1)).toArray[i]?=U j:=h1;rw[List.getElem?_toArray,Zp]at h1;rw[<-qv,eL,Zp]at h2;cases hi:L[i]? with
   |none=>rw[hi]at h1;cases h1
   |some p=>
    rw[hi]at h1 h2;cases h1;cases h2;have hp:(p.1,p.2)∈L:=QE hi;have q:=(f p.1 p.2).mp hp;have l:p.2<es.size:=List.mem_range.mp (s.mem_iff.mp (List.mem_map.mpr ⟨p,hp,rfl⟩));have E:(es.toList.map (·.1))[p.2]?=U (g p.2).1:=by
     rw[Zp,qv,hg _ l];rfl
    obtain⟨J,q1,n,a,b,c⟩:=o.all _ _ E;have:J=p.1:=o.inj _ _ _ q1 q;subst this;refine⟨n,a,b,λm F=>?_⟩;obtain⟨k,q2⟩:=(M3 o (UL _ _)).mp (c m F);show _∈(L.map (·.1)).toArray;rw[List.mem_toArray];exact List.mem_map.mpr ⟨(_,k),(f _ _).mpr q2,rfl⟩
end S6
namespace S6
open P1 L2
abbrev cI(prog:A3)(w:A4)(ks:Z AY):Int:=tupleKeyHash (bw prog w) ks
def TE(prog:A3)(w:A4)(h:A6)(z:Z AY×A1)(e:Int×A0):Prop:=e=(cI prog w z.1,.ref z.2)/\IsTupleKey (bw prog w) h z.1 z.2
structure GO (prog:Program) (w:World) (h:Heap) (zs:List (List AY×Addr)) (es:Array (Int×Value)) (t:SetTable):Prop where
 rel:Paired (TE prog w h) zs es.toList
 nd:(zs.map (·.1)).Nodup
 tok:Tok t es
 load:es.size*5<t.mask*3
 led:w.params.followText "set-order"=false->t.led=true
 non:0<es.size->t.plain=false
def Tu(prog:A3)(w:A4)(h:A6)(a:A1)(zs:Z (Z AY×A1)):Prop:=∃o es ep t,h.get? a=U o/\o.ExactSet/\o.data=.set es ep t/\GO prog w h zs es t
theorem WM{h':A6}{b:A1}(x:IsTupleKey (bw prog w) h ks b)(k:∀o,h.get? b=U o->o.cls=.type "tuple" → h'.get? b=U o):IsTupleKey (bw prog w) h' ks b:=
 let ⟨o,AQ,n,e,c,r⟩:=x;⟨o,AQ,n,k o e c,c,r⟩
theorem Ro{h':A6}{l:Z (Int×A0)}(k:∀b o,h.get? b=U o->o.cls=.type "tuple" → h'.get? b=U o)(r:AI (TE prog w h) zs l):AI (TE prog w h') zs l:=by
 induction r with
 |nil=>exact .nil
 |cons q _ a=>exact .cons ⟨q.1,WM q.2 λo e c=>k _ o e c⟩ a
theorem GO.size{es:Array (Int×A0)}(x:GO prog w h zs es t):es.size=zs.length:=by rw[x.rel.length];simp
theorem Tok.fits{t:SetTable}{es:Array (Int×A0)}(h:Tok t es):t.fits es.size=true:=by
 unfold SetTable.fits SetTable.fill;have h1:=h.full;have h2:=h.size;rw[h.dum];simp[h2];omega
theorem Tok.odd{es:Array (Int×A0)}(h:Tok t es):t.gaveWay=false:=by
 unfold SetTable.gaveWay;rcases h.mask with e|e|e<;>rw[e]<;>rfl
theorem LR{d:Nat}{b:A1}{Q:Bool->A2->Prop}(e:IsTupleKey (bw prog w) s.heap ks b)(h:Q false s):A7 (A8 prog w) A (ofAClassStatement (d+1) (.ref b)) Q E s:=by
 have j:=e.typeIs;obtain⟨o,items,n,ho,_,hd,hi⟩:=e;unfold ofAClassStatement;refine zb (QR j ?_);dsimp only;refine zb (ze ?_);simp only[ky,zl,ZN];refine zb (wpAny_seqItems ho hd ?_);dsimp only;refine zb ?_;rw[<-Array.forIn_toList];refine wpAny_forIn_list _ (λAS r s'=>r.1=Y/\s'=s/\∀v∈AS,carriedByValue v=true) _ ?_ ?_ _ _ ⟨rfl,rfl,hi.byValue⟩
 ·rintro v AS r s' ⟨c,rfl,f⟩;have g:ofAClassStatement d v=pure false:=by
   have:=f v zg;cases v with
   |ref a=>simp[carriedByValue]at this
   |_=>unfold ofAClassStatement;rfl
  rw[g];refine zb (ze ?_);simp only[zl,ZN];exact ze ⟨rfl,rfl,λu i=>f u (zi _ i)⟩
 ·rintro⟨l,m⟩ s' ⟨c,rfl,_⟩;simp only at c;subst c;exact ze h
theorem XZ{b:A1}{Q:Bool->A2->Prop}(f:IsTupleKey (bw prog w) s.heap ks b)(vs:Z A0)(j:∀v∈vs,∃c a,v=.ref c/\IsTupleKey (bw prog w) s.heap a c)(h:Q false s):A7 (A8 prog w) A (searchCouldBeSeen (.ref b) vs) Q E s:=by
 unfold searchCouldBeSeen;refine zb ?_;refine wpAny_forIn_list _ (λAS r s'=>r.1=Y/\s'=s/\∀v∈AS,∃c a,v=.ref c/\IsTupleKey (bw prog w) s.heap a c) _ ?_ ?_ _ _ ⟨rfl,rfl,j⟩
 ·rintro v AS r s' ⟨d,rfl,i⟩;obtain⟨c,a,rfl,e⟩:=i v zg;have g:∀v∈AS,∃c a,v=.ref c/\IsTupleKey (bw prog w) s'.heap a c:=λu l=>i u (zi _ l);dsimp only;split
  ·exact ze ⟨rfl,rfl,g⟩
  ·refine zb (wpAny_eqIsQuiet_tuple f ?_);simp only[ky,zl,ZN];refine zb (wpAny_eqIsQuiet_tuple e ?_);simp only[ky,zl,ZN];refine zb (LR f ?_);simp only[zl,ZN];refine zb (LR e ?_);simp only[zl,ZN];exact ze ⟨rfl,rfl,g⟩
 ·rintro⟨m,n⟩ s' ⟨d,rfl,_⟩;simp only at d;subst d;exact ze h
theorem Oi{h:A6}:∀{zs:Z (Z AY×A1)} {l:Z (Int×A0)},AI (TE prog w h) zs l->∀{i:Nat} {e},l[i]?=U e->∃z,zs[i]?=U z/\TE prog w h z e
 |_,_,.nil,i,e,q=>by simp at q
 |_,_,.cons r _,0,e,q=>by simp at q;subst q;exact⟨_,rfl,r⟩
 |_,_,.cons _ t,i+1,e,q=>by
  rw[Z3]at q;obtain⟨z,z1,z2⟩:=Oi t q;exact⟨z,by rw[Z3];exact z1,z2⟩
theorem Bc{h:A6}:∀{zs:Z (Z AY×A1)} {l:Z (Int×A0)},AI (TE prog w h) zs l->∀{i:Nat} {z},zs[i]?=U z->∃e,l[i]?=U e/\TE prog w h z e
 |_,_,.nil,i,e,q=>by simp at q
 |_,_,.cons r _,0,e,q=>by simp at q;subst q;exact⟨_,rfl,r⟩
 |_,_,.cons _ t,i+1,e,q=>by
  rw[Z3]at q;obtain⟨z,z1,z2⟩:=Bc t q;exact⟨z,by rw[Z3];exact z1,z2⟩
theorem DU(p:Nat->Prop):∀(k n:Nat),p (n+k)->∃d,d<=k/\p (n+d)/\∀m,n<=m->m<n+d->¬ p m
 |0,n,h=>⟨0,zo _,h,λm h1 h2=>absurd h2 (by omega)⟩
 |k+1,n,h=>by
  by_cases q:p n
  ·exact⟨0,QP _,q,λm h1 h2=>absurd h2 (by omega)⟩
  ·obtain⟨d,h1,h2,c⟩:=DU p k (n+1) (by rw[show n+1+k=n+(k+1) by omega];exact h);refine⟨d+1,by omega,by rw[show n+(d+1)=n+1+d by omega];exact h2,λm a b=>?_⟩;by_cases e:m=n
   ·rw[e];exact q
   ·exact c m (by omega) (by omega)
theorem Do{o:AE}{es:Array (Int×A0)}{b:A1}(hu:A.units<cLine)(ho:s.heap.get? a=U o)(hd:o.data=.set es ep t)(x:GO prog w s.heap zs es t)(M:IsTupleKey (bw prog w) s.heap ks b){N:Nat}(hN:N<10*SetTable.turns t.mask)(h:(gJ t.mask (cI prog w ks) N).j∉t.place)(hp:∀m,m<N->(gJ t.mask (cI prog w ks) m).j∈t.place){Q:SetFound->A2->Prop}(h1:ks∈zs.map (·.1)->Q (.there Y) s)(h2:ks∉zs.map (·.1)->Q (.free (gJ t.mask (cI prog w ks) N).j false) s):
  ∀(k n fuel:Nat) (G:O SetTable.Probe),n+k=N->k<fuel->G.getD (t.probeStart (cI prog w ks))=gJ t.mask (cI prog w ks) n->(∀m,m<n->∀i:Nat,t.place[i]?=U (gJ t.mask (cI prog w ks) m).j->∀z:Z AY×A1,zs[i]?=U z->z.1≠ks) →
   A7 (A8 prog w) A (setSearchFrom a (.ref b) (cI prog w ks) true fuel G) Q E s:=by
 have get:∀{i:Nat} {e},es[i]?=U e->∃z,zs[i]?=U z/\TE prog w s.heap z e:=λ{i e} q=>Oi x.rel (by rw[qv];exact q);have K:=x.tok.fits;intro k
 induction k using Nat.strongRecOn with
 |ind k ih=>
  intro n fuel G hn a0 X hb;cases fuel with
  |zero=>omega
  |succ fuel=>
  unfold setSearchFrom;refine zb (QU ho hd K ?_);dsimp only;rw[zw (by rw[x.tok.odd];decide)];refine zb (ze ?_);rw[X];obtain⟨d,d1,d2,D⟩:=DU (λm=>m=N\/∃i:Nat,t.place[i]?=U (gJ t.mask (cI prog w ks) m).j/\∃e:Int×A0,es[i]?=U e/\e.1=cI prog w ks) k n (.inl hn);have live:∀m,m<N->∃i:Nat,t.place[i]?=U (gJ t.mask (cI prog w ks) m).j/\∃e,es[i]?=U e:=λm p=>by
   obtain⟨i,hi,e⟩:=Array.getElem_of_mem (hp m p);have f:i<es.size:=by rw[<-x.tok.size];exact hi
   exact⟨i,by rw[qc hi,e],es[i],qc f⟩
  have pr:=Rj x.tok.toTb (λi=>(es[i]?.map (·.1)).getD 0) (cI prog w ks) d (10*SetTable.turns t.mask) n (by omega) λm a1 a2=>by
   have q:=D m a1 a2;obtain⟨i,e1,e,e2⟩:=live m (by omega);refine⟨i,e1,λq'=>q (.inr ⟨i,e1,e,e2,?_⟩)⟩;simpa[e2]using q'
  have W:t.probe (λi=>(es[i]?.map (·.1)).getD 0) (cI prog w ks) (gJ t.mask (cI prog w ks) n)=SetTable.probe.go t (λi=>(es[i]?.map (·.1)).getD 0) (cI prog w ks) (10*SetTable.turns t.mask) (gJ t.mask (cI prog w ks) n):=rfl;by_cases H:n+d=N
  ·have p1:=pr.1 (by rw[H];exact h);rw[H]at p1;show A7 _ _ (match t.probe (λi=>(es[i]?.map (·.1)).getD 0) (cI prog w ks) (gJ t.mask (cI prog w ks) n)with|some met=>_|_=>_) _ _ _;rw[W,p1];dsimp only;refine ze (h2 λp=>?_);obtain⟨z,hz,I⟩:=List.mem_map.mp p;obtain⟨i,hi,e⟩:=js hz;obtain⟨l,e1,e2⟩:=Bc x.rel (show zs[i]?=U z by rw[z4 hi,e]);rw[qv]at e1;have f:i<t.place.size:=by rw[x.tok.size,x.size];exact hi
   obtain⟨g,b1,b2,J⟩:=x.tok.reach i _ l (qc f) e1;rw[e2.1,I]at b2 J;have lt:g<N:=by
    rcases Nat.lt_trichotomy g N with q|q|q
    ·exact q
    ·exfalso;rw[<-q]at h;rw[b2]at h;exact h (Array.getElem_mem f)
    ·exact absurd (J N q) h
   by_cases q:g<n
   ·exact hb g q i (by rw[b2];exact qc f) z (by rw[z4 hi,e]) I
   ·exact D g (by omega) (by omega) (.inr ⟨i,by rw[b2];exact qc f,l,e1,by rw[e2.1,I]⟩)
  ·rcases d2 with q|⟨i,i1,e,i2,i3⟩
   ·exact absurd q H
   ·have p2:=pr.2 i i1 (by simpa[i2]using i3);show A7 _ _ (match t.probe (λi=>(es[i]?.map (·.1)).getD 0) (cI prog w ks) (gJ t.mask (cI prog w ks) n)with|some met=>_|_=>_) _ _ _;rw[W,p2];dsimp only;obtain⟨z,z1,z2⟩:=get i2;have C:∀v∈((es.filter (·.1==cI prog w ks)).toList.map (·.2)),∃c ls,v=.ref c/\IsTupleKey (bw prog w) s.heap ls c:=λv C=>by
     obtain⟨u,P,rfl⟩:=List.mem_map.mp C;rw[Array.toList_filter,jv]at P;obtain⟨jj,hj,ej⟩:=js P.1;obtain⟨y,y1,y2⟩:=Oi x.rel (show es.toList[jj]?=U u by rw[z4 hj,ej]);exact⟨y.2,y.1,by rw[y2.1],y2.2⟩
    have L:A7 (A8 prog w) A (do
      let U (_,y):=es[i]?|unsupported "internal:set-entry"
      let equal <-holding [y] (eqBool y (.ref b))
      let (es',_,t') <-setState a
      if(true&&equal)=true then return SetFound.there Y
      let U same:=t'.sameMemory t.moves t.mask|unsupported "set.changed-during-lookup:is-the-new-block-at-the-old-address"
      let still <-match (if same then t'.slot (gJ t.mask (cI prog w ks) (n+d)).j else .empty)with
       |.live i'=>match es'[i']? with
        |some (_,y')=>do pure (if <-isSame y' y then U i' else Y)
        |none=>pure Y
       |_=>pure Y
      match still with
      |none=>rule "set.search.anew"; setSearchFrom a (.ref b) (cI prog w ks) true fuel Y
      |some i'=>if equal then return .there (U i')else setSearchFrom a (.ref b) (cI prog w ks) true fuel (U (gJ t.mask (cI prog w ks) (n+d+1)))) Q E s:=by
     rw[i2,z2.1];dsimp only;refine zb (QQ (wpAny_eqBool_tuple hu z2.2 M ?_));refine zb (QU ho hd K ?_);dsimp only;by_cases B:z.1=ks
     ·rw[Zs B];simp only[Bool.and_self,qA];exact ze (h1 (List.mem_map.mpr ⟨z,QE z1,B⟩))
     ·rw[z5 B];simp only[KI,zl,ZN];have sm:t.sameMemory t.moves t.mask=U true:=by unfold SetTable.sameMemory;simp
      rw[sm];dsimp only;simp only[qA];rw[Du x.tok.toTb i1];dsimp only;rw[i2,z2.1];dsimp only;refine zb (wpAny_isSame_ref_self (zb (ze ?_)));simp only[qA];refine ih (N-(n+d+1)) (by omega) (n+d+1) fuel _ (by omega) (by omega) S λm p i' F y y1=>?_;by_cases c1:m<n
      ·exact hb m c1 i' F y y1
      ·by_cases c2:m=n+d
       ·subst c2;have:i'=i:=by
         have s1:=HX x.tok.rise F;have s2:=HX x.tok.rise i1;omega
        subst this;rw[z1]at y1;cases y1;exact B
       ·have q:=D m (by omega) (by omega);intro e';obtain⟨l,e1,e2⟩:=Bc x.rel y1;rw[qv]at e1;exact q (.inr ⟨i',F,l,e1,by rw[e2.1,e']⟩)
    split
    ·refine zb (XZ M _ C ?_);simp only[zl,ZN];exact L
    ·exact L
def EJ(ks:Z AY):Prop:=∃x:AJ,(Sum.inr x:AY)∈ks
theorem Se{b:A1}{Q:Bool->A2->Prop}(c:IsTupleKey (bw prog w) s.heap ks b)(hx:EJ ks)(h:Q false s):A7 (A8 prog w) A (hashByValue 8 (.ref b)) Q E s:=by
 have g:=c.typeIs;obtain⟨o,items,n,ho,_,hd,hi⟩:=c;unfold hashByValue;refine zb (wpAny_specialOf g F.slot_tuple_hash.lookup ?_);dsimp only;refine zb (wpAny_seqItems ho hd ?_);show A7 _ _ (forIn items _ _ >>= _) _ _ s;refine zb ?_;rw[<-Array.forIn_toList];refine wpAny_forIn_list _ (λAS r s'=>r.1=Y/\s'=s/\∃left,ItemsAre (bw prog w) left AS/\EJ left) _ ?_ ?_ _ _ ⟨rfl,rfl,ks,hi,hx⟩
 ·rintro v AS r s' ⟨f,rfl,left,a,x,hx⟩;cases a with
  |@cons k _ j _ h1 d=>
   rcases bU h1 with⟨i,t,rfl,rfl⟩|⟨y,t,rfl,rfl⟩
   ·have e:hashByValue 7 (.int i t)=pure true:=by unfold hashByValue;rfl
    rw[e];refine zb (ze ?_);simp only[ky,zl,ZN];refine ze ⟨rfl,rfl,j,d,x,?_⟩;rcases List.mem_cons.mp hx with q|q
    ·cases q
    ·exact q
   ·have e:hashByValue 7 (.str y t)=pure false:=by unfold hashByValue;rfl
    rw[e];refine zb (ze ?_);simp only[kB,qA];exact ze (ze h)
 ·rintro⟨l,m⟩ s' ⟨f,rfl,left,a,x,hx⟩;cases a;cases hx
theorem YD{es:Array (Int×A0)}(h:Tok t es):Tok { t with plain:=false } es:={ mask:=h.mask,dum:=h.dum,rise:=h.rise,bd:=h.bd,full:=h.full,size:=h.size,reach:=h.reach }
theorem UY{b:A1}{Q:Bool->A2->Prop}(hu:A.units<cLine)(hS:Tu prog w s.heap a zs)(K:IsTupleKey (bw prog w) s.heap ks b)(hx:EJ ks)(d2:zs.length+1<=70)(h:∀r h' I,Heap.SameBut a s.heap h'->Tu prog w h' a I->(∀z,z∈I↔z∈zs\/(z=(ks,b)/\ks∉zs.map (·.1)))->I.length<=zs.length+1->Q r { s with heap:=h' }):A7 (A8 prog w) A (setAddHashed a (.ref b) (cI prog w ks)) Q E s:=by
 obtain⟨o,es,ep,t,ho,L,hd,x⟩:=id hS;have d1:=x.size;have a1:=x.tok.fits;have a0:=x.load;have c8:o.cls≠.type "tuple":=by rw[L.1];decide
 obtain⟨N,n,n2,n3⟩:=UJ x.tok.toTb (cI prog w ks);have d3:10*SetTable.turns t.mask<100000:=by
  unfold SetTable.turns;rcases x.tok.mask with e|e|e<;>rw[e]<;>decide
 unfold setAddHashed setAddHashedIn;refine QQ (zb (QU ho hd a1 ?_));dsimp only;have hb:byScan (.ref b) es=false:=by unfold byScan;rfl
 rw[hb];simp only[zl,ZN];unfold setSearch;refine zb (Do hu ho hd x K n n2 n3 (λl=>?_) (λl=>?_) N 0 100000 Y (by omega) (by omega) S λm l=>absurd l (ko _))
 ·dsimp only;exact ze (h _ s.heap zs (Heap.SameBut.refl a s.heap) hS (λz=>⟨.inl,λq=>q.elim id λq=>absurd l q.2⟩) (Ki _))
 ·dsimp only;refine zb (QU ho hd a1 ?_);dsimp only;have hj:=UL (mask:=t.mask) (cI prog w ks) N;have d0:es.size+1<=t.mask:=by rcases x.tok.mask with e|e|e<;>rw[e]at a0 ⊢<;>omega
  obtain⟨pt,pl,pp,W⟩:=UP (x:=.ref b) x.tok n n2 n3 hj d0;generalize hP:t.put (gJ t.mask (cI prog w ks) N).j=P at pt pl pp W ⊢;obtain⟨t1,p⟩:=P;dsimp only at pt pl pp W ⊢;have c3:(SetTable.insertAt es p (cI prog w ks,.ref b)).toList.Perm (es.toList++[(cI prog w ks,.ref b)]):=by
   rw[Bb];refine(List.perm_middle).trans ?_;rw[List.take_append_drop];exact(List.perm_append_singleton _ _).symm
  have r0:AI (TE prog w s.heap) (zs++[(ks,b)]) (es.toList++[(cI prog w ks,.ref b)]):=Ux x.rel (.cons ⟨rfl,K⟩ .nil);obtain⟨H,q1,r1⟩:=Ek c3 r0;have a2:(H.map (·.1)).Nodup:=(q1.map (·.1)).nodup_iff.mpr (by
   rw[qk];exact List.nodup_append.mpr ⟨x.nd,by simp,λu c2 v hv=>by simp at hv;subst hv;exact λe=>l (e▸c2)⟩)
  have m1:∀z,z∈H↔z∈zs\/(z=(ks,b)/\ks∉zs.map (·.1)):=λz=>by
   rw[q1.mem_iff,List.mem_append,List.mem_singleton];exact⟨λq=>q.imp id λe=>⟨e,l⟩,λq=>q.imp id λe=>e.1⟩
  have l1:H.length=zs.length+1:=by rw[q1.length_eq];simp
  have y:(SetTable.insertAt es p (cI prog w ks,Value.ref b)).size=es.size+1:=xG _ _ _;have up:∀(hp:A6) (D:AE) (e1 e2:Array (Int×A0)) (n:Nat) (u1 f:SetTable),hp.get? a=U D->D.data=.set e1 n u1->(hp.update a (Obj.putSet e2 f)).get? a=U { D with data:=.set e2 (n+1) f }:=λhp D e1 e2 n u1 f g q=>by
   have:=k7 (Obj.putSet e2 f) g (by rw[putSet_of e2 f q];rfl);rw[putSet_of e2 f q]at this;exact this
  have kp:∀{h':A6},Heap.SameBut a s.heap h'->∀c C,s.heap.get? c=U C->C.cls=.type "tuple" → h'.get? c=U C:=λsb c C e ec=>by
   rw[sb.2 c λq=>by subst q;rw[ho]at e;cases e;exact c8 ec];exact e
  have b0:∀t2:SetTable,Tok t2 (SetTable.insertAt es p (cI prog w ks,.ref b))->t2.led=t1.led->t2.plain=false->t2.mask=t1.mask->A7 (A8 prog w) A (do
    storeSet a (SetTable.insertAt es p (cI prog w ks,.ref b)) t2
    if(!false&&t2.tooFull)=true then setRelay a (SetTable.grown (es.size+1))
    pure true) Q E s:=by
   intro t2 F l2 p2 m2;have g1:=up s.heap o es (SetTable.insertAt es p (cI prog w ks,.ref b)) ep t t2 ho hd;refine zb (wpAny_storeSet_of ho hd ?_ (fits_of_scanBound (by rw[y];have:scanBound=4096:=rfl;omega)));have X:Heap.SameBut a s.heap (s.heap.update a (Obj.putSet (SetTable.insertAt es p (cI prog w ks,.ref b)) t2)):=Heap.SameBut.update ..;have c0:t2.fill=es.size+1:=by unfold SetTable.fill;rw[F.dum,F.size,y];rfl
   have b3:w.params.followText "set-order"=false->t2.led=true:=λq=>l2.trans (pl.trans (x.led q));by_cases d:t2.tooFull=true
   ·rw[d];simp only[kB,Bool.and_self,qA];have hf:t2.fill*5>=t2.mask*3:=by unfold SetTable.tooFull at d;simpa using d
    rw[c0,m2,W]at hf;have hg:SetTable.grown (es.size+1)=(es.size+1)*4:=by unfold SetTable.grown;rw[zw (by omega)]
    have a3:(es.size=4/\t.mask=7)\/(es.size=18/\t.mask=31):=by
     rcases x.tok.mask with e|e|e<;>rw[e]at hf a0
     ·exact .inl ⟨by omega,e⟩
     ·exact .inr ⟨by omega,e⟩
     ·omega
    have G:(es.size=4->SetTable.sizeAbove (SetTable.grown (es.size+1))=32)/\(es.size=18->SetTable.sizeAbove (SetTable.grown (es.size+1))=128):=by
     rw[hg];exact⟨λe=>by rw[e];decide,λe=>by rw[e];decide⟩
    have M:SetTable.sizeAbove (SetTable.grown (es.size+1))-1=31/\es.size=4\/SetTable.sizeAbove (SetTable.grown (es.size+1))-1=127/\es.size=18:=by
     rcases a3 with⟨e,_⟩|⟨e,_⟩
     ·exact .inl ⟨by rw[G.1 e],e⟩
     ·exact .inr ⟨by rw[G.2 e],e⟩
    obtain⟨t3,B,e3,a5,k3,l3,p3,m3⟩:=YC (t:=t2) (es:=SetTable.insertAt es p (cI prog w ks,.ref b)) (wanted:=SetTable.grown (es.size+1)) (by rcases M with⟨e,_⟩|⟨e,_⟩<;>rw[e]<;>simp) (by rw[y];rcases M with⟨e,e'⟩|⟨e,e'⟩<;>rw[e,e']<;>decide);unfold setRelay;refine zb (zb (QU g1 S F.fits ?_));dsimp only;have c6:¬ (SetTable.sizeAbove (SetTable.grown (es.size+1))>AA):=by
     rcases a3 with⟨e,_⟩|⟨e,_⟩
     ·rw[G.1 e];decide
     ·rw[G.2 e];decide
    rw[zw c6];have J:(B.filterMap (λi=>(SetTable.insertAt es p (cI prog w ks,Value.ref b))[i]?)).size=(SetTable.insertAt es p (cI prog w ks,Value.ref b)).size:=by
     rw[<-qa,a5.length_eq,qa]
    rw[e3];refine zb ?_;show A7 _ _ (if((B.filterMap (λi=>(SetTable.insertAt es p (cI prog w ks,Value.ref b))[i]?)).size !=(SetTable.insertAt es p (cI prog w ks,Value.ref b)).size)=true then _ else pure (B.filterMap (λi=>(SetTable.insertAt es p (cI prog w ks,Value.ref b))[i]?),t3)) _ _ _;rw[zw (by rw[J];simp)];refine ze ?_;dsimp only;refine wpAny_storeSet_of g1 S ?_ (fits_of_scanBound (by rw[J,y];have:scanBound=4096:=rfl;omega));have g2:=up _ _ (SetTable.insertAt es p (cI prog w ks,.ref b)) (B.filterMap (λi=>(SetTable.insertAt es p (cI prog w ks,Value.ref b))[i]?)) _ t2 t3 g1 rfl;have b9:Heap.SameBut a s.heap ((s.heap.update a (Obj.putSet (SetTable.insertAt es p (cI prog w ks,.ref b)) t2)).update a (Obj.putSet (B.filterMap (λi=>(SetTable.insertAt es p (cI prog w ks,Value.ref b))[i]?)) t3)):=X.trans (Heap.SameBut.update ..);obtain⟨c1,q2,r2⟩:=Ek a5 r1;refine ze (h _ _ c1 b9 ⟨_,_,_,t3,g2,L,rfl,⟨Ro (kp b9) r2,(q2.map (·.1)).nodup_iff.mpr a2,k3,?_,λq=>l3.trans (b3 q),λ_=>p3.trans p2⟩⟩ (λz=>by rw[q2.mem_iff];exact m1 z) (by rw[q2.length_eq];omega));rw[J,y,m3];rcases M with⟨e,e'⟩|⟨e,e'⟩<;>rw[e,e']<;>decide
   ·have d:t2.tooFull=false:=by simpa using d
    rw[d];simp only[KI,zl,ZN];refine zb (ze ?_);refine ze (h _ _ H X ⟨_,_,_,t2,g1,L,rfl,⟨Ro (kp X) r1,a2,F,?_,b3,λ_=>p2⟩⟩ m1 (by omega));unfold SetTable.tooFull at d;rw[c0]at d;rw[y];simpa using d
  split
  ·refine zb (Se K hx ?_);simp only[zl,ZN];exact b0 { t1 with plain:=false } (YD pt) S S rfl
  ·rename_i hp;refine zb (ze ?_);simp only[qA];exact b0 t1 pt S (by simpa using hp) rfl
end S6
namespace S1
open L2
theorem U0{x:A0}(G:Z A0->Prop)(kd:SortKind)(rk:Z A0->A0->Nat){Q:BA}(y:∀(f:BA) (i:Z A0->A2->Prop),(∀vs h' d tk,G vs->s.heap.objs.size<=h'.objs.size->(∀c o,s.heap.get? c=U o->h'.get? c=U o)->i vs { s with heap:=h',drawn:=d,toks:=tk })->A7 (A8 prog w) A.in1 (collect x) i f s)
  (v:∀vs,G vs->2<=vs.length->∀(f:BA) (b:A5) (s':A2),(∀c o,s.heap.get? c=U o->s'.heap.get? c=U o)->∀Q:SortKind->A2->Prop,Q kd s'->A7 (A8 prog w) b (keyKind' vs.toArray) Q f s') (t:∀vs,G vs->∀(b:A5) (s':A2),(∀c o,s.heap.get? c=U o->s'.heap.get? c=U o)->Zw prog w b s' kd (rk vs) (pairsOf vs)) (j:∀vs,G vs->vs.length<64)
  (h:∀vs,G vs->∀(l:A1) (h':A6) (d:Drawn) (tk n:Nat) (st:SortSt),(AM st).Perm (pairsOf vs)->Up (rk vs) (AM st) (pairsOf vs).size->s.heap.objs.size<=l->(∀c o,s.heap.get? c=U o->h'.get? c=U o)->h'.get? l=U (seqObj "list" ((AM st).map (·.2)) n)->Q (.ref l) { s with heap:=h',drawn:=d,toks:=tk }):
  A7 (A8 prog w) A (call (.builtin "sorted") [x]) Q E s:=by
 refine Calls.call_function_entry kind_sorted plain_sorted entry_sorted (args_sorted1 _) ?_;unfold Builtin.«sorted»;refine zb (m:=checkCount "sorted" 1 1 _) (ze (zb (y _ _ λvs h1 d tk a u ext=>?_)));have z:=j vs a;refine zb (wpAny_newList ?_);have g:(h1.push (seqObj "list" vs.toArray 0)).get? h1.objs.size=U (seqObj "list" vs.toArray 0):=zv _ rfl;have old:∀s':A2,EX h1.objs.size { s with heap:=h1.push (seqObj "list" vs.toArray 0),drawn:=d,toks:=tk } s'->∀c o,s.heap.get? c=U o->s'.heap.get? c=U o:=λs' q c o e=>
  q c o (zS (zz (ext c o e))) (zd _ (ext c o e))
 refine zb (QQ (kg slot_list_sort ⟨_,g,rfl⟩ entry_list_sort (N0 g (λq s' o=>v vs a q _ _ s' (old s' o)) (λs' o=>t vs a _ s' (old s' o)) (j vs a) λst q1 q2=>⟨_,rfl,ze ⟨_,rfl,?_⟩⟩) (args_list_sort _)));obtain⟨n,p⟩:=sortedHeap_at (out:=(AM st).map (·.2)) g;refine h vs a h1.objs.size _ d tk n st q1 q2 u (λc o e=>?_) p;have hb:=zz (ext c o e);rw[sortedHeap_old (zS hb) (by rw[qq];exact Qr hb)];exact zd _ (ext c o e)
end S1
namespace P1
open L2 S6
section
theorem YF{d:Drawn}(I:AU X AN σ H s):AU X AN σ H { s with drawn:=d }:=⟨I.ok,I.os,I.bare,I.base,I.loc,I.cell,I.free,I.rJ,I.pin,I.hok,I.len⟩
variable{fs:Ev->O AZ}{p:Pos}
end
section
variable{xs:AZ}
end
section
variable{xs:AZ}
variable{fs:Ev->O AZ}{p':Pos}
end
end P1
namespace P1
open L2 S1 S6
def Ts(prog:A3)(w:A4)(h:A6)(a:A1)(zs:Z (Z AY×A1)):Prop:=∃o es ep t,h.get? a=U o/\o.ExactSet/\o.data=.set es ep t/\es.toList=zs.map (λz=>(cI prog w z.1,(.ref z.2:A0)))/\t.fits es.size=true/\(w.params.followText "set-order"=false->t.led=true)/\(0<es.size->t.plain=false)
theorem Rp{prog:A3}{w:A4}{h:A6}:∀{zs:Z (Z AY×A1)} {l:Z (Int×A0)},AI (TE prog w h) zs l->l=zs.map (λz=>(cI prog w z.1,(.ref z.2:A0)))
 |_,_,.nil=>rfl
 |_,_,.cons r t=>by rw[zr,<-Rp t,r.1]
theorem Ts.of(x:Tu prog w h a zs):Ts prog w h a zs:=
 let ⟨o,es,ep,t,e,r,d,q⟩:=x;⟨o,es,ep,t,e,r,d,Rp q.rel,q.tok.fits,q.led,q.non⟩
theorem Ts.keep{h':A6}(x:Ts prog w h a zs)(k:∀o,h.get? a=U o->h'.get? a=U o):Ts prog w h' a zs:=
 let ⟨o,es,ep,t,e,r⟩:=x;⟨o,es,ep,t,k o e,r⟩
def EN(X:Cx)(a:A1)(zs:Z (Z AY×A1)):HO:=.ext λh=>Ts X.prog X.w h a zs
theorem XX(X:Cx)(h:Ks ks us):ItemsAre (bw X.prog X.w) ks us:=by
 induction h with
 |nil=>exact .nil
 |cons r _ a=>exact .cons r a
theorem aT(X:Cx)(h:ItemsAre (bw X.prog X.w) ks us):Ks ks us:=by
 induction h with
 |nil=>exact .nil
 |cons r _ a=>exact .cons r a
theorem Rq(X:Cx){v:A0}(q:j4 h ks v):∃b,v=.ref b/\IsTupleKey (bw X.prog X.w) h ks b:=by
 obtain⟨a,o,AQ,n,e,g,c,d,p⟩:=q;exact⟨a,e,o,AQ.toArray,n,g,c,d,by simpa using XX X p⟩
theorem OU(X:Cx){b:A1}(q:IsTupleKey (bw X.prog X.w) h ks b):j4 h ks (.ref b):=by
 obtain⟨o,AQ,n,g,c,d,p⟩:=q;exact⟨b,o,AQ.toList,n,rfl,g,c,by simpa using d,aT X p⟩
def gd(X:Cx):Z V->Hp->VK->Prop:=λxs H Q=>∃v b ds cJ,xs=[v]/\aX X.K H b v/\uo b=U ds/\uQ ds=U cJ/\cJ.length<=64/\(∀k∈cJ,EJ k) ∧
 ∀a zs H',AV H H'->H' a=U (EN X a zs)->(∀k,k∈zs.map (·.1)↔k∈cJ)->(zs.map (·.1)).Nodup->(∀z∈zs,AW X.K H' (BH z.1) (.ref z.2))->Q (.ref a) H'
def CU(X:Cx)(S:A1)(AQ:Z A0)(h:A6)(ys:Z (Z AY)):Prop:=∃zs,zs.map (·.1)=ys/\Tu X.prog X.w h S zs/\∀z∈zs,(.ref z.2:A0)∈AQ
theorem Bf{h:A6}:∀{cJ:Z (Z AY)} {vs:Z A0},AI (j4 h) cJ vs->∀{i:Nat} {v:A0},vs[i]?=U v->∃k,cJ[i]?=U k/\j4 h k v
 |_,_,.nil,i,v,q=>by simp at q
 |_,_,.cons r _,0,v,q=>by simp at q;subst q;exact⟨_,rfl,r⟩
 |_,_,.cons _ t,i+1,v,q=>by
  rw[Z3]at q;obtain⟨z,z1,z2⟩:=Bf t q;exact⟨z,by rw[Z3];exact z1,z2⟩
theorem Rr{h0:A6}{S:A1}(hs:AI (j4 h0) cJ AQ)(hl:cJ.length<=64)(hx:∀k∈cJ,EJ k)(x:h0.objs.size=S):EE X.prog X.w S [S+1] (λh zs=>(∀b o,h0.get? b=U o->h.get? b=U o)/\CU X S AQ h zs) (λi v=>AQ.toArray[i]?=U v) (λi=>cJ.getD i []) AQ.length where
 keep:=λh h' ys t k=>by
  obtain⟨n,zs,e,t,m⟩:=t;have u:∀b o,(b=S\/b<S)->h.get? b=U o->h'.get? b=U o:=λb o hb e=>k b o (by
   simp only[QY,JE,or_false];rcases hb with rfl|hb
   ·exact zS (qf _)
   ·exact zS (Qr hb)) e
  have old:∀b o,h0.get? b=U o->h'.get? b=U o:=λb o e=>u b o (.inr (by rw[<-x];exact zz e)) (n b o e);refine⟨old,zs,e,?_,m⟩;obtain⟨o,es,ep,K,g,r,d,q⟩:=t;refine⟨o,es,ep,K,u S o (.inl rfl) g,r,d,⟨?_,q.nd,q.tok,q.load,q.led,q.non⟩⟩;have P:∀{zs:Z (Z AY×A1)} {l:Z (Int×A0)},AI (TE X.prog X.w h) zs l->(∀z∈zs,(.ref z.2:A0)∈AQ)->AI (TE X.prog X.w h') zs l:=by
   intro zs l r
   induction r with
   |nil=>intro _;exact .nil
   |cons q _ J=>
    intro m;refine .cons ⟨q.1,WM q.2 λo e c=>?_⟩ (J λz p=>m z (zi _ p));obtain⟨i,hi,N⟩:=js (m _ (zg ..));obtain⟨kk,_,tv⟩:=Bf hs (show AQ[i]?=U _ by rw[z4 hi,N]);obtain⟨b,eb,⟨ob,_,_,gb,_⟩⟩:=Rq X tv;cases eb;exact u _ o (.inr (by rw[<-x];exact zz gb)) e
  exact P q.rel m
 add:=λA E s i v ys Q G hi j M p h=>by
  obtain⟨n,zs,e,t,m⟩:=M;have j:AQ[i]?=U v:=by simpa using j
  obtain⟨ks,e1,tv⟩:=Bf hs j;have H:=tv.keep n;obtain⟨b,rfl,D⟩:=Rq X H;have I:cJ.getD i []=ks:=by simp[List.getD,e1]
  have a1:AQ.length=cJ.length:=hs.length.symm;have a0:zs.length=ys.length:=by rw[<-e,zh]
  unfold setAdd;refine QQ (zb (wpAny_pyHash_tuple G D ?_));refine UY (s:={ s with toks:=s.toks+(ks.length+1) }) G t D (hx ks (QE e1)) (by omega) λr h' C F L a l=>?_;refine h r h' _ (C.map (·.1)) F ⟨λc o g=>?_,C,rfl,L,λz p=>?_⟩ (λz=>?_) (by rw[zh];omega) (Nat.le_add_right _ _)
  ·rw[F.2 c λq=>by subst q;have:=zz g;rw[x]at this;exact JA _ this];exact n c o g
  ·rcases(a z).mp p with q|⟨q,_⟩
   ·exact m z q
   ·subst q;exact QE j
  ·rw[I,<-e,kD,kD];constructor
   ·rintro⟨y,f,rfl⟩;rcases(a y).mp f with q|⟨q,_⟩
    ·exact .inl ⟨y,q,rfl⟩
    ·exact .inr (congrArg Prod.fst q)
   ·rintro(⟨y,f,B⟩|W)
    ·exact⟨y,(a y).mpr (.inl f),B⟩
    ·rw[W];by_cases q:ks∈zs.map (·.1)
     ·obtain⟨y,f,B⟩:=List.mem_map.mp q;exact⟨y,(a y).mpr (.inl f),B⟩
     ·exact⟨(ks,b),(a _).mpr (.inr ⟨rfl,q⟩),rfl⟩
theorem WP(hc:X.calm=true)(hu:X.A.units+100<cLine):fZ X (.type "set") (gd X):=by
 intro AN s σ H xs us Q I r h;obtain⟨v,b,ds,cJ,rfl,rb,ed,ek,hl,hx,q⟩:=h;obtain⟨u,rfl,ru⟩:=BE r;obtain⟨p,vs,rfl,sq,rs⟩:=GF rb ed;have b3:=Dq ek;subst b3;cases ru;have W:=I.ok.hd hc;have a3:∀(h':A6) (tk:Nat) (ys:Z (Z AY)) (AQ:Z A0),AX vs AQ->((∀b o,s.heap.get? b=U o->h'.get? b=U o)/\CU X s.heap.objs.size AQ h' ys)->(∀z,z∈ys↔∃j,j<AQ.length/\z=cJ.getD j [])->(∀b E,s.heap.get? b=U E->h'.get? b=U E)->EP X AN σ Q (.ref s.heap.objs.size) { s with heap:=h',toks:=tk }:=by
  intro h' tk ys AQ L cu D k;obtain⟨_,zs,e,t,m⟩:=cu;have a2:=I.hok.fresh (zo s.heap.objs.size);have b0:AQ.length=cJ.length:=by rw[<-L.length,rs.length,zh]
  have tv:=rO I rs L;refine⟨.ref s.heap.objs.size,_,I.laid (t':=tk) (a:=s.heap.objs.size) (o:=EN X s.heap.objs.size zs) k (zo _) ?_,rfl,q _ zs _ (cG a2) bV (λz=>?_) ?_ λz l=>?_⟩
  ·obtain⟨o,es,ep,t',ho,_⟩:=id t;exact⟨Ts.of t,⟨o,ho⟩,λh1 h2 t1 k1=>Ts.keep t1 k1⟩
  ·rw[e,D z];constructor
   ·rintro⟨j,f,rfl⟩;rw[b0]at f;simp[List.getD,f]
   ·intro l;obtain⟨j,f,e⟩:=js l;exact⟨j,by rw[b0];exact f,by simp[List.getD,f,e]⟩
  ·obtain⟨o,es,ep,t',ho,_,_,x⟩:=t;exact x.nd
  ·obtain⟨o,es,ep,t',ho,_,_,x⟩:=t;obtain⟨i,hi,ei⟩:=js l;obtain⟨ee,_,te⟩:=Bc x.rel (show zs[i]?=U z by rw[z4 hi,ei]);have tz:=OU X te.2;have a5:=m z l;obtain⟨j,f,ej⟩:=js a5;obtain⟨kk,_,N⟩:=Bf tv (show AQ[j]?=U (.ref z.2) by rw[z4 f,ej]);have ek:kk=z.1:=(N.keep k).inj tz;obtain⟨w1,K,r2⟩:=Dr I rs L (Zx:=[kk]) (out:=[.ref z.2]) (.cons N .nil) (λu hu=>by cases List.mem_singleton.mp hu;exact a5);cases K with
   |@cons w0 _ _ _ r0 K=>
    cases K;simp only[zr,JY,aO]at r2;obtain⟨v0,B,ev,J,_⟩:=r2;simp only[JS]at ev;rw[<-ev.1]at J;have hw:w0=V.ref z.2:=by
     have q1:=J;simp only[BH,AW]at q1;obtain⟨a0,ws,e0,_⟩:=q1;subst e0;cases r0;rfl
    rw[<-ek,<-hw];exact J.kp (.of (cG a2))
 have a1:∀h':A6,h'.get? s.heap.objs.size=U (BU X.w)->∀AQ:Z A0,CU X s.heap.objs.size AQ h' []:=λh' e AQ=>
  ⟨[],rfl,⟨_,#[],0,_,e,⟨rfl,rfl,rfl⟩,rfl,⟨.nil,j3,{ mask:=.inl rfl,dum:=rfl,rise:=λi j _ f=>absurd f (ko _),bd:=λj f=>by simp[SetTable.fresh]at f,full:=QP _,size:=rfl,reach:=λi j e h1=>by simp[SetTable.fresh]at h1 },(show 0*5<7*3 by decide),λq=>by simp[SetTable.fresh,q],λq=>absurd q (JA _)⟩⟩,λz l=>by cases l⟩
 rcases sq with sq|sq
 ·obtain⟨AQ,B,pl,l⟩:=I.list sq;obtain⟨o,g,c,n,d⟩:=pl.isList;refine OC (by omega) (T :="list") W g c (.inl S) (P:=λi v=>AQ.toArray[i]?=U v) (n:=AQ.length) (λF E' Q' h0 C y M=>?_) (Rr (rO I rs B) hl hx S) (λh' e k=>⟨k,a1 h' e AQ⟩) λh' tk zs tx D k=>a3 h' tk zs AQ B tx D k;refine wpAny_pyIter_list (items:=AQ.toArray) ⟨o,y _ _ g,c,n,d⟩ ?_;have G:p≠h0.objs.size:=zS (zz (y _ _ g));refine M _ (λi h=>h.IsListIter h0.objs.size p i/\h.IsList p AQ.toArray) (λF C=>by have:=Walks.list (prog:=X.prog) (w:=X.w) C h0.objs.size p G AQ.toArray;rw[zC]at this;exact this) ⟨⟨_,zv _ rfl,rfl,rfl⟩,⟨o,zd _ (y _ _ g),c,n,d⟩⟩ λb E e=>zd _ e
 ·obtain⟨AQ,B,pl,l⟩:=I.tuple sq;obtain⟨o,g,c,n,d⟩:=id pl;refine OC (by omega) (T :="tuple") W g c (.inr S) (P:=λi v=>AQ.toArray[i]?=U v) (n:=AQ.length) (λF E' Q' h0 C y M=>?_) (Rr (rO I rs B) hl hx S) (λh' e k=>⟨k,a1 h' e AQ⟩) λh' tk zs tx D k=>a3 h' tk zs AQ B tx D k;refine wpAny_pyIter_tuple (items:=AQ.toArray) ⟨o,y _ _ g,c,n,d⟩ ?_;have G:p≠h0.objs.size:=zS (zz (y _ _ g));refine M _ (λi h=>h.IsTupleIter h0.objs.size p i/\h.IsTuple p AQ.toArray) (λF C=>by have:=Walks.tuple (prog:=X.prog) (w:=X.w) C h0.objs.size p G AQ.toArray;rw[zC]at this;exact this) ⟨⟨_,zv _ rfl,rfl,rfl⟩,⟨o,zd _ (y _ _ g),c,n,d⟩⟩ λb E e=>zd _ e
theorem ND(I:AU X AN σ H s)(h:H a=U (EN X a zs)):Ts X.prog X.w s.heap a zs:=(I.hok _ _ h).1
def RF(X:Cx):Z V->Hp->VK->Prop:=λxs H Q=>∃a zs,xs=[.ref a]/\H a=U (EN X a zs)/\zs.length<4096/\Q (.int zs.length) H
theorem eK:fZ X (.builtin "len") (RF X):=by
 intro AN s σ H xs us Q I r h;obtain⟨a,zs,rfl,ha,g,q⟩:=h;obtain⟨u,rfl,c⟩:=BE r;cases c;obtain⟨o,es,ep,t,ho,f,hd,b,e,_⟩:=ND I ha;have d:es.size=zs.length:=by rw[<-qa,b,zh]
 exact call_len_set ho f hd e (by omega) ⟨.int zs.length,H,I.tok _,⟨s.toks+1,by rw[d]⟩,q⟩
def UN(X:Cx):Z V->Hp->VK->Prop:=λxs H Q=>∃a zs,xs=[.ref a]/\H a=U (EN X a zs)/\FP (zs.map (·.1))=true/\(∀z∈zs,AW X.K H (BH z.1) (.ref z.2))/\∀l H' us,AV H H'->H l=Y->H' l=U (.lst us)->aO X.K H' ((lN (zs.map (·.1))).map BH) us->Q (.ref l) H'
theorem gc(hc:X.calm=true):fZ X (.builtin "sorted") (UN X):=by
 intro AN s σ H xs us Q I r h;obtain⟨a,zs,rfl,ha,hs,A,q⟩:=h;obtain⟨u,rfl,ru⟩:=BE r;cases ru;simp only[FP,ZY,ZE,qh,QA]at hs;obtain⟨G,W,D⟩:=hs;rw[zh]at G;obtain⟨o,es,ep,t,ho,b9,hd,F,ft,c3,P⟩:=ND I ha;have f:es.size=zs.length:=by rw[<-qa,F,zh]
 have wk:Wk X.w s.heap a es ep t:=⟨⟨o,ho,b9.1,hd⟩,ft,c3,λq=>P (by omega)⟩;have a2:aO X.K H ((zs.map (·.1)).map BH) (zs.map λz=>(V.ref z.2))/\AX (zs.map λz=>(V.ref z.2)) (zs.map λz=>(.ref z.2:A0)):=by
  clear F ha q G W D f wk P
  induction zs with
  |nil=>exact⟨aO.nil,.nil⟩
  |cons z zs p=>
   obtain⟨i1,i2⟩:=p λy hy=>A y (zi _ hy);exact⟨aO.cons (A z (zg ..)) i1,.cons S i2⟩
 have c1:=rO I a2.1 a2.2;have tz:∀z∈zs,j4 s.heap z.1 (.ref z.2):=λz i=>by
  have:=rO I (cJ:=[z.1]) (vs:=[V.ref z.2]) (AQ:=[.ref z.2]) (aO.cons (A z i) aO.nil) (.cons S .nil);cases this with
  |cons q' _=>exact q'
 refine U0 (λvs=>∃ys:Z (Z AY×A1),ys.Perm zs/\vs=ys.map λz=>(.ref z.2:A0)) (tuples' true) (λvs v=>CI (vs.map λu=>BD (zs.map (·.1)) (zs.map λz=>(.ref z.2:A0)) u) (BD (vs.map λu=>BD (zs.map (·.1)) (zs.map λz=>(.ref z.2:A0)) u) vs v))
  (λE' Q' M=>Ri (by exact I.ok.hd hc) wk (by rw[f,sizeLine_eq];omega) λx h1 d tk hp a3 ext=>M x h1 d tk ?_ a3 ext) ?_ ?_ ?_ ?_
 ·rw[F,qB]at hp;have:∀{x vs:Z A0},x.Perm vs->∀zs:Z (Z AY×A1),vs=zs.map (λz=>(.ref z.2:A0))->∃ys:Z (Z AY×A1),ys.Perm zs/\x=ys.map λz=>(.ref z.2:A0):=by
   intro x vs hp
   induction hp with
   |nil=>intro zs e;cases zs with|nil=>exact⟨[],.refl _,rfl⟩|cons _ _=>cases e
   |cons y _ p=>
    intro zs e;cases zs with
    |nil=>cases e
    |cons z zs=>
     rw[zr]at e;injection e with e1 e2;obtain⟨ys,p1,p2⟩:=p zs e2;exact⟨z::ys,p1.cons _,by rw[zr,e1,p2]⟩
   |swap y1 y2 l=>
    intro zs e
    match zs,e with
    |z1::z2::zs,e=>
     simp only[zr,JS]at e;exact⟨z2::z1::zs,List.Perm.swap _ _ _,by simp only[zr];rw[e.1,e.2.1,e.2.2]⟩
    |[_],e=>simp at e
    |[],e=>cases e
   |trans _ _ b3 c0=>
    intro zs e;obtain⟨ys,p1,p2⟩:=c0 zs e;obtain⟨us,q1,q2⟩:=b3 ys p2;exact⟨us,q1.trans p1,q2⟩
  exact this hp zs rfl
 all_goals
  intro vs hG;obtain⟨ys,py,rfl⟩:=hG;have hm:∀v∈(ys.map λz=>(.ref z.2:A0)),v∈(zs.map λz=>(.ref z.2:A0)):=λv C=>((py.map _).mem_iff).mp C;have a1:∀v∈(ys.map λz=>(.ref z.2:A0)),j4 s.heap (BD (zs.map (·.1)) (zs.map λz=>(.ref z.2:A0)) v) v:=λv C=>(mL c1 v (hm v C)).2;have tv:=zB a1;have a0:(ys.map λz=>(.ref z.2:A0)).map (λu=>BD (zs.map (·.1)) (zs.map λz=>(.ref z.2:A0)) u)=ys.map (·.1):=by
   rw[qB];refine Qb λz f=>?_;have i:=py.mem_iff.mp f;exact(a1 (.ref z.2) (List.mem_map.mpr ⟨z,f,rfl⟩)).inj (tz z i)
  have mk:∀k∈(ys.map λz=>(.ref z.2:A0)).map (λu=>BD (zs.map (·.1)) (zs.map λz=>(.ref z.2:A0)) u),k∈zs.map (·.1):=λk b=>by
   rw[a0]at b;exact((py.map _).mem_iff).mp b
 ·intro h2 E' A' s' k Q' M;exact Ly (Paired.imp' (λ_ _ z=>j4.keep z k) tv) (λk b=>by have:=W k (mk k b);cases k with|nil=>cases this|cons _ _=>exact List.cons_ne_nil _ _) (λk b l m=>HJ (D k (mk k b) l (mk l m))) (by omega) M
 ·intro A' s' k;exact Q8 (Paired.imp' (λ_ _ z=>j4.keep z k) tv) λk b l m=>HJ (D k (mk k b) l (mk l m))
 ·rw[zh,py.length_eq];exact G
 ·intro l h' d tk n st hp up m ext hL;have g:=Q9 tv hp up;have mem:∀u∈((AM st).map (·.2)).toList,u∈(ys.map λz=>(.ref z.2:A0)):=λu B=>by
   rw[Array.toList_map]at B;obtain⟨pr,c2,rfl⟩:=List.mem_map.mp B;have a5:pr∈(ys.map λz=>(.ref z.2:A0)).zip (ys.map λz=>(.ref z.2:A0)):=by rw[<-pairsOf_toList];exact(Array.perm_iff_toList_perm.mp hp).mem_iff.mp c2
   have:=mem_zip_self a5;rw[<-this.1];exact this.2
  have L:H l=Y:=I.hok.fresh m;have back:∀{J:Z (Z AY)} {g:Z A0},AI (j4 s.heap) J g->(∀u∈g,u∈(ys.map λz=>(.ref z.2:A0)))->∃c,AX c g/\aO X.K H (J.map BH) c:=by
   intro J g pr
   induction pr with
   |nil=>intro _;exact⟨[],.nil,aO.nil⟩
   |cons q0 _ p=>
    intro N;obtain⟨c,E,j⟩:=p λu B=>N u (zi _ B);obtain⟨z,f,ez⟩:=List.mem_map.mp (N _ (zg ..));subst ez;have i:=py.mem_iff.mp f;have ek:=q0.inj (tz z i);refine⟨.ref z.2::c,.cons S E,?_⟩;rw[zr,ek];exact aO.cons (A z i) j
  obtain⟨c,E,j⟩:=back g mem;rw[a0]at j;have es:lN (ys.map (·.1))=lN (zs.map (·.1)):=uw ((ou _).trans (py.map _)) (xg _);rw[es]at j;have b0:c.length=zs.length:=by rw[j.length,zh,(ou _).length_eq,zh]
  refine⟨.ref l,_,YF (d:=d) (I.laid (t':=tk) (a:=l) (o:=.lst c) ext m ⟨by rw[b0,sizeLine_eq];omega,_,n,E,?_⟩),rfl,q _ _ c (cG L) L bV (j.kp (.of (cG L)))⟩;rw[hL]
def yJ{α:Type}[DecidableEq α]:Z α->Z α
 |[]=>[]
 |y::ys=>if y∈ys then yJ ys else y::yJ ys
section
variable [DecidableEq α]
theorem pP:∀{ys:Z α} {z:α},z∈yJ ys↔z∈ys
 |[],z=>by simp[yJ]
 |y::ys,z=>by
  unfold yJ;split
  ·rename_i h;rw[pP,QY];exact⟨.inr,λq=>q.elim (λe=>e▸h) id⟩
  ·rw[QY,QY,pP]
theorem zF:∀(ys:Z α),(yJ ys).Nodup
 |[]=>j3
 |y::ys=>by
  unfold yJ;split
  ·exact zF ys
  ·rename_i h;exact List.nodup_cons.mpr ⟨λq=>h (pP.mp q),zF ys⟩
theorem Bg:∀(ys:Z α),(yJ ys).length<=ys.length
 |[]=>zo _
 |y::ys=>by
  have:=Bg ys;unfold yJ;split<;>simp<;>omega
theorem GP{β:Type}[DecidableEq β]{f:α->β}(hi:∀a b,f a=f b->a=b):∀(ys:Z α),yJ (ys.map f)=(yJ ys).map f
 |[]=>rfl
 |y::ys=>by
  have c:f y∈ys.map f↔y∈ys:=⟨λq=>by obtain⟨z,d,e⟩:=List.mem_map.mp q;rw[<-hi _ _ e];exact d,λq=>List.mem_map.mpr ⟨y,q,rfl⟩⟩;rw[zr];unfold yJ;by_cases q:y∈ys
  ·rw[zk q,zk (c.mpr q),GP hi ys]
  ·rw[zw q,zw λh=>q (c.mp h),zr,GP hi ys]
end
section
def Oj(ks:Z AY):Bool:=ks.any λk=>k.isRight
theorem af(h:Oj ks=true):EJ ks:=by
 unfold Oj at h;rw[JI]at h;obtain⟨k,a,e⟩:=h;cases k with
 |inl i=>cases e
 |inr x=>exact⟨x,a⟩
def tU(X:Cx)(f:Ev->O (Z (Z AY))):L2.TE:=λσ H Q=>∃H0 ρ cJ,bZ X.K H0 H σ ρ/\f ρ=U cJ/\∀a zs H',AV H H'->H' a=U (EN X a zs)->(∀k,k∈zs.map (·.1)↔k∈cJ)->(zs.map (·.1)).Nodup->(∀z∈zs,AW X.K H' (BH z.1) (.ref z.2))->Q (.ref a) H'
def eQ(X:Cx)(e:Expr)(f:Ev->O (Z (Z AY))):Prop:=PE X e (tU X f)
structure HL (X:Cx) (e:Expr) (f:Ev->Option (List (List AY))):Prop where
 run:eQ X e f
def IT(b:Bx):O (Z (Z AY)):=(uo b).bind λds=>(uQ ds).bind λcJ=>if cJ.length<=64/\cJ.all Oj=true then U cJ else Y
def Kc(f:Ev->O Bx):Ev->O (Z (Z AY)):=λρ=>(f ρ).bind IT
def WQ(fs:Ev->O (Z (Z AY))):Ev->O Bx:=λρ=>(fs ρ).bind λcJ=>if cJ.length<=64 then U (.z (.int (yJ cJ).length))else Y
def Ia(fs:Ev->O (Z (Z AY))):Ev->O Bx:=λρ=>(fs ρ).bind λcJ=>if FP cJ=true then U (.o ((lN (yJ cJ)).map BH))else Y
variable{fs:Ev->O (Z (Z AY))}{p:Pos}
theorem Ol(n:X.calm=true)(w:X.A.units+100<cLine)(hg:Gl X "set")(t:X.mg "set"=Y)(ha:QV X e f)(he:A9 (e::[]) X.env=(false,eval e X.env)::A9 [] X.env:=by rfl):HL X (.Call (.Name "set" p) [e] [] pos) (Kc f):=by
 refine⟨Ft (K8 (T :="set") (WP n w) hg t S (gP ha.run tL he) (he:=he)) λσ H Q h=>?_⟩;obtain⟨H0,ρ,cJ,E,c,q⟩:=h;obtain⟨b,eb,c⟩:=AT c;obtain⟨ds,j,c⟩:=AT c;obtain⟨y,ek,c⟩:=AT c;split at c
 ·rename_i d;cases c;rw[qh]at d;exact⟨H0,ρ,b,E,eb,λv H1 s x g=>⟨v,b,ds,cJ,rfl,g,j,ek,d.1,λk o=>af (d.2 k o),λa zs H2 i e2 m l u=>q a zs H2 (s.trans i) e2 m l u⟩⟩
 ·cases c
theorem b4(hg:Gl X "len")(i:X.mg "len"=Y)(ha:HL X e fs)(he:A9 (e::[]) X.env=(false,eval e X.env)::A9 [] X.env:=by rfl):QV X (.Call (.Name "len" p) [e] [] pos) (WQ fs):=by
 refine⟨Ft (qG (id :="len") eK hg i S (gP ha.run tL he) (he:=he)) λσ H Q h=>?_⟩;obtain⟨H0,ρ,b,E,c,q⟩:=h;obtain⟨cJ,f,c⟩:=AT c;split at c
 ·rename_i j;cases c;refine⟨H0,ρ,cJ,E,f,λa zs H1 g e1 m d l=>⟨a,zs,rfl,e1,?_,?_⟩⟩
  ·have:=(yq d (zF cJ) λz=>by rw[m z,pP]).length_eq;have:=Bg cJ;rw[zh]at *
   omega
  ·have e2:=(yq d (zF cJ) λz=>by rw[m z,pP]).length_eq;rw[zh]at e2;rw[e2];exact q _ H1 g trivial (by simp only[aX,AW])
 ·cases c
theorem RI{Zx:Z (Z AY)}(h:FP cJ=true)(d:Zx.length<=cJ.length)(a:∀k∈Zx,k∈cJ):FP Zx=true:=by
 simp only[FP,ZY,ZE,qh,QA]at h ⊢;exact⟨by omega,λk b=>h.2.1 k (a k b),λk b l c=>h.2.2 k (a k b) l (a l c)⟩
theorem WR(j:X.calm=true)(hg:Gl X "sorted")(s:X.mg "sorted"=Y)(ha:HL X e fs)(he:A9 (e::[]) X.env=(false,eval e X.env)::A9 [] X.env:=by rfl):QV X (.Call (.Name "sorted" p) [e] [] pos) (Ia fs):=by
 refine⟨Ft (qG (id :="sorted") (gc j) hg s S (gP ha.run tL he) (he:=he)) λσ H Q h=>?_⟩;obtain⟨H0,ρ,b,E,c,q⟩:=h;obtain⟨cJ,u,c⟩:=AT c;split at c
 ·rename_i t;cases c;refine⟨H0,ρ,cJ,E,u,λa zs H1 d e1 m g w=>⟨a,zs,rfl,e1,?_,w,λl H2 us i o e2 f=>?_⟩⟩
  ·have e3:=(yq g (zF cJ) λz=>by rw[m z,pP]).length_eq;have:=Bg cJ;exact RI t (by omega) λk n=>(m k).mp n
  ·have v:=yq g (zF cJ) λz=>by rw[m z,pP]
   have es:lN (zs.map (·.1))=lN (yJ cJ):=uw ((ou _).trans v) (xg _);rw[es]at f;exact q _ H2 (d.trans i) (λa ea=>by cases ea;exact d.free o) ⟨l,us,rfl,e2,f⟩
 ·cases c
end
end P1
namespace P1
open L2
def Ib:Bx->Bx->O Bx
 |.z (.str k),.z d=>U (.z (.tup [.str k,d]))
 |_,_=>Y
theorem U3{a:Bx}{y:Dt}(h:Ib a b=U (.z y)):∃k d,a=.z (.str k)/\b=.z d/\y=.tup [.str k,d]:=by
 unfold Ib at h;split at h
 ·cases h;exact⟨_,_,rfl,rfl,rfl⟩
 ·cases h
def HE(AO:Z (AY×Dt)):Dt->Z (AY×Dt)
 |.tup [.str k,d]=>N7 AO (.inr k) d
 |_=>AO
def dictOf(out:Z Dt):Z (AY×Dt):=out.foldl HE []
theorem Rt(out:Z Dt)(k:AJ)(d:Dt):dictOf (out++[.tup [.str k,d]])=N7 (dictOf out) (.inr k) d:=by
 unfold dictOf;rw[KS];rfl
theorem YG{AO:Z (AY×V)}{k:AY}{r:A0}{Q:Unit->A2->Prop}(I:L2.AU X AN σ H s)(e:H a=U (.dK AO))(l:AO.length<AA)(m:Au (kV k) u)(d:Au v r)(h:∀s',L2.AU X AN σ (B6 H a (.dK (BC AO k v))) s'->Q () s'):
  A7 (A8 X.prog X.w) A (dictSet a u r) Q E s:=by
 obtain⟨z,hd,vs,c,f⟩:=Z8 I.hok e;have j:vs.length<=AA:=by rw[<-c.length];exact z
 have i:(BC AO k v).length<=AA:=by have:=nT AO k v;omega
 refine wpAny_dictSet_pairs (hsz:=j) (G9 m) f λh' b hs=>h _ ?_;have g:∃q,h'.get? a=U q:=let ⟨q,_,_,hq,_⟩:=b;⟨q,hq⟩;exact Gu I (by rw[e];exact True.intro) hs g (T8 i hd (c.put k d) b)
section
variable{kx vx:Expr}{xs:AZ}
def EO(K:B1)(_:A1)(H:Hp)(a:Z Dt)(o:HO):Prop:=∃us,o=.dK us/\fQ K H (dictOf a) us/\us.length<=a.length
theorem EO.kp{K:B1}{D:A1}{H H':Hp}{a:Z Dt}{o:HO}(k:Kp H H'):EO K D H a o->EO K D H' a o:=λ⟨us,e,r,z⟩=>⟨us,e,r.kp k,z⟩
theorem gm(B:PV X kx fk)(t:PV X vx fv):FL X (λD env=>do let g <-eval kx env;let vv <-holding [g] (eval vx env);standAt { kx.pos with endLine:=vx.pos.endLine,endCol:=vx.pos.endCol };holding [g,vv] (dictSet D g vv)) (MG (b2 Ib fk fv)) (EO X.K) 999 n:=by
 refine No λAN s σ H H0 ρ D o o1 ys I En eb hD ⟨us,e,r4,hl⟩ hi=>?_;subst e;obtain⟨b,e0,e1⟩:=AT eb;obtain⟨y,rfl,rfl⟩:=CZ e1;obtain⟨bk,w,eb⟩:=AT e0;obtain⟨W,J,eb⟩:=AT eb;obtain⟨c,P,rfl,rfl,rfl⟩:=U3 eb;refine zb (QI (B AN s σ H (λv a=>AV H a/\aX X.K a (.z (.str c)) v) I ⟨H0,ρ,_,En,w,λv a f _ d=>⟨f,d⟩⟩) (λg N h=>?_) λ_ _ z=>z);obtain⟨q,m,F,rk,p,A⟩:=h;refine zb (QQ (QI (t AN N σ m (λv a=>AV m a/\AW X.K a P v) F ⟨H0,ρ,_,En.grow p,J,λv a f _ d=>⟨f,d⟩⟩) (λv f h=>?_) λ_ _ z=>z));obtain⟨i,a,E,G,C,d⟩:=h;have j:=p.trans C;have l:a D=U (.dK us):=j _ _ hD;obtain⟨rfl,u⟩:q=.str c/\c.length<=AA:=by simpa only[aX,AW]using A
 have kp:Kp a (B6 a D (.dK (BC us (Sum.inr c) i))):=.dk l;refine zb (K0 (QQ ?_));simp only[List.length_singleton]at hi;refine YG E l (by have:(1000:Nat)<AA:=(by decide);omega) (k:=Sum.inr c) rk G λQ L=>?_;have M:=((r4.kp (.of j)).put (x:=Sum.inr c) d u).kp kp;exact⟨a,_,L,j,kp,BC us (Sum.inr c) i,rfl,by rw[Rt];exact M,by have:=nT us (Sum.inr c) i;simp;omega⟩
def WT(fi:Ev->O (Z Dt))(gt:Dt->Ev->O Ev)(p:Ev->O Bool)(fk fv:Ev->O Bx)(is:Z Nat)(n:Nat):Ev->O Bx:=λρ=>(fi ρ).bind λds=>
 if ds.length<1000 then(Ef gt p (b2 Ib fk fv) (kE is ρ++List.replicate n Y) ds).bind λa=>U (.m (dictOf a) Y)else Y
theorem XT(hu:X.A.units+100<cLine)(ts:AZ)(O:uN X scope cl xs is)(a1:X.calm=true)(hi:FD X tgt iter fi)
  (z:∀C c d fp,Ch (JW X (xs++ts) scope cl C c d fp) tgt gt) (L:∀C c d fp,Dc (JW X (xs++ts) scope cl C c d fp) ifs p) (W:∀C c d fp,QV (JW X (xs++ts) scope cl C c d fp) kx fk) (a0:∀C c d fp,QV (JW X (xs++ts) scope cl C c d fp) vx fv) (P:D1 is.length (is.length+ts.length) gt)
  (hs:∀x,foldedSetIterable iter X.env x=pure x:=by intro _;rfl):QV X (.DictComp kx vx [⟨tgt,iter,ifs,0⟩] scope pos) (WT fi gt p fk fv is ts.length):=⟨λAN s σ H Q I h=>by
 obtain⟨H0,ρ,b,E,e,q⟩:=h;obtain⟨ds,ed,e⟩:=AT e;split at e
 ·rename_i a2;obtain⟨b0,g,e⟩:=AT e;cases e;rw[arm_eval_DictComp];refine kN (use:=none) S hs O.clos O.kind O.names ?_;refine jc (hi.run AN s σ H (λJ H'=>AV H H'/\B5 X.K J ds H') I ⟨H0,ρ,ds,E,ed,λJ H' s' y=>⟨s',y⟩⟩) λv s1 h1=>jc h1 λa5 F h2=>?_;obtain⟨it,fp,tn,J,H2,rfl,i,T,st,hf,f,Y⟩:=h2;refine Le (B:=Ld) (Ac:=EO X.K) (O0:=.dK []) (N:=999) (RR:=λj C=>compPost (A8 X.prog X.w) X.A X.xe none (EP X AN σ Q) j C) (ts:=ts) (xs:=xs) O a1 (λC c d fp=>(z C c d fp).run) (λC c d fp=>(L C c d fp).run) (λC c d fp=>gm (W C c d fp).run (a0 C c d fp).run) P (Nat.le_add_right ..) i ((E.grow f).caps is ts.length) (QF T) st hf Y g (ZA (yg g) (Nat.le_of_lt_succ a2)) ?_
   qS (λ_=>Qs F.heap i.big) (λ_=>⟨[],rfl,fQ.nil,zo _⟩) EO.kp (λ_ _ _=>S) codeAny_compStart_dict λh=>h
  rintro D C s' H' o hD n u ⟨m,hn⟩ t a3 ⟨us,rfl,rm,_⟩;refine⟨m,hn,λh' sb=>⟨.ref D,H',?_,rfl,q (.ref D) H' (f.trans t) (λa ea=>by cases ea;exact f.free hD) ⟨D,us,rfl,a3,rm,λb hb=>by cases hb⟩⟩⟩;obtain⟨f0,f1,f2,l,G,M⟩:=u;exact n.turned (t':=s'.toks) (λb o hb e=>(sb.2 b hb).trans e) f0 f1 l G M
 ·cases e⟩
end
section
variable{ks:Z (AY×V)}{o:AE}
theorem Ru(hb:∀f u,X.H₀ a≠U (.vW f u))(I:L2.AU X AN σ H s)(e:H a=U (.vW o (.dK ks))):L2.AU X AN σ (B6 H a (.dK ks)) s:=by
 have ne:∀{b:A1} {u:HO},H b=U u->u≠.vW o (.dK ks)->b≠a:=λq n z=>by subst z;rw[e]at q;cases q;exact n rfl
 have nn:∀{b:A1},H b=Y->b≠a:=λq z=>by subst z;rw[e]at q;cases q
 refine⟨I.ok,I.os,I.bare,⟨I.base.keep,I.base.slot,λb f q n hx=>?_,I.base.there,λb xs q=>?_,λb f u q=>?_,λb ps q=>?_⟩,I.loc,I.cell,?_,λx c q=>?_,λp hp=>?_,λb f q=>?_,I.len⟩
 ·have:=I.base.free b f q n hx;rw[aR (nn this)];exact this
 ·have:=I.base.tups b xs q;rw[aR (ne this λz=>by cases z)];exact this
 ·have:=I.base.Fp b f u q;rw[aR (λz=>by subst z;exact hb _ _ q)];exact this
 ·obtain⟨m,this⟩:=I.base.JX b ps q;exact⟨m,by rw[aR (ne this λz=>by cases z)];exact this⟩
 ·have:=I.free;rw[aR (nn this)];exact this
 ·have:=I.rJ x c q;rw[aR (nn this)];exact this
 ·obtain⟨p1,p2,p3⟩:=I.pin p hp;exact⟨p1,by rw[aR (nn p2)];exact p2,p3⟩
 ·have st:∀{c:A1} {w:HO},iD X.prog X.w H s.heap c w->iD X.prog X.w (B6 H a (.dK ks)) s.heap c w:=λx=>
   x.stay (λ_ _ _ r=>r) (λd r=>by rw[aR (ne r λz=>by cases z)];exact r) λd xs r=>by rw[aR (ne r λz=>by cases z)];exact r
  by_cases g:b=a
  ·subst g;rw[bV]at q;cases q;exact st (I.hok _ _ e).2
  ·rw[aR g]at q;exact st (I.hok _ _ q)
theorem WI(I:L2.AU X AN σ H s)(e:H a=U (.dK ks))(ho:s.heap.get? a=U o):L2.AU X AN σ (B6 H a (.vW o (.dK ks))) s:=by
 have:=I.write (t':=s.toks) (h':=s.heap) (x:=a) (e:=a) (o:=.vW o (.dK ks)) (by rw[e];exact True.intro) (.inl S) (λ_ _ _ z=>z) ⟨o,ho⟩ ⟨ho,(I.hok _ _ e).stay (λ_ _ _ r=>r) (λd r=>by rw[aR (pG r e (by intro z;cases z))];exact r) λd xs r=>by rw[aR (pG r e (by intro z;cases z))];exact r⟩;exact this
theorem gS(I:L2.AU X AN σ H s)(e:H a=U (.dK ks)):∀b u,X.H₀ a≠U (.vW b u):=λb u q=>by
 have:=I.base.Fp a b u q;rw[e]at this;cases this
mutual
theorem AW.Ru{K:B1}(e:H a=U (.vW o (.dK ks)))(f:ks≠[]):∀{d:Dt} {v:V},AW K H d v->AW K (B6 H a (.dK ks)) d v
 |.non,_,h=>by simpa only[AW]using h
 |.bl _,_,h=>by simpa only[AW]using h
 |.int _,_,h=>by simpa only[AW]using h
 |.str _,_,h=>by simpa only[AW]using h
 |.tup ds,_,h=>by
  simp only[AW]at h ⊢;obtain⟨b,vs,e1,q,r⟩:=h;refine⟨b,vs,e1,?_,aO.Ru e f r⟩;rcases q with (q|⟨c,q⟩)|q
  ·exact .inl (.inl (by rw[aR (λz=>by subst z;rw[e]at q;cases q)];exact q))
  ·exact .inl (.inr ⟨c,by rw[aR (λz=>by subst z;rw[e]at q;cases q)];exact q⟩)
  ·exact .inr q
 |.lst ds,_,h=>by
  simp only[AW]at h ⊢;obtain⟨b,vs,e1,q,r⟩:=h;refine⟨b,vs,e1,?_,aO.Ru e f r⟩;rcases q with⟨c,q⟩|q
  ·exact .inl ⟨c,by rw[aR (λz=>by subst z;rw[e]at q;cases q)];exact q⟩
  ·exact .inr q
 |.emp,_,h=>by
  simp only[AW]at h ⊢;obtain⟨b,c,e1,q⟩:=h;exact⟨b,c,e1,by rw[aR (λz=>by subst z;rw[e]at q;cases q;exact f S)];exact q⟩
theorem aO.Ru{K:B1}(e:H a=U (.vW o (.dK ks)))(b:ks≠[]):∀{ds:Z Dt} {vs:Z V},aO K H ds vs->aO K (B6 H a (.dK ks)) ds vs
 |[],_,h=>by simpa only[aO]using h
 |d::ds,_,h=>by
  simp only[aO]at h ⊢;obtain⟨v,r,e1,q,t⟩:=h;exact⟨v,r,e1,AW.Ru e b q,aO.Ru e b t⟩
end
def NF(a:A1)(o:AE)(ks:Z (AY×V)):It:=
 ⟨λi H=>H a=U (.vW o (.dK ks))/\i<ks.length,λi H x H'=>H'=H/\(ks.map λk=>kV k.1)[i]?=U x,λi H=>H a=U (.vW o (.dK ks))/\ks.length<=i⟩
theorem WW(x:iD P w H h a (.vW o (.dK ks))){es:Array DictEntry}(hd:o.data=.dict es ep):∃vs,KV ks vs/\h.DictAt (bw P w) a vs ep:=by
 obtain⟨e,_,_,vs,b,i,f,g,e2,c,d,r⟩:=x;rw[e]at e2;cases e2;rw[hd]at d;cases d;exact⟨vs,b,o,es,e,c,hd,r⟩
theorem NN:∀{ks:Z (AY×V)} {vs:Z (AY×A0)},KV ks vs->∀{i:Nat} {p},ks[i]?=U p->∃x,vs[i]?=U (p.1,x)
 |_,_,.nil,i,p,q=>by simp at q
 |_,_,.cons h _,0,p,q=>by simp at q;subst q;exact⟨_,by rw[List.getElem?_cons_zero,h.1]⟩
 |_,_,.cons _ t,i+1,p,q=>by
  rw[Z3]at q;obtain⟨x,hx⟩:=NN t q;exact⟨x,by rw[Z3];exact hx⟩
theorem Ma(it:A1){es:Array DictEntry}(hd:o.data=.dict es ep)(N:a≠it):C9 P w K tg (NF a o ks) [it] it (λi h=>h.IsKeyIter it a i ks.length ep) where
 mem:=by simp
 obj:=λi h st b hb=>by
  have e:b=it:=by simpa using hb
  subst e;obtain⟨f,e,c,d⟩:=st;exact⟨f,e,λv z=>by rw[d]at z;cases z⟩
 keep:=λi h h' st k=>st.at λf e=>k it (by simp) f e
 item:=by
  intro X q C B D i AN s σ H E I g st hg;subst q C B;obtain⟨ha,hi⟩:=hg;obtain⟨vs,l,A⟩:=WW (I.hok _ _ ha) hd;have m:ks.length=vs.length:=l.length;obtain⟨x,hx⟩:=NN l (show ks[i]?=U ks[i] by simp[hi]);obtain⟨f0,f1,f2,n,u,y⟩:=g it (by simp);rw[m]at st;refine wpAny_pyNext_dict_item st A hx λF h' M p L=>?_;rw[<-m]at p;have G:L2.AU X AN σ H { s with heap:=h' }:=I.turned (t':=s.toks) (λb f hb e=>(L.2 b hb).trans e) f0 f1 n u y;obtain⟨f,e,c,d⟩:=id p;refine⟨F,rfl,K3 (s:={ s with heap:=h' }) e c d (by decide) ⟨kV (ks[i]).1,H,G,?_,⟨rfl,by rw[Zp,z4 hi];rfl⟩,p,λb hb=>(g b hb).1⟩⟩;have J:lH (ks[i]).1 F=true:=M;rcases bU J with⟨j,t,e2,e3⟩|⟨z,t,e2,e3⟩
  ·rw[e2,e3];exact⟨t,rfl⟩
  ·rw[e2,e3];exact⟨t,rfl⟩
 done:=by
  intro X q C B D i AN s σ H E I g st hg;subst q C B;obtain⟨ha,hi⟩:=hg;obtain⟨vs,l,A⟩:=WW (I.hok _ _ ha) hd;have m:ks.length=vs.length:=l.length;obtain⟨f0,f1,f2,n,u,y⟩:=g it (by simp);rw[m]at st;exact wpAny_pyNext_dict_end (I.ok.hd D) st A (qV (by omega)) λh' eb=>⟨rfl,I.turned (t':=s.toks) (λb f hb e=>eb b f hb e) f0 f1 n u y⟩
 self:=λ_ _ _ _ _ st h=>wpAny_pyIter_keyiter st h
def U4:AY->Dt
 |.inl i=>.int i
 |.inr x=>.str x
theorem fN{k:AY}(h:DO k):AW K H (U4 k) (kV k):=by
 cases k with
 |inl i=>unfold U4 AW;rfl
 |inr x=>unfold U4 AW;exact⟨rfl,h⟩
def D7:Bx->O (Z Dt)
 |.n AO=>U (AO.map λp=>U4 p.1)
 |_=>Y
theorem YH(h:D7 b=U ds):∃AO,b=.n AO/\ds=AO.map λp=>U4 p.1:=by
 unfold D7 at h;split at h
 ·cases h;exact⟨_,rfl,rfl⟩
 ·cases h
theorem El(ha:Hs a=U (.vW o (.dK ks)))(b:fQ K Hs AO ks):B5 K (NF a o ks) (AO.map λp=>U4 p.1) Hs:=.of λi H s=>by
 have f:=b.len;refine⟨λd e=>?_,λe=>⟨s _ _ ha,by rw[zh]at e;omega⟩⟩;rw[Zp]at e;cases hp:AO[i]? with
 |none=>rw[hp]at e;cases e
 |some p=>
  rw[hp]at e;cases e;have hi:i<AO.length:=(List.getElem?_eq_some_iff.mp hp).1;refine⟨⟨s _ _ ha,by omega⟩,λx H' y=>?_⟩;obtain⟨y1,y2⟩:=y;refine⟨y1,?_⟩;have h1:(ks.map (·.1))[i]?=U p.1:=by rw[b.1,Zp,hp];rfl
  rw[Zp]at h1 y2;cases c:ks[i]? with
  |none=>rw[c]at h1;cases h1
  |some q=>
   rw[c]at h1 y2;cases y2;have:q.1=p.1:=by simpa using h1
   show AW K H (U4 p.1) (kV q.1);rw[this];exact fN (b.2.2 p (QE hp))
theorem U5{H1:Hp}(e:H1 a=U (.dK ks))(E:bZ K H1 H1 (zu is σ++List.replicate n Y) (kE is ρ++List.replicate n Y)):bZ K (B6 H1 a (.vW o (.dK ks))) (B6 H1 a (.vW o (.dK ks))) (zu is σ++List.replicate n Y) (kE is ρ++List.replicate n Y):=by
 have kp:Kp H1 (B6 H1 a (.vW o (.dK ks))):=.dk e;have f:∀(j:Nat) c,(kE is ρ++List.replicate n Y)[j]?=U (U c)->wF c=false:=λj c e=>by
  by_cases p:j<is.length
  ·rw[ZO (by simp[kE];omega)]at e;unfold kE at e;rw[Zp]at e;cases q:is[j]? with
   |none=>rw[q]at e;cases e
   |some i=>
    rw[q]at e;have:zp ρ i=U c:=by simpa using e
    exact Aa this
  ·rw[qr (by simp[kE];omega),QO]at e;split at e<;>cases e
 refine⟨E.len,λj b eb=>?_,λj k c a b e h=>absurd h (by rw[f j c e];exact ZH),AV.refl _,λj c a e h=>absurd h (by rw[f j c e];exact ZH)⟩;obtain⟨v,ev,r⟩:=E.val j b eb;refine⟨v,ev,?_⟩;cases b with
 |z d=>exact AW.kp kp r
 |o ds=>have:=f j _ eb;cases this
 |m ds _=>have:=f j _ eb;cases this
 |l ds=>
  obtain⟨b,vs,e1,q,r⟩:=r;refine⟨b,vs,e1,?_,r.kp kp⟩;rcases q with q|⟨g,q⟩
  ·exact .inl (by rw[aR (pG q e (by intro z;cases z))];exact q)
  ·exact .inr ⟨g,by rw[aR (pG q e (by intro z;cases z))];exact q⟩
 |n ds=>
  obtain⟨b,vs,e1,q,r⟩:=r;refine⟨b,vs,e1,?_,r.kp kp⟩;by_cases hb:b=a
  ·subst hb;rcases q with q|⟨g,q⟩
   ·rw[e]at q;cases q;exact .inr ⟨o,bV⟩
   ·rw[e]at q;cases q
  ·rcases q with q|⟨g,q⟩
   ·exact .inl (by rw[aR hb];exact q)
   ·exact .inr ⟨g,by rw[aR hb];exact q⟩
end
section
variable{fd:Ev->O Bx}{xs:AZ}
def Rv(fd:Ev->O Bx):Ev->O (Z Dt):=λρ=>(fd ρ).bind D7
theorem YJ(ρ:Ev):Ef gt p fe ρ []=U []:=rfl
theorem Rw(ts:AZ)(O:uN X scope cl xs is)(b0:X.calm=true)(hi:QV X iter fd)
  (Qh:∀C c d fp,Ch (JW X (xs++ts) scope cl C c d fp) tgt gt) (a3:∀C c d fp,Dc (JW X (xs++ts) scope cl C c d fp) ifs p) (a2:∀C c d fp,QV (JW X (xs++ts) scope cl C c d fp) elt fe) (a5:D1 is.length (is.length+ts.length) gt)
  (hs:∀x,foldedSetIterable iter X.env x=pure x:=by intro _;rfl):QV X (.ListComp elt [⟨tgt,iter,ifs,0⟩] scope pos) (eU (Rv fd) gt p fe is ts.length):=⟨λAN s σ H Q I h=>by
 obtain⟨H0,ρ,b,E,e,q⟩:=h;obtain⟨ds,ed,e⟩:=AT e;split at e
 ·rename_i c2;obtain⟨c6,t,e⟩:=AT e;cases e;obtain⟨bd,c8,ed⟩:=AT ed;obtain⟨AO,rfl,rfl⟩:=YH ed;rw[eval_ListComp];refine kN (use:=Y) S hs O.clos O.kind O.names ?_;refine jc (hi.run AN s σ H (λv H1=>AV H H1/\aX X.K H1 (.n AO) v) I ⟨H0,ρ,_,E,c8,λv H1 f _ P=>⟨f,P⟩⟩) λv f ⟨v',H1,I1,rv,s01,P⟩=>?_;obtain⟨a,ks,rfl,g,rm⟩:=P;cases rv;obtain⟨_,d1,vs,kv,l,es,ep,M⟩:=vY I1.hok g;have a0:=M.1;have b3:=M.2.2.1;refine wpAny_pyIter_dict d1 (⟨l,es,M⟩:f.heap.DictAt (bw X.prog X.w) a vs ep) ?_;have c1:a<f.heap.objs.size:=zz a0;have hl:ks.length=vs.length:=kv.length;have a1:∀{H':Hp},L2.AU X AN σ H' f->∀b∈[f.heap.objs.size],uK X AN H' b:=λi b hb=>by
   have e:b=f.heap.objs.size:=by simpa using hb
   subst e;exact i.ZP (zo _) (i.hok.fresh (zo _))
  have c0:Heap.IsKeyIter (f.heap.push { cls:=.type "dict_keyiterator",data:=.fields #[.ref a,.int 0 0,.int vs.length 0,.int ep 0] }) f.heap.objs.size a 0 ks.length ep:=⟨_,zv _ rfl,rfl,by rw[hl];rfl⟩;rcases g with g|⟨o',g⟩
  ·
   have I2:=WI I1 g a0;have W:L2.AU X AN σ (B6 H1 a (.vW l (.dK ks))) { f with heap:=f.heap.push { cls:=.type "dict_keyiterator",data:=.fields #[.ref a,.int 0 0,.int vs.length 0,.int ep 0] } }:=I2.kept (t':=f.toks) λb o e=>zd _ e;have d0:fQ X.K (B6 H1 a (.vW l (.dK ks))) AO ks:=rm.kp (.dk g);refine Ai (B:=Ld) (RR:=λy C=>compPost (A8 X.prog X.w) X.A X.xe Y (EP X AN σ Q) y C) (ts:=ts) (xs:=xs) O b0 (λC c d fp=>(Qh C c d fp).run) (λC c d fp=>(a3 C c d fp).run) (λC c d fp=>(a2 C c d fp).run) a5 W (U5 g ((E.grow s01).caps is ts.length)) (QF (Ma f.heap.objs.size b3 (zS c1))) c0 (a1 I2) (El bV d0) c2 t ?_;intro D C s' H' us j i G ⟨m,hn⟩ s2' hD' r';have N:H' a=U (.vW l (.dK ks)):=s2' _ _ bV;have b9:D≠a:=λz=>by subst z;rw[bV]at j;cases j
   have c3:H1 D=Y:=by rw[aR b9]at j;exact j
   have sm:AV H1 (B6 H' a (.dK ks)):=λb u e=>by
    by_cases hb:b=a
    ·subst hb;rw[g]at e;cases e;exact bV
    ·rw[aR hb];exact s2' b u (by rw[aR hb];exact e)
   have rr:aO X.K (B6 H' a (.dK ks)) c6 us:=by
    by_cases hk:ks=[]
    ·have:AO=[]:=by have:=rm.len;rw[hk]at this;exact List.length_eq_zero_iff.mp (by simpa using this.symm)
     subst this;simp only[JY]at t;rw[YJ]at t;cases t;simpa only[aO]using r'
    ·exact aO.Ru N hk r'
   refine⟨m,hn,λh' sb=>⟨.ref D,B6 H' a (.dK ks),?_,rfl,q _ _ (s01.trans sm) (λa ea=>by cases ea;exact s01.free c3) ⟨D,us,rfl,by rw[aR b9];exact hD',rr⟩⟩⟩;obtain⟨f0,f1,f2,F,J,L⟩:=G;have d3:C≠a:=λz=>by subst z;rw[N]at f0;cases f0
   exact(Ru (gS I1 g) i N).turned (t':=s'.toks) (λb o hb e=>(sb.2 b hb).trans e) (by rw[aR d3];exact f0) f1 F J L
  ·have d2:o'=l:=by
    have:=(I1.hok _ _ g).1;rw[a0]at this;cases this;rfl
   subst d2;have W:L2.AU X AN σ H1 { f with heap:=f.heap.push { cls:=.type "dict_keyiterator",data:=.fields #[.ref a,.int 0 0,.int vs.length 0,.int ep 0] } }:=I1.kept (t':=f.toks) λb o e=>zd _ e;refine Ai (B:=Ld) (RR:=λy C=>compPost (A8 X.prog X.w) X.A X.xe Y (EP X AN σ Q) y C) (ts:=ts) (xs:=xs) O b0 (λC c d fp=>(Qh C c d fp).run) (λC c d fp=>(a3 C c d fp).run) (λC c d fp=>(a2 C c d fp).run) a5 W ((E.grow s01).caps is ts.length) (QF (Ma f.heap.objs.size b3 (zS c1))) c0 (a1 I1) (El g rm) c2 t ?_;intro D C s' H' us j i G ⟨m,hn⟩ s2' hD' r';refine⟨m,hn,λh' sb=>⟨.ref D,H',?_,rfl,q _ _ (s01.trans s2') (λa ea=>by cases ea;exact s01.free j) ⟨D,us,rfl,hD',r'⟩⟩⟩;obtain⟨f0,f1,f2,F,J,L⟩:=G;exact i.turned (t':=s'.toks) (λb o hb e=>(sb.2 b hb).trans e) f0 f1 F J L
 ·cases e⟩
end
theorem Rx{R:Result->A2->Prop}{d:A1}{AO:Z (AY×A0)}(B:A.handled=Y)(hd:(d==sysModules)=false)(g:s.heap.DictAt (bw prog w) d AO ep)(W:AO.length<=AA)(S:A1)(m:d≠S)(l:A0)(y:Nat)(q:s.heap.get? S=some { cls:=.type "list",data:=.seq #[] y })(L:∀h' tk j a,(∀b o,b≠S->s.heap.get? b=some o->h'.get? b=some o)->h'.get? S=some { cls:=.type "list",dict:=Y,data:=.seq j a,slots:=#[] } →
   ItemsOf (λi v=>∃k x,AO[i]?=some (k,x)/\(bw prog w).is k v=true) j AO.length->R (.ok (.ret l)) { s with heap:=h',toks:=tk }):
  A7 (A8 prog w) A.in1 (Builtin.List.listExtendWith (.ref S) (.ref d) l)
   (λI s'=>match I with|.done f=>R (.ok f) s'|.again a=>a.quiet=true/\AF (A8 prog w) A a R s') (λe s'=>R (.error e) s') s:=by
 have K:d<s.heap.objs.size:=by obtain⟨o,_,ho,_⟩:=g;exact zz ho
 have D:S<s.heap.objs.size:=zz q;unfold Builtin.List.listExtendWith;refine zb (QR (T :="dict") g.dictOf.typeIs ?_);have h1:Builtin.List.listSameRef (.ref S) (.ref d)=false:=by simp[Builtin.List.listSameRef];exact λe=>m e.symm
 simp only[h1,show(Value.type "dict"==Value.type "list")=false by decide,show(Value.type "dict"==Value.type "tuple")=false by decide,Bool.or_false,zl,ZN];refine zb (wpAny_pyIter_dict hd g ?_);refine zb (QQ ?_);have c:=g.at' (h':=s.heap.push { cls:=.type "dict_keyiterator",data:=.fields #[.ref d,.int 0 0,.int AO.length 0,.int ep 0] }) λo e=>zd _ e;unfold Builtin.List.listLengthHint;refine zb (wpAny_specialOf (T :="dict") c.dictOf.typeIs F.slot_dict_len.lookup ?_)
 wp_delta
 refine zb (kf (T :="dict") (b:=true) c.dictOf.typeIs (by rw[isSubtype_type];kernel_rfl) ?_);show A7 _ A.in1 (typeOf (Value.ref d) >>= _) _ _ _;refine zb (QR (T :="dict") c.dictOf.typeIs (ze ?_));rw[zk (by decide)];show A7 _ A.in1 (Builtin.List.listTouch (Value.ref S) >>= λ_=>again (Code.builtin "list.extend.loop" ⟨[Value.ref S,Value.ref s.heap.objs.size,l],[]⟩)) _ _ _;generalize p:s.heap.push { cls:=.type "dict_keyiterator",data:=.fields #[.ref d,.int 0 0,.int AO.length 0,.int ep 0] }=G at c ⊢;have n:G.get? S=some { cls:=.type "list",data:=.seq #[] y }:=by
  rw[<-p];exact zd _ q
 have N:G.get? s.heap.objs.size=some { cls:=.type "dict_keyiterator",data:=.fields #[.ref d,.int 0 0,.int AO.length 0,.int ep 0] }:=by
  rw[<-p];exact zv _ rfl
 unfold Builtin.List.listTouch;refine zb (zb (listUpdate_at n rfl (listUpdate_at (get?_update_seq n _) rfl ?_ (by show _<=_;decide) (by show _<=_;decide)) (by show _<=_;decide) (by show _<=_;decide)));have z:s.heap.objs.size≠S:=KA D;have u:=get?_update_seq (get?_update_seq n (λx=>x.push Value.none)) (λx=>x.pop);generalize P:(G.update S (Obj.mapSeq λx=>x.push Value.none)).update S (Obj.mapSeq λx=>x.pop)=U at u;have keep:∀b,b≠S->U.get? b=G.get? b:=λb hb=>by rw[<-P,Jn _ _ _ _ hb,Jn _ _ _ _ hb]
 have J:U.IsKeyIter s.heap.objs.size d 0 AO.length ep/\U.DictAt (bw prog w) d AO ep:=⟨⟨_,(keep _ z).trans N,rfl,rfl⟩,c.at' λo e=>(keep d m).trans e⟩;show A7 _ A.in1 (again _) _ _ { s with heap:=U };have M:S∉[s.heap.objs.size,d]:=λh=>by
  simp only[QY,JE,or_false]at h;rcases h with h|h
  ·exact z h.symm
  ·exact m h.symm
 refine ze ⟨plainId_quiet F.plain_extend_loop _,codeAny_extend_loopS (Walks.dictKeys (A:=A.in1) B s.heap.objs.size d (zS K) AO ep).toS W S M _ AO.length 0 { s with heap:=U } #[] _ rfl (QP _) J u (ItemsOf.nil _) λs' j a t E C=>?_⟩;rw[Moved.eq_with t];refine L s'.heap s'.toks j a (λb H hb e=>?_) E C;have Q:=zz e;refine t.heap b H (λh=>?_) ((keep b hb).trans ?_)
 ·simp only[QY,JE,or_false]at h;rcases h with h|h
  ·exact hb h
  ·exact zS Q h
 ·rw[<-p];exact zd _ e
theorem Ie{Q:BA}{d:A1}{AO:Z (AY×A0)}(p:A.handled=Y)(hd:(d==sysModules)=false)(j:s.heap.DictAt (bw prog w) d AO ep)(C:AO.length<=AA)(t:∀h' tk c f,(∀b o,s.heap.get? b=U o->h'.get? b=U o) →
   h'.get? s.heap.objs.size=U { cls:=.type "list",dict:=Y,data:=.seq c f,slots:=#[] }->ItemsOf (λi v=>∃k x,AO[i]?=U (k,x)/\(bw prog w).is k v=true) c AO.length->Q (.ref s.heap.objs.size) { s with heap:=h',toks:=tk }):
  A7 (A8 prog w) A (call (.type "list") [.ref d]) Q E s:=by
 have n:d<s.heap.objs.size:=by obtain⟨o,_,ho,_⟩:=j;exact zz ho
 refine callType_codes (Q₁:=λg l=>g=.ref s.heap.objs.size/\l={ s with heap:=s.heap.push { cls:=.type "list",data:=.seq #[] } }) F.called_list (F.typeCall_list_1 _) F.entry_list_init
  (code_list_new _ ⟨rfl,rfl⟩) λg l B=>?_
 obtain⟨rfl,rfl⟩:=B;have a:(s.heap.push { cls:=.type "list",data:=.seq #[] }).get? s.heap.objs.size=U { cls:=.type "list",data:=.seq #[] }:=zv _ rfl;have h:=j.at' (h':=s.heap.push { cls:=.type "list",data:=.seq #[] }) λo e=>zd _ e;refine⟨⟨_,a,rfl⟩,F.args_list_init_2 _ _,?_⟩;generalize D:s.heap.push { cls:=.type "list",data:=.seq #[] }=H at a h ⊢;show A7 _ _ (do let old <-Builtin.List.listItems (.ref s.heap.objs.size);Builtin.List.listUpdate (.ref s.heap.objs.size) (λ_=>#[]);letGo old.toList.reverse;Builtin.List.listExtendWith (.ref s.heap.objs.size) (.ref d) .none) _ _ { s with heap:=H };refine zb ?_;unfold Builtin.List.listItems;refine zb (wpAny_seqItems a S (ze ?_));show A7 _ _ (updateSeq s.heap.objs.size (λ_=>#[]) >>= λ_=>letGo (#[]:Array A0).toList.reverse >>= λ_=>Builtin.List.listExtendWith (.ref s.heap.objs.size) (.ref d) .none) _ _ _;refine zb (wpAny_updateSeq a S ?_);have y:=k7 (Obj.mapSeq (λ_=>(#[]:Array A0))) a rfl;have m:∀b o,b≠s.heap.objs.size->H.get? b=U o->(H.update s.heap.objs.size (Obj.mapSeq (λ_=>(#[]:Array A0)))).get? b=U o:=
  λb o hb e=>(Heap.get?_update_other _ _ (KO hb)).trans e
 refine zb (wpAny_letGo ?_);refine Rx (A:=A.in1) p hd (h.at' λo e=>m d o (zS n) e) C s.heap.objs.size (zS n) .none _ y λh' tk c f u q z=>?_;exact⟨rfl,t h' tk c f (λb o e=>u b o (zS (zz e)) (m b o (zS (zz e)) (by rw[<-D];exact zd _ e))) q z⟩
theorem bu{P:Nat->A0->Prop}(val:Nat->AJ)(a:∀i v,P i v->∃t,v=.str (val i) t):CmpOf prog w A .Lt P (λi j=>decide ((val i).cps.toList<(val j).cps.toList)):=λi j b d s Q E hi c h=>by
 obtain⟨t,rfl⟩:=a i b hi;obtain⟨u,rfl⟩:=a j d c;exact richCompare_gives (op:=.Lt) (typeIs_str s _ t) (typeIs_str s _ u) F.slot_str_lt F.entry_str_lt (F.args_str_lt_2 _ _) (gives_str_lt _ _ t u) (λx=>nomatch x) h
def two(a b:AJ)(i:Nat):AJ:=if i=0 then a else b
theorem Ya{a b:AJ}{t u:Tok}(i:Nat)(v:A0)(h:(#[Value.str a t,Value.str b u])[i]?=U v):∃t',v=.str (two a b i) t':=by
 match i,h with
 |0,h=>cases h;exact⟨t,rfl⟩
 |1,h=>cases h;exact⟨u,rfl⟩
 |_+2,h=>simp at h
theorem TR{a b:AJ}{t u:Tok}{Q:BA}{d:Nat->Nat->Bool}(x:A.handled=Y)(f:CmpOf prog w A.in1 op (λi v=>(#[Value.str a t,Value.str b u])[i]?=U v) d)(h:∀h' tk,(∀c o,s.heap.get? c=U o->h'.get? c=U o)->Q (if d 1 0=true then .str b u else .str a t) { s with heap:=h',toks:=tk }):
  A7 (A8 prog w) A.in1 (pyIter (.ref s.heap.objs.size)) (λit l=>∃I fp wr n P St d,it=.ref I/\Walks prog w A.in1 I fp wr n P St/\St 0 l.heap/\(∀b∈fp,b<l.heap.objs.size)/\0<n/\CmpOf prog w A.in1 op P d ∧
   ∀v h' tk,P (argBest d (n-1)) v->(∀b o,b∉wr->l.heap.get? b=U o->h'.get? b=U o)->Q v { l with heap:=h',toks:=tk }) E
   { s with heap:=s.heap.push { cls:=.type "tuple",data:=.seq #[.str a t,.str b u] } }:=by
 have p:(s.heap.push { cls:=.type "tuple",data:=.seq #[.str a t,.str b u] }).IsTuple s.heap.objs.size #[.str a t,.str b u]:=⟨_,zv _ rfl,rfl,0,rfl⟩;refine wpAny_pyIter_tuple p ?_;have j:(s.heap.push { cls:=.type "tuple",data:=.seq #[.str a t,.str b u] }).objs.size=s.heap.objs.size+1:=qq ..;refine⟨_,[_,s.heap.objs.size],[_],_,_,_,d,rfl,Walks.tuple (A:=A.in1) x _ s.heap.objs.size (by rw[j];exact zS (qf _)) #[.str a t,.str b u],
  ⟨⟨_,zv _ rfl,rfl,rfl⟩,p.push _⟩,λc f=>?_,by simp,f,λv h' tk B z=>?_⟩
 ·show c<((s.heap.push _).push _).objs.size;rw[qq,j];rcases List.mem_cons.mp f with rfl|f
  ·rw[j];exact qf _
  ·rcases List.mem_cons.mp f with rfl|f
   ·exact Qr (qf _)
   ·cases f
 ·have hold:∀c o,s.heap.get? c=U o->h'.get? c=U o:=λc o e=>by
   refine z c o (λm=>?_) (zd _ (zd _ e));rcases List.mem_cons.mp m with e1|m
   ·have:=zz e;rw[e1,j]at this;exact JA _ (Nat.lt_of_succ_lt this)
   ·cases m
  have:=h h' tk hold;have y:v=if d 1 0=true then Value.str b u else Value.str a t:=by
   have g:(#[Value.str a t,Value.str b u])[argBest d 1]?=U v:=B;unfold argBest argBest at g;by_cases q:d 1 0=true
   ·rw[zk q]at g ⊢;exact(by simpa using g.symm)
   ·rw[zw q]at g ⊢;exact(by simpa using g.symm)
  rw[y];exact this
def Ig:Z Bx->O Bx
 |[.z (.str a),.z (.str b)]=>U (.z (.str (if ag2 b a=true then b else a)))
 |_=>Y
where ag2 (x y:AJ):Bool:=decide (x.cps.toList<y.cps.toList)
theorem dA(g:X.calm=true):uf X (.builtin "min") Ig:=by
 intro AN s σ H xs us Q I r h;obtain⟨bs,c,j,e,q⟩:=h;unfold Ig at e;split at e
 ·rename_i a b;cases e;obtain⟨v,w,rfl,d,f⟩:=IJ j;obtain⟨rfl,h1⟩:=Yj d;obtain⟨rfl,h2⟩:=Yj f;obtain⟨u,n,rfl,i,l⟩:=AX.two r;obtain⟨t,rfl⟩:=i;obtain⟨m,rfl⟩:=l;refine call_min_two (TR (I.ok.hd g) (bu (two a b) Ya) λh' tk kp=>?_);show EP X AN σ Q (if Ig.ag2 b a=true then _ else _) _;by_cases hb:Ig.ag2 b a=true
  ·rw[zk hb]at q ⊢;exact⟨.str b,H,I.kept kp,⟨_,rfl⟩,q _ H (AV.refl H) trivial f⟩
  ·rw[zw hb]at q ⊢;exact⟨.str a,H,I.kept kp,⟨_,rfl⟩,q _ H (AV.refl H) trivial d⟩
 ·cases e
def Ih:Z Bx->O Bx
 |[.n AO]=>(Yo AO).bind λys=>U (.o (ys.map Dt.str))
 |_=>Y
theorem RU(l:X.calm=true):uf X (.type "list") Ih:=by
 intro AN s σ H xs us Q I r h;obtain⟨bs,c,E,e,q⟩:=h;unfold Ih at e;split at e
 ·rename_i AO;obtain⟨ys,b,e⟩:=AT e;cases e;have D:AO.length=ys.length:=by have:=congrArg List.length (yj b);simpa using this
  obtain⟨v,rfl,w⟩:=BS E;obtain⟨a,ks,rfl,B,d⟩:=w;obtain⟨u,rfl,A⟩:=BE r;cases A;obtain⟨t,x,vs,g,o,es,ep,n⟩:=vY I.hok B;have m:vs.map (·.1)=ys.map Sum.inr:=by rw[Wt g,d.1];exact yj b
  have F:ks.length=vs.length:=g.length;refine Ie (I.ok.hd l) x ⟨o,es,n⟩ (by omega) λh' tk i z ext j p=>?_;have z1:=Us m p;have C:∀y∈ys,y.length<=AA:=SE b d.2.2;have f:=I.hok.fresh (zo s.heap.objs.size);refine⟨.ref s.heap.objs.size,_,I.laid (t':=tk) (a:=s.heap.objs.size) (o:=.lst (ys.map V.str)) ext (zo _) ?_,rfl,q _ _ (cG f) (λa ea=>by cases ea;exact f) ⟨_,_,rfl,bV,Hy C⟩⟩;refine⟨by rw[zh,<-D,<-d.len];exact t,i.toList,z,Dl z1,?_⟩;rw[j]
 ·cases e
def CF(H:Hp)(a:A1):Hp:=λb=>if b=a then Y else H b
theorem WX{b:A1}(h:b≠a):CF H a b=H b:=zw h
theorem WY:CF H a a=Y:=zk rfl
def Db:Bx->Bool
 |.z _=>true
 |_=>false
def FI(K:B1)(n:Nat)(G:A1->Z (AY×Dt)->Z Bx->O (Z (AY×Dt))):Sp:=λvs H Q _=>vs.length=n+1/\∃a ks AO AS bs b,vs=.ref a::AS/\H a=U (.dK ks)/\fQ K H AO ks/\ud K H bs AS/\bs.all Db=true/\G a AO bs=U b/\∀H' c,AV (CF H a) H'->H' a=U (.dK c)->fQ K H' b c->Q .non H'
def Ry(n:Nat)(g:Ev->O As):A1->Z (AY×Dt)->Z Bx->O (Z (AY×Dt)):=λa AO bs=>(g ((Bx.m AO (U a)::bs).map U++List.replicate (n-(bs.length+1)) Y)).bind λr=>match r with
 |.nx ρ=>match ρ[0]? with
  |some (U (Bx.m kvs' (U b)))=>if b=a then U kvs' else Y
  |_=>Y
 |_=>Y
theorem U6{c:Z (AY×Dt)}{bs:Z Bx}(h:Ry n g a AO bs=U c):∃ ρ,g ((Bx.m AO (U a)::bs).map U++List.replicate (n-(bs.length+1)) Y)=U (.nx ρ)/\ρ[0]?=U (U (.m c (U a))):=by
 obtain⟨r,er,h⟩:=AT h;cases r with
 |nx ρ=>
  dsimp only at h;split at h
  ·rename_i k b e;split at h
   ·rename_i hb;cases h;subst hb;exact⟨ρ,er,e⟩
   ·cases h
  ·cases h
 |rt _=>cases h
 |bk _=>cases h
 |ct _=>cases h
theorem Ii{α β:Type}{R:α->β->Prop}:∀{xs:Z α} {ys:Z β},AI R xs ys->∀{i:Nat} {x:α},xs[i]?=U x->∃y,ys[i]?=U y/\R x y
 |_,_,.nil,i,x,q=>by simp at q
 |_,_,.cons r _,0,x,q=>by simp at q;subst q;exact⟨_,rfl,r⟩
 |_,_,.cons _ t,i+1,x,q=>by
  rw[Z3]at q;obtain⟨y,y1,y2⟩:=Ii t q;exact⟨y,by rw[Z3];exact y1,y2⟩
theorem bZ.startM{bs:Z Bx}{AS:Z V}{ks:Z (AY×V)}(ha:H a=U (.dK ks))(s:fQ K H AO ks)(r:ud K H bs AS)(u:bs.all Db=true):bZ K (CF H a) H (L2.start N (.ref a::AS)) ((Bx.m AO (U a)::bs).map U++List.replicate (N.length-(bs.length+1)) Y):=by
 have t:bs.length=AS.length:=Paired.length r;have p:ud K H (.m AO (U a)::bs) (.ref a::AS):=.cons ⟨a,ks,rfl,ha,s,λb h=>by cases h;rfl⟩ r;have get:∀(i:Nat) b,((Bx.m AO (U a)::bs).map U++List.replicate (N.length-(bs.length+1)) Y)[i]?=U (U b)->(Bx.m AO (U a)::bs)[i]?=U b:=λi b e=>by
  by_cases hi:i<(Bx.m AO (U a)::bs).length
  ·rw[ZO (by simpa using hi),Zp]at e;cases q:(Bx.m AO (U a)::bs)[i]? with
   |none=>rw[q]at e;cases e
   |some w=>rw[q]at e;simpa using e
  ·rw[qr (by simp at hi ⊢;omega),QO]at e;split at e<;>cases e
 have n:∀(i:Nat) b,((Bx.m AO (U a)::bs).map U++List.replicate (N.length-(bs.length+1)) Y)[i]?=U (U b)->i≠0->loose b=false:=λi b e hi=>by
  have e2:=get i b e;cases i with
  |zero=>exact absurd S hi
  |succ j=>
   rw[Z3]at e2;have:=List.all_eq_true.mp u b (QE e2);cases b<;>first|rfl|cases this
 have g:∀c,wF c=true->loose c=true:=λc d=>by cases c<;>first|rfl|cases d
 have zero:∀(i:Nat) c,((Bx.m AO (U a)::bs).map U++List.replicate (N.length-(bs.length+1)) Y)[i]?=U (U c)->loose c=true->i=0:=λi c e d=>by
  by_cases hi:i=0
  ·exact hi
  ·rw[n i c e hi]at d;cases d
 have st:∀i v,(Value.ref a=Value.ref a)->(V.ref a::AS)[i]?=U v->(L2.start N (.ref a::AS))[i]?=U (U v):=λi v _ e=>by
  have hi:i<(V.ref a::AS).length:=(List.getElem?_eq_some_iff.mp e).1;unfold L2.start;rw[ZO (by simpa using hi),Zp,e];rfl
 refine⟨by unfold L2.start;simp[t],λi b e=>?_,λi j c x b e1 f _ e3 hb _=>?_,λb o e=>?_,λi c x e f e2=>?_⟩
 ·obtain⟨v,e1,l⟩:=Ii p (get i b e);exact⟨v,st i v S e1,l⟩
 ·rw[zero i c e1 (g c f),zero j b e3 hb]
 ·by_cases hb:b=a
  ·subst hb;rw[WY]at e;cases e
  ·rw[WX hb]at e;exact e
 ·have hi:=zero i c e (g c f);subst hi;rw[st 0 (.ref a) S rfl]at e2;cases e2;exact WY
theorem XY{st:AB}{f:A1}{k m:Nat}(F:Cs K x qual st f fd)(S:bx N ps (aK st))(z:N.length=n)(p:ps.length=m+1)(l:∀(c:A0) (A:A5) (outer:Z Env) (s:A2) (H:Hp) (E:XK),nR k (A.deeper (AK qual (aK st) s.heap.objs.size f c))->Yc (G7 Nt P w K mg base N qual (aK st) f c A outer s H E).nox (jz st) g):
  wM P w K mg base Nt (k+1) f fd ps (FI K m (Ry n g)):=by
 subst z;refine F.ok S (λvs H Q E h=>by rw[p];exact h.1) λc A outer s H vs Q E o h=>?_;obtain⟨D,a,ks,AO,AS,bs,C,rfl,ha,t,y,u,e,q⟩:=h;refine⟨_,(l c A outer s H E o).run,?_⟩;obtain⟨ρ,er,e0⟩:=U6 e;refine⟨CF H a,_,_,bZ.startM ha t y u,er,?_⟩;intro σ' H' d;obtain⟨v,ev,b,B,rfl,hb,j,i⟩:=d.val 0 _ e0;have:=i a rfl;subst this;exact q H' B d.base hb j
open Classical in
noncomputable def Em(i n:Nat)(G:A1->Z (AY×Dt)->Z Bx->O (Z (AY×Dt)))(fs:Ev->O (Z Bx)):Ev->O As:=λρ=>match ρ[i]? with
 |some (U (.m AO w))=>(fs ρ).bind λbs=>if h:bs.length=n/\bs.all Db=true/\∃b,∀a,G a AO bs=U b then U (.nx (ρ.set i (U (.m (Classical.choose h.2.2) w))))else Y
 |_=>Y
theorem U7{fs:Ev->O (Z Bx)}{r:As}(h:Em i n G fs ρ=U r):∃AO w bs c,ρ[i]?=U (U (.m AO w))/\fs ρ=U bs/\bs.length=n/\bs.all Db=true/\(∀a,G a AO bs=U c)/\r=.nx (ρ.set i (U (.m c w))):=by
 unfold Em at h;split at h
 ·rename_i AO w e;obtain⟨bs,eb,h⟩:=AT h;split at h
  ·rename_i b;cases h;exact⟨AO,w,bs,_,e,eb,b.1,b.2.1,Classical.choose_spec b.2.2,rfl⟩
  ·cases h
 ·cases h
theorem bz{fs:Ev->O (Z Bx)}{b:Z (AY×Dt)}{w:O A1}{bs:Z Bx}(e:ρ[i]?=U (U (.m AO w)))(eb:fs ρ=U bs)(g:bs.length=n)(h:bs.all Db=true)(d:∀a,G a AO bs=U b):Em i n G fs ρ=U (.nx (ρ.set i (U (.m b w)))):=by
 unfold Em;rw[e];simp only[eb,alj];have c:bs.length=n/\bs.all Db=true/\∃b,∀a,G a AO bs=U b:=⟨g,h,b,d⟩;rw[dif_pos c];have:=Classical.choose_spec c.2.2 0;rw[d 0]at this;injection this with this;rw[<-this]
where alj {α β:Type} (a:α) (f:α->O β):(U a).bind f=f a:=rfl
theorem bZ.ajm{H':Hp}{D:Z (AY×Dt)}{w:O A1}{ks G:Z (AY×V)}(E:bZ K H0 H σ ρ)(h:ρ[i]?=U (U (.m AO w)))(hs:σ[i]?=U (U (.ref a)))(ha:H a=U (.dK ks))(L:AV (CF H a) H')(N:H' a=U (.dK G))(X:fQ K H' D G)(W:∀b,w=U b->b=a):
  bZ K H0 H' σ (ρ.set i (U (.m D w))):=by
 have hi:i<ρ.length:=(List.getElem?_eq_some_iff.mp h).1;have hb:H0 a=Y:=E.new i _ a h S hs;have g:∀b u,b≠a->H b=U u->H' b=U u:=λb u C e=>L b u (by rw[WX C];exact e);have kp:Kp H H':=⟨λb xs e=>g b _ (pG e ha (by intro z;cases z)) e,λb ob u e=>g b _ (pG e ha (by intro z;cases z)) e⟩;refine⟨by rw[kq];exact E.len,λj B e=>?_,λj J c f B e1 I e2 e3 M e5=>?_,λc o e=>?_,λj c f e1 I e2=>?_⟩
 ·rcases BB e with⟨rfl,e',_⟩|⟨C,e'⟩
  ·cases e';exact⟨_,hs,a,G,rfl,N,X,W⟩
  ·obtain⟨v,e1,y⟩:=E.val j B e';refine⟨v,e1,?_⟩;have A:∀f,v=.ref f->loose B=true->f≠a:=λf ev hl z=>by
    subst z;exact C (E.own i j _ _ _ h S hs e' hl (by rw[e1,ev])).symm
   cases B with
   |z d=>exact AW.kp kp y
   |l F=>
    obtain⟨f,s,rfl,q,p⟩:=y;have x:=A f S rfl;exact⟨f,s,rfl,q.imp (g _ _ x) λ⟨o,q⟩=>⟨o,g _ _ x q⟩,p.kp kp⟩
   |o F=>
    obtain⟨f,s,rfl,q,p⟩:=y;exact⟨f,s,rfl,g _ _ (A f S S) q,p.kp kp⟩
   |n F=>
    obtain⟨f,s,rfl,q,p⟩:=y;have x:=A f S rfl;exact⟨f,s,rfl,q.imp (g _ _ x) λ⟨o,q⟩=>⟨o,g _ _ x q⟩,p.kp kp⟩
   |m F _=>
    obtain⟨f,s,rfl,q,p,P⟩:=y;exact⟨f,s,rfl,g _ _ (A f S S) q,p.kp kp,P⟩
 ·have back:∀{j:Nat} {c:Bx},(ρ.set i (U (.m D w)))[j]?=U (U c)->∃t,ρ[j]?=U (U t)/\(wF c=true->wF t=true)/\(loose c=true->loose t=true):=λ{j c} e=>by
   rcases BB e with⟨rfl,e',_⟩|⟨_,e'⟩
   ·exact⟨_,h,λ_=>S,λ_=>S⟩
   ·exact⟨c,e',id,id⟩
  obtain⟨t,p1,p2,_⟩:=back e1;obtain⟨b2,q1,_,Q⟩:=back e3;exact E.own j J t f b2 p1 (p2 I) e2 q1 (Q M) e5
 ·have e2:=E.base c o e;exact g c o (λz=>by subst z;rw[hb]at e;cases e) e2
 ·rcases BB e1 with⟨rfl,e',_⟩|⟨_,e'⟩
  ·exact E.new _ _ f h S e2
  ·exact E.new j c f e' I e2
section
variable{fs:Ev->O (Z Bx)}{p px spos:Pos}{k:Nat}{f:A1}
theorem W0(i:Nat)(F:wM X.prog X.w X.K X.mg X.base Nt k f fd ps (FI X.K n G))(M:nR k X.A)(hg:Gl X x)(I:X.mg x=U (.ref f))(m:keepIn X.K (.ref f)=true)(hb:BT X.K fd ps [])
  (ha:Zu X es fs) (o:X.N[i]?=U y:=by rfl) (j:Zq X.env.scope y:=by first|exact kb rfl|exact Q4 (kb S)|exact Q4 (Q4 S)) (hd:(y==("__debug__":AJ))=false:=by decide)
  (C:(y==("__classdict__":AJ))=false:=by decide) (s:(x==("__debug__":AJ))=false:=by decide) (he:A9 (.Name y px::es) X.env=(false,eval (.Name y px) X.env)::A9 es X.env:=by rfl) (z:(AD pos (A9 es X.env)).any (·.1)=false:=by rfl) (hs:swapsWith (.Call (.Name x p) (.Name y px::es) [] pos) Y spos.line X.env=pure false:=by rfl):
  Qz X (.Expr (.Call (.Name x p) (.Name y px::es) [] pos) spos) (Em i n G fs):=⟨Wd (Ng (V7 F M hg I m hb .nil NY (gP (wI (i:=i) o j hd C) ha.run he) s he z) hs) λD σ H h=>by
 obtain⟨H0,ρ,r,E,e,q⟩:=h;obtain⟨AO,w,bs,t,g,eb,Q,u,P,rfl⟩:=U7 e;obtain⟨v,e1,a,ks,rfl,a0,W,J⟩:=E.val i _ g;refine⟨_,e1,H0,ρ,bs,E,eb,λvs H1 b d=>?_⟩;have c:=b _ _ a0;refine⟨by simp only[ZT,ZZ];rw[<-Paired.length d,Q],a,ks,AO,vs,bs,t,by simp,c,W.kp (.of b),d,u,P a,λH' a1 l B L=>?_⟩;exact q σ H' ((E.grow b).ajm g e1 c l B L J)⟩
end
def DH:O Bool->Bool
 |some true=>true
 |_=>false
def YK(x:Dt)(ys:Z Dt):O Bool:=if(ys.all λy=>(Cz y x).isSome&&decide (min (yh y) (yh x)<=60))=true then U (ys.any λy=>DH (Cz y x))else Y
def DF(a b:Bx):O Bx:=match a with
 |.z d=>(uo b).bind λys=>(YK d ys).bind λk=>U (.z (.bl k))
 |_=>Y
def FT(a b:Bx):O Bx:=match a with
 |.z d=>(uo b).bind λys=>(YK d ys).bind λk=>U (.z (.bl (!k)))
 |_=>Y
theorem Om(I:L2.AU X AN σ H s)(J:X.A.units+100<cLine){x:V}(w:AW X.K H d x)(C:Au x u){ys:Z Dt}(rs:aO X.K H ys vs)(m:AX vs AQ){k:Bool}(a:YK d ys=U k):
  ∃e:A0->Bool,(∀y,y∈AQ->SeqAt.EqAt X.A.in1 s y u (e y))/\AQ.any e=k:=by
 unfold YK at a;split at a
 ·rename_i p;injection a with a;rw[qh]at p;have at_:∀(i:Nat) y,AQ[i]?=U y->∃c,ys[i]?=U c/\SeqAt.EqAt X.A.in1 s y u (DH (Cz c d)):=λi y l=>by
   have E:=m.length;have B:=rs.length;have hi:i<AQ.length:=(List.getElem?_eq_some_iff.mp l).1;have f:i<ys.length:=by omega
   obtain⟨v,ev,z⟩:=rs.get (show ys[i]?=U ys[i] by simp[f]);obtain⟨F,o,t⟩:=m.get ev;rw[l]at o;cases o;refine⟨ys[i],by simp[f],?_⟩;have g:=p ys[i] (yf f);rw[ZY]at g;obtain⟨b,hb⟩:=Option.isSome_iff_exists.mp g.1;have:=L9 I 60 (A:=X.A.in1) (QN g.2) (by rw[units_in1];omega) z w t C hb;rw[hb];cases b<;>exact this
  classical
  refine⟨λy=>decide (∃(i:Nat) (c:Dt),AQ[i]?=U y/\ys[i]?=U c/\DH (Cz c d)=true),λy l=>?_,?_⟩
  ·dsimp only;by_cases q:∃(i:Nat) (c:Dt),AQ[i]?=U y/\ys[i]?=U c/\DH (Cz c d)=true
   ·rw[Zs q];obtain⟨i,c,h1,h2,j⟩:=q;obtain⟨G,e1,e2⟩:=at_ i y h1;rw[h2]at e1;cases e1;rw[j]at e2;exact e2
   ·rw[z5 q];obtain⟨i,hi,n⟩:=js l;have h1:AQ[i]?=U y:=by rw[z4 hi,n]
    obtain⟨c,e1,e2⟩:=at_ i y h1;have:DH (Cz c d)=false:=by
     cases D:DH (Cz c d)with
     |false=>rfl
     |true=>exact absurd ⟨i,c,h1,e1,D⟩ q
    rw[this]at e2;exact e2
  ·rw[<-a,JU,JI,JI];constructor
   ·rintro⟨y,l,h⟩;obtain⟨i,c,h1,h2,j⟩:=QN h;exact⟨c,QE h2,j⟩
   ·rintro⟨c,g,j⟩;obtain⟨i,hi,n⟩:=js g;have E:=m.length;have B:=rs.length;have f:i<AQ.length:=by omega
    exact⟨AQ[i],yf f,Zs ⟨i,c,by simp[f],by rw[z4 hi,n],j⟩⟩
 ·cases a
theorem Oo(m:X.A.units+100<cLine):Fv X (AG .In) DF:=by
 intro AN s σ H x y v u Q I j z h;obtain⟨a,b,c,l,n,e,q⟩:=h;unfold DF at e;split at e
 ·rename_i d;obtain⟨ys,t,e⟩:=AT e;obtain⟨k,ek,e⟩:=AT e;cases e;obtain⟨p,vs,rfl,sq,rs⟩:=GF n t;cases z;rcases sq with sq|sq
  ·obtain⟨AQ,i,pl,o⟩:=I.list sq;obtain⟨f,f1,f2⟩:=Om I m l j rs i ek;refine SeqAt.in_listAt f pl.isList (λw g=>f1 w (by simpa using g)) ⟨.bl k,H,I,by rw[show AQ.toArray.any f=AQ.any f by simp,f2];rfl,q _ H (AV.refl H) trivial (by simp only[aX,AW])⟩
  ·obtain⟨AQ,i,pl,o⟩:=I.tuple sq;obtain⟨f,f1,f2⟩:=Om I m l j rs i ek;refine SeqAt.in_tupleAt f pl (λw g=>f1 w (by simpa using g)) ⟨.bl k,H,I,by rw[show AQ.toArray.any f=AQ.any f by simp,f2];rfl,q _ H (AV.refl H) trivial (by simp only[aX,AW])⟩
 ·cases e
theorem yr(m:X.A.units+100<cLine):Fv X (AG .NotIn) FT:=by
 intro AN s σ H x y v u Q I j z h;obtain⟨a,b,c,l,n,e,q⟩:=h;unfold FT at e;split at e
 ·rename_i d;obtain⟨ys,t,e⟩:=AT e;obtain⟨k,ek,e⟩:=AT e;cases e;obtain⟨p,vs,rfl,sq,rs⟩:=GF n t;cases z;rcases sq with sq|sq
  ·obtain⟨AQ,i,pl,o⟩:=I.list sq;obtain⟨f,f1,f2⟩:=Om I m l j rs i ek;refine SeqAt.notIn_listAt f pl.isList (λw g=>f1 w (by simpa using g)) ⟨.bl (!k),H,I,by rw[show AQ.toArray.any f=AQ.any f by simp,f2];rfl,q _ H (AV.refl H) trivial (by simp only[aX,AW])⟩
  ·obtain⟨AQ,i,pl,o⟩:=I.tuple sq;obtain⟨f,f1,f2⟩:=Om I m l j rs i ek;refine SeqAt.notIn_tupleAt f pl (λw g=>f1 w (by simpa using g)) ⟨.bl (!k),H,I,by rw[show AQ.toArray.any f=AQ.any f by simp,f2];rfl,q _ H (AV.refl H) trivial (by simp only[aX,AW])⟩
 ·cases e
section
variable{st:Z AB}
end
open AutoSeq1 (wpAny_loadPart')
open SeqAt
section
variable{o:Expr}{fx:Ev->O Bx}
end
section
variable{t:Ev->O Bool}
def YL(t:Ev->O Bool)(g:Ev->O As):Nat->Ev->O As
 |0,_=>Y
 |n+1,ρ=>(t ρ).bind λb=>if b=true then(g ρ).bind λr=>match r with
  |.nx ρ'=>YL t g n ρ'
  |.ct ρ'=>YL t g n ρ'
  |.bk ρ'=>U (.nx ρ')
  |.rt b=>U (.rt b)
  else U (.nx ρ)
theorem Sj(n:Nat)(hp:PassesOwn (A8 X.prog X.w) X.A X.env X.xe)(l:PB X c t)(hb:Zr X body g):IL X (.While c body [] pos) (YL t g n):=
 Wd (ZM hp l hb) λD σ H q=>by
  obtain⟨H0,ρ,r,E,e,f⟩:=q;refine⟨λm σ H=>∃H0 ρ r,bZ X.K H0 H σ ρ/\YL t g m ρ=U r/\Ub X.K H0 D r,⟨n,H0,ρ,r,E,e,f⟩,?_⟩;rintro m σ H ⟨H0,ρ,r,E,e,f⟩;cases m with
  |zero=>cases e
  |succ m=>
   obtain⟨b,eb,e⟩:=AT e;refine⟨H0,ρ,b,E,eb,λH1 h=>?_⟩;cases b with
   |false=>
    rw[zw (by decide)]at e ⊢;cases e;exact f σ H1 (E.grow h)
   |true=>
    rw[zk rfl]at e ⊢;obtain⟨j,er,e⟩:=AT e;refine⟨λσ' H'=>∃i,i<m+1/\∃H0 ρ r,bZ X.K H0 H' σ' ρ/\YL t g i ρ=U r/\Ub X.K H0 D r,λσ' H' z=>z,H0,ρ,j,E.grow h,er,?_⟩;cases j with
    |nx d=>exact λσ' H' a=>⟨m,qf m,H0,d,r,a,e,f⟩
    |ct d=>exact λσ' H' a=>⟨m,qf m,H0,d,r,a,e,f⟩
    |bk d=>cases e;exact λσ' H' a=>f σ' H' a
    |rt b=>cases e;exact f
theorem Rz(n:Nat)(hp:PassesOwn (A8 X.prog X.w) X.A X.env X.xe)(a:QB X c t)(hb:Yc X body g):Qz X (.While c body [] pos) (YL t g n):=⟨Sj n hp a.run hb.run⟩
end
section
variable{h':A6}
end
section
variable{p:Pos}{fs:Ev->O (Z Bx)}
end
def FC(j i:Nat)(f:Ev->O Bx):Ev->O As:=λρ=>(f ρ).bind λb=>match b with
 |.z (.int k)=>match ρ[i]? with
  |some (U (.o ds))=>if -(2 ^ 62)<=k/\k<2 ^ 62 then(seqIndex? k ds.length).bind λm=>(ds[m]?).bind λd=>(Yd (ρ.set i (U (.o (ds.eraseIdx m)))) j (.z d)).bind λa=>U (.nx a)else Y
  |_=>Y
 |_=>Y
theorem Ij{K:B1}{H:Hp}:∀(m:Nat) {ds:Z Dt} {vs:Z V},aO K H ds vs->aO K H (ds.eraseIdx m) (vs.eraseIdx m)
 |m,[],vs,h=>by
  cases vs with
  |nil=>exact h
  |cons v vs=>have:=h.length;simp at this
 |m,d::ds,vs,h=>by
  cases vs with
  |nil=>have:=h.length;simp at this
  |cons v vs=>
   obtain⟨a,r,e,q,t⟩:∃a r,v::vs=a::r/\AW K H d a/\aO K H ds r:=by
    simpa only[aO]using h
   cases e;cases m with
   |zero=>exact t
   |succ m=>exact aO.cons q (Ij m t)
theorem OW(j i:Nat){p:Pos}(J:X.N.Nodup)(he:PV X e f)(G:X.N[i]?=U x:=by rfl)(s:Zq X.env.scope x:=by first|exact kb rfl|exact Q4 (kb S)|exact Q4 (Q4 S))(hd:(x==("__debug__":AJ))=false:=by decide)(M:(x==("__classdict__":AJ))=false:=by decide)(l:A9 [e] X.env=[(false,eval e X.env)]:=by rfl)(a2:attributeBase (.Name x p) "pop" X.env (eval (.Name x p) X.env)=eval (.Name x p) X.env:=by rfl)(C:((AD cpos (A9 [e] X.env)).all (λx=>!x.1)&&(backToKw cpos (keywordEach [] X.env)).all (λx=>x.1.isSome)
   && decide ([e].length+([]:Z AC).length+(if([]:Z AC).isEmpty then 0 else 1)<30))=true:=by rfl)(K:(apos.endLine==cpos.line)=true:=by rfl)(I:X.N[j]?=U y:=by rfl)(Q:DE X.env.scope y:=by first|exact kb rfl|exact Q4 S)(hs:swapsWith (.Call (.Attribute (.Name x p) "pop" apos) [e] [] cpos) (U (.Name y p2)) pos.line X.env=pure false:=by rfl)(P:X.fn y=true\/X.env.scope.names.lookup y=U .local:=by first|exact .inl rfl|exact .inr S):
  IL X (.Assign [.Name y p2] (.Call (.Attribute (.Name x p) "pop" apos) [e] [] cpos) pos) (FC j i f):=
 Wd (ZL J I Q (Z5 PySem.F.plainAttrs_list PySem.F.slot_list_pop PySem.F.type_list_pop Z7 (wI (i:=i) G s hd M) (gP he tL (by rw[l]<;>rfl)) a2 C K (by rw[l]<;>rfl) S) hs P) λD σ H h=>by
  obtain⟨H0,ρ,r,E,e,q⟩:=h;obtain⟨b,eb,e⟩:=AT e;split at e
  ·rename_i k;split at e
   ·rename_i ds o;split at e
    ·rename_i hb;obtain⟨m,B,e⟩:=AT e;obtain⟨d,ed,e⟩:=AT e;obtain⟨a3,a0,e⟩:=AT e;cases e;obtain⟨v,e1,a,vs,rfl,ha,rs⟩:=E.val i _ o;refine⟨_,e1,.inl ⟨rfl,vs,.inl (.inl ha)⟩,H0,ρ,_,E,eb,λu H1 g n1 L=>?_⟩;have E1:=E.grow g;have n:=rs.kp (.of g);obtain⟨w,t,a1⟩:=n.get ed;have W:u=.int k:=by simpa only[aX,AW]using L
     subst W;have c:=g _ _ ha;refine⟨a,vs,k,m,w,rfl,rfl,c,by omega,by omega,by rw[rs.length];exact B,t,?_⟩;have A:=E1.Z6 o e1 c (Ij m n);have kp:Kp H1 (B6 H1 a (.lst (vs.eraseIdx m))):=.lst c;exact q _ _ (Wg A (AV.refl _) (b:=.z d) (by simp only[aX];exact AW.kp kp a1) trivial a0)
    ·cases e
   ·cases e
  ·cases e
theorem RS(j i:Nat){p:Pos}(m:X.N.Nodup)(he:QV X e f)(d:X.N[i]?=U x:=by rfl)(c:Zq X.env.scope x:=by first|exact kb rfl|exact Q4 (kb S)|exact Q4 (Q4 S))(hd:(x==("__debug__":AJ))=false:=by decide)(g:(x==("__classdict__":AJ))=false:=by decide)(a:A9 [e] X.env=[(false,eval e X.env)]:=by rfl)(o:attributeBase (.Name x p) "pop" X.env (eval (.Name x p) X.env)=eval (.Name x p) X.env:=by rfl)(b:((AD cpos (A9 [e] X.env)).all (λx=>!x.1)&&(backToKw cpos (keywordEach [] X.env)).all (λx=>x.1.isSome)
   && decide ([e].length+([]:Z AC).length+(if([]:Z AC).isEmpty then 0 else 1)<30))=true:=by rfl)(q:(apos.endLine==cpos.line)=true:=by rfl)(l:X.N[j]?=U y:=by rfl)(n:DE X.env.scope y:=by first|exact kb rfl|exact Q4 S)(hs:swapsWith (.Call (.Attribute (.Name x p) "pop" apos) [e] [] cpos) (U (.Name y p2)) pos.line X.env=pure false:=by rfl)(h:X.fn y=true\/X.env.scope.names.lookup y=U .local:=by first|exact .inl rfl|exact .inr S):
  Qz X (.Assign [.Name y p2] (.Call (.Attribute (.Name x p) "pop" apos) [e] [] cpos) pos) (FC j i f):=
 ⟨OW j i m he.run d c hd g a o b q l n hs h⟩
section
variable{ek ev:Expr}{st:AB}
def GT:Ev->O As:=λ_=>Y
theorem W2:Qz X st GT:=⟨λD AN s σ H I q=>by
 obtain⟨H0,ρ,r,E,e,q⟩:=q;cases e⟩
def Mf(f:Ev->O Bx):Ev->O As:=λρ=>(f ρ).bind λ_=>U (.nx ρ)
theorem Oq(he:QV X e f)(hs:swapsWith e Y pos.line X.env=pure false:=by rfl):Qz X (.Expr e pos) (Mf f):=⟨Wd (Ng he.run hs) λD σ H h=>by
 obtain⟨H0,ρ,r,E,e,q⟩:=h;obtain⟨b,eb,e⟩:=AT e;cases e;exact⟨H0,ρ,b,E,eb,λv H1 a c d=>q _ _ (E.grow a)⟩⟩
def Mg:Bx->Bx->O Bx
 |.z (.str x),.z d=>U (.m [(.inr x,d)] Y)
 |_,_=>Y
theorem U8{a c:Bx}(h:Mg a b=U c):∃x d,a=.z (.str x)/\b=.z d/\c=.m [(.inr x,d)] Y:=by
 unfold Mg at h;split at h
 ·cases h;exact⟨_,_,rfl,rfl,rfl⟩
 ·cases h
theorem bj(s:QV X ek fk)(n:QV X ev fv):QV X (.Dict [U ek] [ev] pos) (b2 Mg fk fv):=⟨Ft (WB (f' s.run n.run dy) S S (by simp) (zD S)) λσ H Q h=>by
 obtain⟨H0,ρ,c,E,e,q⟩:=h;obtain⟨a,ea,e⟩:=AT e;obtain⟨b,eb,e⟩:=AT e;intro p hp;have g:AV H (B6 H p (.dK [])):=cG hp;refine⟨H0,ρ,a,E.grow g,ea,λv H1 f u l=>⟨H0,ρ,b,(E.grow g).grow f,eb,λw H2 i y t=>?_⟩⟩;obtain⟨x,d,rfl,rfl,rfl⟩:=U8 e;obtain⟨rfl,hx⟩:v=.str x/\x.length<=AA:=by simpa only[aX,AW]using l
 have j:H2 p=U (.dK []):=i _ _ (f _ _ bV);have kp:Kp H2 (B6 H2 p (.dK (CP [] [(Sum.inr x,w)]))):=.dk j;refine⟨j,[(Sum.inr x,w)],rfl,zD rfl,q _ _ ?_ (λa ea=>by cases ea;exact hp) ⟨p,_,rfl,bV,?_,λb h=>by cases h⟩⟩
 ·intro b o hb;have m:b≠p:=λz=>by rw[z,hp]at hb;cases hb
  rw[aR m];exact i _ _ (f _ _ (g _ _ hb))
 ·exact fQ.cons (p:=(Sum.inr x,d)) (AW.kp kp t) hx fQ.nil⟩
def Fc(AO:Z (AY×α))(x:AY):Bool:=AO.any λa=>decide (a.1=x)
def YM(a:Bx):Bx->O Bx
 |.n AO=>(Co a).bind λx=>U (.z (.bl (!Fc AO x)))
 |_=>Y
theorem fQ.alk{p:A1}{ks:Z (AY×V)}(a:Rd H p (.dK ks))(b:fQ K H AO ks)(x:AY):∃o,Z9 H p (kV x) o/\o.isSome=Fc AO x:=by
 refine⟨CK ks x,.inl ⟨ks,x,a,rfl,rfl⟩,?_⟩;unfold Fc CK;rw[<-b.any,Option.isSome_map,JU,List.find?_isSome,JI]
theorem W3(t:X.A.units+100<cLine):Fv X (AG .NotIn) YM:=by
 intro AN s σ H x y v u Q I d n h;obtain⟨a,b,c,f,l,e,q⟩:=h;unfold YM at e;split at e
 ·rename_i AO;obtain⟨k,ek,e⟩:=AT e;cases e;obtain⟨p,ks,rfl,m,j⟩:=l;obtain⟨rfl,_⟩:=N8 ek f;cases n;obtain⟨o,g,ho⟩:=j.alk m k;exact g0 (by omega) I g d λs' i=>⟨.bl (!o.isSome),H,i,rfl,q _ H (AV.refl H) trivial (by simp only[aX,AW];rw[ho])⟩
 ·cases e
end
section
variable{st:Expr}{fs:Ev->O Bx}
def YQ(a b:Bx):O Bx:=(rG a).bind λds=>match b with
 |.z (.int i)=>if i = -1 then U (.o ds.reverse)else Y
 |_=>Y
theorem YS{a c:Bx}(h:YQ a b=U c):∃ds,rG a=U ds/\b=.z (.int (-1))/\c=.o ds.reverse:=by
 unfold YQ at h;obtain⟨ds,d,h'⟩:=AT h;clear h;split at h'
 ·split at h'
  ·rename_i hi;subst hi;injection h' with h';exact⟨ds,d,rfl,h'.symm⟩
  ·cases h'
 ·cases h'
theorem ael(he:QV X e f)(C:QV X st fs)(F:∀v i:A0,subscripted (.Slice Y Y (U st) p2) false v i=operate [v,i] (getItem v i):=by intro _ _;with_unfolding_all rfl):QV X (.Subscript e (.Slice Y Y (U st) p2) pos) (b2 YQ f fs):=by
 refine⟨?_⟩;intro AN s σ H Q I h;obtain⟨H0,ρ,c,E,g,q⟩:=h;obtain⟨a,ea,g⟩:=AT g;obtain⟨b,eb,g⟩:=AT g;refine Subscript_ (jc (he.run AN s σ H (λx H1=>AV H H1/\aX X.K H1 a x) I ⟨H0,ρ,a,E,ea,λv H1 l L j=>⟨l,j⟩⟩) λv l ⟨x,H1,I1,j,sm1,BS⟩=>?_);refine wpAny_Slice ?_;rw[evalPart_none];refine ze ?_;refine ze ?_;rw[evalPart_some];refine jc (C.run AN l σ H1 (λy H2=>AV H1 H2/\aX X.K H2 b y) I1 ⟨H0,ρ,b,E.grow sm1,eb,λv H2 d M m=>⟨d,m⟩⟩) λvk d ⟨y,H2,I2,m,sm2,ER⟩=>?_;obtain⟨ds,D,rfl,rfl⟩:=YS g;have J:y=.int (-1):=by simpa only[aX,AW]using ER
 subst J;obtain⟨tk,rfl⟩:=m;obtain⟨p,vs,rfl,sq,rs⟩:=(BS.same sm2).J2 D;cases j;have t:L2.AU X AN σ H2 { d with heap:=d.heap.push { cls:=.type "slice",data:=.fields #[.none,.none,.int (-1) tk] } }:=I2.kept (t':=d.toks) λb G q=>zd _ q;obtain⟨AQ,r,u,B⟩:=t.list sq;show A7 (A8 X.prog X.w) X.A (subscriptTail e (.Slice Y Y (U st) p2) (.ref p) (.ref d.heap.objs.size)) (EP X AN σ Q) X.xe { d with heap:=d.heap.push { cls:=.type "slice",data:=.fields #[.none,.none,.int (-1) tk] } };refine tail_any (ops:=[.ref p,.ref d.heap.objs.size]) u.isList.typeIs list_getitem_lookup (wpAny_getItem_list_slice u.isList (Heap.IsSliceOf.new ..) .none .none (.int _ _) (by decide) ?_ (by rw[zC,<-r.length];exact B)) (F _ _);rw[PySem.W.krv_pick];have n:=t.hok.fresh (zo _);refine⟨.ref _,_,t.laid (t':=d.toks) (o:=.lst vs.reverse) (λb G q=>zd _ q) (zo _) ?_,rfl,q _ _ ((sm1.trans sm2).trans (cG n)) (λa z=>by cases z;exact(sm1.trans sm2).free n) ?_⟩
 ·exact⟨by rw[List.length_reverse];exact B,AQ.reverse,0,r.reverse,zv _ rfl⟩
 ·exact⟨_,_,rfl,bV,(aO.rev rs).kp (.of (cG n))⟩
end
theorem ad{a b:Nat}(h:a≠b):@Ne A1 a b:=h
section
variable{K:Type} [DecidableEq K] {knd:KeyKind prog w K}
end
section
variable{ea eb:Expr}{p1 pos1 pos2:Pos}
end
theorem uR(xs:AZ)(is:Z Nat)(d:closureFor scope X.env=pure cl:=by with_unfolding_all rfl)(c:scope.kind=.function:=by rfl)(a:scope.names.all (λy=>decide (y.2≠.cell)||(cl.lookup y.1).isNone)=true:=by rfl)(b:scope.names.all (λy=>decide (y.2=.local->scope.names.lookup y.1=U .local))=true:=by decide +kernel)(sub:C8 X.env.cells cl:=by repeat (first|exact trivial|refine⟨rfl,?_⟩))(has:(relabel scope X.env).names.all (λy=>!(y.2==.cell||y.2==.free)||(cl.lookup y.1).isSome||scope.names.contains (y.1,.cell))=true:=by rfl)(e:J4 X scope cl xs is:=by repeat (first|exact SR|refine WV S (by first|exact .inl rfl|exact .inr S) (by first|exact .inl rfl|exact .inr S) ⟨_,rfl⟩ ?_)):uN X scope cl xs is:=R1 d c a b sub has e
theorem jg{a:Scope}(h1:a.kind=.function:=by rfl)(h2:a.isCoroutine=false:=by rfl)(e:a.isGenerator=false:=by rfl)(c:N.Nodup:=by decide +kernel)(b:N.take ps.length=ps:=by rfl)(f:∀x∈ps,a.names.lookup x=U .local\/a.names.lookup x=U .cell:=by decide +kernel)(d:∀y∈a.names,y.2≠.free:=by decide +kernel):bx N ps a:=⟨h1,h2,e,c,b,f,d⟩
instance:Inhabited Dt:=⟨.non⟩
theorem At(a:α)(f:α->O β):(U a).bind f=f a:=(Option.bind_some a f).trans (Eq.refl _)
def hold:O Prop->Prop
 |none=>True
 |some p=>p
def aW:O Prop->O Prop->O Prop
 |none,q=>q
 |some p,Y=>U p
 |some p,U q=>U (p/\q)
def Ik(c:Prop):O Prop->O Prop
 |none=>Y
 |some p=>U (c->p)
theorem aA{p q:O Prop}(h:hold (aW p q)):hold p/\hold q:=by
 cases p with
 |none=>exact⟨trivial,h⟩
 |some p=>cases q with
  |none=>exact⟨h,trivial⟩
  |some q=>exact h
theorem lO{c:Prop}{p:O Prop}(h:hold (Ik c p))(a:c):hold p:=by
 cases p with
 |none=>trivial
 |some p=>exact h a
structure R {α β:Type} (f:Ev->Option β) (ρ:Ev) (c:α->β) where
 v:α
 D:Option Prop
 ok:hold D->f ρ=some (c v)
abbrev zE(e:α->Dt):α->Bx:=λa=>.z (e a)
abbrev oE(e:α->Dt):Z α->Bx:=λxs=>.o (xs.map e)
abbrev lE(e:α->Dt):Z α->Bx:=λxs=>.l (xs.map e)
abbrev tE:Bool->Bool:=λb=>b
abbrev iE(e:α->Dt):Z α->Z Dt:=λxs=>xs.map e
abbrev eI:Int->Dt:=Dt.int
abbrev eB:Bool->Dt:=Dt.bl
abbrev eS:AJ->Dt:=Dt.str
abbrev eD:Dt->Dt:=λd=>d
abbrev eN:Unit->Dt:=λ_=>.non
abbrev eL(e:α->Dt):Z α->Dt:=λxs=>.lst (xs.map e)
abbrev eT(e:α->Dt):Z α->Dt:=λxs=>.tup (xs.map e)
abbrev eO(e:α->Dt):O α->Dt:=λo=>match o with|none=>.non|some a=>e a
abbrev IE(a:α->Dt):α->Dt:=λx=>.tup [a x]
abbrev Ct(a:α->Dt)(b:β->Dt):α×β->Dt:=λx=>.tup [a x.1,b x.2]
abbrev DC(a:α->Dt)(b:β->Dt)(c:γ->Dt):α×β×γ->Dt:=λx=>.tup [a x.1,b x.2.1,c x.2.2]
abbrev Il(a:α->Dt)(b:β->Dt)(c:γ->Dt)(d:δ->Dt):α×β×γ×δ->Dt:=λx=>.tup [a x.1,b x.2.1,c x.2.2.1,d x.2.2.2]
structure RL {α:Type} (f:Ev->Option Bx) (ρ:Ev) (e:α->Dt) where
 v:List α
 D:Option Prop
 b:Bx
 lk:rG b=some (v.map e)
 ok:hold D->f ρ=some b
section
variable{fs:Ev->O (Z Bx)}{e:α->Dt}{e':β->Dt}
def kO(a:R f ρ (oE e)):RL f ρ e:=⟨a.v,a.D,_,rfl,a.ok⟩
def fH(a:R f ρ (lE e)):RL f ρ e:=⟨a.v,a.D,_,rfl,a.ok⟩
def pQ(a:R f ρ (zE (eL e))):RL f ρ e:=⟨a.v,a.D,_,rfl,a.ok⟩
def Lp(b:Bx)(ds:Z Dt):Prop:=b=.z (.lst ds)\/b=.l ds
theorem Lp.J2(h:Lp b ds):rG b=U ds:=by rcases h with rfl|rfl<;>rfl
theorem Lp.get{b:Bx}{ds:Z Dt}{i:Nat}(h:Lp b ds)(hi:ρ[i]?=U (U b)):zp ρ i=U b:=by
 rcases h with rfl|rfl<;>(unfold zp;rw[hi])
theorem Eo(h:rG b=U ds):Lp (P1.lend b) ds:=by
 cases b with
 |z d=>cases d<;>cases h;exact .inl rfl
 |l d=>cases h;exact .inr rfl
 |o d=>cases h;exact .inr rfl
 |n d=>cases h
 |m d _=>cases h
def ao(i:Nat)(c:α->Bx)(a:α)(h:zp ρ i=U (c a)):R (gv i) ρ c:=⟨a,Y,λ_=>h⟩
def rP(i:Nat)(e:α->Dt)(a:Z α)(h:Lp b (a.map e))(hi:ρ[i]?=U (U b)):RL (gv i) ρ e:=⟨a,Y,b,h.J2,λ_=>h.get hi⟩
def oA(d:Dt)(e:α->Dt)(a:α)(h:d=e a):R (cB d) ρ (zE e):=⟨a,Y,λ_=>by rw[h];rfl⟩
def W4(a:R f ρ (zE e)):R f ρ (zE eD):=⟨e a.v,a.D,a.ok⟩
def U9(a:R f ρ (zE e)):R f ρ (zE (eO e)):=⟨U a.v,a.D,a.ok⟩
def Mc:R (cB .non) ρ (zE (eO e)):=⟨Y,Y,λ_=>S⟩
def Mh[Inhabited α](a:R f ρ (zE (eO e))):R f ρ (zE e):=⟨a.v.getD default,aW a.D (U (a.v.isSome=true)),λh=>by
 obtain⟨h1,h2⟩:=aA h;rw[a.ok h1];have h2:a.v.isSome=true:=h2;cases b:a.v with
 |none=>rw[b]at h2;cases h2
 |some x=>rfl⟩
def YT(a:R f ρ (oE e)):R (b1 CV f) ρ (zE (eL e)):=⟨a.v,a.D,λh=>by simp only[b1,a.ok h,At,CV]⟩
def pI(a:R f ρ (zE e)):R (b1 CV f) ρ (zE e):=⟨a.v,a.D,λh=>by simp only[b1,a.ok h,At,CV]⟩
def j5(a:R fa ρ (zE eI))(b:R fb ρ (zE eI)):R (b2 gC fa fb) ρ (zE eI):=⟨a.v+b.v,aW a.D b.D,λh=>by
 obtain⟨h1,h2⟩:=aA h;simp only[b2,a.ok h1,b.ok h2,At,gC]⟩
def Im(a:R fa ρ (zE eI))(b:R fb ρ (zE eI)):R (b2 C1 fa fb) ρ (zE eI):=⟨a.v-b.v,aW a.D b.D,λh=>by
 obtain⟨h1,h2⟩:=aA h;simp only[b2,a.ok h1,b.ok h2,At,i2]⟩
def FS(a b:Int):Prop:=(-18446744073709551616<a/\a<18446744073709551616)\/(-18446744073709551616<b/\b<18446744073709551616)
def Mm(a:R fa ρ (zE eI))(b:R fb ρ (zE eI)):R (b2 Ak fa fb) ρ (zE eI):=⟨a.v*b.v,aW (aW a.D b.D) (U (FS a.v b.v)),λh=>by
 obtain⟨h,c⟩:=aA h;obtain⟨h1,h2⟩:=aA h;simp only[b2,a.ok h1,b.ok h2,At];exact zk c⟩
def Va(n:Int)(a : -18446744073709551616<n/\n<18446744073709551616)(b:R fb ρ (zE eI)):R (b2 Ak (cB (.int n)) fb) ρ (zE eI):=⟨n*b.v,b.D,λh=>by
 simp only[b2,b.ok h,At,cB];exact zk (.inl a)⟩
def W5(a:R fa ρ (zE eI))(n:Int)(b : -18446744073709551616<n/\n<18446744073709551616):R (b2 Ak fa (cB (.int n))) ρ (zE eI):=⟨a.v*n,a.D,λh=>by
 simp only[b2,a.ok h,At,cB];exact zk (.inr b)⟩
def c4(a:R fa ρ (zE eI))(b:R fb ρ (zE eI)):R (b2 Hu fa fb) ρ (zE eI):=⟨a.v / b.v,aW (aW a.D b.D) (U (0<b.v/\b.v<1073741824)),λh=>by
 obtain⟨h,c⟩:=aA h;obtain⟨h1,h2⟩:=aA h;have c:0<b.v/\b.v<1073741824:=c;simp only[b2,a.ok h1,b.ok h2,At,i2,zk c]⟩
def Ot(a:R fa ρ (zE eI))(n:Int)(b:0<n/\n<1073741824):R (b2 Hu fa (cB (.int n))) ρ (zE eI):=⟨a.v / n,a.D,λh=>by
 simp only[b2,a.ok h,At,i2,cB,zk b]⟩
def Ep(a:R fa ρ (zE eI))(b:R fb ρ (zE eI)):R (b2 jZ fa fb) ρ (zE eI):=⟨a.v%b.v,aW (aW a.D b.D) (U (0<b.v)),λh=>by
 obtain⟨h,c⟩:=aA h;obtain⟨h1,h2⟩:=aA h;have c:0<b.v:=c;simp only[b2,a.ok h1,b.ok h2,At,i2,zk c]⟩
def gq(a:R fa ρ (zE eI))(n:Int)(b:0<n):R (b2 jZ fa (cB (.int n))) ρ (zE eI):=⟨a.v%n,a.D,λh=>by
 simp only[b2,a.ok h,At,i2,cB,zk b]⟩
def d4(a b:Int)(n:Nat)(h:0<=b/\b<=1000/\a.natAbs<18446744073709551616)(hb:b.toNat=n):R (b2 HV (cB (.int a)) (cB (.int b))) ρ (zE eI):=⟨a ^ n,Y,λ_=>by
 simp only[b2,At,cB];show((if 0<=b/\b<=1000/\a.natAbs<2 ^ 64 then U (Dt.int (a ^ b.toNat))else Y).bind λd=>U (Bx.z d))=_;rw[zk h,hb];rfl⟩
def F'(a:R fa ρ (zE eI))(b:R fb ρ (zE eI)):R (b2 EK fa fb) ρ (zE eB):=⟨decide (a.v<=b.v),aW a.D b.D,λh=>by
 obtain⟨h1,h2⟩:=aA h;simp only[b2,a.ok h1,b.ok h2,At,i2]⟩
def Sf(a:R fa ρ (zE eI))(b:R fb ρ (zE eI)):R (b2 IH fa fb) ρ (zE eB):=⟨decide (b.v<a.v),aW a.D b.D,λh=>by
 obtain⟨h1,h2⟩:=aA h;simp only[b2,a.ok h1,b.ok h2,At,i2]⟩
def Eg(a:R fa ρ (zE eI))(b:R fb ρ (zE eI)):R (b2 GW fa fb) ρ (zE eB):=⟨decide (b.v<=a.v),aW a.D b.D,λh=>by
 obtain⟨h1,h2⟩:=aA h;simp only[b2,a.ok h1,b.ok h2,At,i2]⟩
def Nc(a:R fa ρ (zE eI))(b:R fb ρ (zE eI)):R (b2 D3 fa fb) ρ (zE eB):=⟨decide (a.v<b.v),aW a.D b.D,λh=>by
 obtain⟨h1,h2⟩:=aA h;simp only[b2,a.ok h1,b.ok h2,At,D3]⟩
def Dv(x y:AJ):Bool:=decide (x.cps.toList<y.cps.toList)
def UK(a:R fa ρ (zE eS))(b:R fb ρ (zE eS)):R (b2 D3 fa fb) ρ (zE eB):=⟨Dv a.v b.v,aW a.D b.D,λh=>by
 obtain⟨h1,h2⟩:=aA h;simp only[b2,a.ok h1,b.ok h2,At,D3,Dv]⟩
end
class B7 {α:Type} [DecidableEq α] (e:α->Dt) (n:outParam Nat):Prop where
 eq:∀a b,Cz (e a) (e b)=some (decide (a=b))
 dp:∀a,yh (e a)<=n
class CO {α:Type} (e:α->Dt):Prop where
 l:∀a,Cz .non (e a)=some false
 r:∀a,Cz (e a) .non=some false
instance:B7 eI 1:=⟨λa b=>rfl,λa=>by simp[yh]⟩
instance:B7 eB 1:=⟨λa b=>rfl,λa=>by simp[yh]⟩
instance:B7 eS 1:=⟨λa b=>rfl,λa=>by simp[yh]⟩
instance:CO eI:=⟨λa=>rfl,λa=>rfl⟩
instance:CO eB:=⟨λa=>rfl,λa=>rfl⟩
instance:CO eS:=⟨λa=>rfl,λa=>rfl⟩
section
variable [DecidableEq α] [DecidableEq β] [DecidableEq γ] [DecidableEq δ] {e:α->Dt}{e':β->Dt}{e'':γ->Dt}{e3:δ->Dt}{m k l:Nat}
theorem Io[B7 e n]:∀xs ys:Z α,mH (xs.map e) (ys.map e)=U (decide (xs=ys))
 |[],[]=>by simp[mH]
 |[],y::ys=>by simp[mH]
 |x::xs,[]=>by simp[mH]
 |x::xs,y::ys=>by
  simp only[zr,mH,B7.eq,Io xs ys];congr 1;by_cases h:x=y<;>by_cases h':xs=ys<;>simp[h,h']
theorem Ip[B7 e n]:∀xs:Z α,wU (xs.map e)<=n
 |[]=>by simp[wU]
 |x::xs=>by
  have:=B7.dp (e:=e) x;have:=Ip xs;simp only[zr,wU];omega
instance [B7 e n]:B7 (eL e) (n+1):=⟨λa b=>Io a b,λa=>by simp only[yh];have:=Ip (e:=e) a;omega⟩
instance [B7 e n]:B7 (eT e) (n+1):=⟨λa b=>Io a b,λa=>by simp only[yh];have:=Ip (e:=e) a;omega⟩
instance:CO (eL e):=⟨λa=>rfl,λa=>rfl⟩
instance:CO (eT e):=⟨λa=>rfl,λa=>rfl⟩
instance:CO (IE e):=⟨λa=>rfl,λa=>rfl⟩
instance:CO (Ct e e'):=⟨λa=>rfl,λa=>rfl⟩
instance:CO (DC e e' e''):=⟨λa=>rfl,λa=>rfl⟩
instance:CO (Il e e' e'' e3):=⟨λa=>rfl,λa=>rfl⟩
instance [B7 e n]:B7 (IE e) (n+1):=⟨λa b=>by
 simp only[Gx,mH,B7.eq,kM],λa=>by
 have:=B7.dp (e:=e) a;simp only[yh,wU];omega⟩
instance [B7 e n] [B7 e' m]:B7 (Ct e e') (max n m+1):=⟨λa b=>by
 obtain⟨a,a'⟩:=a;obtain⟨b,b'⟩:=b;simp only[Gx,mH,B7.eq,Prod.mk.injEq,Bool.decide_and,kM],λa=>by
 have:=B7.dp (e:=e) a.1;have:=B7.dp (e:=e') a.2;simp only[yh,wU];omega⟩
instance [B7 e n] [B7 e' m] [B7 e'' k]:B7 (DC e e' e'') (max n (max m k)+1):=⟨λa b=>by
 obtain⟨a,a',a2⟩:=a;obtain⟨b,b',b2⟩:=b;simp only[Gx,mH,B7.eq,Prod.mk.injEq,Bool.decide_and,kM],λa=>by
 have:=B7.dp (e:=e) a.1;have:=B7.dp (e:=e') a.2.1;have:=B7.dp (e:=e'') a.2.2;simp only[yh,wU];omega⟩
instance [B7 e n] [B7 e' m] [B7 e'' k] [B7 e3 l]:B7 (Il e e' e'' e3) (max n (max m (max k l))+1):=⟨λa b=>by
 obtain⟨a,a',a2,a3⟩:=a;obtain⟨b,b',b2,b3⟩:=b;simp only[Gx,mH,B7.eq,Prod.mk.injEq,Bool.decide_and,kM],λa=>by
 have:=B7.dp (e:=e) a.1;have:=B7.dp (e:=e') a.2.1;have:=B7.dp (e:=e'') a.2.2.1;have:=B7.dp (e:=e3) a.2.2.2;simp only[yh,wU];omega⟩
instance [B7 e n] [CO e]:B7 (eO e) (n+1):=⟨λa b=>by
 cases a with
 |none=>cases b with
  |none=>exact rfl
  |some b=>exact(CO.l (e:=e) b).trans (by simp)
 |some a=>cases b with
  |none=>exact(CO.r (e:=e) a).trans (by simp)
  |some b=>exact(B7.eq (e:=e) a b).trans (by simp),λa=>by
 cases a with
 |none=>show yh .non<=n+1;simp[yh]
 |some a=>exact Nat.le_succ_of_le (B7.dp (e:=e) a)⟩
end
section
variable{fs:Ev->O (Z Bx)}{e:α->Dt}{e':β->Dt}
def BV[DecidableEq α][B7 e n](c:n<=100)(a:R fa ρ (zE e))(b:R fb ρ (zE e)):R (b2 Bn fa fb) ρ (zE eB):=⟨decide (a.v=b.v),aW a.D b.D,λh=>by
 obtain⟨h1,h2⟩:=aA h;have:=B7.dp (e:=e) a.v;simp only[b2,a.ok h1,b.ok h2,At,Bn,mD,toD,zl,or_self,ZN,B7.eq];rw[zk (by omega)]⟩
def Bh[DecidableEq α][B7 e n](c:n<=100)(a:R fa ρ (zE e))(b:R fb ρ (zE e)):R (b2 Fz fa fb) ρ (zE eB):=⟨!decide (a.v=b.v),aW a.D b.D,λh=>by
 obtain⟨h1,h2⟩:=aA h;have:=B7.dp (e:=e) a.v;simp only[b2,a.ok h1,b.ok h2,At,Fz,mD,toD,zl,or_self,ZN,B7.eq];rw[zk (by omega)]⟩
theorem rQ(h:rG b=U ds):toD b=.lst ds/\mD b=false:=by
 cases b with
 |z d=>cases d<;>cases h;exact⟨rfl,rfl⟩
 |l d=>cases h;exact⟨rfl,rfl⟩
 |o d=>cases h;exact⟨rfl,rfl⟩
 |n d=>cases h
 |m d _=>cases h
def IG[DecidableEq α][B7 e n](c:n+1<=100)(a:RL fa ρ e)(b:RL fb ρ e):R (b2 Bn fa fb) ρ (zE eB):=⟨decide (a.v=b.v),aW a.D b.D,λh=>by
 obtain⟨h1,h2⟩:=aA h;have:=B7.dp (e:=eL e) a.v;simp only[b2,a.ok h1,b.ok h2,At,Bn,(rQ a.lk).1,(rQ a.lk).2,(rQ b.lk).1,(rQ b.lk).2,zl,or_self,ZN];have e1:=B7.eq (e:=eL e) a.v b.v;rw[zk (ZA (Nat.min_le_left _ _) (ZA (B7.dp (e:=eL e) a.v) c)),e1,At]⟩
def RB[DecidableEq α][B7 e n](c:n+1<=100)(a:RL fa ρ e)(b:RL fb ρ e):R (b2 Fz fa fb) ρ (zE eB):=⟨!decide (a.v=b.v),aW a.D b.D,λh=>by
 obtain⟨h1,h2⟩:=aA h;simp only[b2,a.ok h1,b.ok h2,At,Fz,(rQ a.lk).1,(rQ a.lk).2,(rQ b.lk).1,(rQ b.lk).2,zl,or_self,ZN];have e1:=B7.eq (e:=eL e) a.v b.v;rw[zk (ZA (Nat.min_le_left _ _) (ZA (B7.dp (e:=eL e) a.v) c)),e1,At]⟩
def Cb(a b:Dt):Bool:=(Cz a b).getD false
def ED(a b:Dt):Prop:=(Cz a b).isSome=true/\min (yh a) (yh b)<=100
def Ha(a:R fa ρ (zE eD))(b:R fb ρ (zE eD)):R (b2 Bn fa fb) ρ (zE eB):=⟨Cb a.v b.v,aW (aW a.D b.D) (U (ED a.v b.v)),λh=>by
 obtain⟨h,c⟩:=aA h;obtain⟨h1,h2⟩:=aA h;obtain⟨c,d⟩:ED a.v b.v:=c;simp only[b2,a.ok h1,b.ok h2,At,Bn,mD,toD,zl,or_self,ZN,zk d];cases hd:Cz a.v b.v with
 |none=>rw[hd]at c;cases c
 |some k=>simp only[Cb,hd,At,Option.getD_some];exact zk d⟩
def W6(a:R fa ρ (zE (eO e)))(b:∀x,NP (.z (e x))=false):R (b2 wg fa (cB .non)) ρ (zE eB):=⟨a.v.isSome,a.D,λh=>by
 simp only[b2,a.ok h,At,cB,wg];cases c:a.v with
 |none=>rfl
 |some x=>simp only[KL,b,kB]⟩
def qO(a:R fa ρ (zE eB))(b:R fb ρ (zE eB)):R (yI fa fb) ρ (zE eB):=⟨a.v&&b.v,aW a.D (Ik (a.v=true) b.D),λh=>by
 obtain⟨h1,h2⟩:=aA h;simp only[yI,a.ok h1,At,Hg];cases c:a.v with
 |true=>simp only[qA,K2];exact b.ok (lO h2 c)
 |false=>simp only[zl,ZN,KG]⟩
def VE(a:R fa ρ (zE eB)):R (Fu fa) ρ (zE eB):=⟨!a.v,a.D,λh=>by simp only[Fu,a.ok h,At,Hg]⟩
def EZ(a:R fa ρ (zE eB)):R (tV fa) ρ tE:=⟨a.v,a.D,λh=>by simp only[tV,a.ok h,At,FH]⟩
def RA(a:RL fa ρ e):R (tV fa) ρ tE:=⟨!a.v.isEmpty,a.D,λh=>by
 have:FH a.b=U (!(a.v.map e).isEmpty):=by
  have:=a.lk;generalize a.v.map e=ds at this
  revert this
  generalize a.b=b;intro this;cases b with
  |z d=>cases d<;>cases this;rfl
  |l d=>cases this;rfl
  |o d=>cases this;rfl
  |n d=>cases this
  |m d _=>cases this
 simp only[tV,a.ok h,At,this,List.isEmpty_map]⟩
def cH{g:Bx->Bx->O Bx}(a:R (b2 g fa fb) ρ (zE eB)):R (pN g fa fb) ρ tE:=⟨a.v,a.D,λh=>by simp only[pN,a.ok h,At,Hg]⟩
def Mi(a:R p ρ tE)(b:R q ρ tE):R (Nu p q) ρ tE:=⟨a.v&&b.v,aW a.D (Ik (a.v=true) b.D),λh=>by
 obtain⟨h1,h2⟩:=aA h;simp only[Nu,a.ok h1,At];cases c:a.v with
 |true=>simp only[qA,K2];exact b.ok (lO h2 c)
 |false=>simp only[zl,ZN,KG]⟩
def YW(a:R p ρ tE)(b:R q ρ tE):R (C' p q) ρ tE:=⟨a.v||b.v,aW a.D (Ik (a.v=false) b.D),λh=>by
 obtain⟨h1,h2⟩:=aA h;simp only[C',a.ok h1,At];cases c:a.v with
 |true=>simp only[qA,Bool.true_or]
 |false=>simp only[zl,ZN,Bool.false_or];exact b.ok (lO h2 c)⟩
def RD(a:R p ρ tE):R (Qx p) ρ tE:=⟨!a.v,a.D,λh=>by simp only[Qx,a.ok h,At]⟩
def L3{g g':Bx->Bx->O Bx}(a:R (b2 g fa fb) ρ (zE eB))(b:R (b2 g' fb fc) ρ (zE eB)):R (EG g g' fa fb fc) ρ (zE eB):=⟨a.v&&b.v,aW a.D (Ik (a.v=true) b.D),λh=>by
 obtain⟨h1,d⟩:=aA h;have e1:=a.ok h1;simp only[b2]at e1;obtain⟨x,ex,e1⟩:=AT e1;obtain⟨y,c,e1⟩:=AT e1;simp only[EG,ex,c,At,e1,Hg];cases e:a.v with
 |true=>
  have e2:=b.ok (lO d e);simp only[b2,c,At]at e2;simp only[qA,K2];exact e2
 |false=>simp only[zl,ZN,KG]⟩
end
section
variable{ε:Type}{fd:Ev->O Bx}{fs:Ev->O (Z Bx)}{e:α->Dt}{e':β->Dt}{e'':γ->Dt}{e3:δ->Dt}
def Vb(e:α->Dt):R (cT jW aJ) ρ (zE (eT e)):=⟨[],Y,λ_=>S⟩
def bE(a:R fa ρ (zE e)):R (cT jW (aq fa aJ)) ρ (zE (IE e)):=⟨a.v,a.D,λh=>by
 simp only[cT,aq,aJ,a.ok h,At];rfl⟩
def VS(a:R fa ρ (zE e))(b:R fb ρ (zE e')):R (cT jW (aq fa (aq fb aJ))) ρ (zE (Ct e e')):=⟨(a.v,b.v),aW a.D b.D,λh=>by
 obtain⟨h1,h2⟩:=aA h;simp only[cT,aq,aJ,a.ok h1,b.ok h2,At];rfl⟩
def Dw(a:R fa ρ (zE e))(b:R fb ρ (zE e'))(c:R fc ρ (zE e'')):R (cT jW (aq fa (aq fb (aq fc aJ)))) ρ (zE (DC e e' e'')):=⟨(a.v,b.v,c.v),aW a.D (aW b.D c.D),λh=>by
 obtain⟨h1,h⟩:=aA h;obtain⟨h2,d⟩:=aA h;simp only[cT,aq,aJ,a.ok h1,b.ok h2,c.ok d,At];rfl⟩
def Ou(a:R fa ρ (zE e))(b:R fb ρ (zE e'))(c:R fc ρ (zE e''))(d:R fd ρ (zE e3)):R (cT jW (aq fa (aq fb (aq fc (aq fd aJ))))) ρ (zE (Il e e' e'' e3)):=⟨(a.v,b.v,c.v,d.v),aW a.D (aW b.D (aW c.D d.D)),λh=>by
 obtain⟨h1,h⟩:=aA h;obtain⟨h2,h⟩:=aA h;obtain⟨g,f⟩:=aA h;simp only[cT,aq,aJ,a.ok h1,b.ok h2,c.ok g,d.ok f,At];rfl⟩
def fJ(e:α->Dt):R aJ ρ (λxs:Z α=>xs.map (zE e)):=⟨[],Y,λ_=>S⟩
def dB(a:R fa ρ (zE e))(t:R fs ρ (λxs:Z α=>xs.map (zE e))):R (aq fa fs) ρ (λxs:Z α=>xs.map (zE e)):=⟨a.v::t.v,aW a.D t.D,λh=>by
 obtain⟨h1,h2⟩:=aA h;simp only[aq,a.ok h1,t.ok h2,At,zr]⟩
theorem Bj:∀xs:Z α,Nv (xs.map (zE e))=U (xs.map e)
 |[]=>rfl
 |x::xs=>by simp only[zr,Nv,Bj xs,At]
def oF(t:R fs ρ (λxs:Z α=>xs.map (zE e)))(a:t.v.length<=1000):R (cT qH fs) ρ (oE e):=⟨t.v,t.D,λh=>by
 simp only[cT,t.ok h,At,qH,zh,zk a,Bj]⟩
def eA(t:R fs ρ (λxs:Z α=>xs.map (zE e)))(a:t.v.length<=1000):R (cT jW fs) ρ (zE (eT e)):=⟨t.v,t.D,λh=>by
 simp only[cT,t.ok h,At,jW,zh,zk a,Bj]⟩
def Ir(t:R fs ρ (λxs:Z Dt=>xs.map (zE eD)))(a:t.v.length<=1000):R (cT jW fs) ρ (zE eD):=⟨.tup t.v,t.D,λh=>by
 simp only[cT,t.ok h,At,jW,zh,zk a,Bj,List.map_id_fun',id]⟩
def at'[Inhabited α](xs:Z α)(i:Int):α:=(JZ xs i).getD default
def In(n:Nat)(i:Int):Prop:=-(n:Int)<=i/\i<n
theorem yt{xs:Z α}{i:Int}(h:In xs.length i):∃x,JZ xs i=U x:=by
 obtain⟨h1,h2⟩:=h;unfold JZ EH;by_cases h0:0<=i
 ·rw[zk h0,zk h2];exact⟨xs[i.toNat]'(by omega),z4 (by omega)⟩
 ·rw[zw h0,zk h1];exact⟨xs[(i+xs.length).toNat]'(by omega),z4 (by omega)⟩
theorem Th{xs:Z α}{i:Int}{x:α}(h:JZ xs i=U x):JZ (xs.map e) i=U (e x):=by
 unfold JZ at h ⊢;rw[zh];obtain⟨j,a,h⟩:=AT h;rw[a,At,Zp,h];rfl
theorem MY[Inhabited α]{xs:Z α}{i:Int}(h:In xs.length i):JZ (xs.map e) i=U (e (at' xs i)):=by
 obtain⟨x,hx⟩:=yt h;rw[Th hx];unfold at';rw[hx];rfl
theorem VY{i:Int}(h:rG b=U ds):gF b (.z (.int i))=(JZ ds i).bind λd=>U (.z d):=by
 cases b with
 |z d=>cases d<;>cases h;rfl
 |l d=>cases h;rfl
 |o d=>cases h;rfl
 |n d=>cases h
 |m d _=>cases h
def lG[Inhabited α](a:RL fa ρ e)(b:R fb ρ (zE eI)):R (b2 gF fa fb) ρ (zE e):=⟨at' a.v b.v,aW (aW a.D b.D) (U (In a.v.length b.v)),λh=>by
 obtain⟨h,c⟩:=aA h;obtain⟨h1,h2⟩:=aA h;simp only[b2,a.ok h1,b.ok h2,At,VY a.lk,MY (show In a.v.length b.v from c)]⟩
def MA[Inhabited α](a:R fa ρ (zE (eT e)))(b:R fb ρ (zE eI)):R (b2 gF fa fb) ρ (zE e):=⟨at' a.v b.v,aW (aW a.D b.D) (U (In a.v.length b.v)),λh=>by
 obtain⟨h,c⟩:=aA h;obtain⟨h1,h2⟩:=aA h;simp only[b2,a.ok h1,b.ok h2,At,gF,uo,MY (show In a.v.length b.v from c)]⟩
def ch(x:AJ)(i:Int):AJ:=⟨#[(JZ x.cps.toList i).getD 0]⟩
def Hc(a:R fa ρ (zE eS))(b:R fb ρ (zE eI)):R (b2 gF fa fb) ρ (zE eS):=⟨ch a.v b.v,aW (aW a.D b.D) (U (In a.v.length b.v)),λh=>by
 obtain⟨h,c⟩:=aA h;obtain⟨h1,h2⟩:=aA h;obtain⟨x,hx⟩:=yt (xs:=a.v.cps.toList) (i:=b.v) (show In a.v.length b.v from c);simp only[b2,a.ok h1,b.ok h2,At,gF,hx,ch,Option.getD_some]⟩
def D2(d:Dt)(i:Int):Dt:=match gF (.z d) (.z (.int i))with|some (.z y)=>y|_=>.non
def HK(d:Dt)(i:Int):Prop:=match d with
 |.tup ds=>In ds.length i
 |.lst ds=>In ds.length i
 |.str x=>In x.length i
 |_=>False
def WA(a:R fa ρ (zE eD))(b:R fb ρ (zE eI)):R (b2 gF fa fb) ρ (zE eD):=⟨D2 a.v b.v,aW (aW a.D b.D) (U (HK a.v b.v)),λh=>by
 obtain⟨h,d⟩:=aA h;obtain⟨h1,h2⟩:=aA h;have d:HK a.v b.v:=d;simp only[b2,a.ok h1,b.ok h2,At];show gF (.z a.v) (.z (.int b.v))=U (.z (D2 a.v b.v));unfold D2;cases e:a.v with
 |tup ds=>
  rw[e]at d;obtain⟨x,hx⟩:=yt (show In ds.length b.v from d);simp only[gF,uo,At,hx]
 |lst ds=>
  rw[e]at d;obtain⟨x,hx⟩:=yt (show In ds.length b.v from d);simp only[gF,uo,At,hx]
 |str x=>
  rw[e]at d;obtain⟨c,hx⟩:=yt (xs:=x.cps.toList) (show In x.length b.v from d);simp only[gF,At,hx]
 |non=>rw[e]at d;exact absurd d id
 |bl _=>rw[e]at d;exact absurd d id
 |int _=>rw[e]at d;exact absurd d id
 |emp=>rw[e]at d;exact absurd d id⟩
def fU(a:R fa ρ (zE e))(g:α->β)(e':β->Dt)(i:Int)(h:∀x,gF (.z (e x)) (.z (.int i))=U (.z (e' (g x)))):R (b2 gF fa (cB (.int i))) ρ (zE e'):=⟨g a.v,a.D,λhd=>by
 simp only[b2,a.ok hd,At,cB,h]⟩
def cut(xs:Z α)(lo hi:O Int):Z α:=(xs.drop (HT.jy xs.length 0 lo)).take (HT.jy xs.length xs.length hi-HT.jy xs.length 0 lo)
theorem VO(xs:Z α)(lo hi:O Int):C0 (xs.map e) lo hi=(cut xs lo hi).map e:=by
 unfold C0 cut;rw[zh,List.map_take,List.map_drop]
abbrev pE:O Int->O Int:=λo=>o
def FK:R wY ρ pE:=⟨Y,Y,λ_=>S⟩
def F0(a:R fa ρ (zE eI)):R (Ao fa) ρ pE:=⟨U a.v,a.D,λh=>by simp only[Ao,a.ok h,At,IN]⟩
variable{fl fh:Ev->O (O Int)}
theorem X2(h:rG b=U ds):EL b lo hi=U (.o (C0 ds lo hi)):=by
 cases b with
 |z d=>cases d<;>cases h;rfl
 |l d=>cases h;rfl
 |o d=>cases h;rfl
 |n d=>cases h
 |m d _=>cases h
def US(a:RL fa ρ e)(l:R fl ρ pE)(u:R fh ρ pE):R (Um fa fl fh) ρ (oE e):=⟨cut a.v l.v u.v,aW a.D (aW l.D u.D),λh=>by
 obtain⟨h1,h⟩:=aA h;obtain⟨h2,b⟩:=aA h;simp only[Um,a.ok h1,l.ok h2,u.ok b,At,X2 a.lk,VO]⟩
def LN(a:R fa ρ (zE eS))(l:R fl ρ pE)(u:R fh ρ pE):R (Um fa fl fh) ρ (zE eS):=⟨Txt.slice a.v l.v u.v,aW a.D (aW l.D u.D),λh=>by
 obtain⟨h1,h⟩:=aA h;obtain⟨h2,b⟩:=aA h;simp only[Um,a.ok h1,l.ok h2,u.ok b,At,EL]⟩
def Zy:Dt->Z Dt
 |.tup ds=>ds
 |.lst ds=>ds
 |_=>[]
def OG(a:R fa ρ (zE eD))(l:R fl ρ pE)(u:R fh ρ pE):R (Um fa fl fh) ρ (zE eD):=⟨.tup (cut (Zy a.v) l.v u.v),aW (aW a.D (aW l.D u.D)) (U (B4 a.v=true)),λh=>by
 obtain⟨h,b⟩:=aA h;obtain⟨h1,h⟩:=aA h;obtain⟨h2,d⟩:=aA h;have b:B4 a.v=true:=b;simp only[Um,a.ok h1,l.ok h2,u.ok d,At];cases c:a.v<;>rw[c]at b<;>first|(cases b;done)|rfl⟩
def Qi(n:Nat):Prop:=n<=1000000
def Lm(a:R fa ρ (zE eS))(b:R fb ρ (zE eS)):R (b2 gC fa fb) ρ (zE eS):=⟨a.v++b.v,aW (aW a.D b.D) (U (Qi (a.v.length+b.v.length))),λh=>by
 obtain⟨h,c⟩:=aA h;obtain⟨h1,h2⟩:=aA h;simp only[b2,a.ok h1,b.ok h2,At,gC,zk (show a.v.length+b.v.length<=Uh from c)]⟩
def UR(a:R fa ρ (zE (eT e)))(b:R fb ρ (zE (eT e))):R (b2 gC fa fb) ρ (zE (eT e)):=⟨a.v++b.v,aW (aW a.D b.D) (U (Qi (a.v.length+b.v.length))),λh=>by
 obtain⟨h,c⟩:=aA h;obtain⟨h1,h2⟩:=aA h;simp only[b2,a.ok h1,b.ok h2,At,gC,zh,zk (show a.v.length+b.v.length<=Uh from c),zE,eT,qk]⟩
theorem XN{e:Bx}{f:Z Dt}(h:rG b=U ds)(h':rG e=U f)(c:ds.length+f.length<=Uh):gC b e=U (.o (ds++f)):=by
 cases b with
 |z d=>
  cases d<;>cases h;cases e with
  |z a=>cases a<;>cases h';exact zk c
  |l a=>cases h';exact zk c
  |o a=>cases h';exact zk c
  |n a=>cases h'
  |m a=>cases h'
 |l d=>
  cases h;cases e with
  |z a=>cases a<;>cases h';exact zk c
  |l a=>cases h';exact zk c
  |o a=>cases h';exact zk c
  |n a=>cases h'
  |m a=>cases h'
 |o d=>
  cases h;cases e with
  |z a=>cases a<;>cases h';exact zk c
  |l a=>cases h';exact zk c
  |o a=>cases h';exact zk c
  |n a=>cases h'
  |m a=>cases h'
 |n d=>cases h
 |m d _=>cases h
def N9(a:RL fa ρ e)(b:RL fb ρ e):R (b2 gC fa fb) ρ (oE e):=⟨a.v++b.v,aW (aW a.D b.D) (U (Qi (a.v.length+b.v.length))),λh=>by
 obtain⟨h,c⟩:=aA h;obtain⟨h1,h2⟩:=aA h;simp only[b2,a.ok h1,b.ok h2,At];rw[XN a.lk b.lk (by rw[zh,zh];exact c)];simp only[oE,qk]⟩
def Tx(a:R fa ρ (zE eS))(b:R fb ρ (zE eI)):R (b2 Ak fa fb) ρ (zE eS):=⟨Txt.mul a.v b.v,aW (aW a.D b.D) (U (b.v<=1000 ∧ -1000<=b.v/\a.v.length<=1000)),λh=>by
 obtain⟨h,c⟩:=aA h;obtain⟨h1,h2⟩:=aA h;simp only[b2,a.ok h1,b.ok h2,At];exact zk c⟩
theorem WC(h:rG b=U ds):qK [b]=U (.z (.int ds.length)):=by
 cases b with
 |z d=>cases d<;>cases h;rfl
 |l d=>cases h;rfl
 |o d=>cases h;rfl
 |n d=>cases h
 |m d _=>cases h
theorem cc(h:rG b=U ds):uo b=U ds:=by
 cases b with
 |z d=>cases d<;>cases h;rfl
 |l d=>cases h;rfl
 |o d=>cases h;rfl
 |n d=>cases h
 |m d _=>cases h
def BQ(a:RL fa ρ e):R (cT qK (aq fa aJ)) ρ (zE eI):=⟨(a.v.length:Int),a.D,λh=>by
 simp only[cT,aq,aJ,a.ok h,At,WC a.lk,zh]⟩
def Iu(a:R fa ρ (zE (eT e))):R (cT qK (aq fa aJ)) ρ (zE eI):=⟨(a.v.length:Int),a.D,λh=>by
 simp only[cT,aq,aJ,a.ok h,At,qK,uo,zh]⟩
def S4(a:R fa ρ (zE eS)):R (cT qK (aq fa aJ)) ρ (zE eI):=⟨(a.v.length:Int),a.D,λh=>by
 simp only[cT,aq,aJ,a.ok h,At,qK]⟩
def Ov:Dt->Int
 |.tup ds=>ds.length
 |.lst ds=>ds.length
 |.str x=>x.length
 |_=>0
def Ox:Dt->Bool
 |.tup _=>true
 |.lst _=>true
 |.str _=>true
 |_=>false
def Vc(a:R fa ρ (zE eD)):R (cT qK (aq fa aJ)) ρ (zE eI):=⟨Ov a.v,aW a.D (U (Ox a.v=true)),λh=>by
 obtain⟨h,b⟩:=aA h;have b:Ox a.v=true:=b;simp only[cT,aq,aJ,a.ok h,At];cases c:a.v<;>rw[c]at b<;>first|(cases b;done)|rfl⟩
def uT(a:RL fa ρ e):R (cT lK (aq fa aJ)) ρ (zE (eT e)):=⟨a.v,a.D,λh=>by
 simp only[cT,aq,aJ,a.ok h,At,lK,cc a.lk]⟩
def PR(a:R fa ρ (zE eI)):R (cT ES (aq fa aJ)) ρ (zE eI):=⟨if a.v<0 then -a.v else a.v,a.D,λh=>by
 simp only[cT,aq,aJ,a.ok h,At,ES]⟩
def Vd(a:R fa ρ (zE eB)):R (cT Yl (aq fa aJ)) ρ (zE eI):=⟨if a.v=true then 1 else 0,a.D,λh=>by
 simp only[cT,aq,aJ,a.ok h,At,Yl]⟩
theorem Mj:∀l:Z Bool,Lq (l.map eB)=U l
 |[]=>rfl
 |a::l=>by simp only[zr,Lq,Mj l,At]
def dL(a:RL fa ρ eB):R (cT CS (aq fa aJ)) ρ (zE eB):=⟨a.v.all id,a.D,λh=>by
 simp only[cT,aq,aJ,a.ok h,At,CS,a.lk,Mj]⟩
def Ml(a:R fa ρ (zE eI))(b:R fb ρ (zE eI)):R (cT J7 (aq fa (aq fb aJ))) ρ (zE eI):=⟨if b.v>a.v then b.v else a.v,aW a.D b.D,λh=>by
 obtain⟨h1,h2⟩:=aA h;simp only[cT,aq,aJ,a.ok h1,b.ok h2,At,J7]⟩
def Mn(a:R fa ρ (zE eI))(b:R fb ρ (zE eI)):R (cT Yn (aq fa (aq fb aJ))) ρ (zE eI):=⟨if b.v<a.v then b.v else a.v,aW a.D b.D,λh=>by
 obtain⟨h1,h2⟩:=aA h;simp only[cT,aq,aJ,a.ok h1,b.ok h2,At,Yn]⟩
def W7(P:Dt->Bool)(a:R fa ρ (zE e)):R (Lr P fa) ρ (zE eB):=⟨P (e a.v),a.D,λh=>by
 simp only[Lr,b1,a.ok h,At,mD,toD,zl,ZN]⟩
theorem Bi:∀l:AZ,Hx (l.map eS)=U l
 |[]=>rfl
 |a::l=>by simp only[zr,Hx,Bi l,At]
def gX(s:AJ)(a:RL fa ρ eS):R (b1 (Q5 s) fa) ρ (zE eS):=⟨Txt.join s a.v,aW a.D (U ((a.v.map (·.length)).sum+a.v.length*s.length<=100000)),λh=>by
 obtain⟨h,b⟩:=aA h;simp only[b1,a.ok h,At,Q5,a.lk,Bi];exact zk b⟩
def W8(a:RL fa ρ eS):R (cT Hz (aq fa aJ)) ρ (oE eS):=⟨qM a.v,aW a.D (U (a.v.length<64)),λh=>by
 obtain⟨h,b⟩:=aA h;simp only[cT,aq,aJ,a.ok h,At,Hz,a.lk,Bi];exact zk b⟩
def Pw(a:R fa ρ (zE e))(g:α->β)(e':β->Dt)(lo hi:O Int)(c:fl ρ=U lo)(b:fh ρ=U hi)(h:∀x,EL (.z (e x)) lo hi=U (.z (e' (g x)))):R (Um fa fl fh) ρ (zE e'):=⟨g a.v,a.D,λhd=>by
 simp only[Um,a.ok hd,c,b,At,h]⟩
def Zz:Dt->Int
 |.int i=>i
 |_=>0
def RG:Dt->AJ
 |.str x=>x
 |_=>⟨#[]⟩
def rR(a:R f ρ (zE eD))(g:Dt->α)(e:α->Dt):R f ρ (zE e):=⟨g a.v,aW a.D (U (a.v=e (g a.v))),λhd=>by
 obtain⟨h1,h2⟩:=aA hd;have h2:a.v=e (g a.v):=h2;rw[a.ok h1];show U (Bx.z a.v)=U (Bx.z (e (g a.v)));rw[<-h2]⟩
class C2 {α:Type} (e:α->Dt):Prop where
 f:∀a,Al (e a)=true
instance:C2 eI:=⟨λ_=>rfl⟩
instance:C2 eB:=⟨λ_=>rfl⟩
instance:C2 eS:=⟨λ_=>rfl⟩
theorem Iv[DecidableEq α][B7 e n][C2 e](x:α)(ys:Z α):CH (e x) (ys.map e)=U (decide (x∈ys)):=by
 unfold CH;rw[zk ⟨C2.f x,by rw[List.all_map];exact List.all_eq_true.mpr λy _=>C2.f y⟩,List.any_map];congr 1;rw[JU,JI,decide_eq_true_iff];constructor
 ·rintro⟨y,a,h⟩;simp only[Function.comp,B7.eq]at h;by_cases e1:y=x
  ·rw[<-e1];exact a
  ·simp only[e1,kC]at h;cases h
 ·intro h;exact⟨x,h,by simp only[Function.comp,B7.eq,Kb]⟩
theorem eg(h:rG b=U ds):EC (.z d) b=CH d ds:=by
 cases b with
 |z a=>cases a<;>cases h;cases d<;>rfl
 |l a=>cases h;cases d<;>rfl
 |o a=>cases h;cases d<;>rfl
 |n a=>cases h
 |m a=>cases h
theorem W9:EC (.z d) (.z (.tup ds))=CH d ds:=by cases d<;>rfl
def Nl[DecidableEq α][B7 e n][C2 e](a:R fa ρ (zE e))(b:RL fb ρ e):R (b2 Cc fa fb) ρ (zE eB):=⟨decide (a.v∈b.v),aW a.D b.D,λh=>by
 obtain⟨h1,h2⟩:=aA h;simp only[b2,a.ok h1,b.ok h2,At,Cc,eg b.lk,Iv]⟩
def VA[DecidableEq α][B7 e n][C2 e](a:R fa ρ (zE e))(b:R fb ρ (zE (eT e))):R (b2 Cc fa fb) ρ (zE eB):=⟨decide (a.v∈b.v),aW a.D b.D,λh=>by
 obtain⟨h1,h2⟩:=aA h;simp only[b2,a.ok h1,b.ok h2,At,Cc,W9,Iv]⟩
def Pc[DecidableEq α][B7 e n][C2 e](a:R fa ρ (zE e))(b:R fb ρ (zE (eT e))):R (b2 FV fa fb) ρ (zE eB):=⟨!decide (a.v∈b.v),aW a.D b.D,λh=>by
 obtain⟨h1,h2⟩:=aA h;simp only[b2,a.ok h1,b.ok h2,At,FV,W9,Iv]⟩
def UH(a:R fa ρ (zE eS))(b:R fb ρ (zE eS)):R (b2 Cc fa fb) ρ (zE eB):=⟨Lg a.v b.v,aW a.D b.D,λh=>by
 obtain⟨h1,h2⟩:=aA h;simp only[b2,a.ok h1,b.ok h2,At,Cc,EC]⟩
end
structure AR {γ:Type} (cA:γ->List Bx->Prop) (fs:Ev->Option (List Bx)) (ρ:Ev) where
 v:γ
 D:Option Prop
 bs:List Bx
 h:cA v bs
 ok:hold D->fs ρ=some bs
section
variable{ε σ:Type}{fd:Ev->O Bx}{fs:Ev->O (Z Bx)}{e:α->Dt}{e':β->Dt}{e'':γ->Dt}{e3:δ->Dt}
def aN:Unit->Z Bx->Prop:=λ_ bs=>bs=[]
def aZ(e:α->Dt)(t:γ->Z Bx->Prop):α×γ->Z Bx->Prop:=λx bs=>∃r,bs=.z (e x.1)::r/\t x.2 r
def aL(e:α->Dt)(t:γ->Z Bx->Prop):Z α×γ->Z Bx->Prop:=λx bs=>∃b r,bs=b::r/\rG b=U (x.1.map e)/\t x.2 r
def aV:AR aN aJ ρ:=⟨(),Y,[],rfl,λ_=>S⟩
def bF{t:γ->Z Bx->Prop}(a:R fa ρ (zE e))(r:AR t fs ρ):AR (aZ e t) (aq fa fs) ρ:=⟨(a.v,r.v),aW a.D r.D,_,⟨_,rfl,r.h⟩,λh=>by
 obtain⟨h1,h2⟩:=aA h;simp only[aq,a.ok h1,r.ok h2,At]⟩
def FW{t:γ->Z Bx->Prop}(a:RL fa ρ e)(r:AR t fs ρ):AR (aL e t) (aq fa fs) ρ:=⟨(a.v,r.v),aW a.D r.D,_,⟨_,_,rfl,a.lk,r.h⟩,λh=>by
 obtain⟨h1,h2⟩:=aA h;simp only[aq,a.ok h1,r.ok h2,At]⟩
def An{b:γ->Z Bx->Prop}{F:Z Bx->O Bx}{c:α->Bx}{T:γ->α}{d:γ->O Prop}(S:∀v bs,b v bs->bs.length=n/\(hold (d v)->F (bs.map lend)=U (c (T v))))(a:AR b fs ρ):R (bL n F fs) ρ c:=⟨T a.v,aW a.D (d a.v),λh=>by
 obtain⟨h1,h2⟩:=aA h;obtain⟨f,e⟩:=S a.v a.bs a.h;simp only[bL,a.ok h1,At,zk f,e h2]⟩
theorem VC{bs:Z Bx}{c:α->Bx}(x:R g (bs.map U++List.replicate (n-bs.length) Y) (λr=>As.rt (c r)))(h:hold x.D):cX n g bs=U (c x.v):=by
 unfold cX;rw[x.ok h];rfl
def Lv(xs:Z α)(P:α->O Prop):O Prop:=U (∀x∈xs,hold (P x))
theorem RJ{fs:Ev->O (Z Dt)}{b:Ev}{g:α->Z Dt}{π:α->Bool}:∀xs:Z α,(∀x∈xs,∃a,gt (e x) b=U a/\p a=U (π x)/\(π x=true->fs a=U (g x)))->Fy gt p fs b (xs.map e)=U ((xs.filter π).flatMap g)
 |[],_=>rfl
 |x::xs,h=>by
  obtain⟨a,h1,h2,d⟩:=h x (zg ..);have c:=RJ (g:=g) (π:=π) xs λy f=>h y (zi _ f);cases hp:π x with
  |true=>simp only[zr,Fy,h1,At,h2,hp,qA,d hp,c,kK,List.flatMap_cons]
  |false=>simp only[zr,Fy,h1,At,h2,hp,c,kK,zl,ZN]
theorem RK{g:α->β}:∀xs:Z α,xs.flatMap (λx=>[e' (g x)])=(xs.map g).map e'
 |[]=>rfl
 |x::xs=>by rw[List.flatMap_cons,RK xs];rfl
theorem Iw{b:Ev}{g:α->β}{π:α->Bool}(xs:Z α)(h:∀x∈xs,∃a,gt (e x) b=U a/\p a=U (π x)/\(π x=true->fe a=U (.z (e' (g x))))):Ef gt p fe b (xs.map e)=U (((xs.filter π).map g).map e'):=by
 rw[<-RK];exact RJ xs λx hx=>let ⟨a,h1,h2,h3⟩:=h x hx;⟨a,h1,h2,λhp=>by rw[h3 hp];rfl⟩
theorem C4{b:Ev}{g:α->β}(xs:Z α)(h:∀x∈xs,∃a,gt (e x) b=U a/\fe a=U (.z (e' (g x)))):Ef gt FN fe b (xs.map e)=U ((xs.map g).map e'):=
 (Iw (π:=λ_=>true) xs λx hx=>let ⟨a,h1,h2⟩:=h x hx;⟨a,h1,rfl,λ_=>h2⟩).trans (by rw[List.filter_eq_self.mpr λ_ _=>S])
def Nd(it:R fi ρ (iE e))(c:α->Ev)(hg:∀x,gt (e x) (kE is ρ++List.replicate n Y)=U (c x))(b:∀x,R fe (c x) (zE e')):R (eU fi gt FN fe is n) ρ (oE e'):=⟨it.v.map λx=>(b x).v,aW (aW it.D (U (it.v.length<=100000))) (Lv it.v λx=>(b x).D),λh=>by
 obtain⟨h,a⟩:=aA h;obtain⟨h1,h2⟩:=aA h;have a:∀x∈it.v,hold (b x).D:=a;simp only[eU,it.ok h1,At,zh,zk (show it.v.length<=100000 from h2),C4 it.v λx hx=>⟨c x,hg x,(b x).ok (a x hx)⟩]⟩
def Bl(it:R fi ρ (iE e))(a:α->Ev)(hg:∀x,gt (e x) (kE is ρ++List.replicate n Y)=U (a x))(b:∀x,R fe (a x) (zE e'))(hb:∀x,(b x).D=Y):R (eU fi gt FN fe is n) ρ (oE e'):=⟨it.v.map λx=>(b x).v,aW it.D (U (it.v.length<=100000)),λh=>by
 obtain⟨h1,h2⟩:=aA h;simp only[eU,it.ok h1,At,zh,zk (show it.v.length<=100000 from h2),C4 it.v λx hx=>⟨a x,hg x,(b x).ok (by rw[hb x];trivial)⟩]⟩
def Xa(it:R fi ρ (iE e))(c:α->Ev)(hg:∀x,gt (e x) (kE is ρ++List.replicate n Y)=U (c x))(t:∀x,R p (c x) tE)(b:∀x,R fe (c x) (zE e')):R (eU fi gt p fe is n) ρ (oE e'):=⟨(it.v.filter λx=>(t x).v).map λx=>(b x).v,aW (aW it.D (U (it.v.length<=100000))) (Lv it.v λx=>aW (t x).D (Ik ((t x).v=true) (b x).D)),λh=>by
 obtain⟨h,a⟩:=aA h;obtain⟨h1,h2⟩:=aA h;have a:∀x∈it.v,hold (aW (t x).D (Ik ((t x).v=true) (b x).D)):=a;simp only[eU,it.ok h1,At,zh,zk (show it.v.length<=100000 from h2),Iw it.v λx hx=>⟨c x,hg x,(t x).ok (aA (a x hx)).1,λd=>(b x).ok (lO (aA (a x hx)).2 d)⟩]⟩
def iG(it:R fi ρ (iE e))(a:α->Ev)(hg:∀x,gt (e x) (kE is ρ++List.replicate n Y)=U (a x))(t:∀x,R p (a x) tE)(b:∀x,R fe (a x) (zE e'))(c:∀x,(t x).D=Y)(hb:∀x,(b x).D=Y):R (eU fi gt p fe is n) ρ (oE e'):=⟨(it.v.filter λx=>(t x).v).map λx=>(b x).v,aW it.D (U (it.v.length<=100000)),λh=>by
 obtain⟨h1,h2⟩:=aA h;simp only[eU,it.ok h1,At,zh,zk (show it.v.length<=100000 from h2),Iw it.v λx hx=>⟨a x,hg x,(t x).ok (by rw[c x];trivial),λ_=>(b x).ok (by rw[hb x];trivial)⟩]⟩
def FZ(a:RL fa ρ e):R (Hw fa) ρ (iE e):=⟨a.v,a.D,λh=>by
 have:F2 a.b=U (a.v.map e):=by
  have:=a.lk
  revert this
  generalize a.b=b;generalize a.v.map e=ds;intro this;cases b with
  |z d=>cases d<;>cases this;rfl
  |l d=>cases this;rfl
  |o d=>cases this;rfl
  |n d=>cases this
  |m d _=>cases this
 simp only[Hw,a.ok h,At,this]⟩
def YX(a:R fa ρ (zE (eT e))):R (Hw fa) ρ (iE e):=⟨a.v,a.D,λh=>by simp only[Hw,a.ok h,At,F2]⟩
def CA(x:AJ):AZ:=x.cps.toList.map λc=>⟨#[c]⟩
theorem hB(x:AJ):BI x=(CA x).map eS:=by
 unfold BI CA;rw[qB];rfl
def DV:Dt->Z Dt
 |.tup ds=>ds
 |.lst ds=>ds
 |.str x=>BI x
 |_=>[]
def UU(a:R fa ρ (zE eD)):R (Hw fa) ρ (iE eD):=⟨DV a.v,aW a.D (U (Ox a.v=true)),λh=>by
 obtain⟨h,b⟩:=aA h;have b:Ox a.v=true:=b;simp only[Hw,a.ok h,At];cases c:a.v<;>rw[c]at b<;>first|(cases b;done)|(simp only[F2,DV,iE,eD,List.map_id_fun',id])⟩
def GY(a:R fa ρ (oE e)):R (D4 fa) ρ (iE e):=⟨a.v,a.D,λh=>by simp only[D4,a.ok h,At,EV]⟩
def MI(a:R fa ρ (zE (eT e))):R (D4 fa) ρ (iE e):=⟨a.v,a.D,λh=>by simp only[D4,a.ok h,At,EV]⟩
def rng(i:Int)(n:Nat):Z Int:=(List.range n).map λk:Nat=>i+(k:Int)
theorem OX(i:Int)(n:Nat):QD i n=(rng i n).map eI:=by
 unfold QD rng;rw[qB];rfl
def Rg(j:Int):Prop:=-4611686018427387904<=j/\j<4611686018427387904
def Mp(a:R fa ρ (zE eI)):R (Zv (aq fa aJ)) ρ (iE eI):=⟨rng 0 a.v.toNat,aW a.D (U (Rg a.v)),λh=>by
 obtain⟨h,b⟩:=aA h;simp only[Zv,aq,aJ,a.ok h,At];show(if -(2 ^ 62)<=a.v/\a.v<2 ^ 62 then U (QD 0 a.v.toNat)else Y)=_;exact(zk b).trans (by rw[OX])⟩
end
section
variable{ε σ τ:Type}{fd:Ev->O Bx}{fs:Ev->O (Z Bx)}{e:α->Dt}{e':β->Dt}{g1 g2 k:Ev->O As}{cO:γ->As}
theorem lQ{ρ':Ev}(h:g1 ρ=U (.nx ρ')):aD g1 k ρ=k ρ':=by
 unfold aD;rw[h];rfl
def bh(x:R (aD g (aD g1 k)) ρ cO):R (aD (aD g g1) k) ρ cO:=⟨x.v,x.D,λh=>by
 rw[<-x.ok h];unfold aD;cases g ρ with
 |none=>rfl
 |some o=>cases o<;>rfl⟩
def bR(x:R k ρ cO):R (aD dU k) ρ cO:=⟨x.v,x.D,λh=>x.ok h⟩
def bJ(x:γ)(h:cO x=.nx (kill is ρ)):R (dj is) ρ cO:=⟨x,Y,λ_=>by rw[h];rfl⟩
def cN{c:α->Bx}(inj:α->γ)(a:R f ρ c)(h:∀x,cO (inj x)=.rt (c x))(b:∀x,EU (c x)=U (.rt (c x))):R (aD (fG f) k) ρ cO:=⟨inj a.v,a.D,λhd=>by
 have:fG f ρ=U (.rt (c a.v)):=by unfold fG;rw[a.ok hd,At,b]
 unfold aD;rw[this,h];rfl⟩
def Dy{c:α->Bx}(i:Nat)(inj:α->γ)(a:α)(hi:ρ[i]?=U (U (c a)))(h:∀x,cO (inj x)=.rt (c x))(b:∀x,EU (c x)=U (.rt (c x))):R (aD (Fw i) k) ρ cO:=⟨inj a,Y,λhd=>by
 have:Fw i ρ=U (.rt (c a)):=by unfold Fw;rw[hi];exact b a
 unfold aD;rw[this,h];rfl⟩
def bW{c:α->Bx}(i:Nat)(a:R f ρ c)(b:∀x,Yd ρ i (c x)=U (ρ.set i (U (c x))))(K:∀x,R k (ρ.set i (U (c x))) cO):R (aD (B0 i f) k) ρ cO:=⟨(K a.v).v,aW a.D (K a.v).D,λhd=>by
 obtain⟨h1,h2⟩:=aA hd;rw[lQ (ρ':=ρ.set i (U (c a.v))) (by unfold B0;rw[a.ok h1,At,b,At])];exact(K a.v).ok h2⟩
def Mq(a:R f ρ (zE e))(b:α->Ev)(hg:∀x,gt (e x) ρ=U (b x))(K:∀x,R k (b x) cO):R (aD (Q0 gt f) k) ρ cO:=⟨(K a.v).v,aW a.D (K a.v).D,λhd=>by
 obtain⟨h1,h2⟩:=aA hd;rw[lQ (ρ':=b a.v) (by unfold Q0;rw[a.ok h1,At];simp only[hg,At])];exact(K a.v).ok h2⟩
def MQ(i j:Nat)(a:R fa ρ (zE e))(b:R fb ρ (zE e'))(K:∀x y,R k ((ρ.set i (U (.z (e x)))).set j (U (.z (e' y)))) cO):R (aD (FR i j (aq fa (aq fb aJ))) k) ρ cO:=⟨(K a.v b.v).v,aW (aW a.D b.D) (K a.v b.v).D,λhd=>by
 obtain⟨h1,c⟩:=aA hd;obtain⟨h1,h2⟩:=aA h1;rw[lQ (ρ':=(ρ.set i (U (.z (e a.v)))).set j (U (.z (e' b.v)))) (by unfold FR;simp only[aq,aJ,a.ok h1,b.ok h2,At,GI])];exact(K a.v b.v).ok c⟩
def Er(i:Nat)(xs:Z α)(hi:ρ[i]?=U (U (.o (xs.map e))))(a:R f ρ (zE e))(K:∀ys:Z α,R k (ρ.set i (U (.o (ys.map e)))) cO):R (aD (J6 i f) k) ρ cO:=⟨(K (xs++[a.v])).v,aW (aW a.D (U (Qi xs.length))) (K (xs++[a.v])).D,λhd=>by
 obtain⟨h1,b⟩:=aA hd;obtain⟨h1,h2⟩:=aA h1;have h2:xs.length<=1000000:=h2;rw[lQ (ρ':=ρ.set i (U (.o ((xs++[a.v]).map e)))) (by
  unfold J6;rw[a.ok h1,At];simp only[Fm,hi,zh,qk,zr,JY];rw[zk (Nat.lt_of_le_of_lt h2 (by decide))])]
 exact(K _).ok b⟩
def j6(t:R p ρ tE)(a:R (aD g1 k) ρ cO)(b:R (aD g2 k) ρ cO):R (aD (yd p g1 g2) k) ρ cO:=⟨if t.v=true then a.v else b.v,aW t.D (aW (Ik (t.v=true) a.D) (Ik (t.v=false) b.D)),λhd=>by
 obtain⟨h1,h2⟩:=aA hd;obtain⟨h2,f⟩:=aA h2;have e1:∀c,t.v=c->aD (yd p g1 g2) k ρ=aD (if c=true then g1 else g2) k ρ:=λc e=>by
  unfold aD yd;rw[t.ok h1,At,e];cases c<;>rfl
 cases d:t.v with
 |true=>rw[e1 true d];simp only[qA];exact a.ok (lO h2 d)
 |false=>rw[e1 false d];simp only[zl,ZN];exact b.ok (lO f d)⟩
def Bm(E:σ->Ev)(t:R p ρ tE)(a:R g1 ρ (λs=>As.nx (E s)))(b:R g2 ρ (λs=>As.nx (E s)))(K:∀s,R k (E s) cO):R (aD (yd p g1 g2) k) ρ cO:=⟨(K (if t.v=true then a.v else b.v)).v,aW (aW t.D (aW (Ik (t.v=true) a.D) (Ik (t.v=false) b.D))) (K (if t.v=true then a.v else b.v)).D,λhd=>by
 obtain⟨h,d⟩:=aA hd;obtain⟨h1,h2⟩:=aA h;obtain⟨h2,e⟩:=aA h2;rw[lQ (ρ':=E (if t.v=true then a.v else b.v)) (by
  unfold yd;rw[t.ok h1,At];cases c:t.v with
  |true=>simp only[qA];exact a.ok (lO h2 c)
  |false=>simp only[zl,ZN];exact b.ok (lO e c))]
 exact(K _).ok d⟩
def mF(step:σ->α->σ)(P:σ->α->O Prop):Z α->σ->Prop
 |[],_=>True
 |x::xs,s=>hold (P s x)/\mF step P xs (step s x)
theorem Bo{gb:Ev->O As}(E:σ->Ev)(a:σ->α->Ev)(hg:∀s x,gt (e x) (E s)=U (a s x))(body:∀s x,R gb (a s x) (λs=>As.nx (E s))):∀(xs:Z α) (s:σ),mF (λs x=>(body s x).v) (λs x=>(body s x).D) xs s->uh gt gb (xs.map e) (E s)=U (.nx (E (xs.foldl (λs x=>(body s x).v) s)))
 |[],s,_=>rfl
 |x::xs,s,h=>by
  simp only[zr,uh,hg,At,(body s x).ok h.1,qo];exact Bo E a hg body xs _ h.2
def Mr(E:σ->Ev)(a:σ)(d:ρ=E a)(it:R fi ρ (iE e))(b:σ->α->Ev)(hg:∀s x,gt (e x) (E s)=U (b s x))(body:∀s x,R gb (b s x) (λs=>As.nx (E s)))(K:∀s,R k (E s) cO):R (aD (rH fi gt gb) k) ρ cO:=⟨(K (it.v.foldl (λs x=>(body s x).v) a)).v,aW (aW it.D (U (mF (λs x=>(body s x).v) (λs x=>(body s x).D) it.v a))) (K (it.v.foldl (λs x=>(body s x).v) a)).D,λhd=>by
 obtain⟨h,c⟩:=aA hd;obtain⟨h1,h2⟩:=aA h;rw[lQ (ρ':=E (it.v.foldl (λs x=>(body s x).v) a)) (by
  unfold rH;rw[it.ok h1,At];subst d;exact Bo E b hg body it.v a h2)]
 exact(K _).ok c⟩
def Sb(E:σ->Ev)(a:σ)(d:ρ=E a)(it:R fi ρ (iE e))(b:σ->α->Ev)(hg:∀s x,gt (e x) (E s)=U (b s x))(body:∀s x,R gb (b s x) (λs=>As.nx (E s)))(hb:∀s x,(body s x).D=Y)(K:∀s,R k (E s) cO):R (aD (rH fi gt gb) k) ρ cO:=⟨(K (it.v.foldl (λs x=>(body s x).v) a)).v,aW it.D (K (it.v.foldl (λs x=>(body s x).v) a)).D,λhd=>by
 obtain⟨h1,c⟩:=aA hd;have h2:∀(xs:Z α) (s:σ),mF (λs x=>(body s x).v) (λs x=>(body s x).D) xs s:=λxs=>by
  induction xs with
  |nil=>intro s;trivial
  |cons x xs f=>intro s;exact⟨by show hold (body s x).D;rw[hb s x];trivial,f _⟩
 rw[lQ (ρ':=E (it.v.foldl (λs x=>(body s x).v) a)) (by
  unfold rH;rw[it.ok h1,At];subst d;exact Bo E b hg body it.v a (h2 _ _))]
 exact(K _).ok c⟩
inductive oW (σ τ:Type) where
 |nx (s:σ)|rt (r:τ)|bk (s:σ)|ct (s:σ)
def cC(E:σ->Ev)(c:τ->Bx):oW σ τ->As
 |.nx s=>.nx (E s)
 |.rt r=>.rt (c r)
 |.bk s=>.bk (E s)
 |.ct s=>.ct (E s)
def uU(step:σ->α->oW σ τ):Z α->σ->oW σ τ
 |[],s=>.nx s
 |x::xs,s=>match step s x with
  |.nx s'=>uU step xs s'
  |.ct s'=>uU step xs s'
  |.bk s'=>.nx s'
  |.rt r=>.rt r
def Es(step:σ->α->oW σ τ)(P:σ->α->O Prop):Z α->σ->Prop
 |[],_=>True
 |x::xs,s=>hold (P s x)/\match step s x with
  |.nx s'=>Es step P xs s'
  |.ct s'=>Es step P xs s'
  |.bk _=>True
  |.rt _=>True
theorem Oz{c:τ->Bx}(E:σ->Ev)(a:σ->α->Ev)(hg:∀s x,gt (e x) (E s)=U (a s x))(body:∀s x,R gb (a s x) (cC E c)):∀(xs:Z α) (s:σ),Es (λs x=>(body s x).v) (λs x=>(body s x).D) xs s->uh gt gb (xs.map e) (E s)=U (cC E c (uU (λs x=>(body s x).v) xs s))
 |[],s,_=>rfl
 |x::xs,s,h=>by
  obtain⟨h1,h2⟩:=h;dsimp only at h2;simp only[zr,uh,hg,At,(body s x).ok h1,uU]
  revert h2
  cases(body s x).v with
  |nx s'=>intro h2;exact Oz E a hg body xs s' h2
  |ct s'=>intro h2;exact Oz E a hg body xs s' h2
  |bk s'=>intro _;rfl
  |rt r=>intro _;rfl
theorem Iz(step:σ->α->oW σ τ):∀(xs:Z α) (s:σ),(∃s',uU step xs s=.nx s')\/∃r,uU step xs s=.rt r
 |[],s=>.inl ⟨s,rfl⟩
 |x::xs,s=>by
  unfold uU;cases step s x with
  |nx s'=>exact Iz step xs s'
  |ct s'=>exact Iz step xs s'
  |bk s'=>exact .inl ⟨s',rfl⟩
  |rt r=>exact .inr ⟨r,rfl⟩
def BO(r:oW σ τ)(inj:τ->γ)(K:σ->γ):γ:=match r with
 |.rt r=>inj r
 |.nx s=>K s
 |.bk s=>K s
 |.ct s=>K s
def yu(r:oW σ τ)(K:σ->Prop):Prop:=match r with
 |.rt _=>True
 |.nx s=>K s
 |.bk s=>K s
 |.ct s=>K s
def Xb(r:oW σ τ)(K:σ->O Prop):O Prop:=U (yu r λs=>hold (K s))
def Ve{c:τ->Bx}(E:σ->Ev)(a:σ)(f:ρ=E a)(it:R fi ρ (iE e))(b:σ->α->Ev)(hg:∀s x,gt (e x) (E s)=U (b s x))(body:∀s x,R gb (b s x) (cC E c))(inj:τ->γ)(g:∀r,cO (inj r)=.rt (c r))(K:∀s,R k (E s) cO):R (aD (rH fi gt gb) k) ρ cO:=⟨BO (uU (λs x=>(body s x).v) it.v a) inj λs=>(K s).v,aW (aW it.D (U (Es (λs x=>(body s x).v) (λs x=>(body s x).D) it.v a))) (Xb (uU (λs x=>(body s x).v) it.v a) λs=>(K s).D),λhd=>by
 obtain⟨h,d⟩:=aA hd;obtain⟨h1,h2⟩:=aA h;have e1:rH fi gt gb ρ=U (cC E c (uU (λs x=>(body s x).v) it.v a)):=by
  unfold rH;rw[it.ok h1,At];subst f;exact Oz E b hg body it.v a h2
 rcases Iz (λs x=>(body s x).v) it.v a with⟨s',es⟩|⟨r,es⟩
 ·rw[es]at e1 d ⊢;rw[lQ e1];exact(K s').ok d
 ·rw[es]at e1 ⊢;show aD (rH fi gt gb) k ρ=U (cO (inj r));unfold aD;rw[e1,g];rfl⟩
theorem XA(h:ρ[i]?=U (U (.l ds))):zq i gt gb ρ=uh gt gb ds ρ:=by unfold zq;rw[h]
theorem MS(h:ρ[i]?=U (U (.z (.tup ds)))):zq i gt gb ρ=uh gt gb ds ρ:=by unfold zq;rw[h];rfl
theorem gN(h:ρ[i]?=U (U (.z (.lst ds)))):zq i gt gb ρ=uh gt gb ds ρ:=by unfold zq;rw[h];rfl
theorem Vf(hp:Lp b ds)(h:ρ[i]?=U (U b)):zq i gt gb ρ=uh gt gb ds ρ:=by
 rcases hp with rfl|rfl
 ·exact gN h
 ·exact XA h
def IK(i:Nat){ρ':Ev}(xs:Z α)(f:zq i gt gb ρ=uh gt gb (xs.map e) ρ')(E:σ->Ev)(a:σ)(d:ρ'=E a)(b:σ->α->Ev)(hg:∀s x,gt (e x) (E s)=U (b s x))(body:∀s x,R gb (b s x) (λs=>As.nx (E s)))(K:∀s,R k (E s) cO):R (aD (zq i gt gb) k) ρ cO:=⟨(K (xs.foldl (λs x=>(body s x).v) a)).v,aW (U (mF (λs x=>(body s x).v) (λs x=>(body s x).D) xs a)) (K (xs.foldl (λs x=>(body s x).v) a)).D,λhd=>by
 obtain⟨h2,c⟩:=aA hd;rw[lQ (ρ':=E (xs.foldl (λs x=>(body s x).v) a)) (by
  rw[f,d];exact Bo E b hg body xs a h2)]
 exact(K _).ok c⟩
class Ky {κ:Type} (c:κ->AY):Prop where
 inj:∀a b,c a=c b->a=b
abbrev kS:AJ->AY:=Sum.inr
abbrev kI:Int->AY:=Sum.inl
instance:Ky kS:=⟨λ_ _ h=>by cases h;rfl⟩
instance:Ky kI:=⟨λ_ _ h=>by cases h;rfl⟩
abbrev mE(e:α->Dt):Z (AJ×α)->Bx:=λm=>.m (m.map λq=>(kS q.1,e q.2)) Y
abbrev nE(e:α->Dt):Z (AJ×α)->Bx:=λm=>.n (m.map λq=>(kS q.1,e q.2))
section
variable [DecidableEq κ] {c:κ->AY}
def look[Inhabited α](m:Z (κ×α))(x:κ):α:=((m.find? λq=>decide (q.1=x)).map (·.2)).getD default
def has(m:Z (κ×α))(x:κ):Bool:=m.any λq=>decide (q.1=x)
def put(m:Z (κ×α))(x:κ)(a:α):Z (κ×α):=if has m x=true then m.map (λq=>if q.1=x then(q.1,a)else q)else m++[(x,a)]
theorem IX[Ky c](a b:κ):decide (c a=c b)=decide (a=b):=by
 by_cases h:a=b
 ·rw[h];simp
 ·rw[z5 h,z5 λz=>h (Ky.inj (c:=c) _ _ z)]
theorem Xs[Ky c](m:Z (κ×α))(x:κ):HB (m.map λq=>(c q.1,e q.2)) (c x)=((m.find? λq=>decide (q.1=x)).map (·.2)).map e:=by
 unfold HB;rw[List.find?_map];simp only[Option.map_map,Function.comp_def,IX]
theorem SH[Ky c][Inhabited α]{m:Z (κ×α)}{x:κ}(h:has m x=true):HB (m.map λq=>(c q.1,e q.2)) (c x)=U (e (look m x)):=by
 rw[Xs];unfold look;unfold has at h;rw[JI]at h;obtain⟨q,b,hx⟩:=h;cases a:m.find? λq=>decide (q.1=x)with
 |none=>exact absurd hx (by simpa using List.find?_eq_none.mp a q b)
 |some q=>rfl
theorem Xc[Ky c](m:Z (κ×α))(x:κ)(a:α):N7 (m.map λq=>(c q.1,e q.2)) (c x) (e a)=(put m x a).map λq=>(c q.1,e q.2):=by
 unfold N7 put has;rw[List.any_map];simp only[Function.comp_def,IX];by_cases h:(m.any λq=>decide (q.1=x))=true
 ·rw[zk h,zk h];rw[qB,qB];refine Qb λq _=>?_;simp only[Function.comp];by_cases b:q.1=x
  ·simp[b]
  ·have h':¬ c q.1=c x:=λz=>b (Ky.inj (c:=c) _ _ z);simp[b,h']
 ·rw[zw h,zw h];simp
end
theorem RM:∀m:Z (AJ×α),Yo (m.map λq=>(kS q.1,e q.2))=U (m.map (·.1))
 |[]=>rfl
 |q::m=>by rw[zr,Yo,RM m,At];rfl
def lR[Inhabited α](a:R fa ρ (nE e))(b:R fb ρ (zE eS)):R (b2 nZ fa fb) ρ (zE e):=⟨look a.v b.v,aW (aW a.D b.D) (U (has a.v b.v=true)),λh=>by
 obtain⟨h,d⟩:=aA h;obtain⟨h1,h2⟩:=aA h;simp only[b2,a.ok h1,b.ok h2,At,nZ,Co,SH (c:=kS) (show has a.v b.v=true from d)]⟩
end
section
variable{fs:Ev->O AZ}{e:α->Dt}
theorem Bp(h:rG b=U ds):uo b=U ds:=by
 cases b with
 |z d=>cases d<;>first|exact h|(cases h;done)
 |l _=>exact h
 |o _=>exact h
 |n _=>cases h
 |m _ _=>cases h
end
end P1
namespace P1
open L2 S1 S6
class rT {α:Type} (e:α->Dt) where
 k:α->AY
 ok:∀a,GN (e a)=some (k a)
 inj:∀a b,k a=k b->a=b
 same:∀a b,Wv (k a) (k b)=true
instance:rT eI:=⟨λi=>.inl i,λ_=>rfl,λa b h=>by cases h;rfl,λ_ _=>rfl⟩
instance:rT eS:=⟨λi=>.inr i,λ_=>rfl,λa b h=>by cases h;rfl,λ_ _=>rfl⟩
class qP {α:Type} (e:α->Dt) where
 k:α->List AY
 ok:∀a,HF (e a)=some (k a)
 inj:∀a b,k a=k b->a=b
 shp:∀a b,Ob (k a) (k b)=true
 ne:∀a,(k a).isEmpty=false
class Vg {α:Type} (e:α->Dt) [qP e]:Prop where
 tx:∀a,Oj (qP.k e a)=true
section
variable{e:α->Dt}{e':β->Dt}{e'':γ->Dt}{e3:δ->Dt}
instance [rT e] [rT e']:qP (Ct e e'):=⟨λq=>[rT.k e q.1,rT.k e' q.2],λq=>by simp only[HF,Ej,rT.ok,At],λa b h=>by
 simp only[JS,and_true]at h;exact Prod.ext (rT.inj _ _ h.1) (rT.inj _ _ h.2),λa b=>by simp[Ob,rT.same],λ_=>rfl⟩
instance [rT e] [rT e'] [rT e'']:qP (DC e e' e''):=⟨λq=>[rT.k e q.1,rT.k e' q.2.1,rT.k e'' q.2.2],λq=>by simp only[HF,Ej,rT.ok,At],λa b h=>by
 simp only[JS,and_true]at h;exact Prod.ext (rT.inj _ _ h.1) (Prod.ext (rT.inj _ _ h.2.1) (rT.inj _ _ h.2.2)),λa b=>by simp[Ob,rT.same],λ_=>rfl⟩
instance [rT e] [rT e'] [rT e''] [rT e3]:qP (Il e e' e'' e3):=⟨λq=>[rT.k e q.1,rT.k e' q.2.1,rT.k e'' q.2.2.1,rT.k e3 q.2.2.2],λq=>by simp only[HF,Ej,rT.ok,At],λa b h=>by
 simp only[JS,and_true]at h;exact Prod.ext (rT.inj _ _ h.1) (Prod.ext (rT.inj _ _ h.2.1) (Prod.ext (rT.inj _ _ h.2.2.1) (rT.inj _ _ h.2.2.2))),λa b=>by simp[Ob,rT.same],λ_=>rfl⟩
instance [rT e]:Vg (Ct e eS):=⟨λa=>by simp[qP.k,Oj,rT.k]⟩
instance [rT e] [rT e']:Vg (DC e eS e'):=⟨λa=>by simp[qP.k,Oj,rT.k]⟩
instance [rT e] [rT e'] [rT e'']:Vg (Il e eS e' e''):=⟨λa=>by simp[qP.k,Oj,rT.k]⟩
variable{fs:Ev->O (Z (Z AY))}
theorem uV[qP e]:∀xs:Z α,uQ (xs.map e)=U (xs.map (qP.k e))
 |[]=>rfl
 |x::xs=>by simp only[zr,uQ,qP.ok,At,uV xs]
def TF(e:α->Dt)[qP e](a b:α):Bool:=w6 (qP.k e a) (qP.k e b)
def oG(e:α->Dt)[qP e](xs:Z α):Z α:=xs.mergeSort (TF e)
theorem jh[qP e](xs:Z α):(oG e xs).Perm xs:=Kx ..
theorem uW[qP e](xs:Z α):(oG e xs).Pairwise (λa b=>TF e a b=true):=kQ (le:=TF e) (λa b c=>uP (qP.k e a) (qP.k e b) (qP.k e c)) (λa b=>zA (qP.k e a) (qP.k e b)) xs
theorem IV[qP e]{a b:α}(h:TF e a b=true)(h':TF e b a=true):a=b:=qP.inj _ _ (Dp h h')
theorem RN[qP e]{xs out:Z α}(hp:out.Perm xs)(hs:out.Pairwise (λa b=>TF e a b=true)):out=oG e xs:=rN (λ_ _=>IV) (hp.trans (jh xs).symm) hs (uW xs)
theorem Ms[qP e](xs:Z α):lN (xs.map (qP.k e))=(oG e xs).map (qP.k e):=by
 refine(uw ((jh xs).map _) (List.pairwise_map.mpr (uW xs))).symm
theorem NU[qP e](xs:Z α):(xs.map (qP.k e)).map BH=xs.map e:=by
 rw[qB];exact Qb λa _=>(Rb (qP.ok a)).symm
theorem RQ[qP e](xs:Z α)(h:xs.length<64):FP (xs.map (qP.k e))=true:=by
 simp only[FP,ZY,ZE,qh,QA,zh,kD,forall_exists_index,and_imp,forall_apply_eq_imp_iff₂];exact⟨h,λa _=>qP.ne a,λa _ b _=>qP.shp a b⟩
def df[qP e](a:RL fa ρ e):R (cT oV (aq fa aJ)) ρ (oE e):=⟨oG e a.v,aW a.D (U (a.v.length<64)),λh=>by
 obtain⟨h,b⟩:=aA h;simp only[cT,aq,aJ,a.ok h,At,oV,Bp a.lk,uV,RQ a.v b,qA,Ms,NU]⟩
abbrev uE(e:α->Dt)[qP e]:Z α->Z (Z AY):=λxs=>xs.map (qP.k e)
def MV[qP e][Vg e](a:RL fa ρ e):R (Kc fa) ρ (uE e):=⟨a.v,aW a.D (U (a.v.length<=64)),λh=>by
 obtain⟨h,b⟩:=aA h;have b:a.v.length<=64:=b;have c:(a.v.map (qP.k e)).all Oj=true:=by
  rw[List.all_map,qh];exact λx _=>Vg.tx x
 simp only[Kc,a.ok h,At,IT,Bp a.lk,uV];rw[zk ⟨by rw[zh];exact b,c⟩]⟩
def T0[qP e][Vg e](a:R fa ρ (zE (eT e))):R (Kc fa) ρ (uE e):=⟨a.v,aW a.D (U (a.v.length<=64)),λh=>by
 obtain⟨h,b⟩:=aA h;have b:a.v.length<=64:=b;have c:(a.v.map (qP.k e)).all Oj=true:=by
  rw[List.all_map,qh];exact λx _=>Vg.tx x
 simp only[Kc,a.ok h,At,IT,uo,eT,uV];rw[zk ⟨by rw[zh];exact b,c⟩]⟩
def YR[DecidableEq α][qP e](a:R fs ρ (uE e)):R (WQ fs) ρ (zE eI):=⟨((yJ a.v).length:Int),aW a.D (U (a.v.length<=64)),λh=>by
 obtain⟨h,b⟩:=aA h;have b:a.v.length<=64:=b;simp only[WQ,a.ok h,At];rw[zk (by rw[zh];exact b),GP qP.inj,zh]⟩
def O3[DecidableEq α][qP e](a:R fs ρ (uE e)):R (Ia fs) ρ (oE e):=⟨oG e (yJ a.v),aW a.D (U (a.v.length<64)),λh=>by
 obtain⟨h,b⟩:=aA h;simp only[Ia,a.ok h,At,RQ a.v b,qA,GP qP.inj,Ms,NU]⟩
end
end P1
namespace P1
open L2
section
variable{fd:Ev->O Bx}{fs:Ev->O (Z Bx)}{e:α->Dt}{e':β->Dt}{k:Ev->O As}{cO:γ->As}
abbrev mW(w:O A1)(e:α->Dt):Z (AJ×α)->Bx:=λm=>.m (m.map λq=>(kS q.1,e q.2)) w
def aM(e:α->Dt)(t:γ->Z Bx->Prop):Z (AJ×α)×γ->Z Bx->Prop:=λx bs=>∃b r,bs=b::r/\(b=nE e x.1\/b=mE e x.1)/\t x.2 r
def HR{t:γ->Z Bx->Prop}(a:R fa ρ (nE e))(r:AR t fs ρ):AR (aM e t) (aq fa fs) ρ:=⟨(a.v,r.v),aW a.D r.D,_,⟨_,_,rfl,.inl rfl,r.h⟩,λh=>by
 obtain⟨h1,h2⟩:=aA h;simp only[aq,a.ok h1,r.ok h2,At]⟩
def cE{t:γ->Z Bx->Prop}(a:R fa ρ (mE e))(r:AR t fs ρ):AR (aM e t) (aq fa fs) ρ:=⟨(a.v,r.v),aW a.D r.D,_,⟨_,_,rfl,.inr rfl,r.h⟩,λh=>by
 obtain⟨h1,h2⟩:=aA h;simp only[aq,a.ok h1,r.ok h2,At]⟩
def Xd(w:O A1)(i:Nat)(m:Z (AJ×α))(hi:ρ[i]?=U (U (mW w e m)))(a:R fa ρ (zE e))(b:R fb ρ (zE eS))(K:∀f:Z (AJ×α),R k (ρ.set i (U (mW w e f))) cO):R (aD (Wr i fa fb) k) ρ cO:=⟨(K (put m b.v a.v)).v,aW (aW (aW a.D b.D) (U (m.length<1000))) (K (put m b.v a.v)).D,λhd=>by
 obtain⟨h,c⟩:=aA hd;obtain⟨h,d⟩:=aA h;obtain⟨h1,h2⟩:=aA h;rw[lQ (ρ':=ρ.set i (U (mW w e (put m b.v a.v)))) (by
  unfold Wr;rw[a.ok h1,At,b.ok h2,At];simp only[Q6,Co,At,hi,mW,zh,zk (show m.length<1000 from d),Xc])]
 exact(K _).ok c⟩
def FA(a:Z (AJ×β)):Z (AJ×β):=a.foldl (λm q=>put m q.1 q.2) []
theorem Vh(a:Z (AJ×β)):dictOf (a.map (Ct eS e'))=(FA a).map λq=>(kS q.1,e' q.2):=by
 unfold dictOf FA;have:∀(a:Z (AJ×β)) (m:Z (AJ×β)),(a.map (Ct eS e')).foldl HE (m.map λq=>(kS q.1,e' q.2))=(a.foldl (λm q=>put m q.1 q.2) m).map λq=>(kS q.1,e' q.2):=by
  intro a
  induction a with
  |nil=>intro m;rfl
  |cons q a b=>
   intro m;rw[zr,qo,qo];show(a.map (Ct eS e')).foldl HE (N7 (m.map λq=>(kS q.1,e' q.2)) (kS q.1) (e' q.2))=_;rw[Xc (c:=kS)];exact b _
 exact this a []
def OM(a:R fk ρ (zE eS))(b:R fv ρ (zE e)):R (b2 Ib fk fv) ρ (zE (Ct eS e)):=⟨(a.v,b.v),aW a.D b.D,λh=>by
 obtain⟨h1,h2⟩:=aA h;simp only[b2,a.ok h1,b.ok h2,At,Ib]⟩
def cK(i:R fi ρ (iE e))(a:R (eU fi gt p (b2 Ib fk fv) is n) ρ (oE (Ct eS e'))):R (WT fi gt p fk fv is n) ρ (mE e'):=⟨FA a.v,aW (aW i.D (U (i.v.length<1000))) a.D,λh=>by
 obtain⟨h,c⟩:=aA h;obtain⟨h1,h2⟩:=aA h;have h2:i.v.length<1000:=h2;have ha:=a.ok c;unfold eU at ha;unfold WT;rw[i.ok h1,At]at ha ⊢;rw[zk (by rw[zh];omega)]at ha;rw[zk (by rw[zh];exact h2)];obtain⟨d,b,ha⟩:=AT ha;rw[b,At];injection ha with ha;injection ha with ha;rw[ha,Vh]⟩
def LI(a:R fd ρ (nE e)):R (Rv fd) ρ (iE eS):=⟨a.v.map (·.1),a.D,λh=>by
 simp only[Rv,a.ok h,At,D7,qB];rfl⟩
def PZ(a:R fa ρ (nE e)):R (cT Ih (aq fa aJ)) ρ (oE eS):=⟨a.v.map (·.1),a.D,λh=>by
 simp only[cT,aq,aJ,a.ok h,At,Ih,RM]⟩
def U'(a:R fa ρ (zE eS))(b:R fb ρ (zE eS)):R (cT Ig (aq fa (aq fb aJ))) ρ (zE eS):=⟨if Dv b.v a.v=true then b.v else a.v,aW a.D b.D,λh=>by
 obtain⟨h1,h2⟩:=aA h;simp only[cT,aq,aJ,a.ok h1,b.ok h2,At,Ig];rfl⟩
theorem bb{bs:Z Bx}{m:Z (AJ×α)}{c:Z (AJ×α)->Ev}(x:R g ((mW (U a) e m::bs).map U++List.replicate (n-(bs.length+1)) Y) (λb=>As.nx (c b)))(h:hold x.D)(h0:∀b,(c b)[0]?=U (U (mW (U a) e b))):Ry n g a (m.map λq=>(kS q.1,e q.2)) bs=U (x.v.map λq=>(kS q.1,e q.2)):=by
 unfold Ry;rw[x.ok h,At];simp only[h0,qA]
def Vi{b:γ->Z Bx->Prop}{cO:δ->As}{T:Z (AJ×α)->γ->Z (AJ×α)}{c:Z (AJ×α)->γ->O Prop}(w:O A1)(i:Nat)(m:Z (AJ×α))(hi:ρ[i]?=U (U (mW w e m)))(S:∀m v bs,b v bs->bs.length=n/\bs.all Db=true/\(hold (c m v)->∀a,G a (m.map λq=>(kS q.1,e q.2)) bs=U ((T m v).map λq=>(kS q.1,e q.2))))(a:AR b fs ρ)(K:∀j:Z (AJ×α),R k (ρ.set i (U (mW w e j))) cO):R (aD (Em i n G fs) k) ρ cO:=⟨(K (T m a.v)).v,aW (aW a.D (c m a.v)) (K (T m a.v)).D,λhd=>by
 obtain⟨h,d⟩:=aA hd;obtain⟨h1,h2⟩:=aA h;obtain⟨g,f,l⟩:=S m a.v a.bs a.h;rw[lQ (bz hi (a.ok h1) g f (l h2))];exact(K _).ok d⟩
end
section
variable{e:α->Dt}
def cU[DecidableEq α](x:α)(ys:Z α):Bool:=decide (x∈ys)
theorem fV[DecidableEq α]{x:α}{ys:Z α}:cU x ys=true↔x∈ys:=by unfold cU;rw[ZE]
theorem IW[DecidableEq α][B7 e n](b:n<=60)(x:α)(ys:Z α):YK (e x) (ys.map e)=U (decide (x∈ys)):=by
 unfold YK;rw[zk]
 ·congr 1;rw[List.any_map,JU,JI,ZE];constructor
  ·rintro⟨y,a,h⟩;simp only[Function.comp,B7.eq]at h;by_cases q:y=x
   ·exact q▸a
   ·simp[q,DH]at h
  ·intro h;exact⟨x,h,by simp[Function.comp,B7.eq,DH]⟩
 ·rw[List.all_map,qh];intro y _;have:=B7.dp (e:=e) y;simp only[Function.comp,B7.eq,KL,K2,ZE];omega
def RV[DecidableEq α][B7 e n](c:n<=60)(a:R fa ρ (zE e))(b:RL fb ρ e):R (b2 DF fa fb) ρ (zE eB):=⟨cU a.v b.v,aW a.D b.D,λh=>by
 obtain⟨h1,h2⟩:=aA h;simp only[b2,a.ok h1,b.ok h2,At,DF,Bp b.lk,IW c,cU]⟩
def zG[DecidableEq α][B7 e n](c:n<=60)(a:R fa ρ (zE e))(b:RL fb ρ e):R (b2 FT fa fb) ρ (zE eB):=⟨!cU a.v b.v,aW a.D b.D,λh=>by
 obtain⟨h1,h2⟩:=aA h;simp only[b2,a.ok h1,b.ok h2,At,FT,Bp b.lk,IW c,cU]⟩
def UI[DecidableEq α][B7 e n](c:n<=60)(a:R fa ρ (zE e))(b:R fb ρ (zE (eT e))):R (b2 FT fa fb) ρ (zE eB):=⟨!cU a.v b.v,aW a.D b.D,λh=>by
 obtain⟨h1,h2⟩:=aA h;simp only[b2,a.ok h1,b.ok h2,At,FT,uo,eT,IW c,cU]⟩
end
end P1
namespace P1
open L2 S1 S6
def kT(xs:AZ):Z AY:=xs.map Sum.inr
theorem X'{a b:AZ}(h:kT a=kT b):a=b:=by
 unfold kT at h
 induction a generalizing b with
 |nil=>cases b with|nil=>rfl|cons _ _=>simp at h
 |cons x a c=>cases b with
  |nil=>simp at h
  |cons y b=>
   simp only[zr,JS]at h;rw[Sum.inr.inj h.1,c h.2]
theorem RW:∀(xs:AZ),Ej (xs.map eS)=U (kT xs)
 |[]=>rfl
 |x::xs=>by simp only[zr,Ej,GN,At,RW xs];rfl
theorem Dz:∀(a:Z AZ),uQ (a.map (eT eS))=U (a.map kT)
 |[]=>rfl
 |x::a=>by simp only[zr,uQ,HF,eT,RW,At,Dz a]
def RX(a b:AZ):Bool:=w6 (kT a) (kT b)
def jY(a:Z AZ):Z AZ:=a.mergeSort RX
theorem xH(xs:Z AZ):(jY xs).Perm xs:=Kx ..
theorem xJ(xs:Z AZ):(jY xs).Pairwise (λa b=>RX a b=true):=kQ (le:=RX) (λa b c=>uP (kT a) (kT b) (kT c)) (λa b=>zA (kT a) (kT b)) xs
theorem YZ{a b:AZ}(h:RX a b=true)(h':RX b a=true):a=b:=X' (Dp h h')
theorem Mt{xs out:Z AZ}(hp:out.Perm xs)(hs:out.Pairwise (λa b=>RX a b=true)):out=jY xs:=rN (λ_ _=>YZ) (hp.trans (xH xs).symm) hs (xJ xs)
theorem Ja(xs:Z AZ):lN (xs.map kT)=(jY xs).map kT:=(uw ((xH xs).map _) (List.pairwise_map.mpr (xJ xs))).symm
theorem Xe(xs:Z AZ):(xs.map kT).map BH=xs.map (eT eS):=by
 rw[qB];refine Qb λa _=>?_;show Dt.tup ((kT a).map dK)=Dt.tup (a.map eS);unfold kT;rw[qB];rfl
theorem YY(a b:AZ):Ob (kT a) (kT b)=true:=by
 unfold Ob kT;rw[qh];rintro⟨x,y⟩ h;obtain⟨h1,h2⟩:=List.of_mem_zip h;obtain⟨p,_,rfl⟩:=List.mem_map.mp h1;obtain⟨q,_,rfl⟩:=List.mem_map.mp h2;rfl
theorem Xf(xs:Z AZ)(h:xs.length<64)(c:∀x∈xs,x.isEmpty=false):FP (xs.map kT)=true:=by
 simp only[FP,ZY,ZE,qh,QA,zh,kD,forall_exists_index,and_imp,forall_apply_eq_imp_iff₂];refine⟨h,λa ha=>?_,λa _ b _=>YY a b⟩;have:=c a ha;cases a with
 |nil=>cases this
 |cons _ _=>rfl
def Xg(a:RL fa ρ (eT eS)):R (cT oV (aq fa aJ)) ρ (oE (eT eS)):=⟨jY a.v,aW a.D (U (a.v.length<64/\∀x∈a.v,x.isEmpty=false)),λh=>by
 obtain⟨h,b⟩:=aA h;obtain⟨b,c⟩:a.v.length<64/\∀x∈a.v,x.isEmpty=false:=b;simp only[cT,aq,aJ,a.ok h,At,oV,Bp a.lk,Dz,Xf a.v b c,qA,Ja,Xe]⟩
section
variable{e:α->Dt}
theorem map_some(e:α->Dt)(xs:Z α):(xs.map U).map (eO e)=xs.map e:=by rw[qB];rfl
end
end P1
namespace P1
open L2
section
variable{k:Ev->O As}{cO:α->As}
end
section
variable{e:α->Dt}
end
section
variable{σ τ:Type}{k:Ev->O As}{cO:γ->As}
def Mu(a:σ->Bool)(step:σ->oW σ τ):Nat->σ->oW σ τ
 |0,s=>.nx s
 |n+1,s=>if a s=true then(match step s with
  |.nx s'=>Mu a step n s'
  |.ct s'=>Mu a step n s'
  |.bk s'=>.nx s'
  |.rt r=>.rt r)else .nx s
def DZ(a:σ->Bool)(b:σ->O Prop)(step:σ->oW σ τ)(P:σ->O Prop):Nat->σ->Prop
 |0,_=>False
 |n+1,s=>hold (b s)/\(a s=true->hold (P s)/\match step s with
  |.nx s'=>DZ a b step P n s'
  |.ct s'=>DZ a b step P n s'
  |.bk _=>True
  |.rt _=>True)
theorem OD(a:σ->Bool)(step:σ->oW σ τ):∀(n:Nat) (s:σ),(∃s',Mu a step n s=.nx s')\/∃r,Mu a step n s=.rt r
 |0,s=>.inl ⟨s,rfl⟩
 |n+1,s=>by
  unfold Mu;split
  ·cases step s with
   |nx s'=>exact OD a step n s'
   |ct s'=>exact OD a step n s'
   |bk s'=>exact .inl ⟨s',rfl⟩
   |rt r=>exact .inr ⟨r,rfl⟩
  ·exact .inl ⟨s,rfl⟩
theorem Vj{c:τ->Bx}(E:σ->Ev)(a:∀s,R p (E s) tE)(body:∀s,R gb (E s) (cC E c)):∀(n:Nat) (s:σ),DZ (λs=>(a s).v) (λs=>(a s).D) (λs=>(body s).v) (λs=>(body s).D) n s->YL p gb n (E s)=U (cC E c (Mu (λs=>(a s).v) (λs=>(body s).v) n s))
 |0,s,h=>absurd h id
 |n+1,s,h=>by
  obtain⟨h1,h2⟩:=h;have f:p (E s)=U (a s).v:=(a s).ok h1;unfold YL Mu;rw[f,At];cases e:(a s).v with
  |false=>rfl
  |true=>
   obtain⟨d,b⟩:=h2 e;rw[zk rfl,zk rfl,(body s).ok d,At];cases hb:(body s).v with
   |nx s'=>dsimp only at b;rw[hb]at b;exact Vj E a body n s' b
   |ct s'=>dsimp only at b;rw[hb]at b;exact Vj E a body n s' b
   |bk s'=>rfl
   |rt r=>rfl
def Xh{c:τ->Bx}(n:Nat)(E:σ->Ev)(a:σ)(e:ρ=E a)(b:∀s,R p (E s) tE)(body:∀s,R gb (E s) (cC E c))(inj:τ->γ)(f:∀r,cO (inj r)=.rt (c r))(K:∀s,R k (E s) cO):R (aD (YL p gb n) k) ρ cO:=
 ⟨BO (Mu (λs=>(b s).v) (λs=>(body s).v) n a) inj λs=>(K s).v,aW (U (DZ (λs=>(b s).v) (λs=>(b s).D) (λs=>(body s).v) (λs=>(body s).D) n a)) (Xb (Mu (λs=>(b s).v) (λs=>(body s).v) n a) λs=>(K s).D),λhd=>by
 obtain⟨h2,d⟩:=aA hd;have e1:YL p gb n ρ=U (cC E c (Mu (λs=>(b s).v) (λs=>(body s).v) n a)):=by
  subst e;exact Vj E b body n a h2
 rcases OD (λs=>(b s).v) (λs=>(body s).v) n a with⟨s',es⟩|⟨r,es⟩
 ·rw[es]at e1 d ⊢;rw[lQ e1];exact(K s').ok d
 ·rw[es]at e1 ⊢;show aD (YL p gb n) k ρ=U (cO (inj r));unfold aD;rw[e1,f];rfl⟩
end
section
variable{e:α->Dt}
end
section
variable{σ τ:Type}
theorem OJ{step:σ->α->σ}{P:σ->α->O Prop}(I:Nat->σ->Prop):∀(xs:Z α) (m:Nat) (a:σ),I m a->(∀k x s,xs[k]?=U x->I (m+k) s->hold (P s x)/\I (m+k+1) (step s x))->mF step P xs a/\I (m+xs.length) (xs.foldl step a)
 |[],m,a,h0,_=>⟨trivial,h0⟩
 |x::xs,m,a,h0,hs=>by
  obtain⟨h1,h2⟩:=hs 0 x a S h0;have:=OJ I xs (m+1) (step a x) h2 λk y s e h=>by
   have:=hs (k+1) y s (by simpa using e) (by rw[show m+(k+1)=m+1+k by omega];exact h);rw[show m+(k+1)+1=m+1+k+1 by omega]at this;exact this
  refine⟨⟨h1,this.1⟩,?_⟩;rw[ZZ,show m+(xs.length+1)=m+1+xs.length by omega];exact this.2
theorem gu{i:Int}{k:Nat}{x:Int}(h:(rng i n)[k]?=U x):x=i+k/\k<n:=by
 unfold rng at h;rw[Zp]at h;cases a:(List.range n)[k]? with
 |none=>rw[a]at h;cases h
 |some j=>
  rw[a]at h;have b:k<n:=by simpa using(List.getElem?_eq_some_iff.mp a).1
  have:j=k:=by
   rw[List.getElem?_range b]at a;cases a;rfl
  subst this;cases h;exact⟨rfl,b⟩
theorem Bq(i:Int)(n:Nat):(rng i n).length=n:=by unfold rng;simp
theorem Br{step:σ->Int->σ}{P:σ->Int->O Prop}(I:Nat->σ->Prop)(n:Nat)(a:σ)(h0:I 0 a)(hs:∀(k:Nat) s,k<n->I k s->hold (P s k)/\I (k+1) (step s k)):mF step P (rng 0 n) a/\I n ((rng 0 n).foldl step a):=by
 have:=OJ (P:=P) I (rng 0 n) 0 a h0 λk x s e h=>by
  obtain⟨rfl,b⟩:=gu e;rw[kR]at h ⊢;rw[Int.zero_add];exact hs k s b h
 rw[Bq,kR]at this;exact this
theorem Bt{step:Unit->α->oW Unit Bool}{P:Unit->α->O Prop}:∀xs:Z α,(∀x∈xs,hold (P () x)/\(step () x=.nx ()\/step () x=.ct ()))->uU step xs ()=.nx ()/\Es step P xs ()
 |[],_=>⟨rfl,trivial⟩
 |x::xs,h=>by
  obtain⟨h1,h2⟩:=h x (zg ..);have a:=Bt (P:=P) xs λy b=>h y (zi _ b);rcases h2 with h2|h2
  ·exact⟨by unfold uU;rw[h2];exact a.1,h1,by rw[h2];exact a.2⟩
  ·exact⟨by unfold uU;rw[h2];exact a.1,h1,by rw[h2];exact a.2⟩
theorem tO[Inhabited α]{xs:Z α}{i:Int}(h:In xs.length i):at' xs i∈xs:=by
 obtain⟨x,hx⟩:=yt h;unfold at';rw[hx];unfold JZ at hx;obtain⟨j,_,hx⟩:=AT hx;exact QE hx
theorem NL[Inhabited α]{xs:Z α}{k:Nat}{x:α}(h:xs[k]?=U x):at' xs (k:Int)=x:=by
 have a:k<xs.length:=(List.getElem?_eq_some_iff.mp h).1;unfold at' JZ EH;rw[zk (by omega),zk (by omega),At,KW,h];rfl
theorem O1[Inhabited α](xs:Z α)(k:Nat)(h:k<xs.length):at' xs (k:Int)=xs[k]:=NL (z4 h)
theorem BF{i:Int}(h0:0<=i)(h1:i<n):In n i:=⟨by omega,h1⟩
theorem Jb{k:Nat}(h:k<n):In n (k:Int):=⟨by omega,by omega⟩
theorem xK{x m:Int}(a:0<m)(h:m<=n):In n (x%m):=BF (Int.emod_nonneg _ (by omega)) (Int.lt_of_lt_of_le (Int.emod_lt_of_pos _ a) h)
theorem iY(x:Int){m:Int}(a:0<m):0<=x%m/\x%m<m:=⟨Int.emod_nonneg _ (by omega),Int.emod_lt_of_pos _ a⟩
theorem Mv{j:Int}(h0:0<=j)(h1:j<=1000000):Rg j:=⟨by omega,by omega⟩
theorem MH{a b:Int}(h0:0<=a)(h1:a<18446744073709551616):FS a b:=.inl ⟨by omega,h1⟩
theorem xM(x y:AJ):(x++y).length=x.length+y.length:=by
 show(x.cps++y.cps).size=_;rw[k5];rfl
theorem Jc(x:AJ)(i:Int):(ch x i).length=1:=rfl
theorem slice_le(x:AJ)(l u:O Int):(Txt.slice x l u).length<=x.length:=PyProof.Txt.length_slice_le x l u
theorem Y0(x:AJ):(CA x).length=x.length:=by unfold CA;rw[zh,qa];rfl
theorem Y4(x:AJ):(BI x).length=x.length:=by rw[hB,zh,Y0]
end
section
variable [Inhabited α] {e:α->Dt}{k:Ev->O As}{cO:γ->As}
def YU(j i:Nat)(xs:Z α)(hi:ρ[i]?=U (U (.o (xs.map e))))(a:R f ρ (zE eI))(K:∀(ys:Z α) (y:α),R k ((ρ.set i (U (.o (ys.map e)))).set j (U (zE e y))) cO):R (aD (FC j i f) k) ρ cO:=
 ⟨(K (xs.drop 1) (at' xs 0)).v,aW (aW a.D (U (a.v=0/\0<xs.length))) (K (xs.drop 1) (at' xs 0)).D,λhd=>by
 obtain⟨h1,b⟩:=aA hd;obtain⟨h1,h2⟩:=aA h1;obtain⟨h0,c⟩:a.v=0/\0<xs.length:=h2;rw[lQ (ρ':=(ρ.set i (U (.o ((xs.drop 1).map e)))).set j (U (zE e (at' xs 0)))) (by
  unfold FC;rw[a.ok h1,At];show(match (Bx.z (Dt.int a.v))with|.z (.int k)=>_|_=>Y)=_;dsimp only;rw[hi];dsimp only;rw[h0];cases xs with
  |nil=>simp at c
  |cons x xs=>
   have e1:at' (x::xs) 0=x:=NL (xs:=x::xs) (k:=0) rfl;rw[e1,zk (by decide)];have e2:seqIndex? 0 ((x::xs).map e).length=U 0:=by
    rw[PySem.seqIndex_of (by decide) (by simp)];rfl
   rw[e2];rfl)]
 exact(K (xs.drop 1) (at' xs 0)).ok b⟩
end
section
variable{e:α->Dt}{k:Ev->O As}{cO:γ->As}
end
section
variable{e:α->Dt}{k:Ev->O As}{cO:γ->As}
def Xi[Inhabited γ]:R (aD GT k) ρ cO:=⟨default,U False,λh=>absurd h id⟩
def Vk{c:α->Bx}(a:R f ρ c)(K:R k ρ cO):R (aD (Mf f) k) ρ cO:=⟨K.v,aW a.D K.D,λhd=>by
 obtain⟨h1,h2⟩:=aA hd;rw[lQ (ρ':=ρ) (by unfold Mf;rw[a.ok h1,At])];exact K.ok h2⟩
def fz(a:R fa ρ (zE eS))(b:R fb ρ (zE e)):R (b2 Mg fa fb) ρ (mE e):=⟨[(a.v,b.v)],aW a.D b.D,λh=>by
 obtain⟨h1,h2⟩:=aA h;simp only[b2,a.ok h1,b.ok h2,At,Mg];rfl⟩
theorem SU[DecidableEq κ]{c:κ->AY}[Ky c](m:Z (κ×α))(x:κ):Fc (m.map λq=>(c q.1,e q.2)) (c x)=has m x:=by
 unfold Fc has;rw[List.any_map];simp only[Function.comp_def,IX]
def OH(a:R fa ρ (zE eS))(b:R fb ρ (nE e)):R (b2 YM fa fb) ρ (zE eB):=⟨!has b.v a.v,aW a.D b.D,λh=>by
 obtain⟨h1,h2⟩:=aA h;simp only[b2,a.ok h1,b.ok h2,At,YM,Co,nE,SU]⟩
theorem Xj{bs:Z Bx}{a:γ->Ev}(x:R g (bs.map U++List.replicate (n-bs.length) Y) (λr=>As.nx (a r)))(h:hold x.D):cX n g bs=U (.z .non):=by
 unfold cX;rw[x.ok h];rfl
end
section
variable{e:α->Dt}
def ax(a:RL fa ρ e):R (b2 YQ fa (b1 F7 (cB (.int 1)))) ρ (oE e):=⟨a.v.reverse,a.D,λh=>by
 simp only[b2,b1,a.ok h,At,cB,F7,YQ,a.lk,qA,oE,List.map_reverse]⟩
end
section
variable{e:α->Dt}{e':β->Dt}
def Wl{e3:γ->Dt}(a:R fa ρ (zE e))(b:R fb ρ (zE e'))(g:α->β->γ)(h:∀x y,gC (.z (e x)) (.z (e' y))=U (.z (e3 (g x y)))):R (b2 gC fa fb) ρ (zE e3):=⟨g a.v b.v,aW a.D b.D,λhd=>by
 obtain⟨h1,h2⟩:=aA hd;simp only[b2,a.ok h1,b.ok h2,At,zE,h]⟩
end
def RP(f:Ev->O β)(ρ:Ev)(c:α->β)(v:α)(D:O Prop):Prop:=hold D->f ρ=U (c v)
theorem R.tp{f:Ev->O β}{c:α->β}{a:α}{b:O Prop}(x:R f ρ c)(d:x.v=a:=by kernel_rfl)(e:x.D=b:=by kernel_rfl):RP f ρ c a b:=λh=>by
 subst d e;exact x.ok h
def RP.r{f:Ev->O β}{c:α->β}{v:α}{D:O Prop}(h:RP f ρ c v D):R f ρ c:=⟨v,D,h⟩
theorem IS{p:Z α->Prop}(h:∀a,p [a]):∀us:Z α,us.length=1->p us
 |[a],_=>h a
theorem IQ{p:Z α->Prop}(h:∀a b,p [a,b]):∀us:Z α,us.length=2->p us
 |[a,b],_=>h a b
theorem Wp{p:Z α->Prop}(h:∀a b c,p [a,b,c]):∀us:Z α,us.length=3->p us
 |[a,b,c],_=>h a b c
theorem aE{p:Z α->Prop}(h:∀a b c d,p [a,b,c,d]):∀us:Z α,us.length=4->p us
 |[a,b,c,d],_=>h a b c d
theorem ba{p:Z α->Prop}(h:∀a b c d e,p [a,b,c,d,e]):∀us:Z α,us.length=5->p us
 |[a,b,c,d,e],_=>h a b c d e
end P1
namespace P1
open L2 S1
end P1
namespace P1
open L2
section
variable{fs:Ev->O (Z Bx)}{g1 g2:Ev->O As}
end
section
variable{st:AB}{AS:Z AB}{g1 g2:Ev->O As}
end
section
variable{ks:Z V}{o:AE}
end
section
variable{M0 M1 M2 er:Expr}{f0 f2:Ev->O Bx}{d0 d2:Dt}{z0 z1 z2 z3:Pos}
end
section
variable{st:Z AB}{fr:Ev->O Bx}{i':Nat}{W:Z Nat}{z:Pos}
end
section
variable{a b c g1 g2:Ev->O As}{k:Nat}
end
end P1
namespace P1
open L2 S6
section
variable{kx vx t1 i1 t2 i2:Expr}{f1 f2:Z Expr}{xs:AZ}{g1 g2:Dt->Ev->O Ev}{p1 p2:Ev->O Bool}{fi1 fi2:Ev->O (Z Dt)}{fs:Ev->O (Z Dt)}{N m:Nat}
def cls2(fi:Ev->O (Z Dt))(gt:Dt->Ev->O Ev)(p:Ev->O Bool)(fs:Ev->O (Z Dt))(is:Z Nat)(n:Nat):Ev->O (Z Dt):=λρ=>(fi ρ).bind λds=>Fy gt p fs (kE is ρ++List.replicate n Y) ds
end
end P1
namespace P1
open L2
section
variable{e:α->Dt}{e':β->Dt}{fs:Ev->O (Z Dt)}
end
def hx(h:A6)(a:A1):HO:=.ext λh'=>h'.get? a=h.get? a
section
variable{H2:Hp}{as:Z A1}
end
section
variable{l:A1}{gs:Z (Int×A1×Z Dt)}{k:Int}{x:Dt}{u:V}
end
section
variable{e1 e2 ev:Expr}{f2:Ev->O Bx}{w:AJ}{pw py py2 py3 px p1 p3 p4 pl a1 a2 c1 c2:Pos}
end
end P1
namespace P1
open L2 S6
section
variable{kx vx t1 i1 t2 i2:Expr}{f1 f2:Z Expr}{xs:AZ}{g1 g2:Dt->Ev->O Ev}{p1 p2:Ev->O Bool}{fi1 fi2:Ev->O (Z Dt)}{m:Nat}
end
end P1
namespace P1
open L2
section
variable{e:α->Dt}{e0:β->Dt}{fd f2:Ev->O Bx}{kk:Ev->O As}{cO:γ->As}
end
section
variable{e:α->Dt}{fs:Ev->O (Z Dt)}
end
section
variable{a:Expr}
end
theorem cF{bs:Z Bx}{c:α->Bx}{v:α}{D:O Prop}(x:RP g (bs.map U++List.replicate (n-bs.length) Y) (λr=>As.rt (c r)) v D)(h:hold D):cX n g bs=U (c v):=VC x.r h
section
variable{e:α->Dt}
end
open PySem.Builtin PySem.Builtin.Str
section
variable{o:Expr}{fx:Ev->O Bx}
end
section
variable{g:Ev->O AJ}
end
section
variable{e1 e2 e3:Expr}{gr:Ev->O As}{fx:Ev->O Dt}{tR tQ:TS}{xr xj y1 y2:AJ}{AS no:Z AB}{kk:Nat}{p0 p00 p01 p02 q1 q2 pt pj pa px pb pif pf2 px3 a1 c1 pe1 pr a2 pj2 c2 pe2:Pos}
end
section
variable{e:α->Dt}{ea:β->Dt}{eb:δ->Dt}{kk:Ev->O As}{cO:γ->As}
end
end P1
namespace P1
open L2 S1
section
variable{k:Nat}{f:A1}{F:Z Bx->O Bx}{p:Pos}
end
end P1
namespace P1
open L2 S1 S6
theorem IA{p:Z α->Prop}(h:p []):∀us:Z α,us.length=0->p us
 |[],_=>h
section
variable{e:α->Dt}{g:Ev->O Bx}{c:α->Bx}
end
def F8(d:Dt):R (cB d) ρ (zE eD):=oA d eD d rfl
def B8(i:Int):R (cB (.int i)) ρ (zE eI):=oA (.int i) eI i rfl
def NB(s:AJ):R (cB (.str s)) ρ (zE eS):=oA (.str s) eS s rfl
abbrev Nn(K:B1)(n:AJ)(f:A1):Prop:=nsIn K mainGlobals n=U (U (.ref f))
abbrev Lk(K:B1)(f:A1)(n:AJ)(st:AB)(c:A0)(d:O A1)(sl:Array (O A0))(kV b e:A0)(g:O A1)(a ct:A0):Prop:=K.lookup f=U ⟨c,d,.func (fnOf n n (uM st) (jz st) (aK st) .none kV b e g a ct),sl⟩
end P1
namespace P1
open L2
section
variable{e:α->Dt}
end
section
variable{Ex:BA}{outer:Z Env}{L e T:A1}{C fl:A0}{dx:O A1}{Q:Unit->A2->Prop}
end
section
variable{H':Hp}{h':A6}{ch:Z A1}
end
section
variable{g:Array GenState}{d:Drawn}{t:Nat}{fI e:A1}{AS:Z A0}{B:String}
end
section
variable{g:Array GenState}{d:Drawn}{t:Nat}{e:A1}
end
section
variable{g:Array GenState}{d:Drawn}{t:Nat}{e dx:A1}{v:A0}{vs:Array A0}{sl:Array (O A0)}{m:AJ->O A0}
end
section
variable{o value:Expr}{tv:TE}{f:AJ}{pos' p:Pos}{B:String}{t:TA}
end
section
variable{f:AJ}{p:Pos}{B:String}
end
section
variable{E:XK}
end
section
variable{Cn f:A1}{iv iy k:Nat}{n cn:AJ}{np hp p py pa:Pos}{b0:AB}{suite:Z AB}{ts:A1->TS}{tf:TE}{t:TA}
end
section
variable{d:A1}{fs:Z (AJ×V)}{f:AJ}{o:Expr}
end
section
variable{f:AJ}{E:XK}{gy:Ev->O Dt}{p:Pos}{st:AB}{AS a b:Z AB}{B:String}{pc:Ev->O Bool}
end
section
variable{k:Nat}{f h:A1}{F:Z Bx->O Bx}{fs:Ev->O (Z Bx)}{p q:Pos}
end
end P1
namespace P1
open L2 S6
section
variable{xs:AZ}
end
section
variable{e2 se:Expr}{fS:Ev->O AZ}{fx:Ev->O Dt}{no AS:Z AB}{tR tQ:TS}{p0 p02 px pb pif pk:Pos}{f:AJ}{E:XK}
end
end P1
namespace P1
open L2
section
variable{e1 e2 e3:Expr}{gr:Ev->O As}{xr xj y1 y2:AJ}{AS no:Z AB}{kk:Nat}{p0 p00 p01 p02 q1 q2 pt pj pa px pb pif pf2 px3 a1 c1 pe1 pr a2 pj2 c2 pe2:Pos}{fx:Ev->O Dt}{f:AJ}{E:XK}
end
section
variable{Cn f:A1}{iv k:Nat}{n cn:AJ}{np hp p pa:Pos}{b0:AB}{suite:Z AB}{ts:A1->TS}{tf:TE}{t:TA}
end
section
variable{fx:Ev->O Bx}
end
section
variable{l:A1}{xs:Array A0}
end
theorem xY:∀{AQ:Z A0} {a:Z Int},IntsAre AQ a->AX (a.map V.int) AQ
 |_,_,.nil=>.nil
 |_,_,.cons y t h=>.cons ⟨t,rfl⟩ (xY h)
section
variable{e:α->Dt}
end
section
variable{e:α->Dt}{ea:β->Dt}{eb:δ->Dt}{fx:Ev->O Dt}
end
section
variable{e:α->Dt}{g:Ev->O β}{c:γ->β}
end
section
variable{E:XK}
end
section
variable{f:AJ}{E:XK}{fs:Ev->O (Z Bx)}{gy:Ev->O Dt}{p p1 epos:Pos}{st:AB}{AS:Z AB}
end
section
variable{o:Expr}
def NM:Dt->Bool
 |.non=>true
 |.tup _=>true
 |_=>false
def LJ:Dt->Bool
 |.non=>true
 |_=>false
end
section
variable{o l:Expr}{fs:Ev->O (Z Bx)}{z:AJ}
end
instance {σ τ:Type} [Inhabited σ]:Inhabited (oW σ τ):=⟨.nx default⟩
section
variable{e:α->Dt}
theorem NC(a:∀x,∃ds,e x=.tup ds)(ys:Z (O α)):(ys.map (eO e)).all NM=true/\(LJ ∘ eO e)=Option.isNone:=by
 refine⟨?_,?_⟩
 ·rw[qh];intro d hd;obtain⟨o,_,rfl⟩:=List.mem_map.mp hd;cases o with
  |none=>rfl
  |some x=>obtain⟨ds,q⟩:=a x;show NM (e x)=true;rw[q];rfl
 ·funext o;cases o with
  |none=>rfl
  |some x=>obtain⟨ds,q⟩:=a x;show LJ (e x)=false;rw[q];rfl
end
section
variable{o e2:Expr}{fx fy:Ev->O Bx}
end
section
variable{f:AJ}{E:XK}{gy:Ev->O Dt}{st:AB}{sts AS:Z AB}{p0 p00 p01 p02:Pos}
end
structure DQ (K:B1) (mg:Str->Option Value) (x:Str) (st:Stmt) (ps:AZ) where
 f:Addr
 fd:FuncData
 F:Cs K x x st f fd
 b:BT K fd ps []
 m:mg x=some (.ref f)
 k:keepIn K (.ref f)=true
def ji{st:AB}{f:A1}{n d:O A1}{sl:Array (O A0)}{m kV i b e ct:A0}(X:K.In h)(G:h.Ns mainGlobals mg)(a:Nn K x f)(l:Lk K f x st m n sl kV i b d e ct)(c:codeIn K e x=true)(k:keepIn K (.ref f)=true)(hb:∀(kV g b:A0) (d:O A1) (j ct:A0) (us:Z A0),us.length=ps.length->bindArgs (fnOf x x (uM st) (jz st) (aK st) .none kV g b d j ct) ⟨us,[]⟩=pure (ps.zip us):=by intro _ _ _ _ _ _;first|exact P1.IS λ_=>S|exact P1.IQ λ_ _=>S|exact P1.Wp λ_ _ _=>S|exact P1.aE λ_ _ _ _=>S|exact P1.ba λ_ _ _ _ _=>S|exact P1.IA S):DQ K mg x st ps:=
 ⟨f,_,Md l c k,(Md l c k).binds hb,mg_of X G a,k⟩
theorem Hn{v:Tok->A0}{tk:Tok}(X:K.In h)(G:h.Ns mainGlobals mg)(c:nsIn K mainGlobals x=U (U (v tk))):∃tk,mg x=U (v tk):=⟨tk,mg_of X G c⟩
abbrev Ok(P:A3)(w:A4)(base:A6){st:AB}(d:DQ K mg x st ps)(k n:Nat)(F:Z Bx->O Bx):Prop:=wM P w K mg base Nt k d.f d.fd ps (Dx K n F)
theorem yw{st:AB}{k m:Nat}(d:DQ K mg x st ps)(S:bx N ps (aK st))(c:∀(a:A0) (A:A5) (outer:Z Env) (s:A2) (H:Hp) (E:XK),nR k (A.deeper (AK x (aK st) s.heap.objs.size d.f a))->(A.deeper (AK x (aK st) s.heap.objs.size d.f a)).units+100<cLine->N.Nodup->Yc (G7 Nt P w K mg base N x (aK st) d.f a A outer s H E).nox (jz st) g)(h:N.length=n:=by rfl)(e:ps.length=m:=by rfl):Ok P w base d (k+1) m (cX n g):=Y1 d.F S h e λa A outer s H E b=>c a A outer s H E b (Wq b) S.nd
section
variable{k m:Nat}{st:AB}{F:Z Bx->O Bx}{fs:Ev->O (Z Bx)}{p:Pos}
theorem bY(d:DQ X.K X.mg x st ps)(G:Ok X.prog X.w X.base d k n F)(c:nR m X.A)(ha:Zu X (e::es) fs)(hg:Gl X x:=by rfl)(a:k<=m:=by decide)(g:(x==("__debug__":AJ))=false:=by decide)(he:A9 (e::es) X.env=(false,eval e X.env)::A9 es X.env:=by rfl)(f:(AD pos (A9 es X.env)).any (·.1)=false:=by rfl):QV X (.Call (.Name x p) (e::es) [] pos) (bL n F fs):=
 bp G (c.mono a) hg d.m d.k d.b ha g he f
end
theorem ET{q:A3}{loose:AZ}{d:DefRec}{K:Params->B1}{T:B1->(AJ->O A0)->Type}{k:Nat}{st:AB}{F_law:Z Bx->O Bx}(c:∀{K mg},T K mg->DQ K mg "law" st [x])(y:nR k callerA)(hd:d.name ="law")(G:∀(w:A4) (mg:AJ->O A0) (base:A6) (t:T (K w.params) mg),Ok l.prog w base (c t) k 1 F_law)(D:l.most=U 63)(C:d.params.defaults=[])(h1:∀b:Z Int,b.length<=63->F_law [.z (.lst (b.map .int))]=U (.z (.bl true)))(h2:∀b:Z Int,b.length<=63->F_law [.l (b.map .int)]=U (.z (.bl true)))(hb:∀(kV g j:A0) (o:O A1) (i ct u:A0),bindArgs (fnOf "law" "law" (uM st) (jz st) (aK st) .none kV g j o i ct) ⟨[u],[]⟩=pure [(x,u)])(E:∀(w:A4) (h:A6),YP w h->(K w.params).In h)(F:∀(w:A4) (mg:AJ->O A0) (h:A6),(K w.params).In h->h.Ns mainGlobals mg->T (K w.params) mg):
  PySem.W.WalkO q loose XP YP l.row.toRowW d [] (λf vs=>PySem.call f vs):=
 L2.g5 (n:=63) (k:=k) (x:=x) (CX:=Nt) (sp:=λK=>Dx K 1 F_law) D (by decide) C y E (λw mg fa h X N e=>by
  have t:=F w mg h X N;have p:=(c t).m;rw[hd,p]at e;cases e;refine⟨(c t).fd,λs u=>?_,λbase _ _=>G w mg base t⟩;obtain⟨L,M,kV,g,j,o,i,ct,osl,e,I,J⟩:=(c t).F.ex;rw[e];exact .of_eq (hb kV g j o i ct u)) (λK H a b B v A=>XW h1 h2 K H a b B v A) λ_ _ _ _ z=>z
section
variable{k:Nat}{f:A1}{sp:A1->Z V->Hp->VK->Prop}{p:Pos}{t:TA}
end
section
variable{p0 p1:Pos}{xs:AZ}{e:A1}{a:Expr}{ta:TA}
end
section
variable{f:AJ}{E:XK}{fs:Ev->O (Z Bx)}{p:Pos}
end
section
variable{g:Array GenState}{d:Drawn}{t:Nat}{AS:Z A0}{B:String}
end
section
variable{E:XK}{p:Pos}{B:String}{k:Nat}{t:TA}
end
section
variable{p kp cp:Pos}{fs:Ev->O (Z Bx)}{j:Int}{kk:Nat}
end
section
variable{e:α->Dt}
end
section
variable{g:Ev->O AJ}
variable{e:α->Dt}
end
section
variable{e:α->Dt}{σ' τ:Type}
def qE(e:α->Dt):O (Z α)->Bx
 |none=>.z .non
 |some l=>.o (l.map e)
def EI(e:α->Dt):O (Z α)->Bx
 |none=>.z .non
 |some l=>.l (l.map e)
def X0:R (cB .non) ρ (qE e):=⟨Y,Y,λ_=>S⟩
def Os(a:R fa ρ (oE e)):R fa ρ (qE e):=⟨U a.v,a.D,λh=>a.ok h⟩
theorem SO{v:O (Z α)}(h:ρ[i]?=U (U (qE e v))):zp ρ i=U (EI e v):=by
 unfold zp;rw[h];cases v<;>rfl
def O2(i:Nat)(e:α->Dt)(v:O (Z α))(h:ρ[i]?=U (U (qE e v))):R (gv i) ρ (EI e):=⟨v,Y,λ_=>SO h⟩
class EA (c:Option (List α)->Bx) (e:outParam (α->Dt)):Prop where
 d:∀v,toD (c v)=eO (eL e) v/\mD (c v)=false
instance:EA (qE e) e:=⟨λv=>by cases v<;>exact⟨rfl,rfl⟩⟩
instance:EA (EI e) e:=⟨λv=>by cases v<;>exact⟨rfl,rfl⟩⟩
instance:EA (zE (eO (eL e))) e:=⟨λv=>⟨rfl,rfl⟩⟩
def PF[DecidableEq α][B7 (eO (eL e)) n]{f g:O (Z α)->Bx}[EA f e][EA g e](m:n<=100)(a:R fa ρ f)(b:R fb ρ g):R (b2 Fz fa fb) ρ (zE eB):=⟨!decide (a.v=b.v),aW a.D b.D,λh=>by
 obtain⟨h1,h2⟩:=aA h;have:=B7.dp (e:=eO (eL e)) a.v;obtain⟨l,j⟩:=EA.d (c:=f) (e:=e) a.v;obtain⟨d2,i⟩:=EA.d (c:=g) (e:=e) b.v;simp only[b2,a.ok h1,b.ok h2,At,Fz,l,d2,j,i,zl,or_self,ZN,B7.eq];rw[zk (by omega)]⟩
def gl(a:R fa ρ (EI e)):R (b2 FB fa (cB .non)) ρ (zE eB):=⟨a.v.isNone,a.D,λh=>by
 simp only[b2,a.ok h,At,cB,FB];cases a.v<;>rfl⟩
end
section
variable{p:Pos}{fs:Ev->O (Z Bx)}
end
section
variable{e:α->Dt}
def dQ(a:R fa ρ (EI e)):R (b2 wg fa (cB .non)) ρ (zE eB):=⟨a.v.isSome,a.D,λh=>by
 simp only[b2,a.ok h,At,cB,wg];cases a.v<;>rfl⟩
def Y5(a:R fa ρ (qE e)):R (b2 wg fa (cB .non)) ρ (zE eB):=⟨a.v.isSome,a.D,λh=>by
 simp only[b2,a.ok h,At,cB,wg];cases a.v<;>rfl⟩
end
end P1
namespace P1
open L2 S1 S6
def SY(a:R fa ρ (zE (eT (eT eS)))):R (cT oV (aq fa aJ)) ρ (oE (eT eS)):=⟨jY a.v,aW a.D (U (a.v.length<64/\∀x∈a.v,x.isEmpty=false)),λh=>by
 obtain⟨h,b⟩:=aA h;obtain⟨b,c⟩:a.v.length<64/\∀x∈a.v,x.isEmpty=false:=b;have e:uo (zE (eT (eT eS)) a.v)=U (a.v.map (eT eS)):=rfl;simp only[cT,aq,aJ,a.ok h,At,oV,e,Dz,Xf a.v b c,qA,Ja,Xe]⟩
section
variable{e:α->Dt}
def Sc(a:R fa ρ (EI e)):R fa ρ (lE e):=⟨a.v.getD [],aW a.D (U (a.v.isSome=true)),λh=>by
 obtain⟨h1,h2⟩:=aA h;have h2:a.v.isSome=true:=h2;rw[a.ok h1];cases z:a.v with
 |none=>rw[z]at h2;cases h2
 |some l=>rfl⟩
end
end P1
namespace P1
open L2
theorem Mw(h:qJ d=true):∃x,d=.str x:=by
 cases d with
 |str x=>exact⟨x,rfl⟩
 |_=>cases h
theorem Et(h:B4 d=true):∃ds,d=.tup ds:=by
 cases d with
 |tup x=>exact⟨x,rfl⟩
 |_=>cases h
theorem XB(h:B4 d=true):Ox d=true:=by
 obtain⟨ds,rfl⟩:=Et h;rfl
theorem a7(h:d∈DV (.str x)):d=eS (RG d):=by
 unfold DV BI at h;obtain⟨c,_,rfl⟩:=List.mem_map.mp h;rfl
theorem di(x:AJ):(DV (.str x)).length=x.length:=Y4 x
theorem C5(a b:AJ):Dv a b=true↔uO a b/\a≠b:=by
 unfold Dv uO;rw[ltCps_eq];simp only[ZE,Q3];constructor
 ·intro h;exact⟨List.lt_asymm h,λe=>by subst e;exact List.lt_irrefl _ h⟩
 ·intro⟨h,hn⟩;by_cases q:a.cps.toList<b.cps.toList
  ·exact q
  ·exact absurd (Av (a:=a) (b:=b) (by unfold uO;rw[ltCps_eq];simpa using h) (by unfold uO;rw[ltCps_eq];simpa using q)) hn
theorem O4{i:Int}(h:i∈rng 0 n):∃k:Nat,k<n/\i=(k:Int):=by
 unfold rng at h;obtain⟨k,a,rfl⟩:=List.mem_map.mp h;exact⟨k,List.mem_range.mp a,by omega⟩
end P1
namespace P1
open L2 S1 S6
def same(w:Z AZ)(x y:AJ):Prop:=∃s∈w,x∈s/\y∈s
end P1
section
set_option maxHeartbeats 1000000
namespace P1
open L2
open PySem.Builtin PySem.Builtin.Str
abbrev cs(s:AJ):Z Nat:=s.cps.toList
theorem O5(a b:AJ):cs (a++b)=cs a++cs b:=Array.toList_append
theorem Jd(a:AJ):a.length=(cs a).length:=by simp[Str.length]
theorem aS(y p q:AJ)(ps:AZ):Str.join y (p::q::ps)=p++y++Str.join y (q::ps):=rfl
theorem Y6{c:Nat}{s:AJ}(h:c∈cs s):Lg ⟨#[c]⟩ s=true:=by
 unfold Lg;obtain⟨i,hi⟩:=(mem_iff_at s c).mp h;rcases StrLaws.occ_head s ⟨#[c]⟩ 1 (zo 1)with⟨h0,a⟩|⟨i,r,h0,_,_⟩
 ·exact absurd hi (a i)
 ·rw[h0];rfl
theorem al(h:n<=x.length):cs (Txt.slice x (U (n:Int)) Y)=(cs x).drop n:=by
 rw[slice_from_eq (b:=x.length) (by omega) (by omega) rfl];show((cs x).drop ((n:Int).toNat)).take _=_;rw[KW,List.take_of_length_le (by rw[k9,<-Jd];omega)]
theorem VI(h:n<=x.length):cs (Txt.slice x Y (U (n:Int)))=(cs x).take n:=by
 have:=slice_closes_to (x:=x) (j:=(n:Int)) ⟨by omega,by rw[show x.cps.toList.length=x.length by simp[Str.length]];omega⟩;rw[eq_of_beq this];show((cs x).drop 0).take _=_;simp
theorem gE:∀(y p:AJ) (ps:AZ),cs (Txt.join y (p::ps))=cs p++ps.flatMap λq=>cs y++cs q:=by
 intro y p ps;rw[show Txt.join y (p::ps)=Str.join y (p::ps) from StrLaws.glued_eq_join y _]
 induction ps generalizing p with
 |nil=>simp[Str.join]
 |cons q ps a=>rw[aS,O5,O5,a,List.flatMap_cons,ZI,ZI]
end P1
end
section
set_option maxHeartbeats 1000000
namespace P1
open L2 S1 S6
section
variable [Inhabited α]
end
theorem Mx{α:Type}[DecidableEq α]:∀{xs:Z α},(yJ xs).length=xs.length->xs.Nodup
 |[],_=>j3
 |x::xs,h=>by
  unfold yJ at h;split at h
  ·have:=Bg xs;rw[ZZ]at h;omega
  ·rename_i hx;exact List.nodup_cons.mpr ⟨hx,Mx (by simpa using h)⟩
section
variable{e:α->Dt} [qP e]
end
mutual
def okP:Dt->Bool
 |.str s=>decide (s.length<=20)
 |.int i=>decide (i<=1000000)
 |.tup ds=>decide (ds.length<=20)&&LO ds
 |.non=>false
 |.bl _=>false
 |.lst _=>false
 |.emp=>false
def LO:Z Dt->Bool
 |[]=>true
 |d::ds=>okP d&&LO ds
end
end P1
end
namespace P1
open L2
open PySem.Builtin PySem.Builtin.Str
end P1
section
set_option maxHeartbeats 1000000
namespace P1
open L2
open PySem.Builtin PySem.Builtin.Str
end P1
end
section
set_option synthInstance.maxSize 100000
namespace G67
open L2 P1
noncomputable section
abbrev iN:=Z P1.Dt
abbrev aC:Type:=Int×AJ×AJ×Int
abbrev aG:aC->Dt:=Il eI eS eS eI
abbrev je:Type:=AJ×AJ×Int
abbrev zH:je->Dt:=DC eS eS eI
abbrev dW:Type:=AZ×(Z aC)×(Z je)
abbrev bB:dW->Dt:=DC (eT eS) (eT aG) (eT zH)
abbrev OF:Type:=Dt×Dt×Dt
abbrev L6:OF->Dt:=DC eD eD eD
abbrev Lu:Type:=AZ×(Z aC)×aC
abbrev MT:Lu->Dt:=DC (eT eS) (eT aG) aG
def GA(d:Dt):OF:=(D2 d 0,D2 d 1,D2 d 2)
def GM(d:Dt):AZ:=(Zy d).map RG
def Vl(d:Dt):(Z AZ):=(Zy d).map GM
def top(i:Nat):AB:=PySem.Challenge.pw_onefolk_k67_whole_reasons_struck_and_put.main.body.getD i (.Pass ⟨0,0,0,0⟩)
abbrev Je:AB:=top 37
abbrev yV:AB:=top 38
abbrev Eu:AB:=top 39
abbrev Bu:AB:=top 40
abbrev Bv:AB:=top 24
abbrev Bw:AB:=top 25
abbrev BJ:AB:=top 29
abbrev yW:AB:=top 43
abbrev Jf:AB:=top 6
abbrev Jg:AB:=top 5
abbrev Ew:AB:=top 14
abbrev BK:AB:=top 11
abbrev Mz:AB:=top 10
abbrev RZ:AB:=top 17
abbrev Ey:AB:=top 16
abbrev qQ:AB:=top 35
abbrev Jh:AB:=top 23
abbrev yX:AB:=top 27
abbrev MF:AB:=top 22
abbrev Ji:AB:=top 34
abbrev BL:AB:=top 26
abbrev Jj:AB:=top 21
abbrev Jk:AB:=top 19
abbrev Ez:AB:=top 41
abbrev qR:AB:=top 45
abbrev xO:AB:=top 42
abbrev yZ:AB:=top 44
abbrev qT:AB:=top 46
abbrev uy:AB:=top 20
abbrev EY:AB:=top 33
abbrev Jl:AB:=top 32
abbrev R0:AB:=top 31
abbrev MJ:AB:=top 30
abbrev uz:AB:=top 47
abbrev s_law:AB:=top 48
def fuel:Nat:=4
def za:Ev->O As:=(aD (aD (B0 2 (b2 jZ (b2 gC (b2 Ak (gv 2) (cB (.int 69621))) (gv 3)) (cB (.int 2147483647)))) dU) (dj [3]))
def uX:Ev->O As:=(aD (yd (pN D3 (gv 1) (cT qK (aq (gv 0) aJ))) (aD (fG (b2 gF (gv 0) (gv 1))) dU) dU) (aD (B0 2 (b2 jZ (b2 Ak (cB (.int 48271)) (b2 gC (b2 gC (b2 Ak (gv 1) (gv 1)) (b2 Ak (cB (.int 7)) (gv 1))) (cB (.int 11)))) (cB (.int 2147483647)))) (aD (rH (D4 (Um (gv 0) wY (Ao (cB (.int 3))))) (jd 3) za) (aD (fG (gv 2)) dU))))
def jk:Z Bx->O Bx:=cX 4 uX
def mO:Ev->O As:=(aD (aD (B0 3 (b2 jZ (b2 gC (b2 gC (b2 Ak (gv 3) (b2 gC (b2 jZ (gv 3) (cB (.int 65521))) (cB (.int 40487)))) (b2 Ak (cB (.int 7)) (gv 5))) (cB (.int 5))) (cB (.int 1999999973)))) (aD (J6 2 (b2 gF (cT qH (aq (gv 3) (aq (b2 jZ (gv 4) (cB (.int 1000000))) aJ))) (cT Yl (aq (b2 IH (gv 4) (cB (.int 0))) aJ)))) (aD (B0 4 (b2 Hu (gv 4) (cB (.int 1000000)))) dU))) (dj [5]))
def nF:Ev->O As:=(aD (B0 2 (cT qH aJ)) (aD (B0 3 (b2 jZ (b2 Ak (b2 gC (b2 jZ (gv 0) (cB (.int 1999999973))) (cB (.int 31))) (cB (.int 765432101))) (cB (.int 1999999973)))) (aD (B0 4 (cB (.int 0))) (aD (yd (C' (pN D3 (gv 0) (cB (.int 0))) (pN GW (gv 0) (b2 HV (cB (.int 10)) (cB (.int 18))))) (aD (aD (B0 4 (cT ES (aq (gv 0) aJ))) dU) (dj [])) (aD dU (dj []))) (aD (rH (Zv (aq (gv 1) aJ)) (jd 5) mO) (aD (Fw 2) dU))))))
def eV:Z Bx->O Bx:=cX 6 nF
def qU:Ev->O As:=(aD (aD (B0 7 (b2 gF (gv 2) (b2 jZ (b2 gC (gv 6) (b2 gF (gv 0) (cB (.int 2)))) (cB (.int 15))))) (aD (B0 8 (b2 gC (b2 gC (Um (gv 3) wY (Ao (gv 4))) (gv 7)) (Um (gv 3) (Ao (gv 4)) wY))) (aD (yd (pN Bn (b2 jZ (b2 gF (gv 0) (cB (.int 3))) (cB (.int 3))) (cB (.int 1))) (aD (aD (B0 8 (b2 Ak (b2 gF (gv 2) (b2 Hu (gv 6) (cB (.int 8)))) (b2 gC (cB (.int 1)) (b2 jZ (gv 6) (cB (.int 8)))))) dU) (dj [])) (aD dU (dj []))) (aD (J6 5 (gv 8)) dU)))) (dj [6,7,8]))
def rW:Ev->O As:=(aD (B0 2 (cB (.str "abcdefghijklmnopqrstuvwxyz"))) (aD (B0 3 (b1 (Q5 "") (eU (Zv (aq (b2 jZ (b2 gF (gv 0) (cB (.int 0))) (cB (.int 6))) aJ)) (jd 2) FN (b2 gF (gv 0) (b2 jZ (b2 Hu (b2 gF (gv 1) (gv 2)) (cB (.int 40))) (cB (.int 26)))) [2,0] 1))) (aD (B0 4 (b2 jZ (b2 gF (gv 0) (cB (.int 1))) (b2 gC (cT qK (aq (gv 3) aJ)) (cB (.int 1))))) (aD (B0 5 (cT qH aJ)) (aD (rH (Zv (aq (gv 1) aJ)) (jd 6) qU) (aD (Fw 5) dU))))))
def oJ:Z Bx->O Bx:=cX 9 rW
def oX:Ev->O As:=(aD (aD (B0 9 (bL 2 eV (aq (b1 CV (bL 2 jk (aq (gv 0) (aq (b1 CV (b2 gC (b2 gC (gv 1) (cB (.int 1))) (gv 8))) aJ)))) (aq (cB (.int 4)) aJ)))) (aD (FR 10 11 (aq (b2 jZ (b2 gF (gv 9) (cB (.int 0))) (cT J7 (aq (cB (.int 1)) (aq (gv 2) aJ)))) (aq (b2 jZ (b2 gF (gv 9) (cB (.int 1))) (cT J7 (aq (cB (.int 1)) (aq (gv 2) aJ)))) aJ))) (aD (B0 12 (b2 gF (cT qH (aq (b1 CV (b2 gC (cB (.int 1)) (b2 jZ (b2 gF (gv 9) (cB (.int 2))) (cB (.int 3))))) (aq (b1 CV (b2 gC (cB (.int 1)) (b2 jZ (b2 gF (gv 9) (cB (.int 2))) (cB (.int 9))))) (aq (b1 CV (b2 gC (cB (.int 1)) (b2 jZ (b2 gF (gv 9) (cB (.int 2))) (cB (.int 1000))))) aJ)))) (b2 jZ (b2 gF (gv 5) (cB (.int 4))) (cB (.int 3))))) (aD (yd (pN Fz (gv 10) (gv 11)) (aD (aD (J6 7 (cT jW (aq (b2 C1 (cB (.int 0)) (gv 12)) (aq (b2 gF (gv 6) (cT Yn (aq (gv 10) (aq (gv 11) aJ)))) (aq (b2 gF (gv 6) (cT J7 (aq (gv 10) (aq (gv 11) aJ)))) (aq (b2 gF (cT qH (aq (cB (.int 0)) (aq (cB (.int 2)) (aq (cB (.int 10)) aJ)))) (b2 jZ (b2 gF (gv 9) (cB (.int 3))) (cB (.int 3)))) aJ)))))) dU) (dj [])) (aD dU (dj []))) dU)))) (dj [8,9,10,11,12]))
def oY:Ev->O As:=(aD (aD (B0 9 (bL 2 eV (aq (b1 CV (bL 2 jk (aq (gv 0) (aq (b1 CV (b2 gC (b2 gC (gv 1) (cB (.int 1))) (gv 8))) aJ)))) (aq (cB (.int 8)) aJ)))) (aD (FR 10 11 (aq (b2 jZ (b2 gF (gv 9) (cB (.int 5))) (cT J7 (aq (cB (.int 1)) (aq (gv 2) aJ)))) (aq (b2 jZ (b2 gF (gv 9) (cB (.int 6))) (cT J7 (aq (cB (.int 1)) (aq (gv 2) aJ)))) aJ))) (aD (yd (pN Fz (gv 10) (gv 11)) (aD (aD (J6 14 (cT jW (aq (b2 gF (gv 6) (cT Yn (aq (gv 10) (aq (gv 11) aJ)))) (aq (b2 gF (gv 6) (cT J7 (aq (gv 10) (aq (gv 11) aJ)))) (aq (b2 gF (cT qH (aq (cB (.int 2)) (aq (cB (.int 10)) aJ))) (b2 jZ (b2 gF (gv 9) (cB (.int 7))) (cB (.int 2)))) aJ))))) dU) (dj [])) (aD dU (dj []))) dU))) (dj [8,9,10,11]))
def pR:Ev->O As:=(aD (B0 5 (bL 2 eV (aq (b1 CV (bL 2 jk (aq (gv 0) (aq (gv 1) aJ)))) (aq (cB (.int 6)) aJ)))) (aD (B0 6 (cT Hz (aq (bL 2 oJ (aq (gv 5) (aq (gv 2) aJ))) aJ))) (aD (B0 7 (cT qH aJ)) (aD (rH (Zv (aq (gv 3) aJ)) (jd 8) oX) (aD (B0 13 (eU (Hw (Ia (Kc (gv 7)))) (pH 4 (bQ (jd 0) (bQ (jd 1) (bQ (jd 2) (bQ (jd 3) rK))))) FN (cT jW (aq (b2 C1 (cB (.int 0)) (gv 0)) (aq (gv 1) (aq (gv 2) (aq (gv 3) aJ))))) [] 4)) (aD (B0 14 (cT qH aJ)) (aD (rH (Zv (aq (gv 4) aJ)) (jd 8) oY) (aD (fG (cT jW (aq (cT lK (aq (gv 6) aJ)) (aq (cT lK (aq (gv 13) aJ)) (aq (cT lK (aq (Ia (Kc (gv 14))) aJ)) aJ))))) dU))))))))
def pU:Z Bx->O Bx:=cX 15 pR
def pW:Ev->O As:=(aD (fG (WT (Hw (gv 0)) (jd 0) FN (gv 0) (gv 0) [] 1)) dU)
def jC:Z Bx->O Bx:=cX 1 pW
def wj:Ev->O As:=(aD (aD (yd (C' (pN Bn (b2 nZ (gv 0) (gv 4)) (gv 1)) (pN Bn (b2 nZ (gv 0) (gv 4)) (gv 2))) (aD (aD (Wr 0 (gv 3) (gv 4)) dU) (dj [])) (aD dU (dj []))) dU) (dj [4]))
def pX:Ev->O As:=(aD (aD (B0 3 (cT Ig (aq (gv 1) (aq (gv 2) aJ)))) (aD (rH (D4 (cT Ih (aq (gv 0) aJ))) (jd 4) wj) dU)) (dj [3,4]))
def gQ:A1->Z (AY×Dt)->Z Bx->O (Z (AY×Dt)):=Ry 5 pX
def wz:Ev->O As:=(aD (aD (B0 7 (b2 nZ (gv 4) (b2 gF (gv 6) (cB (.int 1))))) (aD (B0 8 (b2 nZ (gv 4) (b2 gF (gv 6) (cB (.int 2))))) (aD (yd (pN Fz (gv 7) (gv 8)) (aD (aD (Em 4 2 gQ (aq (gv 7) (aq (gv 8) aJ))) (aD (J6 5 (gv 6)) dU)) (dj [])) (aD dU (dj []))) dU))) (dj [6,7,8]))
def pY:Ev->O As:=(aD (Q0 (pH 3 (bQ (jd 1) (bQ (jd 2) (bQ (jd 3) rK)))) (gv 0)) (aD (B0 4 (bL 1 jC (aq (gv 1) aJ))) (aD (B0 5 (cT qH aJ)) (aD (zq 2 (jd 6) wz) (aD (Fw 5) dU)))))
def dZ:Z Bx->O Bx:=cX 9 pY
def nG:Ev->O As:=(aD (fG (cT jW (aq (b2 gF (gv 0) (cB (.int 0))) (aq (cT lK (aq (eU (Hw (b2 gF (gv 0) (cB (.int 1)))) (jd 1) (pN Fz (gv 1) (gv 0)) (gv 1) [1] 1) aJ)) (aq (cT jW aJ) aJ))))) dU)
def eX:Z Bx->O Bx:=cX 2 nG
def uY:Ev->O As:=(aD (fG (yI (Lr B4 (gv 0)) (b2 Bn (cT qK (aq (gv 0) aJ)) (gv 1)))) dU)
def mQ:Z Bx->O Bx:=cX 2 uY
def uZ:Ev->O As:=(aD (fG (yI (Lr Dj (gv 0)) (Fu (Lr BM (gv 0))))) dU)
def mR:Z Bx->O Bx:=cX 1 uZ
def rY:Ev->O As:=(aD (fG (yI (bL 1 mR (aq (gv 0) aJ)) (EG EK EK (cB (.int 1)) (gv 0) (cB (.int 1000))))) dU)
def rZ:Z Bx->O Bx:=cX 1 rY
def pZ:Ev->O As:=(aD (fG (yI (Lr qJ (gv 0)) (yI (EG EK EK (cB (.int 1)) (cT qK (aq (gv 0) aJ)) (gv 2)) (cT CS (aq (eU (Hw (gv 0)) (jd 1) FN (b2 Cc (gv 1) (gv 0)) [1] 1) aJ))))) dU)
def p7:Z Bx->O Bx:=cX 3 pZ
def yx:Ev->O As:=(aD (fG (bL 3 p7 (aq (gv 0) (aq (cB (.str "abcdefghijklmnopqrstuvwxyz")) (aq (cB (.int 8)) aJ))))) dU)
def mU:Z Bx->O Bx:=cX 1 yx
def BP:Ev->O As:=(aD (yd (Qx (tV (bL 2 mQ (aq (gv 0) (aq (cB (.int 3)) aJ))))) (aD (fG (cB (.bl false))) dU) dU) (aD (Q0 (pH 3 (bQ (jd 1) (bQ (jd 2) (bQ (jd 3) rK)))) (gv 0)) (aD (fG (yI (bL 1 mU (aq (gv 1) aJ)) (yI (bL 1 mU (aq (gv 2) aJ)) (yI (b2 D3 (gv 1) (gv 2)) (yI (bL 1 mR (aq (gv 3) aJ)) (b2 GW (gv 3) (cB (.int 0)))))))) dU)))
def BR:Z Bx->O Bx:=cX 4 BP
def su:Ev->O As:=(aD (fG (yI (bL 2 mQ (aq (gv 0) (aq (cB (.int 4)) aJ))) (yI (bL 1 rZ (aq (b2 gF (gv 0) (cB (.int 0))) aJ)) (bL 1 BR (aq (b1 CV (Um (gv 0) (Ao (cB (.int 1))) wY)) aJ))))) dU)
def sy:Z Bx->O Bx:=cX 1 su
def gR:Ev->O As:=(aD (aD (yd (C' (Qx (tV (bL 1 sy (aq (gv 1) aJ)))) (pN FT (gv 1) (b2 gF (gv 0) (cB (.int 1))))) (aD GT dU) dU) dU) (dj []))
def gU:Z Bx->O Bx:=cX 2 gR
def tW:Ev->O As:=(aD (aD (Em 2 2 gQ (aq (b2 nZ (gv 2) (gv 4)) (aq (b2 nZ (gv 2) (gv 5)) aJ))) dU) (dj [3,4,5,6]))
def mV:Ev->O As:=(aD (B0 2 (bL 1 jC (aq (gv 0) aJ))) (aD (zq 1 (pH 4 (bQ (jd 3) (bQ (jd 4) (bQ (jd 5) (bQ (jd 6) rK))))) tW) (aD (Fw 2) dU)))
def kW:Z Bx->O Bx:=cX 7 mV
def nH:Ev->O As:=(aD (fG (cT lK (aq (eU (Rv (gv 0)) (jd 2) (pN Bn (b2 nZ (gv 1) (gv 2)) (gv 0)) (gv 2) [1,0] 1) aJ))) dU)
def iQ:Z Bx->O Bx:=cX 2 nH
def yC:Ev->O As:=(aD (B0 3 (bL 2 kW (aq (gv 0) (aq (gv 1) aJ)))) (aD (fG (bL 2 iQ (aq (gv 3) (aq (b2 nZ (gv 3) (gv 2)) aJ)))) dU))
def uD:Z Bx->O Bx:=cX 4 yC
def u0:Ev->O As:=(aD (Mf (bL 2 gU (aq (gv 0) (aq (gv 1) aJ)))) (aD (Q0 (pH 3 (bQ (jd 2) (bQ (jd 3) (bQ (jd 4) rK)))) (gv 0)) (aD (B0 5 (eU (Hw (gv 3)) (jd 1) (pN Fz (gv 1) (gv 0)) (gv 1) [1] 1)) (aD (B0 6 (bL 3 uD (aq (gv 2) (aq (gv 5) (aq (b2 gF (gv 1) (cB (.int 1))) aJ))))) (aD (yd (pN Cc (b2 gF (gv 1) (cB (.int 2))) (gv 6)) (aD (fG (cT jW (aq (cB (.str "stays")) aJ))) dU) dU) (aD (fG (cT jW (aq (cB (.str "parts")) (aq (gv 6) (aq (b1 CV (bL 3 uD (aq (gv 2) (aq (gv 5) (aq (b2 gF (gv 1) (cB (.int 2))) aJ))))) aJ))))) dU))))))
def u5:Z Bx->O Bx:=cX 7 u0
def p8:Ev->O As:=(aD (fG (eU (Rv (gv 0)) (jd 1) (pN Bn (b2 nZ (gv 0) (gv 1)) (gv 1)) (b1 CV (bL 2 iQ (aq (gv 0) (aq (gv 1) aJ)))) [0] 1)) dU)
def qb:Z Bx->O Bx:=cX 1 p8
def u6:Ev->O As:=(aD (fG (bL 1 qb (aq (bL 2 kW (aq (gv 0) (aq (gv 1) aJ))) aJ))) dU)
def u9:Z Bx->O Bx:=cX 2 u6
def vA:Ev->O As:=(aD (fG (bL 2 u9 (aq (b2 gF (gv 0) (cB (.int 0))) (aq (b2 gF (gv 0) (cB (.int 1))) aJ)))) dU)
def qW:Z Bx->O Bx:=cX 1 vA
def xP:Ev->O As:=(aD (aD (B0 7 (b2 gF (eU (Hw (gv 2)) (jd 1) (pN Cc (gv 0) (gv 1)) (gv 1) [4] 1) (cB (.int 0)))) (aD (B0 8 (b2 gF (eU (Hw (gv 2)) (jd 1) (pN Cc (gv 0) (gv 1)) (gv 1) [5] 1) (cB (.int 0)))) (aD (yd (pN Fz (gv 7) (gv 8)) (aD (aD (B0 2 (b2 gC (eU (Hw (gv 2)) (jd 2) (pN FT (gv 2) (cT qH (aq (gv 0) (aq (gv 1) aJ)))) (gv 2) [7,8] 1) (cT qH (aq (b1 CV (cT Hz (aq (b2 gC (gv 7) (gv 8)) aJ))) aJ)))) dU) (dj [])) (aD dU (dj []))) dU))) (dj [3,4,5,6,7,8]))
def sE:Ev->O As:=(aD (B0 2 (eU (Hw (gv 0)) (jd 0) FN (b1 CV (cT qH (aq (gv 0) aJ))) [] 1)) (aD (zq 1 (pH 4 (bQ (jd 3) (bQ (jd 4) (bQ (jd 5) (bQ (jd 6) rK))))) xP) (aD (fG (cT oV (aq (eU (Hw (gv 2)) (jd 0) FN (cT lK (aq (gv 0) aJ)) [] 1) aJ))) dU)))
def sI:Z Bx->O Bx:=cX 9 sE
def gW:Ev->O As:=(aD (Q0 (pH 2 (bQ (jd 2) (bQ (jd 3) rK))) (cT jW (aq (b1 CV (bL 1 dZ (aq (gv 0) aJ))) (aq (b1 CV (bL 2 eX (aq (gv 0) (aq (gv 1) aJ)))) aJ)))) (aD (Q0 (pH 3 (bQ (jd 4) (bQ (jd 5) (bQ (jd 6) rK)))) (cT jW (aq (b1 CV (bL 2 u5 (aq (gv 0) (aq (gv 1) aJ)))) (aq (b1 CV (bL 1 qW (aq (gv 0) aJ))) (aq (b1 CV (bL 1 qW (aq (gv 3) aJ))) aJ))))) (aD (yd (pN Bn (gv 4) (cT jW (aq (cB (.str "stays")) aJ))) (aD (yd (pN Fz (gv 6) (gv 5)) (aD (fG (cB (.bl false))) dU) dU) dU) (aD (yd (C' (pN Fz (cT oV (aq (eU (Hw (gv 6)) (jd 1) (pN FT (gv 1) (gv 0)) (gv 1) [5] 1) aJ)) (cT oV (aq (Um (gv 4) (Ao (cB (.int 1))) wY) aJ))) (pN Fz (cT qK (aq (gv 6) aJ)) (b2 gC (cT qK (aq (gv 5) aJ)) (cB (.int 1))))) (aD (fG (cB (.bl false))) dU) dU) dU)) (aD (B0 7 (bL 1 dZ (aq (gv 3) aJ))) (aD (B0 8 (eU (Hw (gv 7)) (jd 1) (pN FT (gv 1) (gv 0)) (gv 1) [2] 1)) (aD (yd (pN Fz (eU (Hw (gv 2)) (jd 2) (Nu (pN Fz (gv 2) (gv 0)) (pN FT (gv 2) (gv 1))) (gv 2) [1,7] 1) (cT qH aJ)) (aD (fG (cB (.bl false))) dU) dU) (aD (yd (pN Fz (cT qK (aq (gv 8) aJ)) (cT Yl (aq (yI (b2 DF (gv 1) (gv 2)) (b2 Bn (gv 4) (cT jW (aq (cB (.str "stays")) aJ)))) aJ))) (aD (fG (cB (.bl false))) dU) dU) (aD (fG (yI (b2 Bn (bL 2 sI (aq (b2 gF (gv 0) (cB (.int 0))) (aq (gv 7) aJ))) (gv 6)) (b2 Bn (cT qK (aq (gv 7) aJ)) (b2 C1 (cT qK (aq (b2 gF (gv 0) (cB (.int 0))) aJ)) (cT qK (aq (gv 6) aJ)))))) dU))))))))
def gY:Z Bx->O Bx:=cX 9 gW
def sJ:Ev->O As:=(aD (aD (J6 1 (cT jW (aq (b2 C1 (cB (.int 0)) (gv 2)) (aq (gv 3) (aq (gv 4) (aq (gv 5) aJ)))))) dU) (dj [2,3,4,5]))
def lU:Ev->O As:=(aD (B0 1 (cT qH aJ)) (aD (rH (D4 (cT oV (aq (eU (Hw (gv 0)) (pH 4 (bQ (jd 0) (bQ (jd 1) (bQ (jd 2) (bQ (jd 3) rK))))) FN (cT jW (aq (b2 C1 (cB (.int 0)) (gv 0)) (aq (gv 1) (aq (gv 2) (aq (gv 3) aJ))))) [] 4) aJ))) (pH 4 (bQ (jd 2) (bQ (jd 3) (bQ (jd 4) (bQ (jd 5) rK))))) sJ) (aD (fG (cT lK (aq (gv 1) aJ))) dU)))
def lV:Z Bx->O Bx:=cX 6 lU
def nJ:Ev->O As:=(aD (B0 3 (b2 gC (cT jW (aq (gv 2) aJ)) (Um (gv 1) (Ao (cB (.int 1))) wY))) (aD (fG (cT jW (aq (b2 gF (gv 0) (cB (.int 0))) (aq (b1 CV (bL 1 lV (aq (b1 CV (b2 gC (b2 gF (bL 2 eX (aq (gv 0) (aq (gv 1) aJ))) (cB (.int 1))) (cT jW (aq (gv 3) aJ)))) aJ))) (aq (gv 3) aJ))))) dU))
def nM:Z Bx->O Bx:=cX 4 nJ
def gZ:Ev->O As:=(aD (B0 3 (bL 1 dZ (aq (gv 0) aJ))) (aD (B0 4 (b2 gF (gv 1) (cB (.int 0)))) (aD (yd (pN DF (gv 1) (gv 3)) (aD (aD (B0 4 (b2 gC (gv 4) (b2 jZ (gv 2) (b2 C1 (cB (.int 1001)) (gv 4))))) dU) (dj [])) (aD (aD (B0 4 (b2 gC (cB (.int 1)) (b2 jZ (gv 2) (gv 4)))) dU) (dj []))) (aD (Q0 (pH 3 (bQ (jd 5) (bQ (jd 6) (bQ (jd 7) rK)))) (bL 3 nM (aq (gv 0) (aq (gv 1) (aq (gv 4) aJ))))) (aD (yd (pN Fz (WQ (Kc (gv 6))) (cT qK (aq (b2 gF (gv 0) (cB (.int 1))) aJ))) (aD (fG (cB (.bl true))) dU) dU) (aD (B0 8 (bL 1 dZ (aq (cT jW (aq (gv 5) (aq (gv 6) (aq (cT jW aJ) aJ)))) aJ))) (aD (yd (pN Fz (b2 DF (gv 7) (gv 8)) (b2 DF (gv 1) (gv 3))) (aD (fG (cB (.bl false))) dU) dU) (aD (fG (b2 Bn (eU (Hw (gv 8)) (jd 1) (pN Fz (gv 1) (gv 0)) (gv 1) [7] 1) (eU (Hw (gv 3)) (jd 1) (pN Fz (gv 1) (gv 0)) (gv 1) [1] 1))) dU))))))))
def g8:Z Bx->O Bx:=cX 9 gZ
def jD:Ev->O As:=(aD (aD (yd (C' (Qx (tV (bL 1 mU (aq (gv 1) aJ)))) (pN FV (gv 1) (b2 gF (gv 0) (cB (.int 0))))) (aD GT dU) dU) dU) (dj []))
def gw:Z Bx->O Bx:=cX 2 jD
def sO:Ev->O As:=(aD (yd (pN Bn (b2 gF (gv 0) (cB (.int 1))) (gv 1)) (aD (fG (b2 gF (gv 0) (cB (.int 2)))) dU) dU) (aD (yd (pN Bn (b2 gF (gv 0) (cB (.int 2))) (gv 1)) (aD (fG (b2 gF (gv 0) (cB (.int 1)))) dU) dU) (aD (fG (cB .non)) dU)))
def lB:Z Bx->O Bx:=cX 2 sO
def zc:Ev->O As:=(aD (aD (J6 2 (b2 nZ (gv 0) (gv 3))) (aD (B0 3 (bL 2 lB (aq (b2 nZ (gv 0) (gv 3)) (aq (gv 3) aJ)))) dU)) (dj []))
def vB:Ev->O As:=(aD (B0 2 (cT qH aJ)) (aD (B0 3 (gv 1)) (aD (YL (pN wg (b2 nZ (gv 0) (gv 3)) (cB .non)) zc 70) (aD (Fw 2) dU))))
def vC:Z Bx->O Bx:=cX 4 vB
def Fb:Ev->O As:=(aD (aD (B0 7 (bL 2 lB (aq (gv 6) (aq (gv 5) aJ)))) (aD (yd (Nu (pN wg (gv 7) (cB .non)) (pN YM (gv 7) (gv 3))) (aD (aD (Wr 3 (gv 6) (gv 7)) (aD (J6 4 (gv 7)) dU)) (dj [])) (aD dU (dj []))) dU)) (dj [6,7]))
def Fd:Ev->O As:=(aD (aD (FC 5 4 (cB (.int 0))) (aD (zq 0 (jd 6) Fb) dU)) (dj [5,6,7]))
def BW:Ev->O As:=(aD (B0 3 (b2 Mg (gv 1) (cB .non))) (aD (B0 4 (cT qH (aq (gv 1) aJ))) (aD (YL (tV (gv 4)) Fd 70) (aD (yd (pN YM (gv 2) (gv 3)) (aD (fG (cB .non)) dU) dU) (aD (fG (b2 YQ (bL 2 vC (aq (gv 3) (aq (gv 2) aJ))) (b1 F7 (cB (.int 1))))) dU)))))
def BX:Z Bx->O Bx:=cX 8 BW
def yD:Ev->O As:=(aD (Mf (bL 2 gw (aq (gv 0) (aq (gv 1) aJ)))) (aD (Mf (bL 2 gw (aq (gv 0) (aq (gv 2) aJ)))) (aD (fG (bL 3 BX (aq (b1 CV (bL 1 dZ (aq (gv 0) aJ))) (aq (gv 1) (aq (gv 2) aJ))))) dU)))
def qx:Z Bx->O Bx:=cX 3 yD
def pJ:Ev->O As:=(aD (aD (B0 5 (bL 3 qx (aq (gv 0) (aq (gv 3) (aq (gv 4) aJ))))) (aD (yd (Nu (pN wg (gv 5) (cB .non)) (Nu (pN FT (gv 1) (gv 5)) (pN Fz (bL 3 qx (aq (gv 2) (aq (gv 3) (aq (gv 4) aJ)))) (gv 5)))) (aD (fG (cB (.bl false))) dU) dU) (aD (yd (Nu (pN FB (gv 5) (cB .non)) (pN wg (bL 3 qx (aq (gv 2) (aq (gv 3) (aq (gv 4) aJ)))) (cB .non))) (aD (fG (cB (.bl false))) dU) dU) dU))) (dj [4,5]))
def pK:Ev->O As:=(aD (aD (rH (D4 (b2 gF (gv 0) (cB (.int 0)))) (jd 4) pJ) dU) (dj [3,4,5]))
def jE:Ev->O As:=(aD (B0 2 (bL 2 eX (aq (gv 0) (aq (gv 1) aJ)))) (aD (rH (D4 (b2 gF (gv 0) (cB (.int 0)))) (jd 3) pK) (aD (fG (cB (.bl true))) dU)))
def jF:Z Bx->O Bx:=cX 6 jE
def R3:Ev->O As:=(aD (aD (B0 4 (b2 gF (b2 gF (gv 2) (cB (.int 1))) (gv 3))) (aD (yd (C' (Qx (tV (bL 2 gY (aq (gv 2) (aq (gv 4) aJ))))) (Qx (tV (bL 3 g8 (aq (gv 2) (aq (gv 4) (aq (b2 Hu (b2 gF (gv 1) (cB (.int 8))) (b2 gC (gv 3) (cB (.int 1)))) aJ))))))) (aD (fG (cB (.bl false))) dU) dU) dU)) (dj [3,4]))
def Xk:Ev->O As:=(aD (B0 1 (bL 2 eV (aq (b1 CV (bL 2 jk (aq (gv 0) (aq (cB (.int 0)) aJ)))) (aq (cB (.int 12)) aJ)))) (aD (B0 2 (bL 5 pU (aq (gv 0) (aq (cB (.int 0)) (aq (b2 jZ (b2 gF (gv 1) (cB (.int 6))) (cB (.int 10))) (aq (b2 jZ (b2 gF (gv 1) (cB (.int 7))) (cB (.int 13))) (aq (cB (.int 0)) aJ))))))) (aD (rH (Zv (aq (cT qK (aq (b2 gF (gv 2) (cB (.int 1))) aJ)) aJ)) (jd 3) R3) (aD (yd (pN Bn (b2 gF (gv 2) (cB (.int 1))) (cT jW aJ)) (aD (fG (cB (.bl true))) dU) dU) (aD (fG (bL 2 jF (aq (gv 2) (aq (b2 gF (b2 gF (gv 2) (cB (.int 1))) (b2 jZ (b2 gF (gv 1) (cB (.int 9))) (cT qK (aq (b2 gF (gv 2) (cB (.int 1))) aJ)))) aJ)))) dU)))))
def F_law:Z Bx->O Bx:=cX 5 Xk
end
end G67
end
section
set_option synthInstance.maxSize 100000
namespace G67
open L2 P1
structure T (K:B1) (mg:Str->Option Value) where
 jl:DQ K mg "_law_cell" Je ["_law_script","_law_k"]
 eY:DQ K mg "_law_numbers" yV ["_law_cell_here","_law_many"]
 sS:DQ K mg "_law_names" Eu ["_law_xs","_law_many"]
 qd:DQ K mg "_law_ground" Bu ["_law_script","_law_at","_law_many","_law_reasons","_law_bars"]
 jG:DQ K mg "lone_heads" Bv ["names"]
 cQ:DQ K mg "join_heads" Bw ["heads","one","other"]
 d7:DQ K mg "holding_of" BJ ["ground"]
 eZ:DQ K mg "_law_without" yW ["_law_ground_here","_law_reason"]
 mX:DQ K mg "is_tuple" Jf ["thing","many"]
 mY:DQ K mg "is_whole" Jg ["thing"]
 sU:DQ K mg "is_weight" Ew ["thing"]
 qe:DQ K mg "is_text_of" BK ["thing","signs","longest"]
 mZ:DQ K mg "is_name" Mz ["thing"]
 BZ:DQ K mg "is_bar" RZ ["thing"]
 sV:DQ K mg "is_reason" Ey ["thing"]
 ig:DQ K mg "refuse_no_reason" qQ ["ground","reason"]
 m5:DQ K mg "heads_by" Jh ["names","reasons"]
 iR:DQ K mg "names_under" yX ["heads","head"]
 uF:DQ K mg "part_by" MF ["names","reasons","name"]
 vD:DQ K mg "hangs_on" Ji ["ground","reason"]
 qg:DQ K mg "sets_under" BL ["heads"]
 vG:DQ K mg "parts_by" Jj ["names","reasons"]
 qX:DQ K mg "parts_of" Jk ["ground"]
 sW:DQ K mg "_law_parts" Ez ["_law_names_here","_law_reasons"]
 iu:DQ K mg "_law_struck_right" qR ["_law_ground_here","_law_reason"]
 lW:DQ K mg "_law_in_order" xO ["_law_reasons"]
 nO:DQ K mg "_law_weighed" yZ ["_law_ground_here","_law_reason","_law_weight"]
 iw:DQ K mg "_law_weight_right" qT ["_law_ground_here","_law_reason","_law_x"]
 gA:DQ K mg "refuse_no_name" uy ["ground","name"]
 lC:DQ K mg "other_end" EY ["reason","name"]
 vH:DQ K mg "way_back" Jl ["came_by","end"]
 Ca:DQ K mg "way_by" R0 ["reasons","start","end"]
 qy:DQ K mg "why_one" MJ ["ground","one","other"]
 jH:DQ K mg "_law_ways_right" uz ["_law_ground_here","_law_reason"]
 x_law:DQ K mg "law" s_law ["_law_script"]
 ajM:mg "abs"=none
 ajN:mg "all"=none
 ahx:mg "bool"=none
 abS:mg "int"=none
 qj:mg "isinstance"=none
 sX:mg "len"=none
 ahy:mg "list"=none
 MK:mg "max"=none
 abT:mg "min"=none
 yE:mg "range"=none
 abU:mg "set"=none
 oK:mg "sorted"=none
 ajO:mg "str"=none
 sY:mg "tuple"=none
 Y7:∃tk,mg "LETTERS"=some (.str "abcdefghijklmnopqrstuvwxyz" tk)
 Jm:∃tk,mg "LONGEST_NAME"=some (.int 8 tk)
 Kd:∃tk,mg "MOST_WEIGHT"=some (.int 1000 tk)
section
variable(t:T K mg)
theorem R5:bx ["_law_script","_law_k","_law_state","_law_cell_here"] ["_law_script","_law_k"] (aK Je):=jg
theorem R6:Ok P w base t.jl 1 2 jk:=yw (g:=uX) t.jl R5 λ_ _ _ _ _ _ c b a=>(au (f9 (bK Uo (aj 1) (bO mK S t.sX mJ (ak (aj 0) aB)) (cj _)) (au (cg (bI (aj 0) (aj 1))) aH) aH) (au (bD 2 a (bA dN (bA wX aF (bA dR (bA dR (bA wX (aj 1) (aj 1)) (bA wX aF (aj 1))) aF)) aF)) (au (tM PassesOwn.never S (Af (Ln (aj 0) uq (ur aF))) (aP 3 a) (bf [3] (au (bD 2 a (bA dN (bA dR (bA wX (aj 2) aF) (aj 3)) aF)) aH))) (au (cg (aj 2)) aH))))
theorem Jo:bx ["_law_cell_here","_law_many","_law_found","_law_state","_law_digits","_law_k"] ["_law_cell_here","_law_many"] (aK yV):=jg
theorem Jp:Ok P w base t.eY 1 2 eV:=yw (g:=nF) t.eY Jo λ_ _ _ _ _ _ c b a=>(au (bD 2 a (jX aB)) (au (bD 3 a (bA dN (bA wX (bA dR (bA dN (aj 0) aF) aF) aF) aF)) (au (bD 4 a aF) (au (f9 (J3 (CT (bK Uo (aj 0) aF (cj _)) (xZ (bK LG (aj 0) (bA d6 aF aF) (cj _))))) (bf [] (au (bD 4 a (bO UV S t.ajM Ta (ak (aj 0) aB))) aH)) (bf [] aH)) (au (tM PassesOwn.never S (ug S t.yE (ak (aj 1) aB)) (aP 5 a) (bf [5] (au (bD 3 a (bA dN (bA dR (bA dR (bA wX (aj 3) (bA dR (bA dN (aj 3) aF) aF)) (bA wX aF (aj 5))) aF) aF)) (au (wR 2 (bI (jX (ak (aj 3) (ak (bA dN (aj 4) aF) aB))) (iM NS S t.abS Ui (ak (oU OQ (aj 4) aF (cj _)) aB)))) (au (bD 4 a (bA GC (aj 4) aF)) aH))))) (au (Ae 2) aH))))))
theorem O6:bx ["_law_xs","_law_many","_law_letters","_law_stem","_law_at","_law_found","_law_k","_law_mark","_law_name"] ["_law_xs","_law_many"] (aK Eu):=jg
theorem O7:Ok P w base t.sS 1 2 oJ:=yw (g:=rW) t.sS O6 λ_ _ _ _ _ _ c b a=>(au (bD 2 a HD) (au (bD 3 a (Pp (j9 ["_law_k"] (uR ["_law_letters","_law_xs"] [2,0]) S (fA (ug S t.yE (ak (bA dN (bI (aj 0) aF) aF) aB))) (λ_ _ _ _=>(aP 2 (by show List.Nodup (_++_);decide +kernel))) (λ_ _ _ _=>kJ) (λ_ _ _ _=>(bI (aj 0) (bA dN (bA GC (bI (aj 1) (aj 2)) aF) aF))) (cZ)))) (au (bD 4 a (bA dN (bI (aj 0) aF) (bA dR (bO mK S t.sX mJ (ak (aj 3) aB)) aF))) (au (bD 5 a (jX aB)) (au (tM PassesOwn.never S (ug S t.yE (ak (aj 1) aB)) (aP 6 a) (bf [6,7,8] (au (bD 7 a (bI (aj 2) (bA dN (bA dR (aj 6) (bI (aj 0) aF)) aF))) (au (bD 8 a (bA dR (bA dR (Ln (aj 3) uq (ur (aj 4))) (aj 7)) (Ln (aj 3) (ur (aj 4)) uq))) (au (f9 (bK (of_eq b) (bA dN (bI (aj 0) aF) aF) aF (cj _)) (bf [] (au (bD 8 a (bA wX (bI (aj 2) (bA GC (aj 6) aF)) (bA dR aF (bA dN (aj 6) aF)))) aH)) (bf [] aH)) (au (wR 5 (aj 8)) aH)))))) (au (Ae 5) aH))))))
theorem Ke:bx ["_law_script","_law_at","_law_many","_law_reasons","_law_bars","_law_head","_law_names_here","_law_told","_law_k","_law_xs","_law_a","_law_b","_law_weight","_law_found","_law_shut"] ["_law_script","_law_at","_law_many","_law_reasons","_law_bars"] (aK Bu):=jg
theorem Kf(d:Ok P w base t.jl 1 2 jk)(f:Ok P w base t.sS 1 2 oJ)(e:Ok P w base t.eY 1 2 eV):Ok P w base t.qd 2 5 pU:=yw (g:=pR) t.qd Ke λ_ _ _ _ _ _ b c a=>(au (bD 5 a (bY t.eY e b (ak (jV (bY t.jl d b (ak (aj 0) (ak (aj 1) aB)))) (ak aF aB)))) (au (bD 6 a (bO Ls S t.oK qw (ak (bY t.sS f b (ak (aj 5) (ak (aj 2) aB))) aB))) (au (bD 7 a (jX aB)) (au (tM PassesOwn.never S (ug S t.yE (ak (aj 3) aB)) (aP 8 a) (bf [8,9,10,11,12] (au (bD 9 a (bY t.eY e b (ak (jV (bY t.jl d b (ak (aj 0) (ak (jV (bA dR (bA dR (aj 1) aF) (aj 8))) aB)))) (ak aF aB)))) (au (LF 10 11 S a (ak (bA dN (bI (aj 9) aF) (bO (Dm S) S t.MK Di (ak aF (ak (aj 2) aB)))) (ak (bA dN (bI (aj 9) aF) (bO (Dm S) S t.MK Di (ak aF (ak (aj 2) aB)))) aB))) (au (bD 12 a (bI (jX (ak (jV (bA dR aF (bA dN (bI (aj 9) aF) aF))) (ak (jV (bA dR aF (bA dN (bI (aj 9) aF) aF))) (ak (jV (bA dR aF (bA dN (bI (aj 9) aF) aF))) aB)))) (bA dN (bI (aj 5) aF) aF))) (au (f9 (bK (nW c) (aj 10) (aj 11) (cj _)) (bf [] (au (wR 7 (gn (ak (bA Dh aF (aj 12)) (ak (bI (aj 6) (bO (Me S) S t.abT Uj (ak (aj 10) (ak (aj 11) aB)))) (ak (bI (aj 6) (bO (Dm S) S t.MK Di (ak (aj 10) (ak (aj 11) aB)))) (ak (bI (jX (ak aF (ak aF (ak aF aB)))) (bA dN (bI (aj 9) aF) aF)) aB)))))) aH)) (bf [] aH)) aH)))))) (au (Gw 13 ["_law_weight","_law_a","_law_b","_law_k"] (uR [] []) S a (gk (WR S S t.oK (Ol S c S t.abU (aj 7)))) (λ_ _ _ _=>(qI S (aY (aP 0 (by show List.Nodup (_++_);decide +kernel)) (aY (aP 1 (by show List.Nodup (_++_);decide +kernel)) (aY (aP 2 (by show List.Nodup (_++_);decide +kernel)) (aY (aP 3 (by show List.Nodup (_++_);decide +kernel)) lJ)))))) (λ_ _ _ _=>kJ) (λ_ _ _ _=>(gn (ak (bA Dh aF (aj 0)) (ak (aj 1) (ak (aj 2) (ak (aj 3) aB)))))) (My (nU (cZ) (nU (cZ) (nU (cZ) (nU (cZ) Wh)))))) (au (bD 14 a (jX aB)) (au (tM PassesOwn.never S (ug S t.yE (ak (aj 4) aB)) (aP 8 a) (bf [8,9,10,11] (au (bD 9 a (bY t.eY e b (ak (jV (bY t.jl d b (ak (aj 0) (ak (jV (bA dR (bA dR (aj 1) aF) (aj 8))) aB)))) (ak aF aB)))) (au (LF 10 11 S a (ak (bA dN (bI (aj 9) aF) (bO (Dm S) S t.MK Di (ak aF (ak (aj 2) aB)))) (ak (bA dN (bI (aj 9) aF) (bO (Dm S) S t.MK Di (ak aF (ak (aj 2) aB)))) aB))) (au (f9 (bK (nW c) (aj 10) (aj 11) (cj _)) (bf [] (au (wR 14 (gn (ak (bI (aj 6) (bO (Me S) S t.abT Uj (ak (aj 10) (ak (aj 11) aB)))) (ak (bI (aj 6) (bO (Dm S) S t.MK Di (ak (aj 10) (ak (aj 11) aB)))) (ak (bI (jX (ak aF (ak aF aB))) (bA dN (bI (aj 9) aF) aF)) aB))))) aH)) (bf [] aH)) aH))))) (au (cg (gn (ak (iM qL S t.sY nY (ak (aj 6) aB)) (ak (iM qL S t.sY nY (ak (aj 13) aB)) (ak (iM qL S t.sY nY (ak (WR S S t.oK (Ol S c S t.abU (aj 14))) aB)) aB))))) aH))))))))
theorem Kg:bx ["names"] ["names"] (aK Bv):=jg
theorem Kh:Ok P w base t.jG 1 1 jC:=yw (g:=pW) t.jG Kg λ_ _ _ _ _ _ c a b=>(au (cg (XT a ["name"] (uR [] []) S (gk (aj 0)) (λ_ _ _ _=>(aP 0 (by show List.Nodup (_++_);decide +kernel))) (λ_ _ _ _=>kJ) (λ_ _ _ _=>(aj 0)) (λ_ _ _ _=>(aj 0)) (cZ))) aH)
theorem zf:bx ["heads","one","other","head","name"] ["heads","one","other"] (aK Bw):=jg
theorem Kl:wM P w K mg base Nt 1 t.cQ.f t.cQ.fd ["heads","one","other"] (FI K 2 gQ):=by
 unfold gQ;refine XY (k:=0) (g:=pX) t.cQ.F zf S S λd A outer s H E c=>?_;have a:=Wq c;have b:=zf.nd;exact(bf [3,4] (au (bD 3 b (bO (dA S) S t.abT Uj (ak (aj 1) (ak (aj 2) aB)))) (au (tM PassesOwn.never S (Af (iM (RU S) S t.ahy UO (ak (aj 0) aB))) (aP 4 b) (bf [4] (au (f9 (J3 (CT (bK (of_eq a) (kh a (aj 0) (aj 4)) (aj 1) (cj _)) (xZ (bK (of_eq a) (kh a (aj 0) (aj 4)) (aj 2) (cj _))))) (bf [] (au (Ws 0 a (aj 3) (aj 4)) aH)) (bf [] aH)) aH))) aH)))
theorem Km:bx ["ground","names","reasons","bars","heads","holding","reason","one","other"] ["ground"] (aK BJ):=jg
theorem Ko(e:wM P w K mg base Nt 1 t.cQ.f t.cQ.fd ["heads","one","other"] (FI K 2 gQ))(h:Ok P w base t.jG 1 1 jC):Ok P w base t.d7 2 1 dZ:=yw (g:=pY) t.d7 Km λ_ _ _ _ _ _ d c a=>(au (CW (aj 0) (qI S (aY (aP 1 a) (aY (aP 2 a) (aY (aP 3 a) lJ))))) (au (bD 4 a (bY t.jG h d (ak (aj 1) aB))) (au (bD 5 a (jX aB)) (au (Gv 2 PassesOwn.never S (aP 6 a) (bf [6,7,8] (au (bD 7 a (kh c (aj 4) (bI (aj 6) aF))) (au (bD 8 a (kh c (aj 4) (bI (aj 6) aF))) (au (f9 (bK (nW c) (aj 7) (aj 8) (cj _)) (bf [] (au (W0 4 e (d.mono (by decide)) S t.cQ.m t.cQ.k t.cQ.b (ak (aj 7) (ak (aj 8) aB))) (au (wR 5 (aj 6)) aH))) (bf [] aH)) aH))))) (au (Ae 5) aH)))))
theorem Jq:bx ["_law_ground_here","_law_reason"] ["_law_ground_here","_law_reason"] (aK yW):=jg
theorem Jr:Ok P w base t.eZ 1 2 eX:=yw (g:=nG) t.eZ Jq λ_ _ _ _ _ _ c a b=>(au (cg (gn (ak (bI (aj 0) aF) (ak (iM qL S t.sY nY (ak (j9 ["_law_other"] (uR ["_law_reason"] [1]) S (gk (bI (aj 0) aF)) (λ_ _ _ _=>(aP 1 (by show List.Nodup (_++_);decide +kernel))) (λ_ _ _ _=>(eE (bK (nW a) (aj 1) (aj 0) (cj _)))) (λ_ _ _ _=>(aj 1)) (cZ)) aB)) (ak (gn aB) aB))))) aH)
theorem R7:bx ["thing","many"] ["thing","many"] (aK Jf):=jg
theorem R8:Ok P w base t.mX 1 2 mQ:=yw (g:=uY) t.mX R7 λ_ _ _ _ _ _ c a b=>(au (cg (mG (NQ (aj 0) S t.qj S t.sY) (wQ (oU (of_eq a) (bO mK S t.sX mJ (ak (aj 0) aB)) (aj 1) (cj _))))) aH)
theorem R9:bx ["thing"] ["thing"] (aK Jg):=jg
theorem Sd:Ok P w base t.mY 1 1 mR:=yw (g:=uZ) t.mY R9 λ_ _ _ _ _ _ c b a=>(au (cg (mG (Uk (aj 0) S t.qj S t.abS) (wQ (UA (QW (aj 0) S t.qj S t.ahx))))) aH)
theorem O8:bx ["thing"] ["thing"] (aK Ew):=jg
theorem O9(a:Ok P w base t.mY 1 1 mR):Ok P w base t.sU 2 1 rZ:=yw (g:=rY) t.sU O8 λ_ _ _ _ _ _ b f e=>by
 obtain⟨d,c⟩:=t.Kd;exact(au (cg (mG (bY t.mY a b (ak (aj 0) aB)) (wQ (Qu CB CB aF (aj 0) (Qw S c))))) aH)
theorem Kr:bx ["thing","signs","longest"] ["thing","signs","longest"] (aK BK):=jg
theorem Ku:Ok P w base t.qe 1 3 p7:=yw (g:=pZ) t.qe Kr λ_ _ _ _ _ _ c b a=>(au (cg (mG (Ul (aj 0) S t.qj S t.ajO) (mG (Qu CB CB aF (bO mK S t.sX mJ (ak (aj 0) aB)) (aj 2)) (wQ (bO (We S) S t.ajN fg (ak (j9 ["sign"] (uR ["signs"] [1]) S (gk (aj 0)) (λ_ _ _ _=>(aP 1 (by show List.Nodup (_++_);decide +kernel))) (λ_ _ _ _=>kJ) (λ_ _ _ _=>(oU Wo (aj 1) (aj 0) (by with_unfolding_all rfl))) (cZ)) aB)))))) aH)
theorem Vm:bx ["thing"] ["thing"] (aK Mz):=jg
theorem Vn(d:Ok P w base t.qe 1 3 p7):Ok P w base t.mZ 2 1 mU:=yw (g:=yx) t.mZ Vm λ_ _ _ _ _ _ c f e=>by
 obtain⟨h,a⟩:=t.Y7;obtain⟨i,b⟩:=t.Jm;exact(au (cg (bY t.qe d c (ak (aj 0) (ak (Sn S a) (ak (Qw S b) aB))))) aH)
theorem Y9:bx ["thing","one","other","number"] ["thing"] (aK RZ):=jg
theorem Za(c:Ok P w base t.mZ 2 1 mU)(e:Ok P w base t.mX 1 2 mQ)(d:Ok P w base t.mY 1 1 mR):Ok P w base t.BZ 3 1 BR:=yw (g:=BP) t.BZ Y9 λ_ _ _ _ _ _ a f b=>(au (f9 (Hh (CQ (bY t.mX e a (ak (aj 0) (ak aF aB))))) (au (cg vZ) aH) aH) (au (CW (aj 0) (qI S (aY (aP 1 b) (aY (aP 2 b) (aY (aP 3 b) lJ))))) (au (cg (mG (bY t.mZ c a (ak (aj 1) aB)) (mG (bY t.mZ c a (ak (aj 2) aB)) (mG (oU Uo (aj 1) (aj 2) (cj _)) (mG (bY t.mY d a (ak (aj 3) aB)) (wQ (oU LG (aj 3) aF (cj _)))))))) aH)))
theorem Pa:bx ["thing"] ["thing"] (aK Ey):=jg
theorem Pb(b:Ok P w base t.BZ 3 1 BR)(d:Ok P w base t.mX 1 2 mQ)(c:Ok P w base t.sU 2 1 rZ):Ok P w base t.sV 4 1 sy:=yw (g:=su) t.sV Pa λ_ _ _ _ _ _ a f e=>(au (cg (mG (bY t.mX d a (ak (aj 0) (ak aF aB))) (mG (bY t.sU c a (ak (bI (aj 0) aF) aB)) (wQ (bY t.BZ b a (ak (jV (Ln (aj 0) (ur aF) uq)) aB)))))) aH)
theorem yK:bx ["ground","reason"] ["ground","reason"] (aK qQ):=jg
theorem yL(c:Ok P w base t.sV 4 1 sy):Ok P w base t.ig 5 2 gU:=yw (g:=gR) t.ig yK λ_ _ _ _ _ _ a b d=>(bf [] (au (f9 (J3 (CT (Hh (CQ (bY t.sV c a (ak (aj 1) aB)))) (xZ (bK (yr b) (aj 1) (bI (aj 0) aF) (by with_unfolding_all rfl))))) (au W2 aH) aH) aH))
theorem Sg:bx ["names","reasons","heads","weight","one","other","number"] ["names","reasons"] (aK Jh):=jg
theorem Sh(e:wM P w K mg base Nt 1 t.cQ.f t.cQ.fd ["heads","one","other"] (FI K 2 gQ))(h:Ok P w base t.jG 1 1 jC):Ok P w base t.m5 2 2 kW:=yw (g:=mV) t.m5 Sg λ_ _ _ _ _ _ c d a=>(au (bD 2 a (bY t.jG h c (ak (aj 0) aB))) (au (Gv 1 PassesOwn.never S (qI S (aY (aP 3 a) (aY (aP 4 a) (aY (aP 5 a) (aY (aP 6 a) lJ))))) (bf [3,4,5,6] (au (W0 2 e (c.mono (by decide)) S t.cQ.m t.cQ.k t.cQ.b (ak (kh d (aj 2) (aj 4)) (ak (kh d (aj 2) (aj 5)) aB))) aH))) (au (Ae 2) aH)))
theorem Ju:bx ["heads","head"] ["heads","head"] (aK yX):=jg
theorem Jv:Ok P w base t.iR 1 2 iQ:=yw (g:=nH) t.iR Ju λ_ _ _ _ _ _ c a b=>(au (cg (iM qL S t.sY nY (ak (Rw ["name"] (uR ["head","heads"] [1,0]) S (aj 0) (λ_ _ _ _=>(aP 2 (by show List.Nodup (_++_);decide +kernel))) (λ_ _ _ _=>(eE (bK (of_eq a) (kh a (aj 1) (aj 2)) (aj 0) (cj _)))) (λ_ _ _ _=>(aj 2)) (cZ)) aB))) aH)
theorem Vo:bx ["names","reasons","name","heads"] ["names","reasons","name"] (aK MF):=jg
theorem Vp(e:Ok P w base t.m5 2 2 kW)(b:Ok P w base t.iR 1 2 iQ):Ok P w base t.uF 3 3 uD:=yw (g:=yC) t.uF Vo λ_ _ _ _ _ _ a d c=>(au (bD 3 c (bY t.m5 e a (ak (aj 0) (ak (aj 1) aB)))) (au (cg (bY t.iR b a (ak (aj 3) (ak (kh d (aj 3) (aj 2)) aB)))) aH))
theorem Sq:bx ["ground","reason","names","reasons","bars","others","one_part"] ["ground","reason"] (aK Ji):=jg
theorem Ss(c:Ok P w base t.uF 3 3 uD)(e:Ok P w base t.ig 5 2 gU):Ok P w base t.vD 6 2 u5:=yw (g:=u0) t.vD Sq λ_ _ _ _ _ _ b d a=>(au (Oq (bY t.ig e b (ak (aj 0) (ak (aj 1) aB)))) (au (CW (aj 0) (qI S (aY (aP 2 a) (aY (aP 3 a) (aY (aP 4 a) lJ))))) (au (Gw 5 ["other"] (uR ["reason"] [1]) S a (gk (aj 3)) (λ_ _ _ _=>(aP 1 (by show List.Nodup (_++_);decide +kernel))) (λ_ _ _ _=>(eE (bK (nW d) (aj 1) (aj 0) (cj _)))) (λ_ _ _ _=>(aj 1)) (cZ)) (au (bD 6 a (bY t.uF c b (ak (aj 2) (ak (aj 5) (ak (bI (aj 1) aF) aB))))) (au (f9 (bK Wo (bI (aj 1) aF) (aj 6) (by with_unfolding_all rfl)) (au (cg (gn (ak HD aB))) aH) aH) (au (cg (gn (ak HD (ak (aj 6) (ak (jV (bY t.uF c b (ak (aj 2) (ak (aj 5) (ak (bI (aj 1) aF) aB))))) aB))))) aH))))))
theorem Kv:bx ["heads"] ["heads"] (aK BL):=jg
theorem Kw(c:Ok P w base t.iR 1 2 iQ):Ok P w base t.qg 2 1 qb:=yw (g:=p8) t.qg Kv λ_ _ _ _ _ _ b a d=>(au (cg (Rw ["name"] (uR ["heads"] [0]) S (aj 0) (λ_ _ _ _=>(aP 1 (by show List.Nodup (_++_);decide +kernel))) (λ_ _ _ _=>(eE (bK (of_eq a) (kh a (aj 0) (aj 1)) (aj 1) (cj _)))) (λ_ _ _ _=>(jV (bY t.iR c b (ak (aj 0) (ak (aj 1) aB))))) (cZ))) aH)
theorem Sv:bx ["names","reasons"] ["names","reasons"] (aK Jj):=jg
theorem Sw(c:Ok P w base t.m5 2 2 kW)(b:Ok P w base t.qg 2 1 qb):Ok P w base t.vG 3 2 u9:=yw (g:=u6) t.vG Sv λ_ _ _ _ _ _ a e d=>(au (cg (bY t.qg b a (ak (bY t.m5 c a (ak (aj 0) (ak (aj 1) aB))) aB))) aH)
theorem Sx:bx ["ground"] ["ground"] (aK Jk):=jg
theorem Sy(a:Ok P w base t.vG 3 2 u9):Ok P w base t.qX 4 1 qW:=yw (g:=vA) t.qX Sx λ_ _ _ _ _ _ b d c=>(au (cg (bY t.vG a b (ak (bI (aj 0) aF) (ak (bI (aj 0) aF) aB)))) aH)
theorem Pg:bx ["_law_names_here","_law_reasons","_law_found","_law_weight","_law_a","_law_b","_law_k","_law_one","_law_other"] ["_law_names_here","_law_reasons"] (aK Ez):=jg
theorem Ph:Ok P w base t.sW 1 2 sI:=yw (g:=sE) t.sW Pg λ_ _ _ _ _ _ c b a=>(au (Gw 2 ["_law_name"] (uR [] []) S a (gk (aj 0)) (λ_ _ _ _=>(aP 0 (by show List.Nodup (_++_);decide +kernel))) (λ_ _ _ _=>kJ) (λ_ _ _ _=>(jV (jX (ak (aj 0) aB)))) (cZ)) (au (Gv 1 PassesOwn.never S (qI S (aY (aP 3 a) (aY (aP 4 a) (aY (aP 5 a) (aY (aP 6 a) lJ))))) (bf [3,4,5,6,7,8] (au (bD 7 a (bI (j9 ["_law_part"] (uR ["_law_a"] [4]) S (gk (aj 2)) (λ_ _ _ _=>(aP 1 (by show List.Nodup (_++_);decide +kernel))) (λ_ _ _ _=>(eE (bK Wo (aj 0) (aj 1) (by with_unfolding_all rfl)))) (λ_ _ _ _=>(aj 1)) (cZ)) aF)) (au (bD 8 a (bI (j9 ["_law_part"] (uR ["_law_b"] [5]) S (gk (aj 2)) (λ_ _ _ _=>(aP 1 (by show List.Nodup (_++_);decide +kernel))) (λ_ _ _ _=>(eE (bK Wo (aj 0) (aj 1) (by with_unfolding_all rfl)))) (λ_ _ _ _=>(aj 1)) (cZ)) aF)) (au (f9 (bK (nW b) (aj 7) (aj 8) (cj _)) (bf [] (au (bD 2 a (bA dR (j9 ["_law_part"] (uR ["_law_one","_law_other"] [7,8]) S (gk (aj 2)) (λ_ _ _ _=>(aP 2 (by show List.Nodup (_++_);decide +kernel))) (λ_ _ _ _=>(eE (bK (yr b) (aj 2) (jX (ak (aj 0) (ak (aj 1) aB))) (by with_unfolding_all rfl)))) (λ_ _ _ _=>(aj 2)) (cZ)) (jX (ak (jV (bO Ls S t.oK qw (ak (bA dR (aj 7) (aj 8)) aB))) aB)))) aH)) (bf [] aH)) aH))))) (au (cg (bO Ay S t.oK qw (ak (j9 ["_law_part"] (uR [] []) S (gk (aj 2)) (λ_ _ _ _=>(aP 0 (by show List.Nodup (_++_);decide +kernel))) (λ_ _ _ _=>kJ) (λ_ _ _ _=>(iM qL S t.sY nY (ak (aj 0) aB))) (cZ)) aB))) aH)))
theorem yM:bx ["_law_ground_here","_law_reason","_law_held","_law_less","_law_told","_law_before","_law_after","_law_now","_law_anew"] ["_law_ground_here","_law_reason"] (aK qR):=jg
theorem yN(i:Ok P w base t.sW 1 2 sI)(f:Ok P w base t.eZ 1 2 eX)(h:Ok P w base t.vD 6 2 u5)(e:Ok P w base t.d7 2 1 dZ)(d:Ok P w base t.qX 4 1 qW):Ok P w base t.iu 7 2 gY:=yw (g:=gW) t.iu yM λ_ _ _ _ _ _ c a b=>(au (CW (gn (ak (jV (bY t.d7 e c (ak (aj 0) aB))) (ak (jV (bY t.eZ f c (ak (aj 0) (ak (aj 1) aB)))) aB))) (qI S (aY (aP 2 b) (aY (aP 3 b) lJ)))) (au (CW (gn (ak (jV (bY t.vD h c (ak (aj 0) (ak (aj 1) aB)))) (ak (jV (bY t.qX d c (ak (aj 0) aB))) (ak (jV (bY t.qX d c (ak (aj 3) aB))) aB)))) (qI S (aY (aP 4 b) (aY (aP 5 b) (aY (aP 6 b) lJ))))) (au (f9 (bK (of_eq a) (aj 4) (gn (ak HD aB)) (cj _)) (au (f9 (bK (nW a) (aj 6) (aj 5) (cj _)) (au (cg vZ) aH) aH) aH) (au (f9 (J3 (CT (bK (nW a) (bO Ay S t.oK qw (ak (j9 ["_law_part"] (uR ["_law_before"] [5]) S (gk (aj 6)) (λ_ _ _ _=>(aP 1 (by show List.Nodup (_++_);decide +kernel))) (λ_ _ _ _=>(eE (bK (yr a) (aj 1) (aj 0) (by with_unfolding_all rfl)))) (λ_ _ _ _=>(aj 1)) (cZ)) aB)) (bO Ay S t.oK qw (ak (Ln (aj 4) (ur aF) uq) aB)) (cj _)) (xZ (bK (nW a) (bO mK S t.sX mJ (ak (aj 6) aB)) (bA dR (bO mK S t.sX mJ (ak (aj 5) aB)) aF) (cj _))))) (au (cg vZ) aH) aH) aH)) (au (bD 7 b (bY t.d7 e c (ak (aj 3) aB))) (au (Gw 8 ["_law_other"] (uR ["_law_held"] [2]) S b (gk (aj 7)) (λ_ _ _ _=>(aP 1 (by show List.Nodup (_++_);decide +kernel))) (λ_ _ _ _=>(eE (bK (yr a) (aj 1) (aj 0) (by with_unfolding_all rfl)))) (λ_ _ _ _=>(aj 1)) (cZ)) (au (f9 (bK (nW a) (j9 ["_law_other"] (uR ["_law_reason","_law_now"] [1,7]) S (gk (aj 2)) (λ_ _ _ _=>(aP 2 (by show List.Nodup (_++_);decide +kernel))) (λ_ _ _ _=>(eE (J3 (Ad (bK (nW a) (aj 2) (aj 0) (cj _)) (Ab (bK (yr a) (aj 2) (aj 1) (by with_unfolding_all rfl))))))) (λ_ _ _ _=>(aj 2)) (cZ)) (jX aB) (cj _)) (au (cg vZ) aH) aH) (au (f9 (bK (nW a) (bO mK S t.sX mJ (ak (aj 8) aB)) (iM NS S t.abS Ui (ak (mG (oU (Oo a) (aj 1) (aj 2) (by with_unfolding_all rfl)) (wQ (oU (of_eq a) (aj 4) (gn (ak HD aB)) (cj _)))) aB)) (cj _)) (au (cg vZ) aH) aH) (au (cg (mG (oU (of_eq a) (bY t.sW i c (ak (bI (aj 0) aF) (ak (aj 7) aB))) (aj 6) (cj _)) (wQ (oU (of_eq a) (bO mK S t.sX mJ (ak (aj 7) aB)) (bA Dh (bO mK S t.sX mJ (ak (bI (aj 0) aF) aB)) (bO mK S t.sX mJ (ak (aj 6) aB))) (cj _))))) aH))))))))
theorem Ga:bx ["_law_reasons","_law_found","_law_w","_law_a","_law_b","_law_k"] ["_law_reasons"] (aK xO):=jg
theorem Gb:Ok P w base t.lW 1 1 lV:=yw (g:=lU) t.lW Ga λ_ _ _ _ _ _ c b a=>(au (bD 1 a (jX aB)) (au (tM PassesOwn.never S (Af (bO Ay S t.oK qw (ak (j9 ["_law_w","_law_a","_law_b","_law_k"] (uR [] []) S (gk (aj 0)) (λ_ _ _ _=>(qI S (aY (aP 0 (by show List.Nodup (_++_);decide +kernel)) (aY (aP 1 (by show List.Nodup (_++_);decide +kernel)) (aY (aP 2 (by show List.Nodup (_++_);decide +kernel)) (aY (aP 3 (by show List.Nodup (_++_);decide +kernel)) lJ)))))) (λ_ _ _ _=>kJ) (λ_ _ _ _=>(gn (ak (bA Dh aF (aj 0)) (ak (aj 1) (ak (aj 2) (ak (aj 3) aB)))))) (My (nU (cZ) (nU (cZ) (nU (cZ) (nU (cZ) Wh)))))) aB))) (qI S (aY (aP 2 a) (aY (aP 3 a) (aY (aP 4 a) (aY (aP 5 a) lJ))))) (bf [2,3,4,5] (au (wR 1 (gn (ak (bA Dh aF (aj 2)) (ak (aj 3) (ak (aj 4) (ak (aj 5) aB)))))) aH))) (au (cg (iM qL S t.sY nY (ak (aj 1) aB))) aH)))
theorem Jw:bx ["_law_ground_here","_law_reason","_law_weight","_law_new"] ["_law_ground_here","_law_reason","_law_weight"] (aK yZ):=jg
theorem Jx(c:Ok P w base t.lW 1 1 lV)(b:Ok P w base t.eZ 1 2 eX):Ok P w base t.nO 2 3 nM:=yw (g:=nJ) t.nO Jw λ_ _ _ _ _ _ a e d=>(au (bD 3 d (bA dR (gn (ak (aj 2) aB)) (Ln (aj 1) (ur aF) uq))) (au (cg (gn (ak (bI (aj 0) aF) (ak (jV (bY t.lW c a (ak (jV (bA dR (bI (bY t.eZ b a (ak (aj 0) (ak (aj 1) aB))) aF) (gn (ak (aj 3) aB)))) aB))) (ak (aj 3) aB))))) aH))
theorem yO:bx ["_law_ground_here","_law_reason","_law_x","_law_held","_law_weight","_law_names_here","_law_reasons","_law_new","_law_now"] ["_law_ground_here","_law_reason","_law_x"] (aK qT):=jg
theorem yP(e:Ok P w base t.nO 2 3 nM)(d:Ok P w base t.d7 2 1 dZ):Ok P w base t.iw 3 3 g8:=yw (g:=gZ) t.iw yO λ_ _ _ _ _ _ c a b=>(au (bD 3 b (bY t.d7 d c (ak (aj 0) aB))) (au (bD 4 b (bI (aj 1) aF)) (au (f9 (bK (Oo a) (aj 1) (aj 3) (by with_unfolding_all rfl)) (bf [] (au (bD 4 b (bA dR (aj 4) (bA dN (aj 2) (bA Dh aF (aj 4))))) aH)) (bf [] (au (bD 4 b (bA dR aF (bA dN (aj 2) (aj 4)))) aH))) (au (CW (bY t.nO e c (ak (aj 0) (ak (aj 1) (ak (aj 4) aB)))) (qI S (aY (aP 5 b) (aY (aP 6 b) (aY (aP 7 b) lJ))))) (au (f9 (bK (nW a) (b4 S t.sX (Ol S a S t.abU (aj 6))) (bO mK S t.sX mJ (ak (bI (aj 0) aF) aB)) (cj _)) (au (cg vZ) aH) aH) (au (bD 8 b (bY t.d7 d c (ak (gn (ak (aj 5) (ak (aj 6) (ak (gn aB) aB)))) aB))) (au (f9 (bK (nW a) (oU (Oo a) (aj 7) (aj 8) (by with_unfolding_all rfl)) (oU (Oo a) (aj 1) (aj 3) (by with_unfolding_all rfl)) (cj _)) (au (cg vZ) aH) aH) (au (cg (oU (of_eq a) (j9 ["_law_other"] (uR ["_law_new"] [7]) S (gk (aj 8)) (λ_ _ _ _=>(aP 1 (by show List.Nodup (_++_);decide +kernel))) (λ_ _ _ _=>(eE (bK (nW a) (aj 1) (aj 0) (cj _)))) (λ_ _ _ _=>(aj 1)) (cZ)) (j9 ["_law_other"] (uR ["_law_reason"] [1]) S (gk (aj 3)) (λ_ _ _ _=>(aP 1 (by show List.Nodup (_++_);decide +kernel))) (λ_ _ _ _=>(eE (bK (nW a) (aj 1) (aj 0) (cj _)))) (λ_ _ _ _=>(aj 1)) (cZ)) (cj _))) aH))))))))
theorem Cd:bx ["ground","name"] ["ground","name"] (aK uy):=jg
theorem Ce(a:Ok P w base t.mZ 2 1 mU):Ok P w base t.gA 3 2 gw:=yw (g:=jD) t.gA Cd λ_ _ _ _ _ _ b d c=>(bf [] (au (f9 (J3 (CT (Hh (CQ (bY t.mZ a b (ak (aj 1) aB)))) (xZ (bK VZ (aj 1) (bI (aj 0) aF) (by with_unfolding_all rfl))))) (au W2 aH) aH) aH))
theorem Pj:bx ["reason","name"] ["reason","name"] (aK EY):=jg
theorem Pk:Ok P w base t.lC 1 2 lB:=yw (g:=sO) t.lC Pj λ_ _ _ _ _ _ c a b=>(au (f9 (bK (of_eq a) (bI (aj 0) aF) (aj 1) (cj _)) (au (cg (bI (aj 0) aF)) aH) aH) (au (f9 (bK (of_eq a) (bI (aj 0) aF) (aj 1) (cj _)) (au (cg (bI (aj 0) aF)) aH) aH) (au (cg wO) aH)))
theorem SJ:bx ["came_by","end","way","here"] ["came_by","end"] (aK Jl):=jg
theorem SM(c:Ok P w base t.lC 1 2 lB):Ok P w base t.vH 2 2 vC:=yw (g:=vB) t.vH SJ λ_ _ _ _ _ _ d b a=>(au (bD 2 a (jX aB)) (au (bD 3 a (aj 1)) (au (Rz 70 PassesOwn.never (bK GD (kh b (aj 0) (aj 3)) wO (cj _)) (bf [] (au (wR 2 (kh b (aj 0) (aj 3))) (au (bD 3 a (bY t.lC c d (ak (kh b (aj 0) (aj 3)) (ak (aj 3) aB)))) aH)))) (au (Ae 2) aH))))
theorem Zb:bx ["reasons","start","end","came_by","reached","here","reason","there"] ["reasons","start","end"] (aK R0):=jg
theorem Zc(e:Ok P w base t.lC 1 2 lB)(d:Ok P w base t.vH 2 2 vC):Ok P w base t.Ca 3 3 BX:=yw (g:=BW) t.Ca Zb λ_ _ _ _ _ _ c b a=>(au (bD 3 a (bj (aj 1) wO)) (au (bD 4 a (jX (ak (aj 1) aB))) (au (Rz 70 PassesOwn.never (CQ (aj 4)) (bf [5,6,7] (au (RS 5 4 a aF) (au (Gv 0 PassesOwn.never S (aP 6 a) (bf [6,7] (au (bD 7 a (bY t.lC e c (ak (aj 6) (ak (aj 5) aB)))) (au (f9 (J3 (Ad (bK GD (aj 7) wO (cj _)) (Ab (bK (W3 b) (aj 7) (aj 3) (by with_unfolding_all rfl))))) (bf [] (au (Ws 3 b (aj 6) (aj 7)) (au (wR 4 (aj 7)) aH))) (bf [] aH)) aH)))) aH)))) (au (f9 (bK (W3 b) (aj 2) (aj 3) (by with_unfolding_all rfl)) (au (cg wO) aH) aH) (au (cg (ael (bY t.vH d c (ak (aj 3) (ak (aj 2) aB))) (fm U2 aF))) aH)))))
theorem Vq:bx ["ground","one","other"] ["ground","one","other"] (aK MJ):=jg
theorem Vr(d:Ok P w base t.d7 2 1 dZ)(b:Ok P w base t.gA 3 2 gw)(c:Ok P w base t.Ca 3 3 BX):Ok P w base t.qy 4 3 qx:=yw (g:=yD) t.qy Vq λ_ _ _ _ _ _ a f e=>(au (Oq (bY t.gA b a (ak (aj 0) (ak (aj 1) aB)))) (au (Oq (bY t.gA b a (ak (aj 0) (ak (aj 2) aB)))) (au (cg (bY t.Ca c a (ak (jV (bY t.d7 d a (ak (aj 0) aB))) (ak (aj 1) (ak (aj 2) aB))))) aH)))
theorem Cg:bx ["_law_ground_here","_law_reason","_law_less","_law_a","_law_b","_law_way"] ["_law_ground_here","_law_reason"] (aK uz):=jg
theorem Ci(e:Ok P w base t.eZ 1 2 eX)(c:Ok P w base t.qy 4 3 qx):Ok P w base t.jH 5 2 jF:=yw (g:=jE) t.jH Cg λ_ _ _ _ _ _ a d b=>(au (bD 2 b (bY t.eZ e a (ak (aj 0) (ak (aj 1) aB)))) (au (tM PassesOwn.never S (Af (bI (aj 0) aF)) (aP 3 b) (bf [3,4,5] (au (tM PassesOwn.never S (Af (bI (aj 0) aF)) (aP 4 b) (bf [4,5] (au (bD 5 b (bY t.qy c a (ak (aj 0) (ak (aj 3) (ak (aj 4) aB))))) (au (f9 (J3 (Ad (bK GD (aj 5) wO (cj _)) (Ad (bK (yr d) (aj 1) (aj 5) (by with_unfolding_all rfl)) (Ab (bK (nW d) (bY t.qy c a (ak (aj 2) (ak (aj 3) (ak (aj 4) aB)))) (aj 5) (cj _)))))) (au (cg vZ) aH) aH) (au (f9 (J3 (Ad (bK F5 (aj 5) wO (cj _)) (Ab (bK GD (bY t.qy c a (ak (aj 2) (ak (aj 3) (ak (aj 4) aB)))) wO (cj _))))) (au (cg vZ) aH) aH) aH))))) aH))) (au (cg vZ) aH)))
theorem XV:bx ["_law_script","_law_xs","_law_ground_here","_law_k","_law_reason"] ["_law_script"] (aK s_law):=jg
theorem du(d:Ok P w base t.jl 1 2 jk)(c:Ok P w base t.qd 2 5 pU)(i:Ok P w base t.eY 1 2 eV)(f:Ok P w base t.iu 7 2 gY)(h:Ok P w base t.jH 5 2 jF)(e:Ok P w base t.iw 3 3 g8):Ok P w base t.x_law 8 1 F_law:=yw (g:=Xk) t.x_law XV λ_ _ _ _ _ _ a j b=>(au (bD 1 b (bY t.eY i a (ak (jV (bY t.jl d a (ak (aj 0) (ak aF aB)))) (ak aF aB)))) (au (bD 2 b (bY t.qd c a (ak (aj 0) (ak aF (ak (bA dN (bI (aj 1) aF) aF) (ak (bA dN (bI (aj 1) aF) aF) (ak aF aB))))))) (au (tM PassesOwn.never S (ug S t.yE (ak (bO mK S t.sX mJ (ak (bI (aj 2) aF) aB)) aB)) (aP 3 b) (bf [3,4] (au (bD 4 b (bI (bI (aj 2) aF) (aj 3))) (au (f9 (J3 (CT (Hh (CQ (bY t.iu f a (ak (aj 2) (ak (aj 4) aB))))) (xZ (Hh (CQ (bY t.iw e a (ak (aj 2) (ak (aj 4) (ak (bA GC (bI (aj 1) aF) (bA dR (aj 3) aF)) aB))))))))) (au (cg vZ) aH) aH) aH)))) (au (f9 (bK (of_eq j) (bI (aj 2) aF) (gn aB) (cj _)) (au (cg vZ) aH) aH) (au (cg (bY t.jH h a (ak (aj 2) (ak (bI (bI (aj 2) aF) (bA dN (bI (aj 1) aF) (bO mK S t.sX mJ (ak (bI (aj 2) aF) aB)))) aB)))) aH)))))
theorem EF:Ok P w base t.x_law 8 1 F_law:=by
 have e:=R6 (P:=P) (w:=w) (base:=base) t;have i:=Jp (P:=P) (w:=w) (base:=base) t;have q:=O7 (P:=P) (w:=w) (base:=base) t;have A:=Kf (P:=P) (w:=w) (base:=base) t e q i;have m:=Kh (P:=P) (w:=w) (base:=base) t;have l:=Kl (P:=P) (w:=w) (base:=base) t;have a:=Ko (P:=P) (w:=w) (base:=base) t l m;have b:=Jr (P:=P) (w:=w) (base:=base) t;have h:=R8 (P:=P) (w:=w) (base:=base) t;have d:=Sd (P:=P) (w:=w) (base:=base) t;have u:=O9 (P:=P) (w:=w) (base:=base) t d;have x:=Ku (P:=P) (w:=w) (base:=base) t;have c:=Vn (P:=P) (w:=w) (base:=base) t x;have G:=Za (P:=P) (w:=w) (base:=base) t c h d;have M:=Pb (P:=P) (w:=w) (base:=base) t G h u;have p:=yL (P:=P) (w:=w) (base:=base) t M;have f:=Sh (P:=P) (w:=w) (base:=base) t l m;have g:=Jv (P:=P) (w:=w) (base:=base) t;have z:=Vp (P:=P) (w:=w) (base:=base) t f g;have D:=Ss (P:=P) (w:=w) (base:=base) t z p;have K:=Kw (P:=P) (w:=w) (base:=base) t g;have H:=Sw (P:=P) (w:=w) (base:=base) t f K;have J:=Sy (P:=P) (w:=w) (base:=base) t H;have y:=Ph (P:=P) (w:=w) (base:=base) t;have B:=yN (P:=P) (w:=w) (base:=base) t y b D a J;have L:=Gb (P:=P) (w:=w) (base:=base) t;have C:=Jx (P:=P) (w:=w) (base:=base) t L b;have s:=yP (P:=P) (w:=w) (base:=base) t C a;have o:=Ce (P:=P) (w:=w) (base:=base) t c;have j:=Pk (P:=P) (w:=w) (base:=base) t;have F:=SM (P:=P) (w:=w) (base:=base) t j;have I:=Zc (P:=P) (w:=w) (base:=base) t j F;have v:=Vr (P:=P) (w:=w) (base:=base) t a o I;have n:=Ci (P:=P) (w:=w) (base:=base) t b v;have E:=du (P:=P) (w:=w) (base:=base) t e A i B n s;exact E
end
end G67
end
section
set_option synthInstance.maxSize 100000
namespace G67
open L2 P1
noncomputable section
def zj(a:Int)(b:Int):Int:=(let a:=(((a*69621)+b)%2147483647);a)
theorem Kz(d:B9)(e:Lp iH (d.map eI))(c:Int)(a:Int)(b:Int):RP za [U iH,U (zE eI c),U (zE eI a),U (zE eI b)] (λs=>As.nx ((λa:Int=>[U iH,U (zE eI c),U (zE eI a),Y]) s)) (zj  a b) (Y):=R.tp (bh (bW 2 (gq (j5 (W5 (ao 2 (zE eI) a S) 69621 (by decide)) (ao 3 (zE eI) b S)) 2147483647 (by decide)) (λ_=>S) λa=>(bR (bJ a S))))
def bG(c:B9)(a:Int):Int:=(if(decide (a<(c.length:Int)))=true then(at' c a)else(let b:=((48271*(((a*a)+(7*a))+11))%2147483647);(let b:Int:=((cut c Y (U 3)).foldl (λ(b:Int) (d:Int)=>(zj  b d)) b);b)))
def jq(b:B9)(a:Int):Prop:=(((decide (a<(b.length:Int)))=true->In b.length a)/\((decide (a<(b.length:Int)))=false->FS a a))
theorem Vs(b:B9)(d:Lp iH (b.map eI))(a:Int):RP uX [U iH,U (zE eI a),Y,Y] (λr=>As.rt (zE eI r)) (bG b a) (U (jq b a)):=R.tp (j6 (cH (Nc (ao 1 (zE eI) a S) (BQ (rP 0 eI b d S)))) (bh (cN (λr=>r) (lG (rP 0 eI b d S) (ao 1 (zE eI) a S)) (λ_=>S) λ_=>S)) (bR (bW 2 (gq (Va 48271 (by decide) (j5 (j5 (Mm (ao 1 (zE eI) a S) (ao 1 (zE eI) a S)) (Va 7 (by decide) (ao 1 (zE eI) a S))) (B8 11))) 2147483647 (by decide)) (λ_=>S) λc=>(Sb (λc:Int=>[U iH,U (zE eI a),U (zE eI c),Y]) c S (GY (US (rP 0 eI b d S) FK (F0 (B8 3)))) _ (λ_ _=>S) (λ(c:Int) (e:Int)=>(Kz b d a c e).r) (λ_ _=>S) λc=>(cN (λr=>r) (ao 2 (zE eI) c S) (λ_=>S) λ_=>S)))))
theorem vM:∀v bs,(aL eI (aZ eI aN)) v bs->bs.length=2/\(hold (U (jq v.1 v.2.1))->jk (bs.map lend)=U ((zE eI) (bG v.1 v.2.1))):=by
 rintro⟨c,a,_⟩ _ ⟨iH,_,rfl,b,⟨_,rfl,rfl⟩⟩;exact⟨rfl,λh=>cF (g:=uX) (n:=4) (bs:=[lend iH,.z (eI a)]) (Vs c (Eo b) a) h⟩
def cR(a:Int×B9×Int)(c:Int):Int×B9×Int:=(let b:=((((a.1*((a.1%65521)+40487))+(7*c))+5)%1999999973);(let d:=a.2.1++[(at' [b,(a.2.2%1000000)] (if(decide ((0:Int)<a.2.2))=true then(1:Int)else 0))];(let e:=(a.2.2 / (1000000:Int));(b,d,e))))
def jM(a:Int×B9×Int)(b:Int):Prop:=(FS a.1 ((a.1%65521)+40487)/\(let c:=((((a.1*((a.1%65521)+40487))+(7*b))+5)%1999999973);(In [c,(a.2.2%1000000)].length (if(decide ((0:Int)<a.2.2))=true then(1:Int)else 0)/\Qi a.2.1.length)))
theorem DG(c:Int)(e:Int)(a:Int×B9×Int)(b:Int):RP mO [U (zE eI c),U (zE eI e),U ((oE eI) a.2.1),U ((zE eI) a.1),U ((zE eI) a.2.2),U (zE eI b)] (λs=>As.nx ((λa:Int×B9×Int=>[U (zE eI c),U (zE eI e),U ((oE eI) a.2.1),U ((zE eI) a.1),U ((zE eI) a.2.2),Y]) s)) (cR  a b) (U (jM  a b)):=R.tp (bh (bW 3 (gq (j5 (j5 (Mm (ao 3 (zE eI) a.1 S) (j5 (gq (ao 3 (zE eI) a.1 S) 65521 (by decide)) (B8 40487))) (Va 7 (by decide) (ao 5 (zE eI) b S))) (B8 5)) 1999999973 (by decide)) (λ_=>S) λd=>(bh (Er 2 a.2.1 S (lG (kO (oF (dB (ao 3 (zE eI) d S) (dB (gq (ao 4 (zE eI) a.2.2 S) 1000000 (by decide)) (fJ eI))) (zD S))) (Vd (Sf (ao 4 (zE eI) a.2.2 S) (B8 0)))) λf=>(bh (bW 4 (Ot (ao 4 (zE eI) a.2.2 S) 1000000 (by decide)) (λ_=>S) λg=>(bR (bJ (d,f,g) S))))))))
def jN(g:Int)(f:Int)(c:B9)(d:Int)(e:Int):B9:=(let a:Int×B9×Int:=((rng 0 f.toNat).foldl (λ(a:Int×B9×Int) (b:Int)=>(cR  a b)) (d,c,e));a.2.1)
def nA(g:Int)(c:Int)(d:B9)(e:Int)(f:Int):Prop:=(Rg c/\mF (λ(a:Int×B9×Int) (b:Int)=>(cR  a b)) (λ(a:Int×B9×Int) (b:Int)=>U (jM  a b)) (rng 0 c.toNat) (e,d,f))
def DK:Ev->O As:=(aD (rH (Zv (aq (gv 1) aJ)) (jd 5) mO) (aD (Fw 2) dU))
theorem DN(c:Int)(b:Int)(d:B9)(e:Int)(f:Int):RP DK [U (zE eI c),U (zE eI b),U (oE eI d),U (zE eI e),U (zE eI f),Y] (λr=>As.rt (oE eI r)) (jN c b d e f) (U (nA c b d e f)):=R.tp (Mr (λa:Int×B9×Int=>[U (zE eI c),U (zE eI b),U ((oE eI) a.2.1),U ((zE eI) a.1),U ((zE eI) a.2.2),Y]) (e,d,f) S (Mp (ao 1 (zE eI) b S)) _ (λ_ _=>S) (λ(a:Int×B9×Int) (g:Int)=>(DG c b a g).r) λa=>(Dy 2 (λr=>r) a.2.1 S (λ_=>S) λ_=>S))
def bC(a:Int)(e:Int):B9:=(let c:=([]:Z Int);(let d:=((((a%1999999973)+31)*765432101)%1999999973);(let b:=(0:Int);(let b:Int:=(if((decide (a<0))||(decide (((10:Int) ^ 18)<=a)))=true then(let b:=(if a<0 then -a else a);b)else b);(jN a e c d b)))))
def fW(a:Int)(e:Int):Prop:=(let c:=([]:Z Int);(let d:=((((a%1999999973)+31)*765432101)%1999999973);(let b:=(0:Int);(let b:Int:=(if((decide (a<0))||(decide (((10:Int) ^ 18)<=a)))=true then(let b:=(if a<0 then -a else a);b)else b);(nA a e c d b)))))
theorem KC(a:Int)(c:Int):RP nF [U (zE eI a),U (zE eI c),Y,Y,Y,Y] (λr=>As.rt (oE eI r)) (bC a c) (U (fW a c)):=R.tp (bW 2 (oF (fJ eI) (zD S)) (λ_=>S) λd=>(bW 3 (gq (W5 (j5 (gq (ao 0 (zE eI) a S) 1999999973 (by decide)) (B8 31)) 765432101 (by decide)) 1999999973 (by decide)) (λ_=>S) λe=>(bW 4 (B8 0) (λ_=>S) λb=>(Bm (λb:Int=>[U (zE eI a),U (zE eI c),U (oE eI d),U (zE eI e),U (zE eI b),Y]) (YW (cH (Nc (ao 0 (zE eI) a S) (B8 0))) (cH (Eg (ao 0 (zE eI) a S) (d4 10 18 18 (by decide) S)))) (bh (bW 4 (PR (ao 0 (zE eI) a S)) (λ_=>S) λb=>(bR (bJ b S)))) (bR (bJ b S)) λb=>(DN a c d e b).r))))
theorem nP:∀v bs,(aZ eI (aZ eI aN)) v bs->bs.length=2/\(hold (U (fW v.1 v.2.1))->eV (bs.map lend)=U ((oE eI) (bC v.1 v.2.1))):=by
 rintro⟨a,b,_⟩ _ ⟨_,rfl,⟨_,rfl,rfl⟩⟩;exact⟨rfl,λh=>cF (g:=nF) (n:=6) (bs:=[.z (eI a),.z (eI b)]) (KC a b) h⟩
def fK(d:B9)(e:AJ)(g:AJ)(f:Int)(c:AZ)(b:Int):AZ:=(let h:=(ch e ((b+(at' d 2))%15));(let a:=(((Txt.slice g Y (U f))++h)++(Txt.slice g (U f) Y));(let a:AJ:=(if(decide (((at' d 3)%3)=1))=true then(let a:=(Txt.mul (ch e (b / (8:Int))) (1+(b%8)));a)else a);(let c:=c++[a];c))))
def lX(b:B9)(c:AJ)(e:AJ)(d:Int)(h:AZ)(a:Int):Prop:=((In b.length 2/\In c.length ((a+(at' b 2))%15))/\(let g:=(ch c ((a+(at' b 2))%15));((Qi ((Txt.slice e Y (U d)).length+g.length)/\Qi (((Txt.slice e Y (U d))++g).length+(Txt.slice e (U d) Y).length))/\(let f:=(((Txt.slice e Y (U d))++g)++(Txt.slice e (U d) Y));((In b.length 3/\((decide (((at' b 3)%3)=1))=true->(In c.length (a / (8:Int))/\((1+(a%8))<=1000 ∧ -1000<=(1+(a%8))/\(ch c (a / (8:Int))).length<=1000))))/\(let f:AJ:=(if(decide (((at' b 3)%3)=1))=true then(let f:=(Txt.mul (ch c (a / (8:Int))) (1+(a%8)));f)else f);Qi h.length))))))
theorem Jz(g:B9)(i:Lp iH (g.map eI))(h:Int)(d:AJ)(f:AJ)(e:Int)(a:AZ)(c:Int):RP qU [U iH,U (zE eI h),U (zE eS d),U (zE eS f),U (zE eI e),U (oE eS a),U (zE eI c),Y,Y] (λs=>As.nx ((λa:AZ=>[U iH,U (zE eI h),U (zE eS d),U (zE eS f),U (zE eI e),U (oE eS a),Y,Y,Y]) s)) (fK g d f e a c) (U (lX g d f e a c)):=R.tp (bh (bW 7 (Hc (ao 2 (zE eS) d S) (gq (j5 (ao 6 (zE eI) c S) (lG (rP 0 eI g i S) (B8 2))) 15 (by decide))) (λ_=>S) λj=>(bh (bW 8 (Lm (Lm (LN (ao 3 (zE eS) f S) FK (F0 (ao 4 (zE eI) e S))) (ao 7 (zE eS) j S)) (LN (ao 3 (zE eS) f S) (F0 (ao 4 (zE eI) e S)) FK)) (λ_=>S) λb=>(bh (Bm (λb:AJ=>[U iH,U (zE eI h),U (zE eS d),U (zE eS f),U (zE eI e),U (oE eS a),U (zE eI c),U (zE eS j),U (zE eS b)]) (cH (BV (by decide) (gq (lG (rP 0 eI g i S) (B8 3)) 3 (by decide)) (B8 1))) (bh (bW 8 (Tx (Hc (ao 2 (zE eS) d S) (Ot (ao 6 (zE eI) c S) 8 (by decide))) (j5 (B8 1) (gq (ao 6 (zE eI) c S) 8 (by decide)))) (λ_=>S) λb=>(bR (bJ b S)))) (bR (bJ b S)) λb=>(bh (Er 5 a S (ao 8 (zE eS) b S) λa=>(bR (bJ a S))))))))))
def lY(b:B9)(g:Int)(f:AJ)(c:AJ):AZ:=(let e:=((at' b 1)%((c.length:Int)+1));(let a:=([]:AZ);(let a:AZ:=((rng 0 g.toNat).foldl (λ(a:AZ) (d:Int)=>(fK b f c e a d)) a);a)))
def qZ(b:B9)(g:Int)(f:AJ)(c:AJ):Prop:=((In b.length 1/\0<((c.length:Int)+1))/\(let e:=((at' b 1)%((c.length:Int)+1));(let a:=([]:AZ);(Rg g/\mF (λ(a:AZ) (d:Int)=>(fK b f c e a d)) (λ(a:AZ) (d:Int)=>U (lX b f c e a d)) (rng 0 g.toNat) a))))
def JB:Ev->O As:=(aD (B0 4 (b2 jZ (b2 gF (gv 0) (cB (.int 1))) (b2 gC (cT qK (aq (gv 3) aJ)) (cB (.int 1))))) (aD (B0 5 (cT qH aJ)) (aD (rH (Zv (aq (gv 1) aJ)) (jd 6) qU) (aD (Fw 5) dU))))
theorem JC(d:B9)(f:Lp iH (d.map eI))(c:Int)(e:AJ)(b:AJ):RP JB [U iH,U (zE eI c),U (zE eS e),U (zE eS b),Y,Y,Y,Y,Y] (λr=>As.rt (oE eS r)) (lY d c e b) (U (qZ d c e b)):=R.tp (bW 4 (Ep (lG (rP 0 eI d f S) (B8 1)) (j5 (S4 (ao 3 (zE eS) b S)) (B8 1))) (λ_=>S) λg=>(bW 5 (oF (fJ eS) (zD S)) (λ_=>S) λa=>(Mr (λa:AZ=>[U iH,U (zE eI c),U (zE eS e),U (zE eS b),U (zE eI g),U (oE eS a),Y,Y,Y]) a S (Mp (ao 1 (zE eI) c S)) _ (λ_ _=>S) (λ(a:AZ) (h:Int)=>(Jz d f c e b g a h).r) λa=>(Dy 5 (λr=>r) a S (λ_=>S) λ_=>S))))
def cL(a:B9)(e:Int):AZ:=(let b:=("abcdefghijklmnopqrstuvwxyz":AJ);(let d:=(Txt.join "" ((rng 0 ((at' a 0)%6).toNat).map λc:Int=>(ch b (((at' a c) / (40:Int))%26))));(lY a e b d)))
def sZ(a:B9)(e:Int):Prop:=(let c:=("abcdefghijklmnopqrstuvwxyz":AJ);(((((In a.length 0/\Rg ((at' a 0)%6))/\(rng 0 ((at' a 0)%6).toNat).length<=100000)/\(∀b∈(rng 0 ((at' a 0)%6).toNat),(In a.length b/\In c.length (((at' a b) / (40:Int))%26))))/\(((rng 0 ((at' a 0)%6).toNat).map λb:Int=>(ch c (((at' a b) / (40:Int))%26))).map (·.length)).sum+((rng 0 ((at' a 0)%6).toNat).map λb:Int=>(ch c (((at' a b) / (40:Int))%26))).length*("":AJ).length<=100000)/\(let d:=(Txt.join "" ((rng 0 ((at' a 0)%6).toNat).map λb:Int=>(ch c (((at' a b) / (40:Int))%26))));(qZ a e c d))))
theorem SN(a:B9)(b:Lp iH (a.map eI))(c:Int):RP rW [U iH,U (zE eI c),Y,Y,Y,Y,Y,Y,Y] (λr=>As.rt (oE eS r)) (cL a c) (U (sZ a c)):=R.tp (bW 2 (NB "abcdefghijklmnopqrstuvwxyz") (λ_=>S) λd=>(bW 3 (gX "" (kO (Nd (Mp (gq (lG (rP 0 eI a b S) (B8 0)) 6 (by decide))) _ (λ_=>S) (λe:Int=>(Hc (ao 0 (zE eS) d S) (gq (Ot (lG (rP 1 eI a b (congrArg U (b.get S))) (ao 2 (zE eI) e S)) 40 (by decide)) 26 (by decide))))))) (λ_=>S) λf=>(JC a b c d f).r))
theorem SQ:∀v bs,(aL eI (aZ eI aN)) v bs->bs.length=2/\(hold (U (sZ v.1 v.2.1))->oJ (bs.map lend)=U ((oE eS) (cL v.1 v.2.1))):=by
 rintro⟨c,a,_⟩ _ ⟨iH,_,rfl,b,⟨_,rfl,rfl⟩⟩;exact⟨rfl,λh=>cF (g:=rW) (n:=9) (bs:=[lend iH,.z (eI a)]) (SN c (Eo b) a) h⟩
def c7(h:B9)(l:Int)(e:Int)(i:B9)(f:AZ)(a:Z aC)(j:Int):(Z aC):=(let b:=(bC (bG h ((l+1)+j)) 4);(let y1:=((at' b 0)%(if e>1 then e else 1));let y2:=((at' b 1)%(if e>1 then e else 1));let c:=y1;let d:=y2;(let g:=(at' [(1+((at' b 2)%3)),(1+((at' b 2)%9)),(1+((at' b 2)%1000))] ((at' i 4)%3));(let a:(Z aC):=(if(!decide (c=d))=true then(let a:=a++[(((0:Int)-g),(at' f (if d<c then d else c)),(at' f (if d>c then d else c)),(at' [(0:Int),(2:Int),(10:Int)] ((at' b 3)%3)))];a)else a);a))))
def iI(e:B9)(h:Int)(b:Int)(f:B9)(i:AZ)(j:Z aC)(g:Int):Prop:=(((jq e ((h+1)+g))/\(fW (bG e ((h+1)+g)) 4))/\(let a:=(bC (bG e ((h+1)+g)) 4);(((In a.length 0/\0<(if b>1 then b else 1))/\(In a.length 1/\0<(if b>1 then b else 1)))/\(let y1:=((at' a 0)%(if b>1 then b else 1));let y2:=((at' a 1)%(if b>1 then b else 1));let c:=y1;let d:=y2;((((In a.length 2/\(In a.length 2/\In a.length 2))/\In f.length 4)/\In [(1+((at' a 2)%3)),(1+((at' a 2)%9)),(1+((at' a 2)%1000))].length ((at' f 4)%3))/\(let l:=(at' [(1+((at' a 2)%3)),(1+((at' a 2)%9)),(1+((at' a 2)%1000))] ((at' f 4)%3));((!decide (c=d))=true->((In i.length (if d<c then d else c)/\(In i.length (if d>c then d else c)/\(In a.length 3/\In [(0:Int),(2:Int),(10:Int)].length ((at' a 3)%3))))/\Qi j.length))))))))
theorem Ge(h:B9)(o:Lp iH (h.map eI))(f:Int)(d:Int)(m:Int)(l:Int)(e:B9)(c:AZ)(a:Z aC)(g:Int):RP oX [U iH,U (zE eI f),U (zE eI d),U (zE eI m),U (zE eI l),U (oE eI e),U (oE eS c),U (oE aG a),U (zE eI g),Y,Y,Y,Y,Y,Y] (λs=>As.nx ((λa:(Z aC)=>[U iH,U (zE eI f),U (zE eI d),U (zE eI m),U (zE eI l),U (oE eI e),U (oE eS c),U (oE aG a),Y,Y,Y,Y,Y,Y,Y]) s)) (c7 h f d e c a g) (U (iI h f d e c a g)):=R.tp (bh (bW 9 (An nP (bF (pI (An vM (FW (rP 0 eI h o S) (bF (pI (j5 (j5 (ao 1 (zE eI) f S) (B8 1)) (ao 8 (zE eI) g S))) aV)))) (bF (B8 4) aV))) (λ_=>S) λb=>(bh (MQ 10 11 (Ep (lG (fH (ao 9 (lE eI) b S)) (B8 0)) (Ml (B8 1) (ao 2 (zE eI) d S))) (Ep (lG (fH (ao 9 (lE eI) b S)) (B8 1)) (Ml (B8 1) (ao 2 (zE eI) d S))) λi j=>(bh (bW 12 (lG (kO (oF (dB (pI (j5 (B8 1) (gq (lG (fH (ao 9 (lE eI) b S)) (B8 2)) 3 (by decide)))) (dB (pI (j5 (B8 1) (gq (lG (fH (ao 9 (lE eI) b S)) (B8 2)) 9 (by decide)))) (dB (pI (j5 (B8 1) (gq (lG (fH (ao 9 (lE eI) b S)) (B8 2)) 1000 (by decide)))) (fJ eI)))) (zD S))) (gq (lG (fH (ao 5 (lE eI) e S)) (B8 4)) 3 (by decide))) (λ_=>S) λn=>(bh (Bm (λa:(Z aC)=>[U iH,U (zE eI f),U (zE eI d),U (zE eI m),U (zE eI l),U (oE eI e),U (oE eS c),U (oE aG a),U (zE eI g),U (oE eI b),U (zE eI i),U (zE eI j),U (zE eI n),Y,Y]) (cH (Bh (by decide) (ao 10 (zE eI) i S) (ao 11 (zE eI) j S))) (bh (Er 7 a S (Ou (Im (B8 0) (ao 12 (zE eI) n S)) (lG (fH (ao 6 (lE eS) c S)) (Mn (ao 10 (zE eI) i S) (ao 11 (zE eI) j S))) (lG (fH (ao 6 (lE eS) c S)) (Ml (ao 10 (zE eI) i S) (ao 11 (zE eI) j S))) (lG (kO (oF (dB (B8 0) (dB (B8 2) (dB (B8 10) (fJ eI)))) (zD S))) (gq (lG (fH (ao 9 (lE eI) b S)) (B8 3)) 3 (by decide)))) λa=>(bR (bJ a S)))) (bR (bJ a S)) λa=>(bR (bJ a S))))))))))
def dH(h:B9)(l:Int)(d:Int)(f:AZ)(a:Z je)(j:Int):(Z je):=(let e:=(bC (bG h ((l+1)+j)) 8);(let g:=((at' e 5)%(if d>1 then d else 1));let i:=((at' e 6)%(if d>1 then d else 1));let b:=g;let c:=i;(let a:(Z je):=(if(!decide (b=c))=true then(let a:=a++[((at' f (if c<b then c else b)),(at' f (if c>b then c else b)),(at' [(2:Int),(10:Int)] ((at' e 7)%2)))];a)else a);a)))
def iJ(e:B9)(g:Int)(a:Int)(h:AZ)(l:Z je)(f:Int):Prop:=(((jq e ((g+1)+f))/\(fW (bG e ((g+1)+f)) 8))/\(let b:=(bC (bG e ((g+1)+f)) 8);(((In b.length 5/\0<(if a>1 then a else 1))/\(In b.length 6/\0<(if a>1 then a else 1)))/\(let i:=((at' b 5)%(if a>1 then a else 1));let j:=((at' b 6)%(if a>1 then a else 1));let c:=i;let d:=j;((!decide (c=d))=true->((In h.length (if d<c then d else c)/\(In h.length (if d>c then d else c)/\(In b.length 7/\In [(2:Int),(10:Int)].length ((at' b 7)%2))))/\Qi l.length))))))
theorem Gf(f:B9)(p:Lp iH (f.map eI))(d:Int)(c:Int)(m:Int)(l:Int)(n:B9)(b:AZ)(j:Z aC)(o:Z aC)(a:Z je)(e:Int):RP oY [U iH,U (zE eI d),U (zE eI c),U (zE eI m),U (zE eI l),U (oE eI n),U (oE eS b),U (oE aG j),U (zE eI e),Y,Y,Y,Y,U (oE aG o),U (oE zH a)] (λs=>As.nx ((λa:(Z je)=>[U iH,U (zE eI d),U (zE eI c),U (zE eI m),U (zE eI l),U (oE eI n),U (oE eS b),U (oE aG j),Y,Y,Y,Y,Y,U (oE aG o),U (oE zH a)]) s)) (dH f d c b a e) (U (iJ f d c b a e)):=R.tp (bh (bW 9 (An nP (bF (pI (An vM (FW (rP 0 eI f p S) (bF (pI (j5 (j5 (ao 1 (zE eI) d S) (B8 1)) (ao 8 (zE eI) e S))) aV)))) (bF (B8 8) aV))) (λ_=>S) λg=>(bh (MQ 10 11 (Ep (lG (fH (ao 9 (lE eI) g S)) (B8 5)) (Ml (B8 1) (ao 2 (zE eI) c S))) (Ep (lG (fH (ao 9 (lE eI) g S)) (B8 6)) (Ml (B8 1) (ao 2 (zE eI) c S))) λh i=>(bh (Bm (λa:(Z je)=>[U iH,U (zE eI d),U (zE eI c),U (zE eI m),U (zE eI l),U (oE eI n),U (oE eS b),U (oE aG j),U (zE eI e),U (oE eI g),U (zE eI h),U (zE eI i),Y,U (oE aG o),U (oE zH a)]) (cH (Bh (by decide) (ao 10 (zE eI) h S) (ao 11 (zE eI) i S))) (bh (Er 14 a S (Dw (lG (fH (ao 6 (lE eS) b S)) (Mn (ao 10 (zE eI) h S) (ao 11 (zE eI) i S))) (lG (fH (ao 6 (lE eS) b S)) (Ml (ao 10 (zE eI) h S) (ao 11 (zE eI) i S))) (lG (kO (oF (dB (B8 2) (dB (B8 10) (fJ eI))) (zD S))) (gq (lG (fH (ao 9 (lE eI) g S)) (B8 7)) 2 (by decide)))) λa=>(bR (bJ a S)))) (bR (bJ a S)) λa=>(bR (bJ a S))))))))
def o7(e:B9)(i:Int)(j:Int)(l:Int)(f:Int)(m:B9)(c:AZ)(d:Z aC):dW:=(let h:=((oG aG (yJ d)).map λb:aC=>(((0:Int)-b.1),b.2.1,b.2.2.1,b.2.2.2));(let a:=([]:Z je);(let a:(Z je):=((rng 0 f.toNat).foldl (λ(a:Z je) (g:Int)=>(dH e i j c a g)) a);(c,h,(oG zH (yJ a))))))
def o8(e:B9)(h:Int)(i:Int)(j:Int)(f:Int)(l:B9)(g:AZ)(c:Z aC):Prop:=(((c.length<=64/\c.length<64)/\(oG aG (yJ c)).length<=100000)/\(let m:=((oG aG (yJ c)).map λd:aC=>(((0:Int)-d.1),d.2.1,d.2.2.1,d.2.2.2));(let a:=([]:Z je);((Rg f/\mF (λ(a:Z je) (b:Int)=>(dH e h i g a b)) (λ(a:Z je) (b:Int)=>U (iJ e h i g a b)) (rng 0 f.toNat) a)/\(let a:(Z je):=((rng 0 f.toNat).foldl (λ(a:Z je) (b:Int)=>(dH e h i g a b)) a);(a.length<=64/\a.length<64))))))
def wA:Ev->O As:=(aD (B0 13 (eU (Hw (Ia (Kc (gv 7)))) (pH 4 (bQ (jd 0) (bQ (jd 1) (bQ (jd 2) (bQ (jd 3) rK))))) FN (cT jW (aq (b2 C1 (cB (.int 0)) (gv 0)) (aq (gv 1) (aq (gv 2) (aq (gv 3) aJ))))) [] 4)) (aD (B0 14 (cT qH aJ)) (aD (rH (Zv (aq (gv 4) aJ)) (jd 8) oY) (aD (fG (cT jW (aq (cT lK (aq (gv 6) aJ)) (aq (cT lK (aq (gv 13) aJ)) (aq (cT lK (aq (Ia (Kc (gv 14))) aJ)) aJ))))) dU))))
theorem Gg(i:B9)(n:Lp iH (i.map eI))(g:Int)(h:Int)(e:Int)(c:Int)(f:B9)(d:AZ)(b:Z aC):RP wA [U iH,U (zE eI g),U (zE eI h),U (zE eI e),U (zE eI c),U (oE eI f),U (oE eS d),U (oE aG b),Y,Y,Y,Y,Y,Y,Y] (λr=>As.rt (zE bB r)) (o7 i g h e c f d b) (U (o8 i g h e c f d b)):=R.tp (bW 13 (Bl (FZ (kO (O3 (MV (fH (ao 7 (lE aG) b S)))))) _ (λ_=>S) (λj:aC=>(Ou (Im (B8 0) (ao 0 (zE eI) j.1 S)) (ao 1 (zE eS) j.2.1 S) (ao 2 (zE eS) j.2.2.1 S) (ao 3 (zE eI) j.2.2.2 S))) λ_=>S) (λ_=>S) λl=>(bW 14 (oF (fJ zH) (zD S)) (λ_=>S) λa=>(Mr (λa:(Z je)=>[U iH,U (zE eI g),U (zE eI h),U (zE eI e),U (zE eI c),U (oE eI f),U (oE eS d),U (oE aG b),Y,Y,Y,Y,Y,U (oE aG l),U (oE zH a)]) a S (Mp (ao 4 (zE eI) c S)) _ (λ_ _=>S) (λ(a:Z je) (m:Int)=>(Gf i n g h e c f d b l a m).r) λa=>(cN (λr=>r) (Dw (uT (fH (ao 6 (lE eS) d S))) (uT (fH (ao 13 (lE aG) l S))) (uT (kO (O3 (MV (fH (ao 14 (lE zH) a S))))))) (λ_=>S) λ_=>S))))
def o9(b:B9)(f:Int)(g:Int)(c:Int)(h:Int)(d:B9)(e:AZ):dW:=(let a:=([]:Z aC);(let a:(Z aC):=((rng 0 c.toNat).foldl (λ(a:Z aC) (i:Int)=>(c7 b f g d e a i)) a);(o7 b f g c h d e a)))
def pA(c:B9)(g:Int)(h:Int)(d:Int)(i:Int)(e:B9)(f:AZ):Prop:=(let a:=([]:Z aC);((Rg d/\mF (λ(a:Z aC) (b:Int)=>(c7 c g h e f a b)) (λ(a:Z aC) (b:Int)=>U (iI c g h e f a b)) (rng 0 d.toNat) a)/\(let a:(Z aC):=((rng 0 d.toNat).foldl (λ(a:Z aC) (b:Int)=>(c7 c g h e f a b)) a);(o8 c g h d i e f a))))
def wB:Ev->O As:=(aD (B0 7 (cT qH aJ)) (aD (rH (Zv (aq (gv 3) aJ)) (jd 8) oX) wA))
theorem Gh(h:B9)(i:Lp iH (h.map eI))(f:Int)(g:Int)(b:Int)(c:Int)(d:B9)(e:AZ):RP wB [U iH,U (zE eI f),U (zE eI g),U (zE eI b),U (zE eI c),U (oE eI d),U (oE eS e),Y,Y,Y,Y,Y,Y,Y,Y] (λr=>As.rt (zE bB r)) (o9 h f g b c d e) (U (pA h f g b c d e)):=R.tp (bW 7 (oF (fJ aG) (zD S)) (λ_=>S) λa=>(Mr (λa:(Z aC)=>[U iH,U (zE eI f),U (zE eI g),U (zE eI b),U (zE eI c),U (oE eI d),U (oE eS e),U (oE aG a),Y,Y,Y,Y,Y,Y,Y]) a S (Mp (ao 3 (zE eI) b S)) _ (λ_ _=>S) (λ(a:Z aC) (j:Int)=>(Ge h i f g b c d e a j).r) λa=>(Gg h i f g b c d e a).r))
def pB(c:B9)(g:Int)(b:Int)(e:Int)(d:Int)(a:B9):dW:=(let f:=(qM (cL a b));(o9 c g b e d a f))
def pC(c:B9)(g:Int)(b:Int)(e:Int)(d:Int)(a:B9):Prop:=(((sZ a b)/\(cL a b).length<64)/\(let f:=(qM (cL a b));(pA c g b e d a f)))
def Gi:Ev->O As:=(aD (B0 6 (cT Hz (aq (bL 2 oJ (aq (gv 5) (aq (gv 2) aJ))) aJ))) wB)
theorem Gj(c:B9)(g:Lp iH (c.map eI))(f:Int)(b:Int)(e:Int)(d:Int)(a:B9):RP Gi [U iH,U (zE eI f),U (zE eI b),U (zE eI e),U (zE eI d),U (oE eI a),Y,Y,Y,Y,Y,Y,Y,Y,Y] (λr=>As.rt (zE bB r)) (pB c f b e d a) (U (pC c f b e d a)):=R.tp (bW 6 (W8 (kO (An SQ (FW (fH (ao 5 (lE eI) a S)) (bF (ao 2 (zE eI) b S) aV))))) (λ_=>S) λh=>(Gh c g f b e d a h).r)
def jO(a:B9)(b:Int)(f:Int)(d:Int)(c:Int):dW:=(let e:=(bC (bG a b) 6);(pB a b f d c e))
def ql(a:B9)(b:Int)(f:Int)(d:Int)(c:Int):Prop:=(((jq a b)/\(fW (bG a b) 6))/\(let e:=(bC (bG a b) 6);(pC a b f d c e)))
theorem Pn(a:B9)(f:Lp iH (a.map eI))(b:Int)(e:Int)(d:Int)(c:Int):RP pR [U iH,U (zE eI b),U (zE eI e),U (zE eI d),U (zE eI c),Y,Y,Y,Y,Y,Y,Y,Y,Y,Y] (λr=>As.rt (zE bB r)) (jO a b e d c) (U (ql a b e d c)):=R.tp (bW 5 (An nP (bF (pI (An vM (FW (rP 0 eI a f S) (bF (ao 1 (zE eI) b S) aV)))) (bF (B8 6) aV))) (λ_=>S) λg=>(Gj a f b e d c g).r)
theorem Pq:∀v bs,(aL eI (aZ eI (aZ eI (aZ eI (aZ eI aN))))) v bs->bs.length=5/\(hold (U (ql v.1 v.2.1 v.2.2.1 v.2.2.2.1 v.2.2.2.2.1))->pU (bs.map lend)=U ((zE bB) (jO v.1 v.2.1 v.2.2.1 v.2.2.2.1 v.2.2.2.2.1))):=by
 rintro⟨e,c,d,b,a,_⟩ _ ⟨iH,_,rfl,f,⟨_,rfl,⟨_,rfl,⟨_,rfl,⟨_,rfl,rfl⟩⟩⟩⟩⟩;exact⟨rfl,λh=>cF (g:=pR) (n:=15) (bs:=[lend iH,.z (eI c),.z (eI d),.z (eI b),.z (eI a)]) (Pn e (Eo f) c d b a) h⟩
def aQ(b:AZ):(Z (AJ×AJ)):=(FA (b.map λa:AJ=>(a,a)))
def jP(a:AZ):Prop:=(a.length<1000/\a.length<=100000)
theorem Pr(a:AZ):RP pW [U ((zE (eT eS)) a)] (λr=>As.rt (mE eS r)) (aQ a) (U (jP a)):=R.tp (cN (λr=>r) (cK (YX (ao 0 (zE (eT eS)) a S)) (Bl (YX (ao 0 (zE (eT eS)) a S)) _ (λ_=>S) (λb:AJ=>(OM (ao 0 (zE eS) b S) (ao 0 (zE eS) b S))) λ_=>S)) (λ_=>S) λ_=>S)
theorem vN:∀v bs,(aZ (eT eS) aN) v bs->bs.length=1/\(hold (U (jP v.1))->jC (bs.map lend)=U ((mE eS) (aQ v.1))):=by
 rintro⟨a,_⟩ _ ⟨_,rfl,rfl⟩;exact⟨rfl,λh=>cF (g:=pW) (n:=1) (bs:=[.z (eT eS a)]) (Pr a) h⟩
def dI(c:AJ)(vx:AJ)(d:AJ)(a:(Z (AJ×AJ)))(b:AJ):(Z (AJ×AJ)):=(let a:(Z (AJ×AJ)):=(if((decide ((look a b)=c))||(decide ((look a b)=vx)))=true then(let a:=put a b d;a)else a);a)
def pD(c:AJ)(vx:AJ)(d:AJ)(a:(Z (AJ×AJ)))(b:AJ):Prop:=((has a b=true/\((decide ((look a b)=c))=false->has a b=true))/\(((decide ((look a b)=c))||(decide ((look a b)=vx)))=true->a.length<1000))
theorem Gk(c:AJ)(vx:AJ)(d:AJ)(a:(Z (AJ×AJ)))(b:AJ):RP wj [U ((mW (U a_) eS) a),U (zE eS c),U (zE eS vx),U (zE eS d),U (zE eS b)] (λs=>As.nx ((λa:(Z (AJ×AJ))=>[U ((mW (U a_) eS) a),U (zE eS c),U (zE eS vx),U (zE eS d),Y]) s)) (dI c vx d a b) (U (pD c vx d a b)):=R.tp (bh (Bm (λa:(Z (AJ×AJ))=>[U ((mW (U a_) eS) a),U (zE eS c),U (zE eS vx),U (zE eS d),U (zE eS b)]) (YW (cH (BV (by decide) (lR (ao 0 (nE eS) a S) (ao 4 (zE eS) b S)) (ao 1 (zE eS) c S))) (cH (BV (by decide) (lR (ao 0 (nE eS) a S) (ao 4 (zE eS) b S)) (ao 2 (zE eS) vx S)))) (bh (Xd (U a_) 0 a S (ao 3 (zE eS) d S) (ao 4 (zE eS) b S) λa=>(bR (bJ a S)))) (bR (bJ a S)) λa=>(bR (bJ a S))))
def iz(a:(Z (AJ×AJ)))(b:AJ)(vx:AJ):(Z (AJ×AJ)):=(let c:=(if Dv vx b=true then vx else b);(let a:(Z (AJ×AJ)):=((a.map (·.1)).foldl (λ(a:(Z (AJ×AJ))) (d:AJ)=>(dI b vx c a d)) a);a))
def jQ(a:(Z (AJ×AJ)))(b:AJ)(vx:AJ):Prop:=(let d:=(if Dv vx b=true then vx else b);mF (λ(a:(Z (AJ×AJ))) (c:AJ)=>(dI b vx d a c)) (λ(a:(Z (AJ×AJ))) (c:AJ)=>U (pD b vx d a c)) (a.map (·.1)) a)
def vO(a:(Z (AJ×AJ)))(b:AJ)(vx:AJ):R pX [U ((mW (U a_) eS) a),U (zE eS b),U (zE eS vx),Y,Y] (λd=>As.nx [U ((mW (U a_) eS) d),U (zE eS b),U (zE eS vx),Y,Y]):=(bh (bW 3 (U' (ao 1 (zE eS) b S) (ao 2 (zE eS) vx S)) (λ_=>S) λc=>(bh (Mr (λa:(Z (AJ×AJ))=>[U ((mW (U a_) eS) a),U (zE eS b),U (zE eS vx),U (zE eS c),Y]) a S (GY (PZ (ao 0 (nE eS) a S))) _ (λ_ _=>S) (λ(a:(Z (AJ×AJ))) (e:AJ)=>(Gk b vx c a e).r) λa=>(bR (bJ a S))))))
theorem KD(b:(Z (AJ×AJ)))(a:AJ)(vx:AJ):(vO (a_:=a_) b a vx).v=iz b a vx:=by kernel_rfl
theorem KH(b:(Z (AJ×AJ)))(a:AJ)(vx:AJ):(vO (a_:=a_) b a vx).D=U (jQ b a vx):=by kernel_rfl
theorem vP:∀(b:(Z (AJ×AJ))) v bs,(aZ eS (aZ eS aN)) v bs->bs.length=2/\bs.all Db=true/\(hold (U (jQ b v.1 v.2.1))->∀a,gQ a (b.map λq=>(kS q.1,eS q.2)) bs=U ((iz b v.1 v.2.1).map λq=>(kS q.1,eS q.2))):=by
 rintro b ⟨c,vx,_⟩ _ ⟨_,rfl,⟨_,rfl,rfl⟩⟩;exact⟨rfl,rfl,λh a=>(bb (g:=pX) (n:=5) (bs:=[.z (eS c),.z (eS vx)]) (vO (a_:=a) b c vx) ((congrArg hold (KH (a_:=a) b c vx)).mpr h) (λ_=>S)).trans (congrArg (λr:(Z (AJ×AJ))=>U (r.map λq=>(kS q.1,eS q.2))) (KD (a_:=a) b c vx))⟩
def dJ(a:(Z (AJ×AJ))×(Z aC))(b:aC):(Z (AJ×AJ))×(Z aC):=(let c:=(look a.1 b.2.1);(let vx:=(look a.1 b.2.2.1);(let d:(Z (AJ×AJ))×(Z aC):=(if(!decide (c=vx))=true then(let e:=(iz a.1 c vx);(let vs:=a.2++[b];(e,vs)))else(a.1,a.2));(d.1,d.2))))
def kj(a:(Z (AJ×AJ))×(Z aC))(b:aC):Prop:=(has a.1 b.2.1=true/\(let c:=(look a.1 b.2.1);(has a.1 b.2.2.1=true/\(let vx:=(look a.1 b.2.2.1);((!decide (c=vx))=true->((jQ a.1 c vx)/\(let d:=(iz a.1 c vx);Qi a.2.length)))))))
theorem Gm(g:dW)(d:AZ)(h:Z aC)(f:Z je)(a:(Z (AJ×AJ))×(Z aC))(b:aC):RP wz [U (zE bB g),U ((zE (eT eS)) d),U ((zE (eT aG)) h),U ((zE (eT zH)) f),U ((mE eS) a.1),U ((oE aG) a.2),U (zE aG b),Y,Y] (λs=>As.nx ((λa:(Z (AJ×AJ))×(Z aC)=>[U (zE bB g),U ((zE (eT eS)) d),U ((zE (eT aG)) h),U ((zE (eT zH)) f),U ((mE eS) a.1),U ((oE aG) a.2),Y,Y,Y]) s)) (dJ  a b) (U (kj  a b)):=R.tp (bh (bW 7 (lR (ao 4 (nE eS) a.1 S) (fU (ao 6 (zE aG) b S) (λq=>q.2.1) eS 1 λ_=>S)) (λ_=>S) λe=>(bh (bW 8 (lR (ao 4 (nE eS) a.1 S) (fU (ao 6 (zE aG) b S) (λq=>q.2.2.1) eS 2 λ_=>S)) (λ_=>S) λvx=>(bh (Bm (λc:(Z (AJ×AJ))×(Z aC)=>[U (zE bB g),U ((zE (eT eS)) d),U ((zE (eT aG)) h),U ((zE (eT zH)) f),U ((mE eS) c.1),U ((oE aG) c.2),U (zE aG b),U (zE eS e),U (zE eS vx)]) (cH (Bh (by decide) (ao 7 (zE eS) e S) (ao 8 (zE eS) vx S))) (bh (Vi Y 4 a.1 S vP (bF (ao 7 (zE eS) e S) (bF (ao 8 (zE eS) vx S) aV)) λi=>(bh (Er 5 a.2 S (ao 6 (zE aG) b S) λvs=>(bR (bJ (i,vs) S)))))) (bR (bJ (a.1,a.2) S)) λc=>(bR (bJ (c.1,c.2) S))))))))
def bM(c:dW):(Z aC):=(let q1:=c;(let d:=(aQ q1.1);(let vs:=([]:Z aC);(let a:(Z (AJ×AJ))×(Z aC):=(q1.2.1.foldl (λ(a:(Z (AJ×AJ))×(Z aC)) (b:aC)=>(dJ  a b)) (d,vs));a.2))))
def dF(c:dW):Prop:=(let q1:=c;((jP q1.1)/\(let d:=(aQ q1.1);(let vs:=([]:Z aC);mF (λ(b:(Z (AJ×AJ))×(Z aC)) (a:aC)=>(dJ  b a)) (λ(b:(Z (AJ×AJ))×(Z aC)) (a:aC)=>U (kj  b a)) q1.2.1 (d,vs)))))
theorem Pu(a:dW):RP pY [U (zE bB a),Y,Y,Y,Y,Y,Y,Y,Y] (λr=>As.rt (oE aG r)) (bM a) (U (dF a)):=R.tp (Mq (ao 0 (zE bB) a S) _ (λ_=>S) λq1=>(bW 4 (An vN (bF (ao 1 (zE (eT eS)) q1.1 S) aV)) (λ_=>S) λd=>(bW 5 (oF (fJ aG) (zD S)) (λ_=>S) λvs=>(IK 2 q1.2.1 (MS S) (λb:(Z (AJ×AJ))×(Z aC)=>[U (zE bB a),U ((zE (eT eS)) q1.1),U ((zE (eT aG)) q1.2.1),U ((zE (eT zH)) q1.2.2),U ((mE eS) b.1),U ((oE aG) b.2),Y,Y,Y]) (d,vs) S _ (λ_ _=>S) (λ(b:(Z (AJ×AJ))×(Z aC)) (c:aC)=>(Gm a q1.1 q1.2.1 q1.2.2 b c).r) λb=>(Dy 5 (λr=>r) b.2 S (λ_=>S) λ_=>S)))))
theorem jR:∀v bs,(aZ bB aN) v bs->bs.length=1/\(hold (U (dF v.1))->dZ (bs.map lend)=U ((oE aG) (bM v.1))):=by
 rintro⟨a,_⟩ _ ⟨_,rfl,rfl⟩;exact⟨rfl,λh=>cF (g:=pY) (n:=9) (bs:=[.z (bB a)]) (Pu a) h⟩
def cY(b:dW)(c:aC):dW:=(b.1,((b.2.1.filter λa:aC=>(!decide (a=c))).map λa:aC=>a),([]:Z je))
def iU(a:dW)(b:aC):Prop:=a.2.1.length<=100000
theorem KJ(a:dW)(b:aC):RP nG [U (zE bB a),U (zE aG b)] (λr=>As.rt (zE bB r)) (cY a b) (U (iU a b)):=R.tp (cN (λr=>r) (Dw (fU (ao 0 (zE bB) a S) (λq=>q.1) (eT eS) 0 λ_=>S) (uT (kO (iG (YX (fU (ao 0 (zE bB) a S) (λq=>q.2.1) (eT aG) 1 λ_=>S)) _ (λ_=>S) (λc:aC=>(cH (Bh (by decide) (ao 1 (zE aG) c S) (ao 0 (zE aG) b S)))) (λc:aC=>(ao 1 (zE aG) c S)) (λ_=>S) λ_=>S))) (Vb zH)) (λ_=>S) λ_=>S)
theorem tY:∀v bs,(aZ bB (aZ aG aN)) v bs->bs.length=2/\(hold (U (iU v.1 v.2.1))->eX (bs.map lend)=U ((zE bB) (cY v.1 v.2.1))):=by
 rintro⟨b,a,_⟩ _ ⟨_,rfl,⟨_,rfl,rfl⟩⟩;exact⟨rfl,λh=>cF (g:=nG) (n:=2) (bs:=[.z (bB b),.z (aG a)]) (KJ b a) h⟩
def fX(a:Dt)(b:Int):Bool:=((B4 a)&&(decide ((Ov a)=b)))
def q8(a:Dt)(b:Int):Prop:=((B4 a)=true->Ox a=true)
theorem Vt(a:Dt)(b:Int):RP uY [U (zE eD a),U (zE eI b)] (λr=>As.rt (zE eB r)) (fX a b) (U (q8 a b)):=R.tp (cN (λr=>r) (qO (W7 B4 (ao 0 (zE eD) a S)) (BV (by decide) (Vc (ao 0 (zE eD) a S)) (ao 1 (zE eI) b S))) (λ_=>S) λ_=>S)
theorem JD:∀v bs,(aZ eD (aZ eI aN)) v bs->bs.length=2/\(hold (U (q8 v.1 v.2.1))->mQ (bs.map lend)=U ((zE eB) (fX v.1 v.2.1))):=by
 rintro⟨a,b,_⟩ _ ⟨_,rfl,⟨_,rfl,rfl⟩⟩;exact⟨rfl,λh=>cF (g:=uY) (n:=2) (bs:=[.z (eD a),.z (eI b)]) (Vt a b) h⟩
def jr(a:Dt):Bool:=((Dj a)&&(!(BM a)))
theorem Vu(a:Dt):RP uZ [U (zE eD a)] (λr=>As.rt (zE eB r)) (jr a) Y:=R.tp (cN (λr=>r) (qO (W7 Dj (ao 0 (zE eD) a S)) (VE (W7 BM (ao 0 (zE eD) a S)))) (λ_=>S) λ_=>S)
theorem JF:∀v bs,(aZ eD aN) v bs->bs.length=1/\(hold (Y)->mR (bs.map lend)=U ((zE eB) (jr v.1))):=by
 rintro⟨a,_⟩ _ ⟨_,rfl,rfl⟩;exact⟨rfl,λh=>cF (g:=uZ) (n:=1) (bs:=[.z (eD a)]) (Vu a) h⟩
def oM(a:Dt):Bool:=((jr a)&&((decide ((1:Int)<=(Zz a)))&&(decide ((Zz a)<=1000))))
def tu(a:Dt):Prop:=((jr a)=true->(a=eI (Zz a)/\((decide ((1:Int)<=(Zz a)))=true->a=eI (Zz a))))
theorem SX(a:Dt):RP rY [U (zE eD a)] (λr=>As.rt (zE eB r)) (oM a) (U (tu a)):=R.tp (cN (λr=>r) (qO (An JF (bF (ao 0 (zE eD) a S) aV)) (L3 (F' (B8 1) (rR (ao 0 (zE eD) a S) Zz eI)) (F' (rR (ao 0 (zE eD) a S) Zz eI) (B8 1000)))) (λ_=>S) λ_=>S)
theorem S5:∀v bs,(aZ eD aN) v bs->bs.length=1/\(hold (U (tu v.1))->rZ (bs.map lend)=U ((zE eB) (oM v.1))):=by
 rintro⟨a,_⟩ _ ⟨_,rfl,rfl⟩;exact⟨rfl,λh=>cF (g:=rY) (n:=1) (bs:=[.z (eD a)]) (SX a) h⟩
def jT(a:Dt)(d:AJ)(b:Int):Bool:=((qJ a)&&(((decide ((1:Int)<=(Ov a)))&&(decide ((Ov a)<=b)))&&(((DV a).map λc:Dt=>(Lg (RG c) d)).all id)))
def lZ(a:Dt)(d:AJ)(c:Int):Prop:=((qJ a)=true->((Ox a=true/\((decide ((1:Int)<=(Ov a)))=true->Ox a=true))/\(((decide ((1:Int)<=(Ov a)))&&(decide ((Ov a)<=c)))=true->((Ox a=true/\(DV a).length<=100000)/\(∀b∈(DV a),b=eS (RG b))))))
theorem Px(a:Dt)(c:AJ)(b:Int):RP pZ [U (zE eD a),U (zE eS c),U (zE eI b)] (λr=>As.rt (zE eB r)) (jT a c b) (U (lZ a c b)):=R.tp (cN (λr=>r) (qO (W7 qJ (ao 0 (zE eD) a S)) (qO (L3 (F' (B8 1) (Vc (ao 0 (zE eD) a S))) (F' (Vc (ao 0 (zE eD) a S)) (ao 2 (zE eI) b S))) (dL (kO (Nd (UU (ao 0 (zE eD) a S)) _ (λ_=>S) (λd:Dt=>(UH (rR (ao 1 (zE eD) d S) RG eS) (ao 0 (zE eS) c S)))))))) (λ_=>S) λ_=>S)
theorem Py:∀v bs,(aZ eD (aZ eS (aZ eI aN))) v bs->bs.length=3/\(hold (U (lZ v.1 v.2.1 v.2.2.1))->p7 (bs.map lend)=U ((zE eB) (jT v.1 v.2.1 v.2.2.1))):=by
 rintro⟨b,c,a,_⟩ _ ⟨_,rfl,⟨_,rfl,⟨_,rfl,rfl⟩⟩⟩;exact⟨rfl,λh=>cF (g:=pZ) (n:=3) (bs:=[.z (eD b),.z (eS c),.z (eI a)]) (Px b c a) h⟩
def dX(a:Dt):Bool:=(jT a ("abcdefghijklmnopqrstuvwxyz":AJ) 8)
def qz(a:Dt):Prop:=(lZ a ("abcdefghijklmnopqrstuvwxyz":AJ) 8)
theorem Zd(a:Dt):RP yx [U (zE eD a)] (λr=>As.rt (zE eB r)) (dX a) (U (qz a)):=R.tp (cN (λr=>r) (An Py (bF (ao 0 (zE eD) a S) (bF (NB "abcdefghijklmnopqrstuvwxyz") (bF (B8 8) aV)))) (λ_=>S) λ_=>S)
theorem DP:∀v bs,(aZ eD aN) v bs->bs.length=1/\(hold (U (qz v.1))->mU (bs.map lend)=U ((zE eB) (dX v.1))):=by
 rintro⟨a,_⟩ _ ⟨_,rfl,rfl⟩;exact⟨rfl,λh=>cF (g:=yx) (n:=1) (bs:=[.z (eD a)]) (Zd a) h⟩
def JG(a:Dt):Bool:=(if(!(fX a 3))=true then false else(let q1:=(GA a);((dX q1.1)&&((dX q1.2.1)&&((Dv (RG q1.1) (RG q1.2.1))&&((jr q1.2.2)&&(decide ((0:Int)<=(Zz q1.2.2)))))))))
def Cj(a:Dt):Prop:=((q8 a 3)/\((!(fX a 3))=false->(a=L6 (GA a)/\(let q1:=(GA a);((qz q1.1)/\((dX q1.1)=true->((qz q1.2.1)/\((dX q1.2.1)=true->((q1.1=eS (RG q1.1)/\q1.2.1=eS (RG q1.2.1))/\((Dv (RG q1.1) (RG q1.2.1))=true->((jr q1.2.2)=true->q1.2.2=eI (Zz q1.2.2))))))))))))
theorem ON(a:Dt):RP BP [U (zE eD a),Y,Y,Y] (λr=>As.rt (zE eB r)) (JG a) (U (Cj a)):=R.tp (j6 (RD (EZ (An JD (bF (ao 0 (zE eD) a S) (bF (B8 3) aV))))) (bh (cN (λr=>r) (oA (.bl false) eB false S) (λ_=>S) λ_=>S)) (bR (Mq (rR (ao 0 (zE eD) a S) GA L6) _ (λ_=>S) λq1=>(cN (λr=>r) (qO (An DP (bF (ao 1 (zE eD) q1.1 S) aV)) (qO (An DP (bF (ao 2 (zE eD) q1.2.1 S) aV)) (qO (UK (rR (ao 1 (zE eD) q1.1 S) RG eS) (rR (ao 2 (zE eD) q1.2.1 S) RG eS)) (qO (An JF (bF (ao 3 (zE eD) q1.2.2 S) aV)) (Eg (rR (ao 3 (zE eD) q1.2.2 S) Zz eI) (B8 0)))))) (λ_=>S) λ_=>S))))
theorem i9:∀v bs,(aZ eD aN) v bs->bs.length=1/\(hold (U (Cj v.1))->BR (bs.map lend)=U ((zE eB) (JG v.1))):=by
 rintro⟨a,_⟩ _ ⟨_,rfl,rfl⟩;exact⟨rfl,λh=>cF (g:=BP) (n:=4) (bs:=[.z (eD a)]) (ON a) h⟩
def oN(a:Dt):Bool:=((fX a 4)&&((oM (D2 a 0))&&(JG (Dt.tup (cut (Zy a) (U 1) Y)))))
def tB(a:Dt):Prop:=((q8 a 4)/\((fX a 4)=true->((HK a (0:Int)/\(tu (D2 a 0)))/\((oM (D2 a 0))=true->(B4 a=true/\(Cj (Dt.tup (cut (Zy a) (U 1) Y))))))))
theorem S7(a:Dt):RP su [U (zE eD a)] (λr=>As.rt (zE eB r)) (oN a) (U (tB a)):=R.tp (cN (λr=>r) (qO (An JD (bF (ao 0 (zE eD) a S) (bF (B8 4) aV))) (qO (An S5 (bF (WA (ao 0 (zE eD) a S) (B8 0)) aV)) (An i9 (bF (pI (OG (ao 0 (zE eD) a S) (F0 (B8 1)) FK)) aV)))) (λ_=>S) λ_=>S)
theorem S8:∀v bs,(aZ eD aN) v bs->bs.length=1/\(hold (U (tB v.1))->sy (bs.map lend)=U ((zE eB) (oN v.1))):=by
 rintro⟨a,_⟩ _ ⟨_,rfl,rfl⟩;exact⟨rfl,λh=>cF (g:=su) (n:=1) (bs:=[.z (eD a)]) (S7 a) h⟩
def q9(b:dW)(a:aC):Unit:=(if((!(oN (aG a)))||(!cU a b.2.1))=true then default else())
def lq(b:dW)(a:aC):Prop:=((tB (aG a))/\(((!(oN (aG a)))||(!cU a b.2.1))=true->False))
theorem zM(b:dW)(a:aC):RP gR [U (zE bB b),U (zE aG a)] (λ_:Unit=>As.nx [U (zE bB b),U (zE aG a)]) (q9 b a) (U (lq b a)):=R.tp (bh (j6 (YW (RD (EZ (An S8 (bF (W4 (ao 1 (zE aG) a S)) aV)))) (cH (UI (by decide) (ao 1 (zE aG) a S) (fU (ao 0 (zE bB) b S) (λq=>q.2.1) (eT aG) 1 λ_=>S)))) (bh Xi) (bR (bR (bJ () S)))))
theorem zN:∀v bs,(aZ bB (aZ aG aN)) v bs->bs.length=2/\(hold (U (lq v.1 v.2.1))->gU (bs.map lend)=U ((zE eN) (q9 v.1 v.2.1))):=by
 rintro⟨a,b,_⟩ _ ⟨_,rfl,⟨_,rfl,rfl⟩⟩;exact⟨rfl,λh=>Xj (g:=gR) (n:=2) (bs:=[.z (bB a),.z (aG b)]) (zM a b).r h⟩
def fY(a:(Z (AJ×AJ)))(q1:aC):(Z (AJ×AJ)):=(let a:=(iz a (look a q1.2.1) (look a q1.2.2.1));a)
def tZ(a:(Z (AJ×AJ)))(q1:aC):Prop:=((has a q1.2.1=true/\has a q1.2.2.1=true)/\(jQ a (look a q1.2.1) (look a q1.2.2.1)))
theorem KN(b:AZ)(c:Z aC)(d:Lp b_1 (c.map aG))(a:(Z (AJ×AJ)))(q1:aC):RP tW [U ((zE (eT eS)) b),U b_1,U (mE eS a),U ((zE eI) q1.1),U ((zE eS) q1.2.1),U ((zE eS) q1.2.2.1),U ((zE eI) q1.2.2.2)] (λs=>As.nx ((λa:(Z (AJ×AJ))=>[U ((zE (eT eS)) b),U b_1,U (mE eS a),Y,Y,Y,Y]) s)) (fY  a q1) (U (tZ  a q1)):=R.tp (bh (Vi Y 2 a S vP (bF (lR (ao 2 (nE eS) a S) (ao 4 (zE eS) q1.2.1 S)) (bF (lR (ao 2 (nE eS) a S) (ao 5 (zE eS) q1.2.2.1 S)) aV)) λa=>(bR (bJ a S))))
def iB(b:AZ)(c:Z aC):(Z (AJ×AJ)):=(let a:=(aQ b);(let a:(Z (AJ×AJ)):=(c.foldl (λ(a:(Z (AJ×AJ))) (q1:aC)=>(fY  a q1)) a);a))
def vQ(b:AZ)(c:Z aC):Prop:=((jP b)/\(let a:=(aQ b);mF (λ(a:(Z (AJ×AJ))) (q1:aC)=>(fY  a q1)) (λ(a:(Z (AJ×AJ))) (q1:aC)=>U (tZ  a q1)) c a))
theorem Vv(b:AZ)(c:Z aC)(d:Lp b_1 (c.map aG)):RP mV [U ((zE (eT eS)) b),U b_1,Y,Y,Y,Y,Y] (λr=>As.rt (mE eS r)) (iB b c) (U (vQ b c)):=R.tp (bW 2 (An vN (bF (ao 0 (zE (eT eS)) b S) aV)) (λ_=>S) λa=>(IK 1 c (Vf d S) (λa:(Z (AJ×AJ))=>[U ((zE (eT eS)) b),U b_1,U (mE eS a),Y,Y,Y,Y]) a S _ (λ_ _=>S) (λ(a:(Z (AJ×AJ))) (q1:aC)=>(KN b c d a q1).r) λa=>(Dy 2 (λr=>r) a S (λ_=>S) λ_=>S)))
theorem Vw:∀v bs,(aZ (eT eS) (aL aG aN)) v bs->bs.length=2/\(hold (U (vQ v.1 v.2.1))->kW (bs.map lend)=U ((mE eS) (iB v.1 v.2.1))):=by
 rintro⟨a,b,_⟩ _ ⟨_,rfl,⟨b_1,_,rfl,c,rfl⟩⟩;exact⟨rfl,λh=>cF (g:=mV) (n:=7) (bs:=[.z (eT eS a),lend b_1]) (Vv a b (Eo c)) h⟩
def bH(b:(Z (AJ×AJ)))(c:AJ):AZ:=(((b.map (·.1)).filter λa:AJ=>(decide ((look b a)=c))).map λa:AJ=>a)
def j7(a:(Z (AJ×AJ)))(c:AJ):Prop:=((a.map (·.1)).length<=100000/\(∀b∈(a.map (·.1)),has a b=true))
theorem KQ(a:(Z (AJ×AJ)))(b:AJ):RP nH [U (nE eS a),U (zE eS b)] (λr=>As.rt ((zE (eT eS)) r)) (bH a b) (U (j7 a b)):=R.tp (cN (λr=>r) (uT (kO (Xa (LI (ao 0 (nE eS) a S)) _ (λ_=>S) (λc:AJ=>(cH (BV (by decide) (lR (ao 1 (nE eS) a S) (ao 2 (zE eS) c S)) (ao 0 (zE eS) b S)))) (λc:AJ=>(ao 2 (zE eS) c S))))) (λ_=>S) λ_=>S)
theorem zm:∀v bs,(aM eS (aZ eS aN)) v bs->bs.length=2/\(hold (U (j7 v.1 v.2.1))->iQ (bs.map lend)=U ((zE (eT eS)) (bH v.1 v.2.1))):=by
 rintro⟨a,b,_⟩ _ ⟨_,_,rfl,(rfl|rfl),⟨_,rfl,rfl⟩⟩
 all_goals exact⟨rfl,λh=>cF (g:=nH) (n:=2) (bs:=[nE eS a,.z (eS b)]) (KQ a b) h⟩
def qC(b:AZ)(c:Z aC)(d:AJ):AZ:=(let a:=(iB b c);(bH a (look a d)))
def uH(b:AZ)(c:Z aC)(d:AJ):Prop:=((vQ b c)/\(let a:=(iB b c);(has a d=true/\(j7 a (look a d)))))
theorem Ze(a:AZ)(c:Z aC)(e:Lp b_1 (c.map aG))(b:AJ):RP yC [U ((zE (eT eS)) a),U b_1,U (zE eS b),Y] (λr=>As.rt ((zE (eT eS)) r)) (qC a c b) (U (uH a c b)):=R.tp (bW 3 (An Vw (bF (ao 0 (zE (eT eS)) a S) (FW (rP 1 aG c e S) aV))) (λ_=>S) λd=>(cN (λr=>r) (An zm (HR (ao 3 (nE eS) d S) (bF (lR (ao 3 (nE eS) d S) (ao 2 (zE eS) b S)) aV))) (λ_=>S) λ_=>S))
theorem MN:∀v bs,(aZ (eT eS) (aL aG (aZ eS aN))) v bs->bs.length=3/\(hold (U (uH v.1 v.2.1 v.2.2.1))->uD (bs.map lend)=U ((zE (eT eS)) (qC v.1 v.2.1 v.2.2.1))):=by
 rintro⟨a,c,b,_⟩ _ ⟨_,rfl,⟨b_1,_,rfl,d,⟨_,rfl,rfl⟩⟩⟩;exact⟨rfl,λh=>cF (g:=yC) (n:=4) (bs:=[.z (eT eS a),lend b_1,.z (eS b)]) (Ze a c (Eo d) b) h⟩
def nC(d:dW)(a:aC):Dt:=(let q1:=d;(let c:=((q1.2.1.filter λvx:aC=>(!decide (vx=a))).map λvx:aC=>vx);(let b:=(qC q1.1 c a.2.1);(if(decide (a.2.2.1∈b))=true then(Dt.tup [(Dt.str "stays")])else(Dt.tup [(Dt.str "parts"),(eT eS b),((eT eS) (qC q1.1 c a.2.2.1))])))))
def rz(c:dW)(a:aC):Prop:=((lq c a)/\(let q1:=c;(q1.2.1.length<=100000/\(let b:=((q1.2.1.filter λvx:aC=>(!decide (vx=a))).map λvx:aC=>vx);((uH q1.1 b a.2.1)/\(let d:=(qC q1.1 b a.2.1);((decide (a.2.2.1∈d))=false->(uH q1.1 b a.2.2.1))))))))
theorem Vx(b:dW)(a:aC):RP u0 [U (zE bB b),U (zE aG a),Y,Y,Y,Y,Y] (λr=>As.rt (zE eD r)) (nC b a) (U (rz b a)):=R.tp (Vk (An zN (bF (ao 0 (zE bB) b S) (bF (ao 1 (zE aG) a S) aV))) (Mq (ao 0 (zE bB) b S) _ (λ_=>S) λq1=>(bW 5 (iG (YX (ao 3 (zE (eT aG)) q1.2.1 S)) _ (λ_=>S) (λvx:aC=>(cH (Bh (by decide) (ao 1 (zE aG) vx S) (ao 0 (zE aG) a S)))) (λvx:aC=>(ao 1 (zE aG) vx S)) (λ_=>S) λ_=>S) (λ_=>S) λd=>(bW 6 (An MN (bF (ao 2 (zE (eT eS)) q1.1 S) (FW (fH (ao 5 (lE aG) d S)) (bF (fU (ao 1 (zE aG) a S) (λq=>q.2.1) eS 1 λ_=>S) aV)))) (λ_=>S) λc=>(j6 (cH (VA (fU (ao 1 (zE aG) a S) (λq=>q.2.2.1) eS 2 λ_=>S) (ao 6 (zE (eT eS)) c S))) (bh (cN (λr=>r) (Ir (dB (F8 (.str "stays")) (fJ eD)) (zD S)) (λ_=>S) λ_=>S)) (bR (cN (λr=>r) (Ir (dB (F8 (.str "parts")) (dB (W4 (ao 6 (zE (eT eS)) c S)) (dB (W4 (pI (An MN (bF (ao 2 (zE (eT eS)) q1.1 S) (FW (fH (ao 5 (lE aG) d S)) (bF (fU (ao 1 (zE aG) a S) (λq=>q.2.2.1) eS 2 λ_=>S) aV)))))) (fJ eD)))) (zD S)) (λ_=>S) λ_=>S)))))))
theorem Vy:∀v bs,(aZ bB (aZ aG aN)) v bs->bs.length=2/\(hold (U (rz v.1 v.2.1))->u5 (bs.map lend)=U ((zE eD) (nC v.1 v.2.1))):=by
 rintro⟨a,b,_⟩ _ ⟨_,rfl,⟨_,rfl,rfl⟩⟩;exact⟨rfl,λh=>cF (g:=u0) (n:=7) (bs:=[.z (bB a),.z (aG b)]) (Vx a b) h⟩
def pF(a:(Z (AJ×AJ)))(q1:aC):(Z (AJ×AJ)):=(let a:=(iz a (look a q1.2.1) (look a q1.2.2.1));a)
def wC(a:(Z (AJ×AJ)))(q1:aC):Prop:=((has a q1.2.1=true/\has a q1.2.2.1=true)/\(jQ a (look a q1.2.1) (look a q1.2.2.1)))
theorem Gn(b:AZ)(c:Z aC)(a:(Z (AJ×AJ)))(q1:aC):RP tW [U ((zE (eT eS)) b),U ((zE (eT aG)) c),U (mE eS a),U ((zE eI) q1.1),U ((zE eS) q1.2.1),U ((zE eS) q1.2.2.1),U ((zE eI) q1.2.2.2)] (λs=>As.nx ((λa:(Z (AJ×AJ))=>[U ((zE (eT eS)) b),U ((zE (eT aG)) c),U (mE eS a),Y,Y,Y,Y]) s)) (pF  a q1) (U (wC  a q1)):=R.tp (bh (Vi Y 2 a S vP (bF (lR (ao 2 (nE eS) a S) (ao 4 (zE eS) q1.2.1 S)) (bF (lR (ao 2 (nE eS) a S) (ao 5 (zE eS) q1.2.2.1 S)) aV)) λa=>(bR (bJ a S))))
def qm(b:AZ)(c:Z aC):(Z (AJ×AJ)):=(let a:=(aQ b);(let a:(Z (AJ×AJ)):=(c.foldl (λ(a:(Z (AJ×AJ))) (q1:aC)=>(pF  a q1)) a);a))
def vR(b:AZ)(c:Z aC):Prop:=((jP b)/\(let a:=(aQ b);mF (λ(a:(Z (AJ×AJ))) (q1:aC)=>(pF  a q1)) (λ(a:(Z (AJ×AJ))) (q1:aC)=>U (wC  a q1)) c a))
theorem Pz(b:AZ)(c:Z aC):RP mV [U ((zE (eT eS)) b),U ((zE (eT aG)) c),Y,Y,Y,Y,Y] (λr=>As.rt (mE eS r)) (qm b c) (U (vR b c)):=R.tp (bW 2 (An vN (bF (ao 0 (zE (eT eS)) b S) aV)) (λ_=>S) λa=>(IK 1 c (MS S) (λa:(Z (AJ×AJ))=>[U ((zE (eT eS)) b),U ((zE (eT aG)) c),U (mE eS a),Y,Y,Y,Y]) a S _ (λ_ _=>S) (λ(a:(Z (AJ×AJ))) (q1:aC)=>(Gn b c a q1).r) λa=>(Dy 2 (λr=>r) a S (λ_=>S) λ_=>S)))
theorem PJ:∀v bs,(aZ (eT eS) (aZ (eT aG) aN)) v bs->bs.length=2/\(hold (U (vR v.1 v.2.1))->kW (bs.map lend)=U ((mE eS) (qm v.1 v.2.1))):=by
 rintro⟨a,b,_⟩ _ ⟨_,rfl,⟨_,rfl,rfl⟩⟩;exact⟨rfl,λh=>cF (g:=mV) (n:=7) (bs:=[.z (eT eS a),.z (eT aG b)]) (Pz a b) h⟩
def d9(b:(Z (AJ×AJ))):(Z AZ):=(((b.map (·.1)).filter λa:AJ=>(decide ((look b a)=a))).map λa:AJ=>(bH b a))
def mj(a:(Z (AJ×AJ))):Prop:=((a.map (·.1)).length<=100000/\(∀b∈(a.map (·.1)),(has a b=true/\((decide ((look a b)=b))=true->(j7 a b)))))
theorem PK(a:(Z (AJ×AJ))):RP p8 [U (nE eS a)] (λr=>As.rt ((oE (eT eS)) r)) (d9 a) (U (mj a)):=R.tp (cN (λr=>r) (Xa (LI (ao 0 (nE eS) a S)) _ (λ_=>S) (λb:AJ=>(cH (BV (by decide) (lR (ao 0 (nE eS) a S) (ao 1 (zE eS) b S)) (ao 1 (zE eS) b S)))) (λb:AJ=>(pI (An zm (HR (ao 0 (nE eS) a S) (bF (ao 1 (zE eS) b S) aV)))))) (λ_=>S) λ_=>S)
theorem PL:∀v bs,(aM eS aN) v bs->bs.length=1/\(hold (U (mj v.1))->qb (bs.map lend)=U ((oE (eT eS)) (d9 v.1))):=by
 rintro⟨a,_⟩ _ ⟨_,_,rfl,(rfl|rfl),rfl⟩
 all_goals exact⟨rfl,λh=>cF (g:=p8) (n:=1) (bs:=[nE eS a]) (PK a) h⟩
def zO(a:AZ)(b:Z aC):(Z AZ):=(d9 (qm a b))
def zP(a:AZ)(b:Z aC):Prop:=((vR a b)/\(mj (qm a b)))
theorem Vz(a:AZ)(b:Z aC):RP u6 [U ((zE (eT eS)) a),U ((zE (eT aG)) b)] (λr=>As.rt ((oE (eT eS)) r)) (zO a b) (U (zP a b)):=R.tp (cN (λr=>r) (An PL (cE (An PJ (bF (ao 0 (zE (eT eS)) a S) (bF (ao 1 (zE (eT aG)) b S) aV))) aV)) (λ_=>S) λ_=>S)
theorem VB:∀v bs,(aZ (eT eS) (aZ (eT aG) aN)) v bs->bs.length=2/\(hold (U (zP v.1 v.2.1))->u9 (bs.map lend)=U ((oE (eT eS)) (zO v.1 v.2.1))):=by
 rintro⟨a,b,_⟩ _ ⟨_,rfl,⟨_,rfl,rfl⟩⟩;exact⟨rfl,λh=>cF (g:=u6) (n:=2) (bs:=[.z (eT eS a),.z (eT aG b)]) (Vz a b) h⟩
def lu(a:dW):(Z AZ):=(zO a.1 a.2.1)
def rA(a:dW):Prop:=(zP a.1 a.2.1)
theorem VD(a:dW):RP vA [U (zE bB a)] (λr=>As.rt ((oE (eT eS)) r)) (lu a) (U (rA a)):=R.tp (cN (λr=>r) (An VB (bF (fU (ao 0 (zE bB) a S) (λq=>q.1) (eT eS) 0 λ_=>S) (bF (fU (ao 0 (zE bB) a S) (λq=>q.2.1) (eT aG) 1 λ_=>S) aV))) (λ_=>S) λ_=>S)
theorem JH:∀v bs,(aZ bB aN) v bs->bs.length=1/\(hold (U (rA v.1))->qW (bs.map lend)=U ((oE (eT eS)) (lu v.1))):=by
 rintro⟨a,_⟩ _ ⟨_,rfl,rfl⟩;exact⟨rfl,λh=>cF (g:=vA) (n:=1) (bs:=[.z (bB a)]) (VD a) h⟩
def dG(b:Z AZ)(q1:aC):(Z AZ):=(let c:=(at' ((b.filter λa:AZ=>(decide (q1.2.1∈a))).map λa:AZ=>a) 0);(let d:=(at' ((b.filter λa:AZ=>(decide (q1.2.2.1∈a))).map λa:AZ=>a) 0);(let b:(Z AZ):=(if(!decide (c=d))=true then(let b:=(((b.filter λa:AZ=>(!cU a [c,d])).map λa:AZ=>a)++[(qM (c++d))]);b)else b);b)))
def ju(b:Z AZ)(q1:aC):Prop:=((b.length<=100000/\In ((b.filter λa:AZ=>(decide (q1.2.1∈a))).map λa:AZ=>a).length 0)/\(let c:=(at' ((b.filter λa:AZ=>(decide (q1.2.1∈a))).map λa:AZ=>a) 0);((b.length<=100000/\In ((b.filter λa:AZ=>(decide (q1.2.2.1∈a))).map λa:AZ=>a).length 0)/\(let d:=(at' ((b.filter λa:AZ=>(decide (q1.2.2.1∈a))).map λa:AZ=>a) 0);((!decide (c=d))=true->((b.length<=100000/\(Qi (c.length+d.length)/\(c++d).length<64))/\Qi (((b.filter λa:AZ=>(!cU a [c,d])).map λa:AZ=>a).length+[(qM (c++d))].length)))))))
theorem JK(e:AZ)(f:Z aC)(g:Lp b_1 (f.map aG))(a:Z AZ)(q1:aC):RP xP [U ((zE (eT eS)) e),U b_1,U ((oE (eL eS)) a),U ((zE eI) q1.1),U ((zE eS) q1.2.1),U ((zE eS) q1.2.2.1),U ((zE eI) q1.2.2.2),Y,Y] (λs=>As.nx ((λa:(Z AZ)=>[U ((zE (eT eS)) e),U b_1,U ((oE (eL eS)) a),Y,Y,Y,Y,Y,Y]) s)) (dG  a q1) (U (ju  a q1)):=R.tp (bh (bW 7 (lG (kO (iG (FZ (fH (ao 2 (lE (eL eS)) a S))) _ (λ_=>S) (λb:AZ=>(cH (Nl (ao 0 (zE eS) q1.2.1 S) (pQ (ao 1 (zE (eL eS)) b S))))) (λb:AZ=>(ao 1 (zE (eL eS)) b S)) (λ_=>S) λ_=>S)) (B8 0)) (λ_=>S) λc=>(bh (bW 8 (lG (kO (iG (FZ (fH (ao 2 (lE (eL eS)) a S))) _ (λ_=>S) (λb:AZ=>(cH (Nl (ao 0 (zE eS) q1.2.2.1 S) (pQ (ao 1 (zE (eL eS)) b S))))) (λb:AZ=>(ao 1 (zE (eL eS)) b S)) (λ_=>S) λ_=>S)) (B8 0)) (λ_=>S) λd=>(bh (Bm (λa:(Z AZ)=>[U ((zE (eT eS)) e),U b_1,U ((oE (eL eS)) a),U ((zE eI) q1.1),U ((zE eS) q1.2.1),U ((zE eS) q1.2.2.1),U ((zE eI) q1.2.2.2),U ((zE (eL eS)) c),U ((zE (eL eS)) d)]) (cH (RB (by decide) (pQ (ao 7 (zE (eL eS)) c S)) (pQ (ao 8 (zE (eL eS)) d S)))) (bh (bW 2 (N9 (kO (iG (FZ (fH (ao 2 (lE (eL eS)) a S))) _ (λ_=>S) (λb:AZ=>(cH (zG (by decide) (ao 2 (zE (eL eS)) b S) (kO (oF (dB (ao 0 (zE (eL eS)) c S) (dB (ao 1 (zE (eL eS)) d S) (fJ (eL eS)))) (zD S)))))) (λb:AZ=>(ao 2 (zE (eL eS)) b S)) (λ_=>S) λ_=>S)) (kO (oF (dB (YT (W8 (kO (N9 (pQ (ao 7 (zE (eL eS)) c S)) (pQ (ao 8 (zE (eL eS)) d S)))))) (fJ (eL eS))) (zD S)))) (λ_=>S) λa=>(bR (bJ a S)))) (bR (bJ a S)) λa=>(bR (bJ a S))))))))
def lF(d:AZ)(c:Z aC):(Z AZ):=(let a:=(d.map λb:AJ=>[b]);(let a:(Z AZ):=(c.foldl (λ(a:Z AZ) (q1:aC)=>(dG  a q1)) a);(jY (a.map λe:AZ=>e))))
def oO(d:AZ)(c:Z aC):Prop:=(d.length<=100000/\(let a:=(d.map λe:AJ=>[e]);(mF (λ(a:Z AZ) (q1:aC)=>(dG  a q1)) (λ(a:Z AZ) (q1:aC)=>U (ju  a q1)) c a/\(let a:(Z AZ):=(c.foldl (λ(a:Z AZ) (q1:aC)=>(dG  a q1)) a);(a.length<=100000/\((a.map λb:AZ=>b).length<64/\∀x∈(a.map λb:AZ=>b),x.isEmpty=false))))))
theorem S9(b:AZ)(c:Z aC)(d:Lp b_1 (c.map aG)):RP sE [U ((zE (eT eS)) b),U b_1,Y,Y,Y,Y,Y,Y,Y] (λr=>As.rt ((oE (eT eS)) r)) (lF b c) (U (oO b c)):=R.tp (bW 2 (Bl (YX (ao 0 (zE (eT eS)) b S)) _ (λ_=>S) (λe:AJ=>(YT (oF (dB (ao 0 (zE eS) e S) (fJ eS)) (zD S)))) λ_=>S) (λ_=>S) λa=>(IK 1 c (Vf d S) (λa:(Z AZ)=>[U ((zE (eT eS)) b),U b_1,U ((oE (eL eS)) a),Y,Y,Y,Y,Y,Y]) a S _ (λ_ _=>S) (λ(a:Z AZ) (q1:aC)=>(JK b c d a q1).r) λa=>(cN (λr=>r) (Xg (kO (Bl (FZ (fH (ao 2 (lE (eL eS)) a S))) _ (λ_=>S) (λf:AZ=>(uT (pQ (ao 0 (zE (eL eS)) f S)))) λ_=>S))) (λ_=>S) λ_=>S)))
theorem Fe:∀v bs,(aZ (eT eS) (aL aG aN)) v bs->bs.length=2/\(hold (U (oO v.1 v.2.1))->sI (bs.map lend)=U ((oE (eT eS)) (lF v.1 v.2.1))):=by
 rintro⟨a,b,_⟩ _ ⟨_,rfl,⟨b_1,_,rfl,c,rfl⟩⟩;exact⟨rfl,λh=>cF (g:=sE) (n:=9) (bs:=[.z (eT eS a),lend b_1]) (S9 a b (Eo c)) h⟩
def dY(c:dW)(d:aC):Bool:=(let q1:=((bM c),(cY c d));(let q2:=((nC c d),(lu c),(lu q1.2));(if(Cb q2.1 (Dt.tup [(Dt.str "stays")]))=true then(if(!decide (q2.2.2=q2.2.1))=true then false else(let b:=(bM q1.2);(let e:=((b.filter λa:aC=>(!cU a q1.1)).map λa:aC=>a);(if(!decide (((q1.1.filter λa:aC=>((!decide (a=d))&&(!cU a b))).map λa:aC=>a)=([]:Z aC)))=true then false else(if(!decide ((e.length:Int)=(if((cU d q1.1)&&(Cb q2.1 (Dt.tup [(Dt.str "stays")])))=true then(1:Int)else 0)))=true then false else((decide ((lF c.1 b)=q2.2.2))&&(decide ((b.length:Int)=((c.1.length:Int)-(q2.2.2.length:Int))))))))))else(if((!decide ((jY ((q2.2.2.filter λf:AZ=>(!cU f q2.2.1)).map λf:AZ=>f))=(jY (Vl (Dt.tup (cut (Zy q2.1) (U 1) Y))))))||(!decide ((q2.2.2.length:Int)=((q2.2.1.length:Int)+1))))=true then false else(let b:=(bM q1.2);(let e:=((b.filter λa:aC=>(!cU a q1.1)).map λa:aC=>a);(if(!decide (((q1.1.filter λa:aC=>((!decide (a=d))&&(!cU a b))).map λa:aC=>a)=([]:Z aC)))=true then false else(if(!decide ((e.length:Int)=(if((cU d q1.1)&&(Cb q2.1 (Dt.tup [(Dt.str "stays")])))=true then(1:Int)else 0)))=true then false else((decide ((lF c.1 b)=q2.2.2))&&(decide ((b.length:Int)=((c.1.length:Int)-(q2.2.2.length:Int)))))))))))))
def fL(d:dW)(c:aC):Prop:=(((dF d)/\(iU d c))/\(let q1:=((bM d),(cY d c));(((rz d c)/\((rA d)/\(rA q1.2)))/\(let q2:=((nC d c),(lu d),(lu q1.2));(ED q2.1 (Dt.tup [(Dt.str "stays")])/\(((Cb q2.1 (Dt.tup [(Dt.str "stays")]))=true->((!decide (q2.2.2=q2.2.1))=false->((dF q1.2)/\(let e:=(bM q1.2);(e.length<=100000/\(let f:=((e.filter λa:aC=>(!cU a q1.1)).map λa:aC=>a);(q1.1.length<=100000/\((!decide (((q1.1.filter λa:aC=>((!decide (a=c))&&(!cU a e))).map λa:aC=>a)=([]:Z aC)))=false->(((cU c q1.1)=true->ED q2.1 (Dt.tup [(Dt.str "stays")]))/\((!decide ((f.length:Int)=(if((cU c q1.1)&&(Cb q2.1 (Dt.tup [(Dt.str "stays")])))=true then(1:Int)else 0)))=false->(oO d.1 e)))))))))))/\((Cb q2.1 (Dt.tup [(Dt.str "stays")]))=false->(((q2.2.2.length<=100000/\(((q2.2.2.filter λb:AZ=>(!cU b q2.2.1)).map λb:AZ=>b).length<64/\∀x∈((q2.2.2.filter λb:AZ=>(!cU b q2.2.1)).map λb:AZ=>b),x.isEmpty=false))/\((B4 q2.1=true/\(Dt.tup (cut (Zy q2.1) (U 1) Y))=(eT (eT eS)) (Vl (Dt.tup (cut (Zy q2.1) (U 1) Y))))/\((Vl (Dt.tup (cut (Zy q2.1) (U 1) Y))).length<64/\∀x∈(Vl (Dt.tup (cut (Zy q2.1) (U 1) Y))),x.isEmpty=false)))/\(((!decide ((jY ((q2.2.2.filter λb:AZ=>(!cU b q2.2.1)).map λb:AZ=>b))=(jY (Vl (Dt.tup (cut (Zy q2.1) (U 1) Y))))))||(!decide ((q2.2.2.length:Int)=((q2.2.1.length:Int)+1))))=false->((dF q1.2)/\(let e:=(bM q1.2);(e.length<=100000/\(let f:=((e.filter λa:aC=>(!cU a q1.1)).map λa:aC=>a);(q1.1.length<=100000/\((!decide (((q1.1.filter λa:aC=>((!decide (a=c))&&(!cU a e))).map λa:aC=>a)=([]:Z aC)))=false->(((cU c q1.1)=true->ED q2.1 (Dt.tup [(Dt.str "stays")]))/\((!decide ((f.length:Int)=(if((cU c q1.1)&&(Cb q2.1 (Dt.tup [(Dt.str "stays")])))=true then(1:Int)else 0)))=false->(oO d.1 e))))))))))))))))))
theorem zQ(b:dW)(c:aC):RP gW [U (zE bB b),U (zE aG c),Y,Y,Y,Y,Y,Y,Y] (λr=>As.rt (zE eB r)) (dY b c) (U (fL b c)):=R.tp (Mq (VS (YT (An jR (bF (ao 0 (zE bB) b S) aV))) (pI (An tY (bF (ao 0 (zE bB) b S) (bF (ao 1 (zE aG) c S) aV))))) _ (λ_=>S) λq1=>(Mq (Dw (pI (An Vy (bF (ao 0 (zE bB) b S) (bF (ao 1 (zE aG) c S) aV)))) (YT (An JH (bF (ao 0 (zE bB) b S) aV))) (YT (An JH (bF (ao 3 (zE bB) q1.2 S) aV)))) _ (λ_=>S) λq2=>(j6 (cH (Ha (ao 4 (zE eD) q2.1 S) (Ir (dB (F8 (.str "stays")) (fJ eD)) (zD S)))) (bh (j6 (cH (RB (by decide) (pQ (ao 6 (zE (eL (eT eS))) q2.2.2 S)) (pQ (ao 5 (zE (eL (eT eS))) q2.2.1 S)))) (bh (cN (λr=>r) (oA (.bl false) eB false S) (λ_=>S) λ_=>S)) (bR (bR (bW 7 (An jR (bF (ao 3 (zE bB) q1.2 S) aV)) (λ_=>S) λd=>(bW 8 (iG (FZ (fH (ao 7 (lE aG) d S))) _ (λ_=>S) (λa:aC=>(cH (zG (by decide) (ao 1 (zE aG) a S) (pQ (ao 0 (zE (eL aG)) q1.1 S))))) (λa:aC=>(ao 1 (zE aG) a S)) (λ_=>S) λ_=>S) (λ_=>S) λf=>(j6 (cH (RB (by decide) (kO (iG (FZ (pQ (ao 2 (zE (eL aG)) q1.1 S))) _ (λ_=>S) (λa:aC=>(Mi (cH (Bh (by decide) (ao 2 (zE aG) a S) (ao 0 (zE aG) c S))) (cH (zG (by decide) (ao 2 (zE aG) a S) (fH (ao 1 (lE aG) d S)))))) (λa:aC=>(ao 2 (zE aG) a S)) (λ_=>S) λ_=>S)) (kO (oF (fJ aG) (zD S))))) (bh (cN (λr=>r) (oA (.bl false) eB false S) (λ_=>S) λ_=>S)) (bR (j6 (cH (Bh (by decide) (BQ (fH (ao 8 (lE aG) f S))) (Vd (qO (RV (by decide) (ao 1 (zE aG) c S) (pQ (ao 2 (zE (eL aG)) q1.1 S))) (Ha (ao 4 (zE eD) q2.1 S) (Ir (dB (F8 (.str "stays")) (fJ eD)) (zD S))))))) (bh (cN (λr=>r) (oA (.bl false) eB false S) (λ_=>S) λ_=>S)) (bR (cN (λr=>r) (qO (IG (by decide) (kO (An Fe (bF (fU (ao 0 (zE bB) b S) (λq=>q.1) (eT eS) 0 λ_=>S) (FW (fH (ao 7 (lE aG) d S)) aV)))) (pQ (ao 6 (zE (eL (eT eS))) q2.2.2 S))) (BV (by decide) (BQ (fH (ao 7 (lE aG) d S))) (Im (Iu (fU (ao 0 (zE bB) b S) (λq=>q.1) (eT eS) 0 λ_=>S)) (BQ (pQ (ao 6 (zE (eL (eT eS))) q2.2.2 S)))))) (λ_=>S) λ_=>S))))))))))) (bh (j6 (YW (cH (RB (by decide) (kO (Xg (kO (iG (FZ (pQ (ao 6 (zE (eL (eT eS))) q2.2.2 S))) _ (λ_=>S) (λe:AZ=>(cH (zG (by decide) (ao 1 (zE (eT eS)) e S) (pQ (ao 0 (zE (eL (eT eS))) q2.2.1 S))))) (λe:AZ=>(ao 1 (zE (eT eS)) e S)) (λ_=>S) λ_=>S)))) (kO (SY (rR (OG (ao 4 (zE eD) q2.1 S) (F0 (B8 1)) FK) Vl (eT (eT eS))))))) (cH (Bh (by decide) (BQ (pQ (ao 6 (zE (eL (eT eS))) q2.2.2 S))) (j5 (BQ (pQ (ao 5 (zE (eL (eT eS))) q2.2.1 S))) (B8 1))))) (bh (cN (λr=>r) (oA (.bl false) eB false S) (λ_=>S) λ_=>S)) (bR (bR (bW 7 (An jR (bF (ao 3 (zE bB) q1.2 S) aV)) (λ_=>S) λd=>(bW 8 (iG (FZ (fH (ao 7 (lE aG) d S))) _ (λ_=>S) (λa:aC=>(cH (zG (by decide) (ao 1 (zE aG) a S) (pQ (ao 0 (zE (eL aG)) q1.1 S))))) (λa:aC=>(ao 1 (zE aG) a S)) (λ_=>S) λ_=>S) (λ_=>S) λf=>(j6 (cH (RB (by decide) (kO (iG (FZ (pQ (ao 2 (zE (eL aG)) q1.1 S))) _ (λ_=>S) (λa:aC=>(Mi (cH (Bh (by decide) (ao 2 (zE aG) a S) (ao 0 (zE aG) c S))) (cH (zG (by decide) (ao 2 (zE aG) a S) (fH (ao 1 (lE aG) d S)))))) (λa:aC=>(ao 2 (zE aG) a S)) (λ_=>S) λ_=>S)) (kO (oF (fJ aG) (zD S))))) (bh (cN (λr=>r) (oA (.bl false) eB false S) (λ_=>S) λ_=>S)) (bR (j6 (cH (Bh (by decide) (BQ (fH (ao 8 (lE aG) f S))) (Vd (qO (RV (by decide) (ao 1 (zE aG) c S) (pQ (ao 2 (zE (eL aG)) q1.1 S))) (Ha (ao 4 (zE eD) q2.1 S) (Ir (dB (F8 (.str "stays")) (fJ eD)) (zD S))))))) (bh (cN (λr=>r) (oA (.bl false) eB false S) (λ_=>S) λ_=>S)) (bR (cN (λr=>r) (qO (IG (by decide) (kO (An Fe (bF (fU (ao 0 (zE bB) b S) (λq=>q.1) (eT eS) 0 λ_=>S) (FW (fH (ao 7 (lE aG) d S)) aV)))) (pQ (ao 6 (zE (eL (eT eS))) q2.2.2 S))) (BV (by decide) (BQ (fH (ao 7 (lE aG) d S))) (Im (Iu (fU (ao 0 (zE bB) b S) (λq=>q.1) (eT eS) 0 λ_=>S)) (BQ (pQ (ao 6 (zE (eL (eT eS))) q2.2.2 S)))))) (λ_=>S) λ_=>S))))))))))))))
theorem zR:∀v bs,(aZ bB (aZ aG aN)) v bs->bs.length=2/\(hold (U (fL v.1 v.2.1))->gY (bs.map lend)=U ((zE eB) (dY v.1 v.2.1))):=by
 rintro⟨b,a,_⟩ _ ⟨_,rfl,⟨_,rfl,rfl⟩⟩;exact⟨rfl,λh=>cF (g:=gW) (n:=9) (bs:=[.z (bB b),.z (aG a)]) (zQ b a) h⟩
def iZ(a:Z aC)(q2:aC):(Z aC):=(let a:=a++[(((0:Int)-q2.1),q2.2.1,q2.2.2.1,q2.2.2.2)];a)
def mz(a:Z aC)(q2:aC):Prop:=Qi a.length
theorem Ck(b:Z aC)(a:Z aC)(q2:aC):RP sJ [U ((zE (eT aG)) b),U (oE aG a),U ((zE eI) q2.1),U ((zE eS) q2.2.1),U ((zE eS) q2.2.2.1),U ((zE eI) q2.2.2.2)] (λs=>As.nx ((λa:(Z aC)=>[U ((zE (eT aG)) b),U (oE aG a),Y,Y,Y,Y]) s)) (iZ  a q2) (U (mz  a q2)):=R.tp (bh (Er 1 a S (Ou (Im (B8 0) (ao 2 (zE eI) q2.1 S)) (ao 3 (zE eS) q2.2.1 S) (ao 4 (zE eS) q2.2.2.1 S) (ao 5 (zE eI) q2.2.2.2 S)) λa=>(bR (bJ a S))))
def cM(b:Z aC):(Z aC):=(let a:=([]:Z aC);(let a:(Z aC):=((oG aG (b.map λq1:aC=>(((0:Int)-q1.1),q1.2.1,q1.2.2.1,q1.2.2.2))).foldl (λ(a:Z aC) (q2:aC)=>(iZ  a q2)) a);a))
def mC(b:Z aC):Prop:=(let a:=([]:Z aC);((b.length<=100000/\(b.map λq1:aC=>(((0:Int)-q1.1),q1.2.1,q1.2.2.1,q1.2.2.2)).length<64)/\mF (λ(a:Z aC) (q2:aC)=>(iZ  a q2)) (λ(a:Z aC) (q2:aC)=>U (mz  a q2)) (oG aG (b.map λq1:aC=>(((0:Int)-q1.1),q1.2.1,q1.2.2.1,q1.2.2.2))) a))
theorem JL(b:Z aC):RP lU [U ((zE (eT aG)) b),Y,Y,Y,Y,Y] (λr=>As.rt ((zE (eT aG)) r)) (cM b) (U (mC b)):=R.tp (bW 1 (oF (fJ aG) (zD S)) (λ_=>S) λa=>(Mr (λa:(Z aC)=>[U ((zE (eT aG)) b),U (oE aG a),Y,Y,Y,Y]) a S (GY (df (kO (Bl (YX (ao 0 (zE (eT aG)) b S)) _ (λ_=>S) (λq1:aC=>(Ou (Im (B8 0) (ao 0 (zE eI) q1.1 S)) (ao 1 (zE eS) q1.2.1 S) (ao 2 (zE eS) q1.2.2.1 S) (ao 3 (zE eI) q1.2.2.2 S))) λ_=>S)))) _ (λ_ _=>S) (λ(a:Z aC) (q2:aC)=>(Ck b a q2).r) λa=>(cN (λr=>r) (uT (fH (ao 1 (lE aG) a S))) (λ_=>S) λ_=>S)))
theorem JM:∀v bs,(aZ (eT aG) aN) v bs->bs.length=1/\(hold (U (mC v.1))->lV (bs.map lend)=U ((zE (eT aG)) (cM v.1))):=by
 rintro⟨a,_⟩ _ ⟨_,rfl,rfl⟩;exact⟨rfl,λh=>cF (g:=lU) (n:=6) (bs:=[.z (eT aG a)]) (JL a) h⟩
def bN(b:dW)(a:aC)(d:Int):Lu:=(let c:=(d,(a.2.1,a.2.2.1,a.2.2.2).1,(a.2.1,a.2.2.1,a.2.2.2).2.1,(a.2.1,a.2.2.1,a.2.2.2).2.2);(b.1,(cM ((cY b a).2.1++[c])),c))
def iV(b:dW)(a:aC)(d:Int):Prop:=(let c:=(d,(a.2.1,a.2.2.1,a.2.2.2).1,(a.2.1,a.2.2.1,a.2.2.2).2.1,(a.2.1,a.2.2.1,a.2.2.2).2.2);(((iU b a)/\Qi ((cY b a).2.1.length+[c].length))/\(mC ((cY b a).2.1++[c]))))
theorem KR(b:dW)(a:aC)(c:Int):RP nJ [U (zE bB b),U (zE aG a),U (zE eI c),Y] (λr=>As.rt (zE MT r)) (bN b a c) (U (iV b a c)):=R.tp (bW 3 (Wl (e3:=aG) (bE (ao 2 (zE eI) c S)) (Pw (ao 1 (zE aG) a S) (λq=>(q.2.1,q.2.2.1,q.2.2.2)) zH (U 1) Y S S λ_=>S) (λx y=>(x,y.1,y.2.1,y.2.2)) λ_ _=>S) (λ_=>S) λd=>(cN (λr=>r) (Dw (fU (ao 0 (zE bB) b S) (λq=>q.1) (eT eS) 0 λ_=>S) (pI (An JM (bF (pI (UR (fU (An tY (bF (ao 0 (zE bB) b S) (bF (ao 1 (zE aG) a S) aV))) (λq=>q.2.1) (eT aG) 1 λ_=>S) (eA (dB (ao 3 (zE aG) d S) (fJ aG)) (zD S)))) aV))) (ao 3 (zE aG) d S)) (λ_=>S) λ_=>S))
theorem KY:∀v bs,(aZ bB (aZ aG (aZ eI aN))) v bs->bs.length=3/\(hold (U (iV v.1 v.2.1 v.2.2.1))->nM (bs.map lend)=U ((zE MT) (bN v.1 v.2.1 v.2.2.1))):=by
 rintro⟨c,b,a,_⟩ _ ⟨_,rfl,⟨_,rfl,⟨_,rfl,rfl⟩⟩⟩;exact⟨rfl,λh=>cF (g:=nJ) (n:=4) (bs:=[.z (bB c),.z (aG b),.z (eI a)]) (KR c b a) h⟩
def fM(e:dW)(c:aC)(f:Int):Bool:=(let d:=(bM e);(let a:=c.1;(let a:Int:=(if(cU c d)=true then(let a:=(a+(f%((1001:Int)-a)));a)else(let a:=(1+(f%a));a));(let q1:=(bN e c a);(if(!decide (((yJ q1.2.1).length:Int)=(e.2.1.length:Int)))=true then true else(let g:=(bM (q1.1,q1.2.1,([]:Z je)));(if(!decide ((cU q1.2.2 g)=(cU c d)))=true then false else(decide (((g.filter λb:aC=>(!decide (b=q1.2.2))).map λb:aC=>b)=((d.filter λb:aC=>(!decide (b=c))).map λb:aC=>b))))))))))
def fP(d:dW)(b:aC)(e:Int):Prop:=((dF d)/\(let c:=(bM d);(let a:=b.1;((((cU b c)=true->0<((1001:Int)-a))/\((cU b c)=false->0<a))/\(let a:Int:=(if(cU b c)=true then(let a:=(a+(e%((1001:Int)-a)));a)else(let a:=(1+(e%a));a));((iV d b a)/\(let q1:=(bN d b a);((q1.2.1.length<=64/\q1.2.1.length<=64)/\((!decide (((yJ q1.2.1).length:Int)=(d.2.1.length:Int)))=false->((dF (q1.1,q1.2.1,([]:Z je)))/\(let f:=(bM (q1.1,q1.2.1,([]:Z je)));((!decide ((cU q1.2.2 f)=(cU b c)))=false->(f.length<=100000/\c.length<=100000)))))))))))))
theorem zT(d:dW)(b:aC)(e:Int):RP gZ [U (zE bB d),U (zE aG b),U (zE eI e),Y,Y,Y,Y,Y,Y] (λr=>As.rt (zE eB r)) (fM d b e) (U (fP d b e)):=R.tp (bW 3 (An jR (bF (ao 0 (zE bB) d S) aV)) (λ_=>S) λf=>(bW 4 (fU (ao 1 (zE aG) b S) (λq=>q.1) eI 0 λ_=>S) (λ_=>S) λa=>(Bm (λa:Int=>[U (zE bB d),U (zE aG b),U (zE eI e),U (oE aG f),U (zE eI a),Y,Y,Y,Y]) (cH (RV (by decide) (ao 1 (zE aG) b S) (fH (ao 3 (lE aG) f S)))) (bh (bW 4 (j5 (ao 4 (zE eI) a S) (Ep (ao 2 (zE eI) e S) (Im (B8 1001) (ao 4 (zE eI) a S)))) (λ_=>S) λa=>(bR (bJ a S)))) (bh (bW 4 (j5 (B8 1) (Ep (ao 2 (zE eI) e S) (ao 4 (zE eI) a S))) (λ_=>S) λa=>(bR (bJ a S)))) λa=>(Mq (An KY (bF (ao 0 (zE bB) d S) (bF (ao 1 (zE aG) b S) (bF (ao 4 (zE eI) a S) aV)))) _ (λ_=>S) λq1=>(j6 (cH (Bh (by decide) (YR (T0 (ao 6 (zE (eT aG)) q1.2.1 S))) (Iu (fU (ao 0 (zE bB) d S) (λq=>q.2.1) (eT aG) 1 λ_=>S)))) (bh (cN (λr=>r) (oA (.bl true) eB true S) (λ_=>S) λ_=>S)) (bR (bW 8 (An jR (bF (Dw (ao 5 (zE (eT eS)) q1.1 S) (ao 6 (zE (eT aG)) q1.2.1 S) (Vb zH)) aV)) (λ_=>S) λg=>(j6 (cH (Bh (by decide) (RV (by decide) (ao 7 (zE aG) q1.2.2 S) (fH (ao 8 (lE aG) g S))) (RV (by decide) (ao 1 (zE aG) b S) (fH (ao 3 (lE aG) f S))))) (bh (cN (λr=>r) (oA (.bl false) eB false S) (λ_=>S) λ_=>S)) (bR (cN (λr=>r) (IG (by decide) (kO (iG (FZ (fH (ao 8 (lE aG) g S))) _ (λ_=>S) (λc:aC=>(cH (Bh (by decide) (ao 1 (zE aG) c S) (ao 0 (zE aG) q1.2.2 S)))) (λc:aC=>(ao 1 (zE aG) c S)) (λ_=>S) λ_=>S)) (kO (iG (FZ (fH (ao 3 (lE aG) f S))) _ (λ_=>S) (λc:aC=>(cH (Bh (by decide) (ao 1 (zE aG) c S) (ao 0 (zE aG) b S)))) (λc:aC=>(ao 1 (zE aG) c S)) (λ_=>S) λ_=>S))) (λ_=>S) λ_=>S))))))))))
theorem zU:∀v bs,(aZ bB (aZ aG (aZ eI aN))) v bs->bs.length=3/\(hold (U (fP v.1 v.2.1 v.2.2.1))->g8 (bs.map lend)=U ((zE eB) (fM v.1 v.2.1 v.2.2.1))):=by
 rintro⟨c,b,a,_⟩ _ ⟨_,rfl,⟨_,rfl,⟨_,rfl,rfl⟩⟩⟩;exact⟨rfl,λh=>cF (g:=gZ) (n:=9) (bs:=[.z (bB c),.z (aG b),.z (eI a)]) (zT c b a) h⟩
def uI(b:dW)(a:AJ):Unit:=(if((!(dX (eS a)))||(!decide (a∈b.1)))=true then default else())
def gB(b:dW)(a:AJ):Prop:=((qz (eS a))/\(((!(dX (eS a)))||(!decide (a∈b.1)))=true->False))
theorem DR(b:dW)(a:AJ):RP jD [U (zE bB b),U (zE eS a)] (λ_:Unit=>As.nx [U (zE bB b),U (zE eS a)]) (uI b a) (U (gB b a)):=R.tp (bh (j6 (YW (RD (EZ (An DP (bF (W4 (ao 1 (zE eS) a S)) aV)))) (cH (Pc (ao 1 (zE eS) a S) (fU (ao 0 (zE bB) b S) (λq=>q.1) (eT eS) 0 λ_=>S)))) (bh Xi) (bR (bR (bJ () S)))))
theorem uJ:∀v bs,(aZ bB (aZ eS aN)) v bs->bs.length=2/\(hold (U (gB v.1 v.2.1))->gw (bs.map lend)=U ((zE eN) (uI v.1 v.2.1))):=by
 rintro⟨a,b,_⟩ _ ⟨_,rfl,⟨_,rfl,rfl⟩⟩;exact⟨rfl,λh=>Xj (g:=jD) (n:=2) (bs:=[.z (bB a),.z (eS b)]) (DR a b).r h⟩
def aU(a:aC)(b:AJ):(O AJ):=(if(decide (a.2.1=b))=true then(U a.2.2.1)else(if(decide (a.2.2.1=b))=true then(U a.2.1)else Y))
theorem Tc(a:aC)(b:AJ):RP sO [U (zE aG a),U (zE eS b)] (λr=>As.rt ((zE (eO eS)) r)) (aU a b) Y:=R.tp (j6 (cH (BV (by decide) (fU (ao 0 (zE aG) a S) (λq=>q.2.1) eS 1 λ_=>S) (ao 1 (zE eS) b S))) (bh (cN (λr=>r) (U9 (fU (ao 0 (zE aG) a S) (λq=>q.2.2.1) eS 2 λ_=>S)) (λ_=>S) λ_=>S)) (bR (j6 (cH (BV (by decide) (fU (ao 0 (zE aG) a S) (λq=>q.2.2.1) eS 2 λ_=>S) (ao 1 (zE eS) b S))) (bh (cN (λr=>r) (U9 (fU (ao 0 (zE aG) a S) (λq=>q.2.1) eS 1 λ_=>S)) (λ_=>S) λ_=>S)) (bR (cN (λr=>r) Mc (λ_=>S) λ_=>S)))))
theorem Fg:∀v bs,(aZ aG (aZ eS aN)) v bs->bs.length=2/\(hold (Y)->lB (bs.map lend)=U ((zE (eO eS)) (aU v.1 v.2.1))):=by
 rintro⟨a,b,_⟩ _ ⟨_,rfl,⟨_,rfl,rfl⟩⟩;exact⟨rfl,λh=>cF (g:=sO) (n:=2) (bs:=[.z (aG a),.z (eS b)]) (Tc a b) h⟩
def fu(b:(Z (AJ×(O aC))))(a:(Z aC)×AJ):oW ((Z aC)×AJ) (Z aC):=(let c:=a.1++[((look b a.2).getD default)];(let d:=((aU ((look b a.2).getD default) a.2).getD default);(oW.nx (c,d))))
def j8(b:(Z (AJ×(O aC))))(a:(Z aC)×AJ):Prop:=(((has b a.2=true/\(look b a.2).isSome=true)/\Qi a.1.length)/\(let c:=a.1++[((look b a.2).getD default)];((has b a.2=true/\(look b a.2).isSome=true)/\(aU ((look b a.2).getD default) a.2).isSome=true)))
theorem KZ(b:(Z (AJ×(O aC))))(c:AJ)(a:(Z aC)×AJ):RP zc [U ((nE (eO aG)) b),U (zE eS c),U ((oE aG) a.1),U ((zE eS) a.2)] (cC (λa:(Z aC)×AJ=>[U ((nE (eO aG)) b),U (zE eS c),U ((oE aG) a.1),U ((zE eS) a.2)]) (oE aG)) (fu b a ) (U (j8 b a )):=R.tp (bh (Er 2 a.1 S (Mh (lR (ao 0 (nE (eO aG)) b S) (ao 3 (zE eS) a.2 S))) λe=>(bh (bW 3 (Mh (An Fg (bF (Mh (lR (ao 0 (nE (eO aG)) b S) (ao 3 (zE eS) a.2 S))) (bF (ao 3 (zE eS) a.2 S) aV)))) (λ_=>S) λd=>(bR (bJ (.nx (e,d)) S))))))
def jw(b:(Z (AJ×(O aC))))(c:AJ):(Z aC):=(let e:=([]:Z aC);(let d:=c;(BO (Mu (λa:(Z aC)×AJ=>(look b a.2).isSome) (λa:(Z aC)×AJ=>((fu b a):oW ((Z aC)×AJ) (Z aC))) 70 (e,d)) (λr=>r) λa:(Z aC)×AJ=>a.1)))
def rB(b:(Z (AJ×(O aC))))(e:AJ):Prop:=(let d:=([]:Z aC);(let c:=e;(DZ (λa:(Z aC)×AJ=>(look b a.2).isSome) (λa:(Z aC)×AJ=>U (has b a.2=true)) (λa:(Z aC)×AJ=>((fu b a):oW ((Z aC)×AJ) (Z aC))) (λa:(Z aC)×AJ=>U (j8 b a)) 70 (d,c)/\(yu (Mu (λa:(Z aC)×AJ=>(look b a.2).isSome) (λa:(Z aC)×AJ=>((fu b a):oW ((Z aC)×AJ) (Z aC))) 70 (d,c)) λa:(Z aC)×AJ=>True))))
theorem VG(c:(Z (AJ×(O aC))))(b:AJ):RP vB [U ((nE (eO aG)) c),U (zE eS b),Y,Y] (λr=>As.rt (oE aG r)) (jw c b) (U (rB c b)):=R.tp (bW 2 (oF (fJ aG) (zD S)) (λ_=>S) λe=>(bW 3 (ao 1 (zE eS) b S) (λ_=>S) λd=>(Xh 70 (λa:(Z aC)×AJ=>[U ((nE (eO aG)) c),U (zE eS b),U ((oE aG) a.1),U ((zE eS) a.2)]) (e,d) S (λa:(Z aC)×AJ=>(cH (W6 (lR (ao 0 (nE (eO aG)) c S) (ao 3 (zE eS) a.2 S)) λ_=>S))) (λa:(Z aC)×AJ=>((KZ c b a).r:R _ _ (cC (λa:(Z aC)×AJ=>[U ((nE (eO aG)) c),U (zE eS b),U ((oE aG) a.1),U ((zE eS) a.2)]) (oE aG)))) (λr=>r) (λ_=>S) λa=>(Dy 2 (λr=>r) a.1 S (λ_=>S) λ_=>S))))
theorem VH:∀v bs,(aM (eO aG) (aZ eS aN)) v bs->bs.length=2/\(hold (U (rB v.1 v.2.1))->vC (bs.map lend)=U ((oE aG) (jw v.1 v.2.1))):=by
 rintro⟨b,a,_⟩ _ ⟨_,_,rfl,(rfl|rfl),⟨_,rfl,rfl⟩⟩
 all_goals exact⟨rfl,λh=>cF (g:=vB) (n:=4) (bs:=[nE (eO aG) b,.z (eS a)]) (VG b a) h⟩
def dM(f:AJ)(a:(Z (AJ×(O aC)))×AZ)(b:aC):(Z (AJ×(O aC)))×AZ:=(let val:=(aU b f);(let c:(Z (AJ×(O aC)))×AZ:=(if(val.isSome&&(!has a.1 (val.getD default)))=true then(let e:=put a.1 (val.getD default) (U b);(let d:=a.2++[(val.getD default)];(e,d)))else(a.1,a.2));(c.1,c.2)))
def gK(c:AJ)(a:(Z (AJ×(O aC)))×AZ)(b:aC):Prop:=(let val:=(aU b c);((val.isSome=true->val.isSome=true)/\((val.isSome&&(!has a.1 (val.getD default)))=true->((val.isSome=true/\a.1.length<1000)/\(let d:=put a.1 (val.getD default) (U b);(val.isSome=true/\Qi a.2.length))))))
theorem Td(i:Z aC)(j:Lp iH (i.map aG))(f:AJ)(e:AJ)(c:AJ)(a:(Z (AJ×(O aC)))×AZ)(b:aC):RP Fb [U iH,U (zE eS f),U (zE eS e),U ((mE (eO aG)) a.1),U ((oE eS) a.2),U (zE eS c),U (zE aG b),Y] (λs=>As.nx ((λa:(Z (AJ×(O aC)))×AZ=>[U iH,U (zE eS f),U (zE eS e),U ((mE (eO aG)) a.1),U ((oE eS) a.2),U (zE eS c),Y,Y]) s)) (dM c a b) (U (gK c a b)):=R.tp (bh (bW 7 (An Fg (bF (ao 6 (zE aG) b S) (bF (ao 5 (zE eS) c S) aV))) (λ_=>S) λval=>(bh (Bm (λd:(Z (AJ×(O aC)))×AZ=>[U iH,U (zE eS f),U (zE eS e),U ((mE (eO aG)) d.1),U ((oE eS) d.2),U (zE eS c),U (zE aG b),U ((zE (eO eS)) val)]) (Mi (cH (W6 (ao 7 (zE (eO eS)) val S) λ_=>S)) (cH (OH (Mh (ao 7 (zE (eO eS)) val S)) (ao 3 (nE (eO aG)) a.1 S)))) (bh (Xd Y 3 a.1 S (U9 (ao 6 (zE aG) b S)) (Mh (ao 7 (zE (eO eS)) val S)) λh=>(bh (Er 4 a.2 S (Mh (ao 7 (zE (eO eS)) val S)) λg=>(bR (bJ (h,g) S)))))) (bR (bJ (a.1,a.2) S)) λd=>(bR (bJ (d.1,d.2) S))))))
def gM(g:Z aC)(c:AZ×(Z (AJ×(O aC)))):oW (AZ×(Z (AJ×(O aC)))) (O (Z aC)):=(let b:=c.1;let e:=b.drop 1;let f:=at' b 0;(let a:(Z (AJ×(O aC)))×AZ:=(g.foldl (λ(a:(Z (AJ×(O aC)))×AZ) (d:aC)=>(dM f a d)) (c.2,e));(oW.nx (a.2,a.1))))
def tK(g:Z aC)(c:AZ×(Z (AJ×(O aC)))):Prop:=(((0:Int)=0/\0<c.1.length)/\(let d:=c.1;let f:=d.drop 1;let e:=at' d 0;mF (λ(b:(Z (AJ×(O aC)))×AZ) (a:aC)=>(dM e b a)) (λ(b:(Z (AJ×(O aC)))×AZ) (a:aC)=>U (gK e b a)) g (c.2,f)))
theorem Te(c:Z aC)(g:Lp iH (c.map aG))(e:AJ)(d:AJ)(a:AZ×(Z (AJ×(O aC)))):RP Fd [U iH,U (zE eS e),U (zE eS d),U ((mE (eO aG)) a.2),U ((oE eS) a.1),Y,Y,Y] (cC (λa:AZ×(Z (AJ×(O aC)))=>[U iH,U (zE eS e),U (zE eS d),U ((mE (eO aG)) a.2),U ((oE eS) a.1),Y,Y,Y]) (qE aG)) (gM c a ) (U (tK c a )):=R.tp (bh (YU 5 4 a.1 S (B8 0) λi f=>(bh (IK 0 c (Vf g S) (λb:(Z (AJ×(O aC)))×AZ=>[U iH,U (zE eS e),U (zE eS d),U ((mE (eO aG)) b.1),U ((oE eS) b.2),U (zE eS f),Y,Y]) (a.2,i) S _ (λ_ _=>S) (λ(b:(Z (AJ×(O aC)))×AZ) (h:aC)=>(Td c g e d f b h).r) λb=>(bR (bJ (.nx (b.2,b.1)) S))))))
def iK(f:Z aC)(c:AJ)(b:AJ):(O (Z aC)):=(let e:=([(c,Y)]:(Z (AJ×(O aC))));(let d:=[c];(BO (Mu (λa:AZ×(Z (AJ×(O aC)))=>(!a.1.isEmpty)) (λa:AZ×(Z (AJ×(O aC)))=>((gM f a):oW (AZ×(Z (AJ×(O aC)))) (O (Z aC)))) 70 (d,e)) (λr=>r) λa:AZ×(Z (AJ×(O aC)))=>(if(!has a.2 b)=true then Y else(U (jw a.2 b).reverse)))))
def xV(b:Z aC)(f:AJ)(c:AJ):Prop:=(let e:=([(f,Y)]:(Z (AJ×(O aC))));(let d:=[f];(DZ (λa:AZ×(Z (AJ×(O aC)))=>(!a.1.isEmpty)) (λa:AZ×(Z (AJ×(O aC)))=>Y) (λa:AZ×(Z (AJ×(O aC)))=>((gM b a):oW (AZ×(Z (AJ×(O aC)))) (O (Z aC)))) (λa:AZ×(Z (AJ×(O aC)))=>U (tK b a)) 70 (d,e)/\(yu (Mu (λa:AZ×(Z (AJ×(O aC)))=>(!a.1.isEmpty)) (λa:AZ×(Z (AJ×(O aC)))=>((gM b a):oW (AZ×(Z (AJ×(O aC)))) (O (Z aC)))) 70 (d,e)) λa:AZ×(Z (AJ×(O aC)))=>((!has a.2 c)=false->(rB a.2 c))))))
theorem TC(d:Z aC)(h:Lp iH (d.map aG))(c:AJ)(b:AJ):RP BW [U iH,U (zE eS c),U (zE eS b),Y,Y,Y,Y,Y] (λr=>As.rt (qE aG r)) (iK d c b) (U (xV d c b)):=R.tp (bW 3 (fz (ao 1 (zE eS) c S) Mc) (λ_=>S) λg=>(bW 4 (oF (dB (ao 1 (zE eS) c S) (fJ eS)) (zD S)) (λ_=>S) λf=>(Xh 70 (λa:AZ×(Z (AJ×(O aC)))=>[U iH,U (zE eS c),U (zE eS b),U ((mE (eO aG)) a.2),U ((oE eS) a.1),Y,Y,Y]) (f,g) S (λa:AZ×(Z (AJ×(O aC)))=>(RA (fH (ao 4 (lE eS) a.1 S)))) (λa:AZ×(Z (AJ×(O aC)))=>((Te d h c b a).r:R _ _ (cC (λa:AZ×(Z (AJ×(O aC)))=>[U iH,U (zE eS c),U (zE eS b),U ((mE (eO aG)) a.2),U ((oE eS) a.1),Y,Y,Y]) (qE aG)))) (λr=>r) (λ_=>S) λa=>(j6 (cH (OH (ao 2 (zE eS) b S) (ao 3 (nE (eO aG)) a.2 S))) (bh (cN (λr=>r) (X0 (e:=aG)) (λ_=>S) (λv=>by cases v<;>rfl))) (bR (cN (λr=>r) (Os (ax (kO (An VH (HR (ao 3 (nE (eO aG)) a.2 S) (bF (ao 2 (zE eS) b S) aV)))))) (λ_=>S) (λv=>by cases v<;>rfl)))))))
theorem OT:∀v bs,(aL aG (aZ eS (aZ eS aN))) v bs->bs.length=3/\(hold (U (xV v.1 v.2.1 v.2.2.1))->BX (bs.map lend)=U ((qE aG) (iK v.1 v.2.1 v.2.2.1))):=by
 rintro⟨d,b,a,_⟩ _ ⟨iH,_,rfl,c,⟨_,rfl,⟨_,rfl,rfl⟩⟩⟩;exact⟨rfl,λh=>cF (g:=BW) (n:=8) (bs:=[lend iH,.z (eS b),.z (eS a)]) (TC d (Eo c) b a) h⟩
def jU(a:dW)(b:AJ)(vx:AJ):(O (Z aC)):=(iK (bM a) b vx)
def qD(a:dW)(b:AJ)(vx:AJ):Prop:=((gB a b)/\((gB a vx)/\((dF a)/\(xV (bM a) b vx))))
theorem Zf(a:dW)(b:AJ)(vx:AJ):RP yD [U (zE bB a),U (zE eS b),U (zE eS vx)] (λr=>As.rt (qE aG r)) (jU a b vx) (U (qD a b vx)):=R.tp (Vk (An uJ (bF (ao 0 (zE bB) a S) (bF (ao 1 (zE eS) b S) aV))) (Vk (An uJ (bF (ao 0 (zE bB) a S) (bF (ao 2 (zE eS) vx S) aV))) (cN (λr=>r) (An OT (FW (pQ (YT (An jR (bF (ao 0 (zE bB) a S) aV)))) (bF (ao 1 (zE eS) b S) (bF (ao 2 (zE eS) vx S) aV)))) (λ_=>S) (λv=>by cases v<;>rfl))))
theorem DW:∀v bs,(aZ bB (aZ eS (aZ eS aN))) v bs->bs.length=3/\(hold (U (qD v.1 v.2.1 v.2.2.1))->qx (bs.map lend)=U ((qE aG) (jU v.1 v.2.1 v.2.2.1))):=by
 rintro⟨a,b,vx,_⟩ _ ⟨_,rfl,⟨_,rfl,⟨_,rfl,rfl⟩⟩⟩;exact⟨rfl,λh=>cF (g:=yD) (n:=3) (bs:=[.z (bB a),.z (eS b),.z (eS vx)]) (Zf a b vx) h⟩
def cV(f:dW)(e:aC)(d:dW)(b:AJ)(g:Unit)(c:AJ):oW (Unit) Bool:=(let a:=(jU f b c);(if(a.isSome&&((!cU e (a.getD []))&&(!decide ((jU d b c)=a))))=true then(oW.rt false)else(if(a.isNone&&(jU d b c).isSome)=true then(oW.rt false)else(oW.nx ()))))
def eF(f:dW)(e:aC)(d:dW)(b:AJ)(g:Unit)(c:AJ):Prop:=((qD f b c)/\(let a:=(jU f b c);((a.isSome=true->(a.isSome=true/\((!cU e (a.getD []))=true->(qD d b c))))/\((a.isSome&&((!cU e (a.getD []))&&(!decide ((jU d b c)=a))))=false->(a.isNone=true->(qD d b c))))))
theorem yQ(f:dW)(d:aC)(c:dW)(a:AJ)(h:Unit)(b:AJ):RP pJ [U (zE bB f),U (zE aG d),U (zE bB c),U (zE eS a),U (zE eS b),Y] (cC (λh:Unit=>[U (zE bB f),U (zE aG d),U (zE bB c),U (zE eS a),Y,Y]) (zE eB)) (cV f d c a h b) (U (eF f d c a h b)):=R.tp (bh (bW 5 (An DW (bF (ao 0 (zE bB) f S) (bF (ao 3 (zE eS) a S) (bF (ao 4 (zE eS) b S) aV)))) (λv=>by cases v<;>rfl) λg=>(bh (j6 (Mi (cH (dQ (O2 5 aG g S))) (Mi (cH (zG (by decide) (ao 1 (zE aG) d S) (fH (Sc (O2 5 aG g S))))) (cH (PF (e:=aG) (by decide) (An DW (bF (ao 2 (zE bB) c S) (bF (ao 3 (zE eS) a S) (bF (ao 4 (zE eS) b S) aV)))) (O2 5 aG g S))))) (bh (cN .rt (oA (.bl false) eB false S) (λ_=>S) λ_=>S)) (bR (bh (j6 (Mi (cH (gl (O2 5 aG g S))) (cH (Y5 (An DW (bF (ao 2 (zE bB) c S) (bF (ao 3 (zE eS) a S) (bF (ao 4 (zE eS) b S) aV))))))) (bh (cN .rt (oA (.bl false) eB false S) (λ_=>S) λ_=>S)) (bR (bR (bJ (.nx ()) S))))))))))
def cW(b:dW)(c:aC)(f:dW)(g:Unit)(d:AJ):oW (Unit) Bool:=(BO (uU (λ(a:Unit) (e:AJ)=>((cV b c f d a e):oW (Unit) Bool)) b.1 ()) (λr=>oW.rt r) λa:Unit=>(oW.nx ()))
def eG(b:dW)(d:aC)(f:dW)(g:Unit)(e:AJ):Prop:=(Es (λ(a:Unit) (c:AJ)=>((cV b d f e a c):oW (Unit) Bool)) (λ(a:Unit) (c:AJ)=>U (eF b d f e a c)) b.1 ()/\(yu (uU (λ(a:Unit) (c:AJ)=>((cV b d f e a c):oW (Unit) Bool)) b.1 ()) λa:Unit=>True))
theorem yR(a:dW)(b:aC)(c:dW)(f:Unit)(d:AJ):RP pK [U (zE bB a),U (zE aG b),U (zE bB c),U (zE eS d),Y,Y] (cC (λf:Unit=>[U (zE bB a),U (zE aG b),U (zE bB c),Y,Y,Y]) (zE eB)) (cW a b c f d) (U (eG a b c f d)):=R.tp (bh (Ve (λe:Unit=>[U (zE bB a),U (zE aG b),U (zE bB c),U (zE eS d),Y,Y]) () S (MI (fU (ao 0 (zE bB) a S) (λq=>q.1) (eT eS) 0 λ_=>S)) _ (λ_ _=>S) (λ(e:Unit) (g:AJ)=>((yQ a b c d e g).r:R _ _ (cC (λe:Unit=>[U (zE bB a),U (zE aG b),U (zE bB c),U (zE eS d),Y,Y]) (zE eB)))) .rt (λ_=>S) λe=>(bR (bJ (.nx ()) S))))
def fB(a:dW)(b:aC):Bool:=(let e:=(cY a b);(BO (uU (λ(c:Unit) (d:AJ)=>((cW a b e c d):oW (Unit) Bool)) a.1 ()) (λr=>r) λc:Unit=>true))
def fD(a:dW)(c:aC):Prop:=((iU a c)/\(let e:=(cY a c);(Es (λ(b:Unit) (d:AJ)=>((cW a c e b d):oW (Unit) Bool)) (λ(b:Unit) (d:AJ)=>U (eG a c e b d)) a.1 ()/\(yu (uU (λ(b:Unit) (d:AJ)=>((cW a c e b d):oW (Unit) Bool)) a.1 ()) λb:Unit=>True))))
theorem DX(a:dW)(b:aC):RP jE [U (zE bB a),U (zE aG b),Y,Y,Y,Y] (λr=>As.rt (zE eB r)) (fB a b) (U (fD a b)):=R.tp (bW 2 (An tY (bF (ao 0 (zE bB) a S) (bF (ao 1 (zE aG) b S) aV))) (λ_=>S) λd=>(Ve (λc:Unit=>[U (zE bB a),U (zE aG b),U (zE bB d),Y,Y,Y]) () S (MI (fU (ao 0 (zE bB) a S) (λq=>q.1) (eT eS) 0 λ_=>S)) _ (λ_ _=>S) (λ(c:Unit) (e:AJ)=>((yR a b d c e).r:R _ _ (cC (λc:Unit=>[U (zE bB a),U (zE aG b),U (zE bB d),Y,Y,Y]) (zE eB)))) (λr=>r) (λ_=>S) λc=>(cN (λr=>r) (oA (.bl true) eB true S) (λ_=>S) λ_=>S)))
theorem DY:∀v bs,(aZ bB (aZ aG aN)) v bs->bs.length=2/\(hold (U (fD v.1 v.2.1))->jF (bs.map lend)=U ((zE eB) (fB v.1 v.2.1))):=by
 rintro⟨b,a,_⟩ _ ⟨_,rfl,⟨_,rfl,rfl⟩⟩;exact⟨rfl,λh=>cF (g:=jE) (n:=6) (bs:=[.z (bB b),.z (aG a)]) (DX b a) h⟩
def rC(d:B9)(a:dW)(e:Unit)(c:Int):oW (Unit) Bool:=(let b:=(at' a.2.1 c);(if((!(dY a b))||(!(fM a b ((at' d 8) / (c+1)))))=true then(oW.rt false)else(oW.nx ())))
def xW(d:B9)(b:dW)(e:Unit)(a:Int):Prop:=(In b.2.1.length a/\(let c:=(at' b.2.1 a);((fL b c)/\((!(dY b c))=false->((In d.length 8/\(0<(a+1)/\(a+1)<1073741824))/\(fP b c ((at' d 8) / (a+1))))))))
theorem YI(f:B9)(g:Lp iH (f.map eI))(b:B9)(a:dW)(d:Unit)(c:Int):RP R3 [U iH,U (oE eI b),U (zE bB a),U (zE eI c),Y] (cC (λd:Unit=>[U iH,U (oE eI b),U (zE bB a),Y,Y]) (zE eB)) (rC b a d c) (U (xW b a d c)):=R.tp (bh (bW 4 (MA (fU (ao 2 (zE bB) a S) (λq=>q.2.1) (eT aG) 1 λ_=>S) (ao 3 (zE eI) c S)) (λ_=>S) λe=>(bh (j6 (YW (RD (EZ (An zR (bF (ao 2 (zE bB) a S) (bF (ao 4 (zE aG) e S) aV))))) (RD (EZ (An zU (bF (ao 2 (zE bB) a S) (bF (ao 4 (zE aG) e S) (bF (c4 (lG (fH (ao 1 (lE eI) b S)) (B8 8)) (j5 (ao 3 (zE eI) c S) (B8 1))) aV))))))) (bh (cN .rt (oA (.bl false) eB false S) (λ_=>S) λ_=>S)) (bR (bR (bJ (.nx ()) S)))))))
def Tg(c:B9):Bool:=(let b:=(bC (bG c 0) 12);(let a:=(jO c 0 ((at' b 6)%10) ((at' b 7)%13) 0);(BO (uU (λ(d:Unit) (e:Int)=>((rC b a d e):oW (Unit) Bool)) (rng 0 (a.2.1.length:Int).toNat) ()) (λr=>r) λd:Unit=>(if(decide (a.2.1=([]:Z aC)))=true then true else(fB a (at' a.2.1 ((at' b 9)%(a.2.1.length:Int))))))))
def Ti(d:B9):Prop:=(((jq d 0)/\(fW (bG d 0) 12))/\(let b:=(bC (bG d 0) 12);(((In b.length 6/\In b.length 7)/\(ql d 0 ((at' b 6)%10) ((at' b 7)%13) 0))/\(let a:=(jO d 0 ((at' b 6)%10) ((at' b 7)%13) 0);((Rg (a.2.1.length:Int)/\Es (λ(c:Unit) (e:Int)=>((rC b a c e):oW (Unit) Bool)) (λ(c:Unit) (e:Int)=>U (xW b a c e)) (rng 0 (a.2.1.length:Int).toNat) ())/\(yu (uU (λ(c:Unit) (e:Int)=>((rC b a c e):oW (Unit) Bool)) (rng 0 (a.2.1.length:Int).toNat) ()) λc:Unit=>((decide (a.2.1=([]:Z aC)))=false->(((In b.length 9/\0<(a.2.1.length:Int))/\In a.2.1.length ((at' b 9)%(a.2.1.length:Int)))/\(fD a (at' a.2.1 ((at' b 9)%(a.2.1.length:Int))))))))))))
theorem Yf(b:B9)(e:Lp iH (b.map eI)):RP Xk [U iH,Y,Y,Y,Y] (λr=>As.rt (zE eB r)) (Tg b) (U (Ti b)):=R.tp (bW 1 (An nP (bF (pI (An vM (FW (rP 0 eI b e S) (bF (B8 0) aV)))) (bF (B8 12) aV))) (λ_=>S) λc=>(bW 2 (An Pq (FW (rP 0 eI b e S) (bF (B8 0) (bF (gq (lG (fH (ao 1 (lE eI) c S)) (B8 6)) 10 (by decide)) (bF (gq (lG (fH (ao 1 (lE eI) c S)) (B8 7)) 13 (by decide)) (bF (B8 0) aV)))))) (λ_=>S) λa=>(Ve (λd:Unit=>[U iH,U (oE eI c),U (zE bB a),Y,Y]) () S (Mp (Iu (fU (ao 2 (zE bB) a S) (λq=>q.2.1) (eT aG) 1 λ_=>S))) _ (λ_ _=>S) (λ(d:Unit) (f:Int)=>((YI b e c a d f).r:R _ _ (cC (λd:Unit=>[U iH,U (oE eI c),U (zE bB a),Y,Y]) (zE eB)))) (λr=>r) (λ_=>S) λd=>(j6 (cH (BV (by decide) (fU (ao 2 (zE bB) a S) (λq=>q.2.1) (eT aG) 1 λ_=>S) (Vb aG))) (bh (cN (λr=>r) (oA (.bl true) eB true S) (λ_=>S) λ_=>S)) (bR (cN (λr=>r) (An DY (bF (ao 2 (zE bB) a S) (bF (MA (fU (ao 2 (zE bB) a S) (λq=>q.2.1) (eT aG) 1 λ_=>S) (Ep (lG (fH (ao 1 (lE eI) c S)) (B8 9)) (Iu (fU (ao 2 (zE bB) a S) (λq=>q.2.1) (eT aG) 1 λ_=>S)))) aV))) (λ_=>S) λ_=>S))))))
theorem MX:∀v bs,(aL eI aN) v bs->bs.length=1/\(hold (U (Ti v.1))->F_law (bs.map lend)=U ((zE eB) (Tg v.1))):=by
 rintro⟨b,_⟩ _ ⟨iH,_,rfl,a,rfl⟩;exact⟨rfl,λh=>cF (g:=Xk) (n:=5) (bs:=[lend iH]) (Yf b (Eo a)) h⟩
theorem LY(h:∀a:Z Int,a.length<=63->Ti a/\Tg a=true):(∀a:Z Int,a.length<=63->F_law [.z (.lst (a.map .int))]=U (.z (.bl true)))/\∀a:Z Int,a.length<=63->F_law [.l (a.map .int)]=U (.z (.bl true)):=
 ⟨λa b=>((MX (a,()) [.z (.lst (a.map .int))] ⟨_,_,rfl,rfl,rfl⟩).2 (h a b).1).trans (by rw[(h a b).2]),λa b=>((MX (a,()) [.l (a.map .int)] ⟨_,_,rfl,rfl,rfl⟩).2 (h a b).1).trans (by rw[(h a b).2])⟩
end
end G67
end
section
set_option synthInstance.maxSize 100000
namespace G67
open L2 P1
theorem PN(a:Z Int)(k:Int)(h0:0<=k)(h1:k<=1000):jq a k:=by
 unfold jq;exact⟨λh=>BF h0 (by simpa using h),λ_=>MH h0 (by omega)⟩
theorem br(k:Nat)(s:Int×Z Int×Int)(d:k<1000)(h:(0<=s.1/\s.1<1999999973)/\s.2.1.length=k/\(∀x∈s.2.1,0<=x)/\0<=s.2.2):jM s k/\(0<=(cR s k).1/\(cR s k).1<1999999973)/\(cR s k).2.1.length=k+1/\(∀x∈(cR s k).2.1,0<=x)/\0<=(cR s k).2.2:=by
 obtain⟨h1,h2,c,b⟩:=h;have a:In 2 (if(decide ((0:Int)<s.2.2))=true then(1:Int)else 0):=by split<;>exact BF (by omega) (by omega)
 refine⟨⟨MH h1.1 (by omega),a,?_⟩,iY _ (by decide),?_,?_,Int.ediv_nonneg b (by decide)⟩
 ·show s.2.1.length<=1000000;omega
 ·show(s.2.1++[_]).length=k+1;rw[zI,h2];rfl
 ·intro x hx;rcases List.mem_append.mp hx with hx|hx
  ·exact c x hx
  ·cases List.mem_singleton.mp hx;have:=tO (xs:=[((((s.1*((s.1%65521)+40487))+(7*k))+5)%1999999973),(s.2.2%1000000)]) a;simp only[QY,JE,or_false]at this;rcases this with e|e<;>rw[e]
   ·exact(iY _ (by decide)).1
   ·exact(iY _ (by decide)).1
theorem PX(c m:Int)(h0:0<=m)(h1:m<=1000):fW c m/\(bC c m).length=m.toNat/\∀x∈bC c m,0<=x:=by
 have b:∀st a:Int,(0<=st/\st<1999999973)->0<=a->nA c m [] st a/\(jN c m [] st a).length=m.toNat/\∀x∈jN c m [] st a,0<=x:=λst a hs hd=>by
  have:=Br (P:=λs k=>U (jM s k)) (λk s=>(0<=s.1/\s.1<1999999973)/\s.2.1.length=k/\(∀x∈s.2.1,0<=x)/\0<=s.2.2) (step:=λs k=>cR s k) m.toNat (st,[],a) ⟨hs,rfl,λx h=>(by cases h),hd⟩ λk s d h=>br k s (by omega) h;exact⟨⟨Mv h0 (by omega),this.1⟩,this.2.2.1,this.2.2.2.1⟩
 refine b _ _ (iY _ (by decide)) ?_;dsimp only;split<;>(try split)<;>omega
theorem nQ{m:Z (AJ×α)}:has m x=true↔x∈m.map (·.1):=by
 unfold has;rw[JI,kD];constructor
 ·rintro⟨q,a,h⟩;exact⟨q,a,QN h⟩
 ·rintro⟨q,a,h⟩;exact⟨q,a,Zs h⟩
theorem Cq[Inhabited α]{pre AS:Z (AJ×α)}{n:AJ}{h:α}(b:n∉pre.map (·.1)):look (pre++(n,h)::AS) n=h:=by
 unfold look;have:pre.find? (λq=>decide (q.1=n))=Y:=List.find?_eq_none.mpr λq a e=>b (List.mem_map.mpr ⟨q,a,QN e⟩);rw[List.find?_append,this];simp
theorem gi{pre AS:Z (AJ×α)}{n:AJ}{h v:α}(f:n∉pre.map (·.1))(c:n∉AS.map (·.1)):put (pre++(n,h)::AS) n v=pre++(n,v)::AS:=by
 unfold put;rw[zk (nQ.mpr (by simp))];have a:∀l:Z (AJ×α),n∉l.map (·.1)->l.map (λq=>if q.1=n then(q.1,v)else q)=l:=λl d=>by
  conv=>rhs;rw[<-Kj l]
  refine Qb λq b=>?_;rw[zw λe=>d (List.mem_map.mpr ⟨q,b,e⟩)];rfl
 rw[qk,zr,a pre f,a AS c];simp
theorem MP[Inhabited α]{m:Z (AJ×α)}(h:x∈m.map (·.1)):(x,look m x)∈m:=by
 unfold look;cases a:m.find? λq=>decide (q.1=x)with
 |none=>
  obtain⟨q,b,rfl⟩:=List.mem_map.mp h;have:=List.find?_eq_none.mp a q b;simp at this
 |some q=>
  have h1:=List.mem_of_find?_eq_some a;have h2:q.1=x:=by simpa using List.find?_some a
  show(x,q.2)∈m;rw[<-h2];exact h1
theorem GQ[Inhabited α]{m:Z (AJ×α)}(a:(m.map (·.1)).Nodup){q:AJ×α}(h:q∈m):look m q.1=q.2:=by
 obtain⟨b,AS,rfl⟩:=JJ h;have:q.1∉b.map (·.1):=λe=>by
  rw[qk,zr,kU]at a;exact a.2.2 _ e _ (zg ..) rfl
 exact Cq this
def mn(one a:AJ):AJ:=if Dv a one=true then a else one
def jn(one a h:AJ):AJ:=if h=one\/h=a then mn one a else h
theorem Fi(a b:AJ):mn a b=a\/mn a b=b:=by unfold mn;split;exact .inr rfl;exact .inl rfl
def jm(m:Z (AJ×AJ))(one a:AJ):Z (AJ×AJ):=m.map λq=>(q.1,jn one a q.2)
theorem Xn(m:Z (AJ×AJ))(one a:AJ):(jm m one a).map (·.1)=m.map (·.1):=by unfold jm;rw[qB];rfl
theorem fE{one a:AJ}(b:(m.map (·.1)).Nodup)(h:x∈m.map (·.1)):look (jm m one a) x=jn one a (look m x):=by
 have h1:=MP h;have:(x,jn one a (look m x))∈jm m one a:=List.mem_map.mpr ⟨_,h1,rfl⟩;exact GQ (by rw[Xn];exact b) this
theorem Bz(one a:AJ):∀(b pre:Z (AJ×AJ)),((pre++b).map (·.1)).Nodup->(pre++b).length<1000 →
  mF (λ(c:(Z (AJ×AJ))) (name:AJ)=>(dI one a (mn one a) c name)) (λ(c:(Z (AJ×AJ))) (name:AJ)=>U (pD one a (mn one a) c name)) (b.map (·.1)) (pre++b) ∧
  (b.map (·.1)).foldl (λ(c:(Z (AJ×AJ))) (name:AJ)=>(dI one a (mn one a) c name)) (pre++b)=pre++jm b one a
 |[],pre,_,_=>⟨trivial,rfl⟩
 |(n,h)::AS,pre,nd,hl=>by
  have g:n∉pre.map (·.1):=λe=>by
   rw[qk,zr,kU]at nd;exact nd.2.2 _ e _ (zg ..) rfl
  have i:n∉AS.map (·.1):=by
   rw[qk,zr,kU,List.nodup_cons]at nd;exact nd.2.1.1
  have f:has (pre++(n,h)::AS) n=true:=nQ.mpr (by simp);have e:dI one a (mn one a) (pre++(n,h)::AS) n=pre++(n,jn one a h)::AS:=by
   unfold dI;dsimp only;rw[Cq g];unfold jn;by_cases q:h=one\/h=a
   ·rw[zk q,zk (by simpa using q),gi g i]
   ·rw[zw q,zw (by simpa using q)]
  have d:=Bz one a AS (pre++[(n,jn one a h)]) (by simpa using nd) (by simpa using hl);rw[ZI]at d;refine⟨⟨⟨⟨f,λ_=>f⟩,λ_=>hl⟩,?_⟩,?_⟩
  ·show mF _ _ _ (dI one a (mn one a) (pre++(n,h)::AS) n);rw[e];exact d.1
  ·rw[zr,qo,e];rw[show pre++(n,jn one a h)::AS=pre++([(n,jn one a h)]++AS) by simp,d.2];unfold jm;simp
theorem Xo(one a:AJ)(b:(m.map (·.1)).Nodup)(c:m.length<1000):jQ m one a/\iz m one a=jm m one a:=Bz one a m [] b c
theorem Xp:∀(a m:Z (AJ×AJ)),((m++a).map (·.1)).Nodup->a.foldl (λm q=>put m q.1 q.2) m=m++a
 |[],m,_=>by simp
 |q::a,m,nd=>by
  rw[qo];have:put m q.1 q.2=m++[q]:=by
   unfold put;rw[zw];intro e;have e:=nQ.mp e;rw[qk,zr,kU]at nd;exact nd.2.2 _ e _ (zg ..) rfl
  rw[this,Xp a (m++[q]) (by simpa using nd)];simp
theorem vU(n_:AZ)(a:n_.Nodup)(b:n_.length<1000):jP n_/\aQ n_=n_.map λn=>(n,n):=by
 refine⟨⟨b,by omega⟩,?_⟩;unfold aQ FA;rw[Xp _ [] (by rw[Kn,qB];show(n_.map id).Nodup;rw[Kj];exact a)];rfl
structure Hd (n_:AZ) (m:List (Str×Str)):Prop where
 keys:m.map (·.1)=n_
 nd:n_.Nodup
 len:n_.length<1000
 mem:∀x∈n_,look m x∈n_
 idem:∀x∈n_,look m (look m x)=look m x
theorem Hd.kn(h:Hd n_ m):(m.map (·.1)).Nodup:=by rw[h.keys];exact h.nd
theorem Hd.ml(h:Hd n_ m):m.length<1000:=by rw[<-zh (f:=(·.1)),h.keys];exact h.len
theorem Hd.has(h:Hd n_ m)(hx:x∈n_):has m x=true:=nQ.mpr (by rw[h.keys];exact hx)
theorem Hd.lone(b:n_.Nodup)(c:n_.length<1000):Hd n_ (n_.map λn=>(n,n)):=by
 have k:(n_.map λn=>(n,n)).map (·.1)=n_:=by rw[qB];show n_.map id=n_;rw[Kj]
 have a:∀x∈n_,look (n_.map λn=>(n,n)) x=x:=λx hx=>GQ (q:=(x,x)) (by rw[k];exact b) (List.mem_map.mpr ⟨x,hx,rfl⟩);exact⟨k,b,c,λx hx=>by rw[a x hx];exact hx,λx hx=>by rw[a x hx,a x hx]⟩
theorem qF(a:n_.Nodup)(hx:x∈n_):look (n_.map λn=>(n,n)) x=x:=
 GQ (q:=(x,x)) (by rw[qB];show(n_.map id).Nodup;rw[Kj];exact a) (List.mem_map.mpr ⟨x,hx,rfl⟩)
theorem Hd.rD(h:Hd n_ m){one a:AJ}(hx:x∈n_):look (jm m one a) x=jn one a (look m x):=fE h.kn (by rw[h.keys];exact hx)
theorem Hd.join(h:Hd n_ m){a b:AJ}(ha:a∈n_)(hb:b∈n_):Hd n_ (jm m (look m a) (look m b)):=by
 have f:=h.mem a ha;have d:=h.mem b hb;refine⟨(Xn _ _ _).trans h.keys,h.nd,h.len,λx hx=>?_,λx hx=>?_⟩
 ·rw[h.rD hx];unfold jn;split
  ·rcases Fi (look m a) (look m b)with e|e<;>rw[e]<;>assumption
  ·exact h.mem x hx
 ·have c:jn (look m a) (look m b) (look m x)∈n_:=by
   unfold jn;split
   ·rcases Fi (look m a) (look m b)with e|e<;>rw[e]<;>assumption
   ·exact h.mem x hx
  rw[h.rD hx,h.rD c];unfold jn;by_cases q:look m x=look m a\/look m x=look m b
  ·rw[zk q];rcases Fi (look m a) (look m b)with e|e
   ·rw[e,h.idem a ha,zk (.inl S)]
   ·rw[e,h.idem b hb,zk (.inr S)]
  ·rw[zw q,h.idem x hx,zw q]
theorem Xq(a:AJ):jm m a a=m:=by
 unfold jm
 conv=>rhs;rw[<-Kj m]
 refine Qb λq _=>?_;unfold jn mn;have:Dv a a=false:=by simp[Dv]
 rw[this];by_cases e:q.2=a
 ·rw[zk (.inl e),zw (by decide),<-e];rfl
 ·rw[zw (by simp[e])];rfl
def VJ(n_:AZ)(m:Z (AJ×AJ)):AZ:=n_.filter λx=>decide (look m x=x)
theorem Fj{p q:AJ->Bool}{c:AJ}:∀{l:AZ},l.Nodup->c∈l->p c=true->(∀x∈l,q x=(p x&&decide (x≠c)))->(l.filter q).length+1=(l.filter p).length
 |[],_,h,_,_=>by cases h
 |x::l,nd,b,hp,hq=>by
  have hx:=hq x (zg ..);obtain⟨nx,d⟩:=List.nodup_cons.mp nd;rcases List.mem_cons.mp b with rfl|b
  ·have e:l.filter q=l.filter p:=KU λy a=>by
    rw[hq y (zi _ a)];have:y≠c:=λe=>nx (e▸a);simp[this]
   rw[kK,kK,hx,hp];simp[e]
  ·have f:=Fj (p:=p) (q:=q) d b hp λy a=>hq y (zi _ a);have:x≠c:=λe=>nx (e▸b);rw[kK,kK,hx];cases p x<;>simp[this]<;>omega
theorem Hd.ab5(h:Hd n_ m){a b:AJ}(ha:a∈n_)(hb:b∈n_)(f:look m a≠look m b):(VJ n_ (jm m (look m a) (look m b))).length+1=(VJ n_ m).length:=by
 have n:=h.mem a ha;have l:=h.mem b hb;have i1:=h.idem a ha;have i2:=h.idem b hb;have d:∀c,c∈n_->look m c=c->(c=look m a/\mn (look m a) (look m b)=look m b\/c=look m b/\mn (look m a) (look m b)=look m a)->(VJ n_ (jm m (look m a) (look m b))).length+1=(VJ n_ m).length:=λc j i g=>by
  refine Fj h.nd j (Zs i) λx hx=>?_;rw[h.rD hx];rw[JU];simp only[ZE,ZY];unfold jn;by_cases q:look m x=look m a\/look m x=look m b
  ·rw[zk q];rcases g with⟨rfl,e⟩|⟨rfl,e⟩
   ·rw[e];constructor
    ·rintro rfl;exact⟨i2,λz=>f z.symm⟩
    ·rintro⟨e1,e2⟩;rcases q with q|q
     ·exact absurd (e1.symm.trans q) e2
     ·exact q.symm.trans e1
   ·rw[e];constructor
    ·rintro rfl;exact⟨i1,f⟩
    ·rintro⟨e1,e2⟩;rcases q with q|q
     ·exact q.symm.trans e1
     ·exact absurd (e1.symm.trans q) e2
  ·rw[zw q];constructor
   ·intro e1;refine⟨e1,λe2=>q ?_⟩;rcases g with⟨rfl,_⟩|⟨rfl,_⟩
    ·exact .inl (e1.trans e2)
    ·exact .inr (e1.trans e2)
   ·exact λe1=>e1.1
 rcases Fi (look m a) (look m b)with e|e
 ·exact d (look m b) l i2 (.inr ⟨rfl,e⟩)
 ·exact d (look m a) n i1 (.inl ⟨rfl,e⟩)
abbrev bT:=Int×AJ×AJ×Int
def Rs(n_:AZ)(rs:Z bT):Prop:=∀r∈rs,r.2.1∈n_/\r.2.2.1∈n_
def jb(m:Z (AJ×AJ))(r:bT):Z (AJ×AJ):=jm m (look m r.2.1) (look m r.2.2.1)
def hb(n_:AZ)(rs:Z bT):Z (AJ×AJ):=rs.foldl jb (aQ n_)
theorem F6(a:n_.Nodup)(b:n_.length<1000):Hd n_ (aQ n_):=by rw[(vU n_ a b).2];exact Hd.lone a b
theorem yG(n_:AZ)(rs:Z bT)(r:bT):hb n_ (rs++[r])=jb (hb n_ rs) r:=KS (l:=rs) (l':=[r])
theorem NG:∀{xs ys:AZ},xs.Nodup->(∀x∈xs,x∈ys)->xs.length<=ys.length
 |[],_,_,_=>QP _
 |x::xs,ys,nd,h=>by
  obtain⟨b,c⟩:=List.nodup_cons.mp nd;have hx:=h x (zg ..);have:=NG (ys:=ys.erase x) c λz a=>(Kk (λe:z=x=>b (e▸a))).mpr (h z (zi _ a));rw[yb hx]at this;have:=ki hx;rw[ZZ];omega
structure PH (n_:AZ) (P:List AZ) (m:List (Str×Str)):Prop where
 sub:∀p∈P,∀y∈p,y∈n_
 cov:∀x∈n_,∃p∈P,x∈p
 cls:∀p∈P,∀x∈p,∀y∈n_,(y∈p↔look m x=look m y)
 ne:∀p∈P,p≠[]
 nd:∀p∈P,p.Nodup
 uni:∀p∈P,∀q∈P,∀x,x∈p->x∈q->p=q
 len:P.length<=n_.length
 pn:P.Nodup
 srt:∀p∈P,p.Pairwise uO
theorem ai(b:n_.Nodup)(f:n_.length<1000):PH n_ (n_.map λname:AJ=>[name]) (aQ n_):=by
 rw[(vU n_ b f).2];have inv:∀p,p∈(n_.map λname:AJ=>[name])->∃n∈n_,p=[n]:=λp hp=>by
  obtain⟨n,a,e⟩:=List.mem_map.mp hp;exact⟨n,a,e.symm⟩
 refine⟨λp hp y c=>?_,λx hx=>⟨[x],List.mem_map.mpr ⟨x,hx,rfl⟩,List.mem_singleton.mpr rfl⟩,λp hp x hx y c=>?_,λp hp e=>?_,λp hp=>?_,λp hp q d x h1 h2=>?_,by rw[zh];exact zo _,?_,λp hp=>?_⟩
 ·obtain⟨n,a,rfl⟩:=inv p hp;cases List.mem_singleton.mp c;exact a
 ·obtain⟨n,a,rfl⟩:=inv p hp;cases List.mem_singleton.mp hx;rw[qF b a,qF b c,List.mem_singleton];exact⟨λe=>e.symm,λe=>e.symm⟩
 ·obtain⟨n,a,rfl⟩:=inv p hp;cases e
 ·obtain⟨n,a,rfl⟩:=inv p hp;exact List.nodup_cons.mpr ⟨λz=>(by cases z),j3⟩
 ·obtain⟨n,a,rfl⟩:=inv p hp;obtain⟨i,g,rfl⟩:=inv q d;cases List.mem_singleton.mp h1;cases List.mem_singleton.mp h2;rfl
 ·unfold List.Nodup;rw[ka];exact b.imp λh e=>h (by injection e)
 ·obtain⟨n,a,rfl⟩:=inv p hp;exact List.pairwise_singleton _ _
theorem F1{P:Z AZ}{a:AJ}(h:∃p∈P,a∈p):In ((P.filter λpart:AZ=>(decide (a∈part))).map λpart:AZ=>part).length (0:Int)/\at' ((P.filter λpart:AZ=>(decide (a∈part))).map λpart:AZ=>part) (0:Int)∈P/\a∈at' ((P.filter λpart:AZ=>(decide (a∈part))).map λpart:AZ=>part) (0:Int):=by
 obtain⟨p,hp,ha⟩:=h;have m:p∈((P.filter λpart:AZ=>(decide (a∈part))).map λpart:AZ=>part):=List.mem_map.mpr ⟨p,List.mem_filter.mpr ⟨hp,Zs ha⟩,rfl⟩;have i:In ((P.filter λpart:AZ=>(decide (a∈part))).map λpart:AZ=>part).length (0:Int):=Jb (k:=0) (ki m);refine⟨i,?_⟩;obtain⟨q,b,e⟩:=List.mem_map.mp (tO i);rw[<-e];exact⟨(List.mem_filter.mp b).1,QN (List.mem_filter.mp b).2⟩
theorem HU{P:Z AZ}(h:Hd n_ m)(p:PH n_ P m){one d:AZ}{a b:AJ}(h1:one∈P)(h2:d∈P)(ha:a∈one)(hb:b∈d)(D:one≠d):
  (one++d).length<=n_.length/\PH n_ (((P.filter λpart:AZ=>(!cU part [one,d])).map λpart:AZ=>part)++[(qM (one++d))]) (jm m (look m a) (look m b)):=by
 have F:=p.sub _ h1 _ ha;have E:=p.sub _ h2 _ hb;have B:(one++d).Nodup:=List.nodup_append.mpr ⟨p.nd _ h1,p.nd _ h2,λx hx y g e=>D (p.uni _ h1 _ h2 x hx (e▸g))⟩;have u:∀x∈one++d,x∈n_:=λx hx=>(List.mem_append.mp hx).elim (p.sub _ h1 _) (p.sub _ h2 _);have c1:∀y∈n_,(y∈one↔look m y=look m a):=λy g=>(p.cls _ h1 _ ha y g).trans ⟨Eq.symm,Eq.symm⟩;have c2:∀y∈n_,(y∈d↔look m y=look m b):=λy g=>(p.cls _ h2 _ hb y g).trans ⟨Eq.symm,Eq.symm⟩;have old:∀q,q∈((P.filter λpart:AZ=>(!cU part [one,d])).map λpart:AZ=>part)↔q∈P/\q≠one/\q≠d:=λq=>by
  rw[Q1,jv,QA,<-Bool.not_eq_true,fV];simp
 have s:∀y,y∈qM (one++d)↔y∈one\/y∈d:=λy=>(jf _).mem_iff.trans List.mem_append;have C:∀q,q∈P->q≠one->q≠d->∀x∈q,look m x≠look m a/\look m x≠look m b:=λq c i j x hx=>by
  have l:=p.sub _ c _ hx;exact⟨λe=>i (p.uni _ c _ h1 x hx ((c1 x l).mpr e)),λe=>j (p.uni _ c _ h2 x hx ((c2 x l).mpr e))⟩
 refine⟨NG B u,⟨λq c y g=>?_,λx hx=>?_,λq c x hx y g=>?_,λq c=>?_,λq c=>?_,λq c t n x hx o=>?_,?_,?_,λq c=>?_⟩⟩
 ·rcases List.mem_append.mp c with c|c
  ·exact p.sub _ ((old q).mp c).1 _ g
  ·cases List.mem_singleton.mp c;exact u y ((jf _).mem_iff.mp g)
 ·obtain⟨q,c,o⟩:=p.cov x hx;by_cases e:q=one\/q=d
  ·refine⟨_,List.mem_append.mpr (.inr (List.mem_singleton.mpr S)),(s x).mpr ?_⟩;rcases e with rfl|rfl
   ·exact .inl o
   ·exact .inr o
  ·exact⟨q,List.mem_append.mpr (.inl ((old q).mpr ⟨c,λz=>e (.inl z),λz=>e (.inr z)⟩)),o⟩
 ·rcases List.mem_append.mp c with c|c
  ·obtain⟨c,i,j⟩:=(old q).mp c;have l:=p.sub _ c _ hx;have f:=C q c i j x hx;rw[h.rD l,h.rD g,p.cls _ c _ hx y g];unfold jn;rw[zw (λz=>z.elim f.1 f.2)];by_cases e:look m y=look m a\/look m y=look m b
   ·rw[zk e];constructor
    ·intro z;rw[z]at f;exact absurd e (λw=>w.elim f.1 f.2)
    ·intro z;rcases Fi (look m a) (look m b)with w|w<;>rw[w]at z
     ·exact absurd z f.1
     ·exact absurd z f.2
   ·rw[zw e]
  ·cases List.mem_singleton.mp c;have v:=(s x).mp hx;have l:=u x (List.mem_append.mpr v);rw[s,h.rD l,h.rD g,c1 y g,c2 y g];unfold jn;rw[zk (v.elim (λz=>.inl ((c1 x l).mp z)) (λz=>.inr ((c2 x l).mp z)))];by_cases e:look m y=look m a\/look m y=look m b
   ·rw[zk e];exact⟨λ_=>S,λ_=>e⟩
   ·rw[zw e];refine⟨λz=>absurd z e,λz=>?_⟩;rcases Fi (look m a) (look m b)with w|w<;>rw[w]at z
    ·exact .inl z.symm
    ·exact .inr z.symm
 ·rcases List.mem_append.mp c with c|c
  ·exact p.ne _ ((old q).mp c).1
  ·cases List.mem_singleton.mp c;intro e;have:=(s a).mpr (.inl ha);rw[e]at this;cases this
 ·rcases List.mem_append.mp c with c|c
  ·exact p.nd _ ((old q).mp c).1
  ·cases List.mem_singleton.mp c;exact(jf _).nodup_iff.mpr B
 ·have A:∀q,q∈P->q≠one->q≠d->x∈q->x∈qM (one++d)->False:=λq c i j e1 e2=>
   ((s x).mp e2).elim (λz=>i (p.uni _ c _ h1 x e1 z)) (λz=>j (p.uni _ c _ h2 x e1 z))
  rcases List.mem_append.mp c with c|c<;>rcases List.mem_append.mp n with n|n
  ·exact p.uni _ ((old q).mp c).1 _ ((old t).mp n).1 x hx o
  ·cases List.mem_singleton.mp n;obtain⟨z,i,j⟩:=(old q).mp c;exact(A q z i j hx o).elim
  ·cases List.mem_singleton.mp c;obtain⟨z,i,j⟩:=(old t).mp n;exact(A t z i j o hx).elim
  ·exact(List.mem_singleton.mp c).trans (List.mem_singleton.mp n).symm
 ·rw[zI,Q1];have:(P.filter λpart:AZ=>(!cU part [one,d])).length<P.length:=by
   rw[List.length_filter_lt_length_iff_exists];refine⟨one,h1,?_⟩;rw[QA,Bool.not_eq_false];exact fV.mpr (zg ..)
  have:=p.len;show _+1<=_;omega
 ·rw[kU];refine⟨by rw[Q1];exact p.pn.filter _,List.nodup_cons.mpr ⟨λz=>(by cases z),j3⟩,λx hx y g e=>?_⟩;cases List.mem_singleton.mp g;obtain⟨z,i,j⟩:=(old x).mp hx;have:a∈x:=by rw[e];exact(s a).mpr (.inl ha)
  exact i (p.uni _ z _ h1 a this ha)
 ·rcases List.mem_append.mp c with c|c
  ·exact p.srt _ ((old q).mp c).1
  ·cases List.mem_singleton.mp c;exact zy _
theorem VL{P:Z AZ}(h:Hd n_ m)(c:n_.length<64)(p:PH n_ P m){r:bT}(ha:r.2.1∈n_)(hb:r.2.2.1∈n_):
  ju P r/\PH n_ (dG P r) (jm m (look m r.2.1) (look m r.2.2.1)):=by
 obtain⟨i1,a,a1⟩:=F1 (p.cov _ ha);obtain⟨i2,b,a2⟩:=F1 (p.cov _ hb);have pl:=p.len;unfold ju dG;dsimp only;generalize at' ((P.filter λpart:AZ=>(decide (r.2.1∈part))).map λpart:AZ=>part) (0:Int)=one at *
 generalize at' ((P.filter λpart:AZ=>(decide (r.2.2.1∈part))).map λpart:AZ=>part) (0:Int)=other at *
 by_cases e:one=other
 ·subst e;refine⟨⟨⟨by omega,i1⟩,⟨by omega,i2⟩,λz=>by simp at z⟩,?_⟩;rw[zw (by simp),(p.cls _ a _ a1 _ hb).mp a2,Xq];exact p
 ·obtain⟨c1,c2⟩:=HU h p a b a1 a2 e;rw[zI]at c1;refine⟨⟨⟨by omega,i1⟩,⟨by omega,i2⟩,λ_=>⟨⟨by omega,?_,?_⟩,?_⟩⟩,?_⟩
  ·show _<=1000000;omega
  ·rw[zI];omega
  ·have:=c2.len;rw[zI]at this;show _<=1000000;omega
  ·rw[zk (by simp[e])];exact c2
theorem JN{n_:AZ}(c:n_.length<64):∀(rs:Z bT) (P:Z AZ) (m:Z (AJ×AJ)),Rs n_ rs->Hd n_ m->PH n_ P m →
  mF (λ(a:Z AZ) (q1:bT)=>(dG a q1)) (λ(a:Z AZ) (q1:bT)=>U (ju a q1)) rs P/\PH n_ (rs.foldl (λ(a:Z AZ) (q1:bT)=>(dG a q1)) P) (rs.foldl jb m)
 |[],_,_,_,_,p=>⟨trivial,p⟩
 |r::rs,P,m,hr,h,p=>by
  obtain⟨ha,hb⟩:=hr r (zg ..);obtain⟨d,q⟩:=VL h c p ha hb;have b:=JN c rs (dG P r) (jb m r) (λx hx=>hr x (zi _ hx)) (h.join ha hb) q;exact⟨⟨d,b.1⟩,b.2⟩
theorem b6(a:n_.Nodup)(b:n_.length<64){rs:Z bT}(e:Rs n_ rs):oO n_ rs/\∃P,lF n_ rs=jY P/\PH n_ P (hb n_ rs):=by
 obtain⟨d,p⟩:=JN b rs _ _ e (F6 a (by omega)) (ai a (by omega));have pl:=p.len;refine⟨⟨by omega,d,by show List.length _<=100000;exact ZA pl (by omega),by show(List.map _ _).length<64;rw[zh];exact Nat.lt_of_le_of_lt pl b,λx hx=>?_⟩,_,congrArg jY (Q1 _),p⟩;obtain⟨y,c,rfl⟩:=List.mem_map.mp hx;have:=p.ne _ c;cases y
 ·exact absurd S this
 ·rfl
theorem JQ(a:AJ):uO a a:=by unfold uO;rw[ltCps_eq];simp
theorem M4{a b c:AJ}(h:uO a b)(h':uO b c):uO a c:=by
 unfold uO at *
 rw[ltCps_eq]at *
 simp only[Q3]at *
 exact List.le_trans (α:=Nat) h h'
theorem Lc(a b:AJ):uO (mn a b) a/\uO (mn a b) b:=by
 unfold mn;by_cases h:Dv b a=true
 ·rw[zk h];exact⟨((C5 b a).mp h).1,JQ b⟩
 ·rw[zw h];refine⟨JQ a,?_⟩;have h:Dv b a=false:=by simpa using h
  unfold Dv at h;unfold uO;rw[ltCps_eq];exact h
def D0(n_:AZ)(m:Z (AJ×AJ)):Prop:=∀x∈n_,uO (look m x) x
theorem b8(a:n_.Nodup)(b:n_.length<1000):D0 n_ (aQ n_):=λx hx=>by
 rw[(vU n_ a b).2,qF a hx];exact JQ x
theorem D0.jb(l:D0 n_ m)(h:Hd n_ m)(r:bT):D0 n_ (jb m r):=λx hx=>by
 show uO (look (jm m (look m r.2.1) (look m r.2.2.1)) x) x;rw[h.rD hx];unfold jn;split
 ·rename_i e;rcases e with e|e
  ·exact M4 (Lc _ _).1 (e▸l x hx)
  ·exact M4 (Lc _ _).2 (e▸l x hx)
 ·exact l x hx
theorem GR{α:Type}[DecidableEq α]:∀{xs ys:Z α},xs.Nodup->ys.Nodup->(∀x,x∈xs↔x∈ys)->xs.Perm ys
 |[],ys,_,_,h=>by
  cases ys with
  |nil=>exact .refl _
  |cons y ys=>exact absurd ((h y).mpr (zg ..)) (by simp)
 |x::xs,ys,nx,ny,h=>by
  obtain⟨b,c⟩:=List.nodup_cons.mp nx;have hx:=(h x).mp (zg ..);refine(List.Perm.cons x (GR (ys:=ys.erase x) c (ny.erase x) λz=>?_)).trans (List.perm_cons_erase hx).symm;constructor
  ·intro a;have:z≠x:=λe=>b (e▸a);exact(Kk this).mpr ((h z).mp (zi _ a))
  ·intro a;have d:z≠x:=λe=>by subst e;exact(List.Nodup.not_mem_erase ny) a
   have:=(h z).mpr (List.mem_of_mem_erase a);rcases List.mem_cons.mp this with e|e
   ·exact absurd e d
   ·exact e
theorem Su{a b:AJ}{xs ys:AZ}(h:uO a b)(c:a≠b):RX (a::xs) (b::ys)=true:=by
 unfold RX S1.w6;show(!S1.lM (Sum.inr b::kT ys) (Sum.inr a::kT xs))=true;unfold S1.lM;rw[zw (λe=>c (Sum.inr.inj e).symm)];unfold S1.Wu;unfold uO at h;rw[ltCps_eq]at h;simpa using h
theorem VT(o:n_.Pairwise uO)(h:Hd n_ m)(l:D0 n_ m){P:Z AZ}(p:PH n_ P m):d9 m=jY P:=by
 have ks:=h.keys;have u:∀q∈P,∀x∈q,bH m (look m x)=q:=λq c x hx=>by
  unfold bH;rw[Q1,ks];refine N6 (GR (h.nd.filter _) (p.nd _ c) λz=>?_) (o.filter _) (p.srt _ c);rw[jv,ZE];constructor
  ·rintro⟨g,e⟩;exact(p.cls q c x hx z g).mpr e.symm
  ·intro g;have s:=p.sub _ c _ g;exact⟨s,((p.cls q c x hx z s).mp g).symm⟩
 have first:∀n∈n_,look m n=n->∃t,bH m n=n::t:=λn f e=>by
  have j:n∈bH m n:=by
   unfold bH;rw[Q1,ks,jv,ZE];exact⟨f,e⟩
  have A:(bH m n).Pairwise uO:=by
   unfold bH;rw[Q1,ks];exact o.filter _
  cases d:bH m n with
  |nil=>rw[d]at j;cases j
  |cons y t=>
   have i:y∈bH m n:=by rw[d];exact zg ..
   unfold bH at i;rw[Q1,ks,jv,ZE]at i;have h1:uO n y:=by have:=l y i.1;rw[i.2]at this;exact this
   rw[d]at j A;rcases List.mem_cons.mp j with e2|e2
   ·exact⟨t,by rw[e2]⟩
   ·have:=Av h1 ((List.pairwise_cons.mp A).1 n e2);exact⟨t,by rw[this]⟩
 refine Mt (GR ?_ p.pn λq=>?_) ?_
 ·unfold d9 List.Nodup;rw[ks,ka];refine j0 ?_ (h.nd.filter _);intro a b ha hb B e;rw[jv,ZE]at ha hb;obtain⟨t1,e1⟩:=first a ha.1 ha.2;obtain⟨t2,e2⟩:=first b hb.1 hb.2;rw[e1,e2]at e;exact B (by injection e)
 ·unfold d9;rw[ks,kD];constructor
  ·rintro⟨n,f,rfl⟩;rw[jv,ZE]at f;obtain⟨q,c,hx⟩:=p.cov n f.1;have:=u q c n hx;rw[f.2]at this;rw[this];exact c
  ·intro c;cases d:q with
   |nil=>exact absurd d (p.ne _ c)
   |cons x t=>
    have hx:x∈q:=by rw[d];exact zg ..
    have w:=p.sub _ c _ hx;refine⟨look m x,List.mem_filter.mpr ⟨h.mem x w,Zs (h.idem x w)⟩,?_⟩;rw[u q c x hx,d]
 ·unfold d9;rw[ks,ka];have C:(n_.filter λname:AJ=>decide (look m name=name)).Pairwise λa b=>uO a b/\a≠b:=(o.filter _).and (h.nd.filter _);refine j0 ?_ C;intro a b ha hb v;rw[jv,ZE]at ha hb;obtain⟨t1,e1⟩:=first a ha.1 ha.2;obtain⟨t2,e2⟩:=first b hb.1 hb.2;rw[e1,e2];exact Su v.1 v.2
theorem BY{α:Type}(c:Array α):∀(n:Nat) (a:Array α),((List.replicate n c).foldl (·++·) a).size=a.size+n*c.size
 |0,a=>by simp
 |n+1,a=>by
  rw[Kt,qo,BY c n,k5,Nat.succ_mul];omega
theorem Nz(x:AJ)(k:Int):(Txt.mul x k).length<=x.length*k.toNat:=by
 unfold Txt.mul;split
 ·exact QP _
 split
 ·rename_i h0 h;simp only[Bool.or_eq_true,beq_iff_eq]at h;rcases h with h|h
  ·subst h;simp
  ·rw[h];simp
 ·show(Array.size _)<=_;rw[BY];have:x.cps.size=x.length:=rfl;rw[this,Nat.mul_comm];simp
def LT:AJ:=("abcdefghijklmnopqrstuvwxyz":AJ)
theorem VN:LT.length=26:=by decide +kernel
theorem vV(h:n<=1000):Qi n:=ZA h (by decide)
theorem VP(xs:Z Int)(j:6<=xs.length)(b:AJ)(hs:b.length<=5)(at_:Int)(k:Nat)(a:AZ)(g:k<200)(h:a.length=k/\∀n∈a,n.length<=12):lX xs LT b at_ a k/\(fK xs LT b at_ a k).length=k+1/\∀n∈fK xs LT b at_ a k,n.length<=12:=by
 have i:=ZA (slice_le b Y (U at_)) hs;have f:=ZA (slice_le b (U at_) Y) hs;have c1:=Jc LT ((↑k+at' xs 2)%15);have l:=iY (k:Int) (m:=8) (by decide);have hd:(0:Int)<=(k:Int) / 8/\(k:Int) / 8<26:=by omega
 refine⟨⟨⟨BF (by decide) (by omega),xK (by decide) (by rw[VN];decide)⟩,⟨vV (by omega),vV (by rw[xM];omega)⟩,⟨BF (by decide) (by omega),λ_=>⟨BF hd.1 (by rw[VN];exact hd.2),by omega,by omega,by rw[Jc];decide⟩⟩,vV (by omega)⟩,?_⟩;have d:∀n:AJ,n.length<=12->(a++[n]).length=k+1/\∀m∈a++[n],m.length<=12:=λn e=>⟨by simp[h.1],λm c=>by
  rcases List.mem_append.mp c with c|c
  ·exact h.2 m c
  ·cases List.mem_singleton.mp c;exact e⟩
 unfold fK;dsimp only;split
 ·exact d _ (by have:=Nz (ch LT ((k:Int) / 8)) (1+(k:Int)%8);rw[Jc]at this;exact ZA this (by omega))
 ·exact d _ (by rw[xM,xM,c1];omega)
theorem Na(xs:AZ)(n:Nat)(h:∀x∈xs,x.length<=n):(Txt.join "" xs).length<=xs.length*n:=by
 have h1:=StrLaws.join_length_le ("":AJ) xs;rw[<-StrLaws.glued_eq_join]at h1;have h2:(xs.map (·.length)).sum<=xs.length*n:=by
  clear h1
  induction xs with
  |nil=>simp
  |cons a l b=>
   have:=b λx hx=>h x (zi _ hx);have:=h a (zg ..);simp only[zr,List.sum_cons,ZZ,Nat.succ_mul];omega
 have c:("":AJ).length=0:=rfl;rw[c,Nat.mul_zero]at h1;exact ZA h1 (by omega)
theorem W'(xs:AZ)(h:∀x∈xs,x.length=1):(xs.map (·.length)).sum=xs.length:=by
 induction xs with
 |nil=>rfl
 |cons a l b=>
  have:=b λx hx=>h x (zi _ hx);have:=h a (zg ..);simp only[zr,List.sum_cons,ZZ];omega
theorem cm(xs:Z Int)(i:6<=xs.length)(a:Int)(h0:0<=a)(h1:a<=200):sZ xs a/\(cL xs a).length=a.toNat/\∀n∈cL xs a,n.length<=12:=by
 have g:=iY (at' xs 0) (m:=6) (by decide);have st:∀b:AJ,b.length<=5->qZ xs a LT b/\(lY xs a LT b).length=a.toNat/\∀n∈lY xs a LT b,n.length<=12:=λb hs=>by
  have:=Br (P:=λf k=>U (lX xs LT b (at' xs 1%((b.length:Int)+1)) f k)) (step:=λf k=>fK xs LT b (at' xs 1%((b.length:Int)+1)) f k) (λk s=>s.length=k/\∀n∈s,n.length<=12) a.toNat [] ⟨rfl,λn h=>(by cases h)⟩ λk s d h=>VP xs i b hs _ k s (by omega) h;exact⟨⟨⟨BF (by decide) (by omega),by omega⟩,Mv h0 (by omega),this.1⟩,this.2⟩
 have c1:∀x∈((rng 0 (at' xs 0%6).toNat).map λc:Int=>ch LT (at' xs c / 40%26)),x.length=1:=λx hx=>by
  obtain⟨k,_,rfl⟩:=List.mem_map.mp hx;exact Jc _ _
 have:=st (Txt.join "" ((rng 0 (at' xs 0%6).toNat).map λc:Int=>ch LT (at' xs c / 40%26))) (by
  have:=Na _ 1 λx hx=>Nat.le_of_eq (c1 x hx);rw[zh,Bq]at this;omega)
 refine⟨⟨⟨⟨⟨⟨BF (by decide) (by omega),Mv g.1 (by omega)⟩,by rw[Bq];omega⟩,λk d=>?_⟩,?_⟩,this.1⟩,this.2⟩
 ·obtain⟨j,l,rfl⟩:=O4 d;exact⟨BF (by omega) (by omega),xK (by decide) (by rw[show("abcdefghijklmnopqrstuvwxyz":AJ)=LT from rfl,VN];decide)⟩
 ·rw[show("abcdefghijklmnopqrstuvwxyz":AJ)=LT from rfl,W' _ c1,zh,Bq];have e:("":AJ).length=0:=rfl;rw[e];omega
def Tr(F:Z bT):AJ->Z bT->AJ->Prop
 |s,[],e=>s=e
 |s,r::p,e=>r∈F/\∃t,aU r s=U t/\Tr F t p e
def gO(F:Z bT)(x y:AJ):Prop:=∃p,Tr F x p y
theorem qt{r:bT}(h:aU r x=U y):(r.2.1=x/\r.2.2.1=y)\/(r.2.2.1=x/\r.2.1=y):=by
 unfold aU at h;by_cases h1:r.2.1=x
 ·rw[Zs h1,zk rfl]at h;exact .inl ⟨h1,Q2 h⟩
 ·rw[z5 h1,zw (by decide)]at h;by_cases h2:r.2.2.1=x
  ·rw[Zs h2,zk rfl]at h;exact .inr ⟨h2,Q2 h⟩
  ·rw[z5 h2,zw (by decide)]at h;cases h
theorem Xr{r:bT}(a:r.2.1≠r.2.2.1)(h:aU r x=U y):aU r y=U x:=by
 unfold aU;rcases qt h with⟨h1,h2⟩|⟨h1,h2⟩
 ·have:r.2.1≠y:=λz=>a (z.trans h2.symm);rw[z5 this,zw (by decide),Zs h2,zk rfl,h1]
 ·rw[Zs h2,zk rfl,h1]
theorem Tr.app{F:Z bT}:∀{p:Z bT} {x y z:AJ} {q:Z bT},Tr F x p y->Tr F y q z->Tr F x (p++q) z
 |[],_,_,_,_,h,h'=>by cases h;exact h'
 |_::_,_,_,_,_,⟨m,t,e,h⟩,h'=>⟨m,t,e,h.app h'⟩
theorem Tr.rev{F:Z bT}(a:∀r∈F,r.2.1≠r.2.2.1):∀{p:Z bT} {x y:AJ},Tr F x p y->Tr F y p.reverse x
 |[],_,_,h=>by cases h;rfl
 |r::p,x,y,⟨m,t,e,h⟩=>by
  rw[kA];exact(h.rev a).app ⟨m,x,Xr (a r m) e,rfl⟩
theorem gO.symm{F:Z bT}(a:∀r∈F,r.2.1≠r.2.2.1){x y:AJ}:gO F x y->gO F y x:=λ⟨p,h⟩=>⟨_,h.rev a⟩
theorem gO.trans{F:Z bT}{z:AJ}:gO F x y->gO F y z->gO F x z:=λ⟨_,h⟩ ⟨_,h'⟩=>⟨_,h.app h'⟩
inductive Fo:List bT->Prop
 |nil:Fo []
 |snoc {F:List bT} {r:bT}:Fo F->¬ gO F r.2.1 r.2.2.1->Fo (F++[r])
theorem Fo.ne{F:Z bT}(h:Fo F):∀r∈F,r.2.1≠r.2.2.1:=by
 induction h with
 |nil=>intro r h;cases h
 |@snoc F r _ b a=>
  intro x hx e;rcases List.mem_append.mp hx with hx|hx
  ·exact a x hx e
  ·cases List.mem_singleton.mp hx;exact b ⟨[],e⟩
theorem Tr.mono{F G:Z bT}:∀{p:Z bT} {x y:AJ},Tr F x p y->(∀r∈p,r∈G)->Tr G x p y
 |[],_,_,h,_=>h
 |r::p,_,_,⟨_,t,e,h⟩,hg=>⟨hg r (zg ..),t,e,h.mono λz a=>hg z (zi _ a)⟩
theorem Tr.mem{F:Z bT}:∀{p:Z bT} {x y:AJ},Tr F x p y->∀r∈p,r∈F
 |[],_,_,_,_,h=>by cases h
 |r::p,_,_,⟨m,_,_,h⟩,z,a=>by
  rcases List.mem_cons.mp a with rfl|a
  ·exact m
  ·exact h.mem z a
theorem Tr.cut{F:Z bT}:∀{p1:Z bT} {r:bT} {p2:Z bT} {x y:AJ},Tr F x (p1++r::p2) y->∃a b,Tr F x p1 a/\aU r a=U b/\Tr F b p2 y
 |[],_,_,x,_,⟨_,t,e,h⟩=>⟨x,t,rfl,e,h⟩
 |q::p1,_,_,_,_,⟨m,t,e,h⟩=>by
  obtain⟨a,b,h1,h2,c⟩:=h.cut;exact⟨a,b,⟨m,t,e,h1⟩,h2,c⟩
theorem uni{F:Z bT}(h:Fo F):∀{s e:AJ} {p q:Z bT},Tr F s p e->Tr F s q e->p.Nodup->q.Nodup->p=q:=by
 induction h with
 |nil=>
  intro s e p q hp l _ _;cases p with
  |nil=>cases q with
   |nil=>rfl
   |cons _ _=>cases l.1
  |cons _ _=>cases hp.1
 |@snoc F r K y m=>
  have g:=K.ne;have x:∀{s e:AJ} {p:Z bT},Tr (F++[r]) s p e->p.Nodup->Tr F s p e\/∃p1 p2 a b,p=p1++r::p2/\Tr F s p1 a/\aU r a=U b/\Tr F b p2 e/\p1.Nodup/\p2.Nodup:=by
   intro s e p hp I;by_cases B:r∈p
   ·obtain⟨p1,p2,rfl⟩:=JJ B;obtain⟨a,b,t1,t2,t3⟩:=hp.cut;obtain⟨t,v,L⟩:=List.nodup_append.mp I;obtain⟨E,D⟩:=List.nodup_cons.mp v;refine .inr ⟨p1,p2,a,b,rfl,t1.mono λz f=>?_,t2,t3.mono λz f=>?_,t,D⟩
    ·rcases List.mem_append.mp (t1.mem z f)with h|h
     ·exact h
     ·cases List.mem_singleton.mp h;exact absurd S (L _ f _ (zg ..))
    ·rcases List.mem_append.mp (t3.mem z f)with h|h
     ·exact h
     ·cases List.mem_singleton.mp h;exact absurd f E
   ·refine .inl (hp.mono λz f=>?_);rcases List.mem_append.mp (hp.mem z f)with h|h
    ·exact h
    ·cases List.mem_singleton.mp h;exact absurd f B
  have C:∀{a b:AJ},aU r a=U b->gO F a b->False:=λ{a b} h c=>by
   rcases qt h with⟨h1,h2⟩|⟨h1,h2⟩
   ·exact y (h1▸h2▸c)
   ·exact y ((h1▸h2▸c.symm g))
  have A:∀{s e:AJ} {p1 p2:Z bT} {a b:AJ},Tr F s p1 a->aU r a=U b->Tr F b p2 e->gO F s e->False:=λt1 t2 t3 c=>
   C t2 ((gO.symm g ⟨_,t1⟩).trans (c.trans (gO.symm g ⟨_,t3⟩)))
  intro s e p q hp l np n;rcases x hp np with h1|⟨p1,p2,a,b,rfl,t1,t2,t3,t,v⟩
  ·rcases x l n with h2|⟨q1,q2,c,d,rfl,j,i,w,_,_⟩
   ·exact m h1 h2 np n
   ·exact(A j i w ⟨_,h1⟩).elim
  ·rcases x l n with h2|⟨q1,q2,c,d,rfl,j,i,w,G,J⟩
   ·exact(A t1 t2 t3 ⟨_,h2⟩).elim
   ·by_cases o:a=c
    ·subst o;have:b=d:=Q2 (t2.symm.trans i);subst this;rw[m t1 j t G,m t3 w v J]
    ·exfalso;have H:c=b:=by
      rcases qt t2 with⟨x1,u⟩|⟨x1,u⟩<;>rcases qt i with⟨y1,y2⟩|⟨y1,y2⟩
      ·exact absurd (x1.symm.trans y1) o
      ·exact y1.symm.trans u
      ·exact y1.symm.trans u
      ·exact absurd (x1.symm.trans y1) o
     subst H;exact C t2 ((gO.symm g ⟨_,t1⟩).trans ⟨_,j⟩)
theorem BG{P:Z α->Prop}(h0:P [])(h1:∀l x,P l->P (l++[x]))(l:Z α):P l:=by
 have:∀m:Z α,P m.reverse:=λm=>by
  induction m with
  |nil=>exact h0
  |cons x m a=>rw[kA];exact h1 _ x a
 have:=this l.reverse;rwa [List.reverse_reverse]at this
theorem Hd.hb(b:n_.Nodup)(d:n_.length<1000){rs:Z bT}:Rs n_ rs->Hd n_ (hb n_ rs):=by
 induction rs using BG with
 |h0=>intro _;exact F6 b d
 |h1 rs r c=>
  intro a;obtain⟨ha,e⟩:=a r (by simp);rw[yG];exact(c λz f=>a z (zt _ f)).join ha e
theorem bm(i:n_.Nodup)(h:n_.length<1000){pre:Z bT}:∀{a:Z bT},Rs n_ (pre++a)->∀x∈n_,∀y∈n_,look (hb n_ pre) x=look (hb n_ pre) y->look (hb n_ (pre++a)) x=look (hb n_ (pre++a)) y:=λ{a}=>by
 induction a using BG with
 |h0=>intro _ x hx y b e;rw[ZT];exact e
 |h1 a r f=>
  intro d x hx y b e;rw[<-ZI]at d ⊢;have c:Rs n_ (pre++a):=λz g=>d z (zt _ g);have H:=Hd.hb i h c;rw[yG];unfold jb;rw[H.rD hx,H.rD b,f c x hx y b e]
theorem OS(f:n_.Nodup)(g:n_.length<1000){rs:Z bT}(c:Rs n_ rs){r:bT}(h:r∈rs):look (hb n_ rs) r.2.1=look (hb n_ rs) r.2.2.1:=by
 obtain⟨a,b,rfl⟩:=JJ h;have j:Rs n_ ((a++[r])++b):=λz d=>c z (by simpa using d);obtain⟨ha,i⟩:=c r h;have e:a++r::b=(a++[r])++b:=by simp
 rw[e];refine bm f g j _ ha _ i ?_;have H:=Hd.hb f g (rs:=a) λz d=>c z (zt _ d);rw[yG];unfold jb;rw[H.rD ha,H.rD i];unfold jn;rw[zk (.inl S),zk (.inr S)]
theorem JR{n_:AZ}(a:n_.Nodup)(c:n_.length<1000){F:Z bT}(b:Rs n_ F):∀{p:Z bT} {x y:AJ},Tr F x p y->look (hb n_ F) x=look (hb n_ F) y
 |[],_,_,h=>by cases h;rfl
 |r::p,_,_,⟨m,t,e,h⟩=>by
  rw[<-JR a c b h];have:=OS a c b m;rcases qt e with⟨h1,h2⟩|⟨h1,h2⟩
  ·rw[<-h1,<-h2];exact this
  ·rw[<-h1,<-h2];exact this.symm
structure HI (n_:AZ) (m:List (Str×Str)) (hd:List bT):Prop where
 h:Hd n_ m
 e2:m=hb n_ hd
 rs:Rs n_ hd
 len:hd.length+(VJ n_ m).length=n_.length
 fo:Fo hd
theorem HP(a:n_.Nodup)(b:n_.length<1000):HI n_ (aQ n_) []:=by
 refine⟨F6 a b,rfl,λr h=>(by cases h),?_,.nil⟩;unfold VJ;rw[(vU n_ a b).2,List.filter_eq_self.mpr λx hx=>Zs (qF a hx)];simp
def hs(s:(Z (AJ×AJ))×(Z bT))(r:bT):(Z (AJ×AJ))×(Z bT):=if look s.1 r.2.1=look s.1 r.2.2.1 then s else(jb s.1 r,s.2++[r])
theorem Zg(b:n_.Nodup)(f:n_.length<64){s:(Z (AJ×AJ))×(Z bT)}(i:HI n_ s.1 s.2){r:bT}(ha:r.2.1∈n_)(a:r.2.2.1∈n_):
  kj s r/\dJ s r=hs s r/\HI n_ (hs s r).1 (hs s r).2:=by
 obtain⟨m,hd⟩:=s;have i:HI n_ m hd:=i;have j:=Xo (look m r.2.1) (look m r.2.2.1) i.h.kn i.h.ml;have d:=i.len;have fl:hd.length<=1000000:=by omega
 refine⟨⟨i.h.has ha,i.h.has a,λ_=>⟨j.1,fl⟩⟩,?_⟩;unfold dJ hs;dsimp only;rw[j.2];by_cases e:look m r.2.1=look m r.2.2.1
 ·exact⟨by simp[e],by simp only[e,qA];exact i⟩
 ·refine⟨by simp[e,jb],?_⟩;rw[zw e];refine⟨i.h.join ha a,?_,?_,?_,.snoc i.fo λ⟨p,c⟩=>?_⟩
  ·rw[yG,<-i.e2]
  ·intro x hx;rcases List.mem_append.mp hx with hx|hx
   ·exact i.rs x hx
   ·cases List.mem_singleton.mp hx;exact⟨ha,a⟩
  ·have:=i.h.ab5 ha a e;show(hd++[r]).length+(VJ n_ (jm m _ _)).length=_;rw[zI];show _+1+_=_;omega
  ·exact e (i.e2▸JR b (by omega) i.rs c)
theorem yH{n_:AZ}(e:n_.Nodup)(d:n_.length<64):∀(a:Z bT) (s:(Z (AJ×AJ))×(Z bT)),Rs n_ a->HI n_ s.1 s.2 →
  mF (λ(c:(Z (AJ×AJ))×(Z bT)) (b:bT)=>(dJ c b)) (λ(c:(Z (AJ×AJ))×(Z bT)) (b:bT)=>U (kj c b)) a s ∧
  a.foldl (λ(c:(Z (AJ×AJ))×(Z bT)) (b:bT)=>(dJ c b)) s=a.foldl hs s/\HI n_ (a.foldl hs s).1 (a.foldl hs s).2
 |[],s,_,i=>⟨trivial,rfl,i⟩
 |r::a,s,hr,i=>by
  obtain⟨ha,hb⟩:=hr r (zg ..);obtain⟨f,e1,i'⟩:=Zg e d i ha hb;obtain⟨f1,g1,i2⟩:=yH e d a (hs s r) (λx hx=>hr x (zi _ hx)) i';refine⟨⟨f,?_⟩,?_,i2⟩
  ·show mF _ _ a (dJ s r);rw[e1];exact f1
  ·rw[qo,e1];exact g1
def Ap(n_:AZ)(rs:Z bT):Z bT:=(rs.foldl hs (aQ n_,[])).2
theorem Cr(a:n_.Nodup)(d:n_.length<64){rs:Z bT}(c:Rs n_ rs)(b:Z (AJ×AJ×Int)):
  dF (n_,rs,b)/\bM (n_,rs,b)=Ap n_ rs/\Rs n_ (Ap n_ rs)/\Fo (Ap n_ rs)/\(Ap n_ rs).length<=n_.length:=by
 obtain⟨f1,g1,i2⟩:=yH a d rs (aQ n_,[]) c (HP a (by omega));have l:=(vU n_ a (by omega)).1;have:=i2.len;exact⟨⟨l,f1⟩,congrArg Prod.snd g1,i2.rs,i2.fo,by show(rs.foldl hs (aQ n_,[])).2.length<=_;omega⟩
theorem MD(n_:AZ):∀(rs:Z bT) (m:Z (AJ×AJ)),Rs n_ rs->Hd n_ m →
  mF (λ(a:(Z (AJ×AJ))) (q1:aC)=>(fY a q1)) (λ(a:(Z (AJ×AJ))) (q1:aC)=>U (tZ a q1)) rs m/\rs.foldl (λ(a:(Z (AJ×AJ))) (q1:aC)=>(fY a q1)) m=rs.foldl jb m/\Hd n_ (rs.foldl jb m)
 |[],m,_,h=>⟨trivial,rfl,h⟩
 |r::rs,m,hr,h=>by
  obtain⟨ha,hb⟩:=hr r (zg ..);obtain⟨d,e⟩:=Xo (look m r.2.1) (look m r.2.2.1) h.kn h.ml;have e:fY m r=jb m r:=e;obtain⟨i1,i2,b⟩:=MD n_ rs (jb m r) (λx hx=>hr x (zi _ hx)) (h.join ha hb);refine⟨⟨⟨⟨h.has ha,h.has hb⟩,d⟩,?_⟩,?_,b⟩
  ·show mF _ _ rs (fY m r);rw[e];exact i1
  ·rw[qo,qo,e];exact i2
theorem L5(a:n_.Nodup)(b:n_.length<1000){rs:Z bT}(d:Rs n_ rs):vQ n_ rs/\iB n_ rs=hb n_ rs/\Hd n_ (hb n_ rs):=by
 obtain⟨i1,i2,c⟩:=MD n_ rs _ d (F6 a b);exact⟨⟨(vU n_ a b).1,i1⟩,i2,c⟩
theorem LP{n_:AZ}(a:n_.Nodup)(b:n_.length<1000):∀(rs:Z bT) (m:Z (AJ×AJ)),Rs n_ rs->Hd n_ m->D0 n_ m->D0 n_ (rs.foldl jb m)
 |[],m,_,_,l=>l
 |r::rs,m,hr,h,l=>by
  obtain⟨ha,hb⟩:=hr r (zg ..);exact LP a b rs (jb m r) (λx hx=>hr x (zi _ hx)) (h.join ha hb) (l.jb h r)
theorem HA(h:Hd n_ m)(z:AJ):j7 m z/\bH m z=n_.filter λy=>decide (look m y=z):=by
 have l:=h.len;refine⟨⟨by rw[h.keys];omega,λy a=>h.has (by rw[<-h.keys];exact a)⟩,?_⟩;unfold bH;rw[h.keys];exact Q1 _
def pt(n_:AZ)(m:Z (AJ×AJ))(x:AJ):AZ:=n_.filter λy=>decide (look m y=look m x)
theorem Xu(a:n_.Nodup)(c:n_.length<1000){rs:Z bT}(b:Rs n_ rs)(hx:x∈n_):uH n_ rs x/\qC n_ rs x=pt n_ (hb n_ rs) x:=by
 obtain⟨d,e,h⟩:=L5 a c b;have n:=HA h (look (hb n_ rs) x);refine⟨⟨d,?_⟩,?_⟩
 ·rw[e];exact⟨h.has hx,n.1⟩
 ·show bH (iB n_ rs) (look (iB n_ rs) x)=_;rw[e];exact n.2
def st(n_:AZ)(m:Z (AJ×AJ)):Z AZ:=(n_.filter λw=>decide (look m w=w)).map (pt n_ m)
theorem Xv(h:Hd n_ m):mj m/\d9 m=st n_ m:=by
 have l:=h.len;refine⟨⟨by rw[h.keys];omega,λw a=>⟨h.has (by rw[<-h.keys];exact a),λ_=>(HA h w).1⟩⟩,?_⟩;unfold d9 st;rw[h.keys];refine Qb λw a=>?_;have e:look m w=w:=QN (List.mem_filter.mp a).2;rw[(HA h w).2];unfold pt;rw[e]
def tn(q:bT):bT:=((0:Int)-q.1,q.2.1,q.2.2.1,q.2.2.2)
theorem Tj(q:bT):tn (tn q)=q:=by
 obtain⟨a,b,c,d⟩:=q;show((0:Int)-(0-a),b,c,d)=_;rw[show(0:Int)-(0-a)=a by omega]
theorem JT(rs:Z bT):(rs.map tn).map tn=rs:=by
 rw[qB];exact(Qb (g:=id) λq _=>Tj q).trans (Kj _)
def So(rs:Z bT):Prop:=(rs.map tn).Pairwise λa b=>TF (Il eI eS eS eI) a b=true
theorem Tn{α β:Type}(g:β->α):∀(l:Z β) (f:Z α),l.foldl (λf k=>f++[g k]) f=f++l.map g
 |[],f=>by simp
 |k::l,f=>by rw[qo,Tn g l];simp
theorem L8(rs:Z bT):cM rs=(oG (Il eI eS eS eI) (rs.map tn)).map tn:=(Tn tn _ []).trans (Kn _)
theorem LX(rs:Z bT):So (cM rs):=by
 unfold So;rw[L8,JT];exact uW _
theorem Qa(rs:Z bT):(cM rs).Perm rs:=by
 rw[L8];have:=((jh (e:=Il eI eS eS eI) (rs.map tn)).map tn);rwa [JT]at this
theorem Si{a b:Z bT}(p:a.Perm b)(ha:So a)(hb:So b):a=b:=by
 have h:a.map tn=b.map tn:=(RN (e:=Il eI eS eS eI) (p.map tn) ha).trans (RN (e:=Il eI eS eS eI) (.refl _) hb).symm;have:=congrArg (List.map tn) h;rwa [JT,JT]at this
theorem So.filter{rs:Z bT}(h:So rs)(p:bT->Bool):So (rs.filter p):=by
 unfold So at *
 exact h.sublist ((List.filter_sublist).map tn)
theorem UE{a b:Z bT}{p:bT->Bool}(h1:∀r∈a,p r=true)(h2:∀r∈b,p r=false)(s:So a):(cM (a++b)).filter p=a:=by
 refine Si ?_ ((LX _).filter p) s;refine((Qa _).filter p).trans ?_;rw[jI,List.filter_eq_self.mpr h1,List.filter_eq_nil_iff.mpr λr c=>by rw[h2 r c];simp,ZT]
theorem NI{α:Type}[DecidableEq α]:∀{xs ys:Z α},xs.Nodup->(∀x∈xs,x∈ys)->xs.length<=ys.length
 |[],_,_,_=>QP _
 |x::xs,ys,nd,h=>by
  obtain⟨b,c⟩:=List.nodup_cons.mp nd;have hx:=h x (zg ..);have:=NI (ys:=ys.erase x) c λz a=>(Kk (λe:z=x=>b (e▸a))).mpr (h z (zi _ a));rw[yb hx]at this;have:=ki hx;rw[ZZ];omega
abbrev Cm:=Z (AJ×(O aC))
inductive Bk (F:List bT) (s:Str):Cm->Prop
 |base:Bk F s [(s,none)]
 |snoc {L:Cm} {x:Str} {r:bT} {y:Str}:Bk F s L->x∉L.map (·.1)->r∈F->aU r x=some y->y∈L.map (·.1)->Bk F s (L++[(x,some r)])
theorem Bk.facts{F:Z bT}{s:AJ}(d:Rs n_ F)(hs:s∈n_){L:Cm}(h:Bk F s L):(L.map (·.1)).Nodup/\(∀x∈L.map (·.1),x∈n_)/\s∈L.map (·.1):=by
 induction h with
 |base=>exact⟨List.nodup_cons.mpr ⟨λz=>(by cases z),j3⟩,λx hx=>by cases List.mem_singleton.mp hx;exact hs,List.mem_singleton.mpr rfl⟩
 |@snoc L x r y h hx m o g f=>
  obtain⟨i1,i2,e⟩:=f;rw[qk];refine⟨List.nodup_append.mpr ⟨i1,List.nodup_cons.mpr ⟨λz=>(by cases z),j3⟩,λa ha b hb z=>?_⟩,λz c=>?_,zt _ e⟩
  ·cases List.mem_singleton.mp hb;have z:a=x:=z;rw[z]at ha;exact hx ha
  ·rcases List.mem_append.mp c with c|c
   ·exact i2 z c
   ·cases List.mem_singleton.mp c;rcases qt o with⟨h1,_⟩|⟨h1,_⟩
    ·show x∈n_;rw[<-h1];exact(d r m).1
    ·show x∈n_;rw[<-h1];exact(d r m).2
theorem Bk.len{F:Z bT}{s:AJ}(a:Rs n_ F)(hs:s∈n_){L:Cm}(h:Bk F s L):L.length<=n_.length:=by
 obtain⟨h1,h2,_⟩:=h.facts a hs;have:=NI h1 h2;rwa [zh]at this
theorem Pl{L:Cm}{v:O bT}(h:x∉L.map (·.1)):put L x v=L++[(x,v)]:=by
 unfold put;rw[zw λz=>h (nQ.mp z)]
theorem DM{n_:AZ}{F:Z bT}{s:AJ}(u:Rs n_ F)(hs:s∈n_)(B:n_.length<64)(p:∀r∈F,r.2.1≠r.2.2.1){here:AJ}:∀(R:Z bT),(∀r∈R,r∈F)->∀(L:Cm) (q:AZ),Bk F s L->here∈L.map (·.1)->q.length<=L.length →
  mF (λ(a:Cm×AZ) (i:aC)=>(dM here a i)) (λ(a:Cm×AZ) (i:aC)=>U (gK here a i)) R (L,q) ∧
  ∃f ad,R.foldl (λ(a:Cm×AZ) (i:aC)=>(dM here a i)) (L,q)=(f,q++ad)/\f.map (·.1)=L.map (·.1)++ad/\Bk F s f/\∀r∈R,∀y,aU r here=U y->y∈f.map (·.1)
 |[],_,L,q,b,_,_=>⟨trivial,L,[],by rw[ZT];rfl,by rw[ZT],b,λr h=>(by cases h)⟩
 |r::R,hR,L,q,b,hh,hq=>by
  have v:=hR r (zg ..);have C:=b.len u hs;have n:∀(j:Cm) (a1:AZ),dM here (L,q) r=(j,q++a1)->gK here (L,q) r->j.map (·.1)=L.map (·.1)++a1->Bk F s j->(∀y,aU r here=U y->y∈j.map (·.1))->(q++a1).length<=j.length->(mF (λ(a:Cm×AZ) (i:aC)=>(dM here a i)) (λ(a:Cm×AZ) (i:aC)=>U (gK here a i)) (r::R) (L,q)/\∃f ad,(r::R).foldl (λ(a:Cm×AZ) (i:aC)=>(dM here a i)) (L,q)=(f,q++ad)/\f.map (·.1)=L.map (·.1)++ad/\Bk F s f/\∀z∈r::R,∀y,aU z here=U y->y∈f.map (·.1)):=λj a1 e d k b1 c A=>by
   obtain⟨i1,f,ad,i2,o,w,x⟩:=DM u hs B p R (λz m=>hR z (zi _ m)) j (q++a1) b1 (by rw[k];exact zt _ hh) A;refine⟨⟨d,by show mF _ _ R (dM here (L,q) r);rw[e];exact i1⟩,f,a1++ad,?_,?_,w,λz m y g=>?_⟩
   ·rw[qo,e,i2,ZI]
   ·rw[o,k,ZI]
   ·rcases List.mem_cons.mp m with rfl|m
    ·rw[o];exact zt _ (c y g)
    ·exact x z m y g
  cases ho:aU r here with
  |none=>
   refine n L [] ?_ ?_ (by rw[ZT]) b (λy g=>by rw[ho]at g;cases g) (by rw[ZT];exact hq)
   ·unfold dM;dsimp only;rw[ho,ZT];rfl
   ·unfold gK;dsimp only;rw[ho];exact⟨λz=>z,λz=>(by cases z)⟩
  |some t=>
   by_cases l:t∈L.map (·.1)
   ·have c:(!has L t)=false:=by rw[nQ.mpr l];rfl
    refine n L [] ?_ ?_ (by rw[ZT]) b (λy g=>by rw[ho]at g;cases g;exact l) (by rw[ZT];exact hq)
    ·unfold dM;dsimp only;rw[ho,ZT,show(!has L ((U t).getD default))=false from c];rfl
    ·unfold gK;dsimp only;rw[ho,show(!has L ((U t).getD default))=false from c];exact⟨λz=>z,λz=>(by cases z)⟩
   ·have c:(!has L t)=true:=by
     cases q:has L t with
     |false=>rfl
     |true=>exact absurd (nQ.mp q) l
    refine n (L++[(t,U r)]) [t] ?_ ?_ (by rw[qk];rfl) (.snoc b l v (Xr (p r v) ho) hh) (λy g=>by rw[ho]at g;cases g;rw[qk];exact Zl _ (List.mem_singleton.mpr S)) (by rw[zI,zI];show _+1<=_+1;omega)
    ·unfold dM;dsimp only;rw[ho,show(!has L ((U t).getD default))=true from c];show(put L t (U r),q++[t])=_;rw[Pl l]
    ·unfold gK;dsimp only;rw[ho];exact⟨λz=>z,λ_=>⟨⟨rfl,by omega⟩,rfl,vV (by show q.length<=1000;omega)⟩⟩
structure Iq (F:List bT) (s:Str) (q:AZ) (L:Cm):Prop where
 b:Bk F s L
 sub:∀x∈q,x∈L.map (·.1)
 len:q.length<=L.length
 cl:∀x∈L.map (·.1),x∉q->∀r∈F,∀y,aU r x=some y->y∈L.map (·.1)
theorem outer{n_:AZ}{F:Z bT}{s:AJ}(g:Rs n_ F)(hs:s∈n_)(o:n_.length<64)(l:∀r∈F,r.2.1≠r.2.2.1):∀(n:Nat) (q:AZ) (L:Cm),Iq F s q L->n_.length-L.length+q.length<n->∃f,Iq F s [] f ∧
  Mu (λa:AZ×Cm=>(!a.1.isEmpty)) (λa:AZ×Cm=>((gM F a):oW (AZ×Cm) (O (Z aC)))) n (q,L)=.nx ([],f) ∧
  DZ (λa:AZ×Cm=>(!a.1.isEmpty)) (λa:AZ×Cm=>Y) (λa:AZ×Cm=>((gM F a):oW (AZ×Cm) (O (Z aC)))) (λa:AZ×Cm=>U (tK F a)) n (q,L)
 |0,_,_,_,h=>by omega
 |n+1,[],L,i,_=>⟨L,i,rfl,trivial,λz=>(by cases z)⟩
 |n+1,h::q,L,i,hm=>by
  have t:=i.sub h (zg ..);have u:=i.len;rw[ZZ]at u hm;obtain⟨d,f,ad,e,k,b,c⟩:=DM g hs o l (here:=h) F (λr h=>h) L q i.b t (by omega);have D:f.length=L.length+ad.length:=by
   have:=congrArg List.length k;rwa [zI,zh,zh]at this
  have C:=b.len g hs;have i':Iq F s (q++ad) f:=by
   refine⟨b,λx hx=>?_,by rw[zI];omega,λx hx m=>?_⟩
   ·rw[k];rcases List.mem_append.mp hx with hx|hx
    ·exact zt _ (i.sub x (zi _ hx))
    ·exact Zl _ hx
   ·rw[k]at hx;rcases List.mem_append.mp hx with hx|hx
    ·by_cases j:x=h
     ·subst j;exact c
     ·intro r p y A;rw[k];refine zt _ (i.cl x hx (λz=>?_) r p y A);rcases List.mem_cons.mp z with z|z
      ·exact j z
      ·exact m (zt _ z)
    ·exact absurd (Zl _ hx) m
  have st:gM F (h::q,L)=.nx (q++ad,f):=by
   unfold gM;dsimp only;rw[show at' (h::q) (0:Int)=h from O1 _ 0 (by simp),show(h::q).drop 1=q from rfl,e]
  obtain⟨v,i2,B,w⟩:=outer g hs o l n (q++ad) f i' (by rw[zI];omega);refine⟨v,i2,?_,trivial,λ_=>⟨?_,?_⟩⟩
  ·unfold Mu;rw[zk (show(!(h::q,L).1.isEmpty)=true from S),st];exact B
  ·show tK F (h::q,L);refine⟨⟨rfl,by show 0<(h::q).length;simp⟩,?_⟩;dsimp only;rw[show at' (h::q) (0:Int)=h from O1 _ 0 (by simp)];exact d
  ·dsimp only;rw[st];exact w
theorem back{F:Z bT}{s:AJ}(H:∀r∈F,r.2.1≠r.2.2.1){L:Cm}(h:Bk F s L):(L.map (·.1)).Nodup->∀x∈L.map (·.1),∃w,Tr F x w s/\w.Nodup/\(∀r∈w,r.2.1∈L.map (·.1)/\r.2.2.1∈L.map (·.1))/\w.length<L.length ∧
  ∀(a:Cm),(∀k∈L.map (·.1),look a k=look L k/\has a k=true)->∀(n:Nat) (c:Z bT),w.length<n->c.length+w.length<=100 →
   Mu (λd:(Z aC)×AJ=>(look a d.2).isSome) (λd:(Z aC)×AJ=>((fu a d):oW ((Z aC)×AJ) (Z aC))) n (c,x)=.nx (c++w,s) ∧
   DZ (λd:(Z aC)×AJ=>(look a d.2).isSome) (λd:(Z aC)×AJ=>U (has a d.2=true)) (λd:(Z aC)×AJ=>((fu a d):oW ((Z aC)×AJ) (Z aC))) (λd:(Z aC)×AJ=>U (j8 a d)) n (c,x):=by
 induction h with
 |base=>
  intro _ x hx;cases List.mem_singleton.mp hx;refine⟨[],rfl,j3,λr h=>(by cases h),Nat.zero_lt_succ _,λa h2 n c i _=>?_⟩;obtain⟨l,g⟩:=h2 s (List.mem_singleton.mpr S);have l:look a s=Y:=l.trans (Cq (pre:=[]) (AS:=[]) (λz=>by cases z));cases n with
  |zero=>cases i
  |succ n=>
   refine⟨?_,g,λz=>?_⟩
   ·unfold Mu;rw[zw (by show ¬ (look a s).isSome=true;rw[l];decide),ZT]
   ·have z:(look a s).isSome=true:=z;rw[l]at z;cases z
 |@snoc L y r z b u m o t v=>
  intro p x hx;rw[qk]at p hx ⊢;have B:=(List.nodup_append.mp p).1;have A:∀k∈L.map (·.1),look (L++[(y,U r)]) k=look L k:=λk e=>by
   have:=MP e;have h1:(k,look L k)∈L++[(y,U r)]:=zt _ this;exact GQ (m:=L++[(y,U r)]) (by rw[qk];exact p) h1
  rcases List.mem_append.mp hx with hx|hx
  ·obtain⟨w,t1,t2,t3,G,j⟩:=v B x hx;refine⟨w,t1,t2,λq f=>⟨zt _ (t3 q f).1,zt _ (t3 q f).2⟩,by rw[zI];omega,λa h2=>j a λk e=>?_⟩;obtain⟨a1,a2⟩:=h2 k (zt _ e);exact⟨a1.trans (A k e),a2⟩
  ·have ex:x=y:=List.mem_singleton.mp hx;subst ex;obtain⟨w,t1,t2,t3,G,j⟩:=v B z t;have C:r∉w:=λq=>by
    obtain⟨a1,a2⟩:=t3 r q;rcases qt o with⟨h1,_⟩|⟨h1,_⟩
    ·exact u (h1▸a1)
    ·exact u (h1▸a2)
   refine⟨r::w,⟨m,z,o,t1⟩,List.nodup_cons.mpr ⟨C,t2⟩,λq f=>?_,by rw[zI,ZZ];show _+1<_+1;omega,λa h2 n c i ha=>?_⟩
   ·rcases List.mem_cons.mp f with rfl|f
    ·rcases qt o with⟨h1,h2⟩|⟨h1,h2⟩
     ·exact⟨Zl _ (by rw[h1];exact List.mem_singleton.mpr S),zt _ (by rw[h2];exact t)⟩
     ·exact⟨zt _ (by rw[h2];exact t),Zl _ (by rw[h1];exact List.mem_singleton.mpr S)⟩
    ·exact⟨zt _ (t3 q f).1,zt _ (t3 q f).2⟩
   ·obtain⟨l,g⟩:=h2 x (Zl _ (List.mem_singleton.mpr S));have l:look a x=U r:=l.trans (Cq (pre:=L) (AS:=[]) u);rw[ZZ]at i ha;cases n with
    |zero=>cases i
    |succ n=>
     have st:fu a (c,x)=.nx (c++[r],z):=by
      unfold fu;dsimp only;rw[l];show oW.nx (c++[r],(aU r x).getD default)=_;rw[o];rfl
     obtain⟨E,D⟩:=j a (λk e=>by
      obtain⟨a1,a2⟩:=h2 k (zt _ e);exact⟨a1.trans (A k e),a2⟩) n (c++[r]) (by omega) (by rw[zI];show _+1+_<=100;omega)
     refine⟨?_,g,λ_=>⟨?_,?_⟩⟩
     ·unfold Mu;rw[zk (by show(look a x).isSome=true;rw[l];rfl),st];show Mu _ _ n (c++[r],z)=_;rw[E,ZI];rfl
     ·show j8 a (c,x);unfold j8;dsimp only;rw[l];exact⟨⟨⟨g,rfl⟩,vV (by show c.length<=1000;omega)⟩,⟨g,rfl⟩,by show(aU r x).isSome=true;rw[o];rfl⟩
     ·dsimp only;rw[st];exact D
theorem Ic{F:Z bT}(f:Rs n_ F)(H:n_.length<64)(fo:Fo F){s e:AJ}(hs:s∈n_):xV F s e/\(∀p,iK F s e=U p->Tr F s p e/\p.Nodup)/\(iK F s e=Y->¬ gO F s e):=by
 have d:=fo.ne;have C:Iq F s [s] [(s,Y)]:=⟨.base,λx hx=>hx,zo _,λx hx G=>absurd hx G⟩;obtain⟨L,i,u,j⟩:=outer f hs H d 70 [s] [(s,Y)] C (by show n_.length-1+1<70;omega);have J:0<n_.length:=ki hs;obtain⟨f1,f2,l⟩:=i.b.facts f hs;have I:=i.b.len f hs;have B:∀{p:Z bT} {x y:AJ},Tr F x p y->x∈L.map (·.1)->y∈L.map (·.1):=by
  intro p
  induction p with
  |nil=>intro x y h hx;cases h;exact hx
  |cons r p n=>
   intro x y h hx;obtain⟨m,t,o,h⟩:=h;exact n h (i.cl x hx (λz=>by cases z) r m t o)
 unfold xV iK;dsimp only;rw[u];by_cases a:e∈L.map (·.1)
 ·have c:(!has L e)=false:=by rw[nQ.mpr a];rfl
  obtain⟨w,t1,t2,t3,K,v⟩:=back d i.b f1 e a;obtain⟨g,D⟩:=v L (λk A=>⟨rfl,nQ.mpr A⟩) 70 [] (by omega) (by show 0+_<=100;omega);have tb:jw L e=w:=by
   unfold jw;dsimp only;rw[g];rfl
  have E:rB L e:=by
   unfold rB;dsimp only;rw[g];exact⟨D,trivial⟩
  refine⟨⟨j,λ_=>E⟩,λp hp=>?_,λh=>?_⟩
  ·have hp:(if(!has L e)=true then Y else(U (jw L e).reverse))=U p:=hp;rw[c,zw (by decide),tb]at hp;cases hp;exact⟨t1.rev d,(List.reverse_perm w).nodup_iff.mpr t2⟩
  ·have h:(if(!has L e)=true then Y else(U (jw L e).reverse))=Y:=h;rw[c,zw (by decide)]at h;cases h
 ·have c:(!has L e)=true:=by
   cases q:has L e with
   |false=>rfl
   |true=>exact absurd (nQ.mp q) a
  refine⟨⟨j,λz=>?_⟩,λp hp=>?_,λ_ ⟨p,h⟩=>a (B h l)⟩
  ·rw[c]at z;cases z
  ·have hp:(if(!has L e)=true then Y else(U (jw L e).reverse))=U p:=hp;rw[c,zk rfl]at hp;cases hp
theorem OK(r:bT):aU r r.2.1=U r.2.2.1:=by
 unfold aU;rw[Zs rfl,zk rfl]
theorem gO.more{F G:Z bT}(h:∀r∈F,r∈G):gO F x y->gO G x y:=λ⟨p,t⟩=>⟨p,t.mono λz a=>h z (t.mem z a)⟩
theorem Sz(d:N.Nodup)(n:N.length<1000){rs:Z bT}:Rs N rs->(∀r∈rs,r.2.1≠r.2.2.1)->∀x∈N,∀y∈N,look (hb N rs) x=look (hb N rs) y->gO rs x y:=by
 induction rs using BG with
 |h0=>
  intro _ _ x hx y c h;have e:hb N []=aQ N:=rfl;rw[e,(vU N d n).2,qF d hx,qF d c]at h;exact⟨[],h⟩
 |h1 rs r a=>
  intro l f x hx y c h;have j:Rs N rs:=λz b=>l z (zt _ b);have a:=a j λz b=>f z (zt _ b);have H:=Hd.hb d n j;have m:r∈rs++[r]:=by simp
  obtain⟨q,s⟩:=l r m;rw[yG]at h;unfold jb at h;rw[H.rD hx,H.rD c]at h;have g:∀{u v:AJ},gO rs u v->gO (rs++[r]) u v:=gO.more λz b=>zt _ b;have p:gO (rs++[r]) r.2.1 r.2.2.1:=⟨[r],m,_,OK r,rfl⟩;have i:∀u∈N,look (hb N rs) u=look (hb N rs) r.2.1\/look (hb N rs) u=look (hb N rs) r.2.2.1->gO (rs++[r]) u r.2.1:=λu o z=>by
   rcases z with z|z
   ·exact g (a u o _ q z)
   ·exact(g (a u o _ s z)).trans (p.symm f)
  by_cases px:look (hb N rs) x=look (hb N rs) r.2.1\/look (hb N rs) x=look (hb N rs) r.2.2.1<;>by_cases py:look (hb N rs) y=look (hb N rs) r.2.1\/look (hb N rs) y=look (hb N rs) r.2.2.1
  ·exact(i x hx px).trans ((i y c py).symm f)
  ·unfold jn at h;rw[zk px,zw py]at h;rcases Fi (look (hb N rs) r.2.1) (look (hb N rs) r.2.2.1)with e|e
   ·exact absurd (.inl (h.symm.trans e)) py
   ·exact absurd (.inr (h.symm.trans e)) py
  ·unfold jn at h;rw[zw px,zk py]at h;rcases Fi (look (hb N rs) r.2.1) (look (hb N rs) r.2.2.1)with e|e
   ·exact absurd (.inl (h.trans e)) px
   ·exact absurd (.inr (h.trans e)) px
  ·unfold jn at h;rw[zw px,zw py]at h;exact g (a x hx y c h)
theorem Cu(c:N.Nodup)(b:N.length<1000){rs:Z bT}(a:Rs N rs)(d:∀r∈rs,r.2.1≠r.2.2.1)(hx:x∈N)(e:y∈N):look (hb N rs) x=look (hb N rs) y↔gO rs x y:=
 ⟨Sz c b a d x hx y e,λ⟨_,t⟩=>JR c b a t⟩
theorem Ea:∀(rs:Z bT) (s:(Z (AJ×AJ))×(Z bT)),∃t:Z bT,(rs.foldl hs s).2=s.2++t/\t.Sublist rs
 |[],s=>⟨[],by rw[ZT];rfl,.slnil⟩
 |r::rs,s=>by
  rw[qo];by_cases z:look s.1 r.2.1=look s.1 r.2.2.1
  ·rw[show hs s r=s from zk z];obtain⟨t,e,h⟩:=Ea rs s;exact⟨t,e,h.cons _⟩
  ·rw[show hs s r=(jb s.1 r,s.2++[r]) from zw z];obtain⟨t,e,h⟩:=Ea rs (jb s.1 r,s.2++[r]);exact⟨r::t,by rw[e];simp,h.cons_cons _⟩
theorem jx(N:AZ)(rs:Z bT):(Ap N rs).Sublist rs:=by
 obtain⟨t,e,h⟩:=Ea rs (aQ N,[]);unfold Ap;rw[e];exact h
theorem HM(N:AZ)(c:N.Nodup)(b:N.length<1000){rs:Z bT}:(rs.foldl hs (aQ N,[])).1=hb N rs:=by
 induction rs using BG with
 |h0=>rfl
 |h1 rs r a=>
  rw[KS,yG,<-a];show(hs (rs.foldl hs (aQ N,[])) r).1=_;by_cases z:look (rs.foldl hs (aQ N,[])).1 r.2.1=look (rs.foldl hs (aQ N,[])).1 r.2.2.1
  ·rw[show hs (rs.foldl hs (aQ N,[])) r=_ from zk z];unfold jb;rw[z,Xq]
  ·rw[show hs (rs.foldl hs (aQ N,[])) r=_ from zw z]
theorem M5(a:N.Nodup)(b:N.length<1000)(rs:Z bT)(r:bT):Ap N (rs++[r])=if look (hb N rs) r.2.1=look (hb N rs) r.2.2.1 then Ap N rs else Ap N rs++[r]:=by
 unfold Ap;rw[KS,<-HM N a b];show(hs (rs.foldl hs (aQ N,[])) r).2=_;unfold hs;split<;>rfl
def Fs(N:AZ)(r:bT):Prop:=(r.2.1∈N/\r.2.2.1∈N)/\r.2.1≠r.2.2.1
def Ok(N:AZ)(G:Z bT):Prop:=∀r∈G,Fs N r
structure Nn (N:AZ):Prop where
 nd:N.Nodup
 hl:N.length<64
theorem Nn.l3(n:Nn N):N.length<1000:=by have:=n.hl;omega
theorem Ok.rs{G:Z bT}(h:Ok N G):Rs N G:=λr a=>(h r a).1
theorem Ok.ne{G:Z bT}(h:Ok N G):∀r∈G,r.2.1≠r.2.2.1:=λr a=>(h r a).2
theorem gO.refl(G:Z bT)(x:AJ):gO G x x:=⟨[],rfl⟩
theorem gO.one{G:Z bT}{r:bT}(h:r∈G):gO G r.2.1 r.2.2.1:=⟨[r],h,_,OK r,rfl⟩
theorem oR(n:Nn N){G:Z bT}{o:bT}(h:Ok N (G++[o]))(c:gO G o.2.1 o.2.2.1):Ap N (G++[o])=Ap N G:=by
 have hg:Ok N G:=λz a=>h z (zt _ a);have ho:=h o (by simp);rw[M5 n.nd n.l3,zk ((Cu n.nd n.l3 hg.rs hg.ne ho.1.1 ho.1.2).mpr c)]
theorem qu(n:Nn N){G:Z bT}{o:bT}(h:Ok N (G++[o]))(c:¬ gO G o.2.1 o.2.2.1):Ap N (G++[o])=Ap N G++[o]:=by
 have hg:Ok N G:=λz a=>h z (zt _ a);have ho:=h o (by simp);rw[M5 n.nd n.l3,zw λz=>c ((Cu n.nd n.l3 hg.rs hg.ne ho.1.1 ho.1.2).mp z)]
theorem Cv{l G:Z bT}{a b:AJ}(h:∀z∈l,z∈G\/(z.2.1=a/\z.2.2.1=b)):∀{p:Z bT} {x y:AJ},Tr l x p y->gO G x y\/(gO G x a/\gO G b y)\/(gO G x b/\gO G a y)
 |[],x,y,t=>by cases t;exact .inl (.refl _ _)
 |r::p,x,y,⟨m,t,o,t'⟩=>by
  have e:=Cv h t';rcases h r m with g|⟨e1,e2⟩
  ·have c:gO G x t:=⟨[r],g,t,o,rfl⟩;rcases e with i|i|i
   ·exact .inl (c.trans i)
   ·exact .inr (.inl ⟨c.trans i.1,i.2⟩)
   ·exact .inr (.inr ⟨c.trans i.1,i.2⟩)
  ·rcases qt o with⟨j,d⟩|⟨j,d⟩
   ·have hx:x=a:=j.symm.trans e1;have f:t=b:=d.symm.trans e2;subst hx f;rcases e with i|i|i
    ·exact .inr (.inl ⟨.refl _ _,i⟩)
    ·exact .inr (.inl ⟨.refl _ _,i.2⟩)
    ·exact .inl i.2
   ·have hx:x=b:=j.symm.trans e2;have f:t=a:=d.symm.trans e1;subst hx f;rcases e with i|i|i
    ·exact .inr (.inr ⟨.refl _ _,i⟩)
    ·exact .inl i.2
    ·exact .inr (.inr ⟨.refl _ _,i.2⟩)
theorem GX{d G:Z bT}{a b:AJ}(h:∀z∈d,z∈G\/(z.2.1=a/\z.2.2.1=b))(sub:∀z∈G,z∈d)(e:∀r∈G,r.2.1≠r.2.2.1)(c:gO G a b)(x y:AJ):gO d x y↔gO G x y:=by
 constructor
 ·rintro⟨p,t⟩;rcases Cv h t with i|i|i
  ·exact i
  ·exact i.1.trans (c.trans i.2)
  ·exact i.1.trans ((c.symm e).trans i.2)
 ·exact gO.more sub
theorem Qc{G1 G2:Z bT}(h:∀x y,gO G1 x y->gO G2 x y){Q:Z bT}:∀{p:Z bT} {x y:AJ},Tr (G1++Q) x p y->gO (G2++Q) x y
 |[],x,y,t=>by cases t;exact .refl _ _
 |r::p,x,y,⟨m,t,o,t'⟩=>by
  refine gO.trans ?_ (Qc h t');rcases List.mem_append.mp m with m|m
  ·exact(h x t ⟨[r],m,t,o,rfl⟩).more λz a=>zt _ a
  ·exact⟨[r],Zl _ m,t,o,rfl⟩
theorem M6(n:Nn N){G1 G2:List bT}(h:∀x y,gO G1 x y↔gO G2 x y){Q:List bT}:Ok N (G1++Q)->Ok N (G2++Q)->∃Z,Ap N (G1++Q)=Ap N G1++Z/\Ap N (G2++Q)=Ap N G2++Z:=by
 induction Q using BG with
 |h0=>intro _ _;exact⟨[],by simp,by simp⟩
 |h1 Q o e=>
  intro b a;rw[<-ZI]at b a ⊢;rw[<-ZI];obtain⟨Z,e1,e2⟩:=e (λz d=>b z (zt _ d)) λz d=>a z (zt _ d);by_cases c:gO (G1++Q) o.2.1 o.2.2.1
  ·have c2:gO (G2++Q) o.2.1 o.2.2.1:=by obtain⟨p,t⟩:=c;exact Qc (λx y=>(h x y).mp) t
   exact⟨Z,by rw[oR n b c,e1],by rw[oR n a c2,e2]⟩
  ·have c2:¬ gO (G2++Q) o.2.1 o.2.2.1:=λ⟨p,t⟩=>c (Qc (λx y=>(h x y).mpr) t);exact⟨Z++[o],by rw[qu n b c,e1,ZI],by rw[qu n a c2,e2,ZI]⟩
theorem Cw(n:Nn N){P Q:List bT}{r:bT}(ok:Ok N (P++r::Q))(c:gO P r.2.1 r.2.2.1):Ap N (P++r::Q)=Ap N (P++Q):=by
 have e:P++r::Q=(P++[r])++Q:=by simp
 have okP:Ok N (P++[r]):=λz d=>ok z (by grind);have f:Ok N (P++Q):=λz d=>ok z (by grind);rw[e]at ok ⊢;obtain⟨Z,e1,e2⟩:=M6 n (G1:=P++[r]) (G2:=P) (GX (a:=r.2.1) (b:=r.2.2.1) (λz d=>by
  rcases List.mem_append.mp d with d|d
  ·exact .inl d
  ·cases List.mem_singleton.mp d;exact .inr ⟨rfl,rfl⟩) (λz d=>zt _ d) (λz d=>okP.ne z (zt _ d)) c) ok f
 rw[e1,e2,oR n okP c]
theorem C7(n:Nn N){P:Z bT}{r:bT}(s:¬ gO P r.2.1 r.2.2.1){Q:Z bT}:Ok N (P++r::Q) →
  (¬ gO (P++Q) r.2.1 r.2.2.1/\∃X,Ap N (P++r::Q)=Ap N P++r::X/\Ap N (P++Q)=Ap N P++X) ∨
  (gO (P++Q) r.2.1 r.2.2.1/\∃X o Y,Ap N (P++r::Q)=Ap N P++r::(X++Y)/\Ap N (P++Q)=Ap N P++(X++o::Y)):=by
 induction Q using BG with
 |h0=>
  intro ok;refine .inl ⟨by rw[ZT];exact s,[],?_,?_⟩
  ·exact qu n ok s
  ·rw[ZT,ZT]
 |h1 Q o v=>
  intro ok;have h:Ok N ((P++r::Q)++[o]):=λz d=>ok z (by grind);have f:Ok N ((P++Q)++[o]):=λz d=>ok z (by grind);have m:Ok N (P++r::Q):=λz d=>ok z (by grind);have g:Ok N (P++Q):=λz d=>ok z (by grind);have ad:∀z∈P++r::Q,z∈P++Q\/(z.2.1=r.2.1/\z.2.2.1=r.2.2.1):=λz d=>by grind
  have sub:∀z∈P++Q,z∈P++r::Q:=λz d=>by grind
  have e:∀z∈P++Q,z∈(P++Q)++[o]:=λz d=>zt _ d;have w:o∈(P++Q)++[o]:=by simp
  rw[show P++r::(Q++[o])=(P++r::Q)++[o] by simp,show P++(Q++[o])=(P++Q)++[o] by simp];rcases v m with⟨q,X,e1,e2⟩|⟨l,X,o',Y,e1,e2⟩
  ·by_cases c:gO (P++Q) o.2.1 o.2.2.1
   ·refine .inl ⟨λz=>q ((GX (a:=o.2.1) (b:=o.2.2.1) (λz d=>by grind) e g.ne c _ _).mp z),X,?_,?_⟩
    ·rw[oR n h (c.more sub),e1]
    ·rw[oR n f c,e2]
   ·by_cases j:gO (P++r::Q) o.2.1 o.2.2.1
    ·refine .inr ⟨?_,X,o,[],?_,?_⟩
     ·obtain⟨p,t⟩:=j;have u:gO ((P++Q)++[o]) o.2.1 o.2.2.1:=.one w;rcases Cv ad t with i|i|i
      ·exact absurd i c
      ·exact((i.1.symm g.ne).more e).trans (u.trans ((i.2.symm g.ne).more e))
      ·exact(i.2.more e).trans ((u.symm f.ne).trans (i.1.more e))
     ·rw[oR n h j,e1,ZT]
     ·rw[qu n f c,e2,ZI]
    ·refine .inl ⟨λ⟨p,t⟩=>?_,X++[o],?_,?_⟩
     ·have er:gO (P++r::Q) r.2.1 r.2.2.1:=.one (by simp);rcases Cv (G:=P++Q) (a:=o.2.1) (b:=o.2.2.1) (λz d=>by grind) t with i|i|i
      ·exact q i
      ·exact j (((i.1.symm g.ne).more sub).trans (er.trans ((i.2.symm g.ne).more sub)))
      ·exact j ((i.2.more sub).trans ((er.symm m.ne).trans (i.1.more sub)))
     ·rw[qu n h j,e1];simp
     ·rw[qu n f c,e2,ZI]
  ·have same:=GX ad sub g.ne l;by_cases c:gO (P++Q) o.2.1 o.2.2.1
   ·refine .inr ⟨l.more e,X,o',Y,?_,?_⟩
    ·rw[oR n h ((same _ _).mpr c),e1]
    ·rw[oR n f c,e2]
   ·refine .inr ⟨l.more e,X,o',Y++[o],?_,?_⟩
    ·rw[qu n h (λz=>c ((same _ _).mp z)),e1];simp
    ·rw[qu n f c,e2];simp
theorem i8{z a:bT}(h1:z.2.1=a.2.1)(h2:z.2.2.1=a.2.2.1)(x:AJ):aU z x=aU a x:=by
 unfold aU;rw[h1,h2]
theorem JV{G1 G2:Z bT}(h:∀z∈G1,∃a∈G2,z.2.1=a.2.1/\z.2.2.1=a.2.2.1):∀{p:Z bT} {x y:AJ},Tr G1 x p y->gO G2 x y
 |[],x,y,t=>by cases t;exact .refl _ _
 |r::p,x,y,⟨m,t,o,t'⟩=>by
  obtain⟨z,b,e1,e2⟩:=h r m;exact gO.trans ⟨[z],b,t,by rw[<-i8 e1 e2];exact o,rfl⟩ (JV h t')
theorem Xt(n:Nn N){P1 P2 Q:List bT}{r b:bT}(e1:b.2.1=r.2.1)(e2:b.2.2.1=r.2.2.1)(ok:Ok N (P1++P2++r::Q))(d:¬ gO (P1++P2) r.2.1 r.2.2.1):∃X Z,Ap N (P1++b::(P2++Q))=Ap N P1++b::(X++Z)/\Ap N (P1++P2++r::Q)=Ap N P1++(X++r::Z):=by
 have f:Fs N b:=by
  have:=ok r (by simp);unfold Fs at *
  rw[e1,e2];exact this
 have e:Ok N (P1++b::(P2++Q)):=λz a=>by
  rcases List.mem_append.mp a with a|a
  ·exact ok z (by grind)
  ·rcases List.mem_cons.mp a with rfl|a
   ·exact f
   ·exact ok z (by grind)
 have j:Ok N (P1++b::P2):=λz a=>e z (by grind);have g:Ok N ((P1++P2)++[r]):=λz a=>ok z (by grind);have i:¬ gO P1 b.2.1 b.2.2.1:=λz=>d (by rw[e1,e2]at z;exact z.more λz a=>zt _ a);rcases C7 n i j with⟨_,X,x1,h⟩|⟨c,_⟩
 ·obtain⟨Z,z1,z2⟩:=M6 n (G1:=P1++b::P2) (G2:=(P1++P2)++[r]) (Q:=Q) (λx y=>⟨λ⟨p,t⟩=>JV (λz a=>by
    rcases List.mem_append.mp a with a|a
    ·exact⟨z,by grind,rfl,rfl⟩
    ·rcases List.mem_cons.mp a with rfl|a
     ·exact⟨r,by simp,e1,e2⟩
     ·exact⟨z,by grind,rfl,rfl⟩) t,λ⟨p,t⟩=>JV (λz a=>by
    rcases List.mem_append.mp a with a|a
    ·exact⟨z,by grind,rfl,rfl⟩
    ·cases List.mem_singleton.mp a;exact⟨b,by simp,e1.symm,e2.symm⟩) t⟩) (λz a=>e z (by grind)) (λz a=>ok z (by grind))
  refine⟨X,Z,?_,?_⟩
  ·rw[show P1++b::(P2++Q)=(P1++b::P2)++Q by simp,z1,x1];simp
  ·rw[show P1++P2++r::Q=((P1++P2)++[r])++Q by simp,z2,qu n g d,h];simp
 ·rw[e1,e2]at c;exact absurd c d
theorem Tp(n:Nn N){rs:Z bT}(a:Rs N rs):(Ap N rs).length+(st N (hb N rs)).length=N.length:=by
 obtain⟨f1,g1,i2⟩:=yH n.nd n.hl rs (aQ N,[]) a (HP n.nd n.l3);have:=i2.len;rw[HM N n.nd n.l3]at this;unfold st;rw[zh];exact this
theorem GZ(n:Nn N){rs:Z bT}(a:Rs N rs):hb N (Ap N rs)=hb N rs:=by
 obtain⟨f1,g1,i2⟩:=yH n.nd n.hl rs (aQ N,[]) a (HP n.nd n.l3);have:=i2.e2;rw[HM N n.nd n.l3]at this;exact this.symm
theorem Tq(n:Nn N){rs:Z bT}(ok:Ok N rs)(hx:x∈N)(a:y∈N):gO (Ap N rs) x y↔gO rs x y:=by
 have b:Ok N (Ap N rs):=λr c=>ok r ((jx N rs).subset c);rw[<-Cu n.nd n.l3 b.rs b.ne hx a,<-Cu n.nd n.l3 ok.rs ok.ne hx a,GZ n ok.rs]
def D8(xs:Z Int)(a:AJ)(at_:Int)(k:Int):AJ:=if(decide (((at' xs 3)%3)=1))=true then(Txt.mul (ch LT (k / (8:Int))) (1+(k%8)))else(((Txt.slice a Y (U at_))++(ch LT ((k+(at' xs 2))%15)))++(Txt.slice a (U at_) Y))
theorem zV{α β:Type}(g:β->α):∀(l:Z β) (f:Z α),l.foldl (λf k=>f++[g k]) f=f++l.map g
 |[],f=>by simp
 |k::l,f=>by rw[qo,zV g l];simp
theorem O'(xs:Z Int)(a:Int):∃b at_,cL xs a=(rng 0 a.toNat).map (D8 xs b at_):=by
 refine⟨_,_,(zV (D8 xs _ _) _ []).trans (Kn _)⟩
theorem V0{a b m c:AJ}(h:(a++m)++b=(a++c)++b):m=c:=by
 have h:=congrArg (λs:AJ=>s.cps.toList) h;have h:((a.cps++m.cps)++b.cps).toList=((a.cps++c.cps)++b.cps).toList:=h;simp only[Array.toList_append]at h;have:=List.append_cancel_left (List.append_cancel_right h);cases m;cases c;congr 1;exact Array.ext' this
theorem YA:∀i:Fin 30,∀j:Fin 30,Txt.mul (ch LT ((i.val:Int) / 8)) (1+(i.val:Int)%8)=Txt.mul (ch LT ((j.val:Int) / 8)) (1+(j.val:Int)%8)->i=j:=by decide +kernel
theorem TL:∀i:Fin 15,∀j:Fin 15,ch LT (i.val:Int)=ch LT (j.val:Int)->i=j:=by decide +kernel
theorem SG{x y:Int}(hx:0<=x/\x<15)(a:0<=y/\y<15)(h:ch LT x=ch LT y):x=y:=by
 have:=TL ⟨x.toNat,by omega⟩ ⟨y.toNat,by omega⟩ (by
  show ch LT ((x.toNat:Nat):Int)=ch LT ((y.toNat:Nat):Int);rw[Int.toNat_of_nonneg hx.1,Int.toNat_of_nonneg a.1];exact h)
 have:=congrArg Fin.val this;have:x.toNat=y.toNat:=this;omega
theorem XE{xs:Z Int}{a:AJ}{at_:Int}(hi:i<15)(b:j<15)(h:D8 xs a at_ i=D8 xs a at_ j):i=j:=by
 unfold D8 at h;by_cases e:(decide (((at' xs 3)%3)=1))=true
 ·rw[zk e,zk e]at h;exact congrArg Fin.val (YA ⟨i,by omega⟩ ⟨j,by omega⟩ h)
 ·rw[zw e,zw e]at h;have:=SG (iY _ (by decide)) (iY _ (by decide)) (V0 h);omega
theorem NC{g:Int->AJ}(h:∀i j:Nat,i<n->j<n->g i=g j->i=j):((rng 0 n).map g).Nodup:=by
 unfold rng;rw[qB];unfold List.Nodup;rw[ka];refine j0 ?_ (ye (n:=n));intro a b ha hb c e;refine c (h a b (List.mem_range.mp ha) (List.mem_range.mp hb) ?_);have e:g (0+(a:Int))=g (0+(b:Int)):=e;rwa [Int.zero_add,Int.zero_add]at e
theorem g9(xs:Z Int)(a:Int)(h:a<=15):(cL xs a).Nodup:=by
 obtain⟨c,at_,e⟩:=O' xs a;rw[e];exact NC λi j hi b=>XE (by omega) (by omega)
def Lw(c:Nat):Prop:=97<=c/\c<=122
def Nm(s:AJ):Prop:=1<=s.length/\s.length<=8/\∀c∈cs s,Lw c
theorem b5{c:Nat}(h:Lw c):c∈cs LT:=by
 have:∀i:Fin 26,97+i.val∈cs LT:=by decide +kernel
 have:=this ⟨c-97,by unfold Lw at h;omega⟩;unfold Lw at h;rwa [show 97+(c-97)=c by omega]at this
theorem Qd{s:AJ}(h:Nm s):dX (.str s)=true:=by
 unfold dX jT;rw[show qJ (.str s)=true from rfl,show Ov (.str s)=(s.length:Int) from rfl,Zs (show(1:Int)<=s.length by have:=h.1;omega),Zs (show(s.length:Int)<=8 by have:=h.2.1;omega)];show List.all _ id=true;rw[qh];intro b hb;obtain⟨d,hd,rfl⟩:=List.mem_map.mp hb;obtain⟨c,a,rfl⟩:=List.mem_map.mp (show d∈P1.BI s from hd);exact Y6 (b5 (h.2.2 c a))
theorem YO(c:Nat)(n:Int)(h:1<=n):cs (Txt.mul ⟨#[c]⟩ n)=List.replicate n.toNat c:=by
 unfold Txt.mul;split
 ·omega
 split
 ·rename_i h;simp only[Bool.or_eq_true,beq_iff_eq]at h;rcases h with h|h
  ·subst h;rfl
  ·cases h
 ·have:∀(k:Nat) (a:Array Nat),((List.replicate k (#[c]:Array Nat)).foldl (·++·) a).toList=a.toList++List.replicate k c:=by
   intro k
   induction k with
   |zero=>intro a;simp
   |succ k b=>
    intro a;rw[Kt,qo,b,Array.toList_append,Kt];simp
  exact(this _ _).trans (by simp)
theorem HZ{i:Int}(h:0<=i/\i<26):ch LT i=⟨#[97+i.toNat]⟩:=by
 have:∀i:Fin 26,ch LT (i.val:Int)=⟨#[97+i.val]⟩:=by decide +kernel
 have:=this ⟨i.toNat,by omega⟩;rwa [show((⟨i.toNat,by omega⟩:Fin 26).val:Int)=i by show(i.toNat:Int)=i;omega]at this
theorem eJ{i n:Int}(h:0<=i/\i<26)(h1:1<=n)(b:n<=8):Nm (Txt.mul (ch LT i) n):=by
 have e:=YO (97+i.toNat) n h1;rw[<-HZ h]at e;refine⟨?_,?_,λc a=>?_⟩
 ·rw[Jd,e,List.length_replicate];omega
 ·rw[Jd,e,List.length_replicate];omega
 ·rw[e]at a;rw[(List.mem_replicate.mp a).2];unfold Lw;omega
theorem f6{l:AZ}{c:Nat}(h:c∈cs (Txt.join "" l)):∃q∈l,c∈cs q:=by
 cases l with
 |nil=>cases h
 |cons p ps=>
  rw[gE]at h;rcases List.mem_append.mp h with h|h
  ·exact⟨p,zg ..,h⟩
  ·obtain⟨q,a,h⟩:=List.mem_flatMap.mp h;exact⟨q,zi _ a,h⟩
theorem Zh(xs:Z Int)(e:Int):∃(b:AJ) (at_:Int),(∀c∈cs b,Lw c)/\b.length<=5/\0<=at_/\at_<=(b.length:Int)/\cL xs e=(rng 0 e.toNat).map (D8 xs b at_):=by
 have g:=iY (at' xs 0) (m:=6) (by decide);have mem:∀x∈((rng 0 (at' xs 0%6).toNat).map λa:Int=>ch LT (at' xs a / 40%26)),x.length=1/\∀c∈cs x,Lw c:=λx hx=>by
  obtain⟨k,_,rfl⟩:=List.mem_map.mp hx;refine⟨Jc _ _,λc d=>?_⟩;rw[HZ (iY _ (by decide))]at d;cases List.mem_singleton.mp d;have:=iY (at' xs k / 40) (m:=26) (by decide);unfold Lw;omega
 refine⟨Txt.join "" ((rng 0 (at' xs 0%6).toNat).map λa:Int=>ch LT (at' xs a / 40%26)),at' xs 1%(((Txt.join "" ((rng 0 (at' xs 0%6).toNat).map λa:Int=>ch LT (at' xs a / 40%26))).length:Int)+1),λc d=>?_,?_,?_,?_,(zV (D8 xs _ _) _ []).trans (Kn _)⟩
 ·obtain⟨q,f,h⟩:=f6 d;exact(mem q f).2 c h
 ·have:=Na _ 1 λx hx=>Nat.le_of_eq (mem x hx).1;rw[zh,Bq]at this;omega
 ·exact(iY _ (by omega)).1
 ·have:=(iY (at' xs 1) (m:=((Txt.join "" ((rng 0 (at' xs 0%6).toNat).map λa:Int=>ch LT (at' xs a / 40%26))).length:Int)+1) (by omega)).2;omega
theorem WG{xs:Z Int}{a:AJ}{at_:Int}(h1:∀c∈cs a,Lw c)(h2:a.length<=5)(h:0<=at_)(j:at_<=(a.length:Int)){k:Int}(l:0<=k/\k<15):Nm (D8 xs a at_ k):=by
 unfold D8;split
 ·exact eJ (by omega) (by omega) (by omega)
 ·have f:=VI (x:=a) (n:=at_.toNat) (by omega);have d:=al (x:=a) (n:=at_.toNat) (by omega);rw[Int.toNat_of_nonneg h]at f d;have c1:=HZ (i:=(k+at' xs 2)%15) (by have:=iY (k+at' xs 2) (m:=15) (by decide);omega);have m:=iY (k+at' xs 2) (m:=15) (by decide);have e:cs ((Txt.slice a Y (U at_)++ch LT ((k+at' xs 2)%15))++Txt.slice a (U at_) Y)=((cs a).take at_.toNat++[97+((k+at' xs 2)%15).toNat])++(cs a).drop at_.toNat:=by
   rw[O5,O5,f,d,c1]
  have g:((Txt.slice a Y (U at_)++ch LT ((k+at' xs 2)%15))++Txt.slice a (U at_) Y).length=a.length+1:=by
   rw[Jd,e,zI,zI,kF,k9,<-Jd];show _+1+_=_;omega
  refine⟨by rw[g];omega,by rw[g];omega,λc b=>?_⟩;rw[e]at b;rcases List.mem_append.mp b with b|b
  ·rcases List.mem_append.mp b with b|b
   ·exact h1 c (List.mem_of_mem_take b)
   ·cases List.mem_singleton.mp b;unfold Lw;omega
  ·exact h1 c (List.mem_of_mem_drop b)
theorem XO(xs:Z Int)(a:Int)(h:a<=15):∀n∈cL xs a,Nm n:=by
 obtain⟨g,at_,h1,h2,c,b,e⟩:=Zh xs a;rw[e];intro n f;obtain⟨k,d,rfl⟩:=List.mem_map.mp f;obtain⟨j,i,rfl⟩:=O4 d;exact WG h1 h2 c b (by omega)
theorem Qe{a b:Int}(ha:0<=a/\a<n)(hb:0<=b/\b<n):In n (if b<a then b else a):=by split<;>exact BF (by omega) (by omega)
theorem Qf{a b:Int}(ha:0<=a/\a<n)(hb:0<=b/\b<n):In n (if b>a then b else a):=by split<;>exact BF (by omega) (by omega)
theorem Xw{a:Int}(b:n=a.toNat){x y:Int}(h:(!decide (x%(if a>1 then a else 1)=y%(if a>1 then a else 1)))=true):(0<=x%(if a>1 then a else 1)/\x%(if a>1 then a else 1)<n)/\(0<=y%(if a>1 then a else 1)/\y%(if a>1 then a else 1)<n):=by
 by_cases e:a>1
 ·rw[zk e]at h ⊢;have h1:=iY x (m:=a) (by omega);have h2:=iY y (m:=a) (by omega);omega
 ·rw[zw e]at h;simp at h
theorem Tt{a:Int}:0<(if a>1 then a else 1):=by split<;>omega
def RT(r:bT):Prop:=((-1000:Int)<=r.1/\r.1 ≤ -1)/\Dv r.2.1 r.2.2.1=true/\0<=r.2.2.2
theorem Pt(c:n_.Pairwise λa b=>Dv a b=true){i j:Int}(h0:0<=i)(h1:i<j)(h2:j<n_.length):Dv (at' n_ i) (at' n_ j)=true:=by
 obtain⟨a,rfl⟩:∃a:Nat,i=(a:Int):=⟨i.toNat,by omega⟩;obtain⟨b,rfl⟩:∃b:Nat,j=(b:Int):=⟨j.toNat,by omega⟩;rw[O1 n_ a (by omega),O1 n_ b (by omega)];exact List.pairwise_iff_getElem.mp c a b (by omega) (by omega) (by omega)
theorem Zi(e:Z Int)(at_ d:Int)(C:0<=at_)(a1:at_<=500)(g:Z Int)(v:6<=g.length)(n_:AZ)(t:n_.length=d.toNat)(k:Nat)(B:k<60)(f:Z bT)(s:n_.Pairwise λa b=>Dv a b=true)(h:f.length<=k/\Rs n_ f/\∀r∈f,RT r):
  iI e at_ d g n_ f k/\(c7 e at_ d g n_ f k).length<=k+1/\Rs n_ (c7 e at_ d g n_ f k)/\∀r∈c7 e at_ d g n_ f k,RT r:=by
 obtain⟨q,p,D⟩:=PX (bG e ((at_+1)+k)) 4 (by decide) (by decide);have p:(bC (bG e ((at_+1)+k)) 4).length=4:=p;unfold iI c7;dsimp only;generalize bC (bG e ((at_+1)+k)) 4=xs at *
 have n:=λx y=>Xw (x:=x) (y:=y) t;have o:=@Tt d;generalize (if d>1 then d else 1)=mm at *
 have j:∀i:Nat,i<4->In xs.length (i:Int):=λi hi=>Jb (by omega);refine⟨⟨⟨PN _ _ (by omega) (by omega),q⟩,⟨⟨j 0 (by decide),o⟩,j 1 (by decide),o⟩,⟨⟨⟨j 2 (by decide),j 2 (by decide),j 2 (by decide)⟩,BF (by decide) (by omega)⟩,xK (by decide) (Int.le_refl 3)⟩,λl=>?_⟩,?_⟩
 ·have:=n _ _ l;exact⟨⟨Qe this.1 this.2,Qf this.1 this.2,j 3 (by decide),xK (by decide) (by decide)⟩,vV (by omega)⟩
 ·split
  ·rename_i l;have:=n _ _ l;refine⟨by rw[zI];show _+1<=_;omega,λr c=>?_,λr c=>?_⟩
   ·rcases List.mem_append.mp c with c|c
    ·exact h.2.1 r c
    ·cases List.mem_singleton.mp c;exact⟨tO (Qe this.1 this.2),tO (Qf this.1 this.2)⟩
   ·rcases List.mem_append.mp c with c|c
    ·exact h.2.2 r c
    ·cases List.mem_singleton.mp c;have w:=tO (xs:=[1+at' xs 2%3,1+at' xs 2%9,1+at' xs 2%1000]) (i:=at' g 4%3) (xK (by decide) (Int.le_refl 3));have u:=tO (xs:=[(0:Int),(2:Int),(10:Int)]) (i:=at' xs 3%3) (xK (by decide) (Int.le_refl 3));have z:=iY (at' xs 2) (m:=3) (by decide);have A:=iY (at' xs 2) (m:=9) (by decide);have bk:=iY (at' xs 2) (m:=1000) (by decide);simp only[QY,JE,or_false]at w u;have l:at' xs 0%mm≠at' xs 1%mm:=by simpa using l
     refine⟨?_,?_,?_⟩
     ·show _<=0 - _/\(0:Int) - _<=_;omega
     ·show Dv (at' n_ _) (at' n_ _)=true;split<;>split<;>first|exact Pt s (by omega) (by omega) (by omega)|(exfalso;omega)
     ·show 0<=at' _ _;omega
  ·exact⟨by omega,h.2⟩
theorem Zj(c:Z Int)(at_ a:Int)(s:0<=at_)(a1:at_<=500)(n_:AZ)(o:n_.length=a.toNat)(k:Nat)(q:k<60)(e:Z (AJ×AJ×Int))(h:e.length<=k/\∀b∈e,b.1∈n_/\b.2.1∈n_):
  iJ c at_ a n_ e k/\(dH c at_ a n_ e k).length<=k+1/\∀b∈dH c at_ a n_ e k,b.1∈n_/\b.2.1∈n_:=by
 obtain⟨n,l,p⟩:=PX (bG c ((at_+1)+k)) 8 (by decide) (by decide);have l:(bC (bG c ((at_+1)+k)) 8).length=8:=l;unfold iJ dH;dsimp only;generalize bC (bG c ((at_+1)+k)) 8=xs at *
 have j:=λx y=>Xw (x:=x) (y:=y) o;have m:=@Tt a;generalize (if a>1 then a else 1)=mm at *
 have f:∀i:Nat,i<8->In xs.length (i:Int):=λi hi=>Jb (by omega);refine⟨⟨⟨PN _ _ (by omega) (by omega),n⟩,⟨⟨f 5 (by decide),m⟩,f 6 (by decide),m⟩,λg=>?_⟩,?_⟩
 ·have:=j _ _ g;exact⟨⟨Qe this.1 this.2,Qf this.1 this.2,f 7 (by decide),xK (by decide) (by decide)⟩,vV (by omega)⟩
 ·split
  ·rename_i g;have:=j _ _ g;refine⟨by rw[zI];show _+1<=_;omega,λr d=>?_⟩;rcases List.mem_append.mp d with d|d
   ·exact h.2 r d
   ·cases List.mem_singleton.mp d;exact⟨tO (Qe this.1 this.2),tO (Qf this.1 this.2)⟩
  ·exact⟨by omega,h.2⟩
structure Gr (g:AZ×(List bT)×(List (Str×Str×Int))):Prop where
 nd:g.1.Nodup
 len:g.1.length<=9
 rs:Rs g.1 g.2.1
 rl:g.2.1.length<=12
 so:g.1.Pairwise uO
 nm:∀n∈g.1,Nm n
 va:∀r∈g.2.1,(1<=r.1/\r.1<=1000)/\Dv r.2.1 r.2.2.1=true/\0<=r.2.2.2
 os:So g.2.1
 rd:g.2.1.Nodup
theorem Rs.turn{rs:Z bT}(h:Rs n_ rs):Rs n_ (rs.map λa:(Int×AJ×AJ×Int)=>(((0:Int)-a.1),a.2.1,a.2.2.1,a.2.2.2)):=λr c=>by
 obtain⟨q,b,rfl⟩:=List.mem_map.mp c;exact h q b
theorem PC{rs:Z bT}(h:∀r∈rs,RT r):∀r∈(rs.map λa:(Int×AJ×AJ×Int)=>(((0:Int)-a.1),a.2.1,a.2.2.1,a.2.2.2)),(1<=r.1/\r.1<=1000)/\Dv r.2.1 r.2.2.1=true/\0<=r.2.2.2:=λr d=>by
 obtain⟨q,b,rfl⟩:=List.mem_map.mp d;obtain⟨f,c,e⟩:=h q b;exact⟨⟨show(1:Int)<=0-q.1 by omega,show(0:Int)-q.1<=1000 by omega⟩,c,e⟩
theorem Zk(g:Z Int)(at_ c i j:Int)(p:0<=at_)(a1:at_<=500)(B:0<=c)(J:c<=9)(A:0<=i)(L:i<=12)(b0:0<=j)(b1:j<60):ql g at_ c i j/\Gr (jO g at_ c i j):=by
 obtain⟨C,q,N⟩:=PX (bG g at_) 6 (by decide) (by decide);have q:(bC (bG g at_) 6).length=6:=q;have F:∀d:Z Int,6<=d.length->pC g at_ c i j d/\Gr (pB g at_ c i j d):=λd u=>by
  obtain⟨H,w,M⟩:=cm d u c B (by omega);have knd:=g9 d c (by omega);have o:(qM (cL d c)).length=c.toNat:=by rw[(jf _).length_eq,w]
  have m:(qM (cL d c)).Nodup:=(jf _).nodup_iff.mpr knd;have D:∀n_:AZ,n_.length=c.toNat->n_.Nodup->n_.Pairwise uO->(∀n∈n_,Nm n)->pA g at_ c i j d n_/\Gr (o9 g at_ c i j d n_):=λn_ o m v nm=>by
   have x:n_.Pairwise λa b=>Dv a b=true:=(v.and m).imp λh=>(C5 _ _).mpr h;obtain⟨t1,t2,t3⟩:=Br (P:=λf k=>U (iI g at_ c d n_ f k)) (step:=λf k=>c7 g at_ c d n_ f k) (λk s=>s.length<=k/\Rs n_ s/\∀r∈s,RT r) i.toNat [] ⟨zo 0,λr h=>(by cases h),λr h=>(by cases h)⟩ λk s z h=>Zi g at_ c p a1 d u n_ o k (by omega) s x h;obtain⟨G,y,K⟩:=Br (P:=λf k=>U (iJ g at_ c n_ f k)) (step:=λf k=>dH g at_ c n_ f k) (λk s=>s.length<=k/\∀b∈s,b.1∈n_/\b.2.1∈n_) j.toNat [] ⟨zo 0,λr h=>(by cases h)⟩ λk s z h=>Zj g at_ c p a1 n_ o k (by omega) s h;have sl:=Nat.lt_of_le_of_lt y (show j.toNat<64 by omega);have E:∀l:Z bT,l.length<=i.toNat->(Rs n_ l/\∀r∈l,RT r)->o8 g at_ c i j d n_ l/\Gr (o7 g at_ c i j d n_ l):=λl tl ⟨tr,tv⟩=>by
    have I:=Bg l;have sp:=(jh (e:=Il eI eS eS eI) (yJ l)).length_eq;refine⟨⟨⟨⟨by omega,by omega⟩,by rw[sp];omega⟩,⟨Mv b0 (by omega),G⟩,jS sl,sl⟩,m,?_,?_,?_,v,nm,PC λr t=>tv r (pP.mp ((jh _).mem_iff.mp t)),?_,?_⟩
    ·show n_.length<=9;omega
    ·exact Rs.turn λr t=>tr r (pP.mp ((jh _).mem_iff.mp t))
    ·show(List.map _ _).length<=12;rw[zh,sp];omega
    ·unfold So;show(List.map tn (List.map tn (oG (Il eI eS eS eI) (yJ l)))).Pairwise _;rw[JT];exact uW _
    ·show(List.map tn (oG (Il eI eS eS eI) (yJ l))).Nodup;unfold List.Nodup;rw[ka];exact List.Pairwise.imp (λ{a b} h e=>h (by rw[<-Tj a,e,Tj])) ((jh _).nodup_iff.mpr (zF l))
   have:=E _ t2 t3;exact⟨⟨⟨Mv A (by omega),t1⟩,this.1⟩,this.2⟩
  have mem:∀n,n∈qM (cL d c)->n∈cL d c:=λn h=>(jf _).mem_iff.mp h;have:=D _ o m (zy _) λn h=>XO d c (by omega) n (mem n h);exact⟨⟨⟨H,by rw[w];omega⟩,this.1⟩,this.2⟩
 have:=F _ (Nat.le_of_eq q.symm);exact⟨⟨⟨PN _ _ p (by omega),C⟩,this.1⟩,this.2⟩
theorem Zm(d:Dt)(a:AJ)(n:Int)(h:n<=1000):lZ d a n:=by
 unfold lZ;intro hs;obtain⟨x,rfl⟩:=Mw hs;refine⟨⟨rfl,λ_=>S⟩,λb=>⟨⟨rfl,?_⟩,λs h=>a7 h⟩⟩;rw[di];have h2:(x.length:Int)<=n:=QN ((ZY _ _).mp b).2;omega
theorem Tv{a:AJ}{n:Int}(h:jT d a n=true):qJ d=true:=by
 unfold jT at h;rw[ZY]at h;exact h.1
theorem V1(d:Dt):qz d:=Zm d _ 8 (by decide)
theorem ay(h:dX d=true):qJ d=true:=Tv h
theorem Xx(h:dX d=true):d=eS (RG d):=by obtain⟨x,rfl⟩:=Mw (ay h);rfl
theorem Eb(h:jr d=true):d=eI (Zz d):=by
 cases d with
 |int i=>rfl
 |_=>cases h
theorem eC(d:Dt):tu d:=λh=>⟨Eb h,λ_=>Eb h⟩
theorem Xy(h:B4 d=true):∃ds,d=.tup ds/\Ov d=ds.length:=by
 obtain⟨ds,rfl⟩:=Et h;exact⟨ds,rfl,rfl⟩
theorem ce(h:fX d 3=true):∃a b c,d=.tup [a,b,c]:=by
 unfold fX at h;rw[ZY,ZE]at h;obtain⟨ds,rfl,e⟩:=Xy h.1;rw[e]at h;have h:=h.2
 match ds,h with
 |[a,b,c],_=>exact⟨a,b,c,rfl⟩
theorem Po(h:fX d 4=true):∃a b c x,d=.tup [a,b,c,x]:=by
 unfold fX at h;rw[ZY,ZE]at h;obtain⟨ds,rfl,e⟩:=Xy h.1;rw[e]at h;have h:=h.2
 match ds,h with
 |[a,b,c,x],_=>exact⟨a,b,c,x,rfl⟩
theorem Xz(d:Dt)(n:Int):q8 d n:=λh=>XB h
theorem e6{b:Bool}(h:(!b)=false):b=true:=by cases b<;>first|rfl|cases h
def B3(a b c:Dt):Bool:=dX a&&(dX b&&(Dv (RG a) (RG b)&&(jr c&&decide ((0:Int)<=Zz c))))
theorem OV(d:Dt):Cj d:=by
 refine⟨Xz d 3,λh=>?_⟩;obtain⟨a,b,c,rfl⟩:=ce (e6 h);exact⟨rfl,V1 a,λh1=>⟨V1 b,λh2=>⟨⟨Xx h1,Xx h2⟩,λ_ e=>Eb e⟩⟩⟩
def R4(x a b c:Dt):Bool:=oM x&&B3 a b c
theorem TU(d:Dt):tB d:=by
 refine⟨Xz d 4,λh=>?_⟩;obtain⟨x,a,b,c,rfl⟩:=Po h;exact⟨⟨BF (by decide) (by simp),eC _⟩,λ_=>⟨rfl,OV _⟩⟩
theorem ag{r:bT}(h:(1<=r.1/\r.1<=1000)/\Dv r.2.1 r.2.2.1=true/\0<=r.2.2.2)(a:Nm r.2.1)(b:Nm r.2.2.1):oN (aG r)=true:=by
 show R4 (.int r.1) (.str r.2.1) (.str r.2.2.1) (.int r.2.2.2)=true;unfold R4 B3;rw[Qd a,Qd b];show((true&&(decide ((1:Int)<=r.1)&&decide (r.1<=1000)))&&(true&&(true&&(Dv r.2.1 r.2.2.1&&(true&&decide ((0:Int)<=r.2.2.2))))))=true;rw[h.2.1,Zs h.1.1,Zs h.1.2,Zs h.2.2];rfl
structure Gd (N:AZ) (R:List bT):Prop where
 nd:N.Nodup
 len:N.length<64
 rs:Rs N R
 rl:R.length<60
 nm:∀n∈N,Nm n
 va:∀r∈R,(1<=r.1/\r.1<=1000)/\Dv r.2.1 r.2.2.1=true/\0<=r.2.2.2
variable{R:Z bT}
theorem Gd.ne(s:Gd N R):∀r∈R,r.2.1≠r.2.2.1:=λr a=>((C5 _ _).mp (s.va r a).2.1).2
theorem Gd.no(s:Gd N R)(hx:x∈N)(b:Z je):gB (N,R,b) x:=⟨V1 _,λz=>by
 rw[show dX (eS x)=true from Qd (s.nm x hx),show decide (x∈(N,R,b).1)=true from Zs hx]at z;cases z⟩
theorem Gd.pas(s:Gd N R)(b:Z je):rA (N,R,b)/\lu (N,R,b)=st N (hb N R):=by
 have:=s.len;obtain⟨d,e,h⟩:=L5 s.nd (by omega) s.rs;have q:=Xv h;refine⟨⟨d,?_⟩,?_⟩
 ·show mj (iB N R);rw[e];exact q.1
 ·show d9 (iB N R)=_;rw[e];exact q.2
theorem Gd.ho(s:Gd N R)(b:Z je):dF (N,R,b)/\bM (N,R,b)=Ap N R:=by
 obtain⟨h1,h2,-⟩:=Cr s.nd s.len s.rs b;exact⟨h1,h2⟩
theorem Gd.wh(s:Gd N R)(hx:x∈N)(a:y∈N)(b:Z je):qD (N,R,b) x y/\jU (N,R,b) x y=iK (Ap N R) x y:=by
 obtain⟨h1,h2,c,d,-⟩:=Cr s.nd s.len s.rs b;obtain⟨a1,-⟩:=Ic c s.len d (e:=y) hx;refine⟨⟨s.no hx b,s.no a b,h1,by rw[h2];exact a1⟩,?_⟩;unfold jU;rw[h2]
def hg(N:AZ)(R:Z bT)(r:bT):Dt:=if(decide (r.2.2.1∈pt N (hb N (R.filter λy=>!decide (y=r))) r.2.1))=true then Dt.tup [Dt.str "stays"]else Dt.tup [Dt.str "parts",(eT eS) (pt N (hb N (R.filter λy=>!decide (y=r))) r.2.1),(eT eS) (pt N (hb N (R.filter λy=>!decide (y=r))) r.2.2.1)]
theorem Gd.ha(s:Gd N R){r:bT}(h:r∈R)(b:Z je):rz (N,R,b) r/\nC (N,R,b) r=hg N R r:=by
 have ok:=ag (s.va r h) (s.nm _ (s.rs r h).1) (s.nm _ (s.rs r h).2);have f:=s.len;have e:=s.rl;have c:=s.rs r h;have a:Rs N (R.filter λy=>!decide (y=r)):=λz d=>s.rs z (List.mem_filter.mp d).1;have pa:=Xu s.nd (by omega) a c.1;have pb:=Xu s.nd (by omega) a c.2;unfold rz nC hg;dsimp only;rw[Q1];rw[pa.2,pb.2];refine⟨⟨⟨TU _,λz=>?_⟩,by omega,pa.1,λ_=>pb.1⟩,rfl⟩;rw[ok,show cU r (N,R,b).2.1=true from fV.mpr h]at z;cases z
theorem Gd.nn(s:Gd N R):Nn N:=⟨s.nd,s.len⟩
theorem Gd.ok(s:Gd N R):Ok N R:=λr a=>⟨s.rs r a,s.ne r a⟩
theorem Gd.sub(s:Gd N R){a:Z bT}(h:∀r∈a,r∈R)(c:a.length<60):Gd N a:=⟨s.nd,s.len,λr b=>s.rs r (h r b),c,s.nm,λr b=>s.va r (h r b)⟩
theorem M7{P Q:Z bT}{r:bT}(e:(P++r::Q).Nodup):(P++r::Q).filter (λy=>!decide (y=r))=P++Q/\r∉P++Q:=by
 obtain⟨f,d,c⟩:=List.nodup_append.mp e;obtain⟨b,g⟩:=List.nodup_cons.mp d;have h1:∀y∈P,¬ y=r:=λy a z=>c y a r (zg ..) z;have h2:∀y∈Q,¬ y=r:=λy a z=>b (z▸a);refine⟨?_,λz=>?_⟩
 ·rw[jI,ym (by simp),List.filter_eq_self.mpr λy a=>by rw[z5 (h1 y a)];rfl,List.filter_eq_self.mpr λy a=>by rw[z5 (h2 y a)];rfl]
 ·rcases List.mem_append.mp z with z|z
  ·exact h1 r z rfl
  ·exact b z
theorem rE:y∈pt N m x↔y∈N/\look m y=look m x:=by
 unfold pt;rw[jv,ZE]
theorem Go(h:look m x=look m y):pt N m x=pt N m y:=by
 unfold pt;rw[h]
theorem V2(h:Hd N m){p:AZ}:p∈st N m↔∃x∈N,p=pt N m x:=by
 unfold st;rw[kD];constructor
 ·rintro⟨w,a,rfl⟩;exact⟨w,(List.mem_filter.mp a).1,rfl⟩
 ·rintro⟨x,hx,rfl⟩;exact⟨look m x,List.mem_filter.mpr ⟨h.mem x hx,Zs (h.idem x hx)⟩,Go (h.idem x hx)⟩
theorem X1(h:Hd N m):(st N m).Nodup:=by
 unfold st List.Nodup;rw[ka];refine j0 (λ{a b} ha hb z e=>z ?_) (h.nd.filter _);have a1:=List.mem_filter.mp ha;have b1:=List.mem_filter.mp hb;have:a∈pt N m b:=by rw[<-e];exact rE.mpr ⟨a1.1,rfl⟩
 rw[<-QN a1.2,<-QN b1.2];exact(rE.mp this).2
theorem ZB{a:Z (AJ×AJ)}(h:Hd N m)(h':Hd N a)(l:D0 N m)(l':D0 N a)(e:∀x∈N,∀y∈N,(look m x=look m y↔look a x=look a y)):st N m=st N a:=by
 have c:∀x∈N,look m x=look a x:=λx hx=>by
  refine Av ?_ ?_
  ·have k:=h'.mem x hx;have:=(e _ k x hx).mpr (h'.idem x hx);rw[<-this];exact l _ k
  ·have k:=h.mem x hx;have:=(e _ k x hx).mp (h.idem x hx);rw[<-this];exact l' _ k
 unfold st;rw[KU (q:=λw=>decide (look a w=w)) λy b=>by rw[c y b]];refine Qb λw d=>?_;unfold pt;exact KU λy b=>by rw[c y b,c w (List.mem_filter.mp d).1]
theorem Gd.lst(s:Gd N R):D0 N (hb N R):=LP s.nd s.nn.l3 R _ s.rs (F6 s.nd s.nn.l3) (b8 s.nd s.nn.l3)
theorem Gd.hd(s:Gd N R):Hd N (hb N R):=Hd.hb s.nd s.nn.l3 s.rs
theorem Gd.ci(s:Gd N R)(hx:x∈N)(a:y∈N):look (hb N R) x=look (hb N R) y↔gO R x y:=Cu s.nd s.nn.l3 s.rs s.ne hx a
theorem dP{xs ys:Z AZ}(h:xs.Perm ys):jY xs=jY ys:=Mt ((xH xs).trans h) (xJ xs)
theorem Fl{P Q:Z bT}{r:bT}(n:Nn N)(ok:Ok N (P++r::Q))(g:(P++r::Q).Nodup):
  (∀z∈Ap N (P++r::Q),z≠r->z∈Ap N (P++Q)) ∧
  (((r∈Ap N (P++r::Q)/\gO (P++Q) r.2.1 r.2.2.1)/\((Ap N (P++Q)).filter λz=>!cU z (Ap N (P++r::Q))).length=1)\/(¬ (r∈Ap N (P++r::Q)/\gO (P++Q) r.2.1 r.2.2.1)/\((Ap N (P++Q)).filter λz=>!cU z (Ap N (P++r::Q))).length=0)) ∧
  (¬ gO (P++Q) r.2.1 r.2.2.1->(Ap N (P++Q)).length+1=(Ap N (P++r::Q)).length):=by
 have m:=(M7 g).2;have f:r∉Ap N (P++Q):=λz=>m ((jx _ _).subset z);have nil:∀{A H:Z bT},(∀z∈A,z∈H)->A.filter (λz=>!cU z H)=[]:=λ{A H} h=>List.filter_eq_nil_iff.mpr λz a=>by rw[fV.mpr (h z a)];decide
 by_cases b:gO P r.2.1 r.2.2.1
 ·have e:=Cw n ok b;rw[e];refine⟨λz a _=>a,.inr ⟨λz=>f z.1,by rw[nil λz a=>a];rfl⟩,λz=>absurd (b.more λz a=>zt _ a) z⟩
 ·rcases C7 n b ok with⟨i,X,e1,e2⟩|⟨c,X,o,Y,e1,e2⟩
  ·rw[e1,e2];refine⟨λz a u=>by grind,.inr ⟨λz=>i z.2,by rw[nil λz a=>by grind];rfl⟩,λ_=>by simp;omega⟩
  ·have d:(Ap N (P++Q)).Nodup:=by
    have:(P++Q).Nodup:=by
     have:=g.sublist (show(P++Q).Sublist (P++r::Q) from List.Sublist.append (List.Sublist.refl _) (List.sublist_cons_self _ _));exact this
    exact this.sublist (jx _ _)
   have or:o≠r:=λz=>f (by rw[e2,z];simp);rw[e2]at d;obtain⟨y,t,s⟩:=List.nodup_append.mp d;obtain⟨x,l,j⟩:=List.nodup_append.mp t;obtain⟨v,w⟩:=List.nodup_cons.mp l;have p:o∉Ap N P++r::(X++Y):=λz=>by
    rcases List.mem_append.mp z with z|z
    ·exact s o z o (by simp) rfl
    ·rcases List.mem_cons.mp z with z|z
     ·exact or z
     ·rcases List.mem_append.mp z with z|z
      ·exact j o z o (by simp) rfl
      ·exact v z
   rw[e1,e2];refine⟨λz a u=>by grind,.inl ⟨⟨by simp,c⟩,?_⟩,λz=>absurd c z⟩;rw[jI,jI,List.filter_cons_of_pos (by
    cases q:cU o (Ap N P++r::(X++Y))with
    |false=>rfl
    |true=>exact absurd (fV.mp q) p),nil λz a=>by grind,nil λz a=>by grind,nil λz a=>by grind]
   rfl
theorem Qg{P Q:Z bT}{r:bT}(g:Gd N (P++r::Q))(g':Gd N (P++Q)):
  (gO (P++Q) r.2.1 r.2.2.1->st N (hb N (P++Q))=st N (hb N (P++r::Q))) ∧
  (¬ gO (P++Q) r.2.1 r.2.2.1->((st N (hb N (P++Q))).filter λp=>!cU p (st N (hb N (P++r::Q)))).Perm [pt N (hb N (P++Q)) r.2.1,pt N (hb N (P++Q)) r.2.2.1]):=by
 have ad:∀z∈P++r::Q,z∈P++Q\/(z.2.1=r.2.1/\z.2.2.1=r.2.2.1):=λz q=>by grind
 have sub:∀z∈P++Q,z∈P++r::Q:=λz q=>by grind
 obtain⟨d,f⟩:=g.rs r (by simp);constructor
 ·intro c;exact ZB g'.hd g.hd g'.lst g.lst λx hx y j=>by
   rw[g'.ci hx j,g.ci hx j];exact(GX ad sub g'.ne c x y).symm
 ·intro c;have l:r.2.1∉pt N (hb N (P++Q)) r.2.2.1:=λz=>c ((g'.ci d f).mp (rE.mp z).2);have o:[pt N (hb N (P++Q)) r.2.1,pt N (hb N (P++Q)) r.2.2.1].Nodup:=List.nodup_cons.mpr ⟨λz=>by
   have z:=List.mem_singleton.mp z;exact l (by rw[<-z];exact rE.mpr ⟨d,rfl⟩),List.nodup_cons.mpr ⟨λz=>(by cases z),j3⟩⟩
  have n:look (hb N (P++r::Q)) r.2.1=look (hb N (P++r::Q)) r.2.2.1:=(g.ci d f).mpr (.one (by simp));refine GR ((X1 g'.hd).filter _) o λp=>?_;rw[jv,V2 g'.hd];have mn:((!cU p (st N (hb N (P++r::Q))))=true)↔p∉st N (hb N (P++r::Q)):=by
   rw[QA,<-Bool.not_eq_true,fV]
  rw[mn,V2 g.hd,QY,List.mem_singleton];constructor
  ·rintro⟨⟨x,hx,rfl⟩,h⟩;by_cases q1:look (hb N (P++Q)) x=look (hb N (P++Q)) r.2.1
   ·exact .inl (Go q1)
   by_cases q2:look (hb N (P++Q)) x=look (hb N (P++Q)) r.2.2.1
   ·exact .inr (Go q2)
   exfalso;refine h ⟨x,hx,?_⟩;unfold pt;refine KU λy j=>?_;rw[JU,ZE,ZE,g'.ci j hx,g.ci j hx];refine⟨gO.more sub,λ⟨p,t⟩=>?_⟩;rcases Cv ad t with i|i|i
   ·exact i
   ·exact absurd ((g'.ci hx f).mpr (i.2.symm g'.ne)) q2
   ·exact absurd ((g'.ci hx d).mpr (i.2.symm g'.ne)) q1
  ·intro h;have m:∀a b:AJ,a∈N->b∈N->look (hb N (P++r::Q)) a=look (hb N (P++r::Q)) b->b∉pt N (hb N (P++Q)) a->¬ ∃x,x∈N/\pt N (hb N (P++Q)) a=pt N (hb N (P++r::Q)) x:=λa b ha hb' e nb ⟨x,hx,z⟩=>by
    have h1:a∈pt N (hb N (P++r::Q)) x:=by rw[<-z];exact rE.mpr ⟨ha,rfl⟩
    have h2:b∈pt N (hb N (P++r::Q)) x:=rE.mpr ⟨hb',by rw[<-e];exact(rE.mp h1).2⟩;rw[<-z]at h2;exact nb h2
   rcases h with rfl|rfl
   ·exact⟨⟨_,d,rfl⟩,m _ _ d f n λz=>c ((g'.ci d f).mp (rE.mp z).2.symm)⟩
   ·exact⟨⟨_,f,rfl⟩,m _ _ f d n.symm l⟩
theorem IP{P Q:Z bT}{r:bT}(a:(P++r::Q).Nodup)(b:Z je):cY (N,P++r::Q,b) r=(N,P++Q,[]):=by
 unfold cY;rw[Q1];show(N,(P++r::Q).filter (λy=>!decide (y=r)),_)=_;rw[(M7 a).1]
theorem Ix(hx:x∈N):(pt N m x).isEmpty=false:=by
 cases h:pt N m x with
 |nil=>have:x∈pt N m x:=rE.mpr ⟨hx,rfl⟩;rw[h]at this;cases this
 |cons _ _=>rfl
theorem LV(p:AZ):GM (eT eS p)=p:=by
 show(p.map eS).map RG=p;rw[qB];exact(Qb (g:=id) λ_ _=>S).trans (Kj _)
theorem Oy(p q:AZ):(ED (Dt.tup [(Dt.str "parts"),(eT eS p),(eT eS q)]) (Dt.tup [(Dt.str "stays")])/\Cb (Dt.tup [(Dt.str "parts"),(eT eS p),(eT eS q)]) (Dt.tup [(Dt.str "stays")])=false)/\ED (Dt.tup [(Dt.str "stays")]) (Dt.tup [(Dt.str "stays")])/\Cb (Dt.tup [(Dt.str "stays")]) (Dt.tup [(Dt.str "stays")])=true:=by
 refine⟨⟨⟨rfl,?_⟩,rfl⟩,⟨rfl,by decide⟩,rfl⟩;exact ZA (Nat.min_le_right _ _) (by decide)
theorem Zn{b:Z je}(g:Gd N R)(f:R.Nodup)(J:N.Pairwise uO){r:bT}(l:r∈R):fL (N,R,b) r/\dY (N,R,b) r=true:=by
 obtain⟨P,Q,rfl⟩:=JJ l;have F:=g.rl;have a:Gd N (P++Q):=g.sub (λz d=>by grind) (by rw[zI]at *;rw[ZZ]at F;omega);obtain⟨h1,h2⟩:=g.ho b;obtain⟨t,B⟩:=a.ho [];obtain⟨p1,p2⟩:=g.pas b;obtain⟨p3,p4⟩:=a.pas [];obtain⟨A,K⟩:=g.ha l b;obtain⟨f1,f2,E⟩:=Fl g.nn g.ok f;obtain⟨q1,q2⟩:=Qg g a;obtain⟨j,h⟩:=g.rs r l;have b3:=Tp g.nn g.rs;have b0:=Tp g.nn a.rs;have nl:=g.len;have a0:=jx N (P++Q);have G:Rs N (Ap N (P++Q)):=λz d=>a.rs z (a0.subset d);obtain⟨n,PP,X,C⟩:=b6 g.nd g.len G;have lp:lF N (Ap N (P++Q))=st N (hb N (P++Q)):=by
  rw[X,<-VT J (m:=hb N (Ap N (P++Q))) (by rw[GZ g.nn a.rs];exact a.hd) (by rw[GZ g.nn a.rs];exact a.lst) C,GZ g.nn a.rs,(Xv a.hd).2]
 have H:gO (P++Q) r.2.1 r.2.2.1->hg N (P++r::Q) r=Dt.tup [Dt.str "stays"]:=λc=>by
  unfold hg;rw[(M7 f).1,zk];exact Zs (rE.mpr ⟨h,((a.ci j h).mpr c).symm⟩)
 have D:¬ gO (P++Q) r.2.1 r.2.2.1->hg N (P++r::Q) r=Dt.tup [Dt.str "parts",(eT eS) (pt N (hb N (P++Q)) r.2.1),(eT eS) (pt N (hb N (P++Q)) r.2.2.1)]:=λc=>by
  unfold hg;rw[(M7 f).1,zw];intro z;exact c ((a.ci j h).mp (rE.mp (QN z)).2.symm)
 obtain⟨⟨w,I⟩,s,W⟩:=Oy (pt N (hb N (P++Q)) r.2.1) (pt N (hb N (P++Q)) r.2.2.1);have a1:(List.filter (λq:aC=>((!decide (q=r))&&(!cU q (Ap N (P++Q))))) (Ap N (P++r::Q)))=[]:=List.filter_eq_nil_iff.mpr λz d=>by
  by_cases e:z=r
  ·rw[Zs e];simp
  ·rw[fV.mpr (f1 z d e)];simp
 have o:(Ap N (P++r::Q)).length<=100000:=by omega
 have u:(Ap N (P++Q)).length<=100000:=by omega
 have v:iU (N,P++r::Q,b) r:=by show(P++r::Q).length<=100000;omega
 unfold fL dY;dsimp only;rw[IP f];rw[h2,B,p2,p4,K];simp only[Q1];rw[a1,lp];have a5:((!decide (([]:Z aC)=[]))=false):=by rw[Zs rfl];rfl
 have a3:((Ap N (P++Q)).length:Int)=(N.length:Int)-((st N (hb N (P++Q))).length:Int):=by omega
 by_cases c:gO (P++Q) r.2.1 r.2.2.1
 ·rw[H c,W,q1 c];have i:(((Ap N (P++Q)).filter λz=>!cU z (Ap N (P++r::Q))).length:Int)=(if((cU r (Ap N (P++r::Q)))&&true)=true then(1:Int)else 0):=by
   rw[kM];rcases f2 with⟨⟨z1,_⟩,z2⟩|⟨z1,z2⟩
   ·rw[z2,fV.mpr z1];rfl
   ·have:¬ cU r (Ap N (P++r::Q))=true:=λz=>z1 ⟨fV.mp z,c⟩;rw[z2,zw this];rfl
  rw[i,q1 c]at *
  refine⟨⟨⟨h1,v⟩,⟨A,p1,p3⟩,s,λ_ _=>⟨t,u,o,λ_=>⟨λ_=>s,λ_=>n⟩⟩,λz=>(by cases z)⟩,?_⟩;rw[zk rfl];simp[a3]
 ·rw[D c,I];have i:(((Ap N (P++Q)).filter λz=>!cU z (Ap N (P++r::Q))).length:Int)=(if((cU r (Ap N (P++r::Q)))&&false)=true then(1:Int)else 0):=by
   rw[KI];rcases f2 with⟨⟨_,z1⟩,z2⟩|⟨z1,z2⟩
   ·exact absurd z1 c
   ·rw[z2];rfl
  have a2:Vl (Dt.tup (cut (Zy (Dt.tup [Dt.str "parts",(eT eS) (pt N (hb N (P++Q)) r.2.1),(eT eS) (pt N (hb N (P++Q)) r.2.2.1)])) (U 1) Y))=[pt N (hb N (P++Q)) r.2.1,pt N (hb N (P++Q)) r.2.2.1]:=by
   show[GM _,GM _]=_;rw[LV,LV]
  have L:=q2 c;have l3:(st N (hb N (P++Q))).length=(st N (hb N (P++r::Q))).length+1:=by
   have:=E c;omega
  have fl:=List.length_filter_le (λp=>!cU p (st N (hb N (P++r::Q)))) (st N (hb N (P++Q)));rw[a2,i,dP L];refine⟨⟨⟨h1,v⟩,⟨A,p1,p3⟩,w,λz=>(by cases z),λ_=>⟨⟨⟨by omega,by omega,λx hx=>?_⟩,⟨rfl,rfl⟩,by show 2<64;decide,λx hx=>?_⟩,λ_=>⟨t,u,o,λ_=>⟨λ_=>w,λ_=>n⟩⟩⟩⟩,?_⟩
  ·obtain⟨y,M,rfl⟩:=(V2 a.hd).mp (List.mem_filter.mp hx).1;exact Ix M
  ·rcases List.mem_cons.mp hx with rfl|hx
   ·exact Ix j
   ·cases List.mem_singleton.mp hx;exact Ix h
  ·rw[zw (by decide),l3];simp;omega
theorem TB{rs:Z bT}(h:rs.length<64):mC rs:=by
 have sl:(oG aG (rs.map tn)).length=rs.length:=by rw[(jh _).length_eq,zh]
 have F:=OJ (P:=λv x=>U (mz v x)) (step:=λv x=>iZ v x) (λk v=>v.length=k) (oG aG (rs.map tn)) 0 ([]:Z aC) S λk q v e h'=>by
  have a:=(List.getElem?_eq_some_iff.mp e).1;rw[sl]at a;rw[kR]at h' ⊢;refine⟨vV (by omega),?_⟩;show(v++[_]).length=k+1;rw[zI,h'];rfl
 exact⟨⟨by omega,by rw[zh];exact h⟩,F.1⟩
theorem Tw{b c:Z bT}{r:bT}(h:So (b++r::c)):(∀t∈b,TF (Il eI eS eS eI) (tn t) (tn r)=true)/\(∀t∈c,TF (Il eI eS eS eI) (tn r) (tn t)=true):=by
 unfold So at h;rw[ka]at h;obtain⟨h1,h2,d⟩:=List.pairwise_append.mp h;exact⟨λt a=>d t a r (zg ..),λt a=>(List.pairwise_cons.mp h2).1 t a⟩
theorem LD{a b:bT}(h:tn a=tn b):a=b:=by rw[<-Tj a,h,Tj]
theorem LZ{a b c:bT}(h:TF (Il eI eS eS eI) a b=true)(h':TF (Il eI eS eS eI) b c=true):TF (Il eI eS eS eI) a c=true:=S1.uP _ _ _ h h'
theorem RY{r:bT}{w:Int}(h:r.1<=w):TF (Il eI eS eS eI) (tn (w,r.2.1,r.2.2.1,r.2.2.2)) (tn r)=true:=by
 show(!S1.lM [.inl (0-r.1),.inr r.2.1,.inr r.2.2.1,.inl r.2.2.2] [.inl (0-w),.inr r.2.1,.inr r.2.2.1,.inl r.2.2.2])=true;unfold S1.lM;by_cases e:(0:Int)-r.1=0-w
 ·rw[zk (congrArg Sum.inl e),S1.w5];rfl
 ·rw[zw λz=>e (Sum.inl.inj z)];show(!decide ((0:Int)-r.1<0-w))=true;rw[z5 (by omega)];rfl
theorem Pd{r:bT}{w:Int}(h:w<=r.1):TF (Il eI eS eS eI) (tn r) (tn (w,r.2.1,r.2.2.1,r.2.2.2))=true:=by
 show(!S1.lM [.inl (0-w),.inr r.2.1,.inr r.2.2.1,.inl r.2.2.2] [.inl (0-r.1),.inr r.2.1,.inr r.2.2.1,.inl r.2.2.2])=true;unfold S1.lM;by_cases e:(0:Int)-w=0-r.1
 ·rw[zk (congrArg Sum.inl e),S1.w5];rfl
 ·rw[zw λz=>e (Sum.inl.inj z)];show(!decide ((0:Int)-w<0-r.1))=true;rw[z5 (by omega)];rfl
theorem am{b:Z bT}{a:bT}(j:So b)(h:a∉b):∃e f,cM (b++[a])=e++a::f/\e++f=b:=by
 have g:=Qa (b++[a]);have fe:(cM (b++[a])).filter (λy=>!decide (y=a))=b:=UE (λr c=>by rw[z5 (show ¬ r=a from λz=>h (z▸c))];rfl) (λr c=>by rw[List.mem_singleton.mp c,Zs rfl];rfl) j;have i:a∈cM (b++[a]):=g.mem_iff.mpr (by simp);obtain⟨P,Q,d⟩:=JJ i;refine⟨P,Q,d,?_⟩;have q:(P++a::Q).Perm (b++[a]):=d▸g;have q:(a::(P++Q)).Perm (a::b):=(List.perm_middle.symm.trans q).trans (List.perm_append_singleton _ _);have q:=q.cons_inv;have ne:∀r∈P++Q,(!decide (r=a))=true:=λr c=>by
  rw[z5 (show ¬ r=a from λz=>h (q.mem_iff.mp (z▸c)))];rfl
 rw[d,jI,ym (by simp),<-jI,List.filter_eq_self.mpr ne]at fe;exact fe
theorem OE{A B:Z bT}{r:bT}(h:r∉A++B):(A++r::B).filter (λy=>!decide (y=r))=A++B:=by
 have h1:∀y∈A++B,¬ y=r:=λy a z=>h (z▸a);rw[jI,ym (by simp),<-jI];exact List.filter_eq_self.mpr λy a=>by rw[z5 (h1 y a)];rfl
theorem FG{P Q b d:List bT}{r a:bT}(n:Nn N)(ok:Ok N (P++r::Q))(m:(P++r::Q).Nodup)(os:So (P++r::Q))(G:So (b++a::d))(es:b++d=P++Q)(u:a∉P++Q)(e1:a.2.1=r.2.1)(e2:a.2.2.1=r.2.2.1)
  (H:(r∈Ap N (P++r::Q)/\TF (Il eI eS eS eI) (tn a) (tn r)=true)\/(r∉Ap N (P++r::Q)/\TF (Il eI eS eS eI) (tn r) (tn a)=true)):
  (a∈Ap N (b++a::d)↔r∈Ap N (P++r::Q))/\(Ap N (b++a::d)).filter (λz=>!decide (z=a))=(Ap N (P++r::Q)).filter λz=>!decide (z=r):=by
 have g:=(M7 m).2;obtain⟨J,D⟩:=Tw os;obtain⟨A,E⟩:=Tw G;have q:r∈Ap N (P++r::Q)↔¬ gO P r.2.1 r.2.2.1:=by
  constructor
  ·intro h c;rw[Cw n ok c]at h;exact g ((jx _ _).subset h)
  ·intro c;rcases C7 n c ok with⟨_,X,x1,_⟩|⟨_,X,o,Y,x1,_⟩<;>rw[x1]<;>simp
 have x:Ok N (b++a::d):=λz e=>by
  rcases List.mem_append.mp e with e|e
  ·exact ok z (by have:z∈P++Q:=es▸zt _ e;grind)
  ·rcases List.mem_cons.mp e with rfl|e
   ·have:=ok r (by simp);unfold Fs at *
    rw[e1,e2];exact this
   ·exact ok z (by have:z∈P++Q:=es▸Zl _ e;grind)
 rcases H with⟨i,j⟩|⟨i,j⟩
 ·have w:=q.mp i;obtain⟨T,rfl,rfl⟩:∃T,P=b++T/\d=T++Q:=by
   rcases List.append_eq_append_iff.mp es with⟨T,t1,t2⟩|⟨T,t1,t2⟩
   ·exact⟨T,t1,t2⟩
   ·cases T with
    |nil=>exact⟨[],by simpa using t1.symm,by simpa using t2.symm⟩
    |cons t T=>
     exfalso;have h1:=A t (by rw[t1];simp);have h2:=D t (by rw[t2];simp);have:r=t:=LD (IV h2 (LZ h1 j));exact g (by rw[t2,this];simp)
  obtain⟨X,Z,x1,f⟩:=Xt n (P1:=b) (P2:=T) (Q:=Q) e1 e2 ok w;have v:a∉Ap N b++(X++Z):=λz=>by
   have I:=jx N (b++a::(T++Q));have C:(b++a::(T++Q)).Nodup:=by
    have:(a::(b++(T++Q))).Nodup:=List.nodup_cons.mpr ⟨λz=>u (by simpa using z),by
     have:=m.sublist (show((b++T)++Q).Sublist ((b++T)++r::Q) from List.Sublist.append (List.Sublist.refl _) (List.sublist_cons_self _ _));simpa using this⟩
    exact List.perm_middle.nodup_iff.mpr this
   have:=C.sublist I;rw[x1]at this;have:=List.perm_middle.nodup_iff.mp this;exact(List.nodup_cons.mp this).1 z
  have B:r∉(Ap N b++X)++Z:=λz=>by
   have:=m.sublist (jx N ((b++T)++r::Q));rw[f,<-ZI]at this;have:=List.perm_middle.nodup_iff.mp this;exact(List.nodup_cons.mp this).1 z
  refine⟨⟨λ_=>i,λ_=>by rw[x1];simp⟩,?_⟩;rw[x1,f,OE v,<-ZI (Ap N b) X (r::Z),OE B,ZI]
 ·have c:gO P r.2.1 r.2.2.1:=Classical.not_not.mp λz=>i (q.mpr z);obtain⟨T,rfl,rfl⟩:∃T,b=P++T/\Q=T++d:=by
   rcases List.append_eq_append_iff.mp es with⟨T,t1,t2⟩|⟨T,t1,t2⟩
   ·cases T with
    |nil=>exact⟨[],by simpa using t1.symm,by simpa using t2.symm⟩
    |cons t T=>
     exfalso;have h1:=J t (by rw[t1];simp);have h2:=E t (by rw[t2];simp);have:r=t:=LD (IV (LZ j h2) h1);exact g (by rw[t1,this];simp)
   ·exact⟨T,t1,t2⟩
  have c2:gO (P++T) a.2.1 a.2.2.1:=by rw[e1,e2];exact c.more λz e=>zt _ e
  have x1:=Cw n x c2;have f:=Cw n ok c;have F:Ap N ((P++T)++a::d)=Ap N (P++r::(T++d)):=by rw[x1,f,ZI]
  have p:a∉Ap N (P++(T++d)):=λz=>u ((jx _ _).subset z);have s:r∉Ap N (P++(T++d)):=λz=>g ((jx _ _).subset z);rw[F,f];refine⟨⟨λz=>absurd z p,λz=>absurd z s⟩,?_⟩;rw[List.filter_eq_self.mpr λy l=>by rw[z5 (show ¬ y=a from λz=>p (z▸l))];rfl,List.filter_eq_self.mpr λy l=>by rw[z5 (show ¬ y=r from λz=>s (z▸l))];rfl]
theorem G3{r:bT}{H:Z bT}(h:r∉H):cU r H=false:=by
 cases q:cU r H with
 |false=>rfl
 |true=>exact absurd (fV.mp q) h
theorem Zo{b:Z je}(g:Gd N R)(p:R.Nodup)(os:So R){r:bT}(t:r∈R)(x:Int):fP (N,R,b) r x/\fM (N,R,b) r x=true:=by
 obtain⟨P,Q,rfl⟩:=JJ t;have rl:=g.rl;have pl:(P++Q).length+1=(P++r::Q).length:=by simp;omega
 have j:Gd N (P++Q):=g.sub (λz a=>by grind) (by omega);obtain⟨h1,h2⟩:=g.ho b;have va:=g.va r t;obtain⟨W,rb⟩:=g.rs r t;have J:So (P++Q):=by
  have:=os.filter λy=>!decide (y=r);rwa [(M7 p).1]at this
 have a0:∀w:Int,1<=w->w<=1000->((r∈Ap N (P++r::Q)/\r.1<=w)\/(r∉Ap N (P++r::Q)/\w<=r.1))->iV (N,P++r::Q,b) r w/\(bN (N,P++r::Q,b) r w).2.1.length<=64/\(bN (N,P++r::Q,b) r w).1=N ∧
   (((yJ (bN (N,P++r::Q,b) r w).2.1).length:Int)=((P++r::Q).length:Int)->Gd N (bN (N,P++r::Q,b) r w).2.1/\((bN (N,P++r::Q,b) r w).2.2∈Ap N (bN (N,P++r::Q,b) r w).2.1↔r∈Ap N (P++r::Q))/\(Ap N (bN (N,P++r::Q,b) r w).2.1).filter (λz=>!decide (z=(bN (N,P++r::Q,b) r w).2.2))=(Ap N (P++r::Q)).filter λz=>!decide (z=r)):=λw n u s=>by
  unfold iV bN;dsimp only;rw[IP p];dsimp only;have C:=Qa ((P++Q)++[(w,r.2.1,r.2.2.1,r.2.2.2)]);have F:((P++Q)++[(w,r.2.1,r.2.2.1,r.2.2.2)]).length=(P++Q).length+1:=by rw[zI];rfl
  have ml:=C.length_eq;rw[F]at ml;refine⟨⟨⟨by show(P++r::Q).length<=100000;omega,vV (by show(P++Q).length+1<=1000;omega)⟩,TB (by omega)⟩,by omega,rfl,λhd=>?_⟩;have L:=Mx (xs:=cM ((P++Q)++[(w,r.2.1,r.2.2.1,r.2.2.2)])) (by omega);have E:(w,r.2.1,r.2.2.1,r.2.2.2)∉P++Q:=λz=>by
   have:=C.nodup_iff.mp L;exact(List.nodup_append.mp this).2.2 _ z _ (List.mem_singleton.mpr S) rfl
  obtain⟨S1,S2,s1,f⟩:=am J E;have B:=LX ((P++Q)++[(w,r.2.1,r.2.2.1,r.2.2.2)]);rw[s1]at B ml ⊢;refine⟨⟨g.nd,g.len,λz a=>?_,by omega,g.nm,λz a=>?_⟩,FG g.nn g.ok p os B f E S S (s.imp (λz=>⟨z.1,RY z.2⟩) λz=>⟨z.1,Pd z.2⟩)⟩
  ·rcases List.mem_append.mp a with a|a
   ·exact j.rs z (f▸zt _ a)
   ·rcases List.mem_cons.mp a with rfl|a
    ·exact⟨W,rb⟩
    ·exact j.rs z (f▸Zl _ a)
  ·rcases List.mem_append.mp a with a|a
   ·exact j.va z (f▸zt _ a)
   ·rcases List.mem_cons.mp a with rfl|a
    ·exact⟨⟨n,u⟩,va.2⟩
    ·exact j.va z (f▸Zl _ a)
 have hl:(Ap N (P++r::Q)).length<=100000:=by have:=(jx N (P++r::Q)).length_le;omega
 have m1:=iY x (m:=(1001:Int)-r.1) (by omega);have m2:=iY x (m:=r.1) (by omega);unfold fP fM;dsimp only;rw[h2];have A:∀w:Int,1<=w->w<=1000->((r∈Ap N (P++r::Q)/\r.1<=w)\/(r∉Ap N (P++r::Q)/\w<=r.1))->((iV (N,P++r::Q,b) r w)/\(let q1:=(bN (N,P++r::Q,b) r w);((q1.2.1.length<=64/\q1.2.1.length<=64)/\((!decide (((yJ q1.2.1).length:Int)=((P++r::Q).length:Int)))=false->((dF (q1.1,q1.2.1,([]:Z je)))/\(let h:=(bM (q1.1,q1.2.1,([]:Z je)));((!decide ((cU q1.2.2 h)=(cU r (Ap N (P++r::Q)))))=false->(h.length<=100000/\(Ap N (P++r::Q)).length<=100000))))))))/\(let q1:=(bN (N,P++r::Q,b) r w);(if(!decide (((yJ q1.2.1).length:Int)=((P++r::Q).length:Int)))=true then true else(let h:=(bM (q1.1,q1.2.1,([]:Z je)));(if(!decide ((cU q1.2.2 h)=(cU r (Ap N (P++r::Q)))))=true then false else(decide (((h.filter λc:aC=>(!decide (c=q1.2.2))).map λc:aC=>c)=(((Ap N (P++r::Q)).filter λc:aC=>(!decide (c=r))).map λc:aC=>c)))))))=true:=λw n u s=>by
  obtain⟨D,i,o,G⟩:=a0 w n u s;generalize bN (N,P++r::Q,b) r w=q at *
  obtain⟨d,R2,r'⟩:=q;have o:d=N:=o;subst o;dsimp only at *
  by_cases hd:((yJ R2).length:Int)=((P++r::Q).length:Int)
  ·obtain⟨g2,v,I⟩:=G hd;obtain⟨K,X⟩:=g2.ho [];have M:(Ap d R2).length<=100000:=by have:=(jx d R2).length_le;omega
   have H:cU r' (Ap d R2)=cU r (Ap d (P++r::Q)):=by
    by_cases z:r∈Ap d (P++r::Q)
    ·rw[fV.mpr z,fV.mpr (v.mpr z)]
    ·rw[G3 z,G3 λy=>z (v.mp y)]
   rw[X,Q1,Q1,I,H];refine⟨⟨D,⟨i,i⟩,λ_=>⟨K,λ_=>⟨M,hl⟩⟩⟩,?_⟩;simp
  ·have e:(!decide (((yJ R2).length:Int)=((P++r::Q).length:Int)))=true:=by rw[z5 hd];rfl
   rw[e];exact⟨⟨D,⟨i,i⟩,λz=>(by cases z)⟩,rfl⟩
 by_cases l:r∈Ap N (P++r::Q)
 ·have e:=fV.mpr l;have:=A (r.1+x%((1001:Int)-r.1)) (by omega) (by omega) (.inl ⟨l,by omega⟩);rw[e]at this ⊢;refine⟨⟨h1,⟨λ_=>by omega,λz=>(by cases z)⟩,this.1⟩,this.2⟩
 ·have e:=G3 l;have:=A (1+x%r.1) (by omega) (by omega) (.inr ⟨l,by omega⟩);rw[e]at this ⊢;refine⟨⟨h1,⟨λz=>(by cases z),λ_=>by omega⟩,this.1⟩,this.2⟩
theorem i6{b:Z je}(g:Gd N R)(s:R.Nodup){r:bT}(D:r∈R):fD (N,R,b) r/\fB (N,R,b) r=true:=by
 obtain⟨P,Q,rfl⟩:=JJ D;have F:=g.rl;have pl:(P++Q).length+1=(P++r::Q).length:=by simp;omega
 have sub:∀z∈P++Q,z∈P++r::Q:=λz h=>by grind
 have c:Gd N (P++Q):=g.sub sub (by omega);have f1:=(Fl g.nn g.ok s).1;obtain⟨-,-,r1,fo1,-⟩:=Cr g.nd g.len g.rs [];obtain⟨-,-,r2,fo2,-⟩:=Cr c.nd c.len c.rs [];have step:∀x∈N,∀y∈N,eF (N,P++r::Q,b) r (N,P++Q,[]) x () y/\cV (N,P++r::Q,b) r (N,P++Q,[]) x () y=.nx ():=λx hx y a=>by
  obtain⟨d,E⟩:=g.wh hx a b;obtain⟨o,C⟩:=c.wh hx a [];obtain⟨-,a1,a2⟩:=Ic r1 g.len fo1 (e:=y) hx;obtain⟨-,b1,b2⟩:=Ic r2 g.len fo2 (e:=y) hx;unfold eF cV;dsimp only;rw[E,C];cases t:iK (Ap N (P++r::Q)) x y with
  |none=>
   have:iK (Ap N (P++Q)) x y=Y:=by
    cases q:iK (Ap N (P++Q)) x y with
    |none=>rfl
    |some p=>exact(a2 t ((Tq g.nn g.ok hx a).mpr (((Tq g.nn c.ok hx a).mp ⟨p,(b1 p q).1⟩).more sub))).elim
   rw[this];exact⟨⟨d,λz=>(by cases z),λ_ _=>o⟩,rfl⟩
  |some w=>
   obtain⟨t1,t2⟩:=a1 w t;by_cases j:r∈w
   ·have e:cU r ((U w).getD [])=true:=fV.mpr j;rw[e];exact⟨⟨d,λ_=>⟨rfl,λz=>(by cases z)⟩,λ_ z=>(by cases z)⟩,rfl⟩
   ·have t3:Tr (Ap N (P++Q)) x w y:=t1.mono λz h=>f1 z (t1.mem z h) λe=>j (e▸h);have:iK (Ap N (P++Q)) x y=U w:=by
     cases q:iK (Ap N (P++Q)) x y with
     |none=>exact(b2 q ⟨w,t3⟩).elim
     |some p=>rw[uni fo2 (b1 p q).1 t3 (b1 p q).2 t2]
    have e:cU r ((U w).getD [])=false:=G3 j;rw[this,e];refine⟨⟨d,λ_=>⟨rfl,λ_=>o⟩,λ_ z=>(by cases z)⟩,?_⟩;rw[Zs rfl];rfl
 have v:=λx hx=>Bt (step:=λ(f:Unit) (m:AJ)=>((cV (N,P++r::Q,b) r (N,P++Q,[]) x f m):oW (Unit) Bool)) (P:=λ(f:Unit) (m:AJ)=>U (eF (N,P++r::Q,b) r (N,P++Q,[]) x f m)) N λy a=>⟨(step x hx y a).1,.inl (step x hx y a).2⟩;have n:∀x∈N,eG (N,P++r::Q,b) r (N,P++Q,[]) () x/\cW (N,P++r::Q,b) r (N,P++Q,[]) () x=.nx ():=λx hx=>by
  obtain⟨A,B⟩:=v x hx;unfold eG cW;dsimp only;rw[A];exact⟨⟨B,trivial⟩,rfl⟩
 have u:=Bt (step:=λ(l:Unit) (i:AJ)=>((cW (N,P++r::Q,b) r (N,P++Q,[]) l i):oW (Unit) Bool)) (P:=λ(l:Unit) (i:AJ)=>U (eG (N,P++r::Q,b) r (N,P++Q,[]) l i)) N λx hx=>⟨(n x hx).1,.inl (n x hx).2⟩;unfold fD fB;dsimp only;rw[IP s,u.1];exact⟨⟨by show(P++r::Q).length<=100000;omega,u.2,trivial⟩,rfl⟩
theorem NX(c:Z Int)(_:c.length<=63):Ti c/\Tg c=true:=by
 obtain⟨A,s,E⟩:=PX (bG c 0) 12 (by decide) (by decide);have s:(bC (bG c 0) 12).length=12:=s;unfold Ti Tg;dsimp only;generalize bC (bG c 0) 12=xs at *
 have f:∀i:Nat,i<12->In xs.length (i:Int):=λi hi=>Jb (by omega);have x:=iY (at' xs 6) (m:=10) (by decide);have y:=iY (at' xs 7) (m:=13) (by decide);obtain⟨t,a⟩:=Zk c 0 (at' xs 6%10) (at' xs 7%13) 0 (by decide) (by decide) x.1 (by omega) y.1 (by omega) (by decide) (by decide);generalize jO c 0 (at' xs 6%10) (at' xs 7%13) 0=one at *
 obtain⟨N,R,b⟩:=one;have len:N.length<=9:=a.len;have C:R.length<=12:=a.rl;have g:Gd N R:=⟨a.nd,by omega,a.rs,by omega,a.nm,a.va⟩;have n:R.Nodup:=a.rd;have os:So R:=a.os;have w:N.Pairwise uO:=a.so;have st:∀k∈rng 0 (R.length:Int).toNat,xW xs (N,R,b) () k/\rC xs (N,R,b) () k=.nx ():=λk e=>by
  obtain⟨j,o,rfl⟩:=O4 e;have o:j<R.length:=by omega
  have hi:In R.length (j:Int):=Jb o;have q:at' R (j:Int)∈R:=tO hi;obtain⟨d,v⟩:=Zn (b:=b) g n w q;obtain⟨u,B⟩:=Zo (b:=b) g n os q (at' xs 8 / ((j:Int)+1));unfold xW rC;dsimp only;rw[v,B];exact⟨⟨hi,d,λ_=>⟨⟨f 8 (by decide),by omega,by omega⟩,u⟩⟩,rfl⟩
 have L:=Bt (step:=λ(d:Unit) (l:Int)=>((rC xs (N,R,b) d l):oW (Unit) Bool)) (P:=λ(d:Unit) (l:Int)=>U (xW xs (N,R,b) d l)) (rng 0 (R.length:Int).toNat) λk e=>⟨(st k e).1,.inl (st k e).2⟩;dsimp only;rw[L.1];have p:∀h:R≠[],In R.length (at' xs 9%(R.length:Int))/\fD (N,R,b) (at' R (at' xs 9%(R.length:Int)))/\fB (N,R,b) (at' R (at' xs 9%(R.length:Int)))=true:=λh=>by
  have hp:0<R.length:=List.length_pos_iff.mpr h;have hi:In R.length (at' xs 9%(R.length:Int)):=xK (by omega) (Int.le_refl _);exact⟨hi,i6 g n (tO hi)⟩
 refine⟨⟨⟨PN _ _ (by decide) (by decide),A⟩,⟨⟨f 6 (by decide),f 7 (by decide)⟩,t⟩,⟨Mv (by omega) (by omega),L.2⟩,λz=>?_⟩,?_⟩
 ·have h:R≠[]:=of_decide_eq_false z;have hp:0<R.length:=List.length_pos_iff.mpr h;obtain⟨h1,h2,D⟩:=p h;exact⟨⟨⟨f 9 (by decide),by omega⟩,h1⟩,h2⟩
 ·show(if(decide (R=([]:Z aC)))=true then true else _)=true;by_cases h:R=[]
  ·rw[Zs h,zk rfl]
  ·rw[z5 h,zw (by decide)];exact(p h).2.2
theorem H1:∀a:Z Int,a.length<=63->F_law [.z (.lst (a.map .int))]=U (.z (.bl true)):=(LY NX).1
theorem H2:∀a:Z Int,a.length<=63->F_law [.l (a.map .int)]=U (.z (.bl true)):=(LY NX).2
end G67
end
open PySem PySem.W PyProof.Rows
namespace PySem.W.Fast
def tw2451245620646423745:=0
def tw10971147839913794275:=0
def tw12707849498188932003:=0
def tw16869072406093842390:=0
def tw8654843063489228729:=0
def tw2357210096269609728:=0
def tw3912564602697200707:=0
def tw16198400123974784906:=0
def tw17684606746498499018:=0
def tw853229359935729820:=0
def tw9131264032313973004:=0
def tw11239763635817240213:=0
def tw4354187360101601442:=0
def tw10250637665207810071:=0
def tw4530300023948696852:=0
def tw7009797707787215660:=0
def tw1723715872736710106:=0
def tw3557538135589731107:=0
def tw13297418544234371011:=0
def tw11641804896744560316:=0
def tw17957802513484666974:=0
def tw17939843992706320764:=0
def tw5418395916848018044:=0
def tw14023377068660352038:=0
def tw12733263668149793556:=0
def tw8589545795383864192:=0
def tw17233025697648040905:=0
def tw5244298836572219197:=0
def tw4220235566619092027:=0
def tw5570013697195595806:=0
def tw16232952836775418238:=0
def tw2611027511122180510:=0
def tw15765686135245599042:=0
def tw11114897634595074825:=0
def tw280609970870014931:=0
def tw4897478973622235152:=0
def tw16297013814958221040:=0
def tw8724773006572592396:=0
def tw18272164994780461283:=0
def tw6503219543125087068:=0
def tw10227337543256946346:=0
def tw10082004947305944629:=0
def tw15702585949466533492:=0
def tw105649793036313320:=0
def tw10367574574016477429:=0
def tw12513665232411361342:=0
def tw16879024615938055982:=0
def tw6435451386407315412:=0
def tw12651201548564978103:=0
def tw16656898296362739829:=0
def tw4488143033116058091:=0
def tw16565796185129621655:=0
def tw4843966071533228493:=0
def tw17043074268642896201:=0
def tw421524205857909482:=0
def tw8169882298088467133:=0
def tw9540777350571297697:=0
def tw911670051828092609:=0
def tw14480774011987395043:=0
def tw15015687201064661843:=0
def tw16000769898042864850:=0
def tw4795251547608195282:=0
def tw12501891365163769499:=0
def tw15696776913092722370:=0
def tw5929919231020530277:=0
def tw9141323945140183534:=0
def tw924095375241359129:=0
def tw9913920134090251362:=0
def tw4845845553441117624:=0
def tw3233122780047142174:=0
def tw1337813283551065828:=0
def tw6381769759573650818:=0
def tw8940832586979101724:=0
def tw17661761560520676886:=0
def tw9816223994635460666:=0
def tw16789833066111587120:=0
def tw16203938713884694350:=0
def tw11940806973471102861:=0
def tw6635617241599125217:=0
def tw3279754405706921916:=0
def tw15400493536326703379:=0
def tw17651994662173501310:=0
def tw2589521191371768357:=0
def tw5211864899942936877:=0
def tw6427422309864467367:=0
def tw1692320069852897492:=0
def tw1876687276218098965:=0
def tw17417067368562463361:=0
def tw339887041024619288:=0
def tw9489967100251304427:=0
def tw16672678055837997384:=0
def tw16427935040609351525:=0
def tw11684200303024322883:=0
def tw17328023769038964927:=0
def tw15679884900686403347:=0
def tw5808178919395668889:=0
def tw12760968051476127412:=0
def tw13591708579814308316:=0
def tw8547610025852818569:=0
def tw9339046324068734255:=0
def tw635744248637361800:=0
def tw7927982720218036573:=0
def tw11170054044151755575:=0
def tw15034402888412781759:=0
def tw5629269243038874350:=0
def tw4101099495179588531:=0
def tw7346614689650968724:=0
def tw8889910014355514231:=0
def tw12935579163987455235:=0
def tw15475918249967782755:=0
def tw14196251323043701716:=0
def tw9987132520294265469:=0
def tw7411356766298879573:=0
def tw131731848844705906:=0
def tw261121642506922327:=0
def tw1649514936744659786:=0
def tw10916702614353478832:=0
def tw3889707192579644781:=0
def tw8511725097595319824:=0
def tw15070897591467116908:=0
def tw3436941089786465753:=0
def tw11170751285886651975:=0
def tw10065114920925015153:=0
def tw16456027062875956310:=0
def tw7697463114450251761:=0
def tw17190419464600825835:=0
def tw17890476280762126874:=0
def tw9121983630474742150:=0
def tw16044166800699356631:=0
def tw11377404090575033954:=0
def tw9842113897670271504:=0
def tw6695906970865101973:=0
def tw4398124940845567067:=0
def tw4790806358057056422:=0
def tw13952886385266473048:=0
def tw9099601898015387219:=0
def tw7634422843485792633:=0
def tw3191403498685155923:=0
def tw6790688164328621914:=0
def tw15293519490973092711:=0
def tw3619610580375670569:=0
def tw9385230739589769871:=0
def tw16086856228787049219:=0
def tw4626275202216800516:=0
def tw2389330385967017196:=0
def tw7781524740354552141:=0
def tw12959428373278957804:=0
def tw7996298621363170018:=0
def tw7860257698036187551:=0
def tw16995413383077082944:=0
def tw17848883387984099124:=0
def tw15408339383841564535:=0
def tw18120880150592916236:=0
def tw1427942142207821837:=0
def tw13953413422850567824:=0
def tw14420039975126271511:=0
def tw13300569340179710574:=0
def tw4747548984142778018:=0
def tw16155130603235074082:=0
def tw2940832946460877991:=0
def tw9268018978862910933:=0
def tw8746916185036183271:=0
def tw17320072330434958290:=0
def tw9614912327406766189:=0
def tw14311009065736637981:=0
def tw16418617389384021413:=0
def tw17035944758564115661:=0
def tw9973360996441528749:=0
def tw17972445858581871345:=0
def tw13397952350570012550:=0
def tw5957603707962414064:=0
def tw6920483915781401952:=0
def tw18334004878367191012:=0
def tw3347330502772575572:=0
def tw8798633926796662275:=0
def tw5313221181089867881:=0
def tw10739130303839654913:=0
def tw18252633026468949579:=0
def tw5289449487627768337:=0
def tw18110738121472321832:=0
def tw5048725624519678533:=0
def tw16100158904792077393:=0
def tw6476262014565840082:=0
def tw14730223584783963465:=0
def tw16573956403857235409:=0
def tw17105300946929382696:=0
def tw7566544095545791368:=0
def tw16046391946486399208:=0
def tw3989283952657986272:=0
def tw12803946117466841376:=0
end PySem.W.Fast
set_option maxRecDepth 100000 in
set_option maxHeartbeats 0 in
theorem PySem.Challenge.cw_onefolk_k67_whole_reasons_struck_and_put_holds : PySem.Challenge.rw_onefolk_k67_whole_reasons_struck_and_put.Holds := by
 w_on;refine PySem.W.holds_law (by decide +kernel) λsaid=>?_
 k_head;(case hw=>w_witness2)
 k_fill
 refine P1.ET (l:=PySem.Challenge.rw_onefolk_k67_whole_reasons_struck_and_put) (T:=G67.T) (k:=8) (x := "_law_script") (st:=G67.s_law) (F_law:=G67.F_law) (λt=>t.x_law) ⟨rfl,by decide,by decide⟩ rfl (λw mg base t=>G67.EF t) rfl rfl G67.H1 G67.H2 (λ_ _ _ _ _ _ _=>rfl) (λw h Y=>PySem.W.kIn_of Y) ?F
 case F=>
  intro w mg h KX G
  refine' ⟨P1.ji KX G _ _ _ _,P1.ji KX G _ _ _ _,P1.ji KX G _ _ _ _,P1.ji KX G _ _ _ _,P1.ji KX G _ _ _ _,P1.ji KX G _ _ _ _,P1.ji KX G _ _ _ _,P1.ji KX G _ _ _ _,P1.ji KX G _ _ _ _,P1.ji KX G _ _ _ _,P1.ji KX G _ _ _ _,P1.ji KX G _ _ _ _,P1.ji KX G _ _ _ _,P1.ji KX G _ _ _ _,P1.ji KX G _ _ _ _,P1.ji KX G _ _ _ _,P1.ji KX G _ _ _ _,P1.ji KX G _ _ _ _,P1.ji KX G _ _ _ _,P1.ji KX G _ _ _ _,P1.ji KX G _ _ _ _,P1.ji KX G _ _ _ _,P1.ji KX G _ _ _ _,P1.ji KX G _ _ _ _,P1.ji KX G _ _ _ _,P1.ji KX G _ _ _ _,P1.ji KX G _ _ _ _,P1.ji KX G _ _ _ _,P1.ji KX G _ _ _ _,P1.ji KX G _ _ _ _,P1.ji KX G _ _ _ _,P1.ji KX G _ _ _ _,P1.ji KX G _ _ _ _,P1.ji KX G _ _ _ _,P1.ji KX G _ _ _ _,qi KX G _,qi KX G _,qi KX G _,qi KX G _,qi KX G _,qi KX G _,qi KX G _,qi KX G _,qi KX G _,qi KX G _,qi KX G _,qi KX G _,qi KX G _,qi KX G _,P1.Hn KX G _,P1.Hn KX G _,P1.Hn KX G _⟩
  all_goals try (show _=_;k_is)
  all_goals try kernel_rfl
