import PyProof.Rows.All
import Wide.All
import OpenK.AllK
import Wide.FinOn
import PyProof.EqAt
import PyProof.EqKinds
import PyProof.TupleCall
import PyProof.StrLoop
import PyProof.StrWalks
import PyProof.CompFree
import PyProof.NeKinds
import PyProof.Rows.RuleN_isinstance
import PyProof.ConsumeWalk
import PyProof.IsiPairs
import PyProof.IsiSeqPairs
import PyProof.IsiHeapPairs
import PyProof.IsiNone
import PyProof.PureStr
import PyProof.StrCalls
import PyProof.Rows.SortStr
import PyProof.Rows.StrJoin2
import PyProof.CallStr
import PyProof.WalkInts
import PyProof.Rows.StrDigits
import PyProof.DictWalks
import PyProof.DictTruth
import PyProof.CollectWalk
import PyProof.WalkLemmas
import PyProof.Rows.SortShellK
import PyProof.Rows.SortWalk
import PyProof.SetKind
import PyProof.FactsAll.set
import PyProof.Rows.SetFrom
import PyProof.TupleKey
import PyProof.IsRules
import PyProof.WalksMore
import PyProof.SetRoads
import PyProof.DictCompW
import PyProof.ListRange
import PyProof.FString5
import PyProof.MeetsSeq2
import PyProof.FactsAll.tuple_0
import PyProof.FactsAll.tuple_2
import PyProof.FactsAll.tuple_3
import PyProof.EnumFor
import PyProof.EnumMake
import PyProof.EnumStmt
import PyProof.Rows.EnumRows
import PyProof.SumWalk
import PyProof.Rows.SeqCalls
import KE.KRevSl
import PyProof.ZipIter
import PyProof.TupleIter
import PyProof.AttrMiss
import KE.KDictOf
import KE.KDictLaws
import PyProof.TupleOfStr
import PyProof.StrCalls2
import PyProof.Rows.StrNews2
import PyProof.Rows.StrItems
import PyProof.Rows.StrSplitAre
import PyProof.Rows.StrGen4
import PyProof.Rows.RegStrFacts
import PyProof.Rows.FStr
import PyProof.SetNew
import PyProof.Rows.SetObj
import PyProof.Seq
import PyProof.Rows.SortShell
import PyProof.FactsAll.list_3
import KE.KIntText
import PyProof.StrCalls6
import PyProof.FitsReplace
import PyProof.ToksMono
import PyProof.StrLawsTight
import PyProof.Rows.StrPartPair
import PyProof.Rows.CatFin
import PyProof.Rows.StrClose
import PyProof.StrCaseBound
import Lean
import PySem.Challenge.RW_onefolk_k08_rules_as_texts
set_option maxRecDepth 100000
set_option maxHeartbeats 4000000
set_option linter.all false
set_option Elab.async false
section
open PySem PySem.Spec PyProof.Rows
abbrev LS_:=List PySem.Str
abbrev VP_:=PySem.Value->PySem.Shared->Prop
abbrev FG_:=PySem.W.Frag
abbrev LI_:=List Int
abbrev zb:=@wpAny_bind
abbrev zd:=@Nat.le_of_ble_eq_true
abbrev ze:=@Heap.get?_push_of_some
abbrev zg:=@Bool.false_ne_true
abbrev zh:=@wpAny_pure
abbrev zi:=@Bool.and_eq_true
abbrev zk:=@PySem.W.mg_of
abbrev zl:=@List.length_append
abbrev zo:=@if_pos
abbrev zr:=@List.size_toArray
abbrev zt:=@Nat.le_refl
abbrev zv:=@Nat.le_trans
abbrev zw:=@Heap.lt_size
abbrev zz:=@List.map_cons
abbrev zC:=@List.length_map
abbrev zI:=@List.mem_cons_of_mem
abbrev zS:=@List.mem_cons_self
abbrev Zl:=@List.length_singleton
abbrev Zp:=@decide_eq_true_eq
abbrev Zs:=@if_neg
abbrev ZA:=@Nat.lt_of_lt_of_le
abbrev ZE:=@List.mem_append_right
abbrev ZH:=@decide_eq_false
abbrev ZI:=@Bool.false_eq_true
abbrev ZN:=@Heap.get?_push_size
abbrev ZO:=@decide_eq_true
abbrev ZT:=@wpAny_mono
abbrev ZU:=@Nat.ne_of_lt
abbrev ZY:=@List.getElem?_append_left
abbrev ZZ:=@wpAny_truthy_bool
abbrev Z3:=@List.getElem?_map
abbrev qa:=@PySem.W.mg_none_of
abbrev qc:=@List.cons.injEq
abbrev qf:=@List.not_mem_nil
abbrev qh:=@List.forall_mem_cons
abbrev qi:=@List.getElem?_append_right
abbrev qk:=@List.length_drop
abbrev qo:=@Heap.get?_update_other
abbrev qq:=@Option.some.inj
abbrev qr:=@if_false
abbrev qv:=@List.all_eq_true
abbrev qA:=@Ne.symm
abbrev qB:=@List.getElem?_replicate
abbrev qE:=@List.map_append
abbrev qS:=@List.find?_cons
abbrev qV:=@List.append_nil
abbrev Qb:=@if_true
abbrev Qr:=@List.length_cons
abbrev QA:=@Bool.false_and
abbrev QE:=@Heap.get?_update_self
abbrev QI:=@List.length_set
abbrev QN:=@Nat.zero_le
abbrev QO:=@Int.le_refl
abbrev QP:=@List.map_nil
abbrev QQ:=@wpAny_newObj_type
abbrev QR:=@List.any_cons
abbrev QU:=@List.getElem?_eq_getElem
abbrev QY:=@PySem.mem_of_lookup
abbrev Q1:=@Option.bind_some
abbrev Q2:=@wpAny_field
abbrev Q3:=@Nat.ne_of_gt
abbrev Q4:=@List.map_map
abbrev ja:=@Bool.not_eq_false'
abbrev jb:=@List.lookup_cons_self
abbrev jn:=@of_decide_eq_true
abbrev js:=@List.mem_append_left
abbrev jv:=@List.getElem_mem
abbrev jI:=@List.drop_eq_getElem_cons
abbrev jS:=@wpAny_holding
abbrev j0:=@Nat.lt_irrefl
abbrev j3:=@List.all_cons
abbrev Jn:=@Bool.true_and
abbrev JA:=@List.nil_append
abbrev JE:=@wpAny_Call_Name_kw
abbrev JI:=@Obj.data_mapFields
abbrev JJ:=@Calls.spliced_cons
abbrev JO:=@List.map_id
abbrev JP:=@wpAny_getItem_str_slice
abbrev JS:=@wpAny_loadPart_at
abbrev JU:=@List.getElem?_set
abbrev JY:=@List.append_assoc
abbrev ka:=@Or.inr
abbrev kb:=@wpAny_execs_cons
abbrev kc:=@List.length_take
abbrev ke:=@wpAny_standAt
abbrev kf:=@Bool.false_or
abbrev kg:=@Bool.and_true
abbrev ki:=@List.mem_of_getElem?
abbrev kl:=@List.getElem?_set_ne
abbrev km:=@wpAny_passesOwn
abbrev kn:=@wpAny_execs_nil
abbrev ko:=@Array.length_toList
abbrev kq:=@wpAny_typeOf
abbrev kr:=@codeAny_mono
abbrev ku:=@Nat.le_of_lt
abbrev ky:=@wpAny_call
abbrev kz:=@Heap.size_push
abbrev kA:=@Bool.not_false
abbrev kB:=@Bool.and_false
abbrev kC:=@PySem.F.excBase_ValueError
abbrev kD:=@PySem.F.args_tuple_add_2
abbrev kF:=@Nat.min_le_right
abbrev kG:=@List.filter_cons
abbrev kH:=@F.slot_str_split
abbrev kK:=@F.plainAttrs_str
abbrev kL:=@PySem.F.entry_tuple_add
end
section
namespace L2
open PySem PySem.Spec PyProof.Rows
abbrev Key:=Sum Int Str
def BJ:Key->Value->Bool
 |.inl k,v=>Value.isInt k v
 |.inr x,v=>Value.isStrOf x v
def ah3 (w:World):Key->Int
 |.inl k=>hashInt k
 |.inr x=>hashStr w x
theorem cQ:∀ {k:Key} {v:Value},BJ k v=true->(∃ i t,k=Sum.inl i/\v=Value.int i t)\/(∃ x t,k=Sum.inr x/\v=Value.str x t)
 |.inl i,v,h=>by
  obtain⟨t,e⟩:=Value.isInt_shape (k:=i) (v:=v) h
  exact .inl ⟨i,t,rfl,e⟩
 |.inr x,v,h=>by
  obtain⟨t,e⟩:=Value.isStrOf_shape (x:=x) (v:=v) h
  exact .inr ⟨x,t,rfl,e⟩
theorem adh (a b:Int):decide ((Sum.inl a:Key)=Sum.inl b)=(a==b):=by
 by_cases e:a=b
 ·subst e;simp
 ·have h:¬ (Sum.inl a:Key)=Sum.inl b:=fun q=>e (Sum.inl.inj q)
  rw[ZH h]
  exact (beq_eq_false_iff_ne.mpr e).symm
theorem adi (a b:Str):decide ((Sum.inr a:Key)=Sum.inr b)=decide (a=b):=by
 by_cases e:a=b
 ·subst e;simp
 ·have h:¬ (Sum.inr a:Key)=Sum.inr b:=fun q=>e (Sum.inr.inj q)
  rw[ZH h,ZH e]
theorem adk (a:Int) (b:Str):decide ((Sum.inl a:Key)=Sum.inr b)=false:=ZH (fun q=>nomatch q)
theorem adl (a:Str) (b:Int):decide ((Sum.inr a:Key)=Sum.inl b)=false:=ZH (fun q=>nomatch q)
def pW (prog:Program) (w:World):PySem.KeyKind prog w Key where
 is:=BJ
 hash:=ah3 w
 inj:=fun v a b ha hb=>by
  rcases cQ ha with⟨i,t,rfl,rfl⟩|⟨x,t,rfl,rfl⟩
  ·rcases cQ hb with⟨j,u,rfl,e⟩|⟨y,u,rfl,e⟩
   ·injection e with e1 _;rw[e1]
   ·exact nomatch e
  ·rcases cQ hb with⟨j,u,rfl,e⟩|⟨y,u,rfl,e⟩
   ·exact nomatch e
   ·injection e with e1 _;rw[e1]
 byValue:=fun k v h=>by
  rcases cQ h with⟨i,t,rfl,rfl⟩|⟨x,t,rfl,rfl⟩<;>rfl
 pyHash:=fun hv h=>by
  rcases cQ hv with⟨i,t,rfl,rfl⟩|⟨x,t,rfl,rfl⟩
  ·exact wpAny_pyHash_int h
  ·exact wpAny_pyHash_str h
 eqBool:=fun hu hv h=>by
  rcases cQ hu with⟨i,t,rfl,rfl⟩|⟨x,t,rfl,rfl⟩
  ·rcases cQ hv with⟨j,u,rfl,rfl⟩|⟨y,u,rfl,rfl⟩
   ·rw[adh] at h;exact wpAny_eqBool_int h
   ·rw[adk] at h;exact SeqAt.EqAt.int_str i t y u _ _ _ _ h
  ·rcases cQ hv with⟨j,u,rfl,rfl⟩|⟨y,u,rfl,rfl⟩
   ·rw[adl] at h;exact SeqAt.EqAt.str_int x t j u _ _ _ _ h
   ·rw[adi] at h;exact wpAny_eqBool_str h
 «strs»:=fun k x t v h=>by
  rcases cQ h with⟨i,u,rfl,e⟩|⟨y,u,rfl,e⟩
  ·exact nomatch e
  ·injection e with e1 _
   subst e1
   cases v<;>rfl
end L2
namespace L2
open PySem PySem.Spec PyProof.Rows
inductive V where
 |non|bl (b:Bool)|int (i:Int)|str (x:Str)|byt (b:Array UInt8)|flt (b:UInt64)|ref (a:Addr)|ty (n:String)
 deriving DecidableEq
def RelV:V->Value->Prop
 |.non,u=>u=Value.none
 |.bl b,u=>u=Value.bool b
 |.int i,u=>∃ t,u=Value.int i t
 |.str x,u=>∃ t,u=Value.str x t
 |.byt b,u=>∃ t,u=Value.bytes b t
 |.flt b,u=>∃ t,u=Value.float b t
 |.ref a,u=>u=Value.ref a
 |.ty n,u=>u=Value.type n
abbrev Vals:List V->List Value->Prop:=Paired RelV
theorem Vals.length {xs:List V} {us:List Value} (r:Vals xs us):xs.length=us.length:=Paired.length r
theorem Vals.get:∀ {xs:List V} {us:List Value} {i:Nat} {x:V},Vals xs us->xs[i]?=some x->∃ u,us[i]?=some u/\RelV x u
 |_,_,_,_,.nil,e=>by simp at e
 |_,_,0,_,.cons r _,e=>by simp at e;subst e;exact⟨_,rfl,r⟩
 |_,_,i+1,x,.cons _ t,e=>by
  obtain⟨u,h1,h2⟩:=Vals.get (i:=i) (x:=x) t (by simpa using e)
  exact⟨u,by simpa using h1,h2⟩
theorem Vals.set {x:V} {u:Value} (r:RelV x u):∀ {xs:List V} {us:List Value} (i:Nat),Vals xs us->Vals (xs.set i x) (us.set i u)
 |_,_,_,.nil=>.nil
 |_,_,0,.cons _ t=>.cons r t
 |_,_,i+1,.cons q t=>.cons q (Vals.set r i t)
theorem Vals.append:∀ {xs ys:List V} {us ws:List Value},Vals xs us->Vals ys ws->Vals (xs++ys) (us++ws)
 |_,_,_,_,.nil,s=>s
 |_,_,_,_,.cons r t,s=>.cons r (Vals.append t s)
theorem Vals.take:∀ {xs:List V} {us:List Value} (n:Nat),Vals xs us->Vals (xs.take n) (us.take n)
 |_,_,0,_=>.nil
 |_,_,_+1,.nil=>.nil
 |_,_,n+1,.cons r t=>.cons r (Vals.take n t)
theorem Vals.drop:∀ {xs:List V} {us:List Value} (n:Nat),Vals xs us->Vals (xs.drop n) (us.drop n)
 |_,_,0,r=>r
 |_,_,_+1,.nil=>.nil
 |_,_,n+1,.cons _ t=>Vals.drop n t
def Sx:Option V->Option Value->Prop
 |some v,some u=>RelV v u
 |none,none=>True
 |_,_=>False
def KV {κ:Type}:List (κ×V)->List (κ×Value)->Prop:=Paired fun (p:κ×V) (q:κ×Value)=>p.1=q.1/\RelV p.2 q.2
def kV:Key->V
 |.inl i=>.int i
 |.inr x=>.str x
inductive HO where
 |lst (xs:List V)
 |tup (xs:List V)
 |dK (kvs:List (Key×V))|dT (kvs:List (List Key×V))
 |set (S:Int->Bool) (n:Nat)
 |ins (C dx:Addr) (fs:List (Str×V))
 |own (x:Addr)
 |xd (fs:List (Str×V))
 |met (f x:Addr)
 |rng (lo hi:Int)
 |BK (o:Obj) (u:HO)
 |tbl (ps:Array Value)
 |ext (φ:Heap->Prop)
abbrev Hp:=Addr->Option HO
def upd (H:Hp) (a:Addr) (o:HO):Hp:=fun b=>if b=a then some o else H b
theorem bK {H:Hp} {a:Addr} {o:HO}:upd H a o a=some o:=by unfold upd;rw[zo rfl]
theorem aP {H:Hp} {a b:Addr} {o:HO} (h:b≠a):upd H a o b=H b:=by unfold upd;rw[Zs h]
def yE (h:Heap) (a:Addr) (items:Array Value):Prop:=∃ o,h.get? a=some o/\o.cls=.type "tuple" ∧ (∃ n,o.data=.seq items n)/\o.dict=none
theorem yE.weak {h:Heap} {a:Addr} {items:Array Value} (x:yE h a items):IsTup h a items:=let ⟨o,e,c,d,_⟩:=x;⟨o,e,c,d⟩
theorem yE.new (h:Heap) (items:Array Value):yE (h.push { cls:=.type "tuple", data:=.seq items }) h.objs.size items:=⟨_,ZN _ rfl,rfl,⟨_,rfl⟩,rfl⟩
theorem sW {H:Hp} {a b:Addr} {o u:HO} (h:H a=some o) (h':H b=some u) (d:o≠u):a≠b:=by
 intro e;subst e;rw[h] at h';exact d (qq h')
theorem bG {H:Hp} {a b:Addr} {o:HO} (h:H a=some o) (h':H b=none):a≠b:=by
 intro e;subst e;rw[h] at h';cases h'
section
variable (P:Program) (w:World)
def jQ (H:Hp) (h:Heap) (a:Addr):HO->Prop
 |.lst xs=>xs.length<=sizeLine/\∃ (its:List Value) (n:Nat),Vals xs its/\h.get? a=some { cls:=.type "list", data:=.seq its.toArray n }
 |.tup xs=>xs.length<=sizeLine/\∃ its:List Value,Vals xs its/\yE h a its.toArray
 |.dK kvs=>kvs.length<=sizeLine/\(a==sysModules)=false/\∃ vs,KV kvs vs/\h.DictOf (pW P w) a vs
 |.dT kvs=>kvs.length<=sizeLine/\(a==sysModules)=false/\∃ xs:List (List Key×Addr×Value),
   Paired (fun (p:List Key×V) (q:List Key×Addr×Value)=>p.1=q.1/\H q.2.1=some (.tup (p.1.map kV))/\RelV p.2 q.2.2) kvs xs ∧
   ∃ o es ep,h.get? a=some o/\o.ExactDict/\o.data=.dict es ep/\es.toList=xs.map (entryOfKey (tupleKind (pW P w)))/\(xs.map (·.1)).Nodup
 |.set S n=>h.SetOf (intKind P w) a S n
 |.ins C dx fs=>H dx=some (.own a)/\fs.length<=1000/\dx≠a/\h.get? a=some (PySem.W.instObj C dx) ∧
   ∃ mA,h.Ns1 dx mA/\(∀ f,Sx (fs.lookup f) (mA f))/\PySem.Within mA (fs.map (·.1))
 |.own _=>∃ o,h.get? a=some o
 |.xd fs=>∃ mA,h.Ns1 a mA/\∀ f,Sx (fs.lookup f) (mA f)
 |.rng lo hi=>∃ t u v,h.get? a=some { cls:=.type "range", data:=.fields #[.int lo t,.int hi u,.int 1 v] }
 |.BK o u=>h.get? a=some o/\jQ H h a u
 |.tbl ps=>h.get? a=some { cls:=.none,data:=.fields ps }
 |.met f x=>h.get? a=some (PySem.W.methodObj (.ref f) (.ref x))
 |.ext φ=>φ h/\(∃ o,h.get? a=some o)/\∀ h1 h2:Heap,φ h1->(∀ o,h1.get? a=some o->h2.get? a=some o)->φ h2
def Ba (H:Hp) (h:Heap):Prop:=∀ a o,H a=some o->jQ P w H h a o
end
section
variable {P:Program} {w:World} {H H':Hp} {h h':Heap} {a:Addr} {o:HO}
theorem jQ.lt (x:jQ P w H h a o):a < h.objs.size:=by
 cases o with
 |lst xs=>obtain⟨_,_,_,_,e⟩:=x;exact zw e
 |tup xs=>obtain⟨_,_,_,p⟩:=x;exact p.weak.lt
 |dK kvs=>obtain⟨_,_,_,_,o,_,_,e,_⟩:=x;exact zw e
 |dT kvs=>obtain⟨_,_,_,_,o,_,_,e,_⟩:=x;exact zw e
 |set S n=>obtain⟨o,_,_,_,e,_⟩:=x;exact zw e
 |ins C dx fs=>obtain⟨_,_,_,e,_⟩:=x;exact zw e
 |own y=>obtain⟨_,e⟩:=x;exact zw e
 |xd fs=>obtain⟨_,⟨_,_,_,e,_⟩,_⟩:=x;exact zw e
 |rng lo hi=>obtain⟨_,_,_,e⟩:=x;exact zw e
 |BK ob u=>obtain⟨e,_⟩:=x;exact zw e
 |tbl ps=>exact zw (show h.get? a=some _ from x)
 |met f y=>exact zw (show h.get? a=some _ from x)
 |ext φ=>obtain⟨_,⟨_,e⟩,_⟩:=x;exact zw e
theorem Paired.aaF {α β:Type} {F G:α->β->Prop}:∀ {l₁:List α} {l₂:List β},Paired F l₁ l₂->(∀ a b,F a b->G a b)->Paired G l₁ l₂
 |_,_,.nil,_=>.nil
 |_,_,.cons r t,f=>.cons (f _ _ r) (Paired.aaF t f)
theorem Paired.imp' {α β:Type} {F G:α->β->Prop} (f:∀ a b,F a b->G a b) {l₁:List α} {l₂:List β} (r:Paired F l₁ l₂):Paired G l₁ l₂:=Paired.aaF r f
theorem jQ.stay (x:jQ P w H h a o) (k:∀ b u,(b=a\/H b=some (.own a))->h.get? b=some u->h'.get? b=some u)
  (ho:∀ b,H b=some (.own a)->H' b=some (.own a)) (ht:∀ b xs,H b=some (.tup xs)->H' b=some (.tup xs)):jQ P w H' h' a o:=by
 induction o with
 |lst xs=>obtain⟨z,its,n,r,e⟩:=x;exact⟨z,its,n,r,k _ _ (.inl rfl) e⟩
 |tup xs=>obtain⟨z,its,r,ob,e,c⟩:=x;exact⟨z,its,r,ob,k _ _ (.inl rfl) e,c⟩
 |dK kvs=>obtain⟨z,y,vs,r,ob,es,ep,e,c⟩:=x;exact⟨z,y,vs,r,ob,es,ep,k _ _ (.inl rfl) e,c⟩
 |dT kvs=>
  obtain⟨z,y,xs,r,ob,es,ep,e,c⟩:=x
  exact⟨z,y,xs,Paired.aaF r fun p q z=>⟨z.1,ht _ _ z.2.1,z.2.2⟩,ob,es,ep,k _ _ (.inl rfl) e,c⟩
 |set S n=>obtain⟨ob,es,ep,t,e,c⟩:=x;exact⟨ob,es,ep,t,k _ _ (.inl rfl) e,c⟩
 |ins C dx fs=>
  obtain⟨d,z,ne,e,mA,⟨od,es,ep,e2,c⟩,r⟩:=x
  exact⟨ho _ d,z,ne,k _ _ (.inl rfl) e,mA,⟨od,es,ep,k _ _ (.inr d) e2,c⟩,r⟩
 |own y=>obtain⟨ob,e⟩:=x;exact⟨ob,k _ _ (.inl rfl) e⟩
 |xd fs=>obtain⟨mA,⟨od,es,ep,e,c⟩,r⟩:=x;exact⟨mA,⟨od,es,ep,k _ _ (.inl rfl) e,c⟩,r⟩
 |rng lo hi=>obtain⟨t,u,v,e⟩:=x;exact⟨t,u,v,k _ _ (.inl rfl) e⟩
 |BK ob u ih=>obtain⟨e,q⟩:=x;exact⟨k _ _ (.inl rfl) e,ih q⟩
 |tbl ps=>
  have e:h.get? a=some { cls:=.none,data:=.fields ps }:=x
  show h'.get? a=some { cls:=.none,data:=.fields ps }
  exact k a _ (.inl rfl) e
 |met f y=>
  have e:h.get? a=some (PySem.W.methodObj (.ref f) (.ref y)):=x
  show h'.get? a=some (PySem.W.methodObj (.ref f) (.ref y))
  exact k a _ (.inl rfl) e
 |ext φ=>obtain⟨p,⟨o,e⟩,st⟩:=x;exact⟨st _ _ p fun o q=>k _ _ (.inl rfl) q,⟨o,k _ _ (.inl rfl) e⟩,st⟩
theorem Ba.lt (x:Ba P w H h) (e:H a=some o):a < h.objs.size:=(x a o e).lt
theorem Ba.fresh (x:Ba P w H h) (e:h.objs.size<=a):H a=none:=by
 cases q:H a with
 |none=>rfl
 |some u=>exact absurd (ZA (x.lt q) e) (j0 _)
theorem Ba.kept (x:Ba P w H h) (k:∀ b u,h.get? b=some u->h'.get? b=some u):Ba P w H h':=fun a o e=>
 (x a o e).stay (fun b u _ q=>k b u q) (fun _ q=>q) fun _ _ q=>q
theorem Ba.laid (x:Ba P w H h) (k:∀ b u,h.get? b=some u->h'.get? b=some u) (hp:h.objs.size<=a) (new:jQ P w (upd H a o) h' a o):Ba P w (upd H a o) h':=fun b u e=>by
 have hn:=x.fresh hp
 by_cases hb:b=a
 ·subst hb;rw[bK] at e;cases e;exact new
 ·rw[aP hb] at e
  exact (x b u e).stay (fun c v _ q=>k c v q) (fun c q=>by rw[aP (bG q hn)];exact q) fun c xs q=>by rw[aP (bG q hn)];exact q
end
def Rd (H:Hp) (a:Addr) (u:HO):Prop:=H a=some u\/∃ o,H a=some (.BK o u)
theorem Rd.of {H:Hp} {a:Addr} {u:HO} (h:H a=some u):Rd H a u:=.inl h
theorem Rd.ok {P:Program} {w:World} {H:Hp} {h:Heap} {a:Addr} {u:HO} (r:Rd H a u) (x:Ba P w H h):jQ P w H h a u:=by
 rcases r with r|⟨o,r⟩
 ·exact x a u r
 ·obtain⟨_,q⟩:=x a _ r
  exact q
def Mut:Option HO->Prop
 |some (.lst _)=>True
 |some (.dK _)=>True
 |some (.dT _)=>True
 |some (.set _ _)=>True
 |some (.ins _ _ _)=>True
 |some (.ext _)=>True
 |_=>False
section
variable {P:Program} {w:World} {H:Hp} {h h':Heap} {x e:Addr} {o':HO}
theorem Ba.write (ok:Ba P w H h) (mu:Mut (H x)) (he:e=x\/H e=some (.own x)) (k:∀ b u,b≠e->h.get? b=some u->h'.get? b=some u) (heo:∃ u,h'.get? e=some u)
  (new:jQ P w (upd H x o') h' x o'):Ba P w (upd H x o') h':=fun b u q=>by
 have afE:∀ c y,H c=some (.own y)->c≠x:=fun c y r z=>by subst z;rw[r] at mu;exact mu
 have ah4:∀ c xs,H c=some (.tup xs)->c≠x:=fun c xs r z=>by subst z;rw[r] at mu;exact mu
 by_cases hb:b=x
 ·subst hb;rw[bK] at q;cases q;exact new
 ·rw[aP hb] at q
  by_cases hbe:b=e
  ·have q':H b=some (.own x):=by
    rcases he with z|z
    ·exact absurd (hbe.trans z) hb
    ·rw[hbe];exact z
   rw[q] at q';cases q'
   obtain⟨v,hv⟩:=heo
   exact⟨v,by rw[hbe];exact hv⟩
  ·refine (ok b u q).stay (fun c v hc r=>k c v ?_ r) (fun c r=>by rw[aP (afE c b r)];exact r) fun c xs r=>by rw[aP (ah4 c xs r)];exact r
   rcases hc with rfl|hc
   ·exact hbe
   ·rintro rfl
    rcases he with z|z
    ·exact afE c b hc z
    ·rw[hc] at z;cases z;exact hb rfl
end
structure Un (fs ex:List Addr) (H H':Hp) (h h':Heap):Prop where
 keep:∀ b o,h.get? b=some o->H b=none->b∉fs->b∉ex->h'.get? b=some o
 slot:∀ b o,h.get? b=some o->H b=none->b∈fs->b∉ex->∃ sl,h'.get? b=some { o with slots:=sl }
 free:∀ b o,h.get? b=some o->H b=none->b∉ex->H' b=none
 there:∀ b o,h.get? b=some o->b∉ex->∃ o',h'.get? b=some o'
 tups:∀ b xs,H b=some (.tup xs)->H' b=some (.tup xs)
 uP:∀ b o u,H b=some (.BK o u)->H' b=some (.BK o u)
 yu:∀ b ps,H b=some (.tbl ps)->∃ more,H' b=some (.tbl (ps++more))
section
variable {fs fs' ex ex':List Addr} {H H1 H2:Hp} {h h1 h2 h':Heap} {a x e:Addr} {o:HO}
theorem Un.any (u:Un fs ex H H1 h h1) {b:Addr} {ob:Obj} (q:h.get? b=some ob) (n:H b=none) (hx:b∉ex):∃ sl,h1.get? b=some { ob with slots:=sl }:=by
 by_cases hb:b∈fs
 ·exact u.slot b ob q n hb hx
 ·exact⟨ob.slots,u.keep b ob q n hb hx⟩
theorem Un.trans (a:Un fs ex H H1 h h1) (b:Un fs ex H1 H2 h1 h2):Un fs ex H H2 h h2 where
 keep:=fun c ob q n hc hx=>b.keep c ob (a.keep c ob q n hc hx) (a.free c ob q n hx) hc hx
 slot:=fun c ob q n hc hx=>by
  obtain⟨sl,e1⟩:=a.slot c ob q n hc hx
  obtain⟨sl',e2⟩:=b.slot c _ e1 (a.free c ob q n hx) hc hx
  exact⟨sl',e2⟩
 free:=fun c ob q n hx=>by
  obtain⟨o',e1⟩:=a.there c ob q hx
  exact b.free c o' e1 (a.free c ob q n hx) hx
 there:=fun c ob q hx=>by
  obtain⟨o',e1⟩:=a.there c ob q hx
  exact b.there c o' e1 hx
 tups:=fun c xs q=>b.tups c xs (a.tups c xs q)
 uP:=fun c ob xs q=>b.uP c ob xs (a.uP c ob xs q)
 yu:=fun c ps q=>by
  obtain⟨m1,e1⟩:=a.yu c ps q
  obtain⟨m2,e2⟩:=b.yu c _ e1
  exact⟨m1++m2,by rw[e2,Array.append_assoc]⟩
theorem Un.kept (k:∀ b u,h.get? b=some u->h'.get? b=some u):Un fs ex H H h h':=
 ⟨fun b ob q _ _ _=>k b ob q,fun b ob q _ _ _=>⟨ob.slots,k b ob q⟩,fun _ _ _ n _=>n,fun b ob q _=>⟨ob,k b ob q⟩,fun _ _ q=>q,fun _ _ _ q=>q,fun _ ps q=>⟨#[],by rw[q];simp⟩⟩
theorem Un.refl:Un fs ex H H h h:=Un.kept fun _ _ q=>q
theorem Un.laid (k:∀ b u,h.get? b=some u->h'.get? b=some u) (hp:h.objs.size<=a) (hn:H a=none):Un fs ex H (upd H a o) h h' where
 keep:=fun b u q _ _ _=>k b u q
 slot:=fun b u q _ _ _=>⟨u.slots,k b u q⟩
 free:=fun b u q n _=>by rw[aP (ZU (ZA (zw q) hp))];exact n
 there:=fun b u q _=>⟨u,k b u q⟩
 tups:=fun b xs q=>by rw[aP (bG q hn)];exact q
 uP:=fun b u xs q=>by rw[aP (bG q hn)];exact q
 yu:=fun b ps q=>⟨#[],by rw[aP (bG q hn),q];simp⟩
theorem Un.write (mu:Mut (H x)) (he:e=x\/H e=some (.own x)) (k:∀ b u,b≠e->h.get? b=some u->h'.get? b=some u) (heo:∃ u,h'.get? e=some u):Un fs ex H (upd H x o) h h':=by
 have hx:∀ b,H b=none->b≠x:=fun b n z=>by subst z;rw[n] at mu;exact mu
 have hb:∀ b,H b=none->b≠e:=fun b n z=>by
  subst z
  rcases he with r|r
  ·exact hx b n r
  ·rw[n] at r;cases r
 have hm:∀ b u,H b=some u->¬ Mut (some u)->b≠x:=fun b u q nm z=>by subst z;rw[q] at mu;exact nm mu
 refine⟨fun b u q n _ _=>k b u (hb b n) q,fun b u q n _ _=>⟨u.slots,k b u (hb b n) q⟩,fun b u q n _=>by rw[aP (hx b n)];exact n,fun b u q _=>?_,
  fun b xs q=>by rw[aP (hm b _ q fun z=>z)];exact q,fun b u xs q=>by rw[aP (hm b _ q fun z=>z)];exact q,fun b ps q=>⟨#[],by rw[aP (hm b _ q fun z=>z),q];simp⟩⟩
 by_cases hbe:b=e
 ·subst hbe;exact heo
 ·exact⟨u,k b u hbe q⟩
theorem Un.mono (u:Un fs ex H H1 h h1) (hs:∀ b∈fs,b∈fs') (hx:∀ b∈ex,b∈ex'):Un fs' ex' H H1 h h1:=
 ⟨fun b ob q n hb he=>u.keep b ob q n (fun z=>hb (hs b z)) fun z=>he (hx b z),fun _ _ q n _ he=>u.any q n fun z=>he (hx _ z),fun b ob q n he=>u.free b ob q n fun z=>he (hx b z),fun b ob q he=>u.there b ob q fun z=>he (hx b z),u.tups,u.uP,u.yu⟩
end
def trk (h:Heap) (H:Hp):List Addr:=(List.range h.objs.size).filter fun a=>(H a).isSome
def Nh (h:Heap) (H:Hp):Heap:=PySem.W.hideAll h (trk h H)
theorem V3 (h:Heap) (H:Hp):(Nh h H).objs.size=h.objs.size:=PySem.W.hideAll_size _ _
theorem X5 {h:Heap} {H:Hp} {b:Addr} {o:Obj} (e:h.get? b=some o) (n:H b=none):(Nh h H).get? b=some o:=
 PySem.W.hideAll_get _ e fun hm=>by
  have q:(H b).isSome=true:=(List.mem_filter.mp hm).2
  rw[n] at q;simp at q
theorem aaG {h:Heap} {H:Hp} {b:Addr} {o:Obj} (e:(Nh h H).get? b=some o):h.get? b=some o/\H b=none:=by
 have e':h.get? b=some o:=PySem.W.of_hideAll (trk h H) e
 refine⟨e',?_⟩
 cases q:H b with
 |none=>rfl
 |some x=>
  have hm:b∈trk h H:=List.mem_filter.mpr ⟨List.mem_range.mpr (zw e'),by simp[q]⟩
  have z:(Nh h H).get? b=none:=PySem.W.hideAll_none (trk h H) hm
  rw[z] at e;cases e
def aaH (g h:Heap) (L:Addr):List (Addr×Obj):=(List.range h.objs.size).filterMap fun a=>if a=L\/(g.get? a).isSome=true then none else (h.get? a).map fun o=>(a,o)
def rest (g h:Heap) (L d:Addr):List (Addr×Obj):=(aaH g h L).filter fun p=>decide (p.1≠d)
end L2
namespace L2
open PySem PySem.Spec PyProof.Rows
structure Mod (K:FG_) (mg:Str->Option Value) (base:Heap):Prop where
 kin:K.In base
 glob:base.Ns mainGlobals mg
 blt:∃ mb,base.Ns builtinsNs mb/\∀ x:Str,x ≠ "__name__" → mb x=bootBuiltins x
 nolimit:base.NoLimit
structure Cx where
 prog:Program
 w:World
 K:FG_
 mg:Str->Option Value
 base:Heap
 A:Around
 N:LS_
 s₀:Shared
 H₀:Hp
 env:Env
 outer:List Env
 stack:List Env
 ex:List Addr
 fn:Str->Bool
 calm:Bool
 pn:List (Addr×Obj)
 xe:VP_
def frs (l:List Env):List Addr:=l.filterMap (·.frame)
abbrev Cx.fs (X:Cx):List Addr:=frs X.outer
def Vis (sc:Scope) (x:Str):Prop:=sc.names.lookup x=some .local\/sc.names.lookup x=some .cell\/sc.names.lookup x=some .free
def Loc (sc:Scope) (x:Str):Prop:=sc.names.lookup x=some .local\/sc.names.lookup x=some .cell
def Look (env:Env) (h:Heap) (m:Str->Option Value) (x:Str) (u:Value):Prop:=
 (env.kindOf x=some .local/\m x=some u)\/((env.kindOf x=some .cell\/env.kindOf x=some .free)/\∃ c,env.cells.lookup x=some c/\h.IsCell c (some u))
structure Cx.Ok (X:Cx):Prop where
 mod:Mod X.K X.mg X.base
 kind:X.env.scope.kind=.function
 glob:X.env.globals=mainGlobals
 blt:X.env.builtins=builtinsNs
 above:X.s₀.heap.objs.size<=X.env.locals
 inj:∀ x y c,X.env.cells.lookup x=some c->X.env.cells.lookup y=some c->x=y
 has:∀ x,(X.env.kindOf x=some .cell\/X.env.kindOf x=some .free)->∃ c,X.env.cells.lookup x=some c
 cab:∀ x c,X.fn x=true->X.env.cells.lookup x=some c->X.s₀.heap.objs.size<=c
 hd:X.calm=true->X.A.handled=none
 frames:X.A.frames=some X.stack
 stk:X.stack=X.outer\/(X.stack=X.env::X.outer/\X.env.frame=some X.env.locals)
 exf:∀ b∈X.ex,b≠X.env.locals/\∀ x c,X.env.cells.lookup x=some c->c≠b
 bs:∀ b o,X.base.get? b=some o->X.s₀.heap.get? b=some o/\X.H₀ b=none
 XR:X.base.objs.size<=X.s₀.heap.objs.size
 V4:∀ b o,X.base.get? b=some o->b∉X.ex
 X6:∀ b∈X.ex,b∉X.fs
 zY:X.s₀.heap.FunFrames X.base X.outer
 frf:∀ b∈X.fs,X.H₀ b=none
structure Inv (X:Cx) (pins:List (Addr×Obj)) (σ:List (Option V)) (H:Hp) (s:Shared):Prop where
 ok:X.Ok
 os:s.os=X.s₀.os
 bare:AllBare s.gens
 base:Un X.fs X.ex X.H₀ H X.s₀.heap s.heap
 loc:∃ m,s.heap.Ns X.env.locals m/\∀ (i:Nat) (x:Str) (v:V),X.N[i]?=some x->σ[i]?=some (some v)->Vis X.env.scope x->∃ u,RelV v u/\Look X.env s.heap m x u
 cell:∀ x c,X.env.cells.lookup x=some c->∃ v,s.heap.IsCell c v
 free:H X.env.locals=none
 nC:∀ x c,X.env.cells.lookup x=some c->H c=none
 pin:∀ p∈X.pn++pins,s.heap.get? p.1=some p.2/\H p.1=none/\p.1≠X.env.locals/\p.1∉X.fs/\∀ v,p.2.data≠.cell v
 hok:Ba X.prog X.w H s.heap
 len:σ.length=X.N.length
section
variable {X:Cx} {pins:List (Addr×Obj)} {σ:List (Option V)} {H H':Hp} {s:Shared} {h':Heap}
theorem Cx.Ok.ah6 (ok:X.Ok) {b:Addr} {o:Obj} (e:X.base.get? b=some o):b∉X.fs:=fun hb=>by
 have:=(ok.zY.mem hb).1
 rw[e] at this;cases this
theorem Inv.bs (I:Inv X pins σ H s):∀ b o,X.base.get? b=some o->s.heap.get? b=some o/\H b=none:=fun b o e=>
 ⟨I.base.keep b o (I.ok.bs b o e).1 (I.ok.bs b o e).2 (I.ok.ah6 e) (I.ok.V4 b o e),I.base.free b o (I.ok.bs b o e).1 (I.ok.bs b o e).2 (I.ok.V4 b o e)⟩
theorem Inv.bk (I:Inv X pins σ H s):∀ b o,X.base.get? b=some o->s.heap.get? b=some o:=fun b o e=>(I.bs b o e).1
theorem Inv.mod (I:Inv X pins σ H s):Mod X.K X.mg X.base:=I.ok.mod
theorem Inv.Ku (I:Inv X pins σ H s):X.K.In s.heap:=I.ok.mod.kin.keeps I.bk
theorem Inv.nolimit (I:Inv X pins σ H s):s.heap.NoLimit:=I.ok.mod.nolimit.keeps I.bk
theorem Inv.fr (I:Inv X pins σ H s):∃ m,Fr X.base X.env.locals s.heap m:=
 let ⟨m,hn,_⟩:=I.loc
 ⟨m,hn,I.bk,zv I.ok.XR I.ok.above⟩
theorem Inv.lt (I:Inv X pins σ H s):X.env.locals < s.heap.objs.size:=let ⟨_,hn,_⟩:=I.loc;hn.lt
theorem Inv.sz (I:Inv X pins σ H s):X.s₀.heap.objs.size<=s.heap.objs.size:=zv I.ok.above (ku I.lt)
theorem Inv.ah7 (I:Inv X pins σ H s) {a:Addr} (h:s.heap.objs.size<=a):a∉X.fs:=fun hb=>by
 obtain⟨_,o,ho,_⟩:=I.ok.zY.mem hb
 exact absurd (ZA (zw ho) (zv I.sz h)) (j0 _)
theorem Inv.cne (I:Inv X pins σ H s):∀ x c,X.env.cells.lookup x=some c->c≠X.env.locals:=fun x c e z=>by
 obtain⟨v,o,ho,hd⟩:=I.cell x c e
 obtain⟨m,⟨o',es,ep,ho',hd',_⟩,_⟩:=I.loc
 rw[z,ho'] at ho;cases ho;rw[hd'] at hd;cases hd
theorem Inv.zY (I:Inv X pins σ H s):s.heap.FunFrames X.base X.outer:=by
 have all:∀ (l:List Env),(∀ b∈frs l,b∈X.fs)->X.s₀.heap.FunFrames X.base l->s.heap.FunFrames X.base l:=by
  intro l
  induction l with
  |nil=>intro _ _;trivial
  |cons env r ih=>
   intro hs hl
   obtain⟨hk,⟨L,o,hf,hn,ho,hd⟩,hr⟩:=hl
   have hL:L∈X.fs:=hs L (by unfold frs;rw[List.filterMap_cons,hf];exact zS)
   obtain⟨sl,e⟩:=I.base.slot L o ho (I.ok.frf L hL) hL fun z=>I.ok.X6 L z hL
   exact⟨hk,⟨L,_,hf,hn,e,hd⟩,ih (fun b hb=>hs b (by unfold frs;rw[List.filterMap_cons,hf];exact zI _ hb)) hr⟩
 exact all X.outer (fun _ hb=>hb) I.ok.zY
theorem Inv.stack (I:Inv X pins σ H s):s.heap.FunFrames X.base X.stack:=by
 rcases I.ok.stk with e|⟨e,hf⟩
 ·rw[e];exact I.zY
 ·rw[e]
  obtain⟨m,hn,_⟩:=I.loc
  refine .cons (by rw[I.ok.kind];decide) hf hn ?_ I.zY
  exact Heap.get?_none_of_le (zv I.ok.XR I.ok.above)
theorem Inv.HB (I:Inv X pins σ H s):∀ b∈frs X.stack,b∈X.env.locals::X.fs:=fun b hb=>by
 rcases I.ok.stk with e|⟨e,hf⟩
 ·rw[e] at hb;exact zI _ hb
 ·rw[e] at hb
  unfold frs at hb
  rw[List.filterMap_cons,hf] at hb
  exact hb
theorem Inv.G8 (I:Inv X pins σ H s):∀ b∈frs X.stack,H b=none:=fun b hb=>by
 rcases List.mem_cons.mp (I.HB b hb) with e|hb
 ·rw[e];exact I.free
 ·obtain⟨_,o,ho,_⟩:=I.ok.zY.mem hb
  exact I.base.free b o ho (I.ok.frf b hb) fun z=>I.ok.X6 b z hb
theorem Inv.step {g':Array GenState} {t':Nat} {d':Drawn} {ch:List Addr} (I:Inv X pins σ H s)
  (hch:∀ b∈ch,(b∈X.ex\/X.s₀.heap.objs.size<=b)/\b≠X.env.locals/\(∀ x c,X.env.cells.lookup x=some c->c≠b)/\∀ p∈X.pn++pins,p.1≠b)
  (keep:∀ b o,b≠X.env.locals->b∉X.fs->b∉ch->s.heap.get? b=some o->H b=none->h'.get? b=some o)
  (slot:∀ b o,b≠X.env.locals->b∈X.fs->b∉ch->s.heap.get? b=some o->H b=none->∃ sl,h'.get? b=some { o with slots:=sl }) (free:∀ b o,b∉ch->s.heap.get? b=some o->H b=none->H' b=none)
  (there:∀ b o,b∉ch->s.heap.get? b=some o->∃ o',h'.get? b=some o')
  (tups:∀ b xs,H b=some (.tup xs)->H' b=some (.tup xs)) (uP:∀ b o u,H b=some (.BK o u)->H' b=some (.BK o u)) (yu:∀ b ps,H b=some (.tbl ps)->∃ more,H' b=some (.tbl (ps++more)))
  (ns:∀ m,s.heap.Ns X.env.locals m->h'.Ns X.env.locals m) (hok:Ba X.prog X.w H' h') (hg:AllBare g') :
  Inv X pins σ H' { s with heap:=h',gens:=g',drawn:=d',toks:=t' }:=by
 have neL:∀ b o,X.s₀.heap.get? b=some o->b≠X.env.locals:=fun b o e=>ZU (ZA (zw e) I.ok.above)
 have neC:∀ b o,X.s₀.heap.get? b=some o->b∉X.ex->b∉ch:=fun b o e hx hb=>by
  rcases (hch b hb).1 with z|z
  ·exact hx z
  ·exact absurd (ZA (zw e) z) (j0 _)
 have cellK:∀ x c,X.env.cells.lookup x=some c->∀ v,s.heap.IsCell c v->h'.IsCell c v:=fun x c e v ⟨o,ho,hd⟩=>by
  have nch:c∉ch:=fun z=>(hch c z).2.2.1 x c e rfl
  by_cases hc:c∈X.fs
  ·obtain⟨sl,q⟩:=slot c o (I.cne x c e) hc nch ho (I.nC x c e)
   exact⟨_,q,hd⟩
  ·exact⟨o,keep c o (I.cne x c e) hc nch ho (I.nC x c e),hd⟩
 refine⟨I.ok,I.os,hg,⟨fun b o e n hb hx=>?_,fun b o e n hb hx=>?_,fun b o e n hx=>?_,fun b o e hx=>?_,fun b xs e=>tups b xs (I.base.tups b xs e),fun b o xs e=>uP b o xs (I.base.uP b o xs e),fun b ps e=>?_⟩,?_,fun x c e=>?_,?_,fun x c e=>?_,fun p hp=>?_,hok,I.len⟩
 ·exact keep b o (neL b o e) hb (neC b o e hx) (I.base.keep b o e n hb hx) (I.base.free b o e n hx)
 ·obtain⟨sl,e1⟩:=I.base.slot b o e n hb hx
  obtain⟨sl',e2⟩:=slot b _ (neL b o e) hb (neC b o e hx) e1 (I.base.free b o e n hx)
  exact⟨sl',e2⟩
 ·obtain⟨o',e1⟩:=I.base.there b o e hx
  exact free b o' (neC b o e hx) e1 (I.base.free b o e n hx)
 ·obtain⟨o',e1⟩:=I.base.there b o e hx
  exact there b o' (neC b o e hx) e1
 ·obtain⟨m1,e1⟩:=I.base.yu b ps e
  obtain⟨m2,e2⟩:=yu b _ e1
  exact⟨m1++m2,by rw[e2,Array.append_assoc]⟩
 ·obtain⟨m,hn,hl⟩:=I.loc
  refine⟨m,ns m hn,fun i x v e1 e2 e3=>?_⟩
  obtain⟨u,r,l⟩:=hl i x v e1 e2 e3
  refine⟨u,r,?_⟩
  rcases l with l|⟨k,c,e,z⟩
  ·exact .inl l
  ·exact .inr ⟨k,c,e,cellK x c e _ z⟩
 ·obtain⟨v,z⟩:=I.cell x c e
  exact⟨v,cellK x c e v z⟩
 ·obtain⟨m,⟨o,_,_,ho,_⟩,_⟩:=I.loc
  exact free _ o (fun z=>(hch _ z).2.1 rfl) ho I.free
 ·obtain⟨v,o,ho,hd⟩:=I.cell x c e
  exact free c o (fun z=>(hch c z).2.2.1 x c e rfl) ho (I.nC x c e)
 ·obtain⟨e,n,ne,nf,d⟩:=I.pin p hp
  have nch:p.1∉ch:=fun z=>(hch p.1 z).2.2.2 p hp rfl
  exact⟨keep p.1 p.2 ne nf nch e n,free p.1 p.2 nch e n,ne,nf,d⟩
theorem Inv.un {t':Nat} (I:Inv X pins σ H s) (u:Un X.fs [] H H' s.heap h') (hok:Ba X.prog X.w H' h'):Inv X pins σ H' { s with heap:=h',toks:=t' }:=by
 obtain⟨m,⟨o,es,ep,ho,r⟩,_⟩:=id I.loc
 obtain⟨sl,hL⟩:=u.any ho I.free (by simp)
 exact I.step (g':=s.gens) (d':=s.drawn) (ch:=[]) (fun _ z=>nomatch z) (fun b o _ hb _ e n=>u.keep b o e n hb (by simp)) (fun b o _ hb _ e n=>u.slot b o e n hb (by simp)) (fun b o _ e n=>u.free b o e n (by simp)) (fun b o _ e=>u.there b o e (by simp)) u.tups u.uP u.yu (fun m' hm=>by
  obtain⟨o',es',ep',ho',r'⟩:=hm
  rw[ho] at ho';cases ho'
  exact⟨_,es',ep',hL,r'⟩) hok I.bare
theorem Inv.call {g':Array GenState} {t':Nat} {d':Drawn} {ch:List Addr} (I:Inv X pins σ H s) (u:Un (frs X.stack) ch H H' s.heap h') (hok:Ba X.prog X.w H' h') (hg:AllBare g')
  (hch:∀ b∈ch,(b∈X.ex\/X.s₀.heap.objs.size<=b)/\b≠X.env.locals/\(∀ x c,X.env.cells.lookup x=some c->c≠b)/\∀ p∈X.pn++pins,p.1≠b) :
  Inv X pins σ H' { s with heap:=h',gens:=g',drawn:=d',toks:=t' }:=by
 obtain⟨m,⟨o,es,ep,ho,r⟩,_⟩:=id I.loc
 obtain⟨sl,hL⟩:=u.any ho I.free fun z=>(hch _ z).2.1 rfl
 exact I.step (ch:=ch) hch (fun b o hL hb hc e n=>u.keep b o e n (fun z=>(List.mem_cons.mp (I.HB b z)).elim hL hb) hc) (fun b o _ _ hc e n=>u.any e n hc) (fun b o hc e n=>u.free b o e n hc) (fun b o hc e=>u.there b o e hc) u.tups u.uP u.yu (fun m' hm=>by
  obtain⟨o',es',ep',ho',r'⟩:=hm
  rw[ho] at ho';cases ho'
  exact⟨_,es',ep',hL,r'⟩) hok hg
theorem Inv.turned {t':Nat} {it:Addr} (I:Inv X pins σ H s) (k:∀ b o,b≠it->s.heap.get? b=some o->h'.get? b=some o) (hn:H it=none) (hL:it≠X.env.locals)
  (h1:it∈X.ex\/X.s₀.heap.objs.size<=it) (h2:∀ x c,X.env.cells.lookup x=some c->c≠it) (h3:∀ p∈X.pn++pins,p.1≠it):Inv X pins σ H { s with heap:=h',toks:=t' }:=by
 have nit:∀ b u,H b=some u->b≠it:=fun b u e z=>by rw[z,hn] at e;cases e
 refine I.step (g':=s.gens) (d':=s.drawn) (ch:=[it]) (fun b hb=>?_) (fun b o _ _ hc e _=>k b o (fun z=>hc (by simp[z])) e) (fun b o _ _ hc e _=>⟨o.slots,k b o (fun z=>hc (by simp[z])) e⟩) (fun _ _ _ _ n=>n)
  (fun b o hc e=>⟨o,k b o (fun z=>hc (by simp[z])) e⟩) (fun _ _ e=>e) (fun _ _ _ e=>e) (fun b ps e=>⟨#[],by rw[e];simp⟩) (fun m hm=>?_) (fun b u e=>?_) I.bare
 ·have e:b=it:=by simpa using hb
  subst e
  exact⟨h1,hL,h2,h3⟩
 ·obtain⟨o,es,ep,ho,r⟩:=hm
  exact⟨o,es,ep,k _ o (qA hL) ho,r⟩
 ·refine (I.hok b u e).stay (fun c v hc q=>k c v ?_ q) (fun _ q=>q) fun _ _ q=>q
  rcases hc with z|z
  ·rw[z];exact nit b u e
  ·exact nit c _ z
theorem Inv.tok (I:Inv X pins σ H s) (t:Nat):Inv X pins σ H { s with toks:=t }:=I.un (h':=s.heap) (t':=t) Un.refl I.hok
theorem Inv.kept {t':Nat} (I:Inv X pins σ H s) (k:∀ b u,s.heap.get? b=some u->h'.get? b=some u):Inv X pins σ H { s with heap:=h',toks:=t' }:=I.un (Un.kept k) (I.hok.kept k)
theorem Inv.laid {a:Addr} {o:HO} {t':Nat} (I:Inv X pins σ H s) (k:∀ b u,s.heap.get? b=some u->h'.get? b=some u) (hp:s.heap.objs.size<=a) (new:jQ X.prog X.w (upd H a o) h' a o) :
  Inv X pins σ (upd H a o) { s with heap:=h',toks:=t' }:=I.un (Un.laid k hp (I.hok.fresh hp)) (I.hok.laid k hp new)
theorem Inv.write {x e:Addr} {o:HO} {t':Nat} (I:Inv X pins σ H s) (mu:Mut (H x)) (he:e=x\/H e=some (.own x)) (k:∀ b u,b≠e->s.heap.get? b=some u->h'.get? b=some u) (heo:∃ u,h'.get? e=some u)
  (new:jQ X.prog X.w (upd H x o) h' x o):Inv X pins σ (upd H x o) { s with heap:=h',toks:=t' }:=I.un (Un.write mu he k heo) (I.hok.write mu he k heo new)
theorem Inv.weak {σ':List (Option V)} (I:Inv X pins σ H s) (hl:σ'.length=σ.length) (w:∀ (i:Nat) v,σ'[i]?=some (some v)->σ[i]?=some (some v)):Inv X pins σ' H s:=
 ⟨I.ok,I.os,I.bare,I.base,let ⟨m,hn,hl'⟩:=I.loc;⟨m,hn,fun i x v e1 e2 e3=>hl' i x v e1 (w i v e2) e3⟩,I.cell,I.free,I.nC,I.pin,I.hok,hl.trans I.len⟩
theorem Inv.G9 {X7:List (Addr×Obj)} (I:Inv X pins σ H s) (h:∀ p∈X7,s.heap.get? p.1=some p.2/\H p.1=none/\p.1≠X.env.locals/\p.1∉X.fs/\∀ v,p.2.data≠.cell v):Inv X X7 σ H s:=
 ⟨I.ok,I.os,I.bare,I.base,I.loc,I.cell,I.free,I.nC,fun p hp=>(List.mem_append.mp hp).elim (fun z=>I.pin p (js _ z)) (h p),I.hok,I.len⟩
theorem HD {N:LS_} (hN:N.Nodup) {i j:Nat} {x:Str} (a:N[i]?=some x) (b:N[j]?=some x):i=j:=by
 obtain⟨h1,e1⟩:=List.getElem?_eq_some_iff.mp a
 obtain⟨h2,e2⟩:=List.getElem?_eq_some_iff.mp b
 exact (List.getElem_inj hN).mp (e1.trans e2.symm)
theorem V5 {M:Model} {A:Around} {E:VP_} {i:Nat} {x:Str} {v:V} {u:Value} {Q:Unit->Shared->Prop} (I:Inv X pins σ H s) (hN:X.N.Nodup) (hi:X.N[i]?=some x) (hx:Loc X.env.scope x) (r:RelV v u)
  (h:∀ s',Inv X pins (σ.set i (some v)) H s'->(∃ a,Heap.SameBut a s.heap s'.heap/\(a=X.env.locals\/X.env.cells.lookup x=some a))->Q () s') (hf:X.fn x=true\/X.env.scope.names.lookup x=some .local:=by first|exact .inl rfl|exact .inr rfl|assumption):wpAny M A (storeName X.env x u) Q E s:=by
 obtain⟨m,hn,hl⟩:=id I.loc
 have hcls:(X.env.scope.kind==.class||(X.env.scope.kind==.module&&X.env.locals != X.env.globals))=false:=by rw[I.ok.kind];rfl
 have hiσ:i < σ.length:=by rw[I.len];exact (List.getElem?_eq_some_iff.mp hi).1
 have cne:=I.cne
 have tracked:∀ {a:Addr} {h':Heap},(∃ o,s.heap.get? a=some o/\H a=none)->Heap.SameBut a s.heap h'->Ba X.prog X.w H h':=fun {a h'} ha hs b ob e=>by
  obtain⟨_,_,hfree⟩:=ha
  refine (I.hok b ob e).stay (fun c w' hc q=>(hs.2 c ?_).trans q) (fun _ q=>q) fun _ _ q=>q
  rintro rfl
  rcases hc with rfl|hc
  ·rw[hfree] at e;cases e
  ·rw[hfree] at hc;cases hc
 rcases hx with hk|hk
 ·refine wpAny_storeName_local hk hn (fun h' hn' hs=>?_) hcls
  obtain⟨oL,_,_,hoL,_⟩:=id hn
  refine h _ ⟨I.ok,I.os,I.bare,⟨fun b o e n hb hx=>?_,fun b o e n hb hx=>?_,I.base.free,fun b o e hx=>?_,I.base.tups,I.base.uP,I.base.yu⟩,⟨_,hn',fun j y v' e1 e2 e3=>?_⟩,fun y c e=>?_,I.free,I.nC,fun p hp=>?_,tracked ⟨oL,hoL,I.free⟩ hs,by simpa using I.len⟩ ⟨_,hs,.inl rfl⟩
  ·exact (hs.2 b (ZU (ZA (zw e) I.ok.above))).trans (I.base.keep b o e n hb hx)
  ·obtain⟨sl,e1⟩:=I.base.slot b o e n hb hx
   exact⟨sl,(hs.2 b (ZU (ZA (zw e) I.ok.above))).trans e1⟩
  ·obtain⟨o',e1⟩:=I.base.there b o e hx
   exact⟨o',(hs.2 b (ZU (ZA (zw e) I.ok.above))).trans e1⟩
  ·by_cases hj:j=i
   ·subst hj
    rw[hi] at e1;cases e1
    rw[List.getElem?_set_self hiσ] at e2
    cases e2
    exact⟨u,r,.inl ⟨hk,by simp⟩⟩
   ·rw[kl (qA hj)] at e2
    obtain⟨u',r',q⟩:=hl j y v' e1 e2 e3
    refine⟨u',r',?_⟩
    rcases q with⟨k,e⟩|⟨k,c,e,z⟩
    ·refine .inl ⟨k,?_⟩
     have:y≠x:=fun e=>hj (HD hN e1 (e▸hi))
     simp[this,e]
    ·exact .inr ⟨k,c,e,z.sameBut hs (cne y c e)⟩
  ·obtain⟨w',z⟩:=I.cell y c e
   exact⟨w',z.sameBut hs (cne y c e)⟩
  ·obtain⟨e,n,ne,nf,d⟩:=I.pin p hp
   exact⟨(hs.2 p.1 ne).trans e,n,ne,nf,d⟩
 ·have hfn:X.fn x=true:=by
   rcases hf with z|z
   ·exact z
   ·rw[z] at hk;cases hk
  obtain⟨c,hc⟩:=I.ok.has x (.inl hk)
  obtain⟨w',z⟩:=I.cell x c hc
  refine wpAny_storeName_cell I.ok.kind hk hc z (fun h' hc' hs=>?_)
  obtain⟨oc,hoc,ah8⟩:=id z
  refine h { s with heap:=h' } ⟨I.ok,I.os,I.bare,⟨fun b o e n hb hx=>?_,fun b o e n hb hx=>?_,I.base.free,fun b o e hx=>?_,I.base.tups,I.base.uP,I.base.yu⟩,⟨m,hn.sameBut hs (qA (cne x c hc)),fun j y v' e1 e2 e3=>?_⟩,fun y c' e=>?_,I.free,I.nC,fun p hp=>?_,tracked ⟨oc,hoc,I.nC x c hc⟩ hs,by simpa using I.len⟩ ⟨c,hs,.inr hc⟩
  ·exact (hs.2 b (ZU (ZA (zw e) (I.ok.cab x c hfn hc)))).trans (I.base.keep b o e n hb hx)
  ·obtain⟨sl,e1⟩:=I.base.slot b o e n hb hx
   exact⟨sl,(hs.2 b (ZU (ZA (zw e) (I.ok.cab x c hfn hc)))).trans e1⟩
  ·obtain⟨o',e1⟩:=I.base.there b o e hx
   exact⟨o',(hs.2 b (ZU (ZA (zw e) (I.ok.cab x c hfn hc)))).trans e1⟩
  ·by_cases hj:j=i
   ·subst hj
    rw[hi] at e1;cases e1
    rw[List.getElem?_set_self hiσ] at e2
    cases e2
    exact⟨u,r,.inr ⟨.inl hk,c,hc,hc'⟩⟩
   ·rw[kl (qA hj)] at e2
    obtain⟨u',r',q⟩:=hl j y v' e1 e2 e3
    refine⟨u',r',?_⟩
    rcases q with q|⟨k,c',e,z'⟩
    ·exact .inl q
    ·refine .inr ⟨k,c',e,z'.sameBut hs ?_⟩
     rintro rfl
     exact hj (HD hN e1 (I.ok.inj _ _ _ e hc▸hi))
  ·by_cases hcc:c'=c
   ·subst hcc;exact⟨_,hc'⟩
   ·obtain⟨w2,z2⟩:=I.cell y c' e
    exact⟨w2,z2.sameBut hs hcc⟩
  ·obtain⟨e,n,ne,nf,d⟩:=I.pin p hp
   refine⟨(hs.2 p.1 ?_).trans e,n,ne,nf,d⟩
   intro q
   rw[q,hoc] at e
   have q':oc=p.2:=qq e
   exact d w' (by rw[<-q'];exact ah8)
theorem rY {M:Model} {A:Around} {E:VP_} {i:Nat} {x:Str} {v:V} {u:Value} {Q:Unit->Shared->Prop} (I:Inv X pins σ H s) (hN:X.N.Nodup) (hi:X.N[i]?=some x) (hx:Loc X.env.scope x) (r:RelV v u)
  (h:∀ s',Inv X pins (σ.set i (some v)) H s'->Q () s') (hf:X.fn x=true\/X.env.scope.names.lookup x=some .local:=by first|exact .inl rfl|exact .inr rfl|assumption):wpAny M A (storeName X.env x u) Q E s:=
 V5 I hN hi hx r (fun s' I' _=>h s' I') hf
theorem Inv.call' {s':Shared} {ch:List Addr} (I:Inv X pins σ H s) (ho:s'.os=s.os) (u:Un (frs X.stack) ch H H' s.heap s'.heap) (hok:Ba X.prog X.w H' s'.heap) (hg:AllBare s'.gens)
  (hch:∀ b∈ch,(b∈X.ex\/X.s₀.heap.objs.size<=b)/\b≠X.env.locals/\(∀ x c,X.env.cells.lookup x=some c->c≠b)/\∀ p∈X.pn++pins,p.1≠b):Inv X pins σ H' s':=by
 obtain⟨h',g',d',t',o'⟩:=s'
 have e:o'=s.os:=ho
 subst e
 exact I.call (g':=g') (t':=t') (d':=d') u hok hg hch
end
abbrev XK:=Value->Option Addr->Hp->Prop
abbrev St:=List (Option V)
abbrev VK:=V->Hp->Prop
abbrev TE:=St->Hp->VK->Prop
abbrev TT:=St->Hp->(Bool->Hp->Prop)->Prop
abbrev TA:=St->Hp->(List V->Hp->Prop)->Prop
structure Ends where
 nx:St->Hp->Prop
 rt:VK
 bk:St->Hp->Prop:=fun _ _=>False
 ct:St->Hp->Prop:=fun _ _=>False
abbrev TS:=Ends->St->Hp->Prop
def EP (X:Cx) (pins:List (Addr×Obj)) (σ:St) (Q:VK) (u:Value) (s':Shared):Prop:=∃ v H',Inv X pins σ H' s'/\RelV v u/\Q v H'
def TP (X:Cx) (pins:List (Addr×Obj)) (σ:St) (Q:Bool->Hp->Prop) (b:Bool) (s':Shared):Prop:=∃ H',Inv X pins σ H' s'/\Q b H'
def AP (X:Cx) (pins:List (Addr×Obj)) (σ:St) (Q:List V->Hp->Prop) (us:List Value) (s':Shared):Prop:=∃ vs H',Inv X pins σ H' s'/\Vals vs us/\Q vs H'
def SP (X:Cx) (pins:List (Addr×Obj)) (D:Ends) (f:Flow) (s':Shared):Prop:=
 match f with
 |.next=>∃ σ' H',Inv X pins σ' H' s'/\D.nx σ' H'
 |.brk=>∃ σ' H',Inv X pins σ' H' s'/\D.bk σ' H'
 |.cont=>∃ σ' H',Inv X pins σ' H' s'/\D.ct σ' H'
 |.ret u=>∃ v σ' H',Inv X pins σ' H' s'/\RelV v u/\D.rt v H'
def PE (X:Cx) (e:Expr) (t:TE):Prop:=
 ∀ (pins:List (Addr×Obj)) (s:Shared) (σ:St) (H:Hp) (Q:VK),Inv X pins σ H s->t σ H Q->wpAny (model X.prog X.w) X.A (eval e X.env) (EP X pins σ Q) X.xe s
def PT (X:Cx) (e:Expr) (t:TT):Prop:=
 ∀ (pins:List (Addr×Obj)) (s:Shared) (σ:St) (H:Hp) (Q:Bool->Hp->Prop),Inv X pins σ H s->t σ H Q->wpAny (model X.prog X.w) X.A (isTrue e X.env (eval e X.env)) (TP X pins σ Q) X.xe s
def PW (X:Cx) (e:Expr) (t:TT):Prop:=
 ∀ (whole:Sem Value) (pins:List (Addr×Obj)) (s:Shared) (σ:St) (H:Hp) (Q:Bool->Hp->Prop),Inv X pins σ H s->t σ H Q->wpAny (model X.prog X.w) X.A (isTrue e X.env whole) (TP X pins σ Q) X.xe s
theorem PW.pt {X:Cx} {e:Expr} {t:TT} (h:PW X e t):PT X e t:=h _
def PA (X:Cx) (es:List Expr) (t:TA):Prop:=
 ∀ (pos:Pos) (pins:List (Addr×Obj)) (s:Shared) (σ:St) (H:Hp) (Q:List V->Hp->Prop),Inv X pins σ H s->t σ H Q->wpAny (model X.prog X.w) X.A (spliced (backTo pos (starEach es X.env))) (AP X pins σ Q) X.xe s
def PS (X:Cx) (st:Stmt) (t:TS):Prop:=
 ∀ (pins:List (Addr×Obj)) (s:Shared) (σ:St) (H:Hp) (D:Ends),Inv X pins σ H s->t D σ H->wpAny (model X.prog X.w) X.A (exec st X.env) (SP X pins D) X.xe s
def Hf (X:Cx) (st:List Stmt) (t:TS):Prop:=
 ∀ (pins:List (Addr×Obj)) (s:Shared) (σ:St) (H:Hp) (D:Ends),Inv X pins σ H s->t D σ H->wpAny (model X.prog X.w) X.A (execs st X.env) (SP X pins D) X.xe s
theorem jy {α:Type} {t:Sem α} {Q Q':α->Shared->Prop} {M:Model} {A:Around} {E:VP_} {s:Shared} (h:wpAny M A t Q E s) (hQ:∀ a s,Q a s->Q' a s):wpAny M A t Q' E s:=ZT h hQ fun _ _ x=>x
end L2
namespace L2
open PySem PySem.Spec PyProof.Rows
section
variable {X:Cx}
def X8 (i:Nat):TE:=fun σ H Q=>∃ v,σ[i]?=some (some v)/\Q v H
def tC (v:V):TE:=fun _ H Q=>Q v H
theorem Ni {i:Nat} {x:Str} {pos:Pos} (hN:X.N[i]?=some x) (hv:Vis X.env.scope x) (hd:(x==("__debug__" : Str))=false:=by decide) (hcd:(x==("__classdict__" : Str))=false:=by decide):PE X (.Name x pos) (X8 i):=by
 intro pins s σ H Q I h
 obtain⟨v,e,h⟩:=h
 obtain⟨m,hn,hl⟩:=I.loc
 obtain⟨u,r,l⟩:=hl i x v hN e hv
 have fin:EP X pins σ Q u s:=⟨v,H,I,r,h⟩
 rcases l with⟨hk,hm⟩|⟨hk,c,hc,hcell⟩
 ·exact wpAny_Name (wpAny_loadName_local I.ok.kind hk hn hm fin) hd
 ·rcases hk with hk|hk
  ·exact wpAny_Name (wpAny_loadName_cell I.ok.kind hk hc hcell fin) hd
  ·exact wpAny_Name (wpAny_loadName_free I.ok.kind hk hc hcell fin hcd) hd
theorem adq {i j pos}:PE X (.Constant (.int i) j pos) (tC (.int i)):=fun _ _ _ H _ I h=>wpAny_Constant_int ⟨.int i,H,I.tok _,⟨_,rfl⟩,h⟩
theorem afH {b j pos}:PE X (.Constant (.bool b) j pos) (tC (.bl b)):=fun _ _ _ H _ I h=>Constant_bool ⟨.bl b,H,I,rfl,h⟩
theorem Nj {j pos}:PE X (.Constant .none j pos) (tC .non):=fun _ _ _ H _ I h=>Constant_none ⟨.non,H,I,rfl,h⟩
theorem adt {x j pos}:PE X (.Constant (.str x) j pos) (tC (.str x)):=fun _ _ _ H _ I h=>Calls.Constant_str ⟨.str x,H,I.tok _,⟨_,rfl⟩,h⟩
def Gl (X:Cx) (x:Str):Prop:=X.env.kindOf x=some .globalImplicit
theorem BL {E:VP_} {pins:List (Addr×Obj)} {s:Shared} {σ:St} {H:Hp} {x:Str} {u:Value} {pos:Pos} {Q:VP_} (I:Inv X pins σ H s) (hg:Gl X x) (hm:X.mg x=some u) (h:Q u s)
  (hd:(x==("__debug__" : Str))=false:=by decide):wpAny (model X.prog X.w) X.A (eval (.Name x pos) X.env) Q E s:=
 Calls.Name_function_global I.ok.kind hg (Calls.loadGlobal_global (by rw[I.ok.glob];exact I.mod.glob.keeps I.bk) hm h) hd
theorem HF {E:VP_} {pins:List (Addr×Obj)} {s:Shared} {σ:St} {H:Hp} {x:Str} {u:Value} {pos:Pos} {Q:VP_} (I:Inv X pins σ H s) (hg:Gl X x) (hm:X.mg x=none) (hv:bootBuiltins x=some u) (h:Q u s)
  (hn:x ≠ "__name__" := by decide) (hd:(x==("__debug__" : Str))=false:=by decide):wpAny (model X.prog X.w) X.A (eval (.Name x pos) X.env) Q E s:=by
 obtain⟨mb,h1,h2⟩:=I.mod.blt
 exact Calls.Name_function_global I.ok.kind hg (Calls.loadGlobal_builtin (by rw[I.ok.glob];exact I.mod.glob.keeps I.bk) hm (by rw[I.ok.blt];exact h1.keeps I.bk) ((h2 x hn).trans hv) h) hd
theorem pX {x:Str} {v:V} {u:Value} {pos:Pos} (hg:Gl X x) (hm:X.mg x=some u) (r:RelV v u) (hd:(x==("__debug__" : Str))=false:=by decide):PE X (.Name x pos) (tC v):=
 fun _ _ _ H _ I h=>BL I hg hm ⟨v,H,I,r,h⟩ hd
theorem zB {x:Str} {v:V} {u:Value} {pos:Pos} (hg:Gl X x) (hm:X.mg x=none) (hv:bootBuiltins x=some u) (r:RelV v u) (hn:x ≠ "__name__" := by decide) (hd:(x==("__debug__" : Str))=false:=by decide):PE X (.Name x pos) (tC v):=
 fun _ _ _ H _ I h=>HF I hg hm hv ⟨v,H,I,r,h⟩ hn hd
variable {a b:Expr} {ta tb:TE} {pos:Pos}
def PC (X:Cx) (op:CmpOp) (a b:Expr) (t:TE):Prop:=
 ∀ (pins:List (Addr×Obj)) (s:Shared) (σ:St) (H:Hp) (Q:VK),Inv X pins σ H s->t σ H Q →
  wpAny (model X.prog X.w) X.A (eval a X.env) (fun v s₁=>wpAny (model X.prog X.w) X.A (eval b X.env) (fun u s₂=>wpAny (model X.prog X.w) X.A (compareOp op v u) (EP X pins σ Q) X.xe s₂) X.xe s₁) X.xe s
theorem Yb (b:Expr) {op:CmpOp} (h:op≠.In) (h2:op≠.NotIn):behindInMarks op b=false:=by
 have e1:(op==CmpOp.In)=false:=by cases op<;>first|rfl|exact absurd rfl h
 have e2:(op==CmpOp.NotIn)=false:=by cases op<;>first|rfl|exact absurd rfl h2
 cases b<;>simp[behindInMarks,e1,e2]
def ah9 (ta:TE):TE:=fun σ H Q=>ta σ H fun x H1=>Q (.bl (decide (x=.non))) H1
theorem RelV.Yc {x:V} {v:Value} (r:RelV x v):(v==Value.none)=decide (x=.non):=by
 cases x with
 |non=>cases r;rfl
 |bl _=>cases r;rfl
 |int _=>obtain⟨t,rfl⟩:=r;rfl
 |str _=>obtain⟨t,rfl⟩:=r;rfl
 |byt _=>obtain⟨t,rfl⟩:=r;rfl
 |flt _=>obtain⟨t,rfl⟩:=r;rfl
 |ref _=>cases r;rfl
 |ty _=>cases r;rfl
theorem adu {j pos'} (ha:PE X a ta):PC X .Is a (.Constant .none j pos') (ah9 ta):=by
 intro pins s σ H Q I h
 refine jy (ha pins s σ H _ I h) fun v s1 ⟨x,H1,I1,r1,q1⟩=>?_
 exact Constant_none (is_none_gen ⟨.bl _,H1,I1,by rw[r1.Yc];rfl,q1⟩)
def tB (t:TE):TT:=fun σ H Q=>t σ H fun x H1=>∃ c,x=.bl c/\Q c H1
theorem adv {op:CmpOp} {t:TE} (h:PC X op a b t) (h1:behindInMarks op b=false:=by first|exact Yb _ (by decide) (by decide)|rfl):PT X (.Compare a [op] [b] pos) (tB t):=by
 intro pins s σ H Q I hw
 refine wpAny_isTrue_Compare1 (jy (h pins s σ H _ I hw) fun v s1 h1=>jy h1 fun u s2 h2=>jy h2 fun c s3 ⟨x,H1,I1,r1,q1⟩=>?_) h1
 obtain⟨d,rfl,q⟩:=q1
 cases r1
 exact ZZ ⟨H1,I1,q⟩
theorem Nk {e:Expr} {t:TE} (h:PE X e t) (he:∀ whole,isTrue e X.env whole=(do let v <-whole;standAt e.pos;holding [v] (truthy v)):=by intro _;rfl):PT X e (tB t):=by
 intro pins s σ H Q I hw
 refine isTrue_plain (jy (h pins s σ H _ I hw) fun v s1 ⟨x,H1,I1,r1,q1⟩=>?_) (he _)
 obtain⟨d,rfl,q⟩:=q1
 cases r1
 exact ZZ ⟨H1,I1,q⟩
variable {tA tB':TT} {rest:List Expr}
def afI (t u:TT):TT:=fun σ H Q=>t σ H fun c H1=>if c=true then u σ H1 Q else Q false H1
def tOr (t u:TT):TT:=fun σ H Q=>t σ H fun c H1=>if c=true then Q true H1 else u σ H1 Q
def aia (t:TT):TT:=fun σ H Q=>t σ H fun c H1=>Q (!c) H1
theorem aaK (ha:PT X a tA):PW X (.BoolOp .And [a] pos) tA:=by
 intro wh pins s σ H Q I h
 refine isTrue_and (jy (ha pins s σ H Q I h) fun c s1 e=>?_)
 cases c with
 |true=>exact isTrue_and_nil e
 |false=>exact e
theorem Sy (ha:PT X a tA):PW X (.BoolOp .Or [a] pos) tA:=by
 intro wh pins s σ H Q I h
 refine isTrue_or (jy (ha pins s σ H Q I h) fun c s1 e=>?_)
 cases c with
 |false=>exact isTrue_or_nil e
 |true=>exact e
theorem adw (ha:PT X a tA) (hb:PW X (.BoolOp .And (b::rest) pos) tB'):PW X (.BoolOp .And (a::b::rest) pos) (afI tA tB'):=by
 intro wh pins s σ H Q I h
 refine isTrue_and (jy (ha pins s σ H _ I h) fun c s1 ⟨H1,I1,q1⟩=>?_)
 cases c with
 |true=>exact hb wh pins s1 σ H1 Q I1 q1
 |false=>exact⟨H1,I1,q1⟩
theorem Yd (ha:PT X a tA) (hb:PW X (.BoolOp .Or (b::rest) pos) tB'):PW X (.BoolOp .Or (a::b::rest) pos) (tOr tA tB'):=by
 intro wh pins s σ H Q I h
 refine isTrue_or (jy (ha pins s σ H _ I h) fun c s1 ⟨H1,I1,q1⟩=>?_)
 cases c with
 |true=>exact⟨H1,I1,q1⟩
 |false=>exact hb wh pins s1 σ H1 Q I1 q1
theorem SJ (ha:PT X a tA):PT X (.UnaryOp .Not a pos) (aia tA):=by
 intro pins s σ H Q I h
 exact isTrue_not (ha pins s σ H (fun c H1=>Q (!c) H1) I h)
def afJ (ta tb:TE):TE:=fun σ H Q=>ta σ H fun x H1=>∃ c,x=.bl c/\if c=true then tb σ H1 Q else Q (.bl false) H1
def afK (ta:TE):TE:=fun σ H Q=>ta σ H fun x H1=>∃ c,x=.bl c/\Q (.bl (!c)) H1
theorem adx {op} {t:TE} (h:PE X a t):PE X (.BoolOp op [a] pos) t:=fun pins s σ H Q I hw=>BoolOp_one (h pins s σ H Q I hw)
theorem ady (ha:PE X a ta) (hb:PE X (.BoolOp .And (b::rest) pos) tb):PE X (.BoolOp .And (a::b::rest) pos) (afJ ta tb):=by
 intro pins s σ H Q I h
 refine BoolOp_and (jy (ha pins s σ H _ I h) fun v s1 ⟨x,H1,I1,r1,q1⟩=>?_)
 obtain⟨c,rfl,q1⟩:=q1
 cases r1
 refine ZZ ?_
 cases c with
 |true=>exact hb pins s1 σ H1 Q I1 q1
 |false=>exact⟨.bl false,H1,I1,rfl,q1⟩
theorem adz (ha:PE X a ta):PE X (.UnaryOp .Not a pos) (afK ta):=by
 intro pins s σ H Q I h
 refine UnaryOp_ (jy (ha pins s σ H _ I h) fun v s1 ⟨x,H1,I1,r1,q1⟩=>?_)
 obtain⟨c,rfl,q1⟩:=q1
 cases r1
 exact not_of (ZZ ⟨.bl (!c),H1,I1,rfl,q1⟩)
def tIf (t:TT) (ta tb:TE):TE:=fun σ H Q=>t σ H fun c H1=>if c=true then ta σ H1 Q else tb σ H1 Q
theorem Ye {c:Expr} (hc:PT X c tA) (ha:PE X a ta) (hb:PE X b tb):PE X (.IfExp c a b pos) (tIf tA ta tb):=by
 intro pins s σ H Q I h
 refine wpAny_IfExp (jy (hc pins s σ H _ I h) fun d s1 ⟨H1,I1,q1⟩=>?_)
 cases d with
 |true=>exact ha pins s1 σ H1 Q I1 q1
 |false=>exact hb pins s1 σ H1 Q I1 q1
end
end L2
namespace L2
open PySem PySem.Spec PyProof.Rows
def uQ (K:FG_) (H:Hp) (a:Addr) (xs:List V):Prop:=
 Rd H a (.lst xs) ∨
  ∃ (o:Obj) (its:Array Value) (n:Nat),K.lookup a=some o/\o.cls=.type "list" ∧ o.dict=none/\o.data=.seq its n/\its.size<=sizeLine/\Vals xs its.toList
def Bv (K:FG_) (H:Hp) (a:Addr) (xs:List V):Prop:=
 Rd H a (.tup xs) ∨
  ∃ (o:Obj) (its:Array Value) (n:Nat),K.lookup a=some o/\(o.cls=.type "tuple" ∧ o.dict=none)/\o.data=.seq its n/\its.size<=sizeLine/\Vals xs its.toList
def adA:Value->Option V
 |.none=>some .non
 |.bool b=>some (.bl b)
 |.int i _=>some (.int i)
 |.str x _=>some (.str x)
 |.bytes b _=>some (.byt b)
 |.float b _=>some (.flt b)
 |.ref a=>some (.ref a)
 |.type n=>some (.ty n)
 |_=>none
theorem RelV.abs {x:V} {u:Value} (r:RelV x u):adA u=some x:=by
 cases x with
 |non=>cases r;rfl
 |bl _=>cases r;rfl
 |int _=>obtain⟨t,rfl⟩:=r;rfl
 |str _=>obtain⟨t,rfl⟩:=r;rfl
 |byt _=>obtain⟨t,rfl⟩:=r;rfl
 |flt _=>obtain⟨t,rfl⟩:=r;rfl
 |ref _=>cases r;rfl
 |ty _=>cases r;rfl
theorem RelV.inj {x y:V} {u:Value} (r:RelV x u) (q:RelV y u):x=y:=qq (r.abs.symm.trans q.abs)
theorem Vals.inj:∀ {xs ys:List V} {us:List Value},Vals xs us->Vals ys us->xs=ys
 |_,_,_,.nil,.nil=>rfl
 |_,_,_,.cons r t,.cons r' t'=>by rw[r.inj r',Vals.inj t t']
section
variable {X:Cx} {pins:List (Addr×Obj)} {σ:St} {H:Hp} {s:Shared} {a:Addr} {xs ys:List V}
theorem uQ.of {K:FG_} (h:H a=some (.lst xs)):uQ K H a xs:=.inl (.inl h)
theorem Bv.of {K:FG_} (h:H a=some (.tup xs)):Bv K H a xs:=.inl (.inl h)
theorem Inv.list (I:Inv X pins σ H s) (h:uQ X.K H a xs):∃ its:List Value,Vals xs its/\PlainL s.heap a its.toArray/\xs.length<=sizeLine:=by
 rcases h with h|⟨o,its,n,hk,hc,hd,hs,hz,r⟩
 ·obtain⟨z,its,n,r,e⟩:=h.ok I.hok
  exact⟨its,r,⟨_,n,e,rfl,rfl,rfl⟩,z⟩
 ·refine⟨its.toList,r,⟨o,n,I.Ku a o hk,hc,hd,by simpa using hs⟩,?_⟩
  have e:=r.length
  simp only[ko] at e
  omega
theorem Inv.tuple (I:Inv X pins σ H s) (h:Bv X.K H a xs):∃ its:List Value,Vals xs its/\IsTup s.heap a its.toArray/\xs.length<=sizeLine:=by
 rcases h with h|⟨o,its,n,hk,hc,hs,hz,r⟩
 ·obtain⟨z,its,r,p⟩:=h.ok I.hok
  exact⟨its,r,p.weak,z⟩
 ·refine⟨its.toList,r,⟨o,I.Ku a o hk,hc.1,n,by simpa using hs⟩,?_⟩
  have e:=r.length
  simp only[ko] at e
  omega
theorem Inv.HJ (I:Inv X pins σ H s) (h:uQ X.K H a xs) (h':uQ X.K H a ys):xs=ys:=by
 obtain⟨its,r,⟨o,n,e,_,_,d⟩,_⟩:=I.list h
 obtain⟨its',r',⟨o',n',e',_,_,d'⟩,_⟩:=I.list h'
 rw[e] at e';cases e'
 rw[d] at d'
 injection d' with d1 _
 have:its=its':=by simpa using congrArg Array.toList d1
 subst this
 exact r.inj r'
theorem Inv.Ls (I:Inv X pins σ H s) (h:Bv X.K H a xs) (h':Bv X.K H a ys):xs=ys:=by
 obtain⟨its,r,⟨o,e,_,n,d⟩,_⟩:=I.tuple h
 obtain⟨its',r',⟨o',e',_,n',d'⟩,_⟩:=I.tuple h'
 rw[e] at e';cases e'
 rw[d] at d'
 injection d' with d1 _
 have:its=its':=by simpa using congrArg Array.toList d1
 subst this
 exact r.inj r'
end
abbrev Cx.wish (X:Cx) (E:VP_):Cx:={ X with xe:=E }
abbrev Cx.Ss (X:Cx):Cx:=X.wish fun _ _=>False
theorem Cx.Ok.wish {X:Cx} (ok:X.Ok) (E:VP_):(X.wish E).Ok:=
 ⟨ok.mod,ok.kind,ok.glob,ok.blt,ok.above,ok.inj,ok.has,ok.cab,ok.hd,ok.frames,ok.stk,ok.exf,ok.bs,ok.XR,ok.V4,ok.X6,ok.zY,ok.frf⟩
theorem Cx.Ok.lW {X:Cx} {E:VP_} (ok:(X.wish E).Ok):X.Ok:=
 ⟨ok.mod,ok.kind,ok.glob,ok.blt,ok.above,ok.inj,ok.has,ok.cab,ok.hd,ok.frames,ok.stk,ok.exf,ok.bs,ok.XR,ok.V4,ok.X6,ok.zY,ok.frf⟩
section
variable {X:Cx} {pins:List (Addr×Obj)} {σ:St} {H:Hp} {s:Shared} {E:VP_}
theorem Inv.wish (I:Inv X pins σ H s) (E:VP_):Inv (X.wish E) pins σ H s:=⟨I.ok.wish E,I.os,I.bare,I.base,I.loc,I.cell,I.free,I.nC,I.pin,I.hok,I.len⟩
theorem Inv.lW (I:Inv (X.wish E) pins σ H s):Inv X pins σ H s:=⟨I.ok.lW,I.os,I.bare,I.base,I.loc,I.cell,I.free,I.nC,I.pin,I.hok,I.len⟩
theorem SP.lW {D:Ends} {f:Flow} {s':Shared} (h:SP (X.wish E) pins D f s'):SP X pins D f s':=by
 cases f with
 |next=>obtain⟨σ',H',I,q⟩:=h;exact⟨σ',H',I.lW,q⟩
 |brk=>obtain⟨σ',H',I,q⟩:=h;exact⟨σ',H',I.lW,q⟩
 |cont=>obtain⟨σ',H',I,q⟩:=h;exact⟨σ',H',I.lW,q⟩
 |ret u=>obtain⟨v,σ',H',I,r,q⟩:=h;exact⟨v,σ',H',I.lW,r,q⟩
theorem PE.Ss {e:Expr} {t:TE} (h:PE X.Ss e t):PE X e t:=fun pins s σ H Q I hw=>
 ZT (h pins s σ H Q (I.wish _) hw) (fun _ _ ⟨v,H',I',r,q⟩=>⟨v,H',I'.lW,r,q⟩) fun _ _ z=>False.elim z
theorem PT.Ss {e:Expr} {t:TT} (h:PT X.Ss e t):PT X e t:=fun pins s σ H Q I hw=>
 ZT (h pins s σ H Q (I.wish _) hw) (fun _ _ ⟨H',I',q⟩=>⟨H',I'.lW,q⟩) fun _ _ z=>False.elim z
theorem Hf.Ss {st:List Stmt} {t:TS} (h:Hf X.Ss st t):Hf X st t:=fun pins s σ H D I hw=>
 ZT (h pins s σ H D (I.wish _) hw) (fun _ _ q=>q.lW) fun _ _ z=>False.elim z
end
section
variable {X:Cx} {st:Stmt} {rest:List Stmt} {t u:TS} {e:Expr} {te:TE} {pos:Pos}
def afL:TS:=fun D σ H=>D.nx σ H
def aib (t u:TS):TS:=fun D σ H=>t { D with nx:=u D } σ H
theorem Hg:Hf X [] afL:=fun _ _ σ H _ I h=>kn ⟨σ,H,I,h⟩
theorem qD (h1:PS X st t) (h2:Hf X rest u):Hf X (st::rest) (aib t u):=by
 intro pins s σ H D I h
 refine kb (jy (h1 pins s σ H { D with nx:=u D } I h) fun f s1 q=>?_)
 cases f with
 |next=>
  obtain⟨σ',H',I',q⟩:=q
  exact h2 pins s1 σ' H' D I' q
 |ret v=>exact q
 |brk=>exact q
 |cont=>exact q
theorem Hh (h1:PS X st t):Hf X [st] t:=by
 intro pins s σ H D I h
 refine kb (jy (h1 pins s σ H D I h) fun f s1 q=>?_)
 cases f with
 |next=>exact kn q
 |ret v=>exact q
 |brk=>exact q
 |cont=>exact q
theorem Inv.quiet {pins:List (Addr×Obj)} {σ:St} {H:Hp} {s:Shared} (I:Inv X pins σ H s):interactive X.env=false:=by simp[interactive,I.ok.kind]
def afM (te:TE):TS:=fun D σ H=>te σ H fun _ H1=>D.nx σ H1
theorem Uy (he:PE X e te) (hs:swapsWith e none pos.line X.env=pure false:=by rfl):PS X (.Expr e pos) (afM te):=by
 intro pins s σ H D I h
 exact wpAny_Expr_any (jy (he pins s σ H _ I h) fun v s1 ⟨x,H1,I1,r1,q1⟩=>⟨σ,H1,I1,q1⟩) I.quiet hs
def aic (te:TE):TS:=fun D σ H=>te σ H D.rt
theorem Np (he:PE X e te):PS X (.Return (some e) pos) (aic te):=by
 intro pins s σ H D I h
 exact wpAny_Return_some (jy (he pins s σ H _ I h) fun v s1 ⟨x,H1,I1,r1,q1⟩=>⟨x,σ,H1,I1,r1,q1⟩)
def aie (c:TT) (t u:TS):TS:=fun D σ H=>c σ H fun b H1=>if b=true then t D σ H1 else u D σ H1
theorem Pz {c:Expr} {a b:List Stmt} {tc:TT} (hc:PT X c tc) (ha:Hf X a t) (hb:Hf X b u):PS X (.If c a b pos) (aie tc t u):=by
 intro pins s σ H D I h
 refine wpAny_If (jy (hc pins s σ H _ I h) fun d s1 ⟨H1,I1,q1⟩=>?_)
 cases d with
 |true=>exact ha pins s1 σ H1 D I1 q1
 |false=>exact hb pins s1 σ H1 D I1 q1
def adB:TS:=fun _ _ _=>False
theorem Lw {sts:List Stmt}:Hf X sts adB:=fun _ _ _ _ _ _ h=>h.elim
end
abbrev TG:=V->St->Hp->(St->Hp->Prop)->Prop
abbrev TGs:=List V->St->Hp->(St->Hp->Prop)->Prop
def PG (X:Cx) (target:Expr) (t:TG):Prop:=
 ∀ (pins:List (Addr×Obj)) (s:Shared) (σ:St) (H:Hp) (v:V) (u:Value) (Q:St->Hp->Prop),Inv X pins σ H s->RelV v u->t v σ H Q →
  wpAny (model X.prog X.w) X.A (assign target X.env u) (fun _ s'=>∃ σ' H',Inv X pins σ' H' s'/\Q σ' H') X.xe s
def Yg (X:Cx) (ts:List Expr) (t:TGs):Prop:=
 ∀ (pins:List (Addr×Obj)) (s:Shared) (σ:St) (H:Hp) (vs:List V) (us:List Value) (Q:St->Hp->Prop),Inv X pins σ H s->Vals vs us->t vs σ H Q →
  wpAny (model X.prog X.w) X.A (assignInOrder ((assignEach ts X.env).map (·.2)) us) (fun _ s'=>∃ σ' H',Inv X pins σ' H' s'/\Q σ' H') X.xe s
section
variable {X:Cx} {pos:Pos}
def acz (i:Nat):TG:=fun v σ H Q=>Q (σ.set i (some v)) H
theorem Uz {i:Nat} {x:Str} (hN:X.N.Nodup) (hi:X.N[i]?=some x) (hx:Loc X.env.scope x) (hf:X.fn x=true\/X.env.scope.names.lookup x=some .local:=by first|exact .inl rfl|exact .inr rfl|assumption):PG X (.Name x pos) (acz i):=by
 intro pins s σ H v u Q I r h
 exact wpAny_assign_Name (rY I hN hi hx r (fun s' I'=>⟨_,H,I',h⟩) hf)
def aif:TGs:=fun vs σ H Q=>vs=[]/\Q σ H
def afN (t:TG) (u:TGs):TGs:=fun vs σ H Q=>∃ v r,vs=v::r/\t v σ H fun σ' H'=>u r σ' H' Q
theorem aaL:Yg X [] aif:=by
 intro pins s σ H vs us Q I r h
 obtain⟨e,h⟩:=h
 subst e
 cases r
 exact assignInOrder_nil ⟨σ,H,I,h⟩
theorem Yh {e:Expr} {es:List Expr} {t:TG} {u:TGs} (h1:PG X e t) (h2:Yg X es u)
  (hs:(assignEach (e::es) X.env).map (·.2)=assign e X.env::(assignEach es X.env).map (·.2):=by rfl):Yg X (e::es) (afN t u):=by
 intro pins s σ H vs us Q I r h
 obtain⟨v,vr,e1,h⟩:=h
 subst e1
 cases r with
 |cons r rr=>
  rw[hs]
  refine assignInOrder_cons (jy (h1 pins s σ H _ _ _ I r h) fun _ s1 ⟨σ1,H1,I1,q1⟩=>?_)
  exact h2 pins s1 σ1 H1 _ _ Q I1 rr q1
def aii (K:FG_) (n:Nat) (t:TGs):TG:=fun v σ H Q=>∃ a xs,v=.ref a/\Bv K H a xs/\xs.length=n/\t xs σ H Q
theorem adC {es:List Expr} {k:Nat} {t:TGs} {n:Nat} (hc:X.calm=true) (h:Yg X es t)
  (hn:(assignEach es X.env).length=n:=by rfl) (hst:(assignEach es X.env).findIdx? (·.1)=none:=by rfl):PG X (.Tuple es k pos) (aii X.K n t):=by
 intro pins s σ H v u Q I r hw
 obtain⟨a,xs,e1,hq,hl,hw⟩:=hw
 subst e1
 cases r
 obtain⟨its,rv,ht,hz⟩:=I.tuple hq
 refine assign_Tuple_tuple (I.ok.hd hc) ht (by simp[hn,<-hl,rv.length]) hst fun h' hx=>?_
 have I1:Inv X pins σ H { s with heap:=h' }:=I.kept (t':=s.toks) fun b o e=>hx b o (ZU (zw e)) e
 exact h pins _ σ H xs _ Q I1 (by simpa using rv) hw
def aij (te:TE) (g:TG):TS:=fun D σ H=>te σ H fun x H1=>g x σ H1 D.nx
theorem Nq {i:Nat} {x:Str} {e:Expr} {te:TE} {pos':Pos} (hN:X.N.Nodup) (hi:X.N[i]?=some x) (hx:Loc X.env.scope x) (he:PE X e te) (hs:swapsWith e (some (.Name x pos')) pos.line X.env=pure false:=by rfl) (hf:X.fn x=true\/X.env.scope.names.lookup x=some .local:=by first|exact .inl rfl|exact .inr rfl|assumption) :
  PS X (.Assign [.Name x pos'] e pos) (aij te (acz i)):=by
 intro pins s σ H D I h
 refine wpAny_Assign_Name (jy (he pins s σ H _ I h) fun v s1 ⟨y,H1,I1,r1,q1⟩=>?_) hs
 exact rY I1 hN hi hx r1 (fun s2 I2=>⟨_,H1,I2,q1⟩) hf
def aik (i j:Nat) (ta:TA):TS:=fun D σ H=>ta σ H fun vs H1=>∃ v w,vs=[v,w]/\D.nx ((σ.set i (some v)).set j (some w)) H1
theorem adD {i j:Nat} {x y:Str} {a b:Expr} {ta:TA} {px py pt:Pos} {kt k2 pt2} (hc:X.calm=true) (hN:X.N.Nodup) (hi:X.N[i]?=some x) (hj:X.N[j]?=some y) (hij:i≠j)
  (hx:X.env.scope.names.lookup x=some .local) (hy:X.env.scope.names.lookup y=some .local) (ha:PA X [a,b] ta)
  (hw:swappedStores [.Tuple [.Name x px,.Name y py] kt pt] (.Tuple [a,b] k2 pt2) X.env=pure (some [x,y]))
  (hs:swapsWithSole [.Tuple [.Name x px,.Name y py] kt pt] (.Tuple [a,b] k2 pt2) pos.line X.env=pure false:=by rfl) :
  PS X (.Assign [.Tuple [.Name x px,.Name y py] kt pt] (.Tuple [a,b] k2 pt2) pos) (aik i j ta):=by
 intro pins s σ H D I h
 rw[exec_Assign_arm]
 refine zb (ke ?_)
 rw[hs]
 refine zb (zh ?_)
 rw[Zs (by decide)]
 refine zb (Tuple_ (jy (ha _ pins s σ H _ I h) fun us s1 ⟨vs,H1,I1,r1,q1⟩=>?_))
 obtain⟨v,w,e1,q1⟩:=q1
 subst e1
 obtain⟨u1,u2,rfl,rv,rw'⟩:∃ u1 u2,us=[u1,u2]/\RelV v u1/\RelV w u2:=by
  cases r1 with
  |cons p q=>
   cases q with
   |cons p' q'=>
    cases q'
    exact⟨_,_,rfl,p,p'⟩
 refine QQ ?_ (by show 2<=sizeLine;decide)
 have I2:Inv X pins σ H1 { s1 with heap:=s1.heap.push { cls:=.type "tuple", data:=.seq [u1,u2].toArray } }:=I1.kept (t':=s1.toks) fun b o e=>ze _ e
 rw[hw]
 refine zb (zh ?_)
 show wpAny (model X.prog X.w) X.A (do rule "assign.swapped-stores"; let items <-unpackItems (.ref s1.heap.objs.size) 2 none;assignInOrder [fun v=>bindName X.env y v,fun v=>bindName X.env x v] items.reverse;pure Flow.next) _ _ _
 refine zb (wpAny_rule (zb (unpackItems_tuple (items:=#[u1,u2]) (I.ok.hd hc) (IsTup.new s1.heap _) fun h' hx'=>?_)))
 have I3:=I2.kept (h':=h') (t':=s1.toks) fun b o e=>hx' b o (ZU (zw e)) e
 show wpAny _ _ (assignInOrder [fun v=>bindName X.env y v,fun v=>bindName X.env x v] [u2,u1] >>= fun _=>pure Flow.next) _ _ _
 refine zb (assignInOrder_cons (wpAny_bindName (rY I3 hN hj (.inl hy) rw' (fun s2 I4=>?_) (.inr hy))))
 refine assignInOrder_cons (wpAny_bindName (rY I4 hN hi (.inl hx) rv (fun s3 I5=>assignInOrder_nil (zh ?_)) (.inr hx)))
 rw[List.set_comm _ _ (qA hij)] at I5
 exact⟨_,H1,I5,q1⟩
end
structure It where
 go:Nat->Hp->Prop
 yld:Nat->Hp->V->Hp->Prop
 stop:Nat->Hp->Prop
def yw (X:Cx) (pins:List (Addr×Obj)) (H:Hp) (b:Addr):Prop:=
 H b=none/\b≠X.env.locals/\b∉X.fs/\(b∈X.ex\/X.s₀.heap.objs.size<=b)/\(∀ x c,X.env.cells.lookup x=some c->c≠b)/\∀ p∈X.pn++pins,p.1≠b
theorem Inv.V6 {X:Cx} {pins:List (Addr×Obj)} {σ:St} {H H':Hp} {s:Shared} {b:Addr} (I:Inv X pins σ H s) (hb:s.heap.objs.size<=b) (hn:H' b=none):yw X pins H' b:=by
 refine⟨hn,Q3 (ZA I.lt hb),I.ah7 hb,.inr (zv I.sz hb),fun x c e z=>?_,fun p hp z=>?_⟩
 ·obtain⟨v,q⟩:=I.cell x c e
  exact absurd (ZA q.lt (by rw[z];exact hb)) (j0 _)
 ·exact absurd (ZA (zw (I.pin p hp).1) (by rw[z];exact hb)) (j0 _)
structure Turn (P:Program) (w:World) (K:FG_) (tg:Expr) (J:It) (fp:List Addr) (it:Addr) (tn:Nat->Heap->Prop):Prop where
 mem:it∈fp
 obj:∀ i h,tn i h->∀ b∈fp,∃ o,h.get? b=some o/\∀ v,o.data≠.cell v
 keep:∀ i h h',tn i h->(∀ b∈fp,∀ o,h.get? b=some o->h'.get? b=some o)->tn i h'
 item:∀ (X:Cx),X.prog=P->X.w=w->X.K=K->X.calm=true->∀ (i:Nat) (pins:List (Addr×Obj)) (s:Shared) (σ:St) (H:Hp) (E:VP_),Inv X pins σ H s->(∀ b∈fp,yw X pins H b)->tn i s.heap->J.go i H →
  wpAny (model P w) X.A (pyNext (.ref it)) (fun r s1=>∃ u,r=some u ∧
   wpAny (model P w) X.A (letOwnedTupleGo tg (.ref it) u) (fun _ s2=>∃ x H',Inv X pins σ H' s2/\RelV x u/\J.yld i H x H'/\tn (i+1) s2.heap/\∀ b∈fp,H' b=none) E s1) E s
 done:∀ (X:Cx),X.prog=P->X.w=w->X.K=K->X.calm=true->∀ (i:Nat) (pins:List (Addr×Obj)) (s:Shared) (σ:St) (H:Hp) (E:VP_),Inv X pins σ H s->(∀ b∈fp,yw X pins H b)->tn i s.heap->J.stop i H →
  wpAny (model P w) X.A (pyNext (.ref it)) (fun r s1=>r=none/\Inv X pins σ H s1) E s
 self:∀ (A:Around) (i:Nat) (s:Shared) (Q:VP_) (E:VP_),tn i s.heap->Q (.ref it) s->wpAny (model P w) A (pyIter (.ref it)) Q E s
abbrev TI:=St->Hp->(It->Hp->Prop)->Prop
def PIE (X:Cx) (pins:List (Addr×Obj)) (σ:St) (tg:Expr) (R:It->Hp->Prop) (itv:Value) (s2:Shared):Prop:=
 ∃ (it:Addr) (fp:List Addr) (tn:Nat->Heap->Prop) (J:It) (H':Hp),itv=.ref it/\Inv X pins σ H' s2/\Turn X.prog X.w X.K tg J fp it tn/\tn 0 s2.heap/\(∀ b∈fp,yw X pins H' b)/\R J H'
def PI (X:Cx) (tg iter:Expr) (wi:TI):Prop:=
 ∀ (pins:List (Addr×Obj)) (s:Shared) (σ:St) (H:Hp) (R:It->Hp->Prop),Inv X pins σ H s->wi σ H R →
  wpAny (model X.prog X.w) X.A (eval iter X.env) (fun v s1=>wpAny (model X.prog X.w) X.A (pyIter v) (PIE X pins σ tg R) X.xe s1) X.xe s
theorem PJ {M:Model} {A:Around} {E:VP_} {s:Shared} {tg:Expr} {it:Addr} {u:Value} {o:Obj} {n:String} {vs:Array Value} {Q:Unit->Shared->Prop} (ho:s.heap.get? it=some o) (hc:o.cls=.type n) (hd:o.data=.fields vs)
  (hn:["enumerate", "zip", "dict_itemiterator", "dict_reverseitemiterator", "odict_iterator", "itertools.zip_longest", "itertools.pairwise"].contains n=false) (hQ:Q () s):wpAny M A (letOwnedTupleGo tg (.ref it) u) Q E s:=by
 unfold letOwnedTupleGo
 cases tg<;>first
  |exact zh hQ
  |(cases u<;>first
    |exact zh hQ
    |(refine zb (wpAny_load ho ?_)
      rw[hc,hd]
      show wpAny M A (if (["enumerate", "zip", "dict_itemiterator", "dict_reverseitemiterator", "odict_iterator", "itertools.zip_longest", "itertools.pairwise"].contains n&&vs[0]?==some (rawInt _))=true then _ else _) Q E s
      rw[Zs (by intro h;rw[hn,QA] at h;cases h)]
      exact zh hQ))
def Itl (K:FG_) (a:Addr):It:=
 ⟨fun i H=>∃ xs x,uQ K H a xs/\xs[i]?=some x,fun i H x H'=>H'=H/\∀ xs,uQ K H a xs->xs[i]?=some x,fun i H=>∃ xs,uQ K H a xs/\xs.length<=i⟩
def Itt (K:FG_) (a:Addr):It:=
 ⟨fun i H=>∃ xs x,Bv K H a xs/\xs[i]?=some x,fun i H x H'=>H'=H/\∀ xs,Bv K H a xs->xs[i]?=some x,fun i H=>∃ xs,Bv K H a xs/\xs.length<=i⟩
def Itr (lo:Int) (n:Nat):It:=⟨fun i _=>i < n,fun i H x H'=>H'=H/\x=.int (lo+i),fun i _=>n<=i⟩
theorem V7 {P:Program} {w:World} {K:FG_} {tg:Expr} (a it:Addr):Turn P w K tg (Itl K a) [it] it (fun i h=>h.IsListIter it a i) where
 mem:=by simp
 obj:=fun i h st b hb=>by
  have e:b=it:=by simpa using hb
  subst e
  obtain⟨o,e,c,d⟩:=st
  exact⟨o,e,fun v z=>by rw[d] at z;cases z⟩
 keep:=fun i h h' st k=>st.at fun o e=>k it (by simp) o e
 item:=by
  intro X hP hw hK hc i pins s σ H E I hf st hg
  subst hP hw hK
  obtain⟨xs,x,hq,hx⟩:=hg
  obtain⟨its,rv,p,hz⟩:=I.list hq
  obtain⟨u,hu,ru⟩:=rv.get hx
  obtain⟨f0,f1,f2,f3,f4,f5⟩:=hf it (by simp)
  refine wpAny_pyNext_list_item st p.isList (x:=u) (by simpa using hu) fun h' st' sb=>?_
  have I1:Inv X pins σ H { s with heap:=h' }:=I.turned (t':=s.toks) (fun b o hb e=>(sb.2 b hb).trans e) f0 f1 f3 f4 f5
  obtain⟨o,e,c,d⟩:=id st'
  exact⟨u,rfl,PJ (s:={ s with heap:=h' }) e c d (by decide) ⟨x,H,I1,ru,⟨rfl,fun ys hy=>by rw[I.HJ hy hq];exact hx⟩,st',fun b hb=>(hf b hb).1⟩⟩
 done:=by
  intro X hP hw hK hc i pins s σ H E I hf st hg
  subst hP hw hK
  obtain⟨xs,hq,hx⟩:=hg
  obtain⟨its,rv,p,hz⟩:=I.list hq
  obtain⟨f0,f1,f2,f3,f4,f5⟩:=hf it (by simp)
  have hl:=rv.length
  exact wpAny_pyNext_list_end (I.ok.hd hc) st p.isList (by simp;omega) fun h' eb=>⟨rfl,I.turned (t':=s.toks) (fun b o hb e=>eb b o hb e) f0 f1 f3 f4 f5⟩
 self:=fun _ _ _ _ _ st h=>wpAny_pyIter_listiter st h
theorem SM {P:Program} {w:World} {K:FG_} {tg:Expr} (a it:Addr):Turn P w K tg (Itt K a) [it] it (fun i h=>h.IsTupleIter it a i) where
 mem:=by simp
 obj:=fun i h st b hb=>by
  have e:b=it:=by simpa using hb
  subst e
  obtain⟨o,e,c,d⟩:=st
  exact⟨o,e,fun v z=>by rw[d] at z;cases z⟩
 keep:=fun i h h' st k=>st.at fun o e=>k it (by simp) o e
 item:=by
  intro X hP hw hK hc i pins s σ H E I hf st hg
  subst hP hw hK
  obtain⟨xs,x,hq,hx⟩:=hg
  obtain⟨its,rv,p,hz⟩:=I.tuple hq
  obtain⟨u,hu,ru⟩:=rv.get hx
  obtain⟨f0,f1,f2,f3,f4,f5⟩:=hf it (by simp)
  refine wpAny_pyNext_tuple_item st (show s.heap.IsTuple a its.toArray from p) (x:=u) (by simpa using hu) fun h' st' sb=>?_
  have I1:Inv X pins σ H { s with heap:=h' }:=I.turned (t':=s.toks) (fun b o hb e=>(sb.2 b hb).trans e) f0 f1 f3 f4 f5
  obtain⟨o,e,c,d⟩:=id st'
  exact⟨u,rfl,PJ (s:={ s with heap:=h' }) e c d (by decide) ⟨x,H,I1,ru,⟨rfl,fun ys hy=>by rw[I.Ls hy hq];exact hx⟩,st',fun b hb=>(hf b hb).1⟩⟩
 done:=by
  intro X hP hw hK hc i pins s σ H E I hf st hg
  subst hP hw hK
  obtain⟨xs,hq,hx⟩:=hg
  obtain⟨its,rv,p,hz⟩:=I.tuple hq
  obtain⟨f0,f1,f2,f3,f4,f5⟩:=hf it (by simp)
  have hl:=rv.length
  exact wpAny_pyNext_tuple_end (I.ok.hd hc) st (show s.heap.IsTuple a its.toArray from p) (by simp;omega) fun h' eb=>⟨rfl,I.turned (t':=s.toks) (fun b o hb e=>eb b o hb e) f0 f1 f3 f4 f5⟩
 self:=fun _ _ _ _ _ st h=>wpAny_pyIter_tupleiter st h
theorem SN {P:Program} {w:World} {K:FG_} {tg:Expr} (it:Addr) (lo:Int) (n:Nat):Turn P w K tg (Itr lo n) [it] it (fun i h=>IsRangeIter h it (lo+(i:Nat) * 1) ((n:Int) - (i:Nat)) 1) where
 mem:=by simp
 obj:=fun i h st b hb=>by
  have e:b=it:=by simpa using hb
  subst e
  exact⟨_,st,fun v z=>by
   have z':Data.fields _=Data.cell v:=z
   cases z'⟩
 keep:=fun i h h' st k=>k it (by simp) _ st
 item:=by
  intro X hP hw hK hc i pins s σ H E I hf st hg
  subst hP hw hK
  obtain⟨f0,f1,f2,f3,f4,f5⟩:=hf it (by simp)
  have W:=Walks.range (prog:=X.prog) (w:=X.w) (I.ok.hd hc) it lo 1 n
  refine W.item i s _ _ hg st fun v h' tk hv st' kk=>?_
  obtain⟨t,rfl⟩:=hv
  have I1:Inv X pins σ H { s with heap:=h',toks:=tk }:=I.turned (fun b o hb e=>kk b o (by simpa using hb) e) f0 f1 f3 f4 f5
  refine⟨_,rfl,PJ (s:={ s with heap:=h',toks:=tk }) (n := "range_iterator") st' rfl rfl (by decide) ⟨.int (lo+i),H,I1,⟨t,?_⟩,⟨rfl,rfl⟩,st',fun b hb=>(hf b hb).1⟩⟩
  rw[Int.mul_one]
 done:=by
  intro X hP hw hK hc i pins s σ H E I hf st hg
  subst hP hw hK
  obtain⟨f0,f1,f2,f3,f4,f5⟩:=hf it (by simp)
  exact wpAny_pyNext_range_end (I.ok.hd hc) st (by have:n<=i:=hg;omega) fun h' eb=>⟨rfl,I.turned (t':=s.toks) (fun b o hb e=>eb b o hb e) f0 f1 f3 f4 f5⟩
 self:=fun _ _ _ _ _ st h=>wpAny_pyIter_rangeiter st h
end L2
namespace L2
open PySem PySem.Spec PyProof.Rows
section
variable {X:Cx} {tg:Expr}
theorem Yi {pins:List (Addr×Obj)} {σ:St} {H:Hp} {s:Shared} {R:It->Hp->Prop} {E:VP_} {lo hi:Int} {t u v:Tok} {tk:Nat} (I:Inv X pins σ H s) (h1 : -(2 ^ 62)<=lo) (h2:lo < 2 ^ 62) (h3 : -(2 ^ 62)<=hi) (h4:hi < 2 ^ 62)
  (q:R (Itr lo (hi - lo).toNat) H):wpAny (model X.prog X.w) X.A (pyIter (.ref s.heap.objs.size)) (PIE X pins σ tg R) E { s with heap:=s.heap.push { cls:=.type "range", data:=.fields #[.int lo t,.int hi u,.int 1 v] },toks:=tk }:=by
 refine wpAny_pyIter_range (IsRange.new ..) (small_one h1 h2 h3 h4) ?_
 have I1:Inv X pins σ H { s with heap:=s.heap.push { cls:=.type "range", data:=.fields #[.int lo t,.int hi u,.int 1 v] },toks:=tk }:=I.kept fun b o e=>ze _ e
 refine⟨(s.heap.push { cls:=.type "range", data:=.fields #[.int lo t,.int hi u,.int 1 v] }).objs.size,[(s.heap.push { cls:=.type "range", data:=.fields #[.int lo t,.int hi u,.int 1 v] }).objs.size],_,_,H,rfl,
  I1.kept (t':=tk) fun b o e=>ze _ e,SN _ lo (hi - lo).toNat,?_,fun b hb=>?_,q⟩
 ·have e1:lo+((0:Nat):Int) * 1=lo:=by simp
  have e2:(((hi - lo).toNat:Nat):Int) - ((0:Nat):Int)=Builtin.Range.rangeSize lo hi 1:=by rw[rangeSize_one];split<;>omega
  show IsRangeIter _ _ (lo+((0:Nat):Int) * 1) ((((hi - lo).toNat:Nat):Int) - ((0:Nat):Int)) 1
  rw[e1,e2]
  exact ZN _ rfl
 ·have e:b=(s.heap.push { cls:=.type "range", data:=.fields #[.int lo t,.int hi u,.int 1 v] }).objs.size:=by simpa using hb
  subst e
  exact I1.V6 (zt _) (I1.hok.fresh (zt _))
def afO (ta:TA):TI:=fun σ H R=>ta σ H fun vs H1=>∃ j:Int,vs=[.int j] ∧ -(2 ^ 62)<=j/\j < 2 ^ 62/\R (Itr 0 j.toNat) H1
theorem V8 {a:Expr} {ta:TA} {p pos:Pos} (hg:Gl X "range") (hm:X.mg "range" = none) (ha:PA X [a] ta) (hs:starEach [a] X.env=[(false,eval a X.env)]:=by rfl):PI X tg (.Call (.Name "range" p) [a] [] pos) (afO ta):=by
 intro pins s σ H R I h
 refine Call_ (HF I hg hm boot_range (PyProof.Rows.callWith_type1 (jy (ha pos pins s σ H _ I h) fun us s1 ⟨vs,H1,I1,r1,q1⟩=>?_) hs rfl))
 obtain⟨j,e,q1,q2,q⟩:=q1
 subst e
 cases r1 with
 |cons r rr=>
  cases rr
  obtain⟨t,rfl⟩:=r
  exact call_range_1 (Yi I1 (by omega) (by omega) q1 q2 (by simpa using q))
def aio (wi:TI) (g:TG) (tb:TS):TS:=fun D σ H=>wi σ H fun J H1=>∃ W:Nat->Nat->St->Hp->Prop,(∃ m,W 0 m σ H1)/\∀ i m σ H,W i m σ H →
 (J.stop i H/\D.nx σ H)\/(J.go i H/\∃ N:St->Hp->Prop,(∀ σ' H',N σ' H'->∃ m',m' < m/\W (i+1) m' σ' H')/\∀ x H',J.yld i H x H'->g x σ H' fun σ2 H2=>tb { D with nx:=N,ct:=N,bk:=D.nx } σ2 H2)
def Eb (fp:List Addr) (h:Heap):List (Addr×Obj):=fp.filterMap fun b=>(h.get? b).map fun o=>(b,o)
theorem vP {fp:List Addr} {h:Heap} {b:Addr} {o:Obj} (hb:b∈fp) (e:h.get? b=some o):(b,o)∈Eb fp h:=List.mem_filterMap.mpr ⟨b,hb,by rw[e];rfl⟩
theorem V9 {fp:List Addr} {h:Heap} {p:Addr×Obj} (hp:p∈Eb fp h):p.1∈fp/\h.get? p.1=some p.2:=by
 obtain⟨b,hb,e⟩:=List.mem_filterMap.mp hp
 cases q:h.get? b with
 |none=>rw[q] at e;cases e
 |some o=>
  rw[q] at e
  have e':(b,o)=p:=qq e
  subst e'
  exact⟨hb,q⟩
theorem Inv.pinned {pins:List (Addr×Obj)} {σ:St} {H:Hp} {s:Shared} {fp:List Addr} (I:Inv X pins σ H s) (hf:∀ b∈fp,yw X pins H b) (ho:∀ b∈fp,∃ o,s.heap.get? b=some o/\∀ v,o.data≠.cell v):Inv X (pins++Eb fp s.heap) σ H s:=
 I.G9 fun p hp=>(List.mem_append.mp hp).elim (fun z=>I.pin p (ZE _ z)) fun z=>by
  obtain⟨hb,e⟩:=V9 z
  obtain⟨f0,f1,f2,_⟩:=hf p.1 hb
  obtain⟨o,e',d⟩:=ho p.1 hb
  rw[e] at e';cases e'
  exact⟨e,f0,f1,f2,d⟩
theorem Inv.yF {pins pl:List (Addr×Obj)} {σ:St} {H:Hp} {s:Shared} (I:Inv X (pins++pl) σ H s):Inv X pins σ H s:=I.G9 fun p hp=>I.pin p (ZE _ (js _ hp))
theorem Yj {iter:Expr} {body:List Stmt} {wi:TI} {g:TG} {tb:TS} {pos:Pos} (hp:PassesOwn (model X.prog X.w) X.A X.env X.xe) (hc:X.calm=true) (hi:PI X tg iter wi) (hg:PG X tg g) (hb:Hf X body tb)
  (hs:∀ x,foldedSetIterable iter X.env x=pure x:=by intro _;rfl):PS X (.For tg iter body [] pos) (aio wi g tb):=by
 intro pins s σ H D I h
 refine wpAny_For (jy (hi pins s σ H _ I h) fun v s1 h1=>jy h1 fun itv s2 h2=>?_) hs
 obtain⟨it,fp,tn,J,H2,e,I2,T,st2,f2,W,⟨m0,w0⟩,turn⟩:=h2
 subst e
 have stat:∀ {H':Hp},(∀ b∈fp,H' b=none)->∀ b∈fp,yw X pins H' b:=fun hn b hb=>⟨hn b hb,(f2 b hb).2⟩
 refine codeAny_forLoop_any (fun n s'=>∃ i σ' H',Inv X pins σ' H' s'/\tn i s'.heap/\(∀ b∈fp,H' b=none)/\W i n σ' H') ?_ m0 ⟨0,σ,H2,I2,st2,fun b hb=>(f2 b hb).1,w0⟩
 rintro n s3 ⟨i,σ3,H3,I3,st3,fr3,w3⟩
 rcases turn i n σ3 H3 w3 with⟨stop,qn⟩|⟨go,N,hN,step⟩
 ·refine km hp (jy (T.done X rfl rfl rfl hc i pins s3 σ3 H3 X.xe I3 (stat fr3) st3 stop) fun r s4 ⟨hr,I4⟩=>?_)
  subst hr
  exact kn ⟨σ3,H3,I4,qn⟩
 ·refine km hp (jy (T.item X rfl rfl rfl hc i pins s3 σ3 H3 X.xe I3 (stat fr3) st3 go) fun r s4 ⟨u,hr,h4⟩=>?_)
  subst hr
  refine km hp (jy h4 fun _ s5 ⟨x,H5,I5,r5,y5,st5,fr5⟩=>?_)
  have I5':=I5.pinned (stat fr5) (T.obj _ _ st5)
  refine km hp (jy (hg _ s5 σ3 H5 x u _ I5' r5 (step x H5 y5)) fun _ s6 ⟨σ6,H6,I6,q6⟩=>?_)
  refine km hp (jy (hb _ s6 σ6 H6 _ I6 q6) fun f s7 q7=>?_)
  have again:∀ {σ7:St} {H7:Hp},Inv X (pins++Eb fp s5.heap) σ7 H7 s7->N σ7 H7->∃ m,m < n/\∃ i σ' H',Inv X pins σ' H' s7/\tn i s7.heap/\(∀ b∈fp,H' b=none)/\W i m σ' H':=fun {σ7 H7} I7 n7=>by
   obtain⟨m',hm,w7⟩:=hN σ7 H7 n7
   refine⟨m',hm,i+1,σ7,H7,I7.yF,T.keep _ _ _ st5 fun b hb o e=>(I7.pin (b,o) (ZE _ (ZE _ (vP hb e)))).1,fun b hb=>?_,w7⟩
   obtain⟨o,e,d⟩:=T.obj _ _ st5 b hb
   exact (I7.pin (b,o) (ZE _ (ZE _ (vP hb e)))).2.1
  cases f with
  |next=>obtain⟨σ7,H7,I7,n7⟩:=q7;exact again I7 n7
  |cont=>obtain⟨σ7,H7,I7,n7⟩:=q7;exact again I7 n7
  |brk=>obtain⟨σ7,H7,I7,q7⟩:=q7;exact⟨σ7,H7,I7.yF,q7⟩
  |ret v=>obtain⟨x7,σ7,H7,I7,r7,q7⟩:=q7;exact⟨x7,σ7,H7,I7.yF,r7,q7⟩
end
end L2
namespace L2
open PySem PySem.Spec PyProof.Rows
abbrev R2:=V->V->Hp->VK->Prop
def yG (X:Cx) (f:Value->Value->Sem Value) (r:R2):Prop:=
 ∀ (pins:List (Addr×Obj)) (s:Shared) (σ:St) (H:Hp) (x y:V) (v u:Value) (Q:VK),Inv X pins σ H s->RelV x v->RelV y u->r x y H Q →
  wpAny (model X.prog X.w) X.A (f v u) (EP X pins σ Q) X.xe s
def UnR (X:Cx) (f:Value->Sem Value) (r:V->Hp->VK->Prop):Prop:=
 ∀ (pins:List (Addr×Obj)) (s:Shared) (σ:St) (H:Hp) (x:V) (v:Value) (Q:VK),Inv X pins σ H s->RelV x v->r x H Q →
  wpAny (model X.prog X.w) X.A (f v) (EP X pins σ Q) X.xe s
def jz (X:Cx) (f:Value) (r:List V->Hp->VK->Prop):Prop:=
 ∀ (pins:List (Addr×Obj)) (s:Shared) (σ:St) (H:Hp) (xs:List V) (us:List Value) (Q:VK),Inv X pins σ H s->Vals xs us->r xs H Q →
  wpAny (model X.prog X.w) X.A (call f us) (EP X pins σ Q) X.xe s
def air (X:Cx) (r:V->Hp->(Bool->Hp->Prop)->Prop):Prop:=
 ∀ (pins:List (Addr×Obj)) (s:Shared) (σ:St) (H:Hp) (x:V) (v:Value) (Q:Bool->Hp->Prop),Inv X pins σ H s->RelV x v->r x H Q →
  wpAny (model X.prog X.w) X.A (truthy v) (TP X pins σ Q) X.xe s
def tOp (r:R2) (ta tb:TE):TE:=fun σ H Q=>ta σ H fun x H1=>tb σ H1 fun y H2=>r x y H2 Q
def rI (C:Int->Int->Prop) (g:Int->Int->V):R2:=fun x y H Q=>∃ i j,x=.int i/\y=.int j/\C i j/\Q (g i j) H
def rI0 (g:Int->Int->V):R2:=fun x y H Q=>∃ i j,x=.int i/\y=.int j/\Q (g i j) H
section
variable {X:Cx} {a b c:Expr} {ta tb tc:TE} {pos:Pos}
theorem adG (ha:PE X a ta) (hb:PE X b tb) {pins:List (Addr×Obj)} {s:Shared} {σ:St} {H:Hp} {R:V->V->Hp->Prop} (I:Inv X pins σ H s)
  (h:ta σ H fun x H1=>tb σ H1 fun y H2=>R x y H2) {Q:VP_} {f:Value->Value->Sem Value}
  (hf:∀ v u s2 x y H2,Inv X pins σ H2 s2->RelV x v->RelV y u->R x y H2->wpAny (model X.prog X.w) X.A (f v u) Q X.xe s2) :
  wpAny (model X.prog X.w) X.A (eval a X.env) (fun v s₁=>wpAny (model X.prog X.w) X.A (eval b X.env) (fun u s₂=>wpAny (model X.prog X.w) X.A (f v u) Q X.xe s₂) X.xe s₁) X.xe s:=by
 refine jy (ha pins s σ H _ I h) fun v s1 ⟨x,H1,I1,r1,q1⟩=>?_
 refine jy (hb pins s1 σ H1 _ I1 q1) fun u s2 ⟨y,H2,I2,r2,q2⟩=>?_
 exact hf v u s2 x y H2 I2 r1 r2 q2
theorem afQ {op:Operator} {r:R2} (ho:yG X (binaryOp op) r) (ha:PE X a ta) (hb:PE X b tb):PE X (.BinOp a op b pos) (tOp r ta tb):=by
 intro pins s σ H Q I h
 exact wpAny_BinOp (adG ha hb I h fun v u s2 x y H2 I2 rx ry q=>ho pins s2 σ H2 x y v u Q I2 rx ry q)
theorem opI {f:Value->Value->Sem Value} {C:Int->Int->Prop} {g:Int->Int->Int}
  (rule:∀ (i j:Int) (t u:Tok) (s:Shared) (Q:VP_) (E:VP_),C i j->Q (.int (g i j) s.toks) { s with toks:=s.toks+1 }->wpAny (model X.prog X.w) X.A (f (.int i t) (.int j u)) Q E s) :
  yG X f (rI C fun i j=>.int (g i j)):=by
 intro pins s σ H x y v u Q I rx ry h
 obtain⟨i,j,rfl,rfl,hc,q⟩:=h
 obtain⟨t,rfl⟩:=rx
 obtain⟨t',rfl⟩:=ry
 exact rule i j t t' s _ _ hc ⟨.int (g i j),H,I.tok _,⟨_,rfl⟩,q⟩
theorem ais {f:Value->Value->Sem Value} {g:Int->Int->Int}
  (rule:∀ (i j:Int) (t u:Tok) (s:Shared) (Q:VP_) (E:VP_),Q (.int (g i j) s.toks) { s with toks:=s.toks+1 }->wpAny (model X.prog X.w) X.A (f (.int i t) (.int j u)) Q E s) :
  yG X f (rI0 fun i j=>.int (g i j)):=by
 intro pins s σ H x y v u Q I rx ry h
 obtain⟨i,j,rfl,rfl,q⟩:=h
 obtain⟨t,rfl⟩:=rx
 obtain⟨t',rfl⟩:=ry
 exact rule i j t t' s _ _ ⟨.int (g i j),H,I.tok _,⟨_,rfl⟩,q⟩
theorem aaM {f:Value->Value->Sem Value} {g:Int->Int->Bool}
  (rule:∀ (i j:Int) (t u:Tok) (s:Shared) (Q:VP_) (E:VP_),Q (.bool (g i j)) s->wpAny (model X.prog X.w) X.A (f (.int i t) (.int j u)) Q E s) :
  yG X f (rI0 fun i j=>.bl (g i j)):=by
 intro pins s σ H x y v u Q I rx ry h
 obtain⟨i,j,rfl,rfl,q⟩:=h
 obtain⟨t,rfl⟩:=rx
 obtain⟨t',rfl⟩:=ry
 exact rule i j t t' s _ _ ⟨.bl (g i j),H,I,rfl,q⟩
def ait (i j:Int):Prop:=0 < j/\j < 1073741824
def aiu (i j:Int):Prop:=0<=j/\j<=1000000/\i.natAbs < 2 ^ 64
def adH (i j:Int):Prop:=(-(2 ^ 64) < i/\i < 2 ^ 64)\/(-(2 ^ 64) < j/\j < 2 ^ 64)
theorem adH.ok {i j:Int} (h:adH i j):IntMulOk i j:=by
 rcases h with⟨h1,h2⟩|⟨h1,h2⟩
 ·exact .of_left (intBits_le_64 h1 h2)
 ·exact .of_right (intBits_le_64 h1 h2)
theorem adI:yG X (binaryOp .Add) (rI0 fun i j=>.int (i+j)):=ais fun _ _ _ _ _ _ _ q=>add_int q
theorem adJ:yG X (binaryOp .Mult) (rI adH fun i j=>.int (i * j)):=opI fun _ _ _ _ _ _ _ hc q=>mul_int q hc.ok
theorem aaN:yG X (binaryOp .FloorDiv) (rI ait fun i j=>.int (i / j)):=opI fun i j _ _ _ _ _ hc q=>by
 have h1:(0:Int) < j:=hc.1
 have h2:j < 1073741824:=hc.2
 exact floordiv_int (by omega) (by rw[Int.fdiv_eq_ediv_of_nonneg i (by omega)];exact q) (.inl (PyProof.noPylong_small (by omega)))
theorem adK:yG X (binaryOp .Mod) (rI (fun _ j=>0 < j) fun i j=>.int (i % j)):=opI fun i j _ _ _ _ _ hc q=>by
 have h1:(0:Int) < j:=hc
 exact mod_int' (by omega) (by rw[Int.fmod_eq_emod_of_nonneg i (by omega)];exact q)
theorem adL:yG X (binaryOp .Pow) (rI aiu fun i j=>.int (i ^ j.toNat)):=opI fun _ _ _ _ _ _ _ hc q=>pow_int_small hc.1 hc.2.1 hc.2.2 q
theorem Yk {pins:List (Addr×Obj)} {σ:St} {H:Hp} {s:Shared} {Q:VK} {k k':Bool} (I:Inv X pins σ H s) (q:Q (.bl k) H) (e:k=k'):EP X pins σ Q (.bool k') s:=by
 subst e
 exact⟨.bl k,H,I,rfl,q⟩
theorem afR:yG X (compareOp .Lt) (rI0 fun i j=>.bl (decide (i < j))):=aaM fun _ _ _ _ _ _ _ q=>lt_int q
theorem afS:yG X (compareOp .LtE) (rI0 fun i j=>.bl (decide (i<=j))):=aaM fun _ _ _ _ _ _ _ q=>le_int q
theorem afT:yG X (compareOp .Gt) (rI0 fun i j=>.bl (decide (j < i))):=aaM fun _ _ _ _ _ _ _ q=>gt_int q
theorem afU:yG X (compareOp .GtE) (rI0 fun i j=>.bl (decide (j<=i))):=aaM fun _ _ _ _ _ _ _ q=>ge_int q
theorem Wa:yG X (compareOp .In) (fun x y H Q=>∃ i j,x=.str i/\y=.str j/\Q (.bl (!(Builtin.Str.occurrences j i 0 j.length 1).isEmpty)) H):=by
 intro pins s σ H x y v u Q I rx ry h
 obtain⟨i,j,rfl,rfl,q⟩:=h
 obtain⟨t,rfl⟩:=rx
 obtain⟨t',rfl⟩:=ry
 exact in_str (Yk I q rfl)
theorem adM:yG X (compareOp .Is) (fun x y H Q=>y=.non/\Q (.bl (decide (x=.non))) H):=by
 intro pins s σ H x y v u Q I rx ry h
 obtain⟨rfl,q⟩:=h
 cases ry
 refine is_none_gen (Yk I q ?_)
 cases x<;>first
  |(cases rx;rfl)
  |(obtain⟨t,rfl⟩:=rx;rfl)
theorem yG.or {f:Value->Value->Sem Value} {r r':R2} (h:yG X f r) (h':yG X f r'):yG X f (fun x y H Q=>r x y H Q\/r' x y H Q):=by
 intro pins s σ H x y v u Q I rx ry q
 rcases q with q|q
 ·exact h pins s σ H x y v u Q I rx ry q
 ·exact h' pins s σ H x y v u Q I rx ry q
theorem bN (b:Expr) {op:CmpOp} (h:op≠.In:=by decide) (h2:op≠.NotIn:=by decide):behindInMarks op b=false:=by
 have e1:(op==CmpOp.In)=false:=by cases op<;>first|rfl|exact absurd rfl h
 have e2:(op==CmpOp.NotIn)=false:=by cases op<;>first|rfl|exact absurd rfl h2
 cases b<;>simp[behindInMarks,e1,e2]
theorem aaO {op:CmpOp} {r:R2} (ho:yG X (compareOp op) r) (ha:PE X a ta) (hb:PE X b tb) (hm:behindInMarks op b=false):PE X (.Compare a [op] [b] pos) (tOp r ta tb):=by
 intro pins s σ H Q I h
 exact wpAny_Compare1 (adG ha hb I h fun v u s2 x y H2 I2 rx ry q=>ho pins s2 σ H2 x y v u Q I2 rx ry q) hm
def acB (t:TE):TT:=fun σ H Q=>t σ H fun x H'=>∃ k,x=.bl k/\Q k H'
theorem aaP {op:CmpOp} {r:R2} (ho:yG X (compareOp op) r) (ha:PE X a ta) (hb:PE X b tb) (hm:behindInMarks op b=false):PT X (.Compare a [op] [b] pos) (acB (tOp r ta tb)):=by
 intro pins s σ H Q I h
 refine wpAny_isTrue_Compare1 (jy (ha pins s σ H _ I h) fun v s1 ⟨x,H1,I1,r1,q1⟩=>jy (hb pins s1 σ H1 _ I1 q1) fun u s2 ⟨y,H2,I2,r2,q2⟩=>
  jy (ho pins s2 σ H2 x y v u _ I2 r1 r2 q2) fun c s3 ⟨z,H3,I3,r3,k,e,q3⟩=>?_) hm
 subst e
 cases r3
 exact ZZ ⟨H3,I3,q3⟩
def SQ (r r':R2) (ta tb tc:TE):TE:=fun σ H Q=>ta σ H fun x H1=>tb σ H1 fun y H2=>r x y H2 fun z H3=>∃ k,z=.bl k ∧
 (if k=true then tc σ H3 fun w' H4=>r' y w' H4 Q else Q (.bl false) H3)
theorem Yl {op op':CmpOp} {r r':R2} (ho:yG X (compareOp op) r) (ho':yG X (compareOp op') r') (ha:PE X a ta) (hb:PE X b tb) (hc:PE X c tc)
  (hm:lastMarks [op,op'] [b,c]=false:=by with_unfolding_all rfl):PE X (.Compare a [op,op'] [b,c] pos) (SQ r r' ta tb tc):=by
 intro pins s σ H Q I h
 refine Compare_chain (jy (ha pins s σ H _ I h) fun v s1 ⟨x,H1,I1,r1,q1⟩=>chain_link (jy (hb pins s1 σ H1 _ I1 q1) fun u s2 ⟨y,H2,I2,r2,q2⟩=>
  jy (ho pins s2 σ H2 x y v u _ I2 r1 r2 q2) fun d s3 ⟨z,H3,I3,r3,k,e,q3⟩=>?_)) hm
 subst e
 cases r3
 refine ZZ ?_
 cases k with
 |false=>exact ite_ff ⟨.bl false,H3,I3,rfl,q3⟩
 |true=>exact ite_tt (chain_last (jy (hc pins s3 σ H3 _ I3 q3) fun w' s4 ⟨z',H4,I4,r4,q4⟩=>ho' pins s4 σ H4 y z' u w' Q I4 r2 r4 q4))
theorem Ym {op op':CmpOp} {r r':R2} (ho:yG X (compareOp op) r) (ho':yG X (compareOp op') r') (ha:PE X a ta) (hb:PE X b tb) (hc:PE X c tc)
  (hm:lastMarks [op,op'] [b,c]=false:=by with_unfolding_all rfl):PT X (.Compare a [op,op'] [b,c] pos) (acB (SQ r r' ta tb tc)):=by
 intro pins s σ H Q I h
 refine isTrue_chain (jy (ha pins s σ H _ I h) fun v s1 ⟨x,H1,I1,r1,q1⟩=>test_link (jy (hb pins s1 σ H1 _ I1 q1) fun u s2 ⟨y,H2,I2,r2,q2⟩=>
  jy (ho pins s2 σ H2 x y v u _ I2 r1 r2 q2) fun d s3 ⟨z,H3,I3,r3,k,e,q3⟩=>?_)) hm
 subst e
 cases r3
 refine ZZ ?_
 cases k with
 |false=>
  obtain⟨k',e',q'⟩:=q3
  cases e'
  exact ite_ff ⟨H3,I3,q'⟩
 |true=>
  refine ite_tt (test_last (jy (hc pins s3 σ H3 _ I3 q3) fun w' s4 ⟨z',H4,I4,r4,q4⟩=>jy (ho' pins s4 σ H4 y z' u w' _ I4 r2 r4 q4) fun d' s5 ⟨z2,H5,I5,r5,k2,e2,q5⟩=>?_))
  subst e2
  cases r5
  exact ZZ ⟨H5,I5,q5⟩
def adN (K:FG_) (x:V) (H:Hp) (k:Bool):Prop:=
 match x with
 |.non=>k=false
 |.bl b=>k=b
 |.int i=>k=(i != 0)
 |.str y=>y.length<=sizeLine/\k=((y.length:Int) != 0)
 |.byt y=>y.size<=sizeLine/\k=((y.size:Int) != 0)
 |.ref p=>(∃ xs,uQ K H p xs/\k=!xs.isEmpty)\/(∃ xs,Bv K H p xs/\k=!xs.isEmpty)\/∃ kvs,H p=some (.dK kvs)/\k=!kvs.isEmpty
 |_=>False
theorem SX {κ:Type} {kvs:List (κ×V)} {vs:List (κ×Value)} (r:KV kvs vs):(!vs.isEmpty)=!kvs.isEmpty:=by
 cases r<;>rfl
theorem HN {xs:List V} {its:List Value} (r:Vals xs its):(!its.toArray.isEmpty)=!xs.isEmpty:=by
 cases r<;>simp
theorem Ed:(sizeLine:Nat) < 2 ^ 63:=by rw[sizeLine_eq];decide
theorem adO:air X (fun x H Q=>∃ k,adN X.K x H k/\Q k H):=by
 intro pins s σ H x v Q I rx h
 obtain⟨k,e,q⟩:=h
 have hl:=Ed
 have hs:sizeLine=16777216:=sizeLine_eq
 cases x with
 |non=>
  cases rx
  have e':k=false:=e
  subst e'
  exact truthy_none ⟨H,I,q⟩
 |bl b=>
  cases rx
  have e':k=b:=e
  subst e'
  exact ZZ ⟨H,I,q⟩
 |int i=>
  obtain⟨t,rfl⟩:=rx
  have e':k=(i != 0):=e
  subst e'
  exact PySem.P.truthy_int ⟨H,I,q⟩
 |str y=>
  obtain⟨t,rfl⟩:=rx
  obtain⟨hy,e'⟩:y.length<=sizeLine/\k=((y.length:Int) != 0):=e
  subst e'
  exact PySem.P.truthy_str (by omega) ⟨H,I.tok _,q⟩
 |byt y=>
  obtain⟨t,rfl⟩:=rx
  obtain⟨hy,e'⟩:y.size<=sizeLine/\k=((y.size:Int) != 0):=e
  subst e'
  exact PySem.W.truthy_bytes (by omega) ⟨H,I.tok _,q⟩
 |ref p=>
  cases rx
  have e':(∃ xs,uQ X.K H p xs/\k=!xs.isEmpty)\/(∃ xs,Bv X.K H p xs/\k=!xs.isEmpty)\/∃ kvs,H p=some (.dK kvs)/\k=!kvs.isEmpty:=e
  rcases e' with⟨xs,hx,e'⟩|⟨xs,hx,e'⟩|⟨kvs,hx,e'⟩
  ·subst e'
   obtain⟨its,r,pl,hz⟩:=I.list hx
   have hlen:=r.length
   exact wpAny_truthy_list pl.isList (by simp only[zr];omega) ⟨H,I.tok _,by rw[HN r];exact q⟩
  ·subst e'
   obtain⟨its,r,pl,hz⟩:=I.tuple hx
   have hlen:=r.length
   exact truthy_tuple pl (by simp only[zr];omega) ⟨H,I.tok _,by rw[HN r];exact q⟩
  ·subst e'
   obtain⟨hz,hS,vs,r,m⟩:kvs.length<=sizeLine/\(p==sysModules)=false/\∃ vs,KV kvs vs/\s.heap.DictOf (pW X.prog X.w) p vs:=I.hok p _ hx
   have hlen:kvs.length=vs.length:=Paired.length r
   exact wpAny_truthy_dict hS m (by omega) ⟨H,I.tok _,by rw[SX r];exact q⟩
 |_=>exact (show False from e).elim
theorem Yn (ha:PE X a ta) (he:∀ whole,isTrue a X.env whole=(do let v <-whole;standAt a.pos;holding [v] (truthy v))) :
  PT X a (fun σ H Q=>ta σ H fun x H'=>∃ k,adN X.K x H' k/\Q k H'):=by
 intro pins s σ H Q I h
 exact isTrue_plain (jy (ha pins s σ H _ I h) fun v s1 ⟨x,H1,I1,r1,q1⟩=>adO pins s1 σ H1 x v Q I1 r1 q1) (he _)
theorem S5:yG X (binaryOp .Add) (fun x y H Q=>∃ i j,x=.str i/\y=.str j/\i.length+j.length<=sizeLine/\Q (.str (i++j)) H):=by
 intro pins s σ H x y v u Q I rx ry h
 obtain⟨i,j,rfl,rfl,hz,q⟩:=h
 obtain⟨t,rfl⟩:=rx
 obtain⟨t',rfl⟩:=ry
 exact add_str (fun t' tk=>⟨.str (i++j),H,I.tok _,⟨_,rfl⟩,q⟩) hz
theorem vals1 {x:V} {us:List Value} (r:Vals [x] us):∃ u,us=[u]/\RelV x u:=by
 cases r with
 |cons r1 r2=>cases r2;exact⟨_,rfl,r1⟩
theorem vals2 {x y:V} {us:List Value} (r:Vals [x,y] us):∃ u w',us=[u,w']/\RelV x u/\RelV y w':=by
 cases r with
 |cons r1 r2=>
  cases r2 with
  |cons r3 r4=>cases r4;exact⟨_,_,rfl,r1,r3⟩
theorem Yo:jz X (.builtin "abs") (fun xs H Q=>∃ i,xs=[.int i]/\Q (.int (if i < 0 then -i else i)) H):=by
 intro pins s σ H xs us Q I r h
 obtain⟨i,rfl,q⟩:=h
 obtain⟨u,rfl,t,rfl⟩:=vals1 r
 exact call_abs_int fun u tk=>⟨.int (if i < 0 then -i else i),H,I.tok _,⟨_,rfl⟩,q⟩
theorem Wb:jz X (.type "int") (fun xs H Q=>(∃ i,xs=[.int i]/\Q (.int i) H)\/∃ k,xs=[.bl k]/\Q (.int (if k then 1 else 0)) H):=by
 intro pins s σ H xs us Q I r h
 rcases h with⟨i,rfl,q⟩|⟨k,rfl,q⟩
 ·obtain⟨u,rfl,t,rfl⟩:=vals1 r
  exact call_int_int ⟨.int i,H,I,⟨_,rfl⟩,q⟩
 ·obtain⟨u,rfl,r1⟩:=vals1 r
  cases r1
  exact call_int_bool ⟨.int (if k then 1 else 0),H,I.tok _,⟨_,rfl⟩,q⟩
end
end L2
namespace L2
open PySem PySem.Spec PyProof.Rows
section
variable {prog:Program} {w:World} {A:Around} {E:VP_} {s:Shared} {K:FG_} {x dx C f:Addr} {mA:Str->Option Value} {name:Str} {v:Value}
end
section
variable {P:Program} {w:World} {H H':Hp} {h h':Heap} {a C dx:Addr} {fs fs':List (Str×V)}
end
structure Cls (K:FG_) (C:Addr):Prop where
 pg:PySem.W.plainGet K C Str.empty=true
 hd:PySem.W.hasDictIn K C=true
 po:PySem.W.plainOver K C=true
 sa:PySem.W.findIn K (.ref C) "__setattr__" = some (some (.builtin "object.__setattr__"))
theorem Cls.get {K:FG_} {C:Addr} (c:Cls K C) (f:Str):PySem.W.plainGet K C f=true:=c.pg
section
variable {X:Cx} {pins:List (Addr×Obj)} {σ:St} {H:Hp} {s:Shared} {a C dx:Addr} {fs:List (Str×V)} {f:Str} {v:V} {A:Around} {E:VP_}
theorem aaQ {prog:Program} {w:World} {env:Env} {e:Expr} {f:Str} {pos:Pos} {s:Shared} {Q:VP_} (hb:attributeBase e f env (eval e env)=eval e env)
  (h:wpAny (model prog w) A (eval e env) (fun o s₁=>wpAny (model prog w) A (getAttr o f true) Q E s₁) E s):wpAny (model prog w) A (eval (.Attribute e f pos) env) Q E s:=
 Attribute_any_ h (by rw[arm_eval_Attribute,hb])
end
section
variable {X:Cx} {o e value:Expr} {f:Str} {pos pos' tpos:Pos} {ta tv:TE}
end
section
variable {X:Cx} {pins:List (Addr×Obj)} {σ:St} {H:Hp} {s:Shared} {A:Around} {E:VP_} {Q:VP_} {c:Value} {b:Bool}
end
end L2
namespace L2
open PySem PySem.Spec PyProof.Rows
structure jU (k:Nat) (A:Around):Prop where
 hd:A.handled=none
 dp:A.depth+3 * k+5 < recursionLimit
 un:A.units+16 * k+200 < cLine
theorem jU.mono {j k:Nat} {A:Around} (r:jU k A) (h:j<=k):jU j A:=⟨r.hd,by have:=r.dp;omega,by have:=r.un;omega⟩
theorem jU.deeper {k:Nat} {A:Around} (r:jU (k+1) A) (env:Env):jU k (A.deeper env):=
 ⟨r.hd,by have:=r.dp;show A.depth+1+3 * k+5 < _;omega,by have:=r.un;show A.units+3+16 * k+200 < _;omega⟩
theorem jU.in1 {k:Nat} {A:Around} (r:jU (k+1) A):jU k A.in1:=
 ⟨r.hd,by have:=r.dp;show A.depth+3 * k+5 < _;omega,by have:=r.un;show A.units+1+16 * k+200 < _;omega⟩
theorem S7 {A:Around} {C:Addr} {us:List Value} {kw:List (Str×Value)}:(A.under (.builtin "type.__call__" ⟨.ref C::us,kw⟩)).depth=A.depth+1:=by
 first|rfl|simp[Around.under,Code.weight,Code.isCreation,Code.isGuard,Code.isCaller,Code.frames,Code.isFrame,guardIds]
theorem S8 {A:Around} {C:Addr} {us:List Value} {kw:List (Str×Value)}:(A.under (.builtin "type.__call__" ⟨.ref C::us,kw⟩)).units=A.units+1:=by
 first|rfl|simp[Around.under,Code.cUnits,Code.frames,Code.isFrame]
theorem jU.make {k:Nat} {A:Around} (r:jU (k+1) A) (C:Addr) (us:List Value) (kw:List (Str×Value)):jU k (A.under (.builtin "type.__call__" ⟨.ref C::us,kw⟩)):=
 ⟨r.hd,by have:=r.dp;rw[S7];omega,by have:=r.un;rw[S8];omega⟩
theorem jU.depth {k:Nat} {A:Around} (r:jU k A):A.depth < recursionLimit:=by have:=r.dp;omega
theorem jU.units {k:Nat} {A:Around} (r:jU k A):A.units+64 < cLine:=by have:=r.un;omega
def Yp:TA:=fun _ H Q=>Q [] H
def BP (ta:TE) (tr:TA):TA:=fun σ H Q=>ta σ H fun x H1=>tr σ H1 fun xs H2=>Q (x::xs) H2
section
variable {X:Cx} {e:Expr} {es:List Expr} {te:TE} {t:TA} {pos:Pos}
theorem lX:PA X [] Yp:=fun _ _ _ _ H Q I h=>Calls.spliced_nil ⟨[],H,I,.nil,h⟩
theorem cG (ha:PE X e te) (hr:PA X es t) (hs:starEach (e::es) X.env=(false,eval e X.env)::starEach es X.env:=by rfl):PA X (e::es) (BP te t):=by
 intro pos pins s σ H Q I h
 rw[hs]
 show wpAny _ _ (spliced ((false,eval e X.env)::backTo pos (starEach es X.env))) _ _ s
 refine JJ (jy (ha pins s σ H _ I h) fun u s1 ⟨x,H1,I1,r1,q1⟩=>?_)
 exact jy (hr pos pins s1 σ H1 _ I1 q1) fun us s2 ⟨xs,H2,I2,r2,q2⟩=>⟨x::xs,H2,I2,.cons r1 r2,q2⟩
def aiv (t:TA):TE:=fun σ H Q=>t σ H fun xs H1=>xs.length<=sizeLine/\∀ p,H1 p=none->Q (.ref p) (upd H1 p (.tup xs))
def aiw (t:TA):TE:=fun σ H Q=>t σ H fun xs H1=>xs.length<=sizeLine/\∀ p,H1 p=none->Q (.ref p) (upd H1 p (.lst xs))
theorem Yq {x1} (h:PA X es t):PE X (.Tuple es x1 pos) (aiv t):=by
 intro pins s σ H Q I hq
 refine wpAny_Tuple_spliced (jy (h pos pins s σ H _ I hq) fun us s1 ⟨xs,H1,I1,r,z,q⟩=>⟨by rw[<-r.length];exact z,?_⟩)
 have hf:H1 s1.heap.objs.size=none:=I1.hok.fresh (zt _)
 refine⟨.ref s1.heap.objs.size,upd H1 s1.heap.objs.size (.tup xs),I1.laid (t':=s1.toks) (fun b u e=>ze _ e) (zt _) ?_,rfl,q _ hf⟩
 exact⟨z,us,r,⟨_,ZN _ rfl,rfl,⟨_,rfl⟩,rfl⟩⟩
theorem adP (h:PA X es t):PE X (.List es pos) (aiw t):=by
 intro pins s σ H Q I hq
 refine wpAny_List_spliced (jy (h pos pins s σ H _ I hq) fun us s1 ⟨xs,H1,I1,r,z,q⟩=>⟨by rw[<-r.length];exact z,?_⟩)
 have hf:H1 s1.heap.objs.size=none:=I1.hok.fresh (zt _)
 refine⟨.ref s1.heap.objs.size,upd H1 s1.heap.objs.size (.lst xs),I1.laid (t':=s1.toks) (fun b u e=>ze _ e) (zt _) ?_,rfl,q _ hf⟩
 exact⟨z,us,0,r,ZN _ rfl⟩
end
abbrev Sp:=List V->Hp->VK->XK->Prop
abbrev Sv:=List Env->Hp->Shared->XK->Value->Shared->Prop
structure Kv (P:Program) (w:World) (K:FG_) (mg:Str->Option Value) (base:Heap) (A:Around) (outer:List Env) (s:Shared) (H:Hp):Prop where
 frames:A.frames=some outer
 mod:Mod K mg base
 bs:∀ b o,base.get? b=some o->s.heap.get? b=some o/\H b=none
 XR:base.objs.size<=s.heap.objs.size
 zY:s.heap.FunFrames base outer
 frf:∀ b∈frs outer,H b=none
 hok:Ba P w H s.heap
 bare:AllBare s.gens
def CE (outer:List Env) (P:Program) (w:World) (H:Hp) (s:Shared) (Q:VK) (u:Value) (s':Shared):Prop:=
 ∃ v H',s'.os=s.os/\AllBare s'.gens/\Un (frs outer) [] H H' s.heap s'.heap/\Ba P w H' s'.heap/\RelV v u/\Q v H'
def CR (CX:Sv) (outer:List Env) (P:Program) (w:World) (H:Hp) (s:Shared) (Q:VK) (E:XK) (r:Result) (s':Shared):Prop:=
 match r with
 |.ok (.ret u)=>CE outer P w H s Q u s'
 |.ok _=>False
 |.error e=>CX outer H s E e s'
structure bF (P:Program) (w:World) (K:FG_) (mg:Str->Option Value) (base:Heap) (CX:Sv) (k:Nat) (f:Addr) (fd:FuncData) (ps:LS_) (sp:Sp):Prop where
 len:∀ vs H Q E,sp vs H Q E->vs.length=ps.length
 run:∀ (A:Around) (outer:List Env) (s:Shared) (H:Hp) (args:Args) (us:List Value) (vs:List V) (Q:VK) (E:XK),jU k A->Kv P w K mg base A outer s H->BindsTo s fd args (ps.zip us)->Vals vs us->sp vs H Q E →
  codeAny (model P w) A (.call (.ref f) args) (CR CX outer P w H s Q E) s
theorem bF.mono {P:Program} {w:World} {K:FG_} {mg:Str->Option Value} {base:Heap} {CX:Sv} {j k:Nat} {f:Addr} {fd:FuncData} {ps:LS_} {sp:Sp} (F:bF P w K mg base CX j f fd ps sp) (h:j<=k) :
  bF P w K mg base CX k f fd ps sp:=⟨F.len,fun A outer s H args us vs Q E hr=>F.run A outer s H args us vs Q E (hr.mono h)⟩
theorem bF.imp {P:Program} {w:World} {K:FG_} {mg:Str->Option Value} {base:Heap} {CX:Sv} {k:Nat} {f:Addr} {fd:FuncData} {ps:LS_} {sp sp':Sp} (F:bF P w K mg base CX k f fd ps sp)
  (h:∀ vs H Q E,sp' vs H Q E->sp vs H Q E):bF P w K mg base CX k f fd ps sp':=
 ⟨fun vs H Q E q=>F.len vs H Q E (h _ _ _ _ q),fun A outer s H args us vs Q E hr he hb hv hs=>F.run A outer s H args us vs Q E hr he hb hv (h _ _ _ _ hs)⟩
theorem Kv.make {P:Program} {w:World} {K:FG_} {mg:Str->Option Value} {base:Heap} {A:Around} {outer:List Env} {s:Shared} {H:Hp} (e:Kv P w K mg base A outer s H) (C:Addr) (us:List Value) (kw:List (Str×Value)) :
  Kv P w K mg base (A.under (.builtin "type.__call__" ⟨.ref C::us,kw⟩)) outer s H:=⟨by first|exact e.frames|(simpa [Around.under,Code.envs,Code.isFrame,pushEnvs] using e.frames),e.mod,e.bs,e.XR,e.zY,e.frf,e.hok,e.bare⟩
theorem Kv.in1 {P:Program} {w:World} {K:FG_} {mg:Str->Option Value} {base:Heap} {A:Around} {outer:List Env} {s:Shared} {H:Hp} (e:Kv P w K mg base A outer s H) :
  Kv P w K mg base A.in1 outer s H:=⟨e.frames,e.mod,e.bs,e.XR,e.zY,e.frf,e.hok,e.bare⟩
section
variable {X:Cx} {pins:List (Addr×Obj)} {σ:St} {H:Hp} {s s':Shared}
theorem Inv.env0 (I:Inv X pins σ H s):Kv X.prog X.w X.K X.mg X.base X.A X.stack s H:=
 ⟨I.ok.frames,I.ok.mod,I.bs,zv I.ok.XR I.sz,I.stack,I.G8,I.hok,I.bare⟩
theorem Inv.after {Q:VK} {u:Value} (I:Inv X pins σ H s) (h:CE X.stack X.prog X.w H s Q u s'):EP X pins σ Q u s':=by
 obtain⟨v,H',os,bare,un,hok,r,q⟩:=h
 obtain⟨hh,g,d,t,os'⟩:=s'
 obtain rfl:os'=s.os:=os
 exact⟨v,H',I.call (h':=hh) (g':=g) (d':=d) (t':=t) (ch:=[]) un hok bare (fun b z=>absurd z (by simp)),r,q⟩
end
def afW (sp:Sp) (dvs:List V) (E:XK) (t:TA):TE:=fun σ H Q=>t σ H fun vs H1=>sp (vs++dvs) H1 Q E
def Binds (K:FG_) (fd:FuncData) (ps:LS_) (ds:List Value):Prop:=
 ∀ (s:Shared) (us:List Value),K.In s.heap->(us++ds).length=ps.length->BindsTo s fd ⟨us,[]⟩ (ps.zip (us++ds))
theorem Binds.all {K:FG_} {fd:FuncData} {ps:LS_} (h:∀ us:List Value,us.length=ps.length->bindArgs fd ⟨us,[]⟩=pure (ps.zip us)):Binds K fd ps []:=fun s us _ hl=>by
 rw[qV] at hl ⊢
 exact .of_eq (h us hl)
def Passes (CX:Sv) (X:Cx) (E:XK):Prop:=∀ (pins:List (Addr×Obj)) (σ:St) (H:Hp) (s:Shared) (e:Value) (s':Shared),Inv X pins σ H s->CX X.stack H s E e s'->X.xe e s'
section
variable {X:Cx} {CX:Sv} {k:Nat} {f C:Addr} {fd:FuncData} {ps:LS_} {sp:Sp} {dvs:List V} {ds:List Value} {E:XK} {x m:Str} {p pos apos:Pos} {e o:Expr} {es:List Expr} {ta:TE} {t:TA}
theorem adQ {pins:List (Addr×Obj)} {σ:St} {H:Hp} {s:Shared} {Q:VK} {us:List Value} {vs:List V} (F:bF X.prog X.w X.K X.mg X.base CX k f fd ps sp) (hr:jU k X.A) (hb:Binds X.K fd ps ds) (hd:Vals dvs ds) (hx:Passes CX X E)
  (I:Inv X pins σ H s) (r:Vals vs us) (h:sp (vs++dvs) H Q E):wpAny (model X.prog X.w) X.A (call (.ref f) us) (EP X pins σ Q) X.xe s:=by
 have r2:Vals (vs++dvs) (us++ds):=r.append hd
 have hl:(us++ds).length=ps.length:=by rw[<-r2.length];exact F.len _ _ _ _ h
 refine ky (kr (F.run X.A X.stack s H ⟨us,[]⟩ (us++ds) (vs++dvs) Q E hr I.env0 (hb s us I.Ku hl) r2 h) fun r s' hq=>?_)
 cases r with
 |error e=>exact hx pins σ H s e s' I hq
 |ok fl=>
  cases fl with
  |ret u=>exact I.after hq
  |next=>exact False.elim hq
  |brk=>exact False.elim hq
  |cont=>exact False.elim hq
theorem UG (F:bF X.prog X.w X.K X.mg X.base CX k f fd ps sp) (hr:jU k X.A) (hg:Gl X x) (hm:X.mg x=some (.ref f)) (hk:PySem.W.keepIn X.K (.ref f)=true) (hb:Binds X.K fd ps ds) (hd:Vals dvs ds) (hx:Passes CX X E)
  (ha:PA X (e::es) t) (hdb:(x==("__debug__" : Str))=false:=by decide) (he:starEach (e::es) X.env=(false,eval e X.env)::starEach es X.env:=by rfl) (hpl:(backTo pos (starEach es X.env)).any (·.1)=false:=by rfl) :
  PE X (.Call (.Name x p) (e::es) [] pos) (afW sp dvs E t):=by
 intro pins s σ H Q I h
 refine JE (BL I hg hm ?_ hdb)
 refine PySem.W.callWith_K (h₀:=X.base) I.ok.mod.kin hk (jy (ha pos pins s σ H _ I h) fun us s1 ⟨vs,H1,I1,r,q⟩=>⟨I1.Ku,?_⟩) he hpl
 exact adQ F hr hb hd hx I1 r q
end
section
variable {X:Cx} {CX:Sv} {k:Nat} {f C:Addr} {fd:FuncData} {ps ks:LS_} {sp:Sp} {E:XK} {x m:Str} {p pos apos kpos:Pos} {e o:Expr} {es:List Expr} {kws:List Keyword} {te ta:TE} {t tk:TA} {nm:Option Str}
variable {g:List Value->List Value->List Value} {gV:List V->List V->List V}
end
structure bf (N P:LS_) (sc:Scope):Prop where
 kind:sc.kind=.function
 co:sc.isCoroutine=false
 gen:sc.isGenerator=false
 nd:N.Nodup
 pre:N.take P.length=P
 par:∀ x∈P,sc.names.lookup x=some .local\/sc.names.lookup x=some .cell
 adR:∀ y∈sc.names,y.2≠.free
theorem Lx {kindOf:Str->Option NameKind} {x:Str}:∀ {binds:List (Str×Value)} {m:Str->Option Value},(∀ v,(x,v)∉binds)->bindL kindOf binds m x=m x
 |[],_,_=>rfl
 |(n,v)::r,m,h=>by
  unfold bindL
  rw[Lx fun w hw=>h w (zI _ hw)]
  split
  ·have:x≠n:=by rintro rfl;exact h v zS
   simp[this]
  ·rfl
theorem Ly {kindOf:Str->Option NameKind} {x:Str}:∀ {binds:List (Str×Value)} {m:Str->Option Value},(∀ v,(x,v)∉binds)->bindC kindOf binds m x=m x
 |[],_,_=>rfl
 |(n,v)::r,m,h=>by
  unfold bindC
  rw[Ly fun w hw=>h w (zI _ hw)]
  split
  ·rfl
  ·have:x≠n:=by rintro rfl;exact h v zS
   simp[this]
theorem Lz {kindOf:Str->Option NameKind} {x:Str} {v:Value}:∀ {P:LS_} {vs:List Value} {i:Nat} {m:Str->Option Value},P.Nodup->P[i]?=some x->vs[i]?=some v->kindOf x=some .local →
  bindL kindOf (P.zip vs) m x=some v
 |[],_,_,_,_,h,_,_=>by simp at h
 |_::_,[],_,_,_,_,h,_=>by simp at h
 |p::P,w::vs,0,m,nd,h1,h2,hk=>by
  simp at h1 h2;subst h1;subst h2
  show bindL kindOf ((p,w)::P.zip vs) m p=_
  unfold bindL
  rw[Lx fun v hv=>(List.nodup_cons.mp nd).1 (List.of_mem_zip hv).1,zo hk]
  simp
 |p::P,w::vs,i+1,m,nd,h1,h2,hk=>by
  show bindL kindOf ((p,w)::P.zip vs) m x=_
  unfold bindL
  exact Lz (i:=i) (List.nodup_cons.mp nd).2 (by simpa using h1) (by simpa using h2) hk
theorem LC {kindOf:Str->Option NameKind} {x:Str} {v:Value}:∀ {P:LS_} {vs:List Value} {i:Nat} {m:Str->Option Value},P.Nodup->P[i]?=some x->vs[i]?=some v->kindOf x≠some .local →
  bindC kindOf (P.zip vs) m x=some v
 |[],_,_,_,_,h,_,_=>by simp at h
 |_::_,[],_,_,_,_,h,_=>by simp at h
 |p::P,w::vs,0,m,nd,h1,h2,hk=>by
  simp at h1 h2;subst h1;subst h2
  show bindC kindOf ((p,w)::P.zip vs) m p=_
  unfold bindC
  rw[Ly fun v hv=>(List.nodup_cons.mp nd).1 (List.of_mem_zip hv).1,Zs hk]
  simp
 |p::P,w::vs,i+1,m,nd,h1,h2,hk=>by
  show bindC kindOf ((p,w)::P.zip vs) m x=_
  unfold bindC
  exact LC (i:=i) (List.nodup_cons.mp nd).2 (by simpa using h1) (by simpa using h2) hk
def start (N:LS_) (vs:List V):St:=vs.map some++List.replicate (N.length - vs.length) none
def Bb (CX:Sv) (P:Program) (w:World) (K:FG_) (mg:Str->Option Value) (base:Heap) (N:LS_) (qual:Str) (scope:Scope) (f:Addr) (cd:Value) (A:Around) (outer:List Env) (s:Shared) (H:Hp) (E:XK):Cx where
 prog:=P
 w:=w
 K:=K
 mg:=mg
 base:=base
 A:=A.deeper (envOfC qual scope s.heap.objs.size f cd)
 N:=N
 s₀:=s
 H₀:=H
 env:=envOfC qual scope s.heap.objs.size f cd
 outer:=outer
 stack:=envOfC qual scope s.heap.objs.size f cd::outer
 ex:=[]
 calm:=true
 fn:=fun _=>true
 pn:=[]
 xe:=fun e s'=>wpAny (model P w) (A.deeper (envOfC qual scope s.heap.objs.size f cd)) (leaving (envOfC qual scope s.heap.objs.size f cd) e) (fun _ s''=>CX outer H s E e s'') (fun e' s''=>CX outer H s E e' s'') s'
theorem PK {sc:Scope} {n:Nat} {x:Str} (h:sc.names.lookup x=some .cell):∃ c,(cellsFrom n sc.names []).lookup x=some c:=by
 have q:=PySem.W.cellsFrom_some sc.names n [] (.inl h)
 exact Option.isSome_iff_exists.mp q
theorem Wc {CX:Sv} {P:Program} {w:World} {K:FG_} {mg:Str->Option Value} {base:Heap} {N ps:LS_} {qual:Str} {scope:Scope} {f:Addr} {cd:Value} {A:Around} {outer:List Env} {s s1:Shared} {H:Hp} {E:XK} {us:List Value} {vs:List V}
  (S:bf N ps scope) (hd:A.handled=none) (e0:Kv P w K mg base A outer s H) (hl:vs.length=ps.length) (r:Vals vs us)
  (x:InCallC s s.heap.objs.size (bindL (envOfC qual scope s.heap.objs.size f cd).kindOf (ps.zip us) fun _=>none) (cellsFrom (s.heap.objs.size+1) scope.names []) (bindC (envOfC qual scope s.heap.objs.size f cd).kindOf (ps.zip us) fun _=>none) s1) :
  Inv (Bb CX P w K mg base N qual scope f cd A outer s H E) [] (start N vs) H s1:=by
 have hpl:ps.length<=N.length:=by have:=congrArg List.length S.pre;rw[kc] at this;omega
 obtain⟨h1,tk,rfl,hk⟩:=x.done
 have noA:∀ b:Addr,b∉(Bb CX P w K mg base N qual scope f cd A outer s H E).ex:=fun b z=>absurd (show b∈([]:List Addr) from z) (by simp)
 refine⟨⟨e0.mod,S.kind,rfl,rfl,zt _,fun y z c h1 h2=>?_,fun y hy=>?_,fun y c _ h=>?_,fun _=>hd,Around.frames_deeper e0.frames,.inr ⟨rfl,rfl⟩,fun b z=>absurd z (noA b),e0.bs,e0.XR,fun b _ _=>noA b,fun b z=>absurd z (noA b),e0.zY,e0.frf⟩,
  rfl,e0.bare,Un.kept hk,⟨_,x.toInCall.ns,fun i y v h1 h2 h3=>?_⟩,fun y c h=>⟨_,x.cell y c h⟩,e0.hok.fresh (zt _),fun y c h=>?_,fun p hp=>absurd (show p∈([]:List (Addr×Obj)) from hp) (by simp),e0.hok.kept hk,?_⟩
 ·exact name_of_addr x.apart (QY h1) (QY h2)
 ·have hy:scope.names.lookup y=some .cell\/scope.names.lookup y=some .free:=hy
  rcases hy with hy|hy
  ·exact PK hy
  ·exact absurd rfl (S.adR _ (QY hy))
 ·exact ku (x.above y c (QY h))
 ·have hi:i < vs.length:=by
   unfold start at h2
   by_cases hi:i < vs.length
   ·exact hi
   ·rw[qi (by simpa using hi)] at h2
    rw[qB] at h2
    split at h2<;>cases h2
  have ha:vs[i]?=some v:=by
   unfold start at h2
   rw[ZY (by simpa using hi),Z3] at h2
   cases e:vs[i]? with
   |none=>rw[e] at h2;cases h2
   |some a=>rw[e] at h2;cases h2;rfl
  obtain⟨u,hu,rv⟩:=r.get ha
  have hp:ps[i]?=some y:=by
   rw[<-S.pre,List.getElem?_take_of_lt (by omega)];exact h1
  have ndP:ps.Nodup:=by rw[<-S.pre];exact S.nd.sublist (List.take_sublist _ _)
  refine⟨u,rv,?_⟩
  rcases S.par y (ki hp) with k|k
  ·exact .inl ⟨k,Lz ndP hp hu k⟩
  ·obtain⟨c,e⟩:=PK (n:=s.heap.objs.size+1) k
   refine .inr ⟨.inl k,c,e,?_⟩
   have q:=x.cell y c e
   rw[LC ndP hp hu (by show scope.names.lookup y≠_;rw[k];decide)] at q
   exact q
 ·exact e0.hok.fresh (ku (x.above y c (QY h)))
 ·unfold start
  show _=N.length
  rw[zl,zC,List.length_replicate]
  omega
theorem acD {CX:Sv} {P:Program} {w:World} {K:FG_} {mg:Str->Option Value} {base:Heap} {k:Nat} {f:Addr} {name qual:Str} {params:Arguments} {body:List Stmt} {scope:Scope} {dV kV doc pm cdv ct oc:Value} {an od:Option Addr}
  {osl:Array (Option Value)} {N ps:LS_} {sp:Sp} (lk:K.lookup f=some ⟨oc,od,.func (PySem.W.fnOf name qual params body scope dV kV doc pm an cdv ct),osl⟩) (hcd:PySem.W.codeIn K cdv qual=true) (S:bf N ps scope)
  (len:∀ vs H Q E,sp vs H Q E->vs.length=ps.length)
  (hbody:∀ (A:Around) (outer:List Env) (s:Shared) (H:Hp) (vs:List V) (Q:VK) (E:XK),jU k (A.deeper (envOfC qual scope s.heap.objs.size f cdv))->sp vs H Q E →
   ∃ t,Hf (Bb CX P w K mg base N qual scope f cdv A outer s H E) body t/\t { nx:=fun _ H'=>Q .non H',rt:=Q } (start N vs) H) :
  bF P w K mg base CX (k+1) f (PySem.W.fnOf name qual params body scope dV kV doc pm an cdv ct) ps sp:=by
 refine⟨len,fun A outer s H args us vs Q E hr e0 hb r hsp=>?_⟩
 have hl:=len _ _ _ _ hsp
 have KX:K.In s.heap:=e0.mod.kin.keeps fun b o e=>(e0.bs b o e).1
 have lim:s.heap.NoLimit:=e0.mod.nolimit.keeps fun b o e=>(e0.bs b o e).1
 have hkind:∀ y∈ps.zip us,scope.names.lookup y.1=some .local\/(scope.names.lookup y.1=some .cell/\((cellsFrom (s.heap.objs.size+1) scope.names []).lookup y.1).isSome=true):=fun ⟨n,v⟩ hy=>by
  rcases S.par n (List.of_mem_zip hy).1 with q|q
  ·exact .inl q
  ·exact .inr ⟨q,PySem.W.cellsFrom_some _ _ _ (.inl q)⟩
 refine codeAny_call_function hr.depth (KX _ _ lk) rfl S.co S.gen rfl (PySem.W.codeRec_of KX hcd) (hb _ _ _ _ ?_)
 refine wpAny_newFunctionEnv_cells S.kind hkind fun env he s1 x=>?_
 subst he
 refine⟨lim.keeps x.toInCall.keep,codeAny_func ?_⟩
 obtain⟨t,ht,hq⟩:=hbody A outer s H vs Q E (hr.deeper _) hsp
 have I:Inv (Bb CX P w K mg base N qual scope f cdv A outer s H E) [] (start N vs) H s1:=Wc S hr.hd e0 hl r x
 refine ZT (ht [] s1 (start N vs) H _ I hq) (fun fl s' hs=>?_) fun e s' hs=>hs
 have fin:∀ {σ':St} {H':Hp} {v:V} {u:Value},Inv (Bb CX P w K mg base N qual scope f cdv A outer s H E) [] σ' H' s'->RelV v u->Q v H'->CE outer P w H s Q u s':=
  fun {σ' H' v u} J rv q=>⟨v,H',J.os,J.bare,J.base,J.hok,rv,q⟩
 cases fl with
 |ret u=>
  obtain⟨v,σ',H',J,rv,q⟩:=hs
  exact fin J rv q
 |next=>
  obtain⟨σ',H',J,q⟩:=hs
  exact fin (v:=V.non) (u:=Value.none) J rfl q
 |brk=>
  obtain⟨_,_,_,q⟩:=hs
  exact False.elim q
 |cont=>
  obtain⟨_,_,_,q⟩:=hs
  exact False.elim q
end L2
namespace L2
open PySem PySem.Spec PyProof.Rows
section
variable {X:Cx} {x:Str} {p pos:Pos} {e:Expr} {es:List Expr} {t:TA} {id T:String} {r:List V->Hp->VK->Prop}
def tCB (r:List V->Hp->VK->Prop) (t:TA):TE:=fun σ H Q=>t σ H fun vs H1=>r vs H1 Q
theorem oh (hc:jz X (.builtin id) r) (hg:Gl X x) (hm:X.mg x=none) (hv:bootBuiltins x=some (.builtin id)) (ha:PA X (e::es) t) (hn:x ≠ "__name__" := by decide) (hdb:(x==("__debug__" : Str))=false:=by decide)
  (he:starEach (e::es) X.env=(false,eval e X.env)::starEach es X.env:=by rfl) (hpl:(backTo pos (starEach es X.env)).any (·.1)=false:=by rfl):PE X (.Call (.Name x p) (e::es) [] pos) (tCB r t):=by
 intro pins s σ H Q I h
 refine JE (HF I hg hm hv ?_ hn hdb)
 exact PyProof.Rows.callWith_builtin1 (jy (ha pos pins s σ H _ I h) fun us s1 ⟨vs,H1,I1,r1,q1⟩=>hc pins s1 σ H1 vs us Q I1 r1 q1) he hpl
theorem Wd (hc:jz X (.type T) r) (hg:Gl X x) (hm:X.mg x=none) (hv:bootBuiltins x=some (.type T)) (ha:PA X (e::es) t) (hn:x ≠ "__name__" := by decide) (hdb:(x==("__debug__" : Str))=false:=by decide)
  (he:starEach (e::es) X.env=(false,eval e X.env)::starEach es X.env:=by rfl) (hpl:(backTo pos (starEach es X.env)).any (·.1)=false:=by rfl):PE X (.Call (.Name x p) (e::es) [] pos) (tCB r t):=by
 intro pins s σ H Q I h
 refine JE (HF I hg hm hv ?_ hn hdb)
 exact PyProof.Rows.callWith_type1 (jy (ha pos pins s σ H _ I h) fun us s1 ⟨vs,H1,I1,r1,q1⟩=>hc pins s1 σ H1 vs us Q I1 r1 q1) he hpl
end
end L2
namespace HT
open PySem PyProof.Rows
section
open PySem.SeqAt
open PySem.AutoSeq1 (wpAny_loadPart')
open PySem.MeetsSeq PySem.MeetsSeq2 PySem.MeetsSeq3
end
section
variable {prog:Program} {w:World} {A:Around} {E:VP_} {s:Shared}
theorem aaR {t b:Addr} {vs ws:List Value} {Q:VP_} (ht:IsTup s.heap t vs.toArray) (hb:IsTup s.heap b ws.toArray) (hv:vs≠[])
  (h1:ws=[]->Q (.ref t) s) (h2:ws≠[]->Q (.ref s.heap.objs.size) { s with heap:=s.heap.push { cls:=.type "tuple", data:=.seq (vs++ws).toArray } })
  (hsz:vs.length+ws.length<=sizeLine):wpAny (model prog w) A (binaryOp .Add (.ref t) (.ref b)) Q E s:=by
 obtain⟨⟨cls,dd,data,sl⟩,ho,hc,n,hd⟩:=id ht
 obtain⟨⟨cls2,dd2,data2,sl2⟩,ho2,hc2,n2,hd2⟩:=id hb
 simp only at hc hd hc2 hd2
 subst hc hd hc2 hd2
 have e:vs.toArray++ws.toArray=(vs++ws).toArray:=by simp
 by_cases hw:ws=[]
 ·exact concat_meets ⟨_,ho,rfl⟩ ⟨_,ho2,rfl⟩ noFill_tuple_add seq_tuple_add PySem.F.slot_tuple_add kL (kD _ _)
   (tuple_addW1 t b vs.toArray ws.toArray n n2 dd dd2 sl sl2 (by simpa using hv) (by simp[hw])) ⟨ho,ho2,h1 hw⟩
 ·refine concat_meets ⟨_,ho,rfl⟩ ⟨_,ho2,rfl⟩ noFill_tuple_add seq_tuple_add PySem.F.slot_tuple_add kL (kD _ _)
   (tuple_addW2 t b vs.toArray ws.toArray n n2 dd dd2 sl sl2 (by simpa using hv) (by simpa using hw) (by rw[zr,zr];exact hsz)) ⟨ho,ho2,?_⟩
  rw[e]
  exact h2 hw
def jW (n d:Nat):Option Int->Nat
 |none=>d
 |some v=>if v < 0 then (v+(n:Int)).toNat else min v.toNat n
theorem PL (n d:Nat):jW n d none=d:=rfl
theorem UJ (n d k:Nat):jW n d (some (k:Int))=min k n:=by
 show (if (k:Int) < 0 then ((k:Int)+(n:Int)).toNat else min (k:Int).toNat n)=min k n
 rw[Zs (by omega),Int.toNat_natCast]
theorem adS (n d:Nat) (hd:d<=n) (o:Option Int):jW n d o<=n:=by
 cases o with
 |none=>exact hd
 |some v=>
  show (if v < 0 then (v+(n:Int)).toNat else min v.toNat n)<=n
  by_cases hv:v < 0
  ·rw[zo hv];omega
  ·rw[Zs hv];exact kF _ _
theorem UL (v:Int) (n d:Nat):(if v < 0 then max (v+(n:Int)) 0 else min v (n:Int))=((jW n d (some v):Nat):Int):=by
 show (if v < 0 then max (v+(n:Int)) 0 else min v (n:Int))=(((if v < 0 then (v+(n:Int)).toNat else min v.toNat n):Nat):Int)
 by_cases hv:v < 0
 ·simp only[zo hv];omega
 ·simp only[Zs hv];omega
theorem S9 (lo hi:Option Int) (n:Nat):Builtin.Slice.sliceAdjust lo hi 1 (n:Int)=(((jW n 0 lo:Nat):Int),((jW n n hi:Nat):Int)):=by
 have h1:¬ ((1:Int) < 0):=by omega
 unfold Builtin.Slice.sliceAdjust
 simp only[h1,qr]
 refine Prod.ext ?_ ?_
 ·cases lo with
  |none=>rfl
  |some v=>exact UL v n 0
 ·cases hi with
  |none=>rfl
  |some v=>exact UL v n n
theorem Tc (i j:Nat):Builtin.Slice.slicePlaces (i:Int) (j:Int) 1=j - i:=by
 unfold Builtin.Slice.slicePlaces
 have h1:(1:Int) > 0:=by omega
 simp only[h1,Qb,Int.ediv_one]
 split<;>omega
theorem HS {v:Value} {o:Option Int} {Q:Option Int->Shared->Prop} (p:IsPart v o) (h:Q o s):wpAny (model prog w) A (Builtin.Slice.slicePartIndex v) Q E s:=by
 cases p with
 |none=>exact slicePart_none h
 |int i t=>exact slicePart_int h
theorem uR {sl:Addr} {vl vu:Value} {lo hi:Option Int} {n:Nat} {Q:Int×Int×Nat->Shared->Prop} (hs:s.heap.IsSliceOf sl vl vu .none) (pl:IsPart vl lo) (pu:IsPart vu hi)
  (h:Q (((jW n 0 lo:Nat):Int),1,jW n n hi - jW n 0 lo) s):wpAny (model prog w) A (Builtin.Slice.sliceApplied (.ref sl) (pure (n:Int))) Q E s:=by
 obtain⟨os,hos,hcs,hds⟩:=id hs
 unfold Builtin.Slice.sliceApplied Builtin.Slice.sliceFields
 refine zb (zb (Q2 hos hds (x:=vl) rfl (zb (Q2 hos hds (x:=vu) rfl (zb (Q2 hos hds (x:=.none) rfl (zh ?_)))))))
 refine zb (slicePart_none ?_)
 show wpAny _ _ (if ((1:Int)==0)=true then _ else _) _ _ s
 rw[Zs (by decide)]
 refine zb (HS pl (zb (HS pu (zb (zh ?_)))))
 show wpAny _ _ (match Builtin.Slice.sliceAdjust lo hi 1 (n:Int) with|(lo,hi)=>pure (lo,(1:Int),Builtin.Slice.slicePlaces lo hi 1)) _ _ s
 rw[S9 lo hi n]
 show wpAny _ _ (pure (((jW n 0 lo:Nat):Int),(1:Int),Builtin.Slice.slicePlaces ((jW n 0 lo:Nat):Int) ((jW n n hi:Nat):Int) 1)) _ _ s
 rw[Tc]
 exact zh h
theorem Yr (xs:Array Value) (i k:Nat):((List.range k).filterMap fun (m:Nat)=>xs[((i:Int)+(m:Int) * 1).toNat]?).toArray=((xs.toList.drop i).take k).toArray:=by
 have e:(fun (m:Nat)=>xs[((i:Int)+(m:Int) * 1).toNat]?)=fun m=>xs[i+m]?:=by
  funext m
  have:((i:Int)+(m:Int) * 1).toNat=i+m:=by omega
  rw[this]
 rw[e]
 have:=pick_run xs i k
 rw[List.filterMap_map] at this
 have e2:((fun x=>xs[x]?) ∘ fun x=>i+x)=fun m=>xs[i+m]?:=rfl
 rw[e2] at this
 rw[this]
theorem BR {t sl:Addr} {items:Array Value} {vl vu:Value} {lo hi:Option Int} {Q:VP_} (ht:IsTup s.heap t items) (hs:s.heap.IsSliceOf sl vl vu .none) (pl:IsPart vl lo) (pu:IsPart vu hi)
  (hw:¬ (jW items.size 0 lo=0/\jW items.size items.size hi=items.size))
  (h:Q (.ref s.heap.objs.size) { s with heap:=s.heap.push { cls:=.type "tuple", data:=.seq ((items.toList.drop (jW items.size 0 lo)).take (jW items.size items.size hi - jW items.size 0 lo)).toArray } })
  (hsz:items.size<=sizeLine):wpAny (model prog w) A (getItem (.ref t) (.ref sl)) Q E s:=by
 have UW:sizeOk (.seq ((items.toList.drop (jW items.size 0 lo)).take (jW items.size items.size hi - jW items.size 0 lo)).toArray):=by
  show ((items.toList.drop (jW items.size 0 lo)).take (jW items.size items.size hi - jW items.size 0 lo)).toArray.size<=sizeLine
  rw[zr,kc,qk,ko]
  omega
 have hj:jW items.size items.size hi<=items.size:=adS _ _ (zt _) hi
 obtain⟨os,hos,hcs,hds⟩:=id hs
 have hTs:s.TypeIs (.ref sl) "slice" := ⟨os,hos,hcs⟩
 unfold getItem
 try with_reducible refine jS ?_
 first|refine zb (zh ?_)|skip
 refine zb (wpAny_sequenceKey ht.typeIs (by decide) ?_)
 refine zb (wpAny_callSpecial?_slot (name:=Str.ofString "__getitem__") ht.typeIs PyProof.Rows.slot_tuple_getitem
  (wpAny_call_entry PyProof.Rows.slot_tuple_getitem ht.typeIs entry_tuple_getitem ?_ (args_tuple_getitem _ _)))
 show wpAny _ _ (Builtin.Tuple.tupleItemsOf (.ref t) >>= _) _ _ s
 refine zb (tupleItemsOf_ ht ?_)
 refine zb (kq hTs ?_)
 rw[zo (by decide)]
 refine zb (uR hs pl pu ?_)
 have hno:¬ ((((jW items.size 0 lo:Nat):Int)==0&&(1:Int)==1&&(jW items.size items.size hi - jW items.size 0 lo)==items.size)=true):=by
  intro q
  rw[zi,zi] at q
  have q1:((jW items.size 0 lo:Nat):Int)=0:=eq_of_beq q.1.1
  have q2:jW items.size items.size hi - jW items.size 0 lo=items.size:=eq_of_beq q.2
  exact hw ⟨by omega,by omega⟩
 show wpAny _ _ (if (((jW items.size 0 lo:Nat):Int)==0&&(1:Int)==1&&(jW items.size items.size hi - jW items.size 0 lo)==items.size)=true then _ else _) _ _ s
 rw[Zs hno,Yr]
 first
  |exact zb (m:=Builtin.Tuple.tupleExact _) (QQ (zh ⟨_,rfl,zh h⟩) UW)
  |exact zb (m:=Builtin.Tuple.tupleExact _) (QQ (zb (zh (zh ⟨_,rfl,zh h⟩))) UW)
  |exact zb (zb (m:=Builtin.Tuple.tupleExact _) (QQ (zh (zh ⟨_,rfl,zh h⟩)) UW))
  |exact zb (zb (m:=Builtin.Tuple.tupleExact _) (QQ (zh ⟨_,rfl,zh h⟩) UW))
end
end HT
namespace L2
open PySem PySem.Spec PyProof.Rows
abbrev TO:=St->Hp->(Option Int->Hp->Prop)->Prop
def PO (X:Cx) (e:Option Expr) (t:TO):Prop:=
 ∀ (pins:List (Addr×Obj)) (s:Shared) (σ:St) (H:Hp) (Q:Option Int->Hp->Prop),Inv X pins σ H s->t σ H Q →
  wpAny (model X.prog X.w) X.A (evalPart e X.env) (fun u s'=>∃ o H',Inv X pins σ H' s'/\IsPart u o/\Q o H') X.xe s
def aaS:TO:=fun _ H Q=>Q none H
def afY (t:TE):TO:=fun σ H Q=>t σ H fun x H1=>∃ i,x=.int i/\Q (some i) H1
section
variable {X:Cx} {e:Expr} {te:TE} {lo hi:Option Expr} {tl th:TO} {pos p2:Pos}
theorem aaT:PO X none aaS:=by
 intro pins s σ H Q I h
 rw[evalPart_none]
 exact zh ⟨none,H,I,.none,h⟩
theorem aaU (h:PE X e te):PO X (some e) (afY te):=by
 intro pins s σ H Q I hw
 rw[evalPart_some]
 refine jy (h pins s σ H _ I hw) fun u s1 ⟨x,H1,I1,r1,q1⟩=>?_
 obtain⟨i,rfl,q⟩:=q1
 obtain⟨t,rfl⟩:=r1
 exact⟨some i,H1,I1,.int i t,q⟩
def SlR (X:Cx) (r:V->Option Int->Option Int->Hp->VK->Prop):Prop:=
 ∀ (pins:List (Addr×Obj)) (s:Shared) (σ:St) (H:Hp) (x:V) (v vl vu:Value) (lo hi:Option Int) (sl:Addr) (Q:VK),Inv X pins σ H s->RelV x v->s.heap.IsSliceOf sl vl vu .none->IsPart vl lo->IsPart vu hi->r x lo hi H Q →
  ∃ T id,typeLookup (.type T) "__getitem__" = pure (some (.builtin id))/\s.TypeIs v T/\wpAny (model X.prog X.w) X.A (getItem v (.ref sl)) (EP X pins σ Q) X.xe s
theorem SlR.or {r r':V->Option Int->Option Int->Hp->VK->Prop} (h:SlR X r) (h':SlR X r'):SlR X (fun x lo hi H Q=>r x lo hi H Q\/r' x lo hi H Q):=by
 intro pins s σ H x v vl vu lo hi sl Q I rx hs pl pu q
 rcases q with q|q
 ·exact h pins s σ H x v vl vu lo hi sl Q I rx hs pl pu q
 ·exact h' pins s σ H x v vl vu lo hi sl Q I rx hs pl pu q
def tSl (r:V->Option Int->Option Int->Hp->VK->Prop) (te:TE) (tl th:TO):TE:=fun σ H Q=>te σ H fun x H1=>tl σ H1 fun l H2=>th σ H2 fun u H3=>r x l u H3 Q
theorem Ys {r:V->Option Int->Option Int->Hp->VK->Prop} (hr:SlR X r) (he:PE X e te) (hl:PO X lo tl) (hu:PO X hi th):PE X (.Subscript e (.Slice lo hi none p2) pos) (tSl r te tl th):=by
 intro pins s σ H Q I h
 refine Subscript_ (jy (he pins s σ H _ I h) fun v s1 ⟨x,H1,I1,r1,q1⟩=>?_)
 refine wpAny_Slice (jy (hl pins s1 σ H1 _ I1 q1) fun vl s2 ⟨l,H2,I2,pl,q2⟩=>jy (hu pins s2 σ H2 _ I2 q2) fun vu s3 ⟨u,H3,I3,pu,q3⟩=>?_)
 rw[evalPart_none]
 refine zh ?_
 have I4:Inv X pins σ H3 { s3 with heap:=s3.heap.push { cls:=.type "slice", data:=.fields #[vl,vu,.none] } }:=I3.kept (t':=s3.toks) fun b ob q=>ze _ q
 obtain⟨T,id,hT,ht,hg⟩:=hr pins { s3 with heap:=s3.heap.push { cls:=.type "slice", data:=.fields #[vl,vu,.none] } } σ H3 x v vl vu l u s3.heap.objs.size Q I4 r1 (Heap.IsSliceOf.new ..) pl pu q3
 show wpAny (model X.prog X.w) X.A (subscriptTail e (.Slice lo hi none p2) v (.ref s3.heap.objs.size)) (EP X pins σ Q) X.xe { s3 with heap:=s3.heap.push { cls:=.type "slice", data:=.fields #[vl,vu,.none] } }
 exact tail_any (ops:=[.ref s3.heap.objs.size,v]) ht hT hg (by with_unfolding_all rfl)
def PN (xs:List V) (lo hi:Option Int):List V:=(xs.drop (HT.jW xs.length 0 lo)).take (HT.jW xs.length xs.length hi - HT.jW xs.length 0 lo)
theorem Fy (xs:List V) (lo hi:Option Int):(PN xs lo hi).length<=xs.length:=by
 unfold PN
 rw[kc,qk]
 omega
def aiy (K:FG_):V->Option Int->Option Int->Hp->VK->Prop:=fun x lo hi H Q=>∃ a xs,x=.ref a/\Bv K H a xs ∧
 ¬ (HT.jW xs.length 0 lo=0/\HT.jW xs.length xs.length hi=xs.length)/\∀ p,H p=none->Q (.ref p) (upd H p (.tup (PN xs lo hi)))
theorem adT:SlR X (aiy X.K):=by
 intro pins s σ H x v vl vu lo hi sl Q I rx hs pl pu h
 obtain⟨a,xs,rfl,hx,hw,q⟩:=h
 cases rx
 obtain⟨its,r,ht,hz⟩:=I.tuple hx
 have hlen:its.toArray.size=xs.length:=by rw[zr];exact r.length.symm
 refine⟨"tuple", _,PyProof.Rows.slot_tuple_getitem.lookup,ht.typeIs,?_⟩
 refine HT.BR ht hs pl pu (by rw[hlen];exact hw) ?_ (by rw[hlen];exact hz)
 rw[hlen]
 refine⟨.ref s.heap.objs.size,_,I.laid (t':=s.toks) (o:=.tup (PN xs lo hi)) (fun b ob q=>ze _ q) (zt _) ?_,rfl,q _ (I.hok.fresh (zt _))⟩
 exact⟨zv (Fy xs lo hi) hz,_,(r.drop (HT.jW xs.length 0 lo)).take (HT.jW xs.length xs.length hi - HT.jW xs.length 0 lo),yE.new _ _⟩
def afZ (K:FG_):R2:=fun x y H Q=>∃ a b xs ys,x=.ref a/\y=.ref b/\Bv K H a xs/\Bv K H b ys/\xs≠[]/\xs.length+ys.length<=sizeLine ∧
 (ys=[]->Q (.ref a) H)/\(ys≠[]->∀ p,H p=none->Q (.ref p) (upd H p (.tup (xs++ys))))
theorem Vals.Hi {xs:List V} {us:List Value} (r:Vals xs us):us=[]↔xs=[]:=by
 cases r with
 |nil=>simp
 |cons _ _=>simp
theorem aaV:yG X (binaryOp .Add) (afZ X.K):=by
 intro pins s σ H x y v u Q I rx ry h
 obtain⟨a,b,xs,ys,rfl,rfl,ha,hb,hx,hz,q1,q2⟩:=h
 cases rx
 cases ry
 obtain⟨its,r1,p1,_⟩:=I.tuple ha
 obtain⟨its2,r2,p2,_⟩:=I.tuple hb
 refine HT.aaR p1 p2 (fun z=>hx (r1.Hi.mp z)) (fun z=>⟨.ref a,H,I,rfl,q1 (r2.Hi.mp z)⟩) (fun z=>?_) (by rw[<-r1.length,<-r2.length];exact hz)
 refine⟨.ref s.heap.objs.size,_,I.laid (t':=s.toks) (o:=.tup (xs++ys)) (fun b ob q=>ze _ q) (zt _) ?_,rfl,q2 (fun w=>z (r2.Hi.mpr w)) _ (I.hok.fresh (zt _))⟩
 exact⟨by rw[zl];exact hz,_,r1.append r2,yE.new _ _⟩
end
end L2
namespace L2
open PySem PySem.Spec PyProof.Rows
def ixN (n:Nat) (i:Int):Option Nat:=if 0<=i then (if i < n then some i.toNat else none) else if -(n:Int)<=i then some (i+n).toNat else none
def Hj {α:Type} (xs:List α) (i:Int):Option α:=(ixN xs.length i).bind fun j=>xs[j]?
theorem aaW {n:Nat} {i:Int} {j:Nat} (h:ixN n i=some j):seqIndex? i n=some j/\j < n ∧ -(n:Int)<=i/\i < n:=by
 unfold ixN at h
 by_cases h0:0<=i
 ·rw[zo h0] at h
  by_cases h1:i < n
  ·rw[zo h1] at h
   have e:i.toNat=j:=qq h
   exact⟨by rw[seqIndex_of h0 h1,e],by omega,by omega,h1⟩
  ·rw[Zs h1] at h;cases h
 ·rw[Zs h0] at h
  by_cases h1 : -(n:Int)<=i
  ·rw[zo h1] at h
   have e:(i+n).toNat=j:=qq h
   exact⟨by rw[seqIndex_neg (by omega) h1,e],by omega,h1,by omega⟩
  ·rw[Zs h1] at h;cases h
theorem Nr {α:Type} {xs:List α} {i:Int} {v:α} (h:Hj xs i=some v):∃ j,seqIndex? i xs.length=some j/\xs[j]?=some v/\j < xs.length ∧ -(xs.length:Int)<=i/\i < xs.length:=by
 unfold Hj at h
 cases e:ixN xs.length i with
 |none=>rw[e] at h;cases h
 |some j=>
  rw[e] at h
  obtain⟨h1,h2,h3,h4⟩:=aaW e
  exact⟨j,h1,h,h2,h3,h4⟩
def U0 (b:Expr):Prop:=∀ o i,subscripted b false o i=operate [o,i] (getItem o i)
def IxR (X:Cx) (r:R2):Prop:=
 ∀ (value slice:Expr) (pins:List (Addr×Obj)) (s:Shared) (σ:St) (H:Hp) (x y:V) (v u:Value) (Q:VK),Inv X pins σ H s->RelV x v->RelV y u->r x y H Q →
  subscripted slice false v u=operate [v,u] (getItem v u)->wpAny (model X.prog X.w) X.A (subscriptTail value slice v u) (EP X pins σ Q) X.xe s
def MtR (X:Cx) (id:String) (r:V->List V->Hp->VK->Prop):Prop:=
 ∀ (pins:List (Addr×Obj)) (s:Shared) (σ:St) (H:Hp) (x:V) (xs:List V) (v:Value) (us:List Value) (Q:VK),Inv X pins σ H s->RelV x v->Vals xs us->r x xs H Q →
  wpAny (model X.prog X.w) X.A (call (.builtin id) (v::us)) (EP X pins σ Q) X.xe s
section
variable {X:Cx} {a b:Expr} {ta tb:TE} {pos:Pos}
theorem IxR.or {r r':R2} (h:IxR X r) (h':IxR X r'):IxR X (fun x y H Q=>r x y H Q\/r' x y H Q):=by
 intro value slice pins s σ H x y v u Q I rx ry q hs
 rcases q with q|q
 ·exact h value slice pins s σ H x y v u Q I rx ry q hs
 ·exact h' value slice pins s σ H x y v u Q I rx ry q hs
theorem MtR.or {id:String} {r r':V->List V->Hp->VK->Prop} (h:MtR X id r) (h':MtR X id r'):MtR X id (fun x xs H Q=>r x xs H Q\/r' x xs H Q):=by
 intro pins s σ H x xs v us Q I rx rs q
 rcases q with q|q
 ·exact h pins s σ H x xs v us Q I rx rs q
 ·exact h' pins s σ H x xs v us Q I rx rs q
theorem af0 {r:R2} (hr:IxR X r) (ha:PE X a ta) (hb:PE X b tb) (hs:U0 b):PE X (.Subscript a b pos) (tOp r ta tb):=by
 intro pins s σ H Q I h
 exact Subscript_ (adG ha hb I h fun v u s2 x y H2 I2 rx ry q=>hr a b pins s2 σ H2 x y v u Q I2 rx ry q (hs _ _))
def af2 (K:FG_):R2:=fun x y H Q=>∃ p xs i v,x=.ref p/\y=.int i/\uQ K H p xs/\Hj xs i=some v/\Q v H
def af3 (K:FG_):R2:=fun x y H Q=>∃ p xs i v,x=.ref p/\y=.int i/\Bv K H p xs/\Hj xs i=some v/\Q v H
def af4:R2:=fun x y H Q=>∃ z i c,x=.str z/\y=.int i/\z.length<=sizeLine/\Hj z.cps.toList i=some c/\Q (.str ⟨#[c]⟩) H
theorem aaY:IxR X (af2 X.K):=by
 intro value slice pins s σ H x y v u Q I rx ry h hs
 obtain⟨p,xs,i,z,rfl,rfl,hq,he,q⟩:=h
 cases rx
 obtain⟨t,rfl⟩:=ry
 obtain⟨its,r,pl,hz⟩:=I.list hq
 obtain⟨j,h1,h2,h3,h4,h5⟩:=Nr he
 obtain⟨w,ew,rw'⟩:=r.get h2
 have hl:=r.length
 have hn:=Ed
 have fin:EP X pins σ Q w s:=⟨z,H,I,rw',q⟩
 by_cases h0:0<=i
 ·have hj:i.toNat=j:=by
   rw[seqIndex_of h0 h5] at h1
   exact qq h1
  exact item_listR pl.isList h0 (by omega) (by rw[hj];simpa using ew) fin hs
 ·have hj:(i+(its.toArray.size:Int)).toNat=j:=by
   rw[seqIndex_neg (by omega) h4] at h1
   rw[zr,<-hl]
   exact qq h1
  exact subscriptTail_builtinR (x:=w) pl.isList.typeIs slot_list_getitem.lookup
   (wpAny_getItem_list_neg (Q:=fun r s'=>r=w/\EP X pins σ Q r s') pl.isList (by omega) (by rw[zr]<;>omega) (by omega) (by rw[hj];simpa using ew) ⟨rfl,fin⟩) hs
theorem adV:IxR X (af3 X.K):=by
 intro value slice pins s σ H x y v u Q I rx ry h hs
 obtain⟨p,xs,i,z,rfl,rfl,hq,he,q⟩:=h
 cases rx
 obtain⟨t,rfl⟩:=ry
 obtain⟨its,r,pl,hz⟩:=I.tuple hq
 obtain⟨j,h1,h2,h3,h4,h5⟩:=Nr he
 obtain⟨w,ew,rw'⟩:=r.get h2
 have hl:=r.length
 have hn:=Ed
 have fin:EP X pins σ Q w s:=⟨z,H,I,rw',q⟩
 exact subscriptTail_builtinR (x:=w) pl.typeIs slot_tuple_getitem.lookup
  (getItem_tuple (j:=j) (Q:=fun r s'=>r=w/\EP X pins σ Q r s') pl (by omega) (by omega) (by rw[zr,<-hl];exact h1) (by simpa using ew) ⟨rfl,fin⟩) hs
theorem adW:IxR X af4:=by
 intro value slice pins s σ H x y v u Q I rx ry h hs
 obtain⟨z,i,c,rfl,rfl,hz,he,q⟩:=h
 obtain⟨t,rfl⟩:=rx
 obtain⟨t',rfl⟩:=ry
 obtain⟨j,h1,h2,h3,h4,h5⟩:=Nr he
 have hl:z.cps.toList.length=z.length:=by simp[Str.length]
 rw[hl] at h1 h4 h5
 have hn:=Ed
 exact tail_any (typeIs_str s z t) slot_str_getitem.lookup (getItem_str (c:=c) (by
  have e1:decide (i < -(2 ^ 63:Int))=false:=ZH (by omega)
  have e2:decide (i>=2 ^ 63)=false:=ZH (by omega)
  rw[e1,e2,Bool.or_false]) (by rw[h1];simpa using h2) ⟨.str ⟨#[c]⟩,H,I.tok _,⟨_,rfl⟩,q⟩) hs
def rIx (K:FG_):R2:=fun x y H Q=>af2 K x y H Q\/af3 K x y H Q\/af4 x y H Q
theorem adX:IxR X (rIx X.K):=aaY.or (adV.or adW)
theorem Inv.lst {pins:List (Addr×Obj)} {σ:St} {H:Hp} {s:Shared} {p:Addr} {xs:List V} (I:Inv X pins σ H s) (h:H p=some (.lst xs)) :
  ∃ (its:List Value) (n:Nat),Vals xs its/\s.heap.get? p=some { cls:=.type "list", data:=.seq its.toArray n }/\xs.length<=sizeLine:=by
 obtain⟨z,its,n,r,e⟩:=I.hok p _ h
 exact⟨its,n,r,e,z⟩
theorem Nt (lo hi:Option Int) (n:Nat):(sliceBounds lo hi none n).1=((HT.jW n 0 lo:Nat):Int)/\(sliceBounds lo hi none n).2.1=((HT.jW n n hi:Nat):Int)/\(sliceBounds lo hi none n).2.2=1:=by
 refine⟨?_,?_,rfl⟩
 ·cases lo with
  |none=>simp[sliceBounds,HT.jW]
  |some i=>
   simp only[sliceBounds,HT.jW,Option.getD_none,show (1:Int) > 0 by decide,Qb]
   by_cases h:i < 0
   ·simp only[h,Qb]<;>omega
   ·simp only[h,qr]<;>omega
 ·cases hi with
  |none=>simp[sliceBounds,HT.jW]
  |some i=>
   simp only[sliceBounds,HT.jW,Option.getD_none,show (1:Int) > 0 by decide,Qb]
   by_cases h:i < 0
   ·simp only[h,Qb]<;>omega
   ·simp only[h,qr]<;>omega
theorem Kw (its:List Value) (lo hi:Option Int):slicePick its.toArray lo hi none=((its.drop (HT.jW its.length 0 lo)).take (HT.jW its.length its.length hi - HT.jW its.length 0 lo)).toArray:=by
 obtain⟨h1,h2,h3⟩:=Nt lo hi its.toArray.size
 unfold slicePick
 rw[h1,h2,h3]
 simp only[sliceRange_one,pick_run,zr]<;>rfl
def aiz (K:FG_):V->Option Int->Option Int->Hp->VK->Prop:=fun x lo hi H Q=>∃ a xs,x=.ref a/\uQ K H a xs/\∀ p,H p=none->Q (.ref p) (upd H p (.lst (PN xs lo hi)))
theorem aaZ:SlR X (aiz X.K):=by
 intro pins s σ H x v vl vu lo hi sl Q I rx hs pl pu h
 obtain⟨a,xs,rfl,hx,q⟩:=h
 cases rx
 obtain⟨its,r,ht,hz⟩:=I.list hx
 have hlen:=r.length
 refine⟨"list", _,slot_list_getitem.lookup,ht.isList.typeIs,?_⟩
 refine wpAny_getItem_list_slice ht.isList hs pl pu .none (by simp) ?_ (by rw[zr]<;>omega)
 rw[Kw,<-hlen]
 refine⟨.ref s.heap.objs.size,_,I.laid (t':=s.toks) (o:=.lst (PN xs lo hi)) (fun b ob q=>ze _ q) (zt _) ?_,rfl,q _ (I.hok.fresh (zt _))⟩
 exact⟨zv (Fy xs lo hi) hz,_,0,(r.drop (HT.jW xs.length 0 lo)).take (HT.jW xs.length xs.length hi - HT.jW xs.length 0 lo),ZN _ rfl⟩
def wY:V->Bool
 |.non=>true
 |.bl _=>true
 |.int _=>true
 |.str _=>true
 |_=>false
def Wf:V->V->Bool
 |.non,.non=>true
 |.bl a,.bl b=>a==b
 |.bl a,.int b=>(if a then 1 else 0)==b
 |.int a,.bl b=>a==(if b then 1 else 0)
 |.int a,.int b=>a==b
 |.str a,.str b=>a==b
 |_,_=>false
theorem adY {A:Around} {s:Shared} {y x:V} {u v:Value} (ry:RelV y u) (rx:RelV x v) (fy:wY y=true) (fx:wY x=true):SeqAt.EqAt A s u v (Wf y x):=by
 cases y with
 |non=>
  cases ry
  cases x with
  |non=>cases rx;exact SeqAt.EqAt.same _
  |bl b=>cases rx;exact SeqAt.EqAt.none_bool b
  |int b=>obtain⟨t,rfl⟩:=rx;exact SeqAt.EqAt.none_int b t
  |str b=>obtain⟨t,rfl⟩:=rx;exact SeqAt.EqAt.none_str b t
  |_=>exact absurd (show false=true from fx) zg
 |bl a=>
  cases ry
  cases x with
  |non=>cases rx;exact SeqAt.EqAt.bool_none a
  |bl b=>cases rx;exact SeqAt.EqAt.bool_bool a b
  |int b=>obtain⟨t,rfl⟩:=rx;exact SeqAt.EqAt.bool_int a b t
  |str b=>obtain⟨t,rfl⟩:=rx;exact SeqAt.EqAt.bool_str a b t
  |_=>exact absurd (show false=true from fx) zg
 |int a=>
  obtain⟨t',rfl⟩:=ry
  cases x with
  |non=>cases rx;exact SeqAt.EqAt.int_none a t'
  |bl b=>cases rx;exact SeqAt.EqAt.int_bool a t' b
  |int b=>obtain⟨t,rfl⟩:=rx;exact SeqAt.EqAt.int_int a t' b t
  |str b=>obtain⟨t,rfl⟩:=rx;exact SeqAt.EqAt.int_str a t' b t
  |_=>exact absurd (show false=true from fx) zg
 |str a=>
  obtain⟨t',rfl⟩:=ry
  cases x with
  |non=>cases rx;exact SeqAt.EqAt.str_none a t'
  |bl b=>cases rx;exact SeqAt.EqAt.str_bool a t' b
  |int b=>obtain⟨t,rfl⟩:=rx;exact SeqAt.EqAt.str_int a t' b t
  |str b=>obtain⟨t,rfl⟩:=rx;exact SeqAt.EqAt.str_str a t' b t
  |_=>exact absurd (show false=true from fx) zg
 |_=>exact absurd (show false=true from fy) zg
def eqU (x:V) (u:Value):Bool:=match u with
 |.none=>Wf .non x
 |.bool b=>Wf (.bl b) x
 |.int i _=>Wf (.int i) x
 |.str z _=>Wf (.str z) x
 |_=>false
theorem Yt {x y:V} {u:Value} (r:RelV y u) (f:wY y=true):eqU x u=Wf y x:=by
 cases y with
 |non=>cases r;rfl
 |bl b=>cases r;rfl
 |int i=>obtain⟨t,rfl⟩:=r;rfl
 |str z=>obtain⟨t,rfl⟩:=r;rfl
 |_=>exact absurd (show false=true from f) zg
theorem Nu {x:V}:∀ {xs:List V} {us:List Value},Vals xs us->xs.all wY=true->us.any (eqU x)=xs.any fun y=>Wf y x
 |_,_,.nil,_=>rfl
 |y::xs,u::us,.cons r t,f=>by
  rw[j3,zi] at f
  rw[QR,QR,Yt r f.1,Nu t f.2]
theorem HW {A:Around} {s:Shared} {x:V} {v:Value} (rx:RelV x v) (fx:wY x=true):∀ {xs:List V} {us:List Value},Vals xs us->xs.all wY=true->∀ u∈us,SeqAt.EqAt A s u v (eqU x u)
 |_,_,.nil,_=>fun u hu=>by cases hu
 |y::xs,u::us,.cons r t,f=>fun u' hu=>by
  rw[j3,zi] at f
  rcases List.mem_cons.mp hu with rfl|hu
  ·rw[Yt r f.1];exact adY r rx f.1 fx
  ·exact HW rx fx t f.2 u' hu
def inV (x:V) (xs:List V):Bool:=xs.any fun y=>Wf y x
def rIn (K:FG_) (neg:Bool):R2:=fun x y H Q=>∃ p xs,y=.ref p/\(uQ K H p xs\/Bv K H p xs)/\wY x=true/\xs.all wY=true/\Q (.bl (if neg then !inV x xs else inV x xs)) H
theorem Wg:yG X (compareOp .In) (rIn X.K false):=by
 intro pins s σ H x y v u Q I rx ry h
 obtain⟨p,xs,rfl,hq,fx,fs,q⟩:=h
 cases ry
 rcases hq with hq|hq
 ·obtain⟨its,r,pl,hz⟩:=I.list hq
  refine SeqAt.in_listAt (eqU x) pl.isList (fun w hw=>HW rx fx r fs w (by simpa using hw)) ⟨.bl _,H,I,rfl,?_⟩
  rw[show its.toArray.any (eqU x)=its.any (eqU x) by simp,Nu r fs]
  exact q
 ·obtain⟨its,r,pl,hz⟩:=I.tuple hq
  refine SeqAt.in_tupleAt (eqU x) pl (fun w hw=>HW rx fx r fs w (by simpa using hw)) ⟨.bl _,H,I,rfl,?_⟩
  rw[show its.toArray.any (eqU x)=its.any (eqU x) by simp,Nu r fs]
  exact q
theorem Nv:jz X (.builtin "len") (fun xs H Q=>∃ p ys,xs=[.ref p]/\(uQ X.K H p ys\/Bv X.K H p ys)/\Q (.int ys.length) H):=by
 intro pins s σ H xs us Q I r h
 obtain⟨p,ys,rfl,hq,q⟩:=h
 obtain⟨u,rfl,rx⟩:=vals1 r
 cases rx
 have hn:=Ed
 rcases hq with hq|hq
 ·obtain⟨its,r',pl,hz⟩:=I.list hq
  have hlen:=r'.length
  exact Calls.call_len_list pl.isList (by simp only[zr]<;>omega) ⟨.int ys.length,H,I.tok _,⟨s.toks+1,by rw[zr,hlen]⟩,q⟩
 ·obtain⟨its,r',pl,hz⟩:=I.tuple hq
  have hlen:=r'.length
  exact len_tuple pl (by simp only[zr]<;>omega) ⟨.int ys.length,H,I.tok _,⟨s.toks+1,by rw[zr,hlen]⟩,q⟩
theorem Nx:jz X (.builtin "len") (fun xs H Q=>∃ z,xs=[.str z]/\z.length<=sizeLine/\Q (.int z.length) H):=by
 intro pins s σ H xs us Q I r h
 obtain⟨z,rfl,hz,q⟩:=h
 obtain⟨u,rfl,t,rfl⟩:=vals1 r
 have hn:=Ed
 exact len_str (by omega) ⟨.int z.length,H,I.tok _,⟨_,rfl⟩,q⟩
theorem jz.or {f:Value} {r r':List V->Hp->VK->Prop} (h:jz X f r) (h':jz X f r'):jz X f (fun xs H Q=>r xs H Q\/r' xs H Q):=by
 intro pins s σ H xs us Q I rs q
 rcases q with q|q
 ·exact h pins s σ H xs us Q I rs q
 ·exact h' pins s σ H xs us Q I rs q
theorem Kz:jz X (.type "tuple") (fun xs H Q=>∃ p ys,xs=[.ref p]/\((uQ X.K H p ys/\∀ l,H l=none->Q (.ref l) (upd H l (.tup ys)))\/(Bv X.K H p ys/\Q (.ref p) H))):=by
 intro pins s σ H xs us Q I r h
 obtain⟨p,ys,rfl,h⟩:=h
 obtain⟨u,rfl,rx⟩:=vals1 r
 cases rx
 rcases h with⟨hq,q⟩|⟨hq,q⟩
 ·obtain⟨its,r',pl,hz⟩:=I.list hq
  have hlen:=r'.length
  refine call_tuple_list pl.isList (fun h' kp=>?_) (by simp only[zr]<;>omega)
  have I1:Inv X pins σ H { s with heap:=h' }:=I.kept (t':=s.toks) kp
  have I2:Inv X pins σ (upd H h'.objs.size (.tup ys)) { s with heap:=h'.push { cls:=.type "tuple", data:=.seq its.toArray } }:=
   I1.laid (t':=s.toks) (fun b o e=>ze _ e) (zt _) (show jQ X.prog X.w _ _ _ (.tup ys) from⟨hz,its,r',yE.new _ _⟩)
  exact⟨.ref h'.objs.size,_,I2,rfl,q _ (I1.hok.fresh (zt _))⟩
 ·obtain⟨its,r',pl,hz⟩:=I.tuple hq
  exact call_tuple_same pl ⟨.ref p,H,I,rfl,q⟩
def tyV (K:FG_) (T:String) (x:V) (H:Hp):Prop:=match x with
 |.str _=>T = "str"
 |.int _=>T = "int"
 |.ref p=>(T = "list" ∧ ∃ xs,uQ K H p xs)\/(T = "tuple" ∧ ∃ o,K.lookup p=some o/\o.cls=.type "tuple" ∧ o.dict=none) ∨
   (T = "dict" ∧ ((∃ kvs,H p=some (.dK kvs))\/∃ kvs,H p=some (.dT kvs)))\/(T = "set" ∧ ∃ S n,H p=some (.set S n))
 |_=>False
theorem Yu {pins:List (Addr×Obj)} {σ:St} {H:Hp} {s:Shared} {T:String} {x:V} {v:Value} (I:Inv X pins σ H s) (r:RelV x v) (ty:tyV X.K T x H) :
  s.TypeIs v T/\∀ a,v=.ref a->∃ ob,s.heap.get? a=some ob/\ob.dict=none:=by
 cases x with
 |str z=>
  obtain⟨t,rfl⟩:=r
  cases (show T = "str" from ty)
  exact⟨typeIs_str s z t,fun _ e=>nomatch e⟩
 |int i=>
  obtain⟨t,rfl⟩:=r
  cases (show T = "int" from ty)
  exact⟨typeIs_int s i t,fun _ e=>nomatch e⟩
 |ref p=>
  cases r
  rcases ty with⟨rfl,xs,hq⟩|⟨rfl,o,hk,hc,hd⟩|⟨rfl,hk⟩|⟨rfl,S,n,hk⟩
  ·obtain⟨its,_,pl,_⟩:=I.list hq
   refine⟨pl.isList.typeIs,fun a e=>?_⟩
   cases e
   obtain⟨o,n,e,c,hd,_⟩:=pl
   exact⟨o,e,hd⟩
  ·refine⟨⟨o,I.Ku p o hk,hc⟩,fun a e=>?_⟩
   cases e
   exact⟨o,I.Ku _ o hk,hd⟩
  ·have z:∃ o,s.heap.get? p=some o/\o.ExactDict:=by
    rcases hk with⟨kvs,hk⟩|⟨kvs,hk⟩
    ·obtain⟨_,_,_,_,o,_,_,e,ex,_⟩:=I.hok p _ hk
     exact⟨o,e,ex⟩
    ·obtain⟨_,_,_,_,o,_,_,e,ex,_⟩:=I.hok p _ hk
     exact⟨o,e,ex⟩
   obtain⟨o,e,ex⟩:=z
   refine⟨⟨o,e,ex.1⟩,fun a e2=>?_⟩
   cases e2
   exact⟨o,e,ex.2.1⟩
  ·obtain⟨o,_,_,_,e,ex,_⟩:=I.hok p _ hk
   refine⟨⟨o,e,ex.1⟩,fun a e2=>?_⟩
   cases e2
   exact⟨o,e,ex.2.1⟩
 |_=>exact False.elim ty
def aiB (K:FG_) (T:String) (r:V->List V->Hp->VK->Prop) (to:TE):TE:=fun σ H Q=>to σ H fun x H1=>tyV K T x H1/\r x [] H1 Q
def tBM (K:FG_) (T:String) (r:V->List V->Hp->VK->Prop) (to:TE) (t:TA):TE:=fun σ H Q=>to σ H fun x H1=>tyV K T x H1/\t σ H1 fun xs H2=>r x xs H2 Q
variable {o e:Expr} {es:List Expr} {to:TE} {t:TA} {name:Str} {apos cpos:Pos} {T id:String} {r:V->List V->Hp->VK->Prop}
theorem adZ (pa:PlainAttrs T) (slot:Slot T name id) (hty:typeOf (.builtin id)=pure (.type "method_descriptor")) (hm:MtR X id r) (ho:PE X o to)
  (hbase:attributeBase o name X.env (eval o X.env)=eval o X.env:=by rfl) (hline:(apos.endLine==cpos.line)=true:=by rfl):PE X (.Call (.Attribute o name apos) [] [] cpos) (aiB X.K T r to):=by
 intro pins s σ H Q I h
 refine wpAny_Call_method0_late hbase hline (jy (ho pins s σ H _ I h) fun v s1 ⟨x,H1,I1,r1,ty,q1⟩=>?_)
 obtain⟨h1,h2⟩:=Yu I1 r1 ty
 exact⟨T,id,pa,slot,hty,h1,h2,Calls.callWith_builtin rfl (PySem.evalArgs_none (hm pins s1 σ H1 x [] v [] Q I1 r1 .nil q1))⟩
theorem U3 (pa:PlainAttrs T) (slot:Slot T name id) (hty:typeOf (.builtin id)=pure (.type "method_descriptor")) (hm:MtR X id r) (ho:PE X o to) (ha:PA X (e::es) t)
  (hbase:attributeBase o name X.env (eval o X.env)=eval o X.env:=by rfl)
  (hfew:((backTo cpos (starEach (e::es) X.env)).all (fun x=>!x.1)&&(backToKw cpos (keywordEach [] X.env)).all (fun x=>x.1.isSome)
   && decide ((e::es).length+([]:List Keyword).length+(if ([]:List Keyword).isEmpty then 0 else 1) < 30))=true:=by rfl)
  (hline:(apos.endLine==cpos.line)=true:=by rfl) (hs:starEach (e::es) X.env=(false,eval e X.env)::starEach es X.env:=by rfl) (hplain:(backTo cpos (starEach es X.env)).any (·.1)=false:=by rfl) :
  PE X (.Call (.Attribute o name apos) (e::es) [] cpos) (tBM X.K T r to t):=by
 intro pins s σ H Q I h
 refine wpAny_Call_method_late hbase hfew hline rfl (jy (ho pins s σ H _ I h) fun v s1 ⟨x,H1,I1,r1,ty,q1⟩=>?_)
 obtain⟨h1,h2⟩:=Yu I1 r1 ty
 refine⟨T,id,pa,slot,hty,h1,h2,?_⟩
 have hA:=ha cpos pins s1 σ H1 _ I1 q1
 rw[hs] at hA ⊢
 refine Calls.callWith_builtin (by show (false||(backTo cpos (starEach es X.env)).any (·.1))=false;rw[hplain]<;>rfl) (Calls.evalArgs_plain ?_)
 exact jy hA fun us s2 ⟨vs,H2,I2,r2,q2⟩=>hm pins s2 σ H2 x vs v us Q I2 r1 r2 q2
end
end L2
namespace L2
open PySem PySem.Spec PyProof.Rows
def MtM (X:Cx) (id:String) (r:V->List V->Hp->VK->Prop):Prop:=
 ∀ (pins:List (Addr×Obj)) (s:Shared) (σ:St) (H:Hp) (x:V) (xs:List V) (v:Value) (us:List Value) (Q:VK),Inv X pins σ H s->RelV x v->Vals xs us->r x xs H Q →
  wpAny (model X.prog X.w) X.A (call (.builtin id) (v::us)) (EP X pins σ Q) X.xe s
theorem Vals.one:∀ {x:V} {us:List Value},Vals [x] us->∃ u,us=[u]/\RelV x u
 |_,_,.cons r .nil=>⟨_,rfl,r⟩
theorem Vals.zero:∀ {us:List Value},Vals [] us->us=[]
 |_,.nil=>rfl
theorem Vals.eraseIdx:∀ {xs:List V} {us:List Value} (i:Nat),Vals xs us->Vals (xs.eraseIdx i) (us.eraseIdx i)
 |_,_,_,.nil=>.nil
 |_,_,0,.cons _ t=>t
 |_,_,i+1,.cons r t=>.cons r (Vals.eraseIdx i t)
theorem Vals.reverse {xs:List V} {us:List Value} (h:Vals xs us):Vals xs.reverse us.reverse:=by
 induction h with
 |nil=>exact .nil
 |cons r t ih=>rw[List.reverse_cons,List.reverse_cons];exact Vals.append ih (.cons r .nil)
section
variable {X:Cx} {pins:List (Addr×Obj)} {σ:St} {H:Hp} {s:Shared} {l b:Addr} {xs ys zs:List V}
theorem Inv.ad0 {its its':List Value} {n:Nat} {f:Array Value->Array Value} {t':Nat} (I:Inv X pins σ H s) (hH:H l=some (.lst xs))
  (e:s.heap.get? l=some { cls:=.type "list", data:=.seq its.toArray n }) (hf:f its.toArray=its'.toArray) (hv:Vals ys its') (hz:ys.length<=sizeLine) :
  Inv X pins σ (upd H l (.lst ys)) { s with heap:=s.heap.update l (Obj.mapSeq f),toks:=t' }:=by
 have q:=PySem.IsL.update e f
 rw[hf] at q
 refine I.write (x:=l) (e:=l) (by rw[hH];exact trivial) (.inl rfl) (fun b' u hb hu=>(qo s.heap (Obj.mapSeq f) (qA hb)).trans hu) ⟨_,q⟩ ?_
 exact⟨hz,its',_,hv,q⟩
theorem Inv.fresh (I:Inv X pins σ H s):H s.heap.objs.size=none:=I.hok.fresh (zt _)
theorem Inv.aiC (I:Inv X pins σ H s) (hH:H l=some (.lst xs)):xs.length<=sizeLine/\∃ (its:List Value) (n:Nat),Vals xs its/\xs.length=its.length/\s.heap.get? l=some { cls:=.type "list", data:=.seq its.toArray n }:=by
 obtain⟨z,its,n,r,e⟩:=I.hok l _ hH
 exact⟨z,its,n,r,r.length,e⟩
end
section
variable {X:Cx}
def aa1:V->List V->Hp->VK->Prop:=fun x vs H Q=>∃ l xs y,x=.ref l/\vs=[y]/\H l=some (.lst xs)/\xs.length < sizeLine/\Q .non (upd H l (.lst (xs++[y])))
theorem LK:MtM X "list.append" aa1:=by
 intro pins s σ H x vs v us Q I rx rv h
 obtain⟨l,xs,y,rfl,rfl,hH,hz,q⟩:=h
 cases rx
 obtain⟨u,rfl,ru⟩:=rv.one
 obtain⟨z,its,n,r,hl,e⟩:=I.aiC hH
 refine call_meets F.slot_list_append ⟨_,e,rfl⟩ F.entry_list_append (F.args_list_append_2 _ _) (PySem.list_append l its.toArray n u (by rw[zr];omega)) ⟨e,?_⟩
 refine⟨.non,_,I.ad0 (its':=its++[u]) hH e (by simp) (r.append (.cons ru .nil)) ?_,rfl,q⟩
 rw[zl,Zl]
 omega
end
section
variable {prog:Program} {w:World} {A:Around} {E:VP_} {s:Shared}
end
section
variable {X:Cx}
end
end L2
namespace L2
open PySem PySem.Spec PyProof.Rows
section
variable {κ:Type} [DecidableEq κ]
def BW (kvs:List (κ×V)) (k:κ):Option V:=(kvs.find? fun kv=>decide (kv.1=k)).map (·.2)
def putK (kvs:List (κ×V)) (k:κ) (v:V):List (κ×V):=
 if (kvs.any fun kv=>decide (kv.1=k))=true then kvs.map (fun kv=>if kv.1=k then (kv.1,v) else kv) else kvs++[(k,v)]
def acF (kvs:List (κ×V)) (k:κ):List (κ×V):=kvs.filter fun kv=>decide (kv.1≠k)
theorem BX {p:κ×V} {r:List (κ×V)} {k:κ} (e:p.1=k):BW (p::r) k=some p.2:=by simp[BW,qS,e]
theorem BZ {p:κ×V} {r:List (κ×V)} {k:κ} (e:¬ p.1=k):BW (p::r) k=BW r k:=by simp[BW,qS,e]
theorem PX (k:κ):∀ kvs:List (κ×V),(kvs.any fun kv=>decide (kv.1=k))=(BW kvs k).isSome
 |[]=>rfl
 |p::r=>by
  rw[QR]
  by_cases e:p.1=k
  ·simp only[BX e,ZO e,Bool.true_or,Option.isSome_some]
  ·rw[BZ e,ZH e,kf];exact PX k r
theorem Sx.getD {o:Option V} {u:Option Value} {d:V} {d':Value} (r:Sx o u) (rd:RelV d d'):RelV (o.getD d) (u.getD d'):=by
 cases o with
 |none=>cases u with
  |none=>exact rd
  |some _=>exact (show False from r).elim
 |some _=>cases u with
  |none=>exact (show False from r).elim
  |some _=>exact r
theorem KV.val {kvs:List (κ×V)} {vs:List (κ×Value)} (r:KV kvs vs) (k:κ):Sx (BW kvs k) (valueAt vs k):=by
 unfold KV at r
 induction r with
 |nil=>exact True.intro
 |@cons p q ps qs h t ih=>
  obtain⟨h1,h2⟩:=h
  by_cases e:p.1=k
  ·have e':q.1=k:=h1.symm.trans e
   have b:valueAt (q::qs) k=some q.2:=by simp[valueAt,qS,e']
   rw[BX e,b];exact h2
  ·have e':¬ q.1=k:=fun z=>e (h1.trans z)
   have b:valueAt (q::qs) k=valueAt qs k:=by simp[valueAt,qS,e']
   rw[BZ e,b];exact ih
theorem KV.any {kvs:List (κ×V)} {vs:List (κ×Value)} (r:KV kvs vs) (k:κ):(kvs.any fun kv=>decide (kv.1=k))=vs.any fun kv=>decide (kv.1=k):=by
 unfold KV at r
 induction r with
 |nil=>rfl
 |cons h t ih=>rw[QR,QR,ih,h.1]
theorem KV.drop {kvs:List (κ×V)} {vs:List (κ×Value)} (r:KV kvs vs) (k:κ):KV (acF kvs k) (without vs k):=by
 unfold KV at r ⊢
 unfold acF without
 induction r with
 |nil=>exact .nil
 |@cons p q ps qs h t ih=>
  obtain⟨h1,h2⟩:=h
  rw[kG,kG]
  by_cases e:p.1=k
  ·have a:¬ decide (p.1≠k)=true:=by simp[e]
   have b:¬ decide (q.1≠k)=true:=by simp[h1.symm.trans e]
   rw[Zs a,Zs b];exact ih
  ·have e':¬ q.1=k:=fun z=>e (h1.trans z)
   have a:decide (p.1≠k)=true:=by simp[e]
   have b:decide (q.1≠k)=true:=by simp[e']
   rw[zo a,zo b];exact .cons ⟨h1,h2⟩ ih
theorem KV.length {kvs:List (κ×V)} {vs:List (κ×Value)} (r:KV kvs vs):kvs.length=vs.length:=Paired.length r
end
abbrev KT (H:Hp):List (List Key×V)->List (List Key×Addr×Value)->Prop:=Paired fun p q=>p.1=q.1/\H q.2.1=some (.tup (p.1.map kV))/\RelV p.2 q.2.2
theorem KT.val {H:Hp} {kvs:List (List Key×V)} {xs:List (List Key×Addr×Value)} (r:KT H kvs xs) (k:List Key):Sx (BW kvs k) ((atKey xs k).map (·.2)):=by
 induction r with
 |nil=>exact True.intro
 |@cons p q ps qs h t ih=>
  obtain⟨h1,_,h2⟩:=h
  by_cases e:p.1=k
  ·have e':q.1=k:=h1.symm.trans e
   have b:atKey (q::qs) k=some q.2:=by simp[atKey,qS,e']
   rw[BX e,b];exact h2
  ·have e':¬ q.1=k:=fun z=>e (h1.trans z)
   have b:atKey (q::qs) k=atKey qs k:=by simp[atKey,qS,e']
   rw[BZ e,b];exact ih
theorem KT.keeps {H H':Hp} {kvs:List (List Key×V)} {xs:List (List Key×Addr×Value)} (r:KT H kvs xs) (ht:∀ b ys,H b=some (.tup ys)->H' b=some (.tup ys)):KT H' kvs xs:=
 Paired.aaF r fun _ _ z=>⟨z.1,ht _ _ z.2.1,z.2.2⟩
section
variable {P:Program} {w:World} {H:Hp} {h:Heap} {a:Addr}
theorem af5 {u:HO} (ok:Ba P w H h) (e:Rd H a u):jQ P w H h a u:=e.ok ok
theorem LQ {kvs:List (Key×V)} (ok:Ba P w H h) (e:Rd H a (.dK kvs)):kvs.length<=sizeLine/\(a==sysModules)=false/\∃ vs,KV kvs vs/\h.DictOf (pW P w) a vs:=
 show jQ P w H h a (.dK kvs) from af5 ok e
end
def aa2 (H:Hp) (a:Addr) (y:V) (r:Option V):Prop:=
 (∃ kvs k,Rd H a (.dK kvs)/\y=kV k/\r=BW kvs k)\/∃ kvs k b,Rd H a (.dT kvs)/\y=.ref b/\H b=some (.tup (k.map kV))/\r=BW kvs k
def aa3 (H:Hp) (a:Addr) (y v:V) (H':Hp):Prop:=
 (∃ kvs k,H a=some (.dK kvs)/\y=kV k/\kvs.length < sizeLine/\H'=upd H a (.dK (putK kvs k v))) ∨
 ∃ kvs k b,H a=some (.dT kvs)/\y=.ref b/\H b=some (.tup (k.map kV))/\kvs.length < sizeLine/\H'=upd H a (.dT (putK kvs k v))
theorem aa2.k {H:Hp} {a:Addr} {kvs:List (Key×V)} {k:Key} (e:H a=some (.dK kvs)):aa2 H a (kV k) (BW kvs k):=.inl ⟨kvs,k,.inl e,rfl,rfl⟩
theorem aa2.t {H:Hp} {a b:Addr} {kvs:List (List Key×V)} {k:List Key} (e:H a=some (.dT kvs)) (eb:H b=some (.tup (k.map kV))):aa2 H a (.ref b) (BW kvs k):=.inr ⟨kvs,k,b,.inl e,rfl,eb,rfl⟩
theorem aa3.k {H:Hp} {a:Addr} {kvs:List (Key×V)} {k:Key} {v:V} (e:H a=some (.dK kvs)) (hl:kvs.length < sizeLine):aa3 H a (kV k) v (upd H a (.dK (putK kvs k v))):=.inl ⟨kvs,k,e,rfl,hl,rfl⟩
theorem aa3.t {H:Hp} {a b:Addr} {kvs:List (List Key×V)} {k:List Key} {v:V} (e:H a=some (.dT kvs)) (eb:H b=some (.tup (k.map kV))) (hl:kvs.length < sizeLine) :
  aa3 H a (.ref b) v (upd H a (.dT (putK kvs k v))):=.inr ⟨kvs,k,b,e,rfl,eb,hl,rfl⟩
section
variable {X:Cx} {pins:List (Addr×Obj)} {σ:St} {H:Hp} {s:Shared} {a:Addr} {y v:V} {u r:Value} {o:Option V} {A:Around} {E:VP_}
theorem Inv.big (I:Inv X pins σ H s):sysModules < s.heap.objs.size:=by
 have h:mainGlobals < s.heap.objs.size:=(I.mod.glob.keeps I.bk).lt
 exact Nat.lt_trans (by decide) h
end
section
variable {X:Cx} {pins:List (Addr×Obj)} {σ:St} {H:Hp} {s:Shared} {a:Addr} {kvs:List (Key×V)} {k:Key} {u:Value} {A:Around} {E:VP_}
end
section
variable {X:Cx} {o i e value:Expr} {pos pos' tpos:Pos} {td ty tv:TE}
end
theorem Yv {P:Program} {w:World} {H:Hp} (h:Heap) (hb:sysModules < h.objs.size):jQ P w H (h.push { cls:=.type "dict", data:=.dict #[] }) h.objs.size (.dK []):=
 ⟨QN _,beq_eq_false_iff_ne.mpr (qA (ZU hb)),[],.nil,Heap.DictOf.new h⟩
def ad1:TE:=fun _ H Q=>∀ p,H p=none->Q (.ref p) (upd H p (.dK []))
section
variable {X:Cx} {pos:Pos}
theorem Yw:PE X (.Dict [] [] pos) ad1:=fun pins s σ H Q I h=>
 wpAny_Dict_empty ⟨.ref s.heap.objs.size,_,I.laid (a:=s.heap.objs.size) (o:=.dK []) (t':=s.toks) (fun _ _ q=>ze _ q) (zt _) (Yv s.heap I.big),rfl,h _ (I.hok.fresh (zt _))⟩
end
structure M1 (X:Cx) (o:Expr) (m:Str) (apos:Pos) (e:Expr) (cpos:Pos):Prop where
 base:attributeBase o m X.env (eval o X.env)=eval o X.env
 few:((backTo cpos (starEach [e] X.env)).all (fun x=>!x.1)&&(backToKw cpos (keywordEach [] X.env)).all (fun x=>x.1.isSome)
  && decide (([e]:List Expr).length+([]:List Keyword).length+(if ([]:List Keyword).isEmpty then 0 else 1) < 30))=true
 line:(apos.endLine==cpos.line)=true
 trees:backTo cpos (starEach [e] X.env)=[(false,eval e X.env)]
structure M2 (X:Cx) (o:Expr) (m:Str) (apos:Pos) (e f:Expr) (cpos:Pos):Prop where
 base:attributeBase o m X.env (eval o X.env)=eval o X.env
 few:((backTo cpos (starEach [e,f] X.env)).all (fun x=>!x.1)&&(backToKw cpos (keywordEach [] X.env)).all (fun x=>x.1.isSome)
  && decide (([e,f]:List Expr).length+([]:List Keyword).length+(if ([]:List Keyword).isEmpty then 0 else 1) < 30))=true
 line:(apos.endLine==cpos.line)=true
 trees:backTo cpos (starEach [e,f] X.env)=[(false,eval e X.env),(false,eval f X.env)]
section
variable {X:Cx} {pins:List (Addr×Obj)} {σ:St} {H:Hp} {s:Shared} {a:Addr} {y d:V} {u r:Value} {o:Option V} {A:Around} {E:VP_}
end
section
variable {X:Cx} {o e f:Expr} {apos cpos:Pos} {td ty tx:TE}
end
section
variable {X:Cx} {pins:List (Addr×Obj)} {σ:St} {H:Hp} {s:Shared} {a:Addr} {kvs:List (Key×V)} {A:Around} {E:VP_}
end
section
variable {X:Cx} {pins:List (Addr×Obj)} {σ:St} {H:Hp} {s:Shared} {a:Addr} {y:V} {u:Value} {A:Around} {E:VP_}
end
end L2
namespace Att
open PySem PySem.W PySem.Calls PyProof.Rows
theorem Gj {P:Params} {h:Heap}:∀ (ns:List Int) (vs:List Value),WellAll P h vs (ns.map WData.int)->IntsAre vs ns:=by
 intro ns
 induction ns with
 |nil=>
  intro vs w
  rw[QP] at w
  cases w
  exact .nil
 |cons n ns ih=>
  intro vs w
  rw[zz] at w
  cases w with
  |cons a b=>
   cases a
   exact .cons _ _ (ih _ b)
theorem Wh {l:OpenLaw} {n:Nat} (hn:l.most=some n) {P:Params} {h:Heap} {args:List WData} {vals:List Value}
  (hpre:l.row.toRowW.claim.pre args=true) (hwl:WellAll P h vals args) :
  ∃ a vs ns,vals=[Value.ref a]/\args=[WData.list (ns.map WData.int)]/\h.get? a=some { cls:=.type "list", data:=.seq vs.toArray }/\IntsAre vs ns/\ns.length<=n:=by
 have hsh:WShape.hasAll [] args [.list .int]=true:=(pre_splitW hpre).1
 have hc:l.pre.holds [] { args:=args }=true:=(pre_splitW hpre).2
 obtain⟨d,r,rfl,h1,h2⟩:=hasAllW_cons hsh
 obtain rfl:=hasAllW_nil h2
 obtain⟨xs,rfl,h3⟩:=hasW_list h1
 obtain⟨ns,rfl⟩:=items_int h3
 have hlen:ns.length<=n:=by
  unfold OpenLaw.pre at hc
  have h4:(WTm.not (.lt (.lit (.int (n:Int))) (.len (.arg 0)))).holds [] { args:=[.list (ns.map .int)] }=true:=by
   have h4:=(holds_andW hc).1
   rw[hn] at h4
   exact h4
  have h5:=condW_of h4 (w_not (w_lt w_lit (w_len_list (w_arg rfl))))
  rw[zC] at h5
  refine Nat.le_of_not_lt fun q=>?_
  have q':(n:Int) < ((ns.length:Nat):Int):=by omega
  first
   |(rw[ZO q'] at h5;exact absurd h5 (by decide))
   |(simp at h5;omega)
 cases hwl with
 |cons w1 w2=>
  cases w2
  cases w1 with
  |list ho hall=>exact⟨_,_,ns,rfl,rfl,ho,Gj ns _ hall,hlen⟩
theorem Wi (l:OpenLaw) (args:List WData):l.row.toRowW.claim.post args (.bool true) args=true:=
 postW_of (r:=l.row.toRowW) (X:=(true==true))
  (show WShape.has [] (.bool true) .bool=true by first|rfl|decide|simp[WShape.has,WShape.arms,WShape.armsAll])
  (show (WTm.eq .res (.lit (.bool true))).value [] { args:=args,res:=some (.bool true),after:=args }=some (.bool (true==true)) from w_eq_bool (w_res rfl) w_lit) rfl
theorem Qa {l:OpenLaw} {n:Nat} {q:Program} {loose:LS_} {XP:(Str->Option Value)->Heap->Prop} {YP:World->Heap->Prop} {d:DefRec}
  (hn:l.most=some n) (hdf:d.params.defaults=[])
  (call:∀ (w:World) (s₀ s₁:Shared) (mg mb:Str->Option Value) (fa:Addr) (o:Obj) (pm cd doc:Value) (a:Addr) (vs:List Value) (ns:List Int),
   Ground q loose [] XP w s₀ mg mb s₁.heap->YP w s₁.heap →
   s₁.heap.get? fa=some o->o.data=.func (docDef d.name d.params d.body d.scope pm cd doc)->s₁.heap.CodeRec cd d.name->mg d.name=some (.ref fa) →
   s₁.heap.get? a=some { cls:=.type "list", data:=.seq vs.toArray }->IntsAre vs ns->ns.length<=n->s₁.gens=#[] →
   codeAny (model l.prog w) callerA (.call (.ref fa) ⟨[.ref a],[]⟩) (fun r s'=>r=.ok (.ret (.bool true))/\OldK s₁.heap s'.heap/\s'.os=s₁.os/\AllBare s'.gens) s₁) :
  WalkO q loose XP YP l.row.toRowW d [] (fun f vs=>PySem.call f vs):=by
 intro w s₀ s₁ mg mb G Y fa o pm cd doc dV kV ho hd hcd hD hmg hg args vals as hpre hlay hrd hwl hlo
 obtain rfl:dV=.none:=Dflts.none hD hdf
 obtain rfl:kV=.none:=Dflts.noKw hD
 obtain⟨a,vs,ns,rfl,rfl,hobj,hints,hlen⟩:=Wh hn hpre hwl
 refine enter_call (kr (call w s₀ s₁ mg mb fa o pm cd doc a vs ns G Y ho (fd_plain hd) hcd hmg hobj hints hlen hg) fun r s' hq=>?_)
 obtain⟨rfl,h2,h3,h4⟩:=hq
 exact⟨.inl ⟨.bool true,.bool true,[],rfl,fun _=>rfl,.bool true,Wi l _,fun _=>⟨List.Pairwise.nil,fun _ hm=>(nomatch hm)⟩⟩,h2,h3,h4⟩
section
variable {prog:Program} {w:World} {A:Around} {E:VP_} {s:Shared} {K:Frag}
end
end Att
namespace L2
open PySem PySem.Spec PyProof.Rows
theorem zF:∀ {vs:List Value} {ns:List Int},IntsAre vs ns->Vals (ns.map V.int) vs
 |_,_,.nil=>.nil
 |_,_,.cons n t h=>.cons ⟨t,rfl⟩ (zF h)
def Only (H:Hp):Prop:=∀ b,H b=none\/∃ o xs,H b=some (.BK o (.lst xs))
theorem Yx {P:Program} {w:World} {K:FG_} {mg mb:Str->Option Value} {CX:Sv} {k:Nat} {fa a:Addr} {fd:FuncData} {x:Str} {sp:Sp} {s₁:Shared} {vs:List Value} {ns:List Int}
  (KX:K.In s₁.heap) (hns:s₁.heap.Ns mainGlobals mg) (hb:s₁.heap.Ns builtinsNs mb) (hbb:∀ x:Str,x ≠ "__name__" → mb x=bootBuiltins x) (hlim:s₁.heap.NoLimit) (hg:s₁.gens=#[])
  (ha:s₁.heap.get? a=some { cls:=.type "list", data:=.seq vs.toArray }) (hi:IntsAre vs ns) (hl:ns.length<=sizeLine) (hr:jU k callerA)
  (F:∀ base:Heap,K.In base->base.Ns mainGlobals mg->bF P w K mg base CX k fa fd [x] sp) (hbind:∀ (s:Shared) (u:Value),BindsTo s fd ⟨[u],[]⟩ [(x,u)])
  (hsp:∀ H:Hp,Only H->uQ K H a (ns.map V.int)->sp [.ref a] H (fun v _=>v=.bl true) fun _ _ _=>False)
  (hCX:∀ H e s',CX [] H s₁ (fun _ _ _=>False) e s'->False) :
  codeAny (model P w) callerA (.call (.ref fa) ⟨[.ref a],[]⟩) (fun r s'=>r=.ok (.ret (.bool true))/\OldK s₁.heap s'.heap/\s'.os=s₁.os/\AllBare s'.gens) s₁:=by
 have rv:=zF hi
 have lenV:=hi.length
 have core:∀ H:Hp,Only H->uQ K H a (ns.map V.int)->Ba P w H s₁.heap->(∀ b,H b≠none->b=a)->(H a≠none->K.lookup a=none) →
   codeAny (model P w) callerA (.call (.ref fa) ⟨[.ref a],[]⟩) (fun r s'=>r=.ok (.ret (.bool true))/\OldK s₁.heap s'.heap/\s'.os=s₁.os/\AllBare s'.gens) s₁:=by
  intro H hO hS hok hA hK
  have U4:∀ {b:Addr} {o:Obj},s₁.heap.get? b=some o->H b=none->(Nh s₁.heap H).get? b=some o:=fun e n=>X5 e n
  have noA:∀ {b:Addr} {o:Obj} {es:Array DictEntry} {ep:Nat},s₁.heap.get? b=some o->o.data=.dict es ep->H b=none:=fun {b o es ep} e d=>by
   cases q:H b with
   |none=>rfl
   |some u=>
    have e':b=a:=hA b (by rw[q];simp)
    subst e'
    rw[ha] at e;cases e
    have d':Data.seq vs.toArray _=Data.dict es ep:=d
    cases d'
  have nsK:∀ {b:Addr} {m:Str->Option Value},s₁.heap.Ns b m->(Nh s₁.heap H).Ns b m:=fun {b m} ⟨o,es,ep,e,d,r⟩=>⟨o,es,ep,U4 e (noA e d),d,r⟩
  have hKb:K.In (Nh s₁.heap H):=fun b o e=>U4 (KX b o e) (by
   cases q:H b with
   |none=>rfl
   |some u=>
    have e':b=a:=hA b (by rw[q];simp)
    subst e'
    rw[hK (by rw[q];simp)] at e;cases e)
  have hM:Mod K mg (Nh s₁.heap H):=⟨hKb,nsK hns,⟨mb,nsK hb,hbb⟩,let ⟨mc,h1,h2⟩:=hlim;⟨mc,nsK h1,h2⟩⟩
  have e0:Kv P w K mg (Nh s₁.heap H) callerA [] s₁ H:=⟨rfl,hM,fun b o e=>aaG e,Nat.le_of_eq (V3 _ _),trivial,fun b hb=>absurd (show b∈([]:List Addr) from hb) (by simp),hok,.of_eq hg⟩
  refine kr ((F _ hKb (nsK hns)).run callerA [] s₁ H ⟨[.ref a],[]⟩ [.ref a] [.ref a] _ _ hr e0 (hbind s₁ (.ref a)) (.cons rfl .nil) (hsp H hO hS)) fun r s' h=>?_
  cases r with
  |error e=>exact (hCX H e s' h).elim
  |ok fl=>
   cases fl with
   |next=>exact False.elim h
   |brk=>exact False.elim h
   |cont=>exact False.elim h
   |ret u=>
    obtain⟨v,H',os,bare,un,hok',r',q⟩:=h
    have q':v=.bl true:=q
    subst q'
    obtain rfl:u=Value.bool true:=r'
    refine⟨rfl,OldK.of_keep fun b o e=>?_,os,bare⟩
    cases q:H b with
    |none=>exact un.keep b o e q (by intro z;exact absurd (show b∈([]:List Addr) from z) (by simp)) (by simp)
    |some u=>
     rcases hO b with z|⟨ob,xs,z⟩
     ·rw[q] at z;cases z
     ·have z2:=un.uP b ob _ z
      obtain⟨e1,_⟩:=hok b _ z
      obtain⟨e2,_⟩:=hok' b _ z2
      rw[e] at e1;cases e1
      exact e2
 cases hk:K.lookup a with
 |some o=>
  have e:=KX a o hk
  rw[ha] at e
  cases e
  refine core (fun _=>none) (fun _=>.inl rfl) (.inr ⟨_,vs.toArray,_,hk,rfl,rfl,rfl,by rw[zr,lenV];exact hl,by simpa using rv⟩) (fun b u z=>by have z':(none:Option HO)=some u:=z;cases z') (fun b z=>absurd rfl z) fun z=>absurd rfl z
 |none=>
  refine core (fun b=>if b=a then some (.BK { cls:=.type "list", data:=.seq vs.toArray } (.lst (ns.map V.int))) else none) (fun b=>?_) (.inl (.inr ⟨{ cls:=.type "list", data:=.seq vs.toArray },zo rfl⟩)) (fun b u z=>?_) (fun b z=>?_) fun _=>hk
  ·by_cases hb:b=a
   ·exact .inr ⟨_,_,zo hb⟩
   ·exact .inl (Zs hb)
  ·by_cases hb:b=a
   ·have z':=(zo hb).symm.trans z
    cases z'
    subst hb
    exact⟨ha,by rw[zC];exact hl,vs,_,rv,ha⟩
   ·have z':=(Zs hb).symm.trans z
    cases z'
  ·by_cases hb:b=a
   ·exact hb
   ·exact absurd (Zs hb) z
end L2
namespace L2
open PySem PySem.Spec PyProof.Rows
theorem aa4 {l:PySem.W.OpenLaw} {n k:Nat} {q:Program} {loose:LS_} {XP:(Str->Option Value)->Heap->Prop} {YP:World->Heap->Prop} {d:DefRec} {K:Params->FG_} {CX:World->Sv} {sp:World->Sp} {x:Str}
  (hn:l.most=some n) (hn2:n<=sizeLine) (hdf:d.params.defaults=[]) (hr:jU k callerA)
  (hY:∀ (w:World) (h:Heap),YP w h->(K w.params).In h)
  (F:∀ (w:World) (mg:Str->Option Value) (fa:Addr) (h:Heap),(K w.params).In h->h.Ns mainGlobals mg->mg d.name=some (.ref fa) →
   ∃ fd:FuncData,(∀ (s:Shared) (u:Value),BindsTo s fd ⟨[u],[]⟩ [(x,u)]) ∧
    ∀ base:Heap,(K w.params).In base->base.Ns mainGlobals mg->bF l.prog w (K w.params) mg base (CX w) k fa fd [x] (sp w))
  (hsp:∀ (w:World) (H:Hp) (a:Addr) (ns:List Int),ns.length<=n->Only H->uQ (K w.params) H a (ns.map V.int)->sp w [.ref a] H (fun v _=>v=.bl true) fun _ _ _=>False)
  (hCX:∀ (w:World) (H:Hp) (s:Shared) (e:Value) (s':Shared),CX w [] H s (fun _ _ _=>False) e s'->False) :
  PySem.W.WalkO q loose XP YP l.row.toRowW d [] (fun f vs=>PySem.call f vs):=by
 refine Att.Qa hn hdf fun w s₀ s₁ mg mb fa o pm cd doc a vs ns G Y ho hd hcd hmg hobj hints hlen hg=>?_
 have KX:=hY w _ Y
 obtain⟨fd,hb,hF⟩:=F w mg fa _ KX G.T.g hmg
 exact Yx KX G.T.g G.T.b G.T.builtins G.T.nolimit hg hobj hints (zv hlen hn2) hr hF hb (fun H hO hS=>hsp w H a ns hlen hO hS) fun H e s'=>hCX w H s₁ e s'
theorem Yy {l:PySem.W.OpenLaw} {n k:Nat} {q:Program} {loose:LS_} {XP:(Str->Option Value)->Heap->Prop} {YP:World->Heap->Prop} {d:DefRec} {K:Params->FG_} {CX:Sv} {sp:FG_->Sp} {x:Str}
  (hn:l.most=some n) (hn2:n<=sizeLine) (hdf:d.params.defaults=[]) (hr:jU k callerA)
  (hY:∀ (w:World) (h:Heap),YP w h->(K w.params).In h)
  (F:∀ (w:World) (mg:Str->Option Value) (fa:Addr) (h:Heap),(K w.params).In h->h.Ns mainGlobals mg->mg d.name=some (.ref fa) →
   ∃ fd:FuncData,(∀ (s:Shared) (u:Value),BindsTo s fd ⟨[u],[]⟩ [(x,u)]) ∧
    ∀ base:Heap,(K w.params).In base->base.Ns mainGlobals mg->bF l.prog w (K w.params) mg base CX k fa fd [x] (sp (K w.params)))
  (hsp:∀ (K:FG_) (H:Hp) (a:Addr) (ns:List Int),ns.length<=n->Only H->uQ K H a (ns.map V.int)->sp K [.ref a] H (fun v _=>v=.bl true) fun _ _ _=>False)
  (hCX:∀ (H:Hp) (s:Shared) (e:Value) (s':Shared),CX [] H s (fun _ _ _=>False) e s'->False) :
  PySem.W.WalkO q loose XP YP l.row.toRowW d [] (fun f vs=>PySem.call f vs):=
 aa4 (K:=K) (CX:=fun _=>CX) (sp:=fun w=>sp (K w.params)) hn hn2 hdf hr hY F (fun w H a ns h1 h2 h3=>hsp (K w.params) H a ns h1 h2 h3) fun _ H s e s'=>hCX H s e s'
end L2
namespace L2
open PySem PySem.Spec PyProof.Rows
def vQ (s:Stmt):Arguments:=match s with
 |.FunctionDef _ a _ _ _ _ _ _ _ _=>a
 |_=>{ posonlyargs:=[],args:=[],vararg:=none,kwonlyargs:=[],kw_defaults:=[],kwarg:=none,defaults:=[] }
def jR (s:Stmt):List Stmt:=match s with
 |.FunctionDef _ _ b _ _ _ _ _ _ _=>b
 |_=>[]
def aK (s:Stmt):Scope:=match s with
 |.FunctionDef _ _ _ _ _ _ sc _ _ _=>sc
 |_=>{ kind:=.function,names:=[],isGenerator:=false,isCoroutine:=false }
abbrev gO:Sv:=fun _ _ _ _ _ _=>False
abbrev E0:XK:=fun _ _ _=>False
theorem af7 {X:Cx}:Passes gO X E0:=fun _ _ _ _ _ _ _ h=>h.elim
structure qK (K:FG_) (x qual:Str) (st:Stmt) (f:Addr) (fd:FuncData):Prop where
 ex:∃ (oc:Value) (od:Option Addr) (kV doc pm:Value) (an:Option Addr) (cdv ct:Value) (osl:Array (Option Value)),
  fd=PySem.W.fnOf x qual (vQ st) (jR st) (aK st) .none kV doc pm an cdv ct/\K.lookup f=some ⟨oc,od,.func fd,osl⟩/\PySem.W.codeIn K cdv qual=true
 kp:PySem.W.keepIn K (.ref f)=true
section
variable {P:Program} {w:World} {K:FG_} {mg:Str->Option Value} {base:Heap}
theorem qK.ok {x qual:Str} {st:Stmt} {f:Addr} {fd:FuncData} {N ps:LS_} {k:Nat} {sp:Sp} (F:qK K x qual st f fd) (S:bf N ps (aK st)) (len:∀ vs H Q E,sp vs H Q E->vs.length=ps.length)
  (hbody:∀ (cdv:Value) (A:Around) (outer:List Env) (s:Shared) (H:Hp) (vs:List V) (Q:VK) (E:XK),jU k (A.deeper (envOfC qual (aK st) s.heap.objs.size f cdv))->sp vs H Q E →
   ∃ t,Hf (Bb gO P w K mg base N qual (aK st) f cdv A outer s H E).Ss (jR st) t/\t { nx:=fun _ H'=>Q .non H',rt:=Q } (start N vs) H):bF P w K mg base gO (k+1) f fd ps sp:=by
 obtain⟨oc,od,kV,doc,pm,an,cdv,ct,osl,rfl,lk,hcd⟩:=F.ex
 refine acD lk hcd S len fun A outer s H vs Q E hr hsp=>?_
 obtain⟨t,h,q⟩:=hbody cdv A outer s H vs Q E hr hsp
 exact⟨t,h.Ss,q⟩
theorem qK.binds {x qual:Str} {st:Stmt} {f:Addr} {fd:FuncData} {ps:LS_} (F:qK K x qual st f fd)
  (h:∀ (kV doc pm:Value) (an:Option Addr) (cdv ct:Value) (us:List Value),us.length=ps.length->bindArgs (PySem.W.fnOf x qual (vQ st) (jR st) (aK st) .none kV doc pm an cdv ct) ⟨us,[]⟩=pure (ps.zip us)):Binds K fd ps []:=by
 obtain⟨oc,od,kV,doc,pm,an,cdv,ct,osl,rfl,lk,hcd⟩:=F.ex
 exact .all (h kV doc pm an cdv ct)
theorem dB {x qual:Str} {st:Stmt} {f:Addr} {oc:Value} {od an:Option Addr} {osl:Array (Option Value)} {kV doc pm cdv ct:Value} (l:K.lookup f=some ⟨oc,od,.func (PySem.W.fnOf x qual (vQ st) (jR st) (aK st) .none kV doc pm an cdv ct),osl⟩)
  (c:PySem.W.codeIn K cdv qual=true) (k:PySem.W.keepIn K (.ref f)=true):qK K x qual st f (PySem.W.fnOf x qual (vQ st) (jR st) (aK st) .none kV doc pm an cdv ct):=⟨⟨oc,od,kV,doc,pm,an,cdv,ct,osl,rfl,l,c⟩,k⟩
end
section
variable {X:Cx}
theorem pv (i:Nat) {x:Str} {pos:Pos} (hN:X.N[i]?=some x:=by rfl) (hv:Vis X.env.scope x:=by first|exact Or.inl rfl|exact ka (Or.inl rfl)|exact ka (ka rfl)) (hd:(x==("__debug__" : Str))=false:=by decide)
  (hcd:(x==("__classdict__" : Str))=false:=by decide):PE X (.Name x pos) (X8 i):=Ni hN hv hd hcd
end
def Same (H H':Hp):Prop:=∀ b o,H b=some o->H' b=some o
theorem Same.refl (H:Hp):Same H H:=fun _ _ h=>h
theorem Same.trans {H H1 H2:Hp} (a:Same H H1) (b:Same H1 H2):Same H H2:=fun c o h=>b c o (a c o h)
theorem Same.free {H H':Hp} (e:Same H H') {l:Addr} (h:H' l=Option.none):H l=Option.none:=by
 cases q:H l with
 |none=>rfl
 |some o=>
  rw[e l o q] at h
  cases h
theorem Same.seq {K:FG_} {H H':Hp} {a:Addr} {xs:List V} (e:Same H H') (h:uQ K H a xs):uQ K H' a xs:=by
 rcases h with (h|⟨o,h⟩)|h
 ·exact .inl (.inl (e _ _ h))
 ·exact .inl (.inr ⟨o,e _ _ h⟩)
 ·exact .inr h
end L2
end
section
namespace P1
open PySem PySem.Spec PyProof.Rows L2
inductive Dt where
 |non|bl (b:Bool)|int (i:Int)|str (x:Str)|tup (xs:List Dt)|lst (xs:List Dt)|emp
inductive Bx where
 |z (d:Dt)|l (ds:List Dt)|o (ds:List Dt)|n (kvs:List (Key×Dt))|m (kvs:List (Key×Dt)) (w:Option Addr)
abbrev Ev:=List (Option Bx)
def FzL (K:FG_) (H:Hp) (a:Addr) (xs:List V):Prop:=
 (∃ o,H a=some (.BK o (.lst xs))) ∨
  ∃ (o:Obj) (its:Array Value) (n:Nat),K.lookup a=some o/\o.cls=.type "list" ∧ o.dict=none/\o.data=.seq its n/\its.size<=sizeLine/\Vals xs its.toList
theorem FzL.sq {K:FG_} {H:Hp} {a:Addr} {xs:List V} (h:FzL K H a xs):uQ K H a xs:=by
 rcases h with h|h
 ·exact .inl (.inr h)
 ·exact .inr h
mutual
def Rep (K:FG_) (H:Hp):Dt->V->Prop
 |.non,v=>v=.non
 |.bl b,v=>v=.bl b
 |.int i,v=>v=.int i
 |.str x,v=>v=.str x/\x.length<=sizeLine
 |.tup ds,v=>∃ a vs,v=.ref a/\Bv K H a vs/\aV K H ds vs
 |.lst ds,v=>∃ a vs,v=.ref a/\FzL K H a vs/\aV K H ds vs
 |.emp,v=>∃ a o,v=.ref a/\H a=some (.BK o (.dK []))
def aV (K:FG_) (H:Hp):List Dt->List V->Prop
 |[],vs=>vs=[]
 |d::ds,vs=>∃ v r,vs=v::r/\Rep K H d v/\aV K H ds r
end
structure Kp (H H':Hp):Prop where
 t:∀ a xs,H a=some (.tup xs)->H' a=some (.tup xs)
 f:∀ a o u,H a=some (.BK o u)->H' a=some (.BK o u)
theorem Kp.of {H H':Hp} (s:Same H H'):Kp H H':=⟨fun a _ h=>s a _ h,fun a _ _ h=>s a _ h⟩
theorem Kp.sqT {K:FG_} {H H':Hp} {a:Addr} {xs:List V} (k:Kp H H') (h:Bv K H a xs):Bv K H' a xs:=by
 rcases h with (h|⟨o,h⟩)|h
 ·exact .inl (.inl (k.t _ _ h))
 ·exact .inl (.inr ⟨o,k.f _ _ _ h⟩)
 ·exact .inr h
theorem Kp.fzL {K:FG_} {H H':Hp} {a:Addr} {xs:List V} (k:Kp H H') (h:FzL K H a xs):FzL K H' a xs:=by
 rcases h with⟨o,h⟩|h
 ·exact .inl ⟨o,k.f _ _ _ h⟩
 ·exact .inr h
theorem Kp.lst {H:Hp} {a:Addr} {xs:List V} {o:HO} (h:H a=some (.lst xs)):Kp H (upd H a o):=by
 refine⟨fun b ys e=>?_,fun b ob u e=>?_⟩
 ·rw[aP (sW e h (by intro z;cases z))];exact e
 ·rw[aP (sW e h (by intro z;cases z))];exact e
theorem Kp.dk {H:Hp} {a:Addr} {xs:List (Key×V)} {o:HO} (h:H a=some (.dK xs)):Kp H (upd H a o):=by
 refine⟨fun b ys e=>?_,fun b ob u e=>?_⟩
 ·rw[aP (sW e h (by intro z;cases z))];exact e
 ·rw[aP (sW e h (by intro z;cases z))];exact e
mutual
theorem Rep.kp {K:FG_} {H H':Hp} (k:Kp H H'):∀ {d:Dt} {v:V},Rep K H d v->Rep K H' d v
 |.non,_,h=>by simpa only[Rep] using h
 |.bl _,_,h=>by simpa only[Rep] using h
 |.int _,_,h=>by simpa only[Rep] using h
 |.str _,_,h=>by simpa only[Rep] using h
 |.tup ds,_,h=>by
  simp only[Rep] at h ⊢
  obtain⟨a,vs,e,q,r⟩:=h
  exact⟨a,vs,e,k.sqT q,aV.kp k r⟩
 |.lst ds,_,h=>by
  simp only[Rep] at h ⊢
  obtain⟨a,vs,e,q,r⟩:=h
  exact⟨a,vs,e,k.fzL q,aV.kp k r⟩
 |.emp,_,h=>by
  simp only[Rep] at h ⊢
  obtain⟨a,o,e,q⟩:=h
  exact⟨a,o,e,k.f _ _ _ q⟩
theorem aV.kp {K:FG_} {H H':Hp} (k:Kp H H'):∀ {ds:List Dt} {vs:List V},aV K H ds vs->aV K H' ds vs
 |[],_,h=>by simpa only[aV] using h
 |d::ds,_,h=>by
  simp only[aV] at h ⊢
  obtain⟨v,r,e,q,t⟩:=h
  exact⟨v,r,e,Rep.kp k q,aV.kp k t⟩
end
theorem aV.length {K:FG_} {H:Hp}:∀ {ds:List Dt} {vs:List V},aV K H ds vs->vs.length=ds.length
 |[],_,h=>by simp only[aV] at h;subst h;rfl
 |d::ds,_,h=>by
  simp only[aV] at h
  obtain⟨v,r,rfl,_,t⟩:=h
  simp[aV.length t]
theorem aV.nil {K:FG_} {H:Hp}:aV K H [] []:=by simp only[aV]
theorem aV.cons {K:FG_} {H:Hp} {d:Dt} {v:V} {ds:List Dt} {vs:List V} (h:Rep K H d v) (t:aV K H ds vs):aV K H (d::ds) (v::vs):=by
 simp only[aV];exact⟨v,vs,rfl,h,t⟩
theorem aV.append {K:FG_} {H:Hp}:∀ {ds es:List Dt} {vs us:List V},aV K H ds vs->aV K H es us->aV K H (ds++es) (vs++us)
 |[],_,_,_,h,t=>by simp only[aV] at h;subst h;exact t
 |d::ds,_,_,_,h,t=>by
  simp only[aV] at h
  obtain⟨v,r,rfl,q,h⟩:=h
  exact aV.cons q (aV.append h t)
theorem aV.drop {K:FG_} {H:Hp}:∀ (n:Nat) {ds:List Dt} {vs:List V},aV K H ds vs->aV K H (ds.drop n) (vs.drop n)
 |0,_,_,h=>h
 |n+1,[],_,h=>by simp only[aV] at h;subst h;exact aV.nil
 |n+1,d::ds,_,h=>by
  simp only[aV] at h
  obtain⟨v,r,rfl,q,h⟩:=h
  exact aV.drop n h
theorem aV.take {K:FG_} {H:Hp}:∀ (n:Nat) {ds:List Dt} {vs:List V},aV K H ds vs->aV K H (ds.take n) (vs.take n)
 |0,_,_,_=>aV.nil
 |n+1,[],_,h=>by simp only[aV] at h;subst h;exact aV.nil
 |n+1,d::ds,_,h=>by
  simp only[aV] at h
  obtain⟨v,r,rfl,q,h⟩:=h
  exact aV.cons q (aV.take n h)
theorem aV.get {K:FG_} {H:Hp}:∀ {ds:List Dt} {vs:List V} {i:Nat} {d:Dt},aV K H ds vs->ds[i]?=some d->∃ v,vs[i]?=some v/\Rep K H d v
 |[],_,_,_,_,e=>by simp at e
 |d::ds,_,0,_,h,e=>by
  simp only[aV] at h
  obtain⟨v,r,rfl,q,h⟩:=h
  simp at e;subst e;exact⟨v,rfl,q⟩
 |d::ds,_,i+1,_,h,e=>by
  simp only[aV] at h
  obtain⟨v,r,rfl,q,h⟩:=h
  obtain⟨u,e1,e2⟩:=aV.get h (i:=i) (by simpa using e)
  exact⟨u,by simpa using e1,e2⟩
def okK:Key->Prop
 |.inl _=>True
 |.inr x=>x.length<=sizeLine
def sS (K:FG_) (H:Hp) (kvs:List (Key×Dt)) (ks:List (Key×V)):Prop:=ks.map (·.1)=kvs.map (·.1)/\aV K H (kvs.map (·.2)) (ks.map (·.2))/\∀ p∈kvs,okK p.1
theorem sS.kp {K:FG_} {H H':Hp} {kvs:List (Key×Dt)} {ks:List (Key×V)} (h:sS K H kvs ks) (k:Kp H H'):sS K H' kvs ks:=⟨h.1,h.2.1.kp k,h.2.2⟩
def bx (K:FG_) (H:Hp):Bx->V->Prop
 |.z d,v=>Rep K H d v
 |.l ds,v=>∃ a vs,v=.ref a/\Rd H a (.lst vs)/\aV K H ds vs
 |.o ds,v=>∃ a vs,v=.ref a/\H a=some (.lst vs)/\aV K H ds vs
 |.n kvs,v=>∃ a ks,v=.ref a/\Rd H a (.dK ks)/\sS K H kvs ks
 |.m kvs w,v=>∃ a ks,v=.ref a/\H a=some (.dK ks)/\sS K H kvs ks/\∀ b,w=some b->b=a
theorem bx.same {K:FG_} {H H':Hp} (s:Same H H') {b:Bx} {v:V} (h:bx K H b v):bx K H' b v:=by
 cases b with
 |z d=>exact Rep.kp (.of s) h
 |l ds=>
  obtain⟨a,vs,e,q,r⟩:=h
  refine⟨a,vs,e,?_,r.kp (.of s)⟩
  rcases q with q|⟨o,q⟩
  ·exact .inl (s _ _ q)
  ·exact .inr ⟨o,s _ _ q⟩
 |o ds=>
  obtain⟨a,vs,e,q,r⟩:=h
  exact⟨a,vs,e,s _ _ q,r.kp (.of s)⟩
 |n kvs=>
  obtain⟨a,vs,e,q,r⟩:=h
  refine⟨a,vs,e,?_,r.kp (.of s)⟩
  rcases q with q|⟨o,q⟩
  ·exact .inl (s _ _ q)
  ·exact .inr ⟨o,s _ _ q⟩
 |m kvs _=>
  obtain⟨a,vs,e,q,r⟩:=h
  exact⟨a,vs,e,s _ _ q,r.1.kp (.of s),r.2⟩
def yx:Bx->Option (List Dt)
 |.z (.lst ds)=>some ds
 |.l ds=>some ds
 |.o ds=>some ds
 |_=>none
theorem bx.LR {K:FG_} {H:Hp} {b:Bx} {v:V} {ds:List Dt} (h:bx K H b v) (e:yx b=some ds):∃ a vs,v=.ref a/\uQ K H a vs/\aV K H ds vs:=by
 cases b with
 |z d=>
  cases d<;>first|(cases e;done)|skip
  cases e
  simp only[bx,Rep] at h
  obtain⟨a,vs,e,q,r⟩:=h
  exact⟨a,vs,e,q.sq,r⟩
 |l ds'=>
  cases e
  obtain⟨a,vs,e,q,r⟩:=h
  exact⟨a,vs,e,.inl q,r⟩
 |o ds'=>
  cases e
  obtain⟨a,vs,e,q,r⟩:=h
  exact⟨a,vs,e,.inl (.inl q),r⟩
 |n _=>cases e
 |m _ _=>cases e
abbrev wZ (K:FG_) (H:Hp):List Bx->List V->Prop:=Paired (bx K H)
theorem wZ.same {K:FG_} {H H':Hp} (s:Same H H') {bs:List Bx} {vs:List V} (h:wZ K H bs vs):wZ K H' bs vs:=Paired.imp' (fun _ _ q=>bx.same s q) h
def Nw (H:Hp):Bx->V->Prop
 |.o _,v=>∀ a,v=.ref a->H a=none
 |.m _ _,v=>∀ a,v=.ref a->H a=none
 |_,_=>True
theorem Nw.old {H H1:Hp} (s:Same H H1) {b:Bx} {v:V} (h:Nw H1 b v):Nw H b v:=by
 cases b with
 |o ds=>exact fun a e=>s.free (h a e)
 |m ds _=>exact fun a e=>s.free (h a e)
 |_=>trivial
def loose:Bx->Bool
 |.z _=>false
 |_=>true
def Ca:Bx->Bool
 |.o _=>true
 |.m _ _=>true
 |_=>false
structure bT (K:FG_) (H0 H:Hp) (σ:L2.St) (ρ:Ev):Prop where
 len:σ.length=ρ.length
 val:∀ (i:Nat) b,ρ[i]?=some (some b)->∃ v,σ[i]?=some (some v)/\bx K H b v
 own:∀ (i j:Nat) c a b,ρ[i]?=some (some c)->Ca c=true->σ[i]?=some (some (.ref a))->ρ[j]?=some (some b)->loose b=true->σ[j]?=some (some (.ref a))->i=j
 base:Same H0 H
 new:∀ (i:Nat) c a,ρ[i]?=some (some c)->Ca c=true->σ[i]?=some (some (.ref a))->H0 a=none
theorem bT.grow {K:FG_} {H0 H H':Hp} {σ:L2.St} {ρ:Ev} (r:bT K H0 H σ ρ) (s:Same H H'):bT K H0 H' σ ρ:=
 ⟨r.len,fun i b e=>let ⟨v,e1,h⟩:=r.val i b e;⟨v,e1,h.same s⟩,r.own,r.base.trans s,r.new⟩
def tF (K:FG_) (f:Ev->Option Bx):TE:=fun σ H Q=>∃ H0 ρ b,bT K H0 H σ ρ/\f ρ=some b/\∀ v H',Same H H'->Nw H b v->bx K H' b v->Q v H'
def tFA (K:FG_) (f:Ev->Option (List Bx)):TA:=fun σ H Q=>∃ H0 ρ bs,bT K H0 H σ ρ/\f ρ=some bs/\∀ vs H',Same H H'->wZ K H' bs vs->Q vs H'
def tFT (K:FG_) (f:Ev->Option Bool):TT:=fun σ H Q=>∃ H0 ρ b,bT K H0 H σ ρ/\f ρ=some b/\∀ H',Same H H'->Q b H'
def PV (X:Cx) (e:Expr) (f:Ev->Option Bx):Prop:=PE X e (tF X.K f)
structure QV (X:Cx) (e:Expr) (f:Ev->Option Bx):Prop where
 run:PV X e f
def PVs (X:Cx) (es:List Expr) (f:Ev->Option (List Bx)):Prop:=PA X es (tFA X.K f)
structure U5 (X:Cx) (es:List Expr) (f:Ev->Option (List Bx)):Prop where
 run:PVs X es f
def PB (X:Cx) (e:Expr) (f:Ev->Option Bool):Prop:=PT X e (tFT X.K f)
structure QB (X:Cx) (e:Expr) (f:Ev->Option Bool):Prop where
 run:PB X e f
theorem HX {X:Cx} {e:Expr} {t t':TE} (h:PE X e t) (m:∀ σ H Q,t' σ H Q->t σ H Q):PE X e t':=fun pins s σ H Q I q=>h pins s σ H Q I (m σ H Q q)
theorem paM {X:Cx} {e:List Expr} {t t':TA} (h:PA X e t) (m:∀ σ H Q,t' σ H Q->t σ H Q):PA X e t':=fun pos pins s σ H Q I q=>h pos pins s σ H Q I (m σ H Q q)
theorem ptM {X:Cx} {e:Expr} {t t':TT} (h:PT X e t) (m:∀ σ H Q,t' σ H Q->t σ H Q):PT X e t':=fun pins s σ H Q I q=>h pins s σ H Q I (m σ H Q q)
theorem pwM {X:Cx} {e:Expr} {t t':TT} (h:PW X e t) (m:∀ σ H Q,t' σ H Q->t σ H Q):PW X e t':=fun wh pins s σ H Q I q=>h wh pins s σ H Q I (m σ H Q q)
theorem psM {X:Cx} {e:Stmt} {t t':TS} (h:PS X e t) (m:∀ D σ H,t' D σ H->t D σ H):PS X e t':=fun pins s σ H D I q=>h pins s σ H D I (m D σ H q)
theorem ad2 {X:Cx} {e:List Stmt} {t t':TS} (h:Hf X e t) (m:∀ D σ H,t' D σ H->t D σ H):Hf X e t':=fun pins s σ H D I q=>h pins s σ H D I (m D σ H q)
def rF (K:FG_) (g:Bx->Bx->Option Bx):R2:=fun x y H Q=>∃ a b c,bx K H a x/\bx K H b y/\g a b=some c/\∀ w H',Same H H'->Nw H c w->bx K H' c w->Q w H'
def rFs (K:FG_) (g:List Bx->Option Bx):List V->Hp->VK->Prop:=fun xs H Q=>∃ bs c,wZ K H bs xs/\g bs=some c/\∀ w H',Same H H'->Nw H c w->bx K H' c w->Q w H'
abbrev Kr (X:Cx) (f:Value->Value->Sem Value) (g:Bx->Bx->Option Bx):Prop:=yG X f (rF X.K g)
abbrev Cd (X:Cx) (f:Value) (g:List Bx->Option Bx):Prop:=jz X f (rFs X.K g)
theorem yG.imp {X:Cx} {f:Value->Value->Sem Value} {r r':R2} (h:yG X f r) (m:∀ x y H Q,r' x y H Q->r x y H Q):yG X f r':=fun pins s σ H x y v u Q I rx ry q=>h pins s σ H x y v u Q I rx ry (m x y H Q q)
theorem UnR.imp {X:Cx} {f:Value->Sem Value} {r r':V->Hp->VK->Prop} (h:UnR X f r) (m:∀ x H Q,r' x H Q->r x H Q):UnR X f r':=fun pins s σ H x v Q I rx q=>h pins s σ H x v Q I rx (m x H Q q)
theorem jz.imp {X:Cx} {f:Value} {r r':List V->Hp->VK->Prop} (h:jz X f r) (m:∀ x H Q,r' x H Q->r x H Q):jz X f r':=fun pins s σ H xs us Q I rx q=>h pins s σ H xs us Q I rx (m xs H Q q)
def b2 (g:Bx->Bx->Option Bx) (fa fb:Ev->Option Bx):Ev->Option Bx:=fun ρ=>(fa ρ).bind fun x=>(fb ρ).bind fun y=>g x y
def b1 (g:Bx->Option Bx) (fa:Ev->Option Bx):Ev->Option Bx:=fun ρ=>(fa ρ).bind g
def dj (g:List Bx->Option Bx) (fs:Ev->Option (List Bx)):Ev->Option Bx:=fun ρ=>(fs ρ).bind g
theorem bind_some {α β:Type} {o:Option α} {f:α->Option β} {b:β} (h:o.bind f=some b):∃ a,o=some a/\f a=some b:=by
 cases o with
 |none=>cases h
 |some a=>exact⟨a,rfl,h⟩
theorem Yz {K:FG_} {g:Bx->Bx->Option Bx} {fa fb:Ev->Option Bx} (σ:L2.St) (H:Hp) (Q:VK) (h:tF K (b2 g fa fb) σ H Q):tOp (rF K g) (tF K fa) (tF K fb) σ H Q:=by
 obtain⟨H0,ρ,c,E,e,q⟩:=h
 obtain⟨a,ea,e⟩:=bind_some e
 obtain⟨b,eb,e⟩:=bind_some e
 refine⟨H0,ρ,a,E,ea,fun v H1 s1 n1 r1=>⟨H0,ρ,b,E.grow s1,eb,fun u H2 s2 n2 r2=>?_⟩⟩
 exact⟨a,b,c,r1.same s2,r2,e,fun w H3 s3 n3 r3=>q w H3 ((s1.trans s2).trans s3) (n3.old (s1.trans s2)) r3⟩
theorem convs {K:FG_} {g:List Bx->Option Bx} {fs:Ev->Option (List Bx)} (σ:L2.St) (H:Hp) (Q:VK) (h:tF K (dj g fs) σ H Q):tCB (rFs K g) (tFA K fs) σ H Q:=by
 obtain⟨H0,ρ,c,E,e,q⟩:=h
 obtain⟨a,ea,e⟩:=bind_some e
 exact⟨H0,ρ,a,E,ea,fun v H1 s1 r1=>⟨a,c,r1,e,fun w H3 s3 n3 r3=>q w H3 (s1.trans s3) (n3.old s1) r3⟩⟩
section
variable {X:Cx} {a b c e:Expr} {es:List Expr} {fa fb fc f:Ev->Option Bx} {fs:Ev->Option (List Bx)} {pos:Pos}
theorem aQ {op:Operator} {g:Bx->Bx->Option Bx} (ho:Kr X (binaryOp op) g) (ha:QV X a fa) (hb:QV X b fb):QV X (.BinOp a op b pos) (b2 g fa fb):=⟨have ha:=ha.run;have hb:=hb.run;HX (afQ ho ha hb) Yz⟩
theorem ou {op:CmpOp} {g:Bx->Bx->Option Bx} (ho:Kr X (compareOp op) g) (ha:QV X a fa) (hb:QV X b fb) (hm:behindInMarks op b=false):QV X (.Compare a [op] [b] pos) (b2 g fa fb):=⟨have ha:=ha.run;have hb:=hb.run;HX (aaO ho ha hb hm) Yz⟩
def Ce:Bx->Option Bool
 |.z (.bl b)=>some b
 |_=>none
theorem Cg {K:FG_} {H:Hp} {b:Bx} {v:V} {k:Bool} (h:bx K H b v) (e:Ce b=some k):v=.bl k:=by
 cases b with
 |z d=>
  cases d<;>first|(cases e;done)|skip
  cases e
  simpa only[bx,Rep] using h
 |_=>cases e
theorem acG {K:FG_} {f:Ev->Option Bx} (σ:L2.St) (H:Hp) (Q:Bool->Hp->Prop) (h:tFT K (fun ρ=>(f ρ).bind Ce) σ H Q):tF K f σ H (fun x H'=>∃ k,x=.bl k/\Q k H'):=by
 obtain⟨H0,ρ,k,E,e,q⟩:=h
 obtain⟨b,eb,e⟩:=bind_some e
 exact⟨H0,ρ,b,E,eb,fun v H1 s1 n1 r1=>⟨k,Cg r1 e,q H1 s1⟩⟩
theorem cL {op:CmpOp} {g:Bx->Bx->Option Bx} (ho:Kr X (compareOp op) g) (ha:QV X a fa) (hb:QV X b fb) (hm:behindInMarks op b=false):QB X (.Compare a [op] [b] pos) (fun ρ=>(b2 g fa fb ρ).bind Ce):=⟨have ha:=ha.run;have hb:=hb.run;ptM (aaP ho ha hb hm) fun σ H Q h=>Yz σ H _ (acG σ H Q h)⟩
def YB (g g':Bx->Bx->Option Bx) (fa fb fc:Ev->Option Bx):Ev->Option Bx:=fun ρ=>(fa ρ).bind fun x=>(fb ρ).bind fun y=>(g x y).bind fun r=>(Ce r).bind fun k=>if k=true then (fc ρ).bind fun w=>g' y w else some (.z (.bl false))
theorem acH {K:FG_} {g g':Bx->Bx->Option Bx} {fa fb fc:Ev->Option Bx} (σ:L2.St) (H:Hp) (Q:VK) (h:tF K (YB g g' fa fb fc) σ H Q):SQ (rF K g) (rF K g') (tF K fa) (tF K fb) (tF K fc) σ H Q:=by
 obtain⟨H0,ρ,d,E,e,q⟩:=h
 obtain⟨a,ea,e⟩:=bind_some e
 obtain⟨b,eb,e⟩:=bind_some e
 obtain⟨r,er,e⟩:=bind_some e
 obtain⟨k,ek,e⟩:=bind_some e
 refine⟨H0,ρ,a,E,ea,fun v H1 s1 n1 r1=>⟨H0,ρ,b,E.grow s1,eb,fun u H2 s2 n2 r2=>?_⟩⟩
 refine⟨a,b,r,r1.same s2,r2,er,fun w H3 s3 n3 r3=>⟨k,Cg r3 ek,?_⟩⟩
 have s03:=(s1.trans s2).trans s3
 cases k with
 |false=>
  rw[Zs zg] at e ⊢
  cases e
  exact q _ H3 s03 trivial (by simp only[bx,Rep])
 |true=>
  rw[zo rfl] at e ⊢
  obtain⟨w',ew,e⟩:=bind_some e
  refine⟨H0,ρ,w',E.grow s03,ew,fun x H4 s4 n4 r4=>?_⟩
  exact⟨b,w',d,(r2.same s3).same s4,r4,e,fun y H5 s5 n5 r5=>q y H5 ((s03.trans s4).trans s5) (n5.old (s03.trans s4)) r5⟩
theorem Ci {op op':CmpOp} {g g':Bx->Bx->Option Bx} (ho:Kr X (compareOp op) g) (ho':Kr X (compareOp op') g') (ha:QV X a fa) (hb:QV X b fb) (hc:QV X c fc) (hm:lastMarks [op,op'] [b,c]=false:=by with_unfolding_all rfl):QV X (.Compare a [op,op'] [b,c] pos) (YB g g' fa fb fc):=⟨have ha:=ha.run;have hb:=hb.run;have hc:=hc.run;HX (Yl ho ho' ha hb hc hm) acH⟩
theorem HY {op op':CmpOp} {g g':Bx->Bx->Option Bx} (ho:Kr X (compareOp op) g) (ho':Kr X (compareOp op') g') (ha:QV X a fa) (hb:QV X b fb) (hc:QV X c fc) (hm:lastMarks [op,op'] [b,c]=false:=by with_unfolding_all rfl):QB X (.Compare a [op,op'] [b,c] pos) (fun ρ=>(YB g g' fa fb fc ρ).bind Ce):=⟨have ha:=ha.run;have hb:=hb.run;have hc:=hc.run;ptM (Ym ho ho' ha hb hc hm) fun σ H Q h=>acH σ H _ (acG σ H Q h)⟩
def Gk (ρ:Ev) (i:Nat):Option Bx:=match ρ[i]? with
 |some (some (.o ds))=>some (.l ds)
 |some (some (.m kvs _))=>some (.n kvs)
 |some (some b)=>some b
 |_=>none
theorem Qc {K:FG_} {H0 H:Hp} {σ:L2.St} {ρ:Ev} {i:Nat} {b:Bx} (E:bT K H0 H σ ρ) (e:Gk ρ i=some b):∃ v,σ[i]?=some (some v)/\bx K H b v:=by
 unfold Gk at e
 split at e
 ·rename_i ds h
  cases e
  obtain⟨v,e1,a,vs,e2,q,r⟩:=E.val i _ h
  exact⟨v,e1,a,vs,e2,.inl q,r⟩
 ·rename_i ds h
  cases e
  obtain⟨v,e1,a,vs,e2,q,r⟩:=E.val i _ h
  exact⟨v,e1,a,vs,e2,.inl q,r.1⟩
 ·rename_i b' h
  cases e
  exact E.val i _ h
 ·cases e
theorem Hl {ρ:Ev} {i:Nat} {b:Bx} (e:Gk ρ i=some b):Ca b=false:=by
 unfold Gk at e
 split at e
 ·cases e;rfl
 ·cases e;rfl
 ·rename_i b' h1 h2 h3
  cases e
  cases b with
  |o ds=>exact absurd rfl (h1 ds)
  |m ds _=>exact absurd rfl (h2 ds _)
  |_=>rfl
 ·cases e
theorem ak (i:Nat) {x:Str} (hN:X.N[i]?=some x:=by rfl) (hv:Vis X.env.scope x:=by first|exact Or.inl rfl|exact ka (Or.inl rfl)|exact ka (ka rfl)) (hd:(x==("__debug__" : Str))=false:=by decide) (hcd:(x==("__classdict__" : Str))=false:=by decide):QV X (.Name x pos) (fun ρ=>Gk ρ i):=⟨HX (Ni hN hv hd hcd) fun σ H Q h=>by
 obtain⟨H0,ρ,b,E,e,q⟩:=h
 obtain⟨v,e1,r⟩:=Qc E e
 refine⟨v,e1,q v H (Same.refl H) ?_ r⟩
 cases b with
 |o ds=>have:=Hl e;cases this
 |m ds _=>have:=Hl e;cases this
 |_=>trivial⟩
def cB (d:Dt):Ev->Option Bx:=fun _=>some (.z d)
theorem Wj {v:V} {d:Dt} (h:PE X e (tC v)) (r:∀ H,Rep X.K H d v):PV X e (cB d):=HX h fun σ H Q q=>by
 obtain⟨H0,ρ,b,E,e,q⟩:=q
 cases e
 exact q v H (Same.refl H) trivial (r H)
theorem aA {i j}:QV X (.Constant (.int i) j pos) (cB (.int i)):=⟨Wj adq fun H=>by simp only[Rep]⟩
theorem Ia {i j}:QV X (.Constant (.bool i) j pos) (cB (.bl i)):=⟨Wj afH fun H=>by simp only[Rep]⟩
theorem qL {j}:QV X (.Constant .none j pos) (cB .non):=⟨Wj Nj fun H=>by simp only[Rep]⟩
theorem YC {x:Str} {j} (hx:x.length<=sizeLine:=by decide):PV X (.Constant (.str x) j pos) (cB (.str x)):=Wj adt fun H=>by unfold Rep;exact⟨rfl,hx⟩
theorem Cj {x:Str} {i:Int} {t:Tok} (hg:Gl X x) (hm:X.mg x=some (.int i t)) (hd:(x==("__debug__" : Str))=false:=by decide):QV X (.Name x pos) (cB (.int i)):=⟨Wj (pX hg hm (v:=.int i) ⟨t,rfl⟩ hd) fun H=>by simp only[Rep]⟩
theorem Qd {x:Str} {y:Str} {t:Tok} (hg:Gl X x) (hm:X.mg x=some (.str y t)) (hy:y.length<=sizeLine:=by decide) (hd:(x==("__debug__" : Str))=false:=by decide):QV X (.Name x pos) (cB (.str y)):=⟨Wj (pX hg hm (v:=.str y) ⟨t,rfl⟩ hd) fun H=>by unfold Rep;exact⟨rfl,hy⟩⟩
def YD:Bx->Option Bool
 |.z .non=>some false
 |.z (.bl b)=>some b
 |.z (.int i)=>some (i != 0)
 |.z (.str x)=>some ((x.length:Int) != 0)
 |.z (.tup ds)=>some (!ds.isEmpty)
 |.z (.lst ds)=>some (!ds.isEmpty)
 |.l ds=>some (!ds.isEmpty)
 |.o ds=>some (!ds.isEmpty)
 |.z .emp=>none
 |.n _=>none
 |.m _ _=>none
theorem aV.isEmpty {K:FG_} {H:Hp} {ds:List Dt} {vs:List V} (h:aV K H ds vs):(!ds.isEmpty)=!vs.isEmpty:=by
 have:=h.length
 cases ds<;>cases vs<;>simp_all
theorem aa6 {K:FG_} {H:Hp} {b:Bx} {v:V} {k:Bool} (r:bx K H b v) (e:YD b=some k):adN K v H k:=by
 cases b with
 |z d=>
  cases d with
  |non=>cases e;simp only[bx,Rep] at r;subst r;rfl
  |bl b=>cases e;simp only[bx,Rep] at r;subst r;rfl
  |int b=>cases e;simp only[bx,Rep] at r;subst r;rfl
  |str x=>cases e;simp only[bx,Rep] at r;obtain⟨rfl,h⟩:=r;exact⟨h,rfl⟩
  |tup ds=>
   cases e;simp only[bx,Rep] at r
   obtain⟨a,vs,rfl,q,r⟩:=r
   exact .inr (.inl ⟨vs,q,r.isEmpty⟩)
  |lst ds=>
   cases e
   obtain⟨a,vs,rfl,q,r⟩:=r.LR rfl
   exact .inl ⟨vs,q,r.isEmpty⟩
  |emp=>cases e
 |l ds=>
  cases e
  obtain⟨a,vs,rfl,q,r⟩:=r.LR rfl
  exact .inl ⟨vs,q,r.isEmpty⟩
 |o ds=>
  cases e
  obtain⟨a,vs,rfl,q,r⟩:=r.LR rfl
  exact .inl ⟨vs,q,r.isEmpty⟩
 |n _=>cases e
 |m _ _=>cases e
theorem lY (h:QV X e f) (he:∀ whole,isTrue e X.env whole=(do let v <-whole;standAt e.pos;holding [v] (truthy v)):=by intro _;rfl):QB X e (fun ρ=>(f ρ).bind YD):=⟨have h:=h.run;ptM (Yn h he) fun σ H Q q=>by
 obtain⟨H0,ρ,k,E,e,q⟩:=q
 obtain⟨b,eb,e⟩:=bind_some e
 exact⟨H0,ρ,b,E,eb,fun v H1 s1 n1 r1=>⟨k,aa6 r1 e,q H1 s1⟩⟩⟩
def Ny (p q:Ev->Option Bool):Ev->Option Bool:=fun ρ=>(p ρ).bind fun c=>if c=true then q ρ else some false
def Qe (p q:Ev->Option Bool):Ev->Option Bool:=fun ρ=>(p ρ).bind fun c=>if c=true then some true else q ρ
def yH (p:Ev->Option Bool):Ev->Option Bool:=fun ρ=>(p ρ).bind fun c=>some (!c)
def PBW (X:Cx) (e:Expr) (f:Ev->Option Bool):Prop:=PW X e (tFT X.K f)
structure QBW (X:Cx) (e:Expr) (f:Ev->Option Bool):Prop where
 run:PBW X e f
variable {p q:Ev->Option Bool} {rest:List Expr}
theorem Ck (ha:QB X a p):QBW X (.BoolOp .And [a] pos) p:=⟨have ha:=ha.run;aaK ha⟩
theorem qW (ha:QB X a p):QBW X (.BoolOp .Or [a] pos) p:=⟨have ha:=ha.run;Sy ha⟩
theorem aa7 {K:FG_} (σ:L2.St) (H:Hp) (Q:Bool->Hp->Prop) (h:tFT K (Ny p q) σ H Q):afI (tFT K p) (tFT K q) σ H Q:=by
 obtain⟨H0,ρ,k,E,e,w⟩:=h
 obtain⟨c,ec,e⟩:=bind_some e
 refine⟨H0,ρ,c,E,ec,fun H1 s1=>?_⟩
 cases c with
 |true=>rw[zo rfl] at e ⊢;exact⟨H0,ρ,k,E.grow s1,e,fun H2 s2=>w H2 (s1.trans s2)⟩
 |false=>rw[Zs zg] at e ⊢;cases e;exact w H1 s1
theorem ad4 {K:FG_} (σ:L2.St) (H:Hp) (Q:Bool->Hp->Prop) (h:tFT K (Qe p q) σ H Q):tOr (tFT K p) (tFT K q) σ H Q:=by
 obtain⟨H0,ρ,k,E,e,w⟩:=h
 obtain⟨c,ec,e⟩:=bind_some e
 refine⟨H0,ρ,c,E,ec,fun H1 s1=>?_⟩
 cases c with
 |true=>rw[zo rfl] at e ⊢;cases e;exact w H1 s1
 |false=>rw[Zs zg] at e ⊢;exact⟨H0,ρ,k,E.grow s1,e,fun H2 s2=>w H2 (s1.trans s2)⟩
theorem Ho (ha:QB X a p) (hb:QBW X (.BoolOp .And (b::rest) pos) q):QBW X (.BoolOp .And (a::b::rest) pos) (Ny p q):=⟨have ha:=ha.run;have hb:=hb.run;pwM (adw ha hb) aa7⟩
theorem qM (ha:QB X a p) (hb:QBW X (.BoolOp .Or (b::rest) pos) q):QBW X (.BoolOp .Or (a::b::rest) pos) (Qe p q):=⟨have ha:=ha.run;have hb:=hb.run;pwM (Yd ha hb) ad4⟩
theorem Ef (h:QBW X e p):QB X e p:=⟨have h:=h.run;h.pt⟩
theorem o7 (ha:QB X a p):QB X (.UnaryOp .Not a pos) (yH p):=⟨have ha:=ha.run;ptM (SJ ha) fun σ H Q h=>by
 obtain⟨H0,ρ,k,E,e,w⟩:=h
 obtain⟨c,ec,e⟩:=bind_some e
 cases e
 exact⟨H0,ρ,c,E,ec,fun H1 s1=>w H1 s1⟩⟩
def rZ (fa fb:Ev->Option Bx):Ev->Option Bx:=fun ρ=>((fa ρ).bind Ce).bind fun c=>if c=true then fb ρ else some (.z (.bl false))
def YF (fa:Ev->Option Bx):Ev->Option Bx:=fun ρ=>((fa ρ).bind Ce).bind fun c=>some (.z (.bl (!c)))
theorem oA {op} (h:QV X a fa):QV X (.BoolOp op [a] pos) fa:=⟨have h:=h.run;adx h⟩
theorem iQ (ha:QV X a fa) (hb:QV X (.BoolOp .And (b::rest) pos) fb):QV X (.BoolOp .And (a::b::rest) pos) (rZ fa fb):=⟨have ha:=ha.run;have hb:=hb.run;HX (ady ha hb) fun σ H Q h=>by
 obtain⟨H0,ρ,k,E,e,w⟩:=h
 obtain⟨c,ec,e⟩:=bind_some e
 obtain⟨x,ex,ec⟩:=bind_some ec
 refine⟨H0,ρ,x,E,ex,fun v H1 s1 n1 r1=>⟨c,Cg r1 ec,?_⟩⟩
 cases c with
 |true=>rw[zo rfl] at e ⊢;exact⟨H0,ρ,k,E.grow s1,e,fun v H2 s2 n2 r2=>w v H2 (s1.trans s2) (n2.old s1) r2⟩
 |false=>rw[Zs zg] at e ⊢;cases e;exact w _ H1 s1 trivial (by simp only[bx,Rep])⟩
theorem YG (ha:QV X a fa):QV X (.UnaryOp .Not a pos) (YF fa):=⟨have ha:=ha.run;HX (adz ha) fun σ H Q h=>by
 obtain⟨H0,ρ,k,E,e,w⟩:=h
 obtain⟨c,ec,e⟩:=bind_some e
 obtain⟨x,ex,ec⟩:=bind_some ec
 cases e
 exact⟨H0,ρ,x,E,ex,fun v H1 s1 n1 r1=>⟨c,Cg r1 ec,w _ H1 s1 trivial (by simp only[bx,Rep])⟩⟩⟩
def ifV (p:Ev->Option Bool) (fa fb:Ev->Option Bx):Ev->Option Bx:=fun ρ=>(p ρ).bind fun c=>if c=true then fa ρ else fb ρ
theorem Td (hc:QB X c p) (ha:QV X a fa) (hb:QV X b fb):QV X (.IfExp c a b pos) (ifV p fa fb):=⟨have hc:=hc.run;have ha:=ha.run;have hb:=hb.run;HX (Ye hc ha hb) fun σ H Q h=>by
 obtain⟨H0,ρ,k,E,e,w⟩:=h
 obtain⟨c,ec,e⟩:=bind_some e
 refine⟨H0,ρ,c,E,ec,fun H1 s1=>?_⟩
 cases c with
 |true=>rw[zo rfl] at e ⊢;exact⟨H0,ρ,k,E.grow s1,e,fun v H2 s2 n2 r2=>w v H2 (s1.trans s2) (n2.old s1) r2⟩
 |false=>rw[Zs zg] at e ⊢;exact⟨H0,ρ,k,E.grow s1,e,fun v H2 s2 n2 r2=>w v H2 (s1.trans s2) (n2.old s1) r2⟩⟩
theorem Nz:PVs X [] (fun _=>some []):=paM lX fun σ H Q h=>by
 obtain⟨H0,ρ,bs,E,e,q⟩:=h
 cases e
 exact q [] H (Same.refl H) .nil
def ao (f:Ev->Option Bx) (fs:Ev->Option (List Bx)):Ev->Option (List Bx):=fun ρ=>(f ρ).bind fun b=>(fs ρ).bind fun bs=>some (b::bs)
theorem Ib (h1:PV X e f) (h2:PVs X es fs) (hs:starEach (e::es) X.env=(false,eval e X.env)::starEach es X.env:=by rfl):PVs X (e::es) (ao f fs):=paM (cG h1 h2 hs) fun σ H Q h=>by
 obtain⟨H0,ρ,bs,E,e,q⟩:=h
 obtain⟨b,eb,e⟩:=bind_some e
 obtain⟨bs',ebs,e⟩:=bind_some e
 cases e
 refine⟨H0,ρ,b,E,eb,fun v H1 s1 n1 r1=>⟨H0,ρ,bs',E.grow s1,ebs,fun vs H2 s2 r2=>?_⟩⟩
 exact q (v::vs) H2 (s1.trans s2) (.cons (r1.same s2) r2)
def sU:Bx->Option Bx
 |.z d=>some (.z d)
 |.o ds=>some (.z (.lst ds))
 |.l _=>none
 |.n _=>none
 |.m _ _=>none
theorem Te {pins:List (Addr×Obj)} {σ:L2.St} {H:Hp} {s:Shared} {a:Addr} {vs:List V} (I:L2.Inv X pins σ H s) (h:H a=some (.lst vs)):∃ o,L2.Inv X pins σ (upd H a (.BK o (.lst vs))) s:=by
 obtain⟨z,its,n,r,e⟩:=I.hok a _ h
 refine⟨{ cls:=.type "list", data:=.seq its.toArray n },⟨I.ok,I.os,I.bare,⟨I.base.keep,I.base.slot,fun b ob q1 q2 q3=>?_,I.base.there,fun b xs q=>?_,fun b ob u q=>?_,fun b ps q=>?_⟩,I.loc,I.cell,?_,fun x c q=>?_,fun p hp=>?_,?_,I.len⟩⟩
 ·have:=I.base.free b ob q1 q2 q3
  rw[aP (bG h this).symm];exact this
 ·have:=I.base.tups b xs q
  rw[aP (sW this h (by intro z;cases z))];exact this
 ·have:=I.base.uP b ob u q
  rw[aP (sW this h (by intro z;cases z))];exact this
 ·obtain⟨m,this⟩:=I.base.yu b ps q
  rw[aP (sW this h (by intro z;cases z))];exact⟨m,this⟩
 ·rw[aP (bG h I.free).symm];exact I.free
 ·rw[aP (bG h (I.nC x c q)).symm];exact I.nC x c q
 ·obtain⟨q1,q2,q3⟩:=I.pin p hp
  refine⟨q1,?_,q3⟩
  rw[aP (bG h q2).symm];exact q2
 ·intro b u q
  by_cases hb:b=a
  ·subst hb
   rw[bK] at q;cases q
   exact⟨e,z,its,n,r,e⟩
  ·rw[aP hb] at q
   refine (I.hok b u q).stay (fun c v _ w=>w) (fun c w=>?_) fun c xs w=>?_
   ·rw[aP (sW w h (by intro z;cases z))];exact w
   ·rw[aP (sW w h (by intro z;cases z))];exact w
theorem gj (h:QV X e f):QV X e (b1 sU f):=⟨by
 have h:=h.run
 intro pins s σ H Q I q
 obtain⟨H0,ρ,b,E,e,q⟩:=q
 obtain⟨x,ex,e⟩:=bind_some e
 cases x with
 |z d=>
  cases e
  exact h pins s σ H Q I ⟨H0,ρ,_,E,ex,fun v H' s' n' r'=>q v H' s' trivial r'⟩
 |l ds=>cases e
 |n ds=>cases e
 |m ds _=>cases e
 |o ds=>
  cases e
  refine jy (h pins s σ H (fun v H'=>Same H H'/\Nw H (.o ds) v/\bx X.K H' (.o ds) v) I ⟨H0,ρ,_,E,ex,fun v H' s' n' r'=>⟨s',n',r'⟩⟩) fun u s1 hq=>?_
  obtain⟨v,H1,I1,rv,s',n',r'⟩:=hq
  obtain⟨a,vs,rfl,ha,rs⟩:=r'
  obtain⟨o,I2⟩:=Te I1 ha
  refine⟨.ref a,_,I2,rv,q _ _ (fun c ob hc=>?_) trivial ?_⟩
  ·rw[aP (bG hc (n' a rfl))];exact s' c ob hc
  ·simp only[bx,Rep]
   exact⟨a,vs,rfl,.inl ⟨o,bK⟩,rs.kp (.lst ha)⟩⟩
def NK:List Bx->Option (List Dt)
 |[]=>some []
 |.z d::r=>(NK r).bind fun ds=>some (d::ds)
 |_=>none
theorem Ie {K:FG_} {H:Hp}:∀ {bs:List Bx} {vs:List V} {ds:List Dt},wZ K H bs vs->NK bs=some ds->aV K H ds vs
 |_,_,_,.nil,e=>by cases e;exact aV.nil
 |b::bs,_,_,.cons h t,e=>by
  cases b with
  |z d=>
   simp only[NK] at e
   obtain⟨ds',e1,e2⟩:=bind_some e
   cases e2
   exact aV.cons h (Ie t e1)
  |_=>cases e
theorem Ig:∀ {bs:List Bx} {ds:List Dt},NK bs=some ds->ds.length=bs.length
 |[],_,e=>by cases e;rfl
 |.z d::r,_,e=>by
  simp only[NK] at e
  obtain⟨ds',e1,e2⟩:=bind_some e
  cases e2
  simp[Ig e1]
 |.l _::_,_,e=>by cases e
 |.o _::_,_,e=>by cases e
 |.n _::_,_,e=>by cases e
 |.m _ _::_,_,e=>by cases e
def lB (bs:List Bx):Option Bx:=if bs.length<=1000 then (NK bs).bind fun ds=>some (.z (.tup ds)) else none
def iM (bs:List Bx):Option Bx:=if bs.length<=1000 then (NK bs).bind fun ds=>some (.o ds) else none
theorem dU {H:Hp} {p:Addr} {o:HO} (h:H p=none):Same H (upd H p o):=fun b u e=>by rw[aP (bG e h)];exact e
theorem acI {n:Nat} (h:n<=1000):n<=sizeLine:=zv h (by decide)
theorem jO {x1} (h:U5 X es fs):QV X (.Tuple es x1 pos) (dj lB fs):=⟨have h:=h.run;HX (Yq h) fun σ H Q q=>by
 obtain⟨H0,ρ,c,E,e,q⟩:=q
 obtain⟨bs,ebs,e⟩:=bind_some e
 refine⟨H0,ρ,bs,E,ebs,fun vs H1 s1 r1=>?_⟩
 unfold lB at e
 split at e
 ·rename_i hl
  obtain⟨ds,e1,e⟩:=bind_some e
  cases e
  have r2:=Ie r1 e1
  refine⟨acI (by rw[r2.length,Ig e1];exact hl),fun p hp=>q _ _ (s1.trans (dU hp)) trivial ?_⟩
  simp only[bx,Rep]
  exact⟨p,vs,rfl,.inl (.inl bK),r2.kp (.of (dU hp))⟩
 ·cases e⟩
theorem eZ (h:U5 X es fs):QV X (.List es pos) (dj iM fs):=⟨have h:=h.run;HX (adP h) fun σ H Q q=>by
 obtain⟨H0,ρ,c,E,e,q⟩:=q
 obtain⟨bs,ebs,e⟩:=bind_some e
 refine⟨H0,ρ,bs,E,ebs,fun vs H1 s1 r1=>?_⟩
 unfold iM at e
 split at e
 ·rename_i hl
  obtain⟨ds,e1,e⟩:=bind_some e
  cases e
  have r2:=Ie r1 e1
  refine⟨acI (by rw[r2.length,Ig e1];exact hl),fun p hp=>q _ _ (s1.trans (dU hp)) (fun a ea=>by cases ea;exact s1.free hp) ?_⟩
  exact⟨p,vs,rfl,bK,r2.kp (.of (dU hp))⟩
 ·cases e⟩
theorem dh {x:Str} {id:String} {g:List Bx->Option Bx} {p:Pos} (hc:Cd X (.builtin id) g) (hg:Gl X x) (hm:X.mg x=none) (hv:bootBuiltins x=some (.builtin id)) (ha:U5 X (e::es) fs) (hn:x ≠ "__name__" := by decide) (hdb:(x==("__debug__" : Str))=false:=by decide) (he:starEach (e::es) X.env=(false,eval e X.env)::starEach es X.env:=by rfl) (hpl:(backTo pos (starEach es X.env)).any (·.1)=false:=by rfl):QV X (.Call (.Name x p) (e::es) [] pos) (dj g fs):=⟨have ha:=ha.run;HX (oh hc hg hm hv ha hn hdb he hpl) convs⟩
theorem gF {x:Str} {T:String} {g:List Bx->Option Bx} {p:Pos} (hc:Cd X (.type T) g) (hg:Gl X x) (hm:X.mg x=none) (hv:bootBuiltins x=some (.type T)) (ha:U5 X (e::es) fs) (hn:x ≠ "__name__" := by decide) (hdb:(x==("__debug__" : Str))=false:=by decide) (he:starEach (e::es) X.env=(false,eval e X.env)::starEach es X.env:=by rfl) (hpl:(backTo pos (starEach es X.env)).any (·.1)=false:=by rfl):QV X (.Call (.Name x p) (e::es) [] pos) (dj g fs):=⟨have ha:=ha.run;HX (Wd hc hg hm hv ha hn hdb he hpl) convs⟩
end
inductive Out where
 |nx (ρ:Ev)|rt (b:Bx)|bk (ρ:Ev)|ct (ρ:Ev)
def YH (K:FG_) (H0:Hp) (D:Ends):Out->Prop
 |.nx ρ=>∀ σ H,bT K H0 H σ ρ->D.nx σ H
 |.rt b=>∀ v H,Same H0 H->Nw H0 b v->bx K H b v->D.rt v H
 |.bk ρ=>∀ σ H,bT K H0 H σ ρ->D.bk σ H
 |.ct ρ=>∀ σ H,bT K H0 H σ ρ->D.ct σ H
def tG (K:FG_) (g:Ev->Option Out):TS:=fun D σ H=>∃ H0 ρ r,bT K H0 H σ ρ/\g ρ=some r/\YH K H0 D r
def PG1 (X:Cx) (st:Stmt) (g:Ev->Option Out):Prop:=PS X st (tG X.K g)
structure YJ (X:Cx) (st:Stmt) (g:Ev->Option Out):Prop where
 run:PG1 X st g
def Yg (X:Cx) (st:List Stmt) (g:Ev->Option Out):Prop:=Hf X st (tG X.K g)
structure QGs (X:Cx) (st:List Stmt) (g:Ev->Option Out):Prop where
 run:Yg X st g
def aG (g1 g2:Ev->Option Out):Ev->Option Out:=fun ρ=>(g1 ρ).bind fun r=>match r with
 |.nx ρ'=>g2 ρ'
 |r=>some r
section
variable {X:Cx} {a b c e:Expr} {es:List Expr} {fa fb fc f:Ev->Option Bx} {fs:Ev->Option (List Bx)} {pos:Pos} {st:Stmt} {rest:List Stmt} {g g1 g2:Ev->Option Out}
theorem aH  : QGs X [] (fun ρ=>some (.nx ρ)):=⟨ad2 Hg fun D σ H h=>by
 obtain⟨H0,ρ,r,E,e,q⟩:=h
 cases e
 exact q σ H E⟩
theorem au (h1:YJ X st g1) (h2:QGs X rest g2):QGs X (st::rest) (aG g1 g2):=⟨have h1:=h1.run;have h2:=h2.run;ad2 (qD h1 h2) fun D σ H h=>by
 obtain⟨H0,ρ,r,E,e,q⟩:=h
 obtain⟨r1,e1,e⟩:=bind_some e
 refine⟨H0,ρ,r1,E,e1,?_⟩
 cases r1 with
 |nx ρ'=>exact fun σ' H' E'=>⟨H0,ρ',r,E',e,q⟩
 |rt b=>cases e;exact q
 |bk ρ'=>cases e;exact q
 |ct ρ'=>cases e;exact q⟩
def YK:Bx->Option Out
 |.l _=>none
 |.n _=>none
 |b=>some (.rt b)
theorem bH (h:QV X e f):YJ X (.Return (some e) pos) (fun ρ=>(f ρ).bind YK):=⟨have h:=h.run;psM (Np h) fun D σ H h=>by
 obtain⟨H0,ρ,r,E,e,q⟩:=h
 obtain⟨b,eb,e⟩:=bind_some e
 refine⟨H0,ρ,b,E,eb,fun v H1 s1 n1 r1=>?_⟩
 cases b with
 |l ds=>cases e
 |z d=>cases e;exact q v H1 (E.base.trans s1) trivial r1
 |o ds=>cases e;exact q v H1 (E.base.trans s1) (n1.old E.base) r1
 |n ds=>cases e
 |m ds _=>cases e;exact q v H1 (E.base.trans s1) (n1.old E.base) r1⟩
def Tf (i:Nat) (ρ:Ev):Option Out:=match ρ[i]? with
 |some (some b)=>YK b
 |_=>none
theorem aa9 (i:Nat) {x:Str} {p:Pos} (hN:X.N[i]?=some x:=by rfl) (hv:Vis X.env.scope x:=by first|exact Or.inl rfl|exact ka (Or.inl rfl)|exact ka (ka rfl)) (hd:(x==("__debug__" : Str))=false:=by decide) (hcd:(x==("__classdict__" : Str))=false:=by decide):YJ X (.Return (some (.Name x p)) pos) (Tf i):=⟨psM (Np (Ni hN hv hd hcd)) fun D σ H h=>by
 obtain⟨H0,ρ,r,E,e,q⟩:=h
 unfold Tf at e
 split at e
 ·rename_i b hb
  obtain⟨v,e1,r1⟩:=E.val i b hb
  refine⟨v,e1,?_⟩
  cases b with
  |l ds=>cases e
  |z d=>cases e;exact q v H E.base trivial r1
  |o ds=>cases e;exact q v H E.base (fun a ea=>E.new i _ a hb rfl (by rw[e1,ea])) r1
  |n ds=>cases e
  |m ds _=>cases e;exact q v H E.base (fun a ea=>E.new i _ a hb rfl (by rw[e1,ea])) r1
 ·cases e⟩
def rR (p:Ev->Option Bool) (g1 g2:Ev->Option Out):Ev->Option Out:=fun ρ=>(p ρ).bind fun k=>if k=true then g1 ρ else g2 ρ
theorem eN {p:Ev->Option Bool} {u v:List Stmt} (hc:QB X c p) (ha:QGs X u g1) (hb:QGs X v g2):YJ X (.If c u v pos) (rR p g1 g2):=⟨have hc:=hc.run;have ha:=ha.run;have hb:=hb.run;psM (Pz hc ha hb) fun D σ H h=>by
 obtain⟨H0,ρ,r,E,e,q⟩:=h
 obtain⟨k,ek,e⟩:=bind_some e
 refine⟨H0,ρ,k,E,ek,fun H1 s1=>?_⟩
 cases k with
 |true=>rw[zo rfl] at e ⊢;exact⟨H0,ρ,r,E.grow s1,e,q⟩
 |false=>rw[Zs zg] at e ⊢;exact⟨H0,ρ,r,E.grow s1,e,q⟩⟩
theorem getset {α:Type} {l:List α} {i j:Nat} {x y:α} (h:(l.set i x)[j]?=some y):(j=i/\y=x/\i < l.length)\/(j≠i/\l[j]?=some y):=by
 rw[JU] at h
 by_cases e:i=j
 ·subst e
  rw[zo rfl] at h
  split at h
  ·cases h;exact .inl ⟨rfl,rfl,by assumption⟩
  ·cases h
 ·rw[Zs e] at h
  exact .inr ⟨fun z=>e z.symm,h⟩
theorem NP {α:Type} {l:List α} {i:Nat} (x:α) (h:i < l.length):(l.set i x)[i]?=some x:=by
 rw[JU,zo rfl,zo h]
theorem Ih {α:Type} {l:List α} {i j:Nat} (x:α) (h:j≠i):(l.set i x)[j]?=l[j]?:=by
 rw[JU,Zs (qA h)]
theorem bT.set {K:FG_} {H0 H H1:Hp} {σ:L2.St} {ρ:Ev} {i:Nat} {b:Bx} {v:V} (E:bT K H0 H σ ρ) (s:Same H H1) (r:bx K H1 b v) (hl:Ca b=true\/loose b=false) (n:Nw H b v):bT K H0 H1 (σ.set i (some v)) (ρ.set i (some b)):=by
 have E1:=E.grow s
 have apart:∀ (j:Nat) (b':Bx) (a:Addr),ρ[j]?=some (some b')->loose b'=true->σ[j]?=some (some (.ref a))->H a≠none:=fun j b' a e1 e2 e3 z=>by
  obtain⟨v',e4,r'⟩:=E.val j b' e1
  rw[e3] at e4;cases e4
  cases b' with
  |z d=>cases e2
  |l ds=>
   obtain⟨a',vs,e5,q,_⟩:=r'
   cases e5
   rcases q with q|⟨o,q⟩<;>(rw[z] at q;cases q)
  |o ds=>
   obtain⟨a',vs,e5,q,_⟩:=r'
   cases e5
   rw[z] at q;cases q
  |n ds=>
   obtain⟨a',vs,e5,q,_⟩:=r'
   cases e5
   rcases q with q|⟨o,q⟩<;>(rw[z] at q;cases q)
  |m ds _=>
   obtain⟨a',vs,e5,q,_⟩:=r'
   cases e5
   rw[z] at q;cases q
 have nw:Ca b=true->∀ a,v=.ref a->H a=none:=fun ho=>by
  cases b with
  |o ds=>exact n
  |m ds _=>exact n
  |_=>cases ho
 refine⟨by rw[QI,QI];exact E.len,fun j b' e=>?_,fun j k c a b' e1 ec e2 e3 e4 e5=>?_,E1.base,fun j c a e1 ec e2=>?_⟩
 ·rcases getset e with⟨rfl,e',hi⟩|⟨hne,e'⟩
  ·cases e'
   exact⟨v,NP _ (by rw[E.len];exact hi),r⟩
  ·rw[Ih _ hne]
   exact E1.val j b' e'
 ·rcases getset e1 with⟨rfl,e',hi⟩|⟨hne,e'⟩
  ·cases e'
   rw[NP _ (by rw[E.len];exact hi)] at e2
   cases e2
   rcases getset e3 with⟨rfl,e3',_⟩|⟨abb,e3'⟩
   ·rfl
   ·rw[Ih _ abb] at e5
    exact absurd (nw ec a rfl) (apart k b' a e3' e4 e5)
  ·rw[Ih _ hne] at e2
   rcases getset e3 with⟨rfl,e3',hi⟩|⟨abb,e3'⟩
   ·cases e3'
    rw[NP _ (by rw[E.len];exact hi)] at e5
    cases e5
    have hlo:loose c=true:=by cases c<;>first|rfl|cases ec
    rcases hl with hl|hl
    ·exact absurd (nw hl a rfl) (apart j _ a e' hlo e2)
    ·rw[hl] at e4;cases e4
   ·rw[Ih _ abb] at e5
    exact E.own j k c a b' e' ec e2 e3' e4 e5
 ·rcases getset e1 with⟨rfl,e',hi⟩|⟨hne,e'⟩
  ·cases e'
   rw[NP _ (by rw[E.len];exact hi)] at e2
   cases e2
   exact E.base.free (nw ec a rfl)
  ·rw[Ih _ hne] at e2
   exact E.new j c a e' ec e2
def YL (ρ:Ev) (i:Nat):Bx->Option Ev
 |.l _=>none
 |.n _=>none
 |b=>some (ρ.set i (some b))
theorem abd {K:FG_} {H0 H H1:Hp} {σ:L2.St} {ρ ρ':Ev} {i:Nat} {b:Bx} {v:V} (E:bT K H0 H σ ρ) (s:Same H H1) (r:bx K H1 b v) (n:Nw H b v) (e:YL ρ i b=some ρ'):bT K H0 H1 (σ.set i (some v)) ρ':=by
 cases b with
 |l ds=>cases e
 |z d=>cases e;exact E.set s r (.inr rfl) n
 |o d=>cases e;exact E.set s r (.inl rfl) n
 |n ds=>cases e
 |m d _=>cases e;exact E.set s r (.inl rfl) n
theorem bA (i:Nat) {x:Str} {p:Pos} (hN:X.N.Nodup) (he:QV X e f) (hi:X.N[i]?=some x:=by rfl) (hx:Loc X.env.scope x:=by first|exact Or.inl rfl|exact ka rfl) (hs:swapsWith e (some (.Name x p)) pos.line X.env=pure false:=by rfl) (hf:X.fn x=true\/X.env.scope.names.lookup x=some .local:=by first|exact .inl rfl|exact .inr rfl):YJ X (.Assign [.Name x p] e pos) (fun ρ=>(f ρ).bind fun b=>(YL ρ i b).bind fun ρ'=>some (.nx ρ')):=⟨have he:=he.run;psM (Nq hN hi hx he hs hf) fun D σ H h=>by
 obtain⟨H0,ρ,r,E,e,q⟩:=h
 obtain⟨b,eb,e⟩:=bind_some e
 obtain⟨ρ',eρ,e⟩:=bind_some e
 cases e
 exact⟨H0,ρ,b,E,eb,fun v H1 s1 n1 r1=>q _ _ (abd E s1 r1 n1 eρ)⟩⟩
def Lo (σ:L2.St) (ρ:Ev) (σ':L2.St) (ρ':Ev):Prop:=∀ (j:Nat) b,loose b=true->ρ'[j]?=some (some b)->ρ[j]?=some (some b)/\σ'[j]?=σ[j]?
theorem Lo.refl {σ:L2.St} {ρ:Ev}:Lo σ ρ σ ρ:=fun _ _ _ e=>⟨e,rfl⟩
theorem Lo.trans {σ σ1 σ2:L2.St} {ρ ρ1 ρ2:Ev} (a:Lo σ ρ σ1 ρ1) (b:Lo σ1 ρ1 σ2 ρ2):Lo σ ρ σ2 ρ2:=fun j c l e=>by
 obtain⟨e1,e2⟩:=b j c l e
 obtain⟨e3,e4⟩:=a j c l e1
 exact⟨e3,e2.trans e4⟩
theorem Lo.set {σ:L2.St} {ρ:Ev} (i:Nat) (v:V) (d:Dt):Lo σ ρ (σ.set i (some v)) (ρ.set i (some (.z d))):=fun j b l e=>by
 rcases getset e with⟨rfl,e',_⟩|⟨hne,e'⟩
 ·cases e';cases l
 ·exact⟨e',Ih _ hne⟩
def tgF (K:FG_) (g:Dt->Ev->Option Ev):TG:=fun v σ H Q=>∃ H0 ρ d ρ',bT K H0 H σ ρ/\Rep K H d v/\g d ρ=some ρ'/\∀ σ',bT K H0 H σ' ρ'->Lo σ ρ σ' ρ'->Q σ' H
def PTg (X:Cx) (t:Expr) (g:Dt->Ev->Option Ev):Prop:=PG X t (tgF X.K g)
structure QTg (X:Cx) (t:Expr) (g:Dt->Ev->Option Ev):Prop where
 run:PTg X t g
theorem dO (i:Nat) {x:Str} (hN:X.N.Nodup) (hi:X.N[i]?=some x:=by rfl) (hx:Loc X.env.scope x:=by first|exact Or.inl rfl|exact ka rfl) (hf:X.fn x=true\/X.env.scope.names.lookup x=some .local:=by first|exact .inl rfl|exact .inr rfl):QTg X (.Name x pos) (fun d ρ=>some (ρ.set i (some (.z d)))):=⟨fun pins s σ H v u Q I r h=>by
 obtain⟨H0,ρ,d,ρ',E,rd,e,q⟩:=h
 cases e
 exact Uz hN hi hx hf pins s σ H v u Q I r (q _ (E.set (b:=.z d) (Same.refl H) rd (.inr rfl) trivial) (Lo.set i v d))⟩
def aiF (K:FG_) (g:List Dt->Ev->Option Ev):TGs:=fun vs σ H Q=>∃ H0 ρ ds ρ',bT K H0 H σ ρ/\aV K H ds vs/\g ds ρ=some ρ'/\∀ σ',bT K H0 H σ' ρ'->Lo σ ρ σ' ρ'->Q σ' H
def aiG (X:Cx) (t:List Expr) (g:List Dt->Ev->Option Ev):Prop:=L2.Yg X t (aiF X.K g)
structure abe (X:Cx) (t:List Expr) (g:List Dt->Ev->Option Ev):Prop where
 run:aiG X t g
def YM:List Dt->Ev->Option Ev
 |[],ρ=>some ρ
 |_,_=>none
def Eh (g:Dt->Ev->Option Ev) (gs:List Dt->Ev->Option Ev):List Dt->Ev->Option Ev
 |d::ds,ρ=>(g d ρ).bind (gs ds)
 |_,_=>none
theorem U6  : abe X [] YM:=⟨fun pins s σ H vs us Q I r h=>by
 obtain⟨H0,ρ,ds,ρ',E,rd,e,q⟩:=h
 cases ds with
 |nil=>cases e;unfold aV at rd;exact aaL pins s σ H vs us Q I r ⟨rd,q _ E Lo.refl⟩
 |cons d ds=>cases e⟩
theorem Cm {t:Expr} {ts:List Expr} {gt:Dt->Ev->Option Ev} {gs:List Dt->Ev->Option Ev} (h1:QTg X t gt) (h2:abe X ts gs) (hs:(assignEach (t::ts) X.env).map (·.2)=assign t X.env::(assignEach ts X.env).map (·.2):=by rfl):abe X (t::ts) (Eh gt gs):=⟨have h1:=h1.run;have h2:=h2.run;fun pins s σ H vs us Q I r h=>by
 obtain⟨H0,ρ,ds,ρ',E,rd,e,q⟩:=h
 cases ds with
 |nil=>cases e
 |cons d ds=>
  unfold aV at rd
  obtain⟨v,vr,rfl,r1,r2⟩:=rd
  simp only[Eh] at e
  obtain⟨ρ1,e1,e⟩:=bind_some e
  exact Yh h1 h2 hs pins s σ H _ us Q I r ⟨v,vr,rfl,H0,ρ,d,ρ1,E,r1,e1,fun σ1 E1 L1=>⟨H0,ρ1,ds,ρ',E1,r2,e,fun σ2 E2 L2=>q σ2 E2 (L1.trans L2)⟩⟩⟩
def U7 (n:Nat) (gs:List Dt->Ev->Option Ev):Dt->Ev->Option Ev
 |.tup ds,ρ=>if ds.length=n then gs ds ρ else none
 |_,_=>none
theorem YQ {ts:List Expr} {k n:Nat} {gs:List Dt->Ev->Option Ev} (hc:X.calm=true) (h:abe X ts gs) (hn:(assignEach ts X.env).length=n:=by rfl) (hst:(assignEach ts X.env).findIdx? (·.1)=none:=by rfl):QTg X (.Tuple ts k pos) (U7 n gs):=⟨have h:=h.run;fun pins s σ H v u Q I r hw=>by
 obtain⟨H0,ρ,d,ρ',E,rd,e,q⟩:=hw
 cases d with
 |tup ds=>
  simp only[U7] at e
  split at e
  ·rename_i hl
   unfold Rep at rd
   obtain⟨a,vs,rfl,hq,rs⟩:=rd
   exact adC hc h hn hst pins s σ H _ u Q I r ⟨a,vs,rfl,hq,by rw[rs.length];exact hl,H0,ρ,ds,ρ',E,rs,e,q⟩
  ·cases e
 |_=>cases e⟩
def abf (i j:Nat) (ρ:Ev):List Bx->Option Out
 |[.z d,.z d']=>some (.nx ((ρ.set i (some (.z d))).set j (some (.z d'))))
 |_=>none
theorem ad6 (i j:Nat) {x y:Str} {px py pt:Pos} {kt k2 pt2} (hc:X.calm=true) (hN:X.N.Nodup) (ha:U5 X [a,b] fs) (hi:X.N[i]?=some x:=by rfl) (hj:X.N[j]?=some y:=by rfl) (hij:i≠j:=by decide) (hx:X.env.scope.names.lookup x=some .local:=by rfl) (hy:X.env.scope.names.lookup y=some .local:=by rfl) (hw:swappedStores [.Tuple [.Name x px,.Name y py] kt pt] (.Tuple [a,b] k2 pt2) X.env=pure (some [x,y]):=by rfl) (hs:swapsWithSole [.Tuple [.Name x px,.Name y py] kt pt] (.Tuple [a,b] k2 pt2) pos.line X.env=pure false:=by rfl):YJ X (.Assign [.Tuple [.Name x px,.Name y py] kt pt] (.Tuple [a,b] k2 pt2) pos) (fun ρ=>(fs ρ).bind (abf i j ρ)):=⟨have ha:=ha.run;psM (adD hc hN hi hj hij hx hy ha hw hs) fun D σ H h=>by
 obtain⟨H0,ρ,r,E,e,q⟩:=h
 obtain⟨bs,eb,e⟩:=bind_some e
 refine⟨H0,ρ,bs,E,eb,fun vs H1 s1 r1=>?_⟩
 unfold abf at e
 split at e
 ·rename_i d d'
  cases e
  cases r1 with
  |cons p t=>
   cases t with
   |cons p' t'=>
    cases t'
    refine⟨_,_,rfl,q _ _ ?_⟩
    exact ((E.grow s1).set (b:=.z d) (Same.refl H1) p (.inr rfl) trivial).set (b:=.z d') (Same.refl H1) p' (.inr rfl) trivial
 ·cases e⟩
def abg (ρ:Ev) (i:Nat):Bx->Option Out
 |.z d=>match ρ[i]? with
  |some (some (.o ds))=>if ds.length < sizeLine then some (.nx (ρ.set i (some (.o (ds++[d]))))) else none
  |_=>none
 |_=>none
theorem bT.aiH {K:FG_} {H0 H:Hp} {σ:L2.St} {ρ:Ev} {i:Nat} {c0 c1:Bx} {a:Addr} {u:HO} (E:bT K H0 H σ ρ) (h:ρ[i]?=some (some c0)) (ho:Ca c0=true) (hs:σ[i]?=some (some (.ref a))) (k:Kp H (upd H a u)) (r:bx K (upd H a u) c1 (.ref a)) :
  bT K H0 (upd H a u) σ (ρ.set i (some c1)):=by
 have hi:i < ρ.length:=(List.getElem?_eq_some_iff.mp h).1
 have hb:H0 a=none:=E.new i c0 a h ho hs
 have lo:∀ c,Ca c=true->loose c=true:=fun c hc=>by cases c<;>first|rfl|cases hc
 refine⟨by rw[QI];exact E.len,fun j b' e=>?_,fun j k' c a' b' e1 ec e2 e3 e4 e5=>?_,fun c o e=>?_,fun j c a' e1 ec e2=>?_⟩
 ·rcases getset e with⟨rfl,e',_⟩|⟨hne,e'⟩
  ·cases e'
   exact⟨_,hs,r⟩
  ·obtain⟨v,e1,r'⟩:=E.val j b' e'
   refine⟨v,e1,?_⟩
   have away:∀ a',v=.ref a'->loose b'=true->a'≠a:=fun a' ev hl z=>by
    subst z
    exact hne (E.own i j c0 _ _ h ho hs e' hl (by rw[e1,ev])).symm
   cases b' with
   |z d=>exact Rep.kp k r'
   |l ds'=>
    obtain⟨a',vs',rfl,q,rr⟩:=r'
    refine⟨a',vs',rfl,?_,rr.kp k⟩
    have hn:=away a' rfl rfl
    rcases q with q|⟨o,q⟩
    ·exact .inl (by rw[aP hn];exact q)
    ·exact .inr ⟨o,by rw[aP hn];exact q⟩
   |o ds'=>
    obtain⟨a',vs',rfl,q,rr⟩:=r'
    have hn:=away a' rfl rfl
    exact⟨a',vs',rfl,by rw[aP hn];exact q,rr.kp k⟩
   |n ds'=>
    obtain⟨a',vs',rfl,q,rr⟩:=r'
    refine⟨a',vs',rfl,?_,rr.kp k⟩
    have hn:=away a' rfl rfl
    rcases q with q|⟨o,q⟩
    ·exact .inl (by rw[aP hn];exact q)
    ·exact .inr ⟨o,by rw[aP hn];exact q⟩
   |m ds'=>
    obtain⟨a',vs',rfl,q,rr⟩:=r'
    have hn:=away a' rfl rfl
    exact⟨a',vs',rfl,by rw[aP hn];exact q,rr.1.kp k,rr.2⟩
 ·have back:∀ (m:Nat) (b:Bx),(ρ.set i (some c1))[m]?=some (some b)->loose b=true->∃ b0,ρ[m]?=some (some b0)/\loose b0=true/\(Ca b=true->Ca b0=true):=fun m b e l=>by
   rcases getset e with⟨rfl,e',_⟩|⟨hne,e'⟩
   ·exact⟨_,h,lo _ ho,fun _=>ho⟩
   ·exact⟨b,e',l,fun z=>z⟩
  obtain⟨b0,q1,q2,q3⟩:=back j _ e1 (lo _ ec)
  obtain⟨b1,q4,q5,_⟩:=back k' _ e3 e4
  exact E.own j k' b0 a' b1 q1 (q3 ec) e2 q4 q5 e5
 ·rw[aP (bG e hb)];exact E.base c o e
 ·rcases getset e1 with⟨rfl,e',_⟩|⟨hne,e'⟩
  ·exact E.new _ c0 a' h ho e2
  ·exact E.new j c a' e' ec e2
theorem bT.ad0 {K:FG_} {H0 H:Hp} {σ:L2.St} {ρ:Ev} {i:Nat} {ds es:List Dt} {a:Addr} {vs us:List V} (E:bT K H0 H σ ρ) (h:ρ[i]?=some (some (.o ds))) (hs:σ[i]?=some (some (.ref a))) (ha:H a=some (.lst vs)) (r:aV K H es us) :
  bT K H0 (upd H a (.lst us)) σ (ρ.set i (some (.o es))):=E.aiH h rfl hs (.lst ha) ⟨a,us,rfl,bK,r.kp (.lst ha)⟩
theorem uw (i:Nat) {x:Str} {p apos cpos:Pos} (he:QV X e f) (hN:X.N[i]?=some x:=by rfl) (hv:Vis X.env.scope x:=by first|exact Or.inl rfl|exact ka (Or.inl rfl)|exact ka (ka rfl)) (hd:(x==("__debug__" : Str))=false:=by decide) (hcd:(x==("__classdict__" : Str))=false:=by decide) (hst:starEach [e] X.env=[(false,eval e X.env)]:=by rfl) (hbase:attributeBase (.Name x p) "append" X.env (eval (.Name x p) X.env)=eval (.Name x p) X.env:=by rfl) (hfew:((backTo cpos (starEach [e] X.env)).all (fun x=>!x.1)&&(backToKw cpos (keywordEach [] X.env)).all (fun x=>x.1.isSome)&&decide ([e].length+([]:List Keyword).length+(if ([]:List Keyword).isEmpty then 0 else 1) < 30))=true:=by rfl) (hline:(apos.endLine==cpos.line)=true:=by rfl) (hs:swapsWith (.Call (.Attribute (.Name x p) "append" apos) [e] [] cpos) none pos.line X.env=pure false:=by rfl):YJ X (.Expr (.Call (.Attribute (.Name x p) "append" apos) [e] [] cpos) pos) (fun ρ=>(f ρ).bind (abg ρ i)):=⟨have he:=he.run;psM (Uy (U3 PySem.F.plainAttrs_list PySem.F.slot_list_append PySem.F.type_list_append LK (Ni (i:=i) hN hv hd hcd) (cG he lX (by rw[hst]<;>rfl)) hbase hfew hline (by rw[hst]<;>rfl) rfl) hs) fun D σ H h=>by
  obtain⟨H0,ρ,r,E,e,q⟩:=h
  obtain⟨b,eb,e⟩:=bind_some e
  cases b with
  |z d=>
   simp only[abg] at e
   split at e
   ·rename_i ds hρ
    split at e
    ·rename_i hl
     cases e
     obtain⟨v,e1,a,vs,rfl,ha,rs⟩:=E.val i _ hρ
     refine⟨_,e1,.inl ⟨rfl,vs,.inl (.inl ha)⟩,H0,ρ,_,E,eb,fun u H1 s1 n1 r1=>?_⟩
     have E1:=E.grow s1
     refine⟨a,vs,u,rfl,rfl,s1 _ _ ha,by rw[rs.length];exact hl,q _ _ ?_⟩
     exact E1.ad0 hρ e1 (s1 _ _ ha) ((rs.kp (.of s1)).append (aV.cons r1 aV.nil))
    ·cases e
   ·cases e
  |_=>cases e⟩
end
def Its (x:Str):It:=⟨fun i _=>i < x.cps.size,fun i H v H'=>H'=H/\∃ c,x.cps[i]?=some c/\v=.str ⟨#[c]⟩,fun i _=>x.cps.size<=i⟩
def aiI (h:Heap) (it:Addr) (x:Str) (i:Nat):Prop:=∃ t,h.IsStrIter it "str_ascii_iterator" x t i\/h.IsStrIter it "str_iterator" x t i
theorem Qf {P:Program} {w:World} {K:FG_} {tg:Expr} (it:Addr) (x:Str):Turn P w K tg (Its x) [it] it (fun i h=>aiI h it x i) where
 mem:=by simp
 obj:=fun i h st b hb=>by
  have e:b=it:=by simpa using hb
  subst e
  obtain⟨t,⟨o,e,c,d⟩|⟨o,e,c,d⟩⟩:=st
  ·exact⟨o,e,fun v z=>by rw[d] at z;cases z⟩
  ·exact⟨o,e,fun v z=>by rw[d] at z;cases z⟩
 keep:=fun i h h' st k=>by
  obtain⟨t,⟨o,e,c⟩|⟨o,e,c⟩⟩:=st
  ·exact⟨t,.inl ⟨o,k it (by simp) o e,c⟩⟩
  ·exact⟨t,.inr ⟨o,k it (by simp) o e,c⟩⟩
 item:=by
  intro X hP hw hK hc i pins s σ H E I hf st hg
  subst hP hw hK
  obtain⟨f0,f1,f2,f3,f4,f5⟩:=hf it (by simp)
  have hi:i < x.cps.size:=hg
  have hx:x.cps[i]?=some x.cps[i]:=by simp[hi]
  obtain⟨t,st|st⟩:=st
  ·refine wpAny_pyNext_ascii_item st hx fun h' st' sb=>?_
   have I1:L2.Inv X pins σ H { s with heap:=h',toks:=s.toks+1 }:=I.turned (fun b o hb e=>(sb.2 b hb).trans e) f0 f1 f3 f4 f5
   obtain⟨o,e,c,d⟩:=id st'
   exact⟨_,rfl,PJ (s:={ s with heap:=h',toks:=s.toks+1 }) e c d (by decide) ⟨.str ⟨#[x.cps[i]]⟩,H,I1,⟨_,rfl⟩,⟨rfl,_,hx,rfl⟩,⟨t,.inl st'⟩,fun b hb=>(hf b hb).1⟩⟩
  ·refine wpAny_pyNext_wide_item st hx fun h' st' sb=>?_
   have I1:L2.Inv X pins σ H { s with heap:=h',toks:=s.toks+1 }:=I.turned (fun b o hb e=>(sb.2 b hb).trans e) f0 f1 f3 f4 f5
   obtain⟨o,e,c,d⟩:=id st'
   exact⟨_,rfl,PJ (s:={ s with heap:=h',toks:=s.toks+1 }) e c d (by decide) ⟨.str ⟨#[x.cps[i]]⟩,H,I1,⟨_,rfl⟩,⟨rfl,_,hx,rfl⟩,⟨t,.inr st'⟩,fun b hb=>(hf b hb).1⟩⟩
 done:=by
  intro X hP hw hK hc i pins s σ H E I hf st hg
  subst hP hw hK
  obtain⟨f0,f1,f2,f3,f4,f5⟩:=hf it (by simp)
  have hx:x.cps[i]?=none:=by have:x.cps.size<=i:=hg;simp[this]
  obtain⟨t,st|st⟩:=st
  ·exact wpAny_pyNext_ascii_end (I.ok.hd hc) st hx fun h' eb=>⟨rfl,I.turned (t':=s.toks) (fun b o hb e=>eb b o hb e) f0 f1 f3 f4 f5⟩
  ·exact wpAny_pyNext_wide_end (I.ok.hd hc) st hx fun h' eb=>⟨rfl,I.turned (t':=s.toks) (fun b o hb e=>eb b o hb e) f0 f1 f3 f4 f5⟩
 self:=fun _ _ _ _ _ st h=>by
  obtain⟨t,st|st⟩:=st
  ·exact wpAny_pyIter_striter_ascii st h
  ·exact wpAny_pyIter_striter_wide st h
section
variable {X:Cx} {tg:Expr}
def aiJ (K:FG_) (tl:TE):TI:=fun σ H R=>tl σ H fun x H1=>(∃ a,x=.ref a/\(∃ xs,uQ K H1 a xs)/\R (Itl K a) H1)\/(∃ a,x=.ref a/\(∃ xs,Bv K H1 a xs)/\R (Itt K a) H1)\/∃ y,x=.str y/\R (Its y) H1
theorem YS {l:Expr} {tl:TE} (hl:PE X l tl):PI X tg l (aiJ X.K tl):=by
 intro pins s σ H R I h
 refine jy (hl pins s σ H _ I h) fun v s1 ⟨x,H1,I1,r1,q1⟩=>?_
 have fp1:∀ (o:Obj) (b:Addr),b∈[s1.heap.objs.size]->yw X pins H1 b:=fun o b hb=>by
  have e:b=s1.heap.objs.size:=by simpa using hb
  subst e
  exact I1.V6 (zt _) (I1.hok.fresh (zt _))
 rcases q1 with⟨a,e,⟨xs,hq⟩,q⟩|⟨a,e,⟨xs,hq⟩,q⟩|⟨y,e,q⟩
 ·subst e
  cases r1
  obtain⟨its,rv,p,hz⟩:=I1.list hq
  refine wpAny_pyIter_list p.isList ?_
  exact⟨s1.heap.objs.size,[s1.heap.objs.size],_,_,H1,rfl,I1.kept (t':=s1.toks) fun b o e=>ze _ e,V7 a _,⟨_,ZN _ rfl,rfl,rfl⟩,fp1 default,q⟩
 ·subst e
  cases r1
  obtain⟨its,rv,p,hz⟩:=I1.tuple hq
  refine wpAny_pyIter_tuple (show s1.heap.IsTuple a its.toArray from p) ?_
  exact⟨s1.heap.objs.size,[s1.heap.objs.size],_,_,H1,rfl,I1.kept (t':=s1.toks) fun b o e=>ze _ e,SM a _,⟨_,ZN _ rfl,rfl,rfl⟩,fp1 default,q⟩
 ·subst e
  obtain⟨t,rfl⟩:=r1
  cases ha:y.cps.all (· < 128) with
  |true=>
   refine wpAny_pyIter_ascii ha ?_
   exact⟨s1.heap.objs.size,[s1.heap.objs.size],_,_,H1,rfl,I1.kept (t':=s1.toks) fun b o e=>ze _ e,Qf _ y,⟨t,.inl ⟨_,ZN _ rfl,rfl,rfl⟩⟩,fp1 default,q⟩
  |false=>
   refine wpAny_pyIter_wide ha ?_
   exact⟨s1.heap.objs.size,[s1.heap.objs.size],_,_,H1,rfl,I1.kept (t':=s1.toks) fun b o e=>ze _ e,Qf _ y,⟨t,.inr ⟨_,ZN _ rfl,rfl,rfl⟩⟩,fp1 default,q⟩
end
def Yields (K:FG_) (J:It) (ds:List Dt) (Hs:Hp):Prop:=∀ (i:Nat) (H:Hp),Same Hs H →
 (∀ d,ds[i]?=some d->J.go i H/\∀ x H',J.yld i H x H'->Same H H'/\Rep K H' d x)/\(ds.length<=i->J.stop i H)
theorem Yields.of {K:FG_} {J:It} {ds:List Dt} {Hs:Hp} (h:∀ (i:Nat) (H:Hp),Same Hs H →
  (∀ d,ds[i]?=some d->J.go i H/\∀ x H',J.yld i H x H'->H'=H/\Rep K H d x)/\(ds.length<=i->J.stop i H)):Yields K J ds Hs:=fun i H s=>
 ⟨fun d e=>⟨((h i H s).1 d e).1,fun x H' y=>by
  obtain⟨rfl,r⟩:=((h i H s).1 d e).2 x H' y
  exact⟨Same.refl _,r⟩⟩,(h i H s).2⟩
def signs (x:Str):List Dt:=x.cps.toList.map fun c=>.str ⟨#[c]⟩
theorem Yields.list {K:FG_} {Hs:Hp} {a:Addr} {vs:List V} {ds:List Dt} (h:uQ K Hs a vs) (r:aV K Hs ds vs):Yields K (Itl K a) ds Hs:=.of fun i H s=>by
 have h':=s.seq h
 have r':=r.kp (.of s)
 refine⟨fun d e=>?_,fun e=>⟨vs,h',by rw[r.length];exact e⟩⟩
 obtain⟨v,ev,rv⟩:=r'.get e
 refine⟨⟨vs,v,h',ev⟩,fun x H' y=>?_⟩
 obtain⟨y1,y2⟩:=y
 have:=y2 vs h'
 rw[ev] at this;cases this
 exact⟨y1,rv⟩
theorem Yields.tup {K:FG_} {Hs:Hp} {a:Addr} {vs:List V} {ds:List Dt} (h:Bv K Hs a vs) (r:aV K Hs ds vs):Yields K (Itt K a) ds Hs:=.of fun i H s=>by
 have h':=(Kp.of s).sqT h
 have r':=r.kp (.of s)
 refine⟨fun d e=>?_,fun e=>⟨vs,h',by rw[r.length];exact e⟩⟩
 obtain⟨v,ev,rv⟩:=r'.get e
 refine⟨⟨vs,v,h',ev⟩,fun x H' y=>?_⟩
 obtain⟨y1,y2⟩:=y
 have:=y2 vs h'
 rw[ev] at this;cases this
 exact⟨y1,rv⟩
theorem Yields.str {K:FG_} {Hs:Hp} (x:Str):Yields K (Its x) (signs x) Hs:=.of fun i H s=>by
 refine⟨fun d e=>?_,fun e=>?_⟩
 ·unfold signs at e
  rw[Z3] at e
  cases h:x.cps.toList[i]? with
  |none=>rw[h] at e;cases e
  |some c=>
   rw[h] at e;cases e
   have hc:x.cps[i]?=some c:=by simpa using h
   have hi:i < x.cps.size:=by
    have:=(List.getElem?_eq_some_iff.mp h).1
    simpa using this
   refine⟨hi,fun v H' y=>?_⟩
   obtain⟨y1,c',hc',rfl⟩:=y
   rw[hc] at hc';cases hc'
   refine⟨y1,?_⟩
   unfold Rep
   exact⟨rfl,by show (1:Nat)<=sizeLine;decide⟩
 ·have:(signs x).length=x.cps.size:=by simp[signs]
  show x.cps.size<=i
  omega
def NQ (lo:Int) (n:Nat):List Dt:=(List.range n).map fun k=>.int (lo+(k:Nat))
theorem Yields.rng {K:FG_} {Hs:Hp} (lo:Int) (n:Nat):Yields K (Itr lo n) (NQ lo n) Hs:=.of fun i H s=>by
 refine⟨fun d e=>?_,fun e=>?_⟩
 ·unfold NQ at e
  rw[Z3] at e
  by_cases hi:i < n
  ·rw[List.getElem?_range hi] at e
   cases e
   refine⟨hi,fun v H' y=>?_⟩
   obtain⟨y1,y2⟩:=y
   refine⟨y1,?_⟩
   unfold Rep
   exact y2
  ·rw[List.getElem?_eq_none (by simp;omega)] at e
   cases e
 ·have:(NQ lo n).length=n:=by simp[NQ]
  show n<=i
  omega
def iF (K:FG_) (f:Ev->Option (List Dt)):TI:=fun σ H R=>∃ H0 ρ ds,bT K H0 H σ ρ/\f ρ=some ds/\∀ J H',Same H H' →
 (∀ Hs,Same Hs H'->(∀ a,H a=none->Hs a=H' a)->(∀ a o u,H' a=some (.BK o u)->Hs a=H' a)->(∀ a vs,H' a=some (.tup vs)->Hs a=H' a)->Yields K J ds Hs)->R J H'
def PIF (X:Cx) (tg iter:Expr) (f:Ev->Option (List Dt)):Prop:=PI X tg iter (iF X.K f)
structure QIF (X:Cx) (tg iter:Expr) (f:Ev->Option (List Dt)):Prop where
 run:PIF X tg iter f
def ad7:Bx->Option (List Dt)
 |.z (.lst ds)=>some ds
 |.z (.tup ds)=>some ds
 |.z (.str x)=>some (signs x)
 |.o ds=>some ds
 |_=>none
section
variable {X:Cx} {tg e:Expr} {es:List Expr} {f:Ev->Option Bx} {fs:Ev->Option (List Bx)}
mutual
theorem Rep.part {K:FG_} {H Hs:Hp} (hf:∀ a o u,H a=some (.BK o u)->Hs a=H a) (ht:∀ a vs,H a=some (.tup vs)->Hs a=H a):∀ {d:Dt} {v:V},Rep K H d v->Rep K Hs d v
 |.non,_,h=>by simpa only[Rep] using h
 |.bl _,_,h=>by simpa only[Rep] using h
 |.int _,_,h=>by simpa only[Rep] using h
 |.str _,_,h=>by simpa only[Rep] using h
 |.tup ds,_,h=>by
  simp only[Rep] at h ⊢
  obtain⟨a,vs,e,q,r⟩:=h
  refine⟨a,vs,e,?_,aV.part hf ht r⟩
  rcases q with (q|⟨o,q⟩)|q
  ·exact .inl (.inl ((ht _ _ q).trans q))
  ·exact .inl (.inr ⟨o,(hf _ _ _ q).trans q⟩)
  ·exact .inr q
 |.lst ds,_,h=>by
  simp only[Rep] at h ⊢
  obtain⟨a,vs,e,q,r⟩:=h
  refine⟨a,vs,e,?_,aV.part hf ht r⟩
  rcases q with⟨o,q⟩|q
  ·exact .inl ⟨o,(hf _ _ _ q).trans q⟩
  ·exact .inr q
 |.emp,_,h=>by
  simp only[Rep] at h ⊢
  obtain⟨a,o,e,q⟩:=h
  exact⟨a,o,e,(hf _ _ _ q).trans q⟩
theorem aV.part {K:FG_} {H Hs:Hp} (hf:∀ a o u,H a=some (.BK o u)->Hs a=H a) (ht:∀ a vs,H a=some (.tup vs)->Hs a=H a):∀ {ds:List Dt} {vs:List V},aV K H ds vs->aV K Hs ds vs
 |[],_,h=>by simpa only[aV] using h
 |d::ds,_,h=>by
  simp only[aV] at h ⊢
  obtain⟨v,r,e,q,t⟩:=h
  exact⟨v,r,e,Rep.part hf ht q,aV.part hf ht t⟩
end
theorem NT (h:QV X e f):QIF X tg e (fun ρ=>(f ρ).bind ad7):=⟨have h:=h.run;fun pins s σ H R I q=>by
 refine YS h pins s σ H R I ?_
 obtain⟨H0,ρ,ds,E,e,q⟩:=q
 obtain⟨b,eb,e⟩:=bind_some e
 refine⟨H0,ρ,b,E,eb,fun v H1 s1 n1 r1=>?_⟩
 cases b with
 |z d=>
  cases d with
  |tup ds'=>
   cases e
   simp only[bx,Rep] at r1
   obtain⟨a,vs,rfl,hq,rs⟩:=r1
   refine .inr (.inl ⟨a,rfl,⟨vs,hq⟩,q _ _ s1 fun Hs hs hn hf ht=>.tup ?_ (rs.part hf ht)⟩)
   rcases hq with (hq|⟨o,hq⟩)|hq
   ·exact .inl (.inl ((ht _ _ hq).trans hq))
   ·exact .inl (.inr ⟨o,(hf _ _ _ hq).trans hq⟩)
   ·exact .inr hq
  |lst ds'=>
   cases e
   simp only[bx,Rep] at r1
   obtain⟨a,vs,rfl,hq,rs⟩:=r1
   refine .inl ⟨a,rfl,⟨vs,hq.sq⟩,q _ _ s1 fun Hs hs hn hf ht=>.list ?_ (rs.part hf ht)⟩
   rcases hq with⟨o,hq⟩|hq
   ·exact .inl (.inr ⟨o,(hf _ _ _ hq).trans hq⟩)
   ·exact .inr hq
  |str x=>
   cases e
   simp only[bx,Rep] at r1
   obtain⟨rfl,_⟩:=r1
   exact .inr (.inr ⟨x,rfl,q _ _ s1 fun Hs hs hn hf ht=>.str x⟩)
  |_=>cases e
 |l ds'=>cases e
 |n ds'=>cases e
 |m ds'=>cases e
 |o ds'=>
  cases e
  obtain⟨a,vs,rfl,hq,rs⟩:=r1
  refine .inl ⟨a,rfl,⟨vs,.inl (.inl hq)⟩,q _ _ s1 fun Hs hs hn hf ht=>.list (.inl (.inl ((hn a (n1 a rfl)).trans hq))) (rs.part hf ht)⟩⟩
def ad8:List Bx->Option (List Dt)
 |[.z (.int j)]=>if -(2 ^ 62)<=j/\j < 2 ^ 62 then some (NQ 0 j.toNat) else none
 |_=>none
theorem uT {p pos:Pos} (hg:Gl X "range") (hm:X.mg "range" = none) (ha:U5 X [e] fs) (hs:starEach [e] X.env=[(false,eval e X.env)]:=by rfl):QIF X tg (.Call (.Name "range" p) [e] [] pos) (fun ρ=>(fs ρ).bind ad8):=⟨have ha:=ha.run;fun pins s σ H R I q=>by
 refine V8 hg hm ha hs pins s σ H R I ?_
 obtain⟨H0,ρ,ds,E,e,q⟩:=q
 obtain⟨bs,eb,e⟩:=bind_some e
 refine⟨H0,ρ,bs,E,eb,fun vs H1 s1 r1=>?_⟩
 unfold ad8 at e
 split at e
 ·rename_i j
  split at e
  ·rename_i hj
   cases e
   cases r1 with
   |cons p t=>
    cases t
    simp only[bx,Rep] at p
    subst p
    exact⟨j,rfl,hj.1,hj.2,q _ _ s1 fun Hs _ _ _ _=>.rng 0 _⟩
  ·cases e
 ·cases e⟩
def Gm (gt:Dt->Ev->Option Ev) (gb:Ev->Option Out):List Dt->Ev->Option Out
 |[],ρ=>some (.nx ρ)
 |d::ds,ρ=>(gt d ρ).bind fun ρ1=>(gb ρ1).bind fun r=>match r with
  |.nx ρ2=>Gm gt gb ds ρ2
  |.ct ρ2=>Gm gt gb ds ρ2
  |.bk ρ2=>some (.nx ρ2)
  |.rt b=>some (.rt b)
noncomputable def jT (H:Hp) (σ:L2.St) (ρ:Ev):Hp:=fun a=>@ite _ (∃ (i:Nat) (c:Bx),ρ[i]?=some (some c)/\Ca c=true/\σ[i]?=some (some (.ref a))) (Classical.propDecidable _) none (H a)
theorem vR {H:Hp} {σ:L2.St} {ρ:Ev}:Same (jT H σ ρ) H:=fun a o e=>by
 unfold jT at e
 split at e
 ·cases e
 ·exact e
theorem bT.rebase {K:FG_} {H0 Hs H:Hp} {σ:L2.St} {ρ:Ev} (E:bT K Hs H σ ρ) (s:Same H0 Hs):bT K H0 H σ ρ:=⟨E.len,E.val,E.own,s.trans E.base,fun i c a e1 ec e2=>s.free (E.new i c a e1 ec e2)⟩
theorem bT.sans {K:FG_} {H0 H:Hp} {σ:L2.St} {ρ:Ev} (E:bT K H0 H σ ρ):bT K (jT H σ ρ) H σ ρ:=⟨E.len,E.val,E.own,vR,fun i c a e1 ec e2=>by
 unfold jT
 rw[zo ⟨i,c,e1,ec,e2⟩]⟩
theorem bT.sub {K:FG_} {H0 H:Hp} {σ:L2.St} {ρ:Ev} (E:bT K H0 H σ ρ):Same H0 (jT H σ ρ):=fun a o e=>by
 unfold jT
 split
 ·rename_i h
  obtain⟨i,c,e1,ec,e2⟩:=h
  rw[E.new i c a e1 ec e2] at e;cases e
 ·exact E.base a o e
theorem qX {K:FG_} {H0 H:Hp} {σ:L2.St} {ρ:Ev} (E:bT K H0 H σ ρ) {a:Addr} (h:∀ vs,H a≠some (.lst vs)) (h2:∀ vs,H a≠some (.dK vs)):jT H σ ρ a=H a:=by
 unfold jT
 split
 ·rename_i hh
  obtain⟨i,c,e1,ec,e2⟩:=hh
  obtain⟨v,e3,rc⟩:=E.val i _ e1
  rw[e2] at e3;cases e3
  cases c with
  |o ds=>obtain⟨a',vs,e4,q,_⟩:=rc;cases e4;exact absurd q (h vs)
  |m ds _=>obtain⟨a',vs,e4,q,_⟩:=rc;cases e4;exact absurd q (h2 vs)
  |_=>cases ec
 ·rfl
theorem YH.rebase {K:FG_} {H0 Hs:Hp} {D:Ends} {r:Out} (s:Same H0 Hs) (h:YH K H0 D r):YH K Hs D r:=by
 cases r with
 |nx ρ=>exact fun σ H E=>h σ H (E.rebase s)
 |bk ρ=>exact fun σ H E=>h σ H (E.rebase s)
 |ct ρ=>exact fun σ H E=>h σ H (E.rebase s)
 |rt b=>exact fun v H s' n r=>h v H (s.trans s') (n.old s) r
theorem YT {gt:Dt->Ev->Option Ev} {gb:Ev->Option Out} {J:It} {ds:List Dt} {H0 H1:Hp} {σ:L2.St} {ρ:Ev} {D:Ends} {r:Out} (E1:bT X.K H0 H1 σ ρ) (Y:Yields X.K J ds (jT H1 σ ρ)) (e:Gm gt gb ds ρ=some r) (q:YH X.K H0 D r) :
  ∃ W:Nat->Nat->L2.St->Hp->Prop,(∃ m,W 0 m σ H1)/\∀ i m σ H,W i m σ H →
   (J.stop i H/\D.nx σ H)\/(J.go i H/\∃ N:L2.St->Hp->Prop,(∀ σ' H',N σ' H'->∃ m',m' < m/\W (i+1) m' σ' H')/\∀ x H',J.yld i H x H'->tgF X.K gt x σ H' fun σ2 H2=>tG X.K gb { D with nx:=N,ct:=N,bk:=D.nx } σ2 H2):=by
 have E2:=E1.sans
 have q2:=q.rebase E1.sub
 generalize jT H1 σ ρ=Hs at Y E2 q2
 refine⟨fun i m σ' H'=>m=ds.length - i/\i<=ds.length/\∃ ρ',bT X.K Hs H' σ' ρ'/\Gm gt gb (ds.drop i) ρ'=some r,⟨ds.length,by simp,QN _,ρ,E2,by simpa using e⟩,?_⟩
 rintro i m σ' H' ⟨rfl,hi',ρ',E',e'⟩
 obtain⟨y1,y2⟩:=Y i H' E'.base
 by_cases hlt:i < ds.length
 ·right
  have hd:ds[i]?=some ds[i]:=by simp[hlt]
  obtain⟨go,yl⟩:=y1 _ hd
  rw[jI hlt] at e'
  simp only[Gm] at e'
  obtain⟨ρ1,e1,e'⟩:=bind_some e'
  obtain⟨r1,e2,e'⟩:=bind_some e'
  refine⟨go,fun σ2 H2=>∃ ρ2,bT X.K Hs H2 σ2 ρ2/\Gm gt gb (ds.drop (i+1)) ρ2=some r,fun σ2 H2 ⟨ρ2,E3,e3⟩=>⟨ds.length - (i+1),by omega,rfl,hlt,ρ2,E3,e3⟩,fun x H2 yy=>?_⟩
  obtain⟨sm,rx⟩:=yl x H2 yy
  refine⟨Hs,ρ',ds[i],ρ1,E'.grow sm,rx,e1,fun σ1 E3 _=>⟨Hs,ρ1,r1,E3,e2,?_⟩⟩
  cases r1 with
  |nx ρ2=>exact fun σ2 H3 E4=>⟨ρ2,E4,e'⟩
  |ct ρ2=>exact fun σ2 H3 E4=>⟨ρ2,E4,e'⟩
  |bk ρ2=>cases e';exact q2
  |rt b=>cases e';exact q2
 ·left
  have hge:ds.length<=i:=by omega
  refine⟨y2 hge,?_⟩
  rw[List.drop_eq_nil_of_le hge] at e'
  cases e'
  exact q2 σ' H' E'
theorem ux {iter:Expr} {body:List Stmt} {fi:Ev->Option (List Dt)} {gt:Dt->Ev->Option Ev} {gb:Ev->Option Out} {pos:Pos} (hp:PassesOwn (model X.prog X.w) X.A X.env X.xe) (hc:X.calm=true) (hi:QIF X tg iter fi) (hg:QTg X tg gt) (hb:QGs X body gb) (hs:∀ x,foldedSetIterable iter X.env x=pure x:=by intro _;rfl):YJ X (.For tg iter body [] pos) (fun ρ=>(fi ρ).bind fun ds=>Gm gt gb ds ρ):=⟨have hi:=hi.run;have hg:=hg.run;have hb:=hb.run;psM (Yj hp hc hi hg hb hs) fun D σ H h=>by
 obtain⟨H0,ρ,r,E,e,q⟩:=h
 obtain⟨ds,ed,e⟩:=bind_some e
 refine⟨H0,ρ,ds,E,ed,fun J H1 s1 y=>?_⟩
 have E1:=E.grow s1
 refine YT E1 ?_ e q
 refine y _ vR (fun a ha=>?_) (fun a o u ha=>qX E1 (fun vs z=>by rw[ha] at z;cases z) (fun vs z=>by rw[ha] at z;cases z)) fun a vs ha=>qX E1 (fun vs z=>by rw[ha] at z;cases z) (fun vs z=>by rw[ha] at z;cases z)
 unfold jT
 split
 ·rename_i hh
  obtain⟨i,c,e1,ec,e2⟩:=hh
  obtain⟨v,e3,rc⟩:=E.val i _ e1
  rw[e2] at e3;cases e3
  cases c with
  |o ds=>obtain⟨a',vs,e4,q,_⟩:=rc;cases e4;rw[ha] at q;cases q
  |m ds _=>obtain⟨a',vs,e4,q,_⟩:=rc;cases e4;rw[ha] at q;cases q
  |_=>cases ec
 ·rfl⟩
theorem bT.lend {K:FG_} {H0 H:Hp} {σ:L2.St} {ρ:Ev} {i:Nat} {ds:List Dt} (E:bT K H0 H σ ρ) (h:ρ[i]?=some (some (.o ds))):bT K H0 H σ (ρ.set i (some (.l ds))):=by
 have back:∀ (j:Nat) (b:Bx),(ρ.set i (some (.l ds)))[j]?=some (some b)->(j=i/\b=.l ds)\/(j≠i/\ρ[j]?=some (some b)):=fun j b e=>by
  rcases getset e with⟨rfl,e',_⟩|⟨hne,e'⟩
  ·cases e';exact .inl ⟨rfl,rfl⟩
  ·exact .inr ⟨hne,e'⟩
 refine⟨by rw[QI];exact E.len,fun j b e=>?_,fun j k c a b e1 ec e2 e3 e4 e5=>?_,E.base,fun j c a e1 ec e2=>?_⟩
 ·rcases back j b e with⟨rfl,rfl⟩|⟨hne,e'⟩
  ·obtain⟨v,e1,a,vs,e2,q,r⟩:=E.val _ _ h
   exact⟨v,e1,a,vs,e2,.inl q,r⟩
  ·exact E.val j b e'
 ·rcases back j _ e1 with⟨rfl,z⟩|⟨hne,e'⟩
  ·subst z;cases ec
  ·rcases back k _ e3 with⟨rfl,z⟩|⟨abb,e3'⟩
   ·exact E.own j _ c a _ e' ec e2 h rfl e5
   ·exact E.own j k c a b e' ec e2 e3' e4 e5
 ·rcases back j _ e1 with⟨rfl,z⟩|⟨hne,e'⟩
  ·subst z;cases ec
  ·exact E.new j c a e' ec e2
end
def SubL (cells:List (Str×Addr)):List (Str×Addr)->Prop
 |[]=>True
 |(n,c)::r=>cells.lookup n=some c/\SubL cells r
theorem SubL.get {cells:List (Str×Addr)}:∀ {cl:List (Str×Addr)},SubL cells cl->∀ {x:Str} {c:Addr},cl.lookup x=some c->cells.lookup x=some c
 |[],_,_,_,e=>by cases e
 |(n,d)::r,h,x,c,e=>by
  rw[List.lookup_cons] at e
  by_cases hx:x==n
  ·simp only[hx] at e
   cases e
   have:x=n:=by simpa using hx
   rw[this];exact h.1
  ·have hx:(x==n)=false:=by simpa using hx
   simp only[hx] at e
   exact SubL.get h.2 e
structure Cap (X:Cx) (scope:Scope) (cl:List (Str×Addr)) (x:Str) (i:Nat):Prop where
 n:X.N[i]?=some x
 k:X.env.kindOf x=some .cell\/X.env.kindOf x=some .free
 k':(relabel scope X.env).names.lookup x=some .cell\/(relabel scope X.env).names.lookup x=some .free
 c:∃ c,cl.lookup x=some c
def KC (X:Cx) (scope:Scope) (cl:List (Str×Addr)):LS_->List Nat->Prop
 |[],[]=>True
 |x::xs,i::is=>Cap X scope cl x i/\KC X scope cl xs is
 |_,_=>False
theorem KC.get {X:Cx} {scope:Scope} {cl:List (Str×Addr)}:∀ {xs:LS_} {is:List Nat},KC X scope cl xs is->xs.length=is.length/\∀ (j:Nat) (x:Str),xs[j]?=some x->∃ i,is[j]?=some i/\Cap X scope cl x i
 |[],[],_=>⟨rfl,fun j x e=>by simp at e⟩
 |x::xs,i::is,h=>by
  obtain⟨h1,h2⟩:=h
  obtain⟨l,g⟩:=KC.get h2
  refine⟨by simp[l],fun j y e=>?_⟩
  cases j with
  |zero=>simp at e;subst e;exact⟨i,rfl,h1⟩
  |succ j=>obtain⟨k,e1,e2⟩:=g j y (by simpa using e);exact⟨k,by simpa using e1,e2⟩
 |[],_::_,h=>h.elim
 |_::_,[],h=>h.elim
def ad9 (names:List (Str×NameKind)) (x:Str):Bool:=match names.lookup x with
 |some .cell=>true
 |_=>false
def Tg (X:Cx) (N':LS_) (scope:Scope) (cl:List (Str×Addr)) (C:Addr) (s₀:Shared) (H₀:Hp) (fp:List Addr):Cx:=
 { X with N:=N',s₀:=s₀,H₀:=H₀,env:=compEnvC scope (cellsFrom (C+1) scope.names cl) C X.env,outer:=X.stack,ex:=fp,fn:=ad9 scope.names,pn:=[],xe:=fun _ _=>False }
structure aea (h:Heap) (cs:List (Str×Addr)):Prop where
 inj:∀ x y c,cs.lookup x=some c->cs.lookup y=some c->x=y
 cell:∀ x c,cs.lookup x=some c->∃ v,h.IsCell c v
theorem nD {α:Type} {x n:Str} {a:α} {l:List (Str×α)} (h:x≠n):((n,a)::l).lookup x=l.lookup x:=by
 rw[List.lookup_cons,beq_eq_false_iff_ne.mpr h]
theorem YW:∀ (names:List (Str×NameKind)) (h:Heap) (acc:List (Str×Addr)),aea h acc->aea (pushCells h names) (cellsFrom h.objs.size names acc)
 |[],_,_,x=>x
 |(n,k)::r,h,acc,x=>by
  unfold pushCells cellsFrom
  split
  ·have hlt:∀ y c,acc.lookup y=some c->c≠h.objs.size:=fun y c e=>let ⟨_,q⟩:=x.cell y c e;ZU q.lt
   have:=YW r (h.push { cls:=.type "cell", data:=.cell none }) ((n,h.objs.size)::acc) ⟨fun y z c e1 e2=>?_,fun y c e=>?_⟩
   ·rwa [kz] at this
   ·by_cases hy:y=n<;>by_cases hz:z=n
    ·rw[hy,hz]
    ·subst hy;rw[jb] at e1;rw[nD hz] at e2;cases e1;exact absurd rfl (hlt _ _ e2)
    ·subst hz;rw[jb] at e2;rw[nD hy] at e1;cases e2;exact absurd rfl (hlt _ _ e1)
    ·rw[nD hy] at e1;rw[nD hz] at e2;exact x.inj y z c e1 e2
   ·by_cases hy:y=n
    ·subst hy;rw[jb] at e;cases e;exact⟨none,_,ZN _ rfl,rfl⟩
    ·rw[nD hy] at e
     obtain⟨v,q⟩:=x.cell y c e
     exact⟨v,q.keeps fun b o e=>ze _ e⟩
  ·exact YW r h acc x
theorem Cp:∀ (names:List (Str×NameKind)) (n:Nat) (acc:List (Str×Addr)) (x:Str) (c:Addr),(cellsFrom n names acc).lookup x=some c->acc.lookup x=some c\/n<=c
 |[],_,_,_,_,e=>.inl e
 |(m,k)::r,n,acc,x,c,e=>by
  unfold cellsFrom at e
  split at e
  ·rcases Cp r _ _ x c e with h|h
   ·by_cases hx:x=m
    ·subst hx;rw[jb] at h;cases h;exact .inr (zt _)
    ·rw[nD hx] at h;exact .inl h
   ·exact .inr (by omega)
  ·exact Cp r _ _ x c e
theorem NZ:∀ (names:List (Str×NameKind)) (n:Nat) (acc:List (Str×Addr)) (x:Str),(x,NameKind.cell)∉names->(cellsFrom n names acc).lookup x=acc.lookup x
 |[],_,_,_,_=>rfl
 |(m,k)::r,n,acc,x,h=>by
  unfold cellsFrom
  have hr:(x,NameKind.cell)∉r:=fun z=>h (zI _ z)
  split
  ·rename_i hk
   rw[NZ r _ _ x hr,nD fun z=>h (by rw[z,<-beq_iff_eq.mp hk];exact zS ..)]
  ·exact NZ r _ _ x hr
theorem Ti:∀ (names:List (Str×NameKind)) (n:Nat) (acc:List (Str×Addr)) (x:Str),((x,NameKind.cell)∈names\/∃ c,acc.lookup x=some c)->∃ c,(cellsFrom n names acc).lookup x=some c
 |[],_,_,_,h=>h.elim (fun z=>by simp at z) fun z=>z
 |(m,k)::r,n,acc,x,h=>by
  unfold cellsFrom
  split
  ·refine Ti r _ _ x ?_
   by_cases hx:x=m
   ·exact .inr ⟨n,by rw[hx,jb]⟩
   ·rw[nD hx]
    exact h.imp_left fun z=>(List.mem_cons.mp z).elim (fun z=>absurd (congrArg Prod.fst z) hx) fun z=>z
  ·rename_i hk
   exact Ti r _ _ x (h.imp_left fun z=>(List.mem_cons.mp z).elim (fun z=>by cases z;exact absurd rfl hk) fun z=>z)
theorem Wm {M:Model} {A:Around} {E:VP_} {s:Shared} {scope:Scope} {g:Addr} {cl:List (Str×Addr)} {qual:Str} {env:Env} {Q:Env->Shared->Prop}
  (h:Q (newEnv scope s.heap.objs.size g (cellsFrom (s.heap.objs.size+1) scope.names cl) qual none .none (some env) builtinsNs) { s with heap:=pushCells (s.heap.push { cls:=.type "dict", data:=.dict #[] }) scope.names }) :
  wpAny M A (newFunctionEnv scope g cl [] qual none .none (some env)) Q E s:=by
 simp only[newFunctionEnv,Option.isSome_some,Qb]
 refine zb (wpAny_alloc ?_)
 refine zb (wpAny_layCells _ (fun name kind cells=>by cases kind==NameKind.cell<;>simp) _ _ _ _ ?_)
 rw[show ({ s with heap:=s.heap.push { cls:=.type "dict", data:=.dict #[] } }:Shared).heap.objs.size=s.heap.objs.size+1 from kz ..]
 rw[List.forIn_nil]
 exact zb (zh (zh h))
structure Bc (X:Cx) (scope:Scope) (cl:List (Str×Addr)) (xs:LS_) (is:List Nat):Prop where
 clos:closureFor scope X.env=pure cl
 kind:scope.kind=.function
 cell:∀ y∈scope.names,y.2=.cell->cl.lookup y.1=none
 names:∀ y∈scope.names,y.2=.local->scope.names.lookup y.1=some .local
 sub:SubL X.env.cells cl
 has:∀ x,((relabel scope X.env).names.lookup x=some .cell\/(relabel scope X.env).names.lookup x=some .free)->(x,NameKind.cell)∈scope.names\/∃ c,cl.lookup x=some c
 cap:KC X scope cl xs is
def Ei (is:List Nat) (σ:L2.St):L2.St:=is.map fun i=>(σ[i]?).bind fun v=>v
def sV (is:List Nat) (ρ:Ev):Ev:=is.map fun i=>Gk ρ i
def TgK (n m:Nat) (g:Dt->Ev->Option Ev):Prop:=∀ d ρ ρ',g d ρ=some ρ'->ρ'.length=ρ.length/\∀ j,j < n\/m<=j->ρ'[j]?=ρ[j]?
theorem oF {n i m:Nat} (h:n<=i:=by decide) (h':i < m:=by decide):TgK n m (fun d ρ=>some (ρ.set i (some (.z d)))):=fun d ρ ρ' e=>by
 cases e
 exact⟨by rw[QI],fun j hj=>Ih _ (by omega)⟩
def Gn (gt:Dt->Ev->Option Ev) (p:Ev->Option Bool) (fs:Ev->Option (List Dt)) (ρ:Ev):List Dt->Option (List Dt)
 |[]=>some []
 |d::ds=>(gt d ρ).bind fun ρ1=>(p ρ1).bind fun k=>if k=true then (fs ρ1).bind fun ys=>(Gn gt p fs ρ ds).bind fun zs=>some (ys++zs) else Gn gt p fs ρ ds
def aeb:Bx->Option (List Dt)
 |.z y=>some [y]
 |_=>none
def Ma (gt:Dt->Ev->Option Ev) (p:Ev->Option Bool) (fe:Ev->Option Bx) (ρ:Ev):List Dt->Option (List Dt):=Gn gt p (fun ρ=>(fe ρ).bind aeb) ρ
theorem Mf {b:Bx} {ys:List Dt} (h:aeb b=some ys):∃ y,b=.z y/\ys=[y]:=by
 cases b<;>cases h
 exact⟨_,rfl,rfl⟩
theorem Ej {gt:Dt->Ev->Option Ev} {p:Ev->Option Bool} {fe:Ev->Option Bx} {ρ:Ev}:∀ {ds out:List Dt},Ma gt p fe ρ ds=some out->out.length<=ds.length
 |[],_,e=>by cases e;exact zt _
 |d::ds,out,e=>by
  simp only[Ma,Gn] at e
  obtain⟨ρ1,_,e⟩:=bind_some e
  obtain⟨k,_,e⟩:=bind_some e
  cases k with
  |false=>
   rw[Zs zg] at e
   exact zv (Ej (gt:=gt) (p:=p) (fe:=fe) e) (by simp)
  |true=>
   rw[zo rfl] at e
   obtain⟨ys,ey,e⟩:=bind_some e
   obtain⟨zs,ez,e⟩:=bind_some e
   obtain⟨b,_,ey⟩:=bind_some ey
   obtain⟨y,_,rfl⟩:=Mf ey
   cases e
   simpa using Ej (gt:=gt) (p:=p) (fe:=fe) ez
def Tests (X:Cx) (ifs:List Expr) (p:Ev->Option Bool):Prop:=(ifs=[]/\p=fun _=>some true)\/∃ c,ifs=[c]/\PB X c p
structure Tj (X:Cx) (ifs:List Expr) (p:Ev->Option Bool):Prop where
 run:Tests X ifs p
section
variable {X:Cx} {elt tgt iter:Expr} {ifs:List Expr} {scope:Scope} {cl:List (Str×Addr)} {pos:Pos} {xs ts:LS_} {is:List Nat} {gt:Dt->Ev->Option Ev} {p:Ev->Option Bool} {fe:Ev->Option Bx} {fi:Ev->Option (List Dt)}
theorem YX {pins:List (Addr×Obj)} {σ:L2.St} {H3:Hp} {s3:Shared} {fp:List Addr} (I3:L2.Inv X pins σ H3 s3) (O:Bc X scope cl xs is)
  (hf:∀ b∈fp,yw X pins H3 b) (hfl:∀ b∈fp,b < s3.heap.objs.size) :
  L2.Inv (Tg X (xs++ts) scope cl s3.heap.objs.size s3 H3 fp) [] (Ei is σ++List.replicate ts.length none) H3 { s3 with heap:=pushCells (s3.heap.push { cls:=.type "dict", data:=.dict #[] }) scope.names }:=by
 obtain⟨hl,hc⟩:=O.cap.get
 have hsub:=O.sub
 have hsz:(s3.heap.push { cls:=.type "dict", data:=.dict #[] }).objs.size=s3.heap.objs.size+1:=kz ..
 have hk:∀ b o,s3.heap.get? b=some o->(pushCells (s3.heap.push { cls:=.type "dict", data:=.dict #[] }) scope.names).get? b=some o:=fun b o e=>pushCells_keeps _ _ b o (ze _ e)
 have cf:aea (pushCells (s3.heap.push { cls:=.type "dict", data:=.dict #[] }) scope.names) (cellsFrom (s3.heap.objs.size+1) scope.names cl):=by
  rw[<-hsz]
  refine YW _ _ _ ⟨fun x y c e1 e2=>I3.ok.inj x y c (hsub.get e1) (hsub.get e2),fun x c e=>?_⟩
  obtain⟨v,q⟩:=I3.cell x c (hsub.get e)
  exact⟨v,q.keeps fun b o e=>ze _ e⟩
 have from':∀ x c,(cellsFrom (s3.heap.objs.size+1) scope.names cl).lookup x=some c->X.env.cells.lookup x=some c\/s3.heap.objs.size < c:=fun x c e=>(Cp _ _ _ x c e).imp_left hsub.get
 refine⟨⟨I3.ok.mod,O.kind,I3.ok.glob,I3.ok.blt,zt _,cf.inj,fun x hx=>Ti _ _ _ x (O.has x hx),fun x c hx e=>?_,I3.ok.hd,I3.ok.frames,.inl rfl,fun b hb=>⟨ZU (hfl b hb),fun x c e=>?_⟩,I3.bs,zv I3.ok.XR I3.sz,fun b o e hb=>?_,fun b hb hb'=>?_,I3.stack,I3.G8⟩,
  rfl,I3.bare,Un.kept hk,⟨_,(Heap.Ns.new s3.heap (.type "dict")).keeps (pushCells_keeps _ _),fun j x v e1 e2 _=>?_⟩,cf.cell,I3.hok.fresh (zt _),fun x c e=>(from' x c e).elim (I3.nC x c) fun h=>I3.hok.fresh (ku h),fun q hq=>absurd (show q∈([]:List (Addr×Obj)) from hq) (by simp),I3.hok.kept hk,?_⟩
 ·refine (Cp _ _ _ x c e).elim (fun h=>?_) fun h=>ku h
  have hx:(x,NameKind.cell)∈scope.names:=by
   have hx:ad9 scope.names x=true:=hx
   unfold ad9 at hx
   split at hx
   ·rename_i q;exact mem_of_lookup q
   ·cases hx
  rw[O.cell _ hx rfl] at h;cases h
 ·rcases from' x c e with h|h
  ·exact (hf b hb).2.2.2.2.1 x c h
  ·exact Q3 (Nat.lt_trans (hfl b hb) h)
 ·obtain⟨_,_,_,z,_⟩:=hf b hb
  rcases z with z|z
  ·exact I3.ok.V4 b o e z
  ·exact absurd (ZA (zw e) (zv I3.ok.XR z)) (j0 _)
 ·obtain⟨_,n1,n2,_⟩:=hf b hb
  rcases List.mem_cons.mp (I3.HB b hb') with z|z
  ·exact n1 z
  ·exact n2 z
 ·have hj:j < is.length:=by
   by_cases hj:j < is.length
   ·exact hj
   ·rw[qi (by simp[Ei];omega)] at e2
    rw[qB] at e2
    split at e2<;>cases e2
  have e1':xs[j]?=some x:=by
   have e1:(xs++ts)[j]?=some x:=e1
   rw[ZY (by omega)] at e1;exact e1
  obtain⟨i,ei,hcp⟩:=hc j x e1'
  have e3:σ[i]?=some (some v):=by
   rw[ZY (by simp[Ei];omega)] at e2
   unfold Ei at e2
   rw[Z3,ei] at e2
   cases q:σ[i]? with
   |none=>rw[Option.map_some,q] at e2;cases e2
   |some o=>
    rw[Option.map_some,q] at e2
    have:o=some v:=by simpa using e2
    rw[this]
  have vis:Vis X.env.scope x:=by
   rcases hcp.k with k|k
   ·exact .inr (.inl k)
   ·exact .inr (.inr k)
  obtain⟨m',hn',hlk⟩:=I3.loc
  obtain⟨u,r,l⟩:=hlk i x v hcp.n e3 vis
  refine⟨u,r,?_⟩
  rcases l with⟨k,_⟩|⟨k,c,ec,ic⟩
  ·rcases hcp.k with k'|k'<;>(rw[k] at k';cases k')
  ·obtain⟨c',ec'⟩:=hcp.c
   have:=hsub.get ec'
   rw[ec] at this;cases this
   refine .inr ⟨hcp.k',c,(NZ _ _ _ x fun z=>by rw[O.cell _ z rfl] at ec';cases ec').trans ec',?_⟩
   obtain⟨o,ho,hd⟩:=ic
   exact⟨o,hk c o ho,hd⟩
 ·show (Ei is σ++List.replicate ts.length none).length=(xs++ts).length
  simp[Ei,hl]
theorem bT.caps {K:FG_} {H0 H:Hp} {σ:L2.St} {ρ:Ev} (E:bT K H0 H σ ρ) (is:List Nat) (n:Nat):bT K H H (Ei is σ++List.replicate n none) (sV is ρ++List.replicate n none):=by
 have noO:∀ (j:Nat) c,(sV is ρ++List.replicate n none)[j]?=some (some c)->Ca c=false:=fun j c e=>by
  by_cases hj:j < is.length
  ·rw[ZY (by simp[sV];omega)] at e
   unfold sV at e
   rw[Z3] at e
   cases q:is[j]? with
   |none=>rw[q] at e;cases e
   |some i=>
    rw[q] at e
    have:Gk ρ i=some c:=by simpa using e
    exact Hl this
  ·rw[qi (by simp[sV];omega),qB] at e
   split at e<;>cases e
 refine⟨by simp[Ei,sV],fun j b e=>?_,fun j k c a b e ec=>absurd ec (by rw[noO j c e];exact zg),Same.refl H,fun j c a e ec=>absurd ec (by rw[noO j c e];exact zg)⟩
 by_cases hj:j < is.length
 ·rw[ZY (by simp[sV];omega)] at e
  rw[ZY (by simp[Ei];omega)]
  unfold sV at e
  unfold Ei
  rw[Z3] at e ⊢
  cases q:is[j]? with
  |none=>rw[q] at e;cases e
  |some i=>
   rw[q] at e
   have:Gk ρ i=some b:=by simpa using e
   obtain⟨v,e1,r⟩:=Qc E this
   exact⟨v,by simp[e1],r⟩
 ·rw[qi (by simp[sV];omega),qB] at e
  split at e<;>cases e
theorem bT.forget {K:FG_} {H0 H:Hp} {σ:L2.St} {ρ ρ':Ev} (E:bT K H0 H σ ρ') (hl:ρ'.length=ρ.length) (h:∀ (j:Nat) b,ρ[j]?=some (some b)->ρ'[j]?=some (some b)):bT K H0 H σ ρ:=
 ⟨E.len.trans hl,fun j b e=>E.val j b (h j b e),fun i j c a b e1 ec e2 e3 e4 e5=>E.own i j c a b (h _ _ e1) ec e2 (h _ _ e3) e4 e5,E.base,fun i c a e1 ec e2=>E.new i c a (h _ _ e1) ec e2⟩
structure Apt (Hb:Hp) (σ:L2.St) (ρ:Ev) (n:Nat):Prop where
 own:∀ (j:Nat) c,ρ[j]?=some (some c)->Ca c=false
 lt:∀ (j:Nat) b,ρ[j]?=some (some b)->j < n
 old:∀ (j:Nat) c a,ρ[j]?=some (some c)->loose c=true->σ[j]?=some (some (.ref a))->Hb a≠none
def Fx (σ σ':L2.St) (ρ:Ev):Prop:=∀ (j:Nat) c,loose c=true->ρ[j]?=some (some c)->σ'[j]?=σ[j]?
theorem Apt.fx {Hb:Hp} {σ σ':L2.St} {ρ:Ev} {n:Nat} (P:Apt Hb σ ρ n) (f:Fx σ σ' ρ):Apt Hb σ' ρ n:=⟨P.own,P.lt,fun j c a e hl ea=>P.old j c a e hl (by rw[<-f j c hl e];exact ea)⟩
theorem known {K:FG_} {H0 H:Hp} {σ:L2.St} {ρ:Ev} (E:bT K H0 H σ ρ) (j:Nat) (c:Bx) (a:Addr) (e:ρ[j]?=some (some c)) (hl:loose c=true) (ea:σ[j]?=some (some (.ref a))):H a≠none:=fun z=>by
 obtain⟨v,e1,rc⟩:=E.val j _ e
 rw[ea] at e1;cases e1
 cases c with
 |z d=>cases hl
 |l dz=>
  obtain⟨a',vs,e2,q,_⟩:=rc
  cases e2
  rcases q with q|⟨o,q⟩<;>(rw[z] at q;cases q)
 |n dz=>
  obtain⟨a',vs,e2,q,_⟩:=rc
  cases e2
  rcases q with q|⟨o,q⟩<;>(rw[z] at q;cases q)
 |o dz=>
  obtain⟨a',vs,e2,q,_⟩:=rc
  cases e2
  rw[z] at q;cases q
 |m dz _=>
  obtain⟨a',vs,e2,q,_⟩:=rc
  cases e2
  rw[z] at q;cases q
theorem bT.grown {K:FG_} {Hb H:Hp} {σ:L2.St} {ρ:Ev} {n:Nat} {D:Addr} {o:HO} (E:bT K Hb H σ ρ) (P:Apt Hb σ ρ n) (hD:Hb D=none) (kp:Kp H (upd H D o)):bT K Hb (upd H D o) σ ρ:=by
 refine⟨E.len,fun j b e=>?_,fun j k c a b e ec=>absurd ec (by rw[P.own j c e];exact zg),fun c o e=>?_,fun j c a e ec=>absurd ec (by rw[P.own j c e];exact zg)⟩
 ·obtain⟨v,ev,rb⟩:=E.val j b e
  refine⟨v,ev,?_⟩
  cases b with
  |z d=>exact Rep.kp kp rb
  |o dz=>have:=P.own j _ e;cases this
  |m dz _=>have:=P.own j _ e;cases this
  |n dz=>
   obtain⟨a,vs,rfl,q,rr⟩:=rb
   refine⟨a,vs,rfl,?_,rr.kp kp⟩
   have ha:a≠D:=fun z=>P.old j _ _ e rfl ev (by rw[z];exact hD)
   exact q.imp (fun q=>by rw[aP ha];exact q) fun ⟨o,q⟩=>⟨o,by rw[aP ha];exact q⟩
  |l dz=>
   obtain⟨a,vs,rfl,q,rr⟩:=rb
   refine⟨a,vs,rfl,?_,rr.kp kp⟩
   have ha:a≠D:=fun z=>P.old j _ _ e rfl ev (by rw[z];exact hD)
   exact q.imp (fun q=>by rw[aP ha];exact q) fun ⟨o,q⟩=>⟨o,by rw[aP ha];exact q⟩
 ·rw[aP (bG e hD)];exact E.base c o e
def abh (X:Cx) (el:Addr->Env->Sem Unit) (fs:Ev->Option (List Dt)) (Ac:Addr->Hp->List Dt->HO->Prop) (N n:Nat):Prop:=∀ (pins:List (Addr×Obj)) (s:Shared) (σ:L2.St) (H Hb:Hp) (ρ:Ev) (D:Addr) (o:HO) (o1 ys:List Dt),L2.Inv X pins σ H s->bT X.K Hb H σ ρ->Apt Hb σ ρ n->Hb D=none->fs ρ=some ys->H D=some o->Ac D H o1 o->o1.length+ys.length<=N →
 wpAny (model X.prog X.w) X.A (el D X.env) (fun _ s'=>∃ σ' H' o',L2.Inv X pins σ' H' s'/\bT X.K Hb H' σ' ρ/\Fx σ σ' ρ/\H' D=some o'/\Ac D H' (o1++ys) o') X.xe s
theorem aec {el:Addr->Env->Sem Unit} {fs:Ev->Option (List Dt)} {Ac:Addr->Hp->List Dt->HO->Prop} {N n:Nat} (h:∀ (pins:List (Addr×Obj)) (s:Shared) (σ:L2.St) (H Hb:Hp) (ρ:Ev) (D:Addr) (o:HO) (o1 ys:List Dt),L2.Inv X pins σ H s->bT X.K Hb H σ ρ->fs ρ=some ys->H D=some o->Ac D H o1 o->o1.length+ys.length<=N →
  wpAny (model X.prog X.w) X.A (el D X.env) (fun _ s'=>∃ H9 o',L2.Inv X pins σ (upd H9 D o') s'/\Same H H9/\Kp H9 (upd H9 D o')/\Ac D (upd H9 D o') (o1++ys) o') X.xe s):abh X el fs Ac N n:=fun pins s σ H Hb ρ D o o1 ys I E P hD e1 e2 a1 l=>by
 refine ZT (h pins s σ H Hb ρ D o o1 ys I E e1 e2 a1 l) (fun _ s' ⟨H9,o',I',s9,kp,a'⟩=>?_) fun _ _ z=>z
 exact⟨σ,_,o',I',(E.grow s9).grown P hD kp,fun _ _ _ _=>rfl,bK,a'⟩
theorem Wn {comp:Expr} {d:Nat} {ipos:Pos} {Ac:Addr->Hp->List Dt->HO->Prop} {el:Addr->Env->Sem Unit} {fs:Ev->Option (List Dt)} {N n m:Nat} {pins:List (Addr×Obj)} {σ:L2.St} {H Hb:Hp} {s:Shared} {it D:Addr} {fp:List Addr} {tn:Nat->Heap->Prop} {J:It} {ds o0 out:List Dt} {o:HO} {ρ:Ev} {R:Result->Shared->Prop}
  (hcalm:X.calm=true) (hx:X.xe=fun _ _=>False) (Wq:PTg X tgt gt) (hif:Tests X ifs p) (hel:abh X el fs Ac N m) (htk:TgK n m gt) (hnm:n<=m)
  (I:L2.Inv X pins σ H s) (E:bT X.K Hb H σ ρ) (P:Apt Hb σ ρ n) (hD:Hb D=none) (hHD:H D=some o) (hA:Ac D H o0 o)
  (T:Turn X.prog X.w X.K tgt J fp it tn) (st:tn 0 s.heap) (hf:∀ b∈fp,yw X pins H b) (Y:Yields X.K J ds Hb)
  (hout:Gn gt p fs ρ ds=some out) (hN:o0.length+out.length<=N)
  (hAk:∀ {D:Addr} {H H':Hp} {o1:List Dt} {o:HO},Kp H H'->Ac D H o1 o->Ac D H' o1 o)
  (hturn:∀ (it:Value) (D:Addr) (env:Env),compTurn comp d it (.ref D) env=(standAt ipos >>= fun _=>pyNext it >>= fun r=>match r with
   |none=>pure (.done .next)
   |some v=>letOwnedTupleGo tgt it v >>= fun _=>assign tgt env v >>= fun _=>(forIn ifs true fun c r=>if r=true then isTrue c env (eval c env) >>= fun ok=>pure (ForInStep.yield ok) else pure (ForInStep.yield r)) >>= fun ok=>if ok=true then el D env >>= fun _=>again (.compLoop comp d it (.ref D) env) else again (.compLoop comp d it (.ref D) env)))
  (hsh:∀ {it acc:Value} {env:Env} {Q:Fin->Shared->Prop} {E:VP_} {s:Shared},wpAny (model X.prog X.w) X.A ((compTurn comp d it acc env).onRaise (fun x=>noteFrame x env >>= fun _=>theTreesLotGoes x)) Q E s->wpAny (model X.prog X.w) (X.A.under (.compLoop comp d it acc env)) ((model X.prog X.w).den (.compLoop comp d it acc env)) Q E s)
  (hR:∀ s' σ' H' o',L2.Inv X pins σ' H' s'->bT X.K Hb H' σ' ρ->Fx σ σ' ρ->H' D=some o'->Ac D H' (o0++out) o'->R (.ok .next) s') :
  codeAny (model X.prog X.w) X.A (.compLoop comp d (.ref it) (.ref D) X.env) R s:=by
 have hfC:∀ {H':Hp},(∀ b∈fp,H' b=none)->∀ b∈fp,yw X pins H' b:=fun {H'} hn b hb=>⟨hn b hb,(hf b hb).2⟩
 refine codeAny_loop rfl (fun k s'=>∃ (i:Nat) (σ':L2.St) (H':Hp) (o1 o2:List Dt) (o:HO),k=ds.length - i/\i<=ds.length/\L2.Inv X pins σ' H' s'/\tn i s'.heap/\(∀ b∈fp,H' b=none)/\bT X.K Hb H' σ' ρ/\Fx σ σ' ρ/\H' D=some o/\Ac D H' o1 o/\Gn gt p fs ρ (ds.drop i)=some o2/\o1++o2=o0++out) ?_ ds.length
  ⟨0,σ,H,o0,out,o,by simp,QN _,I,st,fun b hb=>(hf b hb).1,E,fun _ _ _ _=>rfl,hHD,hA,by simpa using hout,rfl⟩
 rintro k s4 ⟨i,σ4,H4,o1,o2,o,rfl,hi,I4,st4,fr4,E4,F4,hD4,r4,e4,ho⟩
 have P4:=P.fx F4
 refine hsh (wpAny_noted ?_)
 rw[hturn]
 obtain⟨y1,y2⟩:=Y i H4 E4.base
 by_cases hlt:i < ds.length
 ·have hd:ds[i]?=some ds[i]:=by simp[hlt]
  obtain⟨go,yl⟩:=y1 _ hd
  rw[jI hlt] at e4
  simp only[Gn] at e4
  obtain⟨ρ1,e1,e4⟩:=bind_some e4
  obtain⟨k,ek,e4⟩:=bind_some e4
  obtain⟨hl1,hk1⟩:=htk _ _ _ e1
  have back:∀ {σ5:L2.St} {H5:Hp},bT X.K Hb H5 σ5 ρ1->bT X.K Hb H5 σ5 ρ:=fun E5=>E5.forget hl1 fun j b e=>by rw[hk1 j (.inl (P.lt j b e))];exact e
  refine zb (ke (zb ?_))
  refine jy (T.item X rfl rfl rfl hcalm i pins s4 σ4 H4 _ I4 (hfC fr4) st4 go) fun r s5 ⟨u,hr,h5⟩=>?_
  subst hr
  refine zb (jy h5 fun _ s6 ⟨x,H6,I6,r6,y6,st6,fr6⟩=>?_)
  obtain⟨sm,rx⟩:=yl x H6 y6
  have E4:=E4.grow sm
  have hD4:=sm _ _ hD4
  have r4:=hAk (.of sm) r4
  have I6':=I6.pinned (hfC fr6) (T.obj _ _ st6)
  have ha:=Wq _ s6 σ4 H6 x u (fun σ' H'=>H'=H6/\bT X.K Hb H6 σ' ρ1/\Lo σ4 ρ σ' ρ1) I6' r6 ⟨Hb,ρ,ds[i],ρ1,E4,rx,e1,fun σ' E' L'=>⟨rfl,E',L'⟩⟩
  rw[hx] at ha
  refine zb (ZT ha (fun _ s7 h7=>?_) fun _ _ z=>z.elim)
  obtain⟨σ7,H7,I7,rfl,E7,L7⟩:=h7
  have P7:Apt Hb σ7 ρ1 m:=by
   refine⟨fun j c e=>?_,fun j c e=>?_,fun j c a e hl ea=>?_⟩
   ·cases c with
    |o ds=>exact P.own j _ (L7 j _ rfl e).1
    |m ds _=>exact P.own j _ (L7 j _ rfl e).1
    |_=>rfl
   ·refine Nat.lt_of_not_le fun h=>?_
    rw[hk1 j (.inr h)] at e
    exact absurd (ZA (P.lt j c e) hnm) (Nat.not_lt.mpr h)
   ·obtain⟨e',ee⟩:=L7 j c hl e
    exact P4.old j c a e' hl (by rw[<-ee];exact ea)
  have acK:∀ {σ5:L2.St},Fx σ7 σ5 ρ1->Fx σ σ5 ρ:=fun f j c hl e=>by
   have e':ρ1[j]?=some (some c):=by rw[hk1 j (.inl (P.lt j c e))];exact e
   exact (f j c hl e').trans ((L7 j c hl e').2.trans (F4 j c hl e))
  have ht:wpAny (model X.prog X.w) X.A (forIn ifs true fun c r=>if r=true then do let ok <-isTrue c X.env (eval c X.env);pure (ForInStep.yield ok) else pure (ForInStep.yield r))
    (fun ok s8=>ok=k/\∃ H8,L2.Inv X (pins++Eb fp s6.heap) σ7 H8 s8/\Same H7 H8) (notedBy (model X.prog X.w) X.A X.env fun e s'=>R (.error e) s') s7:=by
   rcases hif with⟨rfl,rfl⟩|⟨c,rfl,hc⟩
   ·cases ek
    exact wpAny_tests_nil ⟨rfl,H7,I7,Same.refl H7⟩
   ·refine wpAny_tests_one ?_
    have:=hc _ s7 σ7 H7 (fun b H8=>b=k/\Same H7 H8) I7 ⟨Hb,ρ1,k,E7,ek,fun H8 s8=>⟨rfl,s8⟩⟩
    rw[hx] at this
    exact ZT this (fun b s8 ⟨H8,I8,eb,s8'⟩=>⟨eb,H8,I8,s8'⟩) fun _ _ z=>z.elim
  refine zb (ZT ht (fun ok s8 h8=>?_) fun _ _ z=>z)
  obtain⟨rfl,H8,I8,s78⟩:=h8
  have YZ:∀ {σ9:L2.St} {H9:Hp} {s9:Shared},L2.Inv X (pins++Eb fp s6.heap) σ9 H9 s9->L2.Inv X pins σ9 H9 s9/\tn (i+1) s9.heap/\∀ b∈fp,H9 b=none:=fun {σ9 H9 s9} I9=>by
   refine⟨I9.yF,T.keep _ _ _ st6 fun b hb o e=>(I9.pin (b,o) (ZE _ (ZE _ (vP hb e)))).1,fun b hb=>?_⟩
   obtain⟨o,e,d⟩:=T.obj _ _ st6 b hb
   exact (I9.pin (b,o) (ZE _ (ZE _ (vP hb e)))).2.1
  cases ok with
  |false=>
   rw[Zs zg] at e4
   obtain⟨I9,st9,fr9⟩:=YZ I8
   exact zh ⟨rfl,ds.length - (i+1),by omega,i+1,σ7,H8,o1,o2,o,rfl,hlt,I9,st9,fr9,back (E7.grow s78),acK (fun _ _ _ _=>rfl),s78 _ _ hD4,hAk (.of s78) r4,e4,ho⟩
  |true=>
   rw[zo rfl] at e4
   obtain⟨ys,eb,e4⟩:=bind_some e4
   obtain⟨zs,e5,e4⟩:=bind_some e4
   cases e4
   have hl:=congrArg List.length ho
   simp only[zl] at hl
   have he:=hel _ s8 σ7 H8 Hb ρ1 D o o1 ys I8 (E7.grow s78) P7 hD eb (s78 _ _ hD4) (hAk (.of s78) r4) (by omega)
   rw[hx] at he
   refine zb (ZT he (fun _ s10 h10=>?_) fun _ _ z=>z.elim)
   obtain⟨σ9,H9,o',I10,E9,F9,hD9,a5⟩:=h10
   obtain⟨I11,aiM,aiN⟩:=YZ I10
   exact zh ⟨rfl,ds.length - (i+1),by omega,i+1,σ9,H9,o1++ys,zs,o',rfl,hlt,I11,aiM,aiN,back E9,acK F9,hD9,a5,e5,by rw[JY];exact ho⟩
 ·have hge:ds.length<=i:=by omega
  rw[List.drop_eq_nil_of_le hge] at e4
  cases e4
  refine zb (ke (zb ?_))
  refine jy (T.done X rfl rfl rfl hcalm i pins s4 σ4 H4 _ I4 (hfC fr4) st4 (y2 hge)) fun r s5 ⟨hr,I5⟩=>?_
  subst hr
  rw[qV] at ho
  exact zh (hR s5 σ4 H4 o I5 E4 F4 hD4 (by rw[<-ho];exact r4))
theorem Wr {comp:Expr} {mk:Sem Value} {o0:Obj} {O0:HO} {Ac:Addr->Hp->List Dt->HO->Prop} {el:Addr->Env->Sem Unit} {fs:Ev->Option (List Dt)} {N m:Nat} {pins:List (Addr×Obj)} {σ:L2.St} {H2:Hp} {s2:Shared} {it:Addr} {fp:List Addr} {tn:Nat->Heap->Prop} {J:It} {ds out:List Dt} {ρ:Ev} {RR:Value->Addr->Result->Shared->Prop} {E:VP_}
  (O:Bc X scope cl xs is) (hcalm:X.calm=true)
  (Wq:∀ C s₀ H₀ fp,PTg (Tg X (xs++ts) scope cl C s₀ H₀ fp) tgt gt) (hif:∀ C s₀ H₀ fp,Tests (Tg X (xs++ts) scope cl C s₀ H₀ fp) ifs p) (helt:∀ C s₀ H₀ fp,abh (Tg X (xs++ts) scope cl C s₀ H₀ fp) el fs Ac N m) (htk:TgK is.length m gt) (hnm:is.length<=m)
  (I2:L2.Inv X pins σ H2 s2) (Ec:bT X.K H2 H2 (Ei is σ++List.replicate ts.length none) (sV is ρ++List.replicate ts.length none)) (T:Turn X.prog X.w X.K tgt J fp it tn) (st:tn 0 s2.heap) (hf:∀ b∈fp,yw X pins H2 b) (Y:Yields X.K J ds H2)
  (hout:Gn gt p fs (sV is ρ++List.replicate ts.length none) ds=some out) (hlen:out.length<=N)
  (hRR:∀ (D C:Addr) (s':Shared) (H':Hp) (o:HO),H2 D=none->L2.Inv X pins σ H' s'->yw X pins H' C->(∃ m,s'.heap.Ns C m)->Same H2 H'->H' D=some o->Ac D H' out o->RR (.ref D) C (.ok .next) s')
  (hmk:∀ {Q:VP_},Q (.ref s2.heap.objs.size) { s2 with heap:=s2.heap.push o0 }->wpAny (model X.prog X.w) X.A mk Q E s2) (hO0:∀ H,jQ X.prog X.w H (s2.heap.push o0) s2.heap.objs.size O0) (hA0:∀ H,Ac s2.heap.objs.size H [] O0)
  (hAk:∀ {D:Addr} {H H':Hp} {o1:List Dt} {o:HO},Kp H H'->Ac D H o1 o->Ac D H' o1 o)
  (hturn:∀ (it:Value) (D:Addr) (env:Env),compTurn comp 0 it (.ref D) env=(standAt iter.pos >>= fun _=>pyNext it >>= fun r=>match r with
   |none=>pure (.done .next)
   |some v=>letOwnedTupleGo tgt it v >>= fun _=>assign tgt env v >>= fun _=>(forIn ifs true fun c r=>if r=true then isTrue c env (eval c env) >>= fun ok=>pure (ForInStep.yield ok) else pure (ForInStep.yield r)) >>= fun ok=>if ok=true then el D env >>= fun _=>again (.compLoop comp 0 it (.ref D) env) else again (.compLoop comp 0 it (.ref D) env)))
  (hstart:∀ {it acc:Value} {env:Env} {R:Result->Shared->Prop} {s:Shared},codeAny (model X.prog X.w) X.A (.compLoop comp 0 it acc env) R s->wpAny (model X.prog X.w) X.A (pyIter it) (fun it' s'=>codeAny (model X.prog X.w) X.A (.compLoop comp 0 it' acc env) R s') (notedBy (model X.prog X.w) X.A env fun x s'=>R (.error x) s') s->codeAny (model X.prog X.w) X.A (.compStart comp 0 it acc env) R s)
  (hsh:∀ {it acc:Value} {env:Env} {Q:Fin->Shared->Prop} {E:VP_} {s:Shared},wpAny (model X.prog X.w) X.A ((compTurn comp 0 it acc env).onRaise (fun x=>noteFrame x env >>= fun _=>theTreesLotGoes x)) Q E s->wpAny (model X.prog X.w) (X.A.under (.compLoop comp 0 it acc env)) ((model X.prog X.w).den (.compLoop comp 0 it acc env)) Q E s) :
  wpAny (model X.prog X.w) X.A mk (fun acc s₃=>wpAny (model X.prog X.w) X.A (newFunctionEnv scope X.env.globals cl [] X.env.qual none .none (some X.env)) (fun cenv s₄=>
   codeAny (model X.prog X.w) X.A (.compStart comp 0 (.ref it) acc { cenv with scope:=relabel scope X.env }) (RR acc cenv.locals) s₄) E s₃) E s2:=by
 refine hmk (Wm ?_)
 have hD:H2 s2.heap.objs.size=none:=I2.hok.fresh (zt _)
 have I3:L2.Inv X pins σ (upd H2 s2.heap.objs.size O0) { s2 with heap:=s2.heap.push o0 }:=
  I2.laid (t':=s2.toks) (fun b o e=>ze _ e) (zt _) (hO0 _)
 have agg:∀ b∈fp,b < s2.heap.objs.size:=fun b hb=>let ⟨o,e,_⟩:=T.obj 0 _ st b hb;zw e
 have hf3:∀ b∈fp,yw X pins (upd H2 s2.heap.objs.size O0) b:=fun b hb=>⟨by rw[aP (ZU (agg b hb))];exact (hf b hb).1,(hf b hb).2⟩
 have st3:tn 0 (s2.heap.push o0):=T.keep 0 _ _ st fun b hb o e=>ze _ e
 have abj:∀ b∈fp,b < (s2.heap.push o0).objs.size:=fun b hb=>by rw[kz];exact Nat.lt_succ_of_lt (agg b hb)
 generalize hs3:({ s2 with heap:=s2.heap.push o0 }:Shared)=s3 at *
 have aiP:s3.heap=s2.heap.push o0:=by rw[<-hs3]
 rw[<-aiP] at st3 abj
 have IC:=YX (ts:=ts) I3 O hf3 abj
 have st1:tn 0 (pushCells (s3.heap.push { cls:=.type "dict", data:=.dict #[] }) scope.names):=T.keep 0 _ _ st3 fun b hb o e=>pushCells_keeps _ _ b o (ze _ e)
 have hfC:∀ b∈fp,yw (Tg X (xs++ts) scope cl s3.heap.objs.size s3 (upd H2 s2.heap.objs.size O0) fp) [] (upd H2 s2.heap.objs.size O0) b:=fun b hb=>by
  obtain⟨f0,f1,f2,f3,f4,f5⟩:=hf3 b hb
  refine⟨f0,ZU (abj b hb),fun z=>?_,.inl hb,fun x c e z=>?_,fun q hq=>absurd (show q∈([]:List (Addr×Obj)) from hq) (by simp)⟩
  ·rcases List.mem_cons.mp (I3.HB b z) with q|q
   ·exact f1 q
   ·exact f2 q
  ·rcases Cp _ _ _ x c e with h|h
   ·exact f4 x c (O.sub.get h) z
   ·rw[z] at h;exact absurd (ZA (abj b hb) (Nat.le_of_succ_le h)) (j0 _)
 have P0:Apt H2 (Ei is σ++List.replicate ts.length none) (sV is ρ++List.replicate ts.length none) is.length:=by
  have g:∀ (j:Nat) c,(sV is ρ++List.replicate ts.length none)[j]?=some (some c)->j < is.length/\Ca c=false:=fun j c e=>by
   by_cases hj:j < is.length
   ·refine⟨hj,?_⟩
    rw[ZY (by simp[sV];omega)] at e
    unfold sV at e
    rw[Z3] at e
    cases q:is[j]? with
    |none=>rw[q] at e;cases e
    |some i=>rw[q] at e;exact Hl (by simpa using e)
   ·rw[qi (by simp[sV];omega),qB] at e
    split at e<;>cases e
  exact⟨fun j c e=>(g j c e).2,fun j c e=>(g j c e).1,known Ec⟩
 have h:=Wn (X:=Tg X (xs++ts) scope cl s3.heap.objs.size s3 (upd H2 s2.heap.objs.size O0) fp) (R:=RR (.ref s2.heap.objs.size) s3.heap.objs.size) (o0:=[]) hcalm rfl (Wq _ _ _ _) (hif _ _ _ _) (helt _ _ _ _) htk hnm IC (Ec.grow (dU hD)) P0 hD bK (hA0 _) T st1 hfC Y hout (by simpa using hlen) hAk hturn hsh fun s5 σ5 H5 o5 I5 E5 _ hD5 a5=>by
  have IB:L2.Inv X pins σ H5 s5:=I3.call' (ch:=fp) I5.os I5.base I5.hok I5.bare fun b hb=>by
   obtain⟨f0,f1,f2,f3,f4,f5⟩:=hf3 b hb
   exact⟨f3,f1,f4,f5⟩
  obtain⟨m,hn,_⟩:=I5.loc
  exact hRR _ _ s5 H5 o5 hD IB (I3.V6 (zt _) I5.free) ⟨m,hn⟩ E5.base hD5 a5
 exact hstart h (T.self _ 0 _ _ _ st1 h)
def AcL (K:FG_) (_:Addr) (H:Hp) (o1:List Dt) (o:HO):Prop:=∃ us,o=.lst us/\aV K H o1 us
theorem AcL.kp {K:FG_} {D:Addr} {H H':Hp} {o1:List Dt} {o:HO} (k:Kp H H'):AcL K D H o1 o->AcL K D H' o1 o:=fun ⟨us,e,r⟩=>⟨us,e,r.kp k⟩
def aiQ (fe:Ev->Option Bx):Ev->Option (List Dt):=fun ρ=>(fe ρ).bind aeb
theorem abk {n:Nat} (h:PV X elt fe):abh X (fun D env=>do let _ <-call (.builtin "list.append") [.ref D,<-eval elt env]) (aiQ fe) (AcL X.K) 100000 n:=by
 refine aec fun pins s σ H Hb ρ D o o1 ys I En ee hD ⟨us,e,r4⟩ hl=>?_
 subst e
 obtain⟨b,eb,ee⟩:=bind_some ee
 obtain⟨y,rfl,rfl⟩:=Mf ee
 refine zb (ZT (h pins s σ H (fun v H9=>Same H H9/\Rep X.K H9 y v) I ⟨Hb,ρ,_,En,eb,fun v H9 s9 _ r9=>⟨s9,r9⟩⟩) (fun v s9 h9=>?_) fun _ _ z=>z)
 obtain⟨v',H9,I9,rv,s89,r9⟩:=h9
 have hD9:=s89 _ _ hD
 refine zb (ZT ((LK (X:=X)) _ s9 σ H9 (.ref D) [v'] (.ref D) [v] (fun w H10=>H10=upd H9 D (.lst (us++[v']))) I9 rfl (.cons rv .nil) ⟨_,us,v',rfl,rfl,hD9,by rw[r4.length];have h0:(100000:Nat) < sizeLine:=(by decide);simp at hl;omega,rfl⟩) (fun w s10 h10=>?_) fun _ _ z=>z)
 obtain⟨w',H10,I10,_,rfl⟩:=h10
 have kp:Kp H9 (upd H9 D (.lst (us++[v']))):=.lst hD9
 exact zh ⟨H9,_,I10,s89,kp,us++[v'],rfl,((r4.kp (.of s89)).append (aV.cons r9 aV.nil)).kp kp⟩
theorem Qg {pins:List (Addr×Obj)} {σ:L2.St} {H2:Hp} {s2:Shared} {it:Addr} {fp:List Addr} {tn:Nat->Heap->Prop} {J:It} {ds out:List Dt} {ρ:Ev} {RR:Value->Addr->Result->Shared->Prop} {E:VP_}
  (O:Bc X scope cl xs is) (hcalm:X.calm=true)
  (Wq:∀ C s₀ H₀ fp,PTg (Tg X (xs++ts) scope cl C s₀ H₀ fp) tgt gt) (hif:∀ C s₀ H₀ fp,Tests (Tg X (xs++ts) scope cl C s₀ H₀ fp) ifs p) (helt:∀ C s₀ H₀ fp,PV (Tg X (xs++ts) scope cl C s₀ H₀ fp) elt fe) (htk:TgK is.length (is.length+ts.length) gt)
  (I2:L2.Inv X pins σ H2 s2) (Ec:bT X.K H2 H2 (Ei is σ++List.replicate ts.length none) (sV is ρ++List.replicate ts.length none)) (T:Turn X.prog X.w X.K tgt J fp it tn) (st:tn 0 s2.heap) (hf:∀ b∈fp,yw X pins H2 b) (Y:Yields X.K J ds H2)
  (hlen:ds.length<=100000) (hout:Ma gt p fe (sV is ρ++List.replicate ts.length none) ds=some out)
  (hRR:∀ (D C:Addr) (s':Shared) (H':Hp) (us:List V),H2 D=none->L2.Inv X pins σ H' s'->yw X pins H' C->(∃ m,s'.heap.Ns C m)->Same H2 H'->H' D=some (.lst us)->aV X.K H' out us->RR (.ref D) C (.ok .next) s') :
  wpAny (model X.prog X.w) X.A (newList []) (fun acc s₃=>wpAny (model X.prog X.w) X.A (newFunctionEnv scope X.env.globals cl [] X.env.qual none .none (some X.env)) (fun cenv s₄=>
   codeAny (model X.prog X.w) X.A (.compStart (.ListComp elt [⟨tgt,iter,ifs,0⟩] scope pos) 0 (.ref it) acc { cenv with scope:=relabel scope X.env }) (RR acc cenv.locals) s₄) E s₃) E s2:=
 Wr (Ac:=AcL X.K) (O0:=.lst []) (N:=100000) O hcalm Wq hif (fun C s₀ H₀ fp=>abk (helt C s₀ H₀ fp)) htk (Nat.le_add_right ..) I2 Ec T st hf Y hout (zv (Ej hout) hlen) (fun D C s' H' o a b c d e f g=>by obtain⟨us,rfl,r⟩:=g;exact hRR D C s' H' us a b c d e f r)
  QQ (fun _=>⟨QN _,[],0,.nil,ZN _ rfl⟩) (fun _=>⟨[],rfl,aV.nil⟩) AcL.kp (fun _ _ _=>rfl) codeAny_compStart_list fun h=>h
end
def iC (K:FG_) (f:Ev->Option (List Dt)):TI:=fun σ H R=>∃ H0 ρ ds,bT K H0 H σ ρ/\f ρ=some ds/\∀ J H',Same H H'->Yields K J ds H'->R J H'
def PIC (X:Cx) (tg iter:Expr) (f:Ev->Option (List Dt)):Prop:=PI X tg iter (iC X.K f)
structure QIC (X:Cx) (tg iter:Expr) (f:Ev->Option (List Dt)):Prop where
 run:PIC X tg iter f
def Ws:Bx->Option (List Dt)
 |.z (.lst ds)=>some ds
 |.z (.tup ds)=>some ds
 |.z (.str x)=>some (signs x)
 |.o ds=>some ds
 |.l ds=>some ds
 |_=>none
section
variable {X:Cx} {e elt tgt iter:Expr} {es ifs:List Expr} {f:Ev->Option Bx} {fs:Ev->Option (List Bx)} {scope:Scope} {cl:List (Str×Addr)} {pos:Pos} {xs ts:LS_} {is:List Nat} {gt:Dt->Ev->Option Ev} {p:Ev->Option Bool} {fe:Ev->Option Bx} {fi:Ev->Option (List Dt)}
theorem oG (h:QV X e f):QIC X tgt e (fun ρ=>(f ρ).bind Ws):=⟨have h:=h.run;fun pins s σ H R I q=>by
 refine YS h pins s σ H R I ?_
 obtain⟨H0,ρ,ds,E,e,q⟩:=q
 obtain⟨b,eb,e⟩:=bind_some e
 refine⟨H0,ρ,b,E,eb,fun v H1 s1 n1 r1=>?_⟩
 cases b with
 |z d=>
  cases d with
  |tup ds'=>
   cases e
   simp only[bx,Rep] at r1
   obtain⟨a,vs,rfl,hq,rs⟩:=r1
   exact .inr (.inl ⟨a,rfl,⟨vs,hq⟩,q _ _ s1 (.tup hq rs)⟩)
  |lst ds'=>
   cases e
   obtain⟨a,vs,rfl,hq,rs⟩:=r1.LR rfl
   exact .inl ⟨a,rfl,⟨vs,hq⟩,q _ _ s1 (.list hq rs)⟩
  |str x=>
   cases e
   simp only[bx,Rep] at r1
   obtain⟨rfl,_⟩:=r1
   exact .inr (.inr ⟨x,rfl,q _ _ s1 (.str x)⟩)
  |_=>cases e
 |l ds'=>
  cases e
  obtain⟨a,vs,rfl,hq,rs⟩:=r1.LR rfl
  exact .inl ⟨a,rfl,⟨vs,hq⟩,q _ _ s1 (.list hq rs)⟩
 |o ds'=>
  cases e
  obtain⟨a,vs,rfl,hq,rs⟩:=r1.LR rfl
  exact .inl ⟨a,rfl,⟨vs,hq⟩,q _ _ s1 (.list hq rs)⟩
 |n _=>cases e
 |m _ _=>cases e⟩
def oZ (fi:Ev->Option (List Dt)) (gt:Dt->Ev->Option Ev) (p:Ev->Option Bool) (fe:Ev->Option Bx) (is:List Nat) (n:Nat):Ev->Option Bx:=fun ρ=>(fi ρ).bind fun ds=>
 if ds.length<=100000 then (Ma gt p fe (sV is ρ++List.replicate n none) ds).bind fun out=>some (.o out) else none
theorem pY (ts:LS_) (O:Bc X scope cl xs is) (hcalm:X.calm=true) (hi:QIC X tgt iter fi) (Wq:∀ C s₀ H₀ fp,QTg (Tg X (xs++ts) scope cl C s₀ H₀ fp) tgt gt) (hif:∀ C s₀ H₀ fp,Tj (Tg X (xs++ts) scope cl C s₀ H₀ fp) ifs p) (helt:∀ C s₀ H₀ fp,QV (Tg X (xs++ts) scope cl C s₀ H₀ fp) elt fe) (htk:TgK is.length (is.length+ts.length) gt) (hs:∀ x,foldedSetIterable iter X.env x=pure x:=by intro _;rfl):QV X (.ListComp elt [⟨tgt,iter,ifs,0⟩] scope pos) (oZ fi gt p fe is ts.length):=⟨have hi:=hi.run;have Wq:=fun C s₀ H₀ fp=>(Wq C s₀ H₀ fp).run;have hif:=fun C s₀ H₀ fp=>(hif C s₀ H₀ fp).run;have helt:=fun C s₀ H₀ fp=>(helt C s₀ H₀ fp).run;fun pins s σ H Q I h=>by
 obtain⟨H0,ρ,b,E,e,q⟩:=h
 obtain⟨ds,ed,e⟩:=bind_some e
 split at e
 ·rename_i hlen
  obtain⟨out,eo,e⟩:=bind_some e
  cases e
  rw[eval_ListComp]
  refine wpAny_comprehension_free (use:=none) rfl hs O.clos O.kind O.names ?_
  refine jy (hi pins s σ H (fun J H'=>Same H H'/\Yields X.K J ds H') I ⟨H0,ρ,ds,E,ed,fun J H' s' y=>⟨s',y⟩⟩) fun v s1 h1=>jy h1 fun itv s2 h2=>?_
  obtain⟨it,fp,tn,J,H2,rfl,I2,T,st,hf,s12,Y⟩:=h2
  refine Qg (RR:=fun acc C=>compPost (model X.prog X.w) X.A X.xe none (EP X pins σ Q) acc C) (ts:=ts) (xs:=xs) O hcalm Wq hif helt htk I2 ((E.grow s12).caps is ts.length) T st hf Y hlen eo ?_
  intro D C s' H' us hD I' fC ⟨m,hn⟩ s2' hD' r'
  refine⟨m,hn,fun h' sb=>⟨.ref D,H',?_,rfl,q _ _ (s12.trans s2') (fun a ea=>by cases ea;exact s12.free hD) ⟨D,us,rfl,hD',r'⟩⟩⟩
  obtain⟨f0,f1,f2,f3,f4,f5⟩:=fC
  exact I'.turned (t':=s'.toks) (fun b o hb e=>(sb.2 b hb).trans e) f0 f1 f3 f4 f5
 ·cases e⟩
theorem abl (i:Nat) {y:Str} {py spos:Pos} (ts:LS_) (O:Bc X scope cl xs is) (hcalm:X.calm=true) (hN:X.N.Nodup) (hi:QIC X tgt iter fi) (Wq:∀ C s₀ H₀ fp,QTg (Tg X (xs++ts) scope cl C s₀ H₀ fp) tgt gt) (hif:∀ C s₀ H₀ fp,Tj (Tg X (xs++ts) scope cl C s₀ H₀ fp) ifs p) (helt:∀ C s₀ H₀ fp,QV (Tg X (xs++ts) scope cl C s₀ H₀ fp) elt fe) (htk:TgK is.length (is.length+ts.length) gt) (hsw:swapsWith (.ListComp elt [⟨tgt,iter,ifs,0⟩] scope pos) (some (.Name y py)) spos.line X.env=pure true:=by with_unfolding_all rfl) (hy:X.N[i]?=some y:=by rfl) (hx:Loc X.env.scope y:=by first|exact Or.inl rfl|exact ka rfl) (hf:X.fn y=true\/X.env.scope.names.lookup y=some .local:=by first|exact .inl rfl|exact .inr rfl) (hs:∀ x,foldedSetIterable iter X.env x=pure x:=by intro _;rfl):YJ X (.Assign [.Name y py] (.ListComp elt [⟨tgt,iter,ifs,0⟩] scope pos) spos) (fun ρ=>(oZ fi gt p fe is ts.length ρ).bind fun b=>(YL ρ i b).bind fun ρ'=>some (.nx ρ')):=⟨have hi:=hi.run;have Wq:=fun C s₀ H₀ fp=>(Wq C s₀ H₀ fp).run;have hif:=fun C s₀ H₀ fp=>(hif C s₀ H₀ fp).run;have helt:=fun C s₀ H₀ fp=>(helt C s₀ H₀ fp).run;fun pins s σ H D I h=>by
 obtain⟨H0,ρ,r,E,e,q⟩:=h
 obtain⟨b,eb,e⟩:=bind_some e
 obtain⟨ds,ed,eb⟩:=bind_some eb
 split at eb
 ·rename_i hlen
  obtain⟨out,eo,eb⟩:=bind_some eb
  cases eb
  cases e
  rw[exec_Assign_Name_used _ _ _ _ hsw]
  refine zb (ke (zb ?_))
  show wpAny _ X.A (do let _ <-comprehension (.ListComp elt [⟨tgt,iter,ifs,0⟩] scope pos) scope X.env _ (newList []) false (eval iter X.env) (some (assign (.Name y py) X.env))) _ _ s
  refine zb (ZT (wpAny_comprehension_free (use:=some (assign (.Name y py) X.env)) (Q:=fun _ s'=>SP X pins D .next s') rfl hs O.clos O.kind O.names ?_) (fun _ s' hq=>zh (zh hq)) fun _ _ e=>e)
  refine jy (hi pins s σ H (fun J H'=>Same H H'/\Yields X.K J ds H') I ⟨H0,ρ,ds,E,ed,fun J H' s' y=>⟨s',y⟩⟩) fun v s1 h1=>jy h1 fun itv s2 h2=>?_
  obtain⟨it,fp,tn,J,H2,rfl,I2,T,st,hf',s12,Y⟩:=h2
  refine Qg (RR:=fun acc C=>compPost (model X.prog X.w) X.A X.xe (some (assign (.Name y py) X.env)) (fun _ s'=>SP X pins D .next s') acc C) (ts:=ts) (xs:=xs) O hcalm Wq hif helt htk I2 ((E.grow s12).caps is ts.length) T st hf' Y hlen eo ?_
  intro Da C s' H' us hD I' fC ⟨m,hn⟩ s2' hD' r'
  show wpAny _ X.A (assign (.Name y py) X.env (.ref Da)) _ _ s'
  obtain⟨f0,f1,f2,f3,f4,f5⟩:=fC
  obtain⟨oC,es',ep,hoC,hdC,hrest⟩:=id hn
  have I'':L2.Inv X (pins++[(C,oC)]) σ H' s':=I'.G9 fun pp hp=>by
   rcases List.mem_append.mp hp with z|z
   ·exact I'.pin pp (ZE _ z)
   ·have:pp=(C,oC):=by simpa using z
    subst this
    exact⟨hoC,f0,f1,f2,fun v z=>by rw[hdC] at z;cases z⟩
  refine jy (L2.Uz hN hy hx hf (pins++[(C,oC)]) s' σ H' (.ref Da) (.ref Da) (fun σ' H''=>σ'=σ.set i (some (.ref Da))/\H''=H') I'' rfl ⟨rfl,rfl⟩) fun _ s'' ⟨σ',H'',J',e1,e2⟩=>?_
  subst e1 e2
  have hC':=(J'.pin (C,oC) (by simp)).1
  refine⟨m,⟨oC,es',ep,hC',hdC,hrest⟩,fun h' sb=>?_⟩
  refine⟨σ.set i (some (.ref Da)),H'',J'.yF.turned (t':=s''.toks) (fun b o hb e=>(sb.2 b hb).trans e) f0 f1 f3 f4 f5,q _ _ ?_⟩
  exact E.set (s12.trans s2') (b:=.o out) ⟨Da,us,rfl,hD',r'⟩ (.inl rfl) fun a ea=>by cases ea;exact s12.free hD
 ·cases eb⟩
def lend:Bx->Bx
 |.o ds=>.l ds
 |.m ds _=>.n ds
 |b=>b
def isO:Bx->Bool
 |.o _=>true
 |.m _ _=>true
 |_=>false
def jA (K:FG_) (n:Nat) (F:List Bx->Option Bx):Sp:=fun vs H Q _=>vs.length=n/\∃ bs r,wZ K H bs vs/\bs.all (fun b=>!isO b)=true/\F bs=some r/\∀ v H',Same H H'->Nw H r v->bx K H' r v->Q v H'
def eF (n:Nat) (g:Ev->Option Out):List Bx->Option Bx:=fun bs=>(g (bs.map some++List.replicate (n - bs.length) none)).bind fun r=>match r with
 |.rt b=>some b
 |.nx _=>some (.z .non)
 |_=>none
theorem bT.start {K:FG_} {H:Hp} {N:LS_} {bs:List Bx} {vs:List V} (r:wZ K H bs vs) (ho:bs.all (fun b=>!isO b)=true):bT K H H (L2.start N vs) (bs.map some++List.replicate (N.length - bs.length) none):=by
 have hl:bs.length=vs.length:=Paired.length r
 have get:∀ (i:Nat) b,(bs.map some++List.replicate (N.length - bs.length) none)[i]?=some (some b)->bs[i]?=some b:=fun i b e=>by
  by_cases hi:i < bs.length
  ·rw[ZY (by simpa using hi),Z3] at e
   cases q:bs[i]? with
   |none=>rw[q] at e;cases e
   |some b'=>rw[q] at e;simpa using e
  ·rw[qi (by simp;omega),qB] at e
   split at e<;>cases e
 have noO:∀ (i:Nat) c,(bs.map some++List.replicate (N.length - bs.length) none)[i]?=some (some c)->Ca c=true->False:=fun i c e ec=>by
  have:=List.all_eq_true.mp ho _ (ki (get i _ e))
  cases c with
  |o ds=>cases this
  |m ds _=>cases this
  |_=>cases ec
 refine⟨?_,fun i b e=>?_,fun i j c a b e ec=>(noO i c e ec).elim,Same.refl H,fun i c a e ec=>(noO i c e ec).elim⟩
 ·unfold L2.start
  simp[hl]
 ·have e':=get i b e
  have hi:i < bs.length:=(List.getElem?_eq_some_iff.mp e').1
  have:∀ {bs:List Bx} {vs:List V} {i:Nat} {b:Bx},Paired (bx K H) bs vs->bs[i]?=some b->∃ v,vs[i]?=some v/\bx K H b v:=by
   intro bs vs i b r
   induction r generalizing i with
   |nil=>intro e;simp at e
   |cons p t ih=>
    intro e
    cases i with
    |zero=>simp at e;subst e;exact⟨_,rfl,p⟩
    |succ i=>obtain⟨v,e1,e2⟩:=ih (i:=i) (by simpa using e);exact⟨v,by simpa using e1,e2⟩
  obtain⟨v,e1,e2⟩:=this r e'
  refine⟨v,?_,e2⟩
  unfold L2.start
  rw[ZY (by simp;omega),Z3,e1]
  rfl
end
section
variable {P:Program} {w:World} {K:FG_} {mg:Str->Option Value} {base:Heap}
theorem aiU {x qual:Str} {st:Stmt} {f:Addr} {fd:FuncData} {N ps:LS_} {k:Nat} {g:Ev->Option Out} (F:qK K x qual st f fd) (S:bf N ps (aK st))
  (hbody:∀ (cdv:Value) (A:Around) (outer:List Env) (s:Shared) (H:Hp) (E:XK),jU k (A.deeper (envOfC qual (aK st) s.heap.objs.size f cdv))->Yg (Bb gO P w K mg base N qual (aK st) f cdv A outer s H E).Ss (jR st) g) :
  bF P w K mg base gO (k+1) f fd ps (jA K ps.length (eF N.length g)):=by
 refine F.ok S (fun vs H Q E h=>h.1) fun cdv A outer s H vs Q E hr h=>?_
 obtain⟨hl,bs,r,rb,ho,e,q⟩:=h
 refine⟨_,hbody cdv A outer s H E hr,?_⟩
 obtain⟨r',er,e⟩:=bind_some e
 refine⟨H,_,r',bT.start rb ho,er,?_⟩
 cases r' with
 |rt b=>cases e;exact fun v H' s' n' r'=>q v H' s' n' r'
 |nx ρ=>cases e;exact fun σ H' E'=>q _ H' E'.base trivial (by unfold bx Rep;rfl)
 |bk ρ=>cases e
 |ct ρ=>cases e
end
section
variable {X:Cx} {k:Nat} {f:Addr} {fd:FuncData} {ps:LS_} {F:List Bx->Option Bx} {x:Str} {p pos:Pos} {e:Expr} {es:List Expr} {fs:Ev->Option (List Bx)} {n:Nat}
theorem Ii {K:FG_} {H:Hp}:∀ {bs:List Bx} {vs:List V},wZ K H bs vs->wZ K H (bs.map lend) vs
 |_,_,.nil=>.nil
 |b::bs,_,.cons h t=>by
  refine .cons ?_ (Ii t)
  cases b with
  |z d=>exact h
  |l ds=>exact h
  |o ds=>obtain⟨a,vs,e,q,r⟩:=h;exact⟨a,vs,e,.inl q,r⟩
  |n ds=>exact h
  |m ds _=>obtain⟨a,vs,e,q,r⟩:=h;exact⟨a,vs,e,.inl q,r.1⟩
theorem N5:∀ bs:List Bx,(bs.map lend).all (fun b=>!isO b)=true
 |[]=>rfl
 |b::bs=>by
  rw[zz,j3,N5 bs]
  cases b<;>rfl
def bO (n:Nat) (F:List Bx->Option Bx) (fs:Ev->Option (List Bx)):Ev->Option Bx:=fun ρ=>(fs ρ).bind fun bs=>if bs.length=n then F (bs.map lend) else none
theorem aW (G:bF X.prog X.w X.K X.mg X.base gO k f fd ps (jA X.K n F)) (hr:jU k X.A) (hg:Gl X x) (hm:X.mg x=some (.ref f)) (hk:PySem.W.keepIn X.K (.ref f)=true) (hb:Binds X.K fd ps []) (ha:U5 X (e::es) fs) (hdb:(x==("__debug__" : Str))=false:=by decide) (he:starEach (e::es) X.env=(false,eval e X.env)::starEach es X.env:=by rfl) (hpl:(backTo pos (starEach es X.env)).any (·.1)=false:=by rfl):QV X (.Call (.Name x p) (e::es) [] pos) (bO n F fs):=⟨have ha:=ha.run;HX (UG G hr hg hm hk hb .nil (af7) ha hdb he hpl) fun σ H Q h=>by
 obtain⟨H0,ρ,r,E,e,q⟩:=h
 obtain⟨bs,eb,e⟩:=bind_some e
 refine⟨H0,ρ,bs,E,eb,fun vs H1 s1 r1=>?_⟩
 split at e
 ·rename_i hn
  rw[qV]
  exact⟨by rw[<-Paired.length r1];exact hn,_,r,Ii r1,N5 bs,e,fun v H2 s2 n2 r2=>q v H2 (s1.trans s2) (n2.old s1) r2⟩
 ·cases e⟩
end
end P1
end
section
namespace P1
open PySem PySem.Spec PyProof.Rows L2 SeqAt
open AutoSeq1 (wpAny_loadPart')
def KD (h:Heap) (a:Addr):Prop:=∃ o ep,h.get? a=some o/\o.ExactDict/\o.data=.dict #[] ep
section
variable {A:Around} {s:Shared} {a b:Addr}
theorem Cq {P:Program} {w:World} {kvs:List (Key×V)} {h:Heap} {vs:List (Key×Value)} (q:kvs=[]) (r:KV kvs vs) (d:h.DictOf (pW P w) a vs):KD h a:=by
 subst q
 cases r
 obtain⟨o,es,ep,h1,h2,h3,_,h5,_⟩:=d
 have:es=#[]:=by
  have:=h5.length
  apply Array.eq_empty_of_size_eq_zero
  simpa using this
 subst this
 exact⟨o,ep,h1,h2,h3⟩
theorem KD.dict (P:Program) (w:World) {h:Heap} (x:KD h a):h.DictOf (strKind P w) a []:=by
 obtain⟨o,ep,h1,h2,h3⟩:=x
 exact⟨o,#[],ep,h1,h2,h3,fun e he=>by simp at he,.nil,List.nodup_nil⟩
theorem acM (ha:(a==sysModules)=false) (hb:(b==sysModules)=false) (da:KD s.heap a) (db:KD s.heap b) (hu:A.units < cLine):RcAt A s (.ref a) (.ref b) true:=fun prog w E Q h=>
 PySem.W.keq_eq (knd:=strKind prog w) ha hb (da.dict prog w) (db.dict prog w) hu (fun _=>.nil) h
theorem agh (ha:(a==sysModules)=false) (hb:(b==sysModules)=false) (da:KD s.heap a) (db:KD s.heap b) (hu:A.units < cLine):RcNeAt A s (.ref a) (.ref b) false:=fun prog w E Q h=>
 PySem.W.keq_ne (r:=true) (knd:=strKind prog w) ha hb (da.dict prog w) (db.dict prog w) hu (fun _=>.nil) h
theorem Qh (o:Obj) (b:Str) (u:Tok):Meets (Builtin.«dict.__eq__» ⟨[.ref a,.str b u],[]⟩) (fun _ R s=>(s.heap.get? a=some o/\o.cls=.type "dict")/\R (.ok (.ret .notImplemented)) s):=
 .of_wp fun prog w A R s h=>by
  have ht:s.TypeIs (.ref a) "dict" := ⟨o,h.1.1,h.1.2⟩
  show wpAny _ _ (Builtin.Dict.dictSlotArgs "__eq__" ⟨[.ref a,.str b u],[]⟩ >>= _) _ _ s
  refine zb ?_
  unfold Builtin.Dict.dictSlotArgs
  refine zb (wpAny_notOrdered_dict ht ?_)
  show wpAny _ _ (pure (Value.ref a,Value.str b u)) _ _ s
  refine zh ?_
  refine zb (wpAny_isInstance (T := "str") (typeIs_str s b u) PySem.F.sub_str_dict ?_)
  simp only[kA,Qb]
  refine zb (wpAny_rule ?_)
  exact zh ⟨_,rfl,h.2⟩
theorem Qi (b:Str) (u:Tok) (es:Array DictEntry) (ep:Nat) (dd:Option Addr) (sl:Array (Option Value)):Meets (Builtin.«str.__eq__» ⟨[.str b u,.ref a],[]⟩) (fun _ R s=>s.heap.get? a=some { cls:=.type "dict", dict:=dd,data:=.dict es ep,slots:=sl }/\R (.ok (.ret .notImplemented)) s):=
 .of_wp fun prog w A R s h=>by obtain⟨hp,g,d,tk,os⟩:=s;obtain⟨hl,h⟩:=h;wp_walk using wpAny_loadPart' hl,wpAny_load hl;exact⟨_,rfl,h⟩
theorem Mg (x:Str) (t:Tok) (d:KD s.heap a) (hu:A.units < cLine):RcAt A s (.str x t) (.ref a) false:=fun prog w E Q h=>by
 obtain⟨⟨cls,dd,data,sl⟩,ep,ho,⟨hc,hd,hs⟩,he⟩:=d
 simp only at hc he
 subst hc he
 exact rc_eq_decline_or (k:=false) (typeIs_str s x t) ⟨_,ho,rfl⟩ (by decide) PySem.F.sub_dict_str PySem.F.slot_str_eq PySem.F.slot_dict_eq_refl
  (fun _ hq=>call_meets PySem.F.slot_str_eq (typeIs_str s x t) PySem.F.entry_str_eq (PySem.F.args_str_eq_2 _ _) (Qi x t #[] ep dd sl) ⟨ho,hq⟩)
  (fun _ hq=>call_meets PySem.F.slot_dict_eq_refl ⟨_,ho,rfl⟩ PySem.F.entry_dict_eq (PySem.F.args_dict_eq_2 _ _) (Qh _ x t) ⟨⟨ho,rfl⟩,hq⟩)
  (fun _ hq=>wpAny_of_eq (rfl:isSame (.str x t) (.ref a)=pure false) hq) (.inr hu) h
theorem Qj (o:Obj) (b:Str) (u:Tok):Meets (Builtin.«dict.__ne__» ⟨[.ref a,.str b u],[]⟩) (fun _ R s=>(s.heap.get? a=some o/\o.cls=.type "dict")/\R (.ok (.ret .notImplemented)) s):=
 .of_wp fun prog w A R s h=>by
  have ht:s.TypeIs (.ref a) "dict" := ⟨o,h.1.1,h.1.2⟩
  show wpAny _ _ (Builtin.Dict.dictSlotArgs "__ne__" ⟨[.ref a,.str b u],[]⟩ >>= _) _ _ s
  refine zb ?_
  unfold Builtin.Dict.dictSlotArgs
  refine zb (wpAny_notOrdered_dict ht ?_)
  show wpAny _ _ (pure (Value.ref a,Value.str b u)) _ _ s
  refine zh ?_
  refine zb (wpAny_isInstance (T := "str") (typeIs_str s b u) PySem.F.sub_str_dict ?_)
  simp only[kA,Qb]
  refine zb (wpAny_rule ?_)
  exact zh ⟨_,rfl,h.2⟩
theorem Qk (b:Str) (u:Tok) (es:Array DictEntry) (ep:Nat) (dd:Option Addr) (sl:Array (Option Value)):Meets (Builtin.«str.__ne__» ⟨[.str b u,.ref a],[]⟩) (fun _ R s=>s.heap.get? a=some { cls:=.type "dict", dict:=dd,data:=.dict es ep,slots:=sl }/\R (.ok (.ret .notImplemented)) s):=
 .of_wp fun prog w A R s h=>by obtain⟨hp,g,d,tk,os⟩:=s;obtain⟨hl,h⟩:=h;wp_walk using wpAny_loadPart' hl,wpAny_load hl;exact⟨_,rfl,h⟩
theorem Wt (x:Str) (t:Tok) (d:KD s.heap a) (hu:A.units < cLine):RcNeAt A s (.str x t) (.ref a) true:=fun prog w E Q h=>by
 obtain⟨⟨cls,dd,data,sl⟩,ep,ho,⟨hc,hd,hs⟩,he⟩:=d
 simp only at hc he
 subst hc he
 exact rc_ne_decline_or (k:=false) (typeIs_str s x t) ⟨_,ho,rfl⟩ (by decide) PySem.F.sub_dict_str PySem.F.slot_str_ne PySem.F.slot_dict_ne_refl
  (fun _ hq=>call_meets PySem.F.slot_str_ne (typeIs_str s x t) PySem.F.entry_str_ne (PySem.F.args_str_ne_2 _ _) (Qk x t #[] ep dd sl) ⟨ho,hq⟩)
  (fun _ hq=>call_meets PySem.F.slot_dict_ne_refl ⟨_,ho,rfl⟩ PySem.F.entry_dict_ne (PySem.F.args_dict_ne_2 _ _) (Qj _ x t) ⟨⟨ho,rfl⟩,hq⟩)
  (fun _ hq=>wpAny_of_eq (rfl:isSame (.str x t) (.ref a)=pure false) hq) (.inr hu) h
theorem Wu (x:Str) (t:Tok) (d:KD s.heap a) (hu:A.units < cLine):EqAt A s (.str x t) (.ref a) false:=fun prog w E Q h=>by
 unfold eqBool
 refine jS ?_
 refine wpAny_ite_split (fun hab=>absurd (eq_of_beq hab) nofun) (fun _=>?_)
 exact zb (Mg x t d hu prog w E _ (ZZ h))
end
mutual
def uO:Dt->Nat
 |.tup xs=>qY xs+1
 |.lst xs=>qY xs+1
 |_=>1
def qY:List Dt->Nat
 |[]=>0
 |d::ds=>max (uO d) (qY ds)
end
mutual
def uy:Dt->Dt->Option Bool
 |.non,.non=>some true
 |.non,.bl _=>some false|.non,.int _=>some false|.non,.str _=>some false|.non,.tup _=>some false|.non,.lst _=>some false
 |.bl a,.bl b=>some (a==b)
 |.bl a,.int b=>some ((if a then 1 else 0)==b)
 |.bl _,.non=>some false|.bl _,.str _=>some false|.bl _,.tup _=>some false|.bl _,.lst _=>some false
 |.int a,.int b=>some (a==b)
 |.int a,.bl b=>some (a==(if b then 1 else 0))
 |.int _,.non=>some false|.int _,.str _=>some false|.int _,.tup _=>some false|.int _,.lst _=>some false
 |.str a,.str b=>some (a==b)
 |.str _,.non=>some false|.str _,.bl _=>some false|.str _,.int _=>some false|.str _,.tup _=>some false|.str _,.lst _=>some false|.str _,.emp=>some false
 |.tup xs,.tup ys=>lZ xs ys
 |.tup _,.non=>some false|.tup _,.bl _=>some false|.tup _,.int _=>some false|.tup _,.str _=>some false|.tup _,.lst _=>some false
 |.lst xs,.lst ys=>lZ xs ys
 |.emp,.emp=>some true
 |.lst _,.non=>some false|.lst _,.bl _=>some false|.lst _,.int _=>some false|.lst _,.str _=>some false|.lst _,.tup _=>some false
 |_,_=>none
def lZ:List Dt->List Dt->Option Bool
 |[],[]=>some true
 |[],_::_=>some false
 |_::_,[]=>some false
 |x::xs,y::ys=>match uy x y with
  |some b=>match lZ xs ys with
   |some c=>some (b&&c)
   |none=>none
  |none=>none
end
mutual
theorem Ql:∀ {d:Dt} {k:Bool},uy d d=some k->k=true
 |.non,_,e=>by cases e;rfl
 |.bl b,_,e=>by cases e;simp
 |.int b,_,e=>by cases e;simp
 |.str b,_,e=>by cases e;simp
 |.tup xs,_,e=>Ek (ds:=xs) e
 |.lst xs,_,e=>Ek (ds:=xs) e
 |.emp,_,e=>by cases e;rfl
theorem Ek:∀ {ds:List Dt} {k:Bool},lZ ds ds=some k->k=true
 |[],_,e=>by simp only[lZ] at e;cases e;rfl
 |d::ds,_,e=>by
  simp only[lZ] at e
  cases h:uy d d with
  |none=>rw[h] at e;cases e
  |some b=>
   rw[h] at e
   simp only at e
   cases h2:lZ ds ds with
   |none=>rw[h2] at e;cases e
   |some c=>
    rw[h2] at e
    cases e
    rw[Ql h,Ek h2]
    rfl
end
theorem Hq (xs ys:List Dt):uy (.tup xs) (.tup ys)=lZ xs ys:=rfl
theorem yI:∀ {xs ys:List Dt} {k:Bool},lZ xs ys=some k->∃ e:Nat->Bool,(∀ (j:Nat) x y,xs[j]?=some x->ys[j]?=some y->uy x y=some (e j))/\k=((List.range (min xs.length ys.length)).all e&&xs.length==ys.length)
 |[],[],k,h=>by simp only[lZ] at h;cases h;exact⟨fun _=>true,fun j x y e=>by simp at e,by simp⟩
 |[],y::ys,k,h=>by simp only[lZ] at h;cases h;exact⟨fun _=>true,fun j x y e=>by simp at e,by simp⟩
 |x::xs,[],k,h=>by simp only[lZ] at h;cases h;exact⟨fun _=>true,fun j x y _ e=>by simp at e,by simp⟩
 |x::xs,y::ys,k,h=>by
  simp only[lZ] at h
  cases h1:uy x y with
  |none=>rw[h1] at h;cases h
  |some b=>
   rw[h1] at h
   simp only at h
   cases h2:lZ xs ys with
   |none=>rw[h2] at h;cases h
   |some c=>
    rw[h2] at h
    cases h
    obtain⟨e,g,hc⟩:=yI h2
    refine⟨fun j=>match j with|0=>b|j+1=>e j,fun j u v eu ev=>?_,?_⟩
    ·cases j with
     |zero=>simp at eu ev;subst eu ev;exact h1
     |succ j=>exact g j u v (by simpa using eu) (by simpa using ev)
    ·have:min (x::xs).length (y::ys).length=min xs.length ys.length+1:=by simp only[Qr];omega
     rw[this,List.range_succ_eq_map,j3,List.all_map,hc]
     have hb:((x::xs).length==(y::ys).length)=(xs.length==ys.length):=by
      rw[Bool.eq_iff_iff];simp
     rw[hb,Bool.and_assoc]
     rfl
theorem yJ:∀ {ds:List Dt} {j:Nat} {d:Dt},ds[j]?=some d->uO d<=qY ds
 |[],_,_,e=>by simp at e
 |d::ds,0,_,e=>by simp at e;subst e;simp only[qY];exact Nat.le_max_left _ _
 |d::ds,j+1,_,e=>by
  simp only[qY]
  exact zv (yJ (ds:=ds) (j:=j) (by simpa using e)) (Nat.le_max_right _ _)
section
variable {X:Cx} {pins:List (Addr×Obj)} {σ:L2.St} {H:Hp} {s:Shared}
theorem Hr (I:L2.Inv X pins σ H s) {a:Addr} {vs:List V} (h:Bv X.K H a vs):∃ ob,s.heap.get? a=some ob/\ob.cls=.type "tuple" := by
 obtain⟨its,_,⟨ob,e,c,_⟩,_⟩:=I.tuple h
 exact⟨ob,e,c⟩
theorem Ht (I:L2.Inv X pins σ H s) {a:Addr} {vs:List V} (h:uQ X.K H a vs):∃ ob,s.heap.get? a=some ob/\ob.cls=.type "list" := by
 obtain⟨its,_,⟨ob,n,e,c,_⟩,_⟩:=I.list h
 exact⟨ob,e,c⟩
theorem sX (I:L2.Inv X pins σ H s) {a:Addr} {o:Obj} (h:H a=some (.BK o (.dK []))):∃ ob,s.heap.get? a=some ob/\ob.cls=.type "dict" := by
 obtain⟨e,_,_,vs,_,ob,es,ep,e2,ex,_⟩:=I.hok a _ h
 exact⟨ob,e2,ex.1⟩
theorem El {a:Addr} {n m:String} (h:∃ ob,s.heap.get? a=some ob/\ob.cls=.type n) (q:∃ ob,s.heap.get? a=some ob/\ob.cls=.type m) (hn:n≠m):False:=by
 obtain⟨o,e,c⟩:=h
 obtain⟨o',e',c'⟩:=q
 rw[e] at e';cases e'
 rw[c] at c'
 exact hn (by injection c')
mutual
theorem Rep.inj (I:L2.Inv X pins σ H s):∀ {d e:Dt} {v:V},Rep X.K H d v->Rep X.K H e v->d=e
 |.non,e,v,h,q=>by
  simp only[Rep] at h;subst h
  cases e<;>simp only[Rep] at q<;>first|rfl|(cases q;done)|(obtain⟨a,b,z,_⟩:=q;cases z;done)|(obtain⟨z,_⟩:=q;cases z;done)
 |.bl _,e,v,h,q=>by
  simp only[Rep] at h;subst h
  cases e<;>simp only[Rep] at q<;>first|(cases q;rfl)|(cases q;done)|(obtain⟨a,b,z,_⟩:=q;cases z;done)|(obtain⟨z,_⟩:=q;cases z;done)
 |.int _,e,v,h,q=>by
  simp only[Rep] at h;subst h
  cases e<;>simp only[Rep] at q<;>first|(cases q;rfl)|(cases q;done)|(obtain⟨a,b,z,_⟩:=q;cases z;done)|(obtain⟨z,_⟩:=q;cases z;done)
 |.str x,e,v,h,q=>by
  simp only[Rep] at h
  have hv:v=.str x:=h.1
  subst hv
  cases e with
  |str y=>
   simp only[Rep] at q
   have z:V.str x=V.str y:=q.1
   injection z with z
   rw[z]
  |tup es=>simp only[Rep] at q;obtain⟨a,b,z,_⟩:=q;cases z
  |lst es=>simp only[Rep] at q;obtain⟨a,b,z,_⟩:=q;cases z
  |emp=>simp only[Rep] at q;obtain⟨a,b,z,_⟩:=q;cases z
  |_=>simp only[Rep] at q;cases q
 |.tup ds,e,v,h,q=>by
  simp only[Rep] at h
  obtain⟨a,vs,rfl,sq,r⟩:=h
  cases e with
  |tup es=>
   simp only[Rep] at q
   obtain⟨b,us,z,Tn,r'⟩:=q
   cases z
   have:=I.Ls sq Tn
   subst this
   rw[aV.inj I r r']
  |lst es=>
   simp only[Rep] at q
   obtain⟨b,us,z,Tn,r'⟩:=q
   cases z
   exact (El (Hr I sq) (Ht I Tn.sq) (by decide)).elim
  |emp=>
   simp only[Rep] at q
   obtain⟨b,o,z,Tn⟩:=q
   cases z
   exact (El (Hr I sq) (sX I Tn) (by decide)).elim
  |str x=>simp only[Rep] at q;have z:=q.1;cases z
  |_=>simp only[Rep] at q;cases q
 |.lst ds,e,v,h,q=>by
  simp only[Rep] at h
  obtain⟨a,vs,rfl,sq,r⟩:=h
  cases e with
  |lst es=>
   simp only[Rep] at q
   obtain⟨b,us,z,Tn,r'⟩:=q
   cases z
   have:=I.HJ sq.sq Tn.sq
   subst this
   rw[aV.inj I r r']
  |tup es=>
   simp only[Rep] at q
   obtain⟨b,us,z,Tn,r'⟩:=q
   cases z
   exact (El (Ht I sq.sq) (Hr I Tn) (by decide)).elim
  |emp=>
   simp only[Rep] at q
   obtain⟨b,o,z,Tn⟩:=q
   cases z
   exact (El (Ht I sq.sq) (sX I Tn) (by decide)).elim
  |str x=>simp only[Rep] at q;have z:=q.1;cases z
  |_=>simp only[Rep] at q;cases q
 |.emp,e,v,h,q=>by
  simp only[Rep] at h
  obtain⟨a,o,rfl,sq⟩:=h
  cases e with
  |emp=>rfl
  |tup es=>
   simp only[Rep] at q
   obtain⟨b,us,z,Tn,r'⟩:=q
   cases z
   exact (El (sX I sq) (Hr I Tn) (by decide)).elim
  |lst es=>
   simp only[Rep] at q
   obtain⟨b,us,z,Tn,r'⟩:=q
   cases z
   exact (El (sX I sq) (Ht I Tn.sq) (by decide)).elim
  |str x=>simp only[Rep] at q;have z:=q.1;cases z
  |_=>simp only[Rep] at q;cases q
theorem aV.inj (I:L2.Inv X pins σ H s):∀ {ds es:List Dt} {vs:List V},aV X.K H ds vs->aV X.K H es vs->ds=es
 |[],es,vs,h,q=>by
  simp only[aV] at h;subst h
  cases es with
  |nil=>rfl
  |cons e es=>simp only[aV] at q;obtain⟨_,_,z,_⟩:=q;cases z
 |d::ds,es,vs,h,q=>by
  simp only[aV] at h
  obtain⟨v,r,rfl,h1,h2⟩:=h
  cases es with
  |nil=>simp only[aV] at q;cases q
  |cons e es=>
   simp only[aV] at q
   obtain⟨v',r',z,q1,q2⟩:=q
   cases z
   rw[Rep.inj I h1 q1,aV.inj I h2 q2]
end
theorem U8 (I:L2.Inv X pins σ H s):∀ (n:Nat) {A:Around} {d e:Dt} {x y:V} {u v:Value} {k:Bool},min (uO d) (uO e)<=n->A.units+n < cLine->Rep X.K H d x->Rep X.K H e y->RelV x u->RelV y v->uy d e=some k->EqAt A s u v k:=by
 intro n
 induction n with
 |zero=>
  intro A d e x y u v k hn
  have h1:1<=uO d:=by cases d<;>simp only[uO]<;>omega
  have h2:1<=uO e:=by cases e<;>simp only[uO]<;>omega
  omega
 |succ n ih=>
  intro A d e x y u v k hn hA rd re ru rv ek
  have hu:A.units < cLine:=by omega
  by_cases hxy:u=v/\∃ a,u=.ref a
  ·obtain⟨rfl,a,rfl⟩:=hxy
   have hx:x=.ref a:=by have:=ru.abs;simpa [adA] using this.symm
   have hy:y=.ref a:=by have:=rv.abs;simpa [adA] using this.symm
   subst hx hy
   have:=Rep.inj I rd re
   subst this
   rw[Ql ek]
   exact EqAt.same _
  ·have items:∀ {ds es:List Dt} {vs us:List V} {its its2:List Value} {f:Nat->Bool},min (qY ds) (qY es)<=n->aV X.K H ds vs->aV X.K H es us->Vals vs its->Vals us its2->(∀ (j:Nat) x y,ds[j]?=some x->es[j]?=some y->uy x y=some (f j)) →
     ∀ j (h1:j < its.toArray.size) (h2:j < its2.toArray.size),EqAt A.in1 s its.toArray[j] its2.toArray[j] (f j):=by
    intro ds es vs us its its2 f hm r1 r2 w1 w2 hf j h1 h2
    have l1:=w1.length
    have l2:=w2.length
    have l3:=r1.length
    have l4:=r2.length
    have j1:j < its.length:=by simpa using h1
    have j2:j < its2.length:=by simpa using h2
    have d1:ds[j]?=some ds[j]:=by simp
    have d2:es[j]?=some es[j]:=by simp
    obtain⟨a,ea,ra⟩:=r1.get d1
    obtain⟨b,eb,rb⟩:=r2.get d2
    obtain⟨p,ep,rp⟩:=w1.get ea
    obtain⟨q,eq,rq⟩:=w2.get eb
    have e1:its.toArray[j]=p:=by simpa [j1] using ep
    have e2:its2.toArray[j]=q:=by simpa [j2] using eq
    rw[e1,e2]
    have m1:=yJ d1
    have m2:=yJ d2
    exact ih (by omega) (by rw[units_in1];omega) ra rb rp rq (hf j _ _ d1 d2)
   cases d with
   |non=>
    cases rd;cases ru
    cases e with
    |non=>cases re;cases rv;cases ek;exact EqAt.same _
    |bl b=>cases re;cases rv;cases ek;exact EqAt.none_bool b
    |int b=>cases re;obtain⟨t,rfl⟩:=rv;cases ek;exact EqAt.none_int b t
    |str b=>obtain⟨rfl,_⟩:=re;obtain⟨t,rfl⟩:=rv;cases ek;exact EqAt.none_str b t
    |tup es=>obtain⟨b,us,rfl,sq,_⟩:=re;cases rv;cases ek;obtain⟨_,_,p,_⟩:=I.tuple sq;exact EqAt.none_tuple p hu
    |lst es=>obtain⟨b,us,rfl,sq,_⟩:=re;cases rv;cases ek;obtain⟨_,_,p,_⟩:=I.list sq.sq;exact EqAt.none_list p.isList hu
    |emp=>cases ek
   |bl a=>
    cases rd;cases ru
    cases e with
    |non=>cases re;cases rv;cases ek;exact EqAt.bool_none a
    |bl b=>cases re;cases rv;cases ek;exact EqAt.bool_bool a b
    |int b=>cases re;obtain⟨t,rfl⟩:=rv;cases ek;exact EqAt.bool_int a b t
    |str b=>obtain⟨rfl,_⟩:=re;obtain⟨t,rfl⟩:=rv;cases ek;exact EqAt.bool_str a b t
    |tup es=>obtain⟨b,us,rfl,sq,_⟩:=re;cases rv;cases ek;obtain⟨_,_,p,_⟩:=I.tuple sq;exact EqAt.bool_tuple a p hu
    |lst es=>obtain⟨b,us,rfl,sq,_⟩:=re;cases rv;cases ek;obtain⟨_,_,p,_⟩:=I.list sq.sq;exact EqAt.bool_list a p.isList hu
    |emp=>cases ek
   |int a=>
    cases rd;obtain⟨t',rfl⟩:=ru
    cases e with
    |non=>cases re;cases rv;cases ek;exact EqAt.int_none a t'
    |bl b=>cases re;cases rv;cases ek;exact EqAt.int_bool a t' b
    |int b=>cases re;obtain⟨t,rfl⟩:=rv;cases ek;exact EqAt.int_int a t' b t
    |str b=>obtain⟨rfl,_⟩:=re;obtain⟨t,rfl⟩:=rv;cases ek;exact EqAt.int_str a t' b t
    |tup es=>obtain⟨b,us,rfl,sq,_⟩:=re;cases rv;cases ek;obtain⟨_,_,p,_⟩:=I.tuple sq;exact EqAt.int_tuple a t' p hu
    |lst es=>obtain⟨b,us,rfl,sq,_⟩:=re;cases rv;cases ek;obtain⟨_,_,p,_⟩:=I.list sq.sq;exact EqAt.int_list a t' p.isList hu
    |emp=>cases ek
   |str a=>
    obtain⟨rfl,_⟩:=rd;obtain⟨t',rfl⟩:=ru
    cases e with
    |non=>cases re;cases rv;cases ek;exact EqAt.str_none a t'
    |bl b=>cases re;cases rv;cases ek;exact EqAt.str_bool a t' b
    |int b=>cases re;obtain⟨t,rfl⟩:=rv;cases ek;exact EqAt.str_int a t' b t
    |str b=>obtain⟨rfl,_⟩:=re;obtain⟨t,rfl⟩:=rv;cases ek;exact EqAt.str_str a t' b t
    |tup es=>obtain⟨b,us,rfl,sq,_⟩:=re;cases rv;cases ek;obtain⟨_,_,p,_⟩:=I.tuple sq;exact EqAt.str_tuple a t' p hu
    |lst es=>obtain⟨b,us,rfl,sq,_⟩:=re;cases rv;cases ek;obtain⟨_,_,p,_⟩:=I.list sq.sq;exact EqAt.str_list a t' p.isList hu
    |emp=>
     simp only[Rep] at re
     obtain⟨p,o,rfl,e⟩:=re;cases rv;cases ek
     obtain⟨_,_,vs,r,q⟩:=LQ I.hok (.inr ⟨o,e⟩)
     exact Wu a t' (Cq rfl r q) hu
   |tup ds=>
    obtain⟨a,vs,rfl,sa,ra⟩:=rd;cases ru
    obtain⟨its,wv,p,_⟩:=I.tuple sa
    cases e with
    |non=>cases re;cases rv;cases ek;exact EqAt.tuple_none p hu
    |bl b=>cases re;cases rv;cases ek;exact EqAt.tuple_bool b p hu
    |int b=>cases re;obtain⟨t,rfl⟩:=rv;cases ek;exact EqAt.tuple_int b t p hu
    |str b=>obtain⟨rfl,_⟩:=re;obtain⟨t,rfl⟩:=rv;cases ek;exact EqAt.tuple_str b t p hu
    |lst es=>obtain⟨b,us,rfl,sq,_⟩:=re;cases rv;cases ek;obtain⟨_,_,p2,_⟩:=I.list sq.sq;exact EqAt.tuple_list p p2.isList hu
    |tup es=>
     obtain⟨b,us,rfl,sb,rb⟩:=re;cases rv
     obtain⟨its2,wu,p2,_⟩:=I.tuple sb
     change lZ _ _=some _ at ek
     obtain⟨f,hf,rfl⟩:=yI ek
     have hne:a≠b:=fun z=>hxy ⟨by rw[z],a,rfl⟩
     have z:=EqAt.of_refs hne (RcAt.tuples (A:=A) (e:=f) p p2 hu (items (by simp only[uO] at hn;omega) ra rb wv wu hf))
     have q1:its.toArray.size=ds.length:=by rw[zr,<-wv.length,ra.length]
     have q2:its2.toArray.size=es.length:=by rw[zr,<-wu.length,rb.length]
     rw[q1,q2] at z
     exact z
    |emp=>cases ek
   |lst ds=>
    obtain⟨a,vs,rfl,sa,ra⟩:=rd;cases ru
    obtain⟨its,wv,p,_⟩:=I.list sa.sq
    cases e with
    |non=>cases re;cases rv;cases ek;exact EqAt.list_none p.isList hu
    |bl b=>cases re;cases rv;cases ek;exact EqAt.list_bool b p.isList hu
    |int b=>cases re;obtain⟨t,rfl⟩:=rv;cases ek;exact EqAt.list_int b t p.isList hu
    |str b=>obtain⟨rfl,_⟩:=re;obtain⟨t,rfl⟩:=rv;cases ek;exact EqAt.list_str b t p.isList hu
    |tup es=>obtain⟨b,us,rfl,sq,_⟩:=re;cases rv;cases ek;obtain⟨_,_,p2,_⟩:=I.tuple sq;exact EqAt.list_tuple p.isList p2 hu
    |lst es=>
     obtain⟨b,us,rfl,sb,rb⟩:=re;cases rv
     obtain⟨its2,wu,p2,_⟩:=I.list sb.sq
     change lZ _ _=some _ at ek
     obtain⟨f,hf,rfl⟩:=yI ek
     have hne:a≠b:=fun z=>hxy ⟨by rw[z],a,rfl⟩
     have q1:its.toArray.size=ds.length:=by rw[zr,<-wv.length,ra.length]
     have q2:its2.toArray.size=es.length:=by rw[zr,<-wu.length,rb.length]
     by_cases hsz:its.toArray.size=its2.toArray.size
     ·have z:=EqAt.of_refs hne (RcAt.lists (A:=A) (e:=f) p.isList p2.isList hsz hu (items (by simp only[uO] at hn;omega) ra rb wv wu hf))
      have hl:ds.length=es.length:=by omega
      rw[q1] at z
      rw[hl,Nat.min_self,beq_self_eq_true,kg,<-hl]
      exact z
     ·have hl:(ds.length==es.length)=false:=by rw[beq_eq_false_iff_ne];omega
      rw[hl,kB]
      exact EqAt.of_refs hne (RcAt.lists_lengths p.isList p2.isList (by simpa using hsz) hu)
    |emp=>cases ek
   |emp=>
    cases e<;>first|(cases ek;done)|skip
    simp only[Rep] at rd re
    obtain⟨a,o,rfl,e1⟩:=rd
    obtain⟨b,o',rfl,e2⟩:=re
    cases ru;cases rv;cases ek
    obtain⟨_,m1,vs,r,q⟩:=LQ I.hok (.inr ⟨o,e1⟩)
    obtain⟨_,m2,vs',r',q'⟩:=LQ I.hok (.inr ⟨o',e2⟩)
    exact EqAt.of_refs (fun z=>hxy ⟨by rw[z],a,rfl⟩) (acM m1 m2 (Cq rfl r q) (Cq rfl r' q') hu)
theorem Qm (I:L2.Inv X pins σ H s) {n:Nat} {A:Around} {ds es:List Dt} {vs us:List V} {its its2:List Value} {f:Nat->Bool} (hm:min (qY ds) (qY es)<=n) (hA:A.units+n+1 < cLine) (r1:aV X.K H ds vs) (r2:aV X.K H es us) (w1:Vals vs its) (w2:Vals us its2)
  (hf:∀ (j:Nat) x y,ds[j]?=some x->es[j]?=some y->uy x y=some (f j)):∀ j (h1:j < its.toArray.size) (h2:j < its2.toArray.size),EqAt A.in1 s its.toArray[j] its2.toArray[j] (f j):=by
 intro j h1 h2
 have l1:=w1.length
 have l2:=w2.length
 have l3:=r1.length
 have l4:=r2.length
 have j1:j < its.length:=by simpa using h1
 have j2:j < its2.length:=by simpa using h2
 have d1:ds[j]?=some (ds[j]'(by omega)):=by simp
 have d2:es[j]?=some (es[j]'(by omega)):=by simp
 obtain⟨a,ea,ra⟩:=r1.get d1
 obtain⟨b,eb,rb⟩:=r2.get d2
 obtain⟨p,ep,rp⟩:=w1.get ea
 obtain⟨q,eq,rq⟩:=w2.get eb
 have e1:its.toArray[j]=p:=by simpa [j1] using ep
 have e2:its2.toArray[j]=q:=by simpa [j2] using eq
 rw[e1,e2]
 have m1:=yJ d1
 have m2:=yJ d2
 exact U8 I n (by omega) (by rw[units_in1];omega) ra rb rp rq (hf j _ _ d1 d2)
end
def jP (K:FG_) (H:Hp):Dt->V->Prop
 |.lst ds,v=>∃ a vs,v=.ref a/\uQ K H a vs/\aV K H ds vs
 |d,v=>Rep K H d v
def o8:Bx->Bool
 |.n _=>true
 |.m _ _=>true
 |_=>false
def toD:Bx->Dt
 |.z d=>d
 |.l ds=>.lst ds
 |.o ds=>.lst ds
 |.n _=>.non
 |.m _ _=>.non
theorem bx.toD {K:FG_} {H:Hp} {b:Bx} {v:V} (h:bx K H b v) (hm:o8 b=false):jP K H (toD b) v:=by
 cases b with
 |z d=>
  cases d with
  |lst ds=>exact h.LR rfl
  |_=>exact h
 |l ds=>exact h.LR rfl
 |o ds=>exact h.LR rfl
 |n _=>cases hm
 |m _ _=>cases hm
section
variable {X:Cx} {pins:List (Addr×Obj)} {σ:L2.St} {H:Hp} {s:Shared}
theorem U9 (I:L2.Inv X pins σ H s) {d e:Dt} {x y:V} {u v:Value} {k:Bool} (hm:min (uO d) (uO e)<=100) (hA:X.A.units+100 < cLine) (rd:jP X.K H d x) (re:jP X.K H e y) (ru:RelV x u) (rv:RelV y v) (ek:uy d e=some k):RcAt X.A s u v k/\RcNeAt X.A s u v (!k):=by
 have hu:X.A.units < cLine:=by omega
 cases d with
 |non=>
  cases rd;cases ru
  cases e with
  |non=>
   cases re;cases rv
   cases ek
   exact⟨.none_none,.none_none⟩
  |bl x2=>
   cases re;cases rv
   cases ek
   exact⟨.none_bool x2,.none_bool x2⟩
  |int x2=>
   cases re;obtain⟨t2,rfl⟩:=rv
   cases ek
   exact⟨.none_int x2 t2,.none_int x2 t2⟩
  |str x2=>
   obtain⟨rfl,_⟩:=re;obtain⟨t2,rfl⟩:=rv
   cases ek
   exact⟨.none_str x2 t2,.none_str x2 t2⟩
  |tup x2=>
   obtain⟨a2,vs2,rfl,Ij,Tp⟩:=re;cases rv;obtain⟨its2,w2,p2,_⟩:=I.tuple Ij
   cases ek
   exact⟨.none_tuple p2 hu,.none_tuple p2 hu⟩
  |lst x2=>
   obtain⟨a2,vs2,rfl,Ij,Tp⟩:=re;cases rv;obtain⟨its2,w2,p2,_⟩:=I.list Ij
   cases ek
   exact⟨.none_list p2.isList hu,.none_list p2.isList hu⟩
  |emp=>cases ek
 |bl x1=>
  cases rd;cases ru
  cases e with
  |non=>
   cases re;cases rv
   cases ek
   exact⟨.bool_none x1,.bool_none x1⟩
  |bl x2=>
   cases re;cases rv
   cases ek
   exact⟨.bool_bool x1 x2,.bool_bool x1 x2⟩
  |int x2=>
   cases re;obtain⟨t2,rfl⟩:=rv
   cases ek
   exact⟨.bool_int x1 x2 t2,.bool_int x1 x2 t2⟩
  |str x2=>
   obtain⟨rfl,_⟩:=re;obtain⟨t2,rfl⟩:=rv
   cases ek
   exact⟨.bool_str x1 x2 t2,.bool_str x1 x2 t2⟩
  |tup x2=>
   obtain⟨a2,vs2,rfl,Ij,Tp⟩:=re;cases rv;obtain⟨its2,w2,p2,_⟩:=I.tuple Ij
   cases ek
   exact⟨.bool_tuple x1 p2 hu,.bool_tuple x1 p2 hu⟩
  |lst x2=>
   obtain⟨a2,vs2,rfl,Ij,Tp⟩:=re;cases rv;obtain⟨its2,w2,p2,_⟩:=I.list Ij
   cases ek
   exact⟨.bool_list x1 p2.isList hu,.bool_list x1 p2.isList hu⟩
  |emp=>cases ek
 |int x1=>
  cases rd;obtain⟨t1,rfl⟩:=ru
  cases e with
  |non=>
   cases re;cases rv
   cases ek
   exact⟨.int_none x1 t1,.int_none x1 t1⟩
  |bl x2=>
   cases re;cases rv
   cases ek
   exact⟨.int_bool x1 t1 x2,.int_bool x1 t1 x2⟩
  |int x2=>
   cases re;obtain⟨t2,rfl⟩:=rv
   cases ek
   exact⟨.int_int x1 t1 x2 t2,.int_int x1 t1 x2 t2⟩
  |str x2=>
   obtain⟨rfl,_⟩:=re;obtain⟨t2,rfl⟩:=rv
   cases ek
   exact⟨.int_str x1 t1 x2 t2,.int_str x1 t1 x2 t2⟩
  |tup x2=>
   obtain⟨a2,vs2,rfl,Ij,Tp⟩:=re;cases rv;obtain⟨its2,w2,p2,_⟩:=I.tuple Ij
   cases ek
   exact⟨.int_tuple x1 t1 p2 hu,.int_tuple x1 t1 p2 hu⟩
  |lst x2=>
   obtain⟨a2,vs2,rfl,Ij,Tp⟩:=re;cases rv;obtain⟨its2,w2,p2,_⟩:=I.list Ij
   cases ek
   exact⟨.int_list x1 t1 p2.isList hu,.int_list x1 t1 p2.isList hu⟩
  |emp=>cases ek
 |str x1=>
  obtain⟨rfl,_⟩:=rd;obtain⟨t1,rfl⟩:=ru
  cases e with
  |non=>
   cases re;cases rv
   cases ek
   exact⟨.str_none x1 t1,.str_none x1 t1⟩
  |bl x2=>
   cases re;cases rv
   cases ek
   exact⟨.str_bool x1 t1 x2,.str_bool x1 t1 x2⟩
  |int x2=>
   cases re;obtain⟨t2,rfl⟩:=rv
   cases ek
   exact⟨.str_int x1 t1 x2 t2,.str_int x1 t1 x2 t2⟩
  |str x2=>
   obtain⟨rfl,_⟩:=re;obtain⟨t2,rfl⟩:=rv
   cases ek
   exact⟨.str_str x1 t1 x2 t2,.str_str x1 t1 x2 t2⟩
  |tup x2=>
   obtain⟨a2,vs2,rfl,Ij,Tp⟩:=re;cases rv;obtain⟨its2,w2,p2,_⟩:=I.tuple Ij
   cases ek
   exact⟨.str_tuple x1 t1 p2 hu,.str_tuple x1 t1 p2 hu⟩
  |lst x2=>
   obtain⟨a2,vs2,rfl,Ij,Tp⟩:=re;cases rv;obtain⟨its2,w2,p2,_⟩:=I.list Ij
   cases ek
   exact⟨.str_list x1 t1 p2.isList hu,.str_list x1 t1 p2.isList hu⟩
  |emp=>
   simp only[jP,Rep] at re
   obtain⟨p,o,rfl,e⟩:=re;cases rv;cases ek
   obtain⟨_,_,vs,r,q⟩:=LQ I.hok (.inr ⟨o,e⟩)
   exact⟨Mg x1 t1 (Cq rfl r q) hu,Wt x1 t1 (Cq rfl r q) hu⟩
 |tup x1=>
  obtain⟨a1,vs1,rfl,sq1,rr1⟩:=rd;cases ru;obtain⟨abm,w1,p1,_⟩:=I.tuple sq1
  cases e with
  |non=>
   cases re;cases rv
   cases ek
   exact⟨.tuple_none p1 hu,.tuple_none p1 hu⟩
  |bl x2=>
   cases re;cases rv
   cases ek
   exact⟨.tuple_bool x2 p1 hu,.tuple_bool x2 p1 hu⟩
  |int x2=>
   cases re;obtain⟨t2,rfl⟩:=rv
   cases ek
   exact⟨.tuple_int x2 t2 p1 hu,.tuple_int x2 t2 p1 hu⟩
  |str x2=>
   obtain⟨rfl,_⟩:=re;obtain⟨t2,rfl⟩:=rv
   cases ek
   exact⟨.tuple_str x2 t2 p1 hu,.tuple_str x2 t2 p1 hu⟩
  |tup x2=>
   obtain⟨a2,vs2,rfl,Ij,Tp⟩:=re;cases rv;obtain⟨its2,w2,p2,_⟩:=I.tuple Ij
   change lZ _ _=some _ at ek
   obtain⟨f,hf,rfl⟩:=yI ek
   have q1:abm.toArray.size=x1.length:=by rw[zr,<-w1.length,rr1.length]
   have q2:its2.toArray.size=x2.length:=by rw[zr,<-w2.length,Tp.length]
   have it:=Qm I (n:=99) (A:=X.A) (by simp only[uO] at hm;omega) (by omega) rr1 Tp w1 w2 hf
   rw[<-q1,<-q2]
   exact⟨.tuples p1 p2 hu it,.tuples p1 p2 hu it⟩
  |lst x2=>
   obtain⟨a2,vs2,rfl,Ij,Tp⟩:=re;cases rv;obtain⟨its2,w2,p2,_⟩:=I.list Ij
   cases ek
   exact⟨.tuple_list p1 p2.isList hu,.tuple_list p1 p2.isList hu⟩
  |emp=>cases ek
 |lst x1=>
  obtain⟨a1,vs1,rfl,sq1,rr1⟩:=rd;cases ru;obtain⟨abm,w1,p1,_⟩:=I.list sq1
  cases e with
  |non=>
   cases re;cases rv
   cases ek
   exact⟨.list_none p1.isList hu,.list_none p1.isList hu⟩
  |bl x2=>
   cases re;cases rv
   cases ek
   exact⟨.list_bool x2 p1.isList hu,.list_bool x2 p1.isList hu⟩
  |int x2=>
   cases re;obtain⟨t2,rfl⟩:=rv
   cases ek
   exact⟨.list_int x2 t2 p1.isList hu,.list_int x2 t2 p1.isList hu⟩
  |str x2=>
   obtain⟨rfl,_⟩:=re;obtain⟨t2,rfl⟩:=rv
   cases ek
   exact⟨.list_str x2 t2 p1.isList hu,.list_str x2 t2 p1.isList hu⟩
  |tup x2=>
   obtain⟨a2,vs2,rfl,Ij,Tp⟩:=re;cases rv;obtain⟨its2,w2,p2,_⟩:=I.tuple Ij
   cases ek
   exact⟨.list_tuple p1.isList p2 hu,.list_tuple p1.isList p2 hu⟩
  |lst x2=>
   obtain⟨a2,vs2,rfl,Ij,Tp⟩:=re;cases rv;obtain⟨its2,w2,p2,_⟩:=I.list Ij
   change lZ _ _=some _ at ek
   obtain⟨f,hf,rfl⟩:=yI ek
   have q1:abm.toArray.size=x1.length:=by rw[zr,<-w1.length,rr1.length]
   have q2:its2.toArray.size=x2.length:=by rw[zr,<-w2.length,Tp.length]
   have it:=Qm I (n:=99) (A:=X.A) (by simp only[uO] at hm;omega) (by omega) rr1 Tp w1 w2 hf
   by_cases hsz:abm.toArray.size=its2.toArray.size
   ·have hl:x1.length=x2.length:=by omega
    rw[hl,Nat.min_self,beq_self_eq_true,kg,<-hl,<-q1]
    exact⟨.lists p1.isList p2.isList hsz hu it,.lists p1.isList p2.isList hsz hu it⟩
   ·have hl:(x1.length==x2.length)=false:=by rw[beq_eq_false_iff_ne];omega
    rw[hl,kB]
    exact⟨.lists_lengths p1.isList p2.isList (by simpa using hsz) hu,.lists_lengths p1.isList p2.isList (by simpa using hsz) hu⟩
  |emp=>cases ek
 |emp=>
  cases e<;>first|(cases ek;done)|skip
  simp only[jP,Rep] at rd re
  obtain⟨a,o,rfl,e1⟩:=rd
  obtain⟨b,o',rfl,e2⟩:=re
  cases ru;cases rv;cases ek
  obtain⟨_,m1,vs,r,q⟩:=LQ I.hok (.inr ⟨o,e1⟩)
  obtain⟨_,m2,vs',r',q'⟩:=LQ I.hok (.inr ⟨o',e2⟩)
  exact⟨acM m1 m2 (Cq rfl r q) (Cq rfl r' q') hu,agh m1 m2 (Cq rfl r q) (Cq rfl r' q') hu⟩
def eqB (a b:Bx):Option Bx:=if o8 a=true\/o8 b=true then none else if min (uO (toD a)) (uO (toD b))<=100 then (uy (toD a) (toD b)).bind fun k=>some (.z (.bl k)) else none
def Tq (a b:Bx):Option Bx:=if o8 a=true\/o8 b=true then none else if min (uO (toD a)) (uO (toD b))<=100 then (uy (toD a) (toD b)).bind fun k=>some (.z (.bl (!k))) else none
theorem of_eq (hu:X.A.units+100 < cLine):Kr X (compareOp .Eq) eqB:=by
 intro pins s σ H x y v u Q I rx ry h
 obtain⟨a,b,c,ra,rb,e,q⟩:=h
 unfold eqB at e
 split at e
 ·cases e
 rename_i hz
 have ha:o8 a=false:=by cases h:o8 a with|false=>rfl|true=>exact absurd (.inl h) hz
 have hb:o8 b=false:=by cases h:o8 b with|false=>rfl|true=>exact absurd (.inr h) hz
 split at e
 ·rename_i hm
  obtain⟨k,ek,e⟩:=bind_some e
  cases e
  exact (U9 I hm hu (ra.toD ha) (rb.toD hb) rx ry ek).1 X.prog X.w X.xe _ ⟨.bl k,H,I,rfl,q _ H (Same.refl H) trivial (by unfold bx Rep;rfl)⟩
 ·cases e
theorem Cr (hu:X.A.units+100 < cLine):Kr X (compareOp .NotEq) Tq:=by
 intro pins s σ H x y v u Q I rx ry h
 obtain⟨a,b,c,ra,rb,e,q⟩:=h
 unfold Tq at e
 split at e
 ·cases e
 rename_i hz
 have ha:o8 a=false:=by cases h:o8 a with|false=>rfl|true=>exact absurd (.inl h) hz
 have hb:o8 b=false:=by cases h:o8 b with|false=>rfl|true=>exact absurd (.inr h) hz
 split at e
 ·rename_i hm
  obtain⟨k,ek,e⟩:=bind_some e
  cases e
  exact (U9 I hm hu (ra.toD ha) (rb.toD hb) rx ry ek).2 X.prog X.w X.xe _ ⟨.bl (!k),H,I,rfl,q _ H (Same.refl H) trivial (by unfold bx Rep;rfl)⟩
 ·cases e
theorem Qn {K:FG_} {H:Hp} {i:Int}:bx K H (.z (.int i)) (.int i):=by unfold bx Rep;rfl
theorem Qo {K:FG_} {H:Hp} {b:Bool}:bx K H (.z (.bl b)) (.bl b):=by unfold bx Rep;rfl
theorem abn {K:FG_} {H:Hp} {x:Str} (h:x.length<=sizeLine):bx K H (.z (.str x)) (.str x):=by unfold bx Rep;exact⟨rfl,h⟩
theorem Tr {K:FG_} {H:Hp} {i:Int} {v:V} (h:bx K H (.z (.int i)) v):v=.int i:=by simpa only[bx,Rep] using h
theorem Qp {K:FG_} {H:Hp} {x:Str} {v:V} (h:bx K H (.z (.str x)) v):v=.str x/\x.length<=sizeLine:=by simpa only[bx,Rep] using h
theorem inT {K:FG_} {H:Hp} {ds:List Dt} {v:V} (h:bx K H (.z (.tup ds)) v):∃ a vs,v=.ref a/\Bv K H a vs/\aV K H ds vs:=by simpa only[bx,Rep] using h
def i2 (g:Int->Int->Option Dt):Bx->Bx->Option Bx
 |.z (.int i),.z (.int j)=>(g i j).bind fun d=>some (.z d)
 |_,_=>none
theorem Mh {f:Value->Value->Sem Value} {r:R2} {g:Int->Int->Option Dt} (ho:yG X f r) (h:∀ i j d H Q,g i j=some d->(∀ v,Rep X.K H d v->Q v H)->r (.int i) (.int j) H Q):Kr X f (i2 g):=yG.imp ho fun x y H Q q=>by
 obtain⟨a,b,c,ra,rb,e,q⟩:=q
 unfold i2 at e
 split at e
 ·rename_i i j
  obtain⟨d,ed,e⟩:=bind_some e
  cases e
  rw[Tr ra,Tr rb]
  exact h i j d H Q ed fun v rv=>q v H (Same.refl H) trivial rv
 ·cases e
theorem okI {K:FG_} {H:Hp} {i:Int}:Rep K H (.int i) (.int i):=by unfold Rep;rfl
theorem okT {K:FG_} {H:Hp} {b:Bool}:Rep K H (.bl b) (.bl b):=by unfold Rep;rfl
abbrev leB:=i2 fun i j=>some (.bl (decide (i<=j)))
abbrev gtB:=i2 fun i j=>some (.bl (decide (j < i)))
abbrev geB:=i2 fun i j=>some (.bl (decide (j<=i)))
abbrev uU:=i2 fun i j=>if 0 < j/\j < 1073741824 then some (.int (i / j)) else none
abbrev gP:=i2 fun i j=>if 0 < j then some (.int (i % j)) else none
abbrev abo:=i2 fun i j=>if 0<=j/\j<=1000/\i.natAbs < 2 ^ 64 then some (.int (i ^ j.toNat)) else none
theorem of_le:Kr X (compareOp .LtE) leB:=Mh afS fun i j d H Q e q=>by cases e;exact⟨i,j,rfl,rfl,q _ okT⟩
theorem Va:Kr X (compareOp .Gt) gtB:=Mh afT fun i j d H Q e q=>by cases e;exact⟨i,j,rfl,rfl,q _ okT⟩
theorem agk:Kr X (compareOp .GtE) geB:=Mh afU fun i j d H Q e q=>by cases e;exact⟨i,j,rfl,rfl,q _ okT⟩
theorem pZ:Kr X (binaryOp .FloorDiv) uU:=Mh aaN fun i j d H Q e q=>by
 split at e
 ·rename_i h;cases e;exact⟨i,j,rfl,rfl,h,q _ okI⟩
 ·cases e
theorem cX:Kr X (binaryOp .Mod) gP:=Mh adK fun i j d H Q e q=>by
 split at e
 ·rename_i h;cases e;exact⟨i,j,rfl,rfl,h,q _ okI⟩
 ·cases e
theorem aed:Kr X (binaryOp .Pow) abo:=Mh adL fun i j d H Q e q=>by
 split at e
 ·rename_i h;cases e;exact⟨i,j,rfl,rfl,⟨h.1,by omega,h.2.2⟩,q _ okI⟩
 ·cases e
def Tt:Nat:=1000000
theorem abp:Tt<=sizeLine:=by decide
theorem aee {l b:Addr} {vs us:List V} {Q:VK} (I:L2.Inv X pins σ H s) (hl:uQ X.K H l vs) (hb:uQ X.K H b us) (hz:vs.length+us.length<=sizeLine) (q:∀ p,H p=none->Q (.ref p) (upd H p (.lst (vs++us)))) :
  wpAny (model X.prog X.w) X.A (binaryOp .Add (.ref l) (.ref b)) (EP X pins σ Q) X.xe s:=by
 obtain⟨its,r1,⟨⟨cls,dd,data,sl⟩,n1,e1,c1,d1,dd1⟩,z1⟩:=I.list hl
 obtain⟨its2,r2,⟨⟨cls2,dd2,data2,sl2⟩,n2,e2,c2,d2,Y0⟩,z2⟩:=I.list hb
 simp only at c1 d1 dd1 c2 d2 Y0
 subst c1 d1 dd1 c2 d2 Y0
 have l1:=r1.length
 have l2:=r2.length
 have e:its.toArray++its2.toArray=(its++its2).toArray:=by simp
 refine concat_meets ⟨_,e1,rfl⟩ ⟨_,e2,rfl⟩ noFill_list_add seq_list_add PySem.F.slot_list_add PySem.F.entry_list_add (PySem.F.args_list_add_2 _ _) (list_addW l b its.toArray its2.toArray n1 n2 none none sl sl2 (by rw[zr,zr];omega)) ⟨e1,e2,?_⟩
 rw[e]
 exact⟨.ref s.heap.objs.size,_,I.laid (t':=s.toks) (o:=.lst (vs++us)) (fun b ob q=>ze _ q) (zt _) ⟨by rw[zl];exact hz,_,0,r1.append r2,ZN _ rfl⟩,rfl,q _ (I.hok.fresh (zt _))⟩
theorem aef {l b:Addr} {vs us:List V} {Q:VK} (I:L2.Inv X pins σ H s) (hl:Bv X.K H l vs) (hb:Bv X.K H b us) (hz:vs.length+us.length<=sizeLine) (q0:vs=[]->Q (.ref b) H) (q1:us=[]->Q (.ref l) H) (q2:∀ p,H p=none->Q (.ref p) (upd H p (.tup (vs++us)))) :
  wpAny (model X.prog X.w) X.A (binaryOp .Add (.ref l) (.ref b)) (EP X pins σ Q) X.xe s:=by
 by_cases hv:vs=[]
 ·obtain⟨its,r1,⟨⟨cls,dd,data,sl⟩,e1,c1,n1,dd1⟩,z1⟩:=I.tuple hl
  obtain⟨its2,r2,⟨⟨cls2,dd2,data2,sl2⟩,e2,c2,n2,Y0⟩,z2⟩:=I.tuple hb
  simp only at c1 dd1 c2 Y0
  subst c1 dd1 c2 Y0
  have:its=[]:=r1.Hi.mpr hv
  exact concat_meets ⟨_,e1,rfl⟩ ⟨_,e2,rfl⟩ noFill_tuple_add seq_tuple_add PySem.F.slot_tuple_add kL (kD _ _)
   (tuple_addW0 l b its.toArray its2.toArray n1 n2 dd dd2 sl sl2 (by simp[this])) ⟨e1,e2,⟨.ref b,H,I,rfl,q0 hv⟩⟩
 ·exact aaV pins s σ H (.ref l) (.ref b) (.ref l) (.ref b) Q I rfl rfl ⟨l,b,vs,us,rfl,rfl,hl,hb,hv,hz,q1,fun _=>q2⟩
def bU:Bx->Bx->Option Bx
 |.z (.int i),.z (.int j)=>some (.z (.int (i+j)))
 |.z (.str i),.z (.str j)=>if i.length+j.length<=Tt then some (.z (.str (i++j))) else none
 |.z (.tup xs),.z (.tup ys)=>if xs.length+ys.length<=Tt then some (.z (.tup (xs++ys))) else none
 |a,b=>(yx a).bind fun xs=>(yx b).bind fun ys=>if xs.length+ys.length<=Tt then some (.o (xs++ys)) else none
theorem str_len (i j:Str):(i++j).length=i.length+j.length:=by
 show (i.cps++j.cps).size=_
 rw[Array.size_append];rfl
theorem bh:Kr X (binaryOp .Add) bU:=by
 intro pins s σ H x y v u Q I rx ry h
 obtain⟨a,b,c,ra,rb,e,q⟩:=h
 have hbig:=abp
 unfold bU at e
 split at e
 ·rename_i i j
  cases e
  exact adI pins s σ H x y v u Q I rx ry ⟨i,j,Tr ra,Tr rb,q _ H (Same.refl H) trivial Qn⟩
 ·rename_i i j
  split at e
  ·rename_i hl
   cases e
   exact S5 pins s σ H x y v u Q I rx ry ⟨i,j,(Qp ra).1,(Qp rb).1,by omega,q _ H (Same.refl H) trivial (abn (by rw[str_len];omega))⟩
  ·cases e
 ·rename_i xs ys
  split at e
  ·rename_i hl
   cases e
   obtain⟨l,vs,rfl,sl,rl⟩:=inT ra
   obtain⟨m,us,rfl,sm,rm⟩:=inT rb
   cases rx
   cases ry
   have h1:=rl.length
   have h2:=rm.length
   refine aef I sl sm (by omega) (fun z=>q _ H (Same.refl H) trivial ?_) (fun z=>q _ H (Same.refl H) trivial ?_) fun p hp=>q _ _ (dU hp) trivial ?_
   ·unfold bx Rep
    refine⟨m,us,rfl,sm,?_⟩
    have:xs=[]:=by subst z;exact List.eq_nil_of_length_eq_zero (by simpa using h1.symm)
    rw[this,JA];exact rm
   ·unfold bx Rep
    refine⟨l,vs,rfl,sl,?_⟩
    have:ys=[]:=by subst z;exact List.eq_nil_of_length_eq_zero (by simpa using h2.symm)
    rw[this,qV];exact rl
   ·unfold bx Rep
    exact⟨p,_,rfl,.inl (.inl bK),(rl.append rm).kp (.of (dU hp))⟩
  ·cases e
 ·obtain⟨xs,ea,e⟩:=bind_some e
  obtain⟨ys,eb,e⟩:=bind_some e
  split at e
  ·rename_i hl
   cases e
   obtain⟨l,vs,rfl,sl,rl⟩:=ra.LR ea
   obtain⟨m,us,rfl,sm,rm⟩:=rb.LR eb
   cases rx
   cases ry
   have h1:=rl.length
   have h2:=rm.length
   refine aee I sl sm (by omega) fun p hp=>q _ _ (dU hp) (fun a ea=>by cases ea;exact hp) ⟨p,_,rfl,bK,(rl.append rm).kp (.of (dU hp))⟩
  ·cases e
def yK:Bx->Bx->Option Bx
 |.z (.int i),.z (.int j)=>if (-(2 ^ 64) < i/\i < 2 ^ 64)\/(-(2 ^ 64) < j/\j < 2 ^ 64) then some (.z (.int (i * j))) else none
 |.z (.str x),.z (.int n)=>if n<=1000 ∧ -1000<=n/\x.length<=1000 then some (.z (.str (Txt.mul x n))) else none
 |_,_=>none
theorem z8 (x:Array Nat):∀ (n:Nat) (acc:Array Nat),((List.replicate n x).foldl (·++·) acc).size=acc.size+n * x.size
 |0,acc=>by simp
 |n+1,acc=>by
  rw[List.replicate_succ,List.foldl_cons,z8 x n,Array.size_append,Nat.succ_mul]
  omega
theorem abq (x:Str) (n:Int):(Txt.mul x n).length<=n.toNat * x.length+x.length:=by
 unfold Txt.mul
 split
 ·exact QN _
 ·split
  ·exact Nat.le_add_left _ _
  ·show ((List.replicate n.toNat x.cps).foldl (·++·) #[]).size<=_
   rw[z8]
   show (#[]:Array Nat).size+n.toNat * x.cps.size<=n.toNat * x.cps.size+x.cps.size
   simp
theorem uz:Kr X (binaryOp .Mult) yK:=by
 intro pins s σ H x y v u Q I rx ry h
 obtain⟨a,b,c,ra,rb,e,q⟩:=h
 unfold yK at e
 split at e
 ·rename_i i j
  split at e
  ·rename_i hl
   cases e
   exact adJ pins s σ H x y v u Q I rx ry ⟨i,j,Tr ra,Tr rb,hl,q _ H (Same.refl H) trivial Qn⟩
  ·cases e
 ·rename_i x' n
  split at e
  ·rename_i hl
   cases e
   obtain⟨rfl,hx⟩:=Qp ra
   have hy:=Tr rb
   subst hy
   obtain⟨t,rfl⟩:=rx
   obtain⟨t',rfl⟩:=ry
   have hs:sizeLine=16777216:=sizeLine_eq
   have hm:n.toNat * x'.length<=1000 * 1000:=Nat.mul_le_mul (by omega) hl.2.2
   refine SB.mul ⟨?_,fun h1 h2=>?_,fun h1 h2=>?_⟩ fun t' k=>⟨.str _,H,I.tok _,⟨_,rfl⟩,q _ H (Same.refl H) trivial (abn (zv (abq x' n) (by omega)))⟩
   ·have e1:decide (n < -(2 ^ 63:Int))=false:=ZH (by omega)
    have e2:decide (n>=2 ^ 63)=false:=ZH (by omega)
    rw[e1,e2];rfl
   ·have hn:0 < n:=by omega
    have:(1000:Int)<=(2 ^ 63 - 1) / n:=(Int.le_ediv_iff_mul_le hn).mpr (by omega)
    omega
   ·show decide (x'.length * n.toNat > sizeLine)=false
    rw[Nat.mul_comm]
    exact ZH (by omega)
  ·cases e
 ·cases e
def jX (i j:Str):Bool:=!(Builtin.Str.occurrences j i 0 j.length 1).isEmpty
def Cu:Dt->Bool
 |.non=>true
 |.bl _=>true
 |.int _=>true
 |.str _=>true
 |_=>false
def memD (x:Dt) (ys:List Dt):Option Bool:=if Cu x=true/\ys.all Cu=true then some (ys.any fun y=>match uy y x with|some true=>true|_=>false) else none
def Gq:Bx->Option (List Dt)
 |.z (.lst ds)=>some ds
 |.z (.tup ds)=>some ds
 |.l ds=>some ds
 |.o ds=>some ds
 |_=>none
def inB:Bx->Bx->Option Bool
 |.z (.str i),.z (.str j)=>some (jX i j)
 |.z d,b=>(Gq b).bind fun ys=>memD d ys
 |_,_=>none
def inF (a b:Bx):Option Bx:=(inB a b).bind fun k=>some (.z (.bl k))
theorem Qq {K:FG_} {H:Hp} {d:Dt} {v:V} (r:Rep K H d v) (f:Cu d=true):wY v=true:=by
 cases d<;>first|(cases f;done)|skip
 all_goals simp only[Rep] at r
 ·subst r;rfl
 ·subst r;rfl
 ·subst r;rfl
 ·obtain⟨rfl,_⟩:=r;rfl
theorem Mi {K:FG_} {H:Hp}:∀ {ds:List Dt} {vs:List V},aV K H ds vs->ds.all Cu=true->vs.all wY=true
 |[],_,h,_=>by simp only[aV] at h;subst h;rfl
 |d::ds,_,h,f=>by
  simp only[aV] at h
  obtain⟨v,r,rfl,h1,h2⟩:=h
  rw[j3,zi] at f
  rw[j3,Qq h1 f.1,Mi h2 f.2];rfl
theorem N6 (b:Bool):(match some b with|some true=>true|_=>false)=b:=by cases b<;>rfl
theorem abr {K:FG_} {H:Hp} {d e:Dt} {x y:V} (rd:Rep K H d x) (re:Rep K H e y) (fd:Cu d=true) (fe:Cu e=true):Wf x y=(match uy d e with|some true=>true|_=>false):=by
 cases d<;>first|(cases fd;done)|skip
 all_goals (cases e<;>first|(cases fe;done)|skip)
 all_goals simp only[Rep] at rd re
 all_goals first
  |(subst rd;subst re;simp only[Wf,uy,N6])
  |(obtain⟨rfl,_⟩:=rd;subst re;simp only[Wf,uy,N6])
  |(subst rd;obtain⟨rfl,_⟩:=re;simp only[Wf,uy,N6])
  |(obtain⟨rfl,_⟩:=rd;obtain⟨rfl,_⟩:=re;simp only[Wf,uy,N6])
theorem Vb {K:FG_} {H:Hp} {d:Dt} {x:V} (rd:Rep K H d x) (fd:Cu d=true):∀ {ds:List Dt} {vs:List V},aV K H ds vs->ds.all Cu=true->inV x vs=ds.any fun y=>match uy y d with|some true=>true|_=>false
 |[],_,h,_=>by simp only[aV] at h;subst h;rfl
 |e::ds,_,h,f=>by
  simp only[aV] at h
  obtain⟨v,r,rfl,h1,h2⟩:=h
  rw[j3,zi] at f
  have:=Vb rd fd h2 f.2
  unfold inV at this ⊢
  rw[QR,QR,abr h1 rd f.1 fd,this]
theorem Cw {K:FG_} {H:Hp} {b:Bx} {v:V} {ds:List Dt} (h:bx K H b v) (e:Gq b=some ds):∃ a vs,v=.ref a/\(uQ K H a vs\/Bv K H a vs)/\aV K H ds vs:=by
 cases b with
 |z d=>
  cases d<;>first|(cases e;done)|skip
  ·cases e
   obtain⟨a,vs,e,q,r⟩:=inT h
   exact⟨a,vs,e,.inr q,r⟩
  ·cases e
   obtain⟨a,vs,e,q,r⟩:=h.LR rfl
   exact⟨a,vs,e,.inl q,r⟩
 |l ds'=>
  cases e
  obtain⟨a,vs,e,q,r⟩:=h.LR rfl
  exact⟨a,vs,e,.inl q,r⟩
 |o ds'=>
  cases e
  obtain⟨a,vs,e,q,r⟩:=h.LR rfl
  exact⟨a,vs,e,.inl q,r⟩
 |n _=>cases e
 |m _ _=>cases e
theorem Wv {H:Hp} {a b:Bx} {x y:V} {k:Bool} (ra:bx X.K H a x) (rb:bx X.K H b y) (e:inB a b=some k) :
  (∃ i j,x=.str i/\y=.str j/\k=jX i j)\/(∃ p xs,y=.ref p/\(uQ X.K H p xs\/Bv X.K H p xs)/\wY x=true/\xs.all wY=true/\k=inV x xs):=by
 unfold inB at e
 split at e
 ·rename_i i j
  cases e
  exact .inl ⟨i,j,(Qp ra).1,(Qp rb).1,rfl⟩
 ·rename_i d _
  obtain⟨ys,ey,e⟩:=bind_some e
  unfold memD at e
  split at e
  ·rename_i hf
   cases e
   obtain⟨p,vs,rfl,sq,rs⟩:=Cw rb ey
   have ra':Rep X.K H d x:=ra
   exact .inr ⟨p,vs,rfl,sq,Qq ra' hf.1,Mi rs hf.2,(Vb ra' hf.1 rs hf.2).symm⟩
  ·cases e
 ·cases e
theorem Vc:Kr X (compareOp .In) inF:=by
 intro pins s σ H x y v u Q I rx ry h
 obtain⟨a,b,c,ra,rb,e,q⟩:=h
 obtain⟨k,ek,e⟩:=bind_some e
 cases e
 rcases Wv ra rb ek with⟨i,j,rfl,rfl,rfl⟩|⟨p,xs,rfl,sq,f1,f2,rfl⟩
 ·exact Wa pins s σ H _ _ v u Q I rx ry ⟨i,j,rfl,rfl,q _ H (Same.refl H) trivial Qo⟩
 ·exact Wg pins s σ H _ _ v u Q I rx ry ⟨p,xs,rfl,sq,f1,f2,q _ H (Same.refl H) trivial Qo⟩
def Tv:Bx->Bool
 |.z .non=>true
 |_=>false
theorem Ww {K:FG_} {H:Hp} {b:Bx} {v:V} (h:bx K H b v):decide (v=.non)=Tv b:=by
 cases b with
 |z d=>
  cases d<;>simp only[bx,Rep] at h
  ·subst h;rfl
  ·subst h;rfl
  ·subst h;rfl
  ·obtain⟨rfl,_⟩:=h;rfl
  ·obtain⟨_,_,rfl,_⟩:=h;rfl
  ·obtain⟨_,_,rfl,_⟩:=h;rfl
  ·obtain⟨_,_,rfl,_⟩:=h;rfl
 |l ds=>obtain⟨_,_,rfl,_⟩:=h;rfl
 |o ds=>obtain⟨_,_,rfl,_⟩:=h;rfl
 |n ds=>obtain⟨_,_,rfl,_⟩:=h;rfl
 |m ds _=>obtain⟨_,_,rfl,_⟩:=h;rfl
def isB (a:Bx):Bx->Option Bx
 |.z .non=>some (.z (.bl (Tv a)))
 |_=>none
theorem of_is:Kr X (compareOp .Is) isB:=yG.imp adM fun x y H Q q=>by
 obtain⟨a,b,c,ra,rb,e,q⟩:=q
 unfold isB at e
 split at e
 ·cases e
  simp only[bx,Rep] at rb
  exact⟨rb,by rw[Ww ra];exact q _ H (Same.refl H) trivial Qo⟩
 ·cases e
def fK:Bx->Bx->Option Bx
 |.z (.str x),.z (.int i)=>(Hj x.cps.toList i).bind fun c=>some (.z (.str ⟨#[c]⟩))
 |b,.z (.int i)=>(Gq b).bind fun ds=>(Hj ds i).bind fun d=>some (.z d)
 |_,_=>none
theorem abt {K:FG_} {H:Hp} {ds:List Dt} {vs:List V} {i:Int} {d:Dt} (r:aV K H ds vs) (e:Hj ds i=some d):∃ v,Hj vs i=some v/\Rep K H d v:=by
 unfold Hj at e ⊢
 rw[r.length]
 obtain⟨j,ej,e⟩:=bind_some e
 rw[ej]
 exact r.get e
theorem bB {a b:Expr} {fa fb:Ev->Option Bx} {pos:Pos} (ha:QV X a fa) (hb:QV X b fb) (hs:U0 b:=by intro _ _;with_unfolding_all rfl):QV X (.Subscript a b pos) (b2 fK fa fb):=⟨have ha:=ha.run;have hb:=hb.run;HX (af0 adX ha hb hs) fun σ H Q h=>by
 obtain⟨H0,ρ,c,E,e,q⟩:=h
 obtain⟨a,ea,e⟩:=bind_some e
 obtain⟨b,eb,e⟩:=bind_some e
 refine⟨H0,ρ,a,E,ea,fun v H1 s1 n1 r1=>⟨H0,ρ,b,E.grow s1,eb,fun u H2 s2 n2 r2=>?_⟩⟩
 have r1':=r1.same s2
 unfold fK at e
 split at e
 ·rename_i x i
  obtain⟨c',ec,e⟩:=bind_some e
  cases e
  exact .inr (.inr ⟨_,_,c',(Qp r1').1,Tr r2,(Qp r1').2,ec,q _ _ (s1.trans s2) trivial (abn (by show (1:Nat)<=sizeLine;decide))⟩)
 ·obtain⟨ds,ed,e⟩:=bind_some e
  obtain⟨d,ei,e⟩:=bind_some e
  cases e
  obtain⟨p,vs,rfl,sq,rs⟩:=Cw r1' ed
  obtain⟨w,ew,rw'⟩:=abt rs ei
  have hi:=Tr r2
  rcases sq with sq|sq
  ·exact .inl ⟨p,vs,_,w,rfl,hi,sq,ew,q _ _ (s1.trans s2) trivial rw'⟩
  ·exact .inr (.inl ⟨p,vs,_,w,rfl,hi,sq,ew,q _ _ (s1.trans s2) trivial rw'⟩)
 ·cases e⟩
end
theorem abu:bootBuiltins "bool" = some (.type "bool"):=by decide +kernel
theorem Ik:bootBuiltins "int" = some (.type "int"):=by decide +kernel
theorem Tw:bootBuiltins "str" = some (.type "str"):=by decide +kernel
theorem su:bootBuiltins "tuple" = some (.type "tuple"):=by decide +kernel
theorem qb:bootBuiltins "isinstance" = some (.builtin "isinstance"):=by decide +kernel
theorem mj:bootBuiltins "len" = some (.builtin "len"):=by decide +kernel
theorem aeg:bootBuiltins "abs" = some (.builtin "abs"):=by decide +kernel
theorem Il:bootBuiltins "all" = some (.builtin "all"):=by decide +kernel
section
variable {X:Cx} {pins:List (Addr×Obj)} {σ:L2.St} {H:Hp} {s:Shared}
def is_bool:Dt->Bool
 |.bl _=>true
 |_=>false
theorem Qs (I:L2.Inv X pins σ H s) {d:Dt} {x:V} {v:Value} {Q:VK} (rd:jP X.K H d x) (rv:RelV x v) (q:Q (.bl (is_bool d)) H):wpAny (model X.prog X.w) X.A (call (.builtin "isinstance") [v,.type "bool"]) (EP X pins σ Q) X.xe s:=by
 cases d with
 |non=>simp only[jP,Rep] at rd;subst rd;cases rv;exact IsiPair.NoneType_bool ⟨.bl _,H,I.tok _,rfl,q⟩
 |bl b=>simp only[jP,Rep] at rd;subst rd;cases rv;exact IsiPair.bool_bool ⟨.bl _,H,I,rfl,q⟩
 |int b=>simp only[jP,Rep] at rd;subst rd;obtain⟨t,rfl⟩:=rv;exact IsiPair.int_bool ⟨.bl _,H,I.tok _,rfl,q⟩
 |str b=>simp only[jP,Rep] at rd;obtain⟨rfl,_⟩:=rd;obtain⟨t,rfl⟩:=rv;exact IsiPair.str_bool ⟨.bl _,H,I.tok _,rfl,q⟩
 |tup ds=>simp only[jP,Rep] at rd;obtain⟨a,vs,rfl,sq,_⟩:=rd;cases rv;obtain⟨_,_,p,_⟩:=I.tuple sq;exact IsiPair.isTuple_bool p (fun _ _ e=>e) ⟨.bl _,H,I.tok _,rfl,q⟩
 |lst ds=>simp only[jP] at rd;obtain⟨a,vs,rfl,sq,_⟩:=rd;cases rv;obtain⟨_,_,p,_⟩:=I.list sq;exact IsiPair.isList_bool p.isList (fun _ _ e=>e) ⟨.bl _,H,I.tok _,rfl,q⟩
 |emp=>simp only[jP,Rep] at rd;obtain⟨a,o,rfl,sq⟩:=rd;cases rv;obtain⟨ob,e,c⟩:=sX I sq;exact IsiPair.dict_bool e c ⟨.bl _,H,I.tok _,rfl,q⟩
theorem Fz {e:Expr} {f:Ev->Option Bx} {p p2 pos:Pos} (he:QV X e f) (hg:Gl X "isinstance") (hm:X.mg "isinstance" = none) (hg2:Gl X "bool") (hm2:X.mg "bool" = none) (hs:starEach [e,.Name "bool" p2] X.env=[(false,eval e X.env),(false,eval (.Name "bool" p2) X.env)]:=by rfl):QV X (.Call (.Name "isinstance" p) [e,.Name "bool" p2] [] pos) (b1 (fun b=>if o8 b=true then none else some (.z (.bl (is_bool (toD b))))) f):=⟨by
 have he:=he.run
 have hc:jz X (.builtin "isinstance") (fun xs H Q=>∃ b x,xs=[x,.ty "bool"]/\bx X.K H b x/\o8 b=false/\Q (.bl (is_bool (toD b))) H):=by
  intro pins s σ H xs us Q I r h
  obtain⟨b,x,rfl,rb,hmb,q⟩:=h
  obtain⟨u,w',rfl,r1,r2⟩:=vals2 r
  cases r2
  exact Qs I (rb.toD hmb) r1 q
 have ha:PA X [e,.Name "bool" p2] (BP (tF X.K f) (BP (tC (.ty "bool")) Yp)):=cG he (cG (zB hg2 hm2 (v:=.ty "bool") (u:=.type "bool") abu rfl) lX) (by rw[hs]<;>rfl)
 refine HX (oh hc hg hm qb ha (by decide) (by decide) (by rw[hs]<;>rfl) rfl) fun σ H Q h=>?_
 obtain⟨H0,ρ,c,E,e,q⟩:=h
 obtain⟨b,eb,e⟩:=bind_some e
 split at e
 ·cases e
 rename_i hz
 cases e
 exact⟨H0,ρ,b,E,eb,fun v H1 s1 n1 r1=>⟨b,v,rfl,r1,by simpa using hz,q _ _ s1 trivial Qo⟩⟩⟩
def uD:Dt->Bool
 |.bl _=>true
 |.int _=>true
 |_=>false
theorem abv (I:L2.Inv X pins σ H s) {d:Dt} {x:V} {v:Value} {Q:VK} (rd:jP X.K H d x) (rv:RelV x v) (q:Q (.bl (uD d)) H):wpAny (model X.prog X.w) X.A (call (.builtin "isinstance") [v,.type "int"]) (EP X pins σ Q) X.xe s:=by
 cases d with
 |non=>simp only[jP,Rep] at rd;subst rd;cases rv;exact IsiPair.NoneType_int ⟨.bl _,H,I.tok _,rfl,q⟩
 |bl b=>simp only[jP,Rep] at rd;subst rd;cases rv;exact IsiPair.bool_int ⟨.bl _,H,I,rfl,q⟩
 |int b=>simp only[jP,Rep] at rd;subst rd;obtain⟨t,rfl⟩:=rv;exact IsiPair.int_int ⟨.bl _,H,I,rfl,q⟩
 |str b=>simp only[jP,Rep] at rd;obtain⟨rfl,_⟩:=rd;obtain⟨t,rfl⟩:=rv;exact IsiPair.str_int ⟨.bl _,H,I.tok _,rfl,q⟩
 |tup ds=>simp only[jP,Rep] at rd;obtain⟨a,vs,rfl,sq,_⟩:=rd;cases rv;obtain⟨_,_,p,_⟩:=I.tuple sq;exact IsiPair.isTuple_int p (fun _ _ e=>e) ⟨.bl _,H,I.tok _,rfl,q⟩
 |lst ds=>simp only[jP] at rd;obtain⟨a,vs,rfl,sq,_⟩:=rd;cases rv;obtain⟨_,_,p,_⟩:=I.list sq;exact IsiPair.isList_int p.isList (fun _ _ e=>e) ⟨.bl _,H,I.tok _,rfl,q⟩
 |emp=>simp only[jP,Rep] at rd;obtain⟨a,o,rfl,sq⟩:=rd;cases rv;obtain⟨ob,e,c⟩:=sX I sq;exact IsiPair.dict_int e c ⟨.bl _,H,I.tok _,rfl,q⟩
theorem Im {e:Expr} {f:Ev->Option Bx} {p p2 pos:Pos} (he:QV X e f) (hg:Gl X "isinstance") (hm:X.mg "isinstance" = none) (hg2:Gl X "int") (hm2:X.mg "int" = none) (hs:starEach [e,.Name "int" p2] X.env=[(false,eval e X.env),(false,eval (.Name "int" p2) X.env)]:=by rfl):QV X (.Call (.Name "isinstance" p) [e,.Name "int" p2] [] pos) (b1 (fun b=>if o8 b=true then none else some (.z (.bl (uD (toD b))))) f):=⟨by
 have he:=he.run
 have hc:jz X (.builtin "isinstance") (fun xs H Q=>∃ b x,xs=[x,.ty "int"]/\bx X.K H b x/\o8 b=false/\Q (.bl (uD (toD b))) H):=by
  intro pins s σ H xs us Q I r h
  obtain⟨b,x,rfl,rb,hmb,q⟩:=h
  obtain⟨u,w',rfl,r1,r2⟩:=vals2 r
  cases r2
  exact abv I (rb.toD hmb) r1 q
 have ha:PA X [e,.Name "int" p2] (BP (tF X.K f) (BP (tC (.ty "int")) Yp)):=cG he (cG (zB hg2 hm2 (v:=.ty "int") (u:=.type "int") Ik rfl) lX) (by rw[hs]<;>rfl)
 refine HX (oh hc hg hm qb ha (by decide) (by decide) (by rw[hs]<;>rfl) rfl) fun σ H Q h=>?_
 obtain⟨H0,ρ,c,E,e,q⟩:=h
 obtain⟨b,eb,e⟩:=bind_some e
 split at e
 ·cases e
 rename_i hz
 cases e
 exact⟨H0,ρ,b,E,eb,fun v H1 s1 n1 r1=>⟨b,v,rfl,r1,by simpa using hz,q _ _ s1 trivial Qo⟩⟩⟩
def bR:Dt->Bool
 |.str _=>true
 |_=>false
theorem abw (I:L2.Inv X pins σ H s) {d:Dt} {x:V} {v:Value} {Q:VK} (rd:jP X.K H d x) (rv:RelV x v) (q:Q (.bl (bR d)) H):wpAny (model X.prog X.w) X.A (call (.builtin "isinstance") [v,.type "str"]) (EP X pins σ Q) X.xe s:=by
 cases d with
 |non=>simp only[jP,Rep] at rd;subst rd;cases rv;exact IsiPair.NoneType_str ⟨.bl _,H,I.tok _,rfl,q⟩
 |bl b=>simp only[jP,Rep] at rd;subst rd;cases rv;exact IsiPair.bool_str ⟨.bl _,H,I.tok _,rfl,q⟩
 |int b=>simp only[jP,Rep] at rd;subst rd;obtain⟨t,rfl⟩:=rv;exact IsiPair.int_str ⟨.bl _,H,I.tok _,rfl,q⟩
 |str b=>simp only[jP,Rep] at rd;obtain⟨rfl,_⟩:=rd;obtain⟨t,rfl⟩:=rv;exact IsiPair.str_str ⟨.bl _,H,I,rfl,q⟩
 |tup ds=>simp only[jP,Rep] at rd;obtain⟨a,vs,rfl,sq,_⟩:=rd;cases rv;obtain⟨_,_,p,_⟩:=I.tuple sq;exact IsiPair.isTuple_str p (fun _ _ e=>e) ⟨.bl _,H,I.tok _,rfl,q⟩
 |lst ds=>simp only[jP] at rd;obtain⟨a,vs,rfl,sq,_⟩:=rd;cases rv;obtain⟨_,_,p,_⟩:=I.list sq;exact IsiPair.isList_str p.isList (fun _ _ e=>e) ⟨.bl _,H,I.tok _,rfl,q⟩
 |emp=>simp only[jP,Rep] at rd;obtain⟨a,o,rfl,sq⟩:=rd;cases rv;obtain⟨ob,e,c⟩:=sX I sq;exact IsiPair.dict_str e c ⟨.bl _,H,I.tok _,rfl,q⟩
theorem mR {e:Expr} {f:Ev->Option Bx} {p p2 pos:Pos} (he:QV X e f) (hg:Gl X "isinstance") (hm:X.mg "isinstance" = none) (hg2:Gl X "str") (hm2:X.mg "str" = none) (hs:starEach [e,.Name "str" p2] X.env=[(false,eval e X.env),(false,eval (.Name "str" p2) X.env)]:=by rfl):QV X (.Call (.Name "isinstance" p) [e,.Name "str" p2] [] pos) (b1 (fun b=>if o8 b=true then none else some (.z (.bl (bR (toD b))))) f):=⟨by
 have he:=he.run
 have hc:jz X (.builtin "isinstance") (fun xs H Q=>∃ b x,xs=[x,.ty "str"]/\bx X.K H b x/\o8 b=false/\Q (.bl (bR (toD b))) H):=by
  intro pins s σ H xs us Q I r h
  obtain⟨b,x,rfl,rb,hmb,q⟩:=h
  obtain⟨u,w',rfl,r1,r2⟩:=vals2 r
  cases r2
  exact abw I (rb.toD hmb) r1 q
 have ha:PA X [e,.Name "str" p2] (BP (tF X.K f) (BP (tC (.ty "str")) Yp)):=cG he (cG (zB hg2 hm2 (v:=.ty "str") (u:=.type "str") Tw rfl) lX) (by rw[hs]<;>rfl)
 refine HX (oh hc hg hm qb ha (by decide) (by decide) (by rw[hs]<;>rfl) rfl) fun σ H Q h=>?_
 obtain⟨H0,ρ,c,E,e,q⟩:=h
 obtain⟨b,eb,e⟩:=bind_some e
 split at e
 ·cases e
 rename_i hz
 cases e
 exact⟨H0,ρ,b,E,eb,fun v H1 s1 n1 r1=>⟨b,v,rfl,r1,by simpa using hz,q _ _ s1 trivial Qo⟩⟩⟩
def is_tuple:Dt->Bool
 |.tup _=>true
 |_=>false
theorem Wx (I:L2.Inv X pins σ H s) {d:Dt} {x:V} {v:Value} {Q:VK} (rd:jP X.K H d x) (rv:RelV x v) (q:Q (.bl (is_tuple d)) H):wpAny (model X.prog X.w) X.A (call (.builtin "isinstance") [v,.type "tuple"]) (EP X pins σ Q) X.xe s:=by
 cases d with
 |non=>simp only[jP,Rep] at rd;subst rd;cases rv;exact IsiPair.NoneType_tuple ⟨.bl _,H,I.tok _,rfl,q⟩
 |bl b=>simp only[jP,Rep] at rd;subst rd;cases rv;exact IsiPair.bool_tuple ⟨.bl _,H,I.tok _,rfl,q⟩
 |int b=>simp only[jP,Rep] at rd;subst rd;obtain⟨t,rfl⟩:=rv;exact IsiPair.int_tuple ⟨.bl _,H,I.tok _,rfl,q⟩
 |str b=>simp only[jP,Rep] at rd;obtain⟨rfl,_⟩:=rd;obtain⟨t,rfl⟩:=rv;exact IsiPair.str_tuple ⟨.bl _,H,I.tok _,rfl,q⟩
 |tup ds=>simp only[jP,Rep] at rd;obtain⟨a,vs,rfl,sq,_⟩:=rd;cases rv;obtain⟨_,_,p,_⟩:=I.tuple sq;exact IsiPair.isTuple_tuple p (fun _ _ e=>e) ⟨.bl _,H,I,rfl,q⟩
 |lst ds=>simp only[jP] at rd;obtain⟨a,vs,rfl,sq,_⟩:=rd;cases rv;obtain⟨_,_,p,_⟩:=I.list sq;exact IsiPair.isList_tuple p.isList (fun _ _ e=>e) ⟨.bl _,H,I.tok _,rfl,q⟩
 |emp=>simp only[jP,Rep] at rd;obtain⟨a,o,rfl,sq⟩:=rd;cases rv;obtain⟨ob,e,c⟩:=sX I sq;exact IsiPair.dict_tuple e c ⟨.bl _,H,I.tok _,rfl,q⟩
theorem Cy {e:Expr} {f:Ev->Option Bx} {p p2 pos:Pos} (he:QV X e f) (hg:Gl X "isinstance") (hm:X.mg "isinstance" = none) (hg2:Gl X "tuple") (hm2:X.mg "tuple" = none) (hs:starEach [e,.Name "tuple" p2] X.env=[(false,eval e X.env),(false,eval (.Name "tuple" p2) X.env)]:=by rfl):QV X (.Call (.Name "isinstance" p) [e,.Name "tuple" p2] [] pos) (b1 (fun b=>if o8 b=true then none else some (.z (.bl (is_tuple (toD b))))) f):=⟨by
 have he:=he.run
 have hc:jz X (.builtin "isinstance") (fun xs H Q=>∃ b x,xs=[x,.ty "tuple"]/\bx X.K H b x/\o8 b=false/\Q (.bl (is_tuple (toD b))) H):=by
  intro pins s σ H xs us Q I r h
  obtain⟨b,x,rfl,rb,hmb,q⟩:=h
  obtain⟨u,w',rfl,r1,r2⟩:=vals2 r
  cases r2
  exact Wx I (rb.toD hmb) r1 q
 have ha:PA X [e,.Name "tuple" p2] (BP (tF X.K f) (BP (tC (.ty "tuple")) Yp)):=cG he (cG (zB hg2 hm2 (v:=.ty "tuple") (u:=.type "tuple") su rfl) lX) (by rw[hs]<;>rfl)
 refine HX (oh hc hg hm qb ha (by decide) (by decide) (by rw[hs]<;>rfl) rfl) fun σ H Q h=>?_
 obtain⟨H0,ρ,c,E,e,q⟩:=h
 obtain⟨b,eb,e⟩:=bind_some e
 split at e
 ·cases e
 rename_i hz
 cases e
 exact⟨H0,ρ,b,E,eb,fun v H1 s1 n1 r1=>⟨b,v,rfl,r1,by simpa using hz,q _ _ s1 trivial Qo⟩⟩⟩
def tFO (K:FG_) (f:Ev->Option (Option Int)):TO:=fun σ H Q=>∃ H0 ρ o,bT K H0 H σ ρ/\f ρ=some o/\∀ H',Same H H'->Q o H'
def PVo (X:Cx) (e:Option Expr) (f:Ev->Option (Option Int)):Prop:=PO X e (tFO X.K f)
structure QVo (X:Cx) (e:Option Expr) (f:Ev->Option (Option Int)):Prop where
 run:PVo X e f
theorem poM {e:Option Expr} {t t':TO} (h:PO X e t) (m:∀ σ H Q,t' σ H Q->t σ H Q):PO X e t':=fun pins s σ H Q I q=>h pins s σ H Q I (m σ H Q q)
def cM:Ev->Option (Option Int):=fun _=>some none
theorem dD  : QVo X none cM:=⟨poM aaT fun σ H Q h=>by
 obtain⟨H0,ρ,o,E,e,q⟩:=h
 cases e
 exact q H (Same.refl H)⟩
def aeh:Bx->Option (Option Int)
 |.z (.int i)=>some (some i)
 |_=>none
def dN (f:Ev->Option Bx):Ev->Option (Option Int):=fun ρ=>(f ρ).bind aeh
theorem cR {e:Expr} {f:Ev->Option Bx} (h:QV X e f):QVo X (some e) (dN f):=⟨have h:=h.run;poM (aaU h) fun σ H Q q=>by
 obtain⟨H0,ρ,o,E,e,q⟩:=q
 obtain⟨b,eb,e⟩:=bind_some e
 refine⟨H0,ρ,b,E,eb,fun v H1 s1 n1 r1=>?_⟩
 unfold aeh at e
 split at e
 ·rename_i i
  cases e
  exact⟨i,Tr r1,q H1 s1⟩
 ·cases e⟩
def cutD (xs:List Dt) (lo hi:Option Int):List Dt:=(xs.drop (HT.jW xs.length 0 lo)).take (HT.jW xs.length xs.length hi - HT.jW xs.length 0 lo)
theorem Qt {K:FG_} {H:Hp} {ds:List Dt} {vs:List V} (r:aV K H ds vs) (lo hi:Option Int):aV K H (cutD ds lo hi) (PN vs lo hi):=by
 unfold cutD PN
 rw[r.length]
 exact (r.drop _).take _
theorem Y4 (ds:List Dt) {lo hi:Option Int} (h1:HT.jW ds.length 0 lo=0) (h2:HT.jW ds.length ds.length hi=ds.length):cutD ds lo hi=ds:=by
 unfold cutD
 rw[h1,h2]
 simp
theorem Cz {t sl:Addr} {items:Array Value} {vl vu:Value} {lo hi:Option Int} {Q:VP_} {prog:Program} {w:World} {A:Around} {E:VP_} {s:Shared} (ht:IsTup s.heap t items) (hs:s.heap.IsSliceOf sl vl vu .none) (pl:IsPart vl lo) (pu:IsPart vu hi)
  (h1:HT.jW items.size 0 lo=0) (h2:HT.jW items.size items.size hi=items.size)
  (h:Q (.ref t) s):wpAny (model prog w) A (getItem (.ref t) (.ref sl)) Q E s:=by
 obtain⟨os,hos,hcs,hds⟩:=id hs
 have hTs:s.TypeIs (.ref sl) "slice" := ⟨os,hos,hcs⟩
 unfold getItem
 try with_reducible refine jS ?_
 first|refine zb (zh ?_)|skip
 refine zb (wpAny_sequenceKey ht.typeIs (by decide) ?_)
 refine zb (wpAny_callSpecial?_slot (name:=Str.ofString "__getitem__") ht.typeIs PyProof.Rows.slot_tuple_getitem
  (wpAny_call_entry PyProof.Rows.slot_tuple_getitem ht.typeIs entry_tuple_getitem ?_ (args_tuple_getitem _ _)))
 show wpAny _ _ (Builtin.Tuple.tupleItemsOf (.ref t) >>= _) _ _ s
 refine zb (tupleItemsOf_ ht ?_)
 refine zb (kq hTs ?_)
 rw[zo (by decide)]
 refine zb (HT.uR hs pl pu ?_)
 have hyes:(((HT.jW items.size 0 lo:Nat):Int)==0&&(1:Int)==1&&(HT.jW items.size items.size hi - HT.jW items.size 0 lo)==items.size)=true:=by
  rw[h1,h2];simp
 show wpAny _ _ (if (((HT.jW items.size 0 lo:Nat):Int)==0&&(1:Int)==1&&(HT.jW items.size items.size hi - HT.jW items.size 0 lo)==items.size)=true then _ else _) _ _ s
 rw[zo hyes]
 first
  |refine zb (zb (kq ht.typeIs (zh ?_)))
  |refine zb (kq ht.typeIs (zb (zh ?_)))
  |refine zb (kq ht.typeIs ?_)
 rw[zo (by decide)]
 first
  |exact zb (wpAny_rule (zh ⟨_,rfl,zh h⟩))
  |exact zb (wpAny_rule (zb (zh (zh ⟨_,rfl,zh h⟩))))
def slB (b:Bx) (lo hi:Option Int):Option Bx:=match b with
 |.z (.str x)=>some (.z (.str (Txt.slice x lo hi)))
 |.z (.tup ds)=>some (.z (.tup (cutD ds lo hi)))
 |b=>(yx b).bind fun ds=>some (.o (cutD ds lo hi))
def rSl (K:FG_):V->Option Int->Option Int->Hp->VK->Prop:=fun x lo hi H Q=>∃ b c,bx K H b x/\slB b lo hi=some c/\∀ w H',Same H H'->Nw H c w->bx K H' c w->Q w H'
theorem aei:SlR X (rSl X.K):=by
 intro pins s σ H x v vl vu lo hi sl Q I rx hs pl pu h
 obtain⟨b,c,rb,e,q⟩:=h
 unfold slB at e
 split at e
 ·rename_i y
  cases e
  obtain⟨rfl,hy⟩:=Qp rb
  obtain⟨t,rfl⟩:=rx
  refine⟨"str", _,F.slot_str_getitem.lookup,typeIs_str _ _ _,?_⟩
  obtain⟨o,e1,e2,e3⟩:=hs
  have fin:∀ t' k,EP X pins σ Q (.str (Txt.slice y lo hi) t') { s with toks:=k }:=fun t' k=>⟨.str _,H,I.tok _,⟨_,rfl⟩,q _ H (Same.refl H) trivial (abn (zv (Txt.slice_le y _ _) hy))⟩
  cases pl with
  |none=>
   cases pu with
   |none=>exact JP (l:=none) (u:=none) (st:=none) ⟨o,e1,e2,e3⟩ rfl (post_val_or_str ⟨zv (Txt.slice_le y _ _) hy,fin⟩)
   |int j uj=>exact JP (l:=none) (u:=some (j,uj)) (st:=none) ⟨o,e1,e2,e3⟩ rfl (post_val_or_str ⟨zv (Txt.slice_le y _ _) hy,fin⟩)
  |int i ui=>
   cases pu with
   |none=>exact JP (l:=some (i,ui)) (u:=none) (st:=none) ⟨o,e1,e2,e3⟩ rfl (post_val_or_str ⟨zv (Txt.slice_le y _ _) hy,fin⟩)
   |int j uj=>exact JP (l:=some (i,ui)) (u:=some (j,uj)) (st:=none) ⟨o,e1,e2,e3⟩ rfl (post_val_or_str ⟨zv (Txt.slice_le y _ _) hy,fin⟩)
 ·rename_i ds
  cases e
  obtain⟨a,vs,rfl,sq,rs⟩:=inT rb
  by_cases hw:HT.jW vs.length 0 lo=0/\HT.jW vs.length vs.length hi=vs.length
  ·cases rx
   obtain⟨its,r,ht,hz⟩:=I.tuple sq
   have hlen:its.toArray.size=vs.length:=by rw[zr];exact r.length.symm
   refine⟨"tuple", _,PyProof.Rows.slot_tuple_getitem.lookup,ht.typeIs,Cz ht hs pl pu (by rw[hlen];exact hw.1) (by rw[hlen];exact hw.2) ⟨.ref a,H,I,rfl,q _ H (Same.refl H) trivial ?_⟩⟩
   rw[Y4 ds (by rw[<-rs.length];exact hw.1) (by rw[<-rs.length];exact hw.2)]
   exact rb
  ·refine adT pins s σ H _ v vl vu lo hi sl Q I rx hs pl pu ⟨a,vs,rfl,sq,hw,fun p hp=>q _ _ (dU hp) trivial ?_⟩
   unfold bx Rep
   exact⟨p,_,rfl,.inl (.inl bK),(Qt rs lo hi).kp (.of (dU hp))⟩
 ·obtain⟨ds,ed,e⟩:=bind_some e
  cases e
  obtain⟨a,vs,rfl,sq,rs⟩:=rb.LR ed
  exact aaZ pins s σ H _ v vl vu lo hi sl Q I rx hs pl pu ⟨a,vs,rfl,sq,fun p hp=>q _ _ (dU hp) (fun a ea=>by cases ea;exact hp) ⟨p,_,rfl,bK,(Qt rs lo hi).kp (.of (dU hp))⟩⟩
def uE (f:Ev->Option Bx) (fl fh:Ev->Option (Option Int)):Ev->Option Bx:=fun ρ=>(f ρ).bind fun b=>(fl ρ).bind fun lo=>(fh ρ).bind fun hi=>slB b lo hi
theorem lU {e:Expr} {lo hi:Option Expr} {f:Ev->Option Bx} {fl fh:Ev->Option (Option Int)} {p2 pos:Pos} (he:QV X e f) (hl:QVo X lo fl) (hh:QVo X hi fh):QV X (.Subscript e (.Slice lo hi none p2) pos) (uE f fl fh):=⟨have he:=he.run;have hl:=hl.run;have hh:=hh.run;HX (Ys aei he hl hh) fun σ H Q h=>by
 obtain⟨H0,ρ,c,E,e,q⟩:=h
 obtain⟨b,eb,e⟩:=bind_some e
 obtain⟨lo,el,e⟩:=bind_some e
 obtain⟨hi,eh,e⟩:=bind_some e
 refine⟨H0,ρ,b,E,eb,fun v H1 s1 n1 r1=>⟨H0,ρ,lo,E.grow s1,el,fun H2 s2=>⟨H0,ρ,hi,E.grow (s1.trans s2),eh,fun H3 s3=>?_⟩⟩⟩
 have s13:=(s1.trans s2).trans s3
 exact⟨b,c,(r1.same s2).same s3,e,fun w H4 s4 n4 r4=>q w H4 (s13.trans s4) (n4.old s13) r4⟩⟩
def qF:List Bx->Option Bx
 |[.z (.str x)]=>some (.z (.int x.length))
 |[b]=>(Gq b).bind fun ds=>some (.z (.int ds.length))
 |_=>none
theorem rep1 {K:FG_} {H:Hp} {b:Bx} {vs:List V} (r:wZ K H [b] vs):∃ v,vs=[v]/\bx K H b v:=by
 cases r with
 |cons p t=>cases t;exact⟨_,rfl,p⟩
theorem mq:Cd X (.builtin "len") qF:=jz.imp (Nv.or Nx) fun xs H Q q=>by
 obtain⟨bs,c,rb,e,q⟩:=q
 unfold qF at e
 split at e
 ·rename_i x
  cases e
  obtain⟨v,rfl,r1⟩:=rep1 rb
  obtain⟨rfl,hx⟩:=Qp r1
  exact .inr ⟨x,rfl,hx,q _ H (Same.refl H) trivial Qn⟩
 ·obtain⟨ds,ed,e⟩:=bind_some e
  cases e
  obtain⟨v,rfl,r1⟩:=rep1 rb
  obtain⟨p,vs,rfl,sq,rs⟩:=Cw r1 ed
  exact .inl ⟨p,vs,rfl,sq,by rw[rs.length];exact q _ H (Same.refl H) trivial Qn⟩
 ·cases e
def Wy:List Bx->Option Bx
 |[.z (.int i)]=>some (.z (.int (if i < 0 then -i else i)))
 |_=>none
theorem aej:Cd X (.builtin "abs") Wy:=jz.imp Yo fun xs H Q q=>by
 obtain⟨bs,c,rb,e,q⟩:=q
 unfold Wy at e
 split at e
 ·rename_i i
  cases e
  obtain⟨v,rfl,r1⟩:=rep1 rb
  have:=Tr r1
  subst this
  exact⟨i,rfl,q _ H (Same.refl H) trivial Qn⟩
 ·cases e
def Wz:List Bx->Option Bx
 |[.z (.int i)]=>some (.z (.int i))
 |[.z (.bl k)]=>some (.z (.int (if k then 1 else 0)))
 |_=>none
theorem Y5:Cd X (.type "int") Wz:=jz.imp Wb fun xs H Q q=>by
 obtain⟨bs,c,rb,e,q⟩:=q
 unfold Wz at e
 split at e
 ·rename_i i
  cases e
  obtain⟨v,rfl,r1⟩:=rep1 rb
  have:=Tr r1
  subst this
  exact .inl ⟨i,rfl,q _ H (Same.refl H) trivial Qn⟩
 ·rename_i k
  cases e
  obtain⟨v,rfl,r1⟩:=rep1 rb
  simp only[bx,Rep] at r1
  subst r1
  exact .inr ⟨k,rfl,q _ H (Same.refl H) trivial Qn⟩
 ·cases e
def uF:List Bx->Option Bx
 |[b]=>(Gq b).bind fun ds=>some (.z (.tup ds))
 |_=>none
theorem uV:Cd X (.type "tuple") uF:=jz.imp Kz fun xs H Q q=>by
 obtain⟨bs,c,rb,e,q⟩:=q
 unfold uF at e
 split at e
 ·obtain⟨ds,ed,e⟩:=bind_some e
  cases e
  obtain⟨v,rfl,r1⟩:=rep1 rb
  obtain⟨p,vs,rfl,sq,rs⟩:=Cw r1 ed
  refine⟨p,vs,rfl,?_⟩
  rcases sq with sq|sq
  ·refine .inl ⟨sq,fun l hl=>q _ _ (dU hl) trivial ?_⟩
   unfold bx Rep
   exact⟨l,vs,rfl,.inl (.inl bK),rs.kp (.of (dU hl))⟩
  ·refine .inr ⟨sq,q _ H (Same.refl H) trivial ?_⟩
   unfold bx Rep
   exact⟨p,vs,rfl,sq,rs⟩
 ·cases e
def Mj:List Dt->Option (List Bool)
 |[]=>some []
 |.bl b::ds=>(Mj ds).bind fun bs=>some (b::bs)
 |_=>none
theorem Io {K:FG_} {H:Hp}:∀ {ds:List Dt} {bs:List Bool} {vs:List V} {us:List Value},Mj ds=some bs->aV K H ds vs->Vals vs us->us=bs.map Value.bool
 |[],_,_,_,e,r,w=>by
  cases e
  simp only[aV] at r;subst r;cases w;rfl
 |d::ds,_,_,_,e,r,w=>by
  simp only[aV] at r
  obtain⟨v,r',rfl,h1,h2⟩:=r
  cases d<;>first|(cases e;done)|skip
  simp only[Mj] at e
  obtain⟨bs,e1,e⟩:=bind_some e
  cases e
  simp only[Rep] at h1
  subst h1
  cases w with
  |cons p t=>
   cases p
   rw[Io e1 h2 t]
   rfl
theorem all_range (bs:List Bool):((List.range bs.length).all fun i=>bs.getD i false)=bs.all id:=by
 rw[Bool.eq_iff_iff,qv,qv]
 constructor
 ·intro h b hb
  obtain⟨i,hi,rfl⟩:=List.mem_iff_getElem.mp hb
  have:=h i (by simpa using hi)
  simpa [List.getD,hi] using this
 ·intro h i hi
  have hi:i < bs.length:=by simpa using hi
  have:=h bs[i] (jv hi)
  simpa [List.getD,hi] using this
def allB:List Bx->Option Bx
 |[b]=>(yx b).bind fun ds=>(Mj ds).bind fun bs=>some (.z (.bl (bs.all id)))
 |_=>none
theorem Qu {prog:Program} {w:World} {A:Around} (bs:List Bool):TruthOf prog w A (fun i v=>(bs.map Value.bool).toArray[i]?=some v) fun i=>bs.getD i false:=fun i v s Q E h q=>by
 have h':(bs.map Value.bool)[i]?=some v:=by simpa using h
 rw[Z3] at h'
 cases e:bs[i]? with
 |none=>rw[e] at h';cases h'
 |some b=>
  rw[e] at h'
  cases h'
  have:bs.getD i false=b:=by simp[List.getD,e]
  have q':Q b s:=by rw[<-this];exact q
  exact ZZ q'
theorem Ip (hc:X.calm=true):Cd X (.builtin "all") allB:=by
 intro pins s σ H xs us Q I r h
 obtain⟨bs,c,rb,e,q⟩:=h
 unfold allB at e
 split at e
 ·obtain⟨ds,ed,e⟩:=bind_some e
  obtain⟨ks,ek,e⟩:=bind_some e
  cases e
  obtain⟨v,rfl,r1⟩:=rep1 rb
  obtain⟨a,vs,rfl,sq,rs⟩:=r1.LR ed
  obtain⟨u,rfl,ru⟩:=vals1 r
  cases ru
  obtain⟨its,w,pl,hz⟩:=I.list sq
  have hv:=Io ek rs w
  have hlt:a < s.heap.objs.size:=by obtain⟨o,n,e,_⟩:=pl;exact zw e
  refine call_all_walk (wpAny_pyIter_list pl.isList ?_)
  refine⟨s.heap.objs.size,_,_,_,_,_,fun i=>ks.getD i false,rfl,Walks.list (by show X.A.handled=none;exact I.ok.hd hc) s.heap.objs.size a (ZU hlt) its.toArray,⟨⟨_,ZN _ rfl,rfl,rfl⟩,pl.isList.push _⟩,?_,fun h' tk k=>?_⟩
  ·rw[hv];exact Qu ks
  ·have hn:its.toArray.size=ks.length:=by rw[hv];simp
   rw[hn,all_range]
   have I1:L2.Inv X pins σ H { s with heap:=s.heap.push { cls:=.type "list_iterator", data:=.fields #[.ref a,.int 0 0] } }:=I.kept (t':=s.toks) fun b o e=>ze _ e
   refine⟨.bl _,H,?_,rfl,q _ H (Same.refl H) trivial Qo⟩
   obtain⟨f0,f1,f2,f3,f4,f5⟩:=I.V6 (b:=s.heap.objs.size) (H':=H) (zt _) (I.hok.fresh (zt _))
   exact I1.turned (it:=s.heap.objs.size) (fun b o hb e=>k b o (by simpa using hb) e) f0 f1 f3 f4 f5
 ·cases e
end
end P1
end
section
namespace P1
open PySem PySem.Spec PyProof.Rows L2
def gv (i:Nat):Ev->Option Bx:=fun ρ=>Gk ρ i
def qZ (g:Bx->Bx->Option Bx) (fa fb:Ev->Option Bx):Ev->Option Bool:=fun ρ=>(b2 g fa fb ρ).bind Ce
def tC3 (g g':Bx->Bx->Option Bx) (fa fb fc:Ev->Option Bx):Ev->Option Bool:=fun ρ=>(YB g g' fa fb fc ρ).bind Ce
def tV (f:Ev->Option Bx):Ev->Option Bool:=fun ρ=>(f ρ).bind YD
def aM:Ev->Option (List Bx):=fun _=>some []
def qR (p:Dt->Bool) (f:Ev->Option Bx):Ev->Option Bx:=b1 (fun b=>if o8 b=true then none else some (.z (.bl (p (toD b))))) f
def dI:Ev->Option Out:=fun ρ=>some (.nx ρ)
def dY (f:Ev->Option Bx):Ev->Option Out:=fun ρ=>(f ρ).bind YK
def setG (i:Nat) (f:Ev->Option Bx):Ev->Option Out:=fun ρ=>(f ρ).bind fun b=>(YL ρ i b).bind fun ρ'=>some (.nx ρ')
def aek (i j:Nat) (fs:Ev->Option (List Bx)):Ev->Option Out:=fun ρ=>(fs ρ).bind (abf i j ρ)
def Ir (i:Nat) (f:Ev->Option Bx):Ev->Option Out:=fun ρ=>(f ρ).bind (abg ρ i)
def uG (fi:Ev->Option (List Dt)) (gt:Dt->Ev->Option Ev) (gb:Ev->Option Out):Ev->Option Out:=fun ρ=>(fi ρ).bind fun ds=>Gm gt gb ds ρ
def itF (f:Ev->Option Bx):Ev->Option (List Dt):=fun ρ=>(f ρ).bind ad7
def Ml (f:Ev->Option Bx):Ev->Option (List Dt):=fun ρ=>(f ρ).bind Ws
def XS (fs:Ev->Option (List Bx)):Ev->Option (List Dt):=fun ρ=>(fs ρ).bind ad8
def DW (i:Nat):Dt->Ev->Option Ev:=fun d ρ=>some (ρ.set i (some (.z d)))
def zZ:Ev->Option Bool:=fun _=>some true
theorem gk {X:Cx}:Tj X [] zZ:=⟨.inl ⟨rfl,rfl⟩⟩
theorem aem {X:Cx} {scope:Scope} {cl:List (Str×Addr)}:KC X scope cl [] []:=trivial
theorem abx {X:Cx} {scope:Scope} {cl:List (Str×Addr)} {x:Str} {i:Nat} {xs:LS_} {is:List Nat} (n:X.N[i]?=some x) (k:X.env.kindOf x=some .cell\/X.env.kindOf x=some .free)
  (k':(relabel scope X.env).names.lookup x=some .cell\/(relabel scope X.env).names.lookup x=some .free) (c:∃ c,cl.lookup x=some c) (r:KC X scope cl xs is):KC X scope cl (x::xs) (i::is):=⟨⟨n,k,k',c⟩,r⟩
theorem mem_of_lookup {names:List (Str×NameKind)} {x:Str} {k:NameKind}:names.lookup x=some k->(x,k)∈names:=QY
theorem aen {X:Cx} {scope:Scope} {cl:List (Str×Addr)} {xs:LS_} {is:List Nat} (clos:closureFor scope X.env=pure cl) (kind:scope.kind=.function) (cell:scope.names.all (fun y=>decide (y.2≠.cell)||(cl.lookup y.1).isNone)=true)
  (names:scope.names.all (fun y=>decide (y.2=.local->scope.names.lookup y.1=some .local))=true) (sub:SubL X.env.cells cl)
  (has:(relabel scope X.env).names.all (fun y=>!(y.2==.cell||y.2==.free)||(cl.lookup y.1).isSome||scope.names.contains (y.1,.cell))=true) (cap:KC X scope cl xs is):Bc X scope cl xs is where
 clos:=clos
 kind:=kind
 cell:=fun y hy hc=>by
  have:=List.all_eq_true.mp cell y hy
  simp only[hc,ne_eq,not_true_eq_false,decide_false,kf,Option.isNone_iff_eq_none] at this
  exact this
 names:=fun y hy=>jn (List.all_eq_true.mp names y hy)
 sub:=sub
 has:=fun x hx=>by
  have h:∃ k,(relabel scope X.env).names.lookup x=some k/\(k==NameKind.cell||k==NameKind.free)=true:=by
   rcases hx with hx|hx
   ·exact⟨_,hx,rfl⟩
   ·exact⟨_,hx,rfl⟩
  obtain⟨k,e,hk⟩:=h
  have:=List.all_eq_true.mp has _ (mem_of_lookup e)
  simp only[hk,Bool.not_true,kf,Bool.or_eq_true] at this
  rcases this with h|h
  ·exact .inr (Option.isSome_iff_exists.mp h)
  ·exact .inl (List.contains_iff_mem.mp h)
 cap:=cap
theorem bZ {k:Nat} {A:Around} (r:jU k A):A.units+100 < cLine:=by have:=r.un;omega
theorem aeo {F:List Bx->Option Bx} (h:∀ ns:List Int,ns.length<=63->F [.z (.lst (ns.map .int))]=some (.z (.bl true))) (hl:∀ ns:List Int,ns.length<=63->F [.l (ns.map .int)]=some (.z (.bl true))) (K:FG_) (H:Hp) (a:Addr) (ns:List Int) (hn:ns.length<=63) (_:Only H) (hS:uQ K H a (ns.map V.int)) :
  jA K 1 F [.ref a] H (fun v _=>v=.bl true) fun _ _ _=>False:=by
 have rs:∀ ms:List Int,aV K H (ms.map Dt.int) (ms.map V.int):=fun ms=>by
  induction ms with
  |nil=>exact aV.nil
  |cons m ms ih=>exact aV.cons (by unfold Rep;rfl) ih
 have fin:∀ v (H':Hp),Same H H'->Nw H (.z (.bl true)) v->bx K H' (.z (.bl true)) v->v=.bl true:=fun v H' _ _ r=>by simpa only[bx,Rep] using r
 rcases hS with hS|hS
 ·exact⟨rfl,[.l (ns.map .int)],_,.cons ⟨a,_,rfl,hS,rs ns⟩ .nil,rfl,hl ns hn,fin⟩
 ·refine⟨rfl,[.z (.lst (ns.map .int))],_,.cons ?_ .nil,rfl,h ns hn,fin⟩
  unfold bx Rep
  exact⟨a,_,rfl,.inr hS,rs ns⟩
theorem aiX {P:Program} {w:World} {K:FG_} {mg:Str->Option Value} {base:Heap} {x qual:Str} {st:Stmt} {f:Addr} {fd:FuncData} {N ps:LS_} {k n m:Nat} {g:Ev->Option Out} (F:qK K x qual st f fd) (S:bf N ps (aK st)) (hn:N.length=n) (hm:ps.length=m)
  (hbody:∀ (cdv:Value) (A:Around) (outer:List Env) (s:Shared) (H:Hp) (E:XK),jU k (A.deeper (envOfC qual (aK st) s.heap.objs.size f cdv))->Yg (Bb gO P w K mg base N qual (aK st) f cdv A outer s H E).Ss (jR st) g) :
  bF P w K mg base gO (k+1) f fd ps (jA K m (eF n g)):=by
 subst hn hm
 exact aiU F S hbody
section
variable {X:Cx} {e st:Expr} {f fs:Ev->Option Bx} {pos p2:Pos}
theorem Qv {pins:List (Addr×Obj)} {σ:L2.St} {H:Hp} {s:Shared} {a:Addr} (I:L2.Inv X pins σ H s) (h:H a=some (.dK [])):∃ o,L2.Inv X pins σ (upd H a (.BK o (.dK []))) s:=by
 have hk:=I.hok a _ h
 obtain⟨z1,z2,z3,z4,o,z5,z6,e,ex⟩:=hk
 refine⟨o,⟨I.ok,I.os,I.bare,⟨I.base.keep,I.base.slot,fun b ob q1 q2 q3=>?_,I.base.there,fun b xs q=>?_,fun b ob u q=>?_,fun b ps q=>?_⟩,I.loc,I.cell,?_,fun x c q=>?_,fun p hp=>?_,?_,I.len⟩⟩
 ·have:=I.base.free b ob q1 q2 q3
  rw[aP (bG h this).symm];exact this
 ·have:=I.base.tups b xs q
  rw[aP (sW this h (by intro z;cases z))];exact this
 ·have:=I.base.uP b ob u q
  rw[aP (sW this h (by intro z;cases z))];exact this
 ·obtain⟨m,this⟩:=I.base.yu b ps q
  rw[aP (sW this h (by intro z;cases z))];exact⟨m,this⟩
 ·rw[aP (bG h I.free).symm];exact I.free
 ·rw[aP (bG h (I.nC x c q)).symm];exact I.nC x c q
 ·obtain⟨q1,q2,q3⟩:=I.pin p hp
  refine⟨q1,?_,q3⟩
  rw[aP (bG h q2).symm];exact q2
 ·intro b u q
  by_cases hb:b=a
  ·subst hb
   rw[bK] at q;cases q
   exact⟨e,z1,z2,z3,z4,o,z5,z6,e,ex⟩
  ·rw[aP hb] at q
   refine (I.hok b u q).stay (fun c v _ w=>w) (fun c w=>?_) fun c xs w=>?_
   ·rw[aP (sW w h (by intro z;cases z))];exact w
   ·rw[aP (sW w h (by intro z;cases z))];exact w
theorem aep  : QV X (.Dict [] [] pos) (cB .emp):=⟨by
 intro pins s σ H Q I q
 obtain⟨H0,ρ,b,E,e,q⟩:=q
 cases e
 refine jy (Yw pins s σ H (fun v H'=>∃ p,v=.ref p/\H p=none/\H'=upd H p (.dK [])) I fun p hp=>⟨p,rfl,hp,rfl⟩) fun u s1 hq=>?_
 obtain⟨v,H1,I1,rv,p,rfl,hp,rfl⟩:=hq
 obtain⟨o,I2⟩:=Qv I1 bK
 refine⟨.ref p,_,I2,rv,q _ _ (fun c ob hc=>?_) trivial ?_⟩
 ·rw[aP (bG hc hp),aP (bG hc hp)];exact hc
 ·simp only[bx,Rep]
  exact⟨p,o,rfl,bK⟩⟩
section
variable {prog:Program} {w:World} {A:Around} {E:VP_} {s:Shared}
end
def upB:Bx->Option Bx
 |.z (.str x)=>if Builtin.Str.tooLong (Txt.upper x).length=false then some (.z (.str (Txt.upper x))) else none
 |_=>none
theorem Y6:MtR X "str.upper" (fun x xs H Q=>∃ y,x=.str y/\xs=[]/\Builtin.Str.tooLong (Txt.upper y).length=false/\Q (.str (Txt.upper y)) H):=by
 intro pins s σ H x xs v us Q I rx rs h
 obtain⟨y,rfl,rfl,hf,q⟩:=h
 obtain⟨t,rfl⟩:=rx
 cases rs
 exact PySem.SC.upper hf ⟨.str _,H,I.tok _,⟨_,rfl⟩,q⟩
theorem Y7 {apos cpos:Pos} (h:QV X e f) (hbase:attributeBase e "upper" X.env (eval e X.env)=eval e X.env:=by rfl) (hline:(apos.endLine==cpos.line)=true:=by rfl):QV X (.Call (.Attribute e "upper" apos) [] [] cpos) (b1 upB f):=⟨have h:=h.run;HX (adZ (T := "str") kK F.slot_str_upper F.type_str_upper Y6 h hbase hline) fun σ H Q q=>by
  obtain⟨H0,ρ,c,E,e,q⟩:=q
  obtain⟨a,ea,e⟩:=bind_some e
  refine⟨H0,ρ,a,E,ea,fun v H1 s1 n1 r1=>?_⟩
  unfold upB at e
  split at e
  ·split at e
   ·rename_i y hf
    cases e
    obtain⟨rfl,hy⟩:v=.str y/\y.length<=sizeLine:=by simpa only[bx,Rep] using r1
    exact⟨rfl,y,rfl,rfl,hf,q _ _ s1 trivial (by unfold bx Rep;exact⟨rfl,PySem.fit_le hf⟩)⟩
   ·cases e
  ·cases e⟩
end
section
variable {X:Cx} {e:Expr} {f:Ev->Option Bx}
def Tz:Bx->Bx->Option Bx
 |.z (.int i),.z (.int j)=>some (.z (.bl (decide (i < j))))
 |.z (.str x),.z (.str y)=>some (.z (.bl (decide (x.cps.toList < y.cps.toList))))
 |_,_=>none
theorem vU:Kr X (compareOp .Lt) Tz:=by
 intro pins s σ H x y v u Q I rx ry h
 obtain⟨a,b,c,ra,rb,e,q⟩:=h
 unfold Tz at e
 split at e
 ·rename_i i j
  cases e
  exact afR pins s σ H x y v u Q I rx ry ⟨i,j,Tr ra,Tr rb,q _ H (Same.refl H) trivial (by unfold bx;exact okT)⟩
 ·rename_i i j
  cases e
  obtain⟨rfl,_⟩:=Qp ra
  obtain⟨rfl,_⟩:=Qp rb
  obtain⟨t,rfl⟩:=rx
  obtain⟨t',rfl⟩:=ry
  exact PySem.P.lt_str ⟨.bl _,H,I,rfl,q _ H (Same.refl H) trivial (by unfold bx;exact okT)⟩
 ·cases e
def Mp:List Dt->Option LS_
 |[]=>some []
 |.str x::r=>(Mp r).bind fun ys=>some (x::ys)
 |_=>none
theorem Mq {K:FG_} {H:Hp}:∀ {ds:List Dt} {vs:List V} {ys:LS_},aV K H ds vs->Mp ds=some ys->vs=ys.map V.str/\∀ y∈ys,y.length<=sizeLine
 |[],_,_,h,e=>by cases e;simp only[aV] at h;subst h;exact⟨rfl,fun y hy=>by cases hy⟩
 |.str x::ds,_,_,h,e=>by
  simp only[Mp] at e
  obtain⟨ys,e1,e2⟩:=bind_some e
  cases e2
  simp only[aV] at h
  obtain⟨v,r,rfl,hd,hr⟩:=h
  obtain⟨rfl,hx⟩:v=.str x/\x.length<=sizeLine:=by simpa only[Rep] using hd
  obtain⟨rfl,h2⟩:=Mq hr e1
  refine⟨rfl,fun y hy=>?_⟩
  rcases List.mem_cons.mp hy with rfl|hy
  ·exact hx
  ·exact h2 y hy
 |.non::_,_,_,_,e=>by cases e
 |.bl _::_,_,_,_,e=>by cases e
 |.int _::_,_,_,_,e=>by cases e
 |.tup _::_,_,_,_,e=>by cases e
 |.lst _::_,_,_,_,e=>by cases e
 |.emp::_,_,_,_,e=>by cases e
theorem Qw {K:FG_} {H:Hp}:∀ {ys:LS_},(∀ y∈ys,y.length<=sizeLine)->aV K H (ys.map Dt.str) (ys.map V.str)
 |[],_=>aV.nil
 |y::ys,h=>aV.cons (by unfold Rep;exact⟨rfl,h y (zS ..)⟩) (Qw fun z hz=>h z (zI _ hz))
theorem Iu:∀ {ys:LS_} {its:List Value},Vals (ys.map V.str) its->StrsAre its ys
 |[],_,h=>by cases h;exact .nil
 |y::ys,_,h=>by
  cases h with
  |cons r t=>
   obtain⟨tk,rfl⟩:=r
   exact .cons y tk (Iu t)
theorem Mr:∀ {its:List Value} {ys:LS_},StrsAre its ys->Vals (ys.map V.str) its
 |_,_,.nil=>.nil
 |_,_,.cons y t h=>.cons ⟨t,rfl⟩ (Mr h)
def sy (x:Str) (b:Bx):Option Bx:=(yx b).bind fun ds=>(Mp ds).bind fun ys=>if (ys.map (·.length)).sum+ys.length * x.length<=100000 then some (.z (.str (Txt.join x ys))) else none
theorem aby:MtR X "str.join" (fun x xs H Q=>∃ y p ys,x=.str y/\xs=[.ref p]/\uQ X.K H p (ys.map V.str)/\(ys.map (·.length)).sum+ys.length * y.length<=100000/\Q (.str (Txt.join y ys)) H):=by
 intro pins s σ H x xs v us Q I rx rs h
 obtain⟨y,p,ys,rfl,rfl,sq,hb,q⟩:=h
 obtain⟨t,rfl⟩:=rx
 obtain⟨u,rfl,ru⟩:=vals1 rs
 cases ru
 obtain⟨its,r',pl,hz⟩:=I.list sq
 exact join_list pl.isList (Iu r') (by omega) fun t' k=>⟨.str _,H,I.tok _,⟨_,rfl⟩,q⟩
theorem sY {x:Str} {j:Nat} {p1 apos cpos:Pos} (h:QV X e f) (hx:x.length<=sizeLine:=by decide) (hbase:attributeBase (.Constant (.str x) j p1) "join" X.env (eval (.Constant (.str x) j p1) X.env)=eval (.Constant (.str x) j p1) X.env:=by rfl) (hfew:((backTo cpos (starEach [e] X.env)).all (fun x=>!x.1)&&(backToKw cpos (keywordEach [] X.env)).all (fun x=>x.1.isSome)&&decide ([e].length+([]:List Keyword).length+(if ([]:List Keyword).isEmpty then 0 else 1) < 30))=true:=by rfl) (hline:(apos.endLine==cpos.line)=true:=by rfl) (hs:starEach [e] X.env=(false,eval e X.env)::starEach [] X.env:=by rfl):QV X (.Call (.Attribute (.Constant (.str x) j p1) "join" apos) [e] [] cpos) (b1 (sy x) f):=⟨have h:=h.run;HX (U3 (T := "str") kK F.slot_str_join F.type_str_join aby (YC (hx:=hx)) (Ib h Nz hs) hbase hfew hline hs rfl) fun σ H Q q=>by
  obtain⟨H0,ρ,c,E,e,q⟩:=q
  obtain⟨a,ea,e⟩:=bind_some e
  refine⟨H0,ρ,_,E,rfl,fun v H1 s1 n1 r1=>?_⟩
  obtain⟨rfl,hx'⟩:v=.str x/\x.length<=sizeLine:=by simpa only[bx,Rep] using r1
  refine⟨rfl,H0,ρ,[a],E.grow s1,by simp only[ao,ea,Q1],fun vs H2 s2 r2=>?_⟩
  obtain⟨w,rfl,rw1⟩:=rep1 r2
  unfold sy at e
  obtain⟨ds,ed,e⟩:=bind_some e
  obtain⟨ys,ey,e⟩:=bind_some e
  split at e
  ·rename_i hb
   cases e
   obtain⟨p,ws,rfl,sq,rs⟩:=rw1.LR ed
   obtain⟨rfl,hy⟩:=Mq rs ey
   refine⟨x,p,ys,rfl,rfl,sq,hb,q _ _ (s1.trans s2) trivial ?_⟩
   unfold bx Rep
   exact⟨rfl,joinOk_length (joinOk_of (by omega))⟩
  ·cases e⟩
end
section
variable {X:Cx}
def Y8:List Bx->Option Bx
 |[.z (.str x)]=>some (.z (.str x))
 |[.z (.int i)]=>if i.natAbs<=1000000 then some (.z (.str (Str.ofString (toString i)))) else none
 |_=>none
theorem Y9:Cd X (.type "str") Y8:=by
 intro pins s σ H xs us Q I r h
 obtain⟨bs,c,rb,e,q⟩:=h
 unfold Y8 at e
 split at e
 ·rename_i x
  cases e
  obtain⟨v,rfl,r1⟩:=rep1 rb
  obtain⟨rfl,hx⟩:=Qp r1
  obtain⟨u,rfl,ru⟩:=vals1 r
  obtain⟨t,rfl⟩:=ru
  exact PySem.P.str_of_str ⟨.str x,H,I,⟨t,rfl⟩,q _ H (Same.refl H) trivial r1⟩
 ·rename_i i
  split at e
  ·rename_i hi
   cases e
   obtain⟨v,rfl,r1⟩:=rep1 rb
   have hv:=Tr r1
   subst hv
   obtain⟨u,rfl,ru⟩:=vals1 r
   obtain⟨t,rfl⟩:=ru
   have aiZ:i.natAbs.log2 < 1920:=by
    have:i.natAbs < 2 ^ 20:=by omega
    have h2:i.natAbs.log2 < 20:=by
     by_cases h0:i.natAbs=0
     ·rw[h0];decide
     ·exact (Nat.log2_lt h0).mpr this
    omega
   refine PySem.P.str_of_int aiZ ⟨.str _,H,I.tok _,⟨_,rfl⟩,q _ H (Same.refl H) trivial ?_⟩
   have hl:=len_str_of_int i
   unfold bx Rep
   refine⟨rfl,?_⟩
   have:(Str.ofString (toString i)).length<=1000002:=by omega
   exact zv this (by decide)
  ·cases e
 ·cases e
end
def ai0 (kvs:List (Key×Dt)) (x:Key) (d:Dt):List (Key×Dt):=
 if (kvs.any fun kv=>decide (kv.1=x))=true then kvs.map (fun kv=>if kv.1=x then (kv.1,d) else kv) else kvs++[(x,d)]
section
variable {K:FG_} {H:Hp}
theorem sS.nil:sS K H [] []:=⟨rfl,aV.nil,fun p hp=>by cases hp⟩
theorem sS.inv {p:Key×Dt} {kvs:List (Key×Dt)} {ks:List (Key×V)} (h:sS K H (p::kvs) ks):∃ v r,ks=(p.1,v)::r/\Rep K H p.2 v/\okK p.1/\sS K H kvs r:=by
 obtain⟨h1,h2,h3⟩:=h
 cases ks with
 |nil=>simp at h1
 |cons q r=>
  simp only[zz,qc] at h1
  obtain⟨e,h1⟩:=h1
  simp only[zz,aV] at h2
  obtain⟨v,r',e2,hv,hr⟩:=h2
  simp only[qc] at e2
  obtain⟨rfl,rfl⟩:=e2
  exact⟨q.2,r,by rw[<-e],hv,h3 p (zS ..),h1,hr,fun x hx=>h3 x (zI _ hx)⟩
theorem sS.cons {p:Key×Dt} {kvs:List (Key×Dt)} {v:V} {r:List (Key×V)} (hv:Rep K H p.2 v) (hp:okK p.1) (h:sS K H kvs r):sS K H (p::kvs) ((p.1,v)::r):=
 ⟨by simp[h.1],aV.cons hv h.2.1,fun x hx=>by
  rcases List.mem_cons.mp hx with rfl|hx
  ·exact hp
  ·exact h.2.2 x hx⟩
theorem sS.append {kvs:List (Key×Dt)} {ks:List (Key×V)} {x:Key} {d:Dt} {v:V} (h:sS K H kvs ks) (hv:Rep K H d v) (hx:okK x):sS K H (kvs++[(x,d)]) (ks++[(x,v)]):=
 ⟨by simp[h.1],by rw[qE,qE];exact aV.append h.2.1 (aV.cons hv aV.nil),fun p hp=>by
  rcases List.mem_append.mp hp with hp|hp
  ·exact h.2.2 p hp
  ·cases List.mem_singleton.mp hp;exact hx⟩
theorem sS.len {kvs:List (Key×Dt)} {ks:List (Key×V)} (h:sS K H kvs ks):ks.length=kvs.length:=by
 have:=congrArg List.length h.1
 simpa using this
theorem sS.any:∀ {kvs:List (Key×Dt)} {ks:List (Key×V)} {x:Key},sS K H kvs ks->(ks.any fun kv=>decide (kv.1=x))=kvs.any fun kv=>decide (kv.1=x)
 |[],ks,_,h=>by
  have:=h.len
  cases ks with
  |nil=>rfl
  |cons _ _=>simp at this
 |p::kvs,_,x,h=>by
  obtain⟨v,r,rfl,hv,hpl,hr⟩:=h.inv
  rw[QR,QR,sS.any hr]
end
section
variable {X:Cx} {e ek o:Expr} {f fk fo:Ev->Option Bx} {pos pos':Pos}
end
section
variable {X:Cx} {a b c e:Expr} {es:List Expr} {fa fb fc f:Ev->Option Bx} {fs:Ev->Option (List Bx)} {pos:Pos}
theorem aO {x:Str} {j} (hx:x.length<=sizeLine:=by decide):QV X (.Constant (.str x) j pos) (cB (.str x)):=⟨P1.YC (hx:=hx)⟩
end
section
variable {X:Cx} {a b c e:Expr} {es:List Expr} {fa fb fc f:Ev->Option Bx} {fs:Ev->Option (List Bx)} {pos:Pos}
variable {p q:Ev->Option Bool} {rest:List Expr}
theorem aj (h1:QV X e f) (h2:U5 X es fs) (hs:starEach (e::es) X.env=(false,eval e X.env)::starEach es X.env:=by rfl):U5 X (e::es) (ao f fs):=⟨P1.Ib (h1:=h1.run) (h2:=h2.run) (hs:=hs)⟩
theorem aB  : U5 X [] (fun _=>some []):=⟨P1.Nz ⟩
end
theorem nZ {P:Program} {w:World} {K:FG_} {mg:Str->Option Value} {base:Heap} {x qual:Str} {st:Stmt} {f:Addr} {fd:FuncData} {N ps:LS_} {k n m:Nat} {g:Ev->Option Out} (F:qK K x qual st f fd) (S:bf N ps (aK st)) (hn:N.length=n) (hm:ps.length=m)
  (hbody:∀ (cdv:Value) (A:Around) (outer:List Env) (s:Shared) (H:Hp) (E:XK),jU k (A.deeper (envOfC qual (aK st) s.heap.objs.size f cdv))->QGs (Bb gO P w K mg base N qual (aK st) f cdv A outer s H E).Ss (jR st) g) :
  bF P w K mg base gO (k+1) f fd ps (jA K m (eF n g)):=aiX F S hn hm fun cdv A outer s H E hr=>(hbody cdv A outer s H E hr).run
section
variable {prog:Program} {w:World} {A:Around} {E:VP_} {s:Shared}
end
section
variable {X:Cx}
end
theorem bT.agn {K:FG_} {H0 H:Hp} {σ:L2.St} {ρ:Ev} (E:bT K H0 H σ ρ) (i:Nat):bT K H0 H σ (ρ.set i none):=by
 have back:∀ (j:Nat) (b:Bx),(ρ.set i none)[j]?=some (some b)->ρ[j]?=some (some b):=fun j b e=>by
  rw[JU] at e
  split at e
  ·split at e<;>cases e
  ·exact e
 refine⟨by rw[QI];exact E.len,fun j b e=>E.val j b (back j b e),fun j k c a b e1 ec e2 e3 e4 e5=>E.own j k c a b (back _ _ e1) ec e2 (back _ _ e3) e4 e5,E.base,fun j c a e1 ec e2=>E.new j c a (back _ _ e1) ec e2⟩
def kill (is:List Nat) (ρ:Ev):Ev:=is.foldl (fun ρ i=>ρ.set i none) ρ
theorem bT.kill {K:FG_} {H0 H:Hp} {σ:L2.St}:∀ (is:List Nat) {ρ:Ev},bT K H0 H σ ρ->bT K H0 H σ (P1.kill is ρ)
 |[],_,E=>E
 |i::is,_,E=>bT.kill is (E.agn i)
def jB (is:List Nat):Ev->Option Out:=fun ρ=>some (.nx (kill is ρ))
theorem Za {X:Cx} {ss:List Stmt} {g:Ev->Option Out} (is:List Nat) (h:Yg X ss g):Yg X ss (aG g (jB is)):=ad2 h fun D σ H q=>by
 obtain⟨H0,ρ,r,E,e,q⟩:=q
 obtain⟨r1,e1,e⟩:=bind_some e
 refine⟨H0,ρ,r1,E,e1,?_⟩
 cases r1 with
 |nx ρ1=>cases e;exact fun σ' H' E'=>q σ' H' (E'.kill is)
 |rt b=>cases e;exact q
 |bk b=>cases e;exact q
 |ct b=>cases e;exact q
theorem dF {X:Cx} {ss:List Stmt} {g:Ev->Option Out} (is:List Nat) (h:QGs X ss g):QGs X ss (aG g (jB is)):=⟨Za is h.run⟩
end P1
end
section
namespace S1
open PySem PySem.Spec PyProof.Rows
section
variable (rk:Value->Nat)
def at_ (xs:Array Keyed) (i:Nat):Nat:=match xs[i]? with
 |some p=>rk p.1
 |none=>0
def Up (xs:Array Keyed) (k:Nat):Prop:=∀ i j,i<=j->j < k->at_ rk xs i<=at_ rk xs j
structure Bs (kd:SortKind) (b:Array Keyed) (st:SortSt):Prop where
 pm:(arrOf st).Perm b
 kd:kindOf st=kd
 fl:failedOf st=none
 pd:pendingOf st=#[]
variable {rk} {kd:SortKind} {b:Array Keyed}
theorem Bs.sz {st:SortSt} (h:Bs kd b st):(arrOf st).size=b.size:=h.pm.size_eq
end
section
variable {prog:Program} {w:World} {A:Around} {E:VP_} {s:Shared} {b:Array Keyed} {kd:SortKind} {rk:Value->Nat}
def Dn (kd:SortKind) (rk:Value->Nat) (b:Array Keyed) (st:SortSt):Prop:=(arrOf st).Perm b/\failedOf st=none/\pendingOf st=#[(0,b.size,0)]/\Up rk (arrOf st) b.size
theorem Bs.dn {st:SortSt} (B:Bs kd b st) (up:Up rk (arrOf st) b.size):Dn kd rk b (setPending st ((pendingOf st).push (0,b.size,0))):=⟨B.pm,B.fl,(by show (pendingOf st).push _=_;rw[B.pd];rfl),up⟩
end
end S1
end
section
namespace S1
open PySem PySem.Spec PyProof.Rows L2
def ltK:Key->Key->Bool
 |.inl a,.inl b=>decide (a < b)
 |.inr x,.inr y=>decide (x.cps.toList < y.cps.toList)
 |.inl _,.inr _=>true
 |.inr _,.inl _=>false
def Vd:Key->Key->Bool
 |.inl _,.inl _=>true
 |.inr _,.inr _=>true
 |_,_=>false
def Shp:List Key->List Key->Prop
 |x::xs,y::ys=>Vd x y=true/\Shp xs ys
 |_,_=>True
section
variable {prog:Program} {w:World} {A:Around} {E:VP_} {s:Shared}
theorem key_eq {x y:Key} {p q:Value} {Q:Bool->Shared->Prop} (hp:BJ x p=true) (hq:BJ y q=true) (h:Q (decide (x=y)) s):wpAny (model prog w) A (eqBool p q) Q E s:=
 (pW prog w).eqBool (a:=x) (b:=y) hp hq h
theorem aer {fb:Bool} {x y:Key} {p q:Value} {Q:Bool->Shared->Prop} (hs:Vd x y=true) (hp:BJ x p=true) (hq:BJ y q=true) (h:Q (ltK x y) s):wpAny (model prog w) A (oneLt' fb p q) Q E s:=by
 rcases cQ hp with⟨i,t,rfl,rfl⟩|⟨z,t,rfl,rfl⟩
 ·rcases cQ hq with⟨j,u,rfl,rfl⟩|⟨z,u,rfl,rfl⟩
  ·cases fb with
   |true=>exact oneLt_int h
   |false=>
    rw[oneLt'_eq]
    simp only[ZI,qr]
    refine zb (show wpAny _ _ (compareOp .Lt (.int i t) (.int j u)) _ _ _ from lt_int ?_)
    exact ZZ h
  ·cases hs
 ·rcases cQ hq with⟨j,u,rfl,rfl⟩|⟨z',u,rfl,rfl⟩
  ·cases hs
  ·cases fb with
   |true=>exact oneLt_str h
   |false=>
    rw[oneLt'_eq]
    simp only[ZI,qr]
    refine zb (show wpAny _ _ (compareOp .Lt (.str z t) (.str z' u)) _ _ _ from PySem.P.lt_str ?_)
    exact ZZ h
def Ks (ks:List Key) (its:List Value):Prop:=Paired (fun k v=>BJ k v=true) ks its
def dif:List Key->List Key->Option Bool
 |x::xs,y::ys=>if x=y then dif xs ys else some (ltK x y)
 |_,_=>none
def turn (fb:Bool):(Value×Value)×Nat->Option Bool×Unit->Sem (ForInStep (Option Bool×Unit)):=fun x _=>match x with
 |((p,q),i)=>do
  let e <-eqBool p q
  if (!e)=true then do
    let r <-oneLt' (fb&&i==0) p q
    pure (ForInStep.done (some r,()))
   else pure (ForInStep.yield (none,()))
theorem walk (fb:Bool):∀ (ks ls:List Key) (its jts:List Value) (i:Nat) (R:Option Bool×Unit->Shared->Prop),Ks ks its->Ks ls jts->Shp ks ls->R (dif ks ls,()) s->wpAny (model prog w) A (forIn ((its.zip jts).zipIdx i) ((none,()):Option Bool×Unit) (turn fb)) R E s
 |[],_,_,_,_,R,.nil,_,_,h=>zh h
 |_::_,[],_::_,_,_,R,_,.nil,_,h=>zh h
 |x::xs,y::ys,p::its,q::jts,i,R,.cons hp hk,.cons hq hl,hs,h=>by
  rw[List.zip_cons_cons,List.zipIdx_cons,List.forIn_cons]
  refine zb ?_
  show wpAny _ _ (eqBool p q >>= _) _ _ _
  refine zb (key_eq hp hq ?_)
  by_cases e:x=y
  ·simp only[e,decide_true,Bool.not_true,ZI,qr]
   refine zh (walk fb xs ys its jts (i+1) R hk hl hs.2 ?_)
   simp only[dif,zo e] at h
   exact h
  ·simp only[e,decide_false,kA,Qb]
   refine zb (aer hs.1 hp hq (zh (zh ?_)))
   simp only[dif,Zs e] at h
   exact h
end
def WD (h:Heap) (ks:List Key) (v:Value):Prop:=∃ (a:Addr) (o:Obj) (its:List Value) (n:Nat),v=.ref a/\h.get? a=some o/\o.cls=.type "tuple" ∧ o.data=.seq its.toArray n/\Ks ks its
theorem WD.keep {h h':Heap} {ks:List Key} {v:Value} (q:WD h ks v) (k:∀ c o,h.get? c=some o->h'.get? c=some o):WD h' ks v:=by
 obtain⟨a,o,its,n,e,g,c,d,p⟩:=q
 exact⟨a,o,its,n,e,k _ _ g,c,d,p⟩
theorem abz {k l:Key} {v:Value} (h:BJ k v=true) (h':BJ l v=true):k=l:=by
 rcases cQ h with⟨i,t,rfl,rfl⟩|⟨x,t,rfl,rfl⟩
 ·rcases cQ h' with⟨j,u,rfl,e⟩|⟨y,u,rfl,e⟩
  ·cases e;rfl
  ·cases e
 ·rcases cQ h' with⟨j,u,rfl,e⟩|⟨y,u,rfl,e⟩
  ·cases e
  ·cases e;rfl
theorem Ks.inj:∀ {ks ls:List Key} {its:List Value},Ks ks its->Ks ls its->ks=ls
 |_,_,[],h,h'=>by cases h;cases h';rfl
 |_,_,v::its,h,h'=>by
  cases h with
  |cons p t=>cases h' with
   |cons p' t'=>rw[abz p p',Ks.inj t t']
theorem WD.inj {h:Heap} {ks ls:List Key} {v:Value} (q:WD h ks v) (q':WD h ls v):ks=ls:=by
 obtain⟨a,o,its,n,rfl,g,c,d,p⟩:=q
 obtain⟨a',o',its',n',e,g',c',d',p'⟩:=q'
 cases e
 rw[g] at g'
 cases g'
 rw[d] at d'
 injection d' with e1 e2
 have e3:its=its':=by simpa using congrArg Array.toList e1
 subst e3
 exact p.inj p'
section
variable {prog:Program} {w:World} {A:Around} {E:VP_} {s:Shared}
end
end S1
end
section
namespace P1
open PySem PySem.Spec PyProof.Rows L2 S1
section
variable {prog:Program} {w:World} {A:Around} {E:VP_} {s:Shared}
end
def ago:Dt->Option Key
 |.int i=>some (.inl i)
 |.str x=>some (.inr x)
 |_=>none
def Qx:List Dt->Option (List Key)
 |[]=>some []
 |d::ds=>(ago d).bind fun k=>(Qx ds).bind fun ks=>some (k::ks)
def Ve:Dt->Option (List Key)
 |.tup ds=>Qx ds
 |_=>none
def dK:Key->Dt
 |.inl i=>.int i
 |.inr x=>.str x
section
variable {X:Cx}
def abA (k l:List Key):Bool:=((k.zip l).all fun p=>Vd p.1 p.2)
theorem abB {K:FG_} {H:Hp} {b:Bx} {v:V} {ds:List Dt} (h:bx K H b v) (e:Gq b=some ds):∃ a vs,v=.ref a/\(uQ K H a vs\/Bv K H a vs)/\aV K H ds vs:=by
 cases b with
 |z d=>
  cases d<;>first|(cases e;done)|skip
  ·cases e
   simp only[bx,Rep] at h
   obtain⟨a,vs,e,q,r⟩:=h
   exact⟨a,vs,e,.inr q,r⟩
  ·cases e
   simp only[bx,Rep] at h
   obtain⟨a,vs,e,q,r⟩:=h
   exact⟨a,vs,e,.inl q.sq,r⟩
 |l ds'=>cases e;obtain⟨a,vs,e,q,r⟩:=h;exact⟨a,vs,e,.inl (.inl q),r⟩
 |o ds'=>cases e;obtain⟨a,vs,e,q,r⟩:=h;exact⟨a,vs,e,.inl (.inl (.inl q)),r⟩
 |n _=>cases e
 |m _ _=>cases e
end
end P1
end
section
namespace S6
open PySem PySem.Spec PyProof.Rows
structure Wk (w:World) (h:Heap) (a:Addr) (es:Array (Int×Value)) (ep:Nat) (t:SetTable):Prop where
 at_:∃ o,h.get? a=some o/\o.cls=.type "set" ∧ o.data=.set es ep t
 fit:t.fits es.size=true
 led:w.params.followText "set-order" = false->t.led=true
 non:1 < es.size->t.plain=false
theorem Wk.keep {w:World} {h h':Heap} {a:Addr} {es:Array (Int×Value)} {ep:Nat} {t:SetTable} (x:Wk w h a es ep t) (k:∀ o,h.get? a=some o->h'.get? a=some o):Wk w h' a es ep t:=
 ⟨let ⟨o,e,r⟩:=x.at_;⟨o,k o e,r⟩,x.fit,x.led,x.non⟩
def It (h:Heap) (it a:Addr) (first:Value) (i n ep:Nat):Prop:=∃ o,h.get? it=some o/\o.cls=.type "set_iterator" ∧ o.data=.fields #[first,.int (i:Int) 0,.ref a,.int (n:Int) 0,.int (ep:Int) 0]
theorem It.keep {h h':Heap} {it a:Addr} {f:Value} {i n ep:Nat} (x:It h it a f i n ep) (k:∀ o,h.get? it=some o->h'.get? it=some o):It h' it a f i n ep:=
 let ⟨o,e,r⟩:=x;⟨o,k o e,r⟩
theorem It.ty {s:Shared} {it a:Addr} {f:Value} {i n ep:Nat} (x:It s.heap it a f i n ep):s.TypeIs (.ref it) "set_iterator" := let ⟨o,e,c,_⟩:=x;⟨o,e,c⟩
section
variable {prog:Program} {w:World} {A:Around} {E:VP_} {s:Shared} {it a:Addr} {i ep:Nat} {es:Array (Int×Value)} {t:SetTable}
theorem It.step {h:Heap} {f:Value} {n:Nat} (hit:It h it a f i n ep):It (h.update it (Obj.mapFields (·.setIfInBounds 1 (rawInt ((i:Int)+1))))) it a f (i+1) n ep:=by
 obtain⟨o,ho,hc,hd⟩:=hit
 exact⟨_,QE _ ho (Obj.isFreed_of_fields (JI hd _)),(Obj.cls_mapFields ..).trans hc,by rw[JI hd];simp[rawInt]⟩
end
end S6
end
section
namespace S6
open PySem PySem.Spec PyProof.Rows P1
section
variable {prog:Program} {w:World} {A:Around} {E:VP_} {s:Shared} {it a:Addr} {i ep:Nat} {es:Array (Int×Value)} {t:SetTable}
end
section
variable {prog:Program} {w:World} {A:Around} {E:VP_} {s:Shared} {a:Addr}
def ai1 (prog:Program) (w:World) (y:Str) (e:Int×Value):Prop:=∃ tk,e=((strKind prog w).hash y,.str y tk)
structure aes (prog:Program) (w:World) (ys:LS_) (es:Array (Int×Value)) (t:SetTable):Prop where
 rel:Paired (ai1 prog w) ys es.toList
 nd:ys.Nodup
 fit:t.fits es.size=true
 led:w.params.followText "set-order" = false->t.led=true
 non:0 < es.size->t.plain=false
def Tx (prog:Program) (w:World) (h:Heap) (a:Addr) (ys:LS_):Prop:=∃ o es ep t,h.get? a=some o/\o.ExactSet/\o.data=.set es ep t/\aes prog w ys es t
theorem Tx.keep {h h':Heap} {ys:LS_} (x:Tx prog w h a ys) (k:∀ o,h.get? a=some o->h'.get? a=some o):Tx prog w h' a ys:=
 let ⟨o,es,ep,t,e,r⟩:=x;⟨o,es,ep,t,k o e,r⟩
theorem aes.size {ys:LS_} {es:Array (Int×Value)} {t:SetTable} (x:aes prog w ys es t):es.size=ys.length:=by rw[x.rel.length];simp
end
section
variable {prog:Program} {w:World} {A:Around} {R:Result->Shared->Prop} {I:Addr} {fp wr:List Addr} {n:Nat} {P:Nat->Value->Prop} {St:Nat->Shared->Prop} {κ:Type} {C:Heap->List κ->Prop} {val:Nat->κ}
end
section
variable {prog:Program} {w:World} {A:Around} {E:VP_} {s:Shared}
end
end S6
end
section
namespace S6
open PySem
def ai2 (xs:Array Nat):Prop:=∀ i j,i < j->j < xs.size->xs.getD i 0 < xs.getD j 0
structure Tb (t:SetTable):Prop where
 mask:t.mask=7\/t.mask=31\/t.mask=127
 dum:t.dummies=#[]
 rise:ai2 t.place
 bd:∀ j:Nat,j∈t.place->j<=t.mask
 full:t.place.size<=t.mask
def ai3 (mask:Nat) (p:SetTable.Probe):SetTable.Probe:=
 if p.more > 0 then { p with j:=p.j+1,more:=p.more - 1 } else
 { p with j:=(SetTable.leap mask p.i p.perturb).1,more:=SetTable.runEnd mask (SetTable.leap mask p.i p.perturb).1 - (SetTable.leap mask p.i p.perturb).1,i:=(SetTable.leap mask p.i p.perturb).1,perturb:=(SetTable.leap mask p.i p.perturb).2 }
def at0 (mask i perturb:Nat):SetTable.Probe:={ j:=i,more:=SetTable.runEnd mask i - i,i,perturb,dummy:=none }
def wlk (mask:Nat) (h:Int):Nat->SetTable.Probe
 |0=>at0 mask (SetTable.bits h % (mask+1)) (SetTable.bits h)
 |n+1=>ai3 mask (wlk mask h n)
def nx (M i:Nat):Nat:=(i * 5+1) % M
structure Tok (t:SetTable) (es:Array (Int×Value)):Prop extends Tb t where
 size:t.place.size=es.size
 reach:∀ (i j:Nat) e,t.place[i]?=some j->es[i]?=some e->∃ n,n < 10 * SetTable.turns t.mask/\(wlk t.mask e.1 n).j=j/\∀ m,m < n->(wlk t.mask e.1 m).j∈t.place
end S6
end
section
namespace S6
open PySem PySem.Spec PyProof.Rows P1 L2
section
variable {prog:Program} {w:World} {A:Around} {E:VP_} {s:Shared} {a:Addr}
abbrev Zb (prog:Program) (w:World) (ks:List Key):Int:=tupleKeyHash (pW prog w) ks
def TE (prog:Program) (w:World) (h:Heap) (z:List Key×Addr) (e:Int×Value):Prop:=e=(Zb prog w z.1,.ref z.2)/\IsTupleKey (pW prog w) h z.1 z.2
structure aeu (prog:Program) (w:World) (h:Heap) (zs:List (List Key×Addr)) (es:Array (Int×Value)) (t:SetTable):Prop where
 rel:Paired (TE prog w h) zs es.toList
 nd:(zs.map (·.1)).Nodup
 tok:Tok t es
 load:es.size * 5 < t.mask * 3
 led:w.params.followText "set-order" = false->t.led=true
 non:0 < es.size->t.plain=false
def Tu (prog:Program) (w:World) (h:Heap) (a:Addr) (zs:List (List Key×Addr)):Prop:=∃ o es ep t,h.get? a=some o/\o.ExactSet/\o.data=.set es ep t/\aeu prog w h zs es t
theorem abC {h h':Heap} {ks:List Key} {b:Addr} (x:IsTupleKey (pW prog w) h ks b) (k:∀ o,h.get? b=some o->o.cls=.type "tuple" → h'.get? b=some o):IsTupleKey (pW prog w) h' ks b:=
 let ⟨o,its,n,e,c,r⟩:=x;⟨o,its,n,k o e c,c,r⟩
theorem Zc {h h':Heap} {zs:List (List Key×Addr)} {l:List (Int×Value)} (k:∀ b o,h.get? b=some o->o.cls=.type "tuple" → h'.get? b=some o) (r:Paired (TE prog w h) zs l):Paired (TE prog w h') zs l:=by
 induction r with
 |nil=>exact .nil
 |cons q _ ih=>exact .cons ⟨q.1,abC q.2 fun o e c=>k _ o e c⟩ ih
theorem Tu.keep {h h':Heap} {zs:List (List Key×Addr)} (x:Tu prog w h a zs) (k:∀ b o,h.get? b=some o->h'.get? b=some o):Tu prog w h' a zs:=
 let ⟨o,es,ep,t,e,r,d,q⟩:=x;⟨o,es,ep,t,k a o e,r,d,⟨Zc (fun b o e _=>k b o e) q.rel,q.nd,q.tok,q.load,q.led,q.non⟩⟩
theorem aeu.size {h:Heap} {zs:List (List Key×Addr)} {es:Array (Int×Value)} {t:SetTable} (x:aeu prog w h zs es t):es.size=zs.length:=by rw[x.rel.length];simp
theorem Tok.fits {t:SetTable} {es:Array (Int×Value)} (h:Tok t es):t.fits es.size=true:=by
 unfold SetTable.fits SetTable.fill
 have h1:=h.full
 have h2:=h.size
 rw[h.dum]
 simp[h2]
 omega
end
end S6
end
section
namespace S1
open PySem PySem.Spec PyProof.Rows L2
section
variable {prog:Program} {w:World} {A:Around} {E:VP_} {s:Shared}
end
end S1
end
section
namespace P1
open PySem PySem.Spec PyProof.Rows L2 S6
section
variable {X:Cx}
def hoS (X:Cx) (a:Addr) (zs:LS_):HO:=.ext fun h=>Tx X.prog X.w h a zs
variable {x:Str} {e:Expr} {f:Ev->Option Bx} {fs:Ev->Option LS_} {p pos:Pos}
end
section
variable {X:Cx}
end
section
variable {X:Cx} {elt tgt iter:Expr} {ifs:List Expr} {scope:Scope} {cl:List (Str×Addr)} {pos:Pos} {xs ts:LS_} {is:List Nat} {gt:Dt->Ev->Option Ev} {p:Ev->Option Bool} {fe:Ev->Option Bx} {fi:Ev->Option (List Dt)}
def AcS (X:Cx) (D:Addr) (_:Hp) (o1:List Dt) (o:HO):Prop:=∃ us,o=hoS X D us/\(∀ z,z∈us↔Dt.str z∈o1)/\us.Nodup/\(∀ z∈us,z.length<=sizeLine)/\us.length<=o1.length
end
section
variable {X:Cx} {elt tgt iter:Expr} {ifs:List Expr} {scope:Scope} {cl:List (Str×Addr)} {pos:Pos} {xs:LS_} {is:List Nat} {gt:Dt->Ev->Option Ev} {p:Ev->Option Bool} {fe:Ev->Option Bx} {fi:Ev->Option (List Dt)}
variable {e:Expr} {f:Ev->Option Bx} {fs:Ev->Option LS_} {p':Pos}
end
end P1
end
section
namespace P1
open PySem PySem.Spec PyProof.Rows L2 S1 S6
section
variable {X:Cx}
def Ts (prog:Program) (w:World) (h:Heap) (a:Addr) (zs:List (List Key×Addr)):Prop:=∃ o es ep t,h.get? a=some o/\o.ExactSet/\o.data=.set es ep t/\es.toList=zs.map (fun z=>(Zb prog w z.1,(.ref z.2:Value)))/\t.fits es.size=true/\(w.params.followText "set-order" = false->t.led=true)/\(0 < es.size->t.plain=false)
theorem Qy {prog:Program} {w:World} {h:Heap}:∀ {zs:List (List Key×Addr)} {l:List (Int×Value)},Paired (TE prog w h) zs l->l=zs.map (fun z=>(Zb prog w z.1,(.ref z.2:Value)))
 |_,_,.nil=>rfl
 |_,_,.cons r t=>by rw[zz,<-Qy t,r.1]
theorem Ts.of {prog:Program} {w:World} {h:Heap} {a:Addr} {zs:List (List Key×Addr)} (x:Tu prog w h a zs):Ts prog w h a zs:=
 let ⟨o,es,ep,t,e,r,d,q⟩:=x;⟨o,es,ep,t,e,r,d,Qy q.rel,q.tok.fits,q.led,q.non⟩
theorem Ts.keep {prog:Program} {w:World} {h h':Heap} {a:Addr} {zs:List (List Key×Addr)} (x:Ts prog w h a zs) (k:∀ o,h.get? a=some o->h'.get? a=some o):Ts prog w h' a zs:=
 let ⟨o,es,ep,t,e,r⟩:=x;⟨o,es,ep,t,k o e,r⟩
end
section
variable {α:Type} [DecidableEq α]
end
section
variable {X:Cx}
def abD (ks:List Key):Bool:=ks.any fun k=>k.isRight
variable {e:Expr} {f:Ev->Option Bx} {fs:Ev->Option (List (List Key))} {p pos:Pos}
end
end P1
end
section
namespace P1
open PySem PySem.Spec PyProof.Rows L2
def ai5 (kvs:List (Key×Dt)):Dt->List (Key×Dt)
 |.tup [.str k,d]=>ai0 kvs (.inr k) d
 |_=>kvs
def dictOf (out:List Dt):List (Key×Dt):=out.foldl ai5 []
section
variable {X:Cx} {pins:List (Addr×Obj)} {σ:L2.St} {H:Hp} {s:Shared} {a:Addr} {A:Around} {E:VP_}
end
section
variable {X:Cx} {kx vx tgt iter:Expr} {ifs:List Expr} {scope:Scope} {cl:List (Str×Addr)} {pos:Pos} {xs ts:LS_} {is:List Nat} {gt:Dt->Ev->Option Ev} {p:Ev->Option Bool} {fk fv:Ev->Option Bx} {fi:Ev->Option (List Dt)}
def AcD (K:FG_) (_:Addr) (H:Hp) (o1:List Dt) (o:HO):Prop:=∃ us,o=.dK us/\sS K H (dictOf o1) us/\us.length<=o1.length
theorem AcD.kp {K:FG_} {D:Addr} {H H':Hp} {o1:List Dt} {o:HO} (k:Kp H H'):AcD K D H o1 o->AcD K D H' o1 o:=fun ⟨us,e,r,z⟩=>⟨us,e,r.kp k,z⟩
end
section
variable {X:Cx} {pins:List (Addr×Obj)} {σ:L2.St} {H:Hp} {s:Shared} {a:Addr} {ks:List (Key×V)} {o:Obj}
end
section
variable {X:Cx} {e elt tgt iter:Expr} {ifs:List Expr} {fd:Ev->Option Bx} {scope:Scope} {cl:List (Str×Addr)} {pos:Pos} {xs ts:LS_} {is:List Nat} {gt:Dt->Ev->Option Ev} {p:Ev->Option Bool} {fe:Ev->Option Bx}
end
section
variable {prog:Program} {w:World} {A:Around} {E:VP_} {s:Shared}
end
section
variable {X:Cx}
end
section
variable {X:Cx} {e:Expr} {es:List Expr} {fs:Ev->Option (List Bx)} {p px pos spos:Pos} {x y:Str} {k n:Nat} {f:Addr} {fd:FuncData} {ps:LS_} {G:Addr->List (Key×Dt)->List Bx->Option (List (Key×Dt))}
end
def isT:Option Bool->Bool
 |some true=>true
 |_=>false
def Zd (x:Dt) (ys:List Dt):Option Bool:=if (ys.all fun y=>(uy y x).isSome&&decide (min (uO y) (uO x)<=60))=true then some (ys.any fun y=>isT (uy y x)) else none
def inX (a b:Bx):Option Bx:=match a with
 |.z d=>(Gq b).bind fun ys=>(Zd d ys).bind fun k=>some (.z (.bl k))
 |_=>none
section
variable {X:Cx} {pins:List (Addr×Obj)} {σ:L2.St} {H:Hp} {s:Shared}
theorem Ze (I:L2.Inv X pins σ H s) (hu:X.A.units+100 < cLine) {d:Dt} {x:V} {u:Value} (rx:Rep X.K H d x) (ru:RelV x u) {ys:List Dt} {vs:List V} {its:List Value} (rs:aV X.K H ys vs) (rv:Vals vs its) {k:Bool} (hk:Zd d ys=some k) :
  ∃ e:Value->Bool,(∀ y,y∈its->SeqAt.EqAt X.A.in1 s y u (e y))/\its.any e=k:=by
 unfold Zd at hk
 split at hk
 ·rename_i hall
  injection hk with hk
  rw[qv] at hall
  have at_:∀ (i:Nat) y,its[i]?=some y->∃ c,ys[i]?=some c/\SeqAt.EqAt X.A.in1 s y u (isT (uy c d)):=fun i y hy=>by
   have hl:=rv.length
   have hl2:=rs.length
   have hi:i < its.length:=(List.getElem?_eq_some_iff.mp hy).1
   have hi':i < ys.length:=by omega
   obtain⟨v,ev,r1⟩:=rs.get (show ys[i]?=some ys[i] by simp[hi'])
   obtain⟨y',ey,r2⟩:=rv.get ev
   rw[hy] at ey
   cases ey
   refine⟨ys[i],by simp[hi'],?_⟩
   have hc:=hall ys[i] (jv hi')
   rw[zi] at hc
   obtain⟨b,hb⟩:=Option.isSome_iff_exists.mp hc.1
   have:=U8 I 60 (A:=X.A.in1) (jn hc.2) (by rw[units_in1];omega) r1 rx r2 ru hb
   rw[hb]
   cases b<;>exact this
  classical
  refine⟨fun y=>decide (∃ (i:Nat) (c:Dt),its[i]?=some y/\ys[i]?=some c/\isT (uy c d)=true),fun y hy=>?_,?_⟩
  ·dsimp only
   by_cases q:∃ (i:Nat) (c:Dt),its[i]?=some y/\ys[i]?=some c/\isT (uy c d)=true
   ·rw[ZO q]
    obtain⟨i,c,h1,h2,h3⟩:=q
    obtain⟨c',e1,e2⟩:=at_ i y h1
    rw[h2] at e1
    cases e1
    rw[h3] at e2
    exact e2
   ·rw[ZH q]
    obtain⟨i,hi,ei⟩:=List.getElem_of_mem hy
    have h1:its[i]?=some y:=by rw[QU hi,ei]
    obtain⟨c,e1,e2⟩:=at_ i y h1
    have:isT (uy c d)=false:=by
     cases hq:isT (uy c d) with
     |false=>rfl
     |true=>exact absurd ⟨i,c,h1,e1,hq⟩ q
    rw[this] at e2
    exact e2
  ·rw[<-hk,Bool.eq_iff_iff,List.any_eq_true,List.any_eq_true]
   constructor
   ·rintro⟨y,hy,h⟩
    obtain⟨i,c,h1,h2,h3⟩:=jn h
    exact⟨c,ki h2,h3⟩
   ·rintro⟨c,hc,h3⟩
    obtain⟨i,hi,ei⟩:=List.getElem_of_mem hc
    have hl:=rv.length
    have hl2:=rs.length
    have hi':i < its.length:=by omega
    exact⟨its[i],jv hi',ZO ⟨i,c,by simp[hi'],by rw[QU hi,ei],h3⟩⟩
 ·cases hk
theorem aev (hu:X.A.units+100 < cLine):Kr X (compareOp .In) inX:=by
 intro pins s σ H x y v u Q I rx ry h
 obtain⟨a,b,c,ra,rb,e,q⟩:=h
 unfold inX at e
 split at e
 ·rename_i d
  obtain⟨ys,ey,e⟩:=bind_some e
  obtain⟨k,ek,e⟩:=bind_some e
  cases e
  obtain⟨p,vs,rfl,sq,rs⟩:=abB rb ey
  cases ry
  rcases sq with sq|sq
  ·obtain⟨its,r',pl,hz⟩:=I.list sq
   obtain⟨f,f1,f2⟩:=Ze I hu ra rx rs r' ek
   refine SeqAt.in_listAt f pl.isList (fun w hw=>f1 w (by simpa using hw)) ⟨.bl k,H,I,by rw[show its.toArray.any f=its.any f by simp,f2];rfl,q _ H (Same.refl H) trivial (by simp only[bx,Rep])⟩
  ·obtain⟨its,r',pl,hz⟩:=I.tuple sq
   obtain⟨f,f1,f2⟩:=Ze I hu ra rx rs r' ek
   refine SeqAt.in_tupleAt f pl (fun w hw=>f1 w (by simpa using hw)) ⟨.bl k,H,I,by rw[show its.toArray.any f=its.any f by simp,f2];rfl,q _ H (Same.refl H) trivial (by simp only[bx,Rep])⟩
 ·cases e
end
section
variable {X:Cx} {g:Ev->Option Out} {st:List Stmt} {i:Nat}
end
open AutoSeq1 (wpAny_loadPart')
open SeqAt
section
variable {X:Cx} {pins:List (Addr×Obj)} {σ:L2.St} {H:Hp} {s:Shared}
end
section
variable {X:Cx} {o e:Expr} {fo fx:Ev->Option Bx}
end
section
variable {X:Cx} {c:Expr} {body:List Stmt} {t:Ev->Option Bool} {g:Ev->Option Out} {pos:Pos}
end
section
variable {X:Cx} {pins:List (Addr×Obj)} {σ:L2.St} {H:Hp} {s:Shared} {h':Heap}
theorem abE {t':Nat} {e it:Addr} {xs:List V} (I:L2.Inv X pins σ H s) (k:∀ b o,b≠e->b≠it->s.heap.get? b=some o->h'.get? b=some o) (fe:yw X pins H e) (fi:yw X pins H it)
  (he:∃ o,h'.get? e=some o) (hi:∃ o,h'.get? it=some o) (new:jQ X.prog X.w (upd H s.heap.objs.size (.tup xs)) h' s.heap.objs.size (.tup xs)):L2.Inv X pins σ (upd H s.heap.objs.size (.tup xs)) { s with heap:=h',toks:=t' }:=by
 have hf:H s.heap.objs.size=none:=I.hok.fresh (zt _)
 have nd:∀ b u,H b=some u->b≠s.heap.objs.size:=fun b u q z=>by rw[z,hf] at q;cases q
 have ne:∀ b u,H b=some u->b≠e/\b≠it:=fun b u q=>⟨fun z=>(by rw[z,fe.1] at q;cases q),fun z=>(by rw[z,fi.1] at q;cases q)⟩
 have nc:∀ b,b∉[e,it]->b≠e/\b≠it:=fun b hb=>⟨fun z=>hb (by simp[z]),fun z=>hb (by simp[z])⟩
 refine I.step (g':=s.gens) (d':=s.drawn) (ch:=[e,it]) (fun b hb=>?_) (fun b o _ _ hc q _=>k b o (nc b hc).1 (nc b hc).2 q) (fun b o _ _ hc q _=>⟨o.slots,k b o (nc b hc).1 (nc b hc).2 q⟩) (fun b o _ q n=>?_)
  (fun b o hc q=>⟨o,k b o (nc b hc).1 (nc b hc).2 q⟩) (fun b ys q=>?_) (fun b o u q=>?_) (fun b ps q=>⟨#[],?_⟩) (fun m hm=>?_) (fun b u q=>?_) I.bare
 ·rcases List.mem_cons.mp hb with rfl|hb
  ·exact⟨fe.2.2.2.1,fe.2.1,fe.2.2.2.2.1,fe.2.2.2.2.2⟩
  ·cases List.mem_singleton.mp hb
   exact⟨fi.2.2.2.1,fi.2.1,fi.2.2.2.2.1,fi.2.2.2.2.2⟩
 ·rw[aP (ZU (zw q))];exact n
 ·rw[aP (nd b _ q)];exact q
 ·rw[aP (nd b _ q)];exact q
 ·rw[aP (nd b _ q),q];simp
 ·obtain⟨o,es,ep,ho,r⟩:=hm
  exact⟨o,es,ep,k _ o (qA fe.2.1) (qA fi.2.1) ho,r⟩
 ·by_cases hb:b=s.heap.objs.size
  ·subst hb
   rw[bK] at q;cases q
   exact new
  ·rw[aP hb] at q
   refine (I.hok b u q).stay (fun c v hc w=>k c v ?_ ?_ w) (fun c w=>?_) fun c ys w=>?_
   ·rcases hc with rfl|z
    ·exact (ne _ _ q).1
    ·exact (ne _ _ z).1
   ·rcases hc with rfl|z
    ·exact (ne _ _ q).2
    ·exact (ne _ _ z).2
   ·rw[aP (nd c _ w)];exact w
   ·rw[aP (nd c _ w)];exact w
end
def Ite (K:FG_) (l:Addr):It:=
 ⟨fun i H=>∃ xs x,uQ K H l xs/\xs[i]?=some x,fun i H v H'=>∃ p x,H p=none/\(∀ xs,uQ K H l xs->xs[i]?=some x)/\v=.ref p/\H'=upd H p (.tup [.int i,x]),fun i H=>∃ xs,uQ K H l xs/\xs.length<=i⟩
theorem WK {P:Program} {w:World} {K:FG_} {elts:List Expr} {x1:Nat} {tpos:Pos} (l e it:Addr) (hne:e≠it) :
  Turn P w K (.Tuple elts x1 tpos) (Ite K l) [e,it] e (fun i h=>(∃ old,IsEnum h e it i old)/\h.IsListIter it l i) where
 mem:=by simp
 obj:=fun i h st b hb=>by
  obtain⟨⟨old,h1⟩,o,h2,_,h3⟩:=st
  rcases List.mem_cons.mp hb with rfl|hb
  ·exact⟨_,h1,fun v z=>by cases z⟩
  ·cases List.mem_singleton.mp hb
   exact⟨o,h2,fun v z=>by rw[h3] at z;cases z⟩
 keep:=fun i h h' st k=>by
  obtain⟨⟨old,h1⟩,h2⟩:=st
  exact⟨⟨old,k e (by simp) _ h1⟩,h2.at fun o q=>k it (by simp) o q⟩
 item:=by
  intro X hP hw hK hc i pins s σ H E I hf st hg
  subst hP hw hK
  obtain⟨⟨old,h1⟩,h2⟩:=st
  obtain⟨xs,x,hq,hx⟩:=hg
  obtain⟨its,rv,p,hz⟩:=I.list hq
  obtain⟨u,hu,ru⟩:=rv.get hx
  have fe:=hf e (by simp)
  have fi:=hf it (by simp)
  refine wpAny_pyNext_enum_item h1 h2 p.isList (x:=u) (by simpa using hu) hne fun h1' ho hit' hT hsz hk=>⟨_,rfl,?_⟩
  refine wpAny_letOwnedTupleGo_enum ho fun h2' agq hsb=>?_
  have elt:e < s.heap.objs.size:=zw h1
  have ilt:it < s.heap.objs.size:=by obtain⟨_,q,_⟩:=h2;exact zw q
  have hT2:h2'.get? s.heap.objs.size=some { cls:=.type "tuple", data:=.seq #[.int i s.toks,u] }:=(hsb.2 _ (Q3 elt)).trans hT
  have hit2:h2'.IsListIter it l (i+1):=hit'.at fun o q=>(hsb.2 it (qA hne)).trans q
  refine⟨.ref s.heap.objs.size,upd H s.heap.objs.size (.tup [.int i,x]),abE (t':=s.toks+1) I (fun b o n1 n2 q=>(hsb.2 b n1).trans (hk b o n1 n2 q)) fe fi ⟨_,agq⟩ (by obtain⟨o,q,_⟩:=hit2;exact⟨o,q⟩) ?_,rfl,⟨_,x,I.hok.fresh (zt _),fun ys hy=>by rw[I.HJ hy hq];exact hx,rfl,rfl⟩,⟨⟨_,by simpa using agq⟩,hit2⟩,fun b hb=>?_⟩
  ·exact⟨by show 2<=sizeLine;decide,[.int i s.toks,u],.cons ⟨_,rfl⟩ (.cons ru .nil),_,hT2,rfl,⟨_,rfl⟩,rfl⟩
  ·rcases List.mem_cons.mp hb with rfl|hb
   ·rw[aP (ZU elt)];exact fe.1
   ·cases List.mem_singleton.mp hb
    rw[aP (ZU ilt)];exact fi.1
 done:=by
  intro X hP hw hK hc i pins s σ H E I hf st hg
  subst hP hw hK
  obtain⟨⟨old,h1⟩,h2⟩:=st
  obtain⟨xs,hq,hx⟩:=hg
  obtain⟨its,rv,p,hz⟩:=I.list hq
  obtain⟨f0,f1,f2,f3,f4,f5⟩:=hf it (by simp)
  have hl:=rv.length
  exact wpAny_pyNext_enum_end (I.ok.hd hc) h1 h2 p.isList (by simp;omega) fun h' eb=>⟨rfl,I.turned (t':=s.toks) (fun b o hb e=>eb b o hb e) f0 f1 f3 f4 f5⟩
 self:=fun _ _ _ _ _ st h=>by
  obtain⟨⟨old,h1⟩,_⟩:=st
  exact wpAny_pyIter_enum h1 h
def FN (ds:List Dt):List Dt:=(List.range ds.length).zipWith (fun k d=>.tup [.int (k:Nat),d]) ds
theorem Ms (ds:List Dt):(FN ds).length=ds.length:=by simp[FN]
theorem WL {ds:List Dt} {i:Nat} {d:Dt} (h:(FN ds)[i]?=some d):∃ c,ds[i]?=some c/\d=.tup [.int (i:Nat),c]:=by
 have hi:i < ds.length:=by
  have:=(List.getElem?_eq_some_iff.mp h).1
  rwa [Ms] at this
 refine⟨ds[i],by simp[hi],?_⟩
 unfold FN at h
 rw[List.getElem?_zipWith] at h
 simp[hi] at h
 exact h.symm
theorem Yields.enum {K:FG_} {Hs:Hp} {l:Addr} {vs:List V} {ds:List Dt} (h:uQ K Hs l vs) (r:aV K Hs ds vs):Yields K (Ite K l) (FN ds) Hs:=fun i H s=>by
 have h':=s.seq h
 have r':=r.kp (.of s)
 refine⟨fun d e=>?_,fun e=>⟨vs,h',by rw[Ms] at e;rw[r.length];exact e⟩⟩
 obtain⟨c,ec,rfl⟩:=WL e
 obtain⟨v,ev,rv⟩:=r'.get ec
 refine⟨⟨vs,v,h',ev⟩,fun x H' y=>?_⟩
 obtain⟨p,x0,hp,hq,rfl,rfl⟩:=y
 have:=hq vs h'
 rw[ev] at this;cases this
 have sm:Same H (upd H p (.tup [.int (i:Nat),v])):=fun b o q=>by rw[aP (bG q hp)];exact q
 refine⟨sm,?_⟩
 simp only[Rep]
 exact⟨p,_,rfl,.inl (.inl bK),aV.cons (by simp only[Rep]) (aV.cons (Rep.kp (.of sm) rv) aV.nil)⟩
section
variable {X:Cx} {elts:List Expr} {x1:Nat} {tpos p pos:Pos} {e:Expr} {fs:Ev->Option (List Bx)}
def iEn (K:FG_) (ta:TA):TI:=fun σ H R=>ta σ H fun vs H1=>∃ l,vs=[.ref l]/\(∃ xs,uQ K H1 l xs)/\R (Ite K l) H1
theorem Vf {ta:TA} (hg:Gl X "enumerate") (hm:X.mg "enumerate" = none) (ha:PA X [e] ta) (hs:starEach [e] X.env=[(false,eval e X.env)]:=by rfl):PI X (.Tuple elts x1 tpos) (.Call (.Name "enumerate" p) [e] [] pos) (iEn X.K ta):=by
 intro pins s σ H R I h
 refine Call_ (HF I hg hm boot_enumerate (PyProof.Rows.callWith_type1 (jy (ha pos pins s σ H _ I h) fun us s1 ⟨vs,H1,I1,r1,q1⟩=>?_) hs rfl))
 obtain⟨l,rfl,⟨xs,hq⟩,q⟩:=q1
 obtain⟨u,rfl,ru⟩:=vals1 r1
 cases ru
 obtain⟨its,rv,p,hz⟩:=I1.list hq
 refine call_enumerate_list p.isList fun h' he hit hsz hk=>?_
 refine wpAny_pyIter_enum he ?_
 refine⟨s1.heap.objs.size+1,[s1.heap.objs.size+1,s1.heap.objs.size],_,_,H1,rfl,I1.kept (t':=s1.toks) hk,WK l _ _ (Q3 (Nat.lt_succ_self _)),⟨⟨_,he⟩,hit⟩,fun b hb=>?_,q⟩
 rcases List.mem_cons.mp hb with rfl|hb
 ·exact I1.V6 (Nat.le_succ _) (I1.hok.fresh (Nat.le_succ _))
 ·cases List.mem_singleton.mp hb
  exact I1.V6 (zt _) (I1.hok.fresh (zt _))
def Qz:List Bx->Option (List Dt)
 |[.z (.lst ds)]=>some (FN ds)
 |_=>none
theorem Zf (hg:Gl X "enumerate") (hm:X.mg "enumerate" = none) (ha:PVs X [e] fs) (hs:starEach [e] X.env=[(false,eval e X.env)]:=by rfl):PIF X (.Tuple elts x1 tpos) (.Call (.Name "enumerate" p) [e] [] pos) (fun ρ=>(fs ρ).bind Qz):=fun pins s σ H R I q=>by
 refine Vf hg hm ha hs pins s σ H R I ?_
 obtain⟨H0,ρ,ds,E,e,q⟩:=q
 obtain⟨bs,eb,e⟩:=bind_some e
 refine⟨H0,ρ,bs,E,eb,fun vs H1 s1 r1=>?_⟩
 unfold Qz at e
 split at e
 ·rename_i ds'
  cases e
  obtain⟨v,rfl,rb⟩:=rep1 r1
  simp only[bx,Rep] at rb
  obtain⟨a,ws,rfl,hq,rs⟩:=rb
  refine⟨a,rfl,⟨ws,hq.sq⟩,q _ _ s1 fun Hs hs hn hf ht=>.enum ?_ (rs.part hf ht)⟩
  rcases hq with⟨o,hq⟩|hq
  ·exact .inl (.inr ⟨o,(hf _ _ _ hq).trans hq⟩)
  ·exact .inr hq
 ·cases e
theorem QC (hg:Gl X "enumerate") (hm:X.mg "enumerate" = none) (ha:U5 X [e] fs) (hs:starEach [e] X.env=[(false,eval e X.env)]:=by rfl):QIF X (.Tuple elts x1 tpos) (.Call (.Name "enumerate" p) [e] [] pos) (fun ρ=>(fs ρ).bind Qz):=⟨Zf hg hm ha.run hs⟩
end
section
variable {X:Cx} {e:Expr} {f:Ev->Option Bx} {pos:Pos}
end
section
variable {X:Cx}
end
section
variable {X:Cx} {e:Expr} {f:Ev->Option Bx} {pos:Pos}
end
section
variable {X:Cx} {e ek ev:Expr} {f fk fv:Ev->Option Bx} {pos:Pos} {st:Stmt}
def noG:Ev->Option Out:=fun _=>none
theorem N7:YJ X st noG:=⟨fun D pins s σ H I q=>by
 obtain⟨H0,ρ,r,E,e,q⟩:=q
 cases e⟩
end
section
variable {X:Cx} {e st:Expr} {f fs:Ev->Option Bx} {pos p2:Pos}
end
section
variable {prog:Program} {w:World} {A:Around} {E:VP_} {s:Shared}
end
section
variable {prog:Program} {w:World} {A:Around} {E:VP_} {s:Shared} {K:Type} [DecidableEq K] {knd:KeyKind prog w K}
end
section
variable {X:Cx} {ea eb:Expr} {fa fb:Ev->Option Bx} {p1 p2 pos1 pos2:Pos}
end
section
variable {X:Cx}
end
theorem Iv {X:Cx} {scope:Scope} {cl:List (Str×Addr)} (xs:LS_) (is:List Nat) (clos:closureFor scope X.env=pure cl:=by with_unfolding_all rfl) (kind:scope.kind=.function:=by rfl) (cell:scope.names.all (fun y=>decide (y.2≠.cell)||(cl.lookup y.1).isNone)=true:=by rfl)
  (names:scope.names.all (fun y=>decide (y.2=.local->scope.names.lookup y.1=some .local))=true:=by decide +kernel) (sub:SubL X.env.cells cl:=by repeat (first|exact trivial|refine⟨rfl,?_⟩))
  (has:(relabel scope X.env).names.all (fun y=>!(y.2==.cell||y.2==.free)||(cl.lookup y.1).isSome||scope.names.contains (y.1,.cell))=true:=by rfl) (cap:KC X scope cl xs is:=by repeat (first|exact aem|refine abx rfl (by first|exact .inl rfl|exact .inr rfl) (by first|exact .inl rfl|exact .inr rfl) ⟨_,rfl⟩ ?_)):Bc X scope cl xs is:=aen clos kind cell names sub has cap
theorem lC {N ps:LS_} {sc:Scope} (h1:sc.kind=.function:=by rfl) (h2:sc.isCoroutine=false:=by rfl) (h3:sc.isGenerator=false:=by rfl) (h4:N.Nodup:=by decide +kernel) (h5:N.take ps.length=ps:=by rfl) (h6:∀ x∈ps,sc.names.lookup x=some .local\/sc.names.lookup x=some .cell:=by decide +kernel) (h7:∀ y∈sc.names,y.2≠.free:=by decide +kernel):bf N ps sc:=⟨h1,h2,h3,h4,h5,h6,h7⟩
instance:Inhabited Dt:=⟨.non⟩
theorem bnd {α β:Type} (a:α) (f:α->Option β):(some a).bind f=f a:=(Q1 a f).trans (Eq.refl _)
def hold:Option Prop->Prop
 |none=>True
 |some p=>p
def bY:Option Prop->Option Prop->Option Prop
 |none,q=>q
 |some p,none=>some p
 |some p,some q=>some (p/\q)
def Iw (c:Prop):Option Prop->Option Prop
 |none=>none
 |some p=>some (c->p)
theorem aF {p q:Option Prop} (h:hold (bY p q)):hold p/\hold q:=by
 cases p with
 |none=>exact⟨trivial,h⟩
 |some p=>cases q with
  |none=>exact⟨h,trivial⟩
  |some q=>exact h
theorem mF {c:Prop} {p:Option Prop} (h:hold (Iw c p)) (hc:c):hold p:=by
 cases p with
 |none=>trivial
 |some p=>exact h hc
structure R {α β:Type} (f:Ev->Option β) (ρ:Ev) (c:α->β) where
 v:α
 D:Option Prop
 ok:hold D->f ρ=some (c v)
abbrev zE {α:Type} (e:α->Dt):α->Bx:=fun a=>.z (e a)
abbrev oE {α:Type} (e:α->Dt):List α->Bx:=fun xs=>.o (xs.map e)
abbrev lE {α:Type} (e:α->Dt):List α->Bx:=fun xs=>.l (xs.map e)
abbrev tE:Bool->Bool:=fun b=>b
abbrev iE {α:Type} (e:α->Dt):List α->List Dt:=fun xs=>xs.map e
abbrev eI:Int->Dt:=Dt.int
abbrev eB:Bool->Dt:=Dt.bl
abbrev eS:Str->Dt:=Dt.str
abbrev eD:Dt->Dt:=fun d=>d
abbrev eL {α:Type} (e:α->Dt):List α->Dt:=fun xs=>.lst (xs.map e)
abbrev eT {α:Type} (e:α->Dt):List α->Dt:=fun xs=>.tup (xs.map e)
abbrev eO {α:Type} (e:α->Dt):Option α->Dt:=fun o=>match o with|none=>.non|some a=>e a
abbrev eP1 {α:Type} (a:α->Dt):α->Dt:=fun x=>.tup [a x]
abbrev eP2 {α β:Type} (a:α->Dt) (b:β->Dt):α×β->Dt:=fun x=>.tup [a x.1,b x.2]
abbrev eP3 {α β γ:Type} (a:α->Dt) (b:β->Dt) (c:γ->Dt):α×β×γ->Dt:=fun x=>.tup [a x.1,b x.2.1,c x.2.2]
abbrev eP4 {α β γ δ:Type} (a:α->Dt) (b:β->Dt) (c:γ->Dt) (d:δ->Dt):α×β×γ×δ->Dt:=fun x=>.tup [a x.1,b x.2.1,c x.2.2.1,d x.2.2.2]
structure RL {α:Type} (f:Ev->Option Bx) (ρ:Ev) (e:α->Dt) where
 v:List α
 D:Option Prop
 b:Bx
 lk:yx b=some (v.map e)
 ok:hold D->f ρ=some b
section
variable {α β γ δ:Type} {ρ:Ev} {f fa fb fc:Ev->Option Bx} {fs:Ev->Option (List Bx)} {e:α->Dt} {e':β->Dt}
def dw (a:R f ρ (oE e)):RL f ρ e:=⟨a.v,a.D,_,rfl,a.ok⟩
def jY (a:R f ρ (lE e)):RL f ρ e:=⟨a.v,a.D,_,rfl,a.ok⟩
def agr (a:R f ρ (zE (eL e))):RL f ρ e:=⟨a.v,a.D,_,rfl,a.ok⟩
def Lp (b:Bx) (ds:List Dt):Prop:=b=.z (.lst ds)\/b=.l ds
theorem Lp.LR {b:Bx} {ds:List Dt} (h:Lp b ds):yx b=some ds:=by rcases h with rfl|rfl<;>rfl
theorem Lp.get {b:Bx} {ds:List Dt} {i:Nat} (h:Lp b ds) (hi:ρ[i]?=some (some b)):Gk ρ i=some b:=by
 rcases h with rfl|rfl<;>(unfold Gk;rw[hi])
theorem Lp.lend {b:Bx} {ds:List Dt} (h:Lp b ds):P1.lend b=b:=by rcases h with rfl|rfl<;>rfl
theorem Mt {b:Bx} {ds:List Dt} (h:yx b=some ds):Lp (P1.lend b) ds:=by
 cases b with
 |z d=>cases d<;>cases h;exact .inl rfl
 |l d=>cases h;exact .inr rfl
 |o d=>cases h;exact .inr rfl
 |n d=>cases h
 |m d _=>cases h
def aq (i:Nat) (c:α->Bx) (a:α) (h:Gk ρ i=some (c a)):R (gv i) ρ c:=⟨a,none,fun _=>h⟩
def cW (i:Nat) (e:α->Dt) (a:List α) {b:Bx} (h:Lp b (a.map e)) (hi:ρ[i]?=some (some b)):RL (gv i) ρ e:=⟨a,none,b,h.LR,fun _=>h.get hi⟩
def z9 (d:Dt) (e:α->Dt) (a:α) (h:d=e a):R (cB d) ρ (zE e):=⟨a,none,fun _=>by rw[h];rfl⟩
def iR (a:R f ρ (zE e)):R f ρ (zE eD):=⟨e a.v,a.D,a.ok⟩
def N8 (a:R f ρ (zE e)):R f ρ (zE (eO e)):=⟨some a.v,a.D,a.ok⟩
def Em {e:α->Dt}:R (cB .non) ρ (zE (eO e)):=⟨none,none,fun _=>rfl⟩
def ags [Inhabited α] (a:R f ρ (zE (eO e))):R f ρ (zE e):=⟨a.v.getD default,bY a.D (some (a.v.isSome=true)),fun h=>by
 obtain⟨h1,h2⟩:=aF h
 rw[a.ok h1]
 have h2:a.v.isSome=true:=h2
 cases hv:a.v with
 |none=>rw[hv] at h2;cases h2
 |some x=>rfl⟩
def Zg (a:R f ρ (oE e)):R (b1 sU f) ρ (zE (eL e)):=⟨a.v,a.D,fun h=>by simp only[b1,a.ok h,bnd,sU]⟩
def iT (a:R f ρ (zE e)):R (b1 sU f) ρ (zE e):=⟨a.v,a.D,fun h=>by simp only[b1,a.ok h,bnd,sU]⟩
def eU (a:R fa ρ (zE eI)) (b:R fb ρ (zE eI)):R (b2 bU fa fb) ρ (zE eI):=⟨a.v+b.v,bY a.D b.D,fun h=>by
 obtain⟨h1,h2⟩:=aF h
 simp only[b2,a.ok h1,b.ok h2,bnd,bU]⟩
def Mul (a b:Int):Prop:=(-18446744073709551616 < a/\a < 18446744073709551616)\/(-18446744073709551616 < b/\b < 18446744073709551616)
def acP (a:R fa ρ (zE eI)) (b:R fb ρ (zE eI)):R (b2 yK fa fb) ρ (zE eI):=⟨a.v * b.v,bY (bY a.D b.D) (some (Mul a.v b.v)),fun h=>by
 obtain⟨h,h3⟩:=aF h
 obtain⟨h1,h2⟩:=aF h
 simp only[b2,a.ok h1,b.ok h2,bnd]
 exact zo h3⟩
def Iz (n:Int) (hn : -18446744073709551616 < n/\n < 18446744073709551616) (b:R fb ρ (zE eI)):R (b2 yK (cB (.int n)) fb) ρ (zE eI):=⟨n * b.v,b.D,fun h=>by
 simp only[b2,b.ok h,bnd,cB]
 exact zo (.inl hn)⟩
def Vg (a:R fa ρ (zE eI)) (n:Int) (hn : -18446744073709551616 < n/\n < 18446744073709551616):R (b2 yK fa (cB (.int n))) ρ (zE eI):=⟨a.v * n,a.D,fun h=>by
 simp only[b2,a.ok h,bnd,cB]
 exact zo (.inr hn)⟩
def aew (a:R fa ρ (zE eI)) (b:R fb ρ (zE eI)):R (b2 uU fa fb) ρ (zE eI):=⟨a.v / b.v,bY (bY a.D b.D) (some (0 < b.v/\b.v < 1073741824)),fun h=>by
 obtain⟨h,h3⟩:=aF h
 obtain⟨h1,h2⟩:=aF h
 have h3:0 < b.v/\b.v < 1073741824:=h3
 simp only[b2,a.ok h1,b.ok h2,bnd,i2,zo h3]⟩
def q9 (a:R fa ρ (zE eI)) (n:Int) (hn:0 < n/\n < 1073741824):R (b2 uU fa (cB (.int n))) ρ (zE eI):=⟨a.v / n,a.D,fun h=>by
 simp only[b2,a.ok h,bnd,i2,cB,zo hn]⟩
def Vh (a:R fa ρ (zE eI)) (b:R fb ρ (zE eI)):R (b2 gP fa fb) ρ (zE eI):=⟨a.v % b.v,bY (bY a.D b.D) (some (0 < b.v)),fun h=>by
 obtain⟨h,h3⟩:=aF h
 obtain⟨h1,h2⟩:=aF h
 have h3:0 < b.v:=h3
 simp only[b2,a.ok h1,b.ok h2,bnd,i2,zo h3]⟩
def dR (a:R fa ρ (zE eI)) (n:Int) (hn:0 < n):R (b2 gP fa (cB (.int n))) ρ (zE eI):=⟨a.v % n,a.D,fun h=>by
 simp only[b2,a.ok h,bnd,i2,cB,zo hn]⟩
def aex (a b:Int) (n:Nat) (h:0<=b/\b<=1000/\a.natAbs < 18446744073709551616) (hb:b.toNat=n):R (b2 abo (cB (.int a)) (cB (.int b))) ρ (zE eI):=⟨a ^ n,none,fun _=>by
 simp only[b2,bnd,cB]
 show ((if 0<=b/\b<=1000/\a.natAbs < 2 ^ 64 then some (Dt.int (a ^ b.toNat)) else none).bind fun d=>some (Bx.z d))=_
 rw[zo h,hb]
 rfl⟩
def KH (a:R fa ρ (zE eI)) (b:R fb ρ (zE eI)):R (b2 leB fa fb) ρ (zE eB):=⟨decide (a.v<=b.v),bY a.D b.D,fun h=>by
 obtain⟨h1,h2⟩:=aF h
 simp only[b2,a.ok h1,b.ok h2,bnd,i2]⟩
def abG (a:R fa ρ (zE eI)) (b:R fb ρ (zE eI)):R (b2 gtB fa fb) ρ (zE eB):=⟨decide (b.v < a.v),bY a.D b.D,fun h=>by
 obtain⟨h1,h2⟩:=aF h
 simp only[b2,a.ok h1,b.ok h2,bnd,i2]⟩
def x_ge (a:R fa ρ (zE eI)) (b:R fb ρ (zE eI)):R (b2 geB fa fb) ρ (zE eB):=⟨decide (b.v<=a.v),bY a.D b.D,fun h=>by
 obtain⟨h1,h2⟩:=aF h
 simp only[b2,a.ok h1,b.ok h2,bnd,i2]⟩
def CG (a:R fa ρ (zE eI)) (b:R fb ρ (zE eI)):R (b2 Tz fa fb) ρ (zE eB):=⟨decide (a.v < b.v),bY a.D b.D,fun h=>by
 obtain⟨h1,h2⟩:=aF h
 simp only[b2,a.ok h1,b.ok h2,bnd,Tz]⟩
end
class Eqs {α:Type} [DecidableEq α] (e:α->Dt) (n:outParam Nat):Prop where
 eq:∀ a b,uy (e a) (e b)=some (decide (a=b))
 dp:∀ a,uO (e a)<=n
class Non {α:Type} (e:α->Dt):Prop where
 l:∀ a,uy .non (e a)=some false
 r:∀ a,uy (e a) .non=some false
instance:Eqs eI 1:=⟨fun a b=>rfl,fun a=>by simp[uO]⟩
instance:Eqs eB 1:=⟨fun a b=>rfl,fun a=>by simp[uO]⟩
instance:Eqs eS 1:=⟨fun a b=>rfl,fun a=>by simp[uO]⟩
instance:Non eI:=⟨fun a=>rfl,fun a=>rfl⟩
instance:Non eB:=⟨fun a=>rfl,fun a=>rfl⟩
instance:Non eS:=⟨fun a=>rfl,fun a=>rfl⟩
section
variable {α β γ δ:Type} [DecidableEq α] [DecidableEq β] [DecidableEq γ] [DecidableEq δ] {e:α->Dt} {e':β->Dt} {e'':γ->Dt} {e3:δ->Dt} {n m k l:Nat}
theorem IK [Eqs e n]:∀ xs ys:List α,lZ (xs.map e) (ys.map e)=some (decide (xs=ys))
 |[],[]=>by simp[lZ]
 |[],y::ys=>by simp[lZ]
 |x::xs,[]=>by simp[lZ]
 |x::xs,y::ys=>by
  simp only[zz,lZ,Eqs.eq,IK xs ys]
  congr 1
  by_cases h:x=y<;>by_cases h':xs=ys<;>simp[h,h']
theorem IV [Eqs e n]:∀ xs:List α,qY (xs.map e)<=n
 |[]=>by simp[qY]
 |x::xs=>by
  have:=Eqs.dp (e:=e) x
  have:=IV xs
  simp only[zz,qY]
  omega
instance [Eqs e n]:Eqs (eL e) (n+1):=⟨fun a b=>IK a b,fun a=>by simp only[uO];have:=IV (e:=e) a;omega⟩
instance [Eqs e n]:Eqs (eT e) (n+1):=⟨fun a b=>IK a b,fun a=>by simp only[uO];have:=IV (e:=e) a;omega⟩
instance:Non (eL e):=⟨fun a=>rfl,fun a=>rfl⟩
instance:Non (eT e):=⟨fun a=>rfl,fun a=>rfl⟩
instance:Non (eP1 e):=⟨fun a=>rfl,fun a=>rfl⟩
instance:Non (eP2 e e'):=⟨fun a=>rfl,fun a=>rfl⟩
instance:Non (eP3 e e' e''):=⟨fun a=>rfl,fun a=>rfl⟩
instance:Non (eP4 e e' e'' e3):=⟨fun a=>rfl,fun a=>rfl⟩
instance [Eqs e n]:Eqs (eP1 e) (n+1):=⟨fun a b=>by
 simp only[Hq,lZ,Eqs.eq,kg],fun a=>by
 have:=Eqs.dp (e:=e) a
 simp only[uO,qY];omega⟩
instance [Eqs e n] [Eqs e' m]:Eqs (eP2 e e') (max n m+1):=⟨fun a b=>by
 obtain⟨a,a'⟩:=a;obtain⟨b,b'⟩:=b
 simp only[Hq,lZ,Eqs.eq,Prod.mk.injEq,Bool.decide_and,kg],fun a=>by
 have:=Eqs.dp (e:=e) a.1;have:=Eqs.dp (e:=e') a.2
 simp only[uO,qY];omega⟩
instance [Eqs e n] [Eqs e' m] [Eqs e'' k]:Eqs (eP3 e e' e'') (max n (max m k)+1):=⟨fun a b=>by
 obtain⟨a,a',a2⟩:=a;obtain⟨b,b',b2⟩:=b
 simp only[Hq,lZ,Eqs.eq,Prod.mk.injEq,Bool.decide_and,kg],fun a=>by
 have:=Eqs.dp (e:=e) a.1;have:=Eqs.dp (e:=e') a.2.1;have:=Eqs.dp (e:=e'') a.2.2
 simp only[uO,qY];omega⟩
instance [Eqs e n] [Eqs e' m] [Eqs e'' k] [Eqs e3 l]:Eqs (eP4 e e' e'' e3) (max n (max m (max k l))+1):=⟨fun a b=>by
 obtain⟨a,a',a2,a3⟩:=a;obtain⟨b,b',b2,b3⟩:=b
 simp only[Hq,lZ,Eqs.eq,Prod.mk.injEq,Bool.decide_and,kg],fun a=>by
 have:=Eqs.dp (e:=e) a.1;have:=Eqs.dp (e:=e') a.2.1;have:=Eqs.dp (e:=e'') a.2.2.1;have:=Eqs.dp (e:=e3) a.2.2.2
 simp only[uO,qY];omega⟩
instance [Eqs e n] [Non e]:Eqs (eO e) (n+1):=⟨fun a b=>by
 cases a with
 |none=>cases b with
  |none=>exact rfl
  |some b=>exact (Non.l (e:=e) b).trans (by simp)
 |some a=>cases b with
  |none=>exact (Non.r (e:=e) a).trans (by simp)
  |some b=>exact (Eqs.eq (e:=e) a b).trans (by simp),fun a=>by
 cases a with
 |none=>show uO .non<=n+1;simp[uO]
 |some a=>exact Nat.le_succ_of_le (Eqs.dp (e:=e) a)⟩
end
section
variable {α β γ δ:Type} {ρ:Ev} {f fa fb fc:Ev->Option Bx} {p q:Ev->Option Bool} {fs:Ev->Option (List Bx)} {e:α->Dt} {e':β->Dt}
def x_eq [DecidableEq α] {n:Nat} [Eqs e n] (hn:n<=100) (a:R fa ρ (zE e)) (b:R fb ρ (zE e)):R (b2 eqB fa fb) ρ (zE eB):=⟨decide (a.v=b.v),bY a.D b.D,fun h=>by
 obtain⟨h1,h2⟩:=aF h
 have:=Eqs.dp (e:=e) a.v
 simp only[b2,a.ok h1,b.ok h2,bnd,eqB,o8,toD,ZI,or_self,qr,Eqs.eq]
 rw[zo (by omega)]⟩
def abH [DecidableEq α] {n:Nat} [Eqs e n] (hn:n<=100) (a:R fa ρ (zE e)) (b:R fb ρ (zE e)):R (b2 Tq fa fb) ρ (zE eB):=⟨!decide (a.v=b.v),bY a.D b.D,fun h=>by
 obtain⟨h1,h2⟩:=aF h
 have:=Eqs.dp (e:=e) a.v
 simp only[b2,a.ok h1,b.ok h2,bnd,Tq,o8,toD,ZI,or_self,qr,Eqs.eq]
 rw[zo (by omega)]⟩
def Aa (a b:Dt):Bool:=(uy a b).getD false
def KJ (a b:Dt):Prop:=(uy a b).isSome=true/\min (uO a) (uO b)<=100
def QD (a:R fa ρ (zE eD)) (b:R fb ρ (zE eD)):R (b2 eqB fa fb) ρ (zE eB):=⟨Aa a.v b.v,bY (bY a.D b.D) (some (KJ a.v b.v)),fun h=>by
 obtain⟨h,h3⟩:=aF h
 obtain⟨h1,h2⟩:=aF h
 obtain⟨h3,h4⟩:KJ a.v b.v:=h3
 simp only[b2,a.ok h1,b.ok h2,bnd,eqB,o8,toD,ZI,or_self,qr,zo h4]
 cases hd:uy a.v b.v with
 |none=>rw[hd] at h3;cases h3
 |some k=>simp only[Aa,hd,bnd,Option.getD_some];exact zo h4⟩
def QF (a:R fa ρ (zE eD)) (b:R fb ρ (zE eD)):R (b2 Tq fa fb) ρ (zE eB):=⟨!Aa a.v b.v,bY (bY a.D b.D) (some (KJ a.v b.v)),fun h=>by
 obtain⟨h,h3⟩:=aF h
 obtain⟨h1,h2⟩:=aF h
 obtain⟨h3,h4⟩:KJ a.v b.v:=h3
 simp only[b2,a.ok h1,b.ok h2,bnd,Tq,o8,toD,ZI,or_self,qr,zo h4]
 cases hd:uy a.v b.v with
 |none=>rw[hd] at h3;cases h3
 |some k=>simp only[Aa,hd,bnd,Option.getD_some];exact zo h4⟩
def acQ (a:R fa ρ (zE (eO e))) (hn:∀ x,Tv (.z (e x))=false):R (b2 isB fa (cB .non)) ρ (zE eB):=⟨a.v.isNone,a.D,fun h=>by
 simp only[b2,a.ok h,bnd,cB,isB]
 cases hv:a.v with
 |none=>rfl
 |some x=>simp only[Option.isNone_some,hn]⟩
def nF (a:R fa ρ (zE eB)) (b:R fb ρ (zE eB)):R (rZ fa fb) ρ (zE eB):=⟨a.v&&b.v,bY a.D (Iw (a.v=true) b.D),fun h=>by
 obtain⟨h1,h2⟩:=aF h
 simp only[rZ,a.ok h1,bnd,Ce]
 cases hv:a.v with
 |true=>simp only[Qb,Jn];exact b.ok (mF h2 hv)
 |false=>simp only[ZI,qr,QA]⟩
def acR (a:R fa ρ (zE eB)):R (YF fa) ρ (zE eB):=⟨!a.v,a.D,fun h=>by simp only[YF,a.ok h,bnd,Ce]⟩
def CJ (a:R fa ρ (zE eB)):R (tV fa) ρ tE:=⟨a.v,a.D,fun h=>by simp only[tV,a.ok h,bnd,YD]⟩
def agt (a:R fa ρ (zE eS)):R (tV fa) ρ tE:=⟨decide (a.v.length≠0),a.D,fun h=>by
 simp only[tV,a.ok h,bnd,YD]
 congr 1
 exact Bool.eq_iff_iff.mpr (by simp)⟩
def eV {g:Bx->Bx->Option Bx} (a:R (b2 g fa fb) ρ (zE eB)):R (qZ g fa fb) ρ tE:=⟨a.v,a.D,fun h=>by simp only[qZ,a.ok h,bnd,Ce]⟩
def aey {g g':Bx->Bx->Option Bx} (a:R (YB g g' fa fb fc) ρ (zE eB)):R (tC3 g g' fa fb fc) ρ tE:=⟨a.v,a.D,fun h=>by simp only[tC3,a.ok h,bnd,Ce]⟩
def Vi (a:R p ρ tE) (b:R q ρ tE):R (Ny p q) ρ tE:=⟨a.v&&b.v,bY a.D (Iw (a.v=true) b.D),fun h=>by
 obtain⟨h1,h2⟩:=aF h
 simp only[Ny,a.ok h1,bnd]
 cases hv:a.v with
 |true=>simp only[Qb,Jn];exact b.ok (mF h2 hv)
 |false=>simp only[ZI,qr,QA]⟩
def Gr (a:R p ρ tE) (b:R q ρ tE):R (Qe p q) ρ tE:=⟨a.v||b.v,bY a.D (Iw (a.v=false) b.D),fun h=>by
 obtain⟨h1,h2⟩:=aF h
 simp only[Qe,a.ok h1,bnd]
 cases hv:a.v with
 |true=>simp only[Qb,Bool.true_or]
 |false=>simp only[ZI,qr,kf];exact b.ok (mF h2 hv)⟩
def w5 (a:R p ρ tE):R (yH p) ρ tE:=⟨!a.v,a.D,fun h=>by simp only[yH,a.ok h,bnd]⟩
def TF {g g':Bx->Bx->Option Bx} (ab:R (b2 g fa fb) ρ (zE eB)) (bc:R (b2 g' fb fc) ρ (zE eB)):R (YB g g' fa fb fc) ρ (zE eB):=⟨ab.v&&bc.v,bY ab.D (Iw (ab.v=true) bc.D),fun h=>by
 obtain⟨h1,h3⟩:=aF h
 have e1:=ab.ok h1
 simp only[b2] at e1
 obtain⟨x,ex,e1⟩:=bind_some e1
 obtain⟨y,ey,e1⟩:=bind_some e1
 simp only[YB,ex,ey,bnd,e1,Ce]
 cases hv:ab.v with
 |true=>
  have e2:=bc.ok (mF h3 hv)
  simp only[b2,ey,bnd] at e2
  simp only[Qb,Jn]
  exact e2
 |false=>simp only[ZI,qr,QA]⟩
def aez {c:α->Bx} (t:R p ρ tE) (a:R fa ρ c) (b:R fb ρ c):R (ifV p fa fb) ρ c:=⟨if t.v=true then a.v else b.v,bY t.D (bY (Iw (t.v=true) a.D) (Iw (t.v=false) b.D)),fun h=>by
 obtain⟨h1,h2⟩:=aF h
 obtain⟨h2,h3⟩:=aF h2
 simp only[ifV,t.ok h1,bnd]
 cases hv:t.v with
 |true=>simp only[Qb];exact a.ok (mF h2 hv)
 |false=>simp only[ZI,qr];exact b.ok (mF h3 hv)⟩
end
section
variable {α β γ δ ε:Type} {ρ:Ev} {f fa fb fc fd:Ev->Option Bx} {p q:Ev->Option Bool} {fs:Ev->Option (List Bx)} {e:α->Dt} {e':β->Dt} {e'':γ->Dt} {e3:δ->Dt}
def aeA (e:α->Dt):R (dj lB aM) ρ (zE (eT e)):=⟨[],none,fun _=>rfl⟩
def aeB (a:R fa ρ (zE e)) (b:R fb ρ (zE e')) (c:R fc ρ (zE e'')) (d:R fd ρ (zE e3)):R (dj lB (ao fa (ao fb (ao fc (ao fd aM))))) ρ (zE (eP4 e e' e'' e3)):=⟨(a.v,b.v,c.v,d.v),bY a.D (bY b.D (bY c.D d.D)),fun h=>by
 obtain⟨h1,h⟩:=aF h
 obtain⟨h2,h⟩:=aF h
 obtain⟨h3,h4⟩:=aF h
 simp only[dj,ao,aM,a.ok h1,b.ok h2,c.ok h3,d.ok h4,bnd];rfl⟩
def bQ (e:α->Dt):R aM ρ (fun xs:List α=>xs.map (zE e)):=⟨[],none,fun _=>rfl⟩
def aC (a:R fa ρ (zE e)) (t:R fs ρ (fun xs:List α=>xs.map (zE e))):R (ao fa fs) ρ (fun xs:List α=>xs.map (zE e)):=⟨a.v::t.v,bY a.D t.D,fun h=>by
 obtain⟨h1,h2⟩:=aF h
 simp only[ao,a.ok h1,t.ok h2,bnd,zz]⟩
theorem CK:∀ xs:List α,NK (xs.map (zE e))=some (xs.map e)
 |[]=>rfl
 |x::xs=>by simp only[zz,NK,CK xs,bnd]
def gQ (t:R fs ρ (fun xs:List α=>xs.map (zE e))) (hl:t.v.length<=1000):R (dj iM fs) ρ (oE e):=⟨t.v,t.D,fun h=>by
 simp only[dj,t.ok h,bnd,iM,zC,zo hl,CK]⟩
def Zh (t:R fs ρ (fun xs:List α=>xs.map (zE e))) (hl:t.v.length<=1000):R (dj lB fs) ρ (zE (eT e)):=⟨t.v,t.D,fun h=>by
 simp only[dj,t.ok h,bnd,lB,zC,zo hl,CK]⟩
def oH (t:R fs ρ (fun xs:List Dt=>xs.map (zE eD))) (hl:t.v.length<=1000):R (dj lB fs) ρ (zE eD):=⟨.tup t.v,t.D,fun h=>by
 simp only[dj,t.ok h,bnd,lB,zC,zo hl,CK,List.map_id_fun',id]⟩
def at' [Inhabited α] (xs:List α) (i:Int):α:=(Hj xs i).getD default
def In (n:Nat) (i:Int):Prop:=-(n:Int)<=i/\i < n
theorem zG {xs:List α} {i:Int} (h:In xs.length i):∃ x,Hj xs i=some x:=by
 obtain⟨h1,h2⟩:=h
 unfold Hj ixN
 by_cases h0:0<=i
 ·rw[zo h0,zo h2]
  exact⟨xs[i.toNat]'(by omega),QU (by omega)⟩
 ·rw[Zs h0,zo h1]
  exact⟨xs[(i+xs.length).toNat]'(by omega),QU (by omega)⟩
theorem aeC {xs:List α} {i:Int} {x:α} (h:Hj xs i=some x):Hj (xs.map e) i=some (e x):=by
 unfold Hj at h ⊢
 rw[zC]
 obtain⟨j,ej,h⟩:=bind_some h
 rw[ej,bnd,Z3,h]
 rfl
theorem aeD [Inhabited α] {xs:List α} {i:Int} (h:In xs.length i):Hj (xs.map e) i=some (e (at' xs i)):=by
 obtain⟨x,hx⟩:=zG h
 rw[aeC hx]
 unfold at'
 rw[hx]
 rfl
theorem abI {b:Bx} {ds:List Dt} {i:Int} (h:yx b=some ds):fK b (.z (.int i))=(Hj ds i).bind fun d=>some (.z d):=by
 cases b with
 |z d=>cases d<;>cases h;rfl
 |l d=>cases h;rfl
 |o d=>cases h;rfl
 |n d=>cases h
 |m d _=>cases h
def ig [Inhabited α] (a:RL fa ρ e) (b:R fb ρ (zE eI)):R (b2 fK fa fb) ρ (zE e):=⟨at' a.v b.v,bY (bY a.D b.D) (some (In a.v.length b.v)),fun h=>by
 obtain⟨h,h3⟩:=aF h
 obtain⟨h1,h2⟩:=aF h
 simp only[b2,a.ok h1,b.ok h2,bnd,abI a.lk,aeD (show In a.v.length b.v from h3)]⟩
def ch (x:Str) (i:Int):Str:=⟨#[(Hj x.cps.toList i).getD 0]⟩
def QG (a:R fa ρ (zE eS)) (b:R fb ρ (zE eI)):R (b2 fK fa fb) ρ (zE eS):=⟨ch a.v b.v,bY (bY a.D b.D) (some (In a.v.length b.v)),fun h=>by
 obtain⟨h,h3⟩:=aF h
 obtain⟨h1,h2⟩:=aF h
 obtain⟨x,hx⟩:=zG (xs:=a.v.cps.toList) (i:=b.v) (show In a.v.length b.v from h3)
 simp only[b2,a.ok h1,b.ok h2,bnd,fK,hx,ch,Option.getD_some]⟩
def jC (d:Dt) (i:Int):Dt:=match fK (.z d) (.z (.int i)) with|some (.z y)=>y|_=>.non
def DX (d:Dt) (i:Int):Prop:=match d with
 |.tup ds=>In ds.length i
 |.lst ds=>In ds.length i
 |.str x=>In x.length i
 |_=>False
def jZ (a:R fa ρ (zE eD)) (b:R fb ρ (zE eI)):R (b2 fK fa fb) ρ (zE eD):=⟨jC a.v b.v,bY (bY a.D b.D) (some (DX a.v b.v)),fun h=>by
 obtain⟨h,h3⟩:=aF h
 obtain⟨h1,h2⟩:=aF h
 have h3:DX a.v b.v:=h3
 simp only[b2,a.ok h1,b.ok h2,bnd]
 show fK (.z a.v) (.z (.int b.v))=some (.z (jC a.v b.v))
 unfold jC
 cases hv:a.v with
 |tup ds=>
  rw[hv] at h3
  obtain⟨x,hx⟩:=zG (show In ds.length b.v from h3)
  simp only[fK,Gq,bnd,hx]
 |lst ds=>
  rw[hv] at h3
  obtain⟨x,hx⟩:=zG (show In ds.length b.v from h3)
  simp only[fK,Gq,bnd,hx]
 |str x=>
  rw[hv] at h3
  obtain⟨c,hx⟩:=zG (xs:=x.cps.toList) (show In x.length b.v from h3)
  simp only[fK,bnd,hx]
 |non=>rw[hv] at h3;exact absurd h3 id
 |bl _=>rw[hv] at h3;exact absurd h3 id
 |int _=>rw[hv] at h3;exact absurd h3 id
 |emp=>rw[hv] at h3;exact absurd h3 id⟩
def cut (xs:List α) (lo hi:Option Int):List α:=(xs.drop (HT.jW xs.length 0 lo)).take (HT.jW xs.length xs.length hi - HT.jW xs.length 0 lo)
theorem Vj (xs:List α) (lo hi:Option Int):cutD (xs.map e) lo hi=(cut xs lo hi).map e:=by
 unfold cutD cut
 rw[zC,List.map_take,List.map_drop]
abbrev pE:Option Int->Option Int:=fun o=>o
def mU:R cM ρ pE:=⟨none,none,fun _=>rfl⟩
def mz (a:R fa ρ (zE eI)):R (dN fa) ρ pE:=⟨some a.v,a.D,fun h=>by simp only[dN,a.ok h,bnd,aeh]⟩
variable {fl fh:Ev->Option (Option Int)}
theorem abJ {b:Bx} {ds:List Dt} {lo hi:Option Int} (h:yx b=some ds):slB b lo hi=some (.o (cutD ds lo hi)):=by
 cases b with
 |z d=>cases d<;>cases h;rfl
 |l d=>cases h;rfl
 |o d=>cases h;rfl
 |n d=>cases h
 |m d _=>cases h
def qN (a:RL fa ρ e) (l:R fl ρ pE) (u:R fh ρ pE):R (uE fa fl fh) ρ (oE e):=⟨cut a.v l.v u.v,bY a.D (bY l.D u.D),fun h=>by
 obtain⟨h1,h⟩:=aF h
 obtain⟨h2,h3⟩:=aF h
 simp only[uE,a.ok h1,l.ok h2,u.ok h3,bnd,abJ a.lk,Vj]⟩
def agu (a:R fa ρ (zE (eT e))) (l:R fl ρ pE) (u:R fh ρ pE):R (uE fa fl fh) ρ (zE (eT e)):=⟨cut a.v l.v u.v,bY a.D (bY l.D u.D),fun h=>by
 obtain⟨h1,h⟩:=aF h
 obtain⟨h2,h3⟩:=aF h
 simp only[uE,a.ok h1,l.ok h2,u.ok h3,bnd,slB,Vj]⟩
def Mu (a:R fa ρ (zE eS)) (l:R fl ρ pE) (u:R fh ρ pE):R (uE fa fl fh) ρ (zE eS):=⟨Txt.slice a.v l.v u.v,bY a.D (bY l.D u.D),fun h=>by
 obtain⟨h1,h⟩:=aF h
 obtain⟨h2,h3⟩:=aF h
 simp only[uE,a.ok h1,l.ok h2,u.ok h3,bnd,slB]⟩
def mC (n:Nat):Prop:=n<=1000000
def uH (a:R fa ρ (zE eS)) (b:R fb ρ (zE eS)):R (b2 bU fa fb) ρ (zE eS):=⟨a.v++b.v,bY (bY a.D b.D) (some (mC (a.v.length+b.v.length))),fun h=>by
 obtain⟨h,h3⟩:=aF h
 obtain⟨h1,h2⟩:=aF h
 simp only[b2,a.ok h1,b.ok h2,bnd,bU,zo (show a.v.length+b.v.length<=Tt from h3)]⟩
def aeE (a:R fa ρ (zE (eT e))) (b:R fb ρ (zE (eT e))):R (b2 bU fa fb) ρ (zE (eT e)):=⟨a.v++b.v,bY (bY a.D b.D) (some (mC (a.v.length+b.v.length))),fun h=>by
 obtain⟨h,h3⟩:=aF h
 obtain⟨h1,h2⟩:=aF h
 simp only[b2,a.ok h1,b.ok h2,bnd,bU,zC,zo (show a.v.length+b.v.length<=Tt from h3),zE,eT,qE]⟩
theorem Zi {b b':Bx} {ds ds':List Dt} (h:yx b=some ds) (h':yx b'=some ds') (hl:ds.length+ds'.length<=Tt):bU b b'=some (.o (ds++ds')):=by
 cases b with
 |z d=>
  cases d<;>cases h
  cases b' with
  |z d'=>cases d'<;>cases h';exact zo hl
  |l d'=>cases h';exact zo hl
  |o d'=>cases h';exact zo hl
  |n d'=>cases h'
  |m d'=>cases h'
 |l d=>
  cases h
  cases b' with
  |z d'=>cases d'<;>cases h';exact zo hl
  |l d'=>cases h';exact zo hl
  |o d'=>cases h';exact zo hl
  |n d'=>cases h'
  |m d'=>cases h'
 |o d=>
  cases h
  cases b' with
  |z d'=>cases d'<;>cases h';exact zo hl
  |l d'=>cases h';exact zo hl
  |o d'=>cases h';exact zo hl
  |n d'=>cases h'
  |m d'=>cases h'
 |n d=>cases h
 |m d _=>cases h
def gn (a:RL fa ρ e) (b:RL fb ρ e):R (b2 bU fa fb) ρ (oE e):=⟨a.v++b.v,bY (bY a.D b.D) (some (mC (a.v.length+b.v.length))),fun h=>by
 obtain⟨h,h3⟩:=aF h
 obtain⟨h1,h2⟩:=aF h
 simp only[b2,a.ok h1,b.ok h2,bnd]
 rw[Zi a.lk b.lk (by rw[zC,zC];exact h3)]
 simp only[oE,qE]⟩
def aeF (a:R fa ρ (zE eS)) (b:R fb ρ (zE eI)):R (b2 yK fa fb) ρ (zE eS):=⟨Txt.mul a.v b.v,bY (bY a.D b.D) (some (b.v<=1000 ∧ -1000<=b.v/\a.v.length<=1000)),fun h=>by
 obtain⟨h,h3⟩:=aF h
 obtain⟨h1,h2⟩:=aF h
 simp only[b2,a.ok h1,b.ok h2,bnd]
 exact zo h3⟩
theorem Zj {b:Bx} {ds:List Dt} (h:yx b=some ds):qF [b]=some (.z (.int ds.length)):=by
 cases b with
 |z d=>cases d<;>cases h;rfl
 |l d=>cases h;rfl
 |o d=>cases h;rfl
 |n d=>cases h
 |m d _=>cases h
theorem Zk {b:Bx} {ds:List Dt} (h:yx b=some ds):Gq b=some ds:=by
 cases b with
 |z d=>cases d<;>cases h;rfl
 |l d=>cases h;rfl
 |o d=>cases h;rfl
 |n d=>cases h
 |m d _=>cases h
def x_len (a:RL fa ρ e):R (dj qF (ao fa aM)) ρ (zE eI):=⟨(a.v.length:Int),a.D,fun h=>by
 simp only[dj,ao,aM,a.ok h,bnd,Zj a.lk,zC]⟩
def Eo (a:R fa ρ (zE eS)):R (dj qF (ao fa aM)) ρ (zE eI):=⟨(a.v.length:Int),a.D,fun h=>by
 simp only[dj,ao,aM,a.ok h,bnd,qF]⟩
def n6:Dt->Int
 |.tup ds=>ds.length
 |.lst ds=>ds.length
 |.str x=>x.length
 |_=>0
def yC:Dt->Bool
 |.tup _=>true
 |.lst _=>true
 |.str _=>true
 |_=>false
def vV (a:R fa ρ (zE eD)):R (dj qF (ao fa aM)) ρ (zE eI):=⟨n6 a.v,bY a.D (some (yC a.v=true)),fun h=>by
 obtain⟨h,h4⟩:=aF h
 have h4:yC a.v=true:=h4
 simp only[dj,ao,aM,a.ok h,bnd]
 cases hv:a.v<;>rw[hv] at h4<;>first|(cases h4;done)|rfl⟩
def zH (a:RL fa ρ e):R (dj uF (ao fa aM)) ρ (zE (eT e)):=⟨a.v,a.D,fun h=>by
 simp only[dj,ao,aM,a.ok h,bnd,uF,Zk a.lk]⟩
def agv (a:R fa ρ (zE eI)):R (dj Wy (ao fa aM)) ρ (zE eI):=⟨if a.v < 0 then -a.v else a.v,a.D,fun h=>by
 simp only[dj,ao,aM,a.ok h,bnd,Wy]⟩
def Zm (a:R fa ρ (zE eB)):R (dj Wz (ao fa aM)) ρ (zE eI):=⟨if a.v=true then 1 else 0,a.D,fun h=>by
 simp only[dj,ao,aM,a.ok h,bnd,Wz]⟩
theorem Mv:∀ l:List Bool,Mj (l.map eB)=some l
 |[]=>rfl
 |a::l=>by simp only[zz,Mj,Mv l,bnd]
def QH (a:RL fa ρ eB):R (dj allB (ao fa aM)) ρ (zE eB):=⟨a.v.all id,a.D,fun h=>by
 simp only[dj,ao,aM,a.ok h,bnd,allB,a.lk,Mv]⟩
def w6 (P:Dt->Bool) (a:R fa ρ (zE e)):R (qR P fa) ρ (zE eB):=⟨P (e a.v),a.D,fun h=>by
 simp only[qR,b1,a.ok h,bnd,o8,toD,ZI,qr]⟩
def ai6 (a:R fa ρ (zE eS)):R (b1 upB fa) ρ (zE eS):=⟨Txt.upper a.v,bY a.D (some (Builtin.Str.tooLong (Txt.upper a.v).length=false)),fun h=>by
 obtain⟨h,h4⟩:=aF h
 simp only[b1,a.ok h,bnd,upB]
 exact zo h4⟩
theorem strs_map:∀ l:LS_,Mp (l.map eS)=some l
 |[]=>rfl
 |a::l=>by simp only[zz,Mp,strs_map l,bnd]
def yL (s:Str) (a:RL fa ρ eS):R (b1 (sy s) fa) ρ (zE eS):=⟨Txt.join s a.v,bY a.D (some ((a.v.map (·.length)).sum+a.v.length * s.length<=100000)),fun h=>by
 obtain⟨h,h4⟩:=aF h
 simp only[b1,a.ok h,bnd,sy,a.lk,strs_map]
 exact zo h4⟩
def Gs:Dt->Int
 |.int i=>i
 |_=>0
def asS:Dt->Str
 |.str x=>x
 |_=>⟨#[]⟩
def sZ (a:R f ρ (zE eD)) (g:Dt->α) (e:α->Dt):R f ρ (zE e):=⟨g a.v,bY a.D (some (a.v=e (g a.v))),fun hd=>by
 obtain⟨h1,h2⟩:=aF hd
 have h2:a.v=e (g a.v):=h2
 rw[a.ok h1]
 show some (Bx.z a.v)=some (Bx.z (e (g a.v)))
 rw[<-h2]⟩
class Flat {α:Type} (e:α->Dt):Prop where
 f:∀ a,Cu (e a)=true
instance:Flat eI:=⟨fun _=>rfl⟩
instance:Flat eB:=⟨fun _=>rfl⟩
instance:Flat eS:=⟨fun _=>rfl⟩
def Vk (a:R fa ρ (zE eS)) (b:R fb ρ (zE eS)):R (b2 inF fa fb) ρ (zE eB):=⟨jX a.v b.v,bY a.D b.D,fun h=>by
 obtain⟨h1,h2⟩:=aF h
 simp only[b2,a.ok h1,b.ok h2,bnd,inF,inB]⟩
end
structure AR {γ:Type} (cA:γ->List Bx->Prop) (fs:Ev->Option (List Bx)) (ρ:Ev) where
 v:γ
 D:Option Prop
 bs:List Bx
 h:cA v bs
 ok:hold D->fs ρ=some bs
section
variable {α β γ δ ε σ:Type} {ρ:Ev} {f fa fb fc fd:Ev->Option Bx} {p q:Ev->Option Bool} {fs:Ev->Option (List Bx)} {e:α->Dt} {e':β->Dt} {e'':γ->Dt} {e3:δ->Dt}
def aN:Unit->List Bx->Prop:=fun _ bs=>bs=[]
def aZ (e:α->Dt) (t:γ->List Bx->Prop):α×γ->List Bx->Prop:=fun x bs=>∃ r,bs=.z (e x.1)::r/\t x.2 r
def aL (e:α->Dt) (t:γ->List Bx->Prop):List α×γ->List Bx->Prop:=fun x bs=>∃ b r,bs=b::r/\yx b=some (x.1.map e)/\t x.2 r
def bC:AR aN aM ρ:=⟨(),none,[],rfl,fun _=>rfl⟩
def cP {t:γ->List Bx->Prop} (a:R fa ρ (zE e)) (r:AR t fs ρ):AR (aZ e t) (ao fa fs) ρ:=⟨(a.v,r.v),bY a.D r.D,_,⟨_,rfl,r.h⟩,fun h=>by
 obtain⟨h1,h2⟩:=aF h
 simp only[ao,a.ok h1,r.ok h2,bnd]⟩
def WM {t:γ->List Bx->Prop} (a:RL fa ρ e) (r:AR t fs ρ):AR (aL e t) (ao fa fs) ρ:=⟨(a.v,r.v),bY a.D r.D,_,⟨_,_,rfl,a.lk,r.h⟩,fun h=>by
 obtain⟨h1,h2⟩:=aF h
 simp only[ao,a.ok h1,r.ok h2,bnd]⟩
def x_call {cA:γ->List Bx->Prop} {F:List Bx->Option Bx} {n:Nat} {c:α->Bx} {T:γ->α} {Df:γ->Option Prop} (S:∀ v bs,cA v bs->bs.length=n/\(hold (Df v)->F (bs.map lend)=some (c (T v)))) (a:AR cA fs ρ):R (bO n F fs) ρ c:=⟨T a.v,bY a.D (Df a.v),fun h=>by
 obtain⟨h1,h2⟩:=aF h
 obtain⟨h3,h4⟩:=S a.v a.bs a.h
 simp only[bO,a.ok h1,bnd,zo h3,h4 h2]⟩
theorem aeG {g:Ev->Option Out} {n:Nat} {bs:List Bx} {c:α->Bx} (x:R g (bs.map some++List.replicate (n - bs.length) none) (fun r=>Out.rt (c r))) (h:hold x.D):eF n g bs=some (c x.v):=by
 unfold eF
 rw[x.ok h]
 rfl
variable {fi:Ev->Option (List Dt)} {gt:Dt->Ev->Option Ev} {fe:Ev->Option Bx} {is:List Nat} {n:Nat}
def ai7 (xs:List α) (P:α->Option Prop):Option Prop:=some (∀ x∈xs,hold (P x))
theorem QK {fs:Ev->Option (List Dt)} {ρ1:Ev} {g:α->List Dt} {π:α->Bool}:∀ xs:List α,(∀ x∈xs,∃ ρ2,gt (e x) ρ1=some ρ2/\p ρ2=some (π x)/\(π x=true->fs ρ2=some (g x)))->Gn gt p fs ρ1 (xs.map e)=some ((xs.filter π).flatMap g)
 |[],_=>rfl
 |x::xs,h=>by
  obtain⟨ρ2,h1,h2,h3⟩:=h x (zS ..)
  have ih:=QK (g:=g) (π:=π) xs fun y hy=>h y (zI _ hy)
  cases hp:π x with
  |true=>simp only[zz,Gn,h1,bnd,h2,hp,Qb,h3 hp,ih,kG,List.flatMap_cons]
  |false=>simp only[zz,Gn,h1,bnd,h2,hp,ih,kG,ZI,qr]
theorem QL {g:α->β}:∀ xs:List α,xs.flatMap (fun x=>[e' (g x)])=(xs.map g).map e'
 |[]=>rfl
 |x::xs=>by rw[List.flatMap_cons,QL xs];rfl
theorem Zo {ρ1:Ev} {g:α->β} {π:α->Bool} (xs:List α) (h:∀ x∈xs,∃ ρ2,gt (e x) ρ1=some ρ2/\p ρ2=some (π x)/\(π x=true->fe ρ2=some (.z (e' (g x))))):Ma gt p fe ρ1 (xs.map e)=some (((xs.filter π).map g).map e'):=by
 rw[<-QL]
 exact QK xs fun x hx=>let ⟨ρ2,h1,h2,h3⟩:=h x hx;⟨ρ2,h1,h2,fun hp=>by rw[h3 hp];rfl⟩
theorem comp_map {ρ1:Ev} {g:α->β} (xs:List α) (h:∀ x∈xs,∃ ρ2,gt (e x) ρ1=some ρ2/\fe ρ2=some (.z (e' (g x)))):Ma gt zZ fe ρ1 (xs.map e)=some ((xs.map g).map e'):=
 (Zo (π:=fun _=>true) xs fun x hx=>let ⟨ρ2,h1,h2⟩:=h x hx;⟨ρ2,h1,rfl,fun _=>h2⟩).trans (by rw[List.filter_eq_self.mpr fun _ _=>rfl])
def vW (it:R fi ρ (iE e)) (ρ2:α->Ev) (hg:∀ x,gt (e x) (sV is ρ++List.replicate n none)=some (ρ2 x)) (b:∀ x,R fe (ρ2 x) (zE e')):R (oZ fi gt zZ fe is n) ρ (oE e'):=⟨it.v.map fun x=>(b x).v,bY (bY it.D (some (it.v.length<=100000))) (ai7 it.v fun x=>(b x).D),fun h=>by
 obtain⟨h,h3⟩:=aF h
 obtain⟨h1,h2⟩:=aF h
 have h3:∀ x∈it.v,hold (b x).D:=h3
 simp only[oZ,it.ok h1,bnd,zC,zo (show it.v.length<=100000 from h2),comp_map it.v fun x hx=>⟨ρ2 x,hg x,(b x).ok (h3 x hx)⟩]⟩
def Vl (it:R fi ρ (iE e)) (ρ2:α->Ev) (hg:∀ x,gt (e x) (sV is ρ++List.replicate n none)=some (ρ2 x)) (b:∀ x,R fe (ρ2 x) (zE e')) (hb:∀ x,(b x).D=none):R (oZ fi gt zZ fe is n) ρ (oE e'):=⟨it.v.map fun x=>(b x).v,bY it.D (some (it.v.length<=100000)),fun h=>by
 obtain⟨h1,h2⟩:=aF h
 simp only[oZ,it.ok h1,bnd,zC,zo (show it.v.length<=100000 from h2),comp_map it.v fun x hx=>⟨ρ2 x,hg x,(b x).ok (by rw[hb x];trivial)⟩]⟩
def aeH (a:RL fa ρ e):R (Ml fa) ρ (iE e):=⟨a.v,a.D,fun h=>by
 have:Ws a.b=some (a.v.map e):=by
  have:=a.lk
  revert this
  generalize a.b=b
  generalize a.v.map e=ds
  intro this
  cases b with
  |z d=>cases d<;>cases this;rfl
  |l d=>cases this;rfl
  |o d=>cases this;rfl
  |n d=>cases this
  |m d _=>cases this
 simp only[Ml,a.ok h,bnd,this]⟩
def agw (a:R fa ρ (zE (eT e))):R (Ml fa) ρ (iE e):=⟨a.v,a.D,fun h=>by simp only[Ml,a.ok h,bnd,Ws]⟩
def chars (x:Str):LS_:=x.cps.toList.map fun c=>⟨#[c]⟩
theorem IW (x:Str):signs x=(chars x).map eS:=by
 unfold signs chars
 rw[Q4]
 rfl
def agx (a:R fa ρ (zE eS)):R (Ml fa) ρ (iE eS):=⟨chars a.v,a.D,fun h=>by simp only[Ml,a.ok h,bnd,Ws,IW]⟩
def DY:Dt->List Dt
 |.tup ds=>ds
 |.lst ds=>ds
 |.str x=>signs x
 |_=>[]
def abK (a:R fa ρ (zE eD)):R (Ml fa) ρ (iE eD):=⟨DY a.v,bY a.D (some (yC a.v=true)),fun h=>by
 obtain⟨h,h4⟩:=aF h
 have h4:yC a.v=true:=h4
 simp only[Ml,a.ok h,bnd]
 cases hv:a.v<;>rw[hv] at h4<;>first|(cases h4;done)|(simp only[Ws,DY,iE,eD,List.map_id_fun',id])⟩
def aeI (a:R fa ρ (oE e)):R (itF fa) ρ (iE e):=⟨a.v,a.D,fun h=>by simp only[itF,a.ok h,bnd,ad7]⟩
def rng (i:Int) (n:Nat):List Int:=(List.range n).map fun k:Nat=>i+(k:Int)
theorem Vm (i:Int) (n:Nat):NQ i n=(rng i n).map eI:=by
 unfold NQ rng
 rw[Q4]
 rfl
def Rg (j:Int):Prop:=-4611686018427387904<=j/\j < 4611686018427387904
def QM (a:R fa ρ (zE eI)):R (XS (ao fa aM)) ρ (iE eI):=⟨rng 0 a.v.toNat,bY a.D (some (Rg a.v)),fun h=>by
 obtain⟨h,h4⟩:=aF h
 simp only[XS,ao,aM,a.ok h,bnd]
 show (if -(2 ^ 62)<=a.v/\a.v < 2 ^ 62 then some (NQ 0 a.v.toNat) else none)=_
 exact (zo h4).trans (by rw[Vm])⟩
def aeJ (n:Int) (m:Nat) (hm:n.toNat=m) (hn:Rg n):R (XS (ao (cB (.int n)) aM)) ρ (iE eI):=⟨rng 0 m,none,fun _=>by
 simp only[XS,ao,aM,bnd,cB]
 show (if -(2 ^ 62)<=n/\n < 2 ^ 62 then some (NQ 0 n.toNat) else none)=_
 exact (zo hn).trans (by rw[Vm,hm])⟩
end
section
variable {α β γ δ ε σ τ:Type} {ρ:Ev} {f fa fb fc fd:Ev->Option Bx} {p q:Ev->Option Bool} {fs:Ev->Option (List Bx)} {e:α->Dt} {e':β->Dt} {g g1 g2 k:Ev->Option Out} {cO:γ->Out} {gt:Dt->Ev->Option Ev}
theorem Bd {ρ':Ev} (h:g1 ρ=some (.nx ρ')):aG g1 k ρ=k ρ':=by
 unfold aG
 rw[h]
 rfl
def bw (x:R (aG g (aG g1 k)) ρ cO):R (aG (aG g g1) k) ρ cO:=⟨x.v,x.D,fun h=>by
 rw[<-x.ok h]
 unfold aG
 cases g ρ with
 |none=>rfl
 |some o=>cases o<;>rfl⟩
def bM (x:R k ρ cO):R (aG dI k) ρ cO:=⟨x.v,x.D,fun h=>x.ok h⟩
def eY {is:List Nat} (x:γ) (h:cO x=.nx (kill is ρ)):R (jB is) ρ cO:=⟨x,none,fun _=>by rw[h];rfl⟩
def bW {c:α->Bx} (inj:α->γ) (a:R f ρ c) (h:∀ x,cO (inj x)=.rt (c x)) (hc:∀ x,YK (c x)=some (.rt (c x))):R (aG (dY f) k) ρ cO:=⟨inj a.v,a.D,fun hd=>by
 have:dY f ρ=some (.rt (c a.v)):=by unfold dY;rw[a.ok hd,bnd,hc]
 unfold aG
 rw[this,h]
 rfl⟩
def aeK {c:α->Bx} (i:Nat) (inj:α->γ) (a:α) (hi:ρ[i]?=some (some (c a))) (h:∀ x,cO (inj x)=.rt (c x)) (hc:∀ x,YK (c x)=some (.rt (c x))):R (aG (Tf i) k) ρ cO:=⟨inj a,none,fun hd=>by
 have:Tf i ρ=some (.rt (c a)):=by unfold Tf;rw[hi];exact hc a
 unfold aG
 rw[this,h]
 rfl⟩
def cF {c:α->Bx} (i:Nat) (a:R f ρ c) (hc:∀ x,YL ρ i (c x)=some (ρ.set i (some (c x)))) (K:∀ x,R k (ρ.set i (some (c x))) cO):R (aG (setG i f) k) ρ cO:=⟨(K a.v).v,bY a.D (K a.v).D,fun hd=>by
 obtain⟨h1,h2⟩:=aF hd
 rw[Bd (ρ':=ρ.set i (some (c a.v))) (by unfold setG;rw[a.ok h1,bnd,hc,bnd])]
 exact (K a.v).ok h2⟩
def agy (i j:Nat) (a:R fa ρ (zE e)) (b:R fb ρ (zE e')) (K:∀ x y,R k ((ρ.set i (some (.z (e x)))).set j (some (.z (e' y)))) cO):R (aG (aek i j (ao fa (ao fb aM))) k) ρ cO:=⟨(K a.v b.v).v,bY (bY a.D b.D) (K a.v b.v).D,fun hd=>by
 obtain⟨h1,h3⟩:=aF hd
 obtain⟨h1,h2⟩:=aF h1
 rw[Bd (ρ':=(ρ.set i (some (.z (e a.v)))).set j (some (.z (e' b.v)))) (by unfold aek;simp only[ao,aM,a.ok h1,b.ok h2,bnd,abf])]
 exact (K a.v b.v).ok h3⟩
def CN (i:Nat) (xs:List α) (hi:ρ[i]?=some (some (.o (xs.map e)))) (a:R f ρ (zE e)) (K:∀ ys:List α,R k (ρ.set i (some (.o (ys.map e)))) cO):R (aG (Ir i f) k) ρ cO:=⟨(K (xs++[a.v])).v,bY (bY a.D (some (mC xs.length))) (K (xs++[a.v])).D,fun hd=>by
 obtain⟨h1,h3⟩:=aF hd
 obtain⟨h1,h2⟩:=aF h1
 have h2:xs.length<=1000000:=h2
 rw[Bd (ρ':=ρ.set i (some (.o ((xs++[a.v]).map e)))) (by
  unfold Ir
  rw[a.ok h1,bnd]
  simp only[abg,hi,zC,qE,zz,QP]
  rw[zo (Nat.lt_of_le_of_lt h2 (by decide))])]
 exact (K _).ok h3⟩
def gR (t:R p ρ tE) (a:R (aG g1 k) ρ cO) (b:R (aG g2 k) ρ cO):R (aG (rR p g1 g2) k) ρ cO:=⟨if t.v=true then a.v else b.v,bY t.D (bY (Iw (t.v=true) a.D) (Iw (t.v=false) b.D)),fun hd=>by
 obtain⟨h1,h2⟩:=aF hd
 obtain⟨h2,h3⟩:=aF h2
 have e1:∀ c,t.v=c->aG (rR p g1 g2) k ρ=aG (if c=true then g1 else g2) k ρ:=fun c hc=>by
  unfold aG rR
  rw[t.ok h1,bnd,hc]
  cases c<;>rfl
 cases hv:t.v with
 |true=>rw[e1 true hv];simp only[Qb];exact a.ok (mF h2 hv)
 |false=>rw[e1 false hv];simp only[ZI,qr];exact b.ok (mF h3 hv)⟩
def QS (E:σ->Ev) (t:R p ρ tE) (a:R g1 ρ (fun s=>Out.nx (E s))) (b:R g2 ρ (fun s=>Out.nx (E s))) (K:∀ s,R k (E s) cO):R (aG (rR p g1 g2) k) ρ cO:=⟨(K (if t.v=true then a.v else b.v)).v,bY (bY t.D (bY (Iw (t.v=true) a.D) (Iw (t.v=false) b.D))) (K (if t.v=true then a.v else b.v)).D,fun hd=>by
 obtain⟨h,h4⟩:=aF hd
 obtain⟨h1,h2⟩:=aF h
 obtain⟨h2,h3⟩:=aF h2
 rw[Bd (ρ':=E (if t.v=true then a.v else b.v)) (by
  unfold rR
  rw[t.ok h1,bnd]
  cases hv:t.v with
  |true=>simp only[Qb];exact a.ok (mF h2 hv)
  |false=>simp only[ZI,qr];exact b.ok (mF h3 hv))]
 exact (K _).ok h4⟩
def Ep (step:σ->α->σ) (P:σ->α->Option Prop):List α->σ->Prop
 |[],_=>True
 |x::xs,s=>hold (P s x)/\Ep step P xs (step s x)
theorem Ja {gb:Ev->Option Out} (E:σ->Ev) (ρ2:σ->α->Ev) (hg:∀ s x,gt (e x) (E s)=some (ρ2 s x)) (body:∀ s x,R gb (ρ2 s x) (fun s=>Out.nx (E s))):∀ (xs:List α) (s:σ),Ep (fun s x=>(body s x).v) (fun s x=>(body s x).D) xs s->Gm gt gb (xs.map e) (E s)=some (.nx (E (xs.foldl (fun s x=>(body s x).v) s)))
 |[],s,_=>rfl
 |x::xs,s,h=>by
  simp only[zz,Gm,hg,bnd,(body s x).ok h.1,List.foldl_cons]
  exact Ja E ρ2 hg body xs _ h.2
variable {fi:Ev->Option (List Dt)} {gb:Ev->Option Out}
def Mw (E:σ->Ev) (s0:σ) (hE:ρ=E s0) (it:R fi ρ (iE e)) (ρ2:σ->α->Ev) (hg:∀ s x,gt (e x) (E s)=some (ρ2 s x)) (body:∀ s x,R gb (ρ2 s x) (fun s=>Out.nx (E s))) (K:∀ s,R k (E s) cO):R (aG (uG fi gt gb) k) ρ cO:=⟨(K (it.v.foldl (fun s x=>(body s x).v) s0)).v,bY (bY it.D (some (Ep (fun s x=>(body s x).v) (fun s x=>(body s x).D) it.v s0))) (K (it.v.foldl (fun s x=>(body s x).v) s0)).D,fun hd=>by
 obtain⟨h,h4⟩:=aF hd
 obtain⟨h1,h2⟩:=aF h
 rw[Bd (ρ':=E (it.v.foldl (fun s x=>(body s x).v) s0)) (by
  unfold uG
  rw[it.ok h1,bnd]
  subst hE
  exact Ja E ρ2 hg body it.v s0 h2)]
 exact (K _).ok h4⟩
def aeL (E:σ->Ev) (s0:σ) (hE:ρ=E s0) (it:R fi ρ (iE e)) (ρ2:σ->α->Ev) (hg:∀ s x,gt (e x) (E s)=some (ρ2 s x)) (body:∀ s x,R gb (ρ2 s x) (fun s=>Out.nx (E s))) (hb:∀ s x,(body s x).D=none) (K:∀ s,R k (E s) cO):R (aG (uG fi gt gb) k) ρ cO:=⟨(K (it.v.foldl (fun s x=>(body s x).v) s0)).v,bY it.D (K (it.v.foldl (fun s x=>(body s x).v) s0)).D,fun hd=>by
 obtain⟨h1,h4⟩:=aF hd
 have h2:∀ (xs:List α) (s:σ),Ep (fun s x=>(body s x).v) (fun s x=>(body s x).D) xs s:=fun xs=>by
  induction xs with
  |nil=>intro s;trivial
  |cons x xs ih=>intro s;exact⟨by show hold (body s x).D;rw[hb s x];trivial,ih _⟩
 rw[Bd (ρ':=E (it.v.foldl (fun s x=>(body s x).v) s0)) (by
  unfold uG
  rw[it.ok h1,bnd]
  subst hE
  exact Ja E ρ2 hg body it.v s0 (h2 _ _))]
 exact (K _).ok h4⟩
inductive Ab (σ τ:Type) where
 |nx (s:σ)|rt (r:τ)|bk (s:σ)|ct (s:σ)
def cC (E:σ->Ev) (c:τ->Bx):Ab σ τ->Out
 |.nx s=>.nx (E s)
 |.rt r=>.rt (c r)
 |.bk s=>.bk (E s)
 |.ct s=>.ct (E s)
def rz (step:σ->α->Ab σ τ):List α->σ->Ab σ τ
 |[],s=>.nx s
 |x::xs,s=>match step s x with
  |.nx s'=>rz step xs s'
  |.ct s'=>rz step xs s'
  |.bk s'=>.nx s'
  |.rt r=>.rt r
def CP (step:σ->α->Ab σ τ) (P:σ->α->Option Prop):List α->σ->Prop
 |[],_=>True
 |x::xs,s=>hold (P s x)/\match step s x with
  |.nx s'=>CP step P xs s'
  |.ct s'=>CP step P xs s'
  |.bk _=>True
  |.rt _=>True
theorem Oa {c:τ->Bx} (E:σ->Ev) (ρ2:σ->α->Ev) (hg:∀ s x,gt (e x) (E s)=some (ρ2 s x)) (body:∀ s x,R gb (ρ2 s x) (cC E c)):∀ (xs:List α) (s:σ),CP (fun s x=>(body s x).v) (fun s x=>(body s x).D) xs s->Gm gt gb (xs.map e) (E s)=some (cC E c (rz (fun s x=>(body s x).v) xs s))
 |[],s,_=>rfl
 |x::xs,s,h=>by
  obtain⟨h1,h2⟩:=h
  dsimp only at h2
  simp only[zz,Gm,hg,bnd,(body s x).ok h1,rz]
  revert h2
  cases (body s x).v with
  |nx s'=>intro h2;exact Oa E ρ2 hg body xs s' h2
  |ct s'=>intro h2;exact Oa E ρ2 hg body xs s' h2
  |bk s'=>intro _;rfl
  |rt r=>intro _;rfl
theorem Jb (step:σ->α->Ab σ τ):∀ (xs:List α) (s:σ),(∃ s',rz step xs s=.nx s')\/∃ r,rz step xs s=.rt r
 |[],s=>.inl ⟨s,rfl⟩
 |x::xs,s=>by
  unfold rz
  cases step s x with
  |nx s'=>exact Jb step xs s'
  |ct s'=>exact Jb step xs s'
  |bk s'=>exact .inl ⟨s',rfl⟩
  |rt r=>exact .inr ⟨r,rfl⟩
def behind (r:Ab σ τ) (inj:τ->γ) (K:σ->γ):γ:=match r with
 |.rt r=>inj r
 |.nx s=>K s
 |.bk s=>K s
 |.ct s=>K s
def CQ (r:Ab σ τ) (K:σ->Prop):Prop:=match r with
 |.rt _=>True
 |.nx s=>K s
 |.bk s=>K s
 |.ct s=>K s
def abL (r:Ab σ τ) (K:σ->Option Prop):Option Prop:=some (CQ r fun s=>hold (K s))
def R.to {α β:Type} {f:Ev->Option β} {ρ:Ev} {c:α->β} (x:R f ρ c) (v':α) (D':Option Prop) (hv:x.v=v':=by kernel_rfl) (hD:x.D=D':=by kernel_rfl):R f ρ c:=⟨v',D',fun h=>by
 subst hv hD
 exact x.ok h⟩
def TJ {c:τ->Bx} (E:σ->Ev) (s0:σ) (hE:ρ=E s0) (it:R fi ρ (iE e)) (ρ2:σ->α->Ev) (hg:∀ s x,gt (e x) (E s)=some (ρ2 s x)) (body:∀ s x,R gb (ρ2 s x) (cC E c)) (inj:τ->γ) (hj:∀ r,cO (inj r)=.rt (c r)) (K:∀ s,R k (E s) cO):R (aG (uG fi gt gb) k) ρ cO:=⟨behind (rz (fun s x=>(body s x).v) it.v s0) inj fun s=>(K s).v,bY (bY it.D (some (CP (fun s x=>(body s x).v) (fun s x=>(body s x).D) it.v s0))) (abL (rz (fun s x=>(body s x).v) it.v s0) fun s=>(K s).D),fun hd=>by
 obtain⟨h,h4⟩:=aF hd
 obtain⟨h1,h2⟩:=aF h
 have e1:uG fi gt gb ρ=some (cC E c (rz (fun s x=>(body s x).v) it.v s0)):=by
  unfold uG
  rw[it.ok h1,bnd]
  subst hE
  exact Oa E ρ2 hg body it.v s0 h2
 rcases Jb (fun s x=>(body s x).v) it.v s0 with⟨s',es⟩|⟨r,es⟩
 ·rw[es] at e1 h4 ⊢
  rw[Bd e1]
  exact (K s').ok h4
 ·rw[es] at e1 ⊢
  show aG (uG fi gt gb) k ρ=some (cO (inj r))
  unfold aG
  rw[e1,hj]
  rfl⟩
class Ky {κ:Type} (c:κ->Key):Prop where
 inj:∀ a b,c a=c b->a=b
abbrev kS:Str->Key:=Sum.inr
abbrev kI:Int->Key:=Sum.inl
instance:Ky kS:=⟨fun _ _ h=>by cases h;rfl⟩
instance:Ky kI:=⟨fun _ _ h=>by cases h;rfl⟩
section
variable {κ:Type} [DecidableEq κ] {c:κ->Key}
def has (m:List (κ×α)) (x:κ):Bool:=m.any fun q=>decide (q.1=x)
end
end
section
variable {α β:Type} {ρ:Ev} {fa f:Ev->Option Bx} {fs:Ev->Option LS_} {fi:Ev->Option (List Dt)} {e:α->Dt}
theorem abM {b:Bx} {ds:List Dt} (h:yx b=some ds):Gq b=some ds:=by
 cases b with
 |z d=>cases d<;>first|exact h|(cases h;done)
 |l _=>exact h
 |o _=>exact h
 |n _=>cases h
 |m _ _=>cases h
theorem acS (n:Nat):∃ m,m=n:=⟨n,rfl⟩
noncomputable def kN (n:Nat):Nat:=Classical.choose (acS n)
theorem Zq (n:Nat):kN n=n:=Classical.choose_spec (acS n)
noncomputable def aeM (n:Int) (m:Nat) (hm:n.toNat=m) (hn:Rg n):R (XS (ao (cB (.int n)) aM)) ρ (iE eI):=⟨rng 0 (kN m),none,fun h=>by rw[Zq];exact (aeJ n m hm hn).ok h⟩
end
end P1
end
section
namespace P1
open PySem PySem.Spec PyProof.Rows L2 S1 S6
class tu {α:Type} (e:α->Dt) where
 k:α->Key
 ok:∀ a,ago (e a)=some (k a)
 inj:∀ a b,k a=k b->a=b
 same:∀ a b,Vd (k a) (k b)=true
instance:tu eI:=⟨fun i=>.inl i,fun _=>rfl,fun a b h=>by cases h;rfl,fun _ _=>rfl⟩
instance:tu eS:=⟨fun i=>.inr i,fun _=>rfl,fun a b h=>by cases h;rfl,fun _ _=>rfl⟩
class Kys {α:Type} (e:α->Dt) where
 k:α->List Key
 ok:∀ a,Ve (e a)=some (k a)
 inj:∀ a b,k a=k b->a=b
 shp:∀ a b,abA (k a) (k b)=true
 ne:∀ a,(k a).isEmpty=false
class aeN {α:Type} (e:α->Dt) [Kys e]:Prop where
 tx:∀ a,abD (Kys.k e a)=true
section
variable {α β γ δ:Type} {e:α->Dt} {e':β->Dt} {e'':γ->Dt} {e3:δ->Dt}
instance [tu e] [tu e']:Kys (eP2 e e'):=⟨fun q=>[tu.k e q.1,tu.k e' q.2],fun q=>by simp only[Ve,Qx,tu.ok,bnd],fun a b h=>by
 simp only[qc,and_true] at h
 exact Prod.ext (tu.inj _ _ h.1) (tu.inj _ _ h.2),fun a b=>by simp[abA,tu.same],fun _=>rfl⟩
instance [tu e] [tu e'] [tu e'']:Kys (eP3 e e' e''):=⟨fun q=>[tu.k e q.1,tu.k e' q.2.1,tu.k e'' q.2.2],fun q=>by simp only[Ve,Qx,tu.ok,bnd],fun a b h=>by
 simp only[qc,and_true] at h
 exact Prod.ext (tu.inj _ _ h.1) (Prod.ext (tu.inj _ _ h.2.1) (tu.inj _ _ h.2.2)),fun a b=>by simp[abA,tu.same],fun _=>rfl⟩
instance [tu e] [tu e'] [tu e''] [tu e3]:Kys (eP4 e e' e'' e3):=⟨fun q=>[tu.k e q.1,tu.k e' q.2.1,tu.k e'' q.2.2.1,tu.k e3 q.2.2.2],fun q=>by simp only[Ve,Qx,tu.ok,bnd],fun a b h=>by
 simp only[qc,and_true] at h
 exact Prod.ext (tu.inj _ _ h.1) (Prod.ext (tu.inj _ _ h.2.1) (Prod.ext (tu.inj _ _ h.2.2.1) (tu.inj _ _ h.2.2.2))),fun a b=>by simp[abA,tu.same],fun _=>rfl⟩
instance [tu e]:aeN (eP2 e eS):=⟨fun a=>by simp[Kys.k,abD,tu.k]⟩
instance [tu e] [tu e']:aeN (eP3 e eS e'):=⟨fun a=>by simp[Kys.k,abD,tu.k]⟩
instance [tu e] [tu e'] [tu e'']:aeN (eP4 e eS e' e''):=⟨fun a=>by simp[Kys.k,abD,tu.k]⟩
variable {ρ:Ev} {fa f:Ev->Option Bx} {fs:Ev->Option (List (List Key))}
end
end P1
end
section
namespace P1
open PySem PySem.Spec PyProof.Rows L2
section
variable {α β γ:Type} {ρ:Ev} {fa fb fd f fk fv:Ev->Option Bx} {fs:Ev->Option (List Bx)} {fi:Ev->Option (List Dt)} {e:α->Dt} {e':β->Dt} {g k:Ev->Option Out} {cO:γ->Out} {gt:Dt->Ev->Option Ev} {p:Ev->Option Bool} {is:List Nat} {n:Nat}
end
section
variable {α:Type} {ρ:Ev} {fa fb:Ev->Option Bx} {e:α->Dt}
end
end P1
end
section
namespace P1
open PySem PySem.Spec PyProof.Rows L2 S1 S6
section
variable {ρ:Ev} {fa:Ev->Option Bx}
end
section
variable {α:Type} {ρ:Ev} {f:Ev->Option Bx} {e:α->Dt}
theorem map_some (e:α->Dt) (xs:List α):(xs.map some).map (eO e)=xs.map e:=by rw[Q4];rfl
end
end P1
end
section
namespace P1
open PySem PySem.Spec PyProof.Rows L2
section
variable {α:Type} {k g:Ev->Option Out} {ρ:Ev} {cO:α->Out}
end
section
variable {α:Type} {e:α->Dt} {ρ:Ev} {fa fb:Ev->Option Bx}
end
section
variable {σ τ γ:Type} {p:Ev->Option Bool} {gb k:Ev->Option Out} {ρ:Ev} {cO:γ->Out}
end
section
variable {α:Type} {e:α->Dt} {ρ:Ev} {fa:Ev->Option Bx}
def enF (fs:Ev->Option (List Bx)):Ev->Option (List Dt):=fun ρ=>(fs ρ).bind Qz
def qT (xs:List α):List (Int×α):=(List.range xs.length).zipWith (fun (k:Nat) x=>((k:Int),x)) xs
theorem WQ (xs:List α):FN (xs.map e)=(qT xs).map (eP2 eI e):=by
 unfold FN qT
 rw[zC,List.zipWith_map_right,List.map_zipWith]
def Zr (a:R fa ρ (zE (eL e))):R (enF (ao fa aM)) ρ (iE (eP2 eI e)):=⟨qT a.v,a.D,fun h=>by
 simp only[enF,ao,aM,a.ok h,bnd,zE,eL,Qz,WQ]⟩
end
section
variable {α β σ τ:Type}
theorem Vn {step:σ->α->σ} {P:σ->α->Option Prop} (I:Nat->σ->Prop):∀ (xs:List α) (m:Nat) (s0:σ),I m s0->(∀ k x s,xs[k]?=some x->I (m+k) s->hold (P s x)/\I (m+k+1) (step s x))->Ep step P xs s0/\I (m+xs.length) (xs.foldl step s0)
 |[],m,s0,h0,_=>⟨trivial,h0⟩
 |x::xs,m,s0,h0,hs=>by
  obtain⟨h1,h2⟩:=hs 0 x s0 rfl h0
  have:=Vn I xs (m+1) (step s0 x) h2 fun k y s e h=>by
   have:=hs (k+1) y s (by simpa using e) (by rw[show m+(k+1)=m+1+k by omega];exact h)
   rw[show m+(k+1)+1=m+1+k+1 by omega] at this
   exact this
  refine⟨⟨h1,this.1⟩,?_⟩
  rw[Qr,show m+(xs.length+1)=m+1+xs.length by omega]
  exact this.2
theorem abO {i:Int} {n k:Nat} {x:Int} (h:(rng i n)[k]?=some x):x=i+k/\k < n:=by
 unfold rng at h
 rw[Z3] at h
 cases hk:(List.range n)[k]? with
 |none=>rw[hk] at h;cases h
 |some j=>
  rw[hk] at h
  have hl:k < n:=by simpa using (List.getElem?_eq_some_iff.mp hk).1
  have:j=k:=by
   rw[List.getElem?_range hl] at hk
   cases hk;rfl
  subst this
  cases h
  exact⟨rfl,hl⟩
theorem Vo (i:Int) (n:Nat):(rng i n).length=n:=by unfold rng;simp
theorem uW {step:σ->Int->σ} {P:σ->Int->Option Prop} (I:Nat->σ->Prop) (n:Nat) (s0:σ) (h0:I 0 s0) (hs:∀ (k:Nat) s,k < n->I k s->hold (P s k)/\I (k+1) (step s k)):Ep step P (rng 0 n) s0/\I n ((rng 0 n).foldl step s0):=by
 have:=Vn (P:=P) I (rng 0 n) 0 s0 h0 fun k x s e h=>by
  obtain⟨rfl,hk⟩:=abO e
  rw[Nat.zero_add] at h ⊢
  rw[Int.zero_add]
  exact hs k s hk h
 rw[Vo,Nat.zero_add] at this
 exact this
theorem Jc {step:Unit->α->Ab Unit Bool} {P:Unit->α->Option Prop}:∀ xs:List α,(∀ x∈xs,hold (P () x)/\(step () x=.nx ()\/step () x=.ct ()))->rz step xs ()=.nx ()/\CP step P xs ()
 |[],_=>⟨rfl,trivial⟩
 |x::xs,h=>by
  obtain⟨h1,h2⟩:=h x (zS ..)
  have ih:=Jc (P:=P) xs fun y hy=>h y (zI _ hy)
  rcases h2 with h2|h2
  ·exact⟨by unfold rz;rw[h2];exact ih.1,h1,by rw[h2];exact ih.2⟩
  ·exact⟨by unfold rz;rw[h2];exact ih.1,h1,by rw[h2];exact ih.2⟩
theorem Er [Inhabited α] {xs:List α} {i:Int} (h:In xs.length i):at' xs i∈xs:=by
 obtain⟨x,hx⟩:=zG h
 unfold at'
 rw[hx]
 unfold Hj at hx
 obtain⟨j,_,hx⟩:=bind_some hx
 exact ki hx
theorem in_of {n:Nat} {i:Int} (h0:0<=i) (h1:i < n):In n i:=⟨by omega,h1⟩
theorem TQ {n k:Nat} (h:k < n):In n (k:Int):=⟨by omega,by omega⟩
theorem oJ {n:Nat} {x m:Int} (hm:0 < m) (h:m<=n):In n (x % m):=in_of (Int.emod_nonneg _ (by omega)) (Int.lt_of_lt_of_le (Int.emod_lt_of_pos _ hm) h)
theorem j4 (x:Int) {m:Int} (hm:0 < m):0<=x % m/\x % m < m:=⟨Int.emod_nonneg _ (by omega),Int.emod_lt_of_pos _ hm⟩
theorem QT {j:Int} (h0:0<=j) (h1:j<=1000000):Rg j:=⟨by omega,by omega⟩
theorem acT {a b:Int} (h0:0<=a) (h1:a < 18446744073709551616):Mul a b:=.inl ⟨by omega,h1⟩
theorem vX {xs:List α} {lo hi:Option Int} {x:α} (h:x∈cut xs lo hi):x∈xs:=List.mem_of_mem_drop (List.mem_of_mem_take h)
theorem Vp (xs:List α) (lo hi:Option Int):(cut xs lo hi).length<=xs.length:=by
 unfold cut
 rw[kc,qk]
 omega
theorem uX {xs:List α} {k:Nat} (h:k<=xs.length):cut xs (some (k:Int)) none=xs.drop k:=by
 unfold cut
 rw[HT.UJ,HT.PL,Nat.min_eq_left h,List.take_of_length_le (by simp)]
theorem Zt {xs:List α} {k:Nat} (h:k<=xs.length):cut xs none (some (k:Int))=xs.take k:=by
 unfold cut
 rw[HT.UJ,HT.PL,Nat.min_eq_left h,Nat.sub_zero,List.drop_zero]
theorem jc (x y:Str):(x++y).length=x.length+y.length:=by
 show (x.cps++y.cps).size=_
 rw[Array.size_append]
 rfl
theorem vY (x:Str) (i:Int):(ch x i).length=1:=rfl
theorem slice_le (x:Str) (l u:Option Int):(Txt.slice x l u).length<=x.length:=PyProof.Txt.length_slice_le x l u
theorem WR (x:Str):(chars x).length=x.length:=by unfold chars;rw[zC,ko];rfl
theorem WT (x:Str):(signs x).length=x.length:=by rw[IW,zC,WR]
end
section
variable {α γ:Type} [Inhabited α] {e:α->Dt} {ρ:Ev} {f:Ev->Option Bx} {k:Ev->Option Out} {cO:γ->Out}
end
section
variable {ρ:Ev} {fa:Ev->Option Bx}
end
section
variable {α γ:Type} {e:α->Dt} {ρ:Ev} {f:Ev->Option Bx} {k:Ev->Option Out} {cO:γ->Out}
end
section
variable {α β γ:Type} {e:α->Dt} {f fa fb:Ev->Option Bx} {k g:Ev->Option Out} {ρ:Ev} {cO:γ->Out}
def Vq [Inhabited γ]:R (aG noG k) ρ cO:=⟨default,some False,fun h=>absurd h id⟩
end
section
variable {α:Type} {e:α->Dt} {f fa fb:Ev->Option Bx} {ρ:Ev}
end
section
variable {α β γ:Type} {e:α->Dt} {e':β->Dt} {fa fb:Ev->Option Bx} {ρ:Ev}
end
def RP {α β:Type} (f:Ev->Option β) (ρ:Ev) (c:α->β) (v:α) (D:Option Prop):Prop:=hold D->f ρ=some (c v)
theorem R.tp {α β:Type} {f:Ev->Option β} {ρ:Ev} {c:α->β} {v':α} {D':Option Prop} (x:R f ρ c) (hv:x.v=v':=by kernel_rfl) (hD:x.D=D':=by kernel_rfl):RP f ρ c v' D':=fun h=>by
 subst hv hD
 exact x.ok h
def RP.r {α β:Type} {f:Ev->Option β} {ρ:Ev} {c:α->β} {v:α} {D:Option Prop} (h:RP f ρ c v D):R f ρ c:=⟨v,D,h⟩
theorem len1 {α:Type} {p:List α->Prop} (h:∀ a,p [a]):∀ us:List α,us.length=1->p us
 |[a],_=>h a
theorem len2 {α:Type} {p:List α->Prop} (h:∀ a b,p [a,b]):∀ us:List α,us.length=2->p us
 |[a,b],_=>h a b
theorem abP {α:Type} {p:List α->Prop} (h:∀ a b c,p [a,b,c]):∀ us:List α,us.length=3->p us
 |[a,b,c],_=>h a b c
end P1
end
section
namespace P1
open PySem PySem.Spec PyProof.Rows L2 S1
section
variable {prog:Program} {w:World} {A:Around} {E:VP_} {s:Shared}
end
section
variable {X:Cx}
end
section
variable {fa:Ev->Option Bx} {ρ:Ev}
end
end P1
end
section
namespace P1
open PySem PySem.Spec PyProof.Rows L2
section
variable {i n:Nat} {is:List Nat} {f:Ev->Option Bx} {fs:Ev->Option (List Bx)} {p:Ev->Option Bool} {gt:Dt->Ev->Option Ev} {g1 g2 gb:Ev->Option Out}
end
section
variable {X:Cx} {st:Stmt} {rest:List Stmt} {g1 g2:Ev->Option Out}
end
section
variable {P:Program} {w:World} {K:FG_} {mg:Str->Option Value} {base:Heap}
end
section
variable {X:Cx} {pins:List (Addr×Obj)} {σ:L2.St} {H:Hp} {s:Shared} {a:Addr} {ks:List V} {o:Obj}
end
def Fr3 (Hb Hc H:Hp) (σ:L2.St) (i:Nat):Prop:=∃ (t p0 p1 p2:Addr) (x0 x1 x2:List V) (o0 o1 o2:Obj),(x0.length < 1000/\x2.length < 1000)/\σ[i]?=some (some (.ref t))/\H t=some (.tup [.ref p0,.ref p1,.ref p2])/\(H p0=some (.BK o0 (.lst x0))/\H p1=some (.BK o1 (.lst x1))/\H p2=some (.BK o2 (.lst x2)))/\(Hc p0=none/\Hc p1=none/\Hc p2=none)/\(p0≠p1/\p0≠p2/\p1≠p2)/\(∀ ob u,Hb p0≠some (.BK ob u))/\(∀ ob u,Hb p1≠some (.BK ob u))/\∀ ob u,Hb p2≠some (.BK ob u)
theorem Fr3.grow {Hb Hc H H':Hp} {σ σ':L2.St} {i:Nat} (h:Fr3 Hb Hc H σ i) (s:Same H H') (hs:σ'[i]?=σ[i]?):Fr3 Hb Hc H' σ' i:=by
 obtain⟨t,p0,p1,p2,x0,x1,x2,o0,o1,o2,l,e,ht,⟨h0,h1,h2⟩,r⟩:=h
 exact⟨t,p0,p1,p2,x0,x1,x2,o0,o1,o2,l,by rw[hs];exact e,s _ _ ht,⟨s _ _ h0,s _ _ h1,s _ _ h2⟩,r⟩
section
variable {X:Cx} {i:Nat} {M0 M1 M2 er:Expr} {f0 f2 f:Ev->Option Bx} {d0 d2:Dt} {z0 z1 z2 z3:Pos}
end
theorem bT.sl {K:FG_} {H0 H:Hp} {σ:L2.St} {ρ:Ev} (E:bT K H0 H σ ρ) {i:Nat} (h:∀ c,ρ[i]?≠some (some c)) (v:Option V):bT K H0 H (σ.set i v) ρ:=by
 have ne:∀ {j:Nat} {c:Bx},ρ[j]?=some (some c)->(σ.set i v)[j]?=σ[j]?:=fun e=>kl (fun z=>h _ (z▸e))
 exact⟨by rw[QI];exact E.len,fun j b e=>by rw[ne e];exact E.val j b e,fun j k c a b e1 e2 e3 e4 e5 e6=>E.own j k c a b e1 e2 (by rw[<-ne e1];exact e3) e4 e5 (by rw[<-ne e4];exact e6),E.base,fun j c a e1 e2 e3=>E.new j c a e1 e2 (by rw[<-ne e1];exact e3)⟩
section
variable {X:Cx} {st:List Stmt} {g:Ev->Option Out} {f fr fe:Ev->Option Bx} {p:Ev->Option Bool} {i i':Nat} {W:List Nat} {c e:Expr} {pos z:Pos}
end
section
variable {a b c g g1 g2 gb:Ev->Option Out} {f:Ev->Option Bx} {p:Ev->Option Bool} {i k:Nat} {gt:Dt->Ev->Option Ev}
end
end P1
end
section
namespace P1
open PySem PySem.Spec PyProof.Rows L2 S6
section
variable {X:Cx} {elt kx vx t1 i1 t2 i2:Expr} {f1 f2:List Expr} {scope:Scope} {cl:List (Str×Addr)} {pos:Pos} {xs:LS_} {is:List Nat} {g1 g2:Dt->Ev->Option Ev} {p1 p2:Ev->Option Bool} {fe fk fv:Ev->Option Bx} {fi1 fi2:Ev->Option (List Dt)} {fs:Ev->Option (List Dt)} {N m:Nat} {Ac:Addr->Hp->List Dt->HO->Prop} {el:Addr->Env->Sem Unit}
def cls2 (fi:Ev->Option (List Dt)) (gt:Dt->Ev->Option Ev) (p:Ev->Option Bool) (fs:Ev->Option (List Dt)) (is:List Nat) (n:Nat):Ev->Option (List Dt):=fun ρ=>(fi ρ).bind fun ds=>Gn gt p fs (sV is ρ++List.replicate n none) ds
theorem AcL.no {K:FG_} {D:Addr} {H:Hp} {o1:List Dt} {o:HO}:AcL K D H o1 o->(∀ ob u,o≠.BK ob u)/\∀ vs,o≠.tup vs:=fun ⟨_,e,_⟩=>by subst e;exact⟨fun _ _ z=>(by cases z),fun _ z=>(by cases z)⟩
theorem AcS.no {D:Addr} {H:Hp} {o1:List Dt} {o:HO}:AcS X D H o1 o->(∀ ob u,o≠.BK ob u)/\∀ vs,o≠.tup vs:=fun ⟨_,e,_⟩=>by subst e;exact⟨fun _ _ z=>(by cases z),fun _ z=>(by cases z)⟩
end
end P1
end
section
namespace P1
open PySem PySem.Spec PyProof.Rows L2
section
variable {α β:Type} {ρ:Ev} {e:α->Dt} {e':β->Dt} {p:Ev->Option Bool} {fi fs:Ev->Option (List Dt)} {gt:Dt->Ev->Option Ev} {fe:Ev->Option Bx} {is:List Nat} {n:Nat}
end
section
variable {X:Cx}
end
section
variable {ρ:Ev} {fa fb:Ev->Option Bx}
end
def hx (h:Heap) (a:Addr):HO:=.ext fun h'=>h'.get? a=h.get? a
def LD (o:Option HO):Prop:=(∃ xs,o=some (.lst xs))\/∃ ks,o=some (.dK ks)
section
variable {X:Cx} {pins:List (Addr×Obj)} {σ:L2.St} {H H2:Hp} {s:Shared} {as:List Addr}
theorem LD.at {P:Program} {w:World} {H H':Hp} {h h':Heap} {a:Addr} {o:HO} (k:LD (some o)) (e:h'.get? a=h.get? a) (x:jQ P w H h a o):jQ P w H' h' a o:=by
 rcases k with⟨xs,hk⟩|⟨ks,hk⟩
 ·cases hk
  obtain⟨z,its,n,v,g⟩:=x
  exact⟨z,its,n,v,e.trans g⟩
 ·cases hk
  obtain⟨z,hd,vs,kv,o,es,ep,ho,r⟩:=x
  exact⟨z,hd,vs,kv,o,es,ep,e.trans ho,r⟩
theorem LD.obj {P:Program} {w:World} {H:Hp} {h:Heap} {a:Addr} (k:LD (H a)) (x:Ba P w H h):∃ o,h.get? a=some o:=by
 rcases k with⟨xs,hk⟩|⟨ks,hk⟩
 ·obtain⟨_,its,n,_,g⟩:=x a _ hk
  exact⟨_,g⟩
 ·obtain⟨_,_,vs,_,o,es,ep,ho,_⟩:=x a _ hk
  exact⟨o,ho⟩
end
section
variable {X:Cx} {pins:List (Addr×Obj)} {σ:L2.St} {H:Hp} {s:Shared}
structure Gp (K:FG_) (H:Hp) (D:Addr) (gs:List (Int×Addr×List Dt)):Prop where
 d:H D=some (.dK (gs.map fun g=>(Sum.inl g.1,V.ref g.2.1)))
 l:∀ g∈gs,∃ vs,H g.2.1=some (.lst vs)/\aV K H g.2.2 vs
 k:(gs.map (·.1)).Nodup
 a:(gs.map (·.2.1)).Nodup
def gpA (D:Addr) (gs:List (Int×Addr×List Dt)):List Addr:=D::gs.map (·.2.1)
theorem Gp.ld {K:FG_} {H:Hp} {D:Addr} {gs:List (Int×Addr×List Dt)} (G:Gp K H D gs):∀ a∈gpA D gs,LD (H a):=fun a ha=>by
 rcases List.mem_cons.mp ha with rfl|ha
 ·exact .inr ⟨_,G.d⟩
 ·obtain⟨g,hg,rfl⟩:=List.mem_map.mp ha
  obtain⟨vs,e,_⟩:=G.l g hg
  exact .inl ⟨vs,e⟩
theorem Gp.kept {K:FG_} {H H':Hp} {D:Addr} {gs:List (Int×Addr×List Dt)} (G:Gp K H D gs) (h:∀ a∈gpA D gs,H' a=H a) (r:∀ ds vs,aV K H ds vs->aV K H' ds vs):Gp K H' D gs:=
 ⟨(h D (zS ..)).trans G.d,fun g hg=>let ⟨vs,e,q⟩:=G.l g hg;⟨vs,(h _ (zI _ (List.mem_map.mpr ⟨g,hg,rfl⟩))).trans e,r _ _ q⟩,G.k,G.a⟩
theorem Gp.same {K:FG_} {H H':Hp} {D:Addr} {gs:List (Int×Addr×List Dt)} (G:Gp K H D gs) (s:Same H H'):Gp K H' D gs:=
 ⟨s _ _ G.d,fun g hg=>let ⟨vs,e,q⟩:=G.l g hg;⟨vs,s _ _ e,q.kp (.of s)⟩,G.k,G.a⟩
theorem Gp.val {gs:List (Int×Addr×List Dt)} {k:Int}:∀ {w:V},BW (gs.map fun g=>((Sum.inl g.1:Key),V.ref g.2.1)) (Sum.inl k)=some w->∃ g∈gs,g.1=k/\w=.ref g.2.1:=by
 induction gs with
 |nil=>intro w e;cases e
 |cons g gs ih=>
  intro w e
  rw[zz] at e
  by_cases hk:g.1=k
  ·rw[BX (by rw[hk])] at e
   cases e
   exact⟨g,zS ..,hk,rfl⟩
  ·rw[BZ (by simpa using hk)] at e
   obtain⟨g',h1,h2,h3⟩:=ih e
   exact⟨g',zI _ h1,h2,h3⟩
end
section
variable {K:FG_} {H:Hp} {D l:Addr} {gs:List (Int×Addr×List Dt)} {k:Int} {x:Dt} {u:V}
theorem Gp.new (G:Gp K H D gs) (hn:BW (gs.map fun g=>((Sum.inl g.1:Key),V.ref g.2.1)) (Sum.inl k)=none) (hl:H l=some (.lst [])) (hla:l∉gpA D gs) :
  Gp K (upd H D (.dK (putK (gs.map fun g=>(Sum.inl g.1,V.ref g.2.1)) (Sum.inl k) (.ref l)))) D (gs++[(k,l,[])]):=by
 have kp:Kp H (upd H D (.dK (putK (gs.map fun g=>(Sum.inl g.1,V.ref g.2.1)) (Sum.inl k) (.ref l)))):=.dk G.d
 have hany:((gs.map fun g=>((Sum.inl g.1:Key),V.ref g.2.1)).any fun kv=>decide (kv.1=Sum.inl k))=false:=by rw[PX,hn];rfl
 have hlD:l≠D:=fun z=>hla (by rw[z];exact zS ..)
 have hkn:k∉gs.map (·.1):=fun z=>by
  obtain⟨g,hg,e⟩:=List.mem_map.mp z
  have:=List.any_eq_false.mp hany _ (List.mem_map.mpr ⟨g,hg,rfl⟩)
  simp only[Zp] at this
  exact this (by rw[e])
 refine⟨?_,fun g hg=>?_,?_,?_⟩
 ·rw[bK,putK,Zs (by rw[hany];exact zg),qE];rfl
 ·rcases List.mem_append.mp hg with hg|hg
  ·obtain⟨vs,e,r⟩:=G.l g hg
   exact⟨vs,by rw[aP fun z=>by rw[z,G.d] at e;cases e];exact e,r.kp kp⟩
  ·cases List.mem_singleton.mp hg
   exact⟨[],by rw[aP hlD];exact hl,aV.nil⟩
 ·rw[qE,List.nodup_append]
  exact⟨G.k,by simp,fun a ha b hb=>by cases List.mem_singleton.mp hb;exact fun z=>hkn (by rw[z] at ha;exact ha)⟩
 ·rw[qE,List.nodup_append]
  exact⟨G.a,by simp,fun a ha b hb=>by cases List.mem_singleton.mp hb;exact fun z=>hla (zI _ (by rw[z] at ha;exact ha))⟩
end
section
variable {X:Cx} {iter e1 e2 c ev:Expr} {fi:Ev->Option (List Dt)} {f1 f2 fv:Ev->Option Bx} {p:Ev->Option Bool} {x y w:Str} {pw py py2 py3 px p1 p2 p3 p4 pl a1 a2 c1 c2 pos:Pos}
end
end P1
end
section
namespace P1
open PySem PySem.Spec PyProof.Rows L2 S6
section
variable {X:Cx} {kx vx t1 i1 t2 i2:Expr} {f1 f2:List Expr} {scope:Scope} {cl:List (Str×Addr)} {pos:Pos} {xs:LS_} {is:List Nat} {g1 g2:Dt->Ev->Option Ev} {p1 p2:Ev->Option Bool} {fk fv:Ev->Option Bx} {fi1 fi2:Ev->Option (List Dt)} {m:Nat}
theorem AcD.no {K:FG_} {D:Addr} {H:Hp} {o1:List Dt} {o:HO}:AcD K D H o1 o->(∀ ob u,o≠.BK ob u)/\∀ vs,o≠.tup vs:=fun ⟨_,e,_⟩=>by subst e;exact⟨fun _ _ z=>(by cases z),fun _ z=>(by cases z)⟩
end
end P1
end
section
namespace P1
open PySem PySem.Spec PyProof.Rows L2
section
variable {α β γ:Type} {ρ:Ev} {e:α->Dt} {e0:β->Dt} {fa fb fd f1 f2 fv:Ev->Option Bx} {p:Ev->Option Bool} {fi:Ev->Option (List Dt)} {kk:Ev->Option Out} {cO:γ->Out}
end
section
variable {X:Cx}
end
section
variable {α β:Type} {e:α->Dt} {ρ:Ev} {fa:Ev->Option Bx} {p:Ev->Option Bool} {fi fs:Ev->Option (List Dt)} {gt:Dt->Ev->Option Ev} {is:List Nat} {n:Nat}
end
section
variable {X:Cx} {a:Expr} {fa:Ev->Option Bx} {pos:Pos}
end
theorem cH {α:Type} {g:Ev->Option Out} {n:Nat} {bs:List Bx} {c:α->Bx} {v:α} {D:Option Prop} (x:RP g (bs.map some++List.replicate (n - bs.length) none) (fun r=>Out.rt (c r)) v D) (h:hold D):eF n g bs=some (c v):=aeG x.r h
section
variable {α:Type} {e:α->Dt} {ρ:Ev} {fa:Ev->Option Bx}
end
open PySem.Builtin PySem.Builtin.Str
section
variable {X:Cx}
theorem Zu:MtR X "str.split" (fun x xs H Q=>∃ y z,x=.str y/\xs=[.str z]/\(z.length==0)=false/\y.length<=100000/\∀ l H',Same H H'->H l=none->H' l=some (.lst ((Txt.split y z).map V.str))->Q (.ref l) H'):=by
 intro pins s σ H x xs v us Q I rx rs h
 obtain⟨y,z,rfl,rfl,hz,hy,q⟩:=h
 obtain⟨t,rfl⟩:=rx
 obtain⟨u,rfl,ru⟩:=vals1 rs
 obtain⟨t2,rfl⟩:=ru
 have sl:(100002:Nat)<=sizeLine:=by decide
 have hl:=split_le y z
 have fin:∀ (l:List (Str×Tok)) (tk:Nat),l.map (·.1)=Txt.split y z->EP X pins σ Q (.ref s.heap.objs.size) { s with toks:=tk,heap:=s.heap.push { cls:=.type "list", data:=.seq (strValues l).toArray } }:=fun l tk e=>by
  have I2:Inv X pins σ (upd H s.heap.objs.size (.lst ((Txt.split y z).map V.str))) { s with toks:=tk,heap:=s.heap.push { cls:=.type "list", data:=.seq (strValues l).toArray } }:=
   I.laid (t':=tk) (fun b o e=>ze _ e) (zt _) (show jQ X.prog X.w _ _ _ (.lst _) from⟨by rw[zC];omega,strValues l,0,Mr (by rw[<-e];exact strsAre_of_values l),ZN _ rfl⟩)
  have hfr:=I.hok.fresh (zt _)
  exact⟨.ref s.heap.objs.size,_,I2,rfl,q _ _ (dU hfr) hfr bK⟩
 cases h1:(decide (y.length < z.length)||decide (strKind y < strKind z))
 ·cases hf:(occurrences y z 0 y.length (y.length+1)).isEmpty
  ·have e:Txt.split y z=partsBetween y (occurrences y z 0 y.length (y.length+1)) z.length:=(Zs (ne_true_of_eq_false h1)).trans (Zs (ne_true_of_eq_false hf))
   refine call_meets kH (typeIs_str _ _ _) F.entry_str_split (F.args_str_split_2 _ _) (meets_str_split_sep y z t t2 h1 hz hf (by omega) (by rw[<-e];omega)) ?_
   show EP X pins σ Q _ { s with toks:=_,heap:=s.heap.push { cls:=.type "list", data:=.seq (strsFrom s.toks (partsBetween y (occurrences y z 0 y.length (y.length+1)) z.length)).toArray } }
   rw[strsFrom_eq]
   exact fin _ _ ((numbered_texts _ _).trans e.symm)
  ·exact call_meets kH (typeIs_str _ _ _) F.entry_str_split (F.args_str_split_2 _ _) (meets_str_split_not_found y z t t2 h1 hz hf) (fin [(y,t)] s.toks ((Zs (ne_true_of_eq_false h1)).trans (zo hf)).symm)
 ·exact call_meets kH (typeIs_str _ _ _) F.entry_str_split (F.args_str_split_2 _ _) (meets_str_split_cannot_occur y z t t2 h1) (fin [(y,t)] s.toks (zo h1).symm)
def Jd:Bx->Bx->Option Bx
 |.z (.str y),.z (.str z)=>if (z.length==0)=false/\y.length<=100000 then some (.o ((Txt.split y z).map Dt.str)) else none
 |_,_=>none
variable {o e:Expr} {fo fx:Ev->Option Bx}
theorem uY {apos cpos:Pos} (ho:QV X o fo) (hx:QV X e fx) (hbase:attributeBase o "split" X.env (eval o X.env)=eval o X.env:=by rfl)
  (hfew:((backTo cpos (starEach [e] X.env)).all (fun x=>!x.1)&&(backToKw cpos (keywordEach [] X.env)).all (fun x=>x.1.isSome)&&decide ([e].length+([]:List Keyword).length+(if ([]:List Keyword).isEmpty then 0 else 1) < 30))=true:=by rfl)
  (hline:(apos.endLine==cpos.line)=true:=by rfl) (hs:starEach [e] X.env=(false,eval e X.env)::starEach [] X.env:=by rfl):QV X (.Call (.Attribute o "split" apos) [e] [] cpos) (b2 Jd fo fx):=
 ⟨HX (U3 (T := "str") kK kH F.type_str_split Zu ho.run (Ib hx.run Nz hs) hbase hfew hline hs rfl) fun σ H Q q=>by
  obtain⟨H0,ρ,c,E,e,q⟩:=q
  obtain⟨a,ea,e⟩:=bind_some e
  obtain⟨b,eb,e⟩:=bind_some e
  unfold Jd at e
  split at e
  ·rename_i y z _
   split at e
   ·rename_i hb
    cases e
    refine⟨H0,ρ,_,E,ea,fun v H1 s1 n1 r1=>?_⟩
    obtain⟨rfl,hy⟩:=Qp r1
    refine⟨rfl,H0,ρ,[_],E.grow s1,by simp only[ao,eb,Q1];rfl,fun vs H2 s2 r2=>?_⟩
    obtain⟨w,rfl,rw1⟩:=rep1 r2
    obtain⟨rfl,hz⟩:=Qp rw1
    refine⟨y,z,rfl,rfl,hb.1,hb.2,fun l H3 s3 n3 e3=>q _ _ ((s1.trans s2).trans s3) (fun a ea=>by cases ea;exact (s1.trans s2).free n3) ⟨l,_,rfl,e3,Qw fun p hp=>zv (part_short hp) hy⟩⟩
   ·cases e
  ·cases e⟩
def txB:Bx->Option Str
 |.z (.str x)=>some x
 |_=>none
theorem aeO {b:Bx} {x:Str} (h:txB b=some x):b=.z (.str x):=by
 unfold txB at h
 split at h
 ·cases h;rfl
 ·cases h
def agz:Ev->Option Str:=fun _=>some Str.empty
def QW (f:Ev->Option Bx) (g:Ev->Option Str):Ev->Option Str:=fun ρ=>(f ρ).bind fun b=>(txB b).bind fun x=>(g ρ).bind fun t=>some (x++t)
def Zv (g:Ev->Option Str):Ev->Option Bx:=fun ρ=>(g ρ).bind fun t=>if t.length<=100000 then some (.z (.str t)) else none
structure QJ (X:Cx) (es:List Expr) (f:Ev->Option Str):Prop where
 run:∀ (acc:Str) (pins:List (Addr×Obj)) (s:Shared) (σ:L2.St) (H:Hp) (Q:VK),Inv X pins σ H s->(∃ H0 ρ t,bT X.K H0 H σ ρ/\f ρ=some t/\(acc++t).length<=sizeLine/\∀ H',Same H H'->Q (.str (acc++t)) H') →
  wpAny (model X.prog X.w) X.A (joinParts acc (evalEach es X.env)) (EP X pins σ Q) X.xe s
theorem aeP:QJ X [] agz:=⟨fun acc pins s σ H Q I h=>by
 obtain⟨H0,ρ,t,E,e,hl,q⟩:=h
 cases e
 rw[Str.append_empty] at hl q
 exact joinParts_nil ⟨.str acc,H,I.tok _,⟨_,rfl⟩,q H (Same.refl H)⟩ hl⟩
theorem Ob {es:List Expr} {g:Ev->Option Str} (h1:QV X e fx) (h2:QJ X es g):QJ X (e::es) (QW fx g):=⟨fun acc pins s σ H Q I h=>by
 obtain⟨H0,ρ,t,E,e,hl,q⟩:=h
 obtain⟨b,eb,e⟩:=bind_some e
 obtain⟨x,ex,e⟩:=bind_some e
 obtain⟨t',et,e⟩:=bind_some e
 cases e
 have hb:=aeO ex
 subst hb
 rw[<-Str.append_assoc] at hl q
 have hl2:(acc++x).length<=sizeLine:=by rw[strLen_append] at hl;omega
 refine joinParts_cons (ZT (h1.run pins s σ H (fun v H'=>Same H H'/\v=.str x) I ⟨H0,ρ,_,E,eb,fun v H' s' n' r'=>⟨s',(Qp r').1⟩⟩) (fun v s1 hq=>?_) fun _ _ z=>z)
 obtain⟨w,H1,I1,r1,s1',rfl⟩:=hq
 obtain⟨tk,rfl⟩:=r1
 exact⟨hl2,h2.run (acc++x) pins s1 σ H1 Q I1 ⟨H0,ρ,t',E.grow s1',et,hl,fun H2 s2=>q H2 (s1'.trans s2)⟩⟩⟩
theorem abQ {es:List Expr} {e1 e2:Expr} {g:Ev->Option Str} {pos:Pos} (h:QJ X (e1::e2::es) g):QV X (.JoinedStr (e1::e2::es) pos) (Zv g):=⟨fun pins s σ H Q I q=>by
 obtain⟨H0,ρ,b,E,e,q⟩:=q
 obtain⟨t,et,e⟩:=bind_some e
 split at e
 ·rename_i hl
  cases e
  have sl:(100000:Nat)<=sizeLine:=by decide
  refine JoinedStr_many (h.run Str.empty pins s σ H Q I ⟨H0,ρ,t,E,et,by rw[Str.empty_append];omega,fun H' s'=>by rw[Str.empty_append];exact q _ H' s' trivial (by unfold bx Rep;exact⟨rfl,by omega⟩)⟩)
 ·cases e⟩
end
section
variable {ρ:Ev} {fa fb:Ev->Option Bx} {g:Ev->Option Str}
def zJ (a:R fa ρ (zE eS)) (b:R fb ρ (zE eS)):R (b2 Jd fa fb) ρ (oE eS):=⟨Txt.split a.v b.v,bY (bY a.D b.D) (some ((b.v.length==0)=false/\a.v.length<=100000)),fun h=>by
 obtain⟨h,h3⟩:=aF h
 obtain⟨h1,h2⟩:=aF h
 simp only[b2,a.ok h1,b.ok h2,bnd,Jd,zE,eS]
 exact zo h3⟩
end
section
variable {X:Cx}
end
section
variable {X:Cx} {iter e1 e2 e3 c:Expr} {fi:Ev->Option (List Dt)} {f1 fe:Ev->Option Bx} {p:Ev->Option Bool} {gr:Ev->Option Out} {fx:Ev->Option Dt} {tR tQ:TS} {x xr xj y1 y2:Str} {rest no:List Stmt} {kk:Nat} {p0 p00 p01 p02 q1 q2 pt pj pa px pb pif pf2 px3 a1 c1 pe1 pr a2 pj2 c2 pe2 pos:Pos}
end
section
variable {α β γ δ:Type} {ρ:Ev} {e:α->Dt} {ea:β->Dt} {eb:δ->Dt} {f1 fe:Ev->Option Bx} {p:Ev->Option Bool} {fi:Ev->Option (List Dt)} {kk:Ev->Option Out} {cO:γ->Out}
end
end P1
end
section
namespace P1
open PySem PySem.Spec PyProof.Rows L2 S1
section
variable {prog:Program} {w:World} {A:Around} {E:VP_} {s:Shared}
end
section
variable {X:Cx}
end
section
variable {X:Cx} {k n:Nat} {f:Addr} {fd:FuncData} {ps:LS_} {F:List Bx->Option Bx} {x:Str} {p pos:Pos}
end
end P1
end
section
namespace P1
open PySem PySem.Spec PyProof.Rows L2 S1 S6
section
variable {α β:Type} {e:α->Dt} {ρ:Ev} {f g fa fb:Ev->Option Bx} {c:α->Bx}
end
section
variable {ρ:Ev}
def x_k (d:Dt):R (cB d) ρ (zE eD):=z9 d eD d rfl
def x_i (i:Int):R (cB (.int i)) ρ (zE eI):=z9 (.int i) eI i rfl
def jV (s:Str):R (cB (.str s)) ρ (zE eS):=z9 (.str s) eS s rfl
end
abbrev Nn (K:FG_) (n:Str) (f:Addr):Prop:=PySem.W.nsIn K mainGlobals n=some (some (.ref f))
abbrev Lk (K:FG_) (f:Addr) (n:Str) (st:Stmt) (oc:Value) (od:Option Addr) (sl:Array (Option Value)) (kV dc pm:Value) (an:Option Addr) (cd ct:Value):Prop:=K.lookup f=some ⟨oc,od,.func (PySem.W.fnOf n n (vQ st) (jR st) (aK st) .none kV dc pm an cd ct),sl⟩
abbrev Zn (K:FG_) (n:Str):Prop:=PySem.W.nsIn K mainGlobals n=some none
end P1
end
section
namespace P1
open PySem PySem.Spec PyProof.Rows L2
section
variable {α:Type} {ρ:Ev} {fa fb:Ev->Option Bx} {e:α->Dt}
end
def ExR (h:Heap) (e:Addr) (C:Value) (dx:Option Addr):Prop:=∃ vs sl,h.get? e=some ⟨C,dx,.fields vs,sl⟩/\vs[1]?=some .none
def QX (h:Heap) (e:Addr) (C:Value) (dx:Option Addr) (fl:Value) (T:Addr):Prop:=
 ∃ vs sl oT ts,h.get? e=some ⟨C,dx,.fields vs,sl⟩/\vs[1]?=some (.ref T)/\T≠e/\h.get? T=some oT/\oT.data=.fields ts/\ts[3]?=some fl
structure Oc (S ch:List Addr) (h h':Heap):Prop where
 keep:∀ b o,h.get? b=some o->b∉ch->b∉S->h'.get? b=some o
 slot:∀ b o,h.get? b=some o->b∉ch->∃ sl,h'.get? b=some { o with slots:=sl }
theorem Oc.trans {S c1 c2:List Addr} {h h1 h2:Heap} (a:Oc S c1 h h1) (b:Oc S c2 h1 h2):Oc S (c1++c2) h h2:=by
 refine⟨fun x o e n m=>b.keep x o (a.keep x o e (fun z=>n (js _ z)) m) (fun z=>n (ZE _ z)) m,fun x o e n=>?_⟩
 obtain⟨s1,e1⟩:=a.slot x o e (fun z=>n (js _ z))
 obtain⟨s2,e2⟩:=b.slot x _ e1 (fun z=>n (ZE _ z))
 exact⟨s2,e2⟩
theorem Oc.mono {S S' c1 c2:List Addr} {h h1:Heap} (a:Oc S c1 h h1) (hc:∀ b∈c1,b∈c2) (hs:∀ b∈S,b∈S'):Oc S' c2 h h1:=
 ⟨fun x o e n m=>a.keep x o e (fun z=>n (hc _ z)) (fun z=>m (hs _ z)),fun x o e n=>a.slot x o e (fun z=>n (hc _ z))⟩
theorem Oc.zY {S ch:List Addr} {h h1 base:Heap} {l:List Env} (a:Oc S ch h h1) (nf:∀ b∈ch,∀ o,h.get? b=some o->∃ vs,o.data=.fields vs) (hl:h.FunFrames base l):h1.FunFrames base l:=
 hl.of_keeps fun b o e hn=>by
  obtain⟨sl,q⟩:=a.slot b o e fun z=>by
   obtain⟨vs,d⟩:=nf b z o e
   exact hn vs d
  exact⟨_,q,rfl⟩
section
variable {M:Model} {A:Around} {Ex:VP_} {s:Shared} {base:Heap} {env:Env} {outer:List Env} {L e T:Addr} {C fl:Value} {dx:Option Addr} {Q:Unit->Shared->Prop}
theorem Mx {head:Value} {hadNext:Bool} {vs:Array Value} {sl:Array (Option Value)} (hfr:A.frames=some (env::outer)) (hl:s.heap.FunFrames base (env::outer)) (hf:env.frame=some L)
  (he:s.heap.get? e=some ⟨C,dx,.fields vs,sl⟩) (hsz:1 < vs.size)
  (h:∀ h' T,s.heap.objs.size<=T->Oc (frs (env::outer)) [e] s.heap h'->QX h' e C dx (rawInt L) T->Q () { s with heap:=h' }) :
  wpAny M A (do let a <-frameOf env;let pl <-entryPlaceOf L hadNext;let b <-EntryCells.newEntry head a .none (rawInt L) .none pl;setField (.ref e) 1 b) Q Ex s:=by
 have hene:e∉frs (env::outer):=fun hm=>by
  obtain⟨_,o,ho,hnf⟩:=hl.mem hm
  rw[he] at ho;cases ho;exact hnf vs rfl
 refine zb (wpAny_frameOf_fun hfr hl hf fun h1 hs1=>?_)
 refine zb (wpAny_entryPlaceOf fun pl hpl=>?_)
 unfold EntryCells.newEntry newFields
 refine zb (QQ ?_ (hpl.sizeOk5 _ _ _ _ _))
 have he1:h1.get? e=some ⟨C,dx,.fields vs,sl⟩:=(hs1.2.1 e hene).trans he
 have he2:=ze (h:=h1) { cls:=.type "traceback", dict:=none,data:=.fields ([head,.ref L,.none,rawInt L,.none]++(if pl.isEmpty then List.replicate 6 Value.none else pl)).toArray } he1
 refine wpAny_setField he2 rfl hsz (h _ h1.objs.size (by rw[hs1.1];exact zt _) ?_ ?_)
 ·have kp:∀ b o,b≠e->h1.get? b=some o->_:=fun b o hb hq=>(qo _ (Obj.mapFields (·.setIfInBounds 1 (Value.ref h1.objs.size))) (qA hb)).trans (ze
   { cls:=.type "traceback", dict:=none,data:=.fields ([head,.ref L,.none,rawInt L,.none]++(if pl.isEmpty then List.replicate 6 Value.none else pl)).toArray } hq)
  refine⟨fun b o q n m=>kp b o (fun z=>n (by simp[z])) ((hs1.2.1 b m).trans q),fun b o q n=>?_⟩
  obtain⟨sl',q'⟩:=hs1.2.2 b o q
  exact⟨sl',kp b _ (fun z=>n (by simp[z])) q'⟩
 ·have hTe:h1.objs.size≠e:=Q3 (zw he1)
  have he3:=QE (Obj.mapFields (·.setIfInBounds 1 (Value.ref h1.objs.size))) he2 (Obj.isFreed_of_fields (JI rfl _))
  have hT3:=(qo (h1.push { cls:=.type "traceback", dict:=none,data:=.fields ([head,.ref L,.none,rawInt L,.none]++(if pl.isEmpty then List.replicate 6 Value.none else pl)).toArray })
   (Obj.mapFields (·.setIfInBounds 1 (Value.ref h1.objs.size))) (qA hTe)).trans (ZN h1 rfl)
  refine⟨_,_,_,_,he3,by simp[hsz],hTe,hT3,rfl,?_⟩
  first|(simp;done)|(rcases hpl with rfl|⟨_,_,_,_,_,_,_,rfl⟩<;>simp)
theorem Zw (hfr:A.frames=some (env::outer)) (hl:s.heap.FunFrames base (env::outer)) (hf:env.frame=some L) (hx:ExR s.heap e C dx)
  (h:∀ h' T,s.heap.objs.size<=T->Oc (frs (env::outer)) [e] s.heap h'->QX h' e C dx (rawInt L) T->Q () { s with heap:=h' }):wpAny M A (noteFrame (.ref e) env) Q Ex s:=by
 obtain⟨vs,sl,he,h1⟩:=hx
 unfold noteFrame
 simp only[hf]
 refine zb (Q2 he rfl h1 ?_)
 rw[Zs (by decide)]
 exact Mx hfr hl hf he (Array.getElem?_eq_some_iff.mp h1).1 h
theorem WW (hf:env.frame=some L) (hx:QX s.heap e C dx (rawInt L) T) (h:Q () s):wpAny M A (noteFrame (.ref e) env) Q Ex s:=by
 obtain⟨vs,sl,oT,ts,he,h1,hTe,hT,hd,h3⟩:=hx
 unfold noteFrame
 simp only[hf]
 refine zb (Q2 he rfl h1 ?_)
 rw[zo (show (Value.ref T != Value.none)=true from by simp)]
 refine zb (Q2 hT hd h3 ?_)
 rw[zo (show (rawInt L==rawInt L)=true from by simp)]
 exact zh h
theorem Vr {fl':Value} (hx:QX s.heap e C dx fl T):∀ h',h'=s.heap.update T (Obj.mapFields (·.setIfInBounds 3 fl'))->Oc [] [T] s.heap h'/\QX h' e C dx fl' T:=by
 obtain⟨vs,sl,oT,ts,he,h1,hTe,hT,hd,h3⟩:=hx
 have hsz:3 < ts.size:=(Array.getElem?_eq_some_iff.mp h3).1
 intro h' eh
 subst eh
 have oth:∀ b,b≠T->(s.heap.update T (Obj.mapFields (·.setIfInBounds 3 fl'))).get? b=s.heap.get? b:=fun b hb=>qo _ _ (qA hb)
 refine⟨⟨fun b o q n _=>(oth b fun z=>n (by simp[z])).trans q,fun b o q n=>⟨o.slots,(oth b fun z=>n (by simp[z])).trans q⟩⟩,vs,sl,_,_,(oth e (qA hTe)).trans he,h1,hTe,
  QE _ hT (Obj.isFreed_of_fields (JI hd _)),JI hd _,by simp[hsz]⟩
theorem vZ (fr:Option Addr) (hx:QX s.heap e C dx fl T) (h:∀ h',Oc [] [T] s.heap h'->QX h' e C dx (fr.elim .none fun f=>rawInt f) T->Q () { s with heap:=h' }):wpAny M A (setFlight (.ref e) fr) Q Ex s:=by
 obtain⟨x1,x2⟩:=Vr (fl':=fr.elim .none fun f=>rawInt f) hx _ rfl
 obtain⟨vs,sl,oT,ts,he,h1,hTe,hT,hd,h3⟩:=hx
 unfold setFlight
 refine zb (Q2 he rfl h1 ?_)
 rw[zo (show (Value.ref T != Value.none)=true from by simp)]
 exact wpAny_setField hT hd (Array.getElem?_eq_some_iff.mp h3).1 (h _ x1 x2)
theorem Vs (hfr:A.frames=some (env::outer)) (hl:s.heap.FunFrames base (env::outer)) (hf:env.frame=some L) (hx:QX s.heap e C dx .none T)
  (h:∀ h' T',s.heap.objs.size<=T'->Oc (frs (env::outer)) [T,e] s.heap h'->QX h' e C dx (rawInt L) T'->Q () { s with heap:=h' }):wpAny M A (noteFrame (.ref e) env) Q Ex s:=by
 obtain⟨x1,x2⟩:=Vr (fl':=.none) hx _ rfl
 obtain⟨vs,sl,oT,ts,he,h1,hTe,hT,hd,h3⟩:=hx
 unfold noteFrame
 simp only[hf]
 refine zb (Q2 he rfl h1 ?_)
 rw[zo (show (Value.ref T != Value.none)=true from by simp)]
 refine zb (Q2 hT hd h3 ?_)
 rw[Zs (show ¬ ((Value.none==rawInt L)=true) from by simp[rawInt])]
 refine zb (wpAny_setField hT hd (Array.getElem?_eq_some_iff.mp h3).1 ?_)
 have x1':Oc (frs (env::outer)) [T] _ _:=x1.mono (fun _ z=>z) (fun _ z=>nomatch z)
 refine Mx (base:=base) hfr (x1.zY (fun b z o q=>by
  obtain rfl:b=T:=by simpa using z
  rw[hT] at q;cases q;exact⟨_,hd⟩) hl) hf ((x1.keep e _ he (by simpa using qA hTe) (by simp))) (Array.getElem?_eq_some_iff.mp h1).1 fun h' T' z c x=>?_
 exact h h' T' (by have:=Heap.size_after_update s.heap T (Obj.mapFields (·.setIfInBounds 3 Value.none));exact this▸z) (x1'.trans c) x
end
structure CT (X:Cx) (H:Hp) (b:Addr):Prop where
 un:H b=none
 ab:X.s₀.heap.objs.size<=b
 nl:b≠X.env.locals
 nc:∀ x c,X.env.cells.lookup x=some c->c≠b
section
variable {X:Cx} {σ:L2.St} {H H':Hp} {s:Shared} {h':Heap} {ch:List Addr}
theorem CT.new (I:Inv X [] σ H s) {b:Addr} (h:s.heap.objs.size<=b):CT X H b:=
 ⟨I.hok.fresh h,zv I.sz h,fun z=>by have:=I.lt;rw[<-z] at this;exact absurd this (Nat.not_lt.mpr h),fun x c e z=>by
  obtain⟨v,q⟩:=I.cell x c e
  have:c < s.heap.objs.size:=by
   obtain⟨o,q⟩:∃ o,s.heap.get? c=some o:=by
    first|(obtain⟨o,q,_⟩:=q;exact⟨o,q⟩)|exact⟨_,q⟩
   exact zw q
  rw[z] at this;exact absurd this (Nat.not_lt.mpr h)⟩
theorem Hu {t':Nat} (hpn:X.pn=[]) (I:Inv X [] σ H s) (c:Oc (frs X.stack) ch s.heap h') (hm:∀ b∈ch,CT X H b):Inv X [] σ H { s with heap:=h',toks:=t' }:=by
 refine I.step (g':=s.gens) (d':=s.drawn) (ch:=ch) (fun b hb=>⟨.inr (hm b hb).ab,(hm b hb).nl,(hm b hb).nc,fun p hp=>by rw[hpn] at hp;cases hp⟩)
  (fun b o hL hb hc e n=>c.keep b o e hc fun z=>(List.mem_cons.mp (I.HB b z)).elim hL hb) (fun b o _ _ hc e n=>c.slot b o e hc) (fun _ _ _ _ n=>n)
  (fun b o hc e=>let ⟨_,q⟩:=c.slot b o e hc;⟨_,q⟩) (fun _ _ e=>e) (fun _ _ _ e=>e) (fun b ps e=>⟨#[],by rw[e];simp⟩) (fun m hm'=>?_) (fun b u e=>?_) I.bare
 ·obtain⟨o,es,ep,ho,r⟩:=hm'
  obtain⟨sl,q⟩:=c.slot _ o ho fun z=>(hm _ z).nl rfl
  exact⟨_,es,ep,q,r⟩
 ·have ne:∀ (d:Addr) (w:HO),H d=some w->d∉ch/\d∉frs X.stack:=fun d w q=>⟨fun z=>(by rw[(hm d z).un] at q;cases q),fun z=>(by rw[I.G8 d z] at q;cases q)⟩
  refine (I.hok b u e).stay (fun d v hd q=>?_) (fun _ q=>q) fun _ _ q=>q
  rcases hd with z|z
  ·subst z;exact c.keep _ _ q (ne _ _ e).1 (ne _ _ e).2
  ·exact c.keep _ _ q (ne _ _ z).1 (ne _ _ z).2
def RX (X:Cx) (E:XK) (e:Value) (s:Shared):Prop:=
 ∃ a C dx σ H,e=.ref a/\Inv X [] σ H s/\CT X H a/\(ExR s.heap a C dx\/∃ T,CT X H T/\(QX s.heap a C dx (rawInt X.env.locals) T\/QX s.heap a C dx .none T))/\E C dx H
def Sw (P:Program) (w:World):Sv:=fun outer H s E e s'=>
 ∃ a C dx H' T,e=.ref a/\s'.os=s.os/\AllBare s'.gens/\Un (frs outer) [] H H' s.heap s'.heap/\Ba P w H' s'.heap/\s.heap.objs.size<=a/\s.heap.objs.size<=T/\H' a=none/\H' T=none ∧
  QX s'.heap a C dx .none T/\E C dx H'
theorem aeQ {fs:List Addr} {h h1 h2:Heap} (u:Un fs [] H H' h h1) (c:Oc fs ch h1 h2) (hc:∀ b∈ch,h.get? b=none):Un fs [] H H' h h2:=by
 have nc:∀ b o,h.get? b=some o->b∉ch:=fun b o e z=>by rw[hc b z] at e;cases e
 refine⟨fun b o e n f x=>c.keep b o (u.keep b o e n f x) (nc b o e) f,fun b o e n f x=>?_,u.free,fun b o e x=>?_,u.tups,u.uP,u.yu⟩
 ·obtain⟨sl,q⟩:=u.slot b o e n f x
  obtain⟨sl',q'⟩:=c.slot b _ q (nc b o e)
  exact⟨sl',q'⟩
 ·obtain⟨o',q⟩:=u.there b o e x
  obtain⟨sl,q'⟩:=c.slot b _ q (nc b o e)
  exact⟨_,q'⟩
theorem QX.apart {h:Heap} {e T:Addr} {C fl:Value} {dx:Option Addr} (x:QX h e C dx fl T):(∃ o vs,h.get? e=some o/\o.data=.fields vs)/\∃ o vs,h.get? T=some o/\o.data=.fields vs:=by
 obtain⟨vs,sl,oT,ts,he,h1,hTe,hT,hd,h3⟩:=x
 exact⟨⟨_,vs,he,rfl⟩,oT,ts,hT,hd⟩
theorem Vt {E:XK} {Ex:VP_} {Q:Unit->Shared->Prop} {a:Addr} {C:Value} {dx:Option Addr} (hpn:X.pn=[]) (hst:X.stack=X.env::X.outer) (hf:X.env.frame=some X.env.locals) (I:Inv X [] σ H s) (ma:CT X H a)
  (hx:ExR s.heap a C dx\/∃ T,CT X H T/\(QX s.heap a C dx (rawInt X.env.locals) T\/QX s.heap a C dx .none T))
  (h:∀ h' T,Inv X [] σ H { s with heap:=h' }->CT X H T->QX h' a C dx (rawInt X.env.locals) T->Q () { s with heap:=h' }):wpAny (model X.prog X.w) X.A (noteFrame (.ref a) X.env) Q Ex s:=by
 rcases hx with x|⟨T,mT,x|x⟩
 ·have fr:=I.stack
  rw[hst] at fr
  refine Zw (base:=X.base) (hst▸I.ok.frames) fr hf x fun h' T z c x'=>?_
  rw[<-hst] at c
  have mT:CT X H T:=CT.new I z
  exact h h' T (Hu (t':=s.toks) hpn I c (fun b hb=>(List.mem_singleton.mp hb)▸ma)) mT x'
 ·exact WW hf x (h s.heap T I mT x)
 ·have fr:=I.stack
  rw[hst] at fr
  refine Vs (base:=X.base) (hst▸I.ok.frames) fr hf x fun h' T' z c x'=>?_
  rw[<-hst] at c
  exact h h' T' (Hu (t':=s.toks) hpn I c (fun b hb=>by
   rcases List.mem_cons.mp hb with rfl|hb
   ·exact mT
   ·exact (List.mem_singleton.mp hb)▸ma)) (CT.new I z) x'
theorem WX {E:XK} (hpn:X.pn=[]) (hst:X.stack=X.env::X.outer) (hf:X.env.frame=some X.env.locals):PassesOwn (model X.prog X.w) X.A X.env (RX X E):=by
 intro e s' h
 obtain⟨a,C,dx,σ,H,rfl,I,ma,hx,he⟩:=h
 refine Vt (E:=E) hpn hst hf I ma hx fun h' T I' mT x=>?_
 show wpAny _ _ _ _ _ _
 obtain⟨vs,sl,oT,ts,h1,h2,h3,h4,h5,h6⟩:=id x
 refine zb (Q2 h1 rfl h2 ?_)
 rw[Zs (by simp)]
 rw[hf]
 refine vZ (s:={ s' with heap:=h' }) (some X.env.locals) x fun h'' c x'=>?_
 exact⟨a,C,dx,σ,H,rfl,Hu (s:={ s' with heap:=h' }) (t':=s'.toks) hpn I' (c.mono (fun _ z=>z) fun _ z=>nomatch z) (fun b hb=>(List.mem_singleton.mp hb)▸mT),ma,.inr ⟨T,mT,.inl x'⟩,he⟩
theorem Zx {E:XK} {Ex:VP_} {e:Value} (hpn:X.pn=[]) (hst:X.stack=X.env::X.outer) (hf:X.env.frame=some X.env.locals) (hex:X.ex=[]) (h:RX X E e s) :
  wpAny (model X.prog X.w) X.A (leaving X.env e) (fun _ s''=>Sw X.prog X.w X.outer X.H₀ X.s₀ E e s'') Ex s:=by
 obtain⟨a,C,dx,σ,H,rfl,I,ma,hx,he⟩:=h
 unfold leaving
 refine zb (Vt (E:=E) hpn hst hf I ma hx fun h' T I' mT x=>?_)
 refine vZ (s:={ s with heap:=h' }) none x fun h'' c x'=>?_
 have J:=Hu (s:={ s with heap:=h' }) (t':=s.toks) hpn I' (c.mono (fun _ z=>z) fun _ z=>nomatch z) (fun b hb=>(List.mem_singleton.mp hb)▸mT)
 have u:=J.base
 rw[hex] at u
 exact⟨a,C,dx,H,T,rfl,J.os,J.bare,u,J.hok,ma.ab,mT.ab,ma.un,mT.un,x',he⟩
end
def WY (K:FG_) (C fI:Addr) (bmB:List Value) (newId:String):Bool:=match K.lookup C with
 |some ⟨.type "type", _,.cls cd,sl⟩=>(match cd.mro,sl.toList with
  |.ref C'::bm,[_,_,_,_,some (.builtin n),_]=>C'==C&&(n==newId&&(!cd.hasDel&&(PySem.W.tailIn K bmB bm&&(PySem.W.findIn K (.ref C) "__init__" == some (some (.ref fI))&&PySem.W.isFn K (.ref fI)))))
  |_,_=>false)
 |_=>false
def XCl (h:Heap) (C:Addr) (bmB:List Value) (newId:String):Prop:=∃ nm q N bs bm hdct sn sub ab col dd k0 k1 k2 k3 k5,h.get? C=some (excClassObj nm q C N bs bm hdct sn sub ab col dd k0 k1 k2 k3 k5 newId)/\OwnTail h bmB bm
theorem Od {K:FG_} {h:Heap} {C fI:Addr} {bmB:List Value} {newId:String} (X:K.In h) (q:WY K C fI bmB newId=true):XCl h C bmB newId/\PySem.W.findIn K (.ref C) "__init__" = some (some (.ref fI))/\PySem.W.isFn K (.ref fI)=true:=by
 unfold WY at q
 split at q
 ·rename_i dd cd sl ho
  split at q
  ·rename_i C' bm k0 k1 k2 k3 n k5 hm hs
   simp only[zi,beq_iff_eq,Bool.not_eq_true'] at q
   obtain⟨rfl,rfl,hdel,ht,hi,hf⟩:=q
   obtain⟨nm,bs,mro,ns,qn,hd,sn,sub,ab,col,del⟩:=cd
   dsimp only at hm hdel
   subst hm hdel
   have hsl:sl=#[k0,k1,k2,k3,some (.builtin n),k5]:=by
    obtain⟨l⟩:=sl
    simp only at hs
    rw[hs]
   subst hsl
   exact⟨⟨nm,qn,ns,bs,bm,hd,sn,sub,ab,col,dd,k0,k1,k2,k3,k5,X _ _ ho,PySem.W.tail_of_in X ht⟩,hi,hf⟩
  ·cases q
 ·cases q
theorem XCl.keeps {h h':Heap} {C:Addr} {bmB:List Value} {newId:String} (x:XCl h C bmB newId) (k:∀ b o,h.get? b=some o->h'.get? b=some o):XCl h' C bmB newId:=by
 obtain⟨nm,q,N,bs,bm,hdct,sn,sub,ab,col,dd,k0,k1,k2,k3,k5,hC,T⟩:=x
 exact⟨nm,q,N,bs,bm,hdct,sn,sub,ab,col,dd,k0,k1,k2,k3,k5,k _ _ hC,T.keeps k⟩
section
variable {prog:Program} {w:World} {A:Around} {E:VP_} {h:Heap} {g:Array GenState} {d:Drawn} {t:Nat} {os:OsState} {C fI e:Addr} {rest bmB:List Value} {K:FG_} {B newId initId:String}
abbrev Vu (C t:Addr):Obj:={ cls:=.ref C,data:=.fields #[.ref t,.none,.none,.none,.bool false,.none] }
theorem abR {Q:Fin->Shared->Prop} (F:ExcBaseFacts B newId initId bmB) (X:K.In h) (hx:WY K C fI bmB newId=true) (hr:rest.length<=sizeLine)
  (hq:∀ h',(∀ b o,h.get? b=some o->h'.get? b=some o)->h'.get? (h.objs.size+1)=some (Vu C h.objs.size) →
   wpAny (model prog w) A (call (.ref fI) (.ref (h.objs.size+1)::rest)) (fun r s'=>r=.none/\Q (.done (.ret (.ref (h.objs.size+1)))) s') E ⟨h',g,d,t,os⟩) :
  wpAny (model prog w) A (Builtin.«type.__call__» ⟨.ref C::rest,[]⟩) Q E ⟨h,g,d,t,os⟩:=by
 obtain⟨x,hi,hf⟩:=Od X hx
 obtain⟨nm,q,N,bs,bm,hdct,sn,sub,ab,col,dd,k0,k1,k2,k3,k5,hC,T⟩:=x
 repeat (first|with_reducible refine JS hC ?_|with_reducible refine wpAny_madeBy_exc hC ?_|wp_step)
 refine codeAny_call_builtin_code (Code.quiet_builtin _ F.quiet) (wpAny_check_new_subT F T hC ?_)
 refine codeAny_exc_new_subT F T hC ?_ hr
 show wpAny _ _ _ _ _ _
 have kp:∀ b o,h.get? b=some o->((h.push { cls:=.type "tuple", data:=.seq rest.toArray }).push (Vu C h.objs.size)).get? b=some o:=fun b o z=>ze _ (ze _ z)
 have hget:((h.push { cls:=.type "tuple", data:=.seq rest.toArray }).push (Vu C h.objs.size)).get? (h.objs.size+1)=some (Vu C h.objs.size):=by heap_get
 have hcC:(Value.ref C::bm).contains (.ref C)=true:=by simp
 unfold isInstance
 repeat (first|with_reducible refine JS hget ?_|(with_reducible refine wpAny_isSubtype_exc (kp _ _ hC) ?_;rw[hcC])|wp_step)
 show wpAny _ _ (typeLookup (.ref C) _) _ _ _
 refine (PySem.W.looks_findIn (X.keeps kp) hi).at ?_
 refine jS (zb ?_)
 unfold bindSpecial
 obtain⟨oI,hfI,hfc⟩:∃ oI,h.get? fI=some oI/\oI.cls=.type "function" := by
  have this:(K.lookup fI).map (·.cls)=some (.type "function"):=beq_iff_eq.mp hf
  obtain⟨o,ho,hc⟩:=Option.map_eq_some_iff.mp this
  exact⟨o,X _ _ ho,hc⟩
 refine zb (kq (T := "function") ⟨_,kp _ _ hfI,hfc⟩ ?_)
 rw[zo (by decide)]
 refine zh (zb (ZT (hq _ kp hget) (fun r s' hr=>?_) fun _ _ x=>x))
 obtain⟨rfl,hQ⟩:=hr
 wp_walk
 exact hQ
end
abbrev X3 (C t:Addr) (dx:Option Addr):Obj:={ cls:=.ref C,dict:=dx,data:=.fields #[.ref t,.none,.none,.none,.bool false,.none] }
section
variable {prog:Program} {w:World} {A:Around} {E:VP_} {h:Heap} {g:Array GenState} {d:Drawn} {t:Nat} {os:OsState} {C fI e:Addr} {rest bmB:List Value} {K:FG_} {B newId initId:String}
theorem aeR {Q:VP_} (F:ExcBaseFacts B newId initId bmB) (X:K.In h) (hx:WY K C fI bmB newId=true) (hr:rest.length<=sizeLine)
  (hq:∀ h',(∀ b o,h.get? b=some o->h'.get? b=some o)->h'.get? (h.objs.size+1)=some (X3 C h.objs.size none) →
   wpAny (model prog w) (A.under (.builtin "type.__call__" ⟨.ref C::rest,[]⟩)) (call (.ref fI) (.ref (h.objs.size+1)::rest)) (fun r s'=>r=.none/\Q (.ref (h.objs.size+1)) s') E ⟨h',g,d,t,os⟩) :
  wpAny (model prog w) A (call (.ref C) rest) Q E ⟨h,g,d,t,os⟩:=by
 obtain⟨nm,q,N,bs,bm,hdct,sn,sub,ab,col,dd,k0,k1,k2,k3,k5,hC,T⟩:=(Od X hx).1
 have f1:=tc_lookup
 have f2:=tc_bind (.ref C)
 have hT:(⟨h,g,d,t,os⟩:Shared).TypeIs (.ref C) "type" := ⟨_,hC,rfl⟩
 refine ky (codeAny_of_tree ?_)
 show wpAny _ _ (callAny (.ref C) _) _ _ _
 repeat (any_goals (first|assumption|with_reducible refine JS hC ?_|wp_step))
 refine⟨rfl,?_⟩
 exact codeAny_call_builtin_at (Code.quiet_builtin _ (by decide +kernel)) entry_typeCall (wpAny_check_type_call_sub hC (abR F X hx hr fun h' k he=>hq h' k he))
theorem abS {M:Model} {s:Shared} {env:Env} {x:Sem Value} {Q:Flow->Shared->Prop} (hbase:bmB.contains (.type "BaseException")=true) (hh:A.handled=none)
  (hq:wpAny M A x (fun v s1=>∃ e t dx,v=.ref e/\XCl s1.heap C bmB newId/\s1.heap.get? e=some (X3 C t dx)/\E (.ref e) s1) E s):wpAny M A (raiseStmt env (some x) none) Q E s:=by
 unfold raiseStmt
 refine zb (ZT hq (fun v s1 h1=>?_) fun _ _ z=>z)
 obtain⟨e,t,dx,rfl,⟨nm,q,N,bs,bm,hdct,sn,sub,ab,col,dd,k0,k1,k2,k3,k5,hC,T⟩,he,hE⟩:=h1
 obtain⟨hp,g,d,tk,os⟩:=s1
 dsimp only at hC he
 have hcB:(Value.ref C::bm).contains (.type "BaseException")=true:=by rw[List.contains_cons,T.hasType hbase,Bool.or_true]
 repeat (first|with_reducible refine JS he ?_|with_reducible refine JS hC ?_|(with_reducible refine wpAny_isSubtype_exc hC ?_;rw[hcB])|wp_step)
 exact wpAny_raiseNew_none hh hE
theorem aeS {Q:VP_} {t0:Addr} {dx:Option Addr} (F:ExcBaseFacts B newId initId bmB) (x:XCl h C bmB newId) (he:h.get? e=some (X3 C t0 dx)) (hr:rest.length<=sizeLine)
  (hq:∀ h' t1,(∀ b o,b≠e->h.get? b=some o->h'.get? b=some o)->h'.get? e=some (X3 C t1 dx)->h.objs.size<=t1->h'.objs.size=h.objs.size+1->Q .none ⟨h',g,d,t,os⟩) :
  wpAny (model prog w) A (call (.builtin initId) (.ref e::rest)) Q E ⟨h,g,d,t,os⟩:=by
 obtain⟨nm,q,N,bs,bm,hdct,sn,sub,ab,col,dd,k0,k1,k2,k3,k5,hC,T⟩:=x
 refine ky (codeAny_call_builtin F.init.plain F.initEntry (wpAny_check_init_subT F T hC he rfl ?_))
 wp_walk
 refine hq _ h.objs.size (fun b o hb z=>?_) ?_ (zt _) ?_
 ·rw[qo _ _ (qA hb)]
  exact ze _ z
 ·rw[QE _ (ze _ he) rfl]
  rfl
 ·rw[Heap.size_after_update,kz]
end
abbrev veM:List Value:=[.type "ValueError", .type "Exception", .type "BaseException", .type "object"]
theorem abT (self:Value):refuseLoop self "__setattr__" veM=pure ():=by kernel_rfl
def wg:List Value->Bool
 |.ref _::r=>wg r
 |l=>l==veM
theorem Je (self:Value):∀ {l:List Value},wg l=true->refuseLoop self "__setattr__" l=pure ()/\l.contains (.type "object")=true/\l.isEmpty=false
 |.ref c::r,e=>by
  have e':wg r=true:=by unfold wg at e;exact e
  obtain⟨a,b,_⟩:=Je self (l:=r) e'
  exact⟨by rw[refuseLoop_ref];exact a,by rw[List.contains_cons,b,Bool.or_true],rfl⟩
 |[],e=>by cases e
 |.none::r,e=>by cases e
 |.bool _::r,e=>by cases e
 |.int _ _::r,e=>by cases e
 |.str _ _::r,e=>by cases e
 |.bytes _ _::r,e=>by cases e
 |.float _ _::r,e=>by cases e
 |.builtin _::r,e=>by cases e
 |.type n::r,e=>by
  have e':(.type n::r)=veM:=by unfold wg at e;exact beq_iff_eq.mp e
  rw[e']
  exact⟨abT self,by decide,rfl⟩
def setIn (K:FG_) (C:Addr) (name:Str):Bool:=
 (PySem.W.clsIn K C).any (fun cd=>cd.hasDict&&wg cd.mro)&&(PySem.W.findIn K (.ref C) "__setattr__" == some (some (.builtin "object.__setattr__"))&&PySem.W.findIn K (.ref C) name==some none)
section
variable {prog:Program} {w:World} {A:Around} {E:VP_} {h:Heap} {g:Array GenState} {d:Drawn} {t:Nat} {os:OsState} {C e:Addr} {K:FG_} {name:Str}
theorem agB {Q:Unit->Shared->Prop} {t0:Addr} {v:Value} (X:K.In h) (hs:setIn K C name=true) (he:h.get? e=some (X3 C t0 none))
  (hq:∀ h' tk,(∀ b o,b≠e->h.get? b=some o->h'.get? b=some o)->h'.get? e=some (X3 C t0 (some h.objs.size))->h'.Ns1 h.objs.size (fun y=>if y=name then some v else none)->Q () ⟨h',g,d,tk,os⟩) :
  wpAny (model prog w) A (setAttr (.ref e) name v) Q E ⟨h,g,d,t,os⟩:=by
 unfold setIn at hs
 rw[zi,zi,beq_iff_eq,beq_iff_eq] at hs
 obtain⟨h1,h2,h3⟩:=hs
 obtain⟨cd,hc,hb⟩:∃ cd,PySem.W.clsIn K C=some cd/\(cd.hasDict&&wg cd.mro)=true:=by
  cases q:PySem.W.clsIn K C with
  |none=>rw[q] at h1;cases h1
  |some cd=>rw[q] at h1;exact⟨cd,rfl,h1⟩
 rw[zi] at hb
 obtain⟨hd,hb⟩:=hb
 obtain⟨p1,p2,p3⟩:=Je (.ref e) hb
 have I:PySem.W.InstAt h e (X3 C t0 none) C none:=⟨he,rfl,rfl,trivial⟩
 refine PySem.W.set_plain (s:=⟨h,g,d,t,os⟩) X I h2 ?_
 have SF:=PySem.F.store_object
 have sub:PySem.W.Looks (model prog w) h (isInstance (.ref e) (.type "object")) true:=I.type.andThen (PySem.W.looks_mroIn X (by unfold PySem.W.mroIn;rw[hc,Q1,Zs (by rw[p3];decide),p2]))
 refine codeAny_call_builtin SF.slot.plain SF.entry (@PySem.W.check_slot (model prog w) _ _ ⟨h,g,d,t+1,os⟩ "object.__setattr__" "object" "__setattr__" (.ref e) [.str name t,v] [] _ SF.kind SF.split sub (SF.args (.ref e) (.str name t) v) ?_)
 have hm:PySem.W.Looks (model prog w) h (mroOf (.ref C)) cd.mro:=(PySem.W.looks_clsIn X hc).andThen .now
 rw[PySem.W.osa_eq,refuse_eq]
 refine zb (zb (I.type.at (zb (hm.at ?_))))
 rw[p1]
 refine zh (zb (I.type.at (zb ((PySem.W.looks_findIn X h3).at (zb (zh ?_))))))
 refine zb (zh (zb ?_))
 show wpAny _ _ (instanceDict e true) _ _ _
 unfold instanceDict
 refine zb (wpAny_loadPart he (zb ((PySem.W.looks_clsIn X hc).at ?_)))
 rw[hd]
 show wpAny _ _ (alloc { cls:=.type "dict", data:=.dict #[] } >>= fun dx=>update e (fun o=>{ o with dict:=some dx }) >>= fun _=>dictMade (.ref C) e dx) _ _ _
 have hp:∀ b o,h.get? b=some o->(h.push { cls:=.type "dict", data:=.dict #[] }).get? b=some o:=fun b o z=>ze _ z
 have hne:h.objs.size≠e:=Q3 (zw he)
 have hd1:((h.push { cls:=.type "dict", data:=.dict #[] }).update e (fun o=>{ o with dict:=some h.objs.size })).get? h.objs.size=some { cls:=.type "dict", data:=.dict #[] }:=by
  rw[qo _ _ (qA hne)]
  exact ZN _ rfl
 refine zb (wpAny_alloc (zb (wpAny_update (hp _ _ he) (zh ?_))))
 show wpAny _ _ (Builtin.ObjectAttr.storeInDict h.objs.size (.str name t) name v) _ _ _
 unfold Builtin.ObjectAttr.storeInDict
 refine zb (zh (zb ?_))
 have hn1:((h.push { cls:=.type "dict", data:=.dict #[] }).update e (fun o=>{ o with dict:=some h.objs.size })).Ns1 h.objs.size (fun _=>none):=
  .of_empty ⟨_,#[],0,hd1,rfl,fun x z=>by simp at z,fun _=>rfl⟩
 refine wpAny_nsSet1 hn1 fun h' n1 sm=>?_
 obtain⟨o,es,ep,ho,hd',hsz⟩:=n1.count (ns:=[name]) (Within.cons name v Within.nil)
 refine zb (wpAny_lookBehind ho (by rw[hd'];exact pastItsLine_dict (zv hsz (Nat.le_add_left _ _))) (zh ?_))
 refine hq h' _ (fun b o hb z=>?_) ?_ n1
 ·rw[sm.2 b (ZU (zw z)),qo _ _ (qA hb)]
  exact hp _ _ z
 ·rw[sm.2 e (qA hne),QE _ (hp _ _ he) rfl]
end
def yM (K:FG_) (C:Addr):Bool:=
 (PySem.W.clsIn K C).any (fun cd=>cd.hasDict&&(!cd.mro.isEmpty&&(cd.mro.contains (.type "BaseException")&&cd.mro.contains (.type "object"))))&&(PySem.W.findIn K (.ref C) "__getattribute__" == some (some (.builtin "BaseException.__getattribute__")) &&
  (PySem.W.findIn K (.ref C) "__getattr__" == some none&&(PySem.W.findIn K (.ref C) "__class__" == some (some (.builtin "object.__class__")) &&
  (PySem.W.specialIn K (.builtin "object.__class__") "__get__" == some (some (.builtin "getset_descriptor.__get__"))&&PySem.W.takesIn K (.builtin "object.__class__")==some true))))
section
variable {prog:Program} {w:World} {A:Around} {E:VP_} {h:Heap} {g:Array GenState} {d:Drawn} {t:Nat} {os:OsState} {C e dx:Addr} {K:FG_} {name:Str} {v:Value} {vs:Array Value} {sl:Array (Option Value)} {m:Str->Option Value}
theorem W0 {o:Obj} {es:Array DictEntry} {ep:Nat} (hd:o.data=.dict es ep) (hf:nsFind es name=some v):PySem.W.lookIn name o=some (some v):=by
 unfold PySem.W.lookIn
 rw[hd]
 dsimp only
 unfold nsFind findBy at hf
 rw[<-Array.find?_toList] at hf
 obtain⟨en,h1,h2⟩:=Option.map_eq_some_iff.mp hf
 rw[h1]
 dsimp only
 rw[h2]
structure abU (K:FG_) (C:Addr) (cd:ClassData):Prop where
 cls:PySem.W.clsIn K C=some cd
 dct:cd.hasDict=true
 ne:cd.mro.isEmpty=false
 be:cd.mro.contains (.type "BaseException")=true
 ob:cd.mro.contains (.type "object")=true
 ga:PySem.W.findIn K (.ref C) "__getattribute__" = some (some (.builtin "BaseException.__getattribute__"))
 hk:PySem.W.findIn K (.ref C) "__getattr__" = some none
 cl:PySem.W.findIn K (.ref C) "__class__" = some (some (.builtin "object.__class__"))
 gt:PySem.W.specialIn K (.builtin "object.__class__") "__get__" = some (some (.builtin "getset_descriptor.__get__"))
 tk:PySem.W.takesIn K (.builtin "object.__class__")=some true
theorem Hv (hs:yM K C=true):∃ cd,abU K C cd:=by
 unfold yM at hs
 simp only[zi,beq_iff_eq] at hs
 obtain⟨h1,h2,h3,h4,h5,h6⟩:=hs
 cases q:PySem.W.clsIn K C with
 |none=>rw[q] at h1;cases h1
 |some cd=>
  rw[q] at h1
  have h1:(cd.hasDict&&(!cd.mro.isEmpty&&(cd.mro.contains (.type "BaseException")&&cd.mro.contains (.type "object"))))=true:=h1
  simp only[zi,Bool.not_eq_true'] at h1
  exact⟨cd,⟨q,h1.1,h1.2.1,h1.2.2.1,h1.2.2.2,h2,h3,h4,h5,h6⟩⟩
theorem abU.sub {cd:ClassData} (G:abU K C cd):PySem.W.mroIn K C (.type "object")=some true/\PySem.W.mroIn K C (.type "BaseException")=some true:=by
 unfold PySem.W.mroIn
 rw[G.cls,Q1,Q1,Zs (by rw[G.ne];decide),Zs (by rw[G.ne];decide),G.ob,G.be]
 exact⟨rfl,rfl⟩
theorem Zy {cd:ClassData} {Q:VP_} {expr fill:Bool} {od:Obj} {tk:Tok} {fo:Builtin.ObjectAttr.Found} (X:K.In h) (G:abU K C cd) (I:PySem.W.InstAt h e ⟨.ref C,some dx,.fields vs,sl⟩ C (some od))
  (hfo:PySem.W.findObj K C (some od) name=some fo)
  (hq:wpAny (model prog w) A.in1 (match fo with|.value v=>ret v|.bind g a=>Builtin.ObjectAttr.bindTo g a (.ref e) (.ref C)|.missing=>unsupported "") (fun fin s'=>match fin with|.done (.ret v)=>wpAny (model prog w) A (handedOut v) Q E s'|_=>False) (fun _ _=>False) ⟨h,g,d,t,os⟩)
  (hm:fo≠.missing):wpAny (model prog w) A (getAttrBy (.ref e) (.str name tk) fill expr) Q E ⟨h,g,d,t,os⟩:=by
 have hga:=PySem.W.looks_findIn (M:=model prog w) X G.ga
 have hhk:PySem.W.Looks (model prog w) h (hookBefore (.ref C)) none:=PySem.W.looks_hook X (by rw[zo (by rfl)];exact G.hk)
 have sub:PySem.W.Looks (model prog w) h (isInstance (.ref e) (.type "BaseException")) true:=I.type.andThen (PySem.W.looks_mroIn X G.sub.2)
 unfold getAttrBy
 refine jS (zb (I.type.at (zb (hga.at ?_))))
 have hx2:(Value.builtin "BaseException.__getattribute__" == Value.builtin "object.__getattribute__")=false:=by decide +kernel
 dsimp only
 rw[Zs (by rw[hx2,kB];decide)]
 unfold getAttrByItsOwn
 refine zb (hhk.at (zb (wpAny_attempt (jS ?_))))
 unfold callGetattribute
 rw[Zs (by cases expr<;>simp[onTheHeap])]
 unfold boundAndCalled
 have SF:=PySem.F.attrBase_ValueError.ga
 rw[SF.bind]
 refine zb (zh ?_)
 refine ky (codeAny_call_builtin SF.plain PySem.F.entry_bexc_ga (@PySem.W.check_slot (model prog w) _ _ ⟨h,g,d,t,os⟩ "BaseException.__getattribute__" "BaseException" "__getattribute__" (.ref e) [.str name tk] [] _ (by decide +kernel) (by decide +kernel) sub (PySem.F.args_bexc_ga (.ref e) (.str name tk)) ?_))
 have L1:=PySem.W.looks_find (M:=model prog w) X I hfo
 refine zb (zh (zb (zh (zb (I.type.at (zb (L1.at ?_)))))))
 cases fo with
 |missing=>exact absurd rfl hm
 |value v=>
  refine ZT hq (fun fin s' z=>?_) (fun _ _ z=>False.elim z)
  rcases fin with (_|_|_|_)|_<;>first|exact z|exact z.elim
 |bind g a=>
  refine ZT hq (fun fin s' z=>?_) (fun _ _ z=>False.elim z)
  rcases fin with (_|_|_|_)|_<;>first|exact z|exact z.elim
theorem agC {Q:VP_} {expr:Bool} (X:K.In h) (hs:yM K C=true) (hn:PySem.W.findIn K (.ref C) name=some none) (he:h.get? e=some ⟨.ref C,some dx,.fields vs,sl⟩) (hN:h.Ns1 dx m) (hm:m name=some v) (hv:PySem.W.handedIn v=true)
  (hq:Q v ⟨h,g,d,t+1,os⟩):wpAny (model prog w) A (getAttr (.ref e) name expr) Q E ⟨h,g,d,t,os⟩:=by
 obtain⟨cd,G⟩:=Hv hs
 obtain⟨od,es,ep,ho,hod,hk,hu,hf⟩:=hN
 have I:PySem.W.InstAt h e ⟨.ref C,some dx,.fields vs,sl⟩ C (some od):=⟨he,rfl,rfl,ho⟩
 have hfo:PySem.W.findObj K C (some od) name=some (.value v):=by
  unfold PySem.W.findObj PySem.W.ownOf
  rw[G.cls,hn]
  simp only[Q1,G.dct,Qb,W0 hod ((hf name).trans hm)]
 unfold getAttr
 refine zb (wpAny_mkText (Zy X G I hfo (zh ?_) (by intro z;cases z)))
 show wpAny _ _ (handedOut v) _ _ _
 rw[PySem.W.handedOut_of hv]
 exact zh hq
def ExI (e C:Addr) (h:Heap):Prop:=∃ dx vs sl od,h.get? e=some ⟨.ref C,some dx,.fields vs,sl⟩/\h.get? dx=some od
theorem agD (hs:yM K C=true):PySem.W.KitX K (.ref e) (.ref C) (ExI e C) where
 ty:=fun M h X ⟨dx,vs,sl,od,he,ho⟩=>PySem.W.InstAt.type (od:=some od) ⟨he,rfl,rfl,ho⟩
 it:=fun M h X _=>by
  obtain⟨cd,G⟩:=Hv hs
  have hcD:=G.cls
  unfold PySem.W.clsIn at hcD
  split at hcD
  ·rename_i c' d' cd' sl' ho
   intro A' Q' E' s' k q
   unfold isType loadHead
   exact zb (wpAny_loadPart (k _ _ (X _ _ ho)) (zh q))
  ·cases hcD
 ne:=fun h tp dd its n sl X htp=>by
  obtain⟨cd,G⟩:=Hv hs
  have hcD:=G.cls
  refine Bool.eq_false_iff.mpr fun q=>?_
  have e:C=tp:=Value.ref.inj (beq_iff_eq.mp q)
  subst e
  unfold PySem.W.clsIn at hcD
  split at hcD
  ·rename_i c' d' cd' sl' ho
   have z:=(X _ _ ho).symm.trans htp
   cases z
  ·cases hcD
 ca:=fun {prog w A E Q s} X p k=>by
  obtain⟨cd,G⟩:=Hv hs
  obtain⟨dx,vs,sl,od,he,ho⟩:=p
  obtain⟨h,g,d,t,os⟩:=s
  have I:PySem.W.InstAt h e ⟨.ref C,some dx,.fields vs,sl⟩ C (some od):=⟨he,rfl,rfl,ho⟩
  have hfo:PySem.W.findObj K C (some od) "__class__" = some (.bind (.builtin "getset_descriptor.__get__") (.builtin "object.__class__")):=PySem.W.findObj_data (by rw[G.cls];rfl) G.cl G.gt G.tk
  unfold getAttr? getAttrBy?
  refine zb (wpAny_mkText (zb (wpAny_attempt (Zy X G I hfo ?_ (by intro z;cases z)))))
  refine zb (jS (ky (PySem.W.class_get (s:=⟨h,g,d,t+1,os⟩) (od:=some od) X I G.sub.1 (zh ?_))))
  exact PySem.W.handed_on rfl (zh k)
end
def Mz (e C:Addr) (dx:Option Addr):HO:=.ext fun h=>∃ t,h.get? e=some (X3 C t dx)
theorem TV {P:Program} {w:World} {H:Hp} {h:Heap} {e C t:Addr} {dx:Option Addr} (q:h.get? e=some (X3 C t dx)):jQ P w H h e (Mz e C dx):=⟨⟨t,q⟩,⟨_,q⟩,fun _ _ ⟨t,p⟩ k=>⟨t,k _ p⟩⟩
section
variable {X:Cx} {pins:List (Addr×Obj)} {σ:L2.St} {H:Hp} {s:Shared} {C a:Addr} {o value:Expr} {ta tv:TE} {f:Str} {pos pos' p apos:Pos} {B newId initId:String} {bmB:List Value} {e:Expr} {es:List Expr} {t:TA} {x:Str}
theorem TX {dx:Option Addr} (I:Inv X pins σ H s) (e:H a=some (Mz a C dx)):∃ t,s.heap.get? a=some (X3 C t dx):=(I.hok a _ e).1
theorem Inv.abV {h':Heap} {tk:Nat} {dx:Option Addr} (I:Inv X pins σ H s) (ea:H a=some (Mz a C dx)) (k:∀ b u,b≠a->s.heap.get? b=some u->h'.get? b=some u) {t1:Addr} (he:h'.get? a=some (X3 C t1 dx)) :
  Inv X pins σ H { s with heap:=h',toks:=tk }:=by
 have z:=I.write (t':=tk) (x:=a) (e:=a) (o:=Mz a C dx) (by rw[ea];trivial) (.inl rfl) k ⟨_,he⟩ (TV he)
 have q:upd H a (Mz a C dx)=H:=by
  funext b
  by_cases hb:b=a
  ·subst hb;rw[bK,ea]
  ·rw[aP hb]
 rwa [q] at z
theorem Inv.attr {h':Heap} {tk:Nat} {v:V} {u:Value} (I:Inv X pins σ H s) (ea:H a=some (Mz a C none)) (rv:RelV v u) (k:∀ b o,b≠a->s.heap.get? b=some o->h'.get? b=some o) {t1:Addr}
  (he:h'.get? a=some (X3 C t1 (some s.heap.objs.size))) (n1:h'.Ns1 s.heap.objs.size (fun y=>if y=f then some u else none)) :
  Inv X pins σ (upd (upd H s.heap.objs.size (.xd [(f,v)])) a (Mz a C (some s.heap.objs.size))) { s with heap:=h',toks:=tk }:=by
 have hf:H s.heap.objs.size=none:=I.hok.fresh (zt _)
 have hla:a < s.heap.objs.size:=I.hok.lt ea
 have hne:s.heap.objs.size≠a:=Q3 hla
 have lt:∀ b u,s.heap.get? b=some u->b≠s.heap.objs.size:=fun b u q=>ZU (zw q)
 have gu:∀ b,b≠a->b≠s.heap.objs.size->upd (upd H s.heap.objs.size (.xd [(f,v)])) a (Mz a C (some s.heap.objs.size)) b=H b:=fun b h1 h2=>by rw[aP h1,aP h2]
 have na:∀ b w,H b=some w->(∀ φ,w≠.ext φ)->b≠a:=fun b w q h z=>by subst z;rw[ea] at q;cases q;exact h _ rfl
 have nd:∀ b w,H b=some w->b≠s.heap.objs.size:=fun b w q z=>by rw[z,hf] at q;cases q
 refine I.un (t':=tk) ⟨fun b u q n _ _=>k b u (fun z=>by subst z;rw[ea] at n;cases n) q,fun b u q n _ _=>⟨u.slots,k b u (fun z=>by subst z;rw[ea] at n;cases n) q⟩,
  fun b u q n _=>?_,fun b u q _=>?_,fun b xs q=>?_,fun b u xs q=>?_,fun b ps q=>⟨#[],?_⟩⟩ (fun b w q=>?_)
 ·rw[gu b (fun z=>by subst z;rw[ea] at n;cases n) (lt b u q)];exact n
 ·by_cases hb:b=a
  ·subst hb;exact⟨_,he⟩
  ·exact⟨u,k b u hb q⟩
 ·rw[gu b (na b _ q fun _ z=>nomatch z) (nd b _ q)];exact q
 ·rw[gu b (na b _ q fun _ z=>nomatch z) (nd b _ q)];exact q
 ·rw[gu b (na b _ q fun _ z=>nomatch z) (nd b _ q),q];simp
 ·by_cases hb:b=a
  ·subst hb
   rw[bK] at q
   cases q
   exact TV he
  ·rw[aP hb] at q
   by_cases hd:b=s.heap.objs.size
   ·subst hd
    rw[bK] at q
    cases q
    refine⟨_,n1,fun y=>?_⟩
    by_cases hy:y=f
    ·subst hy
     rw[zo rfl]
     simp only[List.lookup,beq_self_eq_true]
     exact rv
    ·rw[Zs hy]
     have:(y==f)=false:=beq_eq_false_iff_ne.mpr hy
     simp only[List.lookup,this]
     trivial
   ·rw[aP hd] at q
    refine (I.hok b w q).stay (fun c u hc z=>k c u ?_ z) (fun c z=>?_) fun c xs z=>?_
    ·rcases hc with hc|hc
     ·rw[hc];exact hb
     ·exact na c _ hc fun _ z=>nomatch z
    ·rw[gu c (na c _ z fun _ z=>nomatch z) (nd c _ z)];exact z
    ·rw[gu c (na c _ z fun _ z=>nomatch z) (nd c _ z)];exact z
def sEx (C:Addr) (ta tv:TE) (f:Str):TS:=fun D σ H=>tv σ H fun y H1=>ta σ H1 fun x H2=>∃ a,x=.ref a/\H2 a=some (Mz a C none)/\∀ dx,H2 dx=none->dx≠a->D.nx σ (upd (upd H2 dx (.xd [(f,y)])) a (Mz a C (some dx)))
theorem agE (hc:setIn X.K C f=true) (ha:PE X o ta) (hv:PE X value tv) (hs:swapsWith value (some (.Attribute o f pos')) pos.line X.env=pure false:=by rfl):PS X (.Assign [.Attribute o f pos'] value pos) (sEx C ta tv f):=by
 intro pins s σ H D I h
 refine plainObj_wpAny_Assign_Attribute (jy (hv pins s σ H _ I h) fun u s1 ⟨y,H1,I1,ry,q⟩=>jy (ha pins s1 σ H1 _ I1 q) fun ov s2 ⟨x,H2,I2,rx,a,ex,ea,q2⟩=>?_) hs
 subst ex
 obtain rfl:ov=Value.ref a:=rx
 obtain⟨t0,ht⟩:=TX I2 ea
 have hf:H2 s2.heap.objs.size=none:=I2.hok.fresh (zt _)
 obtain⟨hh,g,d,tk,os⟩:=s2
 refine agB I2.Ku hc ht fun h' tk' k he n1=>?_
 exact⟨σ,_,Inv.attr (tk:=tk') I2 ea ry k he n1,q2 _ hf (Q3 (I2.hok.lt ea))⟩
def tBI (C:Addr) (t:TA):TE:=fun σ H Q=>t σ H fun vs H1=>∃ a v,vs=[.ref a,v]/\H1 a=some (Mz a C none)/\Q .non H1
def Vv (K:FG_) (FE:Addr) (initId:String):Prop:=
 PySem.W.specialIn K (.ref FE) "__getattribute__" = some (some (.builtin "type.__getattribute__"))/\PySem.W.readsIn K FE (.type "type")=true/\PySem.W.findCls K (.ref FE) (.type "type") "__init__" = some (.val (.builtin initId))
theorem Zz {pl:Sem Bool} {FE fI:Addr} (F:ExcBaseFacts B newId initId bmB) (hx:WY X.K C fI bmB newId=true) (hg:Gl X x) (hm:X.mg x=some (.ref FE)) (hb:Vv X.K FE initId) (hh:PySem.W.handedIn (.builtin initId)=true) (ha:PA X (e::es) t)
  (hdb:(x==("__debug__" : Str))=false:=by decide) (he:starEach (e::es) X.env=(false,eval e X.env)::starEach es X.env:=by rfl) (hpl:(backTo pos (starEach es X.env)).any (·.1)=false:=by rfl)
  (ht:eval (.Call (.Attribute (.Name x p) "__init__" apos) (e::es) [] pos) X.env=(do
   let ov <-eval (.Name x p) X.env
   standAt apos.atName
   let (f,first) <-holding [ov] (getMethod ov "__init__" pl)
   callWith pos f first (backTo pos (starEach (e::es) X.env)) (backToKw pos (keywordEach [] X.env))):=by rfl) :
  PE X (.Call (.Attribute (.Name x p) "__init__" apos) (e::es) [] pos) (tBI C t):=by
 intro pins s σ H Q I h
 refine PySem.W.methodCall_KW (pl:=pl) (BL I hg hm ?_ hdb) ht
 refine PySem.W.method_cls I.Ku hb.1 (PySem.W.cls_value I.Ku hb.2.1 hb.2.2 hh ?_)
 refine PyProof.Rows.callWith_builtin1 (jy (ha pos pins _ σ H _ (I.tok (s.toks+1)) h) fun us s1 ⟨vs,H1,I1,r1,a,v,ev,ea,q⟩=>?_) he hpl
 subst ev
 cases r1 with
 |cons ra r1=>
  cases r1 with
  |cons rv r1=>
   cases r1
   obtain rfl:=ra
   obtain⟨t0,h0⟩:=TX I1 ea
   have x1:=(Od I1.Ku hx).1
   obtain⟨hh',g,d,tk,os⟩:=s1
   refine aeS F x1 h0 (show 1<=sizeLine by decide +kernel) fun h' t1 k he _ _=>?_
   exact⟨.non,H1,Inv.abV (tk:=tk) I1 ea k he,rfl,q⟩
end
def tD (H:Hp) (a:Addr):Hp:=fun b=>if b=a then none else H b
section
variable {X:Cx} {pins:List (Addr×Obj)} {σ:L2.St} {H:Hp} {s:Shared} {C a:Addr} {f:Str} {pos cpos p:Pos} {B newId initId:String} {bmB:List Value} {e:Expr} {x:Str} {te:TE}
theorem Inv.abW {φ:Heap->Prop} (I:Inv X pins σ H s) (ea:H a=some (.ext φ)):Inv X [] σ (tD H a) s:=by
 have dn:∀ b,H b=none->tD H a b=none:=fun b q=>by unfold tD;split<;>first|rfl|exact q
 have ds:∀ b u,H b=some u->(∀ ψ,u≠.ext ψ)->tD H a b=some u:=fun b u q n=>by
  unfold tD
  rw[Zs (fun z=>by subst z;rw[ea] at q;cases q;exact n _ rfl)]
  exact q
 refine⟨I.ok,I.os,I.bare,⟨I.base.keep,I.base.slot,fun b o e n x=>dn b (I.base.free b o e n x),I.base.there,fun b xs q=>ds b _ (I.base.tups b xs q) (fun _ z=>nomatch z),fun b o u q=>ds b _ (I.base.uP b o u q) (fun _ z=>nomatch z),fun b ps q=>?_⟩,
  I.loc,I.cell,dn _ I.free,fun y c q=>dn _ (I.nC y c q),fun p hp=>?_,fun b u q=>?_,I.len⟩
 ·obtain⟨more,z⟩:=I.base.yu b ps q
  exact⟨more,ds b _ z fun _ z=>nomatch z⟩
 ·obtain⟨z1,z2,z3⟩:=I.pin p (by rcases List.mem_append.mp hp with z|z;exact js _ z;cases z)
  exact⟨z1,dn _ z2,z3⟩
 ·have hb:H b=some u:=by
   unfold tD at q
   split at q
   ·cases q
   ·exact q
  exact (I.hok b u hb).stay (fun _ _ _ z=>z) (fun c z=>ds c _ z fun _ z=>nomatch z) fun c xs z=>ds c _ z fun _ z=>nomatch z
def spI (C:Addr) (f:Str) (ok:V->Prop):Sp:=fun vs H Q _=>∃ a v,vs=[.ref a,v]/\ok v/\H a=some (Mz a C none)/\∀ H1 dx,Same H H1->H1 dx=none->dx≠a->Q .non (upd (upd H1 dx (.xd [(f,v)])) a (Mz a C (some dx)))
def tRz (C:Addr) (f:Str) (ok:V->Prop) (E:XK) (t:TA):TS:=fun _ σ H=>t σ H fun vs H1=>∃ v,vs=[v]/\ok v/\∀ H2 dx,Same H1 H2->H2 dx=none->E (.ref C) (some dx) (upd H2 dx (.xd [(f,v)]))
theorem agF {k:Nat} {fI:Addr} {fd:FuncData} {ps:LS_} {E:XK} {es:List Expr} {t:TA} {ok:V->Prop} (Fe:ExcBaseFacts B newId initId bmB) (hx:WY X.K C fI bmB newId=true) (hbase:bmB.contains (.type "BaseException")=true) (hk:PySem.W.keepIn X.K (.ref C)=true)
  (F:bF X.prog X.w X.K X.mg X.base gO k fI fd ps (spI C f ok)) (hb:Binds X.K fd ps []) (hr:jU (k+1) X.A) (hg:Gl X x) (hm:X.mg x=some (.ref C)) (X4:∀ e s,RX X E e s->X.xe e s) (ha:PA X (e::es) t)
  (hdb:(x==("__debug__" : Str))=false:=by decide) (hs:starEach (e::es) X.env=(false,eval e X.env)::starEach es X.env:=by rfl) (hpl:(backTo cpos (starEach es X.env)).any (·.1)=false:=by rfl) :
  PS X (.Raise (some (.Call (.Name x p) (e::es) [] cpos)) none pos) (tRz C f ok E t):=by
 intro pins s σ H D I h
 rw[arm_exec_Raise]
 refine zb (ke (abS (C:=C) (bmB:=bmB) (newId:=newId) hbase hr.hd (zb (ZT ?_ (fun v s3 h3=>zb (ke (zh h3))) fun _ _ x=>x))))
 refine JE (BL I hg hm ?_ hdb)
 refine PySem.W.callWith_K (h₀:=X.base) I.ok.mod.kin hk (jy (ha cpos pins s σ H _ I h) fun us s1 ⟨vs,H1,I1,r,v,ev,hok,q⟩=>⟨I1.Ku,?_⟩) hs hpl
 subst ev
 have hl:us.length=1:=r.length.symm
 have hf:H1 (s1.heap.objs.size+1)=none:=I1.hok.fresh (Nat.le_succ _)
 have mi:CT X H1 (s1.heap.objs.size+1):=CT.new (I1.G9 (X7:=[]) fun _ z=>nomatch z) (Nat.le_succ _)
 obtain⟨hh,g,d,tk,os⟩:=s1
 refine aeR Fe I1.Ku hx (by rw[JA,hl];decide +kernel) fun h' k' he=>?_
 have I2:Inv X pins σ (upd H1 (hh.objs.size+1) (Mz (hh.objs.size+1) C none)) ⟨h',g,d,tk,os⟩:=I1.laid (t':=tk) k' (Nat.le_succ _) (TV he)
 have r2:Vals [V.ref (hh.objs.size+1),v] (Value.ref (hh.objs.size+1)::us):=.cons rfl r
 have hps:ps.length=2:=(F.len [V.ref (hh.objs.size+1),v] (upd H1 (hh.objs.size+1) (Mz (hh.objs.size+1) C none)) (fun _ _=>True) E0 ⟨_,_,rfl,hok,bK,fun _ _ _ _ _=>trivial⟩).symm
 rw[JA]
 refine ky (kr (F.run _ X.stack _ _ ⟨Value.ref (hh.objs.size+1)::us,[]⟩ (Value.ref (hh.objs.size+1)::us) _ (fun y H3=>y=.non/\∃ H4 dx,Same (upd H1 (hh.objs.size+1) (Mz (hh.objs.size+1) C none)) H4/\H4 dx=none/\dx≠hh.objs.size+1/\H3=upd (upd H4 dx (.xd [(f,v)])) (hh.objs.size+1) (Mz (hh.objs.size+1) C (some dx))) E0 (hr.make C us [])
  (I2.env0.make C us []) (by have:=hb ⟨h',g,d,tk,os⟩ (Value.ref (hh.objs.size+1)::us) I2.Ku (by rw[qV,Qr,hl,hps]);rwa [qV] at this) r2
  ⟨_,_,rfl,hok,bK,fun H4 dx s4 hd hne=>⟨rfl,H4,dx,s4,hd,hne,rfl⟩⟩) fun r s' hq'=>?_)
 cases r with
 |error e=>exact False.elim hq'
 |ok fl=>
  cases fl with
  |next=>exact False.elim hq'
  |brk=>exact False.elim hq'
  |cont=>exact False.elim hq'
  |ret u=>
   obtain⟨y,H3,I3,ry,ey,H4,dx,s4,hd,hne,eH⟩:=I2.after hq'
   subst ey eH
   obtain rfl:u=Value.none:=ry
   refine⟨rfl,hh.objs.size+1,?_⟩
   have ea:(upd (upd H4 dx (.xd [(f,v)])) (hh.objs.size+1) (Mz (hh.objs.size+1) C (some dx))) (hh.objs.size+1)=some (Mz (hh.objs.size+1) C (some dx)):=bK
   obtain⟨t1,h1⟩:=TX I3 ea
   have eH:tD (upd (upd H4 dx (.xd [(f,v)])) (hh.objs.size+1) (Mz (hh.objs.size+1) C (some dx))) (hh.objs.size+1)=upd (tD H4 (hh.objs.size+1)) dx (.xd [(f,v)]):=by
    funext b
    unfold tD
    by_cases hb:b=hh.objs.size+1
    ·rw[zo hb,hb,aP (qA hne),zo rfl]
    ·rw[Zs hb,aP hb]
     by_cases hb':b=dx
     ·rw[hb',bK,bK]
     ·rw[aP hb',aP hb',Zs hb]
   have J:=Inv.abW I3 ea
   rw[eH] at J
   have sm:Same H1 (tD H4 (hh.objs.size+1)):=fun b o eb=>by
    have hb:b≠hh.objs.size+1:=fun z=>by rw[z,hf] at eb;cases eb
    unfold tD
    rw[Zs hb]
    exact s4 b o (by rw[aP hb];exact eb)
   have hd':tD H4 (hh.objs.size+1) dx=none:=by unfold tD;rw[Zs hne];exact hd
   refine⟨t1,some dx,rfl,(Od I3.Ku hx).1,h1,X4 _ _ ⟨hh.objs.size+1,.ref C,some dx,σ,_,rfl,J,⟨by rw[aP (qA hne)];unfold tD;rw[zo rfl],mi.ab,mi.nl,mi.nc⟩,.inl ⟨_,_,h1,rfl⟩,q _ _ sm hd'⟩⟩
end
theorem QZ {name x:Str} (hx:x≠name):∀ (l:List DictEntry) (i:Nat),l.findIdx? (fun e=>e.key.isStr name)=some i->(l.eraseIdx i).find? (fun e=>e.key.isStr x)=l.find? (fun e=>e.key.isStr x)
 |[],i,hi=>by simp at hi
 |e::l,i,hi=>by
  rw[List.findIdx?_cons] at hi
  by_cases he:e.key.isStr name=true
  ·simp only[he,Qb,Option.some.injEq] at hi;subst hi
   have:e.key.isStr x=false:=by
    cases hh:e.key.isStr x
    ·rfl
    ·exact absurd (Value.isStr_inj _ _ _ hh he) hx
   rw[List.eraseIdx_zero,List.tail_cons,qS,this]
  ·have he':e.key.isStr name=false:=by simpa using he
   simp only[he',ZI,qr] at hi
   cases hj:l.findIdx? (fun e=>e.key.isStr name) with
   |none=>simp[hj] at hi
   |some j=>
    simp only[hj,Option.map_some,Option.some.injEq] at hi;subst hi
    rw[List.eraseIdx_cons_succ,qS,qS]
    cases e.key.isStr x with
    |false=>exact QZ hx l j hj
    |true=>rfl
section
variable {M:Model} {A:Around} {E:VP_} {s:Shared}
theorem aeT {a:Addr} {m:Str->Option Value} {name:Str} {v:Value} {Q:Bool->Shared->Prop} (hn:s.heap.Ns a m) (hv:m name=some v)
  (hQ:∀ h' m',h'.Ns a m'->(∀ x,x≠name->m' x=m x)->Heap.SameBut a s.heap h'->Q true { s with heap:=h' }):wpAny M A (nsDel a name) Q E s:=by
 obtain⟨o,es,ep,ho,hd,hk,hm⟩:=id hn
 have hany:es.any (·.refKey)=false:=by
  rw[Array.any_eq_false'];intro e he;obtain⟨n,t,h⟩:=hk e he;simp[DictEntry.refKey,h]
 have hin:es.any (·.key.isStr name)=true:=by
  have h1:=(hm name).trans hv
  unfold nsFind findBy at h1
  obtain⟨en,h2,_⟩:=Option.map_eq_some_iff.mp h1
  rw[Array.any_eq_true']
  exact⟨en,Array.mem_of_find?_eq_some h2,by have:=Array.find?_some h2;exact this⟩
 have hhas:nsHas name o=pure true:=by
  rw[nsHas_eq];unfold nsHasByArray;rw[hd]
  show (if (es.any fun x=>x.key.isStr name)=true then _ else _)=_
  rw[zo hin]
 unfold nsDel
 refine zb (wpAny_loadPart ho ?_)
 rw[hhas]
 refine zb (zh ?_)
 rw[zo rfl]
 refine zb (wpAny_updatePart ho (zh ?_))
 obtain⟨cl,d,dt,sl⟩:=o
 subst hd
 cases hi:es.findIdx? (·.key.isStr name) with
 |none=>
  exfalso
  obtain⟨i,hi',hp⟩:=Array.any_eq_true.mp hin
  have:=Array.findIdx?_eq_none_iff.mp hi es[i] (Array.getElem_mem hi')
  rw[this] at hp;cases hp
 |some i=>
  refine hQ _ (nsFind (es.eraseIdxIfInBounds i)) ⟨_,_,ep+1,QE _ ho (by simp only[Obj.dropName_eq,Obj.dropNameByArray,hi]<;>rfl),(by simp only[Obj.dropName_eq,Obj.dropNameByArray,hi]<;>rfl),hk.erase i,fun _=>rfl⟩ (fun x hx=>?_) (Heap.SameBut.update ..)
  rw[<-hm x]
  unfold nsFind findBy
  rw[<-Array.find?_toList,<-Array.find?_toList,Array.toList_eraseIdxIfInBounds,QZ hx es.toList i (by rw[<-hi];obtain⟨l⟩:=es;simp)]
end
section
variable {X:Cx} {pins:List (Addr×Obj)} {σ:L2.St} {H:Hp} {s:Shared}
theorem aeU {M:Model} {A:Around} {E:VP_} {i:Nat} {x:Str} {v:V} {Q:Unit->Shared->Prop} (I:Inv X pins σ H s) (hN:X.N.Nodup) (hi:X.N[i]?=some x) (hx:X.env.scope.names.lookup x=some .local) (hv:σ[i]?=some (some v))
  (h:∀ s',Inv X pins (σ.set i none) H s'->Q () s'):wpAny M A (deleteName X.env x) Q E s:=by
 obtain⟨m,hn,hl⟩:=id I.loc
 obtain⟨u,ru,lk⟩:=hl i x v hi hv (.inl hx)
 have hk:X.env.kindOf x=some .local:=hx
 have hm:m x=some u:=by
  rcases lk with⟨_,q⟩|⟨q,_⟩
  ·exact q
  ·rw[hk] at q;rcases q with q|q<;>cases q
 have go:∀ h' m',h'.Ns X.env.locals m'->(∀ y,y≠x->m' y=m y)->Heap.SameBut X.env.locals s.heap h'->Q () { s with heap:=h' }:=fun h' m' n' sm sb=>by
  refine h _ ?_
  have nl:∀ b o,X.s₀.heap.get? b=some o->b≠X.env.locals:=fun b o e=>ZU (ZA (zw e) I.ok.above)
  have tr:∀ b w,H b=some w->b≠X.env.locals:=fun b w q z=>by rw[z,I.free] at q;cases q
  refine⟨I.ok,I.os,I.bare,⟨fun b o e n f y=>(sb.2 b (nl b o e)).trans (I.base.keep b o e n f y),fun b o e n f y=>?_,I.base.free,fun b o e y=>?_,I.base.tups,I.base.uP,I.base.yu⟩,
   ⟨m',n',fun j y v' h1 h2 h3=>?_⟩,fun y c e=>?_,I.free,I.nC,fun p hp=>?_,fun b w q=>?_,by rw[QI];exact I.len⟩
  ·obtain⟨sl,q⟩:=I.base.slot b o e n f y
   exact⟨sl,(sb.2 b (nl b o e)).trans q⟩
  ·obtain⟨o',q⟩:=I.base.there b o e y
   exact⟨o',(sb.2 b (nl b o e)).trans q⟩
  ·have hj:j≠i:=fun z=>by
    subst z
    rw[JU] at h2
    split at h2
    ·split at h2<;>cases h2
    ·rename_i z;exact z rfl
   rw[kl (qA hj)] at h2
   obtain⟨u',r',lk'⟩:=hl j y v' h1 h2 h3
   refine⟨u',r',?_⟩
   rcases lk' with⟨k1,k2⟩|⟨k1,c,k2,k3⟩
   ·exact .inl ⟨k1,by rw[sm y (fun z=>hj (HD hN (z▸h1) hi))];exact k2⟩
   ·refine .inr ⟨k1,c,k2,?_⟩
    have:=I.cne y c k2
    unfold Heap.IsCell at k3 ⊢
    rw[sb.2 c this];exact k3
  ·obtain⟨v',q⟩:=I.cell y c e
   refine⟨v',?_⟩
   unfold Heap.IsCell at q ⊢
   rw[sb.2 c (I.cne y c e)];exact q
  ·obtain⟨q1,q2,q3,q4⟩:=I.pin p hp
   exact⟨(sb.2 _ q3).trans q1,q2,q3,q4⟩
  ·refine (I.hok b w q).stay (fun c u hc z=>(sb.2 c ?_).trans z) (fun _ z=>z) fun _ _ z=>z
   rcases hc with hc|hc
   ·rw[hc];exact tr b w q
   ·exact tr c _ hc
 unfold deleteName
 rw[hk]
 dsimp only
 rw[I.ok.kind,Zs (by rw[show (ScopeKind.function==ScopeKind.class)=false from rfl,show (ScopeKind.function==ScopeKind.module)=false from rfl];simp)]
 refine zb (aeT hn hm fun h' m' n' sm sb=>?_)
 exact zh (go h' m' n' sm sb)
end
section
variable {X:Cx} {pins:List (Addr×Obj)} {σ:L2.St} {H:Hp} {s:Shared} {E:XK}
theorem RX.lW {Ex:VP_} {e:Value} (h:RX (X.wish Ex) E e s):RX X E e s:=by
 obtain⟨a,C,dx,σ,H,r,I,m,x,q⟩:=h
 refine⟨a,C,dx,σ,H,r,I.lW,⟨m.un,m.ab,m.nl,m.nc⟩,?_,q⟩
 rcases x with x|⟨T,mT,x⟩
 ·exact .inl x
 ·exact .inr ⟨T,⟨mT.un,mT.ab,mT.nl,mT.nc⟩,x⟩
theorem Hf.mono {st:List Stmt} {t:TS} {E1:VP_} (h:Hf (X.wish E1) st t) (k:∀ e s,E1 e s->X.xe e s):Hf X st t:=fun pins s σ H D I hw=>
 ZT (h pins s σ H D (I.wish _) hw) (fun _ _ q=>q.lW) k
theorem PA.Ss {es:List Expr} {t:TA} (h:PA X.Ss es t):PA X es t:=fun pos pins s σ H Q I hw=>
 ZT (h pos pins s σ H Q (I.wish _) hw) (fun _ _ ⟨v,H',I',r,q⟩=>⟨v,H',I'.lW,r,q⟩) fun _ _ z=>False.elim z
end
theorem qK.okX {P:Program} {w:World} {K:FG_} {mg:Str->Option Value} {base:Heap} {x qual:Str} {st:Stmt} {f:Addr} {fd:FuncData} {N ps:LS_} {k:Nat} {sp:Sp} (F:qK K x qual st f fd) (S:bf N ps (aK st)) (len:∀ vs H Q E,sp vs H Q E->vs.length=ps.length)
  (hbody:∀ (cdv:Value) (A:Around) (outer:List Env) (s:Shared) (H:Hp) (vs:List V) (Q:VK) (E:XK),jU k (A.deeper (envOfC qual (aK st) s.heap.objs.size f cdv))->sp vs H Q E →
   ∃ t,Hf ((Bb (Sw P w) P w K mg base N qual (aK st) f cdv A outer s H E).wish (RX (Bb (Sw P w) P w K mg base N qual (aK st) f cdv A outer s H E) E)) (jR st) t/\t { nx:=fun _ H'=>Q .non H',rt:=Q } (start N vs) H):bF P w K mg base (Sw P w) (k+1) f fd ps sp:=by
 obtain⟨oc,od,kV,doc,pm,an,cdv,ct,osl,rfl,lk,hcd⟩:=F.ex
 refine acD lk hcd S len fun A outer s H vs Q E hr hsp=>?_
 obtain⟨t,h,q⟩:=hbody cdv A outer s H vs Q E hr hsp
 exact⟨t,Hf.mono h fun e s' hx=>Zx rfl rfl rfl rfl hx,q⟩
theorem bF.or {P:Program} {w:World} {K:FG_} {mg:Str->Option Value} {base:Heap} {CX:Sv} {k:Nat} {f:Addr} {fd:FuncData} {ps:LS_} {sp sp':Sp} (F:bF P w K mg base gO k f fd ps sp) (G:bF P w K mg base CX k f fd ps sp') :
  bF P w K mg base CX k f fd ps (fun vs H Q E=>sp vs H Q E\/sp' vs H Q E):=
 ⟨fun vs H Q E h=>h.elim (F.len vs H Q E) (G.len vs H Q E),fun A outer s H args us vs Q E hr he hb hv hs=>by
  rcases hs with hs|hs
  ·refine kr (F.run A outer s H args us vs Q E hr he hb hv hs) fun r s' q=>?_
   cases r with
   |error e=>exact False.elim q
   |ok fl=>cases fl<;>exact q
  ·exact G.run A outer s H args us vs Q E hr he hb hv hs⟩
def ZC (a C dx:Addr):HO:=.ext fun h=>∃ vs sl,h.get? a=some ⟨.ref C,some dx,.fields vs,sl⟩
theorem aeV {P:Program} {w:World} {H:Hp} {h:Heap} {a C dx:Addr} {vs:Array Value} {sl:Array (Option Value)} (q:h.get? a=some ⟨.ref C,some dx,.fields vs,sl⟩):jQ P w H h a (ZC a C dx):=
 ⟨⟨vs,sl,q⟩,⟨_,q⟩,fun _ _ ⟨vs,sl,p⟩ k=>⟨vs,sl,k _ p⟩⟩
theorem abX {P:Program} {w:World} {H:Hp} {h h':Heap} {S ch:List Addr} (ok:Ba P w H h) (c:Oc S ch h h') (hc:∀ b∈ch,H b=none) (hS:∀ b∈S,H b=none):Ba P w H h':=fun b u e=>by
 have ne:∀ (d:Addr) (w:HO),H d=some w->d∉ch/\d∉S:=fun d w q=>⟨fun z=>(by rw[hc d z] at q;cases q),fun z=>(by rw[hS d z] at q;cases q)⟩
 refine (ok b u e).stay (fun d v hd q=>?_) (fun _ q=>q) fun _ _ q=>q
 rcases hd with z|z
 ·subst z;exact c.keep _ _ q (ne _ _ e).1 (ne _ _ e).2
 ·exact c.keep _ _ q (ne _ _ z).1 (ne _ _ z).2
theorem abY {P:Program} {w:World} {H:Hp} {h:Heap} {a:Addr} {o:HO} (ok:Ba P w H h) (na:H a=none) (new:jQ P w (upd H a o) h a o):Ba P w (upd H a o) h:=fun b u e=>by
 by_cases hb:b=a
 ·subst hb;rw[bK] at e;cases e;exact new
 ·rw[aP hb] at e
  exact (ok b u e).stay (fun _ _ _ q=>q) (fun c q=>by rw[aP (bG q na)];exact q) fun c xs q=>by rw[aP (bG q na)];exact q
theorem aeW {fs:List Addr} {H H':Hp} {h h':Heap} {a:Addr} {o:HO} (u:Un fs [] H H' h h') (na:H' a=none) (ha:h.get? a=none):Un fs [] H (upd H' a o) h h':=
 ⟨u.keep,u.slot,fun b ob e n x=>by rw[aP (fun z=>by rw[z,ha] at e;cases e)];exact u.free b ob e n x,u.there,fun b xs q=>by rw[aP (bG (u.tups b xs q) na)];exact u.tups b xs q,
  fun b ob xs q=>by rw[aP (bG (u.uP b ob xs q) na)];exact u.uP b ob xs q,fun b ps q=>by
   obtain⟨m,z⟩:=u.yu b ps q
   exact⟨m,by rw[aP (bG z na)];exact z⟩⟩
abbrev Cx.inX (X:Cx) (a:Addr):Cx:={ X with A:=X.A.mark (some (.ref a)),calm:=false,xe:=fun _ _=>False }
section
variable {X:Cx} {pins:List (Addr×Obj)} {σ:L2.St} {H:Hp} {s:Shared} {a:Addr}
theorem Inv.inX (I:Inv X pins σ H s):Inv (Cx.inX X a) pins σ H s:=
 ⟨⟨I.ok.mod,I.ok.kind,I.ok.glob,I.ok.blt,I.ok.above,I.ok.inj,I.ok.has,I.ok.cab,fun z=>(by cases z),I.ok.frames,I.ok.stk,I.ok.exf,I.ok.bs,I.ok.XR,I.ok.V4,I.ok.X6,I.ok.zY,I.ok.frf⟩,I.os,I.bare,I.base,I.loc,I.cell,I.free,I.nC,I.pin,I.hok,I.len⟩
theorem Inv.ajc (ok:X.Ok) (I:Inv (Cx.inX X a) pins σ H s):Inv X pins σ H s:=⟨ok,I.os,I.bare,I.base,I.loc,I.cell,I.free,I.nC,I.pin,I.hok,I.len⟩
def XT (X:Cx) (C:Addr) (iv:Nat) (ts:TS) (D:Ends) (σ:L2.St):XK:=fun Cv dx H2=>Cv=.ref C/\∃ d,dx=some d/\∀ a,H2 a=none →
 ts { nx:=fun σ' H'=>D.nx (σ'.set iv none) H',rt:=D.rt } (σ.set iv (some (.ref a))) (upd H2 a (ZC a C d))
theorem TY {C Cn:Addr} {iv:Nat} {n cn:Str} {np hp:Pos} {b0:Stmt} {suite:List Stmt} {ts:TS} {D:Ends} {H1:Hp} {s1 s':Shared} {e:Value} (hst:X.stack=X.env::X.outer) (hf:X.env.frame=some X.env.locals) (hN:X.N.Nodup)
  (hi:X.N[iv]?=some n) (hl:X.env.scope.names.lookup n=some .local) (hg:Gl X cn) (hm:X.mg cn=some (.ref Cn)) (hx:PySem.W.exmOne X.K (.ref C) (.ref Cn)=some true) (hs:∀ a,Hf (Cx.inX X a) (b0::suite) ts)
  (I1:Inv X pins σ H1 s1) (hq:Sw X.prog X.w X.stack H1 s1 (XT X C iv ts D σ) e s') (hdb:(cn==("__debug__" : Str))=false:=by decide) :
  wpAny (model X.prog X.w) X.A (noteFrame e X.env) (fun _ s2=>wpAny (model X.prog X.w) X.A (setFlight e none) (fun _ s3=>wpAny (model X.prog X.w) X.A (handleBy e X.env [.ExceptHandler (some (.Name cn np)) (some n) (b0::suite) hp]) (SP X pins D) X.xe s3) X.xe s2) X.xe s':=by
 obtain⟨a,Cv,dx,H2,T,rfl,os,bare,un,hok,ha,hT,na,nT,ex,rfl,d,rfl,hE⟩:=hq
 have J0:Inv X pins σ H2 s':=I1.call' (ch:=[]) os un hok bare fun _ z=>nomatch z
 have fr:=J0.stack
 rw[hst] at fr
 have old:∀ b,s'.heap.objs.size<=b->s1.heap.get? b=none:=fun b z=>by
  cases q:s1.heap.get? b with
  |none=>rfl
  |some o=>
   obtain⟨o',q'⟩:=un.there b o q (fun z=>nomatch z)
   exact absurd (zw q') (Nat.not_lt.mpr z)
 have oa:s1.heap.get? a=none:=Heap.get?_none_of_le ha
 have mk:∀ (h:Heap) (ch:List Addr) (tk:Nat),Oc (frs X.stack) ch s'.heap h->(∀ b∈ch,s1.heap.get? b=none/\H2 b=none)->(∃ vs sl,h.get? a=some ⟨.ref C,some d,.fields vs,sl⟩)->Inv X pins σ (upd H2 a (ZC a C d)) { s' with heap:=h,toks:=tk }:=fun h ch tk c hc he=>by
  obtain⟨vs,sl,he⟩:=he
  refine I1.call' (ch:=[]) (s':={ s' with heap:=h,toks:=tk }) os (aeW (aeQ un c fun b z=>(hc b z).1) na oa) ?_ bare fun _ z=>nomatch z
  exact abY (abX hok c (fun b z=>(hc b z).2) J0.G8) na (aeV he)
 refine Vs (base:=X.base) (hst▸I1.ok.frames) fr hf ex fun h4 T' z c4 x4=>?_
 rw[<-hst] at c4
 refine vZ (s:={ s' with heap:=h4 }) none x4 fun h5 c5 x5=>?_
 have nT':H2 T'=none:=hok.fresh z
 have c45:=c4.trans (c5.mono (S':=frs X.stack) (c2:=[T']) (fun _ z=>z) fun _ z=>nomatch z)
 have cc:∀ b∈[T,a]++[T'],s1.heap.get? b=none/\H2 b=none:=fun b hb=>by
  simp only[List.mem_append,List.mem_cons,qf,or_false] at hb
  rcases hb with (rfl|rfl)|rfl
  ·exact⟨Heap.get?_none_of_le hT,nT⟩
  ·exact⟨oa,na⟩
  ·exact⟨old _ z,nT'⟩
 have at5:∃ vs sl,h5.get? a=some ⟨.ref C,some d,.fields vs,sl⟩:=by
  obtain⟨vs,sl,_,_,q,_⟩:=x5
  exact⟨vs,sl,q⟩
 have I5:=mk h5 _ s'.toks c45 cc at5
 have LT:PySem.W.Looks (model X.prog X.w) h5 (typeOf (.ref a)) (.ref C):=by
  obtain⟨vs,sl,q⟩:=at5
  exact (PySem.W.Looks.ld q).andThen .now
 refine wpAny_handleBy_cons (codeAny_handlers_test (BL (X:=Cx.inX X a) (Inv.inX I5) hg hm ?_ hdb)) (by intro q;cases q)
 refine (PySem.W.exm_one I5.Ku LT hx).at ?_
 show codeAny _ _ _ _ _
 refine codeAny_handlers_suite_as ?_
 refine vZ (s:={ s' with heap:=h5 }) none x5 fun h6 c6 x6=>?_
 have I6:=mk h6 _ s'.toks (c45.trans (c6.mono (S':=frs X.stack) (c2:=[T']) (fun _ z=>z) fun _ z=>nomatch z)) (fun b hb=>by
  rcases List.mem_append.mp hb with hb|hb
  ·exact cc b hb
  ·exact cc b (ZE _ hb)) (by obtain⟨vs,sl,_,_,q,_⟩:=x6;exact⟨vs,sl,q⟩)
 refine rY (X:=X) (v:=.ref a) I6 hN hi (.inl hl) rfl (fun s7 I7=>?_) (.inr hl)
 refine ZT (hs a pins s7 _ _ _ (Inv.inX I7) (hE a na)) (fun fl s8 h8=>?_) fun _ _ z=>False.elim z
 show wpAny _ _ _ _ _ _
 have fin:∀ {σ':L2.St} {H':Hp},Inv (Cx.inX X a) pins σ' H' s8->(∀ s9,Inv X pins (σ'.set iv none) H' s9->SP X pins D fl s9) →
   wpAny (model X.prog X.w) X.A (do bindName X.env n .none;unbindBehindTheSuite X.env n hp) (fun _ s5=>SP X pins D fl s5) X.xe s8:=fun {σ' H'} J k=>by
  have J':=Inv.ajc I7.ok J
  have hlt:iv < σ'.length:=by rw[J'.len];exact (List.getElem?_eq_some_iff.mp hi).1
  refine zb (wpAny_bindName (rY (v:=.non) J' hN hi (.inl hl) rfl (fun s9 I9=>?_) (.inr hl)))
  unfold unbindBehindTheSuite unbindName
  refine wpAny_onRaise (zb (wpAny_point (zb (aeU (v:=.non) I9 hN hi hl (by rw[List.getElem?_set_self hlt]) fun s10 I10=>wpAny_point (k s10 ?_)))))
  rwa [List.set_set] at I10
 cases fl with
 |next=>
  obtain⟨σ',H',J,q⟩:=h8
  exact fin J fun s9 I9=>⟨_,H',I9,q⟩
 |ret u=>
  obtain⟨v,σ',H',J,rv,q⟩:=h8
  exact fin J fun s9 I9=>⟨v,_,H',I9,rv,q⟩
 |brk=>
  obtain⟨_,_,_,q⟩:=h8
  exact False.elim q
 |cont=>
  obtain⟨_,_,_,q⟩:=h8
  exact False.elim q
end
section
variable {X:Cx} {C Cn f:Addr} {iv iy k:Nat} {n cn x y:Str} {np hp p py pa cpos pos:Pos} {b0:Stmt} {suite:List Stmt} {ts:TS} {tf:TE} {t:TA} {sp:Sp} {fd:FuncData} {ps:LS_} {e:Expr} {es:List Expr}
def ajd (X:Cx) (C f:Addr) (iv iy:Nat) (ts:TS) (tf:TE) (t:TA) (sp:Sp):TS:=fun D σ H=>tf σ H fun v H0=>v=.ref f/\t σ H0 fun vs H1=>sp vs H1 (fun v H2=>D.nx (σ.set iy (some v)) H2) (XT X C iv ts D σ)
theorem aeX (hst:X.stack=X.env::X.outer) (hfr:X.env.frame=some X.env.locals) (hN:X.N.Nodup) (hi:X.N[iv]?=some n) (hl:X.env.scope.names.lookup n=some .local) (hiy:X.N[iy]?=some y) (hly:X.env.scope.names.lookup y=some .local)
  (hg:Gl X cn) (hm:X.mg cn=some (.ref Cn)) (hx:PySem.W.exmOne X.K (.ref C) (.ref Cn)=some true) (hs:∀ a,Hf (Cx.inX X a) (b0::suite) ts)
  (hfe:PE X.Ss (.Name x p) tf) (F:bF X.prog X.w X.K X.mg X.base (Sw X.prog X.w) k f fd ps sp) (hr:jU k X.A) (hk:PySem.W.keepIn X.K (.ref f)=true) (hb:Binds X.K fd ps []) (ha:PA X.Ss (e::es) t)
  (hdb:(cn==("__debug__" : Str))=false:=by decide) (hst':starEach (e::es) X.env=(false,eval e X.env)::starEach es X.env:=by rfl) (hpl:(backTo cpos (starEach es X.env)).any (·.1)=false:=by rfl)
  (hsw:swapsWith (.Call (.Name x p) (e::es) [] cpos) (some (.Name y py)) pa.line X.env=pure false:=by rfl) :
  PS X (.Try [.Assign [.Name y py] (.Call (.Name x p) (e::es) [] cpos) pa] [.ExceptHandler (some (.Name cn np)) (some n) (b0::suite) hp] [] [] pos) (ajd X C f iv iy ts tf t sp):=by
 intro pins s σ H D I h
 refine wpAny_Try_except (kb (wpAny_Assign_Name (JE ?_) hsw))
 refine ZT (hfe pins s σ H _ (I.wish _) h) (fun u s0 ⟨v,H0,I0,r0,ev,q0⟩=>?_) (fun _ _ z=>False.elim z)
 subst ev
 obtain rfl:u=Value.ref f:=r0
 refine PySem.W.callWith_K (h₀:=X.base) I.ok.mod.kin hk (ZT (ha cpos pins s0 σ H0 _ I0 q0) (fun us s1 ⟨vs,H1,I1,r,q⟩=>⟨I1.Ku,?_⟩) (fun _ _ z=>False.elim z)) hst' hpl
 have I1':=I1.lW
 have hl2:us.length=ps.length:=by rw[<-r.length];exact F.len _ _ _ _ q
 rw[JA]
 refine ky (kr (F.run X.A X.stack s1 H1 ⟨us,[]⟩ us vs _ _ hr I1'.env0 (by have:=hb s1 us I1'.Ku (by rw[qV];exact hl2);rwa [qV] at this) r q) fun r s' hq=>?_)
 cases r with
 |error e=>exact TY hst hfr hN hi hl hg hm hx hs I1' hq hdb
 |ok fl=>
  cases fl with
  |next=>exact False.elim hq
  |brk=>exact False.elim hq
  |cont=>exact False.elim hq
  |ret u=>
   obtain⟨v,H2,I2,rv,q2⟩:=I1'.after hq
   exact rY I2 hN hiy (.inl hly) rv (fun s3 I3=>kn (kn ⟨_,H2,I3,q2⟩)) (.inr hly)
end
section
variable {X:Cx} {pins:List (Addr×Obj)} {σ:L2.St} {H:Hp} {s:Shared} {C a d:Addr} {fs:List (Str×V)} {f:Str} {o:Expr} {ta:TE} {pos:Pos}
theorem ZD (I:Inv X pins σ H s) (ea:H a=some (ZC a C d)) (ed:H d=some (.xd fs)):∃ vs sl m,s.heap.get? a=some ⟨.ref C,some d,.fields vs,sl⟩/\s.heap.Ns1 d m/\∀ f,Sx (fs.lookup f) (m f):=by
 obtain⟨vs,sl,q⟩:=(I.hok a _ ea).1
 obtain⟨m,n1,r⟩:=I.hok d _ ed
 exact⟨vs,sl,m,q,n1,r⟩
def aje (K:FG_) (H:Hp) (C:Addr) (c:V) (b:Bool):Prop:=
 (∃ D,c=.ref D/\PySem.W.kitOne K (.ref C) (.ref D)=some b)\/(∃ T,c=.ty T/\PySem.W.kitOne K (.ref C) (.type T)=some b) ∨
  ∃ (tp:Addr) (cs:List Addr),c=.ref tp/\H tp=some (.tup (cs.map V.ref))/\PySem.W.kitAny K (.ref C) (cs.map Value.ref)=some b
theorem MF:∀ {cs:List Addr} {us:List Value},Vals (cs.map V.ref) us->us=cs.map Value.ref
 |[],_,h=>by cases h;rfl
 |c::cs,_,h=>by
  cases h with
  |cons r t=>rw[MF t];obtain rfl:=r;rfl
theorem Jf {Cs:List Addr} (hC:∀ C,C∈Cs->yM X.K C=true):jz X (.builtin "isinstance") (fun vs H Q=>∃ a C d fs c b,C∈Cs/\vs=[.ref a,c]/\H a=some (ZC a C d)/\H d=some (.xd fs)/\aje X.K H C c b/\Q (.bl b) H):=by
 intro pins s σ H vs us Q I r h
 obtain⟨a,C,d,fs,c,b,hm,rfl,ea,ed,hb,q⟩:=h
 cases r with
 |cons ra r=>
  cases r with
  |cons rc r=>
   cases r
   obtain rfl:=ra
   obtain⟨vs,sl,m,h1,⟨od,_,_,h2,_⟩,_⟩:=ZD I ea ed
   have Z:=agD (e:=a) (hC C hm)
   have p:ExI a C s.heap:=⟨d,vs,sl,od,h1,h2⟩
   rcases hb with⟨D,rfl,hb⟩|⟨T,rfl,hb⟩|⟨tp,cs,rfl,ht,hb⟩
   ·obtain rfl:=rc
    exact PySem.W.kia_one Z I.Ku p hb (fun z=>nomatch z) fun tk=>⟨.bl b,H,I.tok tk,rfl,q⟩
   ·obtain rfl:=rc
    exact PySem.W.kia_one Z I.Ku p hb (fun z=>nomatch z) fun tk=>⟨.bl b,H,I.tok tk,rfl,q⟩
   ·obtain rfl:=rc
    obtain⟨_,its,hv,o,ho,hc,⟨nn,hd⟩,hdd⟩:=I.hok tp _ ht
    obtain⟨oc,od',odt,osl⟩:=o
    dsimp only at hc hd hdd
    subst hc hd hdd
    rw[MF hv] at ho
    exact PySem.W.kia_tup Z I.Ku p ho hb (fun z=>nomatch z) fun tk=>⟨.bl b,H,I.tok tk,rfl,q⟩
def ajf (Cs:List Addr) (ta:TE) (f:Str):TE:=fun σ H Q=>ta σ H fun x H1=>∃ a C d v,C∈Cs/\x=.ref a/\H1 a=some (ZC a C d)/\H1 d=some (.xd [(f,v)])/\Q v H1
theorem T3 {v:V} {u:Value} (r:RelV v u):PySem.W.handedIn u=true:=by
 cases v with
 |non=>obtain rfl:=r;rfl
 |bl b=>obtain rfl:=r;rfl
 |int i=>obtain⟨t,rfl⟩:=r;rfl
 |str x=>obtain⟨t,rfl⟩:=r;rfl
 |byt b=>obtain⟨t,rfl⟩:=r;rfl
 |flt b=>obtain⟨t,rfl⟩:=r;rfl
 |ref a=>obtain rfl:=r;rfl
 |ty n=>obtain rfl:=r;rfl
theorem ZF {Cs:List Addr} (hC:∀ C,C∈Cs->yM X.K C=true/\PySem.W.findIn X.K (.ref C) f=some none) (ha:PE X o ta) (hb:attributeBase o f X.env (eval o X.env)=eval o X.env):PE X (.Attribute o f pos) (ajf Cs ta f):=by
 intro pins s σ H Q I h
 refine aaQ hb (jy (ha pins s σ H _ I h) fun u s1 ⟨x,H1,I1,rx,a,C,d,v,hm,ex,ea,ed,q⟩=>?_)
 subst ex
 obtain rfl:u=Value.ref a:=rx
 obtain⟨vs,sl,m,h1,h2,h3⟩:=ZD I1 ea ed
 have r:=h3 f
 simp only[List.lookup,beq_self_eq_true] at r
 cases em:m f with
 |none=>rw[em] at r;exact False.elim r
 |some u=>
  rw[em] at r
  obtain⟨hh,g,dr,tk,os⟩:=s1
  exact agC I1.Ku (hC C hm).1 (hC C hm).2 h1 h2 em (T3 r) ⟨v,H1,I1.tok _,r,q⟩
end
def XW (K:FG_) (C:Addr) (f:Str) (E:XK) (H0:Hp) (d:Dt):Prop:=∀ dx v H',Same H0 H'->H' dx=some (.xd [(f,v)])->Rep K H' d v->E (.ref C) (some dx) H'
theorem XW.rebase {K:FG_} {C:Addr} {f:Str} {E:XK} {H0 Hs:Hp} {d:Dt} (s:Same H0 Hs) (h:XW K C f E H0 d):XW K C f E Hs d:=fun dx v H' s' e r=>h dx v H' (s.trans s') e r
def tX (K:FG_) (C:Addr) (f:Str) (E:XK) (gx:Ev->Option Dt):TS:=fun _ σ H=>∃ H0 ρ d,bT K H0 H σ ρ/\gx ρ=some d/\XW K C f E H0 d
structure QX1 (X:Cx) (C:Addr) (f:Str) (E:XK) (st:Stmt) (gx:Ev->Option Dt):Prop where
 run:PS X st (tX X.K C f E gx)
structure QXs (X:Cx) (C:Addr) (f:Str) (E:XK) (st:List Stmt) (gx:Ev->Option Dt):Prop where
 run:Hf X st (tX X.K C f E gx)
def zD:Bx->Option Dt
 |.z d=>some d
 |_=>none
section
variable {X:Cx} {C:Addr} {f x:Str} {E:XK} {e c tg iter:Expr} {fe:Ev->Option Bx} {gx gy:Ev->Option Dt} {g:Ev->Option Out} {pos cpos p:Pos} {st:Stmt} {rest body a b:List Stmt} {B newId initId:String} {bmB:List Value} {pc:Ev->Option Bool}
def rzX (okX:Dt->Bool) (fe:Ev->Option Bx):Ev->Option Dt:=fun ρ=>(fe ρ).bind fun b=>(zD b).bind fun d=>if okX d=true then some d else none
theorem Q0 {okX:Dt->Bool} {k:Nat} {fI:Addr} {fd:FuncData} {ps:LS_} {ok:V->Prop} (Fe:ExcBaseFacts B newId initId bmB) (hx:WY X.K C fI bmB newId=true) (hbase:bmB.contains (.type "BaseException")=true) (hk:PySem.W.keepIn X.K (.ref C)=true)
  (F:bF X.prog X.w X.K X.mg X.base gO k fI fd ps (spI C f ok)) (hb:Binds X.K fd ps []) (hr:jU (k+1) X.A) (hg:Gl X x) (hm:X.mg x=some (.ref C)) (X4:∀ e s,RX X E e s->X.xe e s) (he:QV X e fe) (hok:∀ d v K H,okX d=true->Rep K H d v->ok v)
  (hdb:(x==("__debug__" : Str))=false:=by decide) (hs:starEach [e] X.env=(false,eval e X.env)::starEach [] X.env:=by rfl) (hpl:(backTo cpos (starEach [] X.env)).any (·.1)=false:=by rfl) :
  QX1 X C f E (.Raise (some (.Call (.Name x p) [e] [] cpos)) none pos) (rzX okX fe):=⟨psM (agF Fe hx hbase hk F hb hr hg hm X4 (cG he.run lX hs) hdb hs hpl) fun D σ H h=>by
 obtain⟨H0,ρ,d,Ev,ed,w⟩:=h
 obtain⟨b,eb,ed⟩:=bind_some ed
 obtain⟨d',ez,ed⟩:=bind_some ed
 split at ed
 ·rename_i ho
  cases ed
  cases b with
  |z d'=>
   cases ez
   refine⟨H0,ρ,_,Ev,eb,fun v H1 s1 _ r1=>⟨v,rfl,hok _ _ _ _ ho r1,fun H2 dx s2 hd=>?_⟩⟩
   have sd:Same H2 (upd H2 dx (.xd [(f,v)])):=dU hd
   exact w dx v _ ((Ev.base.trans s1).trans (s2.trans sd)) bK (Rep.kp (Kp.of (s2.trans sd)) r1)
  |l _=>cases ez
  |o _=>cases ez
  |n _=>cases ez
  |m _ _=>cases ez
 ·cases ed⟩
theorem yN (h:QX1 X C f E st gx):QXs X C f E (st::rest) gx:=⟨fun pins s σ H D I hw=>kb (ZT (h.run pins s σ H { nx:=fun _ _=>False,rt:=D.rt,bk:=D.bk,ct:=D.ct } I hw) (fun fl s1 q=>by
 cases fl with
 |next=>obtain⟨_,_,_,z⟩:=q;exact False.elim z
 |ret v=>exact q
 |brk=>exact q
 |cont=>exact q) fun _ _ z=>z)⟩
def Jg (g:Ev->Option Out) (gx:Ev->Option Dt):Ev->Option Dt:=fun ρ=>(g ρ).bind fun r=>match r with
 |.nx ρ'=>gx ρ'
 |_=>none
theorem Q5 (h:YJ X st g) (hx:QXs X C f E rest gx):QXs X C f E (st::rest) (Jg g gx):=⟨fun pins s σ H D I hw=>by
 obtain⟨H0,ρ,d,Ev,ed,w⟩:=hw
 obtain⟨r,er,ed⟩:=bind_some ed
 cases r with
 |nx ρ'=>
  refine kb (ZT (h.run pins s σ H { nx:=fun σ' H'=>bT X.K H0 H' σ' ρ',rt:=fun _ _=>False } I ⟨H0,ρ,_,Ev,er,fun σ' H' z=>z⟩) (fun fl s1 q=>?_) fun _ _ z=>z)
  cases fl with
  |next=>
   obtain⟨σ',H',I',E'⟩:=q
   exact hx.run pins s1 σ' H' D I' ⟨H0,ρ',d,E',ed,w⟩
  |ret v=>obtain⟨_,_,_,_,_,z⟩:=q;exact False.elim z
  |brk=>obtain⟨_,_,_,z⟩:=q;exact False.elim z
  |cont=>obtain⟨_,_,_,z⟩:=q;exact False.elim z
 |rt _=>cases ed
 |bk _=>cases ed
 |ct _=>cases ed⟩
def ifX (pc:Ev->Option Bool) (gx gy:Ev->Option Dt):Ev->Option Dt:=fun ρ=>(pc ρ).bind fun k=>if k=true then gx ρ else gy ρ
theorem Q6 {sts:List Stmt}:QXs X C f E sts (fun _=>none):=⟨fun pins s σ H D I hw=>by
 obtain⟨H0,ρ,d,Ev,ed,w⟩:=hw
 cases ed⟩
theorem acY (hc:QB X c pc) (ha:QXs X C f E a gx) (hb:QXs X C f E b gy):QX1 X C f E (.If c a b pos) (ifX pc gx gy):=⟨psM (Pz hc.run ha.run hb.run) fun D σ H h=>by
 obtain⟨H0,ρ,d,Ev,ed,w⟩:=h
 obtain⟨k,ek,ed⟩:=bind_some ed
 refine⟨H0,ρ,k,Ev,ek,fun H1 s1=>?_⟩
 cases k with
 |true=>rw[zo rfl] at ed ⊢;exact⟨H0,ρ,d,Ev.grow s1,ed,w⟩
 |false=>rw[Zs zg] at ed ⊢;exact⟨H0,ρ,d,Ev.grow s1,ed,w⟩⟩
def KN (gt:Dt->Ev->Option Ev) (gb:Ev->Option Out) (gx:Ev->Option Dt):List Dt->Ev->Option Dt
 |[],_=>none
 |d::ds,ρ=>(gt d ρ).bind fun ρ1=>match gx ρ1 with
  |some q=>some q
  |none=>(gb ρ1).bind fun r=>match r with
   |.nx ρ2=>KN gt gb gx ds ρ2
   |.ct ρ2=>KN gt gb gx ds ρ2
   |_=>none
theorem W2 {gt:Dt->Ev->Option Ev} {gb:Ev->Option Out} {J:It} {ds:List Dt} {H0 H1:Hp} {σ:L2.St} {ρ:Ev} {D:Ends} {d:Dt} (E1:bT X.K H0 H1 σ ρ) (Y:Yields X.K J ds (jT H1 σ ρ)) (e:KN gt gb gx ds ρ=some d) (q:XW X.K C f E H0 d) :
  ∃ W:Nat->Nat->L2.St->Hp->Prop,(∃ m,W 0 m σ H1)/\∀ i m σ H,W i m σ H →
   (J.stop i H/\D.nx σ H)\/(J.go i H/\∃ N:L2.St->Hp->Prop,(∀ σ' H',N σ' H'->∃ m',m' < m/\W (i+1) m' σ' H')/\∀ x H',J.yld i H x H'->tgF X.K gt x σ H' fun σ2 H2=>
    tG X.K gb { D with nx:=N,ct:=N,bk:=D.nx } σ2 H2\/tX X.K C f E gx { D with nx:=N,ct:=N,bk:=D.nx } σ2 H2):=by
 have E2:=E1.sans
 have q2:=q.rebase E1.sub
 generalize jT H1 σ ρ=Hs at Y E2 q2
 refine⟨fun i m σ' H'=>m=ds.length - i/\i<=ds.length/\∃ ρ',bT X.K Hs H' σ' ρ'/\KN gt gb gx (ds.drop i) ρ'=some d,⟨ds.length,by simp,QN _,ρ,E2,by simpa using e⟩,?_⟩
 rintro i m σ' H' ⟨rfl,hi',ρ',E',e'⟩
 obtain⟨y1,y2⟩:=Y i H' E'.base
 by_cases hlt:i < ds.length
 ·right
  have hd:ds[i]?=some ds[i]:=by simp[hlt]
  obtain⟨go,yl⟩:=y1 _ hd
  rw[jI hlt] at e'
  simp only[KN] at e'
  obtain⟨ρ1,e1,e'⟩:=bind_some e'
  refine⟨go,fun σ2 H2=>∃ ρ2,bT X.K Hs H2 σ2 ρ2/\KN gt gb gx (ds.drop (i+1)) ρ2=some d,fun σ2 H2 ⟨ρ2,E3,e3⟩=>⟨ds.length - (i+1),by omega,rfl,hlt,ρ2,E3,e3⟩,fun x H2 yy=>?_⟩
  obtain⟨sm,rx⟩:=yl x H2 yy
  refine⟨Hs,ρ',ds[i],ρ1,E'.grow sm,rx,e1,fun σ1 E3 _=>?_⟩
  cases eg:gx ρ1 with
  |some p=>
   rw[eg] at e'
   cases e'
   exact .inr ⟨Hs,ρ1,d,E3,eg,q2⟩
  |none=>
   rw[eg] at e'
   obtain⟨r1,e2,e'⟩:=bind_some e'
   refine .inl ⟨Hs,ρ1,r1,E3,e2,?_⟩
   cases r1 with
   |nx ρ2=>exact fun σ2 H3 E4=>⟨ρ2,E4,e'⟩
   |ct ρ2=>exact fun σ2 H3 E4=>⟨ρ2,E4,e'⟩
   |bk ρ2=>cases e'
   |rt b=>cases e'
 ·have hge:ds.length<=i:=by omega
  rw[List.drop_eq_nil_of_le hge] at e'
  cases e'
theorem aeY {fi:Ev->Option (List Dt)} {gt:Dt->Ev->Option Ev} {gb:Ev->Option Out} (hp:PassesOwn (model X.prog X.w) X.A X.env X.xe) (hc:X.calm=true) (hi:QIF X tg iter fi) (hg:QTg X tg gt) (hb:QGs X body gb) (hx:QXs X C f E body gx)
  (hs:∀ x,foldedSetIterable iter X.env x=pure x:=by intro _;rfl):QX1 X C f E (.For tg iter body [] pos) (fun ρ=>(fi ρ).bind fun ds=>KN gt gb gx ds ρ):=
 ⟨psM (Yj (tb:=fun D σ H=>tG X.K gb D σ H\/tX X.K C f E gx D σ H) hp hc hi.run hg.run (fun pins s σ H D I hw=>Or.elim hw (hb.run pins s σ H D I) (hx.run pins s σ H D I)) hs) fun D σ H h=>by
 obtain⟨H0,ρ,d,Ev,e,q⟩:=h
 obtain⟨ds,ed,e⟩:=bind_some e
 refine⟨H0,ρ,ds,Ev,ed,fun J H1 s1 y=>?_⟩
 have E1:=Ev.grow s1
 refine W2 E1 ?_ e q
 refine y _ vR (fun a ha=>?_) (fun a o u ha=>qX E1 (fun vs z=>by rw[ha] at z;cases z) (fun vs z=>by rw[ha] at z;cases z)) fun a vs ha=>qX E1 (fun vs z=>by rw[ha] at z;cases z) (fun vs z=>by rw[ha] at z;cases z)
 unfold jT
 split
 ·rename_i hh
  obtain⟨i,c,e1,ec,e2⟩:=hh
  obtain⟨v,e3,rc⟩:=Ev.val i _ e1
  rw[e2] at e3;cases e3
  cases c with
  |o ds=>obtain⟨a',vs,e4,q,_⟩:=rc;cases e4;rw[ha] at q;cases q
  |m ds _=>obtain⟨a',vs,e4,q,_⟩:=rc;cases e4;rw[ha] at q;cases q
  |_=>cases ec
 ·rfl⟩
end
def spX (K:FG_) (n:Nat) (Fx:List Bx->Option Dt) (C:Addr) (f:Str):Sp:=fun vs H _ E=>vs.length=n/\∃ bs d,wZ K H bs vs/\bs.all (fun b=>!isO b)=true/\Fx bs=some d/\XW K C f E H d
def yO (n:Nat) (gx:Ev->Option Dt):List Bx->Option Dt:=fun bs=>gx (bs.map some++List.replicate (n - bs.length) none)
section
variable {P:Program} {w:World} {K:FG_} {mg:Str->Option Value} {base:Heap}
abbrev cxR (P:Program) (w:World) (K:FG_) (mg:Str->Option Value) (base:Heap) (N:LS_) (qual:Str) (scope:Scope) (f:Addr) (cd:Value) (A:Around) (outer:List Env) (s:Shared) (H:Hp) (E:XK):Cx:=
 (Bb (Sw P w) P w K mg base N qual scope f cd A outer s H E).wish (RX (Bb (Sw P w) P w K mg base N qual scope f cd A outer s H E) E)
theorem acZ {x qual:Str} {st:Stmt} {f C:Addr} {a:Str} {fd:FuncData} {N ps:LS_} {k n m:Nat} {gx:Ev->Option Dt} (F:qK K x qual st f fd) (S:bf N ps (aK st)) (hn:N.length=n) (hm:ps.length=m)
  (hbody:∀ (cdv:Value) (A:Around) (outer:List Env) (s:Shared) (H:Hp) (E:XK),jU k (A.deeper (envOfC qual (aK st) s.heap.objs.size f cdv)) →
   (∀ e s',RX (cxR P w K mg base N qual (aK st) f cdv A outer s H E) E e s'->(cxR P w K mg base N qual (aK st) f cdv A outer s H E).xe e s') →
   PassesOwn (model P w) (A.deeper (envOfC qual (aK st) s.heap.objs.size f cdv)) (envOfC qual (aK st) s.heap.objs.size f cdv) (cxR P w K mg base N qual (aK st) f cdv A outer s H E).xe →
   QXs (cxR P w K mg base N qual (aK st) f cdv A outer s H E) C a E (jR st) gx):bF P w K mg base (Sw P w) (k+1) f fd ps (spX K m (yO n gx) C a):=
 qK.okX F S (fun vs H Q E h=>h.1.trans hm.symm) fun cdv A outer s H vs Q E hr hsp=>by
  obtain⟨_,bs,d,r,ho,e,w⟩:=hsp
  subst hn
  exact⟨_,(hbody cdv A outer s H E hr (fun e s' h=>h.lW) (WX (X:=Bb (Sw P _) P _ K mg base N qual (aK st) f cdv A outer s H E) rfl rfl rfl)).run,H,_,d,bT.start r ho,e,w⟩
theorem abZ {x qual sn vn fe a:Str} {st:Stmt} {f C FE:Addr} {fd:FuncData} {k:Nat} {arg:Expr} {fa:Ev->Option Bx} {ok:V->Prop} {ρ0:V->Ev} {p1 p2 p3 p4 p5 p6 p7 p8 p9:Pos} {B newId initId:String} {bmB:List Value}
  (F:qK K x qual st f fd) (S:bf [sn,vn] [sn,vn] (aK st)) (Fe:ExcBaseFacts B newId initId bmB) (hx:WY K C f bmB newId=true) (ae0:setIn K C a=true) (hm:mg fe=some (.ref FE)) (hb:Vv K FE initId) (hh:PySem.W.handedIn (.builtin initId)=true)
  (hbd:jR st=[.Expr (.Call (.Attribute (.Name fe p1) "__init__" p2) [.Name sn p3,arg] [] p4) p5,.Assign [.Attribute (.Name sn p6) a p7] (.Name vn p8) p9])
  (hρ:∀ v,ok v->∃ b,fa (ρ0 v)=some b/\∀ H e,bT K H H [some (.ref e),some v] (ρ0 v))
  (hbody:∀ (cdv:Value) (A:Around) (outer:List Env) (s:Shared) (H:Hp) (E:XK) (X:Cx),X=(Bb gO P w K mg base [sn,vn] qual (aK st) f cdv A outer s H E).Ss->jU k X.A →
   Gl X fe/\QV X arg fa/\PE X (.Name sn p3) (X8 0)/\PE X (.Name sn p6) (X8 0)/\PE X (.Name vn p8) (X8 1)/\(fe==("__debug__" : Str))=false/\starEach [.Name sn p3,arg] X.env=(false,eval (.Name sn p3) X.env)::starEach [arg] X.env/\starEach [arg] X.env=(false,eval arg X.env)::starEach [] X.env ∧
   (backTo p4 (starEach [arg] X.env)).any (·.1)=false/\swapsWith (.Call (.Attribute (.Name fe p1) "__init__" p2) [.Name sn p3,arg] [] p4) none p5.line X.env=pure false/\swapsWith (.Name vn p8) (some (.Attribute (.Name sn p6) a p7)) p9.line X.env=pure false ∧
   ∃ pl:Sem Bool,eval (.Call (.Attribute (.Name fe p1) "__init__" p2) [.Name sn p3,arg] [] p4) X.env=(do
    let ov <-eval (.Name fe p1) X.env
    standAt p2.atName
    let (f,first) <-holding [ov] (getMethod ov "__init__" pl)
    callWith p4 f first (backTo p4 (starEach [.Name sn p3,arg] X.env)) (backToKw p4 (keywordEach [] X.env)))) :
  bF P w K mg base gO (k+1) f fd [sn,vn] (spI C a ok):=
 qK.ok F S (fun vs H Q E h=>by obtain⟨_,_,rfl,_⟩:=h;rfl) fun cdv A outer s H vs Q E hr hsp=>by
  obtain⟨e,v,rfl,hok,ea,q⟩:=hsp
  obtain⟨h1,h2,h3,h4,h5,h6,h7,h8,h9,h10,h11,pl,h12⟩:=hbody cdv A outer s H E _ rfl hr
  rw[hbd]
  refine⟨_,qD (Uy (Zz (pl:=pl) Fe hx h1 hm hb hh (cG h3 (cG h2.run lX h8) h7) h6 h7 h9 h12) h10) (Hh (agE ae0 h4 h5 h11)),?_⟩
  obtain⟨b,eb,ajg⟩:=hρ v hok
  refine⟨.ref e,rfl,H,ρ0 v,b,ajg H e,eb,fun y H1 s1 _ _=>⟨e,y,rfl,s1 _ _ ea,?_⟩⟩
  exact⟨v,rfl,.ref e,rfl,e,rfl,s1 _ _ ea,fun dx hd hne=>q H1 dx s1 hd hne⟩
end
section
variable {X:Cx} {k n:Nat} {f h:Addr} {fd:FuncData} {ps:LS_} {F:List Bx->Option Bx} {fs:Ev->Option (List Bx)} {x y:Str} {p q pos:Pos} {e:Expr} {es:List Expr}
end
end P1
end
section
namespace P1
open PySem PySem.Spec PyProof.Rows L2 S6
section
variable {X:Cx} {elt tgt iter:Expr} {ifs:List Expr} {scope:Scope} {cl:List (Str×Addr)} {pos:Pos} {xs ts:LS_} {is:List Nat} {gt:Dt->Ev->Option Ev} {p:Ev->Option Bool} {fe:Ev->Option Bx} {fi:Ev->Option (List Dt)}
end
section
variable {X:Cx} {x y:Str} {e2 se iter:Expr} {fS:Ev->Option LS_} {fe:Ev->Option Bx} {fx:Ev->Option Dt} {fi:Ev->Option (List Dt)} {no rest:List Stmt} {tR tQ:TS} {p0 p02 px pb pif pos pk:Pos} {C:Addr} {f:Str} {E:XK} {g:Ev->Option Out} {gx:Ev->Option Dt}
end
end P1
end
section
namespace P1
open PySem PySem.Spec PyProof.Rows L2
section
variable {X:Cx} {iter e1 e2 e3 c:Expr} {fi:Ev->Option (List Dt)} {f1 fe:Ev->Option Bx} {p:Ev->Option Bool} {gr:Ev->Option Out} {x xr xj y1 y2:Str} {rest no:List Stmt} {kk:Nat} {p0 p00 p01 p02 q1 q2 pt pj pa px pb pif pf2 px3 a1 c1 pe1 pr a2 pj2 c2 pe2 pos:Pos} {fx:Ev->Option Dt} {C:Addr} {f:Str} {E:XK}
end
section
variable {X:Cx} {C Cn f:Addr} {iv k:Nat} {n cn x:Str} {np hp p pa cpos pos:Pos} {b0:Stmt} {suite:List Stmt} {ts:TS} {tf:TE} {t:TA} {sp:Sp} {fd:FuncData} {ps:LS_} {e:Expr} {es:List Expr}
end
section
variable {X:Cx} {fx:Ev->Option Bx}
def hoI (f:Ev->Option Bx):Ev->Option Bx:=fun ρ=>(f ρ).bind fun b=>match b with
 |.z (.int i)=>if 0<=i/\i < 100000 then some (.z (.str (toString i))) else none
 |_=>none
theorem ZG {v:Expr} {pos:Pos} (h:QV X v fx):QV X (.FormattedValue v (-1) none pos) (hoI fx):=⟨fun pins s σ H Q I q=>by
 obtain⟨H0,ρ,b,E,e,q⟩:=q
 obtain⟨b',eb,e⟩:=bind_some e
 split at e
 rotate_left
 ·cases e
 rename_i i
 split at e
 rotate_left
 ·cases e
 rename_i hi
 cases e
 have hd:i.natAbs.log2 < 1920:=by
  by_cases h0:i.natAbs=0
  ·rw[h0];decide
  ·rw[Nat.log2_lt h0]
   exact ZA (show i.natAbs < 2 ^ 17 by omega) (Nat.pow_le_pow_right (by decide) (by decide))
 refine FormattedValue_plain (ZT (h.run pins s σ H (fun v H'=>Same H H'/\bx X.K H' (.z (.int i)) v) I ⟨H0,ρ,_,E,eb,fun v H' s' n' r'=>⟨s',r'⟩⟩) (fun v s1 hq=>?_) fun _ _ z=>z)
 obtain⟨w,H1,I1,r1,s1',rb⟩:=hq
 obtain rfl:w=.int i:=by simpa only[bx,Rep] using rb
 obtain⟨tk,rfl⟩:=r1
 exact formatField_int_small hd ⟨.str (toString i),H1,I1.tok _,⟨_,rfl⟩,q _ H1 s1' trivial (by unfold bx Rep;exact⟨rfl,int_text_fits hd⟩)⟩⟩
end
section
variable {prog:Program} {w:World} {A:Around} {E:VP_} {it l:Addr} {xs:Array Value}
end
section
variable {X:Cx} {pos:Pos}
theorem zF:∀ {its:List Value} {ns:List Int},IntsAre its ns->Vals (ns.map V.int) its
 |_,_,.nil=>.nil
 |_,_,.cons y t h=>.cons ⟨t,rfl⟩ (zF h)
end
section
variable {X:Cx}
end
section
variable {α:Type} {e:α->Dt} {ρ:Ev} {fa:Ev->Option Bx}
end
section
variable {α β δ:Type} {ρ:Ev} {e:α->Dt} {ea:β->Dt} {eb:δ->Dt} {f1 fe:Ev->Option Bx} {p:Ev->Option Bool} {fi:Ev->Option (List Dt)} {fx:Ev->Option Dt} {d:Dt}
end
section
variable {X:Cx} {e:Expr} {f:Ev->Option Bx}
end
section
variable {X:Cx}
end
section
variable {ρ:Ev} {fa:Ev->Option Bx}
end
section
variable {α β γ:Type} {ρ:Ev} {e:α->Dt} {fa fb:Ev->Option Bx} {g:Ev->Option β} {c:γ->β}
end
section
variable {X:Cx} {E:XK}
theorem ab0 (X4:∀ e s,RX X E e s->X.xe e s):Passes (Sw X.prog X.w) X E:=fun pins σ H s e s' I h=>by
 obtain⟨a,C,dx,H',T,rfl,os,bare,un,hok,ha,hT,na,nT,ex,he⟩:=h
 have J:Inv X pins σ H' s':=I.call' (ch:=[]) os un hok bare fun _ z=>nomatch z
 have J0:Inv X [] σ H' s':=⟨J.ok,J.os,J.bare,J.base,J.loc,J.cell,J.free,J.nC,fun p hp=>J.pin p (List.mem_append.mpr ((List.mem_append.mp hp).elim .inl fun z=>nomatch z)),J.hok,J.len⟩
 have mine:∀ b,s.heap.objs.size<=b->H' b=none->CT X H' b:=fun b hb nb=>⟨nb,zv I.sz hb,fun z=>by have:=I.lt;rw[<-z] at this;exact absurd this (Nat.not_lt.mpr hb),fun x c e z=>by
  obtain⟨v,q⟩:=I.cell x c e
  have:c < s.heap.objs.size:=by
   obtain⟨o,q⟩:∃ o,s.heap.get? c=some o:=by
    first|(obtain⟨o,q,_⟩:=q;exact⟨o,q⟩)|exact⟨_,q⟩
   exact zw q
  rw[z] at this;exact absurd this (Nat.not_lt.mpr hb)⟩
 exact X4 _ _ ⟨a,C,dx,σ,H',rfl,J0,mine a ha na,.inr ⟨T,mine T hT nT,.inr ex⟩,he⟩
end
section
variable {X:Cx} {C:Addr} {f x:Str} {E:XK} {e:Expr} {es:List Expr} {elts:List Expr} {x1:Nat} {fs:Ev->Option (List Bx)} {gx gy:Ev->Option Dt} {p p1 cpos pos tpos epos:Pos} {body:List Stmt} {st:Stmt} {rest:List Stmt}
def orX (g h:Ev->Option Dt):Ev->Option Dt:=fun ρ=>match g ρ with
 |some d=>some d
 |none=>h ρ
theorem agI (h1:QX1 X C f E st gx) (h2:QX1 X C f E st gy):QX1 X C f E st (orX gx gy):=⟨fun pins s σ H D I hw=>by
 obtain⟨H0,ρ,d,Ev,ed,w⟩:=hw
 unfold orX at ed
 split at ed
 ·rename_i q
  cases ed
  exact h1.run pins s σ H D I ⟨H0,ρ,_,Ev,q,w⟩
 ·exact h2.run pins s σ H D I ⟨H0,ρ,_,Ev,ed,w⟩⟩
def Vw (n:Nat) (Fx:List Bx->Option Dt) (fs:Ev->Option (List Bx)):Ev->Option Dt:=fun ρ=>(fs ρ).bind fun bs=>if bs.length=n then Fx (bs.map lend) else none
theorem ZJ {k n:Nat} {fa:Addr} {fd:FuncData} {ps:LS_} {Fx:List Bx->Option Dt} (G:bF X.prog X.w X.K X.mg X.base (Sw X.prog X.w) k fa fd ps (spX X.K n Fx C f)) (hr:jU k X.A) (hg:Gl X x) (hm:X.mg x=some (.ref fa)) (hk:PySem.W.keepIn X.K (.ref fa)=true) (hb:Binds X.K fd ps [])
  (X4:∀ e s,RX X E e s->X.xe e s) (hp:PassesOwn (model X.prog X.w) X.A X.env X.xe) (hc:X.calm=true) (hge:Gl X "enumerate") (hme:X.mg "enumerate" = none) (ha:U5 X (e::es) fs)
  (hdb:(x==("__debug__" : Str))=false:=by decide) (he:starEach (e::es) X.env=(false,eval e X.env)::starEach es X.env:=by rfl) (hpl:(backTo cpos (starEach es X.env)).any (·.1)=false:=by rfl)
  (hs:starEach [.Call (.Name x p) (e::es) [] cpos] X.env=[(false,eval (.Call (.Name x p) (e::es) [] cpos) X.env)]:=by rfl) (hss:∀ y,foldedSetIterable (.Call (.Name "enumerate" p1) [.Call (.Name x p) (e::es) [] cpos] [] epos) X.env y=pure y:=by intro _;rfl)
  : QX1 X C f E (.For (.Tuple elts x1 tpos) (.Call (.Name "enumerate" p1) [.Call (.Name x p) (e::es) [] cpos] [] epos) body [] pos) (Vw n Fx fs):=⟨fun pins s σ H D I hw=>by
 refine wpAny_For (jy (Vf (elts:=elts) (x1:=x1) (tpos:=tpos) hge hme (cG (UG G hr hg hm hk hb .nil (ab0 X4) ha.run hdb he hpl) lX hs) hs pins s σ H (fun _ _=>False) I ?_) fun v s1 h1=>jy h1 fun itv s2 h2=>?_) hss
 ·obtain⟨H0,ρ,d,Ev,ed,w⟩:=hw
  obtain⟨bs,eb,ed⟩:=bind_some ed
  split at ed
  ·rename_i hn
   refine⟨H0,ρ,bs,Ev,eb,fun vs H1 s1 r1=>?_⟩
   show spX X.K n Fx C f (vs++[]) H1 _ E
   rw[qV]
   exact⟨by rw[<-Paired.length r1];exact hn,_,d,Ii r1,N5 bs,ed,w.rebase (Ev.base.trans s1)⟩
  ·cases ed
 ·obtain⟨_,_,_,_,_,_,_,_,_,_,z⟩:=h2
  exact False.elim z⟩
end
section
variable {X:Cx} {o:Expr} {fo:Ev->Option Bx}
def MJ:List Bx->Option Bx
 |[.z (.str x)]=>if x.length<=640 then (intText? x).bind fun n=>some (.z (.int n)) else none
 |_=>none
theorem Vx:Cd X (.type "int") MJ:=by
 intro pins s σ H xs us Q I rx h
 obtain⟨bs,c,rb,e,q⟩:=h
 unfold MJ at e
 split at e
 ·rename_i x
  split at e
  ·rename_i hx
   obtain⟨n,en,e⟩:=bind_some e
   cases e
   obtain⟨v,rfl,r1⟩:=rep1 rb
   obtain⟨rfl,_⟩:=Qp r1
   obtain⟨u,rfl,ru⟩:=vals1 rx
   obtain⟨t,rfl⟩:=ru
   exact PySem.W.KIN.call_text en hx ⟨.int n,H,I.tok _,⟨_,rfl⟩,q _ H (Same.refl H) trivial Qn⟩
  ·cases e
 ·cases e
def T4:Dt->Bool
 |.non=>true
 |.tup _=>true
 |_=>false
def ab1:Dt->Bool
 |.non=>true
 |_=>false
def ZK (ds:List Dt):Option Nat:=if ds.all T4=true/\ds.length<=100000 then ds.findIdx? ab1 else none
theorem ab2 (hu:X.A.units+100 < cLine):MtR X "list.index" (fun x xs H Q=>∃ a vs ds j,x=.ref a/\xs=[.non]/\uQ X.K H a vs/\aV X.K H ds vs/\ZK ds=some j/\Q (.int j) H):=by
 intro pins s σ H x xs v us Q I rx rs h
 obtain⟨a,vs,ds,j,rfl,rfl,sq,rp,hj,q⟩:=h
 obtain rfl:v=Value.ref a:=rx
 obtain⟨u,rfl,ru⟩:=vals1 rs
 obtain rfl:u=Value.none:=ru
 obtain⟨its,rv,pl,hz⟩:=I.list sq
 obtain⟨⟨cls,dd,data,sl⟩,g,c,n,d⟩:=pl.isList
 simp only at c d
 subst c d
 have hl:=rv.length
 have hl2:=rp.length
 unfold ZK at hj
 split at hj
 ·rename_i hall
  rw[List.findIdx?_eq_some_iff_getElem] at hj
  obtain⟨h1,h2,h3⟩:=hj
  have at_:∀ i (hi:i < its.length) (hd:i < ds.length),(its[i]==Value.none)=ab1 ds[i]/\SeqAt.EqAt X.A.in1 s its[i] .none (its[i]==Value.none):=fun i hi hd=>by
   obtain⟨v,ev,r1⟩:=rp.get (show ds[i]?=some ds[i] by simp[hd])
   obtain⟨y,ey,r2⟩:=rv.get ev
   rw[QU hi] at ey
   cases ey
   have hc:=List.all_eq_true.mp hall.1 ds[i] (jv hd)
   cases hq:ds[i] with
   |non=>
    rw[hq] at r1
    have r3:v=.non:=by simpa only[Rep] using r1
    subst r3
    have r2:its[i]=Value.none:=r2
    have e:=U8 I 60 (A:=X.A.in1) (d:=.non) (e:=.non) (k:=true) (by decide) (by rw[units_in1];omega) r1 r1 (show RelV .non Value.none from rfl) (show RelV .non Value.none from rfl) rfl
    rw[r2]
    exact⟨rfl,e⟩
   |tup xs=>
    rw[hq] at r1
    have e:=U8 I 60 (A:=X.A.in1) (d:=.tup xs) (e:=.non) (k:=false) (zv (kF _ _) (by decide)) (by rw[units_in1];omega) r1 (by simp only[Rep]) r2 (show RelV .non Value.none from rfl) (by first|rfl|(unfold uy;rfl))
    simp only[Rep] at r1
    obtain⟨p,ws,rfl,_,_⟩:=r1
    have r2:its[i]=Value.ref p:=r2
    rw[r2] at e ⊢
    exact⟨rfl,e⟩
   |_=>rw[hq] at hc;cases hc
  have hji:j < its.length:=by omega
  refine call_meets F.slot_list_index ⟨_,g,rfl⟩ F.entry_list_index (F.args_list_index_2 _ _) (SeqAt.list_indexAt a its.toArray n dd sl .none (fun v=>v==Value.none) j (by simpa using hji) (by omega) ?_ ?_) ⟨g,fun y hy=>?_,⟨.int j,H,I.tok _,⟨_,rfl⟩,q⟩⟩
  ·have:=(at_ j hji h1).1
   rw[h2] at this
   simpa using this
  ·intro m hm hmj
   have hm':m < its.length:=by simpa using hm
   have:=(at_ m hm' (by omega)).1
   have h4:=h3 m hmj
   simp only[Bool.not_eq_true] at h4
   rw[h4] at this
   simpa using this
  ·obtain⟨i,hi,rfl⟩:=Array.mem_iff_getElem.mp hy
   have hi':i < its.length:=by simpa using hi
   have:=(at_ i hi' (by omega)).2
   simpa using this
 ·cases hj
def Vy:Bx->Option Bx:=fun b=>(yx b).bind fun ds=>(ZK ds).bind fun j=>some (.z (.int j))
theorem W3 {apos cpos npos:Pos} {kk:Nat} (hu:X.A.units+100 < cLine) (ho:QV X o fo) (hbase:attributeBase o "index" X.env (eval o X.env)=eval o X.env:=by rfl)
  (hfew:((backTo cpos (starEach [.Constant .none kk npos] X.env)).all (fun x=>!x.1)&&(backToKw cpos (keywordEach [] X.env)).all (fun x=>x.1.isSome)&&decide (([.Constant .none kk npos]:List Expr).length+([]:List Keyword).length+(if ([]:List Keyword).isEmpty then 0 else 1) < 30))=true:=by rfl)
  (hline:(apos.endLine==cpos.line)=true:=by rfl) (hs:starEach [.Constant .none kk npos] X.env=(false,eval (.Constant .none kk npos) X.env)::starEach [] X.env:=by rfl):QV X (.Call (.Attribute o "index" apos) [.Constant .none kk npos] [] cpos) (b1 Vy fo):=
 ⟨HX (U3 (T := "list") F.plainAttrs_list F.slot_list_index F.type_list_index (ab2 hu) ho.run (cG Nj lX hs) hbase hfew hline hs rfl) fun σ H Q q=>by
  obtain⟨H0,ρ,c,E,e,q⟩:=q
  obtain⟨a,ea,e⟩:=bind_some e
  obtain⟨ds,ed,e⟩:=bind_some e
  obtain⟨j,ej,e⟩:=bind_some e
  cases e
  refine⟨H0,ρ,_,E,ea,fun v H1 s1 n1 r1=>?_⟩
  obtain⟨p,vs,rfl,sq,rs⟩:=r1.LR ed
  exact⟨.inl ⟨rfl,vs,sq⟩,p,vs,ds,j,rfl,rfl,sq,rs,ej,q _ _ s1 trivial (by simp only[bx,Rep])⟩⟩
end
section
variable {X:Cx} {o e l:Expr} {es:List Expr} {fo f:Ev->Option Bx} {fs:Ev->Option (List Bx)} {x y z:Str}
structure QV1 (X:Cx) (e:Expr) (f:Ev->Option Bx):Prop where
 run:∀ (pins:List (Addr×Obj)) (s:Shared) (σ:L2.St) (H:Hp) (Q:VK),1<=s.toks->Inv X pins σ H s->tF X.K f σ H Q->wpAny (model X.prog X.w) X.A (eval e X.env) (EP X pins σ Q) X.xe s
structure ab3 (X:Cx) (es:List Expr) (f:Ev->Option (List Bx)):Prop where
 run:∀ (pos:Pos) (pins:List (Addr×Obj)) (s:Shared) (σ:L2.St) (H:Hp) (Q:List V->Hp->Prop),1<=s.toks->Inv X pins σ H s->tFA X.K f σ H Q->wpAny (model X.prog X.w) X.A (spliced (backTo pos (starEach es X.env))) (AP X pins σ Q) X.xe s
theorem T5 (h:QV X e f):QV1 X e f:=⟨fun pins s σ H Q _ I q=>h.run pins s σ H Q I q⟩
theorem ab4 (h:U5 X es fs):ab3 X es fs:=⟨fun pos pins s σ H Q _ I q=>h.run pos pins s σ H Q I q⟩
theorem zK (h1:QV1 X e f) (h2:ab3 X es fs) (hs:starEach (e::es) X.env=(false,eval e X.env)::starEach es X.env:=by rfl):ab3 X (e::es) (ao f fs):=⟨fun pos pins s σ H Q hp I h=>by
 obtain⟨H0,ρ,bs,E,e,q⟩:=h
 obtain⟨b,eb,e⟩:=bind_some e
 obtain⟨bs',ebs,e⟩:=bind_some e
 cases e
 rw[hs]
 show wpAny _ _ (spliced ((false,eval _ X.env)::backTo pos (starEach es X.env))) _ _ s
 refine JJ (ZT (wpAny_toks_of hp (h1.run pins s σ H (fun v H1=>Same H H1/\bx X.K H1 b v) hp I ⟨H0,ρ,b,E,eb,fun v H1 s1 n1 r1=>⟨s1,r1⟩⟩)) (fun u s1 ⟨hp1,w,H1,I1,ru,sm,rb⟩=>?_) fun _ _ z=>z.2)
 exact jy (h2.run pos pins s1 σ H1 _ hp1 I1 ⟨H0,ρ,bs',E.grow sm,ebs,fun vs H2 s2 r2=>q (w::vs) H2 (sm.trans s2) (.cons (rb.same s2) r2)⟩) fun us s2 ⟨xs,H2,I2,r2,q2⟩=>⟨w::xs,H2,I2,.cons ru r2,q2⟩⟩
theorem ab5 {M:Model} {A:Around} {env:Env} {s:Shared} {E:VP_} {Q:VP_} {j:Nat} {p1 p2:Pos} {op:Operator} {r:Expr} (h:wpAny M A (eval (.BinOp (.Constant (.str x) j p1) op r p2) env) Q E s) :
  wpAny M A (eval (.BinOp (.Constant (.str x) j p1) op r p2) env) (fun v s'=>1<=s'.toks/\Q v s') E s:=fun Γ p hΓ=>by
 have h':=h Γ p hΓ
 rw[arm_eval_BinOp] at h' ⊢
 rw[Sem.wp_bind'] at h' ⊢
 have k:∀ (R:Value->Pos->Shared->Prop) (E':Value->Pos->Shared->Prop),Sem.wp M Γ (eval (.Constant (.str x) j p1) env) R E' p s=R (.str x s.toks) p { s with toks:=s.toks+1 }:=fun _ _=>rfl
 rw[k] at h' ⊢
 exact Sem.wp_mono M Γ _ (fun _ _ _ z=>z) (fun _ _ _ z=>z.2) _ _ (Sem.wp_toks M Γ 1 _ _ _ _ _ (Nat.succ_le_succ (QN _)) h')
theorem W4 {j:Nat} {p1 p2:Pos} {op:Operator} {r:Expr} (h1:QV X (.BinOp (.Constant (.str x) j p1) op r p2) f) (h2:ab3 X es fs) (hs:starEach (.BinOp (.Constant (.str x) j p1) op r p2::es) X.env=(false,eval (.BinOp (.Constant (.str x) j p1) op r p2) X.env)::starEach es X.env:=by rfl) :
  U5 X (.BinOp (.Constant (.str x) j p1) op r p2::es) (ao f fs):=⟨fun pos pins s σ H Q I h=>by
 obtain⟨H0,ρ,bs,E,e,q⟩:=h
 obtain⟨b,eb,e⟩:=bind_some e
 obtain⟨bs',ebs,e⟩:=bind_some e
 cases e
 rw[hs]
 show wpAny _ _ (spliced ((false,eval _ X.env)::backTo pos (starEach es X.env))) _ _ s
 refine JJ (ZT (ab5 (h1.run pins s σ H (fun v H1=>Same H H1/\bx X.K H1 b v) I ⟨H0,ρ,b,E,eb,fun v H1 s1 n1 r1=>⟨s1,r1⟩⟩)) (fun u s1 ⟨hp1,w,H1,I1,ru,sm,rb⟩=>?_) fun _ _ z=>z)
 exact jy (h2.run pos pins s1 σ H1 _ hp1 I1 ⟨H0,ρ,bs',E.grow sm,ebs,fun vs H2 s2 r2=>q (w::vs) H2 (sm.trans s2) (.cons (rb.same s2) r2)⟩) fun us s2 ⟨xs,H2,I2,r2,q2⟩=>⟨w::xs,H2,I2,.cons ru r2,q2⟩⟩
def Oe (y z:Str):Bx->Option Bx
 |.z (.str x)=>if x.length<=30000/\(Txt.replace x y z).length<=100000 then some (.z (.str (Txt.replace x y z))) else none
 |_=>none
theorem ab6 {apos cpos p1 p2:Pos} {j1 j2:Nat} (ho:QV X o fo) (hyz:(y==z)=false:=by decide) (hz:z.length<=14:=by decide) (hbase:attributeBase o "replace" X.env (eval o X.env)=eval o X.env:=by rfl)
  (hfew:((backTo cpos (starEach [.Constant (.str y) j1 p1,.Constant (.str z) j2 p2] X.env)).all (fun x=>!x.1)&&(backToKw cpos (keywordEach [] X.env)).all (fun x=>x.1.isSome)&&decide (([.Constant (.str y) j1 p1,.Constant (.str z) j2 p2]:List Expr).length+([]:List Keyword).length+(if ([]:List Keyword).isEmpty then 0 else 1) < 30))=true:=by rfl)
  (hline:(apos.endLine==cpos.line)=true:=by rfl) (hs:starEach [.Constant (.str y) j1 p1,.Constant (.str z) j2 p2] X.env=[(false,eval (.Constant (.str y) j1 p1) X.env),(false,eval (.Constant (.str z) j2 p2) X.env)]:=by rfl) :
  QV1 X (.Call (.Attribute o "replace" apos) [.Constant (.str y) j1 p1,.Constant (.str z) j2 p2] [] cpos) (b1 (Oe y z) fo):=⟨fun pins s σ H Q hp I h=>by
 obtain⟨H0,ρ,b,E,eq,q⟩:=h
 obtain⟨bo,eo,eq⟩:=bind_some eq
 unfold Oe at eq
 split at eq
 ·rename_i x
  split at eq
  ·rename_i hx
   cases eq
   have sl:(100002:Nat)<=sizeLine:=by decide
   refine wpAny_Call_method_late hbase hfew hline rfl (ZT (wpAny_toks_of hp (ho.run pins s σ H (fun v H1=>Same H H1/\bx X.K H1 (.z (.str x)) v) I ⟨H0,ρ,_,E,eo,fun v H1 s1 n1 r1=>⟨s1,r1⟩⟩)) (fun u s1 ⟨hp1,v,H1,I1,ru,sm,rb⟩=>?_) fun _ _ z=>z.2)
   obtain⟨rfl,hl⟩:=Qp rb
   obtain⟨t,rfl⟩:=ru
   refine⟨"str", "str.replace", kK,F.slot_str_replace,F.type_str_replace,typeIs_str _ _ _,fun a z=>(by cases z),?_⟩
   rw[hs]
   refine Calls.callWith_builtin rfl (Calls.evalArgs_plain ?_)
   refine JJ (Calls.Constant_str (k:=j1) (pos:=p1) ?_)
   refine JJ (Calls.Constant_str (k:=j2) (pos:=p2) ?_)
   refine Calls.spliced_nil ?_
   refine PySem.SC.replace (Q3 hp1) (Nat.succ_ne_zero _) (ZU (Nat.lt_succ_self _)) hyz (by have h1:(x.length+1) * z.length<=(x.length+1) * 14:=Nat.mul_le_mul_left _ hz;omega) fun t' k=>?_
   exact⟨.str (Txt.replace x y z),H1,I1.tok _,⟨_,rfl⟩,q _ _ sm trivial (by unfold bx Rep;exact⟨rfl,by omega⟩)⟩
  ·cases eq
 ·cases eq⟩
theorem ab7 (h:QV1 X e (b1 (Oe y z) fo)):QV1 X e (b1 sU (b1 (Oe y z) fo)):=⟨fun pins s σ H Q hp I q=>h.run pins s σ H Q hp I (by
 obtain⟨H0,ρ,b,E,e,q⟩:=q
 obtain⟨c,ec,e⟩:=bind_some e
 obtain⟨a,ea,e2⟩:=bind_some ec
 unfold Oe at e2
 split at e2
 ·split at e2
  ·cases e2
   cases e
   exact⟨H0,ρ,_,E,ec,q⟩
  ·cases e2
 ·cases e2)⟩
end
instance {σ τ:Type} [Inhabited σ]:Inhabited (Ab σ τ):=⟨.nx default⟩
section
variable {α:Type} {ρ:Ev} {e:α->Dt} {fa fb:Ev->Option Bx}
def j5:Dt->Str
 |.str x=>x
 |.int i=>Str.ofString (toString i)
 |_=>Str.empty
def ZL:Dt->Prop
 |.str _=>True
 |.int i=>i.natAbs<=1000000
 |_=>False
def ZM (a:R fa ρ (zE eD)):R (dj Y8 (ao fa aM)) ρ (zE eS):=⟨j5 a.v,bY a.D (some (ZL a.v)),fun h=>by
 obtain⟨h1,h2⟩:=aF h
 have h2:ZL a.v:=h2
 simp only[dj,ao,aM,a.ok h1,bnd,eD]
 generalize a.v=d at h2
 cases d<;>first|exact h2.elim|rfl|exact zo h2⟩
def ZP (a:R fa ρ (zE eS)):R (dj MJ (ao fa aM)) ρ (zE eI):=⟨(intText? a.v).getD 0,bY a.D (some (a.v.length<=640/\(intText? a.v).isSome=true)),fun h=>by
 obtain⟨h1,h2⟩:=aF h
 have h2:a.v.length<=640/\(intText? a.v).isSome=true:=h2
 simp only[dj,ao,aM,a.ok h1,bnd,eS,MJ,zo h2.1]
 obtain⟨n,en⟩:=Option.isSome_iff_exists.mp h2.2
 rw[en]
 rfl⟩
def agK (y z:Str) (a:R fa ρ (zE eS)):R (b1 (Oe y z) fa) ρ (zE eS):=⟨Txt.replace a.v y z,bY a.D (some (a.v.length<=30000/\(Txt.replace a.v y z).length<=100000)),fun h=>by
 obtain⟨h1,h2⟩:=aF h
 simp only[b1,a.ok h1,bnd,eS,Oe]
 exact zo h2⟩
theorem ZQ (ht:∀ x,∃ ds,e x=.tup ds) (ys:List (Option α)):(ys.map (eO e)).all T4=true/\(ab1 ∘ eO e)=Option.isNone:=by
 refine⟨?_,?_⟩
 ·rw[qv]
  intro d hd
  obtain⟨o,_,rfl⟩:=List.mem_map.mp hd
  cases o with
  |none=>rfl
  |some x=>obtain⟨ds,q⟩:=ht x;show T4 (e x)=true;rw[q];rfl
 ·funext o
  cases o with
  |none=>rfl
  |some x=>obtain⟨ds,q⟩:=ht x;show ab1 (e x)=false;rw[q];rfl
def agL (ht:∀ x,∃ ds,e x=.tup ds) (b:RL fb ρ (eO e)):R (b2 inX (cB .non) fb) ρ (zE eB):=⟨b.v.any Option.isNone,b.D,fun h=>by
 simp only[b2,cB,b.ok h,bnd,inX,abM b.lk]
 have q:Zd .non (b.v.map (eO e))=some (b.v.any Option.isNone):=by
  unfold Zd
  rw[zo]
  ·rw[List.any_map]
   have:((fun y=>isT (uy y .non)) ∘ eO e)=Option.isNone:=by
    funext o
    cases o with
    |none=>rfl
    |some x=>obtain⟨ds,q⟩:=ht x;show isT (uy (e x) .non)=false;rw[q];rfl
   rw[this]
  ·rw[qv]
   intro d hd
   obtain⟨o,_,rfl⟩:=List.mem_map.mp hd
   cases o with
   |none=>exact Bool.and_eq_true_iff.mpr ⟨rfl,ZO (zv (kF _ _) (by decide))⟩
   |some x=>obtain⟨ds,q⟩:=ht x;show ((uy (e x) .non).isSome&&_)=true;rw[q];exact Bool.and_eq_true_iff.mpr ⟨rfl,ZO (zv (kF _ _) (by decide))⟩
 rw[q]
 rfl⟩
def ae1 (ht:∀ x,∃ ds,e x=.tup ds) (b:RL fb ρ (eO e)):R (b1 Vy fb) ρ (zE eI):=⟨(b.v.findIdx Option.isNone:Int),bY b.D (some (b.v.any Option.isNone=true/\b.v.length<=100000)),fun h=>by
 obtain⟨h1,h2⟩:=aF h
 have h2:b.v.any Option.isNone=true/\b.v.length<=100000:=h2
 simp only[b1,b.ok h1,bnd,Vy,b.lk]
 have q:ZK (b.v.map (eO e))=some (b.v.findIdx Option.isNone):=by
  unfold ZK
  rw[zo ⟨(ZQ ht b.v).1,by rw[zC];exact h2.2⟩,List.findIdx?_map,(ZQ ht b.v).2]
  exact List.findIdx?_eq_some_of_exists (by simpa using List.any_eq_true.mp h2.1)
 rw[q]
 rfl⟩
end
theorem rT {d:Dt} (h:bR d=true):∃ x,d=.str x:=by
 cases d with
 |str x=>exact⟨x,rfl⟩
 |_=>cases h
theorem FP {d:Dt} (h:is_tuple d=true):∃ ds,d=.tup ds:=by
 cases d with
 |tup x=>exact⟨x,rfl⟩
 |_=>cases h
theorem CV {d:Dt} (h:is_tuple d=true):yC d=true:=by
 obtain⟨ds,rfl⟩:=FP h;rfl
theorem Hw (x y:Str):Aa (.str x) (.str y)=(x==y):=by
 rfl
theorem ab8 (x y:Str):KJ (.str x) (.str y):=⟨by rfl,by simp[uO]⟩
theorem CW {a b:Dt} (ha:bR a=true) (hb:bR b=true):KJ a b:=by
 obtain⟨x,rfl⟩:=rT ha
 obtain⟨y,rfl⟩:=rT hb
 exact ab8 x y
theorem Hx {ds:List Dt} {k:Nat} {d:Dt} (h:ds[k]?=some d):jC (.tup ds) (k:Int)=d:=by
 have hl:k < ds.length:=(List.getElem?_eq_some_iff.mp h).1
 have:Hj ds (k:Int)=some d:=by
  unfold Hj ixN
  rw[zo (by omega),zo (by omega),bnd,Int.toNat_natCast,h]
 unfold jC
 simp only[fK,Gq,bnd,this]
theorem Jh {d:Dt} {i:Int} (h:is_tuple d=true) (h0:0<=i) (h1:i < n6 d):DX d i:=by
 obtain⟨ds,rfl⟩:=FP h
 exact in_of h0 h1
theorem Q7 (a:Dt) (r:List Dt):jC (.tup (a::r)) 0=a:=Hx (k:=0) rfl
theorem CZ (a b:Dt) (r:List Dt):jC (.tup (a::b::r)) 1=b:=Hx (k:=1) rfl
theorem FQ (a b c:Dt) (r:List Dt):jC (.tup (a::b::c::r)) 2=c:=Hx (k:=2) rfl
theorem Q8 (a b c d:Dt) (r:List Dt):jC (.tup (a::b::c::d::r)) 3=d:=Hx (k:=3) rfl
theorem Vz {x:Str} {d:Dt} (h:d∈DY (.str x)):d=eS (asS d):=by
 unfold DY signs at h
 obtain⟨c,_,rfl⟩:=List.mem_map.mp h
 rfl
theorem VB (x:Str):(DY (.str x)).length=x.length:=WT x
end P1
end
section
namespace P1
open PySem PySem.Spec PyProof.Rows L2 S1 S6
def same (w:List LS_) (x y:Str):Prop:=∃ s∈w,x∈s/\y∈s
section
variable {α β:Type}
end
end P1
end
section
set_option maxHeartbeats 1000000
namespace P1
open PySem PySem.Spec PyProof.Rows L2
open PySem.Builtin PySem.Builtin.Str
abbrev cs (s:Str):List Nat:=s.cps.toList
theorem Es (a b:Str):cs (a++b)=cs a++cs b:=Array.toList_append
theorem Og {a b:Str} (h:cs a=cs b):a=b:=Str.ext' (Array.toList_inj.mp h)
theorem j6 (a:Str):a.length=(cs a).length:=by simp[Str.length]
theorem Oh (y p q:Str) (ps:LS_):Str.join y (p::q::ps)=p++y++Str.join y (q::ps):=rfl
theorem ZR {x y:Str} {k:Nat} (h:StrLaws.At x y x.length k):∃ r,(cs x).drop k=cs y++r:=by
 have e:=h.2
 rw[StrLaws.subAt_eq] at e
 have e:((cs x).drop k).take y.length=cs y:=eq_of_beq e
 exact⟨((cs x).drop k).drop y.length,by rw[<-e];exact (List.take_append_drop _ _).symm⟩
theorem ae2 {x y:Str} {k:Nat} {r:List Nat} (h:(cs x).drop k=cs y++r) (hk:k<=(cs x).length):StrLaws.At x y x.length k:=by
 refine⟨?_,?_⟩
 ·have:=congrArg List.length h
  rw[qk,zl,<-j6,<-j6] at this
  rw[<-j6] at hk
  omega
 ·rw[StrLaws.subAt_eq]
  apply beq_iff_eq.mpr
  show ((cs x).drop k).take y.length=cs y
  rw[h,j6,List.take_left]
theorem Ji {x y:Str} {c:Nat} {y':List Nat} (hy:cs y=c::y'):∀ (ps:LS_) (p:Str) (cuts:List Nat) (a f:Nat),(∀ q∈p::ps,c∉cs q)->a<=(cs x).length->(cs x).drop a=cs (Str.join y (p::ps))->StrLaws.ChainG x y x.length a cuts f->(∀ k,f<=k->¬ StrLaws.At x y x.length k) →
  StrLaws.partsFrom x y.length a cuts=p::ps
 |[],p,cuts,a,f,hc,ha,hx,hG,hn=>by
  have hx:(cs x).drop a=cs p:=hx
  have hp:=hc p (zS ..)
  cases cuts with
  |nil=>
   show [strSub x a x.length]=[p]
   congr 1
   refine Og ?_
   show (strSub x a x.length).cps.toList=_
   rw[StrLaws.strSub_toList]
   show ((cs x).drop a).take (x.length - a)=_
   rw[List.take_of_length_le (by rw[qk,j6];exact zt _),hx]
  |cons d r=>
   obtain⟨g1,g2,_,_⟩:=hG
   obtain⟨t,et⟩:=ZR g2
   refine absurd ?_ hp
   rw[<-hx,show (cs x).drop a=((cs x).drop a).take (d - a)++(cs x).drop d by
    rw[show (cs x).drop d=((cs x).drop a).drop (d - a) by rw[List.drop_drop];congr 1;omega,List.take_append_drop],et,hy]
   exact ZE _ (zS ..)
 |q::ps,p,cuts,a,f,hc,ha,hx,hG,hn=>by
  have hx:(cs x).drop a=cs p++(cs y++cs (Str.join y (q::ps))):=by
   rw[hx,Oh,Es,Es,JY]
  have hp:=hc p (zS ..)
  have hl:=congrArg List.length hx
  rw[qk,zl,zl] at hl
  have hy1:1<=(cs y).length:=by rw[hy];simp
  have e1:(cs x).drop (a+(cs p).length)=cs y++cs (Str.join y (q::ps)):=by
   rw[<-List.drop_drop,hx,List.drop_left]
  have A1:StrLaws.At x y x.length (a+(cs p).length):=ae2 e1 (by omega)
  have no:∀ d,a<=d->d < a+(cs p).length->¬ StrLaws.At x y x.length d:=fun d h1 h2 hA=>by
   obtain⟨t,et⟩:=ZR hA
   refine hp ?_
   have:(cs x).drop d=((cs p).drop (d - a))++(cs y++cs (Str.join y (q::ps))):=by
    rw[show (cs x).drop d=((cs x).drop a).drop (d - a) by rw[List.drop_drop];congr 1;omega,hx,List.drop_append_of_le_length (by omega)]
   rw[et,hy] at this
   have h3:(cs p).drop (d - a)≠[]:=fun z=>by
    have:=congrArg List.length z
    rw[qk,List.length_nil] at this
    omega
   cases hz:(cs p).drop (d - a) with
   |nil=>exact absurd hz h3
   |cons u v=>
    rw[hz] at this
    injection this with e _
    rw[e]
    exact List.mem_of_mem_drop (i:=d - a) (by rw[hz];exact zS ..)
  cases cuts with
  |nil=>
   have hG:f=a:=hG
   exact absurd A1 (hn _ (by omega))
  |cons d r=>
   obtain⟨g1,g2,g3,g4⟩:=hG
   have hd:d=a+(cs p).length:=by
    apply Decidable.byContradiction
    intro hne
    by_cases h:d < a+(cs p).length
    ·exact no d g1 h g2
    ·exact g3 _ (by omega) (by omega) A1
   subst hd
   show strSub x a (a+(cs p).length)::StrLaws.partsFrom x y.length (a+(cs p).length+y.length) r=p::q::ps
   rw[Ji hy ps q r _ f (fun z hz=>hc z (zI _ hz)) (by rw[j6];omega) (by rw[<-List.drop_drop,e1,j6,List.drop_left]) g4 hn]
   congr 1
   refine Og ?_
   show (strSub x a (a+(cs p).length)).cps.toList=_
   rw[StrLaws.strSub_toList]
   show ((cs x).drop a).take (a+(cs p).length - a)=_
   rw[hx,show a+(cs p).length - a=(cs p).length by omega,List.take_left]
theorem ZS (x:Str):1<=Builtin.Str.strKind x:=by
 unfold Builtin.Str.strKind
 split
 ·exact zt _
 ·split<;>decide
theorem Jj {y:Str} {c:Nat} {y':List Nat} (hy:cs y=c::y') (hk:Builtin.Str.strKind y=1) (p:Str) (ps:LS_) (hc:∀ q∈p::ps,c∉cs q):Txt.split (Txt.join y (p::ps)) y=p::ps:=by
 have ej:Txt.join y (p::ps)=Str.join y (p::ps):=StrLaws.glued_eq_join y _
 rw[ej]
 have hl:1<=y.length:=by rw[j6,hy];simp
 generalize hx:Str.join y (p::ps)=x
 obtain⟨f,hG,hn⟩:=StrLaws.occ_tight x y hl
 have key:=Ji (x:=x) hy ps p _ 0 f hc (QN _) (by rw[hx];rfl) hG hn
 unfold Txt.split
 split
 ·rename_i h
  rw[Bool.or_eq_true,Zp,Zp] at h
  have:=ZS x
  have h:x.length < y.length:=by omega
  cases ps with
  |nil=>rw[<-hx];rfl
  |cons q ps=>
   rw[<-hx,Oh,jc,jc] at h
   omega
 ·split
  ·rename_i h
   rw[List.isEmpty_iff.mp h] at key
   have key:[strSub x 0 x.length]=p::ps:=key
   rw[StrLaws.sub_whole] at key
   exact key
  ·rw[StrLaws.partsBetween_eq]
   exact key
theorem MK {c:Nat} {s:Str} (h:c∈cs s):jX ⟨#[c]⟩ s=true:=by
 unfold jX
 obtain⟨i,hi⟩:=(mem_iff_at s c).mp h
 rcases StrLaws.occ_head s ⟨#[c]⟩ 1 (zt 1) with⟨h0,hn⟩|⟨i,r,h0,_,_⟩
 ·exact absurd hi (hn i)
 ·rw[h0];rfl
theorem Dc (x:Str):chars x=(cs x).map fun c=>⟨#[c]⟩:=rfl
theorem agM {x:Str} {i:Int} (h:In x.length i):∃ c∈cs x,ch x i=⟨#[c]⟩:=by
 have:=Er (xs:=cs x) (i:=i) (by rw[<-j6];exact h)
 refine⟨_,this,?_⟩
 unfold ch at'
 rfl
theorem ab9:∀ (y p:Str) (ps:LS_),cs (Txt.join y (p::ps))=cs p++ps.flatMap fun q=>cs y++cs q:=by
 intro y p ps
 rw[show Txt.join y (p::ps)=Str.join y (p::ps) from StrLaws.glued_eq_join y _]
 induction ps generalizing p with
 |nil=>simp[Str.join]
 |cons q ps ih=>rw[Oh,Es,Es,ih,List.flatMap_cons,JY,JY]
end P1
end
section
set_option maxHeartbeats 1000000
namespace P1
open PySem PySem.Spec PyProof.Rows L2 S1 S6
section
variable {α:Type} [Inhabited α]
end
section
variable {α:Type} {e:α->Dt} [Kys e]
end
end P1
end
section
namespace P1
open PySem PySem.Spec PyProof.Rows L2
open PySem.Builtin PySem.Builtin.Str
theorem Q9 (x y:Str):Txt.split x y≠[]:=by
 unfold Txt.split
 split
 ·simp
 ·split
  ·simp
  ·rw[StrLaws.partsBetween_eq]
   obtain⟨p,r,e⟩:=StrLaws.partsFrom_ne x y.length 0 (Builtin.Str.occurrences x y 0 x.length (x.length+1))
   rw[e];simp
theorem join_split (x y:Str):Txt.join y (Txt.split x y)=x:=(StrLaws.glued_eq_join y _).trans (StrLaws.join_split x y)
end P1
end
section
set_option synthInstance.maxSize 100000
namespace G08
open PySem PySem.Spec PyProof.Rows L2 P1
noncomputable section
abbrev LD_:=List P1.Dt
abbrev Et:Type:=Int×Str
abbrev ajh:Type:=Str×Str×Str×Int
abbrev agN:ajh->Dt:=eP4 eS eS eS eI
def W5:List Dt:=[Dt.non,(Dt.int 7),(Dt.bl true),((eL eS) [("never p" : Str)]),(Dt.tup [(Dt.str "never p")]),Dt.emp,(Dt.tup [])]
def top (i:Nat):Stmt:=PySem.Challenge.pw_onefolk_k08_rules_as_texts.main.body.getD i (.Pass ⟨0,0,0,0⟩)
abbrev wj:Stmt:=top 36
abbrev qd:Stmt:=top 37
abbrev tH:Stmt:=top 38
abbrev tK:Stmt:=top 31
abbrev rA:Stmt:=top 30
abbrev wk:Stmt:=top 46
abbrev o9:Stmt:=top 16
abbrev tL:Stmt:=top 15
abbrev zL:Stmt:=top 34
abbrev wz:Stmt:=top 13
abbrev tM:Stmt:=top 14
abbrev rB:Stmt:=top 21
abbrev zM:Stmt:=top 20
abbrev wA:Stmt:=top 12
abbrev tO:Stmt:=top 25
abbrev oK:Stmt:=top 26
abbrev je:Stmt:=top 28
abbrev zN:Stmt:=top 27
abbrev zO:Stmt:=top 33
abbrev lD:Stmt:=top 32
abbrev sE:Stmt:=top 45
abbrev mK:Stmt:=top 49
abbrev rC:Stmt:=top 47
abbrev rD:Stmt:=top 48
abbrev mL:Stmt:=top 42
abbrev qe:Stmt:=top 39
abbrev qg:Stmt:=top 40
abbrev qj:Stmt:=top 41
abbrev ql:Stmt:=top 43
abbrev zP:Stmt:=top 44
abbrev Jk:Stmt:=top 50
def Ad:Ev->Option Out:=(aG (aG (setG 2 (b2 gP (b2 bU (b2 yK (gv 2) (cB (.int 69621))) (gv 3)) (cB (.int 2147483647)))) dI) (jB [3]))
def wB:Ev->Option Out:=(aG (rR (qZ Tz (gv 1) (dj qF (ao (gv 0) aM))) (aG (dY (b2 fK (gv 0) (gv 1))) dI) dI) (aG (setG 2 (b2 gP (b2 yK (cB (.int 48271)) (b2 bU (b2 bU (b2 yK (gv 1) (gv 1)) (b2 yK (cB (.int 7)) (gv 1))) (cB (.int 11)))) (cB (.int 2147483647)))) (aG (uG (itF (uE (gv 0) cM (dN (cB (.int 3))))) (DW 3) Ad) (aG (dY (gv 2)) dI))))
def jf:List Bx->Option Bx:=eF 4 wB
def pq:Ev->Option Out:=(aG (aG (setG 3 (b2 gP (b2 bU (b2 bU (b2 yK (gv 3) (b2 bU (b2 gP (gv 3) (cB (.int 65521))) (cB (.int 40487)))) (b2 yK (cB (.int 7)) (gv 5))) (cB (.int 5))) (cB (.int 1999999973)))) (aG (Ir 2 (b2 fK (dj iM (ao (gv 3) (ao (b2 gP (gv 4) (cB (.int 1000000))) aM))) (dj Wz (ao (b2 gtB (gv 4) (cB (.int 0))) aM)))) (aG (setG 4 (b2 uU (gv 4) (cB (.int 1000000)))) dI))) (jB [5]))
def qm:Ev->Option Out:=(aG (setG 2 (dj iM aM)) (aG (setG 3 (b2 gP (b2 yK (b2 bU (b2 gP (gv 0) (cB (.int 1999999973))) (cB (.int 31))) (cB (.int 765432101))) (cB (.int 1999999973)))) (aG (setG 4 (cB (.int 0))) (aG (rR (Qe (qZ Tz (gv 0) (cB (.int 0))) (qZ geB (gv 0) (b2 abo (cB (.int 10)) (cB (.int 18))))) (aG (aG (setG 4 (dj Wy (ao (gv 0) aM))) dI) (jB [])) (aG dI (jB []))) (aG (uG (XS (ao (gv 1) aM)) (DW 5) pq) (aG (Tf 2) dI))))))
def fP:List Bx->Option Bx:=eF 6 qm
def yP:Ev->Option Out:=(aG (aG (setG 4 (b2 fK (gv 0) (b2 bU (cB (.int 1)) (gv 3)))) (aG (aek 5 6 (ao (b2 fK (gv 1) (b2 gP (gv 4) (cB (.int 5)))) (ao (b2 fK (gv 1) (b2 gP (b2 bU (b2 bU (gv 4) (cB (.int 1))) (b2 gP (b2 uU (gv 4) (cB (.int 5))) (cB (.int 4)))) (cB (.int 5)))) aM))) (aG (setG 7 (b2 fK (dj iM (ao (b1 sU (b2 bU (cB (.int 1)) (b2 gP (b2 uU (gv 4) (cB (.int 300))) (cB (.int 3))))) (ao (b1 sU (b2 bU (cB (.int 1)) (b2 gP (b2 uU (gv 4) (cB (.int 300))) (cB (.int 1000))))) aM))) (b2 gP (b2 uU (gv 4) (cB (.int 7))) (cB (.int 2))))) (aG (setG 8 (b2 gP (b2 uU (gv 4) (cB (.int 20))) (cB (.int 5)))) (aG (rR (qZ eqB (gv 8) (cB (.int 0))) (aG (aG (Ir 2 (dj lB (ao (cB (.str "never")) (ao (gv 5) aM)))) dI) (jB [])) (aG (aG (rR (qZ eqB (gv 8) (cB (.int 1))) (aG (aG (Ir 2 (dj lB (ao (cB (.str "begin")) (ao (gv 5) (ao (b1 sU (b2 bU (cB (.int 1)) (b2 gP (b2 uU (gv 4) (cB (.int 100))) (cB (.int 3))))) (ao (gv 7) aM)))))) dI) (jB [])) (aG (aG (rR (qZ eqB (gv 8) (cB (.int 2))) (aG (aG (Ir 2 (dj lB (ao (cB (.str "both")) (ao (gv 5) (ao (gv 6) (ao (gv 7) aM)))))) dI) (jB [])) (aG (aG (Ir 2 (dj lB (ao (cB (.str "same")) (ao (gv 5) (ao (gv 7) aM))))) dI) (jB []))) dI) (jB []))) dI) (jB []))) dI))))) (jB [3,4,5,6,7,8]))
def tU:Ev->Option Out:=(aG (setG 1 (dj iM (ao (cB (.str "day")) (ao (cB (.str "name")) (ao (cB (.str "names")) (ao (cB (.str "p")) (ao (cB (.str "zzz")) aM))))))) (aG (setG 2 (dj iM aM)) (aG (uG (XS (ao (b2 bU (cB (.int 1)) (b2 gP (b2 fK (gv 0) (cB (.int 0))) (cB (.int 4)))) aM)) (DW 3) yP) (aG (dY (dj uF (ao (gv 2) aM))) dI))))
def j7:List Bx->Option Bx:=eF 9 tU
def tW:Ev->Option Out:=(aG (dY (b1 (sy " ") (oZ (Ml (gv 0)) (DW 0) zZ (b1 sU (dj Y8 (ao (gv 0) aM))) [] 1))) dI)
def j8:List Bx->Option Bx:=eF 1 tW
def rE:Ev->Option Out:=(aG (dY (b1 (sy "\n") (oZ (Ml (gv 0)) (DW 0) zZ (b1 sU (bO 1 j8 (ao (gv 0) aM))) [] 1))) dI)
def gU:List Bx->Option Bx:=eF 1 rE
def wC:Ev->Option Out:=(aG (dY (b1 (sy "\n") (oZ (Ml (gv 0)) (DW 0) zZ (b1 sU (b1 (sy " ") (oZ (Ml (gv 0)) (DW 0) zZ (b1 sU (dj Y8 (ao (gv 0) aM))) [] 1))) [] 1))) dI)
def iu:List Bx->Option Bx:=eF 1 wC
def wD:Ev->Option Out:=(aG (rR (yH (tV (qR bR (gv 0)))) (aG noG dI) dI) (aG (dY (ifV (tV (gv 0)) (b2 Jd (gv 0) (cB (.str "\n"))) (dj iM aM))) dI))
def gq:List Bx->Option Bx:=eF 1 wD
def tY:Ev->Option Out:=(aG (rR (Qe (yH (tC3 leB leB (cB (.int 1)) (dj qF (ao (gv 0) aM)) (cB (.int 6)))) (yH (tV (dj allB (ao (oZ (Ml (gv 0)) (DW 0) zZ (b2 inF (gv 0) (cB (.str "0123456789"))) [] 1) aM))))) (aG (dY (cB .non)) dI) dI) (aG (rR (Ny (qZ eqB (b2 fK (gv 0) (cB (.int 0))) (cB (.str "0"))) (qZ Tq (gv 0) (cB (.str "0")))) (aG (dY (cB .non)) dI) dI) (aG (dY (b1 sU (dj MJ (ao (gv 0) aM)))) dI)))
def j9:List Bx->Option Bx:=eF 1 tY
def zQ:Ev->Option Out:=(aG (setG 1 (bO 1 j9 (ao (gv 0) aM))) (aG (dY (ifV (qZ isB (gv 1) (cB .non)) (gv 0) (gv 1))) dI))
def pA:List Bx->Option Bx:=eF 2 zQ
def wF:Ev->Option Out:=(aG (dY (rZ (qR is_tuple (gv 0)) (b2 eqB (dj qF (ao (gv 0) aM)) (gv 1)))) dI)
def mV:List Bx->Option Bx:=eF 2 wF
def tZ:Ev->Option Out:=(aG (dY (rZ (bO 2 mV (ao (gv 0) (ao (gv 2) aM))) (rZ (qR bR (b2 fK (gv 0) (cB (.int 0)))) (b2 eqB (b2 fK (gv 0) (cB (.int 0))) (gv 1))))) dI)
def fQ:List Bx->Option Bx:=eF 3 tZ
def rG:Ev->Option Out:=(aG (dY (rZ (qR bR (gv 0)) (rZ (YB leB leB (cB (.int 1)) (dj qF (ao (gv 0) aM)) (gv 2)) (dj allB (ao (oZ (Ml (gv 0)) (DW 1) zZ (b2 inF (gv 1) (gv 0)) [1] 1) aM))))) dI)
def jg:List Bx->Option Bx:=eF 3 rG
def zR:Ev->Option Out:=(aG (dY (bO 3 jg (ao (gv 0) (ao (cB (.str "abcdefghijklmnopqrstuvwxyz")) (ao (cB (.int 8)) aM))))) dI)
def gG:List Bx->Option Bx:=eF 1 zR
def wG:Ev->Option Out:=(aG (dY (rZ (qR uD (gv 0)) (YF (qR is_bool (gv 0))))) dI)
def jh:List Bx->Option Bx:=eF 1 wG
def uc:Ev->Option Out:=(aG (dY (rZ (bO 1 jh (ao (gv 0) aM)) (YB leB leB (cB (.int 1)) (gv 0) (cB (.int 1000))))) dI)
def gW:List Bx->Option Bx:=eF 1 uc
def oM:Ev->Option Out:=(aG (dY (rZ (bO 1 jh (ao (gv 0) aM)) (YB leB leB (cB (.int 1)) (gv 0) (cB (.int 12))))) dI)
def gw:List Bx->Option Bx:=eF 1 oM
def ji:Ev->Option Out:=(aG (dY (rZ (bO 1 gG (ao (gv 0) aM)) (rZ (bO 1 gG (ao (gv 1) aM)) (b2 Tq (gv 0) (gv 1))))) dI)
def dJ:List Bx->Option Bx:=eF 2 ji
def zT:Ev->Option Out:=(aG (rR (tV (bO 3 fQ (ao (gv 0) (ao (cB (.str "same")) (ao (cB (.int 3)) aM))))) (aG (dY (rZ (bO 1 gG (ao (b2 fK (gv 0) (cB (.int 1))) aM)) (bO 1 gW (ao (b2 fK (gv 0) (cB (.int 2))) aM)))) dI) dI) (aG (rR (tV (bO 3 fQ (ao (gv 0) (ao (cB (.str "begin")) (ao (cB (.int 4)) aM))))) (aG (dY (rZ (bO 1 gG (ao (b2 fK (gv 0) (cB (.int 1))) aM)) (rZ (bO 1 gw (ao (b2 fK (gv 0) (cB (.int 2))) aM)) (bO 1 gW (ao (b2 fK (gv 0) (cB (.int 3))) aM))))) dI) dI) (aG (rR (tV (bO 3 fQ (ao (gv 0) (ao (cB (.str "both")) (ao (cB (.int 4)) aM))))) (aG (dY (rZ (bO 2 dJ (ao (b2 fK (gv 0) (cB (.int 1))) (ao (b2 fK (gv 0) (cB (.int 2))) aM))) (bO 1 gW (ao (b2 fK (gv 0) (cB (.int 3))) aM)))) dI) dI) (aG (dY (rZ (bO 3 fQ (ao (gv 0) (ao (cB (.str "never")) (ao (cB (.int 2)) aM)))) (bO 1 gG (ao (b2 fK (gv 0) (cB (.int 1))) aM)))) dI))))
def pB:List Bx->Option Bx:=eF 1 zT
def zU:Ev->Option Out:=(aG (setG 1 (dj uF (ao (oZ (Ml (b2 Jd (gv 0) (cB (.str " ")))) (DW 0) zZ (b1 sU (bO 1 pA (ao (gv 0) aM))) [] 1) aM))) (aG (dY (b1 sU (ifV (tV (bO 1 pB (ao (gv 1) aM))) (gv 1) (cB .non)))) dI))
def gH:List Bx->Option Bx:=eF 2 zU
def gK:Ev->Option Out:=(aG (aG (setG 4 (bO 1 gH (ao (gv 3) aM))) (aG (rR (qZ isB (gv 4) (cB .non)) (aG noG dI) dI) (aG (Ir 1 (gv 4)) dI))) (jB [2,3,4]))
def rH:Ev->Option Out:=(aG (setG 1 (dj iM aM)) (aG (uG (enF (ao (b1 sU (bO 1 gq (ao (gv 0) aM))) aM)) (U7 2 (Eh (DW 2) (Eh (DW 3) YM))) gK) (aG (dY (dj uF (ao (gv 1) aM))) dI)))
def fM:List Bx->Option Bx:=eF 5 rH
def FT:Dt->Bool
 |.int i=>decide (0<=i/\i < 100000)
 |_=>false
def FW:Ev->Option Dt:=ifX (yH (tV (qR bR (gv 0)))) (rzX FT (cB (.int 0))) (fun _=>none)
def Ra:Dt->Ev->Option Ev:=U7 2 (Eh (DW 2) (Eh (DW 3) YM))
def T6:Ev->Option Dt:=Jg (setG 4 (bO 1 gH (ao (gv 3) aM))) (ifX (qZ isB (gv 4) (cB .non)) (rzX FT (gv 2)) (fun _=>none))
def Ae:Ev->Option Dt:=Jg (setG 1 (dj iM aM)) (orX (Vw 1 (yO 1 FW) (ao (gv 0) aM)) (fun ρ=>(enF (ao (b1 sU (bO 1 gq (ao (gv 0) aM))) aM) ρ).bind fun ds=>KN Ra gK T6 ds ρ))
def cT:List Bx->Option Bx:=fun bs=>match yO 5 Ae bs with
 |some (.int i)=>some (.z (.int i))
 |some _=>none
 |none=>fM bs
def sG:Ev->Option Out:=(aG (aG (setG 4 (b2 bU (gv 4) (b2 fK (gv 1) (b2 gP (b2 uU (b2 fK (gv 0) (b2 bU (cB (.int 1)) (gv 3))) (b2 bU (cB (.int 8)) (gv 5))) (cB (.int 26)))))) dI) (jB [5]))
def sH:Ev->Option Out:=(aG (aG (setG 4 (b2 fK (gv 1) (b2 gP (b2 bU (b2 fK (gv 0) (cB (.int 0))) (b2 yK (cB (.int 5)) (gv 3))) (cB (.int 26))))) (aG (uG (XS (ao (b2 gP (b2 fK (gv 0) (b2 bU (cB (.int 1)) (gv 3))) (cB (.int 8))) aM)) (DW 5) sG) (aG (Ir 2 (gv 4)) dI))) (jB [3,4,5]))
def mO:Ev->Option Out:=(aG (setG 1 (cB (.str "abcdefghijklmnopqrstuvwxyz"))) (aG (setG 2 (dj iM aM)) (aG (uG (XS (ao (cB (.int 5)) aM)) (DW 3) sH) (aG (setG 6 (dj lB (ao (cB (.str "both")) (ao (b2 fK (gv 2) (cB (.int 1))) (ao (b2 fK (gv 2) (cB (.int 2))) (ao (b1 sU (b2 bU (cB (.int 1)) (b2 gP (b2 fK (gv 0) (cB (.int 7))) (cB (.int 1000))))) aM)))))) (aG (dY (dj lB (ao (dj lB (ao (cB (.str "same")) (ao (b2 fK (gv 2) (cB (.int 0))) (ao (b1 sU (b2 bU (cB (.int 1)) (b2 gP (b2 fK (gv 0) (cB (.int 6))) (cB (.int 1000))))) aM)))) (ao (gv 6) (ao (dj lB (ao (cB (.str "begin")) (ao (b2 fK (gv 2) (cB (.int 3))) (ao (b1 sU (b2 bU (cB (.int 1)) (b2 gP (b2 fK (gv 0) (cB (.int 8))) (cB (.int 12))))) (ao (cB (.int 7)) aM))))) (ao (dj lB (ao (cB (.str "never")) (ao (b2 fK (gv 2) (cB (.int 4))) aM))) aM)))))) dI)))))
def fj:List Bx->Option Bx:=eF 7 mO
def rJ:Ev->Option Out:=(aG (setG 3 (cB (.str "abcdefghijklmnopqrstuvwxyz0123456789 ABCDEFGHIJKLMNOPQRSTUVWXYZ"))) (aG (setG 3 (b2 bU (gv 3) (cB (.str "!#$&'()*+,-./:;<=>?\x40[]^_`{|}~\"\\")))) (aG (setG 4 (b2 fK (gv 3) (b2 gP (b2 uU (gv 2) (cB (.int 6))) (b2 fK (dj iM (ao (cB (.int 36)) (ao (cB (.int 94)) aM))) (b2 gP (b2 uU (gv 2) (cB (.int 3))) (cB (.int 2))))))) (aG (setG 5 (b2 gP (gv 1) (b2 bU (dj qF (ao (gv 0) aM)) (cB (.int 1))))) (aG (dY (b2 fK (dj iM (ao (b1 sU (b2 bU (b2 bU (uE (gv 0) cM (dN (gv 5))) (gv 4)) (uE (gv 0) (dN (gv 5)) cM))) (ao (b1 sU (b2 bU (b2 bU (uE (gv 0) cM (dN (gv 5))) (gv 4)) (uE (gv 0) (dN (b2 bU (gv 5) (cB (.int 1)))) cM))) (ao (b1 sU (b2 bU (uE (gv 0) cM (dN (gv 5))) (uE (gv 0) (dN (b2 bU (gv 5) (cB (.int 1)))) cM))) aM)))) (b2 gP (gv 2) (cB (.int 3))))) dI)))))
def gY:List Bx->Option Bx:=eF 6 rJ
def rK:Ev->Option Out:=(aG (setG 2 (dj iM (ao (cB (.str "")) (ao (cB (.str "same")) (ao (cB (.str "never")) (ao (cB (.str "begin")) (ao (cB (.str "both")) (ao (cB (.str "day")) (ao (cB (.str "p")) (ao (cB (.str "P")) (ao (cB (.str "a1")) (ao (cB (.str "abcdefgh")) (ao (cB (.str "abcdefghi")) (ao (cB (.str "0")) (ao (cB (.str "1")) (ao (cB (.str "12")) (ao (cB (.str "13")) aM))))))))))))))))) (aG (setG 2 (b2 bU (gv 2) (dj iM (ao (cB (.str "1000")) (ao (cB (.str "1001")) (ao (cB (.str "01")) (ao (cB (.str "-1")) (ao (cB (.str "+1")) (ao (cB (.str "1.0")) (ao (cB (.str "1_0")) (ao (cB (.str "x")) (ao (cB (.str "999999")) (ao (cB (.str "None")) (ao (cB (.str "True")) (ao (cB (.str "same p 1")) (ao (cB (.str "p 1")) aM)))))))))))))))) (aG (setG 2 (b2 bU (gv 2) (dj iM (ao (cB (.str "never p")) (ao (cB (.str "both")) (ao (cB (.str "Same")) (ao (cB (.str "names")) (ao (cB (.str "zz")) (ao (cB (.str "2")) (ao (cB (.str "00")) (ao (cB (.str "1 ")) (ao (cB (.str " 1")) (ao (cB (.str "same  p")) (ao (cB (.str "p,")) (ao (cB (.str "10")) aM))))))))))))))) (aG (setG 3 (b2 gP (b2 fK (gv 1) (cB (.int 0))) (dj qF (ao (gv 0) aM)))) (aG (setG 4 (b2 Jd (b2 fK (gv 0) (gv 3)) (cB (.str " ")))) (aG (setG 5 (b2 gP (b2 fK (gv 1) (cB (.int 1))) (dj qF (ao (gv 4) aM)))) (aG (setG 6 (b2 gP (b2 fK (gv 1) (cB (.int 2))) (cB (.int 12)))) (aG (setG 7 (b2 fK (gv 2) (b2 gP (b2 fK (gv 1) (cB (.int 3))) (cB (.int 40))))) (aG (rR (qZ Tz (gv 6) (cB (.int 3))) (aG (setG 8 (b1 (sy " ") (b2 bU (b2 bU (uE (gv 4) cM (dN (gv 5))) (dj iM (ao (gv 7) aM))) (uE (gv 4) (dN (b2 bU (gv 5) (cB (.int 1)))) cM)))) dI) (aG (rR (qZ eqB (gv 6) (cB (.int 3))) (aG (setG 8 (b1 (sy " ") (b2 bU (b2 bU (uE (gv 4) cM (dN (gv 5))) (dj iM (ao (gv 7) aM))) (uE (gv 4) (dN (gv 5)) cM)))) dI) (aG (rR (qZ eqB (gv 6) (cB (.int 4))) (aG (setG 8 (b1 (sy " ") (b2 bU (uE (gv 4) cM (dN (gv 5))) (uE (gv 4) (dN (b2 bU (gv 5) (cB (.int 1)))) cM)))) dI) (aG (rR (qZ eqB (gv 6) (cB (.int 5))) (aG (setG 8 (b2 fK (dj iM (ao (b1 sU (b2 bU (cB (.str " ")) (b2 fK (gv 0) (gv 3)))) (ao (b1 sU (b2 bU (b2 fK (gv 0) (gv 3)) (cB (.str " ")))) (ao (b1 sU (b1 (Oe " " "  ") (b2 fK (gv 0) (gv 3)))) (ao (b1 sU (b1 upB (b2 fK (gv 0) (gv 3)))) (ao (cB (.str "")) aM)))))) (b2 gP (b2 fK (gv 1) (cB (.int 3))) (cB (.int 5))))) dI) (aG (rR (qZ gtB (gv 6) (cB (.int 8))) (aG (setG 8 (bO 3 gY (ao (b2 fK (gv 0) (gv 3)) (ao (b2 fK (gv 1) (cB (.int 1))) (ao (b2 fK (gv 1) (cB (.int 3))) aM))))) dI) (aG (rR (qZ eqB (gv 6) (cB (.int 6))) (aG (dY (b2 bU (b2 bU (uE (gv 0) cM (dN (gv 3))) (dj iM (ao (b2 fK (gv 0) (gv 3)) aM))) (uE (gv 0) (dN (gv 3)) cM))) dI) (aG (rR (Ny (qZ eqB (gv 6) (cB (.int 7))) (qZ gtB (dj qF (ao (gv 0) aM)) (cB (.int 1)))) (aG (dY (b2 bU (uE (gv 0) cM (dN (gv 3))) (uE (gv 0) (dN (b2 bU (gv 3) (cB (.int 1)))) cM))) dI) (aG (setG 8 (gv 7)) dI)) dI)) dI)) dI)) dI)) dI)) dI)) (aG (dY (b2 bU (b2 bU (uE (gv 0) cM (dN (gv 3))) (dj iM (ao (gv 8) aM))) (uE (gv 0) (dN (b2 bU (gv 3) (cB (.int 1)))) cM))) dI))))))))))
def jj:List Bx->Option Bx:=eF 9 rK
def mQ:Ev->Option Out:=(aG (rR (Qe (yH (tC3 Tz Tz (cB (.int 0)) (dj qF (ao (gv 0) aM)) (cB (.int 7)))) (yH (tV (dj allB (ao (oZ (Ml (gv 0)) (DW 0) zZ (b2 inF (gv 0) (cB (.str "0123456789"))) [] 1) aM))))) (aG (dY (cB .non)) dI) dI) (aG (rR (Ny (qZ eqB (b2 fK (gv 0) (cB (.int 0))) (cB (.str "0"))) (qZ gtB (dj qF (ao (gv 0) aM)) (cB (.int 1)))) (aG (dY (cB .non)) dI) dI) (aG (dY (b1 sU (dj MJ (ao (gv 0) aM)))) dI)))
def fu:List Bx->Option Bx:=eF 1 mQ
def qp:Ev->Option Out:=(aG (rR (Qe (yH (tV (qR bR (gv 0)))) (yH (tC3 Tz Tz (cB (.int 0)) (dj qF (ao (gv 0) aM)) (cB (.int 9))))) (aG (dY (cB (.bl false))) dI) dI) (aG (dY (dj allB (ao (oZ (Ml (gv 0)) (DW 0) zZ (b2 inF (gv 0) (cB (.str "abcdefghijklmnopqrstuvwxyz"))) [] 1) aM))) dI))
def fU:List Bx->Option Bx:=eF 1 qp
def qt:Ev->Option Out:=(aG (dY (rZ (qR uD (gv 0)) (rZ (YF (qR is_bool (gv 0))) (YB leB leB (gv 1) (gv 0) (gv 2))))) dI)
def eG:List Bx->Option Bx:=eF 3 qt
def qu:Ev->Option Out:=(aG (rR (Qe (yH (tV (qR is_tuple (gv 0)))) (Qe (qZ Tz (dj qF (ao (gv 0) aM)) (cB (.int 2))) (Qe (yH (tV (qR bR (b2 fK (gv 0) (cB (.int 0)))))) (yH (tV (bO 1 fU (ao (b2 fK (gv 0) (cB (.int 1))) aM))))))) (aG (dY (cB (.bl false))) dI) dI) (aG (rR (qZ eqB (b2 fK (gv 0) (cB (.int 0))) (cB (.str "never"))) (aG (dY (b2 eqB (dj qF (ao (gv 0) aM)) (cB (.int 2)))) dI) dI) (aG (rR (qZ eqB (b2 fK (gv 0) (cB (.int 0))) (cB (.str "same"))) (aG (dY (rZ (b2 eqB (dj qF (ao (gv 0) aM)) (cB (.int 3))) (bO 3 eG (ao (b2 fK (gv 0) (cB (.int 2))) (ao (cB (.int 1)) (ao (cB (.int 1000)) aM)))))) dI) dI) (aG (rR (Qe (qZ Tq (dj qF (ao (gv 0) aM)) (cB (.int 4))) (yH (tV (bO 3 eG (ao (b2 fK (gv 0) (cB (.int 3))) (ao (cB (.int 1)) (ao (cB (.int 1000)) aM))))))) (aG (dY (cB (.bl false))) dI) dI) (aG (rR (qZ eqB (b2 fK (gv 0) (cB (.int 0))) (cB (.str "begin"))) (aG (dY (bO 3 eG (ao (b2 fK (gv 0) (cB (.int 2))) (ao (cB (.int 1)) (ao (cB (.int 12)) aM))))) dI) dI) (aG (dY (rZ (b2 eqB (b2 fK (gv 0) (cB (.int 0))) (cB (.str "both"))) (rZ (bO 1 fU (ao (b2 fK (gv 0) (cB (.int 2))) aM)) (b2 Tq (b2 fK (gv 0) (cB (.int 1))) (b2 fK (gv 0) (cB (.int 2))))))) dI))))))
def iw:List Bx->Option Bx:=eF 1 qu
def uZ:Ev->Option Out:=(aG (aG (rR (Qe (qZ Tz (gv 3) (cB (.int 2))) (Ny (qZ eqB (gv 3) (cB (.int 2))) (qZ eqB (b2 fK (gv 1) (cB (.int 0))) (cB (.str "both"))))) (aG (aG (Ir 2 (b2 fK (gv 1) (gv 3))) dI) (jB [])) (aG (aG (Ir 2 (b1 sU (bO 1 fu (ao (b2 fK (gv 1) (gv 3)) aM)))) dI) (jB []))) dI) (jB [3]))
def qw:Ev->Option Out:=(aG (setG 1 (b2 Jd (gv 0) (cB (.str " ")))) (aG (setG 2 (dj iM aM)) (aG (uG (XS (ao (dj qF (ao (gv 1) aM)) aM)) (DW 3) uZ) (aG (rR (tV (bO 1 iw (ao (dj uF (ao (gv 2) aM)) aM))) (aG (dY (dj uF (ao (gv 2) aM))) dI) dI) (aG (dY (cB .non)) dI)))))
def iz:List Bx->Option Bx:=eF 4 qw
def zV:Ev->Option Out:=(aG (rR (qZ eqB (gv 0) (cB (.str ""))) (aG (dY (dj lB aM)) dI) dI) (aG (setG 1 (oZ (Ml (b2 Jd (gv 0) (cB (.str "\n")))) (DW 0) zZ (b1 sU (bO 1 iz (ao (gv 0) aM))) [] 1)) (aG (rR (qZ inX (cB .non) (gv 1)) (aG (dY (b1 Vy (gv 1))) dI) dI) (aG (dY (dj uF (ao (gv 1) aM))) dI))))
def pC:List Bx->Option Bx:=eF 2 zV
def Jl:Ev->Option Out:=(aG (aG (setG 4 (bO 1 gU (ao (gv 3) aM))) (aG (rR (Qe (yH (tV (qR bR (gv 4)))) (Qe (qZ Tq (gv 4) (bO 1 iu (ao (gv 3) aM))) (qZ Tq (bO 1 cT (ao (gv 4) aM)) (gv 3)))) (aG (dY (cB (.bl false))) dI) dI) dI)) (jB [3,4]))
def Rb:Ev->Option Out:=(aG (aG (setG 8 (bO 2 jj (ao (gv 8) (ao (b1 sU (uE (gv 6) (dN (b2 bU (cB (.int 1)) (b2 yK (cB (.int 4)) (gv 9)))) cM)) aM)))) dI) (jB [9]))
def Jm:Ev->Option Out:=(aG (aG (setG 6 (bO 2 fP (ao (gv 5) (ao (cB (.int 16)) aM)))) (aG (setG 7 (bO 1 fj (ao (gv 6) aM))) (aG (rR (Qe (qZ Tq (bO 1 gU (ao (gv 7) aM)) (bO 1 iu (ao (gv 7) aM))) (qZ Tq (bO 1 cT (ao (b1 sU (bO 1 iu (ao (gv 7) aM))) aM)) (gv 7))) (aG (dY (cB (.bl false))) dI) dI) (aG (setG 8 (b2 Jd (bO 1 iu (ao (b2 fK (dj iM (ao (gv 1) (ao (gv 7) aM))) (b2 gP (b2 fK (gv 6) (cB (.int 14))) (cB (.int 2)))) aM)) (cB (.str "\n")))) (aG (uG (XS (ao (b2 bU (cB (.int 1)) (b2 gP (b2 fK (gv 6) (cB (.int 0))) (cB (.int 3)))) aM)) (DW 9) Rb) (aG (setG 10 (b2 bU (b1 (sy "\n") (gv 8)) (b2 yK (cB (.str "\n")) (dj Wz (ao (b2 eqB (b2 gP (b2 fK (gv 6) (cB (.int 15))) (cB (.int 8))) (cB (.int 1))) aM))))) (aG (rR (qZ Tq (bO 1 cT (ao (gv 10) aM)) (bO 1 pC (ao (gv 10) aM))) (aG (dY (cB (.bl false))) dI) dI) dI))))))) (jB [5,6,7,8,9,10]))
def VD:Ev->Option Out:=(aG (setG 1 (bO 1 j7 (ao (b1 sU (bO 2 fP (ao (b1 sU (bO 2 jf (ao (gv 0) (ao (cB (.int 0)) aM)))) (ao (cB (.int 5)) aM)))) aM))) (aG (setG 2 (dj lB (ao (dj lB (ao (cB (.str "same")) (ao (cB (.str "a")) (ao (cB (.int 1000)) aM)))) (ao (dj lB (ao (cB (.str "begin")) (ao (cB (.str "abcdefgh")) (ao (cB (.int 12)) (ao (cB (.int 1)) aM))))) (ao (dj lB (ao (cB (.str "both")) (ao (cB (.str "b")) (ao (cB (.str "a")) (ao (cB (.int 10)) aM))))) (ao (dj lB (ao (cB (.str "never")) (ao (cB (.str "same")) aM))) aM)))))) (aG (uG (itF (dj iM (ao (gv 1) (ao (dj lB aM) (ao (gv 2) (ao (b1 sU (b2 bU (gv 1) (uE (gv 1) cM (dN (cB (.int 1)))))) aM)))))) (DW 3) Jl) (aG (uG (itF (b2 bU (dj iM (ao (b1 sU (bO 2 jf (ao (gv 0) (ao (cB (.int 1)) aM)))) aM)) (uE (gv 0) (dN (cB (.int 2))) (dN (cB (.int 20)))))) (DW 5) Jm) (aG (dY (dj allB (ao (oZ (Ml (dj iM (ao (cB .non) (ao (cB (.int 7)) (ao (cB (.bl true)) (ao (b1 sU (dj iM (ao (cB (.str "never p")) aM))) (ao (dj lB (ao (cB (.str "never p")) aM)) (ao (cB .emp) (ao (dj lB aM) aM))))))))) (DW 0) zZ (b2 eqB (bO 1 cT (ao (gv 0) aM)) (cB (.int 0))) [] 1) aM))) dI)))))
def ud:List Bx->Option Bx:=eF 11 VD
end
end G08
end
section
set_option synthInstance.maxSize 100000
namespace G08
open PySem PySem.Spec PyProof.Rows L2 P1
abbrev FZ:Stmt:=match top 3 with
 |.ClassDef _ _ _ b _ _ _ _ _ _ _=>b.getD 0 (.Pass ⟨0,0,0,0⟩)
 |s=>s
section
variable {P:Program} {w:World} {K:FG_} {mg:Str->Option Value} {base:Heap} {FE:Addr}
def rwI:V->Prop
 |.int i=>0<=i/\i < 100000
 |_=>False
def rwD:V->Ev
 |.int i=>[none,some (.z (.int i))]
 |_=>[none,none]
def acd:Ev->Option Bx:=Zv (QW (cB (.str "row ")) (QW (hoI (gv 1)) (QW (cB (.str " is refused")) agz)))
theorem agP {i:Int} (h:0<=i/\i < 100000):∃ b,acd [none,some (.z (.int i))]=some b:=by
 have hl:=int_text_length_le10 (a:=i) (k:=5) (by decide) (by omega)
 have hl2:(Str.ofString (toString i)).length<=6:=by rw[PySem.ofString_length];exact hl
 have e:acd [none,some (.z (.int i))]=(if (Str.ofString "row " ++ (Str.ofString (toString i)++(Str.ofString " is refused" ++ Str.empty))).length<=100000 then some (.z (.str (Str.ofString "row " ++ (Str.ofString (toString i)++(Str.ofString " is refused" ++ Str.empty))))) else none):=by
  have e1:hoI (gv 1) [none,some (.z (.int i))]=some (.z (.str (toString i))):=zo h
  unfold acd Zv
  simp only[QW,e1]
  rfl
 have l4:(Str.ofString "row ").length=4:=by decide +kernel
 have l11:(Str.ofString " is refused" ++ Str.empty).length=11:=by decide +kernel
 refine⟨_,e.trans (zo ?_)⟩
 rw[strLen_append,strLen_append,l4,l11]
 omega
variable {D fJ:Addr} {ZV:FuncData}
theorem ae3:bf ["self", "row"] ["self", "row"] (aK FZ):=lC
theorem ae4 (F:qK K "__init__" "NoText.__init__" FZ fJ ZV) (hx:WY K D fJ veM "ValueError.__new__" = true) (ae0:setIn K D "row" = true) (hm:mg "FolkError" = some (.ref FE)) (hb:Vv K FE "ValueError.__init__") :
  bF P w K mg base gO 1 fJ ZV ["self", "row"] (spI D "row" rwI):=by
 refine abZ (k:=0) (fa:=acd) (ρ0:=rwD) (ok:=rwI) F ae3 kC hx ae0 hm hb (by decide +kernel) rfl (fun v hv=>?_) fun cdv A outer s H E X eX hr=>?_
 ·cases v with
  |int i=>
   obtain⟨b,eb⟩:=agP hv
   refine⟨b,eb,fun H e=>⟨rfl,fun k b z=>?_,fun k j c a b z hc=>?_,Same.refl H,fun k c a z hc=>?_⟩⟩
   ·match k with
    |0=>cases z
    |1=>cases z;exact⟨_,rfl,by simp only[bx,Rep]⟩
    |_+2=>cases z
   ·match k with
    |0=>cases z
    |1=>cases z;cases hc
    |_+2=>cases z
   ·match k with
    |0=>cases z
    |1=>cases z;cases hc
    |_+2=>cases z
  |_=>exact False.elim hv
 ·subst eX
  exact⟨rfl,abQ (Ob aO (Ob (ZG (ak 1)) (Ob aO aeP))),pv 0,pv 0,pv 1,by decide,rfl,rfl,rfl,rfl,rfl,_,rfl⟩
theorem ac0 (d:Dt) (v:V) (K:FG_) (H:Hp) (ho:FT d=true) (r:Rep K H d v):rwI v:=by
 cases d<;>first|(cases ho;done)|skip
 rename_i i
 obtain rfl:v=.int i:=by simpa only[Rep] using r
 have ho:decide (0<=i/\i < 100000)=true:=ho
 exact (show 0<=i/\i < 100000 from jn ho)
variable {W6 T7 ae5 f_c:Addr} {Rc VF ac1 agQ:FuncData}
theorem agR:bf ["text"] ["text"] (aK o9):=lC
theorem agS (F:qK K "lines_in" "lines_in" o9 W6 Rc) (aX:mg "isinstance" = none) (uf:mg "str" = none)
  (hx:WY K D fJ veM "ValueError.__new__" = true) (hk:PySem.W.keepIn K (.ref D)=true) (T8:bF P w K mg base gO 1 fJ ZV ["self", "row"] (spI D "row" rwI)) (hb:Binds K ZV ["self", "row"] []) (hm:mg "NoText" = some (.ref D)) :
  bF P w K mg base (Sw P w) 3 W6 Rc ["text"] (spX K 1 (yO 1 FW) D "row"):=by
 refine acZ (k:=2) (gx:=FW) F agR rfl rfl fun cdv A outer s H E hr X4 hp=>?_
 exact yN (acY (o7 (lY (mR (ak 0) rfl aX rfl uf))) (yN (Q0 (okX:=FT) kC hx (by decide) hk T8 hb (hr.mono (by decide)) rfl hm X4 aA ac0)) Q6)
theorem ac2:bf ["text", "rules", "at", "line", "rule"] ["text"] (aK lD):=lC
theorem agT (F:qK K "read_rules" "read_rules" lD T7 VF) (aji:bF P w K mg base gO 1 W6 Rc ["text"] (jA K 1 gq)) (ajj:bF P w K mg base (Sw P w) 3 W6 Rc ["text"] (spX K 1 (yO 1 FW) D "row")) (agU:mg "lines_in" = some (.ref W6)) (agV:PySem.W.keepIn K (.ref W6)=true) (agW:Binds K Rc ["text"] [])
  (agX:bF P w K mg base gO 5 ae5 ac1 ["line"] (jA K 1 gH)) (agY:mg "rule_in" = some (.ref ae5)) (agZ:PySem.W.keepIn K (.ref ae5)=true) (ag0:Binds K ac1 ["line"] []) (jd:mg "enumerate" = none)
  (hx:WY K D fJ veM "ValueError.__new__" = true) (hk:PySem.W.keepIn K (.ref D)=true) (T8:bF P w K mg base gO 1 fJ ZV ["self", "row"] (spI D "row" rwI)) (hb:Binds K ZV ["self", "row"] []) (hm:mg "NoText" = some (.ref D)) :
  bF P w K mg base (Sw P w) 6 T7 VF ["text"] (spX K 1 (yO 5 Ae) D "row"):=by
 refine acZ (k:=5) (gx:=Ae) F ac2 rfl rfl fun cdv A outer s H E hr X4 hp=>?_
 have hu:=bZ hr
 have nd:=ac2.nd
 exact Q5 (bA 1 nd (eZ aB)) (yN (agI (ZJ (n:=1) ajj (hr.mono (by decide)) rfl agU agV agW X4 hp rfl rfl jd (aj (ak 0) aB))
  (aeY hp rfl (QC rfl jd (aj (gj (aW aji (hr.mono (by decide)) rfl agU agV agW (aj (ak 0) aB))) aB)) (YQ rfl (Cm (dO 2 nd) (Cm (dO 3 nd) U6)))
   (dF [2,3,4] (au (bA 4 nd (aW agX (hr.mono (by decide)) rfl agY agZ ag0 (aj (ak 3) aB))) (au (eN (cL of_is (ak 4) qL (bN _)) (au N7 aH) aH) (au (uw 1 (ak 4)) aH))))
   (Q5 (bA 4 nd (aW agX (hr.mono (by decide)) rfl agY agZ ag0 (aj (ak 3) aB))) (yN (acY (cL of_is (ak 4) qL (bN _)) (yN (Q0 (okX:=FT) kC hx (by decide) hk T8 hb (hr.mono (by decide)) rfl hm X4 (ak 2) ac0)) Q6))))))
theorem ZW {X:Cx}:jz X (.builtin "isinstance") (fun xs H Q=>∃ d x,xs=[x,.ty "bool"]/\Rep X.K H (.int d) x/\Q (.bl false) H):=by
 intro pins s σ H xs us Q I r h
 obtain⟨d,x,rfl,rb,q⟩:=h
 obtain⟨u,w',rfl,r1,r2⟩:=vals2 r
 cases r2
 exact Qs I (d:=.int d) rb r1 q
variable {c1 c2 c3 c4 c5 c6:Addr}
theorem VG:bf ["_law_thing", "_law_caught", "_law_found", "e"] ["_law_thing"] (aK sE):=lC
theorem ace (F:qK K "_law_told" "_law_told" sE f_c agQ) (hk:PySem.W.keepIn K (.ref T7)=true) (hbD:Binds K VF ["text"] []) (G:bF P w K mg base (Sw P w) 6 T7 VF ["text"] (fun vs H Q E=>jA K 1 fM vs H Q E\/spX K 1 (yO 5 Ae) D "row" vs H Q E)) (hm:mg "read_rules" = some (.ref T7))
  (acf:mg "FolkError" = some (.ref FE)) (hex:PySem.W.exmOne K (.ref D) (.ref FE)=some true) (hget:yM K D=true) (hfn:PySem.W.findIn K (.ref D) "row" = some none) (m1:mg "NoName" = some (.ref c1)) (m2:mg "NoReason" = some (.ref c2)) (m3:mg "NoRoom" = some (.ref c3)) (m4:mg "NoRow" = some (.ref c4)) (m5:mg "NoStep" = some (.ref c5)) (m6:mg "NoUndo" = some (.ref c6))
  (hany:PySem.W.kitAny K (.ref D) [.ref c1,.ref c2,.ref c3,.ref c4,.ref c5,.ref c6]=some false) (hself:PySem.W.kitOne K (.ref D) (.ref D)=some true) (hve:PySem.W.kitOne K (.ref D) (.type "ValueError")=some true) (aX:mg "isinstance" = none) (W7:mg "ValueError" = none) (yQ:mg "bool" = none) (hmD:mg "NoText" = some (.ref D)) :
  bF P w K mg base gO 7 f_c agQ ["_law_thing"] (jA K 1 cT):=by
 refine qK.ok (k:=6) F VG (fun vs H Q E h=>h.1) fun cdv A outer s H vs Q E hr hsp=>?_
 have nd:=VG.nd
 have hu:=bZ hr
 have hC:∀ C,C∈[D]->yM K C=true:=fun C z=>by rw[List.mem_singleton.mp z];exact hget
 have hC2:∀ C,C∈[D]->yM K C=true/\PySem.W.findIn K (.ref C) "row" = some none:=fun C z=>by rw[List.mem_singleton.mp z];exact⟨hget,hfn⟩
 refine⟨_,(by exact (qD (Nq (i:=1) nd rfl (.inl rfl) Nj) (qD (Nq (i:=2) nd rfl (.inl rfl) Nj) (qD (aeX (C:=D) (iv:=3) (iy:=2) (f:=T7) rfl rfl nd rfl rfl rfl rfl rfl acf hex (fun a=>Hh (Nq (X:=Cx.inX _ a) (i:=1) nd rfl (.inl rfl) (pv 3))) (pX (v:=.ref T7) rfl hm rfl) G (hr.mono (by decide)) hk hbD (cG (pv 0) lX)) (qD (Pz (adv (adu (pv 1))) (Hh (Np (pv 2))) Hg)
  (qD (Pz (PW.pt (Yd (Nk (oh (Jf (Cs:=[D]) hC) rfl aX rfl (cG (pv 1) (cG (Yq (cG (pX (v:=.ref c1) rfl m1 rfl) (cG (pX (v:=.ref c2) rfl m2 rfl) (cG (pX (v:=.ref c3) rfl m3 rfl) (cG (pX (v:=.ref c4) rfl m4 rfl) (cG (pX (v:=.ref c5) rfl m5 rfl) (cG (pX (v:=.ref c6) rfl m6 rfl) lX))))))) lX)))) (Sy (SJ (Nk (oh (Jf (Cs:=[D]) hC) rfl aX rfl (cG (pv 1) (cG (zB (v:=.ty "ValueError") rfl W7 rfl rfl) lX)))))))) Lw Hg)
  (qD (Pz (PW.pt (Yd (SJ (Nk (oh (Jf (Cs:=[D]) hC) rfl aX rfl (cG (pv 1) (cG (pX (v:=.ref D) rfl hmD rfl) lX))))) (Sy (Nk (oh ZW rfl aX rfl (cG (ZF (Cs:=[D]) hC2 (pv 1) rfl) (cG (zB (v:=.ty "bool") rfl yQ rfl rfl) lX))))))) Lw Hg) (Hh (Np (ZF (Cs:=[D]) hC2 (pv 1) rfl)))))))))),?_⟩
 obtain⟨hl,bs,r,reps,no,er,q⟩:=hsp
 obtain⟨v1,rfl⟩:∃ v1,vs=[v1]:=by
  match vs,hl with
  |[v1],_=>exact⟨v1,rfl⟩
 unfold cT at er
 split at er
 ·rename_i i ex
  cases er
  refine⟨rfl,v1,rfl,.inr ⟨rfl,bs,.int i,reps,no,ex,fun dx v H' s' ed r'=>⟨rfl,dx,rfl,fun a na=>?_⟩⟩⟩
  obtain rfl:v=.int i:=by simpa only[Rep] using r'
  refine⟨.ref a,rfl,?_⟩
  have s4:Same H' (upd H' a (ZC a D dx)):=dU na
  refine⟨.ref a,rfl,false,rfl,?_⟩
  show (if false=true then _ else _)
  rw[Zs zg]
  refine⟨.ref a,rfl,(show 6<=sizeLine by decide +kernel),fun p hp=>?_⟩
  have s5:Same (upd H' a (ZC a D dx)) (upd (upd H' a (ZC a D dx)) p (.tup [.ref c1,.ref c2,.ref c3,.ref c4,.ref c5,.ref c6])):=dU hp
  have ea:=s5 _ _ (bK (H:=H') (a:=a) (o:=ZC a D dx))
  have ed5:=s5 _ _ (s4 _ _ ed)
  refine⟨a,D,dx,_,_,false,List.mem_singleton.mpr rfl,rfl,ea,ed5,.inr (.inr ⟨p,[c1,c2,c3,c4,c5,c6],rfl,bK,hany⟩),false,rfl,?_⟩
  generalize hH5:upd (upd H' a (ZC a D dx)) p (.tup [.ref c1,.ref c2,.ref c3,.ref c4,.ref c5,.ref c6])=H5 at *
  show (if false=true then _ else _)
  rw[Zs zg]
  refine⟨.ref a,rfl,a,D,dx,_,_,true,List.mem_singleton.mpr rfl,rfl,ea,ed5,.inr (.inl ⟨"ValueError", rfl,hve⟩),true,rfl,?_⟩
  show (if false=true then _ else _)
  rw[Zs zg]
  refine⟨.ref a,rfl,a,D,dx,_,_,true,List.mem_singleton.mpr rfl,rfl,ea,ed5,.inl ⟨D,rfl,hself⟩,true,rfl,?_⟩
  show (if false=true then _ else _)
  rw[Zs zg]
  refine⟨.ref a,rfl,a,D,dx,.int i,List.mem_singleton.mpr rfl,rfl,ea,ed5,i,.int i,rfl,(by simp only[Rep]),false,rfl,?_⟩
  show (if false=true then _ else _)
  rw[Zs zg]
  exact⟨.ref a,rfl,a,D,dx,.int i,List.mem_singleton.mpr rfl,rfl,ea,ed5,q _ _ ((s'.trans s4).trans s5) trivial (by simp only[bx,Rep])⟩
 ·cases er
 ·rename_i hx
  exact⟨rfl,v1,rfl,.inl ⟨rfl,bs,r,reps,no,er,fun v H' s' n' r'=>⟨.non,rfl,true,rfl,by
   show (if true=true then _ else _)
   rw[zo rfl]
   exact⟨v,rfl,q v H' s' n' r'⟩⟩⟩⟩
end
structure T (K:FG_) (mg:Str->Option Value) (mW:Addr) (nG:FuncData) (iB:Addr) (iU:FuncData) (kh:Addr) (lF:FuncData) (kj:Addr) (lG:FuncData) (jk:Addr) (jG:FuncData) (mX:Addr) (nH:FuncData) (kE:Addr) (kO:FuncData) (kW:Addr) (lH:FuncData) (pD:Addr) (pF:FuncData) (mY:Addr) (nJ:FuncData) (kY:Addr) (lK:FuncData) (jm:Addr) (jH:FuncData) (nM:Addr) (mZ:FuncData) (kZ:Addr) (lg:FuncData) (lq:Addr) (lM:FuncData) (gA:Addr) (gM:FuncData) (dM:Addr) (dX:FuncData) (pG:Addr) (pH:FuncData) (nO:Addr) (m7:FuncData) (jo:Addr) (jJ:FuncData) (m9:Addr) (nP:FuncData) (fB:Addr) (fY:FuncData) (jq:Addr) (jK:FuncData) (jr:Addr) (jL:FuncData) (fD:Addr) (fZ:FuncData) (iD:Addr) (iV:FuncData) (iG:Addr) (iW:FuncData) (iH:Addr) (iY:FuncData) (iI:Addr) (iZ:FuncData) (pI:Addr) (pJ:FuncData) (MN:Addr) (Jo:FuncData) (fJ:Addr) (ZV:FuncData) (D FE c1 c2 c3 c4 c5 c6:Addr):Prop where
 F_J:qK K "__init__" "NoText.__init__" FZ fJ ZV
 b_J:Binds K ZV ["self", "row"] []
 hbi:Vv K FE "ValueError.__init__"
 acf:mg "FolkError" = some (.ref FE)
 jx:WY K D fJ veM "ValueError.__new__" = true
 ajl:setIn K D "row" = true
 jmC:mg "NoText" = some (.ref D)
 jkC:PySem.W.keepIn K (.ref D)=true
 jex:PySem.W.exmOne K (.ref D) (.ref FE)=some true
 ajn:yM K D=true
 jfn:PySem.W.findIn K (.ref D) "row" = some none
 m1:mg "NoName" = some (.ref c1)
 m2:mg "NoReason" = some (.ref c2)
 m3:mg "NoRoom" = some (.ref c3)
 m4:mg "NoRow" = some (.ref c4)
 m5:mg "NoStep" = some (.ref c5)
 m6:mg "NoUndo" = some (.ref c6)
 hany:PySem.W.kitAny K (.ref D) [.ref c1,.ref c2,.ref c3,.ref c4,.ref c5,.ref c6]=some false
 hself:PySem.W.kitOne K (.ref D) (.ref D)=some true
 hve:PySem.W.kitOne K (.ref D) (.type "ValueError")=some true
 W7:mg "ValueError" = none
 jf:qK K "_law_cell" "_law_cell" wj mW nG
 Jp:Binds K nG ["_law_script", "_law_k"] []
 Jq:mg "_law_cell" = some (.ref mW)
 Jr:PySem.W.keepIn K (.ref mW)=true
 fP:qK K "_law_numbers" "_law_numbers" qd iB iU
 Af:Binds K iU ["_law_cell_here", "_law_many"] []
 Ag:mg "_law_numbers" = some (.ref iB)
 Ah:PySem.W.keepIn K (.ref iB)=true
 j7:qK K "_law_rules" "_law_rules" tH kh lF
 Rf:Binds K lF ["_law_xs"] []
 Rh:mg "_law_rules" = some (.ref kh)
 Ri:PySem.W.keepIn K (.ref kh)=true
 j8:qK K "show_rule" "show_rule" tK kj lG
 Rj:Binds K lG ["rule"] []
 Rk:mg "show_rule" = some (.ref kj)
 Rm:PySem.W.keepIn K (.ref kj)=true
 gU:qK K "show_rules" "show_rules" rA jk jG
 Dd:Binds K jG ["rules"] []
 Dg:mg "show_rules" = some (.ref jk)
 Dh:PySem.W.keepIn K (.ref jk)=true
 iu:qK K "_law_text" "_law_text" wk mX nH
 wH:Binds K nH ["_law_rules_here"] []
 wI:mg "_law_text" = some (.ref mX)
 wJ:PySem.W.keepIn K (.ref mX)=true
 gq:qK K "lines_in" "lines_in" o9 kE kO
 Js:Binds K kO ["text"] []
 Jt:mg "lines_in" = some (.ref kE)
 Ju:PySem.W.keepIn K (.ref kE)=true
 j9:qK K "number_in" "number_in" tL kW lH
 Rn:Binds K lH ["text"] []
 Ro:mg "number_in" = some (.ref kW)
 Rp:PySem.W.keepIn K (.ref kW)=true
 pA:qK K "part_in" "part_in" zL pD pF
 W8:Binds K pF ["word"] []
 W9:mg "part_in" = some (.ref pD)
 Xa:PySem.W.keepIn K (.ref pD)=true
 mV:qK K "is_tuple" "is_tuple" wz mY nJ
 T9:Binds K nJ ["thing", "many"] []
 Ua:mg "is_tuple" = some (.ref mY)
 Ub:PySem.W.keepIn K (.ref mY)=true
 fQ:qK K "is_worded" "is_worded" tM kY lK
 ug:Binds K lK ["thing", "word", "many"] []
 uh:mg "is_worded" = some (.ref kY)
 um:PySem.W.keepIn K (.ref kY)=true
 jg:qK K "is_text_of" "is_text_of" rB jm jH
 Oi:Binds K jH ["thing", "signs", "longest"] []
 Oj:mg "is_text_of" = some (.ref jm)
 Ol:PySem.W.keepIn K (.ref jm)=true
 gG:qK K "is_name" "is_name" zM nM mZ
 u0:Binds K mZ ["thing"] []
 u5:mg "is_name" = some (.ref nM)
 u6:PySem.W.keepIn K (.ref nM)=true
 jh:qK K "is_whole" "is_whole" wA kZ lg
 Jv:Binds K lg ["thing"] []
 Jw:mg "is_whole" = some (.ref kZ)
 Jx:PySem.W.keepIn K (.ref kZ)=true
 gW:qK K "is_weight" "is_weight" tO lq lM
 yR:Binds K lM ["thing"] []
 yS:mg "is_weight" = some (.ref lq)
 yU:PySem.W.keepIn K (.ref lq)=true
 gw:qK K "is_beginning" "is_beginning" oK gA gM
 Jy:Binds K gM ["thing"] []
 Jz:mg "is_beginning" = some (.ref gA)
 JB:PySem.W.keepIn K (.ref gA)=true
 dJ:qK K "are_unlike_names" "are_unlike_names" je dM dX
 Bf:Binds K dX ["one", "other"] []
 Bg:mg "are_unlike_names" = some (.ref dM)
 Bh:PySem.W.keepIn K (.ref dM)=true
 pB:qK K "is_rule" "is_rule" zN pG pH
 Xb:Binds K pH ["thing"] []
 Xc:mg "is_rule" = some (.ref pG)
 Xd:PySem.W.keepIn K (.ref pG)=true
 gH:qK K "rule_in" "rule_in" zO nO m7
 MP:Binds K m7 ["line"] []
 M4:mg "rule_in" = some (.ref nO)
 M6:PySem.W.keepIn K (.ref nO)=true
 fM:qK K "read_rules" "read_rules" lD jo jJ
 Om:Binds K jJ ["text"] []
 Oo:mg "read_rules" = some (.ref jo)
 Oq:PySem.W.keepIn K (.ref jo)=true
 cT:qK K "_law_told" "_law_told" sE m9 nP
 wK:Binds K nP ["_law_thing"] []
 wL:mg "_law_told" = some (.ref m9)
 wM:PySem.W.keepIn K (.ref m9)=true
 fj:qK K "_law_any_rules" "_law_any_rules" mK fB fY
 Gu:Binds K fY ["_law_xs"] []
 Gv:mg "_law_any_rules" = some (.ref fB)
 Gw:PySem.W.keepIn K (.ref fB)=true
 gY:qK K "_law_signed" "_law_signed" rC jq jK
 Ot:Binds K jK ["_law_text_here", "_law_place", "_law_x"] []
 Ou:mg "_law_signed" = some (.ref jq)
 Ov:PySem.W.keepIn K (.ref jq)=true
 jj:qK K "_law_spoilt" "_law_spoilt" rD jr jL
 Ow:Binds K jL ["_law_rows", "_law_xs"] []
 Ox:mg "_law_spoilt" = some (.ref jr)
 Oz:PySem.W.keepIn K (.ref jr)=true
 fu:qK K "_law_number_in" "_law_number_in" mL fD fZ
 Gx:Binds K fZ ["_law_word"] []
 Gy:mg "_law_number_in" = some (.ref fD)
 Gz:PySem.W.keepIn K (.ref fD)=true
 fU:qK K "_law_is_name" "_law_is_name" qe iD iV
 Ai:Binds K iV ["_law_thing"] []
 Aj:mg "_law_is_name" = some (.ref iD)
 Ak:PySem.W.keepIn K (.ref iD)=true
 eG:qK K "_law_between" "_law_between" qg iG iW
 uI:Binds K iW ["_law_thing", "_law_least", "_law_most"] []
 uJ:mg "_law_between" = some (.ref iG)
 uK:PySem.W.keepIn K (.ref iG)=true
 iw:qK K "_law_is_rule" "_law_is_rule" qj iH iY
 KQ:Binds K iY ["_law_thing"] []
 KR:mg "_law_is_rule" = some (.ref iH)
 KY:PySem.W.keepIn K (.ref iH)=true
 iz:qK K "_law_rule_in" "_law_rule_in" ql iI iZ
 KZ:Binds K iZ ["_law_row"] []
 K1:mg "_law_rule_in" = some (.ref iI)
 K3:PySem.W.keepIn K (.ref iI)=true
 pC:qK K "_law_due" "_law_due" zP pI pJ
 Xe:Binds K pJ ["_law_text_here"] []
 Xf:mg "_law_due" = some (.ref pI)
 Xg:PySem.W.keepIn K (.ref pI)=true
 ud:qK K "law" "law" Jk MN Jo
 ant:Binds K Jo ["_law_script"] []
 anu:mg "law" = some (.ref MN)
 anv:PySem.W.keepIn K (.ref MN)=true
 VH:mg "abs" = none
 Ga:mg "all" = none
 yQ:mg "bool" = none
 jd:mg "enumerate" = none
 Di:mg "int" = none
 aX:mg "isinstance" = none
 oN:mg "len" = none
 rM:mg "range" = none
 uf:mg "str" = none
 oO:mg "tuple" = none
 Xh:∃ tk,mg "FIGURES" = some (.str "0123456789" tk)
 Xi:∃ tk,mg "LETTERS" = some (.str "abcdefghijklmnopqrstuvwxyz" tk)
 JC:∃ tk,mg "LONGEST_NAME" = some (.int 8 tk)
 JD:∃ tk,mg "MOST_FIGURES" = some (.int 6 tk)
 OD:∃ tk,mg "MOST_SIGNS" = some (.int 12 tk)
 K4:∃ tk,mg "MOST_WEIGHT" = some (.int 1000 tk)
section
variable {P:Program} {w:World} {K:FG_} {mg:Str->Option Value} {base:Heap} {mW:Addr} {nG:FuncData} {iB:Addr} {iU:FuncData} {kh:Addr} {lF:FuncData} {kj:Addr} {lG:FuncData} {jk:Addr} {jG:FuncData} {mX:Addr} {nH:FuncData} {kE:Addr} {kO:FuncData} {kW:Addr} {lH:FuncData} {pD:Addr} {pF:FuncData} {mY:Addr} {nJ:FuncData} {kY:Addr} {lK:FuncData} {jm:Addr} {jH:FuncData} {nM:Addr} {mZ:FuncData} {kZ:Addr} {lg:FuncData} {lq:Addr} {lM:FuncData} {gA:Addr} {gM:FuncData} {dM:Addr} {dX:FuncData} {pG:Addr} {pH:FuncData} {nO:Addr} {m7:FuncData} {jo:Addr} {jJ:FuncData} {m9:Addr} {nP:FuncData} {fB:Addr} {fY:FuncData} {jq:Addr} {jK:FuncData} {jr:Addr} {jL:FuncData} {fD:Addr} {fZ:FuncData} {iD:Addr} {iV:FuncData} {iG:Addr} {iW:FuncData} {iH:Addr} {iY:FuncData} {iI:Addr} {iZ:FuncData} {pI:Addr} {pJ:FuncData} {MN:Addr} {Jo:FuncData} {fJ:Addr} {ZV:FuncData} {D FE c1 c2 c3 c4 c5 c6:Addr} (t:T K mg mW nG iB iU kh lF kj lG jk jG mX nH kE kO kW lH pD pF mY nJ kY lK jm jH nM mZ kZ lg lq lM gA gM dM dX pG pH nO m7 jo jJ m9 nP fB fY jq jK jr jL fD fZ iD iV iG iW iH iY iI iZ pI pJ MN Jo fJ ZV D FE c1 c2 c3 c4 c5 c6)
theorem Gb:bf ["_law_script", "_law_k", "_law_state", "_law_cell_here"] ["_law_script", "_law_k"] (aK wj):=lC
include t in
theorem Rq:bF P w K mg base gO 1 mW nG ["_law_script", "_law_k"] (jA K 2 jf):=by
 unfold jf
 refine nZ (k:=0) (g:=wB) t.jf Gb rfl rfl fun cdv A outer s H E hr=>?_
 have hu:=bZ hr
 have nd:=Gb.nd
 exact (au (eN (cL vU (ak 1) (dh mq rfl t.oN mj (aj (ak 0) aB)) (bN _)) (au (bH (bB (ak 0) (ak 1))) aH) aH) (au (bA 2 nd (aQ cX (aQ uz aA (aQ bh (aQ bh (aQ uz (ak 1) (ak 1)) (aQ uz aA (ak 1))) aA)) aA)) (au (ux PassesOwn.never rfl (NT (lU (ak 0) dD (cR aA))) (dO 3 nd) (dF [3] (au (bA 2 nd (aQ cX (aQ bh (aQ uz (ak 2) aA) (ak 3)) aA)) aH))) (au (bH (ak 2)) aH))))
theorem yV:bf ["_law_cell_here", "_law_many", "_law_found", "_law_state", "_law_digits", "_law_k"] ["_law_cell_here", "_law_many"] (aK qd):=lC
include t in
theorem JF:bF P w K mg base gO 1 iB iU ["_law_cell_here", "_law_many"] (jA K 2 fP):=by
 unfold fP
 refine nZ (k:=0) (g:=qm) t.fP yV rfl rfl fun cdv A outer s H E hr=>?_
 have hu:=bZ hr
 have nd:=yV.nd
 exact (au (bA 2 nd (eZ aB)) (au (bA 3 nd (aQ cX (aQ uz (aQ bh (aQ cX (ak 0) aA) aA) aA) aA)) (au (bA 4 nd aA) (au (eN (Ef (qM (cL vU (ak 0) aA (bN _)) (qW (cL agk (ak 0) (aQ aed aA aA) (bN _))))) (dF [] (au (bA 4 nd (dh aej rfl t.VH aeg (aj (ak 0) aB))) aH)) (dF [] aH)) (au (ux PassesOwn.never rfl (uT rfl t.rM (aj (ak 1) aB)) (dO 5 nd) (dF [5] (au (bA 3 nd (aQ cX (aQ bh (aQ bh (aQ uz (ak 3) (aQ bh (aQ cX (ak 3) aA) aA)) (aQ uz aA (ak 5))) aA) aA)) (au (uw 2 (bB (eZ (aj (ak 3) (aj (aQ cX (ak 4) aA) aB))) (gF Y5 rfl t.Di Ik (aj (ou Va (ak 4) aA (bN _)) aB)))) (au (bA 4 nd (aQ pZ (ak 4) aA)) aH))))) (au (aa9 2) aH))))))
theorem Dj:bf ["_law_xs", "_law_fields", "_law_found", "_law_k", "_law_y", "_law_one", "_law_other", "_law_weight", "_law_way"] ["_law_xs"] (aK tH):=lC
include t in
theorem OJ:bF P w K mg base gO 1 kh lF ["_law_xs"] (jA K 1 j7):=by
 unfold j7
 refine nZ (k:=0) (g:=tU) t.j7 Dj rfl rfl fun cdv A outer s H E hr=>?_
 have hu:=bZ hr
 have nd:=Dj.nd
 exact (au (bA 1 nd (eZ (aj aO (aj aO (aj aO (aj aO (aj aO aB))))))) (au (bA 2 nd (eZ aB)) (au (ux PassesOwn.never rfl (uT rfl t.rM (aj (aQ bh aA (aQ cX (bB (ak 0) aA) aA)) aB)) (dO 3 nd) (dF [3,4,5,6,7,8] (au (bA 4 nd (bB (ak 0) (aQ bh aA (ak 3)))) (au (ad6 5 6 rfl nd (aj (bB (ak 1) (aQ cX (ak 4) aA)) (aj (bB (ak 1) (aQ cX (aQ bh (aQ bh (ak 4) aA) (aQ cX (aQ pZ (ak 4) aA) aA)) aA)) aB))) (au (bA 7 nd (bB (eZ (aj (gj (aQ bh aA (aQ cX (aQ pZ (ak 4) aA) aA))) (aj (gj (aQ bh aA (aQ cX (aQ pZ (ak 4) aA) aA))) aB))) (aQ cX (aQ pZ (ak 4) aA) aA))) (au (bA 8 nd (aQ cX (aQ pZ (ak 4) aA) aA)) (au (eN (cL (of_eq hu) (ak 8) aA (bN _)) (dF [] (au (uw 2 (jO (aj aO (aj (ak 5) aB)))) aH)) (dF [] (au (eN (cL (of_eq hu) (ak 8) aA (bN _)) (dF [] (au (uw 2 (jO (aj aO (aj (ak 5) (aj (gj (aQ bh aA (aQ cX (aQ pZ (ak 4) aA) aA))) (aj (ak 7) aB)))))) aH)) (dF [] (au (eN (cL (of_eq hu) (ak 8) aA (bN _)) (dF [] (au (uw 2 (jO (aj aO (aj (ak 5) (aj (ak 6) (aj (ak 7) aB)))))) aH)) (dF [] (au (uw 2 (jO (aj aO (aj (ak 5) (aj (ak 7) aB))))) aH))) aH))) aH))) aH))))))) (au (bH (gF uV rfl t.oO su (aj (ak 2) aB))) aH))))
theorem Dk:bf ["rule"] ["rule"] (aK tK):=lC
include t in
theorem O1:bF P w K mg base gO 1 kj lG ["rule"] (jA K 1 j8):=by
 unfold j8
 refine nZ (k:=0) (g:=tW) t.j8 Dk rfl rfl fun cdv A outer s H E hr=>?_
 have hu:=bZ hr
 have nd:=Dk.nd
 exact (au (bH (sY (pY ["part"] (Iv [] []) rfl (oG (ak 0)) (fun _ _ _ _=>(dO 0 (by show List.Nodup (_++_);decide +kernel))) (fun _ _ _ _=>gk) (fun _ _ _ _=>(gj (gF Y9 rfl t.uf Tw (aj (ak 0) aB)))) (oF)))) aH)
theorem Al:bf ["rules"] ["rules"] (aK rA):=lC
include t in
theorem K5 (yW:bF P w K mg base gO 1 kj lG ["rule"] (jA K 1 j8)):bF P w K mg base gO 2 jk jG ["rules"] (jA K 1 gU):=by
 unfold gU
 refine nZ (k:=1) (g:=rE) t.gU Al rfl rfl fun cdv A outer s H E hr=>?_
 have hu:=bZ hr
 have nd:=Al.nd
 exact (au (bH (sY (pY ["rule"] (Iv [] []) rfl (oG (ak 0)) (fun _ _ _ _=>(dO 0 (by show List.Nodup (_++_);decide +kernel))) (fun _ _ _ _=>gk) (fun _ _ _ _=>(gj (aW yW (hr.mono (by decide)) rfl t.Rk t.Rm t.Rj (aj (ak 0) aB)))) (oF)))) aH)
theorem Gd:bf ["_law_rules_here"] ["_law_rules_here"] (aK wk):=lC
include t in
theorem Rr:bF P w K mg base gO 1 mX nH ["_law_rules_here"] (jA K 1 iu):=by
 unfold iu
 refine nZ (k:=0) (g:=wC) t.iu Gd rfl rfl fun cdv A outer s H E hr=>?_
 have hu:=bZ hr
 have nd:=Gd.nd
 exact (au (bH (sY (pY ["_law_rule"] (Iv [] []) rfl (oG (ak 0)) (fun _ _ _ _=>(dO 0 (by show List.Nodup (_++_);decide +kernel))) (fun _ _ _ _=>gk) (fun _ _ _ _=>(gj (sY (pY ["_law_part"] (Iv [] []) rfl (oG (ak 0)) (fun _ _ _ _=>(dO 0 (by show List.Nodup (_++_);decide +kernel))) (fun _ _ _ _=>gk) (fun _ _ _ _=>(gj (gF Y9 rfl t.uf Tw (aj (ak 0) aB)))) (oF))))) (oF)))) aH)
theorem Ge:bf ["text"] ["text"] (aK o9):=lC
include t in
theorem Rt:bF P w K mg base gO 1 kE kO ["text"] (jA K 1 gq):=by
 unfold gq
 refine nZ (k:=0) (g:=wD) t.gq Ge rfl rfl fun cdv A outer s H E hr=>?_
 have hu:=bZ hr
 have nd:=Ge.nd
 exact (au (eN (o7 (lY (mR (ak 0) rfl t.aX rfl t.uf))) (au N7 aH) aH) (au (bH (Td (lY (ak 0)) (uY (ak 0) aO) (eZ aB))) aH))
theorem Dl:bf ["text"] ["text"] (aK tL):=lC
include t in
theorem O2:bF P w K mg base gO 1 kW lH ["text"] (jA K 1 j9):=by
 unfold j9
 refine nZ (k:=0) (g:=tY) t.j9 Dl rfl rfl fun cdv A outer s H E hr=>?_
 have hu:=bZ hr
 have nd:=Dl.nd
 obtain⟨JG,Xj⟩:=t.Xh
 obtain⟨xg,JH⟩:=t.JD
 exact (au (eN (Ef (qM (o7 (HY of_le of_le aA (dh mq rfl t.oN mj (aj (ak 0) aB)) (Cj rfl JH))) (qW (o7 (lY (dh (Ip rfl) rfl t.Ga Il (aj (pY ["sign"] (Iv [] []) rfl (oG (ak 0)) (fun _ _ _ _=>(dO 0 (by show List.Nodup (_++_);decide +kernel))) (fun _ _ _ _=>gk) (fun _ _ _ _=>(ou Vc (ak 0) (Qd rfl Xj) (by with_unfolding_all rfl))) (oF)) aB))))))) (au (bH qL) aH) aH) (au (eN (Ef (Ho (cL (of_eq hu) (bB (ak 0) aA) aO (bN _)) (Ck (cL (Cr hu) (ak 0) aO (bN _))))) (au (bH qL) aH) aH) (au (bH (gj (gF Vx rfl t.Di Ik (aj (ak 0) aB)))) aH)))
theorem JK:bf ["word", "number"] ["word"] (aK zL):=lC
include t in
theorem Uc (yX:bF P w K mg base gO 1 kW lH ["text"] (jA K 1 j9)):bF P w K mg base gO 2 pD pF ["word"] (jA K 1 pA):=by
 unfold pA
 refine nZ (k:=1) (g:=zQ) t.pA JK rfl rfl fun cdv A outer s H E hr=>?_
 have hu:=bZ hr
 have nd:=JK.nd
 exact (au (bA 1 nd (aW yX (hr.mono (by decide)) rfl t.Ro t.Rp t.Rn (aj (ak 0) aB))) (au (bH (Td (cL of_is (ak 1) qL (bN _)) (ak 0) (ak 1))) aH))
theorem Gf:bf ["thing", "many"] ["thing", "many"] (aK wz):=lC
include t in
theorem Ru:bF P w K mg base gO 1 mY nJ ["thing", "many"] (jA K 2 mV):=by
 unfold mV
 refine nZ (k:=0) (g:=wF) t.mV Gf rfl rfl fun cdv A outer s H E hr=>?_
 have hu:=bZ hr
 have nd:=Gf.nd
 exact (au (bH (iQ (Cy (ak 0) rfl t.aX rfl t.oO) (oA (ou (of_eq hu) (dh mq rfl t.oN mj (aj (ak 0) aB)) (ak 1) (bN _))))) aH)
theorem Dm:bf ["thing", "word", "many"] ["thing", "word", "many"] (aK tM):=lC
include t in
theorem O4 (Bj:bF P w K mg base gO 1 mY nJ ["thing", "many"] (jA K 2 mV)):bF P w K mg base gO 2 kY lK ["thing", "word", "many"] (jA K 3 fQ):=by
 unfold fQ
 refine nZ (k:=1) (g:=tZ) t.fQ Dm rfl rfl fun cdv A outer s H E hr=>?_
 have hu:=bZ hr
 have nd:=Dm.nd
 exact (au (bH (iQ (aW Bj (hr.mono (by decide)) rfl t.Ua t.Ub t.T9 (aj (ak 0) (aj (ak 2) aB))) (iQ (mR (bB (ak 0) aA) rfl t.aX rfl t.uf) (oA (ou (of_eq hu) (bB (ak 0) aA) (ak 1) (bN _)))))) aH)
theorem Am:bf ["thing", "signs", "longest"] ["thing", "signs", "longest"] (aK rB):=lC
include t in
theorem K6:bF P w K mg base gO 1 jm jH ["thing", "signs", "longest"] (jA K 3 jg):=by
 unfold jg
 refine nZ (k:=0) (g:=rG) t.jg Am rfl rfl fun cdv A outer s H E hr=>?_
 have hu:=bZ hr
 have nd:=Am.nd
 exact (au (bH (iQ (mR (ak 0) rfl t.aX rfl t.uf) (iQ (Ci of_le of_le aA (dh mq rfl t.oN mj (aj (ak 0) aB)) (ak 2)) (oA (dh (Ip rfl) rfl t.Ga Il (aj (pY ["sign"] (Iv ["signs"] [1]) rfl (oG (ak 0)) (fun _ _ _ _=>(dO 1 (by show List.Nodup (_++_);decide +kernel))) (fun _ _ _ _=>gk) (fun _ _ _ _=>(ou Vc (ak 1) (ak 0) (by with_unfolding_all rfl))) (oF)) aB)))))) aH)
theorem JL:bf ["thing"] ["thing"] (aK zM):=lC
include t in
theorem Ud (wN:bF P w K mg base gO 1 jm jH ["thing", "signs", "longest"] (jA K 3 jg)):bF P w K mg base gO 2 nM mZ ["thing"] (jA K 1 gG):=by
 unfold gG
 refine nZ (k:=1) (g:=zR) t.gG JL rfl rfl fun cdv A outer s H E hr=>?_
 have hu:=bZ hr
 have nd:=JL.nd
 obtain⟨JM,Xk⟩:=t.Xi
 obtain⟨xq,JN⟩:=t.JC
 exact (au (bH (aW wN (hr.mono (by decide)) rfl t.Oj t.Ol t.Oi (aj (ak 0) (aj (Qd rfl Xk) (aj (Cj rfl JN) aB))))) aH)
theorem Gg:bf ["thing"] ["thing"] (aK wA):=lC
include t in
theorem Rv:bF P w K mg base gO 1 kZ lg ["thing"] (jA K 1 jh):=by
 unfold jh
 refine nZ (k:=0) (g:=wG) t.jh Gg rfl rfl fun cdv A outer s H E hr=>?_
 have hu:=bZ hr
 have nd:=Gg.nd
 exact (au (bH (iQ (Im (ak 0) rfl t.aX rfl t.Di) (oA (YG (Fz (ak 0) rfl t.aX rfl t.yQ))))) aH)
theorem Dp:bf ["thing"] ["thing"] (aK tO):=lC
include t in
theorem O5 (pK:bF P w K mg base gO 1 kZ lg ["thing"] (jA K 1 jh)):bF P w K mg base gO 2 lq lM ["thing"] (jA K 1 gW):=by
 unfold gW
 refine nZ (k:=1) (g:=uc) t.gW Dp rfl rfl fun cdv A outer s H E hr=>?_
 have hu:=bZ hr
 have nd:=Dp.nd
 obtain⟨yZ,K7⟩:=t.K4
 exact (au (bH (iQ (aW pK (hr.mono (by decide)) rfl t.Jw t.Jx t.Jv (aj (ak 0) aB)) (oA (Ci of_le of_le aA (ak 0) (Cj rfl K7))))) aH)
theorem xu:bf ["thing"] ["thing"] (aK oK):=lC
include t in
theorem GC (pK:bF P w K mg base gO 1 kZ lg ["thing"] (jA K 1 jh)):bF P w K mg base gO 2 gA gM ["thing"] (jA K 1 gw):=by
 unfold gw
 refine nZ (k:=1) (g:=oM) t.gw xu rfl rfl fun cdv A outer s H E hr=>?_
 have hu:=bZ hr
 have nd:=xu.nd
 obtain⟨Ao,O6⟩:=t.OD
 exact (au (bH (iQ (aW pK (hr.mono (by decide)) rfl t.Jw t.Jx t.Jv (aj (ak 0) aB)) (oA (Ci of_le of_le aA (ak 0) (Cj rfl O6))))) aH)
theorem qU:bf ["one", "other"] ["one", "other"] (aK je):=lC
include t in
theorem z7 (lN:bF P w K mg base gO 2 nM mZ ["thing"] (jA K 1 gG)):bF P w K mg base gO 3 dM dX ["one", "other"] (jA K 2 dJ):=by
 unfold dJ
 refine nZ (k:=2) (g:=ji) t.dJ qU rfl rfl fun cdv A outer s H E hr=>?_
 have hu:=bZ hr
 have nd:=qU.nd
 exact (au (bH (iQ (aW lN (hr.mono (by decide)) rfl t.u5 t.u6 t.u0 (aj (ak 0) aB)) (iQ (aW lN (hr.mono (by decide)) rfl t.u5 t.u6 t.u0 (aj (ak 1) aB)) (oA (ou (Cr hu) (ak 0) (ak 1) (bN _)))))) aH)
theorem JQ:bf ["thing"] ["thing"] (aK zN):=lC
include t in
theorem Ue (ni:bF P w K mg base gO 3 dM dX ["one", "other"] (jA K 2 dJ)) (sI:bF P w K mg base gO 2 gA gM ["thing"] (jA K 1 gw)) (lN:bF P w K mg base gO 2 nM mZ ["thing"] (jA K 1 gG)) (qG:bF P w K mg base gO 2 lq lM ["thing"] (jA K 1 gW)) (nQ:bF P w K mg base gO 2 kY lK ["thing", "word", "many"] (jA K 3 fQ)):bF P w K mg base gO 4 pG pH ["thing"] (jA K 1 pB):=by
 unfold pB
 refine nZ (k:=3) (g:=zT) t.pB JQ rfl rfl fun cdv A outer s H E hr=>?_
 have hu:=bZ hr
 have nd:=JQ.nd
 exact (au (eN (lY (aW nQ (hr.mono (by decide)) rfl t.uh t.um t.ug (aj (ak 0) (aj aO (aj aA aB))))) (au (bH (iQ (aW lN (hr.mono (by decide)) rfl t.u5 t.u6 t.u0 (aj (bB (ak 0) aA) aB)) (oA (aW qG (hr.mono (by decide)) rfl t.yS t.yU t.yR (aj (bB (ak 0) aA) aB))))) aH) aH) (au (eN (lY (aW nQ (hr.mono (by decide)) rfl t.uh t.um t.ug (aj (ak 0) (aj aO (aj aA aB))))) (au (bH (iQ (aW lN (hr.mono (by decide)) rfl t.u5 t.u6 t.u0 (aj (bB (ak 0) aA) aB)) (iQ (aW sI (hr.mono (by decide)) rfl t.Jz t.JB t.Jy (aj (bB (ak 0) aA) aB)) (oA (aW qG (hr.mono (by decide)) rfl t.yS t.yU t.yR (aj (bB (ak 0) aA) aB)))))) aH) aH) (au (eN (lY (aW nQ (hr.mono (by decide)) rfl t.uh t.um t.ug (aj (ak 0) (aj aO (aj aA aB))))) (au (bH (iQ (aW ni (hr.mono (by decide)) rfl t.Bg t.Bh t.Bf (aj (bB (ak 0) aA) (aj (bB (ak 0) aA) aB))) (oA (aW qG (hr.mono (by decide)) rfl t.yS t.yU t.yR (aj (bB (ak 0) aA) aB))))) aH) aH) (au (bH (iQ (aW nQ (hr.mono (by decide)) rfl t.uh t.um t.ug (aj (ak 0) (aj aO (aj aA aB)))) (oA (aW lN (hr.mono (by decide)) rfl t.u5 t.u6 t.u0 (aj (bB (ak 0) aA) aB))))) aH))))
theorem JR:bf ["line", "rule"] ["line"] (aK zO):=lC
include t in
theorem Ug (Eu:bF P w K mg base gO 4 pG pH ["thing"] (jA K 1 pB)) (Ew:bF P w K mg base gO 2 pD pF ["word"] (jA K 1 pA)):bF P w K mg base gO 5 nO m7 ["line"] (jA K 1 gH):=by
 unfold gH
 refine nZ (k:=4) (g:=zU) t.gH JR rfl rfl fun cdv A outer s H E hr=>?_
 have hu:=bZ hr
 have nd:=JR.nd
 exact (au (bA 1 nd (gF uV rfl t.oO su (aj (pY ["word"] (Iv [] []) rfl (oG (uY (ak 0) aO)) (fun _ _ _ _=>(dO 0 (by show List.Nodup (_++_);decide +kernel))) (fun _ _ _ _=>gk) (fun _ _ _ _=>(gj (aW Ew (hr.mono (by decide)) rfl t.W9 t.Xa t.W8 (aj (ak 0) aB)))) (oF)) aB))) (au (bH (gj (Td (lY (aW Eu (hr.mono (by decide)) rfl t.Xc t.Xd t.Xb (aj (ak 1) aB))) (ak 1) qL))) aH))
theorem Aq:bf ["text", "rules", "at", "line", "rule"] ["text"] (aK lD):=lC
include t in
theorem K8 (pL:bF P w K mg base gO 1 kE kO ["text"] (jA K 1 gq)) (rU:bF P w K mg base gO 5 nO m7 ["line"] (jA K 1 gH)):bF P w K mg base gO 6 jo jJ ["text"] (jA K 1 fM):=by
 unfold fM
 refine nZ (k:=5) (g:=rH) t.fM Aq rfl rfl fun cdv A outer s H E hr=>?_
 have hu:=bZ hr
 have nd:=Aq.nd
 exact (au (bA 1 nd (eZ aB)) (au (ux PassesOwn.never rfl (QC rfl t.jd (aj (gj (aW pL (hr.mono (by decide)) rfl t.Jt t.Ju t.Js (aj (ak 0) aB))) aB)) (YQ rfl (Cm (dO 2 nd) (Cm (dO 3 nd) U6))) (dF [2,3,4] (au (bA 4 nd (aW rU (hr.mono (by decide)) rfl t.M4 t.M6 t.MP (aj (ak 3) aB))) (au (eN (cL of_is (ak 4) qL (bN _)) (au N7 aH) aH) (au (uw 1 (ak 4)) aH))))) (au (bH (gF uV rfl t.oO su (aj (ak 1) aB))) aH)))
include t in
theorem Rx (pL:bF P w K mg base gO 1 kE kO ["text"] (jA K 1 gq)) (rU:bF P w K mg base gO 5 nO m7 ["line"] (jA K 1 gH)) (wO:bF P w K mg base gO 6 jo jJ ["text"] (jA K 1 fM)):bF P w K mg base gO 7 m9 nP ["_law_thing"] (jA K 1 cT):=
 have gJ:=ae4 (P:=P) (w:=w) (base:=base) t.F_J t.jx t.ajl t.acf t.hbi
 ace t.cT t.Oq t.Om (P1.bF.or wO (agT t.fM pL (agS t.gq t.aX t.uf t.jx t.jkC gJ t.b_J t.jmC) t.Jt t.Ju t.Js rU t.M4 t.M6 t.MP t.jd t.jx t.jkC gJ t.b_J t.jmC)) t.Oo t.acf t.jex t.ajn t.jfn t.m1 t.m2 t.m3 t.m4 t.m5 t.m6 t.hany t.hself t.hve t.aX t.W7 t.yQ t.jmC
theorem u9:bf ["_law_xs", "_law_letters", "_law_names", "_law_k", "_law_name", "_law_j", "_law_some"] ["_law_xs"] (aK mK):=lC
include t in
theorem Ey:bF P w K mg base gO 1 fB fY ["_law_xs"] (jA K 1 fj):=by
 unfold fj
 refine nZ (k:=0) (g:=mO) t.fj u9 rfl rfl fun cdv A outer s H E hr=>?_
 have hu:=bZ hr
 have nd:=u9.nd
 exact (au (bA 1 nd aO) (au (bA 2 nd (eZ aB)) (au (ux PassesOwn.never rfl (uT rfl t.rM (aj aA aB)) (dO 3 nd) (dF [3,4,5] (au (bA 4 nd (bB (ak 1) (aQ cX (aQ bh (bB (ak 0) aA) (aQ uz aA (ak 3))) aA))) (au (ux PassesOwn.never rfl (uT rfl t.rM (aj (aQ cX (bB (ak 0) (aQ bh aA (ak 3))) aA) aB)) (dO 5 nd) (dF [5] (au (bA 4 nd (aQ bh (ak 4) (bB (ak 1) (aQ cX (aQ pZ (bB (ak 0) (aQ bh aA (ak 3))) (aQ bh aA (ak 5))) aA)))) aH))) (au (uw 2 (ak 4)) aH))))) (au (bA 6 nd (jO (aj aO (aj (bB (ak 2) aA) (aj (bB (ak 2) aA) (aj (gj (aQ bh aA (aQ cX (bB (ak 0) aA) aA))) aB)))))) (au (bH (jO (aj (jO (aj aO (aj (bB (ak 2) aA) (aj (gj (aQ bh aA (aQ cX (bB (ak 0) aA) aA))) aB)))) (aj (ak 6) (aj (jO (aj aO (aj (bB (ak 2) aA) (aj (gj (aQ bh aA (aQ cX (bB (ak 0) aA) aA))) (aj aA aB))))) (aj (jO (aj aO (aj (bB (ak 2) aA) aB))) aB)))))) aH)))))
theorem Ar:bf ["_law_text_here", "_law_place", "_law_x", "_law_signs", "_law_sign", "_law_at"] ["_law_text_here", "_law_place", "_law_x"] (aK rC):=lC
include t in
theorem K9:bF P w K mg base gO 1 jq jK ["_law_text_here", "_law_place", "_law_x"] (jA K 3 gY):=by
 unfold gY
 refine nZ (k:=0) (g:=rJ) t.gY Ar rfl rfl fun cdv A outer s H E hr=>?_
 have hu:=bZ hr
 have nd:=Ar.nd
 exact (au (bA 3 nd aO) (au (bA 3 nd (aQ bh (ak 3) aO)) (au (bA 4 nd (bB (ak 3) (aQ cX (aQ pZ (ak 2) aA) (bB (eZ (aj aA (aj aA aB))) (aQ cX (aQ pZ (ak 2) aA) aA))))) (au (bA 5 nd (aQ cX (ak 1) (aQ bh (dh mq rfl t.oN mj (aj (ak 0) aB)) aA))) (au (bH (bB (eZ (aj (gj (aQ bh (aQ bh (lU (ak 0) dD (cR (ak 5))) (ak 4)) (lU (ak 0) (cR (ak 5)) dD))) (aj (gj (aQ bh (aQ bh (lU (ak 0) dD (cR (ak 5))) (ak 4)) (lU (ak 0) (cR (aQ bh (ak 5) aA)) dD))) (aj (gj (aQ bh (lU (ak 0) dD (cR (ak 5))) (lU (ak 0) (cR (aQ bh (ak 5) aA)) dD))) aB)))) (aQ cX (ak 2) aA))) aH)))))
theorem Av:bf ["_law_rows", "_law_xs", "_law_some", "_law_at", "_law_words", "_law_k", "_law_way", "_law_odd", "_law_row"] ["_law_rows", "_law_xs"] (aK rD):=lC
include t in
theorem La (wQ:bF P w K mg base gO 1 jq jK ["_law_text_here", "_law_place", "_law_x"] (jA K 3 gY)):bF P w K mg base gO 2 jr jL ["_law_rows", "_law_xs"] (jA K 2 jj):=by
 unfold jj
 refine nZ (k:=1) (g:=rK) t.jj Av rfl rfl fun cdv A outer s H E hr=>?_
 have hu:=bZ hr
 have nd:=Av.nd
 exact (au (bA 2 nd (eZ (aj aO (aj aO (aj aO (aj aO (aj aO (aj aO (aj aO (aj aO (aj aO (aj aO (aj aO (aj aO (aj aO (aj aO (aj aO aB))))))))))))))))) (au (bA 2 nd (aQ bh (ak 2) (eZ (aj aO (aj aO (aj aO (aj aO (aj aO (aj aO (aj aO (aj aO (aj aO (aj aO (aj aO (aj aO (aj aO aB)))))))))))))))) (au (bA 2 nd (aQ bh (ak 2) (eZ (aj aO (aj aO (aj aO (aj aO (aj aO (aj aO (aj aO (aj aO (aj aO (aj aO (aj aO (aj aO aB))))))))))))))) (au (bA 3 nd (aQ cX (bB (ak 1) aA) (dh mq rfl t.oN mj (aj (ak 0) aB)))) (au (bA 4 nd (uY (bB (ak 0) (ak 3)) aO)) (au (bA 5 nd (aQ cX (bB (ak 1) aA) (dh mq rfl t.oN mj (aj (ak 4) aB)))) (au (bA 6 nd (aQ cX (bB (ak 1) aA) aA)) (au (bA 7 nd (bB (ak 2) (aQ cX (bB (ak 1) aA) aA))) (au (eN (cL vU (ak 6) aA (bN _)) (au (bA 8 nd (sY (aQ bh (aQ bh (lU (ak 4) dD (cR (ak 5))) (eZ (aj (ak 7) aB))) (lU (ak 4) (cR (aQ bh (ak 5) aA)) dD)))) aH) (au (eN (cL (of_eq hu) (ak 6) aA (bN _)) (au (bA 8 nd (sY (aQ bh (aQ bh (lU (ak 4) dD (cR (ak 5))) (eZ (aj (ak 7) aB))) (lU (ak 4) (cR (ak 5)) dD)))) aH) (au (eN (cL (of_eq hu) (ak 6) aA (bN _)) (au (bA 8 nd (sY (aQ bh (lU (ak 4) dD (cR (ak 5))) (lU (ak 4) (cR (aQ bh (ak 5) aA)) dD)))) aH) (au (eN (cL (of_eq hu) (ak 6) aA (bN _)) (au (bA 8 nd (bB (eZ (W4 (gj (aQ bh aO (bB (ak 0) (ak 3)))) (zK (T5 (gj (aQ bh (bB (ak 0) (ak 3)) aO))) (zK (ab7 (ab6 (bB (ak 0) (ak 3)))) (zK (T5 (gj (Y7 (bB (ak 0) (ak 3))))) (zK (T5 aO) (ab4 aB))))))) (aQ cX (bB (ak 1) aA) aA))) aH) (au (eN (cL Va (ak 6) aA (bN _)) (au (bA 8 nd (aW wQ (hr.mono (by decide)) rfl t.Ou t.Ov t.Ot (aj (bB (ak 0) (ak 3)) (aj (bB (ak 1) aA) (aj (bB (ak 1) aA) aB))))) aH) (au (eN (cL (of_eq hu) (ak 6) aA (bN _)) (au (bH (aQ bh (aQ bh (lU (ak 0) dD (cR (ak 3))) (eZ (aj (bB (ak 0) (ak 3)) aB))) (lU (ak 0) (cR (ak 3)) dD))) aH) (au (eN (Ef (Ho (cL (of_eq hu) (ak 6) aA (bN _)) (Ck (cL Va (dh mq rfl t.oN mj (aj (ak 0) aB)) aA (bN _))))) (au (bH (aQ bh (lU (ak 0) dD (cR (ak 3))) (lU (ak 0) (cR (aQ bh (ak 3) aA)) dD))) aH) (au (bA 8 nd (ak 7)) aH)) aH)) aH)) aH)) aH)) aH)) aH)) (au (bH (aQ bh (aQ bh (lU (ak 0) dD (cR (ak 3))) (eZ (aj (ak 8) aB))) (lU (ak 0) (cR (aQ bh (ak 3) aA)) dD))) aH))))))))))
theorem vA:bf ["_law_word"] ["_law_word"] (aK mL):=lC
include t in
theorem Ez:bF P w K mg base gO 1 fD fZ ["_law_word"] (jA K 1 fu):=by
 unfold fu
 refine nZ (k:=0) (g:=mQ) t.fu vA rfl rfl fun cdv A outer s H E hr=>?_
 have hu:=bZ hr
 have nd:=vA.nd
 exact (au (eN (Ef (qM (o7 (HY vU vU aA (dh mq rfl t.oN mj (aj (ak 0) aB)) aA)) (qW (o7 (lY (dh (Ip rfl) rfl t.Ga Il (aj (pY ["_law_sign"] (Iv [] []) rfl (oG (ak 0)) (fun _ _ _ _=>(dO 0 (by show List.Nodup (_++_);decide +kernel))) (fun _ _ _ _=>gk) (fun _ _ _ _=>(ou Vc (ak 0) aO (by with_unfolding_all rfl))) (oF)) aB))))))) (au (bH qL) aH) aH) (au (eN (Ef (Ho (cL (of_eq hu) (bB (ak 0) aA) aO (bN _)) (Ck (cL Va (dh mq rfl t.oN mj (aj (ak 0) aB)) aA (bN _))))) (au (bH qL) aH) aH) (au (bH (gj (gF Vx rfl t.Di Ik (aj (ak 0) aB)))) aH)))
theorem za:bf ["_law_thing"] ["_law_thing"] (aK qe):=lC
include t in
theorem JT:bF P w K mg base gO 1 iD iV ["_law_thing"] (jA K 1 fU):=by
 unfold fU
 refine nZ (k:=0) (g:=qp) t.fU za rfl rfl fun cdv A outer s H E hr=>?_
 have hu:=bZ hr
 have nd:=za.nd
 exact (au (eN (Ef (qM (o7 (lY (mR (ak 0) rfl t.aX rfl t.uf))) (qW (o7 (HY vU vU aA (dh mq rfl t.oN mj (aj (ak 0) aB)) aA))))) (au (bH Ia) aH) aH) (au (bH (dh (Ip rfl) rfl t.Ga Il (aj (pY ["_law_sign"] (Iv [] []) rfl (oG (ak 0)) (fun _ _ _ _=>(dO 0 (by show List.Nodup (_++_);decide +kernel))) (fun _ _ _ _=>gk) (fun _ _ _ _=>(ou Vc (ak 0) aO (by with_unfolding_all rfl))) (oF)) aB))) aH))
theorem zc:bf ["_law_thing", "_law_least", "_law_most"] ["_law_thing", "_law_least", "_law_most"] (aK qg):=lC
include t in
theorem JV:bF P w K mg base gO 1 iG iW ["_law_thing", "_law_least", "_law_most"] (jA K 3 eG):=by
 unfold eG
 refine nZ (k:=0) (g:=qt) t.eG zc rfl rfl fun cdv A outer s H E hr=>?_
 have hu:=bZ hr
 have nd:=zc.nd
 exact (au (bH (iQ (Im (ak 0) rfl t.aX rfl t.Di) (iQ (YG (Fz (ak 0) rfl t.aX rfl t.yQ)) (oA (Ci of_le of_le (ak 1) (ak 0) (ak 2)))))) aH)
theorem zf:bf ["_law_thing"] ["_law_thing"] (aK qj):=lC
include t in
theorem JW (mG:bF P w K mg base gO 1 iG iW ["_law_thing", "_law_least", "_law_most"] (jA K 3 eG)) (qx:bF P w K mg base gO 1 iD iV ["_law_thing"] (jA K 1 fU)):bF P w K mg base gO 2 iH iY ["_law_thing"] (jA K 1 iw):=by
 unfold iw
 refine nZ (k:=1) (g:=qu) t.iw zf rfl rfl fun cdv A outer s H E hr=>?_
 have hu:=bZ hr
 have nd:=zf.nd
 exact (au (eN (Ef (qM (o7 (lY (Cy (ak 0) rfl t.aX rfl t.oO))) (qM (cL vU (dh mq rfl t.oN mj (aj (ak 0) aB)) aA (bN _)) (qM (o7 (lY (mR (bB (ak 0) aA) rfl t.aX rfl t.uf))) (qW (o7 (lY (aW qx (hr.mono (by decide)) rfl t.Aj t.Ak t.Ai (aj (bB (ak 0) aA) aB))))))))) (au (bH Ia) aH) aH) (au (eN (cL (of_eq hu) (bB (ak 0) aA) aO (bN _)) (au (bH (ou (of_eq hu) (dh mq rfl t.oN mj (aj (ak 0) aB)) aA (bN _))) aH) aH) (au (eN (cL (of_eq hu) (bB (ak 0) aA) aO (bN _)) (au (bH (iQ (ou (of_eq hu) (dh mq rfl t.oN mj (aj (ak 0) aB)) aA (bN _)) (oA (aW mG (hr.mono (by decide)) rfl t.uJ t.uK t.uI (aj (bB (ak 0) aA) (aj aA (aj aA aB))))))) aH) aH) (au (eN (Ef (qM (cL (Cr hu) (dh mq rfl t.oN mj (aj (ak 0) aB)) aA (bN _)) (qW (o7 (lY (aW mG (hr.mono (by decide)) rfl t.uJ t.uK t.uI (aj (bB (ak 0) aA) (aj aA (aj aA aB))))))))) (au (bH Ia) aH) aH) (au (eN (cL (of_eq hu) (bB (ak 0) aA) aO (bN _)) (au (bH (aW mG (hr.mono (by decide)) rfl t.uJ t.uK t.uI (aj (bB (ak 0) aA) (aj aA (aj aA aB))))) aH) aH) (au (bH (iQ (ou (of_eq hu) (bB (ak 0) aA) aO (bN _)) (iQ (aW qx (hr.mono (by decide)) rfl t.Aj t.Ak t.Ai (aj (bB (ak 0) aA) aB)) (oA (ou (Cr hu) (bB (ak 0) aA) (bB (ak 0) aA) (bN _)))))) aH))))))
theorem zj:bf ["_law_row", "_law_words", "_law_rule", "_law_k"] ["_law_row"] (aK ql):=lC
include t in
theorem JX (uL:bF P w K mg base gO 2 iH iY ["_law_thing"] (jA K 1 iw)) (qO:bF P w K mg base gO 1 fD fZ ["_law_word"] (jA K 1 fu)):bF P w K mg base gO 3 iI iZ ["_law_row"] (jA K 1 iz):=by
 unfold iz
 refine nZ (k:=2) (g:=qw) t.iz zj rfl rfl fun cdv A outer s H E hr=>?_
 have hu:=bZ hr
 have nd:=zj.nd
 exact (au (bA 1 nd (uY (ak 0) aO)) (au (bA 2 nd (eZ aB)) (au (ux PassesOwn.never rfl (uT rfl t.rM (aj (dh mq rfl t.oN mj (aj (ak 1) aB)) aB)) (dO 3 nd) (dF [3] (au (eN (Ef (qM (cL vU (ak 3) aA (bN _)) (qW (Ef (Ho (cL (of_eq hu) (ak 3) aA (bN _)) (Ck (cL (of_eq hu) (bB (ak 1) aA) aO (bN _)))))))) (dF [] (au (uw 2 (bB (ak 1) (ak 3))) aH)) (dF [] (au (uw 2 (gj (aW qO (hr.mono (by decide)) rfl t.Gy t.Gz t.Gx (aj (bB (ak 1) (ak 3)) aB)))) aH))) aH))) (au (eN (lY (aW uL (hr.mono (by decide)) rfl t.KR t.KY t.KQ (aj (gF uV rfl t.oO su (aj (ak 2) aB)) aB))) (au (bH (gF uV rfl t.oO su (aj (ak 2) aB))) aH) aH) (au (bH qL) aH)))))
theorem JZ:bf ["_law_text_here", "_law_rules_here"] ["_law_text_here"] (aK zP):=lC
include t in
theorem Uh (uM:bF P w K mg base gO 3 iI iZ ["_law_row"] (jA K 1 iz)):bF P w K mg base gO 4 pI pJ ["_law_text_here"] (jA K 1 pC):=by
 unfold pC
 refine nZ (k:=3) (g:=zV) t.pC JZ rfl rfl fun cdv A outer s H E hr=>?_
 have hu:=bZ hr
 have nd:=JZ.nd
 exact (au (eN (cL (of_eq hu) (ak 0) aO (bN _)) (au (bH (jO aB)) aH) aH) (au (abl 1 ["_law_row"] (Iv [] []) rfl nd (oG (uY (ak 0) aO)) (fun _ _ _ _=>(dO 0 (by show List.Nodup (_++_);decide +kernel))) (fun _ _ _ _=>gk) (fun _ _ _ _=>(gj (aW uM (hr.mono (by decide)) rfl t.K1 t.K3 t.KZ (aj (ak 0) aB)))) (oF)) (au (eN (cL (aev hu) qL (ak 1) (by with_unfolding_all rfl)) (au (bH (W3 hu (ak 1))) aH) aH) (au (bH (gF uV rfl t.oO su (aj (ak 1) aB))) aH))))
theorem ZX:bf ["_law_script", "_law_rules_here", "_law_sorts", "_law_some", "_law_shown", "_law_cell_here", "_law_xs", "_law_drawn", "_law_rows", "_law_turn", "_law_text_here"] ["_law_script"] (aK Jk):=lC
include t in
theorem ae6 (qP:bF P w K mg base gO 1 fB fY ["_law_xs"] (jA K 1 fj)) (wR:bF P w K mg base gO 1 mW nG ["_law_script", "_law_k"] (jA K 2 jf)) (EY:bF P w K mg base gO 4 pI pJ ["_law_text_here"] (jA K 1 pC)) (qy:bF P w K mg base gO 1 iB iU ["_law_cell_here", "_law_many"] (jA K 2 fP)) (zm:bF P w K mg base gO 1 kh lF ["_law_xs"] (jA K 1 j7)) (wU:bF P w K mg base gO 2 jr jL ["_law_rows", "_law_xs"] (jA K 2 jj)) (pN:bF P w K mg base gO 1 mX nH ["_law_rules_here"] (jA K 1 iu)) (pO:bF P w K mg base gO 7 m9 nP ["_law_thing"] (jA K 1 cT)) (rN:bF P w K mg base gO 2 jk jG ["rules"] (jA K 1 gU)):bF P w K mg base gO 8 MN Jo ["_law_script"] (jA K 1 ud):=by
 unfold ud
 refine nZ (k:=7) (g:=VD) t.ud ZX rfl rfl fun cdv A outer s H E hr=>?_
 have hu:=bZ hr
 have nd:=ZX.nd
 exact (au (bA 1 nd (aW zm (hr.mono (by decide)) rfl t.Rh t.Ri t.Rf (aj (gj (aW qy (hr.mono (by decide)) rfl t.Ag t.Ah t.Af (aj (gj (aW wR (hr.mono (by decide)) rfl t.Jq t.Jr t.Jp (aj (ak 0) (aj aA aB)))) (aj aA aB)))) aB))) (au (bA 2 nd (jO (aj (jO (aj aO (aj aO (aj aA aB)))) (aj (jO (aj aO (aj aO (aj aA (aj aA aB))))) (aj (jO (aj aO (aj aO (aj aO (aj aA aB))))) (aj (jO (aj aO (aj aO aB))) aB)))))) (au (ux PassesOwn.never rfl (NT (eZ (aj (ak 1) (aj (jO aB) (aj (ak 2) (aj (gj (aQ bh (ak 1) (lU (ak 1) dD (cR aA)))) aB)))))) (dO 3 nd) (dF [3,4] (au (bA 4 nd (aW rN (hr.mono (by decide)) rfl t.Dg t.Dh t.Dd (aj (ak 3) aB))) (au (eN (Ef (qM (o7 (lY (mR (ak 4) rfl t.aX rfl t.uf))) (qM (cL (Cr hu) (ak 4) (aW pN (hr.mono (by decide)) rfl t.wI t.wJ t.wH (aj (ak 3) aB)) (bN _)) (qW (cL (Cr hu) (aW pO (hr.mono (by decide)) rfl t.wL t.wM t.wK (aj (ak 4) aB)) (ak 3) (bN _)))))) (au (bH Ia) aH) aH) aH)))) (au (ux PassesOwn.never rfl (NT (aQ bh (eZ (aj (gj (aW wR (hr.mono (by decide)) rfl t.Jq t.Jr t.Jp (aj (ak 0) (aj aA aB)))) aB)) (lU (ak 0) (cR aA) (cR aA)))) (dO 5 nd) (dF [5,6,7,8,9,10] (au (bA 6 nd (aW qy (hr.mono (by decide)) rfl t.Ag t.Ah t.Af (aj (ak 5) (aj aA aB)))) (au (bA 7 nd (aW qP (hr.mono (by decide)) rfl t.Gv t.Gw t.Gu (aj (ak 6) aB))) (au (eN (Ef (qM (cL (Cr hu) (aW rN (hr.mono (by decide)) rfl t.Dg t.Dh t.Dd (aj (ak 7) aB)) (aW pN (hr.mono (by decide)) rfl t.wI t.wJ t.wH (aj (ak 7) aB)) (bN _)) (qW (cL (Cr hu) (aW pO (hr.mono (by decide)) rfl t.wL t.wM t.wK (aj (gj (aW pN (hr.mono (by decide)) rfl t.wI t.wJ t.wH (aj (ak 7) aB))) aB)) (ak 7) (bN _))))) (au (bH Ia) aH) aH) (au (bA 8 nd (uY (aW pN (hr.mono (by decide)) rfl t.wI t.wJ t.wH (aj (bB (eZ (aj (ak 1) (aj (ak 7) aB))) (aQ cX (bB (ak 6) aA) aA)) aB)) aO)) (au (ux PassesOwn.never rfl (uT rfl t.rM (aj (aQ bh aA (aQ cX (bB (ak 6) aA) aA)) aB)) (dO 9 nd) (dF [9] (au (bA 8 nd (aW wU (hr.mono (by decide)) rfl t.Ox t.Oz t.Ow (aj (ak 8) (aj (gj (lU (ak 6) (cR (aQ bh aA (aQ uz aA (ak 9)))) dD)) aB)))) aH))) (au (bA 10 nd (aQ bh (sY (ak 8)) (aQ uz aO (gF Y5 rfl t.Di Ik (aj (ou (of_eq hu) (aQ cX (bB (ak 6) aA) aA) aA (bN _)) aB))))) (au (eN (cL (Cr hu) (aW pO (hr.mono (by decide)) rfl t.wL t.wM t.wK (aj (ak 10) aB)) (aW EY (hr.mono (by decide)) rfl t.Xf t.Xg t.Xe (aj (ak 10) aB)) (bN _)) (au (bH Ia) aH) aH) aH))))))))) (au (bH (dh (Ip rfl) rfl t.Ga Il (aj (pY ["_law_thing"] (Iv [] []) rfl (oG (eZ (aj qL (aj aA (aj Ia (aj (gj (eZ (aj aO aB))) (aj (jO (aj aO aB)) (aj aep (aj (jO aB) aB))))))))) (fun _ _ _ _=>(dO 0 (by show List.Nodup (_++_);decide +kernel))) (fun _ _ _ _=>gk) (fun _ _ _ _=>(ou (of_eq hu) (aW pO (hr.mono (by decide)) rfl t.wL t.wM t.wK (aj (ak 0) aB)) aA (bN _))) (oF)) aB))) aH)))))
end
theorem all_mk {l:PySem.W.OpenLaw} {w:World} {K:FG_} {h:Heap} {mg:Str->Option Value} {fa:Addr} {f0:Addr} {od0 an0:Option Addr} {sl0:Array (Option Value)} {oc0 kV0 dc0 pm0 cd0 ct0:Value} {f1:Addr} {od1 an1:Option Addr} {sl1:Array (Option Value)} {oc1 kV1 dc1 pm1 cd1 ct1:Value} {f2:Addr} {od2 an2:Option Addr} {sl2:Array (Option Value)} {oc2 kV2 dc2 pm2 cd2 ct2:Value} {f3:Addr} {od3 an3:Option Addr} {sl3:Array (Option Value)} {oc3 kV3 dc3 pm3 cd3 ct3:Value} {f4:Addr} {od4 an4:Option Addr} {sl4:Array (Option Value)} {oc4 kV4 dc4 pm4 cd4 ct4:Value} {f5:Addr} {od5 an5:Option Addr} {sl5:Array (Option Value)} {oc5 kV5 dc5 pm5 cd5 ct5:Value} {f6:Addr} {od6 an6:Option Addr} {sl6:Array (Option Value)} {oc6 kV6 dc6 pm6 cd6 ct6:Value} {f7:Addr} {od7 an7:Option Addr} {sl7:Array (Option Value)} {oc7 kV7 dc7 pm7 cd7 ct7:Value} {f8:Addr} {od8 an8:Option Addr} {sl8:Array (Option Value)} {oc8 kV8 dc8 pm8 cd8 ct8:Value} {f9:Addr} {od9 an9:Option Addr} {sl9:Array (Option Value)} {oc9 kV9 dc9 pm9 cd9 ct9:Value} {f10:Addr} {ajp ajq:Option Addr} {ajr:Array (Option Value)} {ajs ajt aju ajv ag2 ajw:Value} {f11:Addr} {ajx ajy:Option Addr} {ajz:Array (Option Value)} {ajA ajB ajC ajD ag3 ajE:Value} {f12:Addr} {ajG ajH:Option Addr} {ajI:Array (Option Value)} {ajJ ajK ajL ajM ag4 ajN:Value} {f13:Addr} {ajP ajQ:Option Addr} {ajR:Array (Option Value)} {ajS ajT ajU ajV ag5 ajW:Value} {f14:Addr} {ajY ajZ:Option Addr} {aj0:Array (Option Value)} {aj1 aj2 aj3 aj4 ag6 aj5:Value} {f15:Addr} {aj7 aj8:Option Addr} {aj9:Array (Option Value)} {akb akc akd ake ag7 akf:Value} {f16:Addr} {akh aki:Option Addr} {akj:Array (Option Value)} {akk akl akm akn ag8 ako:Value} {f17:Addr} {akq akr:Option Addr} {aks:Array (Option Value)} {akt aku akv akx ag9 aky:Value} {f18:Addr} {akA akB:Option Addr} {akC:Array (Option Value)} {akD akE akF akG aha akH:Value} {f19:Addr} {akJ akK:Option Addr} {akL:Array (Option Value)} {akM akN akO akP ahb akQ:Value} {f20:Addr} {akS akT:Option Addr} {akU:Array (Option Value)} {akV akW akX akY ahc akZ:Value} {f21:Addr} {ak1 ak2:Option Addr} {ak3:Array (Option Value)} {ak4 ak5 ak6 ak7 ahd ak8:Value} {f22:Addr} {ala alb:Option Addr} {alc:Array (Option Value)} {ald ale alf alg ahe alh:Value} {f23:Addr} {alj alk:Option Addr} {alm:Array (Option Value)} {aln alo alp alq ahf alr:Value} {f24:Addr} {alu alv:Option Addr} {alw:Array (Option Value)} {alx aly alz alA ahg alB:Value} {f25:Addr} {alD alE:Option Addr} {alF:Array (Option Value)} {alG alH alI alJ ahh alK:Value} {f26:Addr} {alM alN:Option Addr} {alO:Array (Option Value)} {alP alQ alR alS ahi alT:Value} {f27:Addr} {alV alW:Option Addr} {alX:Array (Option Value)} {alY alZ al0 al1 ahj al2:Value} {f28:Addr} {al4 al5:Option Addr} {al6:Array (Option Value)} {al7 al8 al9 ama ahk amb:Value} {f29:Addr} {amd ame:Option Addr} {amf:Array (Option Value)} {amg amh ami amj ahl amk:Value} {f30:Addr} {amm ahm:Option Addr} {amn:Array (Option Value)} {amo ahn aho ahp ae7 ahq:Value} {f31:Addr} {amq amr:Option Addr} {ams:Array (Option Value)} {amt amu amv amw ahs amx:Value} {D FE q1 q2 q3 q4 q5 q6:Addr} (X:K.In h) (G:h.Ns mainGlobals mg) (hfa:mg "law" = some (.ref fa))
  (a0:Nn K "_law_cell" f0) (l0:Lk K f0 "_law_cell" wj oc0 od0 sl0 kV0 dc0 pm0 an0 cd0 ct0) (c0:PySem.W.codeIn K cd0 "_law_cell" = true) (k0:PySem.W.keepIn K (.ref f0)=true)
  (a1:Nn K "_law_numbers" f1) (l1:Lk K f1 "_law_numbers" qd oc1 od1 sl1 kV1 dc1 pm1 an1 cd1 ct1) (c1:PySem.W.codeIn K cd1 "_law_numbers" = true) (k1:PySem.W.keepIn K (.ref f1)=true)
  (a2:Nn K "_law_rules" f2) (l2:Lk K f2 "_law_rules" tH oc2 od2 sl2 kV2 dc2 pm2 an2 cd2 ct2) (c2:PySem.W.codeIn K cd2 "_law_rules" = true) (k2:PySem.W.keepIn K (.ref f2)=true)
  (a3:Nn K "show_rule" f3) (l3:Lk K f3 "show_rule" tK oc3 od3 sl3 kV3 dc3 pm3 an3 cd3 ct3) (c3:PySem.W.codeIn K cd3 "show_rule" = true) (k3:PySem.W.keepIn K (.ref f3)=true)
  (a4:Nn K "show_rules" f4) (l4:Lk K f4 "show_rules" rA oc4 od4 sl4 kV4 dc4 pm4 an4 cd4 ct4) (c4:PySem.W.codeIn K cd4 "show_rules" = true) (k4:PySem.W.keepIn K (.ref f4)=true)
  (a5:Nn K "_law_text" f5) (l5:Lk K f5 "_law_text" wk oc5 od5 sl5 kV5 dc5 pm5 an5 cd5 ct5) (c5:PySem.W.codeIn K cd5 "_law_text" = true) (k5:PySem.W.keepIn K (.ref f5)=true)
  (a6:Nn K "lines_in" f6) (l6:Lk K f6 "lines_in" o9 oc6 od6 sl6 kV6 dc6 pm6 an6 cd6 ct6) (c6:PySem.W.codeIn K cd6 "lines_in" = true) (k6:PySem.W.keepIn K (.ref f6)=true)
  (a7:Nn K "number_in" f7) (l7:Lk K f7 "number_in" tL oc7 od7 sl7 kV7 dc7 pm7 an7 cd7 ct7) (c7:PySem.W.codeIn K cd7 "number_in" = true) (k7:PySem.W.keepIn K (.ref f7)=true)
  (a8:Nn K "part_in" f8) (l8:Lk K f8 "part_in" zL oc8 od8 sl8 kV8 dc8 pm8 an8 cd8 ct8) (c8:PySem.W.codeIn K cd8 "part_in" = true) (k8:PySem.W.keepIn K (.ref f8)=true)
  (a9:Nn K "is_tuple" f9) (l9:Lk K f9 "is_tuple" wz oc9 od9 sl9 kV9 dc9 pm9 an9 cd9 ct9) (c9:PySem.W.codeIn K cd9 "is_tuple" = true) (k9:PySem.W.keepIn K (.ref f9)=true)
  (a10:Nn K "is_worded" f10) (l10:Lk K f10 "is_worded" tM ajs ajp ajr ajt aju ajv ajq ag2 ajw) (c10:PySem.W.codeIn K ag2 "is_worded" = true) (k10:PySem.W.keepIn K (.ref f10)=true)
  (a11:Nn K "is_text_of" f11) (l11:Lk K f11 "is_text_of" rB ajA ajx ajz ajB ajC ajD ajy ag3 ajE) (c11:PySem.W.codeIn K ag3 "is_text_of" = true) (k11:PySem.W.keepIn K (.ref f11)=true)
  (a12:Nn K "is_name" f12) (l12:Lk K f12 "is_name" zM ajJ ajG ajI ajK ajL ajM ajH ag4 ajN) (c12:PySem.W.codeIn K ag4 "is_name" = true) (k12:PySem.W.keepIn K (.ref f12)=true)
  (a13:Nn K "is_whole" f13) (l13:Lk K f13 "is_whole" wA ajS ajP ajR ajT ajU ajV ajQ ag5 ajW) (c13:PySem.W.codeIn K ag5 "is_whole" = true) (k13:PySem.W.keepIn K (.ref f13)=true)
  (a14:Nn K "is_weight" f14) (l14:Lk K f14 "is_weight" tO aj1 ajY aj0 aj2 aj3 aj4 ajZ ag6 aj5) (c14:PySem.W.codeIn K ag6 "is_weight" = true) (k14:PySem.W.keepIn K (.ref f14)=true)
  (a15:Nn K "is_beginning" f15) (l15:Lk K f15 "is_beginning" oK akb aj7 aj9 akc akd ake aj8 ag7 akf) (c15:PySem.W.codeIn K ag7 "is_beginning" = true) (k15:PySem.W.keepIn K (.ref f15)=true)
  (a16:Nn K "are_unlike_names" f16) (l16:Lk K f16 "are_unlike_names" je akk akh akj akl akm akn aki ag8 ako) (c16:PySem.W.codeIn K ag8 "are_unlike_names" = true) (k16:PySem.W.keepIn K (.ref f16)=true)
  (a17:Nn K "is_rule" f17) (l17:Lk K f17 "is_rule" zN akt akq aks aku akv akx akr ag9 aky) (c17:PySem.W.codeIn K ag9 "is_rule" = true) (k17:PySem.W.keepIn K (.ref f17)=true)
  (a18:Nn K "rule_in" f18) (l18:Lk K f18 "rule_in" zO akD akA akC akE akF akG akB aha akH) (c18:PySem.W.codeIn K aha "rule_in" = true) (k18:PySem.W.keepIn K (.ref f18)=true)
  (a19:Nn K "read_rules" f19) (l19:Lk K f19 "read_rules" lD akM akJ akL akN akO akP akK ahb akQ) (c19:PySem.W.codeIn K ahb "read_rules" = true) (k19:PySem.W.keepIn K (.ref f19)=true)
  (a20:Nn K "_law_told" f20) (l20:Lk K f20 "_law_told" sE akV akS akU akW akX akY akT ahc akZ) (c20:PySem.W.codeIn K ahc "_law_told" = true) (k20:PySem.W.keepIn K (.ref f20)=true)
  (a21:Nn K "_law_any_rules" f21) (l21:Lk K f21 "_law_any_rules" mK ak4 ak1 ak3 ak5 ak6 ak7 ak2 ahd ak8) (c21:PySem.W.codeIn K ahd "_law_any_rules" = true) (k21:PySem.W.keepIn K (.ref f21)=true)
  (a22:Nn K "_law_signed" f22) (l22:Lk K f22 "_law_signed" rC ald ala alc ale alf alg alb ahe alh) (c22:PySem.W.codeIn K ahe "_law_signed" = true) (k22:PySem.W.keepIn K (.ref f22)=true)
  (a23:Nn K "_law_spoilt" f23) (l23:Lk K f23 "_law_spoilt" rD aln alj alm alo alp alq alk ahf alr) (c23:PySem.W.codeIn K ahf "_law_spoilt" = true) (k23:PySem.W.keepIn K (.ref f23)=true)
  (a24:Nn K "_law_number_in" f24) (l24:Lk K f24 "_law_number_in" mL alx alu alw aly alz alA alv ahg alB) (c24:PySem.W.codeIn K ahg "_law_number_in" = true) (k24:PySem.W.keepIn K (.ref f24)=true)
  (a25:Nn K "_law_is_name" f25) (l25:Lk K f25 "_law_is_name" qe alG alD alF alH alI alJ alE ahh alK) (c25:PySem.W.codeIn K ahh "_law_is_name" = true) (k25:PySem.W.keepIn K (.ref f25)=true)
  (a26:Nn K "_law_between" f26) (l26:Lk K f26 "_law_between" qg alP alM alO alQ alR alS alN ahi alT) (c26:PySem.W.codeIn K ahi "_law_between" = true) (k26:PySem.W.keepIn K (.ref f26)=true)
  (a27:Nn K "_law_is_rule" f27) (l27:Lk K f27 "_law_is_rule" qj alY alV alX alZ al0 al1 alW ahj al2) (c27:PySem.W.codeIn K ahj "_law_is_rule" = true) (k27:PySem.W.keepIn K (.ref f27)=true)
  (a28:Nn K "_law_rule_in" f28) (l28:Lk K f28 "_law_rule_in" ql al7 al4 al6 al8 al9 ama al5 ahk amb) (c28:PySem.W.codeIn K ahk "_law_rule_in" = true) (k28:PySem.W.keepIn K (.ref f28)=true)
  (a29:Nn K "_law_due" f29) (l29:Lk K f29 "_law_due" zP amg amd amf amh ami amj ame ahl amk) (c29:PySem.W.codeIn K ahl "_law_due" = true) (k29:PySem.W.keepIn K (.ref f29)=true)
  (a30:Nn K "law" f30) (l30:Lk K f30 "law" Jk amo amm amn ahn aho ahp ahm ae7 ahq) (c30:PySem.W.codeIn K ae7 "law" = true) (k30:PySem.W.keepIn K (.ref f30)=true)
  (aD:Nn K "NoText" D) (aFE:Nn K "FolkError" FE) (r1:Nn K "NoName" q1) (r2:Nn K "NoReason" q2) (r3:Nn K "NoRoom" q3) (r4:Nn K "NoRow" q4) (r5:Nn K "NoStep" q5) (r6:Nn K "NoUndo" q6)
  (aJ:PySem.W.findIn K (.ref D) "__init__" = some (some (.ref f31))) (lJ:K.lookup f31=some ⟨amt,amq,.func (PySem.W.fnOf "__init__" "NoText.__init__" (vQ FZ) (jR FZ) (aK FZ) .none amu amv amw amr ahs amx),ams⟩) (cJ:PySem.W.codeIn K ahs "NoText.__init__" = true) (kJ:PySem.W.keepIn K (.ref f31)=true)
  (e3:PySem.W.specialIn K (.ref FE) "__getattribute__" = some (some (.builtin "type.__getattribute__"))) (e4:PySem.W.readsIn K FE (.type "type")=true) (e5:PySem.W.findCls K (.ref FE) (.type "type") "__init__" = some (.val (.builtin "ValueError.__init__")))
  (d1:WY K D f31 veM "ValueError.__new__" = true) (d2:setIn K D "row" = true) (d6:PySem.W.keepIn K (.ref D)=true) (d7:PySem.W.exmOne K (.ref D) (.ref FE)=some true) (d8:yM K D=true) (d9:PySem.W.findIn K (.ref D) "row" = some none) (e10:PySem.W.kitAny K (.ref D) [.ref q1,.ref q2,.ref q3,.ref q4,.ref q5,.ref q6]=some false) (e11:PySem.W.kitOne K (.ref D) (.ref D)=some true) (e12:PySem.W.kitOne K (.ref D) (.type "ValueError")=some true) (W7:Zn K "ValueError")
  (VH:Zn K "abs")
  (Ga:Zn K "all")
  (yQ:Zn K "bool")
  (jd:Zn K "enumerate")
  (Di:Zn K "int")
  (aX:Zn K "isinstance")
  (oN:Zn K "len")
  (rM:Zn K "range")
  (uf:Zn K "str")
  (oO:Zn K "tuple")
  {JG:Tok} (J1:PySem.W.nsIn K mainGlobals "FIGURES" = some (some (.str "0123456789" JG)))
  {JM:Tok} (J2:PySem.W.nsIn K mainGlobals "LETTERS" = some (some (.str "abcdefghijklmnopqrstuvwxyz" JM)))
  {xq:Tok} (xG:PySem.W.nsIn K mainGlobals "LONGEST_NAME" = some (some (.int 8 xq)))
  {xg:Tok} (xH:PySem.W.nsIn K mainGlobals "MOST_FIGURES" = some (some (.int 6 xg)))
  {Ao:Tok} (Aw:PySem.W.nsIn K mainGlobals "MOST_SIGNS" = some (some (.int 12 Ao)))
  {yZ:Tok} (zp:PySem.W.nsIn K mainGlobals "MOST_WEIGHT" = some (some (.int 1000 yZ))) :
  ∃ fd:FuncData,(∀ (s:Shared) (v:Value),BindsTo s fd ⟨[v],[]⟩ [("_law_script", v)])/\∀ base:Heap,K.In base->base.Ns mainGlobals mg->bF l.prog w K mg base gO 8 fa fd ["_law_script"] (jA K 1 ud):=by
 have e:=hfa.symm.trans (zk X G a30)
 cases e
 have F0:=dB (st:=wj) l0 c0 k0
 have b0:=F0.binds (ps:=["_law_script", "_law_k"]) fun _ _ _ _ _ _=>len2 fun _ _=>rfl
 have F1:=dB (st:=qd) l1 c1 k1
 have b1:=F1.binds (ps:=["_law_cell_here", "_law_many"]) fun _ _ _ _ _ _=>len2 fun _ _=>rfl
 have F2:=dB (st:=tH) l2 c2 k2
 have b2:=F2.binds (ps:=["_law_xs"]) fun _ _ _ _ _ _=>len1 fun _=>rfl
 have F3:=dB (st:=tK) l3 c3 k3
 have b3:=F3.binds (ps:=["rule"]) fun _ _ _ _ _ _=>len1 fun _=>rfl
 have F4:=dB (st:=rA) l4 c4 k4
 have b4:=F4.binds (ps:=["rules"]) fun _ _ _ _ _ _=>len1 fun _=>rfl
 have F5:=dB (st:=wk) l5 c5 k5
 have b5:=F5.binds (ps:=["_law_rules_here"]) fun _ _ _ _ _ _=>len1 fun _=>rfl
 have F6:=dB (st:=o9) l6 c6 k6
 have b6:=F6.binds (ps:=["text"]) fun _ _ _ _ _ _=>len1 fun _=>rfl
 have F7:=dB (st:=tL) l7 c7 k7
 have b7:=F7.binds (ps:=["text"]) fun _ _ _ _ _ _=>len1 fun _=>rfl
 have F8:=dB (st:=zL) l8 c8 k8
 have b8:=F8.binds (ps:=["word"]) fun _ _ _ _ _ _=>len1 fun _=>rfl
 have F9:=dB (st:=wz) l9 c9 k9
 have b9:=F9.binds (ps:=["thing", "many"]) fun _ _ _ _ _ _=>len2 fun _ _=>rfl
 have F10:=dB (st:=tM) l10 c10 k10
 have b10:=F10.binds (ps:=["thing", "word", "many"]) fun _ _ _ _ _ _=>abP fun _ _ _=>rfl
 have F11:=dB (st:=rB) l11 c11 k11
 have b11:=F11.binds (ps:=["thing", "signs", "longest"]) fun _ _ _ _ _ _=>abP fun _ _ _=>rfl
 have F12:=dB (st:=zM) l12 c12 k12
 have b12:=F12.binds (ps:=["thing"]) fun _ _ _ _ _ _=>len1 fun _=>rfl
 have F13:=dB (st:=wA) l13 c13 k13
 have b13:=F13.binds (ps:=["thing"]) fun _ _ _ _ _ _=>len1 fun _=>rfl
 have F14:=dB (st:=tO) l14 c14 k14
 have b14:=F14.binds (ps:=["thing"]) fun _ _ _ _ _ _=>len1 fun _=>rfl
 have F15:=dB (st:=oK) l15 c15 k15
 have b15:=F15.binds (ps:=["thing"]) fun _ _ _ _ _ _=>len1 fun _=>rfl
 have F16:=dB (st:=je) l16 c16 k16
 have b16:=F16.binds (ps:=["one", "other"]) fun _ _ _ _ _ _=>len2 fun _ _=>rfl
 have F17:=dB (st:=zN) l17 c17 k17
 have b17:=F17.binds (ps:=["thing"]) fun _ _ _ _ _ _=>len1 fun _=>rfl
 have F18:=dB (st:=zO) l18 c18 k18
 have b18:=F18.binds (ps:=["line"]) fun _ _ _ _ _ _=>len1 fun _=>rfl
 have F19:=dB (st:=lD) l19 c19 k19
 have b19:=F19.binds (ps:=["text"]) fun _ _ _ _ _ _=>len1 fun _=>rfl
 have F20:=dB (st:=sE) l20 c20 k20
 have b20:=F20.binds (ps:=["_law_thing"]) fun _ _ _ _ _ _=>len1 fun _=>rfl
 have F21:=dB (st:=mK) l21 c21 k21
 have b21:=F21.binds (ps:=["_law_xs"]) fun _ _ _ _ _ _=>len1 fun _=>rfl
 have F22:=dB (st:=rC) l22 c22 k22
 have b22:=F22.binds (ps:=["_law_text_here", "_law_place", "_law_x"]) fun _ _ _ _ _ _=>abP fun _ _ _=>rfl
 have F23:=dB (st:=rD) l23 c23 k23
 have b23:=F23.binds (ps:=["_law_rows", "_law_xs"]) fun _ _ _ _ _ _=>len2 fun _ _=>rfl
 have F24:=dB (st:=mL) l24 c24 k24
 have b24:=F24.binds (ps:=["_law_word"]) fun _ _ _ _ _ _=>len1 fun _=>rfl
 have F25:=dB (st:=qe) l25 c25 k25
 have b25:=F25.binds (ps:=["_law_thing"]) fun _ _ _ _ _ _=>len1 fun _=>rfl
 have F26:=dB (st:=qg) l26 c26 k26
 have b26:=F26.binds (ps:=["_law_thing", "_law_least", "_law_most"]) fun _ _ _ _ _ _=>abP fun _ _ _=>rfl
 have F27:=dB (st:=qj) l27 c27 k27
 have b27:=F27.binds (ps:=["_law_thing"]) fun _ _ _ _ _ _=>len1 fun _=>rfl
 have F28:=dB (st:=ql) l28 c28 k28
 have b28:=F28.binds (ps:=["_law_row"]) fun _ _ _ _ _ _=>len1 fun _=>rfl
 have F29:=dB (st:=zP) l29 c29 k29
 have b29:=F29.binds (ps:=["_law_text_here"]) fun _ _ _ _ _ _=>len1 fun _=>rfl
 have F30:=dB (st:=Jk) l30 c30 k30
 have b30:=F30.binds (ps:=["_law_script"]) fun _ _ _ _ _ _=>len1 fun _=>rfl
 have FJ:qK K "__init__" "NoText.__init__" FZ f31 _:=dB (st:=FZ) lJ cJ kJ
 have bJ:=FJ.binds (ps:=["self", "row"]) fun _ _ _ _ _ _=>len2 fun _ _=>rfl
 have t:T K mg _ _ _ _ _ _ _ _ _ _ _ _ _ _ _ _ _ _ _ _ _ _ _ _ _ _ _ _ _ _ _ _ _ _ _ _ _ _ _ _ _ _ _ _ _ _ _ _ _ _ _ _ _ _ _ _ _ _ _ _ _ _ _ _ _ _ _ _ _ _ _ _:=⟨FJ,bJ,⟨e3,e4,e5⟩,zk X G aFE,d1,d2,zk X G aD,d6,d7,d8,d9,zk X G r1,zk X G r2,zk X G r3,zk X G r4,zk X G r5,zk X G r6,e10,e11,e12,qa X G W7,F0,b0,zk X G a0,k0,F1,b1,zk X G a1,k1,F2,b2,zk X G a2,k2,F3,b3,zk X G a3,k3,F4,b4,zk X G a4,k4,F5,b5,zk X G a5,k5,F6,b6,zk X G a6,k6,F7,b7,zk X G a7,k7,F8,b8,zk X G a8,k8,F9,b9,zk X G a9,k9,F10,b10,zk X G a10,k10,F11,b11,zk X G a11,k11,F12,b12,zk X G a12,k12,F13,b13,zk X G a13,k13,F14,b14,zk X G a14,k14,F15,b15,zk X G a15,k15,F16,b16,zk X G a16,k16,F17,b17,zk X G a17,k17,F18,b18,zk X G a18,k18,F19,b19,zk X G a19,k19,F20,b20,zk X G a20,k20,F21,b21,zk X G a21,k21,F22,b22,zk X G a22,k22,F23,b23,zk X G a23,k23,F24,b24,zk X G a24,k24,F25,b25,zk X G a25,k25,F26,b26,zk X G a26,k26,F27,b27,zk X G a27,k27,F28,b28,zk X G a28,k28,F29,b29,zk X G a29,k29,F30,b30,zk X G a30,k30,qa X G VH,qa X G Ga,qa X G yQ,qa X G jd,qa X G Di,qa X G aX,qa X G oN,qa X G rM,qa X G uf,qa X G oO,⟨_,zk X G J1⟩,⟨_,zk X G J2⟩,⟨_,zk X G xG⟩,⟨_,zk X G xH⟩,⟨_,zk X G Aw⟩,⟨_,zk X G zp⟩⟩
 refine⟨PySem.W.fnOf "law" "law" (vQ Jk) (jR Jk) (aK Jk) .none ahn aho ahp ahm ae7 ahq,fun s v=>.of_eq rfl,fun base _ _=>?_⟩
 have wR:=Rq (P:=l.prog) (w:=w) (base:=base) t
 have qy:=JF (P:=l.prog) (w:=w) (base:=base) t
 have zm:=OJ (P:=l.prog) (w:=w) (base:=base) t
 have yW:=O1 (P:=l.prog) (w:=w) (base:=base) t
 have rN:=K5 (P:=l.prog) (w:=w) (base:=base) t yW
 have pN:=Rr (P:=l.prog) (w:=w) (base:=base) t
 have pL:=Rt (P:=l.prog) (w:=w) (base:=base) t
 have yX:=O2 (P:=l.prog) (w:=w) (base:=base) t
 have Ew:=Uc (P:=l.prog) (w:=w) (base:=base) t yX
 have Bj:=Ru (P:=l.prog) (w:=w) (base:=base) t
 have nQ:=O4 (P:=l.prog) (w:=w) (base:=base) t Bj
 have wN:=K6 (P:=l.prog) (w:=w) (base:=base) t
 have lN:=Ud (P:=l.prog) (w:=w) (base:=base) t wN
 have pK:=Rv (P:=l.prog) (w:=w) (base:=base) t
 have qG:=O5 (P:=l.prog) (w:=w) (base:=base) t pK
 have sI:=GC (P:=l.prog) (w:=w) (base:=base) t pK
 have ni:=z7 (P:=l.prog) (w:=w) (base:=base) t lN
 have Eu:=Ue (P:=l.prog) (w:=w) (base:=base) t ni sI lN qG nQ
 have rU:=Ug (P:=l.prog) (w:=w) (base:=base) t Eu Ew
 have wO:=K8 (P:=l.prog) (w:=w) (base:=base) t pL rU
 have pO:=Rx (P:=l.prog) (w:=w) (base:=base) t pL rU wO
 have qP:=Ey (P:=l.prog) (w:=w) (base:=base) t
 have wQ:=K9 (P:=l.prog) (w:=w) (base:=base) t
 have wU:=La (P:=l.prog) (w:=w) (base:=base) t wQ
 have qO:=Ez (P:=l.prog) (w:=w) (base:=base) t
 have qx:=JT (P:=l.prog) (w:=w) (base:=base) t
 have mG:=JV (P:=l.prog) (w:=w) (base:=base) t
 have uL:=JW (P:=l.prog) (w:=w) (base:=base) t mG qx
 have uM:=JX (P:=l.prog) (w:=w) (base:=base) t uL qO
 have EY:=Uh (P:=l.prog) (w:=w) (base:=base) t uM
 have aht:=ae6 (P:=l.prog) (w:=w) (base:=base) t qP wR EY qy zm wU pN pO rN
 exact aht
theorem walk {l:PySem.W.OpenLaw} {q:Program} {loose:LS_} {XP:(Str->Option Value)->Heap->Prop} {YP:World->Heap->Prop} {d:DefRec} {K:Params->FG_} (hn:l.most=some 63) (hdf:d.params.defaults=[])
  (h1:∀ ns:List Int,ns.length<=63->ud [.z (.lst (ns.map .int))]=some (.z (.bl true))) (h2:∀ ns:List Int,ns.length<=63->ud [.l (ns.map .int)]=some (.z (.bl true)))
  (hY:∀ (w:World) (h:Heap),YP w h->(K w.params).In h)
  (F:∀ (w:World) (mg:Str->Option Value) (fa:Addr) (h:Heap),(K w.params).In h->h.Ns mainGlobals mg->mg d.name=some (.ref fa) →
   ∃ fd:FuncData,(∀ (s:Shared) (u:Value),BindsTo s fd ⟨[u],[]⟩ [("_law_script", u)])/\∀ base:Heap,(K w.params).In base->base.Ns mainGlobals mg->bF l.prog w (K w.params) mg base gO 8 fa fd ["_law_script"] (jA (K w.params) 1 ud)) :
  PySem.W.WalkO q loose XP YP l.row.toRowW d [] (fun f vs=>PySem.call f vs):=
 L2.Yy (n:=63) (k:=8) (x := "_law_script") (CX:=gO) (sp:=fun K=>jA K 1 ud) hn (by decide) hdf ⟨rfl,by decide,by decide⟩ hY F (fun K H a ns hl hO hS=>aeo h1 h2 K H a ns hl hO hS) fun _ _ _ _ z=>z
end G08
end
section
set_option synthInstance.maxSize 100000
namespace G08
open PySem PySem.Spec PyProof.Rows L2 P1
noncomputable section
def Ax  (v3:Int) (v4:Int):Int:=(let v3:=(((v3 * (69621:Int))+v4) % (2147483647:Int));v3)
theorem Lb (v0:LI_) {fL:Bx} (gD:Lp fL (v0.map eI)) (v2:Int) (v3:Int) (v4:Int):RP Ad [some fL,some ((zE eI) v2),some ((zE eI) v3),some ((zE eI) v4)] (fun s=>Out.nx ((fun v3:Int=>[some fL,some ((zE eI) v2),some ((zE eI) v3),none]) s)) (Ax  v3 v4) (none):=R.tp (bw (cF 2 (dR (eU (Vg (aq 2 (zE eI) v3 rfl) 69621 (by decide)) (aq 3 (zE eI) v4 rfl)) 2147483647 (by decide)) (fun _=>rfl) fun v3=>(bM (eY v3 rfl))))
def eE (v0:LI_) (v2:Int):Int:=(if (decide (v2 < (v0.length:Int)))=true then (at' v0 v2) else (let v3:=(((48271:Int) * (((v2 * v2)+((7:Int) * v2))+(11:Int))) % (2147483647:Int));(let v3:Int:=((cut v0 none (some (3:Int))).foldl (fun (v3:Int) (v4:Int)=>(Ax  v3 v4)) v3);v3)))
def pP (v0:LI_) (v2:Int):Prop:=(((decide (v2 < (v0.length:Int)))=true->In v0.length v2)/\((decide (v2 < (v0.length:Int)))=false->Mul v2 v2))
theorem Ui (v0:LI_) {fL:Bx} (gD:Lp fL (v0.map eI)) (v2:Int):RP wB [some fL,some ((zE eI) v2),none,none] (fun r=>Out.rt ((zE eI) r)) (eE v0 v2) (some (pP v0 v2)):=R.tp (gR (eV (CG (aq 1 (zE eI) v2 rfl) (x_len (cW 0 eI v0 gD rfl)))) (bw (bW (fun r=>r) (ig (cW 0 eI v0 gD rfl) (aq 1 (zE eI) v2 rfl)) (fun _=>rfl) fun _=>rfl)) (bM (cF 2 (dR (Iz 48271 (by decide) (eU (eU (acP (aq 1 (zE eI) v2 rfl) (aq 1 (zE eI) v2 rfl)) (Iz 7 (by decide) (aq 1 (zE eI) v2 rfl))) (x_i 11))) 2147483647 (by decide)) (fun _=>rfl) fun v3=>(aeL (fun v3:Int=>[some fL,some ((zE eI) v2),some ((zE eI) v3),none]) v3 rfl (aeI (qN (cW 0 eI v0 gD rfl) mU (mz (x_i 3)))) _ (fun _ _=>rfl) (fun (v3:Int) (v4:Int)=>(Lb v0 gD v2 v3 v4).r) (fun _ _=>rfl) fun v3=>(bW (fun r=>r) (aq 2 (zE eI) v3 rfl) (fun _=>rfl) fun _=>rfl)))))
theorem J3:∀ v bs,(aL eI (aZ eI aN)) v bs->bs.length=2/\(hold (some (pP v.1 v.2.1))->jf (bs.map lend)=some ((zE eI) (eE v.1 v.2.1))):=by
 rintro⟨v0,v2,_⟩ _ ⟨fL,_,rfl,gD,⟨_,rfl,rfl⟩⟩
 exact⟨rfl,fun h=>cH (g:=wB) (n:=4) (bs:=[lend fL,.z (eI v2)]) (Ui v0 (Mt gD) v2) h⟩
def cY  (s1:Int×LI_×Int) (v2:Int):Int×LI_×Int:=(let v3:=((((s1.1 * ((s1.1 % (65521:Int))+(40487:Int)))+((7:Int) * v2))+(5:Int)) % (1999999973:Int));(let v6:=s1.2.1++[(at' [v3,(s1.2.2 % (1000000:Int))] (if (decide ((0:Int) < s1.2.2))=true then (1:Int) else 0))];(let v7:=(s1.2.2 / (1000000:Int));(v3,v6,v7))))
def lO  (s1:Int×LI_×Int) (v2:Int):Prop:=(Mul s1.1 ((s1.1 % (65521:Int))+(40487:Int))/\(let v3:=((((s1.1 * ((s1.1 % (65521:Int))+(40487:Int)))+((7:Int) * v2))+(5:Int)) % (1999999973:Int));(In [v3,(s1.2.2 % (1000000:Int))].length (if (decide ((0:Int) < s1.2.2))=true then (1:Int) else 0)/\mC s1.2.1.length)))
theorem Fb (v4:Int) (v5:Int) (s1:Int×LI_×Int) (v2:Int):RP pq [some ((zE eI) v4),some ((zE eI) v5),some ((oE eI) s1.2.1),some ((zE eI) s1.1),some ((zE eI) s1.2.2),some ((zE eI) v2)] (fun s=>Out.nx ((fun s1:Int×LI_×Int=>[some ((zE eI) v4),some ((zE eI) v5),some ((oE eI) s1.2.1),some ((zE eI) s1.1),some ((zE eI) s1.2.2),none]) s)) (cY  s1 v2) (some (lO  s1 v2)):=R.tp (bw (cF 3 (dR (eU (eU (acP (aq 3 (zE eI) s1.1 rfl) (eU (dR (aq 3 (zE eI) s1.1 rfl) 65521 (by decide)) (x_i 40487))) (Iz 7 (by decide) (aq 5 (zE eI) v2 rfl))) (x_i 5)) 1999999973 (by decide)) (fun _=>rfl) fun v3=>(bw (CN 2 s1.2.1 rfl (ig (dw (gQ (aC (aq 3 (zE eI) v3 rfl) (aC (dR (aq 4 (zE eI) s1.2.2 rfl) 1000000 (by decide)) (bQ eI))) (zd rfl))) (Zm (abG (aq 4 (zE eI) s1.2.2 rfl) (x_i 0)))) fun v6=>(bw (cF 4 (q9 (aq 4 (zE eI) s1.2.2 rfl) 1000000 (by decide)) (fun _=>rfl) fun v7=>(bM (eY (v3,v6,v7) rfl))))))))
def vB (v4:Int) (v5:Int) (v6:LI_) (v3:Int) (v7:Int):LI_:=v6
def vC:Ev->Option Out:=(aG (Tf 2) dI)
theorem Fd (v4:Int) (v5:Int) (v6:LI_) (v3:Int) (v7:Int):RP vC [some ((zE eI) v4),some ((zE eI) v5),some ((oE eI) v6),some ((zE eI) v3),some ((zE eI) v7),none] (fun r=>Out.rt ((oE eI) r)) (vB v4 v5 v6 v3 v7) (none):=R.tp (aeK 2 (fun r=>r) v6 rfl (fun _=>rfl) fun _=>rfl)
def lQ (v4:Int) (v5:Int) (v6:LI_) (v3:Int) (v7:Int):LI_:=(let s1:Int×LI_×Int:=((rng 0 v5.toNat).foldl (fun (s1:Int×LI_×Int) (v2:Int)=>(cY  s1 v2)) (v3,v6,v7));(vB v4 v5 s1.2.1 s1.1 s1.2.2))
def pQ (v4:Int) (v5:Int) (v6:LI_) (v3:Int) (v7:Int):Prop:=(Rg v5/\Ep (fun (s1:Int×LI_×Int) (v2:Int)=>(cY  s1 v2)) (fun (s1:Int×LI_×Int) (v2:Int)=>some (lO  s1 v2)) (rng 0 v5.toNat) (v3,v6,v7))
def vD:Ev->Option Out:=(aG (uG (XS (ao (gv 1) aM)) (DW 5) pq) vC)
theorem Fg (v4:Int) (v5:Int) (v6:LI_) (v3:Int) (v7:Int):RP vD [some ((zE eI) v4),some ((zE eI) v5),some ((oE eI) v6),some ((zE eI) v3),some ((zE eI) v7),none] (fun r=>Out.rt ((oE eI) r)) (lQ v4 v5 v6 v3 v7) (some (pQ v4 v5 v6 v3 v7)):=R.tp (Mw (fun s1:Int×LI_×Int=>[some ((zE eI) v4),some ((zE eI) v5),some ((oE eI) s1.2.1),some ((zE eI) s1.1),some ((zE eI) s1.2.2),none]) (v3,v6,v7) rfl (QM (aq 1 (zE eI) v5 rfl)) _ (fun _ _=>rfl) (fun (s1:Int×LI_×Int) (v2:Int)=>(Fb v4 v5 s1 v2).r) fun s1=>(Fd v4 v5 s1.2.1 s1.1 s1.2.2).r)
def vG (v4:Int) (v5:Int) (v6:LI_) (v3:Int) (v7:Int):LI_:=(let v7:Int:=(if ((decide (v4 < (0:Int)))||(decide (((10:Int) ^ 18)<=v4)))=true then (let v7:=(if v4 < 0 then -v4 else v4);v7) else v7);(lQ v4 v5 v6 v3 v7))
def vH (v4:Int) (v5:Int) (v6:LI_) (v3:Int) (v7:Int):Prop:=(let v7:Int:=(if ((decide (v4 < (0:Int)))||(decide (((10:Int) ^ 18)<=v4)))=true then (let v7:=(if v4 < 0 then -v4 else v4);v7) else v7);(pQ v4 v5 v6 v3 v7))
def vI:Ev->Option Out:=(aG (rR (Qe (qZ Tz (gv 0) (cB (.int 0))) (qZ geB (gv 0) (b2 abo (cB (.int 10)) (cB (.int 18))))) (aG (aG (setG 4 (dj Wy (ao (gv 0) aM))) dI) (jB [])) (aG dI (jB []))) vD)
theorem Fi (v4:Int) (v5:Int) (v6:LI_) (v3:Int) (v7:Int):RP vI [some ((zE eI) v4),some ((zE eI) v5),some ((oE eI) v6),some ((zE eI) v3),some ((zE eI) v7),none] (fun r=>Out.rt ((oE eI) r)) (vG v4 v5 v6 v3 v7) (some (vH v4 v5 v6 v3 v7)):=R.tp (QS (fun v7:Int=>[some ((zE eI) v4),some ((zE eI) v5),some ((oE eI) v6),some ((zE eI) v3),some ((zE eI) v7),none]) (Gr (eV (CG (aq 0 (zE eI) v4 rfl) (x_i 0))) (eV (x_ge (aq 0 (zE eI) v4 rfl) (aex 10 18 18 (by decide) rfl)))) (bw (cF 4 (agv (aq 0 (zE eI) v4 rfl)) (fun _=>rfl) fun v7=>(bM (eY v7 rfl)))) (bM (eY v7 rfl)) fun v7=>(Fg v4 v5 v6 v3 v7).r)
def vJ (v4:Int) (v5:Int) (v6:LI_) (v3:Int):LI_:=(let v7:=(0:Int);(vG v4 v5 v6 v3 v7))
def vK (v4:Int) (v5:Int) (v6:LI_) (v3:Int):Prop:=(let v7:=(0:Int);(vH v4 v5 v6 v3 v7))
def vL:Ev->Option Out:=(aG (setG 4 (cB (.int 0))) vI)
theorem Fj (v4:Int) (v5:Int) (v6:LI_) (v3:Int):RP vL [some ((zE eI) v4),some ((zE eI) v5),some ((oE eI) v6),some ((zE eI) v3),none,none] (fun r=>Out.rt ((oE eI) r)) (vJ v4 v5 v6 v3) (some (vK v4 v5 v6 v3)):=R.tp (cF 4 (x_i 0) (fun _=>rfl) fun v7=>(Fi v4 v5 v6 v3 v7).r)
def vM (v4:Int) (v5:Int) (v6:LI_):LI_:=(let v3:=((((v4 % (1999999973:Int))+(31:Int)) * (765432101:Int)) % (1999999973:Int));(vJ v4 v5 v6 v3))
def vN (v4:Int) (v5:Int) (v6:LI_):Prop:=(let v3:=((((v4 % (1999999973:Int))+(31:Int)) * (765432101:Int)) % (1999999973:Int));(vK v4 v5 v6 v3))
def Fl:Ev->Option Out:=(aG (setG 3 (b2 gP (b2 yK (b2 bU (b2 gP (gv 0) (cB (.int 1999999973))) (cB (.int 31))) (cB (.int 765432101))) (cB (.int 1999999973)))) vL)
theorem Fo (v4:Int) (v5:Int) (v6:LI_):RP Fl [some ((zE eI) v4),some ((zE eI) v5),some ((oE eI) v6),none,none,none] (fun r=>Out.rt ((oE eI) r)) (vM v4 v5 v6) (some (vN v4 v5 v6)):=R.tp (cF 3 (dR (Vg (eU (dR (aq 0 (zE eI) v4 rfl) 1999999973 (by decide)) (x_i 31)) 765432101 (by decide)) 1999999973 (by decide)) (fun _=>rfl) fun v3=>(Fj v4 v5 v6 v3).r)
def dG (v4:Int) (v5:Int):LI_:=(let v6:=([]:List Int);(vM v4 v5 v6))
def mH (v4:Int) (v5:Int):Prop:=(let v6:=([]:List Int);(vN v4 v5 v6))
theorem Ld (v4:Int) (v5:Int):RP qm [some ((zE eI) v4),some ((zE eI) v5),none,none,none,none] (fun r=>Out.rt ((oE eI) r)) (dG v4 v5) (some (mH v4 v5)):=R.tp (cF 2 (gQ (bQ eI) (zd rfl)) (fun _=>rfl) fun v6=>(Fo v4 v5 v6).r)
theorem Ay:∀ v bs,(aZ eI (aZ eI aN)) v bs->bs.length=2/\(hold (some (mH v.1 v.2.1))->fP (bs.map lend)=some ((oE eI) (dG v.1 v.2.1))):=by
 rintro⟨v4,v5,_⟩ _ ⟨_,rfl,⟨_,rfl,rfl⟩⟩
 exact⟨rfl,fun h=>cH (g:=qm) (n:=6) (bs:=[.z (eI v4),.z (eI v5)]) (Ld v4 v5) h⟩
def gB (v8:LI_) (v9:LS_) (v6:LD_) (v2:Int):LD_:=(let va:=(at' v8 ((1:Int)+v2));(let y1:=(at' v9 (va % (5:Int)));let y2:=(at' v9 (((va+(1:Int))+((va / (5:Int)) % (4:Int))) % (5:Int)));let vb:=y1;let vc:=y2;(let vd:=(at' [((1:Int)+((va / (300:Int)) % (3:Int))),((1:Int)+((va / (300:Int)) % (1000:Int)))] ((va / (7:Int)) % (2:Int)));(let ve:=((va / (20:Int)) % (5:Int));(let v6:LD_:=(if (decide (ve=(0:Int)))=true then (let v6:=v6++[(Dt.tup [(Dt.str "never"),(eS vb)])];v6) else (let v6:LD_:=(if (decide (ve=(1:Int)))=true then (let v6:=v6++[(Dt.tup [(Dt.str "begin"),(eS vb),(eI ((1:Int)+((va / (100:Int)) % (3:Int)))),(eI vd)])];v6) else (let v6:LD_:=(if (decide (ve=(2:Int)))=true then (let v6:=v6++[(Dt.tup [(Dt.str "both"),(eS vb),(eS vc),(eI vd)])];v6) else (let v6:=v6++[(Dt.tup [(Dt.str "same"),(eS vb),(eI vd)])];v6));v6));v6));v6)))))
def oR (v8:LI_) (v9:LS_) (v6:LD_) (v2:Int):Prop:=(In v8.length ((1:Int)+v2)/\(let va:=(at' v8 ((1:Int)+v2));((In v9.length (va % (5:Int))/\In v9.length (((va+(1:Int))+((va / (5:Int)) % (4:Int))) % (5:Int)))/\(let y1:=(at' v9 (va % (5:Int)));let y2:=(at' v9 (((va+(1:Int))+((va / (5:Int)) % (4:Int))) % (5:Int)));let vb:=y1;let vc:=y2;(In [((1:Int)+((va / (300:Int)) % (3:Int))),((1:Int)+((va / (300:Int)) % (1000:Int)))].length ((va / (7:Int)) % (2:Int))/\(let vd:=(at' [((1:Int)+((va / (300:Int)) % (3:Int))),((1:Int)+((va / (300:Int)) % (1000:Int)))] ((va / (7:Int)) % (2:Int)));(let ve:=((va / (20:Int)) % (5:Int));(((decide (ve=(0:Int)))=true->mC v6.length)/\((decide (ve=(0:Int)))=false->(((decide (ve=(1:Int)))=true->mC v6.length)/\((decide (ve=(1:Int)))=false->(((decide (ve=(2:Int)))=true->mC v6.length)/\((decide (ve=(2:Int)))=false->mC v6.length)))))))))))))
theorem J4 (v8:LI_) {fL:Bx} (gD:Lp fL (v8.map eI)) (v9:LS_) (v6:LD_) (v2:Int):RP yP [some fL,some ((oE eS) v9),some ((oE eD) v6),some ((zE eI) v2),none,none,none,none,none] (fun s=>Out.nx ((fun v6:LD_=>[some fL,some ((oE eS) v9),some ((oE eD) v6),none,none,none,none,none,none]) s)) (gB v8 v9 v6 v2) (some (oR v8 v9 v6 v2)):=R.tp (bw (cF 4 (ig (cW 0 eI v8 gD rfl) (eU (x_i 1) (aq 3 (zE eI) v2 rfl))) (fun _=>rfl) fun va=>(bw (agy 5 6 (ig (jY (aq 1 (lE eS) v9 rfl)) (dR (aq 4 (zE eI) va rfl) 5 (by decide))) (ig (jY (aq 1 (lE eS) v9 rfl)) (dR (eU (eU (aq 4 (zE eI) va rfl) (x_i 1)) (dR (q9 (aq 4 (zE eI) va rfl) 5 (by decide)) 4 (by decide))) 5 (by decide))) fun vb vc=>(bw (cF 7 (ig (dw (gQ (aC (iT (eU (x_i 1) (dR (q9 (aq 4 (zE eI) va rfl) 300 (by decide)) 3 (by decide)))) (aC (iT (eU (x_i 1) (dR (q9 (aq 4 (zE eI) va rfl) 300 (by decide)) 1000 (by decide)))) (bQ eI))) (zd rfl))) (dR (q9 (aq 4 (zE eI) va rfl) 7 (by decide)) 2 (by decide))) (fun _=>rfl) fun vd=>(bw (cF 8 (dR (q9 (aq 4 (zE eI) va rfl) 20 (by decide)) 5 (by decide)) (fun _=>rfl) fun ve=>(bw (QS (fun v6:LD_=>[some fL,some ((oE eS) v9),some ((oE eD) v6),some ((zE eI) v2),some ((zE eI) va),some ((zE eS) vb),some ((zE eS) vc),some ((zE eI) vd),some ((zE eI) ve)]) (eV (x_eq (by decide) (aq 8 (zE eI) ve rfl) (x_i 0))) (bw (CN 2 v6 rfl (oH (aC (x_k (.str "never")) (aC (iR (aq 5 (zE eS) vb rfl)) (bQ eD))) (zd rfl)) fun v6=>(bM (eY v6 rfl)))) (bw (QS (fun v6:LD_=>[some fL,some ((oE eS) v9),some ((oE eD) v6),some ((zE eI) v2),some ((zE eI) va),some ((zE eS) vb),some ((zE eS) vc),some ((zE eI) vd),some ((zE eI) ve)]) (eV (x_eq (by decide) (aq 8 (zE eI) ve rfl) (x_i 1))) (bw (CN 2 v6 rfl (oH (aC (x_k (.str "begin")) (aC (iR (aq 5 (zE eS) vb rfl)) (aC (iR (iT (eU (x_i 1) (dR (q9 (aq 4 (zE eI) va rfl) 100 (by decide)) 3 (by decide))))) (aC (iR (aq 7 (zE eI) vd rfl)) (bQ eD))))) (zd rfl)) fun v6=>(bM (eY v6 rfl)))) (bw (QS (fun v6:LD_=>[some fL,some ((oE eS) v9),some ((oE eD) v6),some ((zE eI) v2),some ((zE eI) va),some ((zE eS) vb),some ((zE eS) vc),some ((zE eI) vd),some ((zE eI) ve)]) (eV (x_eq (by decide) (aq 8 (zE eI) ve rfl) (x_i 2))) (bw (CN 2 v6 rfl (oH (aC (x_k (.str "both")) (aC (iR (aq 5 (zE eS) vb rfl)) (aC (iR (aq 6 (zE eS) vc rfl)) (aC (iR (aq 7 (zE eI) vd rfl)) (bQ eD))))) (zd rfl)) fun v6=>(bM (eY v6 rfl)))) (bw (CN 2 v6 rfl (oH (aC (x_k (.str "same")) (aC (iR (aq 5 (zE eS) vb rfl)) (aC (iR (aq 7 (zE eI) vd rfl)) (bQ eD)))) (zd rfl)) fun v6=>(bM (eY v6 rfl)))) fun v6=>(bM (eY v6 rfl)))) fun v6=>(bM (eY v6 rfl)))) fun v6=>(bM (eY v6 rfl))))))))))))
def fV (v8:LI_):LD_:=(let v9:=[("day" : Str),("name" : Str),("names" : Str),("p" : Str),("zzz" : Str)];(let v6:=([]:List Dt);(let v6:LD_:=((rng 0 ((1:Int)+((at' v8 (0:Int)) % (4:Int))).toNat).foldl (fun (v6:LD_) (v2:Int)=>(gB v8 v9 v6 v2)) v6);v6)))
def uo (v8:LI_):Prop:=(let v9:=[("day" : Str),("name" : Str),("names" : Str),("p" : Str),("zzz" : Str)];(let v6:=([]:List Dt);((In v8.length (0:Int)/\Rg ((1:Int)+((at' v8 (0:Int)) % (4:Int))))/\Ep (fun (v6:LD_) (v2:Int)=>(gB v8 v9 v6 v2)) (fun (v6:LD_) (v2:Int)=>some (oR v8 v9 v6 v2)) (rng 0 ((1:Int)+((at' v8 (0:Int)) % (4:Int))).toNat) v6)))
theorem Ry (v8:LI_) {fL:Bx} (gD:Lp fL (v8.map eI)):RP tU [some fL,none,none,none,none,none,none,none,none] (fun r=>Out.rt ((zE (eT eD)) r)) (fV v8) (some (uo v8)):=R.tp (cF 1 (gQ (aC (jV "day") (aC (jV "name") (aC (jV "names") (aC (jV "p") (aC (jV "zzz") (bQ eS)))))) (zd rfl)) (fun _=>rfl) fun v9=>(cF 2 (gQ (bQ eD) (zd rfl)) (fun _=>rfl) fun v6=>(Mw (fun v6:LD_=>[some fL,some ((oE eS) v9),some ((oE eD) v6),none,none,none,none,none,none]) v6 rfl (QM (eU (x_i 1) (dR (ig (cW 0 eI v8 gD rfl) (x_i 0)) 4 (by decide)))) _ (fun _ _=>rfl) (fun (v6:LD_) (v2:Int)=>(J4 v8 gD v9 v6 v2).r) fun v6=>(bW (fun r=>r) (zH (jY (aq 2 (lE eD) v6 rfl))) (fun _=>rfl) fun _=>rfl))))
theorem Rz:∀ v bs,(aL eI aN) v bs->bs.length=1/\(hold (some (uo v.1))->j7 (bs.map lend)=some ((zE (eT eD)) (fV v.1))):=by
 rintro⟨v8,_⟩ _ ⟨fL,_,rfl,gD,rfl⟩
 exact⟨rfl,fun h=>cH (g:=tU) (n:=9) (bs:=[lend fL]) (Ry v8 (Mt gD)) h⟩
def qH (vj:Dt):Str:=(Txt.join " " ((DY vj).map fun vk:Dt=>(j5 vk)))
def uq (vj:Dt):Prop:=(((yC vj=true/\(DY vj).length<=100000)/\(∀ vk∈(DY vj),ZL vk))/\(((DY vj).map fun vk:Dt=>(j5 vk)).map (·.length)).sum+((DY vj).map fun vk:Dt=>(j5 vk)).length * (" " : Str).length<=100000)
theorem RB (vj:Dt):RP tW [some ((zE eD) vj)] (fun r=>Out.rt ((zE eS) r)) (qH vj) (some (uq vj)):=R.tp (bW (fun r=>r) (yL " " (dw (vW (abK (aq 0 (zE eD) vj rfl)) _ (fun _=>rfl) (fun vk:Dt=>(iT (ZM (aq 0 (zE eD) vk rfl))))))) (fun _=>rfl) fun _=>rfl)
theorem RD:∀ v bs,(aZ eD aN) v bs->bs.length=1/\(hold (some (uq v.1))->j8 (bs.map lend)=some ((zE eS) (qH v.1))):=by
 rintro⟨vj,_⟩ _ ⟨_,rfl,rfl⟩
 exact⟨rfl,fun h=>cH (g:=tW) (n:=1) (bs:=[.z (eD vj)]) (RB vj) h⟩
def fO (vi:LD_):Str:=(Txt.join "\n" (vi.map fun vj:Dt=>(qH vj)))
def oU (vi:LD_):Prop:=((vi.length<=100000/\(∀ vj∈vi,(uq vj)))/\((vi.map fun vj:Dt=>(qH vj)).map (·.length)).sum+(vi.map fun vj:Dt=>(qH vj)).length * ("\n" : Str).length<=100000)
theorem O7 (vi:LD_):RP rE [some ((zE (eT eD)) vi)] (fun r=>Out.rt ((zE eS) r)) (fO vi) (some (oU vi)):=R.tp (bW (fun r=>r) (yL "\n" (dw (vW (agw (aq 0 (zE (eT eD)) vi rfl)) _ (fun _=>rfl) (fun vj:Dt=>(iT (x_call RD (cP (aq 0 (zE eD) vj rfl) bC))))))) (fun _=>rfl) fun _=>rfl)
theorem Dq:∀ v bs,(aZ (eT eD) aN) v bs->bs.length=1/\(hold (some (oU v.1))->gU (bs.map lend)=some ((zE eS) (fO v.1))):=by
 rintro⟨vi,_⟩ _ ⟨_,rfl,rfl⟩
 exact⟨rfl,fun h=>cH (g:=rE) (n:=1) (bs:=[.z ((eT eD) vi)]) (O7 vi) h⟩
def bD (v1:LD_):Str:=(Txt.join "\n" (v1.map fun vl:Dt=>(Txt.join " " ((DY vl).map fun vm:Dt=>(j5 vm)))))
def nj (v1:LD_):Prop:=((v1.length<=100000/\(∀ vl∈v1,(((yC vl=true/\(DY vl).length<=100000)/\(∀ vm∈(DY vl),ZL vm))/\(((DY vl).map fun vm:Dt=>(j5 vm)).map (·.length)).sum+((DY vl).map fun vm:Dt=>(j5 vm)).length * (" " : Str).length<=100000)))/\((v1.map fun vl:Dt=>(Txt.join " " ((DY vl).map fun vm:Dt=>(j5 vm)))).map (·.length)).sum+(v1.map fun vl:Dt=>(Txt.join " " ((DY vl).map fun vm:Dt=>(j5 vm)))).length * ("\n" : Str).length<=100000)
theorem Uj (v1:LD_):RP wC [some ((zE (eT eD)) v1)] (fun r=>Out.rt ((zE eS) r)) (bD v1) (some (nj v1)):=R.tp (bW (fun r=>r) (yL "\n" (dw (vW (agw (aq 0 (zE (eT eD)) v1 rfl)) _ (fun _=>rfl) (fun vl:Dt=>(iT (yL " " (dw (vW (abK (aq 0 (zE eD) vl rfl)) _ (fun _=>rfl) (fun vm:Dt=>(iT (ZM (aq 0 (zE eD) vm rfl)))))))))))) (fun _=>rfl) fun _=>rfl)
theorem wV:∀ v bs,(aZ (eT eD) aN) v bs->bs.length=1/\(hold (some (nj v.1))->iu (bs.map lend)=some ((zE eS) (bD v.1))):=by
 rintro⟨v1,_⟩ _ ⟨_,rfl,rfl⟩
 exact⟨rfl,fun h=>cH (g:=wC) (n:=1) (bs:=[.z ((eT eD) v1)]) (Uj v1) h⟩
def aR (vo:Str):LS_:=(if (!(bR (eS vo)))=true then default else (if (decide (vo.length≠0))=true then (Txt.split vo ("\n" : Str)) else ([]:LS_)))
def pR (vo:Str):Prop:=(((!(bR (eS vo)))=true->False)/\((!(bR (eS vo)))=false->((decide (vo.length≠0))=true->((("\n" : Str).length==0)=false/\vo.length<=100000))))
theorem Uk (vo:Str):RP wD [some ((zE eS) vo)] (fun r=>Out.rt ((oE eS) r)) (aR vo) (some (pR vo)):=R.tp (gR (w5 (CJ (w6 bR (aq 0 (zE eS) vo rfl)))) (bw Vq) (bM (bW (fun r=>r) (aez (agt (aq 0 (zE eS) vo rfl)) (zJ (aq 0 (zE eS) vo rfl) (jV "\n")) (gQ (bQ eS) (zd rfl))) (fun _=>rfl) fun _=>rfl)))
theorem J5:∀ v bs,(aZ eS aN) v bs->bs.length=1/\(hold (some (pR v.1))->gq (bs.map lend)=some ((oE eS) (aR v.1))):=by
 rintro⟨vo,_⟩ _ ⟨_,rfl,rfl⟩
 exact⟨rfl,fun h=>cH (g:=wD) (n:=1) (bs:=[.z (eS vo)]) (Uk vo) h⟩
def bI (vo:Str):(Option Int):=(if ((!((decide ((1:Int)<=(vo.length:Int)))&&(decide ((vo.length:Int)<=(6:Int)))))||(!(((chars vo).map fun vs:Str=>(jX vs ("0123456789" : Str))).all id)))=true then none else (if ((decide ((ch vo (0:Int))=("0" : Str)))&&(!decide (vo=("0" : Str))))=true then none else (some ((intText? vo).getD 0))))
def qI (vo:Str):Prop:=(((!((decide ((1:Int)<=(vo.length:Int)))&&(decide ((vo.length:Int)<=(6:Int)))))=false->(chars vo).length<=100000)/\(((!((decide ((1:Int)<=(vo.length:Int)))&&(decide ((vo.length:Int)<=(6:Int)))))||(!(((chars vo).map fun vs:Str=>(jX vs ("0123456789" : Str))).all id)))=false->(In vo.length (0:Int)/\(((decide ((ch vo (0:Int))=("0" : Str)))&&(!decide (vo=("0" : Str))))=false->(vo.length<=640/\(intText? vo).isSome=true)))))
theorem RG (vo:Str):RP tY [some ((zE eS) vo)] (fun r=>Out.rt ((zE (eO eI)) r)) (bI vo) (some (qI vo)):=R.tp (gR (Gr (w5 (aey (TF (KH (x_i 1) (Eo (aq 0 (zE eS) vo rfl))) (KH (Eo (aq 0 (zE eS) vo rfl)) (x_i 6))))) (w5 (CJ (QH (dw (Vl (agx (aq 0 (zE eS) vo rfl)) _ (fun _=>rfl) (fun vs:Str=>(Vk (aq 0 (zE eS) vs rfl) (jV "0123456789"))) fun _=>rfl)))))) (bw (bW (fun r=>r) Em (fun _=>rfl) fun _=>rfl)) (bM (gR (Vi (eV (x_eq (by decide) (QG (aq 0 (zE eS) vo rfl) (x_i 0)) (jV "0"))) (eV (abH (by decide) (aq 0 (zE eS) vo rfl) (jV "0")))) (bw (bW (fun r=>r) Em (fun _=>rfl) fun _=>rfl)) (bM (bW (fun r=>r) (N8 (iT (ZP (aq 0 (zE eS) vo rfl)))) (fun _=>rfl) fun _=>rfl)))))
theorem RJ:∀ v bs,(aZ eS aN) v bs->bs.length=1/\(hold (some (qI v.1))->j9 (bs.map lend)=some ((zE (eO eI)) (bI v.1))):=by
 rintro⟨vo,_⟩ _ ⟨_,rfl,rfl⟩
 exact⟨rfl,fun h=>cH (g:=tY) (n:=1) (bs:=[.z (eS vo)]) (RG vo) h⟩
def cZ (vq:Str):Dt:=(let vr:=(bI vq);(if vr.isNone=true then (eS vq) else ((eO eI) vr)))
def Fp (vq:Str):Prop:=(qI vq)
theorem Xl (vq:Str):RP zQ [some ((zE eS) vq),none] (fun r=>Out.rt ((zE eD) r)) (cZ vq) (some (Fp vq)):=R.tp (cF 1 (x_call RJ (cP (aq 0 (zE eS) vq rfl) bC)) (fun _=>rfl) fun vr=>(bW (fun r=>r) (aez (eV (acQ (aq 1 (zE (eO eI)) vr rfl) fun _=>rfl)) (iR (aq 0 (zE eS) vq rfl)) (iR (aq 1 (zE (eO eI)) vr rfl))) (fun _=>rfl) fun _=>rfl))
theorem Xm:∀ v bs,(aZ eS aN) v bs->bs.length=1/\(hold (some (Fp v.1))->pA (bs.map lend)=some ((zE eD) (cZ v.1))):=by
 rintro⟨vq,_⟩ _ ⟨_,rfl,rfl⟩
 exact⟨rfl,fun h=>cH (g:=zQ) (n:=2) (bs:=[.z (eS vq)]) (Xl vq) h⟩
def nq (vt:Dt) (vu:Int):Bool:=((is_tuple vt)&&(decide ((n6 vt)=vu)))
def wW (vt:Dt) (vu:Int):Prop:=((is_tuple vt)=true->yC vt=true)
theorem Ul (vt:Dt) (vu:Int):RP wF [some ((zE eD) vt),some ((zE eI) vu)] (fun r=>Out.rt ((zE eB) r)) (nq vt vu) (some (wW vt vu)):=R.tp (bW (fun r=>r) (nF (w6 is_tuple (aq 0 (zE eD) vt rfl)) (x_eq (by decide) (vV (aq 0 (zE eD) vt rfl)) (aq 1 (zE eI) vu rfl))) (fun _=>rfl) fun _=>rfl)
theorem Um:∀ v bs,(aZ eD (aZ eI aN)) v bs->bs.length=2/\(hold (some (wW v.1 v.2.1))->mV (bs.map lend)=some ((zE eB) (nq v.1 v.2.1))):=by
 rintro⟨vt,vu,_⟩ _ ⟨_,rfl,⟨_,rfl,rfl⟩⟩
 exact⟨rfl,fun h=>cH (g:=wF) (n:=2) (bs:=[.z (eD vt),.z (eI vu)]) (Ul vt vu) h⟩
def aU (vt:Dt) (vq:Str) (vu:Int):Bool:=((nq vt vu)&&((bR (jC vt (0:Int)))&&(Aa (jC vt (0:Int)) (eS vq))))
def lu (vt:Dt) (vq:Str) (vu:Int):Prop:=((wW vt vu)/\((nq vt vu)=true->(DX vt (0:Int)/\((bR (jC vt (0:Int)))=true->(DX vt (0:Int)/\KJ (jC vt (0:Int)) (eS vq))))))
theorem RK (vt:Dt) (vq:Str) (vu:Int):RP tZ [some ((zE eD) vt),some ((zE eS) vq),some ((zE eI) vu)] (fun r=>Out.rt ((zE eB) r)) (aU vt vq vu) (some (lu vt vq vu)):=R.tp (bW (fun r=>r) (nF (x_call Um (cP (aq 0 (zE eD) vt rfl) (cP (aq 2 (zE eI) vu rfl) bC))) (nF (w6 bR (jZ (aq 0 (zE eD) vt rfl) (x_i 0))) (QD (jZ (aq 0 (zE eD) vt rfl) (x_i 0)) (iR (aq 1 (zE eS) vq rfl))))) (fun _=>rfl) fun _=>rfl)
theorem ur:∀ v bs,(aZ eD (aZ eS (aZ eI aN))) v bs->bs.length=3/\(hold (some (lu v.1 v.2.1 v.2.2.1))->fQ (bs.map lend)=some ((zE eB) (aU v.1 v.2.1 v.2.2.1))):=by
 rintro⟨vt,vq,vu,_⟩ _ ⟨_,rfl,⟨_,rfl,⟨_,rfl,rfl⟩⟩⟩
 exact⟨rfl,fun h=>cH (g:=tZ) (n:=3) (bs:=[.z (eD vt),.z (eS vq),.z (eI vu)]) (RK vt vq vu) h⟩
def gZ (vt:Dt) (vv:Str) (vw:Int):Bool:=((bR vt)&&(((decide ((1:Int)<=(n6 vt)))&&(decide ((n6 vt)<=vw)))&&(((DY vt).map fun vs:Dt=>(jX (asS vs) vv)).all id)))
def oV (vt:Dt) (vv:Str) (vw:Int):Prop:=((bR vt)=true->((yC vt=true/\((decide ((1:Int)<=(n6 vt)))=true->yC vt=true))/\(((decide ((1:Int)<=(n6 vt)))&&(decide ((n6 vt)<=vw)))=true->((yC vt=true/\(DY vt).length<=100000)/\(∀ vs∈(DY vt),vs=eS (asS vs))))))
theorem O8 (vt:Dt) (vv:Str) (vw:Int):RP rG [some ((zE eD) vt),some ((zE eS) vv),some ((zE eI) vw)] (fun r=>Out.rt ((zE eB) r)) (gZ vt vv vw) (some (oV vt vv vw)):=R.tp (bW (fun r=>r) (nF (w6 bR (aq 0 (zE eD) vt rfl)) (nF (TF (KH (x_i 1) (vV (aq 0 (zE eD) vt rfl))) (KH (vV (aq 0 (zE eD) vt rfl)) (aq 2 (zE eI) vw rfl))) (QH (dw (vW (abK (aq 0 (zE eD) vt rfl)) _ (fun _=>rfl) (fun vs:Dt=>(Vk (sZ (aq 1 (zE eD) vs rfl) asS eS) (aq 0 (zE eS) vv rfl)))))))) (fun _=>rfl) fun _=>rfl)
theorem O9:∀ v bs,(aZ eD (aZ eS (aZ eI aN))) v bs->bs.length=3/\(hold (some (oV v.1 v.2.1 v.2.2.1))->jg (bs.map lend)=some ((zE eB) (gZ v.1 v.2.1 v.2.2.1))):=by
 rintro⟨vt,vv,vw,_⟩ _ ⟨_,rfl,⟨_,rfl,⟨_,rfl,rfl⟩⟩⟩
 exact⟨rfl,fun h=>cH (g:=rG) (n:=3) (bs:=[.z (eD vt),.z (eS vv),.z (eI vw)]) (O8 vt vv vw) h⟩
def cg (vt:Dt):Bool:=(gZ vt ("abcdefghijklmnopqrstuvwxyz" : Str) (8:Int))
def nR (vt:Dt):Prop:=(oV vt ("abcdefghijklmnopqrstuvwxyz" : Str) (8:Int))
theorem Xn (vt:Dt):RP zR [some ((zE eD) vt)] (fun r=>Out.rt ((zE eB) r)) (cg vt) (some (nR vt)):=R.tp (bW (fun r=>r) (x_call O9 (cP (aq 0 (zE eD) vt rfl) (cP (jV "abcdefghijklmnopqrstuvwxyz") (cP (x_i 8) bC)))) (fun _=>rfl) fun _=>rfl)
theorem vO:∀ v bs,(aZ eD aN) v bs->bs.length=1/\(hold (some (nR v.1))->gG (bs.map lend)=some ((zE eB) (cg v.1))):=by
 rintro⟨vt,_⟩ _ ⟨_,rfl,rfl⟩
 exact⟨rfl,fun h=>cH (g:=zR) (n:=1) (bs:=[.z (eD vt)]) (Xn vt) h⟩
def jt (vt:Dt):Bool:=((uD vt)&&(!(is_bool vt)))
theorem Uo (vt:Dt):RP wG [some ((zE eD) vt)] (fun r=>Out.rt ((zE eB) r)) (jt vt) none:=R.tp (bW (fun r=>r) (nF (w6 uD (aq 0 (zE eD) vt rfl)) (acR (w6 is_bool (aq 0 (zE eD) vt rfl)))) (fun _=>rfl) fun _=>rfl)
theorem J6:∀ v bs,(aZ eD aN) v bs->bs.length=1/\(hold (none)->jh (bs.map lend)=some ((zE eB) (jt v.1))):=by
 rintro⟨vt,_⟩ _ ⟨_,rfl,rfl⟩
 exact⟨rfl,fun h=>cH (g:=wG) (n:=1) (bs:=[.z (eD vt)]) (Uo vt) h⟩
def fW (vt:Dt):Bool:=((jt vt)&&((decide ((1:Int)<=(Gs vt)))&&(decide ((Gs vt)<=(1000:Int)))))
def nU (vt:Dt):Prop:=((jt vt)=true->(vt=eI (Gs vt)/\((decide ((1:Int)<=(Gs vt)))=true->vt=eI (Gs vt))))
theorem RM (vt:Dt):RP uc [some ((zE eD) vt)] (fun r=>Out.rt ((zE eB) r)) (fW vt) (some (nU vt)):=R.tp (bW (fun r=>r) (nF (x_call J6 (cP (aq 0 (zE eD) vt rfl) bC)) (TF (KH (x_i 1) (sZ (aq 0 (zE eD) vt rfl) Gs eI)) (KH (sZ (aq 0 (zE eD) vt rfl) Gs eI) (x_i 1000)))) (fun _=>rfl) fun _=>rfl)
theorem zq:∀ v bs,(aZ eD aN) v bs->bs.length=1/\(hold (some (nU v.1))->gW (bs.map lend)=some ((zE eB) (fW v.1))):=by
 rintro⟨vt,_⟩ _ ⟨_,rfl,rfl⟩
 exact⟨rfl,fun h=>cH (g:=uc) (n:=1) (bs:=[.z (eD vt)]) (RM vt) h⟩
def dW (vt:Dt):Bool:=((jt vt)&&((decide ((1:Int)<=(Gs vt)))&&(decide ((Gs vt)<=(12:Int)))))
def oW (vt:Dt):Prop:=((jt vt)=true->(vt=eI (Gs vt)/\((decide ((1:Int)<=(Gs vt)))=true->vt=eI (Gs vt))))
theorem J7 (vt:Dt):RP oM [some ((zE eD) vt)] (fun r=>Out.rt ((zE eB) r)) (dW vt) (some (oW vt)):=R.tp (bW (fun r=>r) (nF (x_call J6 (cP (aq 0 (zE eD) vt rfl) bC)) (TF (KH (x_i 1) (sZ (aq 0 (zE eD) vt rfl) Gs eI)) (KH (sZ (aq 0 (zE eD) vt rfl) Gs eI) (x_i 12)))) (fun _=>rfl) fun _=>rfl)
theorem J8:∀ v bs,(aZ eD aN) v bs->bs.length=1/\(hold (some (oW v.1))->gw (bs.map lend)=some ((zE eB) (dW v.1))):=by
 rintro⟨vt,_⟩ _ ⟨_,rfl,rfl⟩
 exact⟨rfl,fun h=>cH (g:=oM) (n:=1) (bs:=[.z (eD vt)]) (J7 vt) h⟩
def cj (vx:Dt) (vy:Dt):Bool:=((cg vx)&&((cg vy)&&(!Aa vx vy)))
def ju (vx:Dt) (vy:Dt):Prop:=((nR vx)/\((cg vx)=true->((nR vy)/\((cg vy)=true->KJ vx vy))))
theorem Bk (vx:Dt) (vy:Dt):RP ji [some ((zE eD) vx),some ((zE eD) vy)] (fun r=>Out.rt ((zE eB) r)) (cj vx vy) (some (ju vx vy)):=R.tp (bW (fun r=>r) (nF (x_call vO (cP (aq 0 (zE eD) vx rfl) bC)) (nF (x_call vO (cP (aq 1 (zE eD) vy rfl) bC)) (QF (aq 0 (zE eD) vx rfl) (aq 1 (zE eD) vy rfl)))) (fun _=>rfl) fun _=>rfl)
theorem Bl:∀ v bs,(aZ eD (aZ eD aN)) v bs->bs.length=2/\(hold (some (ju v.1 v.2.1))->dJ (bs.map lend)=some ((zE eB) (cj v.1 v.2.1))):=by
 rintro⟨vx,vy,_⟩ _ ⟨_,rfl,⟨_,rfl,rfl⟩⟩
 exact⟨rfl,fun h=>cH (g:=ji) (n:=2) (bs:=[.z (eD vx),.z (eD vy)]) (Bk vx vy) h⟩
def cN (vt:Dt):Bool:=(if (aU vt ("same" : Str) (3:Int))=true then ((cg (jC vt (1:Int)))&&(fW (jC vt (2:Int)))) else (if (aU vt ("begin" : Str) (4:Int))=true then ((cg (jC vt (1:Int)))&&((dW (jC vt (2:Int)))&&(fW (jC vt (3:Int))))) else (if (aU vt ("both" : Str) (4:Int))=true then ((cj (jC vt (1:Int)) (jC vt (2:Int)))&&(fW (jC vt (3:Int)))) else ((aU vt ("never" : Str) (2:Int))&&(cg (jC vt (1:Int)))))))
def zW (vt:Dt):Prop:=((lu vt ("same" : Str) (3:Int))/\(((aU vt ("same" : Str) (3:Int))=true->((DX vt (1:Int)/\(nR (jC vt (1:Int))))/\((cg (jC vt (1:Int)))=true->(DX vt (2:Int)/\(nU (jC vt (2:Int)))))))/\((aU vt ("same" : Str) (3:Int))=false->((lu vt ("begin" : Str) (4:Int))/\(((aU vt ("begin" : Str) (4:Int))=true->((DX vt (1:Int)/\(nR (jC vt (1:Int))))/\((cg (jC vt (1:Int)))=true->((DX vt (2:Int)/\(oW (jC vt (2:Int))))/\((dW (jC vt (2:Int)))=true->(DX vt (3:Int)/\(nU (jC vt (3:Int)))))))))/\((aU vt ("begin" : Str) (4:Int))=false->((lu vt ("both" : Str) (4:Int))/\(((aU vt ("both" : Str) (4:Int))=true->(((DX vt (1:Int)/\DX vt (2:Int))/\(ju (jC vt (1:Int)) (jC vt (2:Int))))/\((cj (jC vt (1:Int)) (jC vt (2:Int)))=true->(DX vt (3:Int)/\(nU (jC vt (3:Int)))))))/\((aU vt ("both" : Str) (4:Int))=false->((lu vt ("never" : Str) (2:Int))/\((aU vt ("never" : Str) (2:Int))=true->(DX vt (1:Int)/\(nR (jC vt (1:Int)))))))))))))))
theorem Xo (vt:Dt):RP zT [some ((zE eD) vt)] (fun r=>Out.rt ((zE eB) r)) (cN vt) (some (zW vt)):=R.tp (gR (CJ (x_call ur (cP (aq 0 (zE eD) vt rfl) (cP (jV "same") (cP (x_i 3) bC))))) (bw (bW (fun r=>r) (nF (x_call vO (cP (jZ (aq 0 (zE eD) vt rfl) (x_i 1)) bC)) (x_call zq (cP (jZ (aq 0 (zE eD) vt rfl) (x_i 2)) bC))) (fun _=>rfl) fun _=>rfl)) (bM (gR (CJ (x_call ur (cP (aq 0 (zE eD) vt rfl) (cP (jV "begin") (cP (x_i 4) bC))))) (bw (bW (fun r=>r) (nF (x_call vO (cP (jZ (aq 0 (zE eD) vt rfl) (x_i 1)) bC)) (nF (x_call J8 (cP (jZ (aq 0 (zE eD) vt rfl) (x_i 2)) bC)) (x_call zq (cP (jZ (aq 0 (zE eD) vt rfl) (x_i 3)) bC)))) (fun _=>rfl) fun _=>rfl)) (bM (gR (CJ (x_call ur (cP (aq 0 (zE eD) vt rfl) (cP (jV "both") (cP (x_i 4) bC))))) (bw (bW (fun r=>r) (nF (x_call Bl (cP (jZ (aq 0 (zE eD) vt rfl) (x_i 1)) (cP (jZ (aq 0 (zE eD) vt rfl) (x_i 2)) bC))) (x_call zq (cP (jZ (aq 0 (zE eD) vt rfl) (x_i 3)) bC))) (fun _=>rfl) fun _=>rfl)) (bM (bW (fun r=>r) (nF (x_call ur (cP (aq 0 (zE eD) vt rfl) (cP (jV "never") (cP (x_i 2) bC)))) (x_call vO (cP (jZ (aq 0 (zE eD) vt rfl) (x_i 1)) bC))) (fun _=>rfl) fun _=>rfl)))))))
theorem Xp:∀ v bs,(aZ eD aN) v bs->bs.length=1/\(hold (some (zW v.1))->pB (bs.map lend)=some ((zE eB) (cN v.1))):=by
 rintro⟨vt,_⟩ _ ⟨_,rfl,rfl⟩
 exact⟨rfl,fun h=>cH (g:=zT) (n:=1) (bs:=[.z (eD vt)]) (Xo vt) h⟩
def bL (vp:Str):(Option LD_):=(let vj:=((Txt.split vp (" " : Str)).map fun vq:Str=>(cZ vq));(if (cN ((eT eD) vj))=true then (some vj) else none))
def nW (vp:Str):Prop:=((((((" " : Str).length==0)=false/\vp.length<=100000)/\(Txt.split vp (" " : Str)).length<=100000)/\(∀ vq∈(Txt.split vp (" " : Str)),(Fp vq)))/\(let vj:=((Txt.split vp (" " : Str)).map fun vq:Str=>(cZ vq));(zW ((eT eD) vj))))
theorem Xq (vp:Str):RP zU [some ((zE eS) vp),none] (fun r=>Out.rt ((zE (eO (eT eD))) r)) (bL vp) (some (nW vp)):=R.tp (cF 1 (zH (dw (vW (aeH (dw (zJ (aq 0 (zE eS) vp rfl) (jV " ")))) _ (fun _=>rfl) (fun vq:Str=>(iT (x_call Xm (cP (aq 0 (zE eS) vq rfl) bC))))))) (fun _=>rfl) fun vj=>(bW (fun r=>r) (iT (aez (CJ (x_call Xp (cP (iR (aq 1 (zE (eT eD)) vj rfl)) bC))) (N8 (aq 1 (zE (eT eD)) vj rfl)) Em)) (fun _=>rfl) fun _=>rfl))
theorem M7:∀ v bs,(aZ eS aN) v bs->bs.length=1/\(hold (some (nW v.1))->gH (bs.map lend)=some ((zE (eO (eT eD))) (bL v.1))):=by
 rintro⟨vp,_⟩ _ ⟨_,rfl,rfl⟩
 exact⟨rfl,fun h=>cH (g:=zU) (n:=2) (bs:=[.z (eS vp)]) (Xq vp) h⟩
def cU  (vi:List LD_) (q1:Et):Ab ((List LD_)) (List LD_):=(let vj:=(bL q1.2);(if vj.isNone=true then default else (let vi:=vi++[(vj.getD default)];(Ab.nx vi))))
def fG  (vi:List LD_) (q1:Et):Prop:=((nW q1.2)/\(let vj:=(bL q1.2);((vj.isNone=true->False)/\(vj.isNone=false->(vj.isSome=true/\mC vi.length)))))
theorem xJ (vo:Str) (vi:List LD_) (q1:Et):RP gK [some ((zE eS) vo),some ((oE (eT eD)) vi),some ((zE eI) q1.1),some ((zE eS) q1.2),none] (cC (fun vi:(List LD_)=>[some ((zE eS) vo),some ((oE (eT eD)) vi),none,none,none]) (zE (eT (eT eD)))) (cU  vi q1) (some (fG  vi q1)):=R.tp (bw (cF 4 (x_call M7 (cP (aq 3 (zE eS) q1.2 rfl) bC)) (fun _=>rfl) fun vj=>(bw (gR (eV (acQ (aq 4 (zE (eO (eT eD))) vj rfl) fun _=>rfl)) (bw Vq) (bM (bw (CN 1 vi rfl (ags (aq 4 (zE (eO (eT eD))) vj rfl)) fun vi=>(bM (eY (.nx vi) rfl)))))))))
def lR (vo:Str):(List LD_):=(let vi:=([]:List LD_);(behind (rz (fun (vi:List LD_) (q1:Et)=>((cU  vi q1):Ab ((List LD_)) (List LD_))) (qT (aR vo)) vi) (fun r=>r) fun vi:(List LD_)=>vi))
def rO (vo:Str):Prop:=(let vi:=([]:List LD_);(((pR vo)/\CP (fun (vi:List LD_) (q1:Et)=>((cU  vi q1):Ab ((List LD_)) (List LD_))) (fun (vi:List LD_) (q1:Et)=>some (fG  vi q1)) (qT (aR vo)) vi)/\(CQ (rz (fun (vi:List LD_) (q1:Et)=>((cU  vi q1):Ab ((List LD_)) (List LD_))) (qT (aR vo)) vi) fun vi:(List LD_)=>True)))
theorem Pa (vo:Str):RP rH [some ((zE eS) vo),none,none,none,none] (fun r=>Out.rt ((zE (eT (eT eD))) r)) (lR vo) (some (rO vo)):=R.tp (cF 1 (gQ (bQ (eT eD)) (zd rfl)) (fun _=>rfl) fun vi=>(TJ (fun vi:(List LD_)=>[some ((zE eS) vo),some ((oE (eT eD)) vi),none,none,none]) vi rfl (Zr (Zg (x_call J5 (cP (aq 0 (zE eS) vo rfl) bC)))) _ (fun _ _=>rfl) (fun (vi:List LD_) (q1:Et)=>((xJ vo vi q1).r:R _ _ (cC (fun vi:(List LD_)=>[some ((zE eS) vo),some ((oE (eT eD)) vi),none,none,none]) (zE (eT (eT eD)))))) (fun r=>r) (fun _=>rfl) fun vi=>(bW (fun r=>r) (zH (jY (aq 1 (lE (eT eD)) vi rfl))) (fun _=>rfl) fun _=>rfl)))
theorem Pb:∀ v bs,(aZ eS aN) v bs->bs.length=1/\(hold (some (rO v.1))->fM (bs.map lend)=some ((zE (eT (eT eD))) (lR v.1))):=by
 rintro⟨vo,_⟩ _ ⟨_,rfl,rfl⟩
 exact⟨rfl,fun h=>cH (g:=rH) (n:=5) (bs:=[.z (eS vo)]) (Pa vo) h⟩
def bad (l:Str):Bool:=(bL l).isNone
def cu (vp:Str):Dt:=match (aR vp).findIdx? bad with
 |some i=>.int (i:Nat)
 |none=>eT (eT eD) (lR vp)
def nu (vp:Str):Prop:=(pR vp/\(∀ l∈aR vp,nW l)/\(aR vp).length<=90000)/\((aR vp).findIdx? bad=none->rO vp)
theorem Z0 {i:Int} (h:0<=i/\i < 100000):FT (.int i)=true:=ZO h
def en (k:Nat):LS_->List Dt
 |[]=>[]
 |l::ls=>.tup [.int (k:Nat),.str l]::en (k+1) ls
theorem Z1:∀ (ls:LS_) (k:Nat),(List.zipWith (fun (j:Nat) x=>((j:Int),x)) (List.range' k ls.length) ls).map (eP2 eI eS)=en k ls
 |[],k=>rfl
 |l::ls,k=>by
  rw[Qr,List.range'_succ,List.zipWith_cons_cons,zz,en,Z1 ls (k+1)]
theorem acg (ls:LS_):(qT ls).map (eP2 eI eS)=en 0 ls:=by
 unfold qT
 rw[List.range_eq_range']
 exact Z1 ls 0
def r5 (vp:Str) (acc:List LD_):Ev:=[some (.z (.str vp)),some (.o (acc.map (eT eD))),none,none,none]
theorem Z2 (vp:Str):∀ (ls:LS_) (k:Nat) (acc:List LD_),(∀ l∈ls,nW l)->acc.length+ls.length<=90000->k+ls.length<=90000->KN Ra gK T6 (en k ls) (r5 vp acc)=(ls.findIdx? bad).map fun i=>.int ((k+i:Nat):Int)
 |[],k,acc,_,_,_=>rfl
 |l::ls,k,acc,hd,ha,hk=>by
  have hl:=hd l (zS ..)
  rw[Qr] at ha hk
  have e1:Ra (.tup [.int (k:Nat),.str l]) (r5 vp acc)=some [some (.z (.str vp)),some (.o (acc.map (eT eD))),some (.z (.int (k:Nat))),some (.z (.str l)),none]:=rfl
  have ec:bO 1 gH (ao (gv 3) aM) [some (.z (.str vp)),some (.o (acc.map (eT eD))),some (.z (.int (k:Nat))),some (.z (.str l)),none]=some (.z (eO (eT eD) (bL l))):=
   (x_call M7 (cP (aq 3 (zE eS) l (ρ:=[some (.z (.str vp)),some (.o (acc.map (eT eD))),some (.z (.int (k:Nat))),some (.z (.str l)),none]) rfl) bC)).ok hl
  have e2:setG 4 (bO 1 gH (ao (gv 3) aM)) [some (.z (.str vp)),some (.o (acc.map (eT eD))),some (.z (.int (k:Nat))),some (.z (.str l)),none]=some (.nx [some (.z (.str vp)),some (.o (acc.map (eT eD))),some (.z (.int (k:Nat))),some (.z (.str l)),some (.z (eO (eT eD) (bL l)))]):=by
   unfold setG
   rw[ec]
   rfl
  show (Ra (.tup [.int (k:Nat),.str l]) (r5 vp acc)).bind _=_
  rw[e1,bnd]
  cases hr:bL l with
  |none=>
   have e3:T6 [some (.z (.str vp)),some (.o (acc.map (eT eD))),some (.z (.int (k:Nat))),some (.z (.str l)),none]=some (.int (k:Nat)):=by
    have ok:FT (.int (k:Nat))=true:=Z0 ⟨Int.natCast_nonneg k,by omega⟩
    have hr4:rzX FT (gv 2) [some (.z (.str vp)),some (.o (acc.map (eT eD))),some (.z (.int (k:Nat))),some (.z (.str l)),some (.z .non)]=some (.int (k:Nat)):=by
     unfold rzX
     rw[show gv 2 [some (.z (.str vp)),some (.o (acc.map (eT eD))),some (.z (.int (k:Nat))),some (.z (.str l)),some (.z .non)]=some (.z (.int (k:Nat))) from rfl,bnd]
     show (some (Dt.int (k:Nat))).bind _=_
     rw[bnd,zo ok]
    unfold T6 Jg
    rw[e2,hr,bnd]
    show ifX _ _ _ [some (.z (.str vp)),some (.o (acc.map (eT eD))),some (.z (.int (k:Nat))),some (.z (.str l)),some (.z .non)]=_
    unfold ifX
    rw[show qZ isB (gv 4) (cB .non) [some (.z (.str vp)),some (.o (acc.map (eT eD))),some (.z (.int (k:Nat))),some (.z (.str l)),some (.z .non)]=some true from rfl,bnd,zo rfl,hr4]
   try dsimp only
   rw[e3,List.findIdx?_cons,show bad l=true by unfold bad;rw[hr];rfl,zo rfl]
   rfl
  |some x=>
   have e3:T6 [some (.z (.str vp)),some (.o (acc.map (eT eD))),some (.z (.int (k:Nat))),some (.z (.str l)),none]=none:=by
    unfold T6 Jg
    rw[e2,hr,bnd]
    rfl
   have e4:=xJ vp acc ((k:Int),l) (show fG acc ((k:Int),l) by
    unfold fG
    dsimp only
    rw[hr]
    exact⟨hl,(fun z=>nomatch z),fun _=>⟨rfl,by unfold mC;omega⟩⟩)
   have e5:gK [some (.z (.str vp)),some (.o (acc.map (eT eD))),some (.z (.int (k:Nat))),some (.z (.str l)),none]=some (.nx (r5 vp (acc++[x]))):=by
    refine e4.trans ?_
    show some (cC _ _ (cU acc ((k:Int),l)))=_
    unfold cU
    dsimp only
    rw[hr]
    rfl
   try dsimp only
   rw[e3]
   try dsimp only
   rw[e5,bnd]
   try dsimp only
   rw[Z2 vp ls (k+1) (acc++[x]) (fun m hm=>hd m (zI _ hm)) (by rw[zl,Zl];omega) (by omega),List.findIdx?_cons,show bad l=false by unfold bad;rw[hr];rfl,Zs zg,Option.map_map]
   congr 1
   funext i
   show Dt.int _=Dt.int _
   rw[show k+1+i=k+(i+1) by omega]
theorem amP (vp:Str) (h:pR vp/\(∀ l∈aR vp,nW l)/\(aR vp).length<=90000):yO 5 Ae [.z (.str vp)]=((aR vp).findIdx? bad).map fun i=>.int (i:Nat):=by
 obtain⟨h1,h2,h3⟩:=h
 have e1:setG 1 (dj iM aM) [some (.z (.str vp)),none,none,none,none]=some (.nx (r5 vp [])):=rfl
 have e2:Vw 1 (yO 1 FW) (ao (gv 0) aM) (r5 vp [])=none:=rfl
 have e3:=(Zr (Zg (x_call J5 (cP (aq 0 (zE eS) vp (ρ:=r5 vp []) rfl) bC)))).ok h1
 show Ae [some (.z (.str vp)),none,none,none,none]=_
 unfold Ae Jg
 rw[e1,bnd]
 try dsimp only
 unfold orX
 rw[e2]
 try dsimp only
 rw[e3,bnd]
 show KN Ra gK T6 ((qT (aR vp)).map (eP2 eI eS)) (r5 vp [])=_
 rw[acg,Z2 vp (aR vp) 0 [] h2 (by simpa using h3) (by simpa using h3)]
 congr 1
 funext i
 rw[Nat.zero_add]
theorem Bm:∀ v bs,(aZ eS aN) v bs->bs.length=1/\(hold (some (nu v.1))->cT (bs.map lend)=some ((zE eD) (cu v.1))):=by
 rintro⟨vp,_⟩ _ ⟨_,rfl,rfl⟩
 refine⟨rfl,fun h=>?_⟩
 obtain⟨h1,h2⟩:nu vp:=h
 show cT [.z (.str vp)]=some (.z (cu vp))
 unfold cT cu
 rw[amP vp h1]
 cases hq:(aR vp).findIdx? bad with
 |some i=>rfl
 |none=>exact (Pb (vp,()) [.z (.str vp)] ⟨_,rfl,rfl⟩).2 (h2 hq)
def gC (v8:LI_) (yD:Str) (v2:Int) (xK:Str) (Le:Int):Str:=(let xK:=(xK++(ch yD (((at' v8 ((1:Int)+v2)) / ((8:Int)+Le)) % (26:Int))));xK)
def nA (v8:LI_) (yD:Str) (v2:Int) (xK:Str) (Le:Int):Prop:=(((In v8.length ((1:Int)+v2)/\(0 < ((8:Int)+Le)/\((8:Int)+Le) < 1073741824))/\In yD.length (((at' v8 ((1:Int)+v2)) / ((8:Int)+Le)) % (26:Int)))/\mC (xK.length+(ch yD (((at' v8 ((1:Int)+v2)) / ((8:Int)+Le)) % (26:Int))).length))
theorem Bo (v8:LI_) {fL:Bx} (gD:Lp fL (v8.map eI)) (yD:Str) (n8:LS_) (v2:Int) (xK:Str) (Le:Int):RP sG [some fL,some ((zE eS) yD),some ((oE eS) n8),some ((zE eI) v2),some ((zE eS) xK),some ((zE eI) Le),none] (fun s=>Out.nx ((fun xK:Str=>[some fL,some ((zE eS) yD),some ((oE eS) n8),some ((zE eI) v2),some ((zE eS) xK),none,none]) s)) (gC v8 yD v2 xK Le) (some (nA v8 yD v2 xK Le)):=R.tp (bw (cF 4 (uH (aq 4 (zE eS) xK rfl) (QG (aq 1 (zE eS) yD rfl) (dR (aew (ig (cW 0 eI v8 gD rfl) (eU (x_i 1) (aq 3 (zE eI) v2 rfl))) (eU (x_i 8) (aq 5 (zE eI) Le rfl))) 26 (by decide)))) (fun _=>rfl) fun xK=>(bM (eY xK rfl))))
def cD (v8:LI_) (yD:Str) (n8:LS_) (v2:Int):LS_:=(let xK:=(ch yD (((at' v8 (0:Int))+((5:Int) * v2)) % (26:Int)));(let xK:Str:=((rng 0 ((at' v8 ((1:Int)+v2)) % (8:Int)).toNat).foldl (fun (xK:Str) (Le:Int)=>(gC v8 yD v2 xK Le)) xK);(let n8:=n8++[xK];n8)))
def jw (v8:LI_) (yD:Str) (n8:LS_) (v2:Int):Prop:=((In v8.length (0:Int)/\In yD.length (((at' v8 (0:Int))+((5:Int) * v2)) % (26:Int)))/\(let xK:=(ch yD (((at' v8 (0:Int))+((5:Int) * v2)) % (26:Int)));(((In v8.length ((1:Int)+v2)/\Rg ((at' v8 ((1:Int)+v2)) % (8:Int)))/\Ep (fun (xK:Str) (Le:Int)=>(gC v8 yD v2 xK Le)) (fun (xK:Str) (Le:Int)=>some (nA v8 yD v2 xK Le)) (rng 0 ((at' v8 ((1:Int)+v2)) % (8:Int)).toNat) xK)/\(let xK:Str:=((rng 0 ((at' v8 ((1:Int)+v2)) % (8:Int)).toNat).foldl (fun (xK:Str) (Le:Int)=>(gC v8 yD v2 xK Le)) xK);mC n8.length))))
theorem Bp (v8:LI_) {fL:Bx} (gD:Lp fL (v8.map eI)) (yD:Str) (n8:LS_) (v2:Int):RP sH [some fL,some ((zE eS) yD),some ((oE eS) n8),some ((zE eI) v2),none,none,none] (fun s=>Out.nx ((fun n8:LS_=>[some fL,some ((zE eS) yD),some ((oE eS) n8),none,none,none,none]) s)) (cD v8 yD n8 v2) (some (jw v8 yD n8 v2)):=R.tp (bw (cF 4 (QG (aq 1 (zE eS) yD rfl) (dR (eU (ig (cW 0 eI v8 gD rfl) (x_i 0)) (Iz 5 (by decide) (aq 3 (zE eI) v2 rfl))) 26 (by decide))) (fun _=>rfl) fun xK=>(bw (Mw (fun xK:Str=>[some fL,some ((zE eS) yD),some ((oE eS) n8),some ((zE eI) v2),some ((zE eS) xK),none,none]) xK rfl (QM (dR (ig (cW 0 eI v8 gD rfl) (eU (x_i 1) (aq 3 (zE eI) v2 rfl))) 8 (by decide))) _ (fun _ _=>rfl) (fun (xK:Str) (Le:Int)=>(Bo v8 gD yD n8 v2 xK Le).r) fun xK=>(bw (CN 2 n8 rfl (aq 4 (zE eS) xK rfl) fun n8=>(bM (eY n8 rfl))))))))
def cV (v8:LI_):LD_:=(let yD:=("abcdefghijklmnopqrstuvwxyz" : Str);(let n8:=([]:LS_);(let n8:LS_:=((rng 0 (kN 5)).foldl (fun (n8:LS_) (v2:Int)=>(cD v8 yD n8 v2)) n8);(let vg:=(("both" : Str),(at' n8 (1:Int)),(at' n8 (2:Int)),((1:Int)+((at' v8 (7:Int)) % (1000:Int))));[(Dt.tup [(Dt.str "same"),(eS (at' n8 (0:Int))),(eI ((1:Int)+((at' v8 (6:Int)) % (1000:Int))))]),(agN vg),(Dt.tup [(Dt.str "begin"),(eS (at' n8 (3:Int))),(eI ((1:Int)+((at' v8 (8:Int)) % (12:Int)))),(Dt.int 7)]),(Dt.tup [(Dt.str "never"),(eS (at' n8 (4:Int)))])]))))
def jD (v8:LI_):Prop:=(let yD:=("abcdefghijklmnopqrstuvwxyz" : Str);(let n8:=([]:LS_);(Ep (fun (n8:LS_) (v2:Int)=>(cD v8 yD n8 v2)) (fun (n8:LS_) (v2:Int)=>some (jw v8 yD n8 v2)) (rng 0 (kN 5)) n8/\(let n8:LS_:=((rng 0 (kN 5)).foldl (fun (n8:LS_) (v2:Int)=>(cD v8 yD n8 v2)) n8);((In n8.length (1:Int)/\(In n8.length (2:Int)/\In v8.length (7:Int)))/\(let vg:=(("both" : Str),(at' n8 (1:Int)),(at' n8 (2:Int)),((1:Int)+((at' v8 (7:Int)) % (1000:Int))));((In n8.length (0:Int)/\In v8.length (6:Int))/\((In n8.length (3:Int)/\In v8.length (8:Int))/\In n8.length (4:Int)))))))))
theorem GD (v8:LI_) {fL:Bx} (gD:Lp fL (v8.map eI)):RP mO [some fL,none,none,none,none,none,none] (fun r=>Out.rt ((zE (eT eD)) r)) (cV v8) (some (jD v8)):=R.tp (cF 1 (jV "abcdefghijklmnopqrstuvwxyz") (fun _=>rfl) fun yD=>(cF 2 (gQ (bQ eS) (zd rfl)) (fun _=>rfl) fun n8=>(Mw (fun n8:LS_=>[some fL,some ((zE eS) yD),some ((oE eS) n8),none,none,none,none]) n8 rfl (aeM 5 5 rfl (by unfold Rg;decide)) _ (fun _ _=>rfl) (fun (n8:LS_) (v2:Int)=>(Bp v8 gD yD n8 v2).r) fun n8=>(cF 6 (aeB (jV "both") (ig (jY (aq 2 (lE eS) n8 rfl)) (x_i 1)) (ig (jY (aq 2 (lE eS) n8 rfl)) (x_i 2)) (iT (eU (x_i 1) (dR (ig (cW 0 eI v8 gD rfl) (x_i 7)) 1000 (by decide))))) (fun _=>rfl) fun vg=>(bW (fun r=>r) (Zh (aC (oH (aC (x_k (.str "same")) (aC (iR (ig (jY (aq 2 (lE eS) n8 rfl)) (x_i 0))) (aC (iR (iT (eU (x_i 1) (dR (ig (cW 0 eI v8 gD rfl) (x_i 6)) 1000 (by decide))))) (bQ eD)))) (zd rfl)) (aC (iR (aq 6 (zE agN) vg rfl)) (aC (oH (aC (x_k (.str "begin")) (aC (iR (ig (jY (aq 2 (lE eS) n8 rfl)) (x_i 3))) (aC (iR (iT (eU (x_i 1) (dR (ig (cW 0 eI v8 gD rfl) (x_i 8)) 12 (by decide))))) (aC (x_k (.int 7)) (bQ eD))))) (zd rfl)) (aC (oH (aC (x_k (.str "never")) (aC (iR (ig (jY (aq 2 (lE eS) n8 rfl)) (x_i 4))) (bQ eD))) (zd rfl)) (bQ eD))))) (zd rfl)) (fun _=>rfl) fun _=>rfl)))))
theorem GF:∀ v bs,(aL eI aN) v bs->bs.length=1/\(hold (some (jD v.1))->fj (bs.map lend)=some ((zE (eT eD)) (cV v.1))):=by
 rintro⟨v8,_⟩ _ ⟨fL,_,rfl,gD,rfl⟩
 exact⟨rfl,fun h=>cH (g:=mO) (n:=7) (bs:=[lend fL]) (GD v8 (Mt gD)) h⟩
def oX (mD:Str) (Z4:Int) (Lg:Int):Str:=(let Xr:=("abcdefghijklmnopqrstuvwxyz0123456789 ABCDEFGHIJKLMNOPQRSTUVWXYZ" : Str);(let Xr:=(Xr++("!#$&'()*+,-./:;<=>?\x40[]^_`{|}~\"\\" : Str));(let GJ:=(ch Xr ((Lg / (6:Int)) % (at' [(36:Int),(94:Int)] ((Lg / (3:Int)) % (2:Int)))));(let bV:=(Z4 % ((mD.length:Int)+(1:Int)));(at' [(((Txt.slice mD none (some bV))++GJ)++(Txt.slice mD (some bV) none)),(((Txt.slice mD none (some bV))++GJ)++(Txt.slice mD (some (bV+(1:Int))) none)),((Txt.slice mD none (some bV))++(Txt.slice mD (some (bV+(1:Int))) none))] (Lg % (3:Int)))))))
def rP (mD:Str) (Z4:Int) (Lg:Int):Prop:=(let Xr:=("abcdefghijklmnopqrstuvwxyz0123456789 ABCDEFGHIJKLMNOPQRSTUVWXYZ" : Str);(mC (Xr.length+("!#$&'()*+,-./:;<=>?\x40[]^_`{|}~\"\\" : Str).length)/\(let Xr:=(Xr++("!#$&'()*+,-./:;<=>?\x40[]^_`{|}~\"\\" : Str));(((In [(36:Int),(94:Int)].length ((Lg / (3:Int)) % (2:Int))/\0 < (at' [(36:Int),(94:Int)] ((Lg / (3:Int)) % (2:Int))))/\In Xr.length ((Lg / (6:Int)) % (at' [(36:Int),(94:Int)] ((Lg / (3:Int)) % (2:Int)))))/\(let GJ:=(ch Xr ((Lg / (6:Int)) % (at' [(36:Int),(94:Int)] ((Lg / (3:Int)) % (2:Int)))));(0 < ((mD.length:Int)+(1:Int))/\(let bV:=(Z4 % ((mD.length:Int)+(1:Int)));(((mC ((Txt.slice mD none (some bV)).length+GJ.length)/\mC (((Txt.slice mD none (some bV))++GJ).length+(Txt.slice mD (some bV) none).length))/\((mC ((Txt.slice mD none (some bV)).length+GJ.length)/\mC (((Txt.slice mD none (some bV))++GJ).length+(Txt.slice mD (some (bV+(1:Int))) none).length))/\mC ((Txt.slice mD none (some bV)).length+(Txt.slice mD (some (bV+(1:Int))) none).length)))/\In [(((Txt.slice mD none (some bV))++GJ)++(Txt.slice mD (some bV) none)),(((Txt.slice mD none (some bV))++GJ)++(Txt.slice mD (some (bV+(1:Int))) none)),((Txt.slice mD none (some bV))++(Txt.slice mD (some (bV+(1:Int))) none))].length (Lg % (3:Int))))))))))
theorem Pg (mD:Str) (Z4:Int) (Lg:Int):RP rJ [some ((zE eS) mD),some ((zE eI) Z4),some ((zE eI) Lg),none,none,none] (fun r=>Out.rt ((zE eS) r)) (oX mD Z4 Lg) (some (rP mD Z4 Lg)):=R.tp (cF 3 (jV "abcdefghijklmnopqrstuvwxyz0123456789 ABCDEFGHIJKLMNOPQRSTUVWXYZ") (fun _=>rfl) fun Xr=>(cF 3 (uH (aq 3 (zE eS) Xr rfl) (jV "!#$&'()*+,-./:;<=>?\x40[]^_`{|}~\"\\")) (fun _=>rfl) fun Xr=>(cF 4 (QG (aq 3 (zE eS) Xr rfl) (Vh (q9 (aq 2 (zE eI) Lg rfl) 6 (by decide)) (ig (dw (gQ (aC (x_i 36) (aC (x_i 94) (bQ eI))) (zd rfl))) (dR (q9 (aq 2 (zE eI) Lg rfl) 3 (by decide)) 2 (by decide))))) (fun _=>rfl) fun GJ=>(cF 5 (Vh (aq 1 (zE eI) Z4 rfl) (eU (Eo (aq 0 (zE eS) mD rfl)) (x_i 1))) (fun _=>rfl) fun bV=>(bW (fun r=>r) (ig (dw (gQ (aC (iT (uH (uH (Mu (aq 0 (zE eS) mD rfl) mU (mz (aq 5 (zE eI) bV rfl))) (aq 4 (zE eS) GJ rfl)) (Mu (aq 0 (zE eS) mD rfl) (mz (aq 5 (zE eI) bV rfl)) mU))) (aC (iT (uH (uH (Mu (aq 0 (zE eS) mD rfl) mU (mz (aq 5 (zE eI) bV rfl))) (aq 4 (zE eS) GJ rfl)) (Mu (aq 0 (zE eS) mD rfl) (mz (eU (aq 5 (zE eI) bV rfl) (x_i 1))) mU))) (aC (iT (uH (Mu (aq 0 (zE eS) mD rfl) mU (mz (aq 5 (zE eI) bV rfl))) (Mu (aq 0 (zE eS) mD rfl) (mz (eU (aq 5 (zE eI) bV rfl) (x_i 1))) mU))) (bQ eS)))) (zd rfl))) (dR (aq 2 (zE eI) Lg rfl) 3 (by decide))) (fun _=>rfl) fun _=>rfl)))))
theorem Ph:∀ v bs,(aZ eS (aZ eI (aZ eI aN))) v bs->bs.length=3/\(hold (some (rP v.1 v.2.1 v.2.2.1))->gY (bs.map lend)=some ((zE eS) (oX v.1 v.2.1 v.2.2.1))):=by
 rintro⟨mD,Z4,Lg,_⟩ _ ⟨_,rfl,⟨_,rfl,⟨_,rfl,rfl⟩⟩⟩
 exact⟨rfl,fun h=>cH (g:=rJ) (n:=6) (bs:=[.z (eS mD),.z (eI Z4),.z (eI Lg)]) (Pg mD Z4 Lg) h⟩
def jE (aY:LS_) (v8:LI_) (vg:LS_) (bV:Int) (dZ:LS_) (v2:Int) (ve:Int) (Ea:Str):LS_:=(if (decide (ve < (3:Int)))=true then (let lV:=(Txt.join " " (((cut dZ none (some v2))++[Ea])++(cut dZ (some (v2+(1:Int))) none)));(((cut aY none (some bV))++[lV])++(cut aY (some (bV+(1:Int))) none))) else (if (decide (ve=(3:Int)))=true then (let lV:=(Txt.join " " (((cut dZ none (some v2))++[Ea])++(cut dZ (some v2) none)));(((cut aY none (some bV))++[lV])++(cut aY (some (bV+(1:Int))) none))) else (if (decide (ve=(4:Int)))=true then (let lV:=(Txt.join " " ((cut dZ none (some v2))++(cut dZ (some (v2+(1:Int))) none)));(((cut aY none (some bV))++[lV])++(cut aY (some (bV+(1:Int))) none))) else (if (decide (ve=(5:Int)))=true then (let lV:=(at' [((" " : Str)++(at' aY bV)),((at' aY bV)++(" " : Str)),(Txt.replace (at' aY bV) " " "  "),(Txt.upper (at' aY bV)),("" : Str)] ((at' v8 (3:Int)) % (5:Int)));(((cut aY none (some bV))++[lV])++(cut aY (some (bV+(1:Int))) none))) else (if (decide ((8:Int) < ve))=true then (let lV:=(oX (at' aY bV) (at' v8 (1:Int)) (at' v8 (3:Int)));(((cut aY none (some bV))++[lV])++(cut aY (some (bV+(1:Int))) none))) else (if (decide (ve=(6:Int)))=true then (((cut aY none (some bV))++[(at' aY bV)])++(cut aY (some bV) none)) else (if ((decide (ve=(7:Int)))&&(decide ((1:Int) < (aY.length:Int))))=true then ((cut aY none (some bV))++(cut aY (some (bV+(1:Int))) none)) else (let lV:=Ea;(((cut aY none (some bV))++[lV])++(cut aY (some (bV+(1:Int))) none))))))))))
def qQ (aY:LS_) (v8:LI_) (vg:LS_) (bV:Int) (dZ:LS_) (v2:Int) (ve:Int) (Ea:Str):Prop:=(((decide (ve < (3:Int)))=true->(((mC ((cut dZ none (some v2)).length+[Ea].length)/\mC (((cut dZ none (some v2))++[Ea]).length+(cut dZ (some (v2+(1:Int))) none).length))/\((((cut dZ none (some v2))++[Ea])++(cut dZ (some (v2+(1:Int))) none)).map (·.length)).sum+(((cut dZ none (some v2))++[Ea])++(cut dZ (some (v2+(1:Int))) none)).length * (" " : Str).length<=100000)/\(let lV:=(Txt.join " " (((cut dZ none (some v2))++[Ea])++(cut dZ (some (v2+(1:Int))) none)));(mC ((cut aY none (some bV)).length+[lV].length)/\mC (((cut aY none (some bV))++[lV]).length+(cut aY (some (bV+(1:Int))) none).length)))))/\((decide (ve < (3:Int)))=false->(((decide (ve=(3:Int)))=true->(((mC ((cut dZ none (some v2)).length+[Ea].length)/\mC (((cut dZ none (some v2))++[Ea]).length+(cut dZ (some v2) none).length))/\((((cut dZ none (some v2))++[Ea])++(cut dZ (some v2) none)).map (·.length)).sum+(((cut dZ none (some v2))++[Ea])++(cut dZ (some v2) none)).length * (" " : Str).length<=100000)/\(let lV:=(Txt.join " " (((cut dZ none (some v2))++[Ea])++(cut dZ (some v2) none)));(mC ((cut aY none (some bV)).length+[lV].length)/\mC (((cut aY none (some bV))++[lV]).length+(cut aY (some (bV+(1:Int))) none).length)))))/\((decide (ve=(3:Int)))=false->(((decide (ve=(4:Int)))=true->((mC ((cut dZ none (some v2)).length+(cut dZ (some (v2+(1:Int))) none).length)/\(((cut dZ none (some v2))++(cut dZ (some (v2+(1:Int))) none)).map (·.length)).sum+((cut dZ none (some v2))++(cut dZ (some (v2+(1:Int))) none)).length * (" " : Str).length<=100000)/\(let lV:=(Txt.join " " ((cut dZ none (some v2))++(cut dZ (some (v2+(1:Int))) none)));(mC ((cut aY none (some bV)).length+[lV].length)/\mC (((cut aY none (some bV))++[lV]).length+(cut aY (some (bV+(1:Int))) none).length)))))/\((decide (ve=(4:Int)))=false->(((decide (ve=(5:Int)))=true->(((((In aY.length bV/\mC ((" " : Str).length+(at' aY bV).length))/\((In aY.length bV/\mC ((at' aY bV).length+(" " : Str).length))/\((In aY.length bV/\((at' aY bV).length<=30000/\(Txt.replace (at' aY bV) " " "  ").length<=100000))/\(In aY.length bV/\Builtin.Str.tooLong (Txt.upper (at' aY bV)).length=false))))/\In v8.length (3:Int))/\In [((" " : Str)++(at' aY bV)),((at' aY bV)++(" " : Str)),(Txt.replace (at' aY bV) " " "  "),(Txt.upper (at' aY bV)),("" : Str)].length ((at' v8 (3:Int)) % (5:Int)))/\(let lV:=(at' [((" " : Str)++(at' aY bV)),((at' aY bV)++(" " : Str)),(Txt.replace (at' aY bV) " " "  "),(Txt.upper (at' aY bV)),("" : Str)] ((at' v8 (3:Int)) % (5:Int)));(mC ((cut aY none (some bV)).length+[lV].length)/\mC (((cut aY none (some bV))++[lV]).length+(cut aY (some (bV+(1:Int))) none).length)))))/\((decide (ve=(5:Int)))=false->(((decide ((8:Int) < ve))=true->(((In aY.length bV/\(In v8.length (1:Int)/\In v8.length (3:Int)))/\(rP (at' aY bV) (at' v8 (1:Int)) (at' v8 (3:Int))))/\(let lV:=(oX (at' aY bV) (at' v8 (1:Int)) (at' v8 (3:Int)));(mC ((cut aY none (some bV)).length+[lV].length)/\mC (((cut aY none (some bV))++[lV]).length+(cut aY (some (bV+(1:Int))) none).length)))))/\((decide ((8:Int) < ve))=false->(((decide (ve=(6:Int)))=true->((In aY.length bV/\mC ((cut aY none (some bV)).length+[(at' aY bV)].length))/\mC (((cut aY none (some bV))++[(at' aY bV)]).length+(cut aY (some bV) none).length)))/\((decide (ve=(6:Int)))=false->((((decide (ve=(7:Int)))&&(decide ((1:Int) < (aY.length:Int))))=true->mC ((cut aY none (some bV)).length+(cut aY (some (bV+(1:Int))) none).length))/\(((decide (ve=(7:Int)))&&(decide ((1:Int) < (aY.length:Int))))=false->(let lV:=Ea;(mC ((cut aY none (some bV)).length+[lV].length)/\mC (((cut aY none (some bV))++[lV]).length+(cut aY (some (bV+(1:Int))) none).length)))))))))))))))))
def xM:Ev->Option Out:=(aG (rR (qZ Tz (gv 6) (cB (.int 3))) (aG (setG 8 (b1 (sy " ") (b2 bU (b2 bU (uE (gv 4) cM (dN (gv 5))) (dj iM (ao (gv 7) aM))) (uE (gv 4) (dN (b2 bU (gv 5) (cB (.int 1)))) cM)))) dI) (aG (rR (qZ eqB (gv 6) (cB (.int 3))) (aG (setG 8 (b1 (sy " ") (b2 bU (b2 bU (uE (gv 4) cM (dN (gv 5))) (dj iM (ao (gv 7) aM))) (uE (gv 4) (dN (gv 5)) cM)))) dI) (aG (rR (qZ eqB (gv 6) (cB (.int 4))) (aG (setG 8 (b1 (sy " ") (b2 bU (uE (gv 4) cM (dN (gv 5))) (uE (gv 4) (dN (b2 bU (gv 5) (cB (.int 1)))) cM)))) dI) (aG (rR (qZ eqB (gv 6) (cB (.int 5))) (aG (setG 8 (b2 fK (dj iM (ao (b1 sU (b2 bU (cB (.str " ")) (b2 fK (gv 0) (gv 3)))) (ao (b1 sU (b2 bU (b2 fK (gv 0) (gv 3)) (cB (.str " ")))) (ao (b1 sU (b1 (Oe " " "  ") (b2 fK (gv 0) (gv 3)))) (ao (b1 sU (b1 upB (b2 fK (gv 0) (gv 3)))) (ao (cB (.str "")) aM)))))) (b2 gP (b2 fK (gv 1) (cB (.int 3))) (cB (.int 5))))) dI) (aG (rR (qZ gtB (gv 6) (cB (.int 8))) (aG (setG 8 (bO 3 gY (ao (b2 fK (gv 0) (gv 3)) (ao (b2 fK (gv 1) (cB (.int 1))) (ao (b2 fK (gv 1) (cB (.int 3))) aM))))) dI) (aG (rR (qZ eqB (gv 6) (cB (.int 6))) (aG (dY (b2 bU (b2 bU (uE (gv 0) cM (dN (gv 3))) (dj iM (ao (b2 fK (gv 0) (gv 3)) aM))) (uE (gv 0) (dN (gv 3)) cM))) dI) (aG (rR (Ny (qZ eqB (gv 6) (cB (.int 7))) (qZ gtB (dj qF (ao (gv 0) aM)) (cB (.int 1)))) (aG (dY (b2 bU (uE (gv 0) cM (dN (gv 3))) (uE (gv 0) (dN (b2 bU (gv 3) (cB (.int 1)))) cM))) dI) (aG (setG 8 (gv 7)) dI)) dI)) dI)) dI)) dI)) dI)) dI)) (aG (dY (b2 bU (b2 bU (uE (gv 0) cM (dN (gv 3))) (dj iM (ao (gv 8) aM))) (uE (gv 0) (dN (b2 bU (gv 3) (cB (.int 1)))) cM))) dI))
theorem GK (aY:LS_) {fL:Bx} (gD:Lp fL (aY.map eS)) (v8:LI_) {b_1:Bx} (h_1:Lp b_1 (v8.map eI)) (vg:LS_) (bV:Int) (dZ:LS_) (v2:Int) (ve:Int) (Ea:Str):RP xM [some fL,some b_1,some ((oE eS) vg),some ((zE eI) bV),some ((oE eS) dZ),some ((zE eI) v2),some ((zE eI) ve),some ((zE eS) Ea),none] (fun r=>Out.rt ((oE eS) r)) (jE aY v8 vg bV dZ v2 ve Ea) (some (qQ aY v8 vg bV dZ v2 ve Ea)):=R.tp (gR (eV (CG (aq 6 (zE eI) ve rfl) (x_i 3))) (bw (cF 8 (yL " " (dw (gn (dw (gn (dw (qN (jY (aq 4 (lE eS) dZ rfl)) mU (mz (aq 5 (zE eI) v2 rfl)))) (dw (gQ (aC (aq 7 (zE eS) Ea rfl) (bQ eS)) (zd rfl))))) (dw (qN (jY (aq 4 (lE eS) dZ rfl)) (mz (eU (aq 5 (zE eI) v2 rfl) (x_i 1))) mU))))) (fun _=>rfl) fun lV=>(bM (bW (fun r=>r) (gn (dw (gn (dw (qN (cW 0 eS aY gD rfl) mU (mz (aq 3 (zE eI) bV rfl)))) (dw (gQ (aC (aq 8 (zE eS) lV rfl) (bQ eS)) (zd rfl))))) (dw (qN (cW 0 eS aY gD rfl) (mz (eU (aq 3 (zE eI) bV rfl) (x_i 1))) mU))) (fun _=>rfl) fun _=>rfl)))) (bw (gR (eV (x_eq (by decide) (aq 6 (zE eI) ve rfl) (x_i 3))) (bw (cF 8 (yL " " (dw (gn (dw (gn (dw (qN (jY (aq 4 (lE eS) dZ rfl)) mU (mz (aq 5 (zE eI) v2 rfl)))) (dw (gQ (aC (aq 7 (zE eS) Ea rfl) (bQ eS)) (zd rfl))))) (dw (qN (jY (aq 4 (lE eS) dZ rfl)) (mz (aq 5 (zE eI) v2 rfl)) mU))))) (fun _=>rfl) fun lV=>(bM (bM (bW (fun r=>r) (gn (dw (gn (dw (qN (cW 0 eS aY gD rfl) mU (mz (aq 3 (zE eI) bV rfl)))) (dw (gQ (aC (aq 8 (zE eS) lV rfl) (bQ eS)) (zd rfl))))) (dw (qN (cW 0 eS aY gD rfl) (mz (eU (aq 3 (zE eI) bV rfl) (x_i 1))) mU))) (fun _=>rfl) fun _=>rfl))))) (bw (gR (eV (x_eq (by decide) (aq 6 (zE eI) ve rfl) (x_i 4))) (bw (cF 8 (yL " " (dw (gn (dw (qN (jY (aq 4 (lE eS) dZ rfl)) mU (mz (aq 5 (zE eI) v2 rfl)))) (dw (qN (jY (aq 4 (lE eS) dZ rfl)) (mz (eU (aq 5 (zE eI) v2 rfl) (x_i 1))) mU))))) (fun _=>rfl) fun lV=>(bM (bM (bM (bW (fun r=>r) (gn (dw (gn (dw (qN (cW 0 eS aY gD rfl) mU (mz (aq 3 (zE eI) bV rfl)))) (dw (gQ (aC (aq 8 (zE eS) lV rfl) (bQ eS)) (zd rfl))))) (dw (qN (cW 0 eS aY gD rfl) (mz (eU (aq 3 (zE eI) bV rfl) (x_i 1))) mU))) (fun _=>rfl) fun _=>rfl)))))) (bw (gR (eV (x_eq (by decide) (aq 6 (zE eI) ve rfl) (x_i 5))) (bw (cF 8 (ig (dw (gQ (aC (iT (uH (jV " ") (ig (cW 0 eS aY gD rfl) (aq 3 (zE eI) bV rfl)))) (aC (iT (uH (ig (cW 0 eS aY gD rfl) (aq 3 (zE eI) bV rfl)) (jV " "))) (aC (iT (agK " " "  " (ig (cW 0 eS aY gD rfl) (aq 3 (zE eI) bV rfl)))) (aC (iT (ai6 (ig (cW 0 eS aY gD rfl) (aq 3 (zE eI) bV rfl)))) (aC (jV "") (bQ eS)))))) (zd rfl))) (dR (ig (cW 1 eI v8 h_1 rfl) (x_i 3)) 5 (by decide))) (fun _=>rfl) fun lV=>(bM (bM (bM (bM (bW (fun r=>r) (gn (dw (gn (dw (qN (cW 0 eS aY gD rfl) mU (mz (aq 3 (zE eI) bV rfl)))) (dw (gQ (aC (aq 8 (zE eS) lV rfl) (bQ eS)) (zd rfl))))) (dw (qN (cW 0 eS aY gD rfl) (mz (eU (aq 3 (zE eI) bV rfl) (x_i 1))) mU))) (fun _=>rfl) fun _=>rfl))))))) (bw (gR (eV (abG (aq 6 (zE eI) ve rfl) (x_i 8))) (bw (cF 8 (x_call Ph (cP (ig (cW 0 eS aY gD rfl) (aq 3 (zE eI) bV rfl)) (cP (ig (cW 1 eI v8 h_1 rfl) (x_i 1)) (cP (ig (cW 1 eI v8 h_1 rfl) (x_i 3)) bC)))) (fun _=>rfl) fun lV=>(bM (bM (bM (bM (bM (bW (fun r=>r) (gn (dw (gn (dw (qN (cW 0 eS aY gD rfl) mU (mz (aq 3 (zE eI) bV rfl)))) (dw (gQ (aC (aq 8 (zE eS) lV rfl) (bQ eS)) (zd rfl))))) (dw (qN (cW 0 eS aY gD rfl) (mz (eU (aq 3 (zE eI) bV rfl) (x_i 1))) mU))) (fun _=>rfl) fun _=>rfl)))))))) (bw (gR (eV (x_eq (by decide) (aq 6 (zE eI) ve rfl) (x_i 6))) (bw (bW (fun r=>r) (gn (dw (gn (dw (qN (cW 0 eS aY gD rfl) mU (mz (aq 3 (zE eI) bV rfl)))) (dw (gQ (aC (ig (cW 0 eS aY gD rfl) (aq 3 (zE eI) bV rfl)) (bQ eS)) (zd rfl))))) (dw (qN (cW 0 eS aY gD rfl) (mz (aq 3 (zE eI) bV rfl)) mU))) (fun _=>rfl) fun _=>rfl)) (bw (gR (Vi (eV (x_eq (by decide) (aq 6 (zE eI) ve rfl) (x_i 7))) (eV (abG (x_len (cW 0 eS aY gD rfl)) (x_i 1)))) (bw (bW (fun r=>r) (gn (dw (qN (cW 0 eS aY gD rfl) mU (mz (aq 3 (zE eI) bV rfl)))) (dw (qN (cW 0 eS aY gD rfl) (mz (eU (aq 3 (zE eI) bV rfl) (x_i 1))) mU))) (fun _=>rfl) fun _=>rfl)) (bw (cF 8 (aq 7 (zE eS) Ea rfl) (fun _=>rfl) fun lV=>(bM (bM (bM (bM (bM (bM (bM (bW (fun r=>r) (gn (dw (gn (dw (qN (cW 0 eS aY gD rfl) mU (mz (aq 3 (zE eI) bV rfl)))) (dw (gQ (aC (aq 8 (zE eS) lV rfl) (bQ eS)) (zd rfl))))) (dw (qN (cW 0 eS aY gD rfl) (mz (eU (aq 3 (zE eI) bV rfl) (x_i 1))) mU))) (fun _=>rfl) fun _=>rfl)))))))))))))))))))))))
def xO (aY:LS_) (v8:LI_) (vg:LS_) (bV:Int) (dZ:LS_) (v2:Int) (ve:Int):LS_:=(let Ea:=(at' vg ((at' v8 (3:Int)) % (40:Int)));(jE aY v8 vg bV dZ v2 ve Ea))
def xP (aY:LS_) (v8:LI_) (vg:LS_) (bV:Int) (dZ:LS_) (v2:Int) (ve:Int):Prop:=((In v8.length (3:Int)/\In vg.length ((at' v8 (3:Int)) % (40:Int)))/\(let Ea:=(at' vg ((at' v8 (3:Int)) % (40:Int)));(qQ aY v8 vg bV dZ v2 ve Ea)))
def xQ:Ev->Option Out:=(aG (setG 7 (b2 fK (gv 2) (b2 gP (b2 fK (gv 1) (cB (.int 3))) (cB (.int 40))))) xM)
theorem GP (aY:LS_) {fL:Bx} (gD:Lp fL (aY.map eS)) (v8:LI_) {b_1:Bx} (h_1:Lp b_1 (v8.map eI)) (vg:LS_) (bV:Int) (dZ:LS_) (v2:Int) (ve:Int):RP xQ [some fL,some b_1,some ((oE eS) vg),some ((zE eI) bV),some ((oE eS) dZ),some ((zE eI) v2),some ((zE eI) ve),none,none] (fun r=>Out.rt ((oE eS) r)) (xO aY v8 vg bV dZ v2 ve) (some (xP aY v8 vg bV dZ v2 ve)):=R.tp (cF 7 (ig (jY (aq 2 (lE eS) vg rfl)) (dR (ig (cW 1 eI v8 h_1 rfl) (x_i 3)) 40 (by decide))) (fun _=>rfl) fun Ea=>(GK aY gD v8 h_1 vg bV dZ v2 ve Ea).r)
def xR (aY:LS_) (v8:LI_) (vg:LS_) (bV:Int) (dZ:LS_) (v2:Int):LS_:=(let ve:=((at' v8 (2:Int)) % (12:Int));(xO aY v8 vg bV dZ v2 ve))
def xT (aY:LS_) (v8:LI_) (vg:LS_) (bV:Int) (dZ:LS_) (v2:Int):Prop:=(In v8.length (2:Int)/\(let ve:=((at' v8 (2:Int)) % (12:Int));(xP aY v8 vg bV dZ v2 ve)))
def xU:Ev->Option Out:=(aG (setG 6 (b2 gP (b2 fK (gv 1) (cB (.int 2))) (cB (.int 12)))) xQ)
theorem GQ (aY:LS_) {fL:Bx} (gD:Lp fL (aY.map eS)) (v8:LI_) {b_1:Bx} (h_1:Lp b_1 (v8.map eI)) (vg:LS_) (bV:Int) (dZ:LS_) (v2:Int):RP xU [some fL,some b_1,some ((oE eS) vg),some ((zE eI) bV),some ((oE eS) dZ),some ((zE eI) v2),none,none,none] (fun r=>Out.rt ((oE eS) r)) (xR aY v8 vg bV dZ v2) (some (xT aY v8 vg bV dZ v2)):=R.tp (cF 6 (dR (ig (cW 1 eI v8 h_1 rfl) (x_i 2)) 12 (by decide)) (fun _=>rfl) fun ve=>(GP aY gD v8 h_1 vg bV dZ v2 ve).r)
def xV (aY:LS_) (v8:LI_) (vg:LS_) (bV:Int) (dZ:LS_):LS_:=(let v2:=((at' v8 (1:Int)) % (dZ.length:Int));(xR aY v8 vg bV dZ v2))
def xW (aY:LS_) (v8:LI_) (vg:LS_) (bV:Int) (dZ:LS_):Prop:=((In v8.length (1:Int)/\0 < (dZ.length:Int))/\(let v2:=((at' v8 (1:Int)) % (dZ.length:Int));(xT aY v8 vg bV dZ v2)))
def xX:Ev->Option Out:=(aG (setG 5 (b2 gP (b2 fK (gv 1) (cB (.int 1))) (dj qF (ao (gv 4) aM)))) xU)
theorem GR (aY:LS_) {fL:Bx} (gD:Lp fL (aY.map eS)) (v8:LI_) {b_1:Bx} (h_1:Lp b_1 (v8.map eI)) (vg:LS_) (bV:Int) (dZ:LS_):RP xX [some fL,some b_1,some ((oE eS) vg),some ((zE eI) bV),some ((oE eS) dZ),none,none,none,none] (fun r=>Out.rt ((oE eS) r)) (xV aY v8 vg bV dZ) (some (xW aY v8 vg bV dZ)):=R.tp (cF 5 (Vh (ig (cW 1 eI v8 h_1 rfl) (x_i 1)) (x_len (jY (aq 4 (lE eS) dZ rfl)))) (fun _=>rfl) fun v2=>(GQ aY gD v8 h_1 vg bV dZ v2).r)
def xY (aY:LS_) (v8:LI_) (vg:LS_) (bV:Int):LS_:=(let dZ:=(Txt.split (at' aY bV) (" " : Str));(xV aY v8 vg bV dZ))
def xZ (aY:LS_) (v8:LI_) (vg:LS_) (bV:Int):Prop:=((In aY.length bV/\(((" " : Str).length==0)=false/\(at' aY bV).length<=100000))/\(let dZ:=(Txt.split (at' aY bV) (" " : Str));(xW aY v8 vg bV dZ)))
def yc:Ev->Option Out:=(aG (setG 4 (b2 Jd (b2 fK (gv 0) (gv 3)) (cB (.str " ")))) xX)
theorem GX (aY:LS_) {fL:Bx} (gD:Lp fL (aY.map eS)) (v8:LI_) {b_1:Bx} (h_1:Lp b_1 (v8.map eI)) (vg:LS_) (bV:Int):RP yc [some fL,some b_1,some ((oE eS) vg),some ((zE eI) bV),none,none,none,none,none] (fun r=>Out.rt ((oE eS) r)) (xY aY v8 vg bV) (some (xZ aY v8 vg bV)):=R.tp (cF 4 (zJ (ig (cW 0 eS aY gD rfl) (aq 3 (zE eI) bV rfl)) (jV " ")) (fun _=>rfl) fun dZ=>(GR aY gD v8 h_1 vg bV dZ).r)
def yd (aY:LS_) (v8:LI_) (vg:LS_):LS_:=(let bV:=((at' v8 (0:Int)) % (aY.length:Int));(xY aY v8 vg bV))
def yg (aY:LS_) (v8:LI_) (vg:LS_):Prop:=((In v8.length (0:Int)/\0 < (aY.length:Int))/\(let bV:=((at' v8 (0:Int)) % (aY.length:Int));(xZ aY v8 vg bV)))
def yh:Ev->Option Out:=(aG (setG 3 (b2 gP (b2 fK (gv 1) (cB (.int 0))) (dj qF (ao (gv 0) aM)))) yc)
theorem GZ (aY:LS_) {fL:Bx} (gD:Lp fL (aY.map eS)) (v8:LI_) {b_1:Bx} (h_1:Lp b_1 (v8.map eI)) (vg:LS_):RP yh [some fL,some b_1,some ((oE eS) vg),none,none,none,none,none,none] (fun r=>Out.rt ((oE eS) r)) (yd aY v8 vg) (some (yg aY v8 vg)):=R.tp (cF 3 (Vh (ig (cW 1 eI v8 h_1 rfl) (x_i 0)) (x_len (cW 0 eS aY gD rfl))) (fun _=>rfl) fun bV=>(GX aY gD v8 h_1 vg bV).r)
def yj (aY:LS_) (v8:LI_) (vg:LS_):LS_:=(let vg:=(vg++[("never p" : Str),("both" : Str),("Same" : Str),("names" : Str),("zz" : Str),("2" : Str),("00" : Str),("1 " : Str),(" 1" : Str),("same  p" : Str),("p," : Str),("10" : Str)]);(yd aY v8 vg))
def yp (aY:LS_) (v8:LI_) (vg:LS_):Prop:=(mC (vg.length+[("never p" : Str),("both" : Str),("Same" : Str),("names" : Str),("zz" : Str),("2" : Str),("00" : Str),("1 " : Str),(" 1" : Str),("same  p" : Str),("p," : Str),("10" : Str)].length)/\(let vg:=(vg++[("never p" : Str),("both" : Str),("Same" : Str),("names" : Str),("zz" : Str),("2" : Str),("00" : Str),("1 " : Str),(" 1" : Str),("same  p" : Str),("p," : Str),("10" : Str)]);(yg aY v8 vg)))
def yq:Ev->Option Out:=(aG (setG 2 (b2 bU (gv 2) (dj iM (ao (cB (.str "never p")) (ao (cB (.str "both")) (ao (cB (.str "Same")) (ao (cB (.str "names")) (ao (cB (.str "zz")) (ao (cB (.str "2")) (ao (cB (.str "00")) (ao (cB (.str "1 ")) (ao (cB (.str " 1")) (ao (cB (.str "same  p")) (ao (cB (.str "p,")) (ao (cB (.str "10")) aM))))))))))))))) yh)
theorem G3 (aY:LS_) {fL:Bx} (gD:Lp fL (aY.map eS)) (v8:LI_) {b_1:Bx} (h_1:Lp b_1 (v8.map eI)) (vg:LS_):RP yq [some fL,some b_1,some ((oE eS) vg),none,none,none,none,none,none] (fun r=>Out.rt ((oE eS) r)) (yj aY v8 vg) (some (yp aY v8 vg)):=R.tp (cF 2 (gn (jY (aq 2 (lE eS) vg rfl)) (dw (gQ (aC (jV "never p") (aC (jV "both") (aC (jV "Same") (aC (jV "names") (aC (jV "zz") (aC (jV "2") (aC (jV "00") (aC (jV "1 ") (aC (jV " 1") (aC (jV "same  p") (aC (jV "p,") (aC (jV "10") (bQ eS))))))))))))) (zd rfl)))) (fun _=>rfl) fun vg=>(GZ aY gD v8 h_1 vg).r)
def yr (aY:LS_) (v8:LI_) (vg:LS_):LS_:=(let vg:=(vg++[("1000" : Str),("1001" : Str),("01" : Str),("-1" : Str),("+1" : Str),("1.0" : Str),("1_0" : Str),("x" : Str),("999999" : Str),("None" : Str),("True" : Str),("same p 1" : Str),("p 1" : Str)]);(yj aY v8 vg))
def yt (aY:LS_) (v8:LI_) (vg:LS_):Prop:=(mC (vg.length+[("1000" : Str),("1001" : Str),("01" : Str),("-1" : Str),("+1" : Str),("1.0" : Str),("1_0" : Str),("x" : Str),("999999" : Str),("None" : Str),("True" : Str),("same p 1" : Str),("p 1" : Str)].length)/\(let vg:=(vg++[("1000" : Str),("1001" : Str),("01" : Str),("-1" : Str),("+1" : Str),("1.0" : Str),("1_0" : Str),("x" : Str),("999999" : Str),("None" : Str),("True" : Str),("same p 1" : Str),("p 1" : Str)]);(yp aY v8 vg)))
def G4:Ev->Option Out:=(aG (setG 2 (b2 bU (gv 2) (dj iM (ao (cB (.str "1000")) (ao (cB (.str "1001")) (ao (cB (.str "01")) (ao (cB (.str "-1")) (ao (cB (.str "+1")) (ao (cB (.str "1.0")) (ao (cB (.str "1_0")) (ao (cB (.str "x")) (ao (cB (.str "999999")) (ao (cB (.str "None")) (ao (cB (.str "True")) (ao (cB (.str "same p 1")) (ao (cB (.str "p 1")) aM)))))))))))))))) yq)
theorem G5 (aY:LS_) {fL:Bx} (gD:Lp fL (aY.map eS)) (v8:LI_) {b_1:Bx} (h_1:Lp b_1 (v8.map eI)) (vg:LS_):RP G4 [some fL,some b_1,some ((oE eS) vg),none,none,none,none,none,none] (fun r=>Out.rt ((oE eS) r)) (yr aY v8 vg) (some (yt aY v8 vg)):=R.tp (cF 2 (gn (jY (aq 2 (lE eS) vg rfl)) (dw (gQ (aC (jV "1000") (aC (jV "1001") (aC (jV "01") (aC (jV "-1") (aC (jV "+1") (aC (jV "1.0") (aC (jV "1_0") (aC (jV "x") (aC (jV "999999") (aC (jV "None") (aC (jV "True") (aC (jV "same p 1") (aC (jV "p 1") (bQ eS)))))))))))))) (zd rfl)))) (fun _=>rfl) fun vg=>(G3 aY gD v8 h_1 vg).r)
def oY (aY:LS_) (v8:LI_):LS_:=(let vg:=[("" : Str),("same" : Str),("never" : Str),("begin" : Str),("both" : Str),("day" : Str),("p" : Str),("P" : Str),("a1" : Str),("abcdefgh" : Str),("abcdefghi" : Str),("0" : Str),("1" : Str),("12" : Str),("13" : Str)];(yr aY v8 vg))
def rQ (aY:LS_) (v8:LI_):Prop:=(let vg:=[("" : Str),("same" : Str),("never" : Str),("begin" : Str),("both" : Str),("day" : Str),("p" : Str),("P" : Str),("a1" : Str),("abcdefgh" : Str),("abcdefghi" : Str),("0" : Str),("1" : Str),("12" : Str),("13" : Str)];(yt aY v8 vg))
theorem Pj (aY:LS_) {fL:Bx} (gD:Lp fL (aY.map eS)) (v8:LI_) {b_1:Bx} (h_1:Lp b_1 (v8.map eI)):RP rK [some fL,some b_1,none,none,none,none,none,none,none] (fun r=>Out.rt ((oE eS) r)) (oY aY v8) (some (rQ aY v8)):=R.tp (cF 2 (gQ (aC (jV "") (aC (jV "same") (aC (jV "never") (aC (jV "begin") (aC (jV "both") (aC (jV "day") (aC (jV "p") (aC (jV "P") (aC (jV "a1") (aC (jV "abcdefgh") (aC (jV "abcdefghi") (aC (jV "0") (aC (jV "1") (aC (jV "12") (aC (jV "13") (bQ eS)))))))))))))))) (zd rfl)) (fun _=>rfl) fun vg=>(G5 aY gD v8 h_1 vg).r)
theorem Pk:∀ v bs,(aL eS (aL eI aN)) v bs->bs.length=2/\(hold (some (rQ v.1 v.2.1))->jj (bs.map lend)=some ((oE eS) (oY v.1 v.2.1))):=by
 rintro⟨aY,v8,_⟩ _ ⟨fL,_,rfl,gD,⟨b_1,_,rfl,h_1,rfl⟩⟩
 exact⟨rfl,fun h=>cH (g:=rK) (n:=9) (bs:=[lend fL,lend b_1]) (Pj aY (Mt gD) v8 (Mt h_1)) h⟩
def fH (Bq:Str):(Option Int):=(if ((!((decide ((0:Int) < (Bq.length:Int)))&&(decide ((Bq.length:Int) < (7:Int)))))||(!(((chars Bq).map fun GJ:Str=>(jX GJ ("0123456789" : Str))).all id)))=true then none else (if ((decide ((ch Bq (0:Int))=("0" : Str)))&&(decide ((1:Int) < (Bq.length:Int))))=true then none else (some ((intText? Bq).getD 0))))
def jF (Bq:Str):Prop:=(((!((decide ((0:Int) < (Bq.length:Int)))&&(decide ((Bq.length:Int) < (7:Int)))))=false->(chars Bq).length<=100000)/\(((!((decide ((0:Int) < (Bq.length:Int)))&&(decide ((Bq.length:Int) < (7:Int)))))||(!(((chars Bq).map fun GJ:Str=>(jX GJ ("0123456789" : Str))).all id)))=false->(In Bq.length (0:Int)/\(((decide ((ch Bq (0:Int))=("0" : Str)))&&(decide ((1:Int) < (Bq.length:Int))))=false->(Bq.length<=640/\(intText? Bq).isSome=true)))))
theorem G6 (Bq:Str):RP mQ [some ((zE eS) Bq)] (fun r=>Out.rt ((zE (eO eI)) r)) (fH Bq) (some (jF Bq)):=R.tp (gR (Gr (w5 (aey (TF (CG (x_i 0) (Eo (aq 0 (zE eS) Bq rfl))) (CG (Eo (aq 0 (zE eS) Bq rfl)) (x_i 7))))) (w5 (CJ (QH (dw (Vl (agx (aq 0 (zE eS) Bq rfl)) _ (fun _=>rfl) (fun GJ:Str=>(Vk (aq 0 (zE eS) GJ rfl) (jV "0123456789"))) fun _=>rfl)))))) (bw (bW (fun r=>r) Em (fun _=>rfl) fun _=>rfl)) (bM (gR (Vi (eV (x_eq (by decide) (QG (aq 0 (zE eS) Bq rfl) (x_i 0)) (jV "0"))) (eV (abG (Eo (aq 0 (zE eS) Bq rfl)) (x_i 1)))) (bw (bW (fun r=>r) Em (fun _=>rfl) fun _=>rfl)) (bM (bW (fun r=>r) (N8 (iT (ZP (aq 0 (zE eS) Bq rfl)))) (fun _=>rfl) fun _=>rfl)))))
theorem G7:∀ v bs,(aZ eS aN) v bs->bs.length=1/\(hold (some (jF v.1))->fu (bs.map lend)=some ((zE (eO eI)) (fH v.1))):=by
 rintro⟨Bq,_⟩ _ ⟨_,rfl,rfl⟩
 exact⟨rfl,fun h=>cH (g:=mQ) (n:=1) (bs:=[.z (eS Bq)]) (G6 Bq) h⟩
def fX (vn:Dt):Bool:=(if ((!(bR vn))||(!((decide ((0:Int) < (n6 vn)))&&(decide ((n6 vn) < (9:Int))))))=true then false else (((DY vn).map fun GJ:Dt=>(jX (asS GJ) ("abcdefghijklmnopqrstuvwxyz" : Str))).all id))
def jM (vn:Dt):Prop:=(((!(bR vn))=false->(yC vn=true/\((decide ((0:Int) < (n6 vn)))=true->yC vn=true)))/\(((!(bR vn))||(!((decide ((0:Int) < (n6 vn)))&&(decide ((n6 vn) < (9:Int))))))=false->((yC vn=true/\(DY vn).length<=100000)/\(∀ GJ∈(DY vn),GJ=eS (asS GJ)))))
theorem Lh (vn:Dt):RP qp [some ((zE eD) vn)] (fun r=>Out.rt ((zE eB) r)) (fX vn) (some (jM vn)):=R.tp (gR (Gr (w5 (CJ (w6 bR (aq 0 (zE eD) vn rfl)))) (w5 (aey (TF (CG (x_i 0) (vV (aq 0 (zE eD) vn rfl))) (CG (vV (aq 0 (zE eD) vn rfl)) (x_i 9)))))) (bw (bW (fun r=>r) (z9 (.bl false) eB false rfl) (fun _=>rfl) fun _=>rfl)) (bM (bW (fun r=>r) (QH (dw (vW (abK (aq 0 (zE eD) vn rfl)) _ (fun _=>rfl) (fun GJ:Dt=>(Vk (sZ (aq 0 (zE eD) GJ rfl) asS eS) (jV "abcdefghijklmnopqrstuvwxyz")))))) (fun _=>rfl) fun _=>rfl)))
theorem Az:∀ v bs,(aZ eD aN) v bs->bs.length=1/\(hold (some (jM v.1))->fU (bs.map lend)=some ((zE eB) (fX v.1))):=by
 rintro⟨vn,_⟩ _ ⟨_,rfl,rfl⟩
 exact⟨rfl,fun h=>cH (g:=qp) (n:=1) (bs:=[.z (eD vn)]) (Lh vn) h⟩
def dH (vn:Dt) (Z5:Int) (vah:Int):Bool:=((uD vn)&&((!(is_bool vn))&&((decide (Z5<=(Gs vn)))&&(decide ((Gs vn)<=vah)))))
def jN (vn:Dt) (Z5:Int) (vah:Int):Prop:=((uD vn)=true->((!(is_bool vn))=true->(vn=eI (Gs vn)/\((decide (Z5<=(Gs vn)))=true->vn=eI (Gs vn)))))
theorem Li (vn:Dt) (Z5:Int) (vah:Int):RP qt [some ((zE eD) vn),some ((zE eI) Z5),some ((zE eI) vah)] (fun r=>Out.rt ((zE eB) r)) (dH vn Z5 vah) (some (jN vn Z5 vah)):=R.tp (bW (fun r=>r) (nF (w6 uD (aq 0 (zE eD) vn rfl)) (nF (acR (w6 is_bool (aq 0 (zE eD) vn rfl))) (TF (KH (aq 1 (zE eI) Z5 rfl) (sZ (aq 0 (zE eD) vn rfl) Gs eI)) (KH (sZ (aq 0 (zE eD) vn rfl) Gs eI) (aq 2 (zE eI) vah rfl))))) (fun _=>rfl) fun _=>rfl)
theorem uN:∀ v bs,(aZ eD (aZ eI (aZ eI aN))) v bs->bs.length=3/\(hold (some (jN v.1 v.2.1 v.2.2.1))->eG (bs.map lend)=some ((zE eB) (dH v.1 v.2.1 v.2.2.1))):=by
 rintro⟨vn,Z5,vah,_⟩ _ ⟨_,rfl,⟨_,rfl,⟨_,rfl,rfl⟩⟩⟩
 exact⟨rfl,fun h=>cH (g:=qt) (n:=3) (bs:=[.z (eD vn),.z (eI Z5),.z (eI vah)]) (Li vn Z5 vah) h⟩
def iJ (vn:Dt):Bool:=(if ((!(is_tuple vn))||((decide ((n6 vn) < (2:Int)))||((!(bR (jC vn (0:Int))))||(!(fX (jC vn (1:Int)))))))=true then false else (if (Aa (jC vn (0:Int)) (Dt.str "never"))=true then (decide ((n6 vn)=(2:Int))) else (if (Aa (jC vn (0:Int)) (Dt.str "same"))=true then ((decide ((n6 vn)=(3:Int)))&&(dH (jC vn (2:Int)) (1:Int) (1000:Int))) else (if ((!decide ((n6 vn)=(4:Int)))||(!(dH (jC vn (3:Int)) (1:Int) (1000:Int))))=true then false else (if (Aa (jC vn (0:Int)) (Dt.str "begin"))=true then (dH (jC vn (2:Int)) (1:Int) (12:Int)) else ((Aa (jC vn (0:Int)) (Dt.str "both"))&&((fX (jC vn (2:Int)))&&(!Aa (jC vn (1:Int)) (jC vn (2:Int))))))))))
def mJ (vn:Dt):Prop:=(((!(is_tuple vn))=false->(yC vn=true/\((decide ((n6 vn) < (2:Int)))=false->(DX vn (0:Int)/\((!(bR (jC vn (0:Int))))=false->(DX vn (1:Int)/\(jM (jC vn (1:Int)))))))))/\(((!(is_tuple vn))||((decide ((n6 vn) < (2:Int)))||((!(bR (jC vn (0:Int))))||(!(fX (jC vn (1:Int)))))))=false->((DX vn (0:Int)/\KJ (jC vn (0:Int)) (Dt.str "never"))/\(((Aa (jC vn (0:Int)) (Dt.str "never"))=true->yC vn=true)/\((Aa (jC vn (0:Int)) (Dt.str "never"))=false->((DX vn (0:Int)/\KJ (jC vn (0:Int)) (Dt.str "same"))/\(((Aa (jC vn (0:Int)) (Dt.str "same"))=true->(yC vn=true/\((decide ((n6 vn)=(3:Int)))=true->(DX vn (2:Int)/\(jN (jC vn (2:Int)) (1:Int) (1000:Int))))))/\((Aa (jC vn (0:Int)) (Dt.str "same"))=false->((yC vn=true/\((!decide ((n6 vn)=(4:Int)))=false->(DX vn (3:Int)/\(jN (jC vn (3:Int)) (1:Int) (1000:Int)))))/\(((!decide ((n6 vn)=(4:Int)))||(!(dH (jC vn (3:Int)) (1:Int) (1000:Int))))=false->((DX vn (0:Int)/\KJ (jC vn (0:Int)) (Dt.str "begin"))/\(((Aa (jC vn (0:Int)) (Dt.str "begin"))=true->(DX vn (2:Int)/\(jN (jC vn (2:Int)) (1:Int) (12:Int))))/\((Aa (jC vn (0:Int)) (Dt.str "begin"))=false->((DX vn (0:Int)/\KJ (jC vn (0:Int)) (Dt.str "both"))/\((Aa (jC vn (0:Int)) (Dt.str "both"))=true->((DX vn (2:Int)/\(jM (jC vn (2:Int))))/\((fX (jC vn (2:Int)))=true->((DX vn (1:Int)/\DX vn (2:Int))/\KJ (jC vn (1:Int)) (jC vn (2:Int))))))))))))))))))))
theorem Lj (vn:Dt):RP qu [some ((zE eD) vn)] (fun r=>Out.rt ((zE eB) r)) (iJ vn) (some (mJ vn)):=R.tp (gR (Gr (w5 (CJ (w6 is_tuple (aq 0 (zE eD) vn rfl)))) (Gr (eV (CG (vV (aq 0 (zE eD) vn rfl)) (x_i 2))) (Gr (w5 (CJ (w6 bR (jZ (aq 0 (zE eD) vn rfl) (x_i 0))))) (w5 (CJ (x_call Az (cP (jZ (aq 0 (zE eD) vn rfl) (x_i 1)) bC))))))) (bw (bW (fun r=>r) (z9 (.bl false) eB false rfl) (fun _=>rfl) fun _=>rfl)) (bM (gR (eV (QD (jZ (aq 0 (zE eD) vn rfl) (x_i 0)) (x_k (.str "never")))) (bw (bW (fun r=>r) (x_eq (by decide) (vV (aq 0 (zE eD) vn rfl)) (x_i 2)) (fun _=>rfl) fun _=>rfl)) (bM (gR (eV (QD (jZ (aq 0 (zE eD) vn rfl) (x_i 0)) (x_k (.str "same")))) (bw (bW (fun r=>r) (nF (x_eq (by decide) (vV (aq 0 (zE eD) vn rfl)) (x_i 3)) (x_call uN (cP (jZ (aq 0 (zE eD) vn rfl) (x_i 2)) (cP (x_i 1) (cP (x_i 1000) bC))))) (fun _=>rfl) fun _=>rfl)) (bM (gR (Gr (eV (abH (by decide) (vV (aq 0 (zE eD) vn rfl)) (x_i 4))) (w5 (CJ (x_call uN (cP (jZ (aq 0 (zE eD) vn rfl) (x_i 3)) (cP (x_i 1) (cP (x_i 1000) bC))))))) (bw (bW (fun r=>r) (z9 (.bl false) eB false rfl) (fun _=>rfl) fun _=>rfl)) (bM (gR (eV (QD (jZ (aq 0 (zE eD) vn rfl) (x_i 0)) (x_k (.str "begin")))) (bw (bW (fun r=>r) (x_call uN (cP (jZ (aq 0 (zE eD) vn rfl) (x_i 2)) (cP (x_i 1) (cP (x_i 12) bC)))) (fun _=>rfl) fun _=>rfl)) (bM (bW (fun r=>r) (nF (QD (jZ (aq 0 (zE eD) vn rfl) (x_i 0)) (x_k (.str "both"))) (nF (x_call Az (cP (jZ (aq 0 (zE eD) vn rfl) (x_i 2)) bC)) (QF (jZ (aq 0 (zE eD) vn rfl) (x_i 1)) (jZ (aq 0 (zE eD) vn rfl) (x_i 2))))) (fun _=>rfl) fun _=>rfl)))))))))))
theorem Ln:∀ v bs,(aZ eD aN) v bs->bs.length=1/\(hold (some (mJ v.1))->iw (bs.map lend)=some ((zE eB) (iJ v.1))):=by
 rintro⟨vn,_⟩ _ ⟨_,rfl,rfl⟩
 exact⟨rfl,fun h=>cH (g:=qu) (n:=1) (bs:=[.z (eD vn)]) (Lj vn) h⟩
def cI (dZ:LS_) (vl:LD_) (v2:Int):LD_:=(let vl:LD_:=(if ((decide (v2 < (2:Int)))||((decide (v2=(2:Int)))&&(decide ((at' dZ (0:Int))=("both" : Str)))))=true then (let vl:=vl++[(eS (at' dZ v2))];vl) else (let vl:=vl++[((eO eI) (fH (at' dZ v2)))];vl));vl)
def pU (dZ:LS_) (vl:LD_) (v2:Int):Prop:=(((decide (v2 < (2:Int)))=false->((decide (v2=(2:Int)))=true->In dZ.length (0:Int)))/\((((decide (v2 < (2:Int)))||((decide (v2=(2:Int)))&&(decide ((at' dZ (0:Int))=("both" : Str)))))=true->(In dZ.length v2/\mC vl.length))/\(((decide (v2 < (2:Int)))||((decide (v2=(2:Int)))&&(decide ((at' dZ (0:Int))=("both" : Str)))))=false->((In dZ.length v2/\(jF (at' dZ v2)))/\mC vl.length))))
theorem Fq (lV:Str) (dZ:LS_) (vl:LD_) (v2:Int):RP uZ [some ((zE eS) lV),some ((oE eS) dZ),some ((oE eD) vl),some ((zE eI) v2)] (fun s=>Out.nx ((fun vl:LD_=>[some ((zE eS) lV),some ((oE eS) dZ),some ((oE eD) vl),none]) s)) (cI dZ vl v2) (some (pU dZ vl v2)):=R.tp (bw (QS (fun vl:LD_=>[some ((zE eS) lV),some ((oE eS) dZ),some ((oE eD) vl),some ((zE eI) v2)]) (Gr (eV (CG (aq 3 (zE eI) v2 rfl) (x_i 2))) (Vi (eV (x_eq (by decide) (aq 3 (zE eI) v2 rfl) (x_i 2))) (eV (x_eq (by decide) (ig (jY (aq 1 (lE eS) dZ rfl)) (x_i 0)) (jV "both"))))) (bw (CN 2 vl rfl (iR (ig (jY (aq 1 (lE eS) dZ rfl)) (aq 3 (zE eI) v2 rfl))) fun vl=>(bM (eY vl rfl)))) (bw (CN 2 vl rfl (iR (iT (x_call G7 (cP (ig (jY (aq 1 (lE eS) dZ rfl)) (aq 3 (zE eI) v2 rfl)) bC)))) fun vl=>(bM (eY vl rfl)))) fun vl=>(bM (eY vl rfl))))
def iK (lV:Str):(Option LD_):=(let dZ:=(Txt.split lV (" " : Str));(let vl:=([]:List Dt);(let vl:LD_:=((rng 0 (dZ.length:Int).toNat).foldl (fun (vl:LD_) (v2:Int)=>(cI dZ vl v2)) vl);(if (iJ ((eT eD) vl))=true then (some vl) else none))))
def qz (lV:Str):Prop:=((((" " : Str).length==0)=false/\lV.length<=100000)/\(let dZ:=(Txt.split lV (" " : Str));(let vl:=([]:List Dt);((Rg (dZ.length:Int)/\Ep (fun (vl:LD_) (v2:Int)=>(cI dZ vl v2)) (fun (vl:LD_) (v2:Int)=>some (pU dZ vl v2)) (rng 0 (dZ.length:Int).toNat) vl)/\(let vl:LD_:=((rng 0 (dZ.length:Int).toNat).foldl (fun (vl:LD_) (v2:Int)=>(cI dZ vl v2)) vl);(mJ ((eT eD) vl)))))))
theorem Lq (lV:Str):RP qw [some ((zE eS) lV),none,none,none] (fun r=>Out.rt ((zE (eO (eT eD))) r)) (iK lV) (some (qz lV)):=R.tp (cF 1 (zJ (aq 0 (zE eS) lV rfl) (jV " ")) (fun _=>rfl) fun dZ=>(cF 2 (gQ (bQ eD) (zd rfl)) (fun _=>rfl) fun vl=>(Mw (fun vl:LD_=>[some ((zE eS) lV),some ((oE eS) dZ),some ((oE eD) vl),none]) vl rfl (QM (x_len (jY (aq 1 (lE eS) dZ rfl)))) _ (fun _ _=>rfl) (fun (vl:LD_) (v2:Int)=>(Fq lV dZ vl v2).r) fun vl=>(gR (CJ (x_call Ln (cP (iR (zH (jY (aq 2 (lE eD) vl rfl)))) bC))) (bw (bW (fun r=>r) (N8 (zH (jY (aq 2 (lE eD) vl rfl)))) (fun _=>rfl) fun _=>rfl)) (bM (bW (fun r=>r) Em (fun _=>rfl) fun _=>rfl))))))
theorem Lr:∀ v bs,(aZ eS aN) v bs->bs.length=1/\(hold (some (qz v.1))->iz (bs.map lend)=some ((zE (eO (eT eD))) (iK v.1))):=by
 rintro⟨lV,_⟩ _ ⟨_,rfl,rfl⟩
 exact⟨rfl,fun h=>cH (g:=qw) (n:=4) (bs:=[.z (eS lV)]) (Lq lV) h⟩
def nY (mD:Str):Dt:=(if (decide (mD=("" : Str)))=true then (Dt.tup []) else (let v1:=((Txt.split mD ("\n" : Str)).map fun lV:Str=>(iK lV));(if (v1.any Option.isNone)=true then (eI (v1.findIdx Option.isNone:Int)) else ((eT (eO (eT eD))) v1))))
def zX (mD:Str):Prop:=((decide (mD=("" : Str)))=false->(((((("\n" : Str).length==0)=false/\mD.length<=100000)/\(Txt.split mD ("\n" : Str)).length<=100000)/\(∀ lV∈(Txt.split mD ("\n" : Str)),(qz lV)))/\(let v1:=((Txt.split mD ("\n" : Str)).map fun lV:Str=>(iK lV));((v1.any Option.isNone)=true->(v1.any Option.isNone=true/\v1.length<=100000)))))
theorem Xu (mD:Str):RP zV [some ((zE eS) mD),none] (fun r=>Out.rt ((zE eD) r)) (nY mD) (some (zX mD)):=R.tp (gR (eV (x_eq (by decide) (aq 0 (zE eS) mD rfl) (jV ""))) (bw (bW (fun r=>r) (oH (bQ eD) (zd rfl)) (fun _=>rfl) fun _=>rfl)) (bM (cF 1 (vW (aeH (dw (zJ (aq 0 (zE eS) mD rfl) (jV "\n")))) _ (fun _=>rfl) (fun lV:Str=>(iT (x_call Lr (cP (aq 0 (zE eS) lV rfl) bC))))) (fun _=>rfl) fun v1=>(gR (eV (agL (fun _=>⟨_,rfl⟩) (jY (aq 1 (lE (eO (eT eD))) v1 rfl)))) (bw (bW (fun r=>r) (iR (ae1 (fun _=>⟨_,rfl⟩) (jY (aq 1 (lE (eO (eT eD))) v1 rfl)))) (fun _=>rfl) fun _=>rfl)) (bM (bW (fun r=>r) (iR (zH (jY (aq 1 (lE (eO (eT eD))) v1 rfl)))) (fun _=>rfl) fun _=>rfl))))))
theorem Xv:∀ v bs,(aZ eS aN) v bs->bs.length=1/\(hold (some (zX v.1))->pC (bs.map lend)=some ((zE eD) (nY v.1))):=by
 rintro⟨mD,_⟩ _ ⟨_,rfl,rfl⟩
 exact⟨rfl,fun h=>cH (g:=zV) (n:=2) (bs:=[.z (eS mD)]) (Xu mD) h⟩
def Dr (vp:Dt):Int:=0
def Ds (vp:Dt):Prop:=bR vp=false
theorem Pn:∀ v bs,(aZ eD aN) v bs->bs.length=1/\(hold (some (Ds v.1))->cT (bs.map lend)=some ((zE eI) (Dr v.1))):=by
 rintro⟨vp,_⟩ _ ⟨_,rfl,rfl⟩
 refine⟨rfl,fun h=>?_⟩
 have h:bR vp=false:=h
 have e1:setG 1 (dj iM aM) [some (.z vp),none,none,none,none]=some (.nx [some (.z vp),some (.o []),none,none,none]):=rfl
 have c:yH (tV (qR bR (gv 0))) [some (.z vp)]=some (!bR vp):=by cases vp<;>rfl
 have e2:Vw 1 (yO 1 FW) (ao (gv 0) aM) [some (.z vp),some (.o []),none,none,none]=some (.int 0):=by
  show FW [some (.z vp)]=_
  unfold FW ifX
  rw[c,h]
  rfl
 have ex:yO 5 Ae [.z vp]=some (.int 0):=by
  show Ae [some (.z vp),none,none,none,none]=_
  unfold Ae Jg
  rw[e1,bnd]
  try dsimp only
  unfold orX
  rw[e2]
 show cT [.z vp]=some (.z (.int 0))
 unfold cT
 rw[ex]
def sJ  (s1:Unit) (vg:LD_):Ab (Unit) Bool:=(let vh:=(fO vg);(if ((!(bR (eS vh)))||((!decide (vh=(bD vg)))||(!Aa (cu vh) ((eT eD) vg))))=true then (Ab.rt false) else (Ab.nx ())))
def Du  (s1:Unit) (vg:LD_):Prop:=((oU vg)/\(let vh:=(fO vg);((!(bR (eS vh)))=false->((nj vg)/\((!decide (vh=(bD vg)))=false->((nu vh)/\KJ (cu vh) ((eT eD) vg)))))))
theorem Z6 (v0:LI_) {fL:Bx} (gD:Lp fL (v0.map eI)) (v1:LD_) (vf:LD_) (s1:Unit) (vg:LD_):RP Jl [some fL,some ((zE (eT eD)) v1),some ((zE (eT eD)) vf),some ((zE (eT eD)) vg),none,none,none,none,none,none,none] (cC (fun s1:Unit=>[some fL,some ((zE (eT eD)) v1),some ((zE (eT eD)) vf),none,none,none,none,none,none,none,none]) (zE eB)) (sJ  s1 vg) (some (Du  s1 vg)):=R.tp (bw (cF 4 (x_call Dq (cP (aq 3 (zE (eT eD)) vg rfl) bC)) (fun _=>rfl) fun vh=>(bw (gR (Gr (w5 (CJ (w6 bR (aq 4 (zE eS) vh rfl)))) (Gr (eV (abH (by decide) (aq 4 (zE eS) vh rfl) (x_call wV (cP (aq 3 (zE (eT eD)) vg rfl) bC)))) (eV (QF (x_call Bm (cP (aq 4 (zE eS) vh rfl) bC)) (iR (aq 3 (zE (eT eD)) vg rfl)))))) (bw (bW .rt (z9 (.bl false) eB false rfl) (fun _=>rfl) fun _=>rfl)) (bM (bM (eY (.nx ()) rfl)))))))
def qJ (v8:LI_) (aY:LS_) (Bw:Int):LS_:=(let aY:=(oY aY (cut v8 (some ((1:Int)+((4:Int) * Bw))) none));aY)
def Dv (v8:LI_) (aY:LS_) (Bw:Int):Prop:=(rQ aY (cut v8 (some ((1:Int)+((4:Int) * Bw))) none))
theorem Z7 (v0:LI_) {fL:Bx} (gD:Lp fL (v0.map eI)) (v1:LD_) (vf:LD_) (v4:Int) (v8:LI_) (vz:LD_) (aY:LS_) (Bw:Int):RP Rb [some fL,some ((zE (eT eD)) v1),some ((zE (eT eD)) vf),none,none,some ((zE eI) v4),some ((oE eI) v8),some ((zE (eT eD)) vz),some ((oE eS) aY),some ((zE eI) Bw),none] (fun s=>Out.nx ((fun aY:LS_=>[some fL,some ((zE (eT eD)) v1),some ((zE (eT eD)) vf),none,none,some ((zE eI) v4),some ((oE eI) v8),some ((zE (eT eD)) vz),some ((oE eS) aY),none,none]) s)) (qJ v8 aY Bw) (some (Dv v8 aY Bw)):=R.tp (bw (cF 8 (x_call Pk (WM (jY (aq 8 (lE eS) aY rfl)) (WM (agr (Zg (qN (jY (aq 6 (lE eI) v8 rfl)) (mz (eU (x_i 1) (Iz 4 (by decide) (aq 9 (zE eI) Bw rfl)))) mU))) bC))) (fun _=>rfl) fun aY=>(bM (eY aY rfl))))
def sO (v1:LD_) (s2:Unit) (v4:Int):Ab (Unit) Bool:=(let v8:=(dG v4 (16:Int));(let vz:=(cV v8);(if ((!decide ((fO vz)=(bD vz)))||(!Aa (cu (bD vz)) ((eT eD) vz)))=true then (Ab.rt false) else (let aY:=(Txt.split (bD (at' [v1,vz] ((at' v8 (14:Int)) % (2:Int)))) ("\n" : Str));(let aY:LS_:=((rng 0 ((1:Int)+((at' v8 (0:Int)) % (3:Int))).toNat).foldl (fun (aY:LS_) (Bw:Int)=>(qJ v8 aY Bw)) aY);(let mD:=((Txt.join "\n" aY)++(Txt.mul ("\n" : Str) (if (decide (((at' v8 (15:Int)) % (8:Int))=(1:Int)))=true then (1:Int) else 0)));(if (!Aa (cu mD) (nY mD))=true then (Ab.rt false) else (Ab.nx ()))))))))
def zu (v1:LD_) (s2:Unit) (v4:Int):Prop:=((mH v4 (16:Int))/\(let v8:=(dG v4 (16:Int));((jD v8)/\(let vz:=(cV v8);((((oU vz)/\(nj vz))/\((!decide ((fO vz)=(bD vz)))=false->(((nj vz)/\(nu (bD vz)))/\KJ (cu (bD vz)) ((eT eD) vz))))/\(((!decide ((fO vz)=(bD vz)))||(!Aa (cu (bD vz)) ((eT eD) vz)))=false->((((In v8.length (14:Int)/\In [v1,vz].length ((at' v8 (14:Int)) % (2:Int)))/\(nj (at' [v1,vz] ((at' v8 (14:Int)) % (2:Int)))))/\((("\n" : Str).length==0)=false/\(bD (at' [v1,vz] ((at' v8 (14:Int)) % (2:Int)))).length<=100000))/\(let aY:=(Txt.split (bD (at' [v1,vz] ((at' v8 (14:Int)) % (2:Int)))) ("\n" : Str));(((In v8.length (0:Int)/\Rg ((1:Int)+((at' v8 (0:Int)) % (3:Int))))/\Ep (fun (aY:LS_) (Bw:Int)=>(qJ v8 aY Bw)) (fun (aY:LS_) (Bw:Int)=>some (Dv v8 aY Bw)) (rng 0 ((1:Int)+((at' v8 (0:Int)) % (3:Int))).toNat) aY)/\(let aY:LS_:=((rng 0 ((1:Int)+((at' v8 (0:Int)) % (3:Int))).toNat).foldl (fun (aY:LS_) (Bw:Int)=>(qJ v8 aY Bw)) aY);((((aY.map (·.length)).sum+aY.length * ("\n" : Str).length<=100000/\(In v8.length (15:Int)/\((if (decide (((at' v8 (15:Int)) % (8:Int))=(1:Int)))=true then (1:Int) else 0)<=1000 ∧ -1000<=(if (decide (((at' v8 (15:Int)) % (8:Int))=(1:Int)))=true then (1:Int) else 0)/\("\n" : Str).length<=1000)))/\mC ((Txt.join "\n" aY).length+(Txt.mul ("\n" : Str) (if (decide (((at' v8 (15:Int)) % (8:Int))=(1:Int)))=true then (1:Int) else 0)).length))/\(let mD:=((Txt.join "\n" aY)++(Txt.mul ("\n" : Str) (if (decide (((at' v8 (15:Int)) % (8:Int))=(1:Int)))=true then (1:Int) else 0)));(((nu mD)/\(zX mD))/\KJ (cu mD) (nY mD))))))))))))))
theorem Z8 (v0:LI_) {fL:Bx} (gD:Lp fL (v0.map eI)) (v1:LD_) (vf:LD_) (s2:Unit) (v4:Int):RP Jm [some fL,some ((zE (eT eD)) v1),some ((zE (eT eD)) vf),none,none,some ((zE eI) v4),none,none,none,none,none] (cC (fun s2:Unit=>[some fL,some ((zE (eT eD)) v1),some ((zE (eT eD)) vf),none,none,none,none,none,none,none,none]) (zE eB)) (sO v1 s2 v4) (some (zu v1 s2 v4)):=R.tp (bw (cF 6 (x_call Ay (cP (aq 5 (zE eI) v4 rfl) (cP (x_i 16) bC))) (fun _=>rfl) fun v8=>(bw (cF 7 (x_call GF (WM (jY (aq 6 (lE eI) v8 rfl)) bC)) (fun _=>rfl) fun vz=>(bw (gR (Gr (eV (abH (by decide) (x_call Dq (cP (aq 7 (zE (eT eD)) vz rfl) bC)) (x_call wV (cP (aq 7 (zE (eT eD)) vz rfl) bC)))) (eV (QF (x_call Bm (cP (iT (x_call wV (cP (aq 7 (zE (eT eD)) vz rfl) bC))) bC)) (iR (aq 7 (zE (eT eD)) vz rfl))))) (bw (bW .rt (z9 (.bl false) eB false rfl) (fun _=>rfl) fun _=>rfl)) (bM (bw (cF 8 (zJ (x_call wV (cP (ig (dw (gQ (aC (aq 1 (zE (eT eD)) v1 rfl) (aC (aq 7 (zE (eT eD)) vz rfl) (bQ (eT eD)))) (zd rfl))) (dR (ig (jY (aq 6 (lE eI) v8 rfl)) (x_i 14)) 2 (by decide))) bC)) (jV "\n")) (fun _=>rfl) fun aY=>(bw (Mw (fun aY:LS_=>[some fL,some ((zE (eT eD)) v1),some ((zE (eT eD)) vf),none,none,some ((zE eI) v4),some ((oE eI) v8),some ((zE (eT eD)) vz),some ((oE eS) aY),none,none]) aY rfl (QM (eU (x_i 1) (dR (ig (jY (aq 6 (lE eI) v8 rfl)) (x_i 0)) 3 (by decide)))) _ (fun _ _=>rfl) (fun (aY:LS_) (Bw:Int)=>(Z7 v0 gD v1 vf v4 v8 vz aY Bw).r) fun aY=>(bw (cF 10 (uH (yL "\n" (jY (aq 8 (lE eS) aY rfl))) (aeF (jV "\n") (Zm (x_eq (by decide) (dR (ig (jY (aq 6 (lE eI) v8 rfl)) (x_i 15)) 8 (by decide)) (x_i 1))))) (fun _=>rfl) fun mD=>(bw (gR (eV (QF (x_call Bm (cP (aq 10 (zE eS) mD rfl) bC)) (x_call Xv (cP (aq 10 (zE eS) mD rfl) bC)))) (bw (bW .rt (z9 (.bl false) eB false rfl) (fun _=>rfl) fun _=>rfl)) (bM (bM (eY (.nx ()) rfl))))))))))))))))))
def Dw (v0:LI_) (v1:LD_) (vf:LD_):Bool:=((W5.map fun vn:Dt=>(decide ((Dr vn)=(0:Int)))).all id)
def J9 (v0:LI_) (v1:LD_) (vf:LD_):Prop:=(W5.length<=100000/\(∀ vn∈W5,(Ds vn)))
def RN:Ev->Option Out:=(aG (dY (dj allB (ao (oZ (Ml (dj iM (ao (cB .non) (ao (cB (.int 7)) (ao (cB (.bl true)) (ao (b1 sU (dj iM (ao (cB (.str "never p")) aM))) (ao (dj lB (ao (cB (.str "never p")) aM)) (ao (cB .emp) (ao (dj lB aM) aM))))))))) (DW 0) zZ (b2 eqB (bO 1 cT (ao (gv 0) aM)) (cB (.int 0))) [] 1) aM))) dI)
theorem Z9 (v0:LI_) {fL:Bx} (gD:Lp fL (v0.map eI)) (v1:LD_) (vf:LD_):RP RN [some fL,some ((zE (eT eD)) v1),some ((zE (eT eD)) vf),none,none,none,none,none,none,none,none] (fun r=>Out.rt ((zE eB) r)) (Dw v0 v1 vf) (some (J9 v0 v1 vf)):=R.tp (bW (fun r=>r) (QH (dw (vW (aeH (dw (gQ (aC (x_k .non) (aC (x_k (.int 7)) (aC (x_k (.bl true)) (aC (iR (Zg (gQ (aC (jV "never p") (bQ eS)) (zd rfl)))) (aC (oH (aC (x_k (.str "never p")) (bQ eD)) (zd rfl)) (aC (z9 .emp eD .emp rfl) (aC (oH (bQ eD) (zd rfl)) (bQ eD)))))))) (zd rfl)))) _ (fun _=>rfl) (fun vn:Dt=>(x_eq (by decide) (x_call Pn (cP (aq 0 (zE eD) vn rfl) bC)) (x_i 0)))))) (fun _=>rfl) fun _=>rfl)
def Dy (v0:LI_) (v1:LD_) (vf:LD_):Bool:=(behind (rz (fun (s2:Unit) (v4:Int)=>((sO v1 s2 v4):Ab (Unit) Bool)) ([(eE v0 (1:Int))]++(cut v0 (some (2:Int)) (some (20:Int)))) ()) (fun r=>r) fun s2:Unit=>(Dw v0 v1 vf))
def Ka (v0:LI_) (v1:LD_) (vf:LD_):Prop:=((((pP v0 (1:Int))/\mC ([(eE v0 (1:Int))].length+(cut v0 (some (2:Int)) (some (20:Int))).length))/\CP (fun (s2:Unit) (v4:Int)=>((sO v1 s2 v4):Ab (Unit) Bool)) (fun (s2:Unit) (v4:Int)=>some (zu v1 s2 v4)) ([(eE v0 (1:Int))]++(cut v0 (some (2:Int)) (some (20:Int)))) ())/\(CQ (rz (fun (s2:Unit) (v4:Int)=>((sO v1 s2 v4):Ab (Unit) Bool)) ([(eE v0 (1:Int))]++(cut v0 (some (2:Int)) (some (20:Int)))) ()) fun s2:Unit=>(J9 v0 v1 vf)))
def RQ:Ev->Option Out:=(aG (uG (itF (b2 bU (dj iM (ao (b1 sU (bO 2 jf (ao (gv 0) (ao (cB (.int 1)) aM)))) aM)) (uE (gv 0) (dN (cB (.int 2))) (dN (cB (.int 20)))))) (DW 5) Jm) RN)
theorem aac (v0:LI_) {fL:Bx} (gD:Lp fL (v0.map eI)) (v1:LD_) (vf:LD_):RP RQ [some fL,some ((zE (eT eD)) v1),some ((zE (eT eD)) vf),none,none,none,none,none,none,none,none] (fun r=>Out.rt ((zE eB) r)) (Dy v0 v1 vf) (some (Ka v0 v1 vf)):=R.tp (TJ (fun s2:Unit=>[some fL,some ((zE (eT eD)) v1),some ((zE (eT eD)) vf),none,none,none,none,none,none,none,none]) () rfl (aeI (gn (dw (gQ (aC (iT (x_call J3 (WM (cW 0 eI v0 gD rfl) (cP (x_i 1) bC)))) (bQ eI)) (zd rfl))) (dw (qN (cW 0 eI v0 gD rfl) (mz (x_i 2)) (mz (x_i 20)))))) _ (fun _ _=>rfl) (fun (s2:Unit) (v4:Int)=>((Z8 v0 gD v1 vf s2 v4).r:R _ _ (cC (fun s2:Unit=>[some fL,some ((zE (eT eD)) v1),some ((zE (eT eD)) vf),none,none,none,none,none,none,none,none]) (zE eB)))) (fun r=>r) (fun _=>rfl) fun s2=>(Z9 v0 gD v1 vf).r)
def RT (v0:LI_) (v1:LD_) (vf:LD_):Bool:=(behind (rz (fun (s1:Unit) (vg:LD_)=>((sJ  s1 vg):Ab (Unit) Bool)) [v1,([]:List Dt),vf,(v1++(cut v1 none (some (1:Int))))] ()) (fun r=>r) fun s1:Unit=>(Dy v0 v1 vf))
def RV (v0:LI_) (v1:LD_) (vf:LD_):Prop:=((mC (v1.length+(cut v1 none (some (1:Int))).length)/\CP (fun (s1:Unit) (vg:LD_)=>((sJ  s1 vg):Ab (Unit) Bool)) (fun (s1:Unit) (vg:LD_)=>some (Du  s1 vg)) [v1,([]:List Dt),vf,(v1++(cut v1 none (some (1:Int))))] ())/\(CQ (rz (fun (s1:Unit) (vg:LD_)=>((sJ  s1 vg):Ab (Unit) Bool)) [v1,([]:List Dt),vf,(v1++(cut v1 none (some (1:Int))))] ()) fun s1:Unit=>(Ka v0 v1 vf)))
def RW:Ev->Option Out:=(aG (uG (itF (dj iM (ao (gv 1) (ao (dj lB aM) (ao (gv 2) (ao (b1 sU (b2 bU (gv 1) (uE (gv 1) cM (dN (cB (.int 1)))))) aM)))))) (DW 3) Jl) RQ)
theorem aad (v0:LI_) {fL:Bx} (gD:Lp fL (v0.map eI)) (v1:LD_) (vf:LD_):RP RW [some fL,some ((zE (eT eD)) v1),some ((zE (eT eD)) vf),none,none,none,none,none,none,none,none] (fun r=>Out.rt ((zE eB) r)) (RT v0 v1 vf) (some (RV v0 v1 vf)):=R.tp (TJ (fun s1:Unit=>[some fL,some ((zE (eT eD)) v1),some ((zE (eT eD)) vf),none,none,none,none,none,none,none,none]) () rfl (aeI (gQ (aC (aq 1 (zE (eT eD)) v1 rfl) (aC (aeA eD) (aC (aq 2 (zE (eT eD)) vf rfl) (aC (iT (aeE (aq 1 (zE (eT eD)) v1 rfl) (agu (aq 1 (zE (eT eD)) v1 rfl) mU (mz (x_i 1))))) (bQ (eT eD)))))) (zd rfl))) _ (fun _ _=>rfl) (fun (s1:Unit) (vg:LD_)=>((Z6 v0 gD v1 vf s1 vg).r:R _ _ (cC (fun s1:Unit=>[some fL,some ((zE (eT eD)) v1),some ((zE (eT eD)) vf),none,none,none,none,none,none,none,none]) (zE eB)))) (fun r=>r) (fun _=>rfl) fun s1=>(aac v0 gD v1 vf).r)
def RZ (v0:LI_) (v1:LD_):Bool:=(let vf:=[(Dt.tup [(Dt.str "same"),(Dt.str "a"),(Dt.int 1000)]),(Dt.tup [(Dt.str "begin"),(Dt.str "abcdefgh"),(Dt.int 12),(Dt.int 1)]),(Dt.tup [(Dt.str "both"),(Dt.str "b"),(Dt.str "a"),(Dt.int 10)]),(Dt.tup [(Dt.str "never"),(Dt.str "same")])];(RT v0 v1 vf))
def R0 (v0:LI_) (v1:LD_):Prop:=(let vf:=[(Dt.tup [(Dt.str "same"),(Dt.str "a"),(Dt.int 1000)]),(Dt.tup [(Dt.str "begin"),(Dt.str "abcdefgh"),(Dt.int 12),(Dt.int 1)]),(Dt.tup [(Dt.str "both"),(Dt.str "b"),(Dt.str "a"),(Dt.int 10)]),(Dt.tup [(Dt.str "never"),(Dt.str "same")])];(RV v0 v1 vf))
def aae:Ev->Option Out:=(aG (setG 2 (dj lB (ao (dj lB (ao (cB (.str "same")) (ao (cB (.str "a")) (ao (cB (.int 1000)) aM)))) (ao (dj lB (ao (cB (.str "begin")) (ao (cB (.str "abcdefgh")) (ao (cB (.int 12)) (ao (cB (.int 1)) aM))))) (ao (dj lB (ao (cB (.str "both")) (ao (cB (.str "b")) (ao (cB (.str "a")) (ao (cB (.int 10)) aM))))) (ao (dj lB (ao (cB (.str "never")) (ao (cB (.str "same")) aM))) aM)))))) RW)
theorem aaf (v0:LI_) {fL:Bx} (gD:Lp fL (v0.map eI)) (v1:LD_):RP aae [some fL,some ((zE (eT eD)) v1),none,none,none,none,none,none,none,none,none] (fun r=>Out.rt ((zE eB) r)) (RZ v0 v1) (some (R0 v0 v1)):=R.tp (cF 2 (Zh (aC (oH (aC (x_k (.str "same")) (aC (x_k (.str "a")) (aC (x_k (.int 1000)) (bQ eD)))) (zd rfl)) (aC (oH (aC (x_k (.str "begin")) (aC (x_k (.str "abcdefgh")) (aC (x_k (.int 12)) (aC (x_k (.int 1)) (bQ eD))))) (zd rfl)) (aC (oH (aC (x_k (.str "both")) (aC (x_k (.str "b")) (aC (x_k (.str "a")) (aC (x_k (.int 10)) (bQ eD))))) (zd rfl)) (aC (oH (aC (x_k (.str "never")) (aC (x_k (.str "same")) (bQ eD))) (zd rfl)) (bQ eD))))) (zd rfl)) (fun _=>rfl) fun vf=>(aad v0 gD v1 vf).r)
def R3 (v0:LI_):Bool:=(let v1:=(fV (dG (eE v0 (0:Int)) (5:Int)));(RZ v0 v1))
def R4 (v0:LI_):Prop:=((((pP v0 (0:Int))/\(mH (eE v0 (0:Int)) (5:Int)))/\(uo (dG (eE v0 (0:Int)) (5:Int))))/\(let v1:=(fV (dG (eE v0 (0:Int)) (5:Int)));(R0 v0 v1)))
theorem ahu (v0:LI_) {fL:Bx} (gD:Lp fL (v0.map eI)):RP VD [some fL,none,none,none,none,none,none,none,none,none,none] (fun r=>Out.rt ((zE eB) r)) (R3 v0) (some (R4 v0)):=R.tp (cF 1 (x_call Rz (WM (agr (Zg (x_call Ay (cP (iT (x_call J3 (WM (cW 0 eI v0 gD rfl) (cP (x_i 0) bC)))) (cP (x_i 5) bC))))) bC)) (fun _=>rfl) fun v1=>(aaf v0 gD v1).r)
theorem ac3:∀ v bs,(aL eI aN) v bs->bs.length=1/\(hold (some (R4 v.1))->ud (bs.map lend)=some ((zE eB) (R3 v.1))):=by
 rintro⟨v0,_⟩ _ ⟨fL,_,rfl,gD,rfl⟩
 exact⟨rfl,fun h=>cH (g:=VD) (n:=11) (bs:=[lend fL]) (ahu v0 (Mt gD)) h⟩
theorem ac4 (h:∀ ns:List Int,ns.length<=63->R4 ns/\R3 ns=true):(∀ ns:List Int,ns.length<=63->ud [.z (.lst (ns.map .int))]=some (.z (.bl true)))/\∀ ns:List Int,ns.length<=63->ud [.l (ns.map .int)]=some (.z (.bl true)):=
 ⟨fun ns hn=>((ac3 (ns,()) [.z (.lst (ns.map .int))] ⟨_,_,rfl,rfl,rfl⟩).2 (h ns hn).1).trans (by rw[(h ns hn).2]),fun ns hn=>((ac3 (ns,()) [.l (ns.map .int)] ⟨_,_,rfl,rfl,rfl⟩).2 (h ns hn).1).trans (by rw[(h ns hn).2])⟩
end
end G08
end
section
set_option synthInstance.maxSize 100000
namespace G08
open PySem PySem.Spec PyProof.Rows L2 P1
theorem aag (script:List Int) (k:Int) (h0:0<=k) (h1:k<=1000):pP script k:=by
 unfold pP
 exact⟨fun h=>in_of h0 (by simpa using h),fun _=>acT h0 (by omega)⟩
theorem aah (k:Nat) (s:Int×List Int×Int) (hk:k < 1000) (h:(0<=s.1/\s.1 < 1999999973)/\s.2.1.length=k/\(∀ x∈s.2.1,0<=x)/\0<=s.2.2):lO s k/\(0<=(cY s k).1/\(cY s k).1 < 1999999973)/\(cY s k).2.1.length=k+1/\(∀ x∈(cY s k).2.1,0<=x)/\0<=(cY s k).2.2:=by
 obtain⟨h1,h2,h3,h4⟩:=h
 have hin:In 2 (if (decide ((0:Int) < s.2.2))=true then (1:Int) else 0):=by split<;>exact in_of (by omega) (by omega)
 refine⟨⟨acT h1.1 (by omega),hin,?_⟩,j4 _ (by decide),?_,?_,Int.ediv_nonneg h4 (by decide)⟩
 ·show s.2.1.length<=1000000
  omega
 ·show (s.2.1++[_]).length=k+1
  rw[zl,h2];rfl
 ·intro x hx
  rcases List.mem_append.mp hx with hx|hx
  ·exact h3 x hx
  ·cases List.mem_singleton.mp hx
   have:=Er (xs:=[((((s.1 * ((s.1 % (65521:Int))+(40487:Int)))+((7:Int) * k))+(5:Int)) % (1999999973:Int)),(s.2.2 % (1000000:Int))]) hin
   simp only[List.mem_cons,qf,or_false] at this
   rcases this with e|e<;>rw[e]
   ·exact (j4 _ (by decide)).1
   ·exact (j4 _ (by decide)).1
theorem aai (c m:Int) (h0:0<=m) (h1:m<=1000):mH c m/\(dG c m).length=m.toNat/\∀ x∈dG c m,0<=x:=by
 have key:∀ st dg:Int,(0<=st/\st < 1999999973)->0<=dg->pQ c m [] st dg/\(lQ c m [] st dg).length=m.toNat/\∀ x∈lQ c m [] st dg,0<=x:=fun st dg hs hd=>by
  have:=uW (P:=fun s k=>some (lO s k)) (fun k s=>(0<=s.1/\s.1 < 1999999973)/\s.2.1.length=k/\(∀ x∈s.2.1,0<=x)/\0<=s.2.2) (step:=fun s k=>cY s k) m.toNat (st,[],dg) ⟨hs,rfl,fun x h=>(by cases h),hd⟩ fun k s hk h=>aah k s (by omega) h
  exact⟨⟨QT h0 (by omega),this.1⟩,this.2.2.1,this.2.2.2.1⟩
 refine key _ _ (j4 _ (by decide)) ?_
 dsimp only
 split<;>(try split)<;>omega
theorem Xw (d:Dt) (sg:Str) (n:Int) (h:n<=1000):oV d sg n:=by
 unfold oV
 intro hs
 obtain⟨x,rfl⟩:=rT hs
 refine⟨⟨rfl,fun _=>rfl⟩,fun hl=>⟨⟨rfl,?_⟩,fun s h=>Vz h⟩⟩
 rw[VB]
 have h2:(x.length:Int)<=n:=jn ((zi _ _).mp hl).2
 omega
theorem R5 {d:Dt} {sg:Str} {n:Int} (h:gZ d sg n=true):bR d=true:=by
 unfold gZ at h
 rw[zi] at h
 exact h.1
theorem Kc (d:Dt):nR d:=Xw d _ 8 (by decide)
theorem zx {d:Dt} (h:cg d=true):bR d=true:=R5 h
theorem Gh (d:Dt):fX d=cg d:=by
 unfold fX cg gZ
 cases d with
 |str x=>
  show (if (!(decide ((0:Int) < (x.length:Int))&&decide ((x.length:Int) < 9)))=true then false else _)=((decide ((1:Int)<=(x.length:Int))&&decide ((x.length:Int)<=8))&&_)
  have e1:decide ((0:Int) < (x.length:Int))=decide ((1:Int)<=(x.length:Int)):=decide_eq_decide.mpr (by omega)
  have e2:decide ((x.length:Int) < 9)=decide ((x.length:Int)<=8):=decide_eq_decide.mpr (by omega)
  rw[e1,e2]
  cases (decide ((1:Int)<=(x.length:Int))&&decide ((x.length:Int)<=8))<;>rfl
 |_=>rfl
theorem Kd (d:Dt):jM d:=by
 unfold jM
 cases d with
 |str x=>
  refine⟨fun _=>⟨rfl,fun _=>rfl⟩,fun h=>⟨⟨rfl,?_⟩,fun s h=>Vz h⟩⟩
  rw[VB]
  have h:(!(decide ((0:Int) < (x.length:Int))&&decide ((x.length:Int) < 9)))=false:=h
  have h2:(x.length:Int) < 9:=jn ((zi _ _).mp (by cases hq:(decide ((0:Int) < (x.length:Int))&&decide ((x.length:Int) < 9)) with|true=>rfl|false=>rw[hq] at h;cases h)).2
  omega
 |_=>exact⟨fun h=>(by cases h),fun h=>(by cases h)⟩
theorem rW {d:Dt} (h:jt d=true):d=eI (Gs d):=by
 cases d with
 |int i=>rfl
 |_=>cases h
theorem Ke (d:Dt):nU d:=fun h=>⟨rW h,fun _=>rW h⟩
theorem R6 (d:Dt):oW d:=fun h=>⟨rW h,fun _=>rW h⟩
theorem Ft (d:Dt) (a b:Int):jN d a b:=by
 intro h1 h2
 have:d=eI (Gs d):=by
  cases d with
  |int i=>rfl
  |bl b=>cases h2
  |_=>cases h1
 exact⟨this,fun _=>this⟩
theorem Xx (d:Dt):fW d=dH d 1 1000:=by
 unfold fW dH jt
 rw[Bool.and_assoc]
theorem Pq (d:Dt):dW d=dH d 1 12:=by
 unfold dW dH jt
 rw[Bool.and_assoc]
theorem R7 {d:Dt} {n:Int} (h:nq d n=true):is_tuple d=true/\n6 d=n:=by
 unfold nq at h
 simpa using h
theorem ach (d:Dt) (n:Int):wW d n:=fun h=>CV h
theorem Dz (d:Dt) (w:Str) (n:Int) (hn:1<=n):lu d w n:=by
 refine⟨ach d n,fun h=>?_⟩
 obtain⟨h1,h2⟩:=R7 h
 have:=Jh (i:=0) h1 (by decide) (by omega)
 exact⟨this,fun hs=>⟨this,CW hs rfl⟩⟩
theorem Xy {d:Dt} {w:Str} {n:Int} (h:aU d w n=true):is_tuple d=true/\n6 d=n:=by
 unfold aU at h
 rw[zi] at h
 exact R7 h.1
theorem aaj (a b:Dt):ju a b:=⟨Kc a,fun h1=>⟨Kc b,fun h2=>CW (zx h1) (zx h2)⟩⟩
theorem ae8 (d:Dt):zW d:=by
 have ix:∀ {w:Str} {n i:Int},aU d w n=true->0<=i->i < n->DX d i:=fun h h0 h1=>by
  obtain⟨h2,h3⟩:=Xy h
  exact Jh h2 h0 (by omega)
 refine⟨Dz d _ _ (by decide),fun h=>⟨⟨ix h (by decide) (by decide),Kc _⟩,fun _=>⟨ix h (by decide) (by decide),Ke _⟩⟩,fun _=>⟨Dz d _ _ (by decide),fun h=>⟨⟨ix h (by decide) (by decide),Kc _⟩,fun _=>⟨⟨ix h (by decide) (by decide),R6 _⟩,fun _=>⟨ix h (by decide) (by decide),Ke _⟩⟩⟩,fun _=>⟨Dz d _ _ (by decide),fun h=>⟨⟨⟨ix h (by decide) (by decide),ix h (by decide) (by decide)⟩,aaj _ _⟩,fun _=>⟨ix h (by decide) (by decide),Ke _⟩⟩,fun _=>⟨Dz d _ _ (by decide),fun h=>⟨ix h (by decide) (by decide),Kc _⟩⟩⟩⟩⟩
theorem Uq (d:Dt):mJ d:=by
 unfold mJ
 refine⟨fun ht=>?_,fun hc=>?_⟩
 ·have ht:is_tuple d=true:=by simpa using ht
  refine⟨CV ht,fun hl=>?_⟩
  have hl:2<=n6 d:=by simpa using hl
  exact⟨Jh ht (by decide) (by omega),fun _=>⟨Jh ht (by decide) (by omega),Kd _⟩⟩
 ·simp only[Bool.or_eq_false_iff,ja,decide_eq_false_iff_not] at hc
  obtain⟨ht,hl,hs,hn⟩:=hc
  have ix:∀ {i:Int},0<=i->i < n6 d->DX d i:=fun h0 h1=>Jh ht h0 h1
  have i0:=ix (i:=0) (by decide) (by omega)
  have q:∀ w:Str,KJ (jC d 0) (.str w):=fun w=>CW hs rfl
  refine⟨⟨i0,q _⟩,fun _=>CV ht,fun _=>⟨⟨i0,q _⟩,fun _=>⟨CV ht,fun h=>?_⟩,fun _=>⟨⟨CV ht,fun h=>?_⟩,fun h=>?_⟩⟩⟩
  ·have h:n6 d=3:=by simpa using h
   exact⟨ix (by decide) (by omega),Ft _ _ _⟩
  ·have h:n6 d=4:=by simpa using h
   exact⟨ix (by decide) (by omega),Ft _ _ _⟩
  ·simp only[Bool.or_eq_false_iff,ja,Zp] at h
   have i2:=ix (i:=2) (by decide) (by omega)
   refine⟨⟨i0,q _⟩,fun _=>⟨i2,Ft _ _ _⟩,fun _=>⟨⟨i0,q _⟩,fun _=>⟨⟨i2,Kd _⟩,fun h2=>⟨⟨ix (by decide) (by omega),i2⟩,?_⟩⟩⟩⟩
   rw[Gh] at h2 hn
   exact CW (zx hn) (zx h2)
theorem ac5 (s:Str):(s==("same" : Str))=true->(s==("begin" : Str))=false/\(s==("both" : Str))=false/\(s==("never" : Str))=false:=fun h=>by
 have:=eq_of_beq h
 subst this
 exact⟨rfl,rfl,rfl⟩
theorem ae9 (s:Str):(s==("begin" : Str))=true->(s==("same" : Str))=false/\(s==("both" : Str))=false/\(s==("never" : Str))=false:=fun h=>by
 have:=eq_of_beq h
 subst this
 exact⟨rfl,rfl,rfl⟩
theorem afa (s:Str):(s==("both" : Str))=true->(s==("same" : Str))=false/\(s==("begin" : Str))=false/\(s==("never" : Str))=false:=fun h=>by
 have:=eq_of_beq h
 subst this
 exact⟨rfl,rfl,rfl⟩
theorem afb (s:Str):(s==("never" : Str))=true->(s==("same" : Str))=false/\(s==("begin" : Str))=false/\(s==("both" : Str))=false:=fun h=>by
 have:=eq_of_beq h
 subst this
 exact⟨rfl,rfl,rfl⟩
theorem M8 (ds:List Dt) (h:5<=ds.length):cN (.tup ds)=false/\iJ (.tup ds)=false:=by
 have d:∀ n:Int,n<=4->decide (n6 (.tup ds)=n)=false:=fun n hn=>ZH (by show ¬ ((ds.length:Int)=n);omega)
 have w:∀ (w:Str) (n:Int),n<=4->aU (.tup ds) w n=false:=fun w n hn=>by
  unfold aU nq
  rw[d n hn,kB,QA]
 constructor
 ·unfold cN
  rw[w _ 3 (by decide),w _ 4 (by decide),w _ 4 (by decide),w _ 2 (by decide)]
  rfl
 ·unfold iJ
  rw[d 2 (by decide),d 3 (by decide),d 4 (by decide)]
  simp only[QA,kA,Bool.true_or,Qb,ite_self]
theorem aci (d:Dt):cN d=iJ d:=by
 cases d with
 |tup ds=>
  by_cases aak:5<=ds.length
  ·rw[(M8 ds aak).1,(M8 ds aak).2]
  have ww:∀ (w:Str) (n:Int),aU (.tup ds) w n=(decide ((ds.length:Int)=n)&&(bR (jC (.tup ds) 0)&&Aa (jC (.tup ds) 0) (.str w))):=fun w n=>rfl
  unfold cN iJ
  simp only[ww,is_tuple,n6,Bool.not_true,kf,Gh,Xx,Pq]
  rcases ds with _|⟨a,_|⟨b,r⟩⟩
  ·rfl
  ·simp
  ·simp only[Q7,CZ]
   cases hs:bR a with
   |false=>simp
   |true=>
    obtain⟨s,rfl⟩:=rT hs
    simp only[Hw,Jn,Bool.not_true,kf,Qr]
    cases hb:cg b with
    |false=>
     simp only[kA,Bool.or_true,Qb,QA,kB,cj,hb,ite_self]
    |true=>
     rcases r with _|⟨c,_|⟨e,_|⟨f,r⟩⟩⟩
     ·cases h1:s==("same" : Str)<;>cases h2:s==("begin" : Str)<;>cases h3:s==("both" : Str)<;>cases h4:s==("never" : Str)<;>simp
     ·cases h1:s==("same" : Str)<;>cases h2:s==("begin" : Str)<;>cases h3:s==("both" : Str)<;>cases h4:s==("never" : Str)<;>simp[FQ]
      all_goals first|(have:=ac5 s h1;simp_all)|skip
     ·have key:cj b c=(cg c&&!Aa b c):=by unfold cj;rw[hb,Jn]
      cases h1:s==("same" : Str)<;>cases h2:s==("begin" : Str)<;>cases h3:s==("both" : Str)<;>cases h4:s==("never" : Str)<;>simp[FQ,Q8,key,hb]
      all_goals first|(have:=ae9 s h2;simp_all;done)|(have:=afa s h3;simp_all;done)|(have:=ac5 s h1;simp_all;done)|(have:=afb s h4;simp_all;done)|(cases dH e 1 1000<;>simp)
     ·exact absurd aak (by simp)
 |_=>rfl
theorem Xz {c:Nat} {s:Str} (h:jX ⟨#[c]⟩ s=true):c∈cs s:=by
 unfold jX at h
 rcases StrLaws.occ_head s ⟨#[c]⟩ 1 (zt 1) with⟨h0,hn⟩|⟨i,r,h0,h1,_⟩
 ·rw[h0] at h;cases h
 ·exact (mem_iff_at s c).mpr ⟨i,h1⟩
theorem M9 {w s:Str} (h:((chars w).map fun v:Str=>jX v s).all id=true):∀ c∈cs w,c∈cs s:=fun c hc=>by
 rw[List.all_map,qv] at h
 exact Xz (h ⟨#[c]⟩ (by rw[Dc];exact List.mem_map.mpr ⟨c,hc,rfl⟩))
theorem ahv {c:Nat} (h:c∈cs ("0123456789" : Str)):48<=c/\c<=57:=(by decide +kernel:∀ c∈cs ("0123456789" : Str),48<=c/\c<=57) c h
theorem ahw {c:Nat} (h:c∈cs ("abcdefghijklmnopqrstuvwxyz" : Str)):97<=c/\c<=122:=(by decide +kernel:∀ c∈cs ("abcdefghijklmnopqrstuvwxyz" : Str),97<=c/\c<=122) c h
theorem afc {w:Str} (h:w.length=1):ch w 0=w:=by
 obtain⟨c,hc,e⟩:=agM (x:=w) (i:=0) (in_of (by decide) (by omega))
 rw[e]
 refine Og ?_
 rw[j6] at h
 obtain⟨d,hd⟩:=List.length_eq_one_iff.mp h
 rw[hd] at hc
 cases List.mem_singleton.mp hc
 exact hd.symm
theorem zero_eq {w:Str} (h:1<=w.length):(decide (ch w (0:Int)=("0" : Str))&&decide ((1:Int) < (w.length:Int)))=(decide (ch w (0:Int)=("0" : Str))&&!decide (w=("0" : Str))):=by
 by_cases hc:ch w (0:Int)=("0" : Str)
 ·rw[ZO hc,Jn,Jn]
  by_cases h1:w.length=1
  ·have e:w=("0" : Str):=(afc h1).symm.trans hc
   rw[ZO e,ZH (by omega)]
   rfl
  ·have e:w≠("0" : Str):=fun e=>h1 (by rw[e];decide +kernel)
   rw[ZH e,ZO (by omega)]
   rfl
 ·rw[ZH hc,QA,QA]
theorem len_eq (w:Str):(decide ((0:Int) < (w.length:Int))&&decide ((w.length:Int) < (7:Int)))=(decide ((1:Int)<=(w.length:Int))&&decide ((w.length:Int)<=(6:Int))):=by
 rw[show decide ((0:Int) < (w.length:Int))=decide ((1:Int)<=(w.length:Int)) from decide_eq_decide.mpr (by omega),show decide ((w.length:Int) < (7:Int))=decide ((w.length:Int)<=(6:Int)) from decide_eq_decide.mpr (by omega)]
theorem cond_of {w:Str} (h:((!(decide ((1:Int)<=(w.length:Int))&&decide ((w.length:Int)<=(6:Int))))||(!(((chars w).map fun v:Str=>jX v ("0123456789" : Str)).all id)))=false):(1<=w.length/\w.length<=6)/\∀ c∈cs w,48<=c/\c<=57:=by
 rw[Bool.or_eq_false_iff,ja,ja,zi,Zp,Zp] at h
 exact⟨⟨by omega,by omega⟩,fun c hc=>ahv (M9 h.2 c hc)⟩
theorem Ur (w:Str):fH w=bI w:=by
 unfold fH bI
 rw[len_eq]
 cases hq:((!(decide ((1:Int)<=(w.length:Int))&&decide ((w.length:Int)<=(6:Int))))||(!(((chars w).map fun v:Str=>jX v ("0123456789" : Str)).all id))) with
 |true=>rfl
 |false=>rw[zero_eq (cond_of hq).1.1]
theorem R8 {w:Str} (h:(1<=w.length/\w.length<=6)/\∀ c∈cs w,48<=c/\c<=57):w.length<=640/\(intText? w).isSome=true:=by
 refine⟨by omega,?_⟩
 rw[PySem.intText_digits (x:=w) h.2 (fun e=>by have:=h.1.1;rw[j6] at this;rw[show cs w=[] from e] at this;cases this) (by omega)]
 rfl
theorem R9 {w:Str} {n:Nat} (h:w.length<=n):(chars w).length<=n:=by
 rw[Dc,zC,<-j6]
 exact h
theorem ahx (w:Str):qI w:=by
 unfold qI
 refine⟨fun h=>?_,fun h=>⟨in_of (by decide) (by have:=(cond_of h).1.1;omega),fun _=>R8 (cond_of h)⟩⟩
 rw[ja,zi,Zp,Zp] at h
 exact R9 (by omega)
theorem afd (w:Str):jF w:=by
 unfold jF
 rw[len_eq]
 refine⟨fun h=>?_,fun h=>⟨in_of (by decide) (by have:=(cond_of h).1.1;omega),fun _=>R8 (cond_of h)⟩⟩
 rw[ja,zi,Zp,Zp] at h
 exact R9 (by omega)
def Nm (s:Str):Prop:=1<=s.length/\s.length<=8/\∀ c∈cs s,97<=c/\c<=122
theorem VJ {x:Str} (p:Str->Bool):((DY (.str x)).map fun v:Dt=>p (asS v))=(chars x).map p:=by
 rw[show DY (.str x)=(chars x).map Dt.str from IW x,Q4]
 rfl
theorem DG {a:Str} (h:cg (.str a)=true):Nm a:=by
 unfold cg gZ at h
 have h:((decide ((1:Int)<=(a.length:Int))&&decide ((a.length:Int)<=8))&&(((DY (.str a)).map fun v:Dt=>jX (asS v) ("abcdefghijklmnopqrstuvwxyz" : Str)).all id))=true:=h
 rw[VJ (fun v=>jX v _),zi,zi,Zp,Zp] at h
 exact⟨by omega,by omega,fun c hc=>ahw (M9 h.2 c hc)⟩
theorem afe {c:Nat} (h:97<=c/\c<=122):c∈cs ("abcdefghijklmnopqrstuvwxyz" : Str):=by
 have:∀ i:Fin 26,97+i.val∈cs ("abcdefghijklmnopqrstuvwxyz" : Str):=by decide +kernel
 have:=this ⟨c - 97,by omega⟩
 rwa [show 97+(c - 97)=c by omega] at this
theorem DK {a:Str} (h:Nm a):cg (.str a)=true:=by
 unfold cg gZ
 show ((decide ((1:Int)<=(a.length:Int))&&decide ((a.length:Int)<=8))&&(((DY (.str a)).map fun v:Dt=>jX (asS v) ("abcdefghijklmnopqrstuvwxyz" : Str)).all id))=true
 rw[VJ (fun v=>jX v _),zi,zi,Zp,Zp]
 refine⟨⟨by have:=h.1;omega,by have:=h.2.1;omega⟩,?_⟩
 rw[List.all_map,qv]
 intro v hv
 rw[Dc] at hv
 obtain⟨c,hc,rfl⟩:=List.mem_map.mp hv
 exact MK (afe (h.2.2 c hc))
theorem afg {a:Str} (h:Nm a):bI a=none:=by
 unfold bI
 cases hq:((!(decide ((1:Int)<=(a.length:Int))&&decide ((a.length:Int)<=(6:Int))))||(!(((chars a).map fun v:Str=>jX v ("0123456789" : Str)).all id))) with
 |true=>rfl
 |false=>
  obtain⟨⟨h1,_⟩,h2⟩:=cond_of hq
  have hl:=h1
  rw[j6] at hl
  obtain⟨c,hc⟩:=List.exists_mem_of_ne_nil (cs a) (fun e=>by rw[e] at hl;cases hl)
  have:=h2 c hc
  have:=h.2.2 c hc
  omega
theorem lA {w a:Str} (h:cZ w=.str a):w=a/\bI w=none:=by
 unfold cZ at h
 dsimp only at h
 cases hn:bI w with
 |none=>rw[hn] at h;exact⟨Dt.str.inj h,rfl⟩
 |some n=>rw[hn] at h;cases h
theorem DN {w:Str} {c:Int} (h:cZ w=.int c):bI w=some c:=by
 unfold cZ at h
 dsimp only at h
 cases hn:bI w with
 |none=>rw[hn] at h;cases h
 |some n=>rw[hn] at h;exact congrArg some (Dt.int.inj h)
theorem part_of {w:Str}:cZ w=(match bI w with|none=>.str w|some n=>.int n):=by
 unfold cZ
 dsimp only
 cases bI w<;>rfl
theorem qC {a:Str} (h:Nm a):cZ a=.str a:=by rw[part_of,afg h]
theorem Kf {α β:Type} (g:β->α):∀ (l:List β) (f:List α),l.foldl (fun f k=>f++[g k]) f=f++l.map g
 |[],f=>by simp
 |k::l,f=>by rw[List.foldl_cons,Kf g l];simp
def Shape (ds:List Dt):Prop:=
 (∃ a c,ds=[.str "same", .str a,.int c]/\Nm a/\(1<=c/\c<=1000))\/(∃ a b c,ds=[.str "begin", .str a,.int b,.int c]/\Nm a/\(1<=b/\b<=12)/\(1<=c/\c<=1000)) ∨
 (∃ a b c,ds=[.str "both", .str a,.str b,.int c]/\Nm a/\Nm b/\a≠b/\(1<=c/\c<=1000))\/∃ a,ds=[.str "never", .str a]/\Nm a
theorem XC (ds:List Dt) (w:Str) (n:Int):aU (.tup ds) w n=(decide ((ds.length:Int)=n)&&(bR (jC (.tup ds) 0)&&Aa (jC (.tup ds) 0) (.str w))):=rfl
theorem wX {ds:List Dt} {w:Str} {n:Int} (h:aU (.tup ds) w n=true):(ds.length:Int)=n/\jC (.tup ds) 0=.str w:=by
 rw[XC,zi,zi,Zp] at h
 obtain⟨h1,h2,h3⟩:=h
 obtain⟨x,e⟩:=rT h2
 rw[e,Hw] at h3
 rw[e,eq_of_beq h3]
 exact⟨h1,rfl⟩
theorem Fv {d:Dt} (h:fW d=true):∃ c,d=.int c/\1<=c/\c<=1000:=by
 unfold fW at h
 rw[zi,zi,Zp,Zp] at h
 exact⟨Gs d,rW h.1,h.2⟩
theorem aal {d:Dt} (h:dW d=true):∃ c,d=.int c/\1<=c/\c<=12:=by
 unfold dW at h
 rw[zi,zi,Zp,Zp] at h
 exact⟨Gs d,rW h.1,h.2⟩
theorem DP {d:Dt} (h:cg d=true):∃ a,d=.str a/\Nm a:=by
 obtain⟨a,rfl⟩:=rT (zx h)
 exact⟨a,rfl,DG h⟩
theorem Br {ds:List Dt} (h:cN (.tup ds)=true):Shape ds:=by
 unfold cN at h
 split at h
 ·rename_i hw
  obtain⟨hl,h0⟩:=wX hw
  match ds,hl with
  |[x,y,z],_=>
   rw[Q7] at h0
   rw[CZ,FQ,zi] at h
   obtain⟨a,rfl,ha⟩:=DP h.1
   obtain⟨c,rfl,hc⟩:=Fv h.2
   exact .inl ⟨a,c,by rw[h0],ha,hc⟩
 ·split at h
  ·rename_i hw
   obtain⟨hl,h0⟩:=wX hw
   match ds,hl with
   |[x,y,z,u],_=>
    rw[Q7] at h0
    rw[CZ,FQ,Q8,zi,zi] at h
    obtain⟨a,rfl,ha⟩:=DP h.1
    obtain⟨b,rfl,hb⟩:=aal h.2.1
    obtain⟨c,rfl,hc⟩:=Fv h.2.2
    exact .inr (.inl ⟨a,b,c,by rw[h0],ha,hb,hc⟩)
  ·split at h
   ·rename_i hw
    obtain⟨hl,h0⟩:=wX hw
    match ds,hl with
    |[x,y,z,u],_=>
     rw[Q7] at h0
     unfold cj at h
     rw[CZ,FQ,Q8,zi,zi,zi] at h
     obtain⟨a,rfl,ha⟩:=DP h.1.1
     obtain⟨b,rfl,hb⟩:=DP h.1.2.1
     obtain⟨c,rfl,hc⟩:=Fv h.2
     refine .inr (.inr (.inl ⟨a,b,c,by rw[h0],ha,hb,fun e=>?_,hc⟩))
     have h4:=h.1.2.2
     rw[Hw,e,beq_self_eq_true] at h4
     cases h4
   ·rw[zi] at h
    obtain⟨hl,h0⟩:=wX h.1
    match ds,hl with
    |[x,y],_=>
     rw[Q7] at h0
     have h2:=h.2
     rw[CZ] at h2
     obtain⟨a,rfl,ha⟩:=DP h2
     exact .inr (.inr (.inr ⟨a,by rw[h0],ha⟩))
theorem Bt {c:Int} (h:1<=c/\c<=1000):fW (.int c)=true:=by
 show (decide (1<=c)&&decide (c<=1000))=true
 rw[ZO h.1,ZO h.2]
 rfl
theorem XD {c:Int} (h:1<=c/\c<=12):dW (.int c)=true:=by
 show (decide (1<=c)&&decide (c<=12))=true
 rw[ZO h.1,ZO h.2]
 rfl
theorem Us {ds:List Dt} (h:Shape ds):cN (.tup ds)=true:=by
 rcases h with⟨a,c,rfl,ha,hc⟩|⟨a,b,c,rfl,ha,hb,hc⟩|⟨a,b,c,rfl,ha,hb,hn,hc⟩|⟨a,rfl,ha⟩
 ·unfold cN
  rw[show aU (.tup [.str "same", .str a,.int c]) "same" 3=true from rfl,zo rfl,CZ,FQ,DK ha,Bt hc]
  rfl
 ·unfold cN
  rw[show aU (.tup [.str "begin", .str a,.int b,.int c]) "same" 3=false from rfl,Zs zg,show aU (.tup [.str "begin", .str a,.int b,.int c]) "begin" 4=true from rfl,zo rfl,CZ,FQ,Q8,DK ha,XD hb,Bt hc]
  rfl
 ·unfold cN cj
  rw[show aU (.tup [.str "both", .str a,.str b,.int c]) "same" 3=false from rfl,Zs zg,show aU (.tup [.str "both", .str a,.str b,.int c]) "begin" 4=false from rfl,Zs zg,show aU (.tup [.str "both", .str a,.str b,.int c]) "both" 4=true from rfl,zo rfl,CZ,FQ,Q8,DK ha,DK hb,Bt hc,Hw,show (a==b)=false from beq_eq_false_iff_ne.mpr hn]
  rfl
 ·unfold cN
  rw[show aU (.tup [.str "never", .str a]) "same" 3=false from rfl,Zs zg,show aU (.tup [.str "never", .str a]) "begin" 4=false from rfl,Zs zg,show aU (.tup [.str "never", .str a]) "both" 4=false from rfl,Zs zg,show aU (.tup [.str "never", .str a]) "never" 2=true from rfl,CZ,DK ha]
  rfl
def plF (ws:LS_) (k:Int):Dt:=if (decide (k < (2:Int))||(decide (k=(2:Int))&&decide (at' ws (0:Int)=("both" : Str))))=true then eS (at' ws k) else eO eI (fH (at' ws k))
def pl (ws:LS_):List Dt:=(rng 0 ws.length).map (plF ws)
theorem ac7 (ws:LS_) (vl:List Dt) (k:Int):cI ws vl k=vl++[plF ws k]:=by
 unfold cI plF
 dsimp only
 split<;>rfl
theorem ahy (ws:LS_):(rng 0 (ws.length:Int).toNat).foldl (fun (vl:List Dt) (v2:Int)=>cI ws vl v2) []=pl ws:=by
 have e:(fun (vl:List Dt) (v2:Int)=>cI ws vl v2)=fun vl v2=>vl++[plF ws v2]:=by funext vl k;exact ac7 ws vl k
 rw[e,Kf,JA]
 rfl
theorem pl2 (a b:Str):pl [a,b]=[.str a,.str b]:=rfl
theorem pl3 (a b c:Str):pl [a,b,c]=[.str a,.str b,if a = "both" then .str c else eO eI (bI c)]:=by
 show [Dt.str a,Dt.str b,plF [a,b,c] 2]=_
 unfold plF
 rw[Ur]
 show [Dt.str a,Dt.str b,if (decide (a=("both" : Str)))=true then Dt.str c else eO eI (bI c)]=_
 by_cases h:a=("both" : Str)
 ·rw[ZO h,zo rfl,zo h]
 ·rw[ZH h,Zs zg,Zs h]
theorem pl4 (a b c d:Str):pl [a,b,c,d]=[.str a,.str b,if a = "both" then .str c else eO eI (bI c),eO eI (bI d)]:=by
 show [Dt.str a,Dt.str b,plF [a,b,c,d] 2,eO eI (fH d)]=_
 unfold plF
 rw[Ur,Ur]
 show [Dt.str a,Dt.str b,if (decide (a=("both" : Str)))=true then Dt.str c else eO eI (bI c),_]=_
 by_cases h:a=("both" : Str)
 ·rw[ZO h,zo rfl,zo h]
 ·rw[ZH h,Zs zg,Zs h]
theorem afh (ws:LS_):(pl ws).length=ws.length:=by
 unfold pl
 rw[zC,Vo]
theorem afi:Nm "same" ∧ Nm "begin" ∧ Nm "both" ∧ Nm "never" := ⟨DG (by decide +kernel),DG (by decide +kernel),DG (by decide +kernel),DG (by decide +kernel)⟩
theorem VL {o:Option Int} {c:Int} (h:eO eI o=.int c):o=some c:=by
 cases o with
 |none=>cases h
 |some n=>exact congrArg some (Dt.int.inj h)
theorem aam (ws:LS_) (h:Shape (ws.map cZ)\/Shape (pl ws)):ws.map cZ=pl ws:=by
 have hl:ws.length=2\/ws.length=3\/ws.length=4:=by
  rcases h with h|h
  ·have q:=zC cZ (as:=ws)
   rcases h with⟨_,_,e,_⟩|⟨_,_,_,e,_⟩|⟨_,_,_,e,_⟩|⟨_,e,_⟩<;>(rw[e] at q;simp at q;omega)
  ·have q:=afh ws
   rcases h with⟨_,_,e,_⟩|⟨_,_,_,e,_⟩|⟨_,_,_,e,_⟩|⟨_,e,_⟩<;>(rw[e] at q;simp at q;omega)
 obtain⟨w1,w2,w3,w4⟩:=afi
 match ws,hl with
 |[a,b],_=>
  rw[pl2] at h ⊢
  rcases h with h|h
  ·rcases h with⟨_,_,e,_⟩|⟨_,_,_,e,_⟩|⟨_,_,_,e,_⟩|⟨x,e,_⟩
   ·simp at e
   ·simp at e
   ·simp at e
   ·simp only[zz,QP,qc,and_true] at e ⊢
    obtain⟨e1,e2⟩:=e
    rw[(lA e1).1,(lA e2).1]
    exact⟨e1▸(by rw[(lA e1).1]),by rw[(lA e2).1] at e2;exact e2⟩
  ·rcases h with⟨_,_,e,_⟩|⟨_,_,_,e,_⟩|⟨_,_,_,e,_⟩|⟨x,e,hx⟩
   ·simp at e
   ·simp at e
   ·simp at e
   ·simp only[qc,and_true,Dt.str.injEq] at e
    obtain⟨rfl,rfl⟩:=e
    simp only[zz,QP,qC w4,qC hx]
 |[a,b,c],_=>
  rw[pl3] at h ⊢
  rcases h with h|h
  ·rcases h with⟨x,n,e,_⟩|⟨_,_,_,e,_⟩|⟨_,_,_,e,_⟩|⟨x,e,_⟩
   ·simp only[zz,QP,qc,and_true] at e ⊢
    obtain⟨e1,e2,e3⟩:=e
    have ha:=(lA e1).1
    have hb:=(lA e2).1
    subst ha hb
    rw[e1,e2,e3,Zs (by decide +kernel),DN e3]
    exact⟨rfl,rfl,rfl⟩
   ·simp at e
   ·simp at e
   ·simp at e
  ·rcases h with⟨x,n,e,hx,_⟩|⟨_,_,_,e,_⟩|⟨_,_,_,e,_⟩|⟨x,e,hx⟩
   ·simp only[qc,and_true,Dt.str.injEq] at e
    obtain⟨ha,hb,e3⟩:=e
    subst ha hb
    rw[Zs (by decide +kernel)] at e3 ⊢
    have e4:=VL e3
    simp only[zz,QP,qC w1,qC hx,part_of (w:=c),e4]
   ·simp at e
   ·simp at e
   ·simp at e
 |[a,b,c,d],_=>
  rw[pl4] at h ⊢
  rcases h with h|h
  ·rcases h with⟨x,n,e,_⟩|⟨x,m,n,e,_⟩|⟨x,y,n,e,_⟩|⟨x,e,_⟩
   ·simp at e
   ·simp only[zz,QP,qc,and_true] at e ⊢
    obtain⟨e1,e2,e3,e4⟩:=e
    have ha:=(lA e1).1
    have hb:=(lA e2).1
    subst ha hb
    rw[e1,e2,e3,e4,Zs (by decide +kernel),DN e3,DN e4]
    exact⟨rfl,rfl,rfl,rfl⟩
   ·simp only[zz,QP,qc,and_true] at e ⊢
    obtain⟨e1,e2,e3,e4⟩:=e
    have ha:=(lA e1).1
    have hb:=(lA e2).1
    have hc:=(lA e3).1
    subst ha hb hc
    rw[e1,e2,e3,e4,zo rfl,DN e4]
    exact⟨rfl,rfl,rfl,rfl⟩
   ·simp at e
  ·rcases h with⟨x,n,e,hx,_⟩|⟨x,m,n,e,hx,_⟩|⟨x,y,n,e,hx,hy,_⟩|⟨x,e,hx⟩
   ·simp at e
   ·simp only[qc,and_true,Dt.str.injEq] at e
    obtain⟨ha,hb,e3,e4⟩:=e
    subst ha hb
    rw[Zs (by decide +kernel)] at e3 ⊢
    have e5:=VL e3
    have e6:=VL e4
    simp only[zz,QP,qC w2,qC hx,part_of (w:=c),part_of (w:=d),e5,e6]
   ·simp only[qc,and_true,Dt.str.injEq] at e
    obtain⟨ha,hb,e3,e4⟩:=e
    subst ha hb
    rw[zo rfl] at e3 ⊢
    have hc:=Dt.str.inj e3
    subst hc
    have e6:=VL e4
    simp only[zz,QP,qC w3,qC hx,qC hy,part_of (w:=d),e6]
   ·simp at e
theorem afj (l:Str):iK l=bL l:=by
 unfold iK bL
 dsimp only
 rw[ahy,<-aci]
 show (if cN (.tup ((pl (Txt.split l " ")).map eD))=true then _ else _)=(if cN (.tup (((Txt.split l " ").map fun vq:Str=>cZ vq).map eD))=true then _ else _)
 have eid:∀ xs:List Dt,xs.map eD=xs:=fun xs=>by rw[show (eD:Dt->Dt)=id from rfl,JO]
 rw[eid,eid]
 cases h1:cN (.tup ((Txt.split l " ").map fun vq:Str=>cZ vq)) with
 |true=>
  have e:=aam (Txt.split l " ") (.inl (Br h1))
  rw[<-e,h1]
 |false=>
  cases h2:cN (.tup (pl (Txt.split l " "))) with
  |false=>rfl
  |true=>
   have e:=aam (Txt.split l " ") (.inr (Br h2))
   rw[<-e] at h2
   rw[h1] at h2
   cases h2
theorem aan {l:Str} (h:l.length<=90000):nW l/\qz l:=by
 have hs:=split_le l " "
 refine⟨⟨⟨⟨⟨by decide +kernel,by omega⟩,by omega⟩,fun w _=>ahx w⟩,ae8 _⟩,⟨by decide +kernel,by omega⟩,⟨QT (by omega) (by omega),?_⟩,Uq _⟩
 refine (uW (P:=fun (vl:List Dt) (k:Int)=>some (pU (Txt.split l " ") vl k)) (step:=fun (vl:List Dt) (k:Int)=>cI (Txt.split l " ") vl k) (fun k s=>s.length=k) (((Txt.split l " ").length:Int).toNat) [] rfl fun k s hk h=>⟨?_,?_⟩).1
 ·have i:In (Txt.split l " ").length (k:Int):=in_of (by omega) (by omega)
  have f:mC s.length:=by unfold mC;omega
  exact⟨fun _ _=>in_of (by decide) (by omega),fun _=>⟨i,f⟩,fun _=>⟨⟨i,afd _⟩,f⟩⟩
 ·show (cI (Txt.split l " ") s k).length=k+1
  rw[ac7,zl,h]
  rfl
theorem aao {t:Str} (h:t.length=0):t=("" : Str):=by
 refine Og ?_
 rw[j6] at h
 rw[List.length_eq_zero_iff.mp h]
 rfl
theorem zy {t:Str} (h:t≠("" : Str)):aR t=Txt.split t "\n" := by
 have hl:t.length≠0:=fun e=>h (aao e)
 show (if decide (t.length≠0)=true then Txt.split t "\n" else [])=_
 rw[ZO hl,zo rfl]
theorem Nb:aR ("" : Str)=[]:=rfl
theorem Fw (t:Str):(aR t).length<=t.length+2:=by
 by_cases h:t=("" : Str)
 ·rw[h,Nb];exact QN _
 ·rw[zy h];exact split_le _ _
theorem Gi {t l:Str} (h:l∈aR t):l.length<=t.length:=by
 by_cases e:t=("" : Str)
 ·rw[e,Nb] at h;cases h
 ·rw[zy e] at h;exact part_short h
theorem VN {t:Str} (h:t.length<=80000):pR t:=⟨fun z=>(by cases z),fun _ _=>⟨by decide +kernel,by omega⟩⟩
theorem aap {t:Str} {q:Et} (h:q∈qT (aR t)):q.2∈aR t:=by
 unfold qT at h
 obtain⟨k,hk,e⟩:=List.mem_iff_getElem.mp h
 rw[List.getElem_zipWith] at e
 rw[<-e]
 exact jv _
theorem VP:∀ (qs:List Et) (acc:List LD_),(∀ q∈qs,nW q.2/\(bL q.2).isSome=true)->acc.length+qs.length<=90000 →
  rz (fun (vi:List LD_) (q1:Et)=>(cU vi q1:Ab (List LD_) (List LD_))) qs acc=.nx (acc++qs.map fun q=>(bL q.2).getD default)/\CP (fun (vi:List LD_) (q1:Et)=>(cU vi q1:Ab (List LD_) (List LD_))) (fun (vi:List LD_) (q1:Et)=>some (fG vi q1)) qs acc
 |[],acc,_,_=>⟨by simp[rz],trivial⟩
 |q::qs,acc,h,hl=>by
  obtain⟨h1,h2⟩:=h q (zS ..)
  rw[Qr] at hl
  obtain⟨x,hx⟩:=Option.isSome_iff_exists.mp h2
  have e1:cU acc q=.nx (acc++[x]):=by
   unfold cU
   dsimp only
   rw[hx]
   rfl
  have d1:fG acc q:=by
   unfold fG
   dsimp only
   rw[hx]
   exact⟨h1,(fun z=>nomatch z),fun _=>⟨rfl,by unfold mC;omega⟩⟩
  obtain⟨i1,i2⟩:=VP qs (acc++[x]) (fun p hp=>h p (zI _ hp)) (by rw[zl,Zl];omega)
  refine⟨?_,d1,?_⟩
  ·unfold rz
   rw[e1]
   dsimp only
   rw[i1,zz,hx,JY]
   rfl
  ·dsimp only
   rw[e1]
   exact i2
theorem VR {β:Type} (f:Str->β):∀ (ks:List Nat) (ls:LS_),ks.length=ls.length->List.zipWith (fun (_:Nat) y=>f y) ks ls=ls.map f
 |[],[],_=>rfl
 |[],_::_,h=>by cases h
 |_::_,[],h=>by cases h
 |k::ks,l::ls,h=>by rw[List.zipWith_cons_cons,zz,VR f ks ls (Nat.succ.inj h)]
theorem aaq {β:Type} (f:Str->β) (ls:LS_):(qT ls).map (fun q=>f q.2)=ls.map f:=by
 unfold qT
 rw[List.map_zipWith]
 exact VR f _ ls List.length_range
theorem Hy {t:Str} (h:t.length<=80000) (hb:∀ l∈aR t,(bL l).isSome=true):rO t/\lR t=(aR t).map fun l=>(bL l).getD default:=by
 have hl:=Fw t
 have hq:(qT (aR t)).length<=t.length+2:=by unfold qT;rw[List.length_zipWith,List.length_range,Nat.min_self];exact hl
 obtain⟨f1,f2⟩:=VP (qT (aR t)) [] (fun q hq=>⟨(aan (by have:=Gi (aap hq);omega)).1,hb _ (aap hq)⟩) (by rw[List.length_nil];omega)
 refine⟨⟨⟨VN h,f2⟩,?_⟩,?_⟩
 ·rw[f1];trivial
 ·unfold lR
  dsimp only
  rw[f1,JA,aaq (fun l=>(bL l).getD default)]
  rfl
theorem Kg {t:Str} (h:(aR t).findIdx? bad=none):∀ l∈aR t,(bL l).isSome=true:=fun l hl=>by
 have:=List.findIdx?_eq_none_iff.mp h l hl
 unfold bad at this
 cases hq:bL l with
 |none=>rw[hq] at this;cases this
 |some x=>rfl
theorem aar {t:Str} (h:t.length<=80000):nu t:=by
 have hl:=Fw t
 exact⟨⟨VN h,fun l hl=>(aan (by have:=Gi hl;omega)).1,by omega⟩,fun hn=>(Hy h (Kg hn)).1⟩
theorem ahz {t:Str} (h:t.length<=80000):zX t:=by
 intro hne
 have hne:t≠("" : Str):=of_decide_eq_false hne
 have hl:=Fw t
 rw[zy hne] at hl
 refine⟨⟨⟨⟨by decide +kernel,by omega⟩,by omega⟩,fun l hl=>(aan (by have:=part_short hl;omega)).2⟩,fun ha=>⟨ha,?_⟩⟩
 rw[zC]
 omega
theorem aas {t:Str} (h:t.length<=80000):cu t=nY t:=by
 unfold nY
 by_cases e:t=("" : Str)
 ·rw[e];rfl
 rw[ZH e,Zs zg]
 dsimp only
 have er:(fun l:Str=>iK l)=bL:=by funext l;exact afj l
 rw[er,List.any_map,List.findIdx_map]
 have eb:(Option.isNone ∘ bL)=bad:=rfl
 rw[eb,<-zy e]
 unfold cu
 cases hq:(aR t).findIdx? bad with
 |some i=>
  have ha:(aR t).any bad=true:=by
   rw[List.any_eq_true]
   obtain⟨h1,h2,_⟩:=List.findIdx?_eq_some_iff_getElem.mp hq
   exact⟨_,jv h1,h2⟩
  rw[ha,zo rfl]
  have:=List.findIdx?_eq_some_of_exists (xs:=aR t) (p:=bad) (List.any_eq_true.mp ha)
  rw[hq] at this
  cases this
  rfl
 |none=>
  have hb:=Kg hq
  have ha:(aR t).any bad=false:=by
   rw[List.any_eq_false]
   intro l hl
   rw[List.findIdx?_eq_none_iff.mp hq l hl]
   exact zg
  rw[ha,Zs zg]
  show eT (eT eD) (lR t)=_
  rw[(Hy h hb).2]
  show Dt.tup _=Dt.tup _
  rw[Q4,Q4]
  congr 1
  refine List.map_congr_left fun l hl=>?_
  obtain⟨x,hx⟩:=Option.isSome_iff_exists.mp (hb l hl)
  show eT eD ((bL l).getD default)=eO (eT eD) (bL l)
  rw[hx]
  rfl
def Lk (d:Dt):Prop:=∃ ds,d=.tup ds/\Shape ds
theorem g8 {d:Dt} {ds:List Dt} (h:uy d d=some true) (h2:lZ ds ds=some true):lZ (d::ds) (d::ds)=some true:=by
 show (match uy d d with|some b=>(match lZ ds ds with|some c=>some (b&&c)|none=>none)|none=>none)=_
 rw[h,h2]
 rfl
theorem DQ (a:Str):uy (.str a) (.str a)=some true:=congrArg some (beq_self_eq_true a)
theorem Nf (a:Int):uy (.int a) (.int a)=some true:=congrArg some (beq_self_eq_true a)
theorem Kh:lZ [] []=some true:=rfl
theorem Sd {ds:List Dt} (h:lZ ds ds=some true):uy (.tup ds) (.tup ds)=some true:=h
theorem Ut {ds:List Dt} (h:Shape ds):uy (.tup ds) (.tup ds)=some true/\uO (.tup ds)<=2:=by
 rcases h with⟨a,c,rfl,_⟩|⟨a,b,c,rfl,_⟩|⟨a,b,c,rfl,_⟩|⟨a,rfl,_⟩
 ·exact⟨Sd (g8 (DQ _) (g8 (DQ _) (g8 (Nf _) Kh))),by simp[uO,qY]⟩
 ·exact⟨Sd (g8 (DQ _) (g8 (DQ _) (g8 (Nf _) (g8 (Nf _) Kh)))),by simp[uO,qY]⟩
 ·exact⟨Sd (g8 (DQ _) (g8 (DQ _) (g8 (DQ _) (g8 (Nf _) Kh)))),by simp[uO,qY]⟩
 ·exact⟨Sd (g8 (DQ _) (g8 (DQ _) Kh)),by simp[uO,qY]⟩
theorem lks:∀ {rs:List Dt},(∀ r∈rs,Lk r)->lZ rs rs=some true/\qY rs<=2
 |[],_=>⟨Kh,by simp[qY]⟩
 |r::rs,h=>by
  obtain⟨ds,rfl,hs⟩:=h r (zS ..)
  obtain⟨i1,i2⟩:=lks (rs:=rs) fun x hx=>h x (zI _ hx)
  obtain⟨s1,s2⟩:=Ut hs
  refine⟨g8 s1 i1,?_⟩
  unfold qY
  omega
theorem V0 {rs:List Dt} (h:∀ r∈rs,Lk r):Aa (.tup rs) (.tup rs)=true/\KJ (.tup rs) (.tup rs):=by
 obtain⟨h1,h2⟩:=lks h
 have e:=Sd h1
 refine⟨by unfold Aa;rw[e];rfl,by rw[e];rfl,?_⟩
 rw[Nat.min_self]
 unfold uO
 omega
theorem aat {t:Str} (h:t.length<=80000):Aa (cu t) (nY t)=true/\KJ (cu t) (nY t):=by
 rw[<-aas h]
 unfold cu
 cases hq:(aR t).findIdx? bad with
 |some i=>exact⟨by unfold Aa;rw[Nf];rfl,by rw[Nf];rfl,by simp[uO]⟩
 |none=>
  have hb:=Kg hq
  show Aa (.tup _) (.tup _)=true/\KJ (.tup _) (.tup _)
  refine V0 fun r hr=>?_
  obtain⟨x,hx,rfl⟩:=List.mem_map.mp hr
  rw[(Hy h hb).2] at hx
  obtain⟨l,hl,rfl⟩:=List.mem_map.mp hx
  obtain⟨x,hx⟩:=Option.isSome_iff_exists.mp (hb l hl)
  rw[hx]
  refine⟨x,by show Dt.tup (x.map eD)=_;rw[show (eD:Dt->Dt)=id from rfl,JO],Br ?_⟩
  unfold bL at hx
  dsimp only at hx
  split at hx
  ·rename_i hr
   cases hx
   have hr:cN (.tup (((Txt.split l " ").map fun vq:Str=>cZ vq).map eD))=true:=hr
   rwa [show (eD:Dt->Dt)=id from rfl,JO] at hr
  ·cases hx
theorem Pr (y:Str) (l:LS_):(Txt.join y l).length<=(l.map (·.length)).sum+l.length * y.length:=by
 have h:=StrLaws.join_length_le y l
 rw[<-StrLaws.glued_eq_join] at h
 exact h
theorem Uu (y:Str) (l:LS_) (n:Nat) (h:∀ x∈l,x.length<=n):(l.map (·.length)).sum<=l.length * n:=by
 induction l with
 |nil=>simp
 |cons a l ih=>
  have h1:=h a (zS ..)
  have h2:=ih fun x hx=>h x (zI _ hx)
  rw[zz,List.sum_cons,Qr,Nat.add_mul,Nat.one_mul]
  omega
theorem afk {w:Str} {n:Int} (h:bI w=some n):(1<=w.length/\w.length<=6)/\∀ c∈cs w,48<=c/\c<=57:=by
 unfold bI at h
 cases hq:((!(decide ((1:Int)<=(w.length:Int))&&decide ((w.length:Int)<=(6:Int))))||(!(((chars w).map fun v:Str=>jX v ("0123456789" : Str)).all id))) with
 |true=>rw[hq] at h;cases h
 |false=>exact cond_of hq
theorem acj:∀ i:Fin 1001,1<=i.val->((Nat.toDigits 10 i.val).map Char.toNat).length<=4/\∃ c∈((Nat.toDigits 10 i.val).map Char.toNat).head?,c≠48:=by decide +kernel
theorem afl {c:Nat} (h:48<=c/\c<=57):c∈cs ("0123456789" : Str):=by
 have:∀ i:Fin 10,48+i.val∈cs ("0123456789" : Str):=by decide +kernel
 have:=this ⟨c - 48,by omega⟩
 rwa [show 48+(c - 48)=c by omega] at this
theorem acn {n:Int} (h:1<=n/\n<=1000):bI (j5 (.int n))=some n:=by
 have hr:=PySem.W.KIN.num_reads (n:=n) (by omega) (by omega)
 obtain⟨m,rfl⟩:=Int.eq_ofNat_of_zero_le (show 0<=n by omega)
 obtain⟨h4,c,hc,h48⟩:=acj ⟨m,by omega⟩ (by show 1<=m;omega)
 have es:cs (j5 (.int (m:Nat)))=(Nat.toDigits 10 m).map Char.toNat:=PySem.W.KIN.signs_num m
 have hl:(j5 (.int (m:Nat))).length<=4:=by rw[j6,es];exact h4
 have h1:1<=(j5 (.int (m:Nat))).length:=by
  rw[j6,es]
  cases hq:(Nat.toDigits 10 m).map Char.toNat with
  |nil=>rw[hq] at hc;cases hc
  |cons a l=>exact Nat.succ_le_succ (QN _)
 have hd:∀ c∈cs (j5 (.int (m:Nat))),48<=c/\c<=57:=fun c hc=>by
  rw[es] at hc
  obtain⟨x,hx,rfl⟩:=List.mem_map.mp hc
  exact digit_range (Nat.isDigit_of_mem_toDigits (by decide) (by decide) hx)
 have hch:ch (j5 (.int (m:Nat))) 0≠("0" : Str):=fun e=>by
  cases hq:cs (j5 (.int (m:Nat))) with
  |nil=>rw[j6,hq] at h1;cases h1
  |cons a l=>
   have e2:ch (j5 (.int (m:Nat))) 0=⟨#[a]⟩:=by
    unfold ch
    rw[show (j5 (.int (m:Nat))).cps.toList=a::l from hq,show Hj (a::l) 0=some a by simp[Hj,ixN]]
    rfl
   rw[e2] at e
   have e3:[a]=[48]:=(congrArg cs e).trans (by decide +kernel)
   rw[es] at hq
   have hc:c∈((Nat.toDigits 10 m).map Char.toNat).head?:=hc
   rw[hq] at hc
   have e4:a=c:=qq hc
   exact h48 (e4.symm.trans (List.cons.inj e3).1)
 unfold bI
 have a1:((chars (j5 (.int (m:Nat)))).map fun v:Str=>jX v ("0123456789" : Str)).all id=true:=by
  rw[List.all_map,qv]
  intro v hv
  rw[Dc] at hv
  obtain⟨c,hc,rfl⟩:=List.mem_map.mp hv
  exact MK (afl (hd c hc))
 rw[a1,ZO (show (1:Int)<=((j5 (.int (m:Nat))).length:Int) by omega),ZO (show ((j5 (.int (m:Nat))).length:Int)<=6 by omega),ZH hch]
 show some ((intText? (Str.ofString (toString ((m:Nat):Int)))).getD 0)=_
 rw[hr]
 rfl
structure Wo (d:Dt):Prop where
 s:ZL d
 len:1<=(j5 d).length/\(j5 d).length<=8
 sg:∀ c∈cs (j5 d),48<=c/\c<=122
 p:cZ (j5 d)=d
theorem DR {a:Str} (h:Nm a):Wo (.str a):=⟨trivial,⟨h.1,h.2.1⟩,fun c hc=>by have:=h.2.2 c hc;omega,qC h⟩
theorem Pu {n:Int} (h:1<=n/\n<=1000):Wo (.int n):=by
 have q:=acn h
 obtain⟨h1,h2⟩:=afk q
 exact⟨by show n.natAbs<=1000000;omega,by omega,fun c hc=>by have:=h2 c hc;omega,by rw[part_of,q]⟩
theorem zA {ds:List Dt} (h:Shape ds):(∀ d∈ds,Wo d)/\ds≠[]/\ds.length<=4:=by
 obtain⟨w1,w2,w3,w4⟩:=afi
 rcases h with⟨a,c,rfl,ha,hc⟩|⟨a,b,c,rfl,ha,hb,hc⟩|⟨a,b,c,rfl,ha,hb,_,hc⟩|⟨a,rfl,ha⟩
 ·refine⟨?_,by simp,by simp⟩
  simp only[qh,qf,false_implies,implies_true,and_true]
  exact⟨DR w1,DR ha,Pu hc⟩
 ·refine⟨?_,by simp,by simp⟩
  simp only[qh,qf,false_implies,implies_true,and_true]
  exact⟨DR w2,DR ha,Pu (by omega),Pu hc⟩
 ·refine⟨?_,by simp,by simp⟩
  simp only[qh,qf,false_implies,implies_true,and_true]
  exact⟨DR w3,DR ha,DR hb,Pu hc⟩
 ·refine⟨?_,by simp,by simp⟩
  simp only[qh,qf,false_implies,implies_true,and_true]
  exact⟨DR w4,DR ha⟩
def Bu (d:Dt):Str:=Txt.join " " ((DY d).map fun vm:Dt=>j5 vm)
theorem ac8:cs (" " : Str)=32::[]:=by decide +kernel
theorem ahA:cs ("\n" : Str)=10::[]:=by decide +kernel
theorem XF {ds:List Dt} (h:Shape ds):Txt.split (Bu (.tup ds)) " " = ds.map j5:=by
 obtain⟨h1,h2,_⟩:=zA h
 unfold Bu
 show Txt.split (Txt.join " " (ds.map j5)) " " = _
 cases ds with
 |nil=>exact absurd rfl h2
 |cons d ds=>
  rw[zz]
  refine Jj ac8 (by decide +kernel) _ _ fun q hq hc=>?_
  rw[<-zz] at hq
  obtain⟨x,hx,rfl⟩:=List.mem_map.mp hq
  have:=(h1 x hx).sg _ hc
  omega
theorem row_read {ds:List Dt} (h:Shape ds):bL (Bu (.tup ds))=some ds:=by
 obtain⟨h1,h2,_⟩:=zA h
 unfold bL
 dsimp only
 rw[XF h,Q4]
 have e:ds.map ((fun vq:Str=>cZ vq) ∘ j5)=ds:=by
  refine (List.map_congr_left fun d hd=>(h1 d hd).p).trans ?_
  exact JO _
 rw[e]
 show (if cN (.tup (ds.map eD))=true then _ else _)=_
 rw[show ds.map eD=ds from JO _,Us h,zo rfl]
theorem Px {ds:List Dt} (h:Shape ds):(Bu (.tup ds)).length<=36/\((ds.map j5).map (·.length)).sum+(ds.map j5).length * (" " : Str).length<=36:=by
 obtain⟨h1,h2,h3⟩:=zA h
 have a:=Pr (" " : Str) (ds.map j5)
 have b:=Uu " " (ds.map j5) 8 fun x hx=>by
  obtain⟨d,hd,rfl⟩:=List.mem_map.mp hx
  exact (h1 d hd).len.2
 rw[zC] at a b ⊢
 rw[show (" " : Str).length=1 from rfl] at a ⊢
 unfold Bu
 refine⟨zv (show (Txt.join " " (ds.map j5)).length<=_ from a) ?_,?_⟩<;>omega
theorem afm {ds:List Dt} (h:Shape ds):10∉cs (Bu (.tup ds)):=by
 obtain⟨h1,h2,_⟩:=zA h
 unfold Bu
 show 10∉cs (Txt.join " " (ds.map j5))
 cases ds with
 |nil=>exact absurd rfl h2
 |cons d ds=>
  intro hc
  rw[zz,ab9] at hc
  rcases List.mem_append.mp hc with hc|hc
  ·have:=(h1 d (zS ..)).sg _ hc
   omega
  ·obtain⟨q,hq,hc⟩:=List.mem_flatMap.mp hc
   obtain⟨x,hx,rfl⟩:=List.mem_map.mp hq
   rcases List.mem_append.mp hc with hc|hc
   ·rw[ac8] at hc
    cases List.mem_singleton.mp hc
   ·have:=(h1 x (zI _ hx)).sg _ hc
    omega
structure Rs (rs:List Dt):Prop where
 lk:∀ r∈rs,Lk r
 len:rs.length<=8
theorem Hz (rs:List Dt):bD rs=fO rs:=rfl
theorem V1 (rs:List Dt):fO rs=Txt.join "\n" (rs.map Bu):=rfl
theorem aco {r:Dt} (h:Lk r):uq r:=by
 obtain⟨ds,rfl,hs⟩:=h
 obtain⟨h1,_,h3⟩:=zA hs
 exact⟨⟨⟨rfl,by show ds.length<=_;omega⟩,fun d hd=>(h1 d hd).s⟩,zv (Px hs).2 (by decide)⟩
theorem Sg {rs:List Dt} (h:Rs rs):((rs.map Bu).map (·.length)).sum+(rs.map Bu).length * ("\n" : Str).length<=300:=by
 have hl:=h.len
 have b:=Uu "\n" (rs.map Bu) 36 fun x hx=>by
  obtain⟨r,hr,rfl⟩:=List.mem_map.mp hx
  obtain⟨ds,rfl,hs⟩:=h.lk r hr
  exact (Px hs).1
 rw[zC] at b ⊢
 rw[show ("\n" : Str).length=1 from rfl]
 omega
theorem Uv {rs:List Dt} (h:Rs rs):oU rs:=⟨⟨by have:=h.len;omega,fun r hr=>aco (h.lk r hr)⟩,zv (Sg h) (by decide)⟩
theorem Py {rs:List Dt} (h:Rs rs):nj rs:=Uv h
theorem text_len {rs:List Dt} (h:Rs rs):(bD rs).length<=300:=by
 rw[Hz,V1]
 exact zv (Pr _ _) (Sg h)
theorem Ng {rs:List Dt} (h:Rs rs) (hn:rs≠[]):Txt.split (bD rs) "\n" = rs.map Bu:=by
 rw[Hz,V1]
 cases rs with
 |nil=>exact absurd rfl hn
 |cons r rs=>
  rw[zz]
  refine Jj ahA (by decide +kernel) _ _ fun q hq=>?_
  rw[<-zz] at hq
  obtain⟨x,hx,rfl⟩:=List.mem_map.mp hq
  obtain⟨ds,rfl,hs⟩:=h.lk x hx
  exact afm hs
theorem Uw {rs:List Dt} (h:Rs rs):aR (bD rs)=rs.map Bu:=by
 by_cases hn:rs=[]
 ·subst hn;rfl
 ·have e:=Ng h hn
  rw[<-e]
  refine zy fun z=>?_
  rw[z,show Txt.split ("" : Str) "\n" = [("" : Str)] by decide +kernel] at e
  obtain⟨r,hr⟩:=List.exists_mem_of_ne_nil rs hn
  have q:Bu r∈[("" : Str)]:=by rw[e];exact List.mem_map.mpr ⟨r,hr,rfl⟩
  obtain⟨ds,rfl,hs⟩:=h.lk r hr
  have:=row_read hs
  rw[List.mem_singleton.mp q,show bL ("" : Str)=none by decide +kernel] at this
  cases this
theorem XH {rs:List Dt} (h:Rs rs):cu (bD rs)=.tup rs:=by
 have hl:=text_len h
 have e:=Uw h
 have hb:∀ l∈aR (bD rs),(bL l).isSome=true:=fun l hl=>by
  rw[e] at hl
  obtain⟨r,hr,rfl⟩:=List.mem_map.mp hl
  obtain⟨ds,rfl,hs⟩:=h.lk r hr
  rw[row_read hs]
  rfl
 have hn:(aR (bD rs)).findIdx? bad=none:=List.findIdx?_eq_none_iff.mpr fun l hl=>by
  unfold bad
  rw[Option.isNone_eq_false_iff]
  exact hb l hl
 unfold cu
 rw[hn]
 show Dt.tup _=_
 rw[(Hy (by omega) hb).2,e,Q4,Q4]
 congr 1
 refine (List.map_congr_left fun r hr=>?_).trans (JO _)
 obtain⟨ds,rfl,hs⟩:=h.lk r hr
 show eT eD ((bL (Bu (.tup ds))).getD default)=.tup ds
 rw[row_read hs]
 show Dt.tup (ds.map eD)=_
 rw[show ds.map eD=ds from JO _]
theorem Sh {rs:List Dt} (h:Rs rs):nu (bD rs)/\Aa (cu (bD rs)) (eT eD rs)=true/\KJ (cu (bD rs)) (eT eD rs):=by
 have hl:=text_len h
 have e:eT eD rs=.tup rs:=by show Dt.tup (rs.map eD)=_;rw[show rs.map eD=rs from JO _]
 rw[XH h,e]
 exact⟨aar (by omega),V0 h.lk⟩
def Kl:LS_:=[("day" : Str),("name" : Str),("names" : Str),("p" : Str),("zzz" : Str)]
theorem acp:∀ i:Fin 5,cg (.str (at' Kl (i.val:Int)))=true:=by decide +kernel
theorem acq:∀ i j:Fin 5,i≠j->at' Kl (i.val:Int)≠at' Kl (j.val:Int):=by decide +kernel
theorem V2 (y:Int):Nm (at' Kl (y % 5)):=by
 have m:=j4 y (m:=5) (by decide)
 have:=acp ⟨(y % 5).toNat,by omega⟩
 rw[show (((⟨(y % 5).toNat,by omega⟩:Fin 5).val:Nat):Int)=y % 5 by show (((y % 5).toNat:Nat):Int)=_;omega] at this
 exact DG this
theorem aau (y:Int):at' Kl (y % 5)≠at' Kl ((y+1+y / 5 % 4) % 5):=by
 have m:=j4 y (m:=5) (by decide)
 have m2:=j4 (y+1+y / 5 % 4) (m:=5) (by decide)
 have m4:=j4 (y / 5) (m:=4) (by decide)
 have:=acq ⟨(y % 5).toNat,by omega⟩ ⟨((y+1+y / 5 % 4) % 5).toNat,by omega⟩ (fun e=>by
  have e:=congrArg Fin.val e
  have e:(y % 5).toNat=((y+1+y / 5 % 4) % 5).toNat:=e
  omega)
 rw[show (((⟨(y % 5).toNat,by omega⟩:Fin 5).val:Nat):Int)=y % 5 by show (((y % 5).toNat:Nat):Int)=_;omega,show (((⟨((y+1+y / 5 % 4) % 5).toNat,by omega⟩:Fin 5).val:Nat):Int)=(y+1+y / 5 % 4) % 5 by show ((((y+1+y / 5 % 4) % 5).toNat:Nat):Int)=_;omega] at this
 exact this
theorem ahB (y z:Int):1<=at' [(1:Int)+y / 300 % 3,(1:Int)+y / 300 % 1000] (z % 2)/\at' [(1:Int)+y / 300 % 3,(1:Int)+y / 300 % 1000] (z % 2)<=1000:=by
 have h:=Er (xs:=[(1:Int)+y / 300 % 3,(1:Int)+y / 300 % 1000]) (i:=z % 2) (oJ (by decide) (QO 2))
 have m1:=j4 (y / 300) (m:=3) (by decide)
 have m2:=j4 (y / 300) (m:=1000) (by decide)
 rcases List.mem_cons.mp h with e|h
 ·rw[e];omega
 ·rw[List.mem_singleton.mp h];omega
theorem Ux (xs:List Int) (hl:xs.length=5) (k:Nat) (found:List Dt) (hk:k < 4) (h:found.length=k/\∀ d∈found,Lk d):oR xs Kl found k/\(gB xs Kl found k).length=k+1/\∀ d∈gB xs Kl found k,Lk d:=by
 have fit:mC found.length:=by unfold mC;omega
 have f1:=V2 (at' xs (1+k))
 have f2:=V2 (at' xs (1+k)+1+at' xs (1+k) / 5 % 4)
 have f3:=aau (at' xs (1+k))
 have w:=ahB (at' xs (1+k)) (at' xs (1+k) / 7)
 have m3:=j4 (at' xs (1+k) / 100) (m:=3) (by decide)
 refine⟨⟨in_of (by omega) (by omega),⟨oJ (by decide) (QO 5),oJ (by decide) (QO 5)⟩,oJ (by decide) (QO 2),fun _=>fit,fun _=>⟨fun _=>fit,fun _=>⟨fun _=>fit,fun _=>fit⟩⟩⟩,?_⟩
 have key:∀ d,Lk d->(found++[d]).length=k+1/\∀ e∈found++[d],Lk e:=fun d hd=>⟨by simp[h.1],fun e he=>by
  rcases List.mem_append.mp he with he|he
  ·exact h.2 e he
  ·cases List.mem_singleton.mp he;exact hd⟩
 unfold gB
 dsimp only
 split
 ·exact key _ ⟨_,rfl,.inr (.inr (.inr ⟨_,rfl,f1⟩))⟩
 split
 ·exact key _ ⟨_,rfl,.inr (.inl ⟨_,_,_,rfl,f1,by omega,w⟩)⟩
 split
 ·exact key _ ⟨_,rfl,.inr (.inr (.inl ⟨_,_,_,rfl,f1,f2,f3,w⟩))⟩
 ·exact key _ ⟨_,rfl,.inl ⟨_,_,rfl,f1,w⟩⟩
theorem aav (xs:List Int) (hl:xs.length=5):uo xs/\(1<=(fV xs).length/\(fV xs).length<=4)/\∀ d∈fV xs,Lk d:=by
 have m:=j4 (at' xs 0) (m:=4) (by decide)
 have:=uW (P:=fun found k=>some (oR xs Kl found k)) (step:=fun found k=>gB xs Kl found k) (fun k s=>s.length=k/\∀ d∈s,Lk d) (1+at' xs 0 % 4).toNat [] ⟨rfl,fun d h=>(by cases h)⟩ fun k s hk h=>Ux xs hl k s (by omega) h
 exact⟨⟨⟨in_of (by decide) (by omega),QT (by omega) (by omega)⟩,this.1⟩,⟨by rw[show (fV xs).length=_ from this.2.1];omega,by rw[show (fV xs).length=_ from this.2.1];omega⟩,this.2.2⟩
def LT:Str:=("abcdefghijklmnopqrstuvwxyz" : Str)
theorem afn:LT.length=26:=by decide +kernel
theorem ac9 {i:Int} (h:0<=i/\i < 26):ch LT i=⟨#[97+i.toNat]⟩:=by
 have:∀ i:Fin 26,ch LT (i.val:Int)=⟨#[97+i.val]⟩:=by decide +kernel
 have:=this ⟨i.toNat,by omega⟩
 rwa [show ((⟨i.toNat,by omega⟩:Fin 26).val:Int)=i by show (i.toNat:Int)=i;omega] at this
structure Wl (h:Nat) (n:Nat) (s:Str):Prop where
 len:s.length=n
 sg:∀ c∈cs s,97<=c/\c<=122
 hd:(cs s).head?=some h
theorem Wl.one {i:Int} (h:0<=i/\i < 26):Wl (97+i.toNat) 1 (ch LT i):=by
 rw[ac9 h]
 exact⟨rfl,fun c hc=>by have hc:c∈[97+i.toNat]:=hc;rw[List.mem_singleton.mp hc];omega,rfl⟩
theorem Wl.add {a n:Nat} {s:Str} {i:Int} (w:Wl a n s) (h:0<=i/\i < 26):Wl a (n+1) (s++ch LT i):=by
 rw[ac9 h]
 refine⟨by rw[strLen_append,w.len];rfl,fun c hc=>?_,?_⟩
 ·rw[Es] at hc
  rcases List.mem_append.mp hc with hc|hc
  ·exact w.sg c hc
  ·have hc:c∈[97+i.toNat]:=hc
   rw[List.mem_singleton.mp hc];omega
 ·rw[Es,List.head?_append,w.hd]
  rfl
theorem aaw (xs:List Int) (hl:xs.length=16) (k:Nat) (hk:k < 5) (found:LS_) (h:found.length=k/\∀ (i:Nat) n,found[i]?=some n->∃ m,1<=m/\m<=8/\Wl (97+((at' xs 0+5 * (i:Int)) % 26).toNat) m n) :
  jw xs LT found k/\(cD xs LT found k).length=k+1/\∀ (i:Nat) n,(cD xs LT found k)[i]?=some n->∃ m,1<=m/\m<=8/\Wl (97+((at' xs 0+5 * (i:Int)) % 26).toNat) m n:=by
 have m0:=j4 (at' xs 0+5 * (k:Int)) (m:=26) (by decide)
 have m8:=j4 (at' xs (1+(k:Int))) (m:=8) (by decide)
 have hLT:(26:Int)<=(LT.length:Int):=by rw[afn];exact QO 26
 have F:=uW (P:=fun (s:Str) (j:Int)=>some (nA xs LT k s j)) (step:=fun (s:Str) (j:Int)=>gC xs LT k s j) (fun j s=>Wl (97+((at' xs 0+5 * (k:Int)) % 26).toNat) (1+j) s) (at' xs (1+(k:Int)) % 8).toNat (ch LT ((at' xs 0+5 * (k:Int)) % 26)) (Wl.one m0) fun j s hj w=>⟨by
   refine⟨⟨⟨in_of (by omega) (by omega),by omega,by omega⟩,oJ (by decide) hLT⟩,?_⟩
   unfold mC
   rw[vY,w.len]
   omega,by
   have:=w.add (i:=at' xs (1+(k:Int)) / (8+(j:Int)) % 26) (j4 _ (by decide))
   rw[show 1+(j+1)=1+j+1 by omega]
   exact this⟩
 refine⟨⟨⟨in_of (by decide) (by omega),oJ (by decide) hLT⟩,⟨⟨in_of (by omega) (by omega),QT (by omega) (by omega)⟩,F.1⟩,by unfold mC;omega⟩,?_⟩
 show (found++[_]).length=k+1/\∀ (i:Nat) n,(found++[_])[i]?=some n->_
 refine⟨by rw[zl,h.1];rfl,fun i n hi=>?_⟩
 rcases Nat.lt_or_ge i found.length with hlt|hge
 ·rw[ZY hlt] at hi
  exact h.2 i n hi
 ·rw[qi hge] at hi
  have e0:i - found.length=0:=by
   apply Decidable.byContradiction
   intro z
   rw[List.getElem?_eq_none (by rw[Zl];omega)] at hi
   cases hi
  rw[e0] at hi
  cases hi
  obtain rfl:i=k:=by omega
  exact⟨_,by omega,by omega,F.2⟩
theorem Sq {a m:Nat} {s:Str} (h1:1<=m) (h8:m<=8) (w:Wl a m s):Nm s:=⟨by rw[w.len];exact h1,by rw[w.len];exact h8,w.sg⟩
theorem afo (xs:List Int) (hl:xs.length=16):jD xs/\(cV xs).length=4/\∀ d∈cV xs,Lk d:=by
 have F:=uW (P:=fun (s:LS_) (k:Int)=>some (jw xs LT s k)) (step:=fun (s:LS_) (k:Int)=>cD xs LT s k) (fun k s=>s.length=k/\∀ (i:Nat) n,s[i]?=some n->∃ m,1<=m/\m<=8/\Wl (97+((at' xs 0+5 * (i:Int)) % 26).toNat) m n) (kN 5) [] ⟨rfl,fun i n h=>(by simp at h)⟩ fun k s hk h=>aaw xs hl k (by rw[Zq] at hk;exact hk) s h
 obtain⟨F1,F2,F3⟩:=F
 generalize hs:(rng 0 (kN 5)).foldl (fun (s:LS_) (k:Int)=>cD xs LT s k) []=s at F2 F3
 have F2:s.length=5:=by rw[Zq] at F2;exact F2
 have hs:(rng 0 (kN 5)).foldl (fun (n8:LS_) (v2:Int)=>cD xs ("abcdefghijklmnopqrstuvwxyz" : Str) n8 v2) []=s:=hs
 match s,F2 with
 |[n0,n1,n2,n3,n4],_=>
  obtain⟨a0,b0,c0,w0⟩:=F3 0 n0 rfl
  obtain⟨a1,b1,c1,w1⟩:=F3 1 n1 rfl
  obtain⟨a2,b2,c2,w2⟩:=F3 2 n2 rfl
  obtain⟨a3,b3,c3,w3⟩:=F3 3 n3 rfl
  obtain⟨a4,b4,c4,w4⟩:=F3 4 n4 rfl
  have ne:n1≠n2:=fun e=>by
   have h1:=w1.hd
   rw[e,w2.hd] at h1
   have h1:=qq h1
   have:=j4 (at' xs 0+5 * ((1:Nat):Int)) (m:=26) (by decide)
   have:=j4 (at' xs 0+5 * ((2:Nat):Int)) (m:=26) (by decide)
   omega
  have i5:∀ {i:Int},0<=i->i < 5->In [n0,n1,n2,n3,n4].length i:=fun h0 h1=>in_of h0 h1
  have ix:∀ {i:Int},0<=i->i < 16->In xs.length i:=fun h0 h1=>in_of h0 (by rw[hl];exact h1)
  have q6:=j4 (at' xs 6) (m:=1000) (by decide)
  have q7:=j4 (at' xs 7) (m:=1000) (by decide)
  have q8:=j4 (at' xs 8) (m:=12) (by decide)
  refine⟨?_,?_⟩
  ·unfold jD
   dsimp only
   refine⟨F1,?_⟩
   rw[hs]
   exact⟨⟨i5 (by decide) (by decide),i5 (by decide) (by decide),ix (by decide) (by decide)⟩,⟨i5 (by decide) (by decide),ix (by decide) (by decide)⟩,⟨i5 (by decide) (by decide),ix (by decide) (by decide)⟩,i5 (by decide) (by decide)⟩
  ·have e:cV xs=[.tup [.str "same", .str n0,.int (1+at' xs 6 % 1000)],.tup [.str "both", .str n1,.str n2,.int (1+at' xs 7 % 1000)],.tup [.str "begin", .str n3,.int (1+at' xs 8 % 12),.int 7],.tup [.str "never", .str n4]]:=by
    unfold cV
    dsimp only
    rw[hs]
    rfl
   rw[e]
   refine⟨rfl,?_⟩
   simp only[qh,qf,false_implies,implies_true,and_true]
   exact⟨⟨_,rfl,.inl ⟨_,_,rfl,Sq b0 c0 w0,by omega⟩⟩,⟨_,rfl,.inr (.inr (.inl ⟨_,_,_,rfl,Sq b1 c1 w1,Sq b2 c2 w2,ne,by omega⟩))⟩,⟨_,rfl,.inr (.inl ⟨_,_,_,rfl,Sq b3 c3 w3,by omega,by omega⟩)⟩,⟨_,rfl,.inr (.inr (.inr ⟨_,rfl,Sq b4 c4 w4⟩))⟩⟩
def W (l:LS_):Nat:=(l.map (·.length)).sum+l.length
theorem Km (a b:LS_):W (a++b)=W a+W b:=by
 unfold W
 rw[qE,List.sum_append,zl]
 omega
theorem ada (a:Str):W [a]=a.length+1:=by unfold W;simp
theorem ahC {l:LS_} {k:Nat} (h:k<=l.length):W (cut l none (some (k:Int)))+W (cut l (some (k:Int)) none)=W l:=by
 rw[Zt h,uX h,<-Km,List.take_append_drop]
theorem afp {l:LS_} {k:Nat} (h:k < l.length):W (cut l (some ((k:Int)+1)) none)<=W (cut l (some (k:Int)) none):=by
 have e:((k:Int)+1)=((k+1:Nat):Int):=by omega
 rw[e,uX (by omega),uX (by omega),jI h]
 rw[show (l[k]::l.drop (k+1))=[l[k]]++l.drop (k+1) from rfl,Km]
 omega
theorem afq (l:LS_):(Txt.join " " l).length<=W l:=by
 have h:=Pr " " l
 rw[show (" " : Str).length=1 from rfl,Nat.mul_one] at h
 exact h
theorem acr (x:Str):W (Txt.split x " ")<=x.length+1:=by
 have h:=PySem.size_glued (" " : Str) (Txt.split x " ")
 have e:(Builtin.Str.glued (" " : Str) (Txt.split x " ")).length=x.length:=by rw[StrLaws.glued_eq_join];exact congrArg Str.length (StrLaws.join_split x " ")
 rw[e,show (" " : Str).length=1 from rfl,Nat.mul_one] at h
 unfold W
 have:=List.length_pos_iff.mpr (Q9 x " ")
 omega
structure Rw (n L:Nat) (rs:LS_):Prop where
 lo:1<=rs.length
 hi:rs.length<=n
 len:∀ r∈rs,r.length<=L
theorem Ko {α:Type} {l:List α} {k:Nat} (h:k < l.length):(cut l none (some (k:Int))).length=k/\(cut l (some (k:Int)) none).length=l.length - k/\(cut l (some ((k:Int)+1)) none).length=l.length - (k+1):=by
 have e:((k:Int)+1)=((k+1:Nat):Int):=by omega
 rw[e,Zt (by omega),uX (by omega),uX (by omega),kc,qk,qk]
 omega
theorem afr {n L L':Nat} {rs:LS_} (R:Rw n L rs) (hn:n<=100) (hL:L<=L') {k:Nat} (hk:k < rs.length) {r:Str} (hr:r.length<=L') :
  (mC ((cut rs none (some (k:Int))).length+[r].length)/\mC (((cut rs none (some (k:Int)))++[r]).length+(cut rs (some ((k:Int)+1)) none).length))/\Rw (n+1) L' ((cut rs none (some (k:Int))++[r])++cut rs (some ((k:Int)+1)) none):=by
 obtain⟨h1,h2,h3⟩:=Ko hk
 have hi:=R.hi
 refine⟨⟨by unfold mC;rw[h1,Zl];omega,by unfold mC;rw[zl,h1,h3,Zl];omega⟩,⟨?_,?_,fun x hx=>?_⟩⟩
 ·rw[zl,zl,h1,h3,Zl];omega
 ·rw[zl,zl,h1,h3,Zl];omega
 ·rcases List.mem_append.mp hx with hx|hx
  ·rcases List.mem_append.mp hx with hx|hx
   ·exact zv (R.len x (vX hx)) hL
   ·rw[List.mem_singleton.mp hx];exact hr
  ·exact zv (R.len x (vX hx)) hL
theorem Kq {xs:LS_} {i:Int} {n:Nat} (hi:In xs.length i) (h:∀ x∈xs,x.length<=n):(at' xs i).length<=n:=h _ (Er hi)
theorem XJ (x:Str) (p q:Int) {B:Nat} (hB:B<=10000) (h:x.length<=B):rP x p q/\(oX x p q).length<=2 * B+1:=by
 have hm:In 2 (q / 3 % 2):=oJ (by decide) (by decide)
 have h36:at' [(36:Int),94] (q / 3 % 2)=36\/at' [(36:Int),94] (q / 3 % 2)=94:=by
  have:=Er (xs:=[(36:Int),94]) hm
  simpa using this
 have hs:=fun l u=>zv (slice_le x l u) h
 have hl:∀ l u l' u':Option Int,∀ s:Str,s.length=1->(Txt.slice x l u).length+s.length<=2 * B+1/\((Txt.slice x l u)++s).length+(Txt.slice x l' u').length<=2 * B+1/\(Txt.slice x l u).length+(Txt.slice x l' u').length<=2 * B+1:=fun l u l' u' s e=>by
  have:=hs l u;have:=hs l' u'
  rw[jc,e];omega
 have fit:∀ n,n<=2 * B+1->mC n:=fun n h=>zv h (by omega)
 refine⟨⟨(by unfold mC;decide +kernel),⟨⟨hm,by rcases h36 with e|e<;>rw[e]<;>decide⟩,?_⟩,by omega,⟨⟨fit _ (hl _ _ none none _ (vY _ _)).1,fit _ (hl _ _ _ _ _ (vY _ _)).2.1⟩,⟨fit _ (hl _ _ none none _ (vY _ _)).1,fit _ (hl _ _ _ _ _ (vY _ _)).2.1⟩,fit _ (hl _ _ _ _ _ (vY x 0)).2.2⟩,oJ (by decide) (QO 3)⟩,?_⟩
 ·have e:((("abcdefghijklmnopqrstuvwxyz0123456789 ABCDEFGHIJKLMNOPQRSTUVWXYZ" : Str)++("!#$&'()*+,-./:;<=>?\x40[]^_`{|}~\"\\" : Str)).length)=94:=by decide +kernel
  rw[e]
  rcases h36 with e|e<;>rw[e]<;>exact oJ (by decide) (by decide)
 ·refine Kq (oJ (by decide) (QO 3)) ?_
  simp only[qh,qf,false_implies,implies_true,and_true]
  refine⟨?_,?_,?_⟩
  ·rw[jc];exact (hl _ _ _ _ _ (vY _ _)).2.1
  ·rw[jc];exact (hl _ _ _ _ _ (vY _ _)).2.1
  ·rw[jc];exact (hl _ _ _ _ _ (vY x 0)).2.2
theorem afs (x:Str):(Txt.upper x).length<=3 * x.length:=by
 exact StrLaws.placedRaw_le3 x.cps (fun _ c=>Unicode.upperOf c) fun _ c=>StrLaws.upperOf_le3 c
theorem acs (x:Str):(Txt.replace x " " "  ").length<=2 * x.length:=by
 unfold Txt.replace
 split
 ·omega
 ·have hy:(Builtin.Str.glued (" " : Str) (Builtin.Str.partsBetween x (Builtin.Str.occurrences x " " 0 x.length (x.length+1)) (" " : Str).length)).length=x.length:=by rw[StrLaws.glued_between_self]
  rw[PySem.size_glued,PySem.length_partsBetween,Nat.add_sub_cancel] at hy ⊢
  rw[show (" " : Str).length=1 from rfl] at hy
  rw[show (" " : Str).length=1 from rfl,show ("  " : Str).length=2 from rfl]
  omega
theorem acu {n L:Nat} {rs:LS_} (R:Rw n L rs) (hn:n<=100) (hL:L<=9000) (xs:List Int) (hx:4<=xs.length) (vg:LS_) {a:Nat} (ha:a < rs.length) {b:Nat} (hb:b < (Txt.split (at' rs (a:Int)) " ").length) (ve:Int) {od:Str} (ho:od.length<=9) :
  qQ rs xs vg (a:Int) (Txt.split (at' rs (a:Int)) " ") (b:Int) ve od/\Rw (n+1) (3 * L+30) (jE rs xs vg (a:Int) (Txt.split (at' rs (a:Int)) " ") (b:Int) ve od):=by
 have ia:In rs.length (a:Int):=TQ ha
 have hr:(at' rs (a:Int)).length<=L:=Kq ia R.len
 have hw:=acr (at' rs (a:Int))
 generalize hws:Txt.split (at' rs (a:Int)) " " = ws at hb hw
 have hi:=R.hi
 obtain⟨l1,l2,l3⟩:=Ko hb
 obtain⟨k1,k2,k3⟩:=Ko ha
 have w1:=ahC (ku hb)
 have w2:=afp hb
 have hlen:ws.length<=L+1:=by unfold W at hw;omega
 have P:∀ {r:Str},r.length<=3 * L+30->_:=fun {r} h=>afr R hn (show L<=3 * L+30 by omega) ha (r:=r) h
 have fit:∀ {m:Nat},m<=20000->mC m:=fun h=>zv h (by decide)
 have sp1:(" " : Str).length=1:=rfl
 have J:∀ (l:LS_),W l<=L+20->((l.map (·.length)).sum+l.length * (" " : Str).length<=100000)/\(Txt.join " " l).length<=3 * L+30:=fun l h=>⟨by rw[sp1,Nat.mul_one];exact zv (show W l<=_ from h) (by omega),zv (afq l) (by omega)⟩
 have A1:W ((cut ws none (some (b:Int))++[od])++cut ws (some ((b:Int)+1)) none)<=L+20:=by rw[Km,Km,ada];omega
 have A2:W ((cut ws none (some (b:Int))++[od])++cut ws (some (b:Int)) none)<=L+20:=by rw[Km,Km,ada];omega
 have A3:W (cut ws none (some (b:Int))++cut ws (some ((b:Int)+1)) none)<=L+20:=by rw[Km];omega
 have u:=afs (at' rs (a:Int))
 have rp:=acs (at' rs (a:Int))
 have sg:=XJ (at' rs (a:Int)) (at' xs 1) (at' xs 3) (B:=L) (by omega) hr
 have i3:In xs.length (3:Int):=in_of (by decide) (by omega)
 have i1:In xs.length (1:Int):=in_of (by decide) (by omega)
 have M5:(at' [((" " : Str)++(at' rs (a:Int))),((at' rs (a:Int))++(" " : Str)),(Txt.replace (at' rs (a:Int)) " " "  "),(Txt.upper (at' rs (a:Int))),("" : Str)] ((at' xs (3:Int)) % (5:Int))).length<=3 * L+30:=by
  refine Kq (oJ (by decide) (QO 5)) ?_
  simp only[qh,qf,false_implies,implies_true,and_true,jc,sp1]
  exact⟨by omega,by omega,by omega,by omega,QN _⟩
 constructor
 ·refine⟨fun _=>⟨⟨⟨fit (by rw[l1,Zl];omega),fit (by rw[zl,l1,l3,Zl];omega)⟩,(J _ A1).1⟩,(P (J _ A1).2).1⟩,fun _=>⟨fun _=>⟨⟨⟨fit (by rw[l1,Zl];omega),fit (by rw[zl,l1,l2,Zl];omega)⟩,(J _ A2).1⟩,(P (J _ A2).2).1⟩,fun _=>⟨fun _=>⟨⟨fit (by rw[l1,l3];omega),(J _ A3).1⟩,(P (J _ A3).2).1⟩,fun _=>⟨fun _=>⟨⟨⟨⟨⟨ia,fit (by rw[sp1];omega)⟩,⟨ia,fit (by rw[sp1];omega)⟩,⟨ia,by omega,by omega⟩,ia,?_⟩,i3⟩,oJ (by decide) (QO 5)⟩,(P M5).1⟩,fun _=>⟨fun _=>⟨⟨⟨ia,i1,i3⟩,sg.1⟩,(P (show _<=3 * L+30 by have:=sg.2;omega)).1⟩,fun _=>⟨fun _=>⟨⟨ia,fit (by rw[k1,Zl];omega)⟩,fit (by rw[zl,k1,k2,Zl];omega)⟩,fun _=>⟨fun _=>fit (by rw[k1,k3];omega),fun _=>(P (show od.length<=3 * L+30 by omega)).1⟩⟩⟩⟩⟩⟩⟩
  unfold Builtin.Str.tooLong
  exact ZH (by have:(100000:Nat)<=sizeLine:=by decide
               omega)
 ·unfold jE
  dsimp only
  split
  ·exact (P (J _ A1).2).2
  split
  ·exact (P (J _ A2).2).2
  split
  ·exact (P (J _ A3).2).2
  split
  ·exact (P M5).2
  split
  ·exact (P (show _<=3 * L+30 by have:=sg.2;omega)).2
  split
  ·refine⟨?_,?_,fun x hx=>?_⟩
   ·rw[zl,zl,k1,k2,Zl];omega
   ·rw[zl,zl,k1,k2,Zl];omega
   ·rcases List.mem_append.mp hx with hx|hx
    ·rcases List.mem_append.mp hx with hx|hx
     ·have:=R.len x (vX hx);omega
     ·rw[List.mem_singleton.mp hx];omega
    ·have:=R.len x (vX hx);omega
  split
  ·rename_i h7
   rw[zi,Zp,Zp] at h7
   refine⟨?_,?_,fun x hx=>?_⟩
   ·rw[zl,k1,k3];omega
   ·rw[zl,k1,k3];omega
   ·rcases List.mem_append.mp hx with hx|hx
    ·have:=R.len x (vX hx);omega
    ·have:=R.len x (vX hx);omega
  ·exact (P (show od.length<=3 * L+30 by omega)).2
def XM:LS_:=([("" : Str),("same" : Str),("never" : Str),("begin" : Str),("both" : Str),("day" : Str),("p" : Str),("P" : Str),("a1" : Str),("abcdefgh" : Str),("abcdefghi" : Str),("0" : Str),("1" : Str),("12" : Str),("13" : Str)]++[("1000" : Str),("1001" : Str),("01" : Str),("-1" : Str),("+1" : Str),("1.0" : Str),("1_0" : Str),("x" : Str),("999999" : Str),("None" : Str),("True" : Str),("same p 1" : Str),("p 1" : Str)])++[("never p" : Str),("both" : Str),("Same" : Str),("names" : Str),("zz" : Str),("2" : Str),("00" : Str),("1 " : Str),(" 1" : Str),("same  p" : Str),("p," : Str),("10" : Str)]
theorem aax:∀ x∈XM,x.length<=9:=by unfold XM;decide +kernel
theorem XQ {n L:Nat} {rs:LS_} (R:Rw n L rs) (hn:n<=100) (hL:L<=9000) (xs:List Int) (hx:4<=xs.length):rQ rs xs/\Rw (n+1) (3 * L+30) (oY rs xs):=by
 have lo:=R.lo
 have m0:=j4 (at' xs 0) (m:=(rs.length:Int)) (by omega)
 obtain⟨a,ea⟩:∃ a:Nat,at' xs 0 % (rs.length:Int)=(a:Int):=⟨(at' xs 0 % (rs.length:Int)).toNat,by omega⟩
 have ha:a < rs.length:=by omega
 have hws:=List.length_pos_iff.mpr (Q9 (at' rs (a:Int)) " ")
 have m1:=j4 (at' xs 1) (m:=((Txt.split (at' rs (a:Int)) " ").length:Int)) (by omega)
 obtain⟨b,eb⟩:∃ b:Nat,at' xs 1 % ((Txt.split (at' rs (a:Int)) " ").length:Int)=(b:Int):=⟨(at' xs 1 % ((Txt.split (at' rs (a:Int)) " ").length:Int)).toNat,by omega⟩
 have hb:b < (Txt.split (at' rs (a:Int)) " ").length:=by omega
 have hr:(at' rs (a:Int)).length<=L:=Kq (TQ ha) R.len
 have i40:In XM.length (at' xs 3 % 40):=oJ (by decide) (QO 40)
 have K:=acu R hn hL xs hx XM ha hb (at' xs 2 % 12) (Kq i40 aax)
 have ix:∀ {i:Int},0<=i->i < 4->In xs.length i:=fun h0 h1=>in_of h0 (by omega)
 constructor
 ·refine⟨by unfold mC;decide,by unfold mC;decide,⟨⟨ix (by decide) (by decide),by omega⟩,?_⟩⟩
  rw[ea]
  refine⟨⟨TQ ha,by decide +kernel,by omega⟩,⟨⟨ix (by decide) (by decide),by omega⟩,?_⟩⟩
  rw[eb]
  exact⟨ix (by decide) (by decide),⟨ix (by decide) (by decide),i40⟩,K.1⟩
 ·have e:oY rs xs=jE rs xs XM (at' xs 0 % (rs.length:Int)) (Txt.split (at' rs (at' xs 0 % (rs.length:Int))) " ") (at' xs 1 % ((Txt.split (at' rs (at' xs 0 % (rs.length:Int))) " ").length:Int)) (at' xs 2 % 12) (at' XM (at' xs 3 % 40)):=rfl
  rw[e,ea,eb]
  exact K.2
theorem aft:∀ d∈W5,bR d=false:=by
 unfold W5
 simp only[qh,qf,false_implies,implies_true,and_true]
 exact⟨rfl,rfl,rfl,rfl,rfl,rfl,rfl⟩
theorem adb (s:List Int) (v1 vf:List Dt):J9 s v1 vf/\Dw s v1 vf=true:=by
 refine⟨⟨by unfold W5;decide,fun d hd=>aft d hd⟩,?_⟩
 unfold Dw
 rw[List.all_map,qv]
 exact fun d _=>rfl
theorem ade {rs:List Dt} (h:Rs rs):Du () rs/\sJ () rs=.nx ():=by
 obtain⟨h1,h2,h3⟩:=Sh h
 refine⟨⟨Uv h,fun _=>⟨Py h,fun _=>⟨h1,h3⟩⟩⟩,?_⟩
 unfold sJ
 dsimp only
 rw[<-Hz,h2,ZO rfl]
 rfl
def Lf:Nat->Nat
 |0=>36
 |k+1=>3 * Lf k+30
theorem adf {k:Nat} (h:k<=3):Lf k<=1362:=by
 match k,h with
 |0,_=>decide
 |1,_=>decide
 |2,_=>decide
 |3,_=>decide
theorem acv {rs:List Dt} (h:Rs rs) (h1:1<=rs.length) (h4:rs.length<=4):Rw 4 36 (Txt.split (bD rs) "\n"):=by
 rw[Ng h (fun e=>by rw[e] at h1;cases h1)]
 refine⟨by rw[zC];exact h1,by rw[zC];exact h4,fun x hx=>?_⟩
 obtain⟨r,hr,rfl⟩:=List.mem_map.mp hx
 obtain⟨ds,rfl,hs⟩:=h.lk r hr
 exact (Px hs).1
theorem acw (v8:List Int) (hl:v8.length=16) (rs:LS_) (R:Rw 4 36 rs) (m:Nat) (hm:m<=3) :
  Ep (fun (aY:LS_) (Bw:Int)=>qJ v8 aY Bw) (fun (aY:LS_) (Bw:Int)=>some (Dv v8 aY Bw)) (rng 0 m) rs/\Rw (4+m) (Lf m) ((rng 0 m).foldl (fun (aY:LS_) (Bw:Int)=>qJ v8 aY Bw) rs):=by
 refine uW (P:=fun (aY:LS_) (Bw:Int)=>some (Dv v8 aY Bw)) (step:=fun (aY:LS_) (Bw:Int)=>qJ v8 aY Bw) (fun k s=>Rw (4+k) (Lf k) s) m rs R fun k s hk r=>?_
 have hx:4<=(cut v8 (some ((1:Int)+(4:Int) * (k:Int))) none).length:=by
  rw[show (1:Int)+4 * (k:Int)=((1+4 * k:Nat):Int) by omega,uX (by omega),qk]
  omega
 exact XQ r (by omega) (zv (adf (k:=k) (by omega)) (by decide)) _ hx
theorem adg {v1:List Dt} (h:Rs v1) (h1:1<=v1.length) (h4:v1.length<=4) (c:Int):zu v1 () c/\sO v1 () c=.nx ():=by
 obtain⟨n1,n2,n3⟩:=aai c 16 (by decide) (by decide)
 unfold zu sO
 dsimp only
 generalize dG c 16=v8 at n2
 have n2:v8.length=16:=n2
 obtain⟨a1,a2,a3⟩:=afo v8 n2
 have hz:Rs (cV v8):=⟨a3,by omega⟩
 generalize cV v8=vz at a2 hz
 obtain⟨s1,s2,s3⟩:=Sh hz
 have ix:∀ {i:Int},0<=i->i < 16->In v8.length i:=fun h0 h1=>in_of h0 (by rw[n2];exact h1)
 have i2:In [v1,vz].length (at' v8 14 % 2):=oJ (by decide) (QO 2)
 have hw:Rs (at' [v1,vz] (at' v8 14 % 2))/\1<=(at' [v1,vz] (at' v8 14 % 2)).length/\(at' [v1,vz] (at' v8 14 % 2)).length<=4:=by
  rcases List.mem_cons.mp (Er i2) with e|e
  ·rw[e];exact⟨h,h1,h4⟩
  ·rw[List.mem_singleton.mp e];exact⟨hz,by omega,by omega⟩
 generalize at' [v1,vz] (at' v8 14 % 2)=w at hw
 obtain⟨hw,w1,w4⟩:=hw
 have tl:=text_len hw
 have m3:=j4 (at' v8 0) (m:=3) (by decide)
 obtain⟨t1,t2⟩:=acw v8 n2 _ (acv hw w1 w4) (1+at' v8 0 % 3).toNat (by omega)
 have lf:=adf (k:=(1+at' v8 0 % 3).toNat) (by omega)
 generalize hS:(rng 0 (1+at' v8 0 % 3).toNat).foldl (fun (aY:LS_) (Bw:Int)=>qJ v8 aY Bw) (Txt.split (bD w) "\n")=S at t2
 have hi:=t2.hi
 have sum:=Uu "\n" S 1362 fun x hx=>zv (t2.len x hx) lf
 have nl1:("\n" : Str).length=1:=rfl
 have tot:(S.map (·.length)).sum+S.length * ("\n" : Str).length<=9600:=by rw[nl1];omega
 have jl:=Pr "\n" S
 have hmul:∀ q:Bool,(Txt.mul ("\n" : Str) (if q=true then (1:Int) else 0)).length<=1:=by decide +kernel
 have hq:=hmul (decide (at' v8 15 % 8=1))
 have hb:(if decide (at' v8 15 % 8=1)=true then (1:Int) else 0)<=1000 ∧ -1000<=(if decide (at' v8 15 % 8=1)=true then (1:Int) else 0):=by split<;>decide
 generalize (if decide (at' v8 15 % 8=1)=true then (1:Int) else 0)=q at hq hb
 have tx:(Txt.join "\n" S++Txt.mul ("\n" : Str) q).length<=80000:=by rw[jc];omega
 obtain⟨u1,u2⟩:=aat tx
 constructor
 ·refine⟨n1,a1,⟨⟨Uv hz,Py hz⟩,fun _=>⟨⟨Py hz,s1⟩,s3⟩⟩,fun _=>⟨⟨⟨⟨ix (by decide) (by decide),i2⟩,Py hw⟩,by decide +kernel,by omega⟩,⟨⟨ix (by decide) (by decide),QT (by omega) (by omega)⟩,t1⟩,?_⟩⟩
  exact⟨⟨⟨by omega,ix (by decide) (by decide),hb.1,hb.2,by decide +kernel⟩,by unfold mC;omega⟩,⟨aar tx,ahz tx⟩,u2⟩
 ·rw[<-Hz,s2,ZO rfl]
  rw[u1]
  exact (Zs (by decide)).trans (Zs (by decide))
def sorts:List Dt:=[(Dt.tup [(Dt.str "same"),(Dt.str "a"),(Dt.int 1000)]),(Dt.tup [(Dt.str "begin"),(Dt.str "abcdefgh"),(Dt.int 12),(Dt.int 1)]),(Dt.tup [(Dt.str "both"),(Dt.str "b"),(Dt.str "a"),(Dt.int 10)]),(Dt.tup [(Dt.str "never"),(Dt.str "same")])]
theorem aay:Rs sorts:=by
 refine⟨?_,by decide⟩
 unfold sorts
 simp only[qh,qf,false_implies,implies_true,and_true]
 have na:Nm "a" := DG (by decide +kernel)
 have nb:Nm "b" := DG (by decide +kernel)
 have nh:Nm "abcdefgh" := DG (by decide +kernel)
 exact⟨⟨_,rfl,.inl ⟨_,_,rfl,na,by decide⟩⟩,⟨_,rfl,.inr (.inl ⟨_,_,_,rfl,nh,by decide,by decide⟩)⟩,⟨_,rfl,.inr (.inr (.inl ⟨_,_,_,rfl,nb,na,by decide +kernel,by decide⟩))⟩,⟨_,rfl,.inr (.inr (.inr ⟨_,rfl,afi.1⟩))⟩⟩
theorem ahD (s:List Int) (hs:s.length<=63) {v1:List Dt} (h:Rs v1) (h1:1<=v1.length) (h4:v1.length<=4) (vf:List Dt):Ka s v1 vf/\Dy s v1 vf=true:=by
 obtain⟨e1,e2⟩:=Jc (step:=fun (s2:Unit) (v4:Int)=>(sO v1 s2 v4:Ab Unit Bool)) (P:=fun (s2:Unit) (v4:Int)=>some (zu v1 s2 v4)) ([eE s 1]++cut s (some 2) (some 20)) fun x _=>⟨(adg h h1 h4 x).1,.inl (adg h h1 h4 x).2⟩
 have cl:=Vp s (some 2) (some 20)
 refine⟨⟨⟨⟨aag s 1 (by decide) (by decide),by unfold mC;rw[Zl];omega⟩,e2⟩,?_⟩,?_⟩
 ·rw[e1];exact (adb s v1 vf).1
 ·unfold Dy
  rw[e1]
  exact (adb s v1 vf).2
theorem aaz (ns:List Int) (hn:ns.length<=63):R4 ns/\R3 ns=true:=by
 have d0:=aag ns 0 (by decide) (by decide)
 obtain⟨n1,n2,_⟩:=aai (eE ns 0) 5 (by decide) (by decide)
 unfold R4 R3
 dsimp only
 generalize dG (eE ns 0) 5=xs at n2
 have n2:xs.length=5:=n2
 obtain⟨r1,⟨r2,r3⟩,r4⟩:=aav xs n2
 generalize fV xs=v1 at r2 r3 r4
 have h:Rs v1:=⟨r4,by omega⟩
 have cl:=Vp v1 none (some 1)
 have h2:Rs (v1++cut v1 none (some 1)):=⟨fun r hr=>by
  rcases List.mem_append.mp hr with hr|hr
  ·exact r4 r hr
  ·exact r4 r (vX hr),by rw[zl];omega⟩
 have h0:Rs []:=⟨fun r hr=>(by cases hr),by decide⟩
 obtain⟨e1,e2⟩:=Jc (step:=fun (s1:Unit) (vg:List Dt)=>(sJ s1 vg:Ab Unit Bool)) (P:=fun (s1:Unit) (vg:List Dt)=>some (Du s1 vg)) [v1,([]:List Dt),sorts,v1++cut v1 none (some 1)] fun x hx=>by
  have hx:Rs x:=by
   simp only[List.mem_cons,qf,or_false] at hx
   rcases hx with rfl|rfl|rfl|rfl
   ·exact h
   ·exact h0
   ·exact aay
   ·exact h2
  exact⟨(ade hx).1,.inl (ade hx).2⟩
 obtain⟨c1,c2⟩:=ahD ns hn h r2 r3 sorts
 refine⟨⟨⟨⟨d0,n1⟩,r1⟩,⟨by unfold mC;omega,e2⟩,?_⟩,?_⟩
 ·show CQ (rz _ [v1,([]:List Dt),sorts,v1++cut v1 none (some 1)] ()) _
  rw[e1];exact c1
 ·show behind (rz _ [v1,([]:List Dt),sorts,v1++cut v1 none (some 1)] ()) _ _=true
  rw[e1]
  exact c2
theorem H1:∀ ns:List Int,ns.length<=63->ud [.z (.lst (ns.map .int))]=some (.z (.bl true)):=(ac4 aaz).1
theorem H2:∀ ns:List Int,ns.length<=63->ud [.l (ns.map .int)]=some (.z (.bl true)):=(ac4 aaz).2
end G08
end
open PySem PySem.W PyProof.Rows
def PySem.W.Fast.tw14843975116662317229:=0
def PySem.W.Fast.tw4268178154642311418:=0
def PySem.W.Fast.tw11801734838442590607:=0
def PySem.W.Fast.tw8341574908125288072:=0
def PySem.W.Fast.tw7931554158173273164:=0
def PySem.W.Fast.tw7034919214156252328:=0
def PySem.W.Fast.tw3448288160895654973:=0
def PySem.W.Fast.tw5564024227548264959:=0
def PySem.W.Fast.tw2035069921241335862:=0
def PySem.W.Fast.tw15622806050255201368:=0
def PySem.W.Fast.tw14172867247522459308:=0
def PySem.W.Fast.tw12459192262120451829:=0
def PySem.W.Fast.tw2728374606554323520:=0
def PySem.W.Fast.tw4625954085088556927:=0
def PySem.W.Fast.tw3365709066186500854:=0
def PySem.W.Fast.tw13894126753059289717:=0
def PySem.W.Fast.tw4836022639945822920:=0
def PySem.W.Fast.tw14402481716655550837:=0
def PySem.W.Fast.tw15950572679792092686:=0
def PySem.W.Fast.tw2548584282875926232:=0
def PySem.W.Fast.tw1746076049586965175:=0
def PySem.W.Fast.tw11600871148699855284:=0
def PySem.W.Fast.tw9633115181686887702:=0
def PySem.W.Fast.tw6101917210053839956:=0
def PySem.W.Fast.tw16053628365607596248:=0
def PySem.W.Fast.tw17682162694391931428:=0
def PySem.W.Fast.tw9999440823475084201:=0
def PySem.W.Fast.tw1433074915032796491:=0
def PySem.W.Fast.tw13881985015042345239:=0
def PySem.W.Fast.tw289785789995297625:=0
def PySem.W.Fast.tw18331862992766256937:=0
def PySem.W.Fast.tw15327779714621417850:=0
def PySem.W.Fast.tw3588418060926654240:=0
set_option maxRecDepth 100000 in
set_option maxHeartbeats 0 in
theorem PySem.Challenge.cw_onefolk_k08_rules_as_texts_holds : PySem.Challenge.rw_onefolk_k08_rules_as_texts.Holds := by
 w_on;refine PySem.W.holds_law (by decide +kernel) fun said=>?_
 k_head;(case hw=>w_witness2)
 k_fill
 refine G08.walk (l:=PySem.Challenge.rw_onefolk_k08_rules_as_texts) rfl rfl G08.H1 G08.H2 (fun w h Y=>PySem.W.kIn_of Y) ?F
 case F=>
  intro w mg fa h KX G hmg
  refine' G08.all_mk KX G hmg ?a0 ?l0 ?c0 ?k0 ?a1 ?l1 ?c1 ?k1 ?a2 ?l2 ?c2 ?k2 ?a3 ?l3 ?c3 ?k3 ?a4 ?l4 ?c4 ?k4 ?a5 ?l5 ?c5 ?k5 ?a6 ?l6 ?c6 ?k6 ?a7 ?l7 ?c7 ?k7 ?a8 ?l8 ?c8 ?k8 ?a9 ?l9 ?c9 ?k9 ?a10 ?l10 ?c10 ?k10 ?a11 ?l11 ?c11 ?k11 ?a12 ?l12 ?c12 ?k12 ?a13 ?l13 ?c13 ?k13 ?a14 ?l14 ?c14 ?k14 ?a15 ?l15 ?c15 ?k15 ?a16 ?l16 ?c16 ?k16 ?a17 ?l17 ?c17 ?k17 ?a18 ?l18 ?c18 ?k18 ?a19 ?l19 ?c19 ?k19 ?a20 ?l20 ?c20 ?k20 ?a21 ?l21 ?c21 ?k21 ?a22 ?l22 ?c22 ?k22 ?a23 ?l23 ?c23 ?k23 ?a24 ?l24 ?c24 ?k24 ?a25 ?l25 ?c25 ?k25 ?a26 ?l26 ?c26 ?k26 ?a27 ?l27 ?c27 ?k27 ?a28 ?l28 ?c28 ?k28 ?a29 ?l29 ?c29 ?k29 ?a30 ?l30 ?c30 ?k30 ?aD ?aFE ?r1 ?r2 ?r3 ?r4 ?r5 ?r6 ?aJ ?lJ ?cJ ?kJ ?e3 ?e4 ?e5 ?d1 ?d2 ?d6 ?d7 ?d8 ?d9 ?e10 ?e11 ?e12 ?W7 ?VH ?Ga ?yQ ?jd ?Di ?aX ?oN ?rM ?uf ?oO ?J1 ?J2 ?xG ?xH ?Aw ?zp
  all_goals try (show _=_;k_is)
  all_goals try kernel_rfl
