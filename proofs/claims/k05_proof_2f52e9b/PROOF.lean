import PyProof.Rows.All
import Wide.All
import OpenK.AllK
import Wide.FinOn
import PyProof.EqAt
import PyProof.EqKinds
import PyProof.TupleCall
import PyProof.StrLoop
import PyProof.StrWalks
import PyProof.CompFree
import PyProof.NeKinds
import PyProof.Rows.RuleN_isinstance
import PyProof.ConsumeWalk
import PyProof.IsiPairs
import PyProof.IsiSeqPairs
import PyProof.IsiHeapPairs
import PyProof.IsiNone
import PyProof.PureStr
import PyProof.StrCalls
import PyProof.Rows.SortStr
import PyProof.Rows.StrJoin2
import PyProof.CallStr
import PyProof.WalkInts
import PyProof.Rows.StrDigits
import PyProof.DictWalks
import PyProof.DictTruth
import PyProof.CollectWalk
import PyProof.WalkLemmas
import PyProof.Rows.SortShellK
import PyProof.Rows.SortWalk
import PyProof.SetKind
import PyProof.FactsAll.set
import PyProof.Rows.SetFrom
import PyProof.TupleKey
import PyProof.IsRules
import PyProof.WalksMore
import PyProof.SetRoads
import PyProof.DictCompW
import PyProof.ListRange
import PyProof.FString5
import PyProof.MeetsSeq2
import PyProof.FactsAll.tuple_0
import PyProof.FactsAll.tuple_2
import PyProof.FactsAll.tuple_3
import PyProof.EnumFor
import PyProof.EnumMake
import PyProof.EnumStmt
import PyProof.Rows.EnumRows
import PyProof.SumWalk
import PyProof.Rows.SeqCalls
import KE.KRevSl
import PyProof.ZipIter
import PyProof.TupleIter
import PyProof.AttrMiss
import KE.KDictOf
import KE.KDictLaws
import PyProof.TupleOfStr
import PyProof.StrCalls2
import PyProof.Rows.StrNews2
import PyProof.Rows.StrItems
import PyProof.Rows.StrSplitAre
import PyProof.Rows.StrGen4
import PyProof.Rows.RegStrFacts
import PyProof.Rows.FStr
import PyProof.SetNew
import PyProof.Rows.SetObj
import PyProof.Seq
import PyProof.Rows.SortShell
import PyProof.StrLawsTight
import PyProof.Rows.StrPartPair
import PyProof.Rows.CatFin
import PyProof.Rows.StrClose
import Lean
import PySem.Challenge.RW_onefolk_k05_whole_books_and_texts
set_option maxRecDepth 100000
set_option maxHeartbeats 4000000
set_option linter.all false
set_option Elab.async false
section
open PySem PySem.Spec PyProof.Rows
abbrev LS_:=List PySem.Str
abbrev VP_:=PySem.Value->PySem.Shared->Prop
abbrev FG_:=PySem.W.Frag
abbrev LI_:=List Int
abbrev zb:=@wpAny_bind
abbrev zd:=@Heap.get?_push_of_some
abbrev ze:=@wpAny_pure
abbrev zg:=@List.map_cons
abbrev zh:=@List.length_map
abbrev zi:=@List.mem_cons_self
abbrev zk:=@if_pos
abbrev zl:=@Nat.le_refl
abbrev zo:=@List.mem_cons_of_mem
abbrev zr:=@Bool.false_ne_true
abbrev zt:=@Heap.lt_size
abbrev zv:=@List.size_toArray
abbrev zw:=@List.length_append
abbrev zz:=@Nat.le_trans
abbrev zC:=@PySem.W.mg_of
abbrev zI:=@if_neg
abbrev zS:=@Heap.get?_push_size
abbrev z4:=@List.mem_append_right
abbrev z5:=@decide_eq_true
abbrev Zl:=@List.map_append
abbrev Zp:=@List.length_cons
abbrev Zs:=@Or.inr
abbrev ZA:=@wpAny_mono
abbrev ZE:=@Nat.lt_of_lt_of_le
abbrev ZH:=@Bool.false_eq_true
abbrev ZI:=@Nat.ne_of_lt
abbrev ZN:=@Bool.and_eq_true
abbrev ZO:=@Nat.le_of_ble_eq_true
abbrev ZT:=@decide_eq_false
abbrev ZU:=@Or.inl
abbrev ZY:=@decide_eq_true_eq
abbrev ZZ:=@List.getElem?_map
abbrev Z3:=@List.map_map
abbrev qa:=@List.getElem?_append_left
abbrev qc:=@Array.length_toList
abbrev qf:=@List.length_set
abbrev qh:=@PySem.W.mg_none_of
abbrev qi:=@wpAny_holding
abbrev qk:=@Int.toNat_of_nonneg
abbrev qo:=@List.mem_append_left
abbrev qq:=@List.length_drop
abbrev qr:=@List.map_congr_left
abbrev qv:=@Heap.get?_update_self
abbrev qA:=@if_false
abbrev qB:=@Heap.get?_update_other
abbrev qE:=@List.getElem?_append_right
abbrev qS:=@List.mem_map_of_mem
abbrev qV:=@List.rel_of_pairwise_cons
abbrev Qb:=@Option.bind_some
abbrev Qr:=@wpAny_standAt
abbrev QA:=@Ne.symm
abbrev QE:=@wpAny_truthy_bool
abbrev QI:=@List.getElem?_replicate
abbrev QN:=@List.find?_cons
abbrev QO:=@List.append_nil
abbrev QP:=@Nat.zero_le
abbrev QQ:=@Obj.data_mapFields
abbrev QR:=@if_true
abbrev QU:=@List.drop_eq_getElem_cons
abbrev QY:=@Option.some.inj
abbrev Q1:=@Nat.le_of_lt
abbrev Q2:=@wpAny_newObj_type
abbrev Q3:=@List.any_cons
abbrev Q4:=@PySem.mem_of_lookup
abbrev ja:=@List.all_eq_true
abbrev jb:=@decide_eq_false_iff_not
abbrev jn:=@wpAny_field
abbrev js:=@Nat.ne_of_gt
abbrev jv:=@wpAny_Call_Name_kw
abbrev jI:=@List.take_of_length_le
abbrev jS:=@Nat.lt_irrefl
abbrev j0:=@List.mem_cons
abbrev j3:=@List.all_cons
abbrev Jn:=@List.lookup_cons_self
abbrev JA:=@List.length_singleton
abbrev JE:=@of_decide_eq_true
abbrev JI:=@List.append_assoc
abbrev JJ:=@Nat.le_succ
abbrev JO:=@Heap.size_push
abbrev JP:=@PySem.F.excBase_ValueError
abbrev JS:=@wpAny_typeOf
abbrev JU:=@List.length_take
abbrev JY:=@List.getElem_mem
abbrev ka:=@wpAny_comprehension_free
abbrev kb:=@List.getElem?_eq_getElem
abbrev kc:=@List.nil_append
abbrev ke:=@Bool.or_eq_true
abbrev kf:=@wpAny_getItem_str_slice
abbrev kg:=@wpAny_loadPart_at
abbrev ki:=@List.getElem?_set
abbrev kl:=@List.range_succ_eq_map
abbrev km:=@List.drop_eq_nil_of_le
abbrev kn:=@Obj.isFreed_of_fields
abbrev ko:=@wpAny_rule
abbrev kq:=@wpAny_execs_cons
abbrev kr:=@List.not_mem_nil
abbrev ku:=@Bool.and_true
abbrev ky:=@List.mem_of_getElem?
abbrev kz:=@List.getElem?_set_ne
abbrev kA:=@List.eq_nil_of_length_eq_zero
abbrev kB:=@wpAny_passesOwn
abbrev kC:=@wpAny_execs_nil
abbrev kF:=@List.foldl_cons
abbrev kG:=@List.cons.injEq
abbrev kH:=@List.replicate_succ
abbrev kK:=@Heap.SameBut.update
abbrev kL:=@codeAny_mono
abbrev kM:=@List.map_nil
abbrev kN:=@List.nodup_nil
abbrev kP:=@List.drop_drop
abbrev kQ:=@Array.find?_toList
abbrev kR:=@List.sublist_append_right
abbrev kU:=@List.nodup_append
abbrev kX:=@List.flatten_cons
abbrev Kb:=@List.flatMap_cons
abbrev Ki:=@Bool.not_eq_true'
abbrev Kj:=@Array.size_append
abbrev Kk:=@List.sum_cons
abbrev Kn:=@PySem.F.args_tuple_add_2
abbrev Kt:=@wpAny_call_entry
abbrev Kx:=@List.filter_cons
abbrev KA:=@F.slot_str_split
abbrev KB:=@PySem.F.entry_tuple_add
end
section
namespace L2
open PySem PySem.Spec PyProof.Rows
abbrev Key:=Sum Int Str
def uw:Key->Value->Bool
 |.inl k,v=>Value.isInt k v
 |.inr x,v=>Value.isStrOf x v
def ajF (w:World):Key->Int
 |.inl k=>hashInt k
 |.inr x=>hashStr w x
theorem cu:∀ {k:Key} {v:Value},uw k v=true->(∃ i t,k=Sum.inl i/\v=Value.int i t)\/(∃ x t,k=Sum.inr x/\v=Value.str x t)
 |.inl i,v,h=>by
  obtain⟨t,e⟩:=Value.isInt_shape (k:=i) (v:=v) h
  exact .inl ⟨i,t,rfl,e⟩
 |.inr x,v,h=>by
  obtain⟨t,e⟩:=Value.isStrOf_shape (x:=x) (v:=v) h
  exact .inr ⟨x,t,rfl,e⟩
theorem Xd (i:Int) (t:Tok):uw (.inl i) (.int i t)=true:=by simp[uw,Value.isInt]
theorem Xe (x:Str) (t:Tok):uw (.inr x) (.str x t)=true:=by simp[uw,Value.isStrOf]
theorem aeI (a b:Int):decide ((Sum.inl a:Key)=Sum.inl b)=(a==b):=by
 by_cases e:a=b
 ·subst e;simp
 ·have h:¬ (Sum.inl a:Key)=Sum.inl b:=fun q=>e (Sum.inl.inj q)
  rw[ZT h]
  exact (beq_eq_false_iff_ne.mpr e).symm
theorem aeJ (a b:Str):decide ((Sum.inr a:Key)=Sum.inr b)=decide (a=b):=by
 by_cases e:a=b
 ·subst e;simp
 ·have h:¬ (Sum.inr a:Key)=Sum.inr b:=fun q=>e (Sum.inr.inj q)
  rw[ZT h,ZT e]
theorem aeK (a:Int) (b:Str):decide ((Sum.inl a:Key)=Sum.inr b)=false:=ZT (fun q=>nomatch q)
theorem aeL (a:Str) (b:Int):decide ((Sum.inr a:Key)=Sum.inl b)=false:=ZT (fun q=>nomatch q)
def dI (prog:Program) (w:World):PySem.KeyKind prog w Key where
 is:=uw
 hash:=ajF w
 inj:=fun v a b ha hb=>by
  rcases cu ha with⟨i,t,rfl,rfl⟩|⟨x,t,rfl,rfl⟩
  ·rcases cu hb with⟨j,u,rfl,e⟩|⟨y,u,rfl,e⟩
   ·injection e with e1 _;rw[e1]
   ·exact nomatch e
  ·rcases cu hb with⟨j,u,rfl,e⟩|⟨y,u,rfl,e⟩
   ·exact nomatch e
   ·injection e with e1 _;rw[e1]
 byValue:=fun k v h=>by
  rcases cu h with⟨i,t,rfl,rfl⟩|⟨x,t,rfl,rfl⟩<;>rfl
 pyHash:=fun hv h=>by
  rcases cu hv with⟨i,t,rfl,rfl⟩|⟨x,t,rfl,rfl⟩
  ·exact wpAny_pyHash_int h
  ·exact wpAny_pyHash_str h
 eqBool:=fun hu hv h=>by
  rcases cu hu with⟨i,t,rfl,rfl⟩|⟨x,t,rfl,rfl⟩
  ·rcases cu hv with⟨j,u,rfl,rfl⟩|⟨y,u,rfl,rfl⟩
   ·rw[aeI] at h;exact wpAny_eqBool_int h
   ·rw[aeK] at h;exact SeqAt.EqAt.int_str i t y u _ _ _ _ h
  ·rcases cu hv with⟨j,u,rfl,rfl⟩|⟨y,u,rfl,rfl⟩
   ·rw[aeL] at h;exact SeqAt.EqAt.str_int x t j u _ _ _ _ h
   ·rw[aeJ] at h;exact wpAny_eqBool_str h
 «strs»:=fun k x t v h=>by
  rcases cu h with⟨i,u,rfl,e⟩|⟨y,u,rfl,e⟩
  ·exact nomatch e
  ·injection e with e1 _
   subst e1
   cases v<;>rfl
theorem QD (prog:Program) (w:World) (i:Int) (t:Tok):(dI prog w).is (.inl i) (.int i t)=true:=Xd i t
theorem QF (prog:Program) (w:World) (x:Str) (t:Tok):(dI prog w).is (.inr x) (.str x t)=true:=Xe x t
end L2
namespace L2
open PySem PySem.Spec PyProof.Rows
inductive V where
 |non|bl (b:Bool)|int (i:Int)|str (x:Str)|byt (b:Array UInt8)|flt (b:UInt64)|ref (a:Addr)|ty (n:String)
 deriving DecidableEq
def RelV:V->Value->Prop
 |.non,u=>u=Value.none
 |.bl b,u=>u=Value.bool b
 |.int i,u=>∃ t,u=Value.int i t
 |.str x,u=>∃ t,u=Value.str x t
 |.byt b,u=>∃ t,u=Value.bytes b t
 |.flt b,u=>∃ t,u=Value.float b t
 |.ref a,u=>u=Value.ref a
 |.ty n,u=>u=Value.type n
abbrev Vals:List V->List Value->Prop:=Paired RelV
theorem Vals.length {xs:List V} {us:List Value} (r:Vals xs us):xs.length=us.length:=Paired.length r
theorem Vals.get:∀ {xs:List V} {us:List Value} {i:Nat} {x:V},Vals xs us->xs[i]?=some x->∃ u,us[i]?=some u/\RelV x u
 |_,_,_,_,.nil,e=>by simp at e
 |_,_,0,_,.cons r _,e=>by simp at e;subst e;exact⟨_,rfl,r⟩
 |_,_,i+1,x,.cons _ t,e=>by
  obtain⟨u,h1,h2⟩:=Vals.get (i:=i) (x:=x) t (by simpa using e)
  exact⟨u,by simpa using h1,h2⟩
theorem Vals.set {x:V} {u:Value} (r:RelV x u):∀ {xs:List V} {us:List Value} (i:Nat),Vals xs us->Vals (xs.set i x) (us.set i u)
 |_,_,_,.nil=>.nil
 |_,_,0,.cons _ t=>.cons r t
 |_,_,i+1,.cons q t=>.cons q (Vals.set r i t)
theorem Vals.append:∀ {xs ys:List V} {us ws:List Value},Vals xs us->Vals ys ws->Vals (xs++ys) (us++ws)
 |_,_,_,_,.nil,s=>s
 |_,_,_,_,.cons r t,s=>.cons r (Vals.append t s)
theorem Vals.take:∀ {xs:List V} {us:List Value} (n:Nat),Vals xs us->Vals (xs.take n) (us.take n)
 |_,_,0,_=>.nil
 |_,_,_+1,.nil=>.nil
 |_,_,n+1,.cons r t=>.cons r (Vals.take n t)
theorem Vals.drop:∀ {xs:List V} {us:List Value} (n:Nat),Vals xs us->Vals (xs.drop n) (us.drop n)
 |_,_,0,r=>r
 |_,_,_+1,.nil=>.nil
 |_,_,n+1,.cons _ t=>Vals.drop n t
def Fp:Option V->Option Value->Prop
 |some v,some u=>RelV v u
 |none,none=>True
 |_,_=>False
def KV {κ:Type}:List (κ×V)->List (κ×Value)->Prop:=Paired fun (p:κ×V) (q:κ×Value)=>p.1=q.1/\RelV p.2 q.2
def kV:Key->V
 |.inl i=>.int i
 |.inr x=>.str x
inductive HO where
 |lst (xs:List V)
 |tup (xs:List V)
 |dK (kvs:List (Key×V))|dT (kvs:List (List Key×V))
 |set (S:Int->Bool) (n:Nat)
 |ins (C dx:Addr) (fs:List (Str×V))
 |own (x:Addr)
 |xd (fs:List (Str×V))
 |met (f x:Addr)
 |rng (lo hi:Int)
 |CV (o:Obj) (u:HO)
 |tbl (ps:Array Value)
 |ext (φ:Heap->Prop)
abbrev Hp:=Addr->Option HO
def upd (H:Hp) (a:Addr) (o:HO):Hp:=fun b=>if b=a then some o else H b
theorem bC {H:Hp} {a:Addr} {o:HO}:upd H a o a=some o:=by unfold upd;rw[zk rfl]
theorem aV {H:Hp} {a b:Addr} {o:HO} (h:b≠a):upd H a o b=H b:=by unfold upd;rw[zI h]
def wR (h:Heap) (a:Addr) (items:Array Value):Prop:=∃ o,h.get? a=some o/\o.cls=.type "tuple" ∧ (∃ n,o.data=.seq items n)/\o.dict=none
theorem wR.weak {h:Heap} {a:Addr} {items:Array Value} (x:wR h a items):IsTup h a items:=let ⟨o,e,c,d,_⟩:=x;⟨o,e,c,d⟩
theorem wR.new (h:Heap) (items:Array Value):wR (h.push { cls:=.type "tuple", data:=.seq items }) h.objs.size items:=⟨_,zS _ rfl,rfl,⟨_,rfl⟩,rfl⟩
theorem yh {H:Hp} {a b:Addr} {o u:HO} (h:H a=some o) (h':H b=some u) (d:o≠u):a≠b:=by
 intro e;subst e;rw[h] at h';exact d (QY h')
theorem bY {H:Hp} {a b:Addr} {o:HO} (h:H a=some o) (h':H b=none):a≠b:=by
 intro e;subst e;rw[h] at h';cases h'
section
variable (P:Program) (w:World)
def gC (H:Hp) (h:Heap) (a:Addr):HO->Prop
 |.lst xs=>xs.length<=sizeLine/\∃ (its:List Value) (n:Nat),Vals xs its/\h.get? a=some { cls:=.type "list", data:=.seq its.toArray n }
 |.tup xs=>xs.length<=sizeLine/\∃ its:List Value,Vals xs its/\wR h a its.toArray
 |.dK kvs=>kvs.length<=sizeLine/\(a==sysModules)=false/\∃ vs,KV kvs vs/\h.DictOf (dI P w) a vs
 |.dT kvs=>kvs.length<=sizeLine/\(a==sysModules)=false/\∃ xs:List (List Key×Addr×Value),
   Paired (fun (p:List Key×V) (q:List Key×Addr×Value)=>p.1=q.1/\H q.2.1=some (.tup (p.1.map kV))/\RelV p.2 q.2.2) kvs xs ∧
   ∃ o es ep,h.get? a=some o/\o.ExactDict/\o.data=.dict es ep/\es.toList=xs.map (entryOfKey (tupleKind (dI P w)))/\(xs.map (·.1)).Nodup
 |.set S n=>h.SetOf (intKind P w) a S n
 |.ins C dx fs=>H dx=some (.own a)/\fs.length<=1000/\dx≠a/\h.get? a=some (PySem.W.instObj C dx) ∧
   ∃ mA,h.Ns1 dx mA/\(∀ f,Fp (fs.lookup f) (mA f))/\PySem.Within mA (fs.map (·.1))
 |.own _=>∃ o,h.get? a=some o
 |.xd fs=>∃ mA,h.Ns1 a mA/\∀ f,Fp (fs.lookup f) (mA f)
 |.rng lo hi=>∃ t u v,h.get? a=some { cls:=.type "range", data:=.fields #[.int lo t,.int hi u,.int 1 v] }
 |.CV o u=>h.get? a=some o/\gC H h a u
 |.tbl ps=>h.get? a=some { cls:=.none,data:=.fields ps }
 |.met f x=>h.get? a=some (PySem.W.methodObj (.ref f) (.ref x))
 |.ext φ=>φ h/\(∃ o,h.get? a=some o)/\∀ h1 h2:Heap,φ h1->(∀ o,h1.get? a=some o->h2.get? a=some o)->φ h2
def yN (H:Hp) (h:Heap):Prop:=∀ a o,H a=some o->gC P w H h a o
end
section
variable {P:Program} {w:World} {H H':Hp} {h h':Heap} {a:Addr} {o:HO}
theorem gC.lt (x:gC P w H h a o):a < h.objs.size:=by
 cases o with
 |lst xs=>obtain⟨_,_,_,_,e⟩:=x;exact zt e
 |tup xs=>obtain⟨_,_,_,p⟩:=x;exact p.weak.lt
 |dK kvs=>obtain⟨_,_,_,_,o,_,_,e,_⟩:=x;exact zt e
 |dT kvs=>obtain⟨_,_,_,_,o,_,_,e,_⟩:=x;exact zt e
 |set S n=>obtain⟨o,_,_,_,e,_⟩:=x;exact zt e
 |ins C dx fs=>obtain⟨_,_,_,e,_⟩:=x;exact zt e
 |own y=>obtain⟨_,e⟩:=x;exact zt e
 |xd fs=>obtain⟨_,⟨_,_,_,e,_⟩,_⟩:=x;exact zt e
 |rng lo hi=>obtain⟨_,_,_,e⟩:=x;exact zt e
 |CV ob u=>obtain⟨e,_⟩:=x;exact zt e
 |tbl ps=>exact zt (show h.get? a=some _ from x)
 |met f y=>exact zt (show h.get? a=some _ from x)
 |ext φ=>obtain⟨_,⟨_,e⟩,_⟩:=x;exact zt e
theorem Paired.abY {α β:Type} {F G:α->β->Prop}:∀ {l₁:List α} {l₂:List β},Paired F l₁ l₂->(∀ a b,F a b->G a b)->Paired G l₁ l₂
 |_,_,.nil,_=>.nil
 |_,_,.cons r t,f=>.cons (f _ _ r) (Paired.abY t f)
theorem Paired.imp' {α β:Type} {F G:α->β->Prop} (f:∀ a b,F a b->G a b) {l₁:List α} {l₂:List β} (r:Paired F l₁ l₂):Paired G l₁ l₂:=Paired.abY r f
theorem gC.stay (x:gC P w H h a o) (k:∀ b u,(b=a\/H b=some (.own a))->h.get? b=some u->h'.get? b=some u)
  (ho:∀ b,H b=some (.own a)->H' b=some (.own a)) (ht:∀ b xs,H b=some (.tup xs)->H' b=some (.tup xs)):gC P w H' h' a o:=by
 induction o with
 |lst xs=>obtain⟨z,its,n,r,e⟩:=x;exact⟨z,its,n,r,k _ _ (.inl rfl) e⟩
 |tup xs=>obtain⟨z,its,r,ob,e,c⟩:=x;exact⟨z,its,r,ob,k _ _ (.inl rfl) e,c⟩
 |dK kvs=>obtain⟨z,y,vs,r,ob,es,ep,e,c⟩:=x;exact⟨z,y,vs,r,ob,es,ep,k _ _ (.inl rfl) e,c⟩
 |dT kvs=>
  obtain⟨z,y,xs,r,ob,es,ep,e,c⟩:=x
  exact⟨z,y,xs,Paired.abY r fun p q z=>⟨z.1,ht _ _ z.2.1,z.2.2⟩,ob,es,ep,k _ _ (.inl rfl) e,c⟩
 |set S n=>obtain⟨ob,es,ep,t,e,c⟩:=x;exact⟨ob,es,ep,t,k _ _ (.inl rfl) e,c⟩
 |ins C dx fs=>
  obtain⟨d,z,ne,e,mA,⟨od,es,ep,e2,c⟩,r⟩:=x
  exact⟨ho _ d,z,ne,k _ _ (.inl rfl) e,mA,⟨od,es,ep,k _ _ (.inr d) e2,c⟩,r⟩
 |own y=>obtain⟨ob,e⟩:=x;exact⟨ob,k _ _ (.inl rfl) e⟩
 |xd fs=>obtain⟨mA,⟨od,es,ep,e,c⟩,r⟩:=x;exact⟨mA,⟨od,es,ep,k _ _ (.inl rfl) e,c⟩,r⟩
 |rng lo hi=>obtain⟨t,u,v,e⟩:=x;exact⟨t,u,v,k _ _ (.inl rfl) e⟩
 |CV ob u ih=>obtain⟨e,q⟩:=x;exact⟨k _ _ (.inl rfl) e,ih q⟩
 |tbl ps=>
  have e:h.get? a=some { cls:=.none,data:=.fields ps }:=x
  show h'.get? a=some { cls:=.none,data:=.fields ps }
  exact k a _ (.inl rfl) e
 |met f y=>
  have e:h.get? a=some (PySem.W.methodObj (.ref f) (.ref y)):=x
  show h'.get? a=some (PySem.W.methodObj (.ref f) (.ref y))
  exact k a _ (.inl rfl) e
 |ext φ=>obtain⟨p,⟨o,e⟩,st⟩:=x;exact⟨st _ _ p fun o q=>k _ _ (.inl rfl) q,⟨o,k _ _ (.inl rfl) e⟩,st⟩
theorem yN.lt (x:yN P w H h) (e:H a=some o):a < h.objs.size:=(x a o e).lt
theorem yN.fresh (x:yN P w H h) (e:h.objs.size<=a):H a=none:=by
 cases q:H a with
 |none=>rfl
 |some u=>exact absurd (ZE (x.lt q) e) (jS _)
theorem yN.kept (x:yN P w H h) (k:∀ b u,h.get? b=some u->h'.get? b=some u):yN P w H h':=fun a o e=>
 (x a o e).stay (fun b u _ q=>k b u q) (fun _ q=>q) fun _ _ q=>q
theorem yN.laid (x:yN P w H h) (k:∀ b u,h.get? b=some u->h'.get? b=some u) (hp:h.objs.size<=a) (new:gC P w (upd H a o) h' a o):yN P w (upd H a o) h':=fun b u e=>by
 have hn:=x.fresh hp
 by_cases hb:b=a
 ·subst hb;rw[bC] at e;cases e;exact new
 ·rw[aV hb] at e
  exact (x b u e).stay (fun c v _ q=>k c v q) (fun c q=>by rw[aV (bY q hn)];exact q) fun c xs q=>by rw[aV (bY q hn)];exact q
end
def Rd (H:Hp) (a:Addr) (u:HO):Prop:=H a=some u\/∃ o,H a=some (.CV o u)
theorem Rd.of {H:Hp} {a:Addr} {u:HO} (h:H a=some u):Rd H a u:=.inl h
theorem Rd.ok {P:Program} {w:World} {H:Hp} {h:Heap} {a:Addr} {u:HO} (r:Rd H a u) (x:yN P w H h):gC P w H h a u:=by
 rcases r with r|⟨o,r⟩
 ·exact x a u r
 ·obtain⟨_,q⟩:=x a _ r
  exact q
def Mut:Option HO->Prop
 |some (.lst _)=>True
 |some (.dK _)=>True
 |some (.dT _)=>True
 |some (.set _ _)=>True
 |some (.ins _ _ _)=>True
 |some (.ext _)=>True
 |_=>False
section
variable {P:Program} {w:World} {H:Hp} {h h':Heap} {x e:Addr} {o':HO}
theorem yN.write (ok:yN P w H h) (mu:Mut (H x)) (he:e=x\/H e=some (.own x)) (k:∀ b u,b≠e->h.get? b=some u->h'.get? b=some u) (heo:∃ u,h'.get? e=some u)
  (new:gC P w (upd H x o') h' x o'):yN P w (upd H x o') h':=fun b u q=>by
 have agR:∀ c y,H c=some (.own y)->c≠x:=fun c y r z=>by subst z;rw[r] at mu;exact mu
 have ajG:∀ c xs,H c=some (.tup xs)->c≠x:=fun c xs r z=>by subst z;rw[r] at mu;exact mu
 by_cases hb:b=x
 ·subst hb;rw[bC] at q;cases q;exact new
 ·rw[aV hb] at q
  by_cases hbe:b=e
  ·have q':H b=some (.own x):=by
    rcases he with z|z
    ·exact absurd (hbe.trans z) hb
    ·rw[hbe];exact z
   rw[q] at q';cases q'
   obtain⟨v,hv⟩:=heo
   exact⟨v,by rw[hbe];exact hv⟩
  ·refine (ok b u q).stay (fun c v hc r=>k c v ?_ r) (fun c r=>by rw[aV (agR c b r)];exact r) fun c xs r=>by rw[aV (ajG c xs r)];exact r
   rcases hc with rfl|hc
   ·exact hbe
   ·rintro rfl
    rcases he with z|z
    ·exact agR c b hc z
    ·rw[hc] at z;cases z;exact hb rfl
end
structure Un (fs ex:List Addr) (H H':Hp) (h h':Heap):Prop where
 keep:∀ b o,h.get? b=some o->H b=none->b∉fs->b∉ex->h'.get? b=some o
 slot:∀ b o,h.get? b=some o->H b=none->b∈fs->b∉ex->∃ sl,h'.get? b=some { o with slots:=sl }
 free:∀ b o,h.get? b=some o->H b=none->b∉ex->H' b=none
 there:∀ b o,h.get? b=some o->b∉ex->∃ o',h'.get? b=some o'
 tups:∀ b xs,H b=some (.tup xs)->H' b=some (.tup xs)
 wU:∀ b o u,H b=some (.CV o u)->H' b=some (.CV o u)
 yO:∀ b ps,H b=some (.tbl ps)->∃ more,H' b=some (.tbl (ps++more))
section
variable {fs fs' ex ex':List Addr} {H H1 H2:Hp} {h h1 h2 h':Heap} {a x e:Addr} {o:HO}
theorem Un.any (u:Un fs ex H H1 h h1) {b:Addr} {ob:Obj} (q:h.get? b=some ob) (n:H b=none) (hx:b∉ex):∃ sl,h1.get? b=some { ob with slots:=sl }:=by
 by_cases hb:b∈fs
 ·exact u.slot b ob q n hb hx
 ·exact⟨ob.slots,u.keep b ob q n hb hx⟩
theorem Un.trans (a:Un fs ex H H1 h h1) (b:Un fs ex H1 H2 h1 h2):Un fs ex H H2 h h2 where
 keep:=fun c ob q n hc hx=>b.keep c ob (a.keep c ob q n hc hx) (a.free c ob q n hx) hc hx
 slot:=fun c ob q n hc hx=>by
  obtain⟨sl,e1⟩:=a.slot c ob q n hc hx
  obtain⟨sl',e2⟩:=b.slot c _ e1 (a.free c ob q n hx) hc hx
  exact⟨sl',e2⟩
 free:=fun c ob q n hx=>by
  obtain⟨o',e1⟩:=a.there c ob q hx
  exact b.free c o' e1 (a.free c ob q n hx) hx
 there:=fun c ob q hx=>by
  obtain⟨o',e1⟩:=a.there c ob q hx
  exact b.there c o' e1 hx
 tups:=fun c xs q=>b.tups c xs (a.tups c xs q)
 wU:=fun c ob xs q=>b.wU c ob xs (a.wU c ob xs q)
 yO:=fun c ps q=>by
  obtain⟨m1,e1⟩:=a.yO c ps q
  obtain⟨m2,e2⟩:=b.yO c _ e1
  exact⟨m1++m2,by rw[e2,Array.append_assoc]⟩
theorem Un.kept (k:∀ b u,h.get? b=some u->h'.get? b=some u):Un fs ex H H h h':=
 ⟨fun b ob q _ _ _=>k b ob q,fun b ob q _ _ _=>⟨ob.slots,k b ob q⟩,fun _ _ _ n _=>n,fun b ob q _=>⟨ob,k b ob q⟩,fun _ _ q=>q,fun _ _ _ q=>q,fun _ ps q=>⟨#[],by rw[q];simp⟩⟩
theorem Un.refl:Un fs ex H H h h:=Un.kept fun _ _ q=>q
theorem Un.laid (k:∀ b u,h.get? b=some u->h'.get? b=some u) (hp:h.objs.size<=a) (hn:H a=none):Un fs ex H (upd H a o) h h' where
 keep:=fun b u q _ _ _=>k b u q
 slot:=fun b u q _ _ _=>⟨u.slots,k b u q⟩
 free:=fun b u q n _=>by rw[aV (ZI (ZE (zt q) hp))];exact n
 there:=fun b u q _=>⟨u,k b u q⟩
 tups:=fun b xs q=>by rw[aV (bY q hn)];exact q
 wU:=fun b u xs q=>by rw[aV (bY q hn)];exact q
 yO:=fun b ps q=>⟨#[],by rw[aV (bY q hn),q];simp⟩
theorem Un.write (mu:Mut (H x)) (he:e=x\/H e=some (.own x)) (k:∀ b u,b≠e->h.get? b=some u->h'.get? b=some u) (heo:∃ u,h'.get? e=some u):Un fs ex H (upd H x o) h h':=by
 have hx:∀ b,H b=none->b≠x:=fun b n z=>by subst z;rw[n] at mu;exact mu
 have hb:∀ b,H b=none->b≠e:=fun b n z=>by
  subst z
  rcases he with r|r
  ·exact hx b n r
  ·rw[n] at r;cases r
 have hm:∀ b u,H b=some u->¬ Mut (some u)->b≠x:=fun b u q nm z=>by subst z;rw[q] at mu;exact nm mu
 refine⟨fun b u q n _ _=>k b u (hb b n) q,fun b u q n _ _=>⟨u.slots,k b u (hb b n) q⟩,fun b u q n _=>by rw[aV (hx b n)];exact n,fun b u q _=>?_,
  fun b xs q=>by rw[aV (hm b _ q fun z=>z)];exact q,fun b u xs q=>by rw[aV (hm b _ q fun z=>z)];exact q,fun b ps q=>⟨#[],by rw[aV (hm b _ q fun z=>z),q];simp⟩⟩
 by_cases hbe:b=e
 ·subst hbe;exact heo
 ·exact⟨u,k b u hbe q⟩
theorem Un.mono (u:Un fs ex H H1 h h1) (hs:∀ b∈fs,b∈fs') (hx:∀ b∈ex,b∈ex'):Un fs' ex' H H1 h h1:=
 ⟨fun b ob q n hb he=>u.keep b ob q n (fun z=>hb (hs b z)) fun z=>he (hx b z),fun _ _ q n _ he=>u.any q n fun z=>he (hx _ z),fun b ob q n he=>u.free b ob q n fun z=>he (hx b z),fun b ob q he=>u.there b ob q fun z=>he (hx b z),u.tups,u.wU,u.yO⟩
end
def trk (h:Heap) (H:Hp):List Addr:=(List.range h.objs.size).filter fun a=>(H a).isSome
def Oj (h:Heap) (H:Hp):Heap:=PySem.W.hideAll h (trk h H)
theorem Xf (h:Heap) (H:Hp):(Oj h H).objs.size=h.objs.size:=PySem.W.hideAll_size _ _
theorem Y7 {h:Heap} {H:Hp} {b:Addr} {o:Obj} (e:h.get? b=some o) (n:H b=none):(Oj h H).get? b=some o:=
 PySem.W.hideAll_get _ e fun hm=>by
  have q:(H b).isSome=true:=(List.mem_filter.mp hm).2
  rw[n] at q;simp at q
theorem abZ {h:Heap} {H:Hp} {b:Addr} {o:Obj} (e:(Oj h H).get? b=some o):h.get? b=some o/\H b=none:=by
 have e':h.get? b=some o:=PySem.W.of_hideAll (trk h H) e
 refine⟨e',?_⟩
 cases q:H b with
 |none=>rfl
 |some x=>
  have hm:b∈trk h H:=List.mem_filter.mpr ⟨List.mem_range.mpr (zt e'),by simp[q]⟩
  have z:(Oj h H).get? b=none:=PySem.W.hideAll_none (trk h H) hm
  rw[z] at e;cases e
def ab0 (g h:Heap) (L:Addr):List (Addr×Obj):=(List.range h.objs.size).filterMap fun a=>if a=L\/(g.get? a).isSome=true then none else (h.get? a).map fun o=>(a,o)
def rest (g h:Heap) (L d:Addr):List (Addr×Obj):=(ab0 g h L).filter fun p=>decide (p.1≠d)
end L2
namespace L2
open PySem PySem.Spec PyProof.Rows
structure Mod (K:FG_) (mg:Str->Option Value) (base:Heap):Prop where
 kin:K.In base
 glob:base.Ns mainGlobals mg
 blt:∃ mb,base.Ns builtinsNs mb/\∀ x:Str,x ≠ "__name__" → mb x=bootBuiltins x
 nolimit:base.NoLimit
structure Cx where
 prog:Program
 w:World
 K:FG_
 mg:Str->Option Value
 base:Heap
 A:Around
 N:LS_
 s₀:Shared
 H₀:Hp
 env:Env
 outer:List Env
 stack:List Env
 ex:List Addr
 fn:Str->Bool
 calm:Bool
 pn:List (Addr×Obj)
 xe:VP_
def frs (l:List Env):List Addr:=l.filterMap (·.frame)
abbrev Cx.fs (X:Cx):List Addr:=frs X.outer
def Mt (sc:Scope) (x:Str):Prop:=sc.names.lookup x=some .local\/sc.names.lookup x=some .cell\/sc.names.lookup x=some .free
def Loc (sc:Scope) (x:Str):Prop:=sc.names.lookup x=some .local\/sc.names.lookup x=some .cell
def Look (env:Env) (h:Heap) (m:Str->Option Value) (x:Str) (u:Value):Prop:=
 (env.kindOf x=some .local/\m x=some u)\/((env.kindOf x=some .cell\/env.kindOf x=some .free)/\∃ c,env.cells.lookup x=some c/\h.IsCell c (some u))
structure Cx.Ok (X:Cx):Prop where
 mod:Mod X.K X.mg X.base
 kind:X.env.scope.kind=.function
 glob:X.env.globals=mainGlobals
 blt:X.env.builtins=builtinsNs
 above:X.s₀.heap.objs.size<=X.env.locals
 inj:∀ x y c,X.env.cells.lookup x=some c->X.env.cells.lookup y=some c->x=y
 has:∀ x,(X.env.kindOf x=some .cell\/X.env.kindOf x=some .free)->∃ c,X.env.cells.lookup x=some c
 cab:∀ x c,X.fn x=true->X.env.cells.lookup x=some c->X.s₀.heap.objs.size<=c
 hd:X.calm=true->X.A.handled=none
 frames:X.A.frames=some X.stack
 stk:X.stack=X.outer\/(X.stack=X.env::X.outer/\X.env.frame=some X.env.locals)
 exf:∀ b∈X.ex,b≠X.env.locals/\∀ x c,X.env.cells.lookup x=some c->c≠b
 bs:∀ b o,X.base.get? b=some o->X.s₀.heap.get? b=some o/\X.H₀ b=none
 YZ:X.base.objs.size<=X.s₀.heap.objs.size
 Xg:∀ b o,X.base.get? b=some o->b∉X.ex
 Y8:∀ b∈X.ex,b∉X.fs
 Bl:X.s₀.heap.FunFrames X.base X.outer
 frf:∀ b∈X.fs,X.H₀ b=none
structure Inv (X:Cx) (pins:List (Addr×Obj)) (σ:List (Option V)) (H:Hp) (s:Shared):Prop where
 ok:X.Ok
 os:s.os=X.s₀.os
 bare:AllBare s.gens
 base:Un X.fs X.ex X.H₀ H X.s₀.heap s.heap
 loc:∃ m,s.heap.Ns X.env.locals m/\∀ (i:Nat) (x:Str) (v:V),X.N[i]?=some x->σ[i]?=some (some v)->Mt X.env.scope x->∃ u,RelV v u/\Look X.env s.heap m x u
 cell:∀ x c,X.env.cells.lookup x=some c->∃ v,s.heap.IsCell c v
 free:H X.env.locals=none
 rM:∀ x c,X.env.cells.lookup x=some c->H c=none
 pin:∀ p∈X.pn++pins,s.heap.get? p.1=some p.2/\H p.1=none/\p.1≠X.env.locals/\p.1∉X.fs/\∀ v,p.2.data≠.cell v
 hok:yN X.prog X.w H s.heap
 len:σ.length=X.N.length
section
variable {X:Cx} {pins:List (Addr×Obj)} {σ:List (Option V)} {H H':Hp} {s:Shared} {h':Heap}
theorem Cx.Ok.ajI (ok:X.Ok) {b:Addr} {o:Obj} (e:X.base.get? b=some o):b∉X.fs:=fun hb=>by
 have:=(ok.Bl.mem hb).1
 rw[e] at this;cases this
theorem Inv.bs (I:Inv X pins σ H s):∀ b o,X.base.get? b=some o->s.heap.get? b=some o/\H b=none:=fun b o e=>
 ⟨I.base.keep b o (I.ok.bs b o e).1 (I.ok.bs b o e).2 (I.ok.ajI e) (I.ok.Xg b o e),I.base.free b o (I.ok.bs b o e).1 (I.ok.bs b o e).2 (I.ok.Xg b o e)⟩
theorem Inv.bk (I:Inv X pins σ H s):∀ b o,X.base.get? b=some o->s.heap.get? b=some o:=fun b o e=>(I.bs b o e).1
theorem Inv.mod (I:Inv X pins σ H s):Mod X.K X.mg X.base:=I.ok.mod
theorem Inv.Qz (I:Inv X pins σ H s):X.K.In s.heap:=I.ok.mod.kin.keeps I.bk
theorem Inv.nolimit (I:Inv X pins σ H s):s.heap.NoLimit:=I.ok.mod.nolimit.keeps I.bk
theorem Inv.fr (I:Inv X pins σ H s):∃ m,Fr X.base X.env.locals s.heap m:=
 let ⟨m,hn,_⟩:=I.loc
 ⟨m,hn,I.bk,zz I.ok.YZ I.ok.above⟩
theorem Inv.lt (I:Inv X pins σ H s):X.env.locals < s.heap.objs.size:=let ⟨_,hn,_⟩:=I.loc;hn.lt
theorem Inv.sz (I:Inv X pins σ H s):X.s₀.heap.objs.size<=s.heap.objs.size:=zz I.ok.above (Q1 I.lt)
theorem Inv.ajJ (I:Inv X pins σ H s) {a:Addr} (h:s.heap.objs.size<=a):a∉X.fs:=fun hb=>by
 obtain⟨_,o,ho,_⟩:=I.ok.Bl.mem hb
 exact absurd (ZE (zt ho) (zz I.sz h)) (jS _)
theorem Inv.cne (I:Inv X pins σ H s):∀ x c,X.env.cells.lookup x=some c->c≠X.env.locals:=fun x c e z=>by
 obtain⟨v,o,ho,hd⟩:=I.cell x c e
 obtain⟨m,⟨o',es,ep,ho',hd',_⟩,_⟩:=I.loc
 rw[z,ho'] at ho;cases ho;rw[hd'] at hd;cases hd
theorem Inv.Bl (I:Inv X pins σ H s):s.heap.FunFrames X.base X.outer:=by
 have all:∀ (l:List Env),(∀ b∈frs l,b∈X.fs)->X.s₀.heap.FunFrames X.base l->s.heap.FunFrames X.base l:=by
  intro l
  induction l with
  |nil=>intro _ _;trivial
  |cons env r ih=>
   intro hs hl
   obtain⟨hk,⟨L,o,hf,hn,ho,hd⟩,hr⟩:=hl
   have hL:L∈X.fs:=hs L (by unfold frs;rw[List.filterMap_cons,hf];exact zi)
   obtain⟨sl,e⟩:=I.base.slot L o ho (I.ok.frf L hL) hL fun z=>I.ok.Y8 L z hL
   exact⟨hk,⟨L,_,hf,hn,e,hd⟩,ih (fun b hb=>hs b (by unfold frs;rw[List.filterMap_cons,hf];exact zo _ hb)) hr⟩
 exact all X.outer (fun _ hb=>hb) I.ok.Bl
theorem Inv.stack (I:Inv X pins σ H s):s.heap.FunFrames X.base X.stack:=by
 rcases I.ok.stk with e|⟨e,hf⟩
 ·rw[e];exact I.Bl
 ·rw[e]
  obtain⟨m,hn,_⟩:=I.loc
  refine .cons (by rw[I.ok.kind];decide) hf hn ?_ I.Bl
  exact Heap.get?_none_of_le (zz I.ok.YZ I.ok.above)
theorem Inv.Jq (I:Inv X pins σ H s):∀ b∈frs X.stack,b∈X.env.locals::X.fs:=fun b hb=>by
 rcases I.ok.stk with e|⟨e,hf⟩
 ·rw[e] at hb;exact zo _ hb
 ·rw[e] at hb
  unfold frs at hb
  rw[List.filterMap_cons,hf] at hb
  exact hb
theorem Inv.IK (I:Inv X pins σ H s):∀ b∈frs X.stack,H b=none:=fun b hb=>by
 rcases List.mem_cons.mp (I.Jq b hb) with e|hb
 ·rw[e];exact I.free
 ·obtain⟨_,o,ho,_⟩:=I.ok.Bl.mem hb
  exact I.base.free b o ho (I.ok.frf b hb) fun z=>I.ok.Y8 b z hb
theorem Inv.step {g':Array GenState} {t':Nat} {d':Drawn} {ch:List Addr} (I:Inv X pins σ H s)
  (hch:∀ b∈ch,(b∈X.ex\/X.s₀.heap.objs.size<=b)/\b≠X.env.locals/\(∀ x c,X.env.cells.lookup x=some c->c≠b)/\∀ p∈X.pn++pins,p.1≠b)
  (keep:∀ b o,b≠X.env.locals->b∉X.fs->b∉ch->s.heap.get? b=some o->H b=none->h'.get? b=some o)
  (slot:∀ b o,b≠X.env.locals->b∈X.fs->b∉ch->s.heap.get? b=some o->H b=none->∃ sl,h'.get? b=some { o with slots:=sl }) (free:∀ b o,b∉ch->s.heap.get? b=some o->H b=none->H' b=none)
  (there:∀ b o,b∉ch->s.heap.get? b=some o->∃ o',h'.get? b=some o')
  (tups:∀ b xs,H b=some (.tup xs)->H' b=some (.tup xs)) (wU:∀ b o u,H b=some (.CV o u)->H' b=some (.CV o u)) (yO:∀ b ps,H b=some (.tbl ps)->∃ more,H' b=some (.tbl (ps++more)))
  (ns:∀ m,s.heap.Ns X.env.locals m->h'.Ns X.env.locals m) (hok:yN X.prog X.w H' h') (hg:AllBare g') :
  Inv X pins σ H' { s with heap:=h',gens:=g',drawn:=d',toks:=t' }:=by
 have neL:∀ b o,X.s₀.heap.get? b=some o->b≠X.env.locals:=fun b o e=>ZI (ZE (zt e) I.ok.above)
 have neC:∀ b o,X.s₀.heap.get? b=some o->b∉X.ex->b∉ch:=fun b o e hx hb=>by
  rcases (hch b hb).1 with z|z
  ·exact hx z
  ·exact absurd (ZE (zt e) z) (jS _)
 have cellK:∀ x c,X.env.cells.lookup x=some c->∀ v,s.heap.IsCell c v->h'.IsCell c v:=fun x c e v ⟨o,ho,hd⟩=>by
  have nch:c∉ch:=fun z=>(hch c z).2.2.1 x c e rfl
  by_cases hc:c∈X.fs
  ·obtain⟨sl,q⟩:=slot c o (I.cne x c e) hc nch ho (I.rM x c e)
   exact⟨_,q,hd⟩
  ·exact⟨o,keep c o (I.cne x c e) hc nch ho (I.rM x c e),hd⟩
 refine⟨I.ok,I.os,hg,⟨fun b o e n hb hx=>?_,fun b o e n hb hx=>?_,fun b o e n hx=>?_,fun b o e hx=>?_,fun b xs e=>tups b xs (I.base.tups b xs e),fun b o xs e=>wU b o xs (I.base.wU b o xs e),fun b ps e=>?_⟩,?_,fun x c e=>?_,?_,fun x c e=>?_,fun p hp=>?_,hok,I.len⟩
 ·exact keep b o (neL b o e) hb (neC b o e hx) (I.base.keep b o e n hb hx) (I.base.free b o e n hx)
 ·obtain⟨sl,e1⟩:=I.base.slot b o e n hb hx
  obtain⟨sl',e2⟩:=slot b _ (neL b o e) hb (neC b o e hx) e1 (I.base.free b o e n hx)
  exact⟨sl',e2⟩
 ·obtain⟨o',e1⟩:=I.base.there b o e hx
  exact free b o' (neC b o e hx) e1 (I.base.free b o e n hx)
 ·obtain⟨o',e1⟩:=I.base.there b o e hx
  exact there b o' (neC b o e hx) e1
 ·obtain⟨m1,e1⟩:=I.base.yO b ps e
  obtain⟨m2,e2⟩:=yO b _ e1
  exact⟨m1++m2,by rw[e2,Array.append_assoc]⟩
 ·obtain⟨m,hn,hl⟩:=I.loc
  refine⟨m,ns m hn,fun i x v e1 e2 e3=>?_⟩
  obtain⟨u,r,l⟩:=hl i x v e1 e2 e3
  refine⟨u,r,?_⟩
  rcases l with l|⟨k,c,e,z⟩
  ·exact .inl l
  ·exact .inr ⟨k,c,e,cellK x c e _ z⟩
 ·obtain⟨v,z⟩:=I.cell x c e
  exact⟨v,cellK x c e v z⟩
 ·obtain⟨m,⟨o,_,_,ho,_⟩,_⟩:=I.loc
  exact free _ o (fun z=>(hch _ z).2.1 rfl) ho I.free
 ·obtain⟨v,o,ho,hd⟩:=I.cell x c e
  exact free c o (fun z=>(hch c z).2.2.1 x c e rfl) ho (I.rM x c e)
 ·obtain⟨e,n,ne,nf,d⟩:=I.pin p hp
  have nch:p.1∉ch:=fun z=>(hch p.1 z).2.2.2 p hp rfl
  exact⟨keep p.1 p.2 ne nf nch e n,free p.1 p.2 nch e n,ne,nf,d⟩
theorem Inv.un {t':Nat} (I:Inv X pins σ H s) (u:Un X.fs [] H H' s.heap h') (hok:yN X.prog X.w H' h'):Inv X pins σ H' { s with heap:=h',toks:=t' }:=by
 obtain⟨m,⟨o,es,ep,ho,r⟩,_⟩:=id I.loc
 obtain⟨sl,hL⟩:=u.any ho I.free (by simp)
 exact I.step (g':=s.gens) (d':=s.drawn) (ch:=[]) (fun _ z=>nomatch z) (fun b o _ hb _ e n=>u.keep b o e n hb (by simp)) (fun b o _ hb _ e n=>u.slot b o e n hb (by simp)) (fun b o _ e n=>u.free b o e n (by simp)) (fun b o _ e=>u.there b o e (by simp)) u.tups u.wU u.yO (fun m' hm=>by
  obtain⟨o',es',ep',ho',r'⟩:=hm
  rw[ho] at ho';cases ho'
  exact⟨_,es',ep',hL,r'⟩) hok I.bare
theorem Inv.call {g':Array GenState} {t':Nat} {d':Drawn} {ch:List Addr} (I:Inv X pins σ H s) (u:Un (frs X.stack) ch H H' s.heap h') (hok:yN X.prog X.w H' h') (hg:AllBare g')
  (hch:∀ b∈ch,(b∈X.ex\/X.s₀.heap.objs.size<=b)/\b≠X.env.locals/\(∀ x c,X.env.cells.lookup x=some c->c≠b)/\∀ p∈X.pn++pins,p.1≠b) :
  Inv X pins σ H' { s with heap:=h',gens:=g',drawn:=d',toks:=t' }:=by
 obtain⟨m,⟨o,es,ep,ho,r⟩,_⟩:=id I.loc
 obtain⟨sl,hL⟩:=u.any ho I.free fun z=>(hch _ z).2.1 rfl
 exact I.step (ch:=ch) hch (fun b o hL hb hc e n=>u.keep b o e n (fun z=>(List.mem_cons.mp (I.Jq b z)).elim hL hb) hc) (fun b o _ _ hc e n=>u.any e n hc) (fun b o hc e n=>u.free b o e n hc) (fun b o hc e=>u.there b o e hc) u.tups u.wU u.yO (fun m' hm=>by
  obtain⟨o',es',ep',ho',r'⟩:=hm
  rw[ho] at ho';cases ho'
  exact⟨_,es',ep',hL,r'⟩) hok hg
theorem Inv.turned {t':Nat} {it:Addr} (I:Inv X pins σ H s) (k:∀ b o,b≠it->s.heap.get? b=some o->h'.get? b=some o) (hn:H it=none) (hL:it≠X.env.locals)
  (h1:it∈X.ex\/X.s₀.heap.objs.size<=it) (h2:∀ x c,X.env.cells.lookup x=some c->c≠it) (h3:∀ p∈X.pn++pins,p.1≠it):Inv X pins σ H { s with heap:=h',toks:=t' }:=by
 have nit:∀ b u,H b=some u->b≠it:=fun b u e z=>by rw[z,hn] at e;cases e
 refine I.step (g':=s.gens) (d':=s.drawn) (ch:=[it]) (fun b hb=>?_) (fun b o _ _ hc e _=>k b o (fun z=>hc (by simp[z])) e) (fun b o _ _ hc e _=>⟨o.slots,k b o (fun z=>hc (by simp[z])) e⟩) (fun _ _ _ _ n=>n)
  (fun b o hc e=>⟨o,k b o (fun z=>hc (by simp[z])) e⟩) (fun _ _ e=>e) (fun _ _ _ e=>e) (fun b ps e=>⟨#[],by rw[e];simp⟩) (fun m hm=>?_) (fun b u e=>?_) I.bare
 ·have e:b=it:=by simpa using hb
  subst e
  exact⟨h1,hL,h2,h3⟩
 ·obtain⟨o,es,ep,ho,r⟩:=hm
  exact⟨o,es,ep,k _ o (QA hL) ho,r⟩
 ·refine (I.hok b u e).stay (fun c v hc q=>k c v ?_ q) (fun _ q=>q) fun _ _ q=>q
  rcases hc with z|z
  ·rw[z];exact nit b u e
  ·exact nit c _ z
theorem Inv.tok (I:Inv X pins σ H s) (t:Nat):Inv X pins σ H { s with toks:=t }:=I.un (h':=s.heap) (t':=t) Un.refl I.hok
theorem Inv.kept {t':Nat} (I:Inv X pins σ H s) (k:∀ b u,s.heap.get? b=some u->h'.get? b=some u):Inv X pins σ H { s with heap:=h',toks:=t' }:=I.un (Un.kept k) (I.hok.kept k)
theorem Inv.laid {a:Addr} {o:HO} {t':Nat} (I:Inv X pins σ H s) (k:∀ b u,s.heap.get? b=some u->h'.get? b=some u) (hp:s.heap.objs.size<=a) (new:gC X.prog X.w (upd H a o) h' a o) :
  Inv X pins σ (upd H a o) { s with heap:=h',toks:=t' }:=I.un (Un.laid k hp (I.hok.fresh hp)) (I.hok.laid k hp new)
theorem Inv.write {x e:Addr} {o:HO} {t':Nat} (I:Inv X pins σ H s) (mu:Mut (H x)) (he:e=x\/H e=some (.own x)) (k:∀ b u,b≠e->s.heap.get? b=some u->h'.get? b=some u) (heo:∃ u,h'.get? e=some u)
  (new:gC X.prog X.w (upd H x o) h' x o):Inv X pins σ (upd H x o) { s with heap:=h',toks:=t' }:=I.un (Un.write mu he k heo) (I.hok.write mu he k heo new)
theorem Inv.weak {σ':List (Option V)} (I:Inv X pins σ H s) (hl:σ'.length=σ.length) (w:∀ (i:Nat) v,σ'[i]?=some (some v)->σ[i]?=some (some v)):Inv X pins σ' H s:=
 ⟨I.ok,I.os,I.bare,I.base,let ⟨m,hn,hl'⟩:=I.loc;⟨m,hn,fun i x v e1 e2 e3=>hl' i x v e1 (w i v e2) e3⟩,I.cell,I.free,I.rM,I.pin,I.hok,hl.trans I.len⟩
theorem Inv.CW {Y9:List (Addr×Obj)} (I:Inv X pins σ H s) (h:∀ p∈Y9,s.heap.get? p.1=some p.2/\H p.1=none/\p.1≠X.env.locals/\p.1∉X.fs/\∀ v,p.2.data≠.cell v):Inv X Y9 σ H s:=
 ⟨I.ok,I.os,I.bare,I.base,I.loc,I.cell,I.free,I.rM,fun p hp=>(List.mem_append.mp hp).elim (fun z=>I.pin p (qo _ z)) (h p),I.hok,I.len⟩
theorem Jr {N:LS_} (hN:N.Nodup) {i j:Nat} {x:Str} (a:N[i]?=some x) (b:N[j]?=some x):i=j:=by
 obtain⟨h1,e1⟩:=List.getElem?_eq_some_iff.mp a
 obtain⟨h2,e2⟩:=List.getElem?_eq_some_iff.mp b
 exact (List.getElem_inj hN).mp (e1.trans e2.symm)
theorem Xh {M:Model} {A:Around} {E:VP_} {i:Nat} {x:Str} {v:V} {u:Value} {Q:Unit->Shared->Prop} (I:Inv X pins σ H s) (hN:X.N.Nodup) (hi:X.N[i]?=some x) (hx:Loc X.env.scope x) (r:RelV v u)
  (h:∀ s',Inv X pins (σ.set i (some v)) H s'->(∃ a,Heap.SameBut a s.heap s'.heap/\(a=X.env.locals\/X.env.cells.lookup x=some a))->Q () s') (hf:X.fn x=true\/X.env.scope.names.lookup x=some .local:=by first|exact .inl rfl|exact .inr rfl|assumption):wpAny M A (storeName X.env x u) Q E s:=by
 obtain⟨m,hn,hl⟩:=id I.loc
 have hcls:(X.env.scope.kind==.class||(X.env.scope.kind==.module&&X.env.locals != X.env.globals))=false:=by rw[I.ok.kind];rfl
 have hiσ:i < σ.length:=by rw[I.len];exact (List.getElem?_eq_some_iff.mp hi).1
 have cne:=I.cne
 have tracked:∀ {a:Addr} {h':Heap},(∃ o,s.heap.get? a=some o/\H a=none)->Heap.SameBut a s.heap h'->yN X.prog X.w H h':=fun {a h'} ha hs b ob e=>by
  obtain⟨_,_,hfree⟩:=ha
  refine (I.hok b ob e).stay (fun c w' hc q=>(hs.2 c ?_).trans q) (fun _ q=>q) fun _ _ q=>q
  rintro rfl
  rcases hc with rfl|hc
  ·rw[hfree] at e;cases e
  ·rw[hfree] at hc;cases hc
 rcases hx with hk|hk
 ·refine wpAny_storeName_local hk hn (fun h' hn' hs=>?_) hcls
  obtain⟨oL,_,_,hoL,_⟩:=id hn
  refine h _ ⟨I.ok,I.os,I.bare,⟨fun b o e n hb hx=>?_,fun b o e n hb hx=>?_,I.base.free,fun b o e hx=>?_,I.base.tups,I.base.wU,I.base.yO⟩,⟨_,hn',fun j y v' e1 e2 e3=>?_⟩,fun y c e=>?_,I.free,I.rM,fun p hp=>?_,tracked ⟨oL,hoL,I.free⟩ hs,by simpa using I.len⟩ ⟨_,hs,.inl rfl⟩
  ·exact (hs.2 b (ZI (ZE (zt e) I.ok.above))).trans (I.base.keep b o e n hb hx)
  ·obtain⟨sl,e1⟩:=I.base.slot b o e n hb hx
   exact⟨sl,(hs.2 b (ZI (ZE (zt e) I.ok.above))).trans e1⟩
  ·obtain⟨o',e1⟩:=I.base.there b o e hx
   exact⟨o',(hs.2 b (ZI (ZE (zt e) I.ok.above))).trans e1⟩
  ·by_cases hj:j=i
   ·subst hj
    rw[hi] at e1;cases e1
    rw[List.getElem?_set_self hiσ] at e2
    cases e2
    exact⟨u,r,.inl ⟨hk,by simp⟩⟩
   ·rw[kz (QA hj)] at e2
    obtain⟨u',r',q⟩:=hl j y v' e1 e2 e3
    refine⟨u',r',?_⟩
    rcases q with⟨k,e⟩|⟨k,c,e,z⟩
    ·refine .inl ⟨k,?_⟩
     have:y≠x:=fun e=>hj (Jr hN e1 (e▸hi))
     simp[this,e]
    ·exact .inr ⟨k,c,e,z.sameBut hs (cne y c e)⟩
  ·obtain⟨w',z⟩:=I.cell y c e
   exact⟨w',z.sameBut hs (cne y c e)⟩
  ·obtain⟨e,n,ne,nf,d⟩:=I.pin p hp
   exact⟨(hs.2 p.1 ne).trans e,n,ne,nf,d⟩
 ·have hfn:X.fn x=true:=by
   rcases hf with z|z
   ·exact z
   ·rw[z] at hk;cases hk
  obtain⟨c,hc⟩:=I.ok.has x (.inl hk)
  obtain⟨w',z⟩:=I.cell x c hc
  refine wpAny_storeName_cell I.ok.kind hk hc z (fun h' hc' hs=>?_)
  obtain⟨oc,hoc,ajK⟩:=id z
  refine h { s with heap:=h' } ⟨I.ok,I.os,I.bare,⟨fun b o e n hb hx=>?_,fun b o e n hb hx=>?_,I.base.free,fun b o e hx=>?_,I.base.tups,I.base.wU,I.base.yO⟩,⟨m,hn.sameBut hs (QA (cne x c hc)),fun j y v' e1 e2 e3=>?_⟩,fun y c' e=>?_,I.free,I.rM,fun p hp=>?_,tracked ⟨oc,hoc,I.rM x c hc⟩ hs,by simpa using I.len⟩ ⟨c,hs,.inr hc⟩
  ·exact (hs.2 b (ZI (ZE (zt e) (I.ok.cab x c hfn hc)))).trans (I.base.keep b o e n hb hx)
  ·obtain⟨sl,e1⟩:=I.base.slot b o e n hb hx
   exact⟨sl,(hs.2 b (ZI (ZE (zt e) (I.ok.cab x c hfn hc)))).trans e1⟩
  ·obtain⟨o',e1⟩:=I.base.there b o e hx
   exact⟨o',(hs.2 b (ZI (ZE (zt e) (I.ok.cab x c hfn hc)))).trans e1⟩
  ·by_cases hj:j=i
   ·subst hj
    rw[hi] at e1;cases e1
    rw[List.getElem?_set_self hiσ] at e2
    cases e2
    exact⟨u,r,.inr ⟨.inl hk,c,hc,hc'⟩⟩
   ·rw[kz (QA hj)] at e2
    obtain⟨u',r',q⟩:=hl j y v' e1 e2 e3
    refine⟨u',r',?_⟩
    rcases q with q|⟨k,c',e,z'⟩
    ·exact .inl q
    ·refine .inr ⟨k,c',e,z'.sameBut hs ?_⟩
     rintro rfl
     exact hj (Jr hN e1 (I.ok.inj _ _ _ e hc▸hi))
  ·by_cases hcc:c'=c
   ·subst hcc;exact⟨_,hc'⟩
   ·obtain⟨w2,z2⟩:=I.cell y c' e
    exact⟨w2,z2.sameBut hs hcc⟩
  ·obtain⟨e,n,ne,nf,d⟩:=I.pin p hp
   refine⟨(hs.2 p.1 ?_).trans e,n,ne,nf,d⟩
   intro q
   rw[q,hoc] at e
   have q':oc=p.2:=QY e
   exact d w' (by rw[<-q'];exact ajK)
theorem CZ {M:Model} {A:Around} {E:VP_} {i:Nat} {x:Str} {v:V} {u:Value} {Q:Unit->Shared->Prop} (I:Inv X pins σ H s) (hN:X.N.Nodup) (hi:X.N[i]?=some x) (hx:Loc X.env.scope x) (r:RelV v u)
  (h:∀ s',Inv X pins (σ.set i (some v)) H s'->Q () s') (hf:X.fn x=true\/X.env.scope.names.lookup x=some .local:=by first|exact .inl rfl|exact .inr rfl|assumption):wpAny M A (storeName X.env x u) Q E s:=
 Xh I hN hi hx r (fun s' I' _=>h s' I') hf
theorem Inv.call' {s':Shared} {ch:List Addr} (I:Inv X pins σ H s) (ho:s'.os=s.os) (u:Un (frs X.stack) ch H H' s.heap s'.heap) (hok:yN X.prog X.w H' s'.heap) (hg:AllBare s'.gens)
  (hch:∀ b∈ch,(b∈X.ex\/X.s₀.heap.objs.size<=b)/\b≠X.env.locals/\(∀ x c,X.env.cells.lookup x=some c->c≠b)/\∀ p∈X.pn++pins,p.1≠b):Inv X pins σ H' s':=by
 obtain⟨h',g',d',t',o'⟩:=s'
 have e:o'=s.os:=ho
 subst e
 exact I.call (g':=g') (t':=t') (d':=d') u hok hg hch
end
abbrev XK:=Value->Option Addr->Hp->Prop
abbrev St:=List (Option V)
abbrev VK:=V->Hp->Prop
abbrev TE:=St->Hp->VK->Prop
abbrev TT:=St->Hp->(Bool->Hp->Prop)->Prop
abbrev TA:=St->Hp->(List V->Hp->Prop)->Prop
structure Ends where
 nx:St->Hp->Prop
 rt:VK
 bk:St->Hp->Prop:=fun _ _=>False
 ct:St->Hp->Prop:=fun _ _=>False
abbrev TS:=Ends->St->Hp->Prop
def EP (X:Cx) (pins:List (Addr×Obj)) (σ:St) (Q:VK) (u:Value) (s':Shared):Prop:=∃ v H',Inv X pins σ H' s'/\RelV v u/\Q v H'
def TP (X:Cx) (pins:List (Addr×Obj)) (σ:St) (Q:Bool->Hp->Prop) (b:Bool) (s':Shared):Prop:=∃ H',Inv X pins σ H' s'/\Q b H'
def AP (X:Cx) (pins:List (Addr×Obj)) (σ:St) (Q:List V->Hp->Prop) (us:List Value) (s':Shared):Prop:=∃ vs H',Inv X pins σ H' s'/\Vals vs us/\Q vs H'
def SP (X:Cx) (pins:List (Addr×Obj)) (D:Ends) (f:Flow) (s':Shared):Prop:=
 match f with
 |.next=>∃ σ' H',Inv X pins σ' H' s'/\D.nx σ' H'
 |.brk=>∃ σ' H',Inv X pins σ' H' s'/\D.bk σ' H'
 |.cont=>∃ σ' H',Inv X pins σ' H' s'/\D.ct σ' H'
 |.ret u=>∃ v σ' H',Inv X pins σ' H' s'/\RelV v u/\D.rt v H'
def PE (X:Cx) (e:Expr) (t:TE):Prop:=
 ∀ (pins:List (Addr×Obj)) (s:Shared) (σ:St) (H:Hp) (Q:VK),Inv X pins σ H s->t σ H Q->wpAny (model X.prog X.w) X.A (eval e X.env) (EP X pins σ Q) X.xe s
def PT (X:Cx) (e:Expr) (t:TT):Prop:=
 ∀ (pins:List (Addr×Obj)) (s:Shared) (σ:St) (H:Hp) (Q:Bool->Hp->Prop),Inv X pins σ H s->t σ H Q->wpAny (model X.prog X.w) X.A (isTrue e X.env (eval e X.env)) (TP X pins σ Q) X.xe s
def PW (X:Cx) (e:Expr) (t:TT):Prop:=
 ∀ (whole:Sem Value) (pins:List (Addr×Obj)) (s:Shared) (σ:St) (H:Hp) (Q:Bool->Hp->Prop),Inv X pins σ H s->t σ H Q->wpAny (model X.prog X.w) X.A (isTrue e X.env whole) (TP X pins σ Q) X.xe s
theorem PW.pt {X:Cx} {e:Expr} {t:TT} (h:PW X e t):PT X e t:=h _
def PA (X:Cx) (es:List Expr) (t:TA):Prop:=
 ∀ (pos:Pos) (pins:List (Addr×Obj)) (s:Shared) (σ:St) (H:Hp) (Q:List V->Hp->Prop),Inv X pins σ H s->t σ H Q->wpAny (model X.prog X.w) X.A (spliced (backTo pos (starEach es X.env))) (AP X pins σ Q) X.xe s
def PS (X:Cx) (st:Stmt) (t:TS):Prop:=
 ∀ (pins:List (Addr×Obj)) (s:Shared) (σ:St) (H:Hp) (D:Ends),Inv X pins σ H s->t D σ H->wpAny (model X.prog X.w) X.A (exec st X.env) (SP X pins D) X.xe s
def CT (X:Cx) (st:List Stmt) (t:TS):Prop:=
 ∀ (pins:List (Addr×Obj)) (s:Shared) (σ:St) (H:Hp) (D:Ends),Inv X pins σ H s->t D σ H->wpAny (model X.prog X.w) X.A (execs st X.env) (SP X pins D) X.xe s
theorem lH {α:Type} {t:Sem α} {Q Q':α->Shared->Prop} {M:Model} {A:Around} {E:VP_} {s:Shared} (h:wpAny M A t Q E s) (hQ:∀ a s,Q a s->Q' a s):wpAny M A t Q' E s:=ZA h hQ fun _ _ x=>x
end L2
namespace L2
open PySem PySem.Spec PyProof.Rows
section
variable {X:Cx}
def Za (i:Nat):TE:=fun σ H Q=>∃ v,σ[i]?=some (some v)/\Q v H
def tC (v:V):TE:=fun _ H Q=>Q v H
theorem tD {i:Nat} {x:Str} {pos:Pos} (hN:X.N[i]?=some x) (hv:Mt X.env.scope x) (hd:(x==("__debug__" : Str))=false:=by decide) (hcd:(x==("__classdict__" : Str))=false:=by decide):PE X (.Name x pos) (Za i):=by
 intro pins s σ H Q I h
 obtain⟨v,e,h⟩:=h
 obtain⟨m,hn,hl⟩:=I.loc
 obtain⟨u,r,l⟩:=hl i x v hN e hv
 have fin:EP X pins σ Q u s:=⟨v,H,I,r,h⟩
 rcases l with⟨hk,hm⟩|⟨hk,c,hc,hcell⟩
 ·exact wpAny_Name (wpAny_loadName_local I.ok.kind hk hn hm fin) hd
 ·rcases hk with hk|hk
  ·exact wpAny_Name (wpAny_loadName_cell I.ok.kind hk hc hcell fin) hd
  ·exact wpAny_Name (wpAny_loadName_free I.ok.kind hk hc hcell fin hcd) hd
theorem aeN {i j pos}:PE X (.Constant (.int i) j pos) (tC (.int i)):=fun _ _ _ H _ I h=>wpAny_Constant_int ⟨.int i,H,I.tok _,⟨_,rfl⟩,h⟩
theorem agU {b j pos}:PE X (.Constant (.bool b) j pos) (tC (.bl b)):=fun _ _ _ H _ I h=>Constant_bool ⟨.bl b,H,I,rfl,h⟩
theorem TX {j pos}:PE X (.Constant .none j pos) (tC .non):=fun _ _ _ H _ I h=>Constant_none ⟨.non,H,I,rfl,h⟩
theorem aeO {x j pos}:PE X (.Constant (.str x) j pos) (tC (.str x)):=fun _ _ _ H _ I h=>Calls.Constant_str ⟨.str x,H,I.tok _,⟨_,rfl⟩,h⟩
def Gl (X:Cx) (x:Str):Prop:=X.env.kindOf x=some .globalImplicit
theorem Dc {E:VP_} {pins:List (Addr×Obj)} {s:Shared} {σ:St} {H:Hp} {x:Str} {u:Value} {pos:Pos} {Q:VP_} (I:Inv X pins σ H s) (hg:Gl X x) (hm:X.mg x=some u) (h:Q u s)
  (hd:(x==("__debug__" : Str))=false:=by decide):wpAny (model X.prog X.w) X.A (eval (.Name x pos) X.env) Q E s:=
 Calls.Name_function_global I.ok.kind hg (Calls.loadGlobal_global (by rw[I.ok.glob];exact I.mod.glob.keeps I.bk) hm h) hd
theorem Fq {E:VP_} {pins:List (Addr×Obj)} {s:Shared} {σ:St} {H:Hp} {x:Str} {u:Value} {pos:Pos} {Q:VP_} (I:Inv X pins σ H s) (hg:Gl X x) (hm:X.mg x=none) (hv:bootBuiltins x=some u) (h:Q u s)
  (hn:x ≠ "__name__" := by decide) (hd:(x==("__debug__" : Str))=false:=by decide):wpAny (model X.prog X.w) X.A (eval (.Name x pos) X.env) Q E s:=by
 obtain⟨mb,h1,h2⟩:=I.mod.blt
 exact Calls.Name_function_global I.ok.kind hg (Calls.loadGlobal_builtin (by rw[I.ok.glob];exact I.mod.glob.keeps I.bk) hm (by rw[I.ok.blt];exact h1.keeps I.bk) ((h2 x hn).trans hv) h) hd
theorem IV {x:Str} {v:V} {u:Value} {pos:Pos} (hg:Gl X x) (hm:X.mg x=some u) (r:RelV v u) (hd:(x==("__debug__" : Str))=false:=by decide):PE X (.Name x pos) (tC v):=
 fun _ _ _ H _ I h=>Dc I hg hm ⟨v,H,I,r,h⟩ hd
theorem VP {x:Str} {v:V} {u:Value} {pos:Pos} (hg:Gl X x) (hm:X.mg x=none) (hv:bootBuiltins x=some u) (r:RelV v u) (hn:x ≠ "__name__" := by decide) (hd:(x==("__debug__" : Str))=false:=by decide):PE X (.Name x pos) (tC v):=
 fun _ _ _ H _ I h=>Fq I hg hm hv ⟨v,H,I,r,h⟩ hn hd
variable {a b:Expr} {ta tb:TE} {pos:Pos}
variable {tA tB':TT} {rest:List Expr}
def agV (t u:TT):TT:=fun σ H Q=>t σ H fun c H1=>if c=true then u σ H1 Q else Q false H1
def tOr (t u:TT):TT:=fun σ H Q=>t σ H fun c H1=>if c=true then Q true H1 else u σ H1 Q
def ajL (t:TT):TT:=fun σ H Q=>t σ H fun c H1=>Q (!c) H1
theorem ab3 (ha:PT X a tA):PW X (.BoolOp .And [a] pos) tA:=by
 intro wh pins s σ H Q I h
 refine isTrue_and (lH (ha pins s σ H Q I h) fun c s1 e=>?_)
 cases c with
 |true=>exact isTrue_and_nil e
 |false=>exact e
theorem Zb (ha:PT X a tA):PW X (.BoolOp .Or [a] pos) tA:=by
 intro wh pins s σ H Q I h
 refine isTrue_or (lH (ha pins s σ H Q I h) fun c s1 e=>?_)
 cases c with
 |false=>exact isTrue_or_nil e
 |true=>exact e
theorem aeP (ha:PT X a tA) (hb:PW X (.BoolOp .And (b::rest) pos) tB'):PW X (.BoolOp .And (a::b::rest) pos) (agV tA tB'):=by
 intro wh pins s σ H Q I h
 refine isTrue_and (lH (ha pins s σ H _ I h) fun c s1 ⟨H1,I1,q1⟩=>?_)
 cases c with
 |true=>exact hb wh pins s1 σ H1 Q I1 q1
 |false=>exact⟨H1,I1,q1⟩
theorem ad3 (ha:PT X a tA) (hb:PW X (.BoolOp .Or (b::rest) pos) tB'):PW X (.BoolOp .Or (a::b::rest) pos) (tOr tA tB'):=by
 intro wh pins s σ H Q I h
 refine isTrue_or (lH (ha pins s σ H _ I h) fun c s1 ⟨H1,I1,q1⟩=>?_)
 cases c with
 |true=>exact⟨H1,I1,q1⟩
 |false=>exact hb wh pins s1 σ H1 Q I1 q1
theorem aeQ (ha:PT X a tA):PT X (.UnaryOp .Not a pos) (ajL tA):=by
 intro pins s σ H Q I h
 exact isTrue_not (ha pins s σ H (fun c H1=>Q (!c) H1) I h)
def agW (ta tb:TE):TE:=fun σ H Q=>ta σ H fun x H1=>∃ c,x=.bl c/\if c=true then tb σ H1 Q else Q (.bl false) H1
theorem aeR {op} {t:TE} (h:PE X a t):PE X (.BoolOp op [a] pos) t:=fun pins s σ H Q I hw=>BoolOp_one (h pins s σ H Q I hw)
theorem aeS (ha:PE X a ta) (hb:PE X (.BoolOp .And (b::rest) pos) tb):PE X (.BoolOp .And (a::b::rest) pos) (agW ta tb):=by
 intro pins s σ H Q I h
 refine BoolOp_and (lH (ha pins s σ H _ I h) fun v s1 ⟨x,H1,I1,r1,q1⟩=>?_)
 obtain⟨c,rfl,q1⟩:=q1
 cases r1
 refine QE ?_
 cases c with
 |true=>exact hb pins s1 σ H1 Q I1 q1
 |false=>exact⟨.bl false,H1,I1,rfl,q1⟩
def tIf (t:TT) (ta tb:TE):TE:=fun σ H Q=>t σ H fun c H1=>if c=true then ta σ H1 Q else tb σ H1 Q
theorem Zc {c:Expr} (hc:PT X c tA) (ha:PE X a ta) (hb:PE X b tb):PE X (.IfExp c a b pos) (tIf tA ta tb):=by
 intro pins s σ H Q I h
 refine wpAny_IfExp (lH (hc pins s σ H _ I h) fun d s1 ⟨H1,I1,q1⟩=>?_)
 cases d with
 |true=>exact ha pins s1 σ H1 Q I1 q1
 |false=>exact hb pins s1 σ H1 Q I1 q1
end
end L2
namespace L2
open PySem PySem.Spec PyProof.Rows
def vH (K:FG_) (H:Hp) (a:Addr) (xs:List V):Prop:=
 Rd H a (.lst xs) ∨
  ∃ (o:Obj) (its:Array Value) (n:Nat),K.lookup a=some o/\o.cls=.type "list" ∧ o.dict=none/\o.data=.seq its n/\its.size<=sizeLine/\Vals xs its.toList
def Dd (K:FG_) (H:Hp) (a:Addr) (xs:List V):Prop:=
 Rd H a (.tup xs) ∨
  ∃ (o:Obj) (its:Array Value) (n:Nat),K.lookup a=some o/\(o.cls=.type "tuple" ∧ o.dict=none)/\o.data=.seq its n/\its.size<=sizeLine/\Vals xs its.toList
def aeT:Value->Option V
 |.none=>some .non
 |.bool b=>some (.bl b)
 |.int i _=>some (.int i)
 |.str x _=>some (.str x)
 |.bytes b _=>some (.byt b)
 |.float b _=>some (.flt b)
 |.ref a=>some (.ref a)
 |.type n=>some (.ty n)
 |_=>none
theorem RelV.abs {x:V} {u:Value} (r:RelV x u):aeT u=some x:=by
 cases x with
 |non=>cases r;rfl
 |bl _=>cases r;rfl
 |int _=>obtain⟨t,rfl⟩:=r;rfl
 |str _=>obtain⟨t,rfl⟩:=r;rfl
 |byt _=>obtain⟨t,rfl⟩:=r;rfl
 |flt _=>obtain⟨t,rfl⟩:=r;rfl
 |ref _=>cases r;rfl
 |ty _=>cases r;rfl
theorem RelV.inj {x y:V} {u:Value} (r:RelV x u) (q:RelV y u):x=y:=QY (r.abs.symm.trans q.abs)
theorem Vals.inj:∀ {xs ys:List V} {us:List Value},Vals xs us->Vals ys us->xs=ys
 |_,_,_,.nil,.nil=>rfl
 |_,_,_,.cons r t,.cons r' t'=>by rw[r.inj r',Vals.inj t t']
section
variable {X:Cx} {pins:List (Addr×Obj)} {σ:St} {H:Hp} {s:Shared} {a:Addr} {xs ys:List V}
theorem vH.of {K:FG_} (h:H a=some (.lst xs)):vH K H a xs:=.inl (.inl h)
theorem Dd.of {K:FG_} (h:H a=some (.tup xs)):Dd K H a xs:=.inl (.inl h)
theorem Inv.list (I:Inv X pins σ H s) (h:vH X.K H a xs):∃ its:List Value,Vals xs its/\PlainL s.heap a its.toArray/\xs.length<=sizeLine:=by
 rcases h with h|⟨o,its,n,hk,hc,hd,hs,hz,r⟩
 ·obtain⟨z,its,n,r,e⟩:=h.ok I.hok
  exact⟨its,r,⟨_,n,e,rfl,rfl,rfl⟩,z⟩
 ·refine⟨its.toList,r,⟨o,n,I.Qz a o hk,hc,hd,by simpa using hs⟩,?_⟩
  have e:=r.length
  simp only[qc] at e
  omega
theorem Inv.tuple (I:Inv X pins σ H s) (h:Dd X.K H a xs):∃ its:List Value,Vals xs its/\IsTup s.heap a its.toArray/\xs.length<=sizeLine:=by
 rcases h with h|⟨o,its,n,hk,hc,hs,hz,r⟩
 ·obtain⟨z,its,r,p⟩:=h.ok I.hok
  exact⟨its,r,p.weak,z⟩
 ·refine⟨its.toList,r,⟨o,I.Qz a o hk,hc.1,n,by simpa using hs⟩,?_⟩
  have e:=r.length
  simp only[qc] at e
  omega
theorem Inv.Js (I:Inv X pins σ H s) (h:vH X.K H a xs) (h':vH X.K H a ys):xs=ys:=by
 obtain⟨its,r,⟨o,n,e,_,_,d⟩,_⟩:=I.list h
 obtain⟨its',r',⟨o',n',e',_,_,d'⟩,_⟩:=I.list h'
 rw[e] at e';cases e'
 rw[d] at d'
 injection d' with d1 _
 have:its=its':=by simpa using congrArg Array.toList d1
 subst this
 exact r.inj r'
theorem Inv.M8 (I:Inv X pins σ H s) (h:Dd X.K H a xs) (h':Dd X.K H a ys):xs=ys:=by
 obtain⟨its,r,⟨o,e,_,n,d⟩,_⟩:=I.tuple h
 obtain⟨its',r',⟨o',e',_,n',d'⟩,_⟩:=I.tuple h'
 rw[e] at e';cases e'
 rw[d] at d'
 injection d' with d1 _
 have:its=its':=by simpa using congrArg Array.toList d1
 subst this
 exact r.inj r'
end
abbrev Cx.wish (X:Cx) (E:VP_):Cx:={ X with xe:=E }
abbrev Cx.TJ (X:Cx):Cx:=X.wish fun _ _=>False
theorem Cx.Ok.wish {X:Cx} (ok:X.Ok) (E:VP_):(X.wish E).Ok:=
 ⟨ok.mod,ok.kind,ok.glob,ok.blt,ok.above,ok.inj,ok.has,ok.cab,ok.hd,ok.frames,ok.stk,ok.exf,ok.bs,ok.YZ,ok.Xg,ok.Y8,ok.Bl,ok.frf⟩
theorem Cx.Ok.nU {X:Cx} {E:VP_} (ok:(X.wish E).Ok):X.Ok:=
 ⟨ok.mod,ok.kind,ok.glob,ok.blt,ok.above,ok.inj,ok.has,ok.cab,ok.hd,ok.frames,ok.stk,ok.exf,ok.bs,ok.YZ,ok.Xg,ok.Y8,ok.Bl,ok.frf⟩
section
variable {X:Cx} {pins:List (Addr×Obj)} {σ:St} {H:Hp} {s:Shared} {E:VP_}
theorem Inv.wish (I:Inv X pins σ H s) (E:VP_):Inv (X.wish E) pins σ H s:=⟨I.ok.wish E,I.os,I.bare,I.base,I.loc,I.cell,I.free,I.rM,I.pin,I.hok,I.len⟩
theorem Inv.nU (I:Inv (X.wish E) pins σ H s):Inv X pins σ H s:=⟨I.ok.nU,I.os,I.bare,I.base,I.loc,I.cell,I.free,I.rM,I.pin,I.hok,I.len⟩
theorem SP.nU {D:Ends} {f:Flow} {s':Shared} (h:SP (X.wish E) pins D f s'):SP X pins D f s':=by
 cases f with
 |next=>obtain⟨σ',H',I,q⟩:=h;exact⟨σ',H',I.nU,q⟩
 |brk=>obtain⟨σ',H',I,q⟩:=h;exact⟨σ',H',I.nU,q⟩
 |cont=>obtain⟨σ',H',I,q⟩:=h;exact⟨σ',H',I.nU,q⟩
 |ret u=>obtain⟨v,σ',H',I,r,q⟩:=h;exact⟨v,σ',H',I.nU,r,q⟩
theorem PE.TJ {e:Expr} {t:TE} (h:PE X.TJ e t):PE X e t:=fun pins s σ H Q I hw=>
 ZA (h pins s σ H Q (I.wish _) hw) (fun _ _ ⟨v,H',I',r,q⟩=>⟨v,H',I'.nU,r,q⟩) fun _ _ z=>False.elim z
theorem PT.TJ {e:Expr} {t:TT} (h:PT X.TJ e t):PT X e t:=fun pins s σ H Q I hw=>
 ZA (h pins s σ H Q (I.wish _) hw) (fun _ _ ⟨H',I',q⟩=>⟨H',I'.nU,q⟩) fun _ _ z=>False.elim z
theorem CT.TJ {st:List Stmt} {t:TS} (h:CT X.TJ st t):CT X st t:=fun pins s σ H D I hw=>
 ZA (h pins s σ H D (I.wish _) hw) (fun _ _ q=>q.nU) fun _ _ z=>False.elim z
end
section
variable {X:Cx} {st:Stmt} {rest:List Stmt} {t u:TS} {e:Expr} {te:TE} {pos:Pos}
def agX:TS:=fun D σ H=>D.nx σ H
def ajM (t u:TS):TS:=fun D σ H=>t { D with nx:=u D } σ H
theorem Ol:CT X [] agX:=fun _ _ σ H _ I h=>kC ⟨σ,H,I,h⟩
theorem lQ (h1:PS X st t) (h2:CT X rest u):CT X (st::rest) (ajM t u):=by
 intro pins s σ H D I h
 refine kq (lH (h1 pins s σ H { D with nx:=u D } I h) fun f s1 q=>?_)
 cases f with
 |next=>
  obtain⟨σ',H',I',q⟩:=q
  exact h2 pins s1 σ' H' D I' q
 |ret v=>exact q
 |brk=>exact q
 |cont=>exact q
theorem wV (h1:PS X st t):CT X [st] t:=by
 intro pins s σ H D I h
 refine kq (lH (h1 pins s σ H D I h) fun f s1 q=>?_)
 cases f with
 |next=>exact kC q
 |ret v=>exact q
 |brk=>exact q
 |cont=>exact q
theorem Inv.quiet {pins:List (Addr×Obj)} {σ:St} {H:Hp} {s:Shared} (I:Inv X pins σ H s):interactive X.env=false:=by simp[interactive,I.ok.kind]
def agY (te:TE):TS:=fun D σ H=>te σ H fun _ H1=>D.nx σ H1
theorem IW (he:PE X e te) (hs:swapsWith e none pos.line X.env=pure false:=by rfl):PS X (.Expr e pos) (agY te):=by
 intro pins s σ H D I h
 exact wpAny_Expr_any (lH (he pins s σ H _ I h) fun v s1 ⟨x,H1,I1,r1,q1⟩=>⟨σ,H1,I1,q1⟩) I.quiet hs
def ajN (te:TE):TS:=fun D σ H=>te σ H D.rt
theorem Ft (he:PE X e te):PS X (.Return (some e) pos) (ajN te):=by
 intro pins s σ H D I h
 exact wpAny_Return_some (lH (he pins s σ H _ I h) fun v s1 ⟨x,H1,I1,r1,q1⟩=>⟨x,σ,H1,I1,r1,q1⟩)
def ajO (c:TT) (t u:TS):TS:=fun D σ H=>c σ H fun b H1=>if b=true then t D σ H1 else u D σ H1
theorem Zd {c:Expr} {a b:List Stmt} {tc:TT} (hc:PT X c tc) (ha:CT X a t) (hb:CT X b u):PS X (.If c a b pos) (ajO tc t u):=by
 intro pins s σ H D I h
 refine wpAny_If (lH (hc pins s σ H _ I h) fun d s1 ⟨H1,I1,q1⟩=>?_)
 cases d with
 |true=>exact ha pins s1 σ H1 D I1 q1
 |false=>exact hb pins s1 σ H1 D I1 q1
def Om:TS:=fun _ _ _=>False
theorem Am {sts:List Stmt}:CT X sts Om:=fun _ _ _ _ _ _ h=>h.elim
end
abbrev TG:=V->St->Hp->(St->Hp->Prop)->Prop
abbrev TGs:=List V->St->Hp->(St->Hp->Prop)->Prop
def PG (X:Cx) (target:Expr) (t:TG):Prop:=
 ∀ (pins:List (Addr×Obj)) (s:Shared) (σ:St) (H:Hp) (v:V) (u:Value) (Q:St->Hp->Prop),Inv X pins σ H s->RelV v u->t v σ H Q →
  wpAny (model X.prog X.w) X.A (assign target X.env u) (fun _ s'=>∃ σ' H',Inv X pins σ' H' s'/\Q σ' H') X.xe s
def Y0 (X:Cx) (ts:List Expr) (t:TGs):Prop:=
 ∀ (pins:List (Addr×Obj)) (s:Shared) (σ:St) (H:Hp) (vs:List V) (us:List Value) (Q:St->Hp->Prop),Inv X pins σ H s->Vals vs us->t vs σ H Q →
  wpAny (model X.prog X.w) X.A (assignInOrder ((assignEach ts X.env).map (·.2)) us) (fun _ s'=>∃ σ' H',Inv X pins σ' H' s'/\Q σ' H') X.xe s
section
variable {X:Cx} {pos:Pos}
def VR (i:Nat):TG:=fun v σ H Q=>Q (σ.set i (some v)) H
theorem Ao {i:Nat} {x:Str} (hN:X.N.Nodup) (hi:X.N[i]?=some x) (hx:Loc X.env.scope x) (hf:X.fn x=true\/X.env.scope.names.lookup x=some .local:=by first|exact .inl rfl|exact .inr rfl|assumption):PG X (.Name x pos) (VR i):=by
 intro pins s σ H v u Q I r h
 exact wpAny_assign_Name (CZ I hN hi hx r (fun s' I'=>⟨_,H,I',h⟩) hf)
def ajP:TGs:=fun vs σ H Q=>vs=[]/\Q σ H
def agZ (t:TG) (u:TGs):TGs:=fun vs σ H Q=>∃ v r,vs=v::r/\t v σ H fun σ' H'=>u r σ' H' Q
theorem V0:Y0 X [] ajP:=by
 intro pins s σ H vs us Q I r h
 obtain⟨e,h⟩:=h
 subst e
 cases r
 exact assignInOrder_nil ⟨σ,H,I,h⟩
theorem Jt {e:Expr} {es:List Expr} {t:TG} {u:TGs} (h1:PG X e t) (h2:Y0 X es u)
  (hs:(assignEach (e::es) X.env).map (·.2)=assign e X.env::(assignEach es X.env).map (·.2):=by rfl):Y0 X (e::es) (agZ t u):=by
 intro pins s σ H vs us Q I r h
 obtain⟨v,vr,e1,h⟩:=h
 subst e1
 cases r with
 |cons r rr=>
  rw[hs]
  refine assignInOrder_cons (lH (h1 pins s σ H _ _ _ I r h) fun _ s1 ⟨σ1,H1,I1,q1⟩=>?_)
  exact h2 pins s1 σ1 H1 _ _ Q I1 rr q1
def ajQ (K:FG_) (n:Nat) (t:TGs):TG:=fun v σ H Q=>∃ a xs,v=.ref a/\Dd K H a xs/\xs.length=n/\t xs σ H Q
theorem Ze {es:List Expr} {k:Nat} {t:TGs} {n:Nat} (hc:X.calm=true) (h:Y0 X es t)
  (hn:(assignEach es X.env).length=n:=by rfl) (hst:(assignEach es X.env).findIdx? (·.1)=none:=by rfl):PG X (.Tuple es k pos) (ajQ X.K n t):=by
 intro pins s σ H v u Q I r hw
 obtain⟨a,xs,e1,hq,hl,hw⟩:=hw
 subst e1
 cases r
 obtain⟨its,rv,ht,hz⟩:=I.tuple hq
 refine assign_Tuple_tuple (I.ok.hd hc) ht (by simp[hn,<-hl,rv.length]) hst fun h' hx=>?_
 have I1:Inv X pins σ H { s with heap:=h' }:=I.kept (t':=s.toks) fun b o e=>hx b o (ZI (zt e)) e
 exact h pins _ σ H xs _ Q I1 (by simpa using rv) hw
def ag0 (te:TE) (g:TG):TS:=fun D σ H=>te σ H fun x H1=>g x σ H1 D.nx
theorem aeU {tg e:Expr} {te:TE} {g:TG} (he:PE X e te) (hg:PG X tg g) (hs:swapsWithSole [tg] e pos.line X.env=pure false:=by rfl) (hw:swappedStores [tg] e X.env=pure none:=by rfl)
  (h1:(assignEach [tg] X.env).map (·.2)=[assign tg X.env]:=by rfl):PS X (.Assign [tg] e pos) (ag0 te g):=by
 intro pins s σ H D I h
 refine wpAny_Assign_stores (lH (he pins s σ H _ I h) fun v s1 ⟨x,H1,I1,r1,q1⟩=>?_) hs hw
 rw[h1]
 exact lH (hg pins s1 σ H1 x v _ I1 r1 q1) fun _ s2 q=>q
theorem TY {i:Nat} {x:Str} {e:Expr} {te:TE} {pos':Pos} (hN:X.N.Nodup) (hi:X.N[i]?=some x) (hx:Loc X.env.scope x) (he:PE X e te) (hs:swapsWith e (some (.Name x pos')) pos.line X.env=pure false:=by rfl) (hf:X.fn x=true\/X.env.scope.names.lookup x=some .local:=by first|exact .inl rfl|exact .inr rfl|assumption) :
  PS X (.Assign [.Name x pos'] e pos) (ag0 te (VR i)):=by
 intro pins s σ H D I h
 refine wpAny_Assign_Name (lH (he pins s σ H _ I h) fun v s1 ⟨y,H1,I1,r1,q1⟩=>?_) hs
 exact CZ I1 hN hi hx r1 (fun s2 I2=>⟨_,H1,I2,q1⟩) hf
end
structure It where
 go:Nat->Hp->Prop
 yld:Nat->Hp->V->Hp->Prop
 stop:Nat->Hp->Prop
def yH (X:Cx) (pins:List (Addr×Obj)) (H:Hp) (b:Addr):Prop:=
 H b=none/\b≠X.env.locals/\b∉X.fs/\(b∈X.ex\/X.s₀.heap.objs.size<=b)/\(∀ x c,X.env.cells.lookup x=some c->c≠b)/\∀ p∈X.pn++pins,p.1≠b
theorem Inv.Xi {X:Cx} {pins:List (Addr×Obj)} {σ:St} {H H':Hp} {s:Shared} {b:Addr} (I:Inv X pins σ H s) (hb:s.heap.objs.size<=b) (hn:H' b=none):yH X pins H' b:=by
 refine⟨hn,js (ZE I.lt hb),I.ajJ hb,.inr (zz I.sz hb),fun x c e z=>?_,fun p hp z=>?_⟩
 ·obtain⟨v,q⟩:=I.cell x c e
  exact absurd (ZE q.lt (by rw[z];exact hb)) (jS _)
 ·exact absurd (ZE (zt (I.pin p hp).1) (by rw[z];exact hb)) (jS _)
structure Turn (P:Program) (w:World) (K:FG_) (tg:Expr) (J:It) (fp:List Addr) (it:Addr) (tn:Nat->Heap->Prop):Prop where
 mem:it∈fp
 obj:∀ i h,tn i h->∀ b∈fp,∃ o,h.get? b=some o/\∀ v,o.data≠.cell v
 keep:∀ i h h',tn i h->(∀ b∈fp,∀ o,h.get? b=some o->h'.get? b=some o)->tn i h'
 item:∀ (X:Cx),X.prog=P->X.w=w->X.K=K->X.calm=true->∀ (i:Nat) (pins:List (Addr×Obj)) (s:Shared) (σ:St) (H:Hp) (E:VP_),Inv X pins σ H s->(∀ b∈fp,yH X pins H b)->tn i s.heap->J.go i H →
  wpAny (model P w) X.A (pyNext (.ref it)) (fun r s1=>∃ u,r=some u ∧
   wpAny (model P w) X.A (letOwnedTupleGo tg (.ref it) u) (fun _ s2=>∃ x H',Inv X pins σ H' s2/\RelV x u/\J.yld i H x H'/\tn (i+1) s2.heap/\∀ b∈fp,H' b=none) E s1) E s
 done:∀ (X:Cx),X.prog=P->X.w=w->X.K=K->X.calm=true->∀ (i:Nat) (pins:List (Addr×Obj)) (s:Shared) (σ:St) (H:Hp) (E:VP_),Inv X pins σ H s->(∀ b∈fp,yH X pins H b)->tn i s.heap->J.stop i H →
  wpAny (model P w) X.A (pyNext (.ref it)) (fun r s1=>r=none/\Inv X pins σ H s1) E s
 self:∀ (A:Around) (i:Nat) (s:Shared) (Q:VP_) (E:VP_),tn i s.heap->Q (.ref it) s->wpAny (model P w) A (pyIter (.ref it)) Q E s
abbrev TI:=St->Hp->(It->Hp->Prop)->Prop
def PIE (X:Cx) (pins:List (Addr×Obj)) (σ:St) (tg:Expr) (R:It->Hp->Prop) (itv:Value) (s2:Shared):Prop:=
 ∃ (it:Addr) (fp:List Addr) (tn:Nat->Heap->Prop) (J:It) (H':Hp),itv=.ref it/\Inv X pins σ H' s2/\Turn X.prog X.w X.K tg J fp it tn/\tn 0 s2.heap/\(∀ b∈fp,yH X pins H' b)/\R J H'
def PI (X:Cx) (tg iter:Expr) (wi:TI):Prop:=
 ∀ (pins:List (Addr×Obj)) (s:Shared) (σ:St) (H:Hp) (R:It->Hp->Prop),Inv X pins σ H s->wi σ H R →
  wpAny (model X.prog X.w) X.A (eval iter X.env) (fun v s1=>wpAny (model X.prog X.w) X.A (pyIter v) (PIE X pins σ tg R) X.xe s1) X.xe s
theorem QG {M:Model} {A:Around} {E:VP_} {s:Shared} {tg:Expr} {it:Addr} {u:Value} {o:Obj} {n:String} {vs:Array Value} {Q:Unit->Shared->Prop} (ho:s.heap.get? it=some o) (hc:o.cls=.type n) (hd:o.data=.fields vs)
  (hn:["enumerate", "zip", "dict_itemiterator", "dict_reverseitemiterator", "odict_iterator", "itertools.zip_longest", "itertools.pairwise"].contains n=false) (hQ:Q () s):wpAny M A (letOwnedTupleGo tg (.ref it) u) Q E s:=by
 unfold letOwnedTupleGo
 cases tg<;>first
  |exact ze hQ
  |(cases u<;>first
    |exact ze hQ
    |(refine zb (wpAny_load ho ?_)
      rw[hc,hd]
      show wpAny M A (if (["enumerate", "zip", "dict_itemiterator", "dict_reverseitemiterator", "odict_iterator", "itertools.zip_longest", "itertools.pairwise"].contains n&&vs[0]?==some (rawInt _))=true then _ else _) Q E s
      rw[zI (by intro h;rw[hn,Bool.false_and] at h;cases h)]
      exact ze hQ))
def Itl (K:FG_) (a:Addr):It:=
 ⟨fun i H=>∃ xs x,vH K H a xs/\xs[i]?=some x,fun i H x H'=>H'=H/\∀ xs,vH K H a xs->xs[i]?=some x,fun i H=>∃ xs,vH K H a xs/\xs.length<=i⟩
def Itt (K:FG_) (a:Addr):It:=
 ⟨fun i H=>∃ xs x,Dd K H a xs/\xs[i]?=some x,fun i H x H'=>H'=H/\∀ xs,Dd K H a xs->xs[i]?=some x,fun i H=>∃ xs,Dd K H a xs/\xs.length<=i⟩
def Itr (lo:Int) (n:Nat):It:=⟨fun i _=>i < n,fun i H x H'=>H'=H/\x=.int (lo+i),fun i _=>n<=i⟩
theorem Xj {P:Program} {w:World} {K:FG_} {tg:Expr} (a it:Addr):Turn P w K tg (Itl K a) [it] it (fun i h=>h.IsListIter it a i) where
 mem:=by simp
 obj:=fun i h st b hb=>by
  have e:b=it:=by simpa using hb
  subst e
  obtain⟨o,e,c,d⟩:=st
  exact⟨o,e,fun v z=>by rw[d] at z;cases z⟩
 keep:=fun i h h' st k=>st.at fun o e=>k it (by simp) o e
 item:=by
  intro X hP hw hK hc i pins s σ H E I hf st hg
  subst hP hw hK
  obtain⟨xs,x,hq,hx⟩:=hg
  obtain⟨its,rv,p,hz⟩:=I.list hq
  obtain⟨u,hu,ru⟩:=rv.get hx
  obtain⟨f0,f1,f2,f3,f4,f5⟩:=hf it (by simp)
  refine wpAny_pyNext_list_item st p.isList (x:=u) (by simpa using hu) fun h' st' sb=>?_
  have I1:Inv X pins σ H { s with heap:=h' }:=I.turned (t':=s.toks) (fun b o hb e=>(sb.2 b hb).trans e) f0 f1 f3 f4 f5
  obtain⟨o,e,c,d⟩:=id st'
  exact⟨u,rfl,QG (s:={ s with heap:=h' }) e c d (by decide) ⟨x,H,I1,ru,⟨rfl,fun ys hy=>by rw[I.Js hy hq];exact hx⟩,st',fun b hb=>(hf b hb).1⟩⟩
 done:=by
  intro X hP hw hK hc i pins s σ H E I hf st hg
  subst hP hw hK
  obtain⟨xs,hq,hx⟩:=hg
  obtain⟨its,rv,p,hz⟩:=I.list hq
  obtain⟨f0,f1,f2,f3,f4,f5⟩:=hf it (by simp)
  have hl:=rv.length
  exact wpAny_pyNext_list_end (I.ok.hd hc) st p.isList (by simp;omega) fun h' eb=>⟨rfl,I.turned (t':=s.toks) (fun b o hb e=>eb b o hb e) f0 f1 f3 f4 f5⟩
 self:=fun _ _ _ _ _ st h=>wpAny_pyIter_listiter st h
theorem T3 {P:Program} {w:World} {K:FG_} {tg:Expr} (a it:Addr):Turn P w K tg (Itt K a) [it] it (fun i h=>h.IsTupleIter it a i) where
 mem:=by simp
 obj:=fun i h st b hb=>by
  have e:b=it:=by simpa using hb
  subst e
  obtain⟨o,e,c,d⟩:=st
  exact⟨o,e,fun v z=>by rw[d] at z;cases z⟩
 keep:=fun i h h' st k=>st.at fun o e=>k it (by simp) o e
 item:=by
  intro X hP hw hK hc i pins s σ H E I hf st hg
  subst hP hw hK
  obtain⟨xs,x,hq,hx⟩:=hg
  obtain⟨its,rv,p,hz⟩:=I.tuple hq
  obtain⟨u,hu,ru⟩:=rv.get hx
  obtain⟨f0,f1,f2,f3,f4,f5⟩:=hf it (by simp)
  refine wpAny_pyNext_tuple_item st (show s.heap.IsTuple a its.toArray from p) (x:=u) (by simpa using hu) fun h' st' sb=>?_
  have I1:Inv X pins σ H { s with heap:=h' }:=I.turned (t':=s.toks) (fun b o hb e=>(sb.2 b hb).trans e) f0 f1 f3 f4 f5
  obtain⟨o,e,c,d⟩:=id st'
  exact⟨u,rfl,QG (s:={ s with heap:=h' }) e c d (by decide) ⟨x,H,I1,ru,⟨rfl,fun ys hy=>by rw[I.M8 hy hq];exact hx⟩,st',fun b hb=>(hf b hb).1⟩⟩
 done:=by
  intro X hP hw hK hc i pins s σ H E I hf st hg
  subst hP hw hK
  obtain⟨xs,hq,hx⟩:=hg
  obtain⟨its,rv,p,hz⟩:=I.tuple hq
  obtain⟨f0,f1,f2,f3,f4,f5⟩:=hf it (by simp)
  have hl:=rv.length
  exact wpAny_pyNext_tuple_end (I.ok.hd hc) st (show s.heap.IsTuple a its.toArray from p) (by simp;omega) fun h' eb=>⟨rfl,I.turned (t':=s.toks) (fun b o hb e=>eb b o hb e) f0 f1 f3 f4 f5⟩
 self:=fun _ _ _ _ _ st h=>wpAny_pyIter_tupleiter st h
theorem T4 {P:Program} {w:World} {K:FG_} {tg:Expr} (it:Addr) (lo:Int) (n:Nat):Turn P w K tg (Itr lo n) [it] it (fun i h=>IsRangeIter h it (lo+(i:Nat) * 1) ((n:Int) - (i:Nat)) 1) where
 mem:=by simp
 obj:=fun i h st b hb=>by
  have e:b=it:=by simpa using hb
  subst e
  exact⟨_,st,fun v z=>by
   have z':Data.fields _=Data.cell v:=z
   cases z'⟩
 keep:=fun i h h' st k=>k it (by simp) _ st
 item:=by
  intro X hP hw hK hc i pins s σ H E I hf st hg
  subst hP hw hK
  obtain⟨f0,f1,f2,f3,f4,f5⟩:=hf it (by simp)
  have W:=Walks.range (prog:=X.prog) (w:=X.w) (I.ok.hd hc) it lo 1 n
  refine W.item i s _ _ hg st fun v h' tk hv st' kk=>?_
  obtain⟨t,rfl⟩:=hv
  have I1:Inv X pins σ H { s with heap:=h',toks:=tk }:=I.turned (fun b o hb e=>kk b o (by simpa using hb) e) f0 f1 f3 f4 f5
  refine⟨_,rfl,QG (s:={ s with heap:=h',toks:=tk }) (n := "range_iterator") st' rfl rfl (by decide) ⟨.int (lo+i),H,I1,⟨t,?_⟩,⟨rfl,rfl⟩,st',fun b hb=>(hf b hb).1⟩⟩
  rw[Int.mul_one]
 done:=by
  intro X hP hw hK hc i pins s σ H E I hf st hg
  subst hP hw hK
  obtain⟨f0,f1,f2,f3,f4,f5⟩:=hf it (by simp)
  exact wpAny_pyNext_range_end (I.ok.hd hc) st (by have:n<=i:=hg;omega) fun h' eb=>⟨rfl,I.turned (t':=s.toks) (fun b o hb e=>eb b o hb e) f0 f1 f3 f4 f5⟩
 self:=fun _ _ _ _ _ st h=>wpAny_pyIter_rangeiter st h
end L2
namespace L2
open PySem PySem.Spec PyProof.Rows
section
variable {X:Cx} {tg:Expr}
theorem Zf {pins:List (Addr×Obj)} {σ:St} {H:Hp} {s:Shared} {R:It->Hp->Prop} {E:VP_} {lo hi:Int} {t u v:Tok} {tk:Nat} (I:Inv X pins σ H s) (h1 : -(2 ^ 62)<=lo) (h2:lo < 2 ^ 62) (h3 : -(2 ^ 62)<=hi) (h4:hi < 2 ^ 62)
  (q:R (Itr lo (hi - lo).toNat) H):wpAny (model X.prog X.w) X.A (pyIter (.ref s.heap.objs.size)) (PIE X pins σ tg R) E { s with heap:=s.heap.push { cls:=.type "range", data:=.fields #[.int lo t,.int hi u,.int 1 v] },toks:=tk }:=by
 refine wpAny_pyIter_range (IsRange.new ..) (small_one h1 h2 h3 h4) ?_
 have I1:Inv X pins σ H { s with heap:=s.heap.push { cls:=.type "range", data:=.fields #[.int lo t,.int hi u,.int 1 v] },toks:=tk }:=I.kept fun b o e=>zd _ e
 refine⟨(s.heap.push { cls:=.type "range", data:=.fields #[.int lo t,.int hi u,.int 1 v] }).objs.size,[(s.heap.push { cls:=.type "range", data:=.fields #[.int lo t,.int hi u,.int 1 v] }).objs.size],_,_,H,rfl,
  I1.kept (t':=tk) fun b o e=>zd _ e,T4 _ lo (hi - lo).toNat,?_,fun b hb=>?_,q⟩
 ·have e1:lo+((0:Nat):Int) * 1=lo:=by simp
  have e2:(((hi - lo).toNat:Nat):Int) - ((0:Nat):Int)=Builtin.Range.rangeSize lo hi 1:=by rw[rangeSize_one];split<;>omega
  show IsRangeIter _ _ (lo+((0:Nat):Int) * 1) ((((hi - lo).toNat:Nat):Int) - ((0:Nat):Int)) 1
  rw[e1,e2]
  exact zS _ rfl
 ·have e:b=(s.heap.push { cls:=.type "range", data:=.fields #[.int lo t,.int hi u,.int 1 v] }).objs.size:=by simpa using hb
  subst e
  exact I1.Xi (zl _) (I1.hok.fresh (zl _))
def ag2 (ta:TA):TI:=fun σ H R=>ta σ H fun vs H1=>∃ j:Int,vs=[.int j] ∧ -(2 ^ 62)<=j/\j < 2 ^ 62/\R (Itr 0 j.toNat) H1
theorem Xk {a:Expr} {ta:TA} {p pos:Pos} (hg:Gl X "range") (hm:X.mg "range" = none) (ha:PA X [a] ta) (hs:starEach [a] X.env=[(false,eval a X.env)]:=by rfl):PI X tg (.Call (.Name "range" p) [a] [] pos) (ag2 ta):=by
 intro pins s σ H R I h
 refine Call_ (Fq I hg hm boot_range (PyProof.Rows.callWith_type1 (lH (ha pos pins s σ H _ I h) fun us s1 ⟨vs,H1,I1,r1,q1⟩=>?_) hs rfl))
 obtain⟨j,e,q1,q2,q⟩:=q1
 subst e
 cases r1 with
 |cons r rr=>
  cases rr
  obtain⟨t,rfl⟩:=r
  exact call_range_1 (Zf I1 (by omega) (by omega) q1 q2 (by simpa using q))
def ajS (wi:TI) (g:TG) (tb:TS):TS:=fun D σ H=>wi σ H fun J H1=>∃ W:Nat->Nat->St->Hp->Prop,(∃ m,W 0 m σ H1)/\∀ i m σ H,W i m σ H →
 (J.stop i H/\D.nx σ H)\/(J.go i H/\∃ N:St->Hp->Prop,(∀ σ' H',N σ' H'->∃ m',m' < m/\W (i+1) m' σ' H')/\∀ x H',J.yld i H x H'->g x σ H' fun σ2 H2=>tb { D with nx:=N,ct:=N,bk:=D.nx } σ2 H2)
def Fv (fp:List Addr) (h:Heap):List (Addr×Obj):=fp.filterMap fun b=>(h.get? b).map fun o=>(b,o)
theorem wW {fp:List Addr} {h:Heap} {b:Addr} {o:Obj} (hb:b∈fp) (e:h.get? b=some o):(b,o)∈Fv fp h:=List.mem_filterMap.mpr ⟨b,hb,by rw[e];rfl⟩
theorem Xl {fp:List Addr} {h:Heap} {p:Addr×Obj} (hp:p∈Fv fp h):p.1∈fp/\h.get? p.1=some p.2:=by
 obtain⟨b,hb,e⟩:=List.mem_filterMap.mp hp
 cases q:h.get? b with
 |none=>rw[q] at e;cases e
 |some o=>
  rw[q] at e
  have e':(b,o)=p:=QY e
  subst e'
  exact⟨hb,q⟩
theorem Inv.pinned {pins:List (Addr×Obj)} {σ:St} {H:Hp} {s:Shared} {fp:List Addr} (I:Inv X pins σ H s) (hf:∀ b∈fp,yH X pins H b) (ho:∀ b∈fp,∃ o,s.heap.get? b=some o/\∀ v,o.data≠.cell v):Inv X (pins++Fv fp s.heap) σ H s:=
 I.CW fun p hp=>(List.mem_append.mp hp).elim (fun z=>I.pin p (z4 _ z)) fun z=>by
  obtain⟨hb,e⟩:=Xl z
  obtain⟨f0,f1,f2,_⟩:=hf p.1 hb
  obtain⟨o,e',d⟩:=ho p.1 hb
  rw[e] at e';cases e'
  exact⟨e,f0,f1,f2,d⟩
theorem Inv.vI {pins pl:List (Addr×Obj)} {σ:St} {H:Hp} {s:Shared} (I:Inv X (pins++pl) σ H s):Inv X pins σ H s:=I.CW fun p hp=>I.pin p (z4 _ (qo _ hp))
theorem Oo {iter:Expr} {body:List Stmt} {wi:TI} {g:TG} {tb:TS} {pos:Pos} (hp:PassesOwn (model X.prog X.w) X.A X.env X.xe) (hc:X.calm=true) (hi:PI X tg iter wi) (hg:PG X tg g) (hb:CT X body tb)
  (hs:∀ x,foldedSetIterable iter X.env x=pure x:=by intro _;rfl):PS X (.For tg iter body [] pos) (ajS wi g tb):=by
 intro pins s σ H D I h
 refine wpAny_For (lH (hi pins s σ H _ I h) fun v s1 h1=>lH h1 fun itv s2 h2=>?_) hs
 obtain⟨it,fp,tn,J,H2,e,I2,T,st2,f2,W,⟨m0,w0⟩,turn⟩:=h2
 subst e
 have stat:∀ {H':Hp},(∀ b∈fp,H' b=none)->∀ b∈fp,yH X pins H' b:=fun hn b hb=>⟨hn b hb,(f2 b hb).2⟩
 refine codeAny_forLoop_any (fun n s'=>∃ i σ' H',Inv X pins σ' H' s'/\tn i s'.heap/\(∀ b∈fp,H' b=none)/\W i n σ' H') ?_ m0 ⟨0,σ,H2,I2,st2,fun b hb=>(f2 b hb).1,w0⟩
 rintro n s3 ⟨i,σ3,H3,I3,st3,fr3,w3⟩
 rcases turn i n σ3 H3 w3 with⟨stop,qn⟩|⟨go,N,hN,step⟩
 ·refine kB hp (lH (T.done X rfl rfl rfl hc i pins s3 σ3 H3 X.xe I3 (stat fr3) st3 stop) fun r s4 ⟨hr,I4⟩=>?_)
  subst hr
  exact kC ⟨σ3,H3,I4,qn⟩
 ·refine kB hp (lH (T.item X rfl rfl rfl hc i pins s3 σ3 H3 X.xe I3 (stat fr3) st3 go) fun r s4 ⟨u,hr,h4⟩=>?_)
  subst hr
  refine kB hp (lH h4 fun _ s5 ⟨x,H5,I5,r5,y5,st5,fr5⟩=>?_)
  have I5':=I5.pinned (stat fr5) (T.obj _ _ st5)
  refine kB hp (lH (hg _ s5 σ3 H5 x u _ I5' r5 (step x H5 y5)) fun _ s6 ⟨σ6,H6,I6,q6⟩=>?_)
  refine kB hp (lH (hb _ s6 σ6 H6 _ I6 q6) fun f s7 q7=>?_)
  have again:∀ {σ7:St} {H7:Hp},Inv X (pins++Fv fp s5.heap) σ7 H7 s7->N σ7 H7->∃ m,m < n/\∃ i σ' H',Inv X pins σ' H' s7/\tn i s7.heap/\(∀ b∈fp,H' b=none)/\W i m σ' H':=fun {σ7 H7} I7 n7=>by
   obtain⟨m',hm,w7⟩:=hN σ7 H7 n7
   refine⟨m',hm,i+1,σ7,H7,I7.vI,T.keep _ _ _ st5 fun b hb o e=>(I7.pin (b,o) (z4 _ (z4 _ (wW hb e)))).1,fun b hb=>?_,w7⟩
   obtain⟨o,e,d⟩:=T.obj _ _ st5 b hb
   exact (I7.pin (b,o) (z4 _ (z4 _ (wW hb e)))).2.1
  cases f with
  |next=>obtain⟨σ7,H7,I7,n7⟩:=q7;exact again I7 n7
  |cont=>obtain⟨σ7,H7,I7,n7⟩:=q7;exact again I7 n7
  |brk=>obtain⟨σ7,H7,I7,q7⟩:=q7;exact⟨σ7,H7,I7.vI,q7⟩
  |ret v=>obtain⟨x7,σ7,H7,I7,r7,q7⟩:=q7;exact⟨x7,σ7,H7,I7.vI,r7,q7⟩
end
end L2
namespace L2
open PySem PySem.Spec PyProof.Rows
abbrev R2:=V->V->Hp->VK->Prop
def yI (X:Cx) (f:Value->Value->Sem Value) (r:R2):Prop:=
 ∀ (pins:List (Addr×Obj)) (s:Shared) (σ:St) (H:Hp) (x y:V) (v u:Value) (Q:VK),Inv X pins σ H s->RelV x v->RelV y u->r x y H Q →
  wpAny (model X.prog X.w) X.A (f v u) (EP X pins σ Q) X.xe s
def UnR (X:Cx) (f:Value->Sem Value) (r:V->Hp->VK->Prop):Prop:=
 ∀ (pins:List (Addr×Obj)) (s:Shared) (σ:St) (H:Hp) (x:V) (v:Value) (Q:VK),Inv X pins σ H s->RelV x v->r x H Q →
  wpAny (model X.prog X.w) X.A (f v) (EP X pins σ Q) X.xe s
def jV (X:Cx) (f:Value) (r:List V->Hp->VK->Prop):Prop:=
 ∀ (pins:List (Addr×Obj)) (s:Shared) (σ:St) (H:Hp) (xs:List V) (us:List Value) (Q:VK),Inv X pins σ H s->Vals xs us->r xs H Q →
  wpAny (model X.prog X.w) X.A (call f us) (EP X pins σ Q) X.xe s
def ajV (X:Cx) (r:V->Hp->(Bool->Hp->Prop)->Prop):Prop:=
 ∀ (pins:List (Addr×Obj)) (s:Shared) (σ:St) (H:Hp) (x:V) (v:Value) (Q:Bool->Hp->Prop),Inv X pins σ H s->RelV x v->r x H Q →
  wpAny (model X.prog X.w) X.A (truthy v) (TP X pins σ Q) X.xe s
def tOp (r:R2) (ta tb:TE):TE:=fun σ H Q=>ta σ H fun x H1=>tb σ H1 fun y H2=>r x y H2 Q
def rI (C:Int->Int->Prop) (g:Int->Int->V):R2:=fun x y H Q=>∃ i j,x=.int i/\y=.int j/\C i j/\Q (g i j) H
def rI0 (g:Int->Int->V):R2:=fun x y H Q=>∃ i j,x=.int i/\y=.int j/\Q (g i j) H
section
variable {X:Cx} {a b c:Expr} {ta tb tc:TE} {pos:Pos}
theorem aeV (ha:PE X a ta) (hb:PE X b tb) {pins:List (Addr×Obj)} {s:Shared} {σ:St} {H:Hp} {R:V->V->Hp->Prop} (I:Inv X pins σ H s)
  (h:ta σ H fun x H1=>tb σ H1 fun y H2=>R x y H2) {Q:VP_} {f:Value->Value->Sem Value}
  (hf:∀ v u s2 x y H2,Inv X pins σ H2 s2->RelV x v->RelV y u->R x y H2->wpAny (model X.prog X.w) X.A (f v u) Q X.xe s2) :
  wpAny (model X.prog X.w) X.A (eval a X.env) (fun v s₁=>wpAny (model X.prog X.w) X.A (eval b X.env) (fun u s₂=>wpAny (model X.prog X.w) X.A (f v u) Q X.xe s₂) X.xe s₁) X.xe s:=by
 refine lH (ha pins s σ H _ I h) fun v s1 ⟨x,H1,I1,r1,q1⟩=>?_
 refine lH (hb pins s1 σ H1 _ I1 q1) fun u s2 ⟨y,H2,I2,r2,q2⟩=>?_
 exact hf v u s2 x y H2 I2 r1 r2 q2
theorem ag4 {op:Operator} {r:R2} (ho:yI X (binaryOp op) r) (ha:PE X a ta) (hb:PE X b tb):PE X (.BinOp a op b pos) (tOp r ta tb):=by
 intro pins s σ H Q I h
 exact wpAny_BinOp (aeV ha hb I h fun v u s2 x y H2 I2 rx ry q=>ho pins s2 σ H2 x y v u Q I2 rx ry q)
theorem opI {f:Value->Value->Sem Value} {C:Int->Int->Prop} {g:Int->Int->Int}
  (rule:∀ (i j:Int) (t u:Tok) (s:Shared) (Q:VP_) (E:VP_),C i j->Q (.int (g i j) s.toks) { s with toks:=s.toks+1 }->wpAny (model X.prog X.w) X.A (f (.int i t) (.int j u)) Q E s) :
  yI X f (rI C fun i j=>.int (g i j)):=by
 intro pins s σ H x y v u Q I rx ry h
 obtain⟨i,j,rfl,rfl,hc,q⟩:=h
 obtain⟨t,rfl⟩:=rx
 obtain⟨t',rfl⟩:=ry
 exact rule i j t t' s _ _ hc ⟨.int (g i j),H,I.tok _,⟨_,rfl⟩,q⟩
theorem ag5 {f:Value->Value->Sem Value} {g:Int->Int->Int}
  (rule:∀ (i j:Int) (t u:Tok) (s:Shared) (Q:VP_) (E:VP_),Q (.int (g i j) s.toks) { s with toks:=s.toks+1 }->wpAny (model X.prog X.w) X.A (f (.int i t) (.int j u)) Q E s) :
  yI X f (rI0 fun i j=>.int (g i j)):=by
 intro pins s σ H x y v u Q I rx ry h
 obtain⟨i,j,rfl,rfl,q⟩:=h
 obtain⟨t,rfl⟩:=rx
 obtain⟨t',rfl⟩:=ry
 exact rule i j t t' s _ _ ⟨.int (g i j),H,I.tok _,⟨_,rfl⟩,q⟩
theorem ab4 {f:Value->Value->Sem Value} {g:Int->Int->Bool}
  (rule:∀ (i j:Int) (t u:Tok) (s:Shared) (Q:VP_) (E:VP_),Q (.bool (g i j)) s->wpAny (model X.prog X.w) X.A (f (.int i t) (.int j u)) Q E s) :
  yI X f (rI0 fun i j=>.bl (g i j)):=by
 intro pins s σ H x y v u Q I rx ry h
 obtain⟨i,j,rfl,rfl,q⟩:=h
 obtain⟨t,rfl⟩:=rx
 obtain⟨t',rfl⟩:=ry
 exact rule i j t t' s _ _ ⟨.bl (g i j),H,I,rfl,q⟩
def ajW (i j:Int):Prop:=0 < j/\j < 1073741824
def ajX (i j:Int):Prop:=0<=j/\j<=1000000/\i.natAbs < 2 ^ 64
def aeW (i j:Int):Prop:=(-(2 ^ 64) < i/\i < 2 ^ 64)\/(-(2 ^ 64) < j/\j < 2 ^ 64)
theorem aeW.ok {i j:Int} (h:aeW i j):IntMulOk i j:=by
 rcases h with⟨h1,h2⟩|⟨h1,h2⟩
 ·exact .of_left (intBits_le_64 h1 h2)
 ·exact .of_right (intBits_le_64 h1 h2)
theorem aeX:yI X (binaryOp .Add) (rI0 fun i j=>.int (i+j)):=ag5 fun _ _ _ _ _ _ _ q=>add_int q
theorem aeY:yI X (binaryOp .Sub) (rI0 fun i j=>.int (i - j)):=ag5 fun _ _ _ _ _ _ _ q=>sub_int q
theorem aeZ:yI X (binaryOp .Mult) (rI aeW fun i j=>.int (i * j)):=opI fun _ _ _ _ _ _ _ hc q=>mul_int q hc.ok
theorem ab5:yI X (binaryOp .FloorDiv) (rI ajW fun i j=>.int (i / j)):=opI fun i j _ _ _ _ _ hc q=>by
 have h1:(0:Int) < j:=hc.1
 have h2:j < 1073741824:=hc.2
 exact floordiv_int (by omega) (by rw[Int.fdiv_eq_ediv_of_nonneg i (by omega)];exact q) (.inl (PyProof.noPylong_small (by omega)))
theorem ae0:yI X (binaryOp .Mod) (rI (fun _ j=>0 < j) fun i j=>.int (i % j)):=opI fun i j _ _ _ _ _ hc q=>by
 have h1:(0:Int) < j:=hc
 exact mod_int' (by omega) (by rw[Int.fmod_eq_emod_of_nonneg i (by omega)];exact q)
theorem ae1:yI X (binaryOp .Pow) (rI ajX fun i j=>.int (i ^ j.toNat)):=opI fun _ _ _ _ _ _ _ hc q=>pow_int_small hc.1 hc.2.1 hc.2.2 q
theorem Zg {pins:List (Addr×Obj)} {σ:St} {H:Hp} {s:Shared} {Q:VK} {k k':Bool} (I:Inv X pins σ H s) (q:Q (.bl k) H) (e:k=k'):EP X pins σ Q (.bool k') s:=by
 subst e
 exact⟨.bl k,H,I,rfl,q⟩
theorem ag6:yI X (compareOp .Lt) (rI0 fun i j=>.bl (decide (i < j))):=ab4 fun _ _ _ _ _ _ _ q=>lt_int q
theorem ag7:yI X (compareOp .LtE) (rI0 fun i j=>.bl (decide (i<=j))):=ab4 fun _ _ _ _ _ _ _ q=>le_int q
theorem ag8:yI X (compareOp .Gt) (rI0 fun i j=>.bl (decide (j < i))):=ab4 fun _ _ _ _ _ _ _ q=>gt_int q
theorem ag9:yI X (compareOp .GtE) (rI0 fun i j=>.bl (decide (j<=i))):=ab4 fun _ _ _ _ _ _ _ q=>ge_int q
theorem Xm:yI X (compareOp .In) (fun x y H Q=>∃ i j,x=.str i/\y=.str j/\Q (.bl (!(Builtin.Str.occurrences j i 0 j.length 1).isEmpty)) H):=by
 intro pins s σ H x y v u Q I rx ry h
 obtain⟨i,j,rfl,rfl,q⟩:=h
 obtain⟨t,rfl⟩:=rx
 obtain⟨t',rfl⟩:=ry
 exact in_str (Zg I q rfl)
theorem ae2:yI X (compareOp .Is) (fun x y H Q=>y=.non/\Q (.bl (decide (x=.non))) H):=by
 intro pins s σ H x y v u Q I rx ry h
 obtain⟨rfl,q⟩:=h
 cases ry
 refine is_none_gen (Zg I q ?_)
 cases x<;>first
  |(cases rx;rfl)
  |(obtain⟨t,rfl⟩:=rx;rfl)
theorem yI.or {f:Value->Value->Sem Value} {r r':R2} (h:yI X f r) (h':yI X f r'):yI X f (fun x y H Q=>r x y H Q\/r' x y H Q):=by
 intro pins s σ H x y v u Q I rx ry q
 rcases q with q|q
 ·exact h pins s σ H x y v u Q I rx ry q
 ·exact h' pins s σ H x y v u Q I rx ry q
theorem cD (b:Expr) {op:CmpOp} (h:op≠.In:=by decide) (h2:op≠.NotIn:=by decide):behindInMarks op b=false:=by
 have e1:(op==CmpOp.In)=false:=by cases op<;>first|rfl|exact absurd rfl h
 have e2:(op==CmpOp.NotIn)=false:=by cases op<;>first|rfl|exact absurd rfl h2
 cases b<;>simp[behindInMarks,e1,e2]
theorem ab6 {op:CmpOp} {r:R2} (ho:yI X (compareOp op) r) (ha:PE X a ta) (hb:PE X b tb) (hm:behindInMarks op b=false):PE X (.Compare a [op] [b] pos) (tOp r ta tb):=by
 intro pins s σ H Q I h
 exact wpAny_Compare1 (aeV ha hb I h fun v u s2 x y H2 I2 rx ry q=>ho pins s2 σ H2 x y v u Q I2 rx ry q) hm
def aha (t:TE):TT:=fun σ H Q=>t σ H fun x H'=>∃ k,x=.bl k/\Q k H'
theorem Oq {op:CmpOp} {r:R2} (ho:yI X (compareOp op) r) (ha:PE X a ta) (hb:PE X b tb) (hm:behindInMarks op b=false):PT X (.Compare a [op] [b] pos) (aha (tOp r ta tb)):=by
 intro pins s σ H Q I h
 refine wpAny_isTrue_Compare1 (lH (ha pins s σ H _ I h) fun v s1 ⟨x,H1,I1,r1,q1⟩=>lH (hb pins s1 σ H1 _ I1 q1) fun u s2 ⟨y,H2,I2,r2,q2⟩=>
  lH (ho pins s2 σ H2 x y v u _ I2 r1 r2 q2) fun c s3 ⟨z,H3,I3,r3,k,e,q3⟩=>?_) hm
 subst e
 cases r3
 exact QE ⟨H3,I3,q3⟩
def Zh (r r':R2) (ta tb tc:TE):TE:=fun σ H Q=>ta σ H fun x H1=>tb σ H1 fun y H2=>r x y H2 fun z H3=>∃ k,z=.bl k ∧
 (if k=true then tc σ H3 fun w' H4=>r' y w' H4 Q else Q (.bl false) H3)
theorem Zi {op op':CmpOp} {r r':R2} (ho:yI X (compareOp op) r) (ho':yI X (compareOp op') r') (ha:PE X a ta) (hb:PE X b tb) (hc:PE X c tc)
  (hm:lastMarks [op,op'] [b,c]=false:=by with_unfolding_all rfl):PE X (.Compare a [op,op'] [b,c] pos) (Zh r r' ta tb tc):=by
 intro pins s σ H Q I h
 refine Compare_chain (lH (ha pins s σ H _ I h) fun v s1 ⟨x,H1,I1,r1,q1⟩=>chain_link (lH (hb pins s1 σ H1 _ I1 q1) fun u s2 ⟨y,H2,I2,r2,q2⟩=>
  lH (ho pins s2 σ H2 x y v u _ I2 r1 r2 q2) fun d s3 ⟨z,H3,I3,r3,k,e,q3⟩=>?_)) hm
 subst e
 cases r3
 refine QE ?_
 cases k with
 |false=>exact ite_ff ⟨.bl false,H3,I3,rfl,q3⟩
 |true=>exact ite_tt (chain_last (lH (hc pins s3 σ H3 _ I3 q3) fun w' s4 ⟨z',H4,I4,r4,q4⟩=>ho' pins s4 σ H4 y z' u w' Q I4 r2 r4 q4))
def ae3 (K:FG_) (x:V) (H:Hp) (k:Bool):Prop:=
 match x with
 |.non=>k=false
 |.bl b=>k=b
 |.int i=>k=(i != 0)
 |.str y=>y.length<=sizeLine/\k=((y.length:Int) != 0)
 |.byt y=>y.size<=sizeLine/\k=((y.size:Int) != 0)
 |.ref p=>(∃ xs,vH K H p xs/\k=!xs.isEmpty)\/(∃ xs,Dd K H p xs/\k=!xs.isEmpty)\/∃ kvs,H p=some (.dK kvs)/\k=!kvs.isEmpty
 |_=>False
theorem T5 {κ:Type} {kvs:List (κ×V)} {vs:List (κ×Value)} (r:KV kvs vs):(!vs.isEmpty)=!kvs.isEmpty:=by
 cases r<;>rfl
theorem Ju {xs:List V} {its:List Value} (r:Vals xs its):(!its.toArray.isEmpty)=!xs.isEmpty:=by
 cases r<;>simp
theorem Fw:(sizeLine:Nat) < 2 ^ 63:=by rw[sizeLine_eq];decide
theorem ae4:ajV X (fun x H Q=>∃ k,ae3 X.K x H k/\Q k H):=by
 intro pins s σ H x v Q I rx h
 obtain⟨k,e,q⟩:=h
 have hl:=Fw
 have hs:sizeLine=16777216:=sizeLine_eq
 cases x with
 |non=>
  cases rx
  have e':k=false:=e
  subst e'
  exact truthy_none ⟨H,I,q⟩
 |bl b=>
  cases rx
  have e':k=b:=e
  subst e'
  exact QE ⟨H,I,q⟩
 |int i=>
  obtain⟨t,rfl⟩:=rx
  have e':k=(i != 0):=e
  subst e'
  exact PySem.P.truthy_int ⟨H,I,q⟩
 |str y=>
  obtain⟨t,rfl⟩:=rx
  obtain⟨hy,e'⟩:y.length<=sizeLine/\k=((y.length:Int) != 0):=e
  subst e'
  exact PySem.P.truthy_str (by omega) ⟨H,I.tok _,q⟩
 |byt y=>
  obtain⟨t,rfl⟩:=rx
  obtain⟨hy,e'⟩:y.size<=sizeLine/\k=((y.size:Int) != 0):=e
  subst e'
  exact PySem.W.truthy_bytes (by omega) ⟨H,I.tok _,q⟩
 |ref p=>
  cases rx
  have e':(∃ xs,vH X.K H p xs/\k=!xs.isEmpty)\/(∃ xs,Dd X.K H p xs/\k=!xs.isEmpty)\/∃ kvs,H p=some (.dK kvs)/\k=!kvs.isEmpty:=e
  rcases e' with⟨xs,hx,e'⟩|⟨xs,hx,e'⟩|⟨kvs,hx,e'⟩
  ·subst e'
   obtain⟨its,r,pl,hz⟩:=I.list hx
   have hlen:=r.length
   exact wpAny_truthy_list pl.isList (by simp only[zv];omega) ⟨H,I.tok _,by rw[Ju r];exact q⟩
  ·subst e'
   obtain⟨its,r,pl,hz⟩:=I.tuple hx
   have hlen:=r.length
   exact truthy_tuple pl (by simp only[zv];omega) ⟨H,I.tok _,by rw[Ju r];exact q⟩
  ·subst e'
   obtain⟨hz,hS,vs,r,m⟩:kvs.length<=sizeLine/\(p==sysModules)=false/\∃ vs,KV kvs vs/\s.heap.DictOf (dI X.prog X.w) p vs:=I.hok p _ hx
   have hlen:kvs.length=vs.length:=Paired.length r
   exact wpAny_truthy_dict hS m (by omega) ⟨H,I.tok _,by rw[T5 r];exact q⟩
 |_=>exact (show False from e).elim
theorem Zj (ha:PE X a ta) (he:∀ whole,isTrue a X.env whole=(do let v <-whole;standAt a.pos;holding [v] (truthy v))) :
  PT X a (fun σ H Q=>ta σ H fun x H'=>∃ k,ae3 X.K x H' k/\Q k H'):=by
 intro pins s σ H Q I h
 exact isTrue_plain (lH (ha pins s σ H _ I h) fun v s1 ⟨x,H1,I1,r1,q1⟩=>ae4 pins s1 σ H1 x v Q I1 r1 q1) (he _)
theorem T6:yI X (binaryOp .Add) (fun x y H Q=>∃ i j,x=.str i/\y=.str j/\i.length+j.length<=sizeLine/\Q (.str (i++j)) H):=by
 intro pins s σ H x y v u Q I rx ry h
 obtain⟨i,j,rfl,rfl,hz,q⟩:=h
 obtain⟨t,rfl⟩:=rx
 obtain⟨t',rfl⟩:=ry
 exact add_str (fun t' tk=>⟨.str (i++j),H,I.tok _,⟨_,rfl⟩,q⟩) hz
theorem vals1 {x:V} {us:List Value} (r:Vals [x] us):∃ u,us=[u]/\RelV x u:=by
 cases r with
 |cons r1 r2=>cases r2;exact⟨_,rfl,r1⟩
theorem vals2 {x y:V} {us:List Value} (r:Vals [x,y] us):∃ u w',us=[u,w']/\RelV x u/\RelV y w':=by
 cases r with
 |cons r1 r2=>
  cases r2 with
  |cons r3 r4=>cases r4;exact⟨_,_,rfl,r1,r3⟩
theorem Zk:jV X (.builtin "abs") (fun xs H Q=>∃ i,xs=[.int i]/\Q (.int (if i < 0 then -i else i)) H):=by
 intro pins s σ H xs us Q I r h
 obtain⟨i,rfl,q⟩:=h
 obtain⟨u,rfl,t,rfl⟩:=vals1 r
 exact call_abs_int fun u tk=>⟨.int (if i < 0 then -i else i),H,I.tok _,⟨_,rfl⟩,q⟩
theorem Xn:jV X (.type "int") (fun xs H Q=>(∃ i,xs=[.int i]/\Q (.int i) H)\/∃ k,xs=[.bl k]/\Q (.int (if k then 1 else 0)) H):=by
 intro pins s σ H xs us Q I r h
 rcases h with⟨i,rfl,q⟩|⟨k,rfl,q⟩
 ·obtain⟨u,rfl,t,rfl⟩:=vals1 r
  exact call_int_int ⟨.int i,H,I,⟨_,rfl⟩,q⟩
 ·obtain⟨u,rfl,r1⟩:=vals1 r
  cases r1
  exact call_int_bool ⟨.int (if k then 1 else 0),H,I.tok _,⟨_,rfl⟩,q⟩
end
end L2
namespace L2
open PySem PySem.Spec PyProof.Rows
structure ahb (h:Heap) (x dx C:Addr) (mA:Str->Option Value):Prop where
 obj:h.get? x=some (PySem.W.instObj C dx)
 ns:h.Ns1 dx mA
 ne:dx≠x
theorem Xo {h:Heap} {dx:Addr} {mA:Str->Option Value} (n:h.Ns1 dx mA):∃ od,h.get? dx=some od/\∀ name,PySem.W.lookIn name od=some (mA name):=by
 obtain⟨o,es,ep,ho,hd,hk,_,hm⟩:=n
 refine⟨o,ho,fun name=>?_⟩
 have e:=hm name
 unfold nsFind findBy at e
 rw[<-kQ] at e
 unfold PySem.W.lookIn
 rw[hd]
 dsimp only
 split
 ·rename_i y q
  rw[q] at e
  exact congrArg some e
 ·rename_i q
  rw[q] at e
  have a:es.toList.any (·.refKey)=false:=by
   rw[List.any_eq_false]
   intro y hy
   obtain⟨z,t,hkey⟩:=hk y (Array.mem_toList_iff.mp hy)
   simp[DictEntry.refKey,hkey]
  have a':¬ es.toList.any (·.refKey)=true:=by rw[a];exact zr
  rw[zI a']
  exact congrArg some e
theorem ahb.look {h:Heap} {x dx C:Addr} {mA:Str->Option Value} (I:ahb h x dx C mA):∃ od,PySem.W.InstAt h x (PySem.W.instObj C dx) C (some od)/\∀ name,PySem.W.lookIn name od=some (mA name):=
 let ⟨od,ho,hl⟩:=Xo I.ns
 ⟨od,⟨I.obj,rfl,rfl,ho⟩,hl⟩
section
variable {prog:Program} {w:World} {A:Around} {E:VP_} {s:Shared} {K:FG_} {x dx C f:Addr} {mA:Str->Option Value} {name:Str} {v:Value}
end
theorem Fp.some_of {v:V} {o:Option Value} (r:Fp (some v) o):∃ u,o=some u/\RelV v u:=by
 cases o with
 |none=>exact (show False from r).elim
 |some u=>exact⟨u,rfl,r⟩
section
variable {P:Program} {w:World} {H H':Hp} {h h':Heap} {a C dx:Addr} {fs fs':List (Str×V)}
end
structure Cls (K:FG_) (C:Addr):Prop where
 pg:PySem.W.plainGet K C Str.empty=true
 hd:PySem.W.hasDictIn K C=true
 po:PySem.W.plainOver K C=true
 sa:PySem.W.findIn K (.ref C) "__setattr__" = some (some (.builtin "object.__setattr__"))
theorem Cls.get {K:FG_} {C:Addr} (c:Cls K C) (f:Str):PySem.W.plainGet K C f=true:=c.pg
section
variable {X:Cx} {pins:List (Addr×Obj)} {σ:St} {H:Hp} {s:Shared} {a C dx:Addr} {fs:List (Str×V)} {f:Str} {v:V} {A:Around} {E:VP_}
theorem ab7 {prog:Program} {w:World} {env:Env} {e:Expr} {f:Str} {pos:Pos} {s:Shared} {Q:VP_} (hb:attributeBase e f env (eval e env)=eval e env)
  (h:wpAny (model prog w) A (eval e env) (fun o s₁=>wpAny (model prog w) A (getAttr o f true) Q E s₁) E s):wpAny (model prog w) A (eval (.Attribute e f pos) env) Q E s:=
 Attribute_any_ h (by rw[arm_eval_Attribute,hb])
end
section
variable {X:Cx} {o e value:Expr} {f:Str} {pos pos' tpos:Pos} {ta tv:TE}
end
section
variable {X:Cx} {pins:List (Addr×Obj)} {σ:St} {H:Hp} {s:Shared} {A:Around} {E:VP_} {Q:VP_} {c:Value} {b:Bool}
end
end L2
namespace L2
open PySem PySem.Spec PyProof.Rows
structure lR (k:Nat) (A:Around):Prop where
 hd:A.handled=none
 dp:A.depth+3 * k+5 < recursionLimit
 un:A.units+16 * k+200 < cLine
theorem lR.mono {j k:Nat} {A:Around} (r:lR k A) (h:j<=k):lR j A:=⟨r.hd,by have:=r.dp;omega,by have:=r.un;omega⟩
theorem lR.deeper {k:Nat} {A:Around} (r:lR (k+1) A) (env:Env):lR k (A.deeper env):=
 ⟨r.hd,by have:=r.dp;show A.depth+1+3 * k+5 < _;omega,by have:=r.un;show A.units+3+16 * k+200 < _;omega⟩
theorem lR.in1 {k:Nat} {A:Around} (r:lR (k+1) A):lR k A.in1:=
 ⟨r.hd,by have:=r.dp;show A.depth+3 * k+5 < _;omega,by have:=r.un;show A.units+1+16 * k+200 < _;omega⟩
theorem T7 {A:Around} {C:Addr} {us:List Value} {kw:List (Str×Value)}:(A.under (.builtin "type.__call__" ⟨.ref C::us,kw⟩)).depth=A.depth+1:=by
 first|rfl|simp[Around.under,Code.weight,Code.isCreation,Code.isGuard,Code.isCaller,Code.frames,Code.isFrame,guardIds]
theorem T8 {A:Around} {C:Addr} {us:List Value} {kw:List (Str×Value)}:(A.under (.builtin "type.__call__" ⟨.ref C::us,kw⟩)).units=A.units+1:=by
 first|rfl|simp[Around.under,Code.cUnits,Code.frames,Code.isFrame]
theorem lR.make {k:Nat} {A:Around} (r:lR (k+1) A) (C:Addr) (us:List Value) (kw:List (Str×Value)):lR k (A.under (.builtin "type.__call__" ⟨.ref C::us,kw⟩)):=
 ⟨r.hd,by have:=r.dp;rw[T7];omega,by have:=r.un;rw[T8];omega⟩
theorem lR.depth {k:Nat} {A:Around} (r:lR k A):A.depth < recursionLimit:=by have:=r.dp;omega
theorem lR.units {k:Nat} {A:Around} (r:lR k A):A.units+64 < cLine:=by have:=r.un;omega
def ab8:TA:=fun _ H Q=>Q [] H
def QH (ta:TE) (tr:TA):TA:=fun σ H Q=>ta σ H fun x H1=>tr σ H1 fun xs H2=>Q (x::xs) H2
section
variable {X:Cx} {e:Expr} {es:List Expr} {te:TE} {t:TA} {pos:Pos}
theorem tH:PA X [] ab8:=fun _ _ _ _ H Q I h=>Calls.spliced_nil ⟨[],H,I,.nil,h⟩
theorem jY (ha:PE X e te) (hr:PA X es t) (hs:starEach (e::es) X.env=(false,eval e X.env)::starEach es X.env:=by rfl):PA X (e::es) (QH te t):=by
 intro pos pins s σ H Q I h
 rw[hs]
 show wpAny _ _ (spliced ((false,eval e X.env)::backTo pos (starEach es X.env))) _ _ s
 refine Calls.spliced_cons (lH (ha pins s σ H _ I h) fun u s1 ⟨x,H1,I1,r1,q1⟩=>?_)
 exact lH (hr pos pins s1 σ H1 _ I1 q1) fun us s2 ⟨xs,H2,I2,r2,q2⟩=>⟨x::xs,H2,I2,.cons r1 r2,q2⟩
def ajY (t:TA):TE:=fun σ H Q=>t σ H fun xs H1=>xs.length<=sizeLine/\∀ p,H1 p=none->Q (.ref p) (upd H1 p (.tup xs))
def ajZ (t:TA):TE:=fun σ H Q=>t σ H fun xs H1=>xs.length<=sizeLine/\∀ p,H1 p=none->Q (.ref p) (upd H1 p (.lst xs))
theorem ae5 {x1} (h:PA X es t):PE X (.Tuple es x1 pos) (ajY t):=by
 intro pins s σ H Q I hq
 refine wpAny_Tuple_spliced (lH (h pos pins s σ H _ I hq) fun us s1 ⟨xs,H1,I1,r,z,q⟩=>⟨by rw[<-r.length];exact z,?_⟩)
 have hf:H1 s1.heap.objs.size=none:=I1.hok.fresh (zl _)
 refine⟨.ref s1.heap.objs.size,upd H1 s1.heap.objs.size (.tup xs),I1.laid (t':=s1.toks) (fun b u e=>zd _ e) (zl _) ?_,rfl,q _ hf⟩
 exact⟨z,us,r,⟨_,zS _ rfl,rfl,⟨_,rfl⟩,rfl⟩⟩
theorem ae6 (h:PA X es t):PE X (.List es pos) (ajZ t):=by
 intro pins s σ H Q I hq
 refine wpAny_List_spliced (lH (h pos pins s σ H _ I hq) fun us s1 ⟨xs,H1,I1,r,z,q⟩=>⟨by rw[<-r.length];exact z,?_⟩)
 have hf:H1 s1.heap.objs.size=none:=I1.hok.fresh (zl _)
 refine⟨.ref s1.heap.objs.size,upd H1 s1.heap.objs.size (.lst xs),I1.laid (t':=s1.toks) (fun b u e=>zd _ e) (zl _) ?_,rfl,q _ hf⟩
 exact⟨z,us,0,r,zS _ rfl⟩
end
abbrev Sp:=List V->Hp->VK->XK->Prop
abbrev TQ:=List Env->Hp->Shared->XK->Value->Shared->Prop
structure Mu (P:Program) (w:World) (K:FG_) (mg:Str->Option Value) (base:Heap) (A:Around) (outer:List Env) (s:Shared) (H:Hp):Prop where
 frames:A.frames=some outer
 mod:Mod K mg base
 bs:∀ b o,base.get? b=some o->s.heap.get? b=some o/\H b=none
 YZ:base.objs.size<=s.heap.objs.size
 Bl:s.heap.FunFrames base outer
 frf:∀ b∈frs outer,H b=none
 hok:yN P w H s.heap
 bare:AllBare s.gens
def CE (outer:List Env) (P:Program) (w:World) (H:Hp) (s:Shared) (Q:VK) (u:Value) (s':Shared):Prop:=
 ∃ v H',s'.os=s.os/\AllBare s'.gens/\Un (frs outer) [] H H' s.heap s'.heap/\yN P w H' s'.heap/\RelV v u/\Q v H'
def CR (CX:TQ) (outer:List Env) (P:Program) (w:World) (H:Hp) (s:Shared) (Q:VK) (E:XK) (r:Result) (s':Shared):Prop:=
 match r with
 |.ok (.ret u)=>CE outer P w H s Q u s'
 |.ok _=>False
 |.error e=>CX outer H s E e s'
structure bx (P:Program) (w:World) (K:FG_) (mg:Str->Option Value) (base:Heap) (CX:TQ) (k:Nat) (f:Addr) (fd:FuncData) (ps:LS_) (sp:Sp):Prop where
 len:∀ vs H Q E,sp vs H Q E->vs.length=ps.length
 run:∀ (A:Around) (outer:List Env) (s:Shared) (H:Hp) (args:Args) (us:List Value) (vs:List V) (Q:VK) (E:XK),lR k A->Mu P w K mg base A outer s H->BindsTo s fd args (ps.zip us)->Vals vs us->sp vs H Q E →
  codeAny (model P w) A (.call (.ref f) args) (CR CX outer P w H s Q E) s
theorem bx.mono {P:Program} {w:World} {K:FG_} {mg:Str->Option Value} {base:Heap} {CX:TQ} {j k:Nat} {f:Addr} {fd:FuncData} {ps:LS_} {sp:Sp} (F:bx P w K mg base CX j f fd ps sp) (h:j<=k) :
  bx P w K mg base CX k f fd ps sp:=⟨F.len,fun A outer s H args us vs Q E hr=>F.run A outer s H args us vs Q E (hr.mono h)⟩
theorem bx.imp {P:Program} {w:World} {K:FG_} {mg:Str->Option Value} {base:Heap} {CX:TQ} {k:Nat} {f:Addr} {fd:FuncData} {ps:LS_} {sp sp':Sp} (F:bx P w K mg base CX k f fd ps sp)
  (h:∀ vs H Q E,sp' vs H Q E->sp vs H Q E):bx P w K mg base CX k f fd ps sp':=
 ⟨fun vs H Q E q=>F.len vs H Q E (h _ _ _ _ q),fun A outer s H args us vs Q E hr he hb hv hs=>F.run A outer s H args us vs Q E hr he hb hv (h _ _ _ _ hs)⟩
theorem Mu.make {P:Program} {w:World} {K:FG_} {mg:Str->Option Value} {base:Heap} {A:Around} {outer:List Env} {s:Shared} {H:Hp} (e:Mu P w K mg base A outer s H) (C:Addr) (us:List Value) (kw:List (Str×Value)) :
  Mu P w K mg base (A.under (.builtin "type.__call__" ⟨.ref C::us,kw⟩)) outer s H:=⟨by first|exact e.frames|(simpa [Around.under,Code.envs,Code.isFrame,pushEnvs] using e.frames),e.mod,e.bs,e.YZ,e.Bl,e.frf,e.hok,e.bare⟩
theorem Mu.in1 {P:Program} {w:World} {K:FG_} {mg:Str->Option Value} {base:Heap} {A:Around} {outer:List Env} {s:Shared} {H:Hp} (e:Mu P w K mg base A outer s H) :
  Mu P w K mg base A.in1 outer s H:=⟨e.frames,e.mod,e.bs,e.YZ,e.Bl,e.frf,e.hok,e.bare⟩
section
variable {X:Cx} {pins:List (Addr×Obj)} {σ:St} {H:Hp} {s s':Shared}
theorem Inv.env0 (I:Inv X pins σ H s):Mu X.prog X.w X.K X.mg X.base X.A X.stack s H:=
 ⟨I.ok.frames,I.ok.mod,I.bs,zz I.ok.YZ I.sz,I.stack,I.IK,I.hok,I.bare⟩
theorem Inv.after {Q:VK} {u:Value} (I:Inv X pins σ H s) (h:CE X.stack X.prog X.w H s Q u s'):EP X pins σ Q u s':=by
 obtain⟨v,H',os,bare,un,hok,r,q⟩:=h
 obtain⟨hh,g,d,t,os'⟩:=s'
 obtain rfl:os'=s.os:=os
 exact⟨v,H',I.call (h':=hh) (g':=g) (d':=d) (t':=t) (ch:=[]) un hok bare (fun b z=>absurd z (by simp)),r,q⟩
end
def ahd (sp:Sp) (dvs:List V) (E:XK) (t:TA):TE:=fun σ H Q=>t σ H fun vs H1=>sp (vs++dvs) H1 Q E
def Binds (K:FG_) (fd:FuncData) (ps:LS_) (ds:List Value):Prop:=
 ∀ (s:Shared) (us:List Value),K.In s.heap->(us++ds).length=ps.length->BindsTo s fd ⟨us,[]⟩ (ps.zip (us++ds))
theorem Binds.all {K:FG_} {fd:FuncData} {ps:LS_} (h:∀ us:List Value,us.length=ps.length->bindArgs fd ⟨us,[]⟩=pure (ps.zip us)):Binds K fd ps []:=fun s us _ hl=>by
 rw[QO] at hl ⊢
 exact .of_eq (h us hl)
def Passes (CX:TQ) (X:Cx) (E:XK):Prop:=∀ (pins:List (Addr×Obj)) (σ:St) (H:Hp) (s:Shared) (e:Value) (s':Shared),Inv X pins σ H s->CX X.stack H s E e s'->X.xe e s'
section
variable {X:Cx} {CX:TQ} {k:Nat} {f C:Addr} {fd:FuncData} {ps:LS_} {sp:Sp} {dvs:List V} {ds:List Value} {E:XK} {x m:Str} {p pos apos:Pos} {e o:Expr} {es:List Expr} {ta:TE} {t:TA}
theorem ae7 {pins:List (Addr×Obj)} {σ:St} {H:Hp} {s:Shared} {Q:VK} {us:List Value} {vs:List V} (F:bx X.prog X.w X.K X.mg X.base CX k f fd ps sp) (hr:lR k X.A) (hb:Binds X.K fd ps ds) (hd:Vals dvs ds) (hx:Passes CX X E)
  (I:Inv X pins σ H s) (r:Vals vs us) (h:sp (vs++dvs) H Q E):wpAny (model X.prog X.w) X.A (call (.ref f) us) (EP X pins σ Q) X.xe s:=by
 have r2:Vals (vs++dvs) (us++ds):=r.append hd
 have hl:(us++ds).length=ps.length:=by rw[<-r2.length];exact F.len _ _ _ _ h
 refine wpAny_call (kL (F.run X.A X.stack s H ⟨us,[]⟩ (us++ds) (vs++dvs) Q E hr I.env0 (hb s us I.Qz hl) r2 h) fun r s' hq=>?_)
 cases r with
 |error e=>exact hx pins σ H s e s' I hq
 |ok fl=>
  cases fl with
  |ret u=>exact I.after hq
  |next=>exact False.elim hq
  |brk=>exact False.elim hq
  |cont=>exact False.elim hq
theorem ab9 (F:bx X.prog X.w X.K X.mg X.base CX k f fd ps sp) (hr:lR k X.A) (hg:Gl X x) (hm:X.mg x=some (.ref f)) (hk:PySem.W.keepIn X.K (.ref f)=true) (hb:Binds X.K fd ps ds) (hd:Vals dvs ds) (hx:Passes CX X E)
  (ha:PA X (e::es) t) (hdb:(x==("__debug__" : Str))=false:=by decide) (he:starEach (e::es) X.env=(false,eval e X.env)::starEach es X.env:=by rfl) (hpl:(backTo pos (starEach es X.env)).any (·.1)=false:=by rfl) :
  PE X (.Call (.Name x p) (e::es) [] pos) (ahd sp dvs E t):=by
 intro pins s σ H Q I h
 refine jv (Dc I hg hm ?_ hdb)
 refine PySem.W.callWith_K (h₀:=X.base) I.ok.mod.kin hk (lH (ha pos pins s σ H _ I h) fun us s1 ⟨vs,H1,I1,r,q⟩=>⟨I1.Qz,?_⟩) he hpl
 exact ae7 F hr hb hd hx I1 r q
end
section
variable {X:Cx} {CX:TQ} {k:Nat} {f C:Addr} {fd:FuncData} {ps ks:LS_} {sp:Sp} {E:XK} {x m:Str} {p pos apos kpos:Pos} {e o:Expr} {es:List Expr} {kws:List Keyword} {te ta:TE} {t tk:TA} {nm:Option Str}
variable {g:List Value->List Value->List Value} {gV:List V->List V->List V}
end
structure bD (N P:LS_) (sc:Scope):Prop where
 kind:sc.kind=.function
 co:sc.isCoroutine=false
 gen:sc.isGenerator=false
 nd:N.Nodup
 pre:N.take P.length=P
 par:∀ x∈P,sc.names.lookup x=some .local\/sc.names.lookup x=some .cell
 ae8:∀ y∈sc.names,y.2≠.free
theorem M9 {kindOf:Str->Option NameKind} {x:Str}:∀ {binds:List (Str×Value)} {m:Str->Option Value},(∀ v,(x,v)∉binds)->bindL kindOf binds m x=m x
 |[],_,_=>rfl
 |(n,v)::r,m,h=>by
  unfold bindL
  rw[M9 fun w hw=>h w (zo _ hw)]
  split
  ·have:x≠n:=by rintro rfl;exact h v zi
   simp[this]
  ·rfl
theorem Nb {kindOf:Str->Option NameKind} {x:Str}:∀ {binds:List (Str×Value)} {m:Str->Option Value},(∀ v,(x,v)∉binds)->bindC kindOf binds m x=m x
 |[],_,_=>rfl
 |(n,v)::r,m,h=>by
  unfold bindC
  rw[Nb fun w hw=>h w (zo _ hw)]
  split
  ·rfl
  ·have:x≠n:=by rintro rfl;exact h v zi
   simp[this]
theorem Nf {kindOf:Str->Option NameKind} {x:Str} {v:Value}:∀ {P:LS_} {vs:List Value} {i:Nat} {m:Str->Option Value},P.Nodup->P[i]?=some x->vs[i]?=some v->kindOf x=some .local →
  bindL kindOf (P.zip vs) m x=some v
 |[],_,_,_,_,h,_,_=>by simp at h
 |_::_,[],_,_,_,_,h,_=>by simp at h
 |p::P,w::vs,0,m,nd,h1,h2,hk=>by
  simp at h1 h2;subst h1;subst h2
  show bindL kindOf ((p,w)::P.zip vs) m p=_
  unfold bindL
  rw[M9 fun v hv=>(List.nodup_cons.mp nd).1 (List.of_mem_zip hv).1,zk hk]
  simp
 |p::P,w::vs,i+1,m,nd,h1,h2,hk=>by
  show bindL kindOf ((p,w)::P.zip vs) m x=_
  unfold bindL
  exact Nf (i:=i) (List.nodup_cons.mp nd).2 (by simpa using h1) (by simpa using h2) hk
theorem Ng {kindOf:Str->Option NameKind} {x:Str} {v:Value}:∀ {P:LS_} {vs:List Value} {i:Nat} {m:Str->Option Value},P.Nodup->P[i]?=some x->vs[i]?=some v->kindOf x≠some .local →
  bindC kindOf (P.zip vs) m x=some v
 |[],_,_,_,_,h,_,_=>by simp at h
 |_::_,[],_,_,_,_,h,_=>by simp at h
 |p::P,w::vs,0,m,nd,h1,h2,hk=>by
  simp at h1 h2;subst h1;subst h2
  show bindC kindOf ((p,w)::P.zip vs) m p=_
  unfold bindC
  rw[Nb fun v hv=>(List.nodup_cons.mp nd).1 (List.of_mem_zip hv).1,zI hk]
  simp
 |p::P,w::vs,i+1,m,nd,h1,h2,hk=>by
  show bindC kindOf ((p,w)::P.zip vs) m x=_
  unfold bindC
  exact Ng (i:=i) (List.nodup_cons.mp nd).2 (by simpa using h1) (by simpa using h2) hk
def start (N:LS_) (vs:List V):St:=vs.map some++List.replicate (N.length - vs.length) none
def BR (CX:TQ) (P:Program) (w:World) (K:FG_) (mg:Str->Option Value) (base:Heap) (N:LS_) (qual:Str) (scope:Scope) (f:Addr) (cd:Value) (A:Around) (outer:List Env) (s:Shared) (H:Hp) (E:XK):Cx where
 prog:=P
 w:=w
 K:=K
 mg:=mg
 base:=base
 A:=A.deeper (envOfC qual scope s.heap.objs.size f cd)
 N:=N
 s₀:=s
 H₀:=H
 env:=envOfC qual scope s.heap.objs.size f cd
 outer:=outer
 stack:=envOfC qual scope s.heap.objs.size f cd::outer
 ex:=[]
 calm:=true
 fn:=fun _=>true
 pn:=[]
 xe:=fun e s'=>wpAny (model P w) (A.deeper (envOfC qual scope s.heap.objs.size f cd)) (leaving (envOfC qual scope s.heap.objs.size f cd) e) (fun _ s''=>CX outer H s E e s'') (fun e' s''=>CX outer H s E e' s'') s'
theorem QK {sc:Scope} {n:Nat} {x:Str} (h:sc.names.lookup x=some .cell):∃ c,(cellsFrom n sc.names []).lookup x=some c:=by
 have q:=PySem.W.cellsFrom_some sc.names n [] (.inl h)
 exact Option.isSome_iff_exists.mp q
theorem Xp {CX:TQ} {P:Program} {w:World} {K:FG_} {mg:Str->Option Value} {base:Heap} {N ps:LS_} {qual:Str} {scope:Scope} {f:Addr} {cd:Value} {A:Around} {outer:List Env} {s s1:Shared} {H:Hp} {E:XK} {us:List Value} {vs:List V}
  (S:bD N ps scope) (hd:A.handled=none) (e0:Mu P w K mg base A outer s H) (hl:vs.length=ps.length) (r:Vals vs us)
  (x:InCallC s s.heap.objs.size (bindL (envOfC qual scope s.heap.objs.size f cd).kindOf (ps.zip us) fun _=>none) (cellsFrom (s.heap.objs.size+1) scope.names []) (bindC (envOfC qual scope s.heap.objs.size f cd).kindOf (ps.zip us) fun _=>none) s1) :
  Inv (BR CX P w K mg base N qual scope f cd A outer s H E) [] (start N vs) H s1:=by
 have hpl:ps.length<=N.length:=by have:=congrArg List.length S.pre;rw[JU] at this;omega
 obtain⟨h1,tk,rfl,hk⟩:=x.done
 have noA:∀ b:Addr,b∉(BR CX P w K mg base N qual scope f cd A outer s H E).ex:=fun b z=>absurd (show b∈([]:List Addr) from z) (by simp)
 refine⟨⟨e0.mod,S.kind,rfl,rfl,zl _,fun y z c h1 h2=>?_,fun y hy=>?_,fun y c _ h=>?_,fun _=>hd,Around.frames_deeper e0.frames,.inr ⟨rfl,rfl⟩,fun b z=>absurd z (noA b),e0.bs,e0.YZ,fun b _ _=>noA b,fun b z=>absurd z (noA b),e0.Bl,e0.frf⟩,
  rfl,e0.bare,Un.kept hk,⟨_,x.toInCall.ns,fun i y v h1 h2 h3=>?_⟩,fun y c h=>⟨_,x.cell y c h⟩,e0.hok.fresh (zl _),fun y c h=>?_,fun p hp=>absurd (show p∈([]:List (Addr×Obj)) from hp) (by simp),e0.hok.kept hk,?_⟩
 ·exact name_of_addr x.apart (Q4 h1) (Q4 h2)
 ·have hy:scope.names.lookup y=some .cell\/scope.names.lookup y=some .free:=hy
  rcases hy with hy|hy
  ·exact QK hy
  ·exact absurd rfl (S.ae8 _ (Q4 hy))
 ·exact Q1 (x.above y c (Q4 h))
 ·have hi:i < vs.length:=by
   unfold start at h2
   by_cases hi:i < vs.length
   ·exact hi
   ·rw[qE (by simpa using hi)] at h2
    rw[QI] at h2
    split at h2<;>cases h2
  have ha:vs[i]?=some v:=by
   unfold start at h2
   rw[qa (by simpa using hi),ZZ] at h2
   cases e:vs[i]? with
   |none=>rw[e] at h2;cases h2
   |some a=>rw[e] at h2;cases h2;rfl
  obtain⟨u,hu,rv⟩:=r.get ha
  have hp:ps[i]?=some y:=by
   rw[<-S.pre,List.getElem?_take_of_lt (by omega)];exact h1
  have ndP:ps.Nodup:=by rw[<-S.pre];exact S.nd.sublist (List.take_sublist _ _)
  refine⟨u,rv,?_⟩
  rcases S.par y (ky hp) with k|k
  ·exact .inl ⟨k,Nf ndP hp hu k⟩
  ·obtain⟨c,e⟩:=QK (n:=s.heap.objs.size+1) k
   refine .inr ⟨.inl k,c,e,?_⟩
   have q:=x.cell y c e
   rw[Ng ndP hp hu (by show scope.names.lookup y≠_;rw[k];decide)] at q
   exact q
 ·exact e0.hok.fresh (Q1 (x.above y c (Q4 h)))
 ·unfold start
  show _=N.length
  rw[zw,zh,List.length_replicate]
  omega
theorem ad6 {CX:TQ} {P:Program} {w:World} {K:FG_} {mg:Str->Option Value} {base:Heap} {k:Nat} {f:Addr} {name qual:Str} {params:Arguments} {body:List Stmt} {scope:Scope} {dV kV doc pm cdv ct oc:Value} {an od:Option Addr}
  {osl:Array (Option Value)} {N ps:LS_} {sp:Sp} (lk:K.lookup f=some ⟨oc,od,.func (PySem.W.fnOf name qual params body scope dV kV doc pm an cdv ct),osl⟩) (hcd:PySem.W.codeIn K cdv qual=true) (S:bD N ps scope)
  (len:∀ vs H Q E,sp vs H Q E->vs.length=ps.length)
  (hbody:∀ (A:Around) (outer:List Env) (s:Shared) (H:Hp) (vs:List V) (Q:VK) (E:XK),lR k (A.deeper (envOfC qual scope s.heap.objs.size f cdv))->sp vs H Q E →
   ∃ t,CT (BR CX P w K mg base N qual scope f cdv A outer s H E) body t/\t { nx:=fun _ H'=>Q .non H',rt:=Q } (start N vs) H) :
  bx P w K mg base CX (k+1) f (PySem.W.fnOf name qual params body scope dV kV doc pm an cdv ct) ps sp:=by
 refine⟨len,fun A outer s H args us vs Q E hr e0 hb r hsp=>?_⟩
 have hl:=len _ _ _ _ hsp
 have KX:K.In s.heap:=e0.mod.kin.keeps fun b o e=>(e0.bs b o e).1
 have lim:s.heap.NoLimit:=e0.mod.nolimit.keeps fun b o e=>(e0.bs b o e).1
 have hkind:∀ y∈ps.zip us,scope.names.lookup y.1=some .local\/(scope.names.lookup y.1=some .cell/\((cellsFrom (s.heap.objs.size+1) scope.names []).lookup y.1).isSome=true):=fun ⟨n,v⟩ hy=>by
  rcases S.par n (List.of_mem_zip hy).1 with q|q
  ·exact .inl q
  ·exact .inr ⟨q,PySem.W.cellsFrom_some _ _ _ (.inl q)⟩
 refine codeAny_call_function hr.depth (KX _ _ lk) rfl S.co S.gen rfl (PySem.W.codeRec_of KX hcd) (hb _ _ _ _ ?_)
 refine wpAny_newFunctionEnv_cells S.kind hkind fun env he s1 x=>?_
 subst he
 refine⟨lim.keeps x.toInCall.keep,codeAny_func ?_⟩
 obtain⟨t,ht,hq⟩:=hbody A outer s H vs Q E (hr.deeper _) hsp
 have I:Inv (BR CX P w K mg base N qual scope f cdv A outer s H E) [] (start N vs) H s1:=Xp S hr.hd e0 hl r x
 refine ZA (ht [] s1 (start N vs) H _ I hq) (fun fl s' hs=>?_) fun e s' hs=>hs
 have fin:∀ {σ':St} {H':Hp} {v:V} {u:Value},Inv (BR CX P w K mg base N qual scope f cdv A outer s H E) [] σ' H' s'->RelV v u->Q v H'->CE outer P w H s Q u s':=
  fun {σ' H' v u} J rv q=>⟨v,H',J.os,J.bare,J.base,J.hok,rv,q⟩
 cases fl with
 |ret u=>
  obtain⟨v,σ',H',J,rv,q⟩:=hs
  exact fin J rv q
 |next=>
  obtain⟨σ',H',J,q⟩:=hs
  exact fin (v:=V.non) (u:=Value.none) J rfl q
 |brk=>
  obtain⟨_,_,_,q⟩:=hs
  exact False.elim q
 |cont=>
  obtain⟨_,_,_,q⟩:=hs
  exact False.elim q
end L2
namespace L2
open PySem PySem.Spec PyProof.Rows
section
variable {X:Cx} {x:Str} {p pos:Pos} {e:Expr} {es:List Expr} {t:TA} {id T:String} {r:List V->Hp->VK->Prop}
def tCB (r:List V->Hp->VK->Prop) (t:TA):TE:=fun σ H Q=>t σ H fun vs H1=>r vs H1 Q
theorem Dg (hc:jV X (.builtin id) r) (hg:Gl X x) (hm:X.mg x=none) (hv:bootBuiltins x=some (.builtin id)) (ha:PA X (e::es) t) (hn:x ≠ "__name__" := by decide) (hdb:(x==("__debug__" : Str))=false:=by decide)
  (he:starEach (e::es) X.env=(false,eval e X.env)::starEach es X.env:=by rfl) (hpl:(backTo pos (starEach es X.env)).any (·.1)=false:=by rfl):PE X (.Call (.Name x p) (e::es) [] pos) (tCB r t):=by
 intro pins s σ H Q I h
 refine jv (Fq I hg hm hv ?_ hn hdb)
 exact PyProof.Rows.callWith_builtin1 (lH (ha pos pins s σ H _ I h) fun us s1 ⟨vs,H1,I1,r1,q1⟩=>hc pins s1 σ H1 vs us Q I1 r1 q1) he hpl
theorem Xq (hc:jV X (.type T) r) (hg:Gl X x) (hm:X.mg x=none) (hv:bootBuiltins x=some (.type T)) (ha:PA X (e::es) t) (hn:x ≠ "__name__" := by decide) (hdb:(x==("__debug__" : Str))=false:=by decide)
  (he:starEach (e::es) X.env=(false,eval e X.env)::starEach es X.env:=by rfl) (hpl:(backTo pos (starEach es X.env)).any (·.1)=false:=by rfl):PE X (.Call (.Name x p) (e::es) [] pos) (tCB r t):=by
 intro pins s σ H Q I h
 refine jv (Fq I hg hm hv ?_ hn hdb)
 exact PyProof.Rows.callWith_type1 (lH (ha pos pins s σ H _ I h) fun us s1 ⟨vs,H1,I1,r1,q1⟩=>hc pins s1 σ H1 vs us Q I1 r1 q1) he hpl
theorem T9 (hc:jV X (.type T) r) (hg:Gl X x) (hm:X.mg x=none) (hv:bootBuiltins x=some (.type T)) (hn:x ≠ "__name__" := by decide) (hdb:(x==("__debug__" : Str))=false:=by decide) :
  PE X (.Call (.Name x p) [] [] pos) (tCB r ab8):=by
 intro pins s σ H Q I h
 refine jv (Fq I hg hm hv ?_ hn hdb)
 exact PyProof.Rows.callWith_type0 (hc pins s σ H [] [] Q I .nil h)
end
end L2
namespace HT
open PySem PyProof.Rows
section
open PySem.SeqAt
open PySem.AutoSeq1 (wpAny_loadPart')
open PySem.MeetsSeq PySem.MeetsSeq2 PySem.MeetsSeq3
end
section
variable {prog:Program} {w:World} {A:Around} {E:VP_} {s:Shared}
theorem acd {t b:Addr} {vs ws:List Value} {Q:VP_} (ht:IsTup s.heap t vs.toArray) (hb:IsTup s.heap b ws.toArray) (hv:vs≠[])
  (h1:ws=[]->Q (.ref t) s) (h2:ws≠[]->Q (.ref s.heap.objs.size) { s with heap:=s.heap.push { cls:=.type "tuple", data:=.seq (vs++ws).toArray } })
  (hsz:vs.length+ws.length<=sizeLine):wpAny (model prog w) A (binaryOp .Add (.ref t) (.ref b)) Q E s:=by
 obtain⟨⟨cls,dd,data,sl⟩,ho,hc,n,hd⟩:=id ht
 obtain⟨⟨cls2,dd2,data2,sl2⟩,ho2,hc2,n2,hd2⟩:=id hb
 simp only at hc hd hc2 hd2
 subst hc hd hc2 hd2
 have e:vs.toArray++ws.toArray=(vs++ws).toArray:=by simp
 by_cases hw:ws=[]
 ·exact concat_meets ⟨_,ho,rfl⟩ ⟨_,ho2,rfl⟩ noFill_tuple_add seq_tuple_add PySem.F.slot_tuple_add KB (Kn _ _)
   (tuple_addW1 t b vs.toArray ws.toArray n n2 dd dd2 sl sl2 (by simpa using hv) (by simp[hw])) ⟨ho,ho2,h1 hw⟩
 ·refine concat_meets ⟨_,ho,rfl⟩ ⟨_,ho2,rfl⟩ noFill_tuple_add seq_tuple_add PySem.F.slot_tuple_add KB (Kn _ _)
   (tuple_addW2 t b vs.toArray ws.toArray n n2 dd dd2 sl sl2 (by simpa using hv) (by simpa using hw) (by rw[zv,zv];exact hsz)) ⟨ho,ho2,?_⟩
  rw[e]
  exact h2 hw
def lU (n d:Nat):Option Int->Nat
 |none=>d
 |some v=>if v < 0 then (v+(n:Int)).toNat else min v.toNat n
theorem QL (n d:Nat):lU n d none=d:=rfl
theorem Ja (n d k:Nat):lU n d (some (k:Int))=min k n:=by
 show (if (k:Int) < 0 then ((k:Int)+(n:Int)).toNat else min (k:Int).toNat n)=min k n
 rw[zI (by omega),Int.toNat_natCast]
theorem ae9 (n d:Nat) (hd:d<=n) (o:Option Int):lU n d o<=n:=by
 cases o with
 |none=>exact hd
 |some v=>
  show (if v < 0 then (v+(n:Int)).toNat else min v.toNat n)<=n
  by_cases hv:v < 0
  ·rw[zk hv];omega
  ·rw[zI hv];exact Nat.min_le_right _ _
theorem V1 (v:Int) (n d:Nat):(if v < 0 then max (v+(n:Int)) 0 else min v (n:Int))=((lU n d (some v):Nat):Int):=by
 show (if v < 0 then max (v+(n:Int)) 0 else min v (n:Int))=(((if v < 0 then (v+(n:Int)).toNat else min v.toNat n):Nat):Int)
 by_cases hv:v < 0
 ·simp only[zk hv];omega
 ·simp only[zI hv];omega
theorem Ua (lo hi:Option Int) (n:Nat):Builtin.Slice.sliceAdjust lo hi 1 (n:Int)=(((lU n 0 lo:Nat):Int),((lU n n hi:Nat):Int)):=by
 have h1:¬ ((1:Int) < 0):=by omega
 unfold Builtin.Slice.sliceAdjust
 simp only[h1,qA]
 refine Prod.ext ?_ ?_
 ·cases lo with
  |none=>rfl
  |some v=>exact V1 v n 0
 ·cases hi with
  |none=>rfl
  |some v=>exact V1 v n n
theorem Ub (i j:Nat):Builtin.Slice.slicePlaces (i:Int) (j:Int) 1=j - i:=by
 unfold Builtin.Slice.slicePlaces
 have h1:(1:Int) > 0:=by omega
 simp only[h1,QR,Int.ediv_one]
 split<;>omega
theorem Jv {v:Value} {o:Option Int} {Q:Option Int->Shared->Prop} (p:IsPart v o) (h:Q o s):wpAny (model prog w) A (Builtin.Slice.slicePartIndex v) Q E s:=by
 cases p with
 |none=>exact slicePart_none h
 |int i t=>exact slicePart_int h
theorem vJ {sl:Addr} {vl vu:Value} {lo hi:Option Int} {n:Nat} {Q:Int×Int×Nat->Shared->Prop} (hs:s.heap.IsSliceOf sl vl vu .none) (pl:IsPart vl lo) (pu:IsPart vu hi)
  (h:Q (((lU n 0 lo:Nat):Int),1,lU n n hi - lU n 0 lo) s):wpAny (model prog w) A (Builtin.Slice.sliceApplied (.ref sl) (pure (n:Int))) Q E s:=by
 obtain⟨os,hos,hcs,hds⟩:=id hs
 unfold Builtin.Slice.sliceApplied Builtin.Slice.sliceFields
 refine zb (zb (jn hos hds (x:=vl) rfl (zb (jn hos hds (x:=vu) rfl (zb (jn hos hds (x:=.none) rfl (ze ?_)))))))
 refine zb (slicePart_none ?_)
 show wpAny _ _ (if ((1:Int)==0)=true then _ else _) _ _ s
 rw[zI (by decide)]
 refine zb (Jv pl (zb (Jv pu (zb (ze ?_)))))
 show wpAny _ _ (match Builtin.Slice.sliceAdjust lo hi 1 (n:Int) with|(lo,hi)=>pure (lo,(1:Int),Builtin.Slice.slicePlaces lo hi 1)) _ _ s
 rw[Ua lo hi n]
 show wpAny _ _ (pure (((lU n 0 lo:Nat):Int),(1:Int),Builtin.Slice.slicePlaces ((lU n 0 lo:Nat):Int) ((lU n n hi:Nat):Int) 1)) _ _ s
 rw[Ub]
 exact ze h
theorem Zm (xs:Array Value) (i k:Nat):((List.range k).filterMap fun (m:Nat)=>xs[((i:Int)+(m:Int) * 1).toNat]?).toArray=((xs.toList.drop i).take k).toArray:=by
 have e:(fun (m:Nat)=>xs[((i:Int)+(m:Int) * 1).toNat]?)=fun m=>xs[i+m]?:=by
  funext m
  have:((i:Int)+(m:Int) * 1).toNat=i+m:=by omega
  rw[this]
 rw[e]
 have:=pick_run xs i k
 rw[List.filterMap_map] at this
 have e2:((fun x=>xs[x]?) ∘ fun x=>i+x)=fun m=>xs[i+m]?:=rfl
 rw[e2] at this
 rw[this]
theorem Dh {t sl:Addr} {items:Array Value} {vl vu:Value} {lo hi:Option Int} {Q:VP_} (ht:IsTup s.heap t items) (hs:s.heap.IsSliceOf sl vl vu .none) (pl:IsPart vl lo) (pu:IsPart vu hi)
  (hw:¬ (lU items.size 0 lo=0/\lU items.size items.size hi=items.size))
  (h:Q (.ref s.heap.objs.size) { s with heap:=s.heap.push { cls:=.type "tuple", data:=.seq ((items.toList.drop (lU items.size 0 lo)).take (lU items.size items.size hi - lU items.size 0 lo)).toArray } })
  (hsz:items.size<=sizeLine):wpAny (model prog w) A (getItem (.ref t) (.ref sl)) Q E s:=by
 have V2:sizeOk (.seq ((items.toList.drop (lU items.size 0 lo)).take (lU items.size items.size hi - lU items.size 0 lo)).toArray):=by
  show ((items.toList.drop (lU items.size 0 lo)).take (lU items.size items.size hi - lU items.size 0 lo)).toArray.size<=sizeLine
  rw[zv,JU,qq,qc]
  omega
 have hj:lU items.size items.size hi<=items.size:=ae9 _ _ (zl _) hi
 obtain⟨os,hos,hcs,hds⟩:=id hs
 have hTs:s.TypeIs (.ref sl) "slice" := ⟨os,hos,hcs⟩
 unfold getItem
 try with_reducible refine qi ?_
 first|refine zb (ze ?_)|skip
 refine zb (wpAny_sequenceKey ht.typeIs (by decide) ?_)
 refine zb (wpAny_callSpecial?_slot (name:=Str.ofString "__getitem__") ht.typeIs PyProof.Rows.slot_tuple_getitem
  (Kt PyProof.Rows.slot_tuple_getitem ht.typeIs entry_tuple_getitem ?_ (args_tuple_getitem _ _)))
 show wpAny _ _ (Builtin.Tuple.tupleItemsOf (.ref t) >>= _) _ _ s
 refine zb (tupleItemsOf_ ht ?_)
 refine zb (JS hTs ?_)
 rw[zk (by decide)]
 refine zb (vJ hs pl pu ?_)
 have hno:¬ ((((lU items.size 0 lo:Nat):Int)==0&&(1:Int)==1&&(lU items.size items.size hi - lU items.size 0 lo)==items.size)=true):=by
  intro q
  rw[ZN,ZN] at q
  have q1:((lU items.size 0 lo:Nat):Int)=0:=eq_of_beq q.1.1
  have q2:lU items.size items.size hi - lU items.size 0 lo=items.size:=eq_of_beq q.2
  exact hw ⟨by omega,by omega⟩
 show wpAny _ _ (if (((lU items.size 0 lo:Nat):Int)==0&&(1:Int)==1&&(lU items.size items.size hi - lU items.size 0 lo)==items.size)=true then _ else _) _ _ s
 rw[zI hno,Zm]
 first
  |exact zb (m:=Builtin.Tuple.tupleExact _) (Q2 (ze ⟨_,rfl,ze h⟩) V2)
  |exact zb (m:=Builtin.Tuple.tupleExact _) (Q2 (zb (ze (ze ⟨_,rfl,ze h⟩))) V2)
  |exact zb (zb (m:=Builtin.Tuple.tupleExact _) (Q2 (ze (ze ⟨_,rfl,ze h⟩)) V2))
  |exact zb (zb (m:=Builtin.Tuple.tupleExact _) (Q2 (ze ⟨_,rfl,ze h⟩) V2))
end
end HT
namespace L2
open PySem PySem.Spec PyProof.Rows
abbrev TO:=St->Hp->(Option Int->Hp->Prop)->Prop
def PO (X:Cx) (e:Option Expr) (t:TO):Prop:=
 ∀ (pins:List (Addr×Obj)) (s:Shared) (σ:St) (H:Hp) (Q:Option Int->Hp->Prop),Inv X pins σ H s->t σ H Q →
  wpAny (model X.prog X.w) X.A (evalPart e X.env) (fun u s'=>∃ o H',Inv X pins σ H' s'/\IsPart u o/\Q o H') X.xe s
def ace:TO:=fun _ H Q=>Q none H
def ahf (t:TE):TO:=fun σ H Q=>t σ H fun x H1=>∃ i,x=.int i/\Q (some i) H1
theorem intsAre_of {ns:List Int}:∀ {us:List Value},Vals (ns.map V.int) us->IntsAre us ns:=by
 induction ns with
 |nil=>intro us r;rw[kM] at r;cases r;exact .nil
 |cons n ns ih=>
  intro us r
  rw[zg] at r
  cases r with
  |cons r1 r2=>
   obtain⟨t,e⟩:=r1
   subst e
   exact .cons n t (ih r2)
section
variable {X:Cx} {e:Expr} {te:TE} {lo hi:Option Expr} {tl th:TO} {pos p2:Pos}
theorem acf:PO X none ace:=by
 intro pins s σ H Q I h
 rw[evalPart_none]
 exact ze ⟨none,H,I,.none,h⟩
theorem acg (h:PE X e te):PO X (some e) (ahf te):=by
 intro pins s σ H Q I hw
 rw[evalPart_some]
 refine lH (h pins s σ H _ I hw) fun u s1 ⟨x,H1,I1,r1,q1⟩=>?_
 obtain⟨i,rfl,q⟩:=q1
 obtain⟨t,rfl⟩:=r1
 exact⟨some i,H1,I1,.int i t,q⟩
def SlR (X:Cx) (r:V->Option Int->Option Int->Hp->VK->Prop):Prop:=
 ∀ (pins:List (Addr×Obj)) (s:Shared) (σ:St) (H:Hp) (x:V) (v vl vu:Value) (lo hi:Option Int) (sl:Addr) (Q:VK),Inv X pins σ H s->RelV x v->s.heap.IsSliceOf sl vl vu .none->IsPart vl lo->IsPart vu hi->r x lo hi H Q →
  ∃ T id,typeLookup (.type T) "__getitem__" = pure (some (.builtin id))/\s.TypeIs v T/\wpAny (model X.prog X.w) X.A (getItem v (.ref sl)) (EP X pins σ Q) X.xe s
theorem SlR.or {r r':V->Option Int->Option Int->Hp->VK->Prop} (h:SlR X r) (h':SlR X r'):SlR X (fun x lo hi H Q=>r x lo hi H Q\/r' x lo hi H Q):=by
 intro pins s σ H x v vl vu lo hi sl Q I rx hs pl pu q
 rcases q with q|q
 ·exact h pins s σ H x v vl vu lo hi sl Q I rx hs pl pu q
 ·exact h' pins s σ H x v vl vu lo hi sl Q I rx hs pl pu q
def tSl (r:V->Option Int->Option Int->Hp->VK->Prop) (te:TE) (tl th:TO):TE:=fun σ H Q=>te σ H fun x H1=>tl σ H1 fun l H2=>th σ H2 fun u H3=>r x l u H3 Q
theorem Zo {r:V->Option Int->Option Int->Hp->VK->Prop} (hr:SlR X r) (he:PE X e te) (hl:PO X lo tl) (hu:PO X hi th):PE X (.Subscript e (.Slice lo hi none p2) pos) (tSl r te tl th):=by
 intro pins s σ H Q I h
 refine Subscript_ (lH (he pins s σ H _ I h) fun v s1 ⟨x,H1,I1,r1,q1⟩=>?_)
 refine wpAny_Slice (lH (hl pins s1 σ H1 _ I1 q1) fun vl s2 ⟨l,H2,I2,pl,q2⟩=>lH (hu pins s2 σ H2 _ I2 q2) fun vu s3 ⟨u,H3,I3,pu,q3⟩=>?_)
 rw[evalPart_none]
 refine ze ?_
 have I4:Inv X pins σ H3 { s3 with heap:=s3.heap.push { cls:=.type "slice", data:=.fields #[vl,vu,.none] } }:=I3.kept (t':=s3.toks) fun b ob q=>zd _ q
 obtain⟨T,id,hT,ht,hg⟩:=hr pins { s3 with heap:=s3.heap.push { cls:=.type "slice", data:=.fields #[vl,vu,.none] } } σ H3 x v vl vu l u s3.heap.objs.size Q I4 r1 (Heap.IsSliceOf.new ..) pl pu q3
 show wpAny (model X.prog X.w) X.A (subscriptTail e (.Slice lo hi none p2) v (.ref s3.heap.objs.size)) (EP X pins σ Q) X.xe { s3 with heap:=s3.heap.push { cls:=.type "slice", data:=.fields #[vl,vu,.none] } }
 exact tail_any (ops:=[.ref s3.heap.objs.size,v]) ht hT hg (by with_unfolding_all rfl)
def QM (xs:List V) (lo hi:Option Int):List V:=(xs.drop (HT.lU xs.length 0 lo)).take (HT.lU xs.length xs.length hi - HT.lU xs.length 0 lo)
theorem GZ (xs:List V) (lo hi:Option Int):(QM xs lo hi).length<=xs.length:=by
 unfold QM
 rw[JU,qq]
 omega
def aj0 (K:FG_):V->Option Int->Option Int->Hp->VK->Prop:=fun x lo hi H Q=>∃ a xs,x=.ref a/\Dd K H a xs ∧
 ¬ (HT.lU xs.length 0 lo=0/\HT.lU xs.length xs.length hi=xs.length)/\∀ p,H p=none->Q (.ref p) (upd H p (.tup (QM xs lo hi)))
theorem afa:SlR X (aj0 X.K):=by
 intro pins s σ H x v vl vu lo hi sl Q I rx hs pl pu h
 obtain⟨a,xs,rfl,hx,hw,q⟩:=h
 cases rx
 obtain⟨its,r,ht,hz⟩:=I.tuple hx
 have hlen:its.toArray.size=xs.length:=by rw[zv];exact r.length.symm
 refine⟨"tuple", _,PyProof.Rows.slot_tuple_getitem.lookup,ht.typeIs,?_⟩
 refine HT.Dh ht hs pl pu (by rw[hlen];exact hw) ?_ (by rw[hlen];exact hz)
 rw[hlen]
 refine⟨.ref s.heap.objs.size,_,I.laid (t':=s.toks) (o:=.tup (QM xs lo hi)) (fun b ob q=>zd _ q) (zl _) ?_,rfl,q _ (I.hok.fresh (zl _))⟩
 exact⟨zz (GZ xs lo hi) hz,_,(r.drop (HT.lU xs.length 0 lo)).take (HT.lU xs.length xs.length hi - HT.lU xs.length 0 lo),wR.new _ _⟩
def ahg (K:FG_):R2:=fun x y H Q=>∃ a b xs ys,x=.ref a/\y=.ref b/\Dd K H a xs/\Dd K H b ys/\xs≠[]/\xs.length+ys.length<=sizeLine ∧
 (ys=[]->Q (.ref a) H)/\(ys≠[]->∀ p,H p=none->Q (.ref p) (upd H p (.tup (xs++ys))))
theorem Vals.Jb {xs:List V} {us:List Value} (r:Vals xs us):us=[]↔xs=[]:=by
 cases r with
 |nil=>simp
 |cons _ _=>simp
theorem ach:yI X (binaryOp .Add) (ahg X.K):=by
 intro pins s σ H x y v u Q I rx ry h
 obtain⟨a,b,xs,ys,rfl,rfl,ha,hb,hx,hz,q1,q2⟩:=h
 cases rx
 cases ry
 obtain⟨its,r1,p1,_⟩:=I.tuple ha
 obtain⟨its2,r2,p2,_⟩:=I.tuple hb
 refine HT.acd p1 p2 (fun z=>hx (r1.Jb.mp z)) (fun z=>⟨.ref a,H,I,rfl,q1 (r2.Jb.mp z)⟩) (fun z=>?_) (by rw[<-r1.length,<-r2.length];exact hz)
 refine⟨.ref s.heap.objs.size,_,I.laid (t':=s.toks) (o:=.tup (xs++ys)) (fun b ob q=>zd _ q) (zl _) ?_,rfl,q2 (fun w=>z (r2.Jb.mpr w)) _ (I.hok.fresh (zl _))⟩
 exact⟨by rw[zw];exact hz,_,r1.append r2,wR.new _ _⟩
end
end L2
namespace L2
open PySem PySem.Spec PyProof.Rows
def ixN (n:Nat) (i:Int):Option Nat:=if 0<=i then (if i < n then some i.toNat else none) else if -(n:Int)<=i then some (i+n).toNat else none
def Mv {α:Type} (xs:List α) (i:Int):Option α:=(ixN xs.length i).bind fun j=>xs[j]?
theorem aci {n:Nat} {i:Int} {j:Nat} (h:ixN n i=some j):seqIndex? i n=some j/\j < n ∧ -(n:Int)<=i/\i < n:=by
 unfold ixN at h
 by_cases h0:0<=i
 ·rw[zk h0] at h
  by_cases h1:i < n
  ·rw[zk h1] at h
   have e:i.toNat=j:=QY h
   exact⟨by rw[seqIndex_of h0 h1,e],by omega,by omega,h1⟩
  ·rw[zI h1] at h;cases h
 ·rw[zI h0] at h
  by_cases h1 : -(n:Int)<=i
  ·rw[zk h1] at h
   have e:(i+n).toNat=j:=QY h
   exact⟨by rw[seqIndex_neg (by omega) h1,e],by omega,h1,by omega⟩
  ·rw[zI h1] at h;cases h
theorem Ot {α:Type} {xs:List α} {i:Int} {v:α} (h:Mv xs i=some v):∃ j,seqIndex? i xs.length=some j/\xs[j]?=some v/\j < xs.length ∧ -(xs.length:Int)<=i/\i < xs.length:=by
 unfold Mv at h
 cases e:ixN xs.length i with
 |none=>rw[e] at h;cases h
 |some j=>
  rw[e] at h
  obtain⟨h1,h2,h3,h4⟩:=aci e
  exact⟨j,h1,h,h2,h3,h4⟩
def V3 (b:Expr):Prop:=∀ o i,subscripted b false o i=operate [o,i] (getItem o i)
def IxR (X:Cx) (r:R2):Prop:=
 ∀ (value slice:Expr) (pins:List (Addr×Obj)) (s:Shared) (σ:St) (H:Hp) (x y:V) (v u:Value) (Q:VK),Inv X pins σ H s->RelV x v->RelV y u->r x y H Q →
  subscripted slice false v u=operate [v,u] (getItem v u)->wpAny (model X.prog X.w) X.A (subscriptTail value slice v u) (EP X pins σ Q) X.xe s
def MtR (X:Cx) (id:String) (r:V->List V->Hp->VK->Prop):Prop:=
 ∀ (pins:List (Addr×Obj)) (s:Shared) (σ:St) (H:Hp) (x:V) (xs:List V) (v:Value) (us:List Value) (Q:VK),Inv X pins σ H s->RelV x v->Vals xs us->r x xs H Q →
  wpAny (model X.prog X.w) X.A (call (.builtin id) (v::us)) (EP X pins σ Q) X.xe s
section
variable {X:Cx} {a b:Expr} {ta tb:TE} {pos:Pos}
theorem IxR.or {r r':R2} (h:IxR X r) (h':IxR X r'):IxR X (fun x y H Q=>r x y H Q\/r' x y H Q):=by
 intro value slice pins s σ H x y v u Q I rx ry q hs
 rcases q with q|q
 ·exact h value slice pins s σ H x y v u Q I rx ry q hs
 ·exact h' value slice pins s σ H x y v u Q I rx ry q hs
theorem MtR.or {id:String} {r r':V->List V->Hp->VK->Prop} (h:MtR X id r) (h':MtR X id r'):MtR X id (fun x xs H Q=>r x xs H Q\/r' x xs H Q):=by
 intro pins s σ H x xs v us Q I rx rs q
 rcases q with q|q
 ·exact h pins s σ H x xs v us Q I rx rs q
 ·exact h' pins s σ H x xs v us Q I rx rs q
theorem ahh {r:R2} (hr:IxR X r) (ha:PE X a ta) (hb:PE X b tb) (hs:V3 b):PE X (.Subscript a b pos) (tOp r ta tb):=by
 intro pins s σ H Q I h
 exact Subscript_ (aeV ha hb I h fun v u s2 x y H2 I2 rx ry q=>hr a b pins s2 σ H2 x y v u Q I2 rx ry q (hs _ _))
def ahi (K:FG_):R2:=fun x y H Q=>∃ p xs i v,x=.ref p/\y=.int i/\vH K H p xs/\Mv xs i=some v/\Q v H
def ahj (K:FG_):R2:=fun x y H Q=>∃ p xs i v,x=.ref p/\y=.int i/\Dd K H p xs/\Mv xs i=some v/\Q v H
def ahk:R2:=fun x y H Q=>∃ z i c,x=.str z/\y=.int i/\z.length<=sizeLine/\Mv z.cps.toList i=some c/\Q (.str ⟨#[c]⟩) H
theorem acn:IxR X (ahi X.K):=by
 intro value slice pins s σ H x y v u Q I rx ry h hs
 obtain⟨p,xs,i,z,rfl,rfl,hq,he,q⟩:=h
 cases rx
 obtain⟨t,rfl⟩:=ry
 obtain⟨its,r,pl,hz⟩:=I.list hq
 obtain⟨j,h1,h2,h3,h4,h5⟩:=Ot he
 obtain⟨w,ew,Y4⟩:=r.get h2
 have hl:=r.length
 have hn:=Fw
 have fin:EP X pins σ Q w s:=⟨z,H,I,Y4,q⟩
 by_cases h0:0<=i
 ·have hj:i.toNat=j:=by
   rw[seqIndex_of h0 h5] at h1
   exact QY h1
  exact item_listR pl.isList h0 (by omega) (by rw[hj];simpa using ew) fin hs
 ·have hj:(i+(its.toArray.size:Int)).toNat=j:=by
   rw[seqIndex_neg (by omega) h4] at h1
   rw[zv,<-hl]
   exact QY h1
  exact subscriptTail_builtinR (x:=w) pl.isList.typeIs slot_list_getitem.lookup
   (wpAny_getItem_list_neg (Q:=fun r s'=>r=w/\EP X pins σ Q r s') pl.isList (by omega) (by rw[zv]<;>omega) (by omega) (by rw[hj];simpa using ew) ⟨rfl,fin⟩) hs
theorem afb:IxR X (ahj X.K):=by
 intro value slice pins s σ H x y v u Q I rx ry h hs
 obtain⟨p,xs,i,z,rfl,rfl,hq,he,q⟩:=h
 cases rx
 obtain⟨t,rfl⟩:=ry
 obtain⟨its,r,pl,hz⟩:=I.tuple hq
 obtain⟨j,h1,h2,h3,h4,h5⟩:=Ot he
 obtain⟨w,ew,Y4⟩:=r.get h2
 have hl:=r.length
 have hn:=Fw
 have fin:EP X pins σ Q w s:=⟨z,H,I,Y4,q⟩
 exact subscriptTail_builtinR (x:=w) pl.typeIs slot_tuple_getitem.lookup
  (getItem_tuple (j:=j) (Q:=fun r s'=>r=w/\EP X pins σ Q r s') pl (by omega) (by omega) (by rw[zv,<-hl];exact h1) (by simpa using ew) ⟨rfl,fin⟩) hs
theorem afc:IxR X ahk:=by
 intro value slice pins s σ H x y v u Q I rx ry h hs
 obtain⟨z,i,c,rfl,rfl,hz,he,q⟩:=h
 obtain⟨t,rfl⟩:=rx
 obtain⟨t',rfl⟩:=ry
 obtain⟨j,h1,h2,h3,h4,h5⟩:=Ot he
 have hl:z.cps.toList.length=z.length:=by simp[Str.length]
 rw[hl] at h1 h4 h5
 have hn:=Fw
 exact tail_any (typeIs_str s z t) slot_str_getitem.lookup (getItem_str (c:=c) (by
  have e1:decide (i < -(2 ^ 63:Int))=false:=ZT (by omega)
  have e2:decide (i>=2 ^ 63)=false:=ZT (by omega)
  rw[e1,e2,Bool.or_false]) (by rw[h1];simpa using h2) ⟨.str ⟨#[c]⟩,H,I.tok _,⟨_,rfl⟩,q⟩) hs
def rIx (K:FG_):R2:=fun x y H Q=>ahi K x y H Q\/ahj K x y H Q\/ahk x y H Q
theorem afd:IxR X (rIx X.K):=acn.or (afb.or afc)
theorem Inv.lst {pins:List (Addr×Obj)} {σ:St} {H:Hp} {s:Shared} {p:Addr} {xs:List V} (I:Inv X pins σ H s) (h:H p=some (.lst xs)) :
  ∃ (its:List Value) (n:Nat),Vals xs its/\s.heap.get? p=some { cls:=.type "list", data:=.seq its.toArray n }/\xs.length<=sizeLine:=by
 obtain⟨z,its,n,r,e⟩:=I.hok p _ h
 exact⟨its,n,r,e,z⟩
theorem Ou (lo hi:Option Int) (n:Nat):(sliceBounds lo hi none n).1=((HT.lU n 0 lo:Nat):Int)/\(sliceBounds lo hi none n).2.1=((HT.lU n n hi:Nat):Int)/\(sliceBounds lo hi none n).2.2=1:=by
 refine⟨?_,?_,rfl⟩
 ·cases lo with
  |none=>simp[sliceBounds,HT.lU]
  |some i=>
   simp only[sliceBounds,HT.lU,Option.getD_none,show (1:Int) > 0 by decide,QR]
   by_cases h:i < 0
   ·simp only[h,QR]<;>omega
   ·simp only[h,qA]<;>omega
 ·cases hi with
  |none=>simp[sliceBounds,HT.lU]
  |some i=>
   simp only[sliceBounds,HT.lU,Option.getD_none,show (1:Int) > 0 by decide,QR]
   by_cases h:i < 0
   ·simp only[h,QR]<;>omega
   ·simp only[h,qA]<;>omega
theorem Mw (its:List Value) (lo hi:Option Int):slicePick its.toArray lo hi none=((its.drop (HT.lU its.length 0 lo)).take (HT.lU its.length its.length hi - HT.lU its.length 0 lo)).toArray:=by
 obtain⟨h1,h2,h3⟩:=Ou lo hi its.toArray.size
 unfold slicePick
 rw[h1,h2,h3]
 simp only[sliceRange_one,pick_run,zv]<;>rfl
def aj1 (K:FG_):V->Option Int->Option Int->Hp->VK->Prop:=fun x lo hi H Q=>∃ a xs,x=.ref a/\vH K H a xs/\∀ p,H p=none->Q (.ref p) (upd H p (.lst (QM xs lo hi)))
theorem aco:SlR X (aj1 X.K):=by
 intro pins s σ H x v vl vu lo hi sl Q I rx hs pl pu h
 obtain⟨a,xs,rfl,hx,q⟩:=h
 cases rx
 obtain⟨its,r,ht,hz⟩:=I.list hx
 have hlen:=r.length
 refine⟨"list", _,slot_list_getitem.lookup,ht.isList.typeIs,?_⟩
 refine wpAny_getItem_list_slice ht.isList hs pl pu .none (by simp) ?_ (by rw[zv]<;>omega)
 rw[Mw,<-hlen]
 refine⟨.ref s.heap.objs.size,_,I.laid (t':=s.toks) (o:=.lst (QM xs lo hi)) (fun b ob q=>zd _ q) (zl _) ?_,rfl,q _ (I.hok.fresh (zl _))⟩
 exact⟨zz (GZ xs lo hi) hz,_,0,(r.drop (HT.lU xs.length 0 lo)).take (HT.lU xs.length xs.length hi - HT.lU xs.length 0 lo),zS _ rfl⟩
def yj:V->Bool
 |.non=>true
 |.bl _=>true
 |.int _=>true
 |.str _=>true
 |_=>false
def Xr:V->V->Bool
 |.non,.non=>true
 |.bl a,.bl b=>a==b
 |.bl a,.int b=>(if a then 1 else 0)==b
 |.int a,.bl b=>a==(if b then 1 else 0)
 |.int a,.int b=>a==b
 |.str a,.str b=>a==b
 |_,_=>false
theorem afe {A:Around} {s:Shared} {y x:V} {u v:Value} (ry:RelV y u) (rx:RelV x v) (fy:yj y=true) (fx:yj x=true):SeqAt.EqAt A s u v (Xr y x):=by
 cases y with
 |non=>
  cases ry
  cases x with
  |non=>cases rx;exact SeqAt.EqAt.same _
  |bl b=>cases rx;exact SeqAt.EqAt.none_bool b
  |int b=>obtain⟨t,rfl⟩:=rx;exact SeqAt.EqAt.none_int b t
  |str b=>obtain⟨t,rfl⟩:=rx;exact SeqAt.EqAt.none_str b t
  |_=>exact absurd (show false=true from fx) zr
 |bl a=>
  cases ry
  cases x with
  |non=>cases rx;exact SeqAt.EqAt.bool_none a
  |bl b=>cases rx;exact SeqAt.EqAt.bool_bool a b
  |int b=>obtain⟨t,rfl⟩:=rx;exact SeqAt.EqAt.bool_int a b t
  |str b=>obtain⟨t,rfl⟩:=rx;exact SeqAt.EqAt.bool_str a b t
  |_=>exact absurd (show false=true from fx) zr
 |int a=>
  obtain⟨t',rfl⟩:=ry
  cases x with
  |non=>cases rx;exact SeqAt.EqAt.int_none a t'
  |bl b=>cases rx;exact SeqAt.EqAt.int_bool a t' b
  |int b=>obtain⟨t,rfl⟩:=rx;exact SeqAt.EqAt.int_int a t' b t
  |str b=>obtain⟨t,rfl⟩:=rx;exact SeqAt.EqAt.int_str a t' b t
  |_=>exact absurd (show false=true from fx) zr
 |str a=>
  obtain⟨t',rfl⟩:=ry
  cases x with
  |non=>cases rx;exact SeqAt.EqAt.str_none a t'
  |bl b=>cases rx;exact SeqAt.EqAt.str_bool a t' b
  |int b=>obtain⟨t,rfl⟩:=rx;exact SeqAt.EqAt.str_int a t' b t
  |str b=>obtain⟨t,rfl⟩:=rx;exact SeqAt.EqAt.str_str a t' b t
  |_=>exact absurd (show false=true from fx) zr
 |_=>exact absurd (show false=true from fy) zr
def Uc (x:V) (u:Value):Bool:=match u with
 |.none=>Xr .non x
 |.bool b=>Xr (.bl b) x
 |.int i _=>Xr (.int i) x
 |.str z _=>Xr (.str z) x
 |_=>false
theorem Zq {x y:V} {u:Value} (r:RelV y u) (f:yj y=true):Uc x u=Xr y x:=by
 cases y with
 |non=>cases r;rfl
 |bl b=>cases r;rfl
 |int i=>obtain⟨t,rfl⟩:=r;rfl
 |str z=>obtain⟨t,rfl⟩:=r;rfl
 |_=>exact absurd (show false=true from f) zr
theorem Di {x:V}:∀ {xs:List V} {us:List Value},Vals xs us->xs.all yj=true->us.any (Uc x)=xs.any fun y=>Xr y x
 |_,_,.nil,_=>rfl
 |y::xs,u::us,.cons r t,f=>by
  rw[j3,ZN] at f
  rw[Q3,Q3,Zq r f.1,Di t f.2]
theorem yP {A:Around} {s:Shared} {x:V} {v:Value} (rx:RelV x v) (fx:yj x=true):∀ {xs:List V} {us:List Value},Vals xs us->xs.all yj=true->∀ u∈us,SeqAt.EqAt A s u v (Uc x u)
 |_,_,.nil,_=>fun u hu=>by cases hu
 |y::xs,u::us,.cons r t,f=>fun u' hu=>by
  rw[j3,ZN] at f
  rcases List.mem_cons.mp hu with rfl|hu
  ·rw[Zq r f.1];exact afe r rx f.1 fx
  ·exact yP rx fx t f.2 u' hu
def inV (x:V) (xs:List V):Bool:=xs.any fun y=>Xr y x
def rIn (K:FG_) (neg:Bool):R2:=fun x y H Q=>∃ p xs,y=.ref p/\(vH K H p xs\/Dd K H p xs)/\yj x=true/\xs.all yj=true/\Q (.bl (if neg then !inV x xs else inV x xs)) H
theorem Xu:yI X (compareOp .In) (rIn X.K false):=by
 intro pins s σ H x y v u Q I rx ry h
 obtain⟨p,xs,rfl,hq,fx,fs,q⟩:=h
 cases ry
 rcases hq with hq|hq
 ·obtain⟨its,r,pl,hz⟩:=I.list hq
  refine SeqAt.in_listAt (Uc x) pl.isList (fun w hw=>yP rx fx r fs w (by simpa using hw)) ⟨.bl _,H,I,rfl,?_⟩
  rw[show its.toArray.any (Uc x)=its.any (Uc x) by simp,Di r fs]
  exact q
 ·obtain⟨its,r,pl,hz⟩:=I.tuple hq
  refine SeqAt.in_tupleAt (Uc x) pl (fun w hw=>yP rx fx r fs w (by simpa using hw)) ⟨.bl _,H,I,rfl,?_⟩
  rw[show its.toArray.any (Uc x)=its.any (Uc x) by simp,Di r fs]
  exact q
theorem Ov:yI X (compareOp .NotIn) (rIn X.K true):=by
 intro pins s σ H x y v u Q I rx ry h
 obtain⟨p,xs,rfl,hq,fx,fs,q⟩:=h
 cases ry
 rcases hq with hq|hq
 ·obtain⟨its,r,pl,hz⟩:=I.list hq
  refine SeqAt.notIn_listAt (Uc x) pl.isList (fun w hw=>yP rx fx r fs w (by simpa using hw)) ⟨.bl _,H,I,rfl,?_⟩
  rw[show its.toArray.any (Uc x)=its.any (Uc x) by simp,Di r fs]
  exact q
 ·obtain⟨its,r,pl,hz⟩:=I.tuple hq
  refine SeqAt.notIn_tupleAt (Uc x) pl (fun w hw=>yP rx fx r fs w (by simpa using hw)) ⟨.bl _,H,I,rfl,?_⟩
  rw[show its.toArray.any (Uc x)=its.any (Uc x) by simp,Di r fs]
  exact q
theorem Ow:yI X (compareOp .NotIn) (fun x y H Q=>∃ i j,x=.str i/\y=.str j/\Q (.bl (!(!(Builtin.Str.occurrences j i 0 j.length 1).isEmpty))) H):=by
 intro pins s σ H x y v u Q I rx ry h
 obtain⟨i,j,rfl,rfl,q⟩:=h
 obtain⟨t,rfl⟩:=rx
 obtain⟨t',rfl⟩:=ry
 exact notIn_str ⟨.bl _,H,I,rfl,q⟩
theorem Ox:jV X (.builtin "len") (fun xs H Q=>∃ p ys,xs=[.ref p]/\(vH X.K H p ys\/Dd X.K H p ys)/\Q (.int ys.length) H):=by
 intro pins s σ H xs us Q I r h
 obtain⟨p,ys,rfl,hq,q⟩:=h
 obtain⟨u,rfl,rx⟩:=vals1 r
 cases rx
 have hn:=Fw
 rcases hq with hq|hq
 ·obtain⟨its,r',pl,hz⟩:=I.list hq
  have hlen:=r'.length
  exact Calls.call_len_list pl.isList (by simp only[zv]<;>omega) ⟨.int ys.length,H,I.tok _,⟨s.toks+1,by rw[zv,hlen]⟩,q⟩
 ·obtain⟨its,r',pl,hz⟩:=I.tuple hq
  have hlen:=r'.length
  exact len_tuple pl (by simp only[zv]<;>omega) ⟨.int ys.length,H,I.tok _,⟨s.toks+1,by rw[zv,hlen]⟩,q⟩
theorem Oz:jV X (.builtin "len") (fun xs H Q=>∃ z,xs=[.str z]/\z.length<=sizeLine/\Q (.int z.length) H):=by
 intro pins s σ H xs us Q I r h
 obtain⟨z,rfl,hz,q⟩:=h
 obtain⟨u,rfl,t,rfl⟩:=vals1 r
 have hn:=Fw
 exact len_str (by omega) ⟨.int z.length,H,I.tok _,⟨_,rfl⟩,q⟩
theorem jV.or {f:Value} {r r':List V->Hp->VK->Prop} (h:jV X f r) (h':jV X f r'):jV X f (fun xs H Q=>r xs H Q\/r' xs H Q):=by
 intro pins s σ H xs us Q I rs q
 rcases q with q|q
 ·exact h pins s σ H xs us Q I rs q
 ·exact h' pins s σ H xs us Q I rs q
theorem Mx:jV X (.type "tuple") (fun xs H Q=>∃ p ys,xs=[.ref p]/\((vH X.K H p ys/\∀ l,H l=none->Q (.ref l) (upd H l (.tup ys)))\/(Dd X.K H p ys/\Q (.ref p) H))):=by
 intro pins s σ H xs us Q I r h
 obtain⟨p,ys,rfl,h⟩:=h
 obtain⟨u,rfl,rx⟩:=vals1 r
 cases rx
 rcases h with⟨hq,q⟩|⟨hq,q⟩
 ·obtain⟨its,r',pl,hz⟩:=I.list hq
  have hlen:=r'.length
  refine call_tuple_list pl.isList (fun h' kp=>?_) (by simp only[zv]<;>omega)
  have I1:Inv X pins σ H { s with heap:=h' }:=I.kept (t':=s.toks) kp
  have I2:Inv X pins σ (upd H h'.objs.size (.tup ys)) { s with heap:=h'.push { cls:=.type "tuple", data:=.seq its.toArray } }:=
   I1.laid (t':=s.toks) (fun b o e=>zd _ e) (zl _) (show gC X.prog X.w _ _ _ (.tup ys) from⟨hz,its,r',wR.new _ _⟩)
  exact⟨.ref h'.objs.size,_,I2,rfl,q _ (I1.hok.fresh (zl _))⟩
 ·obtain⟨its,r',pl,hz⟩:=I.tuple hq
  exact call_tuple_same pl ⟨.ref p,H,I,rfl,q⟩
def tyV (K:FG_) (T:String) (x:V) (H:Hp):Prop:=match x with
 |.str _=>T = "str"
 |.int _=>T = "int"
 |.ref p=>(T = "list" ∧ ∃ xs,vH K H p xs)\/(T = "tuple" ∧ ∃ o,K.lookup p=some o/\o.cls=.type "tuple" ∧ o.dict=none) ∨
   (T = "dict" ∧ ((∃ kvs,H p=some (.dK kvs))\/∃ kvs,H p=some (.dT kvs)))\/(T = "set" ∧ ∃ S n,H p=some (.set S n))
 |_=>False
theorem afg {pins:List (Addr×Obj)} {σ:St} {H:Hp} {s:Shared} {T:String} {x:V} {v:Value} (I:Inv X pins σ H s) (r:RelV x v) (ty:tyV X.K T x H) :
  s.TypeIs v T/\∀ a,v=.ref a->∃ ob,s.heap.get? a=some ob/\ob.dict=none:=by
 cases x with
 |str z=>
  obtain⟨t,rfl⟩:=r
  cases (show T = "str" from ty)
  exact⟨typeIs_str s z t,fun _ e=>nomatch e⟩
 |int i=>
  obtain⟨t,rfl⟩:=r
  cases (show T = "int" from ty)
  exact⟨typeIs_int s i t,fun _ e=>nomatch e⟩
 |ref p=>
  cases r
  rcases ty with⟨rfl,xs,hq⟩|⟨rfl,o,hk,hc,hd⟩|⟨rfl,hk⟩|⟨rfl,S,n,hk⟩
  ·obtain⟨its,_,pl,_⟩:=I.list hq
   refine⟨pl.isList.typeIs,fun a e=>?_⟩
   cases e
   obtain⟨o,n,e,c,hd,_⟩:=pl
   exact⟨o,e,hd⟩
  ·refine⟨⟨o,I.Qz p o hk,hc⟩,fun a e=>?_⟩
   cases e
   exact⟨o,I.Qz _ o hk,hd⟩
  ·have z:∃ o,s.heap.get? p=some o/\o.ExactDict:=by
    rcases hk with⟨kvs,hk⟩|⟨kvs,hk⟩
    ·obtain⟨_,_,_,_,o,_,_,e,ex,_⟩:=I.hok p _ hk
     exact⟨o,e,ex⟩
    ·obtain⟨_,_,_,_,o,_,_,e,ex,_⟩:=I.hok p _ hk
     exact⟨o,e,ex⟩
   obtain⟨o,e,ex⟩:=z
   refine⟨⟨o,e,ex.1⟩,fun a e2=>?_⟩
   cases e2
   exact⟨o,e,ex.2.1⟩
  ·obtain⟨o,_,_,_,e,ex,_⟩:=I.hok p _ hk
   refine⟨⟨o,e,ex.1⟩,fun a e2=>?_⟩
   cases e2
   exact⟨o,e,ex.2.1⟩
 |_=>exact False.elim ty
def tBM (K:FG_) (T:String) (r:V->List V->Hp->VK->Prop) (to:TE) (t:TA):TE:=fun σ H Q=>to σ H fun x H1=>tyV K T x H1/\t σ H1 fun xs H2=>r x xs H2 Q
variable {o e:Expr} {es:List Expr} {to:TE} {t:TA} {name:Str} {apos cpos:Pos} {T id:String} {r:V->List V->Hp->VK->Prop}
theorem QS (pa:PlainAttrs T) (slot:Slot T name id) (hty:typeOf (.builtin id)=pure (.type "method_descriptor")) (hm:MtR X id r) (ho:PE X o to) (ha:PA X (e::es) t)
  (hbase:attributeBase o name X.env (eval o X.env)=eval o X.env:=by rfl)
  (hfew:((backTo cpos (starEach (e::es) X.env)).all (fun x=>!x.1)&&(backToKw cpos (keywordEach [] X.env)).all (fun x=>x.1.isSome)
   && decide ((e::es).length+([]:List Keyword).length+(if ([]:List Keyword).isEmpty then 0 else 1) < 30))=true:=by rfl)
  (hline:(apos.endLine==cpos.line)=true:=by rfl) (hs:starEach (e::es) X.env=(false,eval e X.env)::starEach es X.env:=by rfl) (hplain:(backTo cpos (starEach es X.env)).any (·.1)=false:=by rfl) :
  PE X (.Call (.Attribute o name apos) (e::es) [] cpos) (tBM X.K T r to t):=by
 intro pins s σ H Q I h
 refine wpAny_Call_method_late hbase hfew hline rfl (lH (ho pins s σ H _ I h) fun v s1 ⟨x,H1,I1,r1,ty,q1⟩=>?_)
 obtain⟨h1,h2⟩:=afg I1 r1 ty
 refine⟨T,id,pa,slot,hty,h1,h2,?_⟩
 have hA:=ha cpos pins s1 σ H1 _ I1 q1
 rw[hs] at hA ⊢
 refine Calls.callWith_builtin (by show (false||(backTo cpos (starEach es X.env)).any (·.1))=false;rw[hplain]<;>rfl) (Calls.evalArgs_plain ?_)
 exact lH hA fun us s2 ⟨vs,H2,I2,r2,q2⟩=>hm pins s2 σ H2 x vs v us Q I2 r1 r2 q2
end
end L2
namespace L2
open PySem PySem.Spec PyProof.Rows
def MtM (X:Cx) (id:String) (r:V->List V->Hp->VK->Prop):Prop:=
 ∀ (pins:List (Addr×Obj)) (s:Shared) (σ:St) (H:Hp) (x:V) (xs:List V) (v:Value) (us:List Value) (Q:VK),Inv X pins σ H s->RelV x v->Vals xs us->r x xs H Q →
  wpAny (model X.prog X.w) X.A (call (.builtin id) (v::us)) (EP X pins σ Q) X.xe s
theorem Vals.one:∀ {x:V} {us:List Value},Vals [x] us->∃ u,us=[u]/\RelV x u
 |_,_,.cons r .nil=>⟨_,rfl,r⟩
theorem Vals.zero:∀ {us:List Value},Vals [] us->us=[]
 |_,.nil=>rfl
theorem Vals.eraseIdx:∀ {xs:List V} {us:List Value} (i:Nat),Vals xs us->Vals (xs.eraseIdx i) (us.eraseIdx i)
 |_,_,_,.nil=>.nil
 |_,_,0,.cons _ t=>t
 |_,_,i+1,.cons r t=>.cons r (Vals.eraseIdx i t)
section
variable {X:Cx} {pins:List (Addr×Obj)} {σ:St} {H:Hp} {s:Shared} {l b:Addr} {xs ys zs:List V}
theorem Inv.afh {its its':List Value} {n:Nat} {f:Array Value->Array Value} {t':Nat} (I:Inv X pins σ H s) (hH:H l=some (.lst xs))
  (e:s.heap.get? l=some { cls:=.type "list", data:=.seq its.toArray n }) (hf:f its.toArray=its'.toArray) (hv:Vals ys its') (hz:ys.length<=sizeLine) :
  Inv X pins σ (upd H l (.lst ys)) { s with heap:=s.heap.update l (Obj.mapSeq f),toks:=t' }:=by
 have q:=PySem.IsL.update e f
 rw[hf] at q
 refine I.write (x:=l) (e:=l) (by rw[hH];exact trivial) (.inl rfl) (fun b' u hb hu=>(qB s.heap (Obj.mapSeq f) (QA hb)).trans hu) ⟨_,q⟩ ?_
 exact⟨hz,its',_,hv,q⟩
theorem Inv.fresh (I:Inv X pins σ H s):H s.heap.objs.size=none:=I.hok.fresh (zl _)
theorem Inv.aj2 (I:Inv X pins σ H s) (hH:H l=some (.lst xs)):xs.length<=sizeLine/\∃ (its:List Value) (n:Nat),Vals xs its/\xs.length=its.length/\s.heap.get? l=some { cls:=.type "list", data:=.seq its.toArray n }:=by
 obtain⟨z,its,n,r,e⟩:=I.hok l _ hH
 exact⟨z,its,n,r,r.length,e⟩
end
section
variable {X:Cx}
def acp:V->List V->Hp->VK->Prop:=fun x vs H Q=>∃ l xs y,x=.ref l/\vs=[y]/\H l=some (.lst xs)/\xs.length < sizeLine/\Q .non (upd H l (.lst (xs++[y])))
theorem Fy:MtM X "list.append" acp:=by
 intro pins s σ H x vs v us Q I rx rv h
 obtain⟨l,xs,y,rfl,rfl,hH,hz,q⟩:=h
 cases rx
 obtain⟨u,rfl,ru⟩:=rv.one
 obtain⟨z,its,n,r,hl,e⟩:=I.aj2 hH
 refine call_meets F.slot_list_append ⟨_,e,rfl⟩ F.entry_list_append (F.args_list_append_2 _ _) (PySem.list_append l its.toArray n u (by rw[zv];omega)) ⟨e,?_⟩
 refine⟨.non,_,I.afh (its':=its++[u]) hH e (by simp) (r.append (.cons ru .nil)) ?_,rfl,q⟩
 rw[zw,JA]
 omega
end
section
variable {prog:Program} {w:World} {A:Around} {E:VP_} {s:Shared}
end
section
variable {X:Cx}
end
end L2
namespace L2
open PySem PySem.Spec PyProof.Rows
section
variable {κ:Type} [DecidableEq κ]
def BW (kvs:List (κ×V)) (k:κ):Option V:=(kvs.find? fun kv=>decide (kv.1=k)).map (·.2)
def putK (kvs:List (κ×V)) (k:κ) (v:V):List (κ×V):=
 if (kvs.any fun kv=>decide (kv.1=k))=true then kvs.map (fun kv=>if kv.1=k then (kv.1,v) else kv) else kvs++[(k,v)]
def ad9 (kvs:List (κ×V)) (k:κ):List (κ×V):=kvs.filter fun kv=>decide (kv.1≠k)
theorem yQ {p:κ×V} {r:List (κ×V)} {k:κ} (e:p.1=k):BW (p::r) k=some p.2:=by simp[BW,QN,e]
theorem yR {p:κ×V} {r:List (κ×V)} {k:κ} (e:¬ p.1=k):BW (p::r) k=BW r k:=by simp[BW,QN,e]
theorem Jw (k:κ):∀ kvs:List (κ×V),(kvs.any fun kv=>decide (kv.1=k))=(BW kvs k).isSome
 |[]=>rfl
 |p::r=>by
  rw[Q3]
  by_cases e:p.1=k
  ·simp only[yQ e,z5 e,Bool.true_or,Option.isSome_some]
  ·rw[yR e,ZT e,Bool.false_or];exact Jw k r
theorem G3 (kvs:List (κ×V)) (k:κ) (v:V):(putK kvs k v).length<=kvs.length+1:=by
 unfold putK
 split
 ·rw[zh];omega
 ·rw[zw,Zp,List.length_nil];omega
theorem Fp.Xv {o:Option V} {u:Option Value} (r:Fp o u):o.isSome=u.isSome:=by
 cases o with
 |none=>cases u with
  |none=>rfl
  |some _=>exact (show False from r).elim
 |some _=>cases u with
  |none=>exact (show False from r).elim
  |some _=>rfl
theorem Fp.getD {o:Option V} {u:Option Value} {d:V} {d':Value} (r:Fp o u) (rd:RelV d d'):RelV (o.getD d) (u.getD d'):=by
 cases o with
 |none=>cases u with
  |none=>exact rd
  |some _=>exact (show False from r).elim
 |some _=>cases u with
  |none=>exact (show False from r).elim
  |some _=>exact r
theorem KV.val {kvs:List (κ×V)} {vs:List (κ×Value)} (r:KV kvs vs) (k:κ):Fp (BW kvs k) (valueAt vs k):=by
 unfold KV at r
 induction r with
 |nil=>exact True.intro
 |@cons p q ps qs h t ih=>
  obtain⟨h1,h2⟩:=h
  by_cases e:p.1=k
  ·have e':q.1=k:=h1.symm.trans e
   have b:valueAt (q::qs) k=some q.2:=by simp[valueAt,QN,e']
   rw[yQ e,b];exact h2
  ·have e':¬ q.1=k:=fun z=>e (h1.trans z)
   have b:valueAt (q::qs) k=valueAt qs k:=by simp[valueAt,QN,e']
   rw[yR e,b];exact ih
theorem KV.any {kvs:List (κ×V)} {vs:List (κ×Value)} (r:KV kvs vs) (k:κ):(kvs.any fun kv=>decide (kv.1=k))=vs.any fun kv=>decide (kv.1=k):=by
 unfold KV at r
 induction r with
 |nil=>rfl
 |cons h t ih=>rw[Q3,Q3,ih,h.1]
theorem KV.repl {kvs:List (κ×V)} {vs:List (κ×Value)} (r:KV kvs vs) (k:κ) {y:V} {u:Value} (ry:RelV y u) :
  KV (kvs.map fun kv=>if kv.1=k then (kv.1,y) else kv) (vs.map fun kv=>if kv.1=k then (kv.1,u) else kv):=by
 unfold KV at r ⊢
 induction r with
 |nil=>exact .nil
 |@cons p q ps qs h t ih=>
  rw[zg,zg]
  refine .cons ?_ ih
  obtain⟨h1,h2⟩:=h
  by_cases e:p.1=k
  ·rw[zk e,zk (h1.symm.trans e)];exact⟨h1,ry⟩
  ·rw[zI e,zI (fun z=>e (h1.trans z))];exact⟨h1,h2⟩
theorem KV.put {kvs:List (κ×V)} {vs:List (κ×Value)} (r:KV kvs vs) (k:κ) {y:V} {u:Value} (ry:RelV y u):KV (putK kvs k y) (stored vs k u):=by
 unfold putK stored
 rw[r.any k]
 by_cases e:(vs.any fun kv=>decide (kv.1=k))=true
 ·rw[zk e,zk e];exact r.repl k ry
 ·rw[zI e,zI e];exact Paired.snoc r ⟨rfl,ry⟩
theorem KV.drop {kvs:List (κ×V)} {vs:List (κ×Value)} (r:KV kvs vs) (k:κ):KV (ad9 kvs k) (without vs k):=by
 unfold KV at r ⊢
 unfold ad9 without
 induction r with
 |nil=>exact .nil
 |@cons p q ps qs h t ih=>
  obtain⟨h1,h2⟩:=h
  rw[Kx,Kx]
  by_cases e:p.1=k
  ·have a:¬ decide (p.1≠k)=true:=by simp[e]
   have b:¬ decide (q.1≠k)=true:=by simp[h1.symm.trans e]
   rw[zI a,zI b];exact ih
  ·have e':¬ q.1=k:=fun z=>e (h1.trans z)
   have a:decide (p.1≠k)=true:=by simp[e]
   have b:decide (q.1≠k)=true:=by simp[e']
   rw[zk a,zk b];exact .cons ⟨h1,h2⟩ ih
theorem KV.length {kvs:List (κ×V)} {vs:List (κ×Value)} (r:KV kvs vs):kvs.length=vs.length:=Paired.length r
end
theorem Zr {P:Program} {w:World} {k:Key} {u:Value} (r:RelV (kV k) u):(dI P w).is k u=true:=by
 cases k with
 |inl i=>obtain⟨t,e⟩:=(show ∃ t,u=Value.int i t from r);subst e;exact QD P w i t
 |inr x=>obtain⟨t,e⟩:=(show ∃ t,u=Value.str x t from r);subst e;exact QF P w x t
theorem Nh {P:Program} {w:World}:∀ {ks:List Key} {us:List Value},Vals (ks.map kV) us->ItemsAre (dI P w) ks us
 |[],_,r=>by rw[kM] at r;cases r;exact .nil
 |k::ks,_,r=>by
  rw[zg] at r
  cases r with
  |cons h t=>exact .cons (Zr h) (Nh t)
abbrev KT (H:Hp):List (List Key×V)->List (List Key×Addr×Value)->Prop:=Paired fun p q=>p.1=q.1/\H q.2.1=some (.tup (p.1.map kV))/\RelV p.2 q.2.2
theorem KT.val {H:Hp} {kvs:List (List Key×V)} {xs:List (List Key×Addr×Value)} (r:KT H kvs xs) (k:List Key):Fp (BW kvs k) ((atKey xs k).map (·.2)):=by
 induction r with
 |nil=>exact True.intro
 |@cons p q ps qs h t ih=>
  obtain⟨h1,_,h2⟩:=h
  by_cases e:p.1=k
  ·have e':q.1=k:=h1.symm.trans e
   have b:atKey (q::qs) k=some q.2:=by simp[atKey,QN,e']
   rw[yQ e,b];exact h2
  ·have e':¬ q.1=k:=fun z=>e (h1.trans z)
   have b:atKey (q::qs) k=atKey qs k:=by simp[atKey,QN,e']
   rw[yR e,b];exact ih
theorem KT.repl {H:Hp} {kvs:List (List Key×V)} {xs:List (List Key×Addr×Value)} (r:KT H kvs xs) (k:List Key) {y:V} {u:Value} (ry:RelV y u) :
  KT H (kvs.map fun kv=>if kv.1=k then (kv.1,y) else kv) (xs.map (putAt k u)):=by
 induction r with
 |nil=>exact .nil
 |@cons p q ps qs h t ih=>
  rw[zg,zg]
  refine .cons ?_ ih
  obtain⟨h1,h2,h3⟩:=h
  unfold putAt
  by_cases e:p.1=k
  ·rw[zk e,zk (h1.symm.trans e)];exact⟨h1,h2,ry⟩
  ·rw[zI e,zI (fun z=>e (h1.trans z))];exact⟨h1,h2,h3⟩
theorem KT.put {H:Hp} {kvs:List (List Key×V)} {xs:List (List Key×Addr×Value)} (r:KT H kvs xs) (k:List Key) {b:Addr} {y:V} {u:Value} (hb:H b=some (.tup (k.map kV))) (ry:RelV y u) :
  KT H (putK kvs k y) (storedH xs k b u):=by
 have e:(kvs.any fun kv=>decide (kv.1=k))=(atKey xs k).isSome:=by
  rw[Jw,(r.val k).Xv,Option.isSome_map]
 unfold putK storedH
 rw[e]
 by_cases q:(atKey xs k).isSome=true
 ·rw[zk q,zk q];exact r.repl k ry
 ·rw[zI q,zI q];exact Paired.snoc r ⟨rfl,hb,ry⟩
theorem KT.keeps {H H':Hp} {kvs:List (List Key×V)} {xs:List (List Key×Addr×Value)} (r:KT H kvs xs) (ht:∀ b ys,H b=some (.tup ys)->H' b=some (.tup ys)):KT H' kvs xs:=
 Paired.abY r fun _ _ z=>⟨z.1,ht _ _ z.2.1,z.2.2⟩
section
variable {P:Program} {w:World} {H:Hp} {h:Heap} {a:Addr}
theorem aea {u:HO} (ok:yN P w H h) (e:Rd H a u):gC P w H h a u:=e.ok ok
theorem Bp {kvs:List (Key×V)} (ok:yN P w H h) (e:Rd H a (.dK kvs)):kvs.length<=sizeLine/\(a==sysModules)=false/\∃ vs,KV kvs vs/\h.DictOf (dI P w) a vs:=
 show gC P w H h a (.dK kvs) from aea ok e
theorem ahl {kvs:List (Key×V)} (ok:yN P w H h) (e:H a=some (.dK kvs)):kvs.length<=sizeLine/\(a==sysModules)=false/\∃ vs,KV kvs vs/\h.DictOf (dI P w) a vs:=Bp ok (.inl e)
theorem Ud {ks:List Key} (ok:yN P w H h) (e:H a=some (.tup (ks.map kV))):(tupleKind (dI P w)).is h ks a:=by
 obtain⟨_,its,r,o,h1,h2,⟨n,h3⟩,_⟩:=(show gC P w H h a (.tup (ks.map kV)) from ok a _ e)
 exact⟨o,its.toArray,n,h1,h2,h3,by simpa using Nh r⟩
theorem Zt {kvs:List (List Key×V)} (ok:yN P w H h) (e:Rd H a (.dT kvs)):kvs.length<=sizeLine/\(a==sysModules)=false ∧
  ∃ xs,KT H kvs xs/\h.DictOfH (tupleKind (dI P w)) a xs:=by
 obtain⟨z,y,xs,r,o,es,ep,h1,h2,h3,h4,h5⟩:=(show gC P w H h a (.dT kvs) from aea ok e)
 refine⟨z,y,xs,r,o,es,ep,h1,h2,h3,h4,fun x hx=>?_,h5⟩
 have all:∀ {l:List (List Key×V)} {m:List (List Key×Addr×Value)},KT H l m->∀ x∈m,(tupleKind (dI P w)).is h x.1 x.2.1:=by
  intro l m q
  induction q with
  |nil=>intro x hx;exact nomatch hx
  |@cons p q ps qs hq t ih=>
   intro x hx
   rcases List.mem_cons.mp hx with e|hx
   ·subst e
    exact Ud ok (by rw[<-hq.1];exact hq.2.1)
   ·exact ih x hx
 exact all r x hx
theorem ahm {kvs:List (List Key×V)} (ok:yN P w H h) (e:H a=some (.dT kvs)):kvs.length<=sizeLine/\(a==sysModules)=false ∧
  ∃ xs,KT H kvs xs/\h.DictOfH (tupleKind (dI P w)) a xs:=Zt ok (.inl e)
end
def Ue (H:Hp) (a:Addr) (y:V) (r:Option V):Prop:=
 (∃ kvs k,Rd H a (.dK kvs)/\y=kV k/\r=BW kvs k)\/∃ kvs k b,Rd H a (.dT kvs)/\y=.ref b/\H b=some (.tup (k.map kV))/\r=BW kvs k
def Ug (H:Hp) (a:Addr) (y v:V) (H':Hp):Prop:=
 (∃ kvs k,H a=some (.dK kvs)/\y=kV k/\kvs.length < sizeLine/\H'=upd H a (.dK (putK kvs k v))) ∨
 ∃ kvs k b,H a=some (.dT kvs)/\y=.ref b/\H b=some (.tup (k.map kV))/\kvs.length < sizeLine/\H'=upd H a (.dT (putK kvs k v))
theorem Ue.k {H:Hp} {a:Addr} {kvs:List (Key×V)} {k:Key} (e:H a=some (.dK kvs)):Ue H a (kV k) (BW kvs k):=.inl ⟨kvs,k,.inl e,rfl,rfl⟩
theorem Ue.t {H:Hp} {a b:Addr} {kvs:List (List Key×V)} {k:List Key} (e:H a=some (.dT kvs)) (eb:H b=some (.tup (k.map kV))):Ue H a (.ref b) (BW kvs k):=.inr ⟨kvs,k,b,.inl e,rfl,eb,rfl⟩
theorem Ug.k {H:Hp} {a:Addr} {kvs:List (Key×V)} {k:Key} {v:V} (e:H a=some (.dK kvs)) (hl:kvs.length < sizeLine):Ug H a (kV k) v (upd H a (.dK (putK kvs k v))):=.inl ⟨kvs,k,e,rfl,hl,rfl⟩
theorem Ug.t {H:Hp} {a b:Addr} {kvs:List (List Key×V)} {k:List Key} {v:V} (e:H a=some (.dT kvs)) (eb:H b=some (.tup (k.map kV))) (hl:kvs.length < sizeLine) :
  Ug H a (.ref b) v (upd H a (.dT (putK kvs k v))):=.inr ⟨kvs,k,b,e,rfl,eb,hl,rfl⟩
section
variable {X:Cx} {pins:List (Addr×Obj)} {σ:St} {H:Hp} {s:Shared} {a:Addr} {y v:V} {u r:Value} {o:Option V} {A:Around} {E:VP_}
theorem Inv.big (I:Inv X pins σ H s):sysModules < s.heap.objs.size:=by
 have h:mainGlobals < s.heap.objs.size:=(I.mod.glob.keeps I.bk).lt
 exact Nat.lt_trans (by decide) h
theorem Xw {Q:VP_} (hu:A.units+1 < cLine) (I:Inv X pins σ H s) (g:Ue H a y (some v)) (ry:RelV y u) (h:∀ w' s',Inv X pins σ H s'->RelV v w'->Q w' s') :
  wpAny (model X.prog X.w) A (getItem (.ref a) u) Q E s:=by
 rcases g with⟨kvs,k,e,ey,l⟩|⟨kvs,k,b,e,ey,eb,l⟩
 ·subst ey
  obtain⟨z,hd,vs,rel,dd⟩:=Bp I.hok e
  obtain⟨w',hw,Y4⟩:=Fp.some_of (v:=v) (o:=valueAt vs k) (by rw[l];exact rel.val k)
  exact wpAny_getItem_of (Zr ry) dd.mapOf hw (h w' _ (I.tok _) Y4)
 ·subst ey
  cases (show u=Value.ref b from ry)
  obtain⟨z,hd,xs,rel,dd⟩:=Zt I.hok e
  obtain⟨w',hw,Y4⟩:=Fp.some_of (v:=v) (o:=(atKey xs k).map (·.2)) (by rw[l];exact rel.val k)
  obtain⟨p,hp,hp2⟩:=Option.map_eq_some_iff.mp hw
  refine wpAny_getItem_heap (tupleKind_room_in1 hu) (Ud I.hok eb) dd hp ?_
  rw[hp2]
  exact h w' _ (I.tok _) Y4
theorem V4 {h':Heap} {t':Nat} {ob:HO} (I:Inv X pins σ H s) (mu:Mut (H a)) (hs:Heap.SameBut a s.heap h') (he:∃ q,h'.get? a=some q) (new:gC X.prog X.w (upd H a ob) h' a ob) :
  Inv X pins σ (upd H a ob) { s with heap:=h',toks:=t' }:=
 I.write (x:=a) (e:=a) mu (.inl rfl) (fun b q hb z=>(hs.2 b hb).trans z) he new
theorem afi {P:Program} {w:World} {H':Hp} {h':Heap} {kvs:List (Key×V)} {vs:List (Key×Value)} (z:kvs.length<=sizeLine) (hd:(a==sysModules)=false) (rel:KV kvs vs) (dd:h'.DictOf (dI P w) a vs) :
  gC P w H' h' a (.dK kvs):=⟨z,hd,vs,rel,dd⟩
theorem Xx {H':Hp} {Q:Unit->Shared->Prop} (hu:A.units+1 < cLine) (I:Inv X pins σ H s) (g:Ug H a y v H') (ry:RelV y u) (rv:RelV v r) (h:∀ s',Inv X pins σ H' s'->Q () s') :
  wpAny (model X.prog X.w) A (setItem (.ref a) u r) Q E s:=by
 rcases g with⟨kvs,k,e,ey,l,eH⟩|⟨kvs,k,b,e,ey,eb,l,eH⟩
 ·subst ey eH
  obtain⟨z,hd,vs,rel,dd⟩:=ahl I.hok e
  have hz:vs.length<=sizeLine:=by rw[<-rel.length];exact z
  have hl:(putK kvs k v).length<=sizeLine:=by have:=G3 kvs k v;omega
  refine wpAny_setItem_pairs (hsz:=hz) (Zr ry) dd fun h' dd' hs=>h _ ?_
  have he:∃ q,h'.get? a=some q:=let ⟨q,_,_,hq,_⟩:=dd';⟨q,hq⟩
  exact V4 I (by rw[e];exact True.intro) hs he (afi hl hd (rel.put k rv) dd')
 ·subst ey eH
  cases (show u=Value.ref b from ry)
  obtain⟨z,hd,xs,rel,dd⟩:=ahm I.hok e
  have hz:xs.length<=sizeLine:=by rw[<-Paired.length rel];exact z
  have hl:(putK kvs k v).length<=sizeLine:=by have:=G3 kvs k v;omega
  refine wpAny_setItem_heap (hsz:=hz) (tupleKind_room_in1 hu) (Ud I.hok eb) dd fun h' dd' hs=>h _ ?_
  obtain⟨q,es,ep,hq,h2,h3,h4,_,h5⟩:=dd'
  refine V4 I (by rw[e];exact True.intro) hs ⟨q,hq⟩ ⟨hl,hd,_,(rel.put k eb rv).keeps fun c ys ec=>?_,q,es,ep,hq,h2,h3,h4,h5⟩
  rw[aV (yh ec e (fun z=>nomatch z))]
  exact ec
end
section
variable {X:Cx} {pins:List (Addr×Obj)} {σ:St} {H:Hp} {s:Shared} {a:Addr} {kvs:List (Key×V)} {k:Key} {u:Value} {A:Around} {E:VP_}
end
def afj (i:Expr):Prop:=∀ ov iv,subscripted i false ov iv=operate [ov,iv] (getItem ov iv)
theorem acq {prog:Program} {w:World} {A:Around} {E:VP_} {s:Shared} {env:Env} {value slice:Expr} {pos:Pos} {T id:String} {Q:VP_}
  (hl:typeLookup (.type T) "__getitem__" = pure (some (.builtin id))) (hs:afj slice)
  (h:wpAny (model prog w) A (eval value env) (fun o s₁=>wpAny (model prog w) A (eval slice env) (fun i s₂=>s₂.TypeIs o T/\wpAny (model prog w) A (getItem o i) Q E s₂) E s₁) E s) :
  wpAny (model prog w) A (eval (.Subscript value slice pos) env) Q E s:=by
 refine Subscript_ (ZA h (fun o s₁ h₁=>ZA h₁ (fun i s₂ h₂=>?_) fun _ _ x=>x) fun _ _ x=>x)
 obtain⟨hT,h₂⟩:=h₂
 unfold subscriptTail
 refine zb ?_
 rw[getitemInPython_of_ne hT.not_modules]
 refine zb (wpAny_specialOf hT hl ?_)
 have fin:wpAny (model prog w) A (subscripted slice false o i) (fun r s₃=>wpAny (model prog w) A (letTemporaryGo value o r >>= fun _=>pure r) Q E s₃) E s₂:=by
  rw[hs o i]
  exact wpAny_operating (ZA h₂ (fun r s₃ h₃=>zb (wpAny_letTemporaryGo (ze h₃))) fun _ _ x=>x)
 first
  |exact ze (zb fin)
  |exact zb (ze (zb fin))
  |exact zb fin
theorem QT {X:Cx} {pins:List (Addr×Obj)} {σ:St} {H:Hp} {s:Shared} {a:Addr} {y:V} {o:Option V} (I:Inv X pins σ H s) (g:Ue H a y o):s.TypeIs (.ref a) "dict" := by
 rcases g with⟨kvs,k,e,_,_⟩|⟨kvs,k,b,e,_,_,_⟩
 ·obtain⟨_,_,vs,_,dd⟩:=Bp I.hok e
  exact dd.typeIs
 ·obtain⟨_,_,xs,_,dd⟩:=Zt I.hok e
  exact dd.typeIs
def ahn (td ty:TE):TE:=fun σ H Q=>td σ H fun x H1=>ty σ H1 fun y H2=>∃ a v,x=.ref a/\Ue H2 a y (some v)/\Q v H2
def aho (td ty tv:TE):TS:=fun D σ H=>tv σ H fun v H1=>td σ H1 fun x H2=>ty σ H2 fun y H3=>∃ a H4,x=.ref a/\Ug H3 a y v H4/\D.nx σ H4
section
variable {X:Cx} {o i e value:Expr} {pos pos' tpos:Pos} {td ty tv:TE}
theorem acr (hu:X.A.units+1 < cLine) (ho:PE X o td) (hi:PE X i ty) (hs:afj i):PE X (.Subscript o i pos) (ahn td ty):=by
 intro pins s σ H Q I h
 refine acq PySem.F.slot_dict_getitem.lookup hs (lH (ho pins s σ H _ I h) fun u s1 ⟨x,H1,I1,rx,q1⟩=>lH (hi pins s1 σ H1 _ I1 q1) fun iv s2 ⟨y,H2,I2,ry,a,v,ex,g,q2⟩=>?_)
 subst ex
 obtain rfl:u=Value.ref a:=rx
 exact⟨QT I2 g,Xw hu I2 g ry fun w' s3 I3 Y4=>⟨v,H2,I3,Y4,q2⟩⟩
theorem acs (hu:X.A.units+1 < cLine) (ho:PE X o td) (hi:PE X i ty) (hv:PE X value tv) (hs:swapsWith value (some (.Subscript o i pos')) pos.line X.env=pure false) :
  PS X (.Assign [.Subscript o i pos'] value pos) (aho td ty tv):=by
 intro pins s σ H D I h
 refine wpAny_Assign_Subscript (lH (hv pins s σ H _ I h) fun r s1 ⟨v,H1,I1,rv,q1⟩=>lH (ho pins s1 σ H1 _ I1 q1) fun u s2 ⟨x,H2,I2,rx,q2⟩=>lH (hi pins s2 σ H2 _ I2 q2) fun iv s3 ⟨y,H3,I3,ry,a,H4,ex,g,q3⟩=>?_) hs
 subst ex
 obtain rfl:u=Value.ref a:=rx
 exact Xx hu I3 g ry rv fun s4 I4=>⟨σ,H4,I4,q3⟩
end
theorem Zu {P:Program} {w:World} {H:Hp} (h:Heap) (hb:sysModules < h.objs.size):gC P w H (h.push { cls:=.type "dict", data:=.dict #[] }) h.objs.size (.dK []):=
 ⟨QP _,beq_eq_false_iff_ne.mpr (QA (ZI hb)),[],.nil,Heap.DictOf.new h⟩
def afk:TE:=fun _ H Q=>∀ p,H p=none->Q (.ref p) (upd H p (.dK []))
section
variable {X:Cx} {pos:Pos}
theorem Zv:PE X (.Dict [] [] pos) afk:=fun pins s σ H Q I h=>
 wpAny_Dict_empty ⟨.ref s.heap.objs.size,_,I.laid (a:=s.heap.objs.size) (o:=.dK []) (t':=s.toks) (fun _ _ q=>zd _ q) (zl _) (Zu s.heap I.big),rfl,h _ (I.hok.fresh (zl _))⟩
end
structure M1 (X:Cx) (o:Expr) (m:Str) (apos:Pos) (e:Expr) (cpos:Pos):Prop where
 base:attributeBase o m X.env (eval o X.env)=eval o X.env
 few:((backTo cpos (starEach [e] X.env)).all (fun x=>!x.1)&&(backToKw cpos (keywordEach [] X.env)).all (fun x=>x.1.isSome)
  && decide (([e]:List Expr).length+([]:List Keyword).length+(if ([]:List Keyword).isEmpty then 0 else 1) < 30))=true
 line:(apos.endLine==cpos.line)=true
 trees:backTo cpos (starEach [e] X.env)=[(false,eval e X.env)]
structure M2 (X:Cx) (o:Expr) (m:Str) (apos:Pos) (e f:Expr) (cpos:Pos):Prop where
 base:attributeBase o m X.env (eval o X.env)=eval o X.env
 few:((backTo cpos (starEach [e,f] X.env)).all (fun x=>!x.1)&&(backToKw cpos (keywordEach [] X.env)).all (fun x=>x.1.isSome)
  && decide (([e,f]:List Expr).length+([]:List Keyword).length+(if ([]:List Keyword).isEmpty then 0 else 1) < 30))=true
 line:(apos.endLine==cpos.line)=true
 trees:backTo cpos (starEach [e,f] X.env)=[(false,eval e X.env),(false,eval f X.env)]
section
variable {X:Cx} {pins:List (Addr×Obj)} {σ:St} {H:Hp} {s:Shared} {a:Addr} {y d:V} {u r:Value} {o:Option V} {A:Around} {E:VP_}
end
section
variable {X:Cx} {o e f:Expr} {apos cpos:Pos} {td ty tx:TE}
end
section
variable {X:Cx} {pins:List (Addr×Obj)} {σ:St} {H:Hp} {s:Shared} {a:Addr} {kvs:List (Key×V)} {A:Around} {E:VP_}
end
section
variable {X:Cx} {pins:List (Addr×Obj)} {σ:St} {H:Hp} {s:Shared} {a:Addr} {y:V} {u:Value} {A:Around} {E:VP_}
end
end L2
namespace Att
open PySem PySem.W PySem.Calls PyProof.Rows
theorem Hx {P:Params} {h:Heap}:∀ (ns:List Int) (vs:List Value),WellAll P h vs (ns.map WData.int)->IntsAre vs ns:=by
 intro ns
 induction ns with
 |nil=>
  intro vs w
  rw[kM] at w
  cases w
  exact .nil
 |cons n ns ih=>
  intro vs w
  rw[zg] at w
  cases w with
  |cons a b=>
   cases a
   exact .cons _ _ (ih _ b)
theorem Xy {l:OpenLaw} {n:Nat} (hn:l.most=some n) {P:Params} {h:Heap} {args:List WData} {vals:List Value}
  (hpre:l.row.toRowW.claim.pre args=true) (hwl:WellAll P h vals args) :
  ∃ a vs ns,vals=[Value.ref a]/\args=[WData.list (ns.map WData.int)]/\h.get? a=some { cls:=.type "list", data:=.seq vs.toArray }/\IntsAre vs ns/\ns.length<=n:=by
 have hsh:WShape.hasAll [] args [.list .int]=true:=(pre_splitW hpre).1
 have hc:l.pre.holds [] { args:=args }=true:=(pre_splitW hpre).2
 obtain⟨d,r,rfl,h1,h2⟩:=hasAllW_cons hsh
 obtain rfl:=hasAllW_nil h2
 obtain⟨xs,rfl,h3⟩:=hasW_list h1
 obtain⟨ns,rfl⟩:=items_int h3
 have hlen:ns.length<=n:=by
  unfold OpenLaw.pre at hc
  have h4:(WTm.not (.lt (.lit (.int (n:Int))) (.len (.arg 0)))).holds [] { args:=[.list (ns.map .int)] }=true:=by
   have h4:=(holds_andW hc).1
   rw[hn] at h4
   exact h4
  have h5:=condW_of h4 (w_not (w_lt w_lit (w_len_list (w_arg rfl))))
  rw[zh] at h5
  refine Nat.le_of_not_lt fun q=>?_
  have q':(n:Int) < ((ns.length:Nat):Int):=by omega
  first
   |(rw[z5 q'] at h5;exact absurd h5 (by decide))
   |(simp at h5;omega)
 cases hwl with
 |cons w1 w2=>
  cases w2
  cases w1 with
  |list ho hall=>exact⟨_,_,ns,rfl,rfl,ho,Hx ns _ hall,hlen⟩
theorem Xz (l:OpenLaw) (args:List WData):l.row.toRowW.claim.post args (.bool true) args=true:=
 postW_of (r:=l.row.toRowW) (X:=(true==true))
  (show WShape.has [] (.bool true) .bool=true by first|rfl|decide|simp[WShape.has,WShape.arms,WShape.armsAll])
  (show (WTm.eq .res (.lit (.bool true))).value [] { args:=args,res:=some (.bool true),after:=args }=some (.bool (true==true)) from w_eq_bool (w_res rfl) w_lit) rfl
theorem QW {l:OpenLaw} {n:Nat} {q:Program} {loose:LS_} {XP:(Str->Option Value)->Heap->Prop} {YP:World->Heap->Prop} {d:DefRec}
  (hn:l.most=some n) (hdf:d.params.defaults=[])
  (call:∀ (w:World) (s₀ s₁:Shared) (mg mb:Str->Option Value) (fa:Addr) (o:Obj) (pm cd doc:Value) (a:Addr) (vs:List Value) (ns:List Int),
   Ground q loose [] XP w s₀ mg mb s₁.heap->YP w s₁.heap →
   s₁.heap.get? fa=some o->o.data=.func (docDef d.name d.params d.body d.scope pm cd doc)->s₁.heap.CodeRec cd d.name->mg d.name=some (.ref fa) →
   s₁.heap.get? a=some { cls:=.type "list", data:=.seq vs.toArray }->IntsAre vs ns->ns.length<=n->s₁.gens=#[] →
   codeAny (model l.prog w) callerA (.call (.ref fa) ⟨[.ref a],[]⟩) (fun r s'=>r=.ok (.ret (.bool true))/\OldK s₁.heap s'.heap/\s'.os=s₁.os/\AllBare s'.gens) s₁) :
  WalkO q loose XP YP l.row.toRowW d [] (fun f vs=>PySem.call f vs):=by
 intro w s₀ s₁ mg mb G Y fa o pm cd doc dV kV ho hd hcd hD hmg hg args vals as hpre hlay hrd hwl hlo
 obtain rfl:dV=.none:=Dflts.none hD hdf
 obtain rfl:kV=.none:=Dflts.noKw hD
 obtain⟨a,vs,ns,rfl,rfl,hobj,hints,hlen⟩:=Xy hn hpre hwl
 refine enter_call (kL (call w s₀ s₁ mg mb fa o pm cd doc a vs ns G Y ho (fd_plain hd) hcd hmg hobj hints hlen hg) fun r s' hq=>?_)
 obtain⟨rfl,h2,h3,h4⟩:=hq
 exact⟨.inl ⟨.bool true,.bool true,[],rfl,fun _=>rfl,.bool true,Xz l _,fun _=>⟨List.Pairwise.nil,fun _ hm=>(nomatch hm)⟩⟩,h2,h3,h4⟩
section
variable {prog:Program} {w:World} {A:Around} {E:VP_} {s:Shared} {K:Frag}
end
end Att
namespace L2
open PySem PySem.Spec PyProof.Rows
theorem vK:∀ {vs:List Value} {ns:List Int},IntsAre vs ns->Vals (ns.map V.int) vs
 |_,_,.nil=>.nil
 |_,_,.cons n t h=>.cons ⟨t,rfl⟩ (vK h)
def Only (H:Hp):Prop:=∀ b,H b=none\/∃ o xs,H b=some (.CV o (.lst xs))
theorem Zw {P:Program} {w:World} {K:FG_} {mg mb:Str->Option Value} {CX:TQ} {k:Nat} {fa a:Addr} {fd:FuncData} {x:Str} {sp:Sp} {s₁:Shared} {vs:List Value} {ns:List Int}
  (KX:K.In s₁.heap) (hns:s₁.heap.Ns mainGlobals mg) (hb:s₁.heap.Ns builtinsNs mb) (hbb:∀ x:Str,x ≠ "__name__" → mb x=bootBuiltins x) (hlim:s₁.heap.NoLimit) (hg:s₁.gens=#[])
  (ha:s₁.heap.get? a=some { cls:=.type "list", data:=.seq vs.toArray }) (hi:IntsAre vs ns) (hl:ns.length<=sizeLine) (hr:lR k callerA)
  (F:∀ base:Heap,K.In base->base.Ns mainGlobals mg->bx P w K mg base CX k fa fd [x] sp) (hbind:∀ (s:Shared) (u:Value),BindsTo s fd ⟨[u],[]⟩ [(x,u)])
  (hsp:∀ H:Hp,Only H->vH K H a (ns.map V.int)->sp [.ref a] H (fun v _=>v=.bl true) fun _ _ _=>False)
  (hCX:∀ H e s',CX [] H s₁ (fun _ _ _=>False) e s'->False) :
  codeAny (model P w) callerA (.call (.ref fa) ⟨[.ref a],[]⟩) (fun r s'=>r=.ok (.ret (.bool true))/\OldK s₁.heap s'.heap/\s'.os=s₁.os/\AllBare s'.gens) s₁:=by
 have rv:=vK hi
 have lenV:=hi.length
 have core:∀ H:Hp,Only H->vH K H a (ns.map V.int)->yN P w H s₁.heap->(∀ b,H b≠none->b=a)->(H a≠none->K.lookup a=none) →
   codeAny (model P w) callerA (.call (.ref fa) ⟨[.ref a],[]⟩) (fun r s'=>r=.ok (.ret (.bool true))/\OldK s₁.heap s'.heap/\s'.os=s₁.os/\AllBare s'.gens) s₁:=by
  intro H hO hS hok hA hK
  have V5:∀ {b:Addr} {o:Obj},s₁.heap.get? b=some o->H b=none->(Oj s₁.heap H).get? b=some o:=fun e n=>Y7 e n
  have noA:∀ {b:Addr} {o:Obj} {es:Array DictEntry} {ep:Nat},s₁.heap.get? b=some o->o.data=.dict es ep->H b=none:=fun {b o es ep} e d=>by
   cases q:H b with
   |none=>rfl
   |some u=>
    have e':b=a:=hA b (by rw[q];simp)
    subst e'
    rw[ha] at e;cases e
    have d':Data.seq vs.toArray _=Data.dict es ep:=d
    cases d'
  have nsK:∀ {b:Addr} {m:Str->Option Value},s₁.heap.Ns b m->(Oj s₁.heap H).Ns b m:=fun {b m} ⟨o,es,ep,e,d,r⟩=>⟨o,es,ep,V5 e (noA e d),d,r⟩
  have hKb:K.In (Oj s₁.heap H):=fun b o e=>V5 (KX b o e) (by
   cases q:H b with
   |none=>rfl
   |some u=>
    have e':b=a:=hA b (by rw[q];simp)
    subst e'
    rw[hK (by rw[q];simp)] at e;cases e)
  have hM:Mod K mg (Oj s₁.heap H):=⟨hKb,nsK hns,⟨mb,nsK hb,hbb⟩,let ⟨mc,h1,h2⟩:=hlim;⟨mc,nsK h1,h2⟩⟩
  have e0:Mu P w K mg (Oj s₁.heap H) callerA [] s₁ H:=⟨rfl,hM,fun b o e=>abZ e,Nat.le_of_eq (Xf _ _),trivial,fun b hb=>absurd (show b∈([]:List Addr) from hb) (by simp),hok,.of_eq hg⟩
  refine kL ((F _ hKb (nsK hns)).run callerA [] s₁ H ⟨[.ref a],[]⟩ [.ref a] [.ref a] _ _ hr e0 (hbind s₁ (.ref a)) (.cons rfl .nil) (hsp H hO hS)) fun r s' h=>?_
  cases r with
  |error e=>exact (hCX H e s' h).elim
  |ok fl=>
   cases fl with
   |next=>exact False.elim h
   |brk=>exact False.elim h
   |cont=>exact False.elim h
   |ret u=>
    obtain⟨v,H',os,bare,un,hok',r',q⟩:=h
    have q':v=.bl true:=q
    subst q'
    obtain rfl:u=Value.bool true:=r'
    refine⟨rfl,OldK.of_keep fun b o e=>?_,os,bare⟩
    cases q:H b with
    |none=>exact un.keep b o e q (by intro z;exact absurd (show b∈([]:List Addr) from z) (by simp)) (by simp)
    |some u=>
     rcases hO b with z|⟨ob,xs,z⟩
     ·rw[q] at z;cases z
     ·have z2:=un.wU b ob _ z
      obtain⟨e1,_⟩:=hok b _ z
      obtain⟨e2,_⟩:=hok' b _ z2
      rw[e] at e1;cases e1
      exact e2
 cases hk:K.lookup a with
 |some o=>
  have e:=KX a o hk
  rw[ha] at e
  cases e
  refine core (fun _=>none) (fun _=>.inl rfl) (.inr ⟨_,vs.toArray,_,hk,rfl,rfl,rfl,by rw[zv,lenV];exact hl,by simpa using rv⟩) (fun b u z=>by have z':(none:Option HO)=some u:=z;cases z') (fun b z=>absurd rfl z) fun z=>absurd rfl z
 |none=>
  refine core (fun b=>if b=a then some (.CV { cls:=.type "list", data:=.seq vs.toArray } (.lst (ns.map V.int))) else none) (fun b=>?_) (.inl (.inr ⟨{ cls:=.type "list", data:=.seq vs.toArray },zk rfl⟩)) (fun b u z=>?_) (fun b z=>?_) fun _=>hk
  ·by_cases hb:b=a
   ·exact .inr ⟨_,_,zk hb⟩
   ·exact .inl (zI hb)
  ·by_cases hb:b=a
   ·have z':=(zk hb).symm.trans z
    cases z'
    subst hb
    exact⟨ha,by rw[zh];exact hl,vs,_,rv,ha⟩
   ·have z':=(zI hb).symm.trans z
    cases z'
  ·by_cases hb:b=a
   ·exact hb
   ·exact absurd (zI hb) z
end L2
namespace L2
open PySem PySem.Spec PyProof.Rows
theorem acu {l:PySem.W.OpenLaw} {n k:Nat} {q:Program} {loose:LS_} {XP:(Str->Option Value)->Heap->Prop} {YP:World->Heap->Prop} {d:DefRec} {K:Params->FG_} {CX:World->TQ} {sp:World->Sp} {x:Str}
  (hn:l.most=some n) (hn2:n<=sizeLine) (hdf:d.params.defaults=[]) (hr:lR k callerA)
  (hY:∀ (w:World) (h:Heap),YP w h->(K w.params).In h)
  (F:∀ (w:World) (mg:Str->Option Value) (fa:Addr) (h:Heap),(K w.params).In h->h.Ns mainGlobals mg->mg d.name=some (.ref fa) →
   ∃ fd:FuncData,(∀ (s:Shared) (u:Value),BindsTo s fd ⟨[u],[]⟩ [(x,u)]) ∧
    ∀ base:Heap,(K w.params).In base->base.Ns mainGlobals mg->bx l.prog w (K w.params) mg base (CX w) k fa fd [x] (sp w))
  (hsp:∀ (w:World) (H:Hp) (a:Addr) (ns:List Int),ns.length<=n->Only H->vH (K w.params) H a (ns.map V.int)->sp w [.ref a] H (fun v _=>v=.bl true) fun _ _ _=>False)
  (hCX:∀ (w:World) (H:Hp) (s:Shared) (e:Value) (s':Shared),CX w [] H s (fun _ _ _=>False) e s'->False) :
  PySem.W.WalkO q loose XP YP l.row.toRowW d [] (fun f vs=>PySem.call f vs):=by
 refine Att.QW hn hdf fun w s₀ s₁ mg mb fa o pm cd doc a vs ns G Y ho hd hcd hmg hobj hints hlen hg=>?_
 have KX:=hY w _ Y
 obtain⟨fd,hb,hF⟩:=F w mg fa _ KX G.T.g hmg
 exact Zw KX G.T.g G.T.b G.T.builtins G.T.nolimit hg hobj hints (zz hlen hn2) hr hF hb (fun H hO hS=>hsp w H a ns hlen hO hS) fun H e s'=>hCX w H s₁ e s'
theorem Zx {l:PySem.W.OpenLaw} {n k:Nat} {q:Program} {loose:LS_} {XP:(Str->Option Value)->Heap->Prop} {YP:World->Heap->Prop} {d:DefRec} {K:Params->FG_} {CX:TQ} {sp:FG_->Sp} {x:Str}
  (hn:l.most=some n) (hn2:n<=sizeLine) (hdf:d.params.defaults=[]) (hr:lR k callerA)
  (hY:∀ (w:World) (h:Heap),YP w h->(K w.params).In h)
  (F:∀ (w:World) (mg:Str->Option Value) (fa:Addr) (h:Heap),(K w.params).In h->h.Ns mainGlobals mg->mg d.name=some (.ref fa) →
   ∃ fd:FuncData,(∀ (s:Shared) (u:Value),BindsTo s fd ⟨[u],[]⟩ [(x,u)]) ∧
    ∀ base:Heap,(K w.params).In base->base.Ns mainGlobals mg->bx l.prog w (K w.params) mg base CX k fa fd [x] (sp (K w.params)))
  (hsp:∀ (K:FG_) (H:Hp) (a:Addr) (ns:List Int),ns.length<=n->Only H->vH K H a (ns.map V.int)->sp K [.ref a] H (fun v _=>v=.bl true) fun _ _ _=>False)
  (hCX:∀ (H:Hp) (s:Shared) (e:Value) (s':Shared),CX [] H s (fun _ _ _=>False) e s'->False) :
  PySem.W.WalkO q loose XP YP l.row.toRowW d [] (fun f vs=>PySem.call f vs):=
 acu (K:=K) (CX:=fun _=>CX) (sp:=fun w=>sp (K w.params)) hn hn2 hdf hr hY F (fun w H a ns h1 h2 h3=>hsp (K w.params) H a ns h1 h2 h3) fun _ H s e s'=>hCX H s e s'
end L2
namespace L2
open PySem PySem.Spec PyProof.Rows
def ux (s:Stmt):Arguments:=match s with
 |.FunctionDef _ a _ _ _ _ _ _ _ _=>a
 |_=>{ posonlyargs:=[],args:=[],vararg:=none,kwonlyargs:=[],kw_defaults:=[],kwarg:=none,defaults:=[] }
def jZ (s:Stmt):List Stmt:=match s with
 |.FunctionDef _ _ b _ _ _ _ _ _ _=>b
 |_=>[]
def aP (s:Stmt):Scope:=match s with
 |.FunctionDef _ _ _ _ _ _ sc _ _ _=>sc
 |_=>{ kind:=.function,names:=[],isGenerator:=false,isCoroutine:=false }
abbrev fB:TQ:=fun _ _ _ _ _ _=>False
abbrev E0:XK:=fun _ _ _=>False
theorem ahq {X:Cx}:Passes fB X E0:=fun _ _ _ _ _ _ _ h=>h.elim
structure qI (K:FG_) (x qual:Str) (st:Stmt) (f:Addr) (fd:FuncData):Prop where
 ex:∃ (oc:Value) (od:Option Addr) (kV doc pm:Value) (an:Option Addr) (cdv ct:Value) (osl:Array (Option Value)),
  fd=PySem.W.fnOf x qual (ux st) (jZ st) (aP st) .none kV doc pm an cdv ct/\K.lookup f=some ⟨oc,od,.func fd,osl⟩/\PySem.W.codeIn K cdv qual=true
 kp:PySem.W.keepIn K (.ref f)=true
section
variable {P:Program} {w:World} {K:FG_} {mg:Str->Option Value} {base:Heap}
theorem qI.ok {x qual:Str} {st:Stmt} {f:Addr} {fd:FuncData} {N ps:LS_} {k:Nat} {sp:Sp} (F:qI K x qual st f fd) (S:bD N ps (aP st)) (len:∀ vs H Q E,sp vs H Q E->vs.length=ps.length)
  (hbody:∀ (cdv:Value) (A:Around) (outer:List Env) (s:Shared) (H:Hp) (vs:List V) (Q:VK) (E:XK),lR k (A.deeper (envOfC qual (aP st) s.heap.objs.size f cdv))->sp vs H Q E →
   ∃ t,CT (BR fB P w K mg base N qual (aP st) f cdv A outer s H E).TJ (jZ st) t/\t { nx:=fun _ H'=>Q .non H',rt:=Q } (start N vs) H):bx P w K mg base fB (k+1) f fd ps sp:=by
 obtain⟨oc,od,kV,doc,pm,an,cdv,ct,osl,rfl,lk,hcd⟩:=F.ex
 refine ad6 lk hcd S len fun A outer s H vs Q E hr hsp=>?_
 obtain⟨t,h,q⟩:=hbody cdv A outer s H vs Q E hr hsp
 exact⟨t,h.TJ,q⟩
theorem qI.binds {x qual:Str} {st:Stmt} {f:Addr} {fd:FuncData} {ps:LS_} (F:qI K x qual st f fd)
  (h:∀ (kV doc pm:Value) (an:Option Addr) (cdv ct:Value) (us:List Value),us.length=ps.length->bindArgs (PySem.W.fnOf x qual (ux st) (jZ st) (aP st) .none kV doc pm an cdv ct) ⟨us,[]⟩=pure (ps.zip us)):Binds K fd ps []:=by
 obtain⟨oc,od,kV,doc,pm,an,cdv,ct,osl,rfl,lk,hcd⟩:=F.ex
 exact .all (h kV doc pm an cdv ct)
theorem dF {x qual:Str} {st:Stmt} {f:Addr} {oc:Value} {od an:Option Addr} {osl:Array (Option Value)} {kV doc pm cdv ct:Value} (l:K.lookup f=some ⟨oc,od,.func (PySem.W.fnOf x qual (ux st) (jZ st) (aP st) .none kV doc pm an cdv ct),osl⟩)
  (c:PySem.W.codeIn K cdv qual=true) (k:PySem.W.keepIn K (.ref f)=true):qI K x qual st f (PySem.W.fnOf x qual (ux st) (jZ st) (aP st) .none kV doc pm an cdv ct):=⟨⟨oc,od,kV,doc,pm,an,cdv,ct,osl,rfl,l,c⟩,k⟩
end
section
variable {X:Cx}
theorem pv (i:Nat) {x:Str} {pos:Pos} (hN:X.N[i]?=some x:=by rfl) (hv:Mt X.env.scope x:=by first|exact ZU rfl|exact Zs (ZU rfl)|exact Zs (Zs rfl)) (hd:(x==("__debug__" : Str))=false:=by decide)
  (hcd:(x==("__classdict__" : Str))=false:=by decide):PE X (.Name x pos) (Za i):=tD hN hv hd hcd
end
def Same (H H':Hp):Prop:=∀ b o,H b=some o->H' b=some o
theorem Same.refl (H:Hp):Same H H:=fun _ _ h=>h
theorem Same.trans {H H1 H2:Hp} (a:Same H H1) (b:Same H1 H2):Same H H2:=fun c o h=>b c o (a c o h)
theorem Same.free {H H':Hp} (e:Same H H') {l:Addr} (h:H' l=Option.none):H l=Option.none:=by
 cases q:H l with
 |none=>rfl
 |some o=>
  rw[e l o q] at h
  cases h
theorem Same.seq {K:FG_} {H H':Hp} {a:Addr} {xs:List V} (e:Same H H') (h:vH K H a xs):vH K H' a xs:=by
 rcases h with (h|⟨o,h⟩)|h
 ·exact .inl (.inl (e _ _ h))
 ·exact .inl (.inr ⟨o,e _ _ h⟩)
 ·exact .inr h
end L2
end
section
namespace P1
open PySem PySem.Spec PyProof.Rows L2
inductive Dt where
 |non|bl (b:Bool)|int (i:Int)|str (x:Str)|tup (xs:List Dt)|lst (xs:List Dt)|emp
inductive Bx where
 |z (d:Dt)|l (ds:List Dt)|o (ds:List Dt)|n (kvs:List (Key×Dt))|m (kvs:List (Key×Dt)) (w:Option Addr)
abbrev Ev:=List (Option Bx)
def FzL (K:FG_) (H:Hp) (a:Addr) (xs:List V):Prop:=
 (∃ o,H a=some (.CV o (.lst xs))) ∨
  ∃ (o:Obj) (its:Array Value) (n:Nat),K.lookup a=some o/\o.cls=.type "list" ∧ o.dict=none/\o.data=.seq its n/\its.size<=sizeLine/\Vals xs its.toList
theorem FzL.sq {K:FG_} {H:Hp} {a:Addr} {xs:List V} (h:FzL K H a xs):vH K H a xs:=by
 rcases h with h|h
 ·exact .inl (.inr h)
 ·exact .inr h
mutual
def Rep (K:FG_) (H:Hp):Dt->V->Prop
 |.non,v=>v=.non
 |.bl b,v=>v=.bl b
 |.int i,v=>v=.int i
 |.str x,v=>v=.str x/\x.length<=sizeLine
 |.tup ds,v=>∃ a vs,v=.ref a/\Dd K H a vs/\aW K H ds vs
 |.lst ds,v=>∃ a vs,v=.ref a/\FzL K H a vs/\aW K H ds vs
 |.emp,v=>∃ a o,v=.ref a/\H a=some (.CV o (.dK []))
def aW (K:FG_) (H:Hp):List Dt->List V->Prop
 |[],vs=>vs=[]
 |d::ds,vs=>∃ v r,vs=v::r/\Rep K H d v/\aW K H ds r
end
structure Kp (H H':Hp):Prop where
 t:∀ a xs,H a=some (.tup xs)->H' a=some (.tup xs)
 f:∀ a o u,H a=some (.CV o u)->H' a=some (.CV o u)
theorem Kp.of {H H':Hp} (s:Same H H'):Kp H H':=⟨fun a _ h=>s a _ h,fun a _ _ h=>s a _ h⟩
theorem Kp.sqT {K:FG_} {H H':Hp} {a:Addr} {xs:List V} (k:Kp H H') (h:Dd K H a xs):Dd K H' a xs:=by
 rcases h with (h|⟨o,h⟩)|h
 ·exact .inl (.inl (k.t _ _ h))
 ·exact .inl (.inr ⟨o,k.f _ _ _ h⟩)
 ·exact .inr h
theorem Kp.fzL {K:FG_} {H H':Hp} {a:Addr} {xs:List V} (k:Kp H H') (h:FzL K H a xs):FzL K H' a xs:=by
 rcases h with⟨o,h⟩|h
 ·exact .inl ⟨o,k.f _ _ _ h⟩
 ·exact .inr h
theorem Kp.lst {H:Hp} {a:Addr} {xs:List V} {o:HO} (h:H a=some (.lst xs)):Kp H (upd H a o):=by
 refine⟨fun b ys e=>?_,fun b ob u e=>?_⟩
 ·rw[aV (yh e h (by intro z;cases z))];exact e
 ·rw[aV (yh e h (by intro z;cases z))];exact e
theorem Kp.dk {H:Hp} {a:Addr} {xs:List (Key×V)} {o:HO} (h:H a=some (.dK xs)):Kp H (upd H a o):=by
 refine⟨fun b ys e=>?_,fun b ob u e=>?_⟩
 ·rw[aV (yh e h (by intro z;cases z))];exact e
 ·rw[aV (yh e h (by intro z;cases z))];exact e
mutual
theorem Rep.kp {K:FG_} {H H':Hp} (k:Kp H H'):∀ {d:Dt} {v:V},Rep K H d v->Rep K H' d v
 |.non,_,h=>by simpa only[Rep] using h
 |.bl _,_,h=>by simpa only[Rep] using h
 |.int _,_,h=>by simpa only[Rep] using h
 |.str _,_,h=>by simpa only[Rep] using h
 |.tup ds,_,h=>by
  simp only[Rep] at h ⊢
  obtain⟨a,vs,e,q,r⟩:=h
  exact⟨a,vs,e,k.sqT q,aW.kp k r⟩
 |.lst ds,_,h=>by
  simp only[Rep] at h ⊢
  obtain⟨a,vs,e,q,r⟩:=h
  exact⟨a,vs,e,k.fzL q,aW.kp k r⟩
 |.emp,_,h=>by
  simp only[Rep] at h ⊢
  obtain⟨a,o,e,q⟩:=h
  exact⟨a,o,e,k.f _ _ _ q⟩
theorem aW.kp {K:FG_} {H H':Hp} (k:Kp H H'):∀ {ds:List Dt} {vs:List V},aW K H ds vs->aW K H' ds vs
 |[],_,h=>by simpa only[aW] using h
 |d::ds,_,h=>by
  simp only[aW] at h ⊢
  obtain⟨v,r,e,q,t⟩:=h
  exact⟨v,r,e,Rep.kp k q,aW.kp k t⟩
end
theorem aW.length {K:FG_} {H:Hp}:∀ {ds:List Dt} {vs:List V},aW K H ds vs->vs.length=ds.length
 |[],_,h=>by simp only[aW] at h;subst h;rfl
 |d::ds,_,h=>by
  simp only[aW] at h
  obtain⟨v,r,rfl,_,t⟩:=h
  simp[aW.length t]
theorem aW.nil {K:FG_} {H:Hp}:aW K H [] []:=by simp only[aW]
theorem aW.cons {K:FG_} {H:Hp} {d:Dt} {v:V} {ds:List Dt} {vs:List V} (h:Rep K H d v) (t:aW K H ds vs):aW K H (d::ds) (v::vs):=by
 simp only[aW];exact⟨v,vs,rfl,h,t⟩
theorem aW.append {K:FG_} {H:Hp}:∀ {ds es:List Dt} {vs us:List V},aW K H ds vs->aW K H es us->aW K H (ds++es) (vs++us)
 |[],_,_,_,h,t=>by simp only[aW] at h;subst h;exact t
 |d::ds,_,_,_,h,t=>by
  simp only[aW] at h
  obtain⟨v,r,rfl,q,h⟩:=h
  exact aW.cons q (aW.append h t)
theorem aW.drop {K:FG_} {H:Hp}:∀ (n:Nat) {ds:List Dt} {vs:List V},aW K H ds vs->aW K H (ds.drop n) (vs.drop n)
 |0,_,_,h=>h
 |n+1,[],_,h=>by simp only[aW] at h;subst h;exact aW.nil
 |n+1,d::ds,_,h=>by
  simp only[aW] at h
  obtain⟨v,r,rfl,q,h⟩:=h
  exact aW.drop n h
theorem aW.take {K:FG_} {H:Hp}:∀ (n:Nat) {ds:List Dt} {vs:List V},aW K H ds vs->aW K H (ds.take n) (vs.take n)
 |0,_,_,_=>aW.nil
 |n+1,[],_,h=>by simp only[aW] at h;subst h;exact aW.nil
 |n+1,d::ds,_,h=>by
  simp only[aW] at h
  obtain⟨v,r,rfl,q,h⟩:=h
  exact aW.cons q (aW.take n h)
theorem aW.get {K:FG_} {H:Hp}:∀ {ds:List Dt} {vs:List V} {i:Nat} {d:Dt},aW K H ds vs->ds[i]?=some d->∃ v,vs[i]?=some v/\Rep K H d v
 |[],_,_,_,_,e=>by simp at e
 |d::ds,_,0,_,h,e=>by
  simp only[aW] at h
  obtain⟨v,r,rfl,q,h⟩:=h
  simp at e;subst e;exact⟨v,rfl,q⟩
 |d::ds,_,i+1,_,h,e=>by
  simp only[aW] at h
  obtain⟨v,r,rfl,q,h⟩:=h
  obtain⟨u,e1,e2⟩:=aW.get h (i:=i) (by simpa using e)
  exact⟨u,by simpa using e1,e2⟩
def okK:Key->Prop
 |.inl _=>True
 |.inr x=>x.length<=sizeLine
def lO (K:FG_) (H:Hp) (kvs:List (Key×Dt)) (ks:List (Key×V)):Prop:=ks.map (·.1)=kvs.map (·.1)/\aW K H (kvs.map (·.2)) (ks.map (·.2))/\∀ p∈kvs,okK p.1
theorem lO.kp {K:FG_} {H H':Hp} {kvs:List (Key×Dt)} {ks:List (Key×V)} (h:lO K H kvs ks) (k:Kp H H'):lO K H' kvs ks:=⟨h.1,h.2.1.kp k,h.2.2⟩
def bH (K:FG_) (H:Hp):Bx->V->Prop
 |.z d,v=>Rep K H d v
 |.l ds,v=>∃ a vs,v=.ref a/\Rd H a (.lst vs)/\aW K H ds vs
 |.o ds,v=>∃ a vs,v=.ref a/\H a=some (.lst vs)/\aW K H ds vs
 |.n kvs,v=>∃ a ks,v=.ref a/\Rd H a (.dK ks)/\lO K H kvs ks
 |.m kvs w,v=>∃ a ks,v=.ref a/\H a=some (.dK ks)/\lO K H kvs ks/\∀ b,w=some b->b=a
theorem bH.same {K:FG_} {H H':Hp} (s:Same H H') {b:Bx} {v:V} (h:bH K H b v):bH K H' b v:=by
 cases b with
 |z d=>exact Rep.kp (.of s) h
 |l ds=>
  obtain⟨a,vs,e,q,r⟩:=h
  refine⟨a,vs,e,?_,r.kp (.of s)⟩
  rcases q with q|⟨o,q⟩
  ·exact .inl (s _ _ q)
  ·exact .inr ⟨o,s _ _ q⟩
 |o ds=>
  obtain⟨a,vs,e,q,r⟩:=h
  exact⟨a,vs,e,s _ _ q,r.kp (.of s)⟩
 |n kvs=>
  obtain⟨a,vs,e,q,r⟩:=h
  refine⟨a,vs,e,?_,r.kp (.of s)⟩
  rcases q with q|⟨o,q⟩
  ·exact .inl (s _ _ q)
  ·exact .inr ⟨o,s _ _ q⟩
 |m kvs _=>
  obtain⟨a,vs,e,q,r⟩:=h
  exact⟨a,vs,e,s _ _ q,r.1.kp (.of s),r.2⟩
def yJ:Bx->Option (List Dt)
 |.z (.lst ds)=>some ds
 |.l ds=>some ds
 |.o ds=>some ds
 |_=>none
theorem bH.Ni {K:FG_} {H:Hp} {b:Bx} {v:V} {ds:List Dt} (h:bH K H b v) (e:yJ b=some ds):∃ a vs,v=.ref a/\vH K H a vs/\aW K H ds vs:=by
 cases b with
 |z d=>
  cases d<;>first|(cases e;done)|skip
  cases e
  simp only[bH,Rep] at h
  obtain⟨a,vs,e,q,r⟩:=h
  exact⟨a,vs,e,q.sq,r⟩
 |l ds'=>
  cases e
  obtain⟨a,vs,e,q,r⟩:=h
  exact⟨a,vs,e,.inl q,r⟩
 |o ds'=>
  cases e
  obtain⟨a,vs,e,q,r⟩:=h
  exact⟨a,vs,e,.inl (.inl q),r⟩
 |n _=>cases e
 |m _ _=>cases e
abbrev vL (K:FG_) (H:Hp):List Bx->List V->Prop:=Paired (bH K H)
theorem vL.same {K:FG_} {H H':Hp} (s:Same H H') {bs:List Bx} {vs:List V} (h:vL K H bs vs):vL K H' bs vs:=Paired.imp' (fun _ _ q=>bH.same s q) h
def Nw (H:Hp):Bx->V->Prop
 |.o _,v=>∀ a,v=.ref a->H a=none
 |.m _ _,v=>∀ a,v=.ref a->H a=none
 |_,_=>True
theorem Nw.old {H H1:Hp} (s:Same H H1) {b:Bx} {v:V} (h:Nw H1 b v):Nw H b v:=by
 cases b with
 |o ds=>exact fun a e=>s.free (h a e)
 |m ds _=>exact fun a e=>s.free (h a e)
 |_=>trivial
def loose:Bx->Bool
 |.z _=>false
 |_=>true
def BX:Bx->Bool
 |.o _=>true
 |.m _ _=>true
 |_=>false
structure bF (K:FG_) (H0 H:Hp) (σ:L2.St) (ρ:Ev):Prop where
 len:σ.length=ρ.length
 val:∀ (i:Nat) b,ρ[i]?=some (some b)->∃ v,σ[i]?=some (some v)/\bH K H b v
 own:∀ (i j:Nat) c a b,ρ[i]?=some (some c)->BX c=true->σ[i]?=some (some (.ref a))->ρ[j]?=some (some b)->loose b=true->σ[j]?=some (some (.ref a))->i=j
 base:Same H0 H
 new:∀ (i:Nat) c a,ρ[i]?=some (some c)->BX c=true->σ[i]?=some (some (.ref a))->H0 a=none
theorem bF.grow {K:FG_} {H0 H H':Hp} {σ:L2.St} {ρ:Ev} (r:bF K H0 H σ ρ) (s:Same H H'):bF K H0 H' σ ρ:=
 ⟨r.len,fun i b e=>let ⟨v,e1,h⟩:=r.val i b e;⟨v,e1,h.same s⟩,r.own,r.base.trans s,r.new⟩
def tF (K:FG_) (f:Ev->Option Bx):TE:=fun σ H Q=>∃ H0 ρ b,bF K H0 H σ ρ/\f ρ=some b/\∀ v H',Same H H'->Nw H b v->bH K H' b v->Q v H'
def tFA (K:FG_) (f:Ev->Option (List Bx)):TA:=fun σ H Q=>∃ H0 ρ bs,bF K H0 H σ ρ/\f ρ=some bs/\∀ vs H',Same H H'->vL K H' bs vs->Q vs H'
def tFT (K:FG_) (f:Ev->Option Bool):TT:=fun σ H Q=>∃ H0 ρ b,bF K H0 H σ ρ/\f ρ=some b/\∀ H',Same H H'->Q b H'
def PV (X:Cx) (e:Expr) (f:Ev->Option Bx):Prop:=PE X e (tF X.K f)
structure QV (X:Cx) (e:Expr) (f:Ev->Option Bx):Prop where
 run:PV X e f
def PVs (X:Cx) (es:List Expr) (f:Ev->Option (List Bx)):Prop:=PA X es (tFA X.K f)
structure QVs (X:Cx) (es:List Expr) (f:Ev->Option (List Bx)):Prop where
 run:PVs X es f
def PB (X:Cx) (e:Expr) (f:Ev->Option Bool):Prop:=PT X e (tFT X.K f)
structure QB (X:Cx) (e:Expr) (f:Ev->Option Bool):Prop where
 run:PB X e f
theorem Jx {X:Cx} {e:Expr} {t t':TE} (h:PE X e t) (m:∀ σ H Q,t' σ H Q->t σ H Q):PE X e t':=fun pins s σ H Q I q=>h pins s σ H Q I (m σ H Q q)
theorem paM {X:Cx} {e:List Expr} {t t':TA} (h:PA X e t) (m:∀ σ H Q,t' σ H Q->t σ H Q):PA X e t':=fun pos pins s σ H Q I q=>h pos pins s σ H Q I (m σ H Q q)
theorem ptM {X:Cx} {e:Expr} {t t':TT} (h:PT X e t) (m:∀ σ H Q,t' σ H Q->t σ H Q):PT X e t':=fun pins s σ H Q I q=>h pins s σ H Q I (m σ H Q q)
theorem pwM {X:Cx} {e:Expr} {t t':TT} (h:PW X e t) (m:∀ σ H Q,t' σ H Q->t σ H Q):PW X e t':=fun wh pins s σ H Q I q=>h wh pins s σ H Q I (m σ H Q q)
theorem psM {X:Cx} {e:Stmt} {t t':TS} (h:PS X e t) (m:∀ D σ H,t' D σ H->t D σ H):PS X e t':=fun pins s σ H D I q=>h pins s σ H D I (m D σ H q)
theorem OD {X:Cx} {e:List Stmt} {t t':TS} (h:CT X e t) (m:∀ D σ H,t' D σ H->t D σ H):CT X e t':=fun pins s σ H D I q=>h pins s σ H D I (m D σ H q)
def rF (K:FG_) (g:Bx->Bx->Option Bx):R2:=fun x y H Q=>∃ a b c,bH K H a x/\bH K H b y/\g a b=some c/\∀ w H',Same H H'->Nw H c w->bH K H' c w->Q w H'
def rFs (K:FG_) (g:List Bx->Option Bx):List V->Hp->VK->Prop:=fun xs H Q=>∃ bs c,vL K H bs xs/\g bs=some c/\∀ w H',Same H H'->Nw H c w->bH K H' c w->Q w H'
abbrev Mr (X:Cx) (f:Value->Value->Sem Value) (g:Bx->Bx->Option Bx):Prop:=yI X f (rF X.K g)
abbrev Dj (X:Cx) (f:Value) (g:List Bx->Option Bx):Prop:=jV X f (rFs X.K g)
theorem yI.imp {X:Cx} {f:Value->Value->Sem Value} {r r':R2} (h:yI X f r) (m:∀ x y H Q,r' x y H Q->r x y H Q):yI X f r':=fun pins s σ H x y v u Q I rx ry q=>h pins s σ H x y v u Q I rx ry (m x y H Q q)
theorem UnR.imp {X:Cx} {f:Value->Sem Value} {r r':V->Hp->VK->Prop} (h:UnR X f r) (m:∀ x H Q,r' x H Q->r x H Q):UnR X f r':=fun pins s σ H x v Q I rx q=>h pins s σ H x v Q I rx (m x H Q q)
theorem jV.imp {X:Cx} {f:Value} {r r':List V->Hp->VK->Prop} (h:jV X f r) (m:∀ x H Q,r' x H Q->r x H Q):jV X f r':=fun pins s σ H xs us Q I rx q=>h pins s σ H xs us Q I rx (m xs H Q q)
def b2 (g:Bx->Bx->Option Bx) (fa fb:Ev->Option Bx):Ev->Option Bx:=fun ρ=>(fa ρ).bind fun x=>(fb ρ).bind fun y=>g x y
def b1 (g:Bx->Option Bx) (fa:Ev->Option Bx):Ev->Option Bx:=fun ρ=>(fa ρ).bind g
def dZ (g:List Bx->Option Bx) (fs:Ev->Option (List Bx)):Ev->Option Bx:=fun ρ=>(fs ρ).bind g
theorem bind_some {α β:Type} {o:Option α} {f:α->Option β} {b:β} (h:o.bind f=some b):∃ a,o=some a/\f a=some b:=by
 cases o with
 |none=>cases h
 |some a=>exact⟨a,rfl,h⟩
theorem Zy {K:FG_} {g:Bx->Bx->Option Bx} {fa fb:Ev->Option Bx} (σ:L2.St) (H:Hp) (Q:VK) (h:tF K (b2 g fa fb) σ H Q):tOp (rF K g) (tF K fa) (tF K fb) σ H Q:=by
 obtain⟨H0,ρ,c,E,e,q⟩:=h
 obtain⟨a,ea,e⟩:=bind_some e
 obtain⟨b,eb,e⟩:=bind_some e
 refine⟨H0,ρ,a,E,ea,fun v H1 s1 n1 r1=>⟨H0,ρ,b,E.grow s1,eb,fun u H2 s2 n2 r2=>?_⟩⟩
 exact⟨a,b,c,r1.same s2,r2,e,fun w H3 s3 n3 r3=>q w H3 ((s1.trans s2).trans s3) (n3.old (s1.trans s2)) r3⟩
theorem convs {K:FG_} {g:List Bx->Option Bx} {fs:Ev->Option (List Bx)} (σ:L2.St) (H:Hp) (Q:VK) (h:tF K (dZ g fs) σ H Q):tCB (rFs K g) (tFA K fs) σ H Q:=by
 obtain⟨H0,ρ,c,E,e,q⟩:=h
 obtain⟨a,ea,e⟩:=bind_some e
 exact⟨H0,ρ,a,E,ea,fun v H1 s1 r1=>⟨a,c,r1,e,fun w H3 s3 n3 r3=>q w H3 (s1.trans s3) (n3.old s1) r3⟩⟩
section
variable {X:Cx} {a b c e:Expr} {es:List Expr} {fa fb fc f:Ev->Option Bx} {fs:Ev->Option (List Bx)} {pos:Pos}
theorem bf {op:Operator} {g:Bx->Bx->Option Bx} (ho:Mr X (binaryOp op) g) (ha:QV X a fa) (hb:QV X b fb):QV X (.BinOp a op b pos) (b2 g fa fb):=⟨have ha:=ha.run;have hb:=hb.run;Jx (ag4 ho ha hb) Zy⟩
theorem BZ {op:CmpOp} {g:Bx->Bx->Option Bx} (ho:Mr X (compareOp op) g) (ha:QV X a fa) (hb:QV X b fb) (hm:behindInMarks op b=false):QV X (.Compare a [op] [b] pos) (b2 g fa fb):=⟨have ha:=ha.run;have hb:=hb.run;Jx (ab6 ho ha hb hm) Zy⟩
def OJ:Bx->Option Bool
 |.z (.bl b)=>some b
 |_=>none
theorem Jy {K:FG_} {H:Hp} {b:Bx} {v:V} {k:Bool} (h:bH K H b v) (e:OJ b=some k):v=.bl k:=by
 cases b with
 |z d=>
  cases d<;>first|(cases e;done)|skip
  cases e
  simpa only[bH,Rep] using h
 |_=>cases e
theorem aht {K:FG_} {f:Ev->Option Bx} (σ:L2.St) (H:Hp) (Q:Bool->Hp->Prop) (h:tFT K (fun ρ=>(f ρ).bind OJ) σ H Q):tF K f σ H (fun x H'=>∃ k,x=.bl k/\Q k H'):=by
 obtain⟨H0,ρ,k,E,e,q⟩:=h
 obtain⟨b,eb,e⟩:=bind_some e
 exact⟨H0,ρ,b,E,eb,fun v H1 s1 n1 r1=>⟨k,Jy r1 e,q H1 s1⟩⟩
theorem cZ {op:CmpOp} {g:Bx->Bx->Option Bx} (ho:Mr X (compareOp op) g) (ha:QV X a fa) (hb:QV X b fb) (hm:behindInMarks op b=false):QB X (.Compare a [op] [b] pos) (fun ρ=>(b2 g fa fb ρ).bind OJ):=⟨have ha:=ha.run;have hb:=hb.run;ptM (Oq ho ha hb hm) fun σ H Q h=>Zy σ H _ (aht σ H Q h)⟩
def ch3 (g g':Bx->Bx->Option Bx) (fa fb fc:Ev->Option Bx):Ev->Option Bx:=fun ρ=>(fa ρ).bind fun x=>(fb ρ).bind fun y=>(g x y).bind fun r=>(OJ r).bind fun k=>if k=true then (fc ρ).bind fun w=>g' y w else some (.z (.bl false))
theorem ahv {K:FG_} {g g':Bx->Bx->Option Bx} {fa fb fc:Ev->Option Bx} (σ:L2.St) (H:Hp) (Q:VK) (h:tF K (ch3 g g' fa fb fc) σ H Q):Zh (rF K g) (rF K g') (tF K fa) (tF K fb) (tF K fc) σ H Q:=by
 obtain⟨H0,ρ,d,E,e,q⟩:=h
 obtain⟨a,ea,e⟩:=bind_some e
 obtain⟨b,eb,e⟩:=bind_some e
 obtain⟨r,er,e⟩:=bind_some e
 obtain⟨k,ek,e⟩:=bind_some e
 refine⟨H0,ρ,a,E,ea,fun v H1 s1 n1 r1=>⟨H0,ρ,b,E.grow s1,eb,fun u H2 s2 n2 r2=>?_⟩⟩
 refine⟨a,b,r,r1.same s2,r2,er,fun w H3 s3 n3 r3=>⟨k,Jy r3 ek,?_⟩⟩
 have s03:=(s1.trans s2).trans s3
 cases k with
 |false=>
  rw[zI zr] at e ⊢
  cases e
  exact q _ H3 s03 trivial (by simp only[bH,Rep])
 |true=>
  rw[zk rfl] at e ⊢
  obtain⟨w',ew,e⟩:=bind_some e
  refine⟨H0,ρ,w',E.grow s03,ew,fun x H4 s4 n4 r4=>?_⟩
  exact⟨b,w',d,(r2.same s3).same s4,r4,e,fun y H5 s5 n5 r5=>q y H5 ((s03.trans s4).trans s5) (n5.old (s03.trans s4)) r5⟩
theorem Zz {op op':CmpOp} {g g':Bx->Bx->Option Bx} (ho:Mr X (compareOp op) g) (ho':Mr X (compareOp op') g') (ha:QV X a fa) (hb:QV X b fb) (hc:QV X c fc) (hm:lastMarks [op,op'] [b,c]=false:=by with_unfolding_all rfl):QV X (.Compare a [op,op'] [b,c] pos) (ch3 g g' fa fb fc):=⟨have ha:=ha.run;have hb:=hb.run;have hc:=hc.run;Jx (Zi ho ho' ha hb hc hm) ahv⟩
def Hy (ρ:Ev) (i:Nat):Option Bx:=match ρ[i]? with
 |some (some (.o ds))=>some (.l ds)
 |some (some (.m kvs _))=>some (.n kvs)
 |some (some b)=>some b
 |_=>none
theorem QX {K:FG_} {H0 H:Hp} {σ:L2.St} {ρ:Ev} {i:Nat} {b:Bx} (E:bF K H0 H σ ρ) (e:Hy ρ i=some b):∃ v,σ[i]?=some (some v)/\bH K H b v:=by
 unfold Hy at e
 split at e
 ·rename_i ds h
  cases e
  obtain⟨v,e1,a,vs,e2,q,r⟩:=E.val i _ h
  exact⟨v,e1,a,vs,e2,.inl q,r⟩
 ·rename_i ds h
  cases e
  obtain⟨v,e1,a,vs,e2,q,r⟩:=E.val i _ h
  exact⟨v,e1,a,vs,e2,.inl q,r.1⟩
 ·rename_i b' h
  cases e
  exact E.val i _ h
 ·cases e
theorem Jc {ρ:Ev} {i:Nat} {b:Bx} (e:Hy ρ i=some b):BX b=false:=by
 unfold Hy at e
 split at e
 ·cases e;rfl
 ·cases e;rfl
 ·rename_i b' h1 h2 h3
  cases e
  cases b with
  |o ds=>exact absurd rfl (h1 ds)
  |m ds _=>exact absurd rfl (h2 ds _)
  |_=>rfl
 ·cases e
theorem aj (i:Nat) {x:Str} (hN:X.N[i]?=some x:=by rfl) (hv:Mt X.env.scope x:=by first|exact ZU rfl|exact Zs (ZU rfl)|exact Zs (Zs rfl)) (hd:(x==("__debug__" : Str))=false:=by decide) (hcd:(x==("__classdict__" : Str))=false:=by decide):QV X (.Name x pos) (fun ρ=>Hy ρ i):=⟨Jx (tD hN hv hd hcd) fun σ H Q h=>by
 obtain⟨H0,ρ,b,E,e,q⟩:=h
 obtain⟨v,e1,r⟩:=QX E e
 refine⟨v,e1,q v H (Same.refl H) ?_ r⟩
 cases b with
 |o ds=>have:=Jc e;cases this
 |m ds _=>have:=Jc e;cases this
 |_=>trivial⟩
def cB (d:Dt):Ev->Option Bx:=fun _=>some (.z d)
theorem XC {v:V} {d:Dt} (h:PE X e (tC v)) (r:∀ H,Rep X.K H d v):PV X e (cB d):=Jx h fun σ H Q q=>by
 obtain⟨H0,ρ,b,E,e,q⟩:=q
 cases e
 exact q v H (Same.refl H) trivial (r H)
theorem aH {i j}:QV X (.Constant (.int i) j pos) (cB (.int i)):=⟨XC aeN fun H=>by simp only[Rep]⟩
theorem tK {i j}:QV X (.Constant (.bool i) j pos) (cB (.bl i)):=⟨XC agU fun H=>by simp only[Rep]⟩
theorem wX {j}:QV X (.Constant .none j pos) (cB .non):=⟨XC TX fun H=>by simp only[Rep]⟩
theorem ZC {x:Str} {j} (hx:x.length<=sizeLine:=by decide):PV X (.Constant (.str x) j pos) (cB (.str x)):=XC aeO fun H=>by unfold Rep;exact⟨rfl,hx⟩
theorem QZ {x:Str} {i:Int} {t:Tok} (hg:Gl X x) (hm:X.mg x=some (.int i t)) (hd:(x==("__debug__" : Str))=false:=by decide):QV X (.Name x pos) (cB (.int i)):=⟨XC (IV hg hm (v:=.int i) ⟨t,rfl⟩ hd) fun H=>by simp only[Rep]⟩
theorem Jz {x:Str} {y:Str} {t:Tok} (hg:Gl X x) (hm:X.mg x=some (.str y t)) (hy:y.length<=sizeLine:=by decide) (hd:(x==("__debug__" : Str))=false:=by decide):QV X (.Name x pos) (cB (.str y)):=⟨XC (IV hg hm (v:=.str y) ⟨t,rfl⟩ hd) fun H=>by unfold Rep;exact⟨rfl,hy⟩⟩
def XD:Bx->Option Bool
 |.z .non=>some false
 |.z (.bl b)=>some b
 |.z (.int i)=>some (i != 0)
 |.z (.str x)=>some ((x.length:Int) != 0)
 |.z (.tup ds)=>some (!ds.isEmpty)
 |.z (.lst ds)=>some (!ds.isEmpty)
 |.l ds=>some (!ds.isEmpty)
 |.o ds=>some (!ds.isEmpty)
 |.z .emp=>none
 |.n _=>none
 |.m _ _=>none
theorem aW.isEmpty {K:FG_} {H:Hp} {ds:List Dt} {vs:List V} (h:aW K H ds vs):(!ds.isEmpty)=!vs.isEmpty:=by
 have:=h.length
 cases ds<;>cases vs<;>simp_all
theorem acw {K:FG_} {H:Hp} {b:Bx} {v:V} {k:Bool} (r:bH K H b v) (e:XD b=some k):ae3 K v H k:=by
 cases b with
 |z d=>
  cases d with
  |non=>cases e;simp only[bH,Rep] at r;subst r;rfl
  |bl b=>cases e;simp only[bH,Rep] at r;subst r;rfl
  |int b=>cases e;simp only[bH,Rep] at r;subst r;rfl
  |str x=>cases e;simp only[bH,Rep] at r;obtain⟨rfl,h⟩:=r;exact⟨h,rfl⟩
  |tup ds=>
   cases e;simp only[bH,Rep] at r
   obtain⟨a,vs,rfl,q,r⟩:=r
   exact .inr (.inl ⟨vs,q,r.isEmpty⟩)
  |lst ds=>
   cases e
   obtain⟨a,vs,rfl,q,r⟩:=r.Ni rfl
   exact .inl ⟨vs,q,r.isEmpty⟩
  |emp=>cases e
 |l ds=>
  cases e
  obtain⟨a,vs,rfl,q,r⟩:=r.Ni rfl
  exact .inl ⟨vs,q,r.isEmpty⟩
 |o ds=>
  cases e
  obtain⟨a,vs,rfl,q,r⟩:=r.Ni rfl
  exact .inl ⟨vs,q,r.isEmpty⟩
 |n _=>cases e
 |m _ _=>cases e
theorem pW (h:QV X e f) (he:∀ whole,isTrue e X.env whole=(do let v <-whole;standAt e.pos;holding [v] (truthy v)):=by intro _;rfl):QB X e (fun ρ=>(f ρ).bind XD):=⟨have h:=h.run;ptM (Zj h he) fun σ H Q q=>by
 obtain⟨H0,ρ,k,E,e,q⟩:=q
 obtain⟨b,eb,e⟩:=bind_some e
 exact⟨H0,ρ,b,E,eb,fun v H1 s1 n1 r1=>⟨k,acw r1 e,q H1 s1⟩⟩⟩
def O1 (p q:Ev->Option Bool):Ev->Option Bool:=fun ρ=>(p ρ).bind fun c=>if c=true then q ρ else some false
def G4 (p q:Ev->Option Bool):Ev->Option Bool:=fun ρ=>(p ρ).bind fun c=>if c=true then some true else q ρ
def Bm (p:Ev->Option Bool):Ev->Option Bool:=fun ρ=>(p ρ).bind fun c=>some (!c)
def PBW (X:Cx) (e:Expr) (f:Ev->Option Bool):Prop:=PW X e (tFT X.K f)
structure QBW (X:Cx) (e:Expr) (f:Ev->Option Bool):Prop where
 run:PBW X e f
variable {p q:Ev->Option Bool} {rest:List Expr}
theorem Q0 (ha:QB X a p):QBW X (.BoolOp .And [a] pos) p:=⟨have ha:=ha.run;ab3 ha⟩
theorem rH (ha:QB X a p):QBW X (.BoolOp .Or [a] pos) p:=⟨have ha:=ha.run;Zb ha⟩
theorem acy {K:FG_} (σ:L2.St) (H:Hp) (Q:Bool->Hp->Prop) (h:tFT K (O1 p q) σ H Q):agV (tFT K p) (tFT K q) σ H Q:=by
 obtain⟨H0,ρ,k,E,e,w⟩:=h
 obtain⟨c,ec,e⟩:=bind_some e
 refine⟨H0,ρ,c,E,ec,fun H1 s1=>?_⟩
 cases c with
 |true=>rw[zk rfl] at e ⊢;exact⟨H0,ρ,k,E.grow s1,e,fun H2 s2=>w H2 (s1.trans s2)⟩
 |false=>rw[zI zr] at e ⊢;cases e;exact w H1 s1
theorem afn {K:FG_} (σ:L2.St) (H:Hp) (Q:Bool->Hp->Prop) (h:tFT K (G4 p q) σ H Q):tOr (tFT K p) (tFT K q) σ H Q:=by
 obtain⟨H0,ρ,k,E,e,w⟩:=h
 obtain⟨c,ec,e⟩:=bind_some e
 refine⟨H0,ρ,c,E,ec,fun H1 s1=>?_⟩
 cases c with
 |true=>rw[zk rfl] at e ⊢;cases e;exact w H1 s1
 |false=>rw[zI zr] at e ⊢;exact⟨H0,ρ,k,E.grow s1,e,fun H2 s2=>w H2 (s1.trans s2)⟩
theorem O2 (ha:QB X a p) (hb:QBW X (.BoolOp .And (b::rest) pos) q):QBW X (.BoolOp .And (a::b::rest) pos) (O1 p q):=⟨have ha:=ha.run;have hb:=hb.run;pwM (aeP ha hb) acy⟩
theorem qO (ha:QB X a p) (hb:QBW X (.BoolOp .Or (b::rest) pos) q):QBW X (.BoolOp .Or (a::b::rest) pos) (G4 p q):=⟨have ha:=ha.run;have hb:=hb.run;pwM (ad3 ha hb) afn⟩
theorem Hz (h:QBW X e p):QB X e p:=⟨have h:=h.run;h.pt⟩
theorem tL (ha:QB X a p):QB X (.UnaryOp .Not a pos) (Bm p):=⟨have ha:=ha.run;ptM (aeQ ha) fun σ H Q h=>by
 obtain⟨H0,ρ,k,E,e,w⟩:=h
 obtain⟨c,ec,e⟩:=bind_some e
 cases e
 exact⟨H0,ρ,c,E,ec,fun H1 s1=>w H1 s1⟩⟩
def Mz (fa fb:Ev->Option Bx):Ev->Option Bx:=fun ρ=>((fa ρ).bind OJ).bind fun c=>if c=true then fb ρ else some (.z (.bl false))
theorem O4 {op} (h:QV X a fa):QV X (.BoolOp op [a] pos) fa:=⟨have h:=h.run;aeR h⟩
theorem Ca (ha:QV X a fa) (hb:QV X (.BoolOp .And (b::rest) pos) fb):QV X (.BoolOp .And (a::b::rest) pos) (Mz fa fb):=⟨have ha:=ha.run;have hb:=hb.run;Jx (aeS ha hb) fun σ H Q h=>by
 obtain⟨H0,ρ,k,E,e,w⟩:=h
 obtain⟨c,ec,e⟩:=bind_some e
 obtain⟨x,ex,ec⟩:=bind_some ec
 refine⟨H0,ρ,x,E,ex,fun v H1 s1 n1 r1=>⟨c,Jy r1 ec,?_⟩⟩
 cases c with
 |true=>rw[zk rfl] at e ⊢;exact⟨H0,ρ,k,E.grow s1,e,fun v H2 s2 n2 r2=>w v H2 (s1.trans s2) (n2.old s1) r2⟩
 |false=>rw[zI zr] at e ⊢;cases e;exact w _ H1 s1 trivial (by simp only[bH,Rep])⟩
def ifV (p:Ev->Option Bool) (fa fb:Ev->Option Bx):Ev->Option Bx:=fun ρ=>(p ρ).bind fun c=>if c=true then fa ρ else fb ρ
theorem Uh (hc:QB X c p) (ha:QV X a fa) (hb:QV X b fb):QV X (.IfExp c a b pos) (ifV p fa fb):=⟨have hc:=hc.run;have ha:=ha.run;have hb:=hb.run;Jx (Zc hc ha hb) fun σ H Q h=>by
 obtain⟨H0,ρ,k,E,e,w⟩:=h
 obtain⟨c,ec,e⟩:=bind_some e
 refine⟨H0,ρ,c,E,ec,fun H1 s1=>?_⟩
 cases c with
 |true=>rw[zk rfl] at e ⊢;exact⟨H0,ρ,k,E.grow s1,e,fun v H2 s2 n2 r2=>w v H2 (s1.trans s2) (n2.old s1) r2⟩
 |false=>rw[zI zr] at e ⊢;exact⟨H0,ρ,k,E.grow s1,e,fun v H2 s2 n2 r2=>w v H2 (s1.trans s2) (n2.old s1) r2⟩⟩
theorem Jd:PVs X [] (fun _=>some []):=paM tH fun σ H Q h=>by
 obtain⟨H0,ρ,bs,E,e,q⟩:=h
 cases e
 exact q [] H (Same.refl H) .nil
def ao (f:Ev->Option Bx) (fs:Ev->Option (List Bx)):Ev->Option (List Bx):=fun ρ=>(f ρ).bind fun b=>(fs ρ).bind fun bs=>some (b::bs)
theorem Dk (h1:PV X e f) (h2:PVs X es fs) (hs:starEach (e::es) X.env=(false,eval e X.env)::starEach es X.env:=by rfl):PVs X (e::es) (ao f fs):=paM (jY h1 h2 hs) fun σ H Q h=>by
 obtain⟨H0,ρ,bs,E,e,q⟩:=h
 obtain⟨b,eb,e⟩:=bind_some e
 obtain⟨bs',ebs,e⟩:=bind_some e
 cases e
 refine⟨H0,ρ,b,E,eb,fun v H1 s1 n1 r1=>⟨H0,ρ,bs',E.grow s1,ebs,fun vs H2 s2 r2=>?_⟩⟩
 exact q (v::vs) H2 (s1.trans s2) (.cons (r1.same s2) r2)
def wO:Bx->Option Bx
 |.z d=>some (.z d)
 |.o ds=>some (.z (.lst ds))
 |.l _=>none
 |.n _=>none
 |.m _ _=>none
theorem Ui {pins:List (Addr×Obj)} {σ:L2.St} {H:Hp} {s:Shared} {a:Addr} {vs:List V} (I:L2.Inv X pins σ H s) (h:H a=some (.lst vs)):∃ o,L2.Inv X pins σ (upd H a (.CV o (.lst vs))) s:=by
 obtain⟨z,its,n,r,e⟩:=I.hok a _ h
 refine⟨{ cls:=.type "list", data:=.seq its.toArray n },⟨I.ok,I.os,I.bare,⟨I.base.keep,I.base.slot,fun b ob q1 q2 q3=>?_,I.base.there,fun b xs q=>?_,fun b ob u q=>?_,fun b ps q=>?_⟩,I.loc,I.cell,?_,fun x c q=>?_,fun p hp=>?_,?_,I.len⟩⟩
 ·have:=I.base.free b ob q1 q2 q3
  rw[aV (bY h this).symm];exact this
 ·have:=I.base.tups b xs q
  rw[aV (yh this h (by intro z;cases z))];exact this
 ·have:=I.base.wU b ob u q
  rw[aV (yh this h (by intro z;cases z))];exact this
 ·obtain⟨m,this⟩:=I.base.yO b ps q
  rw[aV (yh this h (by intro z;cases z))];exact⟨m,this⟩
 ·rw[aV (bY h I.free).symm];exact I.free
 ·rw[aV (bY h (I.rM x c q)).symm];exact I.rM x c q
 ·obtain⟨q1,q2,q3⟩:=I.pin p hp
  refine⟨q1,?_,q3⟩
  rw[aV (bY h q2).symm];exact q2
 ·intro b u q
  by_cases hb:b=a
  ·subst hb
   rw[bC] at q;cases q
   exact⟨e,z,its,n,r,e⟩
  ·rw[aV hb] at q
   refine (I.hok b u q).stay (fun c v _ w=>w) (fun c w=>?_) fun c xs w=>?_
   ·rw[aV (yh w h (by intro z;cases z))];exact w
   ·rw[aV (yh w h (by intro z;cases z))];exact w
theorem jW (h:QV X e f):QV X e (b1 wO f):=⟨by
 have h:=h.run
 intro pins s σ H Q I q
 obtain⟨H0,ρ,b,E,e,q⟩:=q
 obtain⟨x,ex,e⟩:=bind_some e
 cases x with
 |z d=>
  cases e
  exact h pins s σ H Q I ⟨H0,ρ,_,E,ex,fun v H' s' n' r'=>q v H' s' trivial r'⟩
 |l ds=>cases e
 |n ds=>cases e
 |m ds _=>cases e
 |o ds=>
  cases e
  refine lH (h pins s σ H (fun v H'=>Same H H'/\Nw H (.o ds) v/\bH X.K H' (.o ds) v) I ⟨H0,ρ,_,E,ex,fun v H' s' n' r'=>⟨s',n',r'⟩⟩) fun u s1 hq=>?_
  obtain⟨v,H1,I1,rv,s',n',r'⟩:=hq
  obtain⟨a,vs,rfl,ha,rs⟩:=r'
  obtain⟨o,I2⟩:=Ui I1 ha
  refine⟨.ref a,_,I2,rv,q _ _ (fun c ob hc=>?_) trivial ?_⟩
  ·rw[aV (bY hc (n' a rfl))];exact s' c ob hc
  ·simp only[bH,Rep]
   exact⟨a,vs,rfl,.inl ⟨o,bC⟩,rs.kp (.lst ha)⟩⟩
def O5:List Bx->Option (List Dt)
 |[]=>some []
 |.z d::r=>(O5 r).bind fun ds=>some (d::ds)
 |_=>none
theorem JB {K:FG_} {H:Hp}:∀ {bs:List Bx} {vs:List V} {ds:List Dt},vL K H bs vs->O5 bs=some ds->aW K H ds vs
 |_,_,_,.nil,e=>by cases e;exact aW.nil
 |b::bs,_,_,.cons h t,e=>by
  cases b with
  |z d=>
   simp only[O5] at e
   obtain⟨ds',e1,e2⟩:=bind_some e
   cases e2
   exact aW.cons h (JB t e1)
  |_=>cases e
theorem JC:∀ {bs:List Bx} {ds:List Dt},O5 bs=some ds->ds.length=bs.length
 |[],_,e=>by cases e;rfl
 |.z d::r,_,e=>by
  simp only[O5] at e
  obtain⟨ds',e1,e2⟩:=bind_some e
  cases e2
  simp[JC e1]
 |.l _::_,_,e=>by cases e
 |.o _::_,_,e=>by cases e
 |.n _::_,_,e=>by cases e
 |.m _ _::_,_,e=>by cases e
def qP (bs:List Bx):Option Bx:=if bs.length<=1000 then (O5 bs).bind fun ds=>some (.z (.tup ds)) else none
def yK (bs:List Bx):Option Bx:=if bs.length<=1000 then (O5 bs).bind fun ds=>some (.o ds) else none
theorem cF {H:Hp} {p:Addr} {o:HO} (h:H p=none):Same H (upd H p o):=fun b u e=>by rw[aV (bY e h)];exact e
theorem aeb {n:Nat} (h:n<=1000):n<=sizeLine:=zz h (by decide)
theorem qQ {x1} (h:QVs X es fs):QV X (.Tuple es x1 pos) (dZ qP fs):=⟨have h:=h.run;Jx (ae5 h) fun σ H Q q=>by
 obtain⟨H0,ρ,c,E,e,q⟩:=q
 obtain⟨bs,ebs,e⟩:=bind_some e
 refine⟨H0,ρ,bs,E,ebs,fun vs H1 s1 r1=>?_⟩
 unfold qP at e
 split at e
 ·rename_i hl
  obtain⟨ds,e1,e⟩:=bind_some e
  cases e
  have r2:=JB r1 e1
  refine⟨aeb (by rw[r2.length,JC e1];exact hl),fun p hp=>q _ _ (s1.trans (cF hp)) trivial ?_⟩
  simp only[bH,Rep]
  exact⟨p,vs,rfl,.inl (.inl bC),r2.kp (.of (cF hp))⟩
 ·cases e⟩
theorem tM (h:QVs X es fs):QV X (.List es pos) (dZ yK fs):=⟨have h:=h.run;Jx (ae6 h) fun σ H Q q=>by
 obtain⟨H0,ρ,c,E,e,q⟩:=q
 obtain⟨bs,ebs,e⟩:=bind_some e
 refine⟨H0,ρ,bs,E,ebs,fun vs H1 s1 r1=>?_⟩
 unfold yK at e
 split at e
 ·rename_i hl
  obtain⟨ds,e1,e⟩:=bind_some e
  cases e
  have r2:=JB r1 e1
  refine⟨aeb (by rw[r2.length,JC e1];exact hl),fun p hp=>q _ _ (s1.trans (cF hp)) (fun a ea=>by cases ea;exact s1.free hp) ?_⟩
  exact⟨p,vs,rfl,bC,r2.kp (.of (cF hp))⟩
 ·cases e⟩
theorem bT {x:Str} {id:String} {g:List Bx->Option Bx} {p:Pos} (hc:Dj X (.builtin id) g) (hg:Gl X x) (hm:X.mg x=none) (hv:bootBuiltins x=some (.builtin id)) (ha:QVs X (e::es) fs) (hn:x ≠ "__name__" := by decide) (hdb:(x==("__debug__" : Str))=false:=by decide) (he:starEach (e::es) X.env=(false,eval e X.env)::starEach es X.env:=by rfl) (hpl:(backTo pos (starEach es X.env)).any (·.1)=false:=by rfl):QV X (.Call (.Name x p) (e::es) [] pos) (dZ g fs):=⟨have ha:=ha.run;Jx (Dg hc hg hm hv ha hn hdb he hpl) convs⟩
theorem qR {x:Str} {T:String} {g:List Bx->Option Bx} {p:Pos} (hc:Dj X (.type T) g) (hg:Gl X x) (hm:X.mg x=none) (hv:bootBuiltins x=some (.type T)) (ha:QVs X (e::es) fs) (hn:x ≠ "__name__" := by decide) (hdb:(x==("__debug__" : Str))=false:=by decide) (he:starEach (e::es) X.env=(false,eval e X.env)::starEach es X.env:=by rfl) (hpl:(backTo pos (starEach es X.env)).any (·.1)=false:=by rfl):QV X (.Call (.Name x p) (e::es) [] pos) (dZ g fs):=⟨have ha:=ha.run;Jx (Xq hc hg hm hv ha hn hdb he hpl) convs⟩
end
inductive Out where
 |nx (ρ:Ev)|rt (b:Bx)|bk (ρ:Ev)|ct (ρ:Ev)
def ZD (K:FG_) (H0:Hp) (D:Ends):Out->Prop
 |.nx ρ=>∀ σ H,bF K H0 H σ ρ->D.nx σ H
 |.rt b=>∀ v H,Same H0 H->Nw H0 b v->bH K H b v->D.rt v H
 |.bk ρ=>∀ σ H,bF K H0 H σ ρ->D.bk σ H
 |.ct ρ=>∀ σ H,bF K H0 H σ ρ->D.ct σ H
def tG (K:FG_) (g:Ev->Option Out):TS:=fun D σ H=>∃ H0 ρ r,bF K H0 H σ ρ/\g ρ=some r/\ZD K H0 D r
def PG1 (X:Cx) (st:Stmt) (g:Ev->Option Out):Prop:=PS X st (tG X.K g)
structure XF (X:Cx) (st:Stmt) (g:Ev->Option Out):Prop where
 run:PG1 X st g
def Y0 (X:Cx) (st:List Stmt) (g:Ev->Option Out):Prop:=CT X st (tG X.K g)
structure V6 (X:Cx) (st:List Stmt) (g:Ev->Option Out):Prop where
 run:Y0 X st g
def aM (g1 g2:Ev->Option Out):Ev->Option Out:=fun ρ=>(g1 ρ).bind fun r=>match r with
 |.nx ρ'=>g2 ρ'
 |r=>some r
section
variable {X:Cx} {a b c e:Expr} {es:List Expr} {fa fb fc f:Ev->Option Bx} {fs:Ev->Option (List Bx)} {pos:Pos} {st:Stmt} {rest:List Stmt} {g g1 g2:Ev->Option Out}
theorem aR  : V6 X [] (fun ρ=>some (.nx ρ)):=⟨OD Ol fun D σ H h=>by
 obtain⟨H0,ρ,r,E,e,q⟩:=h
 cases e
 exact q σ H E⟩
theorem au (h1:XF X st g1) (h2:V6 X rest g2):V6 X (st::rest) (aM g1 g2):=⟨have h1:=h1.run;have h2:=h2.run;OD (lQ h1 h2) fun D σ H h=>by
 obtain⟨H0,ρ,r,E,e,q⟩:=h
 obtain⟨r1,e1,e⟩:=bind_some e
 refine⟨H0,ρ,r1,E,e1,?_⟩
 cases r1 with
 |nx ρ'=>exact fun σ' H' E'=>⟨H0,ρ',r,E',e,q⟩
 |rt b=>cases e;exact q
 |bk ρ'=>cases e;exact q
 |ct ρ'=>cases e;exact q⟩
def XH:Bx->Option Out
 |.l _=>none
 |.n _=>none
 |b=>some (.rt b)
theorem bO (h:QV X e f):XF X (.Return (some e) pos) (fun ρ=>(f ρ).bind XH):=⟨have h:=h.run;psM (Ft h) fun D σ H h=>by
 obtain⟨H0,ρ,r,E,e,q⟩:=h
 obtain⟨b,eb,e⟩:=bind_some e
 refine⟨H0,ρ,b,E,eb,fun v H1 s1 n1 r1=>?_⟩
 cases b with
 |l ds=>cases e
 |z d=>cases e;exact q v H1 (E.base.trans s1) trivial r1
 |o ds=>cases e;exact q v H1 (E.base.trans s1) (n1.old E.base) r1
 |n ds=>cases e
 |m ds _=>cases e;exact q v H1 (E.base.trans s1) (n1.old E.base) r1⟩
def O6 (i:Nat) (ρ:Ev):Option Out:=match ρ[i]? with
 |some (some b)=>XH b
 |_=>none
theorem V7 (i:Nat) {x:Str} {p:Pos} (hN:X.N[i]?=some x:=by rfl) (hv:Mt X.env.scope x:=by first|exact ZU rfl|exact Zs (ZU rfl)|exact Zs (Zs rfl)) (hd:(x==("__debug__" : Str))=false:=by decide) (hcd:(x==("__classdict__" : Str))=false:=by decide):XF X (.Return (some (.Name x p)) pos) (O6 i):=⟨psM (Ft (tD hN hv hd hcd)) fun D σ H h=>by
 obtain⟨H0,ρ,r,E,e,q⟩:=h
 unfold O6 at e
 split at e
 ·rename_i b hb
  obtain⟨v,e1,r1⟩:=E.val i b hb
  refine⟨v,e1,?_⟩
  cases b with
  |l ds=>cases e
  |z d=>cases e;exact q v H E.base trivial r1
  |o ds=>cases e;exact q v H E.base (fun a ea=>E.new i _ a hb rfl (by rw[e1,ea])) r1
  |n ds=>cases e
  |m ds _=>cases e;exact q v H E.base (fun a ea=>E.new i _ a hb rfl (by rw[e1,ea])) r1
 ·cases e⟩
def wQ (p:Ev->Option Bool) (g1 g2:Ev->Option Out):Ev->Option Out:=fun ρ=>(p ρ).bind fun k=>if k=true then g1 ρ else g2 ρ
theorem lK {p:Ev->Option Bool} {u v:List Stmt} (hc:QB X c p) (ha:V6 X u g1) (hb:V6 X v g2):XF X (.If c u v pos) (wQ p g1 g2):=⟨have hc:=hc.run;have ha:=ha.run;have hb:=hb.run;psM (Zd hc ha hb) fun D σ H h=>by
 obtain⟨H0,ρ,r,E,e,q⟩:=h
 obtain⟨k,ek,e⟩:=bind_some e
 refine⟨H0,ρ,k,E,ek,fun H1 s1=>?_⟩
 cases k with
 |true=>rw[zk rfl] at e ⊢;exact⟨H0,ρ,r,E.grow s1,e,q⟩
 |false=>rw[zI zr] at e ⊢;exact⟨H0,ρ,r,E.grow s1,e,q⟩⟩
theorem getset {α:Type} {l:List α} {i j:Nat} {x y:α} (h:(l.set i x)[j]?=some y):(j=i/\y=x/\i < l.length)\/(j≠i/\l[j]?=some y):=by
 rw[ki] at h
 by_cases e:i=j
 ·subst e
  rw[zk rfl] at h
  split at h
  ·cases h;exact .inl ⟨rfl,rfl,by assumption⟩
  ·cases h
 ·rw[zI e] at h
  exact .inr ⟨fun z=>e z.symm,h⟩
theorem yS {α:Type} {l:List α} {i:Nat} (x:α) (h:i < l.length):(l.set i x)[i]?=some x:=by
 rw[ki,zk rfl,zk h]
theorem rN {α:Type} {l:List α} {i j:Nat} (x:α) (h:j≠i):(l.set i x)[j]?=l[j]?:=by
 rw[ki,zI (QA h)]
theorem bF.set {K:FG_} {H0 H H1:Hp} {σ:L2.St} {ρ:Ev} {i:Nat} {b:Bx} {v:V} (E:bF K H0 H σ ρ) (s:Same H H1) (r:bH K H1 b v) (hl:BX b=true\/loose b=false) (n:Nw H b v):bF K H0 H1 (σ.set i (some v)) (ρ.set i (some b)):=by
 have E1:=E.grow s
 have apart:∀ (j:Nat) (b':Bx) (a:Addr),ρ[j]?=some (some b')->loose b'=true->σ[j]?=some (some (.ref a))->H a≠none:=fun j b' a e1 e2 e3 z=>by
  obtain⟨v',e4,r'⟩:=E.val j b' e1
  rw[e3] at e4;cases e4
  cases b' with
  |z d=>cases e2
  |l ds=>
   obtain⟨a',vs,e5,q,_⟩:=r'
   cases e5
   rcases q with q|⟨o,q⟩<;>(rw[z] at q;cases q)
  |o ds=>
   obtain⟨a',vs,e5,q,_⟩:=r'
   cases e5
   rw[z] at q;cases q
  |n ds=>
   obtain⟨a',vs,e5,q,_⟩:=r'
   cases e5
   rcases q with q|⟨o,q⟩<;>(rw[z] at q;cases q)
  |m ds _=>
   obtain⟨a',vs,e5,q,_⟩:=r'
   cases e5
   rw[z] at q;cases q
 have nw:BX b=true->∀ a,v=.ref a->H a=none:=fun ho=>by
  cases b with
  |o ds=>exact n
  |m ds _=>exact n
  |_=>cases ho
 refine⟨by rw[qf,qf];exact E.len,fun j b' e=>?_,fun j k c a b' e1 ec e2 e3 e4 e5=>?_,E1.base,fun j c a e1 ec e2=>?_⟩
 ·rcases getset e with⟨rfl,e',hi⟩|⟨hne,e'⟩
  ·cases e'
   exact⟨v,yS _ (by rw[E.len];exact hi),r⟩
  ·rw[rN _ hne]
   exact E1.val j b' e'
 ·rcases getset e1 with⟨rfl,e',hi⟩|⟨hne,e'⟩
  ·cases e'
   rw[yS _ (by rw[E.len];exact hi)] at e2
   cases e2
   rcases getset e3 with⟨rfl,e3',_⟩|⟨acz,e3'⟩
   ·rfl
   ·rw[rN _ acz] at e5
    exact absurd (nw ec a rfl) (apart k b' a e3' e4 e5)
  ·rw[rN _ hne] at e2
   rcases getset e3 with⟨rfl,e3',hi⟩|⟨acz,e3'⟩
   ·cases e3'
    rw[yS _ (by rw[E.len];exact hi)] at e5
    cases e5
    have hlo:loose c=true:=by cases c<;>first|rfl|cases ec
    rcases hl with hl|hl
    ·exact absurd (nw hl a rfl) (apart j _ a e' hlo e2)
    ·rw[hl] at e4;cases e4
   ·rw[rN _ acz] at e5
    exact E.own j k c a b' e' ec e2 e3' e4 e5
 ·rcases getset e1 with⟨rfl,e',hi⟩|⟨hne,e'⟩
  ·cases e'
   rw[yS _ (by rw[E.len];exact hi)] at e2
   cases e2
   exact E.base.free (nw ec a rfl)
  ·rw[rN _ hne] at e2
   exact E.new j c a e' ec e2
def ZF (ρ:Ev) (i:Nat):Bx->Option Ev
 |.l _=>none
 |.n _=>none
 |b=>some (ρ.set i (some b))
theorem acA {K:FG_} {H0 H H1:Hp} {σ:L2.St} {ρ ρ':Ev} {i:Nat} {b:Bx} {v:V} (E:bF K H0 H σ ρ) (s:Same H H1) (r:bH K H1 b v) (n:Nw H b v) (e:ZF ρ i b=some ρ'):bF K H0 H1 (σ.set i (some v)) ρ':=by
 cases b with
 |l ds=>cases e
 |z d=>cases e;exact E.set s r (.inr rfl) n
 |o d=>cases e;exact E.set s r (.inl rfl) n
 |n ds=>cases e
 |m d _=>cases e;exact E.set s r (.inl rfl) n
theorem bN (i:Nat) {x:Str} {p:Pos} (hN:X.N.Nodup) (he:QV X e f) (hi:X.N[i]?=some x:=by rfl) (hx:Loc X.env.scope x:=by first|exact ZU rfl|exact Zs rfl) (hs:swapsWith e (some (.Name x p)) pos.line X.env=pure false:=by rfl) (hf:X.fn x=true\/X.env.scope.names.lookup x=some .local:=by first|exact .inl rfl|exact .inr rfl):XF X (.Assign [.Name x p] e pos) (fun ρ=>(f ρ).bind fun b=>(ZF ρ i b).bind fun ρ'=>some (.nx ρ')):=⟨have he:=he.run;psM (TY hN hi hx he hs hf) fun D σ H h=>by
 obtain⟨H0,ρ,r,E,e,q⟩:=h
 obtain⟨b,eb,e⟩:=bind_some e
 obtain⟨ρ',eρ,e⟩:=bind_some e
 cases e
 exact⟨H0,ρ,b,E,eb,fun v H1 s1 n1 r1=>q _ _ (acA E s1 r1 n1 eρ)⟩⟩
def Lo (σ:L2.St) (ρ:Ev) (σ':L2.St) (ρ':Ev):Prop:=∀ (j:Nat) b,loose b=true->ρ'[j]?=some (some b)->ρ[j]?=some (some b)/\σ'[j]?=σ[j]?
theorem Lo.refl {σ:L2.St} {ρ:Ev}:Lo σ ρ σ ρ:=fun _ _ _ e=>⟨e,rfl⟩
theorem Lo.trans {σ σ1 σ2:L2.St} {ρ ρ1 ρ2:Ev} (a:Lo σ ρ σ1 ρ1) (b:Lo σ1 ρ1 σ2 ρ2):Lo σ ρ σ2 ρ2:=fun j c l e=>by
 obtain⟨e1,e2⟩:=b j c l e
 obtain⟨e3,e4⟩:=a j c l e1
 exact⟨e3,e2.trans e4⟩
theorem Lo.set {σ:L2.St} {ρ:Ev} (i:Nat) (v:V) (d:Dt):Lo σ ρ (σ.set i (some v)) (ρ.set i (some (.z d))):=fun j b l e=>by
 rcases getset e with⟨rfl,e',_⟩|⟨hne,e'⟩
 ·cases e';cases l
 ·exact⟨e',rN _ hne⟩
def tgF (K:FG_) (g:Dt->Ev->Option Ev):TG:=fun v σ H Q=>∃ H0 ρ d ρ',bF K H0 H σ ρ/\Rep K H d v/\g d ρ=some ρ'/\∀ σ',bF K H0 H σ' ρ'->Lo σ ρ σ' ρ'->Q σ' H
def PTg (X:Cx) (t:Expr) (g:Dt->Ev->Option Ev):Prop:=PG X t (tgF X.K g)
structure QTg (X:Cx) (t:Expr) (g:Dt->Ev->Option Ev):Prop where
 run:PTg X t g
theorem bK (i:Nat) {x:Str} (hN:X.N.Nodup) (hi:X.N[i]?=some x:=by rfl) (hx:Loc X.env.scope x:=by first|exact ZU rfl|exact Zs rfl) (hf:X.fn x=true\/X.env.scope.names.lookup x=some .local:=by first|exact .inl rfl|exact .inr rfl):QTg X (.Name x pos) (fun d ρ=>some (ρ.set i (some (.z d)))):=⟨fun pins s σ H v u Q I r h=>by
 obtain⟨H0,ρ,d,ρ',E,rd,e,q⟩:=h
 cases e
 exact Ao hN hi hx hf pins s σ H v u Q I r (q _ (E.set (b:=.z d) (Same.refl H) rd (.inr rfl) trivial) (Lo.set i v d))⟩
def aj4 (K:FG_) (g:List Dt->Ev->Option Ev):TGs:=fun vs σ H Q=>∃ H0 ρ ds ρ',bF K H0 H σ ρ/\aW K H ds vs/\g ds ρ=some ρ'/\∀ σ',bF K H0 H σ' ρ'->Lo σ ρ σ' ρ'->Q σ' H
def aj5 (X:Cx) (t:List Expr) (g:List Dt->Ev->Option Ev):Prop:=L2.Y0 X t (aj4 X.K g)
structure ZG (X:Cx) (t:List Expr) (g:List Dt->Ev->Option Ev):Prop where
 run:aj5 X t g
def yU:List Dt->Ev->Option Ev
 |[],ρ=>some ρ
 |_,_=>none
def gW (g:Dt->Ev->Option Ev) (gs:List Dt->Ev->Option Ev):List Dt->Ev->Option Ev
 |d::ds,ρ=>(g d ρ).bind (gs ds)
 |_,_=>none
theorem wY  : ZG X [] yU:=⟨fun pins s σ H vs us Q I r h=>by
 obtain⟨H0,ρ,ds,ρ',E,rd,e,q⟩:=h
 cases ds with
 |nil=>cases e;unfold aW at rd;exact V0 pins s σ H vs us Q I r ⟨rd,q _ E Lo.refl⟩
 |cons d ds=>cases e⟩
theorem gY {t:Expr} {ts:List Expr} {gt:Dt->Ev->Option Ev} {gs:List Dt->Ev->Option Ev} (h1:QTg X t gt) (h2:ZG X ts gs) (hs:(assignEach (t::ts) X.env).map (·.2)=assign t X.env::(assignEach ts X.env).map (·.2):=by rfl):ZG X (t::ts) (gW gt gs):=⟨have h1:=h1.run;have h2:=h2.run;fun pins s σ H vs us Q I r h=>by
 obtain⟨H0,ρ,ds,ρ',E,rd,e,q⟩:=h
 cases ds with
 |nil=>cases e
 |cons d ds=>
  unfold aW at rd
  obtain⟨v,vr,rfl,r1,r2⟩:=rd
  simp only[gW] at e
  obtain⟨ρ1,e1,e⟩:=bind_some e
  exact Jt h1 h2 hs pins s σ H _ us Q I r ⟨v,vr,rfl,H0,ρ,d,ρ1,E,r1,e1,fun σ1 E1 L1=>⟨H0,ρ1,ds,ρ',E1,r2,e,fun σ2 E2 L2=>q σ2 E2 (L1.trans L2)⟩⟩⟩
def yV (n:Nat) (gs:List Dt->Ev->Option Ev):Dt->Ev->Option Ev
 |.tup ds,ρ=>if ds.length=n then gs ds ρ else none
 |_,_=>none
theorem Fz {ts:List Expr} {k n:Nat} {gs:List Dt->Ev->Option Ev} (hc:X.calm=true) (h:ZG X ts gs) (hn:(assignEach ts X.env).length=n:=by rfl) (hst:(assignEach ts X.env).findIdx? (·.1)=none:=by rfl):QTg X (.Tuple ts k pos) (yV n gs):=⟨have h:=h.run;fun pins s σ H v u Q I r hw=>by
 obtain⟨H0,ρ,d,ρ',E,rd,e,q⟩:=hw
 cases d with
 |tup ds=>
  simp only[yV] at e
  split at e
  ·rename_i hl
   unfold Rep at rd
   obtain⟨a,vs,rfl,hq,rs⟩:=rd
   exact Ze hc h hn hst pins s σ H _ u Q I r ⟨a,vs,rfl,hq,by rw[rs.length];exact hl,H0,ρ,ds,ρ',E,rs,e,q⟩
  ·cases e
 |_=>cases e⟩
theorem Uj {tg:Expr} {gt:Dt->Ev->Option Ev} (he:QV X e f) (hg:QTg X tg gt) (hs:swapsWithSole [tg] e pos.line X.env=pure false:=by rfl) (hw:swappedStores [tg] e X.env=pure none:=by rfl) (h1:(assignEach [tg] X.env).map (·.2)=[assign tg X.env]:=by rfl):XF X (.Assign [tg] e pos) (fun ρ=>(f ρ).bind fun b=>match b with|.z d=>(gt d ρ).bind fun ρ'=>some (.nx ρ')|_=>none):=⟨have he:=he.run;have hg:=hg.run;psM (aeU he hg hs hw h1) fun D σ H h=>by
 obtain⟨H0,ρ,r,E,e,q⟩:=h
 obtain⟨b,eb,e⟩:=bind_some e
 refine⟨H0,ρ,b,E,eb,fun v H1 s1 n1 r1=>?_⟩
 cases b with
 |z d=>
  obtain⟨ρ',eρ,e⟩:=bind_some e
  cases e
  exact⟨H0,ρ,d,ρ',E.grow s1,r1,eρ,fun σ' E' _=>q _ _ E'⟩
 |_=>cases e⟩
def acB (ρ:Ev) (i:Nat):Bx->Option Out
 |.z d=>match ρ[i]? with
  |some (some (.o ds))=>if ds.length < sizeLine then some (.nx (ρ.set i (some (.o (ds++[d]))))) else none
  |_=>none
 |_=>none
theorem bF.ahx {K:FG_} {H0 H:Hp} {σ:L2.St} {ρ:Ev} {i:Nat} {c0 c1:Bx} {a:Addr} {u:HO} (E:bF K H0 H σ ρ) (h:ρ[i]?=some (some c0)) (ho:BX c0=true) (hs:σ[i]?=some (some (.ref a))) (k:Kp H (upd H a u)) (r:bH K (upd H a u) c1 (.ref a)) :
  bF K H0 (upd H a u) σ (ρ.set i (some c1)):=by
 have hi:i < ρ.length:=(List.getElem?_eq_some_iff.mp h).1
 have hb:H0 a=none:=E.new i c0 a h ho hs
 have lo:∀ c,BX c=true->loose c=true:=fun c hc=>by cases c<;>first|rfl|cases hc
 refine⟨by rw[qf];exact E.len,fun j b' e=>?_,fun j k' c a' b' e1 ec e2 e3 e4 e5=>?_,fun c o e=>?_,fun j c a' e1 ec e2=>?_⟩
 ·rcases getset e with⟨rfl,e',_⟩|⟨hne,e'⟩
  ·cases e'
   exact⟨_,hs,r⟩
  ·obtain⟨v,e1,r'⟩:=E.val j b' e'
   refine⟨v,e1,?_⟩
   have away:∀ a',v=.ref a'->loose b'=true->a'≠a:=fun a' ev hl z=>by
    subst z
    exact hne (E.own i j c0 _ _ h ho hs e' hl (by rw[e1,ev])).symm
   cases b' with
   |z d=>exact Rep.kp k r'
   |l ds'=>
    obtain⟨a',vs',rfl,q,rr⟩:=r'
    refine⟨a',vs',rfl,?_,rr.kp k⟩
    have hn:=away a' rfl rfl
    rcases q with q|⟨o,q⟩
    ·exact .inl (by rw[aV hn];exact q)
    ·exact .inr ⟨o,by rw[aV hn];exact q⟩
   |o ds'=>
    obtain⟨a',vs',rfl,q,rr⟩:=r'
    have hn:=away a' rfl rfl
    exact⟨a',vs',rfl,by rw[aV hn];exact q,rr.kp k⟩
   |n ds'=>
    obtain⟨a',vs',rfl,q,rr⟩:=r'
    refine⟨a',vs',rfl,?_,rr.kp k⟩
    have hn:=away a' rfl rfl
    rcases q with q|⟨o,q⟩
    ·exact .inl (by rw[aV hn];exact q)
    ·exact .inr ⟨o,by rw[aV hn];exact q⟩
   |m ds'=>
    obtain⟨a',vs',rfl,q,rr⟩:=r'
    have hn:=away a' rfl rfl
    exact⟨a',vs',rfl,by rw[aV hn];exact q,rr.1.kp k,rr.2⟩
 ·have back:∀ (m:Nat) (b:Bx),(ρ.set i (some c1))[m]?=some (some b)->loose b=true->∃ b0,ρ[m]?=some (some b0)/\loose b0=true/\(BX b=true->BX b0=true):=fun m b e l=>by
   rcases getset e with⟨rfl,e',_⟩|⟨hne,e'⟩
   ·exact⟨_,h,lo _ ho,fun _=>ho⟩
   ·exact⟨b,e',l,fun z=>z⟩
  obtain⟨b0,q1,q2,q3⟩:=back j _ e1 (lo _ ec)
  obtain⟨b1,q4,q5,_⟩:=back k' _ e3 e4
  exact E.own j k' b0 a' b1 q1 (q3 ec) e2 q4 q5 e5
 ·rw[aV (bY e hb)];exact E.base c o e
 ·rcases getset e1 with⟨rfl,e',_⟩|⟨hne,e'⟩
  ·exact E.new _ c0 a' h ho e2
  ·exact E.new j c a' e' ec e2
theorem bF.afh {K:FG_} {H0 H:Hp} {σ:L2.St} {ρ:Ev} {i:Nat} {ds es:List Dt} {a:Addr} {vs us:List V} (E:bF K H0 H σ ρ) (h:ρ[i]?=some (some (.o ds))) (hs:σ[i]?=some (some (.ref a))) (ha:H a=some (.lst vs)) (r:aW K H es us) :
  bF K H0 (upd H a (.lst us)) σ (ρ.set i (some (.o es))):=E.ahx h rfl hs (.lst ha) ⟨a,us,rfl,bC,r.kp (.lst ha)⟩
theorem Uk (i:Nat) {x:Str} {p apos cpos:Pos} (he:QV X e f) (hN:X.N[i]?=some x:=by rfl) (hv:Mt X.env.scope x:=by first|exact ZU rfl|exact Zs (ZU rfl)|exact Zs (Zs rfl)) (hd:(x==("__debug__" : Str))=false:=by decide) (hcd:(x==("__classdict__" : Str))=false:=by decide) (hst:starEach [e] X.env=[(false,eval e X.env)]:=by rfl) (hbase:attributeBase (.Name x p) "append" X.env (eval (.Name x p) X.env)=eval (.Name x p) X.env:=by rfl) (hfew:((backTo cpos (starEach [e] X.env)).all (fun x=>!x.1)&&(backToKw cpos (keywordEach [] X.env)).all (fun x=>x.1.isSome)&&decide ([e].length+([]:List Keyword).length+(if ([]:List Keyword).isEmpty then 0 else 1) < 30))=true:=by rfl) (hline:(apos.endLine==cpos.line)=true:=by rfl) (hs:swapsWith (.Call (.Attribute (.Name x p) "append" apos) [e] [] cpos) none pos.line X.env=pure false:=by rfl):XF X (.Expr (.Call (.Attribute (.Name x p) "append" apos) [e] [] cpos) pos) (fun ρ=>(f ρ).bind (acB ρ i)):=⟨have he:=he.run;psM (IW (QS PySem.F.plainAttrs_list PySem.F.slot_list_append PySem.F.type_list_append Fy (tD (i:=i) hN hv hd hcd) (jY he tH (by rw[hst]<;>rfl)) hbase hfew hline (by rw[hst]<;>rfl) rfl) hs) fun D σ H h=>by
  obtain⟨H0,ρ,r,E,e,q⟩:=h
  obtain⟨b,eb,e⟩:=bind_some e
  cases b with
  |z d=>
   simp only[acB] at e
   split at e
   ·rename_i ds hρ
    split at e
    ·rename_i hl
     cases e
     obtain⟨v,e1,a,vs,rfl,ha,rs⟩:=E.val i _ hρ
     refine⟨_,e1,.inl ⟨rfl,vs,.inl (.inl ha)⟩,H0,ρ,_,E,eb,fun u H1 s1 n1 r1=>?_⟩
     have E1:=E.grow s1
     refine⟨a,vs,u,rfl,rfl,s1 _ _ ha,by rw[rs.length];exact hl,q _ _ ?_⟩
     exact E1.afh hρ e1 (s1 _ _ ha) ((rs.kp (.of s1)).append (aW.cons r1 aW.nil))
    ·cases e
   ·cases e
  |_=>cases e⟩
end
def Its (x:Str):It:=⟨fun i _=>i < x.cps.size,fun i H v H'=>H'=H/\∃ c,x.cps[i]?=some c/\v=.str ⟨#[c]⟩,fun i _=>x.cps.size<=i⟩
def aj6 (h:Heap) (it:Addr) (x:Str) (i:Nat):Prop:=∃ t,h.IsStrIter it "str_ascii_iterator" x t i\/h.IsStrIter it "str_iterator" x t i
theorem Q5 {P:Program} {w:World} {K:FG_} {tg:Expr} (it:Addr) (x:Str):Turn P w K tg (Its x) [it] it (fun i h=>aj6 h it x i) where
 mem:=by simp
 obj:=fun i h st b hb=>by
  have e:b=it:=by simpa using hb
  subst e
  obtain⟨t,⟨o,e,c,d⟩|⟨o,e,c,d⟩⟩:=st
  ·exact⟨o,e,fun v z=>by rw[d] at z;cases z⟩
  ·exact⟨o,e,fun v z=>by rw[d] at z;cases z⟩
 keep:=fun i h h' st k=>by
  obtain⟨t,⟨o,e,c⟩|⟨o,e,c⟩⟩:=st
  ·exact⟨t,.inl ⟨o,k it (by simp) o e,c⟩⟩
  ·exact⟨t,.inr ⟨o,k it (by simp) o e,c⟩⟩
 item:=by
  intro X hP hw hK hc i pins s σ H E I hf st hg
  subst hP hw hK
  obtain⟨f0,f1,f2,f3,f4,f5⟩:=hf it (by simp)
  have hi:i < x.cps.size:=hg
  have hx:x.cps[i]?=some x.cps[i]:=by simp[hi]
  obtain⟨t,st|st⟩:=st
  ·refine wpAny_pyNext_ascii_item st hx fun h' st' sb=>?_
   have I1:L2.Inv X pins σ H { s with heap:=h',toks:=s.toks+1 }:=I.turned (fun b o hb e=>(sb.2 b hb).trans e) f0 f1 f3 f4 f5
   obtain⟨o,e,c,d⟩:=id st'
   exact⟨_,rfl,QG (s:={ s with heap:=h',toks:=s.toks+1 }) e c d (by decide) ⟨.str ⟨#[x.cps[i]]⟩,H,I1,⟨_,rfl⟩,⟨rfl,_,hx,rfl⟩,⟨t,.inl st'⟩,fun b hb=>(hf b hb).1⟩⟩
  ·refine wpAny_pyNext_wide_item st hx fun h' st' sb=>?_
   have I1:L2.Inv X pins σ H { s with heap:=h',toks:=s.toks+1 }:=I.turned (fun b o hb e=>(sb.2 b hb).trans e) f0 f1 f3 f4 f5
   obtain⟨o,e,c,d⟩:=id st'
   exact⟨_,rfl,QG (s:={ s with heap:=h',toks:=s.toks+1 }) e c d (by decide) ⟨.str ⟨#[x.cps[i]]⟩,H,I1,⟨_,rfl⟩,⟨rfl,_,hx,rfl⟩,⟨t,.inr st'⟩,fun b hb=>(hf b hb).1⟩⟩
 done:=by
  intro X hP hw hK hc i pins s σ H E I hf st hg
  subst hP hw hK
  obtain⟨f0,f1,f2,f3,f4,f5⟩:=hf it (by simp)
  have hx:x.cps[i]?=none:=by have:x.cps.size<=i:=hg;simp[this]
  obtain⟨t,st|st⟩:=st
  ·exact wpAny_pyNext_ascii_end (I.ok.hd hc) st hx fun h' eb=>⟨rfl,I.turned (t':=s.toks) (fun b o hb e=>eb b o hb e) f0 f1 f3 f4 f5⟩
  ·exact wpAny_pyNext_wide_end (I.ok.hd hc) st hx fun h' eb=>⟨rfl,I.turned (t':=s.toks) (fun b o hb e=>eb b o hb e) f0 f1 f3 f4 f5⟩
 self:=fun _ _ _ _ _ st h=>by
  obtain⟨t,st|st⟩:=st
  ·exact wpAny_pyIter_striter_ascii st h
  ·exact wpAny_pyIter_striter_wide st h
section
variable {X:Cx} {tg:Expr}
def aj7 (K:FG_) (tl:TE):TI:=fun σ H R=>tl σ H fun x H1=>(∃ a,x=.ref a/\(∃ xs,vH K H1 a xs)/\R (Itl K a) H1)\/(∃ a,x=.ref a/\(∃ xs,Dd K H1 a xs)/\R (Itt K a) H1)\/∃ y,x=.str y/\R (Its y) H1
theorem Ul {l:Expr} {tl:TE} (hl:PE X l tl):PI X tg l (aj7 X.K tl):=by
 intro pins s σ H R I h
 refine lH (hl pins s σ H _ I h) fun v s1 ⟨x,H1,I1,r1,q1⟩=>?_
 have fp1:∀ (o:Obj) (b:Addr),b∈[s1.heap.objs.size]->yH X pins H1 b:=fun o b hb=>by
  have e:b=s1.heap.objs.size:=by simpa using hb
  subst e
  exact I1.Xi (zl _) (I1.hok.fresh (zl _))
 rcases q1 with⟨a,e,⟨xs,hq⟩,q⟩|⟨a,e,⟨xs,hq⟩,q⟩|⟨y,e,q⟩
 ·subst e
  cases r1
  obtain⟨its,rv,p,hz⟩:=I1.list hq
  refine wpAny_pyIter_list p.isList ?_
  exact⟨s1.heap.objs.size,[s1.heap.objs.size],_,_,H1,rfl,I1.kept (t':=s1.toks) fun b o e=>zd _ e,Xj a _,⟨_,zS _ rfl,rfl,rfl⟩,fp1 default,q⟩
 ·subst e
  cases r1
  obtain⟨its,rv,p,hz⟩:=I1.tuple hq
  refine wpAny_pyIter_tuple (show s1.heap.IsTuple a its.toArray from p) ?_
  exact⟨s1.heap.objs.size,[s1.heap.objs.size],_,_,H1,rfl,I1.kept (t':=s1.toks) fun b o e=>zd _ e,T3 a _,⟨_,zS _ rfl,rfl,rfl⟩,fp1 default,q⟩
 ·subst e
  obtain⟨t,rfl⟩:=r1
  cases ha:y.cps.all (· < 128) with
  |true=>
   refine wpAny_pyIter_ascii ha ?_
   exact⟨s1.heap.objs.size,[s1.heap.objs.size],_,_,H1,rfl,I1.kept (t':=s1.toks) fun b o e=>zd _ e,Q5 _ y,⟨t,.inl ⟨_,zS _ rfl,rfl,rfl⟩⟩,fp1 default,q⟩
  |false=>
   refine wpAny_pyIter_wide ha ?_
   exact⟨s1.heap.objs.size,[s1.heap.objs.size],_,_,H1,rfl,I1.kept (t':=s1.toks) fun b o e=>zd _ e,Q5 _ y,⟨t,.inr ⟨_,zS _ rfl,rfl,rfl⟩⟩,fp1 default,q⟩
end
def Yields (K:FG_) (J:It) (ds:List Dt) (Hs:Hp):Prop:=∀ (i:Nat) (H:Hp),Same Hs H →
 (∀ d,ds[i]?=some d->J.go i H/\∀ x H',J.yld i H x H'->Same H H'/\Rep K H' d x)/\(ds.length<=i->J.stop i H)
theorem Yields.of {K:FG_} {J:It} {ds:List Dt} {Hs:Hp} (h:∀ (i:Nat) (H:Hp),Same Hs H →
  (∀ d,ds[i]?=some d->J.go i H/\∀ x H',J.yld i H x H'->H'=H/\Rep K H d x)/\(ds.length<=i->J.stop i H)):Yields K J ds Hs:=fun i H s=>
 ⟨fun d e=>⟨((h i H s).1 d e).1,fun x H' y=>by
  obtain⟨rfl,r⟩:=((h i H s).1 d e).2 x H' y
  exact⟨Same.refl _,r⟩⟩,(h i H s).2⟩
def signs (x:Str):List Dt:=x.cps.toList.map fun c=>.str ⟨#[c]⟩
theorem Yields.list {K:FG_} {Hs:Hp} {a:Addr} {vs:List V} {ds:List Dt} (h:vH K Hs a vs) (r:aW K Hs ds vs):Yields K (Itl K a) ds Hs:=.of fun i H s=>by
 have h':=s.seq h
 have r':=r.kp (.of s)
 refine⟨fun d e=>?_,fun e=>⟨vs,h',by rw[r.length];exact e⟩⟩
 obtain⟨v,ev,rv⟩:=r'.get e
 refine⟨⟨vs,v,h',ev⟩,fun x H' y=>?_⟩
 obtain⟨y1,y2⟩:=y
 have:=y2 vs h'
 rw[ev] at this;cases this
 exact⟨y1,rv⟩
theorem Yields.tup {K:FG_} {Hs:Hp} {a:Addr} {vs:List V} {ds:List Dt} (h:Dd K Hs a vs) (r:aW K Hs ds vs):Yields K (Itt K a) ds Hs:=.of fun i H s=>by
 have h':=(Kp.of s).sqT h
 have r':=r.kp (.of s)
 refine⟨fun d e=>?_,fun e=>⟨vs,h',by rw[r.length];exact e⟩⟩
 obtain⟨v,ev,rv⟩:=r'.get e
 refine⟨⟨vs,v,h',ev⟩,fun x H' y=>?_⟩
 obtain⟨y1,y2⟩:=y
 have:=y2 vs h'
 rw[ev] at this;cases this
 exact⟨y1,rv⟩
theorem Yields.str {K:FG_} {Hs:Hp} (x:Str):Yields K (Its x) (signs x) Hs:=.of fun i H s=>by
 refine⟨fun d e=>?_,fun e=>?_⟩
 ·unfold signs at e
  rw[ZZ] at e
  cases h:x.cps.toList[i]? with
  |none=>rw[h] at e;cases e
  |some c=>
   rw[h] at e;cases e
   have hc:x.cps[i]?=some c:=by simpa using h
   have hi:i < x.cps.size:=by
    have:=(List.getElem?_eq_some_iff.mp h).1
    simpa using this
   refine⟨hi,fun v H' y=>?_⟩
   obtain⟨y1,c',hc',rfl⟩:=y
   rw[hc] at hc';cases hc'
   refine⟨y1,?_⟩
   unfold Rep
   exact⟨rfl,by show (1:Nat)<=sizeLine;decide⟩
 ·have:(signs x).length=x.cps.size:=by simp[signs]
  show x.cps.size<=i
  omega
def Q6 (lo:Int) (n:Nat):List Dt:=(List.range n).map fun k=>.int (lo+(k:Nat))
theorem Yields.rng {K:FG_} {Hs:Hp} (lo:Int) (n:Nat):Yields K (Itr lo n) (Q6 lo n) Hs:=.of fun i H s=>by
 refine⟨fun d e=>?_,fun e=>?_⟩
 ·unfold Q6 at e
  rw[ZZ] at e
  by_cases hi:i < n
  ·rw[List.getElem?_range hi] at e
   cases e
   refine⟨hi,fun v H' y=>?_⟩
   obtain⟨y1,y2⟩:=y
   refine⟨y1,?_⟩
   unfold Rep
   exact y2
  ·rw[List.getElem?_eq_none (by simp;omega)] at e
   cases e
 ·have:(Q6 lo n).length=n:=by simp[Q6]
  show n<=i
  omega
def iF (K:FG_) (f:Ev->Option (List Dt)):TI:=fun σ H R=>∃ H0 ρ ds,bF K H0 H σ ρ/\f ρ=some ds/\∀ J H',Same H H' →
 (∀ Hs,Same Hs H'->(∀ a,H a=none->Hs a=H' a)->(∀ a o u,H' a=some (.CV o u)->Hs a=H' a)->(∀ a vs,H' a=some (.tup vs)->Hs a=H' a)->Yields K J ds Hs)->R J H'
def PIF (X:Cx) (tg iter:Expr) (f:Ev->Option (List Dt)):Prop:=PI X tg iter (iF X.K f)
structure QIF (X:Cx) (tg iter:Expr) (f:Ev->Option (List Dt)):Prop where
 run:PIF X tg iter f
def ZJ:Bx->Option (List Dt)
 |.z (.lst ds)=>some ds
 |.z (.tup ds)=>some ds
 |.z (.str x)=>some (signs x)
 |.o ds=>some ds
 |_=>none
section
variable {X:Cx} {tg e:Expr} {es:List Expr} {f:Ev->Option Bx} {fs:Ev->Option (List Bx)}
mutual
theorem Rep.part {K:FG_} {H Hs:Hp} (hf:∀ a o u,H a=some (.CV o u)->Hs a=H a) (ht:∀ a vs,H a=some (.tup vs)->Hs a=H a):∀ {d:Dt} {v:V},Rep K H d v->Rep K Hs d v
 |.non,_,h=>by simpa only[Rep] using h
 |.bl _,_,h=>by simpa only[Rep] using h
 |.int _,_,h=>by simpa only[Rep] using h
 |.str _,_,h=>by simpa only[Rep] using h
 |.tup ds,_,h=>by
  simp only[Rep] at h ⊢
  obtain⟨a,vs,e,q,r⟩:=h
  refine⟨a,vs,e,?_,aW.part hf ht r⟩
  rcases q with (q|⟨o,q⟩)|q
  ·exact .inl (.inl ((ht _ _ q).trans q))
  ·exact .inl (.inr ⟨o,(hf _ _ _ q).trans q⟩)
  ·exact .inr q
 |.lst ds,_,h=>by
  simp only[Rep] at h ⊢
  obtain⟨a,vs,e,q,r⟩:=h
  refine⟨a,vs,e,?_,aW.part hf ht r⟩
  rcases q with⟨o,q⟩|q
  ·exact .inl ⟨o,(hf _ _ _ q).trans q⟩
  ·exact .inr q
 |.emp,_,h=>by
  simp only[Rep] at h ⊢
  obtain⟨a,o,e,q⟩:=h
  exact⟨a,o,e,(hf _ _ _ q).trans q⟩
theorem aW.part {K:FG_} {H Hs:Hp} (hf:∀ a o u,H a=some (.CV o u)->Hs a=H a) (ht:∀ a vs,H a=some (.tup vs)->Hs a=H a):∀ {ds:List Dt} {vs:List V},aW K H ds vs->aW K Hs ds vs
 |[],_,h=>by simpa only[aW] using h
 |d::ds,_,h=>by
  simp only[aW] at h ⊢
  obtain⟨v,r,e,q,t⟩:=h
  exact⟨v,r,e,Rep.part hf ht q,aW.part hf ht t⟩
end
theorem Je (h:QV X e f):QIF X tg e (fun ρ=>(f ρ).bind ZJ):=⟨have h:=h.run;fun pins s σ H R I q=>by
 refine Ul h pins s σ H R I ?_
 obtain⟨H0,ρ,ds,E,e,q⟩:=q
 obtain⟨b,eb,e⟩:=bind_some e
 refine⟨H0,ρ,b,E,eb,fun v H1 s1 n1 r1=>?_⟩
 cases b with
 |z d=>
  cases d with
  |tup ds'=>
   cases e
   simp only[bH,Rep] at r1
   obtain⟨a,vs,rfl,hq,rs⟩:=r1
   refine .inr (.inl ⟨a,rfl,⟨vs,hq⟩,q _ _ s1 fun Hs hs hn hf ht=>.tup ?_ (rs.part hf ht)⟩)
   rcases hq with (hq|⟨o,hq⟩)|hq
   ·exact .inl (.inl ((ht _ _ hq).trans hq))
   ·exact .inl (.inr ⟨o,(hf _ _ _ hq).trans hq⟩)
   ·exact .inr hq
  |lst ds'=>
   cases e
   simp only[bH,Rep] at r1
   obtain⟨a,vs,rfl,hq,rs⟩:=r1
   refine .inl ⟨a,rfl,⟨vs,hq.sq⟩,q _ _ s1 fun Hs hs hn hf ht=>.list ?_ (rs.part hf ht)⟩
   rcases hq with⟨o,hq⟩|hq
   ·exact .inl (.inr ⟨o,(hf _ _ _ hq).trans hq⟩)
   ·exact .inr hq
  |str x=>
   cases e
   simp only[bH,Rep] at r1
   obtain⟨rfl,_⟩:=r1
   exact .inr (.inr ⟨x,rfl,q _ _ s1 fun Hs hs hn hf ht=>.str x⟩)
  |_=>cases e
 |l ds'=>cases e
 |n ds'=>cases e
 |m ds'=>cases e
 |o ds'=>
  cases e
  obtain⟨a,vs,rfl,hq,rs⟩:=r1
  refine .inl ⟨a,rfl,⟨vs,.inl (.inl hq)⟩,q _ _ s1 fun Hs hs hn hf ht=>.list (.inl (.inl ((hn a (n1 a rfl)).trans hq))) (rs.part hf ht)⟩⟩
def afo:List Bx->Option (List Dt)
 |[.z (.int j)]=>if -(2 ^ 62)<=j/\j < 2 ^ 62 then some (Q6 0 j.toNat) else none
 |_=>none
theorem pX {p pos:Pos} (hg:Gl X "range") (hm:X.mg "range" = none) (ha:QVs X [e] fs) (hs:starEach [e] X.env=[(false,eval e X.env)]:=by rfl):QIF X tg (.Call (.Name "range" p) [e] [] pos) (fun ρ=>(fs ρ).bind afo):=⟨have ha:=ha.run;fun pins s σ H R I q=>by
 refine Xk hg hm ha hs pins s σ H R I ?_
 obtain⟨H0,ρ,ds,E,e,q⟩:=q
 obtain⟨bs,eb,e⟩:=bind_some e
 refine⟨H0,ρ,bs,E,eb,fun vs H1 s1 r1=>?_⟩
 unfold afo at e
 split at e
 ·rename_i j
  split at e
  ·rename_i hj
   cases e
   cases r1 with
   |cons p t=>
    cases t
    simp only[bH,Rep] at p
    subst p
    exact⟨j,rfl,hj.1,hj.2,q _ _ s1 fun Hs _ _ _ _=>.rng 0 _⟩
  ·cases e
 ·cases e⟩
def yW (gt:Dt->Ev->Option Ev) (gb:Ev->Option Out):List Dt->Ev->Option Out
 |[],ρ=>some (.nx ρ)
 |d::ds,ρ=>(gt d ρ).bind fun ρ1=>(gb ρ1).bind fun r=>match r with
  |.nx ρ2=>yW gt gb ds ρ2
  |.ct ρ2=>yW gt gb ds ρ2
  |.bk ρ2=>some (.nx ρ2)
  |.rt b=>some (.rt b)
noncomputable def cT (H:Hp) (σ:L2.St) (ρ:Ev):Hp:=fun a=>@ite _ (∃ (i:Nat) (c:Bx),ρ[i]?=some (some c)/\BX c=true/\σ[i]?=some (some (.ref a))) (Classical.propDecidable _) none (H a)
theorem pY {H:Hp} {σ:L2.St} {ρ:Ev}:Same (cT H σ ρ) H:=fun a o e=>by
 unfold cT at e
 split at e
 ·cases e
 ·exact e
theorem bF.rebase {K:FG_} {H0 Hs H:Hp} {σ:L2.St} {ρ:Ev} (E:bF K Hs H σ ρ) (s:Same H0 Hs):bF K H0 H σ ρ:=⟨E.len,E.val,E.own,s.trans E.base,fun i c a e1 ec e2=>s.free (E.new i c a e1 ec e2)⟩
theorem bF.sans {K:FG_} {H0 H:Hp} {σ:L2.St} {ρ:Ev} (E:bF K H0 H σ ρ):bF K (cT H σ ρ) H σ ρ:=⟨E.len,E.val,E.own,pY,fun i c a e1 ec e2=>by
 unfold cT
 rw[zk ⟨i,c,e1,ec,e2⟩]⟩
theorem bF.sub {K:FG_} {H0 H:Hp} {σ:L2.St} {ρ:Ev} (E:bF K H0 H σ ρ):Same H0 (cT H σ ρ):=fun a o e=>by
 unfold cT
 split
 ·rename_i h
  obtain⟨i,c,e1,ec,e2⟩:=h
  rw[E.new i c a e1 ec e2] at e;cases e
 ·exact E.base a o e
theorem dN {K:FG_} {H0 H:Hp} {σ:L2.St} {ρ:Ev} (E:bF K H0 H σ ρ) {a:Addr} (h:∀ vs,H a≠some (.lst vs)) (h2:∀ vs,H a≠some (.dK vs)):cT H σ ρ a=H a:=by
 unfold cT
 split
 ·rename_i hh
  obtain⟨i,c,e1,ec,e2⟩:=hh
  obtain⟨v,e3,rc⟩:=E.val i _ e1
  rw[e2] at e3;cases e3
  cases c with
  |o ds=>obtain⟨a',vs,e4,q,_⟩:=rc;cases e4;exact absurd q (h vs)
  |m ds _=>obtain⟨a',vs,e4,q,_⟩:=rc;cases e4;exact absurd q (h2 vs)
  |_=>cases ec
 ·rfl
theorem ZD.rebase {K:FG_} {H0 Hs:Hp} {D:Ends} {r:Out} (s:Same H0 Hs) (h:ZD K H0 D r):ZD K Hs D r:=by
 cases r with
 |nx ρ=>exact fun σ H E=>h σ H (E.rebase s)
 |bk ρ=>exact fun σ H E=>h σ H (E.rebase s)
 |ct ρ=>exact fun σ H E=>h σ H (E.rebase s)
 |rt b=>exact fun v H s' n r=>h v H (s.trans s') (n.old s) r
theorem vM {gt:Dt->Ev->Option Ev} {gb:Ev->Option Out} {J:It} {ds:List Dt} {H0 H1:Hp} {σ:L2.St} {ρ:Ev} {D:Ends} {r:Out} (E1:bF X.K H0 H1 σ ρ) (Y:Yields X.K J ds (cT H1 σ ρ)) (e:yW gt gb ds ρ=some r) (q:ZD X.K H0 D r) :
  ∃ W:Nat->Nat->L2.St->Hp->Prop,(∃ m,W 0 m σ H1)/\∀ i m σ H,W i m σ H →
   (J.stop i H/\D.nx σ H)\/(J.go i H/\∃ N:L2.St->Hp->Prop,(∀ σ' H',N σ' H'->∃ m',m' < m/\W (i+1) m' σ' H')/\∀ x H',J.yld i H x H'->tgF X.K gt x σ H' fun σ2 H2=>tG X.K gb { D with nx:=N,ct:=N,bk:=D.nx } σ2 H2):=by
 have E2:=E1.sans
 have q2:=q.rebase E1.sub
 generalize cT H1 σ ρ=Hs at Y E2 q2
 refine⟨fun i m σ' H'=>m=ds.length - i/\i<=ds.length/\∃ ρ',bF X.K Hs H' σ' ρ'/\yW gt gb (ds.drop i) ρ'=some r,⟨ds.length,by simp,QP _,ρ,E2,by simpa using e⟩,?_⟩
 rintro i m σ' H' ⟨rfl,hi',ρ',E',e'⟩
 obtain⟨y1,y2⟩:=Y i H' E'.base
 by_cases hlt:i < ds.length
 ·right
  have hd:ds[i]?=some ds[i]:=by simp[hlt]
  obtain⟨go,yl⟩:=y1 _ hd
  rw[QU hlt] at e'
  simp only[yW] at e'
  obtain⟨ρ1,e1,e'⟩:=bind_some e'
  obtain⟨r1,e2,e'⟩:=bind_some e'
  refine⟨go,fun σ2 H2=>∃ ρ2,bF X.K Hs H2 σ2 ρ2/\yW gt gb (ds.drop (i+1)) ρ2=some r,fun σ2 H2 ⟨ρ2,E3,e3⟩=>⟨ds.length - (i+1),by omega,rfl,hlt,ρ2,E3,e3⟩,fun x H2 yy=>?_⟩
  obtain⟨sm,rx⟩:=yl x H2 yy
  refine⟨Hs,ρ',ds[i],ρ1,E'.grow sm,rx,e1,fun σ1 E3 _=>⟨Hs,ρ1,r1,E3,e2,?_⟩⟩
  cases r1 with
  |nx ρ2=>exact fun σ2 H3 E4=>⟨ρ2,E4,e'⟩
  |ct ρ2=>exact fun σ2 H3 E4=>⟨ρ2,E4,e'⟩
  |bk ρ2=>cases e';exact q2
  |rt b=>cases e';exact q2
 ·left
  have hge:ds.length<=i:=by omega
  refine⟨y2 hge,?_⟩
  rw[km hge] at e'
  cases e'
  exact q2 σ' H' E'
theorem yX {iter:Expr} {body:List Stmt} {fi:Ev->Option (List Dt)} {gt:Dt->Ev->Option Ev} {gb:Ev->Option Out} {pos:Pos} (hp:PassesOwn (model X.prog X.w) X.A X.env X.xe) (hc:X.calm=true) (hi:QIF X tg iter fi) (hg:QTg X tg gt) (hb:V6 X body gb) (hs:∀ x,foldedSetIterable iter X.env x=pure x:=by intro _;rfl):XF X (.For tg iter body [] pos) (fun ρ=>(fi ρ).bind fun ds=>yW gt gb ds ρ):=⟨have hi:=hi.run;have hg:=hg.run;have hb:=hb.run;psM (Oo hp hc hi hg hb hs) fun D σ H h=>by
 obtain⟨H0,ρ,r,E,e,q⟩:=h
 obtain⟨ds,ed,e⟩:=bind_some e
 refine⟨H0,ρ,ds,E,ed,fun J H1 s1 y=>?_⟩
 have E1:=E.grow s1
 refine vM E1 ?_ e q
 refine y _ pY (fun a ha=>?_) (fun a o u ha=>dN E1 (fun vs z=>by rw[ha] at z;cases z) (fun vs z=>by rw[ha] at z;cases z)) fun a vs ha=>dN E1 (fun vs z=>by rw[ha] at z;cases z) (fun vs z=>by rw[ha] at z;cases z)
 unfold cT
 split
 ·rename_i hh
  obtain⟨i,c,e1,ec,e2⟩:=hh
  obtain⟨v,e3,rc⟩:=E.val i _ e1
  rw[e2] at e3;cases e3
  cases c with
  |o ds=>obtain⟨a',vs,e4,q,_⟩:=rc;cases e4;rw[ha] at q;cases q
  |m ds _=>obtain⟨a',vs,e4,q,_⟩:=rc;cases e4;rw[ha] at q;cases q
  |_=>cases ec
 ·rfl⟩
theorem bF.lend {K:FG_} {H0 H:Hp} {σ:L2.St} {ρ:Ev} {i:Nat} {ds:List Dt} (E:bF K H0 H σ ρ) (h:ρ[i]?=some (some (.o ds))):bF K H0 H σ (ρ.set i (some (.l ds))):=by
 have back:∀ (j:Nat) (b:Bx),(ρ.set i (some (.l ds)))[j]?=some (some b)->(j=i/\b=.l ds)\/(j≠i/\ρ[j]?=some (some b)):=fun j b e=>by
  rcases getset e with⟨rfl,e',_⟩|⟨hne,e'⟩
  ·cases e';exact .inl ⟨rfl,rfl⟩
  ·exact .inr ⟨hne,e'⟩
 refine⟨by rw[qf];exact E.len,fun j b e=>?_,fun j k c a b e1 ec e2 e3 e4 e5=>?_,E.base,fun j c a e1 ec e2=>?_⟩
 ·rcases back j b e with⟨rfl,rfl⟩|⟨hne,e'⟩
  ·obtain⟨v,e1,a,vs,e2,q,r⟩:=E.val _ _ h
   exact⟨v,e1,a,vs,e2,.inl q,r⟩
  ·exact E.val j b e'
 ·rcases back j _ e1 with⟨rfl,z⟩|⟨hne,e'⟩
  ·subst z;cases ec
  ·rcases back k _ e3 with⟨rfl,z⟩|⟨acz,e3'⟩
   ·exact E.own j _ c a _ e' ec e2 h rfl e5
   ·exact E.own j k c a b e' ec e2 e3' e4 e5
 ·rcases back j _ e1 with⟨rfl,z⟩|⟨hne,e'⟩
  ·subst z;cases ec
  ·exact E.new j c a e' ec e2
def MF (i:Nat) (gt:Dt->Ev->Option Ev) (gb:Ev->Option Out) (ρ:Ev):Option Out:=match ρ[i]? with
 |some (some (.o ds))=>yW gt gb ds (ρ.set i (some (.l ds)))
 |some (some (.l ds))=>yW gt gb ds ρ
 |some (some b)=>(ZJ b).bind fun ds=>yW gt gb ds ρ
 |_=>none
theorem ZK {H0 H:Hp} {σ:L2.St} {ρ:Ev} {i:Nat} {ds:List Dt} (E:bF X.K H0 H σ ρ) (h:ρ[i]?=some (some (.l ds))):∃ a vs,σ[i]?=some (some (.ref a))/\vH X.K H a vs/\Yields X.K (Itl X.K a) ds (cT H σ ρ):=by
 obtain⟨v,e1,a,vs,rfl,q,r⟩:=E.val i _ h
 have hk:cT H σ ρ a=H a:=by
  unfold cT
  split
  ·rename_i hh
   obtain⟨j,c,e2,ec,e3⟩:=hh
   have:=E.own j i c a _ e2 ec e3 h rfl e1
   subst this
   rw[h] at e2;cases e2;cases ec
  ·rfl
 refine⟨a,vs,e1,.inl q,.list (.inl ?_) (r.part (fun b o u hb=>dN E (fun vs z=>by rw[hb] at z;cases z) (fun vs z=>by rw[hb] at z;cases z)) fun b ws hb=>dN E (fun vs z=>by rw[hb] at z;cases z) (fun vs z=>by rw[hb] at z;cases z))⟩
 rcases q with q|⟨o,q⟩
 ·exact .inl (hk.trans q)
 ·exact .inr ⟨o,hk.trans q⟩
theorem acC (i:Nat) {x:Str} {p:Pos} {body:List Stmt} {gt:Dt->Ev->Option Ev} {gb:Ev->Option Out} {pos:Pos} (hp:PassesOwn (model X.prog X.w) X.A X.env X.xe) (hc:X.calm=true) (hg:QTg X tg gt) (hb:V6 X body gb) (hN:X.N[i]?=some x:=by rfl) (hv:Mt X.env.scope x:=by first|exact ZU rfl|exact Zs (ZU rfl)|exact Zs (Zs rfl)) (hd:(x==("__debug__" : Str))=false:=by decide) (hcd:(x==("__classdict__" : Str))=false:=by decide) (hs:∀ y,foldedSetIterable (.Name x p) X.env y=pure y:=by intro _;rfl):XF X (.For tg (.Name x p) body [] pos) (MF i gt gb):=⟨have hg:=hg.run;have hb:=hb.run;psM (Oo hp hc (Ul (tD (i:=i) hN hv hd hcd)) hg hb hs) fun D σ H h=>by
 obtain⟨H0,ρ,r,E,e,q⟩:=h
 unfold MF at e
 split at e
 ·rename_i ds hρ
  have E1:=E.lend hρ
  have hi:i < ρ.length:=(List.getElem?_eq_some_iff.mp hρ).1
  obtain⟨a,vs,e1,sq,Y⟩:=ZK E1 (yS _ hi)
  exact⟨_,e1,.inl ⟨a,rfl,⟨vs,sq⟩,vM E1 Y e q⟩⟩
 ·rename_i ds hρ
  obtain⟨a,vs,e1,sq,Y⟩:=ZK E hρ
  exact⟨_,e1,.inl ⟨a,rfl,⟨vs,sq⟩,vM E Y e q⟩⟩
 ·rename_i b n1 n2 hρ
  obtain⟨ds,ed,e⟩:=bind_some e
  obtain⟨v,e1,rb⟩:=E.val i _ hρ
  have hf:∀ b o u,H b=some (.CV o u)->cT H σ ρ b=H b:=fun b o u hb=>dN E (fun vs z=>by rw[hb] at z;cases z) (fun vs z=>by rw[hb] at z;cases z)
  have ht:∀ b ws,H b=some (.tup ws)->cT H σ ρ b=H b:=fun b ws hb=>dN E (fun vs z=>by rw[hb] at z;cases z) (fun vs z=>by rw[hb] at z;cases z)
  cases b with
  |z d=>
   cases d with
   |tup ds'=>
    cases ed
    simp only[bH,Rep] at rb
    obtain⟨a,vs,rfl,hq,rs⟩:=rb
    refine⟨_,e1,.inr (.inl ⟨a,rfl,⟨vs,hq⟩,vM E (.tup ?_ (rs.part hf ht)) e q⟩)⟩
    rcases hq with (hq|⟨o,hq⟩)|hq
    ·exact .inl (.inl ((ht _ _ hq).trans hq))
    ·exact .inl (.inr ⟨o,(hf _ _ _ hq).trans hq⟩)
    ·exact .inr hq
   |lst ds'=>
    cases ed
    simp only[bH,Rep] at rb
    obtain⟨a,vs,rfl,hq,rs⟩:=rb
    refine⟨_,e1,.inl ⟨a,rfl,⟨vs,hq.sq⟩,vM E (.list ?_ (rs.part hf ht)) e q⟩⟩
    rcases hq with⟨o,hq⟩|hq
    ·exact .inl (.inr ⟨o,(hf _ _ _ hq).trans hq⟩)
    ·exact .inr hq
   |str x=>
    cases ed
    simp only[bH,Rep] at rb
    obtain⟨rfl,_⟩:=rb
    exact⟨_,e1,.inr (.inr ⟨x,rfl,vM E (.str x) e q⟩)⟩
   |_=>cases ed
  |l ds'=>cases ed
  |o ds'=>exact absurd rfl (n1 ds')
  |n ds'=>cases ed
  |m ds'=>cases ed
 ·cases e⟩
end
def SubL (cells:List (Str×Addr)):List (Str×Addr)->Prop
 |[]=>True
 |(n,c)::r=>cells.lookup n=some c/\SubL cells r
theorem SubL.get {cells:List (Str×Addr)}:∀ {cl:List (Str×Addr)},SubL cells cl->∀ {x:Str} {c:Addr},cl.lookup x=some c->cells.lookup x=some c
 |[],_,_,_,e=>by cases e
 |(n,d)::r,h,x,c,e=>by
  rw[List.lookup_cons] at e
  by_cases hx:x==n
  ·simp only[hx] at e
   cases e
   have:x=n:=by simpa using hx
   rw[this];exact h.1
  ·have hx:(x==n)=false:=by simpa using hx
   simp only[hx] at e
   exact SubL.get h.2 e
structure Cap (X:Cx) (scope:Scope) (cl:List (Str×Addr)) (x:Str) (i:Nat):Prop where
 n:X.N[i]?=some x
 k:X.env.kindOf x=some .cell\/X.env.kindOf x=some .free
 k':(relabel scope X.env).names.lookup x=some .cell\/(relabel scope X.env).names.lookup x=some .free
 c:∃ c,cl.lookup x=some c
def MJ (X:Cx) (scope:Scope) (cl:List (Str×Addr)):LS_->List Nat->Prop
 |[],[]=>True
 |x::xs,i::is=>Cap X scope cl x i/\MJ X scope cl xs is
 |_,_=>False
theorem MJ.get {X:Cx} {scope:Scope} {cl:List (Str×Addr)}:∀ {xs:LS_} {is:List Nat},MJ X scope cl xs is->xs.length=is.length/\∀ (j:Nat) (x:Str),xs[j]?=some x->∃ i,is[j]?=some i/\Cap X scope cl x i
 |[],[],_=>⟨rfl,fun j x e=>by simp at e⟩
 |x::xs,i::is,h=>by
  obtain⟨h1,h2⟩:=h
  obtain⟨l,g⟩:=MJ.get h2
  refine⟨by simp[l],fun j y e=>?_⟩
  cases j with
  |zero=>simp at e;subst e;exact⟨i,rfl,h1⟩
  |succ j=>obtain⟨k,e1,e2⟩:=g j y (by simpa using e);exact⟨k,by simpa using e1,e2⟩
 |[],_::_,h=>h.elim
 |_::_,[],h=>h.elim
def afp (names:List (Str×NameKind)) (x:Str):Bool:=match names.lookup x with
 |some .cell=>true
 |_=>false
def Jf (X:Cx) (N':LS_) (scope:Scope) (cl:List (Str×Addr)) (C:Addr) (s₀:Shared) (H₀:Hp) (fp:List Addr):Cx:=
 { X with N:=N',s₀:=s₀,H₀:=H₀,env:=compEnvC scope (cellsFrom (C+1) scope.names cl) C X.env,outer:=X.stack,ex:=fp,fn:=afp scope.names,pn:=[],xe:=fun _ _=>False }
structure afq (h:Heap) (cs:List (Str×Addr)):Prop where
 inj:∀ x y c,cs.lookup x=some c->cs.lookup y=some c->x=y
 cell:∀ x c,cs.lookup x=some c->∃ v,h.IsCell c v
theorem pF {α:Type} {x n:Str} {a:α} {l:List (Str×α)} (h:x≠n):((n,a)::l).lookup x=l.lookup x:=by
 rw[List.lookup_cons,beq_eq_false_iff_ne.mpr h]
theorem ZL:∀ (names:List (Str×NameKind)) (h:Heap) (acc:List (Str×Addr)),afq h acc->afq (pushCells h names) (cellsFrom h.objs.size names acc)
 |[],_,_,x=>x
 |(n,k)::r,h,acc,x=>by
  unfold pushCells cellsFrom
  split
  ·have hlt:∀ y c,acc.lookup y=some c->c≠h.objs.size:=fun y c e=>let ⟨_,q⟩:=x.cell y c e;ZI q.lt
   have:=ZL r (h.push { cls:=.type "cell", data:=.cell none }) ((n,h.objs.size)::acc) ⟨fun y z c e1 e2=>?_,fun y c e=>?_⟩
   ·rwa [JO] at this
   ·by_cases hy:y=n<;>by_cases hz:z=n
    ·rw[hy,hz]
    ·subst hy;rw[Jn] at e1;rw[pF hz] at e2;cases e1;exact absurd rfl (hlt _ _ e2)
    ·subst hz;rw[Jn] at e2;rw[pF hy] at e1;cases e2;exact absurd rfl (hlt _ _ e1)
    ·rw[pF hy] at e1;rw[pF hz] at e2;exact x.inj y z c e1 e2
   ·by_cases hy:y=n
    ·subst hy;rw[Jn] at e;cases e;exact⟨none,_,zS _ rfl,rfl⟩
    ·rw[pF hy] at e
     obtain⟨v,q⟩:=x.cell y c e
     exact⟨v,q.keeps fun b o e=>zd _ e⟩
  ·exact ZL r h acc x
theorem Dl:∀ (names:List (Str×NameKind)) (n:Nat) (acc:List (Str×Addr)) (x:Str) (c:Addr),(cellsFrom n names acc).lookup x=some c->acc.lookup x=some c\/n<=c
 |[],_,_,_,_,e=>.inl e
 |(m,k)::r,n,acc,x,c,e=>by
  unfold cellsFrom at e
  split at e
  ·rcases Dl r _ _ x c e with h|h
   ·by_cases hx:x=m
    ·subst hx;rw[Jn] at h;cases h;exact .inr (zl _)
    ·rw[pF hx] at h;exact .inl h
   ·exact .inr (by omega)
  ·exact Dl r _ _ x c e
theorem O7:∀ (names:List (Str×NameKind)) (n:Nat) (acc:List (Str×Addr)) (x:Str),(x,NameKind.cell)∉names->(cellsFrom n names acc).lookup x=acc.lookup x
 |[],_,_,_,_=>rfl
 |(m,k)::r,n,acc,x,h=>by
  unfold cellsFrom
  have hr:(x,NameKind.cell)∉r:=fun z=>h (zo _ z)
  split
  ·rename_i hk
   rw[O7 r _ _ x hr,pF fun z=>h (by rw[z,<-beq_iff_eq.mp hk];exact zi ..)]
  ·exact O7 r _ _ x hr
theorem Um:∀ (names:List (Str×NameKind)) (n:Nat) (acc:List (Str×Addr)) (x:Str),((x,NameKind.cell)∈names\/∃ c,acc.lookup x=some c)->∃ c,(cellsFrom n names acc).lookup x=some c
 |[],_,_,_,h=>h.elim (fun z=>by simp at z) fun z=>z
 |(m,k)::r,n,acc,x,h=>by
  unfold cellsFrom
  split
  ·refine Um r _ _ x ?_
   by_cases hx:x=m
   ·exact .inr ⟨n,by rw[hx,Jn]⟩
   ·rw[pF hx]
    exact h.imp_left fun z=>(List.mem_cons.mp z).elim (fun z=>absurd (congrArg Prod.fst z) hx) fun z=>z
  ·rename_i hk
   exact Um r _ _ x (h.imp_left fun z=>(List.mem_cons.mp z).elim (fun z=>by cases z;exact absurd rfl hk) fun z=>z)
theorem XJ {M:Model} {A:Around} {E:VP_} {s:Shared} {scope:Scope} {g:Addr} {cl:List (Str×Addr)} {qual:Str} {env:Env} {Q:Env->Shared->Prop}
  (h:Q (newEnv scope s.heap.objs.size g (cellsFrom (s.heap.objs.size+1) scope.names cl) qual none .none (some env) builtinsNs) { s with heap:=pushCells (s.heap.push { cls:=.type "dict", data:=.dict #[] }) scope.names }) :
  wpAny M A (newFunctionEnv scope g cl [] qual none .none (some env)) Q E s:=by
 simp only[newFunctionEnv,Option.isSome_some,QR]
 refine zb (wpAny_alloc ?_)
 refine zb (wpAny_layCells _ (fun name kind cells=>by cases kind==NameKind.cell<;>simp) _ _ _ _ ?_)
 rw[show ({ s with heap:=s.heap.push { cls:=.type "dict", data:=.dict #[] } }:Shared).heap.objs.size=s.heap.objs.size+1 from JO ..]
 rw[List.forIn_nil]
 exact zb (ze (ze h))
structure uV (X:Cx) (scope:Scope) (cl:List (Str×Addr)) (xs:LS_) (is:List Nat):Prop where
 clos:closureFor scope X.env=pure cl
 kind:scope.kind=.function
 cell:∀ y∈scope.names,y.2=.cell->cl.lookup y.1=none
 names:∀ y∈scope.names,y.2=.local->scope.names.lookup y.1=some .local
 sub:SubL X.env.cells cl
 has:∀ x,((relabel scope X.env).names.lookup x=some .cell\/(relabel scope X.env).names.lookup x=some .free)->(x,NameKind.cell)∈scope.names\/∃ c,cl.lookup x=some c
 cap:MJ X scope cl xs is
def FN (is:List Nat) (σ:L2.St):L2.St:=is.map fun i=>(σ[i]?).bind fun v=>v
def rY (is:List Nat) (ρ:Ev):Ev:=is.map fun i=>Hy ρ i
def ZM (n m:Nat) (g:Dt->Ev->Option Ev):Prop:=∀ d ρ ρ',g d ρ=some ρ'->ρ'.length=ρ.length/\∀ j,j < n\/m<=j->ρ'[j]?=ρ[j]?
def acD (n m:Nat) (g:List Dt->Ev->Option Ev):Prop:=∀ d ρ ρ',g d ρ=some ρ'->ρ'.length=ρ.length/\∀ j,j < n\/m<=j->ρ'[j]?=ρ[j]?
theorem dY {n i m:Nat} (h:n<=i:=by decide) (h':i < m:=by decide):ZM n m (fun d ρ=>some (ρ.set i (some (.z d)))):=fun d ρ ρ' e=>by
 cases e
 exact⟨by rw[qf],fun j hj=>rN _ (by omega)⟩
theorem O8 {n m:Nat}:acD n m yU:=fun d ρ ρ' e=>by
 cases d with
 |nil=>cases e;exact⟨rfl,fun _ _=>rfl⟩
 |cons=>cases e
theorem vN {n m:Nat} {g:Dt->Ev->Option Ev} {gs:List Dt->Ev->Option Ev} (h:ZM n m g) (hs:acD n m gs):acD n m (gW g gs):=fun d ρ ρ' e=>by
 cases d with
 |nil=>cases e
 |cons d ds=>
  simp only[gW] at e
  obtain⟨ρ1,e1,e⟩:=bind_some e
  obtain⟨a,b⟩:=h _ _ _ e1
  obtain⟨a',b'⟩:=hs _ _ _ e
  exact⟨a'.trans a,fun j hj=>(b' j hj).trans (b j hj)⟩
theorem Uo {n m k:Nat} {gs:List Dt->Ev->Option Ev} (hs:acD n m gs):ZM n m (yV k gs):=fun d ρ ρ' e=>by
 cases d with
 |tup ds=>
  simp only[yV] at e
  split at e
  ·exact hs _ _ _ e
  ·cases e
 |_=>cases e
def Bo (gt:Dt->Ev->Option Ev) (p:Ev->Option Bool) (fs:Ev->Option (List Dt)) (ρ:Ev):List Dt->Option (List Dt)
 |[]=>some []
 |d::ds=>(gt d ρ).bind fun ρ1=>(p ρ1).bind fun k=>if k=true then (fs ρ1).bind fun ys=>(Bo gt p fs ρ ds).bind fun zs=>some (ys++zs) else Bo gt p fs ρ ds
def afr:Bx->Option (List Dt)
 |.z y=>some [y]
 |_=>none
def Bq (gt:Dt->Ev->Option Ev) (p:Ev->Option Bool) (fe:Ev->Option Bx) (ρ:Ev):List Dt->Option (List Dt):=Bo gt p (fun ρ=>(fe ρ).bind afr) ρ
theorem FP {b:Bx} {ys:List Dt} (h:afr b=some ys):∃ y,b=.z y/\ys=[y]:=by
 cases b<;>cases h
 exact⟨_,rfl,rfl⟩
theorem vO {gt:Dt->Ev->Option Ev} {p:Ev->Option Bool} {fe:Ev->Option Bx} {ρ:Ev}:∀ {ds out:List Dt},Bq gt p fe ρ ds=some out->out.length<=ds.length
 |[],_,e=>by cases e;exact zl _
 |d::ds,out,e=>by
  simp only[Bq,Bo] at e
  obtain⟨ρ1,_,e⟩:=bind_some e
  obtain⟨k,_,e⟩:=bind_some e
  cases k with
  |false=>
   rw[zI zr] at e
   exact zz (vO (gt:=gt) (p:=p) (fe:=fe) e) (by simp)
  |true=>
   rw[zk rfl] at e
   obtain⟨ys,ey,e⟩:=bind_some e
   obtain⟨zs,ez,e⟩:=bind_some e
   obtain⟨b,_,ey⟩:=bind_some ey
   obtain⟨y,_,rfl⟩:=FP ey
   cases e
   simpa using vO (gt:=gt) (p:=p) (fe:=fe) ez
def Tests (X:Cx) (ifs:List Expr) (p:Ev->Option Bool):Prop:=(ifs=[]/\p=fun _=>some true)\/∃ c,ifs=[c]/\PB X c p
structure JD (X:Cx) (ifs:List Expr) (p:Ev->Option Bool):Prop where
 run:Tests X ifs p
section
variable {X:Cx} {elt tgt iter:Expr} {ifs:List Expr} {scope:Scope} {cl:List (Str×Addr)} {pos:Pos} {xs ts:LS_} {is:List Nat} {gt:Dt->Ev->Option Ev} {p:Ev->Option Bool} {fe:Ev->Option Bx} {fi:Ev->Option (List Dt)}
theorem ZP {pins:List (Addr×Obj)} {σ:L2.St} {H3:Hp} {s3:Shared} {fp:List Addr} (I3:L2.Inv X pins σ H3 s3) (O:uV X scope cl xs is)
  (hf:∀ b∈fp,yH X pins H3 b) (hfl:∀ b∈fp,b < s3.heap.objs.size) :
  L2.Inv (Jf X (xs++ts) scope cl s3.heap.objs.size s3 H3 fp) [] (FN is σ++List.replicate ts.length none) H3 { s3 with heap:=pushCells (s3.heap.push { cls:=.type "dict", data:=.dict #[] }) scope.names }:=by
 obtain⟨hl,hc⟩:=O.cap.get
 have hsub:=O.sub
 have hsz:(s3.heap.push { cls:=.type "dict", data:=.dict #[] }).objs.size=s3.heap.objs.size+1:=JO ..
 have hk:∀ b o,s3.heap.get? b=some o->(pushCells (s3.heap.push { cls:=.type "dict", data:=.dict #[] }) scope.names).get? b=some o:=fun b o e=>pushCells_keeps _ _ b o (zd _ e)
 have cf:afq (pushCells (s3.heap.push { cls:=.type "dict", data:=.dict #[] }) scope.names) (cellsFrom (s3.heap.objs.size+1) scope.names cl):=by
  rw[<-hsz]
  refine ZL _ _ _ ⟨fun x y c e1 e2=>I3.ok.inj x y c (hsub.get e1) (hsub.get e2),fun x c e=>?_⟩
  obtain⟨v,q⟩:=I3.cell x c (hsub.get e)
  exact⟨v,q.keeps fun b o e=>zd _ e⟩
 have from':∀ x c,(cellsFrom (s3.heap.objs.size+1) scope.names cl).lookup x=some c->X.env.cells.lookup x=some c\/s3.heap.objs.size < c:=fun x c e=>(Dl _ _ _ x c e).imp_left hsub.get
 refine⟨⟨I3.ok.mod,O.kind,I3.ok.glob,I3.ok.blt,zl _,cf.inj,fun x hx=>Um _ _ _ x (O.has x hx),fun x c hx e=>?_,I3.ok.hd,I3.ok.frames,.inl rfl,fun b hb=>⟨ZI (hfl b hb),fun x c e=>?_⟩,I3.bs,zz I3.ok.YZ I3.sz,fun b o e hb=>?_,fun b hb hb'=>?_,I3.stack,I3.IK⟩,
  rfl,I3.bare,Un.kept hk,⟨_,(Heap.Ns.new s3.heap (.type "dict")).keeps (pushCells_keeps _ _),fun j x v e1 e2 _=>?_⟩,cf.cell,I3.hok.fresh (zl _),fun x c e=>(from' x c e).elim (I3.rM x c) fun h=>I3.hok.fresh (Q1 h),fun q hq=>absurd (show q∈([]:List (Addr×Obj)) from hq) (by simp),I3.hok.kept hk,?_⟩
 ·refine (Dl _ _ _ x c e).elim (fun h=>?_) fun h=>Q1 h
  have hx:(x,NameKind.cell)∈scope.names:=by
   have hx:afp scope.names x=true:=hx
   unfold afp at hx
   split at hx
   ·rename_i q;exact mem_of_lookup q
   ·cases hx
  rw[O.cell _ hx rfl] at h;cases h
 ·rcases from' x c e with h|h
  ·exact (hf b hb).2.2.2.2.1 x c h
  ·exact js (Nat.lt_trans (hfl b hb) h)
 ·obtain⟨_,_,_,z,_⟩:=hf b hb
  rcases z with z|z
  ·exact I3.ok.Xg b o e z
  ·exact absurd (ZE (zt e) (zz I3.ok.YZ z)) (jS _)
 ·obtain⟨_,n1,n2,_⟩:=hf b hb
  rcases List.mem_cons.mp (I3.Jq b hb') with z|z
  ·exact n1 z
  ·exact n2 z
 ·have hj:j < is.length:=by
   by_cases hj:j < is.length
   ·exact hj
   ·rw[qE (by simp[FN];omega)] at e2
    rw[QI] at e2
    split at e2<;>cases e2
  have e1':xs[j]?=some x:=by
   have e1:(xs++ts)[j]?=some x:=e1
   rw[qa (by omega)] at e1;exact e1
  obtain⟨i,ei,hcp⟩:=hc j x e1'
  have e3:σ[i]?=some (some v):=by
   rw[qa (by simp[FN];omega)] at e2
   unfold FN at e2
   rw[ZZ,ei] at e2
   cases q:σ[i]? with
   |none=>rw[Option.map_some,q] at e2;cases e2
   |some o=>
    rw[Option.map_some,q] at e2
    have:o=some v:=by simpa using e2
    rw[this]
  have vis:Mt X.env.scope x:=by
   rcases hcp.k with k|k
   ·exact .inr (.inl k)
   ·exact .inr (.inr k)
  obtain⟨m',hn',hlk⟩:=I3.loc
  obtain⟨u,r,l⟩:=hlk i x v hcp.n e3 vis
  refine⟨u,r,?_⟩
  rcases l with⟨k,_⟩|⟨k,c,ec,ic⟩
  ·rcases hcp.k with k'|k'<;>(rw[k] at k';cases k')
  ·obtain⟨c',ec'⟩:=hcp.c
   have:=hsub.get ec'
   rw[ec] at this;cases this
   refine .inr ⟨hcp.k',c,(O7 _ _ _ x fun z=>by rw[O.cell _ z rfl] at ec';cases ec').trans ec',?_⟩
   obtain⟨o,ho,hd⟩:=ic
   exact⟨o,hk c o ho,hd⟩
 ·show (FN is σ++List.replicate ts.length none).length=(xs++ts).length
  simp[FN,hl]
theorem bF.caps {K:FG_} {H0 H:Hp} {σ:L2.St} {ρ:Ev} (E:bF K H0 H σ ρ) (is:List Nat) (n:Nat):bF K H H (FN is σ++List.replicate n none) (rY is ρ++List.replicate n none):=by
 have noO:∀ (j:Nat) c,(rY is ρ++List.replicate n none)[j]?=some (some c)->BX c=false:=fun j c e=>by
  by_cases hj:j < is.length
  ·rw[qa (by simp[rY];omega)] at e
   unfold rY at e
   rw[ZZ] at e
   cases q:is[j]? with
   |none=>rw[q] at e;cases e
   |some i=>
    rw[q] at e
    have:Hy ρ i=some c:=by simpa using e
    exact Jc this
  ·rw[qE (by simp[rY];omega),QI] at e
   split at e<;>cases e
 refine⟨by simp[FN,rY],fun j b e=>?_,fun j k c a b e ec=>absurd ec (by rw[noO j c e];exact zr),Same.refl H,fun j c a e ec=>absurd ec (by rw[noO j c e];exact zr)⟩
 by_cases hj:j < is.length
 ·rw[qa (by simp[rY];omega)] at e
  rw[qa (by simp[FN];omega)]
  unfold rY at e
  unfold FN
  rw[ZZ] at e ⊢
  cases q:is[j]? with
  |none=>rw[q] at e;cases e
  |some i=>
   rw[q] at e
   have:Hy ρ i=some b:=by simpa using e
   obtain⟨v,e1,r⟩:=QX E this
   exact⟨v,by simp[e1],r⟩
 ·rw[qE (by simp[rY];omega),QI] at e
  split at e<;>cases e
theorem bF.forget {K:FG_} {H0 H:Hp} {σ:L2.St} {ρ ρ':Ev} (E:bF K H0 H σ ρ') (hl:ρ'.length=ρ.length) (h:∀ (j:Nat) b,ρ[j]?=some (some b)->ρ'[j]?=some (some b)):bF K H0 H σ ρ:=
 ⟨E.len.trans hl,fun j b e=>E.val j b (h j b e),fun i j c a b e1 ec e2 e3 e4 e5=>E.own i j c a b (h _ _ e1) ec e2 (h _ _ e3) e4 e5,E.base,fun i c a e1 ec e2=>E.new i c a (h _ _ e1) ec e2⟩
structure Apt (Hb:Hp) (σ:L2.St) (ρ:Ev) (n:Nat):Prop where
 own:∀ (j:Nat) c,ρ[j]?=some (some c)->BX c=false
 lt:∀ (j:Nat) b,ρ[j]?=some (some b)->j < n
 old:∀ (j:Nat) c a,ρ[j]?=some (some c)->loose c=true->σ[j]?=some (some (.ref a))->Hb a≠none
def Fx (σ σ':L2.St) (ρ:Ev):Prop:=∀ (j:Nat) c,loose c=true->ρ[j]?=some (some c)->σ'[j]?=σ[j]?
theorem Apt.fx {Hb:Hp} {σ σ':L2.St} {ρ:Ev} {n:Nat} (P:Apt Hb σ ρ n) (f:Fx σ σ' ρ):Apt Hb σ' ρ n:=⟨P.own,P.lt,fun j c a e hl ea=>P.old j c a e hl (by rw[<-f j c hl e];exact ea)⟩
theorem known {K:FG_} {H0 H:Hp} {σ:L2.St} {ρ:Ev} (E:bF K H0 H σ ρ) (j:Nat) (c:Bx) (a:Addr) (e:ρ[j]?=some (some c)) (hl:loose c=true) (ea:σ[j]?=some (some (.ref a))):H a≠none:=fun z=>by
 obtain⟨v,e1,rc⟩:=E.val j _ e
 rw[ea] at e1;cases e1
 cases c with
 |z d=>cases hl
 |l dz=>
  obtain⟨a',vs,e2,q,_⟩:=rc
  cases e2
  rcases q with q|⟨o,q⟩<;>(rw[z] at q;cases q)
 |n dz=>
  obtain⟨a',vs,e2,q,_⟩:=rc
  cases e2
  rcases q with q|⟨o,q⟩<;>(rw[z] at q;cases q)
 |o dz=>
  obtain⟨a',vs,e2,q,_⟩:=rc
  cases e2
  rw[z] at q;cases q
 |m dz _=>
  obtain⟨a',vs,e2,q,_⟩:=rc
  cases e2
  rw[z] at q;cases q
theorem bF.grown {K:FG_} {Hb H:Hp} {σ:L2.St} {ρ:Ev} {n:Nat} {D:Addr} {o:HO} (E:bF K Hb H σ ρ) (P:Apt Hb σ ρ n) (hD:Hb D=none) (kp:Kp H (upd H D o)):bF K Hb (upd H D o) σ ρ:=by
 refine⟨E.len,fun j b e=>?_,fun j k c a b e ec=>absurd ec (by rw[P.own j c e];exact zr),fun c o e=>?_,fun j c a e ec=>absurd ec (by rw[P.own j c e];exact zr)⟩
 ·obtain⟨v,ev,rb⟩:=E.val j b e
  refine⟨v,ev,?_⟩
  cases b with
  |z d=>exact Rep.kp kp rb
  |o dz=>have:=P.own j _ e;cases this
  |m dz _=>have:=P.own j _ e;cases this
  |n dz=>
   obtain⟨a,vs,rfl,q,rr⟩:=rb
   refine⟨a,vs,rfl,?_,rr.kp kp⟩
   have ha:a≠D:=fun z=>P.old j _ _ e rfl ev (by rw[z];exact hD)
   exact q.imp (fun q=>by rw[aV ha];exact q) fun ⟨o,q⟩=>⟨o,by rw[aV ha];exact q⟩
  |l dz=>
   obtain⟨a,vs,rfl,q,rr⟩:=rb
   refine⟨a,vs,rfl,?_,rr.kp kp⟩
   have ha:a≠D:=fun z=>P.old j _ _ e rfl ev (by rw[z];exact hD)
   exact q.imp (fun q=>by rw[aV ha];exact q) fun ⟨o,q⟩=>⟨o,by rw[aV ha];exact q⟩
 ·rw[aV (bY e hD)];exact E.base c o e
def XM (X:Cx) (el:Addr->Env->Sem Unit) (fs:Ev->Option (List Dt)) (Ac:Addr->Hp->List Dt->HO->Prop) (N n:Nat):Prop:=∀ (pins:List (Addr×Obj)) (s:Shared) (σ:L2.St) (H Hb:Hp) (ρ:Ev) (D:Addr) (o:HO) (o1 ys:List Dt),L2.Inv X pins σ H s->bF X.K Hb H σ ρ->Apt Hb σ ρ n->Hb D=none->fs ρ=some ys->H D=some o->Ac D H o1 o->o1.length+ys.length<=N →
 wpAny (model X.prog X.w) X.A (el D X.env) (fun _ s'=>∃ σ' H' o',L2.Inv X pins σ' H' s'/\bF X.K Hb H' σ' ρ/\Fx σ σ' ρ/\H' D=some o'/\Ac D H' (o1++ys) o') X.xe s
theorem Uq {el:Addr->Env->Sem Unit} {fs:Ev->Option (List Dt)} {Ac:Addr->Hp->List Dt->HO->Prop} {N n:Nat} (h:∀ (pins:List (Addr×Obj)) (s:Shared) (σ:L2.St) (H Hb:Hp) (ρ:Ev) (D:Addr) (o:HO) (o1 ys:List Dt),L2.Inv X pins σ H s->bF X.K Hb H σ ρ->fs ρ=some ys->H D=some o->Ac D H o1 o->o1.length+ys.length<=N →
  wpAny (model X.prog X.w) X.A (el D X.env) (fun _ s'=>∃ H9 o',L2.Inv X pins σ (upd H9 D o') s'/\Same H H9/\Kp H9 (upd H9 D o')/\Ac D (upd H9 D o') (o1++ys) o') X.xe s):XM X el fs Ac N n:=fun pins s σ H Hb ρ D o o1 ys I E P hD e1 e2 a1 l=>by
 refine ZA (h pins s σ H Hb ρ D o o1 ys I E e1 e2 a1 l) (fun _ s' ⟨H9,o',I',s9,kp,a'⟩=>?_) fun _ _ z=>z
 exact⟨σ,_,o',I',(E.grow s9).grown P hD kp,fun _ _ _ _=>rfl,bC,a'⟩
theorem XQ {comp:Expr} {d:Nat} {ipos:Pos} {Ac:Addr->Hp->List Dt->HO->Prop} {el:Addr->Env->Sem Unit} {fs:Ev->Option (List Dt)} {N n m:Nat} {pins:List (Addr×Obj)} {σ:L2.St} {H Hb:Hp} {s:Shared} {it D:Addr} {fp:List Addr} {tn:Nat->Heap->Prop} {J:It} {ds o0 out:List Dt} {o:HO} {ρ:Ev} {R:Result->Shared->Prop}
  (hcalm:X.calm=true) (hx:X.xe=fun _ _=>False) (O9:PTg X tgt gt) (hif:Tests X ifs p) (hel:XM X el fs Ac N m) (htk:ZM n m gt) (hnm:n<=m)
  (I:L2.Inv X pins σ H s) (E:bF X.K Hb H σ ρ) (P:Apt Hb σ ρ n) (hD:Hb D=none) (hHD:H D=some o) (hA:Ac D H o0 o)
  (T:Turn X.prog X.w X.K tgt J fp it tn) (st:tn 0 s.heap) (hf:∀ b∈fp,yH X pins H b) (Y:Yields X.K J ds Hb)
  (hout:Bo gt p fs ρ ds=some out) (hN:o0.length+out.length<=N)
  (hAk:∀ {D:Addr} {H H':Hp} {o1:List Dt} {o:HO},Kp H H'->Ac D H o1 o->Ac D H' o1 o)
  (hturn:∀ (it:Value) (D:Addr) (env:Env),compTurn comp d it (.ref D) env=(standAt ipos >>= fun _=>pyNext it >>= fun r=>match r with
   |none=>pure (.done .next)
   |some v=>letOwnedTupleGo tgt it v >>= fun _=>assign tgt env v >>= fun _=>(forIn ifs true fun c r=>if r=true then isTrue c env (eval c env) >>= fun ok=>pure (ForInStep.yield ok) else pure (ForInStep.yield r)) >>= fun ok=>if ok=true then el D env >>= fun _=>again (.compLoop comp d it (.ref D) env) else again (.compLoop comp d it (.ref D) env)))
  (hsh:∀ {it acc:Value} {env:Env} {Q:Fin->Shared->Prop} {E:VP_} {s:Shared},wpAny (model X.prog X.w) X.A ((compTurn comp d it acc env).onRaise (fun x=>noteFrame x env >>= fun _=>theTreesLotGoes x)) Q E s->wpAny (model X.prog X.w) (X.A.under (.compLoop comp d it acc env)) ((model X.prog X.w).den (.compLoop comp d it acc env)) Q E s)
  (hR:∀ s' σ' H' o',L2.Inv X pins σ' H' s'->bF X.K Hb H' σ' ρ->Fx σ σ' ρ->H' D=some o'->Ac D H' (o0++out) o'->R (.ok .next) s') :
  codeAny (model X.prog X.w) X.A (.compLoop comp d (.ref it) (.ref D) X.env) R s:=by
 have hfC:∀ {H':Hp},(∀ b∈fp,H' b=none)->∀ b∈fp,yH X pins H' b:=fun {H'} hn b hb=>⟨hn b hb,(hf b hb).2⟩
 refine codeAny_loop rfl (fun k s'=>∃ (i:Nat) (σ':L2.St) (H':Hp) (o1 o2:List Dt) (o:HO),k=ds.length - i/\i<=ds.length/\L2.Inv X pins σ' H' s'/\tn i s'.heap/\(∀ b∈fp,H' b=none)/\bF X.K Hb H' σ' ρ/\Fx σ σ' ρ/\H' D=some o/\Ac D H' o1 o/\Bo gt p fs ρ (ds.drop i)=some o2/\o1++o2=o0++out) ?_ ds.length
  ⟨0,σ,H,o0,out,o,by simp,QP _,I,st,fun b hb=>(hf b hb).1,E,fun _ _ _ _=>rfl,hHD,hA,by simpa using hout,rfl⟩
 rintro k s4 ⟨i,σ4,H4,o1,o2,o,rfl,hi,I4,st4,fr4,E4,F4,hD4,r4,e4,ho⟩
 have P4:=P.fx F4
 refine hsh (wpAny_noted ?_)
 rw[hturn]
 obtain⟨y1,y2⟩:=Y i H4 E4.base
 by_cases hlt:i < ds.length
 ·have hd:ds[i]?=some ds[i]:=by simp[hlt]
  obtain⟨go,yl⟩:=y1 _ hd
  rw[QU hlt] at e4
  simp only[Bo] at e4
  obtain⟨ρ1,e1,e4⟩:=bind_some e4
  obtain⟨k,ek,e4⟩:=bind_some e4
  obtain⟨hl1,hk1⟩:=htk _ _ _ e1
  have back:∀ {σ5:L2.St} {H5:Hp},bF X.K Hb H5 σ5 ρ1->bF X.K Hb H5 σ5 ρ:=fun E5=>E5.forget hl1 fun j b e=>by rw[hk1 j (.inl (P.lt j b e))];exact e
  refine zb (Qr (zb ?_))
  refine lH (T.item X rfl rfl rfl hcalm i pins s4 σ4 H4 _ I4 (hfC fr4) st4 go) fun r s5 ⟨u,hr,h5⟩=>?_
  subst hr
  refine zb (lH h5 fun _ s6 ⟨x,H6,I6,r6,y6,st6,fr6⟩=>?_)
  obtain⟨sm,rx⟩:=yl x H6 y6
  have E4:=E4.grow sm
  have hD4:=sm _ _ hD4
  have r4:=hAk (.of sm) r4
  have I6':=I6.pinned (hfC fr6) (T.obj _ _ st6)
  have ha:=O9 _ s6 σ4 H6 x u (fun σ' H'=>H'=H6/\bF X.K Hb H6 σ' ρ1/\Lo σ4 ρ σ' ρ1) I6' r6 ⟨Hb,ρ,ds[i],ρ1,E4,rx,e1,fun σ' E' L'=>⟨rfl,E',L'⟩⟩
  rw[hx] at ha
  refine zb (ZA ha (fun _ s7 h7=>?_) fun _ _ z=>z.elim)
  obtain⟨σ7,H7,I7,rfl,E7,L7⟩:=h7
  have P7:Apt Hb σ7 ρ1 m:=by
   refine⟨fun j c e=>?_,fun j c e=>?_,fun j c a e hl ea=>?_⟩
   ·cases c with
    |o ds=>exact P.own j _ (L7 j _ rfl e).1
    |m ds _=>exact P.own j _ (L7 j _ rfl e).1
    |_=>rfl
   ·refine Nat.lt_of_not_le fun h=>?_
    rw[hk1 j (.inr h)] at e
    exact absurd (ZE (P.lt j c e) hnm) (Nat.not_lt.mpr h)
   ·obtain⟨e',ee⟩:=L7 j c hl e
    exact P4.old j c a e' hl (by rw[<-ee];exact ea)
  have aed:∀ {σ5:L2.St},Fx σ7 σ5 ρ1->Fx σ σ5 ρ:=fun f j c hl e=>by
   have e':ρ1[j]?=some (some c):=by rw[hk1 j (.inl (P.lt j c e))];exact e
   exact (f j c hl e').trans ((L7 j c hl e').2.trans (F4 j c hl e))
  have ht:wpAny (model X.prog X.w) X.A (forIn ifs true fun c r=>if r=true then do let ok <-isTrue c X.env (eval c X.env);pure (ForInStep.yield ok) else pure (ForInStep.yield r))
    (fun ok s8=>ok=k/\∃ H8,L2.Inv X (pins++Fv fp s6.heap) σ7 H8 s8/\Same H7 H8) (notedBy (model X.prog X.w) X.A X.env fun e s'=>R (.error e) s') s7:=by
   rcases hif with⟨rfl,rfl⟩|⟨c,rfl,hc⟩
   ·cases ek
    exact wpAny_tests_nil ⟨rfl,H7,I7,Same.refl H7⟩
   ·refine wpAny_tests_one ?_
    have:=hc _ s7 σ7 H7 (fun b H8=>b=k/\Same H7 H8) I7 ⟨Hb,ρ1,k,E7,ek,fun H8 s8=>⟨rfl,s8⟩⟩
    rw[hx] at this
    exact ZA this (fun b s8 ⟨H8,I8,eb,s8'⟩=>⟨eb,H8,I8,s8'⟩) fun _ _ z=>z.elim
  refine zb (ZA ht (fun ok s8 h8=>?_) fun _ _ z=>z)
  obtain⟨rfl,H8,I8,s78⟩:=h8
  have ZQ:∀ {σ9:L2.St} {H9:Hp} {s9:Shared},L2.Inv X (pins++Fv fp s6.heap) σ9 H9 s9->L2.Inv X pins σ9 H9 s9/\tn (i+1) s9.heap/\∀ b∈fp,H9 b=none:=fun {σ9 H9 s9} I9=>by
   refine⟨I9.vI,T.keep _ _ _ st6 fun b hb o e=>(I9.pin (b,o) (z4 _ (z4 _ (wW hb e)))).1,fun b hb=>?_⟩
   obtain⟨o,e,d⟩:=T.obj _ _ st6 b hb
   exact (I9.pin (b,o) (z4 _ (z4 _ (wW hb e)))).2.1
  cases ok with
  |false=>
   rw[zI zr] at e4
   obtain⟨I9,st9,fr9⟩:=ZQ I8
   exact ze ⟨rfl,ds.length - (i+1),by omega,i+1,σ7,H8,o1,o2,o,rfl,hlt,I9,st9,fr9,back (E7.grow s78),aed (fun _ _ _ _=>rfl),s78 _ _ hD4,hAk (.of s78) r4,e4,ho⟩
  |true=>
   rw[zk rfl] at e4
   obtain⟨ys,eb,e4⟩:=bind_some e4
   obtain⟨zs,e5,e4⟩:=bind_some e4
   cases e4
   have hl:=congrArg List.length ho
   simp only[zw] at hl
   have he:=hel _ s8 σ7 H8 Hb ρ1 D o o1 ys I8 (E7.grow s78) P7 hD eb (s78 _ _ hD4) (hAk (.of s78) r4) (by omega)
   rw[hx] at he
   refine zb (ZA he (fun _ s10 h10=>?_) fun _ _ z=>z.elim)
   obtain⟨σ9,H9,o',I10,E9,F9,ZR,a5⟩:=h10
   obtain⟨I11,aj9,akb⟩:=ZQ I10
   exact ze ⟨rfl,ds.length - (i+1),by omega,i+1,σ9,H9,o1++ys,zs,o',rfl,hlt,I11,aj9,akb,back E9,aed F9,ZR,a5,e5,by rw[JI];exact ho⟩
 ·have hge:ds.length<=i:=by omega
  rw[km hge] at e4
  cases e4
  refine zb (Qr (zb ?_))
  refine lH (T.done X rfl rfl rfl hcalm i pins s4 σ4 H4 _ I4 (hfC fr4) st4 (y2 hge)) fun r s5 ⟨hr,I5⟩=>?_
  subst hr
  rw[QO] at ho
  exact ze (hR s5 σ4 H4 o I5 E4 F4 hD4 (by rw[<-ho];exact r4))
def sJ (H:Hp) (D:Addr):Hp:=fun b=>if b=D then none else H b
theorem oh {H:Hp} {D b:Addr} (h:b≠D):sJ H D b=H b:=zI h
theorem wZ {H:Hp} {D:Addr}:Same (sJ H D) H:=fun b o e=>by
 by_cases h:b=D
 ·rw[sJ,zk h] at e;cases e
 ·rw[oh h] at e;exact e
theorem FQ {comp:Expr} {mk:Sem Value} {o0:Obj} {O0:HO} {Ac:Addr->Hp->List Dt->HO->Prop} {el:Addr->Env->Sem Unit} {fs:Ev->Option (List Dt)} {N m:Nat} {pins:List (Addr×Obj)} {σ:L2.St} {H2:Hp} {s2:Shared} {it:Addr} {fp:List Addr} {tn:Nat->Heap->Prop} {J:It} {ds out:List Dt} {ρ:Ev} {RR:Value->Addr->Result->Shared->Prop} {E:VP_}
  (O:uV X scope cl xs is) (hcalm:X.calm=true)
  (O9:∀ C s₀ H₀ fp,PTg (Jf X (xs++ts) scope cl C s₀ H₀ fp) tgt gt) (hif:∀ C s₀ H₀ fp,Tests (Jf X (xs++ts) scope cl C s₀ H₀ fp) ifs p) (helt:∀ C s₀ H₀ fp,XM (Jf X (xs++ts) scope cl C s₀ H₀ fp) el fs Ac N m) (htk:ZM is.length m gt) (hnm:is.length<=m)
  (I2:L2.Inv X pins σ H2 s2) (Ec:bF X.K H2 H2 (FN is σ++List.replicate ts.length none) (rY is ρ++List.replicate ts.length none)) (T:Turn X.prog X.w X.K tgt J fp it tn) (st:tn 0 s2.heap) (hf:∀ b∈fp,yH X pins H2 b) (Y:Yields X.K J ds H2)
  (hout:Bo gt p fs (rY is ρ++List.replicate ts.length none) ds=some out) (hlen:out.length<=N)
  (hRR:∀ (D C:Addr) (s':Shared) (H':Hp) (o:HO),H2 D=none->L2.Inv X pins σ H' s'->yH X pins H' C->(∃ m,s'.heap.Ns C m)->Same H2 H'->H' D=some o->Ac D H' out o->RR (.ref D) C (.ok .next) s')
  (hmk:∀ {Q:VP_},Q (.ref s2.heap.objs.size) { s2 with heap:=s2.heap.push o0 }->wpAny (model X.prog X.w) X.A mk Q E s2) (hO0:∀ H,gC X.prog X.w H (s2.heap.push o0) s2.heap.objs.size O0) (hA0:∀ H,Ac s2.heap.objs.size H [] O0)
  (hAk:∀ {D:Addr} {H H':Hp} {o1:List Dt} {o:HO},Kp H H'->Ac D H o1 o->Ac D H' o1 o)
  (hturn:∀ (it:Value) (D:Addr) (env:Env),compTurn comp 0 it (.ref D) env=(standAt iter.pos >>= fun _=>pyNext it >>= fun r=>match r with
   |none=>pure (.done .next)
   |some v=>letOwnedTupleGo tgt it v >>= fun _=>assign tgt env v >>= fun _=>(forIn ifs true fun c r=>if r=true then isTrue c env (eval c env) >>= fun ok=>pure (ForInStep.yield ok) else pure (ForInStep.yield r)) >>= fun ok=>if ok=true then el D env >>= fun _=>again (.compLoop comp 0 it (.ref D) env) else again (.compLoop comp 0 it (.ref D) env)))
  (hstart:∀ {it acc:Value} {env:Env} {R:Result->Shared->Prop} {s:Shared},codeAny (model X.prog X.w) X.A (.compLoop comp 0 it acc env) R s->wpAny (model X.prog X.w) X.A (pyIter it) (fun it' s'=>codeAny (model X.prog X.w) X.A (.compLoop comp 0 it' acc env) R s') (notedBy (model X.prog X.w) X.A env fun x s'=>R (.error x) s') s->codeAny (model X.prog X.w) X.A (.compStart comp 0 it acc env) R s)
  (hsh:∀ {it acc:Value} {env:Env} {Q:Fin->Shared->Prop} {E:VP_} {s:Shared},wpAny (model X.prog X.w) X.A ((compTurn comp 0 it acc env).onRaise (fun x=>noteFrame x env >>= fun _=>theTreesLotGoes x)) Q E s->wpAny (model X.prog X.w) (X.A.under (.compLoop comp 0 it acc env)) ((model X.prog X.w).den (.compLoop comp 0 it acc env)) Q E s) :
  wpAny (model X.prog X.w) X.A mk (fun acc s₃=>wpAny (model X.prog X.w) X.A (newFunctionEnv scope X.env.globals cl [] X.env.qual none .none (some X.env)) (fun cenv s₄=>
   codeAny (model X.prog X.w) X.A (.compStart comp 0 (.ref it) acc { cenv with scope:=relabel scope X.env }) (RR acc cenv.locals) s₄) E s₃) E s2:=by
 refine hmk (XJ ?_)
 have hD:H2 s2.heap.objs.size=none:=I2.hok.fresh (zl _)
 have I3:L2.Inv X pins σ (upd H2 s2.heap.objs.size O0) { s2 with heap:=s2.heap.push o0 }:=
  I2.laid (t':=s2.toks) (fun b o e=>zd _ e) (zl _) (hO0 _)
 have ahB:∀ b∈fp,b < s2.heap.objs.size:=fun b hb=>let ⟨o,e,_⟩:=T.obj 0 _ st b hb;zt e
 have hf3:∀ b∈fp,yH X pins (upd H2 s2.heap.objs.size O0) b:=fun b hb=>⟨by rw[aV (ZI (ahB b hb))];exact (hf b hb).1,(hf b hb).2⟩
 have st3:tn 0 (s2.heap.push o0):=T.keep 0 _ _ st fun b hb o e=>zd _ e
 have acE:∀ b∈fp,b < (s2.heap.push o0).objs.size:=fun b hb=>by rw[JO];exact Nat.lt_succ_of_lt (ahB b hb)
 generalize hs3:({ s2 with heap:=s2.heap.push o0 }:Shared)=s3 at *
 have akd:s3.heap=s2.heap.push o0:=by rw[<-hs3]
 rw[<-akd] at st3 acE
 have IC:=ZP (ts:=ts) I3 O hf3 acE
 have st1:tn 0 (pushCells (s3.heap.push { cls:=.type "dict", data:=.dict #[] }) scope.names):=T.keep 0 _ _ st3 fun b hb o e=>pushCells_keeps _ _ b o (zd _ e)
 have hfC:∀ b∈fp,yH (Jf X (xs++ts) scope cl s3.heap.objs.size s3 (upd H2 s2.heap.objs.size O0) fp) [] (upd H2 s2.heap.objs.size O0) b:=fun b hb=>by
  obtain⟨f0,f1,f2,f3,f4,f5⟩:=hf3 b hb
  refine⟨f0,ZI (acE b hb),fun z=>?_,.inl hb,fun x c e z=>?_,fun q hq=>absurd (show q∈([]:List (Addr×Obj)) from hq) (by simp)⟩
  ·rcases List.mem_cons.mp (I3.Jq b z) with q|q
   ·exact f1 q
   ·exact f2 q
  ·rcases Dl _ _ _ x c e with h|h
   ·exact f4 x c (O.sub.get h) z
   ·rw[z] at h;exact absurd (ZE (acE b hb) (Nat.le_of_succ_le h)) (jS _)
 have P0:Apt H2 (FN is σ++List.replicate ts.length none) (rY is ρ++List.replicate ts.length none) is.length:=by
  have g:∀ (j:Nat) c,(rY is ρ++List.replicate ts.length none)[j]?=some (some c)->j < is.length/\BX c=false:=fun j c e=>by
   by_cases hj:j < is.length
   ·refine⟨hj,?_⟩
    rw[qa (by simp[rY];omega)] at e
    unfold rY at e
    rw[ZZ] at e
    cases q:is[j]? with
    |none=>rw[q] at e;cases e
    |some i=>rw[q] at e;exact Jc (by simpa using e)
   ·rw[qE (by simp[rY];omega),QI] at e
    split at e<;>cases e
  exact⟨fun j c e=>(g j c e).2,fun j c e=>(g j c e).1,known Ec⟩
 have h:=XQ (X:=Jf X (xs++ts) scope cl s3.heap.objs.size s3 (upd H2 s2.heap.objs.size O0) fp) (R:=RR (.ref s2.heap.objs.size) s3.heap.objs.size) (o0:=[]) hcalm rfl (O9 _ _ _ _) (hif _ _ _ _) (helt _ _ _ _) htk hnm IC (Ec.grow (cF hD)) P0 hD bC (hA0 _) T st1 hfC Y hout (by simpa using hlen) hAk hturn hsh fun s5 σ5 H5 o5 I5 E5 _ hD5 a5=>by
  have IB:L2.Inv X pins σ H5 s5:=I3.call' (ch:=fp) I5.os I5.base I5.hok I5.bare fun b hb=>by
   obtain⟨f0,f1,f2,f3,f4,f5⟩:=hf3 b hb
   exact⟨f3,f1,f4,f5⟩
  obtain⟨m,hn,_⟩:=I5.loc
  exact hRR _ _ s5 H5 o5 hD IB (I3.Xi (zl _) I5.free) ⟨m,hn⟩ E5.base hD5 a5
 exact hstart h (T.self _ 0 _ _ _ st1 h)
def AcL (K:FG_) (_:Addr) (H:Hp) (o1:List Dt) (o:HO):Prop:=∃ us,o=.lst us/\aW K H o1 us
theorem AcL.kp {K:FG_} {D:Addr} {H H':Hp} {o1:List Dt} {o:HO} (k:Kp H H'):AcL K D H o1 o->AcL K D H' o1 o:=fun ⟨us,e,r⟩=>⟨us,e,r.kp k⟩
def ahC (fe:Ev->Option Bx):Ev->Option (List Dt):=fun ρ=>(fe ρ).bind afr
theorem acF {n:Nat} (h:PV X elt fe):XM X (fun D env=>do let _ <-call (.builtin "list.append") [.ref D,<-eval elt env]) (ahC fe) (AcL X.K) 100000 n:=by
 refine Uq fun pins s σ H Hb ρ D o o1 ys I En ee hD ⟨us,e,r4⟩ hl=>?_
 subst e
 obtain⟨b,eb,ee⟩:=bind_some ee
 obtain⟨y,rfl,rfl⟩:=FP ee
 refine zb (ZA (h pins s σ H (fun v H9=>Same H H9/\Rep X.K H9 y v) I ⟨Hb,ρ,_,En,eb,fun v H9 s9 _ r9=>⟨s9,r9⟩⟩) (fun v s9 h9=>?_) fun _ _ z=>z)
 obtain⟨v',H9,I9,rv,s89,r9⟩:=h9
 have ZR:=s89 _ _ hD
 refine zb (ZA ((Fy (X:=X)) _ s9 σ H9 (.ref D) [v'] (.ref D) [v] (fun w H10=>H10=upd H9 D (.lst (us++[v']))) I9 rfl (.cons rv .nil) ⟨_,us,v',rfl,rfl,ZR,by rw[r4.length];have h0:(100000:Nat) < sizeLine:=(by decide);simp at hl;omega,rfl⟩) (fun w s10 h10=>?_) fun _ _ z=>z)
 obtain⟨w',H10,I10,_,rfl⟩:=h10
 have kp:Kp H9 (upd H9 D (.lst (us++[v']))):=.lst ZR
 exact ze ⟨H9,_,I10,s89,kp,us++[v'],rfl,((r4.kp (.of s89)).append (aW.cons r9 aW.nil)).kp kp⟩
theorem Q7 {pins:List (Addr×Obj)} {σ:L2.St} {H2:Hp} {s2:Shared} {it:Addr} {fp:List Addr} {tn:Nat->Heap->Prop} {J:It} {ds out:List Dt} {ρ:Ev} {RR:Value->Addr->Result->Shared->Prop} {E:VP_}
  (O:uV X scope cl xs is) (hcalm:X.calm=true)
  (O9:∀ C s₀ H₀ fp,PTg (Jf X (xs++ts) scope cl C s₀ H₀ fp) tgt gt) (hif:∀ C s₀ H₀ fp,Tests (Jf X (xs++ts) scope cl C s₀ H₀ fp) ifs p) (helt:∀ C s₀ H₀ fp,PV (Jf X (xs++ts) scope cl C s₀ H₀ fp) elt fe) (htk:ZM is.length (is.length+ts.length) gt)
  (I2:L2.Inv X pins σ H2 s2) (Ec:bF X.K H2 H2 (FN is σ++List.replicate ts.length none) (rY is ρ++List.replicate ts.length none)) (T:Turn X.prog X.w X.K tgt J fp it tn) (st:tn 0 s2.heap) (hf:∀ b∈fp,yH X pins H2 b) (Y:Yields X.K J ds H2)
  (hlen:ds.length<=100000) (hout:Bq gt p fe (rY is ρ++List.replicate ts.length none) ds=some out)
  (hRR:∀ (D C:Addr) (s':Shared) (H':Hp) (us:List V),H2 D=none->L2.Inv X pins σ H' s'->yH X pins H' C->(∃ m,s'.heap.Ns C m)->Same H2 H'->H' D=some (.lst us)->aW X.K H' out us->RR (.ref D) C (.ok .next) s') :
  wpAny (model X.prog X.w) X.A (newList []) (fun acc s₃=>wpAny (model X.prog X.w) X.A (newFunctionEnv scope X.env.globals cl [] X.env.qual none .none (some X.env)) (fun cenv s₄=>
   codeAny (model X.prog X.w) X.A (.compStart (.ListComp elt [⟨tgt,iter,ifs,0⟩] scope pos) 0 (.ref it) acc { cenv with scope:=relabel scope X.env }) (RR acc cenv.locals) s₄) E s₃) E s2:=
 FQ (Ac:=AcL X.K) (O0:=.lst []) (N:=100000) O hcalm O9 hif (fun C s₀ H₀ fp=>acF (helt C s₀ H₀ fp)) htk (Nat.le_add_right ..) I2 Ec T st hf Y hout (zz (vO hout) hlen) (fun D C s' H' o a b c d e f g=>by obtain⟨us,rfl,r⟩:=g;exact hRR D C s' H' us a b c d e f r)
  Q2 (fun _=>⟨QP _,[],0,.nil,zS _ rfl⟩) (fun _=>⟨[],rfl,aW.nil⟩) AcL.kp (fun _ _ _=>rfl) codeAny_compStart_list fun h=>h
end
def iC (K:FG_) (f:Ev->Option (List Dt)):TI:=fun σ H R=>∃ H0 ρ ds,bF K H0 H σ ρ/\f ρ=some ds/\∀ J H',Same H H'->Yields K J ds H'->R J H'
def PIC (X:Cx) (tg iter:Expr) (f:Ev->Option (List Dt)):Prop:=PI X tg iter (iC X.K f)
structure QIC (X:Cx) (tg iter:Expr) (f:Ev->Option (List Dt)):Prop where
 run:PIC X tg iter f
def ZS:Bx->Option (List Dt)
 |.z (.lst ds)=>some ds
 |.z (.tup ds)=>some ds
 |.z (.str x)=>some (signs x)
 |.o ds=>some ds
 |.l ds=>some ds
 |_=>none
section
variable {X:Cx} {e elt tgt iter:Expr} {es ifs:List Expr} {f:Ev->Option Bx} {fs:Ev->Option (List Bx)} {scope:Scope} {cl:List (Str×Addr)} {pos:Pos} {xs ts:LS_} {is:List Nat} {gt:Dt->Ev->Option Ev} {p:Ev->Option Bool} {fe:Ev->Option Bx} {fi:Ev->Option (List Dt)}
theorem Ur (h:QIF X tgt iter fi):QIC X tgt iter fi:=⟨have h:=h.run;fun pins s σ H R I q=>by
 obtain⟨H0,ρ,ds,E,e,q⟩:=q
 exact h pins s σ H R I ⟨H0,ρ,ds,E,e,fun J H' s' y=>q J H' s' (y H' (Same.refl H') (fun _ _=>rfl) (fun _ _ _ _=>rfl) fun _ _ _=>rfl)⟩⟩
theorem jA (h:QV X e f):QIC X tgt e (fun ρ=>(f ρ).bind ZS):=⟨have h:=h.run;fun pins s σ H R I q=>by
 refine Ul h pins s σ H R I ?_
 obtain⟨H0,ρ,ds,E,e,q⟩:=q
 obtain⟨b,eb,e⟩:=bind_some e
 refine⟨H0,ρ,b,E,eb,fun v H1 s1 n1 r1=>?_⟩
 cases b with
 |z d=>
  cases d with
  |tup ds'=>
   cases e
   simp only[bH,Rep] at r1
   obtain⟨a,vs,rfl,hq,rs⟩:=r1
   exact .inr (.inl ⟨a,rfl,⟨vs,hq⟩,q _ _ s1 (.tup hq rs)⟩)
  |lst ds'=>
   cases e
   obtain⟨a,vs,rfl,hq,rs⟩:=r1.Ni rfl
   exact .inl ⟨a,rfl,⟨vs,hq⟩,q _ _ s1 (.list hq rs)⟩
  |str x=>
   cases e
   simp only[bH,Rep] at r1
   obtain⟨rfl,_⟩:=r1
   exact .inr (.inr ⟨x,rfl,q _ _ s1 (.str x)⟩)
  |_=>cases e
 |l ds'=>
  cases e
  obtain⟨a,vs,rfl,hq,rs⟩:=r1.Ni rfl
  exact .inl ⟨a,rfl,⟨vs,hq⟩,q _ _ s1 (.list hq rs)⟩
 |o ds'=>
  cases e
  obtain⟨a,vs,rfl,hq,rs⟩:=r1.Ni rfl
  exact .inl ⟨a,rfl,⟨vs,hq⟩,q _ _ s1 (.list hq rs)⟩
 |n _=>cases e
 |m _ _=>cases e⟩
def fD (fi:Ev->Option (List Dt)) (gt:Dt->Ev->Option Ev) (p:Ev->Option Bool) (fe:Ev->Option Bx) (is:List Nat) (n:Nat):Ev->Option Bx:=fun ρ=>(fi ρ).bind fun ds=>
 if ds.length<=100000 then (Bq gt p fe (rY is ρ++List.replicate n none) ds).bind fun out=>some (.o out) else none
theorem j4 (ts:LS_) (O:uV X scope cl xs is) (hcalm:X.calm=true) (hi:QIC X tgt iter fi) (O9:∀ C s₀ H₀ fp,QTg (Jf X (xs++ts) scope cl C s₀ H₀ fp) tgt gt) (hif:∀ C s₀ H₀ fp,JD (Jf X (xs++ts) scope cl C s₀ H₀ fp) ifs p) (helt:∀ C s₀ H₀ fp,QV (Jf X (xs++ts) scope cl C s₀ H₀ fp) elt fe) (htk:ZM is.length (is.length+ts.length) gt) (hs:∀ x,foldedSetIterable iter X.env x=pure x:=by intro _;rfl):QV X (.ListComp elt [⟨tgt,iter,ifs,0⟩] scope pos) (fD fi gt p fe is ts.length):=⟨have hi:=hi.run;have O9:=fun C s₀ H₀ fp=>(O9 C s₀ H₀ fp).run;have hif:=fun C s₀ H₀ fp=>(hif C s₀ H₀ fp).run;have helt:=fun C s₀ H₀ fp=>(helt C s₀ H₀ fp).run;fun pins s σ H Q I h=>by
 obtain⟨H0,ρ,b,E,e,q⟩:=h
 obtain⟨ds,ed,e⟩:=bind_some e
 split at e
 ·rename_i hlen
  obtain⟨out,eo,e⟩:=bind_some e
  cases e
  rw[eval_ListComp]
  refine ka (use:=none) rfl hs O.clos O.kind O.names ?_
  refine lH (hi pins s σ H (fun J H'=>Same H H'/\Yields X.K J ds H') I ⟨H0,ρ,ds,E,ed,fun J H' s' y=>⟨s',y⟩⟩) fun v s1 h1=>lH h1 fun itv s2 h2=>?_
  obtain⟨it,fp,tn,J,H2,rfl,I2,T,st,hf,s12,Y⟩:=h2
  refine Q7 (RR:=fun acc C=>compPost (model X.prog X.w) X.A X.xe none (EP X pins σ Q) acc C) (ts:=ts) (xs:=xs) O hcalm O9 hif helt htk I2 ((E.grow s12).caps is ts.length) T st hf Y hlen eo ?_
  intro D C s' H' us hD I' fC ⟨m,hn⟩ s2' hD' r'
  refine⟨m,hn,fun h' sb=>⟨.ref D,H',?_,rfl,q _ _ (s12.trans s2') (fun a ea=>by cases ea;exact s12.free hD) ⟨D,us,rfl,hD',r'⟩⟩⟩
  obtain⟨f0,f1,f2,f3,f4,f5⟩:=fC
  exact I'.turned (t':=s'.toks) (fun b o hb e=>(sb.2 b hb).trans e) f0 f1 f3 f4 f5
 ·cases e⟩
theorem acH (i:Nat) {y:Str} {py spos:Pos} (ts:LS_) (O:uV X scope cl xs is) (hcalm:X.calm=true) (hN:X.N.Nodup) (hi:QIC X tgt iter fi) (O9:∀ C s₀ H₀ fp,QTg (Jf X (xs++ts) scope cl C s₀ H₀ fp) tgt gt) (hif:∀ C s₀ H₀ fp,JD (Jf X (xs++ts) scope cl C s₀ H₀ fp) ifs p) (helt:∀ C s₀ H₀ fp,QV (Jf X (xs++ts) scope cl C s₀ H₀ fp) elt fe) (htk:ZM is.length (is.length+ts.length) gt) (hsw:swapsWith (.ListComp elt [⟨tgt,iter,ifs,0⟩] scope pos) (some (.Name y py)) spos.line X.env=pure true:=by with_unfolding_all rfl) (hy:X.N[i]?=some y:=by rfl) (hx:Loc X.env.scope y:=by first|exact ZU rfl|exact Zs rfl) (hf:X.fn y=true\/X.env.scope.names.lookup y=some .local:=by first|exact .inl rfl|exact .inr rfl) (hs:∀ x,foldedSetIterable iter X.env x=pure x:=by intro _;rfl):XF X (.Assign [.Name y py] (.ListComp elt [⟨tgt,iter,ifs,0⟩] scope pos) spos) (fun ρ=>(fD fi gt p fe is ts.length ρ).bind fun b=>(ZF ρ i b).bind fun ρ'=>some (.nx ρ')):=⟨have hi:=hi.run;have O9:=fun C s₀ H₀ fp=>(O9 C s₀ H₀ fp).run;have hif:=fun C s₀ H₀ fp=>(hif C s₀ H₀ fp).run;have helt:=fun C s₀ H₀ fp=>(helt C s₀ H₀ fp).run;fun pins s σ H D I h=>by
 obtain⟨H0,ρ,r,E,e,q⟩:=h
 obtain⟨b,eb,e⟩:=bind_some e
 obtain⟨ds,ed,eb⟩:=bind_some eb
 split at eb
 ·rename_i hlen
  obtain⟨out,eo,eb⟩:=bind_some eb
  cases eb
  cases e
  rw[exec_Assign_Name_used _ _ _ _ hsw]
  refine zb (Qr (zb ?_))
  show wpAny _ X.A (do let _ <-comprehension (.ListComp elt [⟨tgt,iter,ifs,0⟩] scope pos) scope X.env _ (newList []) false (eval iter X.env) (some (assign (.Name y py) X.env))) _ _ s
  refine zb (ZA (ka (use:=some (assign (.Name y py) X.env)) (Q:=fun _ s'=>SP X pins D .next s') rfl hs O.clos O.kind O.names ?_) (fun _ s' hq=>ze (ze hq)) fun _ _ e=>e)
  refine lH (hi pins s σ H (fun J H'=>Same H H'/\Yields X.K J ds H') I ⟨H0,ρ,ds,E,ed,fun J H' s' y=>⟨s',y⟩⟩) fun v s1 h1=>lH h1 fun itv s2 h2=>?_
  obtain⟨it,fp,tn,J,H2,rfl,I2,T,st,hf',s12,Y⟩:=h2
  refine Q7 (RR:=fun acc C=>compPost (model X.prog X.w) X.A X.xe (some (assign (.Name y py) X.env)) (fun _ s'=>SP X pins D .next s') acc C) (ts:=ts) (xs:=xs) O hcalm O9 hif helt htk I2 ((E.grow s12).caps is ts.length) T st hf' Y hlen eo ?_
  intro Da C s' H' us hD I' fC ⟨m,hn⟩ s2' hD' r'
  show wpAny _ X.A (assign (.Name y py) X.env (.ref Da)) _ _ s'
  obtain⟨f0,f1,f2,f3,f4,f5⟩:=fC
  obtain⟨oC,es',ep,hoC,hdC,hrest⟩:=id hn
  have I'':L2.Inv X (pins++[(C,oC)]) σ H' s':=I'.CW fun pp hp=>by
   rcases List.mem_append.mp hp with z|z
   ·exact I'.pin pp (z4 _ z)
   ·have:pp=(C,oC):=by simpa using z
    subst this
    exact⟨hoC,f0,f1,f2,fun v z=>by rw[hdC] at z;cases z⟩
  refine lH (L2.Ao hN hy hx hf (pins++[(C,oC)]) s' σ H' (.ref Da) (.ref Da) (fun σ' H''=>σ'=σ.set i (some (.ref Da))/\H''=H') I'' rfl ⟨rfl,rfl⟩) fun _ s'' ⟨σ',H'',J',e1,e2⟩=>?_
  subst e1 e2
  have hC':=(J'.pin (C,oC) (by simp)).1
  refine⟨m,⟨oC,es',ep,hC',hdC,hrest⟩,fun h' sb=>?_⟩
  refine⟨σ.set i (some (.ref Da)),H'',J'.vI.turned (t':=s''.toks) (fun b o hb e=>(sb.2 b hb).trans e) f0 f1 f3 f4 f5,q _ _ ?_⟩
  exact E.set (s12.trans s2') (b:=.o out) ⟨Da,us,rfl,hD',r'⟩ (.inl rfl) fun a ea=>by cases ea;exact s12.free hD
 ·cases eb⟩
def lend:Bx->Bx
 |.o ds=>.l ds
 |.m ds _=>.n ds
 |b=>b
def isO:Bx->Bool
 |.o _=>true
 |.m _ _=>true
 |_=>false
def iK (K:FG_) (n:Nat) (F:List Bx->Option Bx):Sp:=fun vs H Q _=>vs.length=n/\∃ bs r,vL K H bs vs/\bs.all (fun b=>!isO b)=true/\F bs=some r/\∀ v H',Same H H'->Nw H r v->bH K H' r v->Q v H'
def fG (n:Nat) (g:Ev->Option Out):List Bx->Option Bx:=fun bs=>(g (bs.map some++List.replicate (n - bs.length) none)).bind fun r=>match r with
 |.rt b=>some b
 |.nx _=>some (.z .non)
 |_=>none
theorem bF.start {K:FG_} {H:Hp} {N:LS_} {bs:List Bx} {vs:List V} (r:vL K H bs vs) (ho:bs.all (fun b=>!isO b)=true):bF K H H (L2.start N vs) (bs.map some++List.replicate (N.length - bs.length) none):=by
 have hl:bs.length=vs.length:=Paired.length r
 have get:∀ (i:Nat) b,(bs.map some++List.replicate (N.length - bs.length) none)[i]?=some (some b)->bs[i]?=some b:=fun i b e=>by
  by_cases hi:i < bs.length
  ·rw[qa (by simpa using hi),ZZ] at e
   cases q:bs[i]? with
   |none=>rw[q] at e;cases e
   |some b'=>rw[q] at e;simpa using e
  ·rw[qE (by simp;omega),QI] at e
   split at e<;>cases e
 have noO:∀ (i:Nat) c,(bs.map some++List.replicate (N.length - bs.length) none)[i]?=some (some c)->BX c=true->False:=fun i c e ec=>by
  have:=List.all_eq_true.mp ho _ (ky (get i _ e))
  cases c with
  |o ds=>cases this
  |m ds _=>cases this
  |_=>cases ec
 refine⟨?_,fun i b e=>?_,fun i j c a b e ec=>(noO i c e ec).elim,Same.refl H,fun i c a e ec=>(noO i c e ec).elim⟩
 ·unfold L2.start
  simp[hl]
 ·have e':=get i b e
  have hi:i < bs.length:=(List.getElem?_eq_some_iff.mp e').1
  have:∀ {bs:List Bx} {vs:List V} {i:Nat} {b:Bx},Paired (bH K H) bs vs->bs[i]?=some b->∃ v,vs[i]?=some v/\bH K H b v:=by
   intro bs vs i b r
   induction r generalizing i with
   |nil=>intro e;simp at e
   |cons p t ih=>
    intro e
    cases i with
    |zero=>simp at e;subst e;exact⟨_,rfl,p⟩
    |succ i=>obtain⟨v,e1,e2⟩:=ih (i:=i) (by simpa using e);exact⟨v,by simpa using e1,e2⟩
  obtain⟨v,e1,e2⟩:=this r e'
  refine⟨v,?_,e2⟩
  unfold L2.start
  rw[qa (by simp;omega),ZZ,e1]
  rfl
end
section
variable {P:Program} {w:World} {K:FG_} {mg:Str->Option Value} {base:Heap}
theorem akg {x qual:Str} {st:Stmt} {f:Addr} {fd:FuncData} {N ps:LS_} {k:Nat} {g:Ev->Option Out} (F:qI K x qual st f fd) (S:bD N ps (aP st))
  (hbody:∀ (cdv:Value) (A:Around) (outer:List Env) (s:Shared) (H:Hp) (E:XK),lR k (A.deeper (envOfC qual (aP st) s.heap.objs.size f cdv))->Y0 (BR fB P w K mg base N qual (aP st) f cdv A outer s H E).TJ (jZ st) g) :
  bx P w K mg base fB (k+1) f fd ps (iK K ps.length (fG N.length g)):=by
 refine F.ok S (fun vs H Q E h=>h.1) fun cdv A outer s H vs Q E hr h=>?_
 obtain⟨hl,bs,r,rb,ho,e,q⟩:=h
 refine⟨_,hbody cdv A outer s H E hr,?_⟩
 obtain⟨r',er,e⟩:=bind_some e
 refine⟨H,_,r',bF.start rb ho,er,?_⟩
 cases r' with
 |rt b=>cases e;exact fun v H' s' n' r'=>q v H' s' n' r'
 |nx ρ=>cases e;exact fun σ H' E'=>q _ H' E'.base trivial (by unfold bH Rep;rfl)
 |bk ρ=>cases e
 |ct ρ=>cases e
end
section
variable {X:Cx} {k:Nat} {f:Addr} {fd:FuncData} {ps:LS_} {F:List Bx->Option Bx} {x:Str} {p pos:Pos} {e:Expr} {es:List Expr} {fs:Ev->Option (List Bx)} {n:Nat}
theorem Q8 {K:FG_} {H:Hp}:∀ {bs:List Bx} {vs:List V},vL K H bs vs->vL K H (bs.map lend) vs
 |_,_,.nil=>.nil
 |b::bs,_,.cons h t=>by
  refine .cons ?_ (Q8 t)
  cases b with
  |z d=>exact h
  |l ds=>exact h
  |o ds=>obtain⟨a,vs,e,q,r⟩:=h;exact⟨a,vs,e,.inl q,r⟩
  |n ds=>exact h
  |m ds _=>obtain⟨a,vs,e,q,r⟩:=h;exact⟨a,vs,e,.inl q,r.1⟩
theorem V8:∀ bs:List Bx,(bs.map lend).all (fun b=>!isO b)=true
 |[]=>rfl
 |b::bs=>by
  rw[zg,j3,V8 bs]
  cases b<;>rfl
def aY (n:Nat) (F:List Bx->Option Bx) (fs:Ev->Option (List Bx)):Ev->Option Bx:=fun ρ=>(fs ρ).bind fun bs=>if bs.length=n then F (bs.map lend) else none
theorem aX (G:bx X.prog X.w X.K X.mg X.base fB k f fd ps (iK X.K n F)) (hr:lR k X.A) (hg:Gl X x) (hm:X.mg x=some (.ref f)) (hk:PySem.W.keepIn X.K (.ref f)=true) (hb:Binds X.K fd ps []) (ha:QVs X (e::es) fs) (hdb:(x==("__debug__" : Str))=false:=by decide) (he:starEach (e::es) X.env=(false,eval e X.env)::starEach es X.env:=by rfl) (hpl:(backTo pos (starEach es X.env)).any (·.1)=false:=by rfl):QV X (.Call (.Name x p) (e::es) [] pos) (aY n F fs):=⟨have ha:=ha.run;Jx (ab9 G hr hg hm hk hb .nil (ahq) ha hdb he hpl) fun σ H Q h=>by
 obtain⟨H0,ρ,r,E,e,q⟩:=h
 obtain⟨bs,eb,e⟩:=bind_some e
 refine⟨H0,ρ,bs,E,eb,fun vs H1 s1 r1=>?_⟩
 split at e
 ·rename_i hn
  rw[QO]
  exact⟨by rw[<-Paired.length r1];exact hn,_,r,Q8 r1,V8 bs,e,fun v H2 s2 n2 r2=>q v H2 (s1.trans s2) (n2.old s1) r2⟩
 ·cases e⟩
end
end P1
end
section
namespace P1
open PySem PySem.Spec PyProof.Rows L2 SeqAt
open AutoSeq1 (wpAny_loadPart')
def MK (h:Heap) (a:Addr):Prop:=∃ o ep,h.get? a=some o/\o.ExactDict/\o.data=.dict #[] ep
section
variable {A:Around} {s:Shared} {a b:Addr}
theorem Dm {P:Program} {w:World} {kvs:List (Key×V)} {h:Heap} {vs:List (Key×Value)} (q:kvs=[]) (r:KV kvs vs) (d:h.DictOf (dI P w) a vs):MK h a:=by
 subst q
 cases r
 obtain⟨o,es,ep,h1,h2,h3,_,h5,_⟩:=d
 have:es=#[]:=by
  have:=h5.length
  apply Array.eq_empty_of_size_eq_zero
  simpa using this
 subst this
 exact⟨o,ep,h1,h2,h3⟩
theorem MK.dict (P:Program) (w:World) {h:Heap} (x:MK h a):h.DictOf (strKind P w) a []:=by
 obtain⟨o,ep,h1,h2,h3⟩:=x
 exact⟨o,#[],ep,h1,h2,h3,fun e he=>by simp at he,.nil,kN⟩
theorem aef (ha:(a==sysModules)=false) (hb:(b==sysModules)=false) (da:MK s.heap a) (db:MK s.heap b) (hu:A.units < cLine):RcAt A s (.ref a) (.ref b) true:=fun prog w E Q h=>
 PySem.W.keq_eq (knd:=strKind prog w) ha hb (da.dict prog w) (db.dict prog w) hu (fun _=>.nil) h
theorem ahG (ha:(a==sysModules)=false) (hb:(b==sysModules)=false) (da:MK s.heap a) (db:MK s.heap b) (hu:A.units < cLine):RcNeAt A s (.ref a) (.ref b) false:=fun prog w E Q h=>
 PySem.W.keq_ne (r:=true) (knd:=strKind prog w) ha hb (da.dict prog w) (db.dict prog w) hu (fun _=>.nil) h
theorem Q9 (o:Obj) (b:Str) (u:Tok):Meets (Builtin.«dict.__eq__» ⟨[.ref a,.str b u],[]⟩) (fun _ R s=>(s.heap.get? a=some o/\o.cls=.type "dict")/\R (.ok (.ret .notImplemented)) s):=
 .of_wp fun prog w A R s h=>by
  have ht:s.TypeIs (.ref a) "dict" := ⟨o,h.1.1,h.1.2⟩
  show wpAny _ _ (Builtin.Dict.dictSlotArgs "__eq__" ⟨[.ref a,.str b u],[]⟩ >>= _) _ _ s
  refine zb ?_
  unfold Builtin.Dict.dictSlotArgs
  refine zb (wpAny_notOrdered_dict ht ?_)
  show wpAny _ _ (pure (Value.ref a,Value.str b u)) _ _ s
  refine ze ?_
  refine zb (wpAny_isInstance (T := "str") (typeIs_str s b u) PySem.F.sub_str_dict ?_)
  simp only[Bool.not_false,QR]
  refine zb (ko ?_)
  exact ze ⟨_,rfl,h.2⟩
theorem Ra (b:Str) (u:Tok) (es:Array DictEntry) (ep:Nat) (dd:Option Addr) (sl:Array (Option Value)):Meets (Builtin.«str.__eq__» ⟨[.str b u,.ref a],[]⟩) (fun _ R s=>s.heap.get? a=some { cls:=.type "dict", dict:=dd,data:=.dict es ep,slots:=sl }/\R (.ok (.ret .notImplemented)) s):=
 .of_wp fun prog w A R s h=>by obtain⟨hp,g,d,tk,os⟩:=s;obtain⟨hl,h⟩:=h;wp_walk using wpAny_loadPart' hl,wpAny_load hl;exact⟨_,rfl,h⟩
theorem Nj (x:Str) (t:Tok) (d:MK s.heap a) (hu:A.units < cLine):RcAt A s (.str x t) (.ref a) false:=fun prog w E Q h=>by
 obtain⟨⟨cls,dd,data,sl⟩,ep,ho,⟨hc,hd,hs⟩,he⟩:=d
 simp only at hc he
 subst hc he
 exact rc_eq_decline_or (k:=false) (typeIs_str s x t) ⟨_,ho,rfl⟩ (by decide) PySem.F.sub_dict_str PySem.F.slot_str_eq PySem.F.slot_dict_eq_refl
  (fun _ hq=>call_meets PySem.F.slot_str_eq (typeIs_str s x t) PySem.F.entry_str_eq (PySem.F.args_str_eq_2 _ _) (Ra x t #[] ep dd sl) ⟨ho,hq⟩)
  (fun _ hq=>call_meets PySem.F.slot_dict_eq_refl ⟨_,ho,rfl⟩ PySem.F.entry_dict_eq (PySem.F.args_dict_eq_2 _ _) (Q9 _ x t) ⟨⟨ho,rfl⟩,hq⟩)
  (fun _ hq=>wpAny_of_eq (rfl:isSame (.str x t) (.ref a)=pure false) hq) (.inr hu) h
theorem Rb (o:Obj) (b:Str) (u:Tok):Meets (Builtin.«dict.__ne__» ⟨[.ref a,.str b u],[]⟩) (fun _ R s=>(s.heap.get? a=some o/\o.cls=.type "dict")/\R (.ok (.ret .notImplemented)) s):=
 .of_wp fun prog w A R s h=>by
  have ht:s.TypeIs (.ref a) "dict" := ⟨o,h.1.1,h.1.2⟩
  show wpAny _ _ (Builtin.Dict.dictSlotArgs "__ne__" ⟨[.ref a,.str b u],[]⟩ >>= _) _ _ s
  refine zb ?_
  unfold Builtin.Dict.dictSlotArgs
  refine zb (wpAny_notOrdered_dict ht ?_)
  show wpAny _ _ (pure (Value.ref a,Value.str b u)) _ _ s
  refine ze ?_
  refine zb (wpAny_isInstance (T := "str") (typeIs_str s b u) PySem.F.sub_str_dict ?_)
  simp only[Bool.not_false,QR]
  refine zb (ko ?_)
  exact ze ⟨_,rfl,h.2⟩
theorem Rc (b:Str) (u:Tok) (es:Array DictEntry) (ep:Nat) (dd:Option Addr) (sl:Array (Option Value)):Meets (Builtin.«str.__ne__» ⟨[.str b u,.ref a],[]⟩) (fun _ R s=>s.heap.get? a=some { cls:=.type "dict", dict:=dd,data:=.dict es ep,slots:=sl }/\R (.ok (.ret .notImplemented)) s):=
 .of_wp fun prog w A R s h=>by obtain⟨hp,g,d,tk,os⟩:=s;obtain⟨hl,h⟩:=h;wp_walk using wpAny_loadPart' hl,wpAny_load hl;exact⟨_,rfl,h⟩
theorem XR (x:Str) (t:Tok) (d:MK s.heap a) (hu:A.units < cLine):RcNeAt A s (.str x t) (.ref a) true:=fun prog w E Q h=>by
 obtain⟨⟨cls,dd,data,sl⟩,ep,ho,⟨hc,hd,hs⟩,he⟩:=d
 simp only at hc he
 subst hc he
 exact rc_ne_decline_or (k:=false) (typeIs_str s x t) ⟨_,ho,rfl⟩ (by decide) PySem.F.sub_dict_str PySem.F.slot_str_ne PySem.F.slot_dict_ne_refl
  (fun _ hq=>call_meets PySem.F.slot_str_ne (typeIs_str s x t) PySem.F.entry_str_ne (PySem.F.args_str_ne_2 _ _) (Rc x t #[] ep dd sl) ⟨ho,hq⟩)
  (fun _ hq=>call_meets PySem.F.slot_dict_ne_refl ⟨_,ho,rfl⟩ PySem.F.entry_dict_ne (PySem.F.args_dict_ne_2 _ _) (Rb _ x t) ⟨⟨ho,rfl⟩,hq⟩)
  (fun _ hq=>wpAny_of_eq (rfl:isSame (.str x t) (.ref a)=pure false) hq) (.inr hu) h
theorem XS (x:Str) (t:Tok) (d:MK s.heap a) (hu:A.units < cLine):EqAt A s (.str x t) (.ref a) false:=fun prog w E Q h=>by
 unfold eqBool
 refine qi ?_
 refine wpAny_ite_split (fun hab=>absurd (eq_of_beq hab) nofun) (fun _=>?_)
 exact zb (Nj x t d hu prog w E _ (QE h))
end
mutual
def Br:Dt->Nat
 |.tup xs=>yZ xs+1
 |.lst xs=>yZ xs+1
 |_=>1
def yZ:List Dt->Nat
 |[]=>0
 |d::ds=>max (Br d) (yZ ds)
end
mutual
def Jg:Dt->Dt->Option Bool
 |.non,.non=>some true
 |.non,.bl _=>some false|.non,.int _=>some false|.non,.str _=>some false|.non,.tup _=>some false|.non,.lst _=>some false
 |.bl a,.bl b=>some (a==b)
 |.bl a,.int b=>some ((if a then 1 else 0)==b)
 |.bl _,.non=>some false|.bl _,.str _=>some false|.bl _,.tup _=>some false|.bl _,.lst _=>some false
 |.int a,.int b=>some (a==b)
 |.int a,.bl b=>some (a==(if b then 1 else 0))
 |.int _,.non=>some false|.int _,.str _=>some false|.int _,.tup _=>some false|.int _,.lst _=>some false
 |.str a,.str b=>some (a==b)
 |.str _,.non=>some false|.str _,.bl _=>some false|.str _,.int _=>some false|.str _,.tup _=>some false|.str _,.lst _=>some false|.str _,.emp=>some false
 |.tup xs,.tup ys=>qT xs ys
 |.tup _,.non=>some false|.tup _,.bl _=>some false|.tup _,.int _=>some false|.tup _,.str _=>some false|.tup _,.lst _=>some false
 |.lst xs,.lst ys=>qT xs ys
 |.emp,.emp=>some true
 |.lst _,.non=>some false|.lst _,.bl _=>some false|.lst _,.int _=>some false|.lst _,.str _=>some false|.lst _,.tup _=>some false
 |_,_=>none
def qT:List Dt->List Dt->Option Bool
 |[],[]=>some true
 |[],_::_=>some false
 |_::_,[]=>some false
 |x::xs,y::ys=>match Jg x y with
  |some b=>match qT xs ys with
   |some c=>some (b&&c)
   |none=>none
  |none=>none
end
mutual
theorem Rf:∀ {d:Dt} {k:Bool},Jg d d=some k->k=true
 |.non,_,e=>by cases e;rfl
 |.bl b,_,e=>by cases e;simp
 |.int b,_,e=>by cases e;simp
 |.str b,_,e=>by cases e;simp
 |.tup xs,_,e=>FT (ds:=xs) e
 |.lst xs,_,e=>FT (ds:=xs) e
 |.emp,_,e=>by cases e;rfl
theorem FT:∀ {ds:List Dt} {k:Bool},qT ds ds=some k->k=true
 |[],_,e=>by simp only[qT] at e;cases e;rfl
 |d::ds,_,e=>by
  simp only[qT] at e
  cases h:Jg d d with
  |none=>rw[h] at e;cases e
  |some b=>
   rw[h] at e
   simp only at e
   cases h2:qT ds ds with
   |none=>rw[h2] at e;cases e
   |some c=>
    rw[h2] at e
    cases e
    rw[Rf h,FT h2]
    rfl
end
theorem Jh (xs ys:List Dt):Jg (.tup xs) (.tup ys)=qT xs ys:=rfl
theorem za:∀ {xs ys:List Dt} {k:Bool},qT xs ys=some k->∃ e:Nat->Bool,(∀ (j:Nat) x y,xs[j]?=some x->ys[j]?=some y->Jg x y=some (e j))/\k=((List.range (min xs.length ys.length)).all e&&xs.length==ys.length)
 |[],[],k,h=>by simp only[qT] at h;cases h;exact⟨fun _=>true,fun j x y e=>by simp at e,by simp⟩
 |[],y::ys,k,h=>by simp only[qT] at h;cases h;exact⟨fun _=>true,fun j x y e=>by simp at e,by simp⟩
 |x::xs,[],k,h=>by simp only[qT] at h;cases h;exact⟨fun _=>true,fun j x y _ e=>by simp at e,by simp⟩
 |x::xs,y::ys,k,h=>by
  simp only[qT] at h
  cases h1:Jg x y with
  |none=>rw[h1] at h;cases h
  |some b=>
   rw[h1] at h
   simp only at h
   cases h2:qT xs ys with
   |none=>rw[h2] at h;cases h
   |some c=>
    rw[h2] at h
    cases h
    obtain⟨e,g,hc⟩:=za h2
    refine⟨fun j=>match j with|0=>b|j+1=>e j,fun j u v eu ev=>?_,?_⟩
    ·cases j with
     |zero=>simp at eu ev;subst eu ev;exact h1
     |succ j=>exact g j u v (by simpa using eu) (by simpa using ev)
    ·have:min (x::xs).length (y::ys).length=min xs.length ys.length+1:=by simp only[Zp];omega
     rw[this,kl,j3,List.all_map,hc]
     have hb:((x::xs).length==(y::ys).length)=(xs.length==ys.length):=by
      rw[Bool.eq_iff_iff];simp
     rw[hb,Bool.and_assoc]
     rfl
theorem zc:∀ {ds:List Dt} {j:Nat} {d:Dt},ds[j]?=some d->Br d<=yZ ds
 |[],_,_,e=>by simp at e
 |d::ds,0,_,e=>by simp at e;subst e;simp only[yZ];exact Nat.le_max_left _ _
 |d::ds,j+1,_,e=>by
  simp only[yZ]
  exact zz (zc (ds:=ds) (j:=j) (by simpa using e)) (Nat.le_max_right _ _)
section
variable {X:Cx} {pins:List (Addr×Obj)} {σ:L2.St} {H:Hp} {s:Shared}
theorem Ji (I:L2.Inv X pins σ H s) {a:Addr} {vs:List V} (h:Dd X.K H a vs):∃ ob,s.heap.get? a=some ob/\ob.cls=.type "tuple" := by
 obtain⟨its,_,⟨ob,e,c,_⟩,_⟩:=I.tuple h
 exact⟨ob,e,c⟩
theorem Jj (I:L2.Inv X pins σ H s) {a:Addr} {vs:List V} (h:vH X.K H a vs):∃ ob,s.heap.get? a=some ob/\ob.cls=.type "list" := by
 obtain⟨its,_,⟨ob,n,e,c,_⟩,_⟩:=I.list h
 exact⟨ob,e,c⟩
theorem Aq (I:L2.Inv X pins σ H s) {a:Addr} {o:Obj} (h:H a=some (.CV o (.dK []))):∃ ob,s.heap.get? a=some ob/\ob.cls=.type "dict" := by
 obtain⟨e,_,_,vs,_,ob,es,ep,e2,ex,_⟩:=I.hok a _ h
 exact⟨ob,e2,ex.1⟩
theorem FW {a:Addr} {n m:String} (h:∃ ob,s.heap.get? a=some ob/\ob.cls=.type n) (q:∃ ob,s.heap.get? a=some ob/\ob.cls=.type m) (hn:n≠m):False:=by
 obtain⟨o,e,c⟩:=h
 obtain⟨o',e',c'⟩:=q
 rw[e] at e';cases e'
 rw[c] at c'
 exact hn (by injection c')
mutual
theorem Rep.inj (I:L2.Inv X pins σ H s):∀ {d e:Dt} {v:V},Rep X.K H d v->Rep X.K H e v->d=e
 |.non,e,v,h,q=>by
  simp only[Rep] at h;subst h
  cases e<;>simp only[Rep] at q<;>first|rfl|(cases q;done)|(obtain⟨a,b,z,_⟩:=q;cases z;done)|(obtain⟨z,_⟩:=q;cases z;done)
 |.bl _,e,v,h,q=>by
  simp only[Rep] at h;subst h
  cases e<;>simp only[Rep] at q<;>first|(cases q;rfl)|(cases q;done)|(obtain⟨a,b,z,_⟩:=q;cases z;done)|(obtain⟨z,_⟩:=q;cases z;done)
 |.int _,e,v,h,q=>by
  simp only[Rep] at h;subst h
  cases e<;>simp only[Rep] at q<;>first|(cases q;rfl)|(cases q;done)|(obtain⟨a,b,z,_⟩:=q;cases z;done)|(obtain⟨z,_⟩:=q;cases z;done)
 |.str x,e,v,h,q=>by
  simp only[Rep] at h
  have hv:v=.str x:=h.1
  subst hv
  cases e with
  |str y=>
   simp only[Rep] at q
   have z:V.str x=V.str y:=q.1
   injection z with z
   rw[z]
  |tup es=>simp only[Rep] at q;obtain⟨a,b,z,_⟩:=q;cases z
  |lst es=>simp only[Rep] at q;obtain⟨a,b,z,_⟩:=q;cases z
  |emp=>simp only[Rep] at q;obtain⟨a,b,z,_⟩:=q;cases z
  |_=>simp only[Rep] at q;cases q
 |.tup ds,e,v,h,q=>by
  simp only[Rep] at h
  obtain⟨a,vs,rfl,sq,r⟩:=h
  cases e with
  |tup es=>
   simp only[Rep] at q
   obtain⟨b,us,z,Us,r'⟩:=q
   cases z
   have:=I.M8 sq Us
   subst this
   rw[aW.inj I r r']
  |lst es=>
   simp only[Rep] at q
   obtain⟨b,us,z,Us,r'⟩:=q
   cases z
   exact (FW (Ji I sq) (Jj I Us.sq) (by decide)).elim
  |emp=>
   simp only[Rep] at q
   obtain⟨b,o,z,Us⟩:=q
   cases z
   exact (FW (Ji I sq) (Aq I Us) (by decide)).elim
  |str x=>simp only[Rep] at q;have z:=q.1;cases z
  |_=>simp only[Rep] at q;cases q
 |.lst ds,e,v,h,q=>by
  simp only[Rep] at h
  obtain⟨a,vs,rfl,sq,r⟩:=h
  cases e with
  |lst es=>
   simp only[Rep] at q
   obtain⟨b,us,z,Us,r'⟩:=q
   cases z
   have:=I.Js sq.sq Us.sq
   subst this
   rw[aW.inj I r r']
  |tup es=>
   simp only[Rep] at q
   obtain⟨b,us,z,Us,r'⟩:=q
   cases z
   exact (FW (Jj I sq.sq) (Ji I Us) (by decide)).elim
  |emp=>
   simp only[Rep] at q
   obtain⟨b,o,z,Us⟩:=q
   cases z
   exact (FW (Jj I sq.sq) (Aq I Us) (by decide)).elim
  |str x=>simp only[Rep] at q;have z:=q.1;cases z
  |_=>simp only[Rep] at q;cases q
 |.emp,e,v,h,q=>by
  simp only[Rep] at h
  obtain⟨a,o,rfl,sq⟩:=h
  cases e with
  |emp=>rfl
  |tup es=>
   simp only[Rep] at q
   obtain⟨b,us,z,Us,r'⟩:=q
   cases z
   exact (FW (Aq I sq) (Ji I Us) (by decide)).elim
  |lst es=>
   simp only[Rep] at q
   obtain⟨b,us,z,Us,r'⟩:=q
   cases z
   exact (FW (Aq I sq) (Jj I Us.sq) (by decide)).elim
  |str x=>simp only[Rep] at q;have z:=q.1;cases z
  |_=>simp only[Rep] at q;cases q
theorem aW.inj (I:L2.Inv X pins σ H s):∀ {ds es:List Dt} {vs:List V},aW X.K H ds vs->aW X.K H es vs->ds=es
 |[],es,vs,h,q=>by
  simp only[aW] at h;subst h
  cases es with
  |nil=>rfl
  |cons e es=>simp only[aW] at q;obtain⟨_,_,z,_⟩:=q;cases z
 |d::ds,es,vs,h,q=>by
  simp only[aW] at h
  obtain⟨v,r,rfl,h1,h2⟩:=h
  cases es with
  |nil=>simp only[aW] at q;cases q
  |cons e es=>
   simp only[aW] at q
   obtain⟨v',r',z,q1,q2⟩:=q
   cases z
   rw[Rep.inj I h1 q1,aW.inj I h2 q2]
end
theorem ahH (I:L2.Inv X pins σ H s):∀ (n:Nat) {A:Around} {d e:Dt} {x y:V} {u v:Value} {k:Bool},min (Br d) (Br e)<=n->A.units+n < cLine->Rep X.K H d x->Rep X.K H e y->RelV x u->RelV y v->Jg d e=some k->EqAt A s u v k:=by
 intro n
 induction n with
 |zero=>
  intro A d e x y u v k hn
  have h1:1<=Br d:=by cases d<;>simp only[Br]<;>omega
  have h2:1<=Br e:=by cases e<;>simp only[Br]<;>omega
  omega
 |succ n ih=>
  intro A d e x y u v k hn hA rd re ru rv ek
  have hu:A.units < cLine:=by omega
  by_cases hxy:u=v/\∃ a,u=.ref a
  ·obtain⟨rfl,a,rfl⟩:=hxy
   have hx:x=.ref a:=by have:=ru.abs;simpa [aeT] using this.symm
   have hy:y=.ref a:=by have:=rv.abs;simpa [aeT] using this.symm
   subst hx hy
   have:=Rep.inj I rd re
   subst this
   rw[Rf ek]
   exact EqAt.same _
  ·have items:∀ {ds es:List Dt} {vs us:List V} {its its2:List Value} {f:Nat->Bool},min (yZ ds) (yZ es)<=n->aW X.K H ds vs->aW X.K H es us->Vals vs its->Vals us its2->(∀ (j:Nat) x y,ds[j]?=some x->es[j]?=some y->Jg x y=some (f j)) →
     ∀ j (h1:j < its.toArray.size) (h2:j < its2.toArray.size),EqAt A.in1 s its.toArray[j] its2.toArray[j] (f j):=by
    intro ds es vs us its its2 f hm r1 r2 w1 w2 hf j h1 h2
    have l1:=w1.length
    have l2:=w2.length
    have l3:=r1.length
    have l4:=r2.length
    have j1:j < its.length:=by simpa using h1
    have j2:j < its2.length:=by simpa using h2
    have d1:ds[j]?=some ds[j]:=by simp
    have d2:es[j]?=some es[j]:=by simp
    obtain⟨a,ea,ra⟩:=r1.get d1
    obtain⟨b,eb,rb⟩:=r2.get d2
    obtain⟨p,ep,rp⟩:=w1.get ea
    obtain⟨q,eq,rq⟩:=w2.get eb
    have e1:its.toArray[j]=p:=by simpa [j1] using ep
    have e2:its2.toArray[j]=q:=by simpa [j2] using eq
    rw[e1,e2]
    have m1:=zc d1
    have m2:=zc d2
    exact ih (by omega) (by rw[units_in1];omega) ra rb rp rq (hf j _ _ d1 d2)
   cases d with
   |non=>
    cases rd;cases ru
    cases e with
    |non=>cases re;cases rv;cases ek;exact EqAt.same _
    |bl b=>cases re;cases rv;cases ek;exact EqAt.none_bool b
    |int b=>cases re;obtain⟨t,rfl⟩:=rv;cases ek;exact EqAt.none_int b t
    |str b=>obtain⟨rfl,_⟩:=re;obtain⟨t,rfl⟩:=rv;cases ek;exact EqAt.none_str b t
    |tup es=>obtain⟨b,us,rfl,sq,_⟩:=re;cases rv;cases ek;obtain⟨_,_,p,_⟩:=I.tuple sq;exact EqAt.none_tuple p hu
    |lst es=>obtain⟨b,us,rfl,sq,_⟩:=re;cases rv;cases ek;obtain⟨_,_,p,_⟩:=I.list sq.sq;exact EqAt.none_list p.isList hu
    |emp=>cases ek
   |bl a=>
    cases rd;cases ru
    cases e with
    |non=>cases re;cases rv;cases ek;exact EqAt.bool_none a
    |bl b=>cases re;cases rv;cases ek;exact EqAt.bool_bool a b
    |int b=>cases re;obtain⟨t,rfl⟩:=rv;cases ek;exact EqAt.bool_int a b t
    |str b=>obtain⟨rfl,_⟩:=re;obtain⟨t,rfl⟩:=rv;cases ek;exact EqAt.bool_str a b t
    |tup es=>obtain⟨b,us,rfl,sq,_⟩:=re;cases rv;cases ek;obtain⟨_,_,p,_⟩:=I.tuple sq;exact EqAt.bool_tuple a p hu
    |lst es=>obtain⟨b,us,rfl,sq,_⟩:=re;cases rv;cases ek;obtain⟨_,_,p,_⟩:=I.list sq.sq;exact EqAt.bool_list a p.isList hu
    |emp=>cases ek
   |int a=>
    cases rd;obtain⟨t',rfl⟩:=ru
    cases e with
    |non=>cases re;cases rv;cases ek;exact EqAt.int_none a t'
    |bl b=>cases re;cases rv;cases ek;exact EqAt.int_bool a t' b
    |int b=>cases re;obtain⟨t,rfl⟩:=rv;cases ek;exact EqAt.int_int a t' b t
    |str b=>obtain⟨rfl,_⟩:=re;obtain⟨t,rfl⟩:=rv;cases ek;exact EqAt.int_str a t' b t
    |tup es=>obtain⟨b,us,rfl,sq,_⟩:=re;cases rv;cases ek;obtain⟨_,_,p,_⟩:=I.tuple sq;exact EqAt.int_tuple a t' p hu
    |lst es=>obtain⟨b,us,rfl,sq,_⟩:=re;cases rv;cases ek;obtain⟨_,_,p,_⟩:=I.list sq.sq;exact EqAt.int_list a t' p.isList hu
    |emp=>cases ek
   |str a=>
    obtain⟨rfl,_⟩:=rd;obtain⟨t',rfl⟩:=ru
    cases e with
    |non=>cases re;cases rv;cases ek;exact EqAt.str_none a t'
    |bl b=>cases re;cases rv;cases ek;exact EqAt.str_bool a t' b
    |int b=>cases re;obtain⟨t,rfl⟩:=rv;cases ek;exact EqAt.str_int a t' b t
    |str b=>obtain⟨rfl,_⟩:=re;obtain⟨t,rfl⟩:=rv;cases ek;exact EqAt.str_str a t' b t
    |tup es=>obtain⟨b,us,rfl,sq,_⟩:=re;cases rv;cases ek;obtain⟨_,_,p,_⟩:=I.tuple sq;exact EqAt.str_tuple a t' p hu
    |lst es=>obtain⟨b,us,rfl,sq,_⟩:=re;cases rv;cases ek;obtain⟨_,_,p,_⟩:=I.list sq.sq;exact EqAt.str_list a t' p.isList hu
    |emp=>
     simp only[Rep] at re
     obtain⟨p,o,rfl,e⟩:=re;cases rv;cases ek
     obtain⟨_,_,vs,r,q⟩:=Bp I.hok (.inr ⟨o,e⟩)
     exact XS a t' (Dm rfl r q) hu
   |tup ds=>
    obtain⟨a,vs,rfl,sa,ra⟩:=rd;cases ru
    obtain⟨its,wv,p,_⟩:=I.tuple sa
    cases e with
    |non=>cases re;cases rv;cases ek;exact EqAt.tuple_none p hu
    |bl b=>cases re;cases rv;cases ek;exact EqAt.tuple_bool b p hu
    |int b=>cases re;obtain⟨t,rfl⟩:=rv;cases ek;exact EqAt.tuple_int b t p hu
    |str b=>obtain⟨rfl,_⟩:=re;obtain⟨t,rfl⟩:=rv;cases ek;exact EqAt.tuple_str b t p hu
    |lst es=>obtain⟨b,us,rfl,sq,_⟩:=re;cases rv;cases ek;obtain⟨_,_,p2,_⟩:=I.list sq.sq;exact EqAt.tuple_list p p2.isList hu
    |tup es=>
     obtain⟨b,us,rfl,sb,rb⟩:=re;cases rv
     obtain⟨its2,wu,p2,_⟩:=I.tuple sb
     change qT _ _=some _ at ek
     obtain⟨f,hf,rfl⟩:=za ek
     have hne:a≠b:=fun z=>hxy ⟨by rw[z],a,rfl⟩
     have z:=EqAt.of_refs hne (RcAt.tuples (A:=A) (e:=f) p p2 hu (items (by simp only[Br] at hn;omega) ra rb wv wu hf))
     have q1:its.toArray.size=ds.length:=by rw[zv,<-wv.length,ra.length]
     have q2:its2.toArray.size=es.length:=by rw[zv,<-wu.length,rb.length]
     rw[q1,q2] at z
     exact z
    |emp=>cases ek
   |lst ds=>
    obtain⟨a,vs,rfl,sa,ra⟩:=rd;cases ru
    obtain⟨its,wv,p,_⟩:=I.list sa.sq
    cases e with
    |non=>cases re;cases rv;cases ek;exact EqAt.list_none p.isList hu
    |bl b=>cases re;cases rv;cases ek;exact EqAt.list_bool b p.isList hu
    |int b=>cases re;obtain⟨t,rfl⟩:=rv;cases ek;exact EqAt.list_int b t p.isList hu
    |str b=>obtain⟨rfl,_⟩:=re;obtain⟨t,rfl⟩:=rv;cases ek;exact EqAt.list_str b t p.isList hu
    |tup es=>obtain⟨b,us,rfl,sq,_⟩:=re;cases rv;cases ek;obtain⟨_,_,p2,_⟩:=I.tuple sq;exact EqAt.list_tuple p.isList p2 hu
    |lst es=>
     obtain⟨b,us,rfl,sb,rb⟩:=re;cases rv
     obtain⟨its2,wu,p2,_⟩:=I.list sb.sq
     change qT _ _=some _ at ek
     obtain⟨f,hf,rfl⟩:=za ek
     have hne:a≠b:=fun z=>hxy ⟨by rw[z],a,rfl⟩
     have q1:its.toArray.size=ds.length:=by rw[zv,<-wv.length,ra.length]
     have q2:its2.toArray.size=es.length:=by rw[zv,<-wu.length,rb.length]
     by_cases hsz:its.toArray.size=its2.toArray.size
     ·have z:=EqAt.of_refs hne (RcAt.lists (A:=A) (e:=f) p.isList p2.isList hsz hu (items (by simp only[Br] at hn;omega) ra rb wv wu hf))
      have hl:ds.length=es.length:=by omega
      rw[q1] at z
      rw[hl,Nat.min_self,beq_self_eq_true,ku,<-hl]
      exact z
     ·have hl:(ds.length==es.length)=false:=by rw[beq_eq_false_iff_ne];omega
      rw[hl,Bool.and_false]
      exact EqAt.of_refs hne (RcAt.lists_lengths p.isList p2.isList (by simpa using hsz) hu)
    |emp=>cases ek
   |emp=>
    cases e<;>first|(cases ek;done)|skip
    simp only[Rep] at rd re
    obtain⟨a,o,rfl,e1⟩:=rd
    obtain⟨b,o',rfl,e2⟩:=re
    cases ru;cases rv;cases ek
    obtain⟨_,m1,vs,r,q⟩:=Bp I.hok (.inr ⟨o,e1⟩)
    obtain⟨_,m2,vs',r',q'⟩:=Bp I.hok (.inr ⟨o',e2⟩)
    exact EqAt.of_refs (fun z=>hxy ⟨by rw[z],a,rfl⟩) (aef m1 m2 (Dm rfl r q) (Dm rfl r' q') hu)
theorem Rh (I:L2.Inv X pins σ H s) {n:Nat} {A:Around} {ds es:List Dt} {vs us:List V} {its its2:List Value} {f:Nat->Bool} (hm:min (yZ ds) (yZ es)<=n) (hA:A.units+n+1 < cLine) (r1:aW X.K H ds vs) (r2:aW X.K H es us) (w1:Vals vs its) (w2:Vals us its2)
  (hf:∀ (j:Nat) x y,ds[j]?=some x->es[j]?=some y->Jg x y=some (f j)):∀ j (h1:j < its.toArray.size) (h2:j < its2.toArray.size),EqAt A.in1 s its.toArray[j] its2.toArray[j] (f j):=by
 intro j h1 h2
 have l1:=w1.length
 have l2:=w2.length
 have l3:=r1.length
 have l4:=r2.length
 have j1:j < its.length:=by simpa using h1
 have j2:j < its2.length:=by simpa using h2
 have d1:ds[j]?=some (ds[j]'(by omega)):=by simp
 have d2:es[j]?=some (es[j]'(by omega)):=by simp
 obtain⟨a,ea,ra⟩:=r1.get d1
 obtain⟨b,eb,rb⟩:=r2.get d2
 obtain⟨p,ep,rp⟩:=w1.get ea
 obtain⟨q,eq,rq⟩:=w2.get eb
 have e1:its.toArray[j]=p:=by simpa [j1] using ep
 have e2:its2.toArray[j]=q:=by simpa [j2] using eq
 rw[e1,e2]
 have m1:=zc d1
 have m2:=zc d2
 exact ahH I n (by omega) (by rw[units_in1];omega) ra rb rp rq (hf j _ _ d1 d2)
end
def uW (K:FG_) (H:Hp):Dt->V->Prop
 |.lst ds,v=>∃ a vs,v=.ref a/\vH K H a vs/\aW K H ds vs
 |d,v=>Rep K H d v
def uX:Bx->Bool
 |.n _=>true
 |.m _ _=>true
 |_=>false
def toD:Bx->Dt
 |.z d=>d
 |.l ds=>.lst ds
 |.o ds=>.lst ds
 |.n _=>.non
 |.m _ _=>.non
theorem bH.toD {K:FG_} {H:Hp} {b:Bx} {v:V} (h:bH K H b v) (hm:uX b=false):uW K H (toD b) v:=by
 cases b with
 |z d=>
  cases d with
  |lst ds=>exact h.Ni rfl
  |_=>exact h
 |l ds=>exact h.Ni rfl
 |o ds=>exact h.Ni rfl
 |n _=>cases hm
 |m _ _=>cases hm
section
variable {X:Cx} {pins:List (Addr×Obj)} {σ:L2.St} {H:Hp} {s:Shared}
theorem V9 (I:L2.Inv X pins σ H s) {d e:Dt} {x y:V} {u v:Value} {k:Bool} (hm:min (Br d) (Br e)<=100) (hA:X.A.units+100 < cLine) (rd:uW X.K H d x) (re:uW X.K H e y) (ru:RelV x u) (rv:RelV y v) (ek:Jg d e=some k):RcAt X.A s u v k/\RcNeAt X.A s u v (!k):=by
 have hu:X.A.units < cLine:=by omega
 cases d with
 |non=>
  cases rd;cases ru
  cases e with
  |non=>
   cases re;cases rv
   cases ek
   exact⟨.none_none,.none_none⟩
  |bl x2=>
   cases re;cases rv
   cases ek
   exact⟨.none_bool x2,.none_bool x2⟩
  |int x2=>
   cases re;obtain⟨t2,rfl⟩:=rv
   cases ek
   exact⟨.none_int x2 t2,.none_int x2 t2⟩
  |str x2=>
   obtain⟨rfl,_⟩:=re;obtain⟨t2,rfl⟩:=rv
   cases ek
   exact⟨.none_str x2 t2,.none_str x2 t2⟩
  |tup x2=>
   obtain⟨a2,vs2,rfl,JF,Ut⟩:=re;cases rv;obtain⟨its2,w2,p2,_⟩:=I.tuple JF
   cases ek
   exact⟨.none_tuple p2 hu,.none_tuple p2 hu⟩
  |lst x2=>
   obtain⟨a2,vs2,rfl,JF,Ut⟩:=re;cases rv;obtain⟨its2,w2,p2,_⟩:=I.list JF
   cases ek
   exact⟨.none_list p2.isList hu,.none_list p2.isList hu⟩
  |emp=>cases ek
 |bl x1=>
  cases rd;cases ru
  cases e with
  |non=>
   cases re;cases rv
   cases ek
   exact⟨.bool_none x1,.bool_none x1⟩
  |bl x2=>
   cases re;cases rv
   cases ek
   exact⟨.bool_bool x1 x2,.bool_bool x1 x2⟩
  |int x2=>
   cases re;obtain⟨t2,rfl⟩:=rv
   cases ek
   exact⟨.bool_int x1 x2 t2,.bool_int x1 x2 t2⟩
  |str x2=>
   obtain⟨rfl,_⟩:=re;obtain⟨t2,rfl⟩:=rv
   cases ek
   exact⟨.bool_str x1 x2 t2,.bool_str x1 x2 t2⟩
  |tup x2=>
   obtain⟨a2,vs2,rfl,JF,Ut⟩:=re;cases rv;obtain⟨its2,w2,p2,_⟩:=I.tuple JF
   cases ek
   exact⟨.bool_tuple x1 p2 hu,.bool_tuple x1 p2 hu⟩
  |lst x2=>
   obtain⟨a2,vs2,rfl,JF,Ut⟩:=re;cases rv;obtain⟨its2,w2,p2,_⟩:=I.list JF
   cases ek
   exact⟨.bool_list x1 p2.isList hu,.bool_list x1 p2.isList hu⟩
  |emp=>cases ek
 |int x1=>
  cases rd;obtain⟨t1,rfl⟩:=ru
  cases e with
  |non=>
   cases re;cases rv
   cases ek
   exact⟨.int_none x1 t1,.int_none x1 t1⟩
  |bl x2=>
   cases re;cases rv
   cases ek
   exact⟨.int_bool x1 t1 x2,.int_bool x1 t1 x2⟩
  |int x2=>
   cases re;obtain⟨t2,rfl⟩:=rv
   cases ek
   exact⟨.int_int x1 t1 x2 t2,.int_int x1 t1 x2 t2⟩
  |str x2=>
   obtain⟨rfl,_⟩:=re;obtain⟨t2,rfl⟩:=rv
   cases ek
   exact⟨.int_str x1 t1 x2 t2,.int_str x1 t1 x2 t2⟩
  |tup x2=>
   obtain⟨a2,vs2,rfl,JF,Ut⟩:=re;cases rv;obtain⟨its2,w2,p2,_⟩:=I.tuple JF
   cases ek
   exact⟨.int_tuple x1 t1 p2 hu,.int_tuple x1 t1 p2 hu⟩
  |lst x2=>
   obtain⟨a2,vs2,rfl,JF,Ut⟩:=re;cases rv;obtain⟨its2,w2,p2,_⟩:=I.list JF
   cases ek
   exact⟨.int_list x1 t1 p2.isList hu,.int_list x1 t1 p2.isList hu⟩
  |emp=>cases ek
 |str x1=>
  obtain⟨rfl,_⟩:=rd;obtain⟨t1,rfl⟩:=ru
  cases e with
  |non=>
   cases re;cases rv
   cases ek
   exact⟨.str_none x1 t1,.str_none x1 t1⟩
  |bl x2=>
   cases re;cases rv
   cases ek
   exact⟨.str_bool x1 t1 x2,.str_bool x1 t1 x2⟩
  |int x2=>
   cases re;obtain⟨t2,rfl⟩:=rv
   cases ek
   exact⟨.str_int x1 t1 x2 t2,.str_int x1 t1 x2 t2⟩
  |str x2=>
   obtain⟨rfl,_⟩:=re;obtain⟨t2,rfl⟩:=rv
   cases ek
   exact⟨.str_str x1 t1 x2 t2,.str_str x1 t1 x2 t2⟩
  |tup x2=>
   obtain⟨a2,vs2,rfl,JF,Ut⟩:=re;cases rv;obtain⟨its2,w2,p2,_⟩:=I.tuple JF
   cases ek
   exact⟨.str_tuple x1 t1 p2 hu,.str_tuple x1 t1 p2 hu⟩
  |lst x2=>
   obtain⟨a2,vs2,rfl,JF,Ut⟩:=re;cases rv;obtain⟨its2,w2,p2,_⟩:=I.list JF
   cases ek
   exact⟨.str_list x1 t1 p2.isList hu,.str_list x1 t1 p2.isList hu⟩
  |emp=>
   simp only[uW,Rep] at re
   obtain⟨p,o,rfl,e⟩:=re;cases rv;cases ek
   obtain⟨_,_,vs,r,q⟩:=Bp I.hok (.inr ⟨o,e⟩)
   exact⟨Nj x1 t1 (Dm rfl r q) hu,XR x1 t1 (Dm rfl r q) hu⟩
 |tup x1=>
  obtain⟨a1,vs1,rfl,sq1,rr1⟩:=rd;cases ru;obtain⟨acI,w1,p1,_⟩:=I.tuple sq1
  cases e with
  |non=>
   cases re;cases rv
   cases ek
   exact⟨.tuple_none p1 hu,.tuple_none p1 hu⟩
  |bl x2=>
   cases re;cases rv
   cases ek
   exact⟨.tuple_bool x2 p1 hu,.tuple_bool x2 p1 hu⟩
  |int x2=>
   cases re;obtain⟨t2,rfl⟩:=rv
   cases ek
   exact⟨.tuple_int x2 t2 p1 hu,.tuple_int x2 t2 p1 hu⟩
  |str x2=>
   obtain⟨rfl,_⟩:=re;obtain⟨t2,rfl⟩:=rv
   cases ek
   exact⟨.tuple_str x2 t2 p1 hu,.tuple_str x2 t2 p1 hu⟩
  |tup x2=>
   obtain⟨a2,vs2,rfl,JF,Ut⟩:=re;cases rv;obtain⟨its2,w2,p2,_⟩:=I.tuple JF
   change qT _ _=some _ at ek
   obtain⟨f,hf,rfl⟩:=za ek
   have q1:acI.toArray.size=x1.length:=by rw[zv,<-w1.length,rr1.length]
   have q2:its2.toArray.size=x2.length:=by rw[zv,<-w2.length,Ut.length]
   have it:=Rh I (n:=99) (A:=X.A) (by simp only[Br] at hm;omega) (by omega) rr1 Ut w1 w2 hf
   rw[<-q1,<-q2]
   exact⟨.tuples p1 p2 hu it,.tuples p1 p2 hu it⟩
  |lst x2=>
   obtain⟨a2,vs2,rfl,JF,Ut⟩:=re;cases rv;obtain⟨its2,w2,p2,_⟩:=I.list JF
   cases ek
   exact⟨.tuple_list p1 p2.isList hu,.tuple_list p1 p2.isList hu⟩
  |emp=>cases ek
 |lst x1=>
  obtain⟨a1,vs1,rfl,sq1,rr1⟩:=rd;cases ru;obtain⟨acI,w1,p1,_⟩:=I.list sq1
  cases e with
  |non=>
   cases re;cases rv
   cases ek
   exact⟨.list_none p1.isList hu,.list_none p1.isList hu⟩
  |bl x2=>
   cases re;cases rv
   cases ek
   exact⟨.list_bool x2 p1.isList hu,.list_bool x2 p1.isList hu⟩
  |int x2=>
   cases re;obtain⟨t2,rfl⟩:=rv
   cases ek
   exact⟨.list_int x2 t2 p1.isList hu,.list_int x2 t2 p1.isList hu⟩
  |str x2=>
   obtain⟨rfl,_⟩:=re;obtain⟨t2,rfl⟩:=rv
   cases ek
   exact⟨.list_str x2 t2 p1.isList hu,.list_str x2 t2 p1.isList hu⟩
  |tup x2=>
   obtain⟨a2,vs2,rfl,JF,Ut⟩:=re;cases rv;obtain⟨its2,w2,p2,_⟩:=I.tuple JF
   cases ek
   exact⟨.list_tuple p1.isList p2 hu,.list_tuple p1.isList p2 hu⟩
  |lst x2=>
   obtain⟨a2,vs2,rfl,JF,Ut⟩:=re;cases rv;obtain⟨its2,w2,p2,_⟩:=I.list JF
   change qT _ _=some _ at ek
   obtain⟨f,hf,rfl⟩:=za ek
   have q1:acI.toArray.size=x1.length:=by rw[zv,<-w1.length,rr1.length]
   have q2:its2.toArray.size=x2.length:=by rw[zv,<-w2.length,Ut.length]
   have it:=Rh I (n:=99) (A:=X.A) (by simp only[Br] at hm;omega) (by omega) rr1 Ut w1 w2 hf
   by_cases hsz:acI.toArray.size=its2.toArray.size
   ·have hl:x1.length=x2.length:=by omega
    rw[hl,Nat.min_self,beq_self_eq_true,ku,<-hl,<-q1]
    exact⟨.lists p1.isList p2.isList hsz hu it,.lists p1.isList p2.isList hsz hu it⟩
   ·have hl:(x1.length==x2.length)=false:=by rw[beq_eq_false_iff_ne];omega
    rw[hl,Bool.and_false]
    exact⟨.lists_lengths p1.isList p2.isList (by simpa using hsz) hu,.lists_lengths p1.isList p2.isList (by simpa using hsz) hu⟩
  |emp=>cases ek
 |emp=>
  cases e<;>first|(cases ek;done)|skip
  simp only[uW,Rep] at rd re
  obtain⟨a,o,rfl,e1⟩:=rd
  obtain⟨b,o',rfl,e2⟩:=re
  cases ru;cases rv;cases ek
  obtain⟨_,m1,vs,r,q⟩:=Bp I.hok (.inr ⟨o,e1⟩)
  obtain⟨_,m2,vs',r',q'⟩:=Bp I.hok (.inr ⟨o',e2⟩)
  exact⟨aef m1 m2 (Dm rfl r q) (Dm rfl r' q') hu,ahG m1 m2 (Dm rfl r q) (Dm rfl r' q') hu⟩
def eqB (a b:Bx):Option Bx:=if uX a=true\/uX b=true then none else if min (Br (toD a)) (Br (toD b))<=100 then (Jg (toD a) (toD b)).bind fun k=>some (.z (.bl k)) else none
def yp (a b:Bx):Option Bx:=if uX a=true\/uX b=true then none else if min (Br (toD a)) (Br (toD b))<=100 then (Jg (toD a) (toD b)).bind fun k=>some (.z (.bl (!k))) else none
theorem of_eq (hu:X.A.units+100 < cLine):Mr X (compareOp .Eq) eqB:=by
 intro pins s σ H x y v u Q I rx ry h
 obtain⟨a,b,c,ra,rb,e,q⟩:=h
 unfold eqB at e
 split at e
 ·cases e
 rename_i hz
 have ha:uX a=false:=by cases h:uX a with|false=>rfl|true=>exact absurd (.inl h) hz
 have hb:uX b=false:=by cases h:uX b with|false=>rfl|true=>exact absurd (.inr h) hz
 split at e
 ·rename_i hm
  obtain⟨k,ek,e⟩:=bind_some e
  cases e
  exact (V9 I hm hu (ra.toD ha) (rb.toD hb) rx ry ek).1 X.prog X.w X.xe _ ⟨.bl k,H,I,rfl,q _ H (Same.refl H) trivial (by unfold bH Rep;rfl)⟩
 ·cases e
theorem pZ (hu:X.A.units+100 < cLine):Mr X (compareOp .NotEq) yp:=by
 intro pins s σ H x y v u Q I rx ry h
 obtain⟨a,b,c,ra,rb,e,q⟩:=h
 unfold yp at e
 split at e
 ·cases e
 rename_i hz
 have ha:uX a=false:=by cases h:uX a with|false=>rfl|true=>exact absurd (.inl h) hz
 have hb:uX b=false:=by cases h:uX b with|false=>rfl|true=>exact absurd (.inr h) hz
 split at e
 ·rename_i hm
  obtain⟨k,ek,e⟩:=bind_some e
  cases e
  exact (V9 I hm hu (ra.toD ha) (rb.toD hb) rx ry ek).2 X.prog X.w X.xe _ ⟨.bl (!k),H,I,rfl,q _ H (Same.refl H) trivial (by unfold bH Rep;rfl)⟩
 ·cases e
theorem Uu {K:FG_} {H:Hp} {i:Int}:bH K H (.z (.int i)) (.int i):=by unfold bH Rep;rfl
theorem Ri {K:FG_} {H:Hp} {b:Bool}:bH K H (.z (.bl b)) (.bl b):=by unfold bH Rep;rfl
theorem acJ {K:FG_} {H:Hp} {x:Str} (h:x.length<=sizeLine):bH K H (.z (.str x)) (.str x):=by unfold bH Rep;exact⟨rfl,h⟩
theorem Wa {K:FG_} {H:Hp} {i:Int} {v:V} (h:bH K H (.z (.int i)) v):v=.int i:=by simpa only[bH,Rep] using h
theorem Pa {K:FG_} {H:Hp} {x:Str} {v:V} (h:bH K H (.z (.str x)) v):v=.str x/\x.length<=sizeLine:=by simpa only[bH,Rep] using h
theorem inT {K:FG_} {H:Hp} {ds:List Dt} {v:V} (h:bH K H (.z (.tup ds)) v):∃ a vs,v=.ref a/\Dd K H a vs/\aW K H ds vs:=by simpa only[bH,Rep] using h
def i2 (g:Int->Int->Option Dt):Bx->Bx->Option Bx
 |.z (.int i),.z (.int j)=>(g i j).bind fun d=>some (.z d)
 |_,_=>none
theorem JG {f:Value->Value->Sem Value} {r:R2} {g:Int->Int->Option Dt} (ho:yI X f r) (h:∀ i j d H Q,g i j=some d->(∀ v,Rep X.K H d v->Q v H)->r (.int i) (.int j) H Q):Mr X f (i2 g):=yI.imp ho fun x y H Q q=>by
 obtain⟨a,b,c,ra,rb,e,q⟩:=q
 unfold i2 at e
 split at e
 ·rename_i i j
  obtain⟨d,ed,e⟩:=bind_some e
  cases e
  rw[Wa ra,Wa rb]
  exact h i j d H Q ed fun v rv=>q v H (Same.refl H) trivial rv
 ·cases e
theorem okI {K:FG_} {H:Hp} {i:Int}:Rep K H (.int i) (.int i):=by unfold Rep;rfl
theorem okT {K:FG_} {H:Hp} {b:Bool}:Rep K H (.bl b) (.bl b):=by unfold Rep;rfl
abbrev subB:=i2 fun i j=>some (.int (i - j))
abbrev leB:=i2 fun i j=>some (.bl (decide (i<=j)))
abbrev gtB:=i2 fun i j=>some (.bl (decide (j < i)))
abbrev geB:=i2 fun i j=>some (.bl (decide (j<=i)))
abbrev yq:=i2 fun i j=>if 0 < j/\j < 1073741824 then some (.int (i / j)) else none
abbrev nj:=i2 fun i j=>if 0 < j then some (.int (i % j)) else none
abbrev acK:=i2 fun i j=>if 0<=j/\j<=1000/\i.natAbs < 2 ^ 64 then some (.int (i ^ j.toNat)) else none
theorem Uv:Mr X (binaryOp .Sub) subB:=JG aeY fun i j d H Q e q=>by cases e;exact⟨i,j,rfl,rfl,q _ okI⟩
theorem of_le:Mr X (compareOp .LtE) leB:=JG ag7 fun i j d H Q e q=>by cases e;exact⟨i,j,rfl,rfl,q _ okT⟩
theorem ahK:Mr X (compareOp .Gt) gtB:=JG ag8 fun i j d H Q e q=>by cases e;exact⟨i,j,rfl,rfl,q _ okT⟩
theorem ahL:Mr X (compareOp .GtE) geB:=JG ag9 fun i j d H Q e q=>by cases e;exact⟨i,j,rfl,rfl,q _ okT⟩
theorem uy:Mr X (binaryOp .FloorDiv) yq:=JG ab5 fun i j d H Q e q=>by
 split at e
 ·rename_i h;cases e;exact⟨i,j,rfl,rfl,h,q _ okI⟩
 ·cases e
theorem gq:Mr X (binaryOp .Mod) nj:=JG ae0 fun i j d H Q e q=>by
 split at e
 ·rename_i h;cases e;exact⟨i,j,rfl,rfl,h,q _ okI⟩
 ·cases e
theorem afv:Mr X (binaryOp .Pow) acK:=JG ae1 fun i j d H Q e q=>by
 split at e
 ·rename_i h;cases e;exact⟨i,j,rfl,rfl,⟨h.1,by omega,h.2.2⟩,q _ okI⟩
 ·cases e
def Rj:Nat:=1000000
theorem acL:Rj<=sizeLine:=by decide
theorem afw {l b:Addr} {vs us:List V} {Q:VK} (I:L2.Inv X pins σ H s) (hl:vH X.K H l vs) (hb:vH X.K H b us) (hz:vs.length+us.length<=sizeLine) (q:∀ p,H p=none->Q (.ref p) (upd H p (.lst (vs++us)))) :
  wpAny (model X.prog X.w) X.A (binaryOp .Add (.ref l) (.ref b)) (EP X pins σ Q) X.xe s:=by
 obtain⟨its,r1,⟨⟨cls,dd,data,sl⟩,n1,e1,c1,d1,dd1⟩,z1⟩:=I.list hl
 obtain⟨its2,r2,⟨⟨cls2,dd2,data2,sl2⟩,n2,e2,c2,d2,ZV⟩,z2⟩:=I.list hb
 simp only at c1 d1 dd1 c2 d2 ZV
 subst c1 d1 dd1 c2 d2 ZV
 have l1:=r1.length
 have l2:=r2.length
 have e:its.toArray++its2.toArray=(its++its2).toArray:=by simp
 refine concat_meets ⟨_,e1,rfl⟩ ⟨_,e2,rfl⟩ noFill_list_add seq_list_add PySem.F.slot_list_add PySem.F.entry_list_add (PySem.F.args_list_add_2 _ _) (list_addW l b its.toArray its2.toArray n1 n2 none none sl sl2 (by rw[zv,zv];omega)) ⟨e1,e2,?_⟩
 rw[e]
 exact⟨.ref s.heap.objs.size,_,I.laid (t':=s.toks) (o:=.lst (vs++us)) (fun b ob q=>zd _ q) (zl _) ⟨by rw[zw];exact hz,_,0,r1.append r2,zS _ rfl⟩,rfl,q _ (I.hok.fresh (zl _))⟩
theorem afx {l b:Addr} {vs us:List V} {Q:VK} (I:L2.Inv X pins σ H s) (hl:Dd X.K H l vs) (hb:Dd X.K H b us) (hz:vs.length+us.length<=sizeLine) (q0:vs=[]->Q (.ref b) H) (q1:us=[]->Q (.ref l) H) (q2:∀ p,H p=none->Q (.ref p) (upd H p (.tup (vs++us)))) :
  wpAny (model X.prog X.w) X.A (binaryOp .Add (.ref l) (.ref b)) (EP X pins σ Q) X.xe s:=by
 by_cases hv:vs=[]
 ·obtain⟨its,r1,⟨⟨cls,dd,data,sl⟩,e1,c1,n1,dd1⟩,z1⟩:=I.tuple hl
  obtain⟨its2,r2,⟨⟨cls2,dd2,data2,sl2⟩,e2,c2,n2,ZV⟩,z2⟩:=I.tuple hb
  simp only at c1 dd1 c2 ZV
  subst c1 dd1 c2 ZV
  have:its=[]:=r1.Jb.mpr hv
  exact concat_meets ⟨_,e1,rfl⟩ ⟨_,e2,rfl⟩ noFill_tuple_add seq_tuple_add PySem.F.slot_tuple_add KB (Kn _ _)
   (tuple_addW0 l b its.toArray its2.toArray n1 n2 dd dd2 sl sl2 (by simp[this])) ⟨e1,e2,⟨.ref b,H,I,rfl,q0 hv⟩⟩
 ·exact ach pins s σ H (.ref l) (.ref b) (.ref l) (.ref b) Q I rfl rfl ⟨l,b,vs,us,rfl,rfl,hl,hb,hv,hz,q1,fun _=>q2⟩
def dh:Bx->Bx->Option Bx
 |.z (.int i),.z (.int j)=>some (.z (.int (i+j)))
 |.z (.str i),.z (.str j)=>if i.length+j.length<=Rj then some (.z (.str (i++j))) else none
 |.z (.tup xs),.z (.tup ys)=>if xs.length+ys.length<=Rj then some (.z (.tup (xs++ys))) else none
 |a,b=>(yJ a).bind fun xs=>(yJ b).bind fun ys=>if xs.length+ys.length<=Rj then some (.o (xs++ys)) else none
theorem str_len (i j:Str):(i++j).length=i.length+j.length:=by
 show (i.cps++j.cps).size=_
 rw[Kj];rfl
theorem bZ:Mr X (binaryOp .Add) dh:=by
 intro pins s σ H x y v u Q I rx ry h
 obtain⟨a,b,c,ra,rb,e,q⟩:=h
 have hbig:=acL
 unfold dh at e
 split at e
 ·rename_i i j
  cases e
  exact aeX pins s σ H x y v u Q I rx ry ⟨i,j,Wa ra,Wa rb,q _ H (Same.refl H) trivial Uu⟩
 ·rename_i i j
  split at e
  ·rename_i hl
   cases e
   exact T6 pins s σ H x y v u Q I rx ry ⟨i,j,(Pa ra).1,(Pa rb).1,by omega,q _ H (Same.refl H) trivial (acJ (by rw[str_len];omega))⟩
  ·cases e
 ·rename_i xs ys
  split at e
  ·rename_i hl
   cases e
   obtain⟨l,vs,rfl,sl,rl⟩:=inT ra
   obtain⟨m,us,rfl,sm,rm⟩:=inT rb
   cases rx
   cases ry
   have h1:=rl.length
   have h2:=rm.length
   refine afx I sl sm (by omega) (fun z=>q _ H (Same.refl H) trivial ?_) (fun z=>q _ H (Same.refl H) trivial ?_) fun p hp=>q _ _ (cF hp) trivial ?_
   ·unfold bH Rep
    refine⟨m,us,rfl,sm,?_⟩
    have:xs=[]:=by subst z;exact kA (by simpa using h1.symm)
    rw[this,kc];exact rm
   ·unfold bH Rep
    refine⟨l,vs,rfl,sl,?_⟩
    have:ys=[]:=by subst z;exact kA (by simpa using h2.symm)
    rw[this,QO];exact rl
   ·unfold bH Rep
    exact⟨p,_,rfl,.inl (.inl bC),(rl.append rm).kp (.of (cF hp))⟩
  ·cases e
 ·obtain⟨xs,ea,e⟩:=bind_some e
  obtain⟨ys,eb,e⟩:=bind_some e
  split at e
  ·rename_i hl
   cases e
   obtain⟨l,vs,rfl,sl,rl⟩:=ra.Ni ea
   obtain⟨m,us,rfl,sm,rm⟩:=rb.Ni eb
   cases rx
   cases ry
   have h1:=rl.length
   have h2:=rm.length
   refine afw I sl sm (by omega) fun p hp=>q _ _ (cF hp) (fun a ea=>by cases ea;exact hp) ⟨p,_,rfl,bC,(rl.append rm).kp (.of (cF hp))⟩
  ·cases e
def uY:Bx->Bx->Option Bx
 |.z (.int i),.z (.int j)=>if (-(2 ^ 64) < i/\i < 2 ^ 64)\/(-(2 ^ 64) < j/\j < 2 ^ 64) then some (.z (.int (i * j))) else none
 |.z (.str x),.z (.int n)=>if n<=1000 ∧ -1000<=n/\x.length<=1000 then some (.z (.str (Txt.mul x n))) else none
 |_,_=>none
theorem Bt (x:Array Nat):∀ (n:Nat) (acc:Array Nat),((List.replicate n x).foldl (·++·) acc).size=acc.size+n * x.size
 |0,acc=>by simp
 |n+1,acc=>by
  rw[kH,kF,Bt x n,Kj,Nat.succ_mul]
  omega
theorem Pb (x:Str) (n:Int):(Txt.mul x n).length<=n.toNat * x.length+x.length:=by
 unfold Txt.mul
 split
 ·exact QP _
 ·split
  ·exact Nat.le_add_left _ _
  ·show ((List.replicate n.toNat x.cps).foldl (·++·) #[]).size<=_
   rw[Bt]
   show (#[]:Array Nat).size+n.toNat * x.cps.size<=n.toNat * x.cps.size+x.cps.size
   simp
theorem qb:Mr X (binaryOp .Mult) uY:=by
 intro pins s σ H x y v u Q I rx ry h
 obtain⟨a,b,c,ra,rb,e,q⟩:=h
 unfold uY at e
 split at e
 ·rename_i i j
  split at e
  ·rename_i hl
   cases e
   exact aeZ pins s σ H x y v u Q I rx ry ⟨i,j,Wa ra,Wa rb,hl,q _ H (Same.refl H) trivial Uu⟩
  ·cases e
 ·rename_i x' n
  split at e
  ·rename_i hl
   cases e
   obtain⟨rfl,hx⟩:=Pa ra
   have hy:=Wa rb
   subst hy
   obtain⟨t,rfl⟩:=rx
   obtain⟨t',rfl⟩:=ry
   have hs:sizeLine=16777216:=sizeLine_eq
   have hm:n.toNat * x'.length<=1000 * 1000:=Nat.mul_le_mul (by omega) hl.2.2
   refine SB.mul ⟨?_,fun h1 h2=>?_,fun h1 h2=>?_⟩ fun t' k=>⟨.str _,H,I.tok _,⟨_,rfl⟩,q _ H (Same.refl H) trivial (acJ (zz (Pb x' n) (by omega)))⟩
   ·have e1:decide (n < -(2 ^ 63:Int))=false:=ZT (by omega)
    have e2:decide (n>=2 ^ 63)=false:=ZT (by omega)
    rw[e1,e2];rfl
   ·have hn:0 < n:=by omega
    have:(1000:Int)<=(2 ^ 63 - 1) / n:=(Int.le_ediv_iff_mul_le hn).mpr (by omega)
    omega
   ·show decide (x'.length * n.toNat > sizeLine)=false
    rw[Nat.mul_comm]
    exact ZT (by omega)
  ·cases e
 ·cases e
def Nk (i j:Str):Bool:=!(Builtin.Str.occurrences j i 0 j.length 1).isEmpty
def Dp:Dt->Bool
 |.non=>true
 |.bl _=>true
 |.int _=>true
 |.str _=>true
 |_=>false
def memD (x:Dt) (ys:List Dt):Option Bool:=if Dp x=true/\ys.all Dp=true then some (ys.any fun y=>match Jg y x with|some true=>true|_=>false) else none
def HB:Bx->Option (List Dt)
 |.z (.lst ds)=>some ds
 |.z (.tup ds)=>some ds
 |.l ds=>some ds
 |.o ds=>some ds
 |_=>none
def inB:Bx->Bx->Option Bool
 |.z (.str i),.z (.str j)=>some (Nk i j)
 |.z d,b=>(HB b).bind fun ys=>memD d ys
 |_,_=>none
def inF (a b:Bx):Option Bx:=(inB a b).bind fun k=>some (.z (.bl k))
def acM (a b:Bx):Option Bx:=(inB a b).bind fun k=>some (.z (.bl (!k)))
theorem Rk {K:FG_} {H:Hp} {d:Dt} {v:V} (r:Rep K H d v) (f:Dp d=true):yj v=true:=by
 cases d<;>first|(cases f;done)|skip
 all_goals simp only[Rep] at r
 ·subst r;rfl
 ·subst r;rfl
 ·subst r;rfl
 ·obtain⟨rfl,_⟩:=r;rfl
theorem Np {K:FG_} {H:Hp}:∀ {ds:List Dt} {vs:List V},aW K H ds vs->ds.all Dp=true->vs.all yj=true
 |[],_,h,_=>by simp only[aW] at h;subst h;rfl
 |d::ds,_,h,f=>by
  simp only[aW] at h
  obtain⟨v,r,rfl,h1,h2⟩:=h
  rw[j3,ZN] at f
  rw[j3,Rk h1 f.1,Np h2 f.2];rfl
theorem Pg (b:Bool):(match some b with|some true=>true|_=>false)=b:=by cases b<;>rfl
theorem acN {K:FG_} {H:Hp} {d e:Dt} {x y:V} (rd:Rep K H d x) (re:Rep K H e y) (fd:Dp d=true) (fe:Dp e=true):Xr x y=(match Jg d e with|some true=>true|_=>false):=by
 cases d<;>first|(cases fd;done)|skip
 all_goals (cases e<;>first|(cases fe;done)|skip)
 all_goals simp only[Rep] at rd re
 all_goals first
  |(subst rd;subst re;simp only[Xr,Jg,Pg])
  |(obtain⟨rfl,_⟩:=rd;subst re;simp only[Xr,Jg,Pg])
  |(subst rd;obtain⟨rfl,_⟩:=re;simp only[Xr,Jg,Pg])
  |(obtain⟨rfl,_⟩:=rd;obtain⟨rfl,_⟩:=re;simp only[Xr,Jg,Pg])
theorem Wb {K:FG_} {H:Hp} {d:Dt} {x:V} (rd:Rep K H d x) (fd:Dp d=true):∀ {ds:List Dt} {vs:List V},aW K H ds vs->ds.all Dp=true->inV x vs=ds.any fun y=>match Jg y d with|some true=>true|_=>false
 |[],_,h,_=>by simp only[aW] at h;subst h;rfl
 |e::ds,_,h,f=>by
  simp only[aW] at h
  obtain⟨v,r,rfl,h1,h2⟩:=h
  rw[j3,ZN] at f
  have:=Wb rd fd h2 f.2
  unfold inV at this ⊢
  rw[Q3,Q3,acN h1 rd f.1 fd,this]
theorem Dq {K:FG_} {H:Hp} {b:Bx} {v:V} {ds:List Dt} (h:bH K H b v) (e:HB b=some ds):∃ a vs,v=.ref a/\(vH K H a vs\/Dd K H a vs)/\aW K H ds vs:=by
 cases b with
 |z d=>
  cases d<;>first|(cases e;done)|skip
  ·cases e
   obtain⟨a,vs,e,q,r⟩:=inT h
   exact⟨a,vs,e,.inr q,r⟩
  ·cases e
   obtain⟨a,vs,e,q,r⟩:=h.Ni rfl
   exact⟨a,vs,e,.inl q,r⟩
 |l ds'=>
  cases e
  obtain⟨a,vs,e,q,r⟩:=h.Ni rfl
  exact⟨a,vs,e,.inl q,r⟩
 |o ds'=>
  cases e
  obtain⟨a,vs,e,q,r⟩:=h.Ni rfl
  exact⟨a,vs,e,.inl q,r⟩
 |n _=>cases e
 |m _ _=>cases e
theorem Nq {H:Hp} {a b:Bx} {x y:V} {k:Bool} (ra:bH X.K H a x) (rb:bH X.K H b y) (e:inB a b=some k) :
  (∃ i j,x=.str i/\y=.str j/\k=Nk i j)\/(∃ p xs,y=.ref p/\(vH X.K H p xs\/Dd X.K H p xs)/\yj x=true/\xs.all yj=true/\k=inV x xs):=by
 unfold inB at e
 split at e
 ·rename_i i j
  cases e
  exact .inl ⟨i,j,(Pa ra).1,(Pa rb).1,rfl⟩
 ·rename_i d _
  obtain⟨ys,ey,e⟩:=bind_some e
  unfold memD at e
  split at e
  ·rename_i hf
   cases e
   obtain⟨p,vs,rfl,sq,rs⟩:=Dq rb ey
   have ra':Rep X.K H d x:=ra
   exact .inr ⟨p,vs,rfl,sq,Rk ra' hf.1,Np rs hf.2,(Wb ra' hf.1 rs hf.2).symm⟩
  ·cases e
 ·cases e
theorem aeg:Mr X (compareOp .In) inF:=by
 intro pins s σ H x y v u Q I rx ry h
 obtain⟨a,b,c,ra,rb,e,q⟩:=h
 obtain⟨k,ek,e⟩:=bind_some e
 cases e
 rcases Nq ra rb ek with⟨i,j,rfl,rfl,rfl⟩|⟨p,xs,rfl,sq,f1,f2,rfl⟩
 ·exact Xm pins s σ H _ _ v u Q I rx ry ⟨i,j,rfl,rfl,q _ H (Same.refl H) trivial Ri⟩
 ·exact Xu pins s σ H _ _ v u Q I rx ry ⟨p,xs,rfl,sq,f1,f2,q _ H (Same.refl H) trivial Ri⟩
theorem ZW:Mr X (compareOp .NotIn) acM:=by
 intro pins s σ H x y v u Q I rx ry h
 obtain⟨a,b,c,ra,rb,e,q⟩:=h
 obtain⟨k,ek,e⟩:=bind_some e
 cases e
 rcases Nq ra rb ek with⟨i,j,rfl,rfl,rfl⟩|⟨p,xs,rfl,sq,f1,f2,rfl⟩
 ·exact Ow pins s σ H _ _ v u Q I rx ry ⟨i,j,rfl,rfl,q _ H (Same.refl H) trivial Ri⟩
 ·exact Ov pins s σ H _ _ v u Q I rx ry ⟨p,xs,rfl,sq,f1,f2,q _ H (Same.refl H) trivial Ri⟩
def Uw:Bx->Bool
 |.z .non=>true
 |_=>false
theorem X3 {K:FG_} {H:Hp} {b:Bx} {v:V} (h:bH K H b v):decide (v=.non)=Uw b:=by
 cases b with
 |z d=>
  cases d<;>simp only[bH,Rep] at h
  ·subst h;rfl
  ·subst h;rfl
  ·subst h;rfl
  ·obtain⟨rfl,_⟩:=h;rfl
  ·obtain⟨_,_,rfl,_⟩:=h;rfl
  ·obtain⟨_,_,rfl,_⟩:=h;rfl
  ·obtain⟨_,_,rfl,_⟩:=h;rfl
 |l ds=>obtain⟨_,_,rfl,_⟩:=h;rfl
 |o ds=>obtain⟨_,_,rfl,_⟩:=h;rfl
 |n ds=>obtain⟨_,_,rfl,_⟩:=h;rfl
 |m ds _=>obtain⟨_,_,rfl,_⟩:=h;rfl
def isB (a:Bx):Bx->Option Bx
 |.z .non=>some (.z (.bl (Uw a)))
 |_=>none
theorem of_is:Mr X (compareOp .Is) isB:=yI.imp ae2 fun x y H Q q=>by
 obtain⟨a,b,c,ra,rb,e,q⟩:=q
 unfold isB at e
 split at e
 ·cases e
  simp only[bH,Rep] at rb
  exact⟨rb,by rw[X3 ra];exact q _ H (Same.refl H) trivial Ri⟩
 ·cases e
def jr:Bx->Bx->Option Bx
 |.z (.str x),.z (.int i)=>(Mv x.cps.toList i).bind fun c=>some (.z (.str ⟨#[c]⟩))
 |b,.z (.int i)=>(HB b).bind fun ds=>(Mv ds i).bind fun d=>some (.z d)
 |_,_=>none
theorem acO {K:FG_} {H:Hp} {ds:List Dt} {vs:List V} {i:Int} {d:Dt} (r:aW K H ds vs) (e:Mv ds i=some d):∃ v,Mv vs i=some v/\Rep K H d v:=by
 unfold Mv at e ⊢
 rw[r.length]
 obtain⟨j,ej,e⟩:=bind_some e
 rw[ej]
 exact r.get e
theorem bQ {a b:Expr} {fa fb:Ev->Option Bx} {pos:Pos} (ha:QV X a fa) (hb:QV X b fb) (hs:V3 b:=by intro _ _;with_unfolding_all rfl):QV X (.Subscript a b pos) (b2 jr fa fb):=⟨have ha:=ha.run;have hb:=hb.run;Jx (ahh afd ha hb hs) fun σ H Q h=>by
 obtain⟨H0,ρ,c,E,e,q⟩:=h
 obtain⟨a,ea,e⟩:=bind_some e
 obtain⟨b,eb,e⟩:=bind_some e
 refine⟨H0,ρ,a,E,ea,fun v H1 s1 n1 r1=>⟨H0,ρ,b,E.grow s1,eb,fun u H2 s2 n2 r2=>?_⟩⟩
 have r1':=r1.same s2
 unfold jr at e
 split at e
 ·rename_i x i
  obtain⟨c',ec,e⟩:=bind_some e
  cases e
  exact .inr (.inr ⟨_,_,c',(Pa r1').1,Wa r2,(Pa r1').2,ec,q _ _ (s1.trans s2) trivial (acJ (by show (1:Nat)<=sizeLine;decide))⟩)
 ·obtain⟨ds,ed,e⟩:=bind_some e
  obtain⟨d,ei,e⟩:=bind_some e
  cases e
  obtain⟨p,vs,rfl,sq,rs⟩:=Dq r1' ed
  obtain⟨w,ew,Y4⟩:=acO rs ei
  have hi:=Wa r2
  rcases sq with sq|sq
  ·exact .inl ⟨p,vs,_,w,rfl,hi,sq,ew,q _ _ (s1.trans s2) trivial Y4⟩
  ·exact .inr (.inl ⟨p,vs,_,w,rfl,hi,sq,ew,q _ _ (s1.trans s2) trivial Y4⟩)
 ·cases e⟩
end
theorem afy:bootBuiltins "int" = some (.type "int"):=by decide +kernel
theorem afz:bootBuiltins "str" = some (.type "str"):=by decide +kernel
theorem tO:bootBuiltins "tuple" = some (.type "tuple"):=by decide +kernel
theorem Bu:bootBuiltins "isinstance" = some (.builtin "isinstance"):=by decide +kernel
theorem lD:bootBuiltins "len" = some (.builtin "len"):=by decide +kernel
theorem afA:bootBuiltins "abs" = some (.builtin "abs"):=by decide +kernel
theorem FZ:bootBuiltins "all" = some (.builtin "all"):=by decide +kernel
theorem Nr:bootBuiltins "sorted" = some (.builtin "sorted"):=by decide +kernel
section
variable {X:Cx} {pins:List (Addr×Obj)} {σ:L2.St} {H:Hp} {s:Shared}
def lF:Dt->Bool
 |.str _=>true
 |_=>false
theorem acP (I:L2.Inv X pins σ H s) {d:Dt} {x:V} {v:Value} {Q:VK} (rd:uW X.K H d x) (rv:RelV x v) (q:Q (.bl (lF d)) H):wpAny (model X.prog X.w) X.A (call (.builtin "isinstance") [v,.type "str"]) (EP X pins σ Q) X.xe s:=by
 cases d with
 |non=>simp only[uW,Rep] at rd;subst rd;cases rv;exact IsiPair.NoneType_str ⟨.bl _,H,I.tok _,rfl,q⟩
 |bl b=>simp only[uW,Rep] at rd;subst rd;cases rv;exact IsiPair.bool_str ⟨.bl _,H,I.tok _,rfl,q⟩
 |int b=>simp only[uW,Rep] at rd;subst rd;obtain⟨t,rfl⟩:=rv;exact IsiPair.int_str ⟨.bl _,H,I.tok _,rfl,q⟩
 |str b=>simp only[uW,Rep] at rd;obtain⟨rfl,_⟩:=rd;obtain⟨t,rfl⟩:=rv;exact IsiPair.str_str ⟨.bl _,H,I,rfl,q⟩
 |tup ds=>simp only[uW,Rep] at rd;obtain⟨a,vs,rfl,sq,_⟩:=rd;cases rv;obtain⟨_,_,p,_⟩:=I.tuple sq;exact IsiPair.isTuple_str p (fun _ _ e=>e) ⟨.bl _,H,I.tok _,rfl,q⟩
 |lst ds=>simp only[uW] at rd;obtain⟨a,vs,rfl,sq,_⟩:=rd;cases rv;obtain⟨_,_,p,_⟩:=I.list sq;exact IsiPair.isList_str p.isList (fun _ _ e=>e) ⟨.bl _,H,I.tok _,rfl,q⟩
 |emp=>simp only[uW,Rep] at rd;obtain⟨a,o,rfl,sq⟩:=rd;cases rv;obtain⟨ob,e,c⟩:=Aq I sq;exact IsiPair.dict_str e c ⟨.bl _,H,I.tok _,rfl,q⟩
theorem Cd {e:Expr} {f:Ev->Option Bx} {p p2 pos:Pos} (he:QV X e f) (hg:Gl X "isinstance") (hm:X.mg "isinstance" = none) (hg2:Gl X "str") (hm2:X.mg "str" = none) (hs:starEach [e,.Name "str" p2] X.env=[(false,eval e X.env),(false,eval (.Name "str" p2) X.env)]:=by rfl):QV X (.Call (.Name "isinstance" p) [e,.Name "str" p2] [] pos) (b1 (fun b=>if uX b=true then none else some (.z (.bl (lF (toD b))))) f):=⟨by
 have he:=he.run
 have hc:jV X (.builtin "isinstance") (fun xs H Q=>∃ b x,xs=[x,.ty "str"]/\bH X.K H b x/\uX b=false/\Q (.bl (lF (toD b))) H):=by
  intro pins s σ H xs us Q I r h
  obtain⟨b,x,rfl,rb,hmb,q⟩:=h
  obtain⟨u,w',rfl,r1,r2⟩:=vals2 r
  cases r2
  exact acP I (rb.toD hmb) r1 q
 have ha:PA X [e,.Name "str" p2] (QH (tF X.K f) (QH (tC (.ty "str")) ab8)):=jY he (jY (VP hg2 hm2 (v:=.ty "str") (u:=.type "str") afz rfl) tH) (by rw[hs]<;>rfl)
 refine Jx (Dg hc hg hm Bu ha (by decide) (by decide) (by rw[hs]<;>rfl) rfl) fun σ H Q h=>?_
 obtain⟨H0,ρ,c,E,e,q⟩:=h
 obtain⟨b,eb,e⟩:=bind_some e
 split at e
 ·cases e
 rename_i hz
 cases e
 exact⟨H0,ρ,b,E,eb,fun v H1 s1 n1 r1=>⟨b,v,rfl,r1,by simpa using hz,q _ _ s1 trivial Ri⟩⟩⟩
def is_tuple:Dt->Bool
 |.tup _=>true
 |_=>false
theorem X4 (I:L2.Inv X pins σ H s) {d:Dt} {x:V} {v:Value} {Q:VK} (rd:uW X.K H d x) (rv:RelV x v) (q:Q (.bl (is_tuple d)) H):wpAny (model X.prog X.w) X.A (call (.builtin "isinstance") [v,.type "tuple"]) (EP X pins σ Q) X.xe s:=by
 cases d with
 |non=>simp only[uW,Rep] at rd;subst rd;cases rv;exact IsiPair.NoneType_tuple ⟨.bl _,H,I.tok _,rfl,q⟩
 |bl b=>simp only[uW,Rep] at rd;subst rd;cases rv;exact IsiPair.bool_tuple ⟨.bl _,H,I.tok _,rfl,q⟩
 |int b=>simp only[uW,Rep] at rd;subst rd;obtain⟨t,rfl⟩:=rv;exact IsiPair.int_tuple ⟨.bl _,H,I.tok _,rfl,q⟩
 |str b=>simp only[uW,Rep] at rd;obtain⟨rfl,_⟩:=rd;obtain⟨t,rfl⟩:=rv;exact IsiPair.str_tuple ⟨.bl _,H,I.tok _,rfl,q⟩
 |tup ds=>simp only[uW,Rep] at rd;obtain⟨a,vs,rfl,sq,_⟩:=rd;cases rv;obtain⟨_,_,p,_⟩:=I.tuple sq;exact IsiPair.isTuple_tuple p (fun _ _ e=>e) ⟨.bl _,H,I,rfl,q⟩
 |lst ds=>simp only[uW] at rd;obtain⟨a,vs,rfl,sq,_⟩:=rd;cases rv;obtain⟨_,_,p,_⟩:=I.list sq;exact IsiPair.isList_tuple p.isList (fun _ _ e=>e) ⟨.bl _,H,I.tok _,rfl,q⟩
 |emp=>simp only[uW,Rep] at rd;obtain⟨a,o,rfl,sq⟩:=rd;cases rv;obtain⟨ob,e,c⟩:=Aq I sq;exact IsiPair.dict_tuple e c ⟨.bl _,H,I.tok _,rfl,q⟩
theorem w5 {e:Expr} {f:Ev->Option Bx} {p p2 pos:Pos} (he:QV X e f) (hg:Gl X "isinstance") (hm:X.mg "isinstance" = none) (hg2:Gl X "tuple") (hm2:X.mg "tuple" = none) (hs:starEach [e,.Name "tuple" p2] X.env=[(false,eval e X.env),(false,eval (.Name "tuple" p2) X.env)]:=by rfl):QV X (.Call (.Name "isinstance" p) [e,.Name "tuple" p2] [] pos) (b1 (fun b=>if uX b=true then none else some (.z (.bl (is_tuple (toD b))))) f):=⟨by
 have he:=he.run
 have hc:jV X (.builtin "isinstance") (fun xs H Q=>∃ b x,xs=[x,.ty "tuple"]/\bH X.K H b x/\uX b=false/\Q (.bl (is_tuple (toD b))) H):=by
  intro pins s σ H xs us Q I r h
  obtain⟨b,x,rfl,rb,hmb,q⟩:=h
  obtain⟨u,w',rfl,r1,r2⟩:=vals2 r
  cases r2
  exact X4 I (rb.toD hmb) r1 q
 have ha:PA X [e,.Name "tuple" p2] (QH (tF X.K f) (QH (tC (.ty "tuple")) ab8)):=jY he (jY (VP hg2 hm2 (v:=.ty "tuple") (u:=.type "tuple") tO rfl) tH) (by rw[hs]<;>rfl)
 refine Jx (Dg hc hg hm Bu ha (by decide) (by decide) (by rw[hs]<;>rfl) rfl) fun σ H Q h=>?_
 obtain⟨H0,ρ,c,E,e,q⟩:=h
 obtain⟨b,eb,e⟩:=bind_some e
 split at e
 ·cases e
 rename_i hz
 cases e
 exact⟨H0,ρ,b,E,eb,fun v H1 s1 n1 r1=>⟨b,v,rfl,r1,by simpa using hz,q _ _ s1 trivial Ri⟩⟩⟩
def tFO (K:FG_) (f:Ev->Option (Option Int)):TO:=fun σ H Q=>∃ H0 ρ o,bF K H0 H σ ρ/\f ρ=some o/\∀ H',Same H H'->Q o H'
def PVo (X:Cx) (e:Option Expr) (f:Ev->Option (Option Int)):Prop:=PO X e (tFO X.K f)
structure QVo (X:Cx) (e:Option Expr) (f:Ev->Option (Option Int)):Prop where
 run:PVo X e f
theorem poM {e:Option Expr} {t t':TO} (h:PO X e t) (m:∀ σ H Q,t' σ H Q->t σ H Q):PO X e t':=fun pins s σ H Q I q=>h pins s σ H Q I (m σ H Q q)
def iM:Ev->Option (Option Int):=fun _=>some none
theorem jC  : QVo X none iM:=⟨poM acf fun σ H Q h=>by
 obtain⟨H0,ρ,o,E,e,q⟩:=h
 cases e
 exact q H (Same.refl H)⟩
def afB:Bx->Option (Option Int)
 |.z (.int i)=>some (some i)
 |_=>none
def lq (f:Ev->Option Bx):Ev->Option (Option Int):=fun ρ=>(f ρ).bind afB
theorem gZ {e:Expr} {f:Ev->Option Bx} (h:QV X e f):QVo X (some e) (lq f):=⟨have h:=h.run;poM (acg h) fun σ H Q q=>by
 obtain⟨H0,ρ,o,E,e,q⟩:=q
 obtain⟨b,eb,e⟩:=bind_some e
 refine⟨H0,ρ,b,E,eb,fun v H1 s1 n1 r1=>?_⟩
 unfold afB at e
 split at e
 ·rename_i i
  cases e
  exact⟨i,Wa r1,q H1 s1⟩
 ·cases e⟩
def cutD (xs:List Dt) (lo hi:Option Int):List Dt:=(xs.drop (HT.lU xs.length 0 lo)).take (HT.lU xs.length xs.length hi - HT.lU xs.length 0 lo)
theorem Rm {K:FG_} {H:Hp} {ds:List Dt} {vs:List V} (r:aW K H ds vs) (lo hi:Option Int):aW K H (cutD ds lo hi) (QM vs lo hi):=by
 unfold cutD QM
 rw[r.length]
 exact (r.drop _).take _
theorem ZX (ds:List Dt) {lo hi:Option Int} (h1:HT.lU ds.length 0 lo=0) (h2:HT.lU ds.length ds.length hi=ds.length):cutD ds lo hi=ds:=by
 unfold cutD
 rw[h1,h2]
 simp
theorem Dr {t sl:Addr} {items:Array Value} {vl vu:Value} {lo hi:Option Int} {Q:VP_} {prog:Program} {w:World} {A:Around} {E:VP_} {s:Shared} (ht:IsTup s.heap t items) (hs:s.heap.IsSliceOf sl vl vu .none) (pl:IsPart vl lo) (pu:IsPart vu hi)
  (h1:HT.lU items.size 0 lo=0) (h2:HT.lU items.size items.size hi=items.size)
  (h:Q (.ref t) s):wpAny (model prog w) A (getItem (.ref t) (.ref sl)) Q E s:=by
 obtain⟨os,hos,hcs,hds⟩:=id hs
 have hTs:s.TypeIs (.ref sl) "slice" := ⟨os,hos,hcs⟩
 unfold getItem
 try with_reducible refine qi ?_
 first|refine zb (ze ?_)|skip
 refine zb (wpAny_sequenceKey ht.typeIs (by decide) ?_)
 refine zb (wpAny_callSpecial?_slot (name:=Str.ofString "__getitem__") ht.typeIs PyProof.Rows.slot_tuple_getitem
  (Kt PyProof.Rows.slot_tuple_getitem ht.typeIs entry_tuple_getitem ?_ (args_tuple_getitem _ _)))
 show wpAny _ _ (Builtin.Tuple.tupleItemsOf (.ref t) >>= _) _ _ s
 refine zb (tupleItemsOf_ ht ?_)
 refine zb (JS hTs ?_)
 rw[zk (by decide)]
 refine zb (HT.vJ hs pl pu ?_)
 have hyes:(((HT.lU items.size 0 lo:Nat):Int)==0&&(1:Int)==1&&(HT.lU items.size items.size hi - HT.lU items.size 0 lo)==items.size)=true:=by
  rw[h1,h2];simp
 show wpAny _ _ (if (((HT.lU items.size 0 lo:Nat):Int)==0&&(1:Int)==1&&(HT.lU items.size items.size hi - HT.lU items.size 0 lo)==items.size)=true then _ else _) _ _ s
 rw[zk hyes]
 first
  |refine zb (zb (JS ht.typeIs (ze ?_)))
  |refine zb (JS ht.typeIs (zb (ze ?_)))
  |refine zb (JS ht.typeIs ?_)
 rw[zk (by decide)]
 first
  |exact zb (ko (ze ⟨_,rfl,ze h⟩))
  |exact zb (ko (zb (ze (ze ⟨_,rfl,ze h⟩))))
def slB (b:Bx) (lo hi:Option Int):Option Bx:=match b with
 |.z (.str x)=>some (.z (.str (Txt.slice x lo hi)))
 |.z (.tup ds)=>some (.z (.tup (cutD ds lo hi)))
 |b=>(yJ b).bind fun ds=>some (.o (cutD ds lo hi))
def rSl (K:FG_):V->Option Int->Option Int->Hp->VK->Prop:=fun x lo hi H Q=>∃ b c,bH K H b x/\slB b lo hi=some c/\∀ w H',Same H H'->Nw H c w->bH K H' c w->Q w H'
theorem afC:SlR X (rSl X.K):=by
 intro pins s σ H x v vl vu lo hi sl Q I rx hs pl pu h
 obtain⟨b,c,rb,e,q⟩:=h
 unfold slB at e
 split at e
 ·rename_i y
  cases e
  obtain⟨rfl,hy⟩:=Pa rb
  obtain⟨t,rfl⟩:=rx
  refine⟨"str", _,F.slot_str_getitem.lookup,typeIs_str _ _ _,?_⟩
  obtain⟨o,e1,e2,e3⟩:=hs
  have fin:∀ t' k,EP X pins σ Q (.str (Txt.slice y lo hi) t') { s with toks:=k }:=fun t' k=>⟨.str _,H,I.tok _,⟨_,rfl⟩,q _ H (Same.refl H) trivial (acJ (zz (Txt.slice_le y _ _) hy))⟩
  cases pl with
  |none=>
   cases pu with
   |none=>exact kf (l:=none) (u:=none) (st:=none) ⟨o,e1,e2,e3⟩ rfl (post_val_or_str ⟨zz (Txt.slice_le y _ _) hy,fin⟩)
   |int j uj=>exact kf (l:=none) (u:=some (j,uj)) (st:=none) ⟨o,e1,e2,e3⟩ rfl (post_val_or_str ⟨zz (Txt.slice_le y _ _) hy,fin⟩)
  |int i ui=>
   cases pu with
   |none=>exact kf (l:=some (i,ui)) (u:=none) (st:=none) ⟨o,e1,e2,e3⟩ rfl (post_val_or_str ⟨zz (Txt.slice_le y _ _) hy,fin⟩)
   |int j uj=>exact kf (l:=some (i,ui)) (u:=some (j,uj)) (st:=none) ⟨o,e1,e2,e3⟩ rfl (post_val_or_str ⟨zz (Txt.slice_le y _ _) hy,fin⟩)
 ·rename_i ds
  cases e
  obtain⟨a,vs,rfl,sq,rs⟩:=inT rb
  by_cases hw:HT.lU vs.length 0 lo=0/\HT.lU vs.length vs.length hi=vs.length
  ·cases rx
   obtain⟨its,r,ht,hz⟩:=I.tuple sq
   have hlen:its.toArray.size=vs.length:=by rw[zv];exact r.length.symm
   refine⟨"tuple", _,PyProof.Rows.slot_tuple_getitem.lookup,ht.typeIs,Dr ht hs pl pu (by rw[hlen];exact hw.1) (by rw[hlen];exact hw.2) ⟨.ref a,H,I,rfl,q _ H (Same.refl H) trivial ?_⟩⟩
   rw[ZX ds (by rw[<-rs.length];exact hw.1) (by rw[<-rs.length];exact hw.2)]
   exact rb
  ·refine afa pins s σ H _ v vl vu lo hi sl Q I rx hs pl pu ⟨a,vs,rfl,sq,hw,fun p hp=>q _ _ (cF hp) trivial ?_⟩
   unfold bH Rep
   exact⟨p,_,rfl,.inl (.inl bC),(Rm rs lo hi).kp (.of (cF hp))⟩
 ·obtain⟨ds,ed,e⟩:=bind_some e
  cases e
  obtain⟨a,vs,rfl,sq,rs⟩:=rb.Ni ed
  exact aco pins s σ H _ v vl vu lo hi sl Q I rx hs pl pu ⟨a,vs,rfl,sq,fun p hp=>q _ _ (cF hp) (fun a ea=>by cases ea;exact hp) ⟨p,_,rfl,bC,(Rm rs lo hi).kp (.of (cF hp))⟩⟩
def Fj (f:Ev->Option Bx) (fl fh:Ev->Option (Option Int)):Ev->Option Bx:=fun ρ=>(f ρ).bind fun b=>(fl ρ).bind fun lo=>(fh ρ).bind fun hi=>slB b lo hi
theorem uz {e:Expr} {lo hi:Option Expr} {f:Ev->Option Bx} {fl fh:Ev->Option (Option Int)} {p2 pos:Pos} (he:QV X e f) (hl:QVo X lo fl) (hh:QVo X hi fh):QV X (.Subscript e (.Slice lo hi none p2) pos) (Fj f fl fh):=⟨have he:=he.run;have hl:=hl.run;have hh:=hh.run;Jx (Zo afC he hl hh) fun σ H Q h=>by
 obtain⟨H0,ρ,c,E,e,q⟩:=h
 obtain⟨b,eb,e⟩:=bind_some e
 obtain⟨lo,el,e⟩:=bind_some e
 obtain⟨hi,eh,e⟩:=bind_some e
 refine⟨H0,ρ,b,E,eb,fun v H1 s1 n1 r1=>⟨H0,ρ,lo,E.grow s1,el,fun H2 s2=>⟨H0,ρ,hi,E.grow (s1.trans s2),eh,fun H3 s3=>?_⟩⟩⟩
 have s13:=(s1.trans s2).trans s3
 exact⟨b,c,(r1.same s2).same s3,e,fun w H4 s4 n4 r4=>q w H4 (s13.trans s4) (n4.old s13) r4⟩⟩
def nq:List Bx->Option Bx
 |[.z (.str x)]=>some (.z (.int x.length))
 |[b]=>(HB b).bind fun ds=>some (.z (.int ds.length))
 |_=>none
theorem rep1 {K:FG_} {H:Hp} {b:Bx} {vs:List V} (r:vL K H [b] vs):∃ v,vs=[v]/\bH K H b v:=by
 cases r with
 |cons p t=>cases t;exact⟨_,rfl,p⟩
theorem lG:Dj X (.builtin "len") nq:=jV.imp (Ox.or Oz) fun xs H Q q=>by
 obtain⟨bs,c,rb,e,q⟩:=q
 unfold nq at e
 split at e
 ·rename_i x
  cases e
  obtain⟨v,rfl,r1⟩:=rep1 rb
  obtain⟨rfl,hx⟩:=Pa r1
  exact .inr ⟨x,rfl,hx,q _ H (Same.refl H) trivial Uu⟩
 ·obtain⟨ds,ed,e⟩:=bind_some e
  cases e
  obtain⟨v,rfl,r1⟩:=rep1 rb
  obtain⟨p,vs,rfl,sq,rs⟩:=Dq r1 ed
  exact .inl ⟨p,vs,rfl,sq,by rw[rs.length];exact q _ H (Same.refl H) trivial Uu⟩
 ·cases e
def X5:List Bx->Option Bx
 |[.z (.int i)]=>some (.z (.int (if i < 0 then -i else i)))
 |_=>none
theorem afD:Dj X (.builtin "abs") X5:=jV.imp Zk fun xs H Q q=>by
 obtain⟨bs,c,rb,e,q⟩:=q
 unfold X5 at e
 split at e
 ·rename_i i
  cases e
  obtain⟨v,rfl,r1⟩:=rep1 rb
  have:=Wa r1
  subst this
  exact⟨i,rfl,q _ H (Same.refl H) trivial Uu⟩
 ·cases e
def Z0:List Bx->Option Bx
 |[.z (.int i)]=>some (.z (.int i))
 |[.z (.bl k)]=>some (.z (.int (if k then 1 else 0)))
 |_=>none
theorem afE:Dj X (.type "int") Z0:=jV.imp Xn fun xs H Q q=>by
 obtain⟨bs,c,rb,e,q⟩:=q
 unfold Z0 at e
 split at e
 ·rename_i i
  cases e
  obtain⟨v,rfl,r1⟩:=rep1 rb
  have:=Wa r1
  subst this
  exact .inl ⟨i,rfl,q _ H (Same.refl H) trivial Uu⟩
 ·rename_i k
  cases e
  obtain⟨v,rfl,r1⟩:=rep1 rb
  simp only[bH,Rep] at r1
  subst r1
  exact .inr ⟨k,rfl,q _ H (Same.refl H) trivial Uu⟩
 ·cases e
def uZ:List Bx->Option Bx
 |[b]=>(HB b).bind fun ds=>some (.z (.tup ds))
 |_=>none
theorem vP:Dj X (.type "tuple") uZ:=jV.imp Mx fun xs H Q q=>by
 obtain⟨bs,c,rb,e,q⟩:=q
 unfold uZ at e
 split at e
 ·obtain⟨ds,ed,e⟩:=bind_some e
  cases e
  obtain⟨v,rfl,r1⟩:=rep1 rb
  obtain⟨p,vs,rfl,sq,rs⟩:=Dq r1 ed
  refine⟨p,vs,rfl,?_⟩
  rcases sq with sq|sq
  ·refine .inl ⟨sq,fun l hl=>q _ _ (cF hl) trivial ?_⟩
   unfold bH Rep
   exact⟨l,vs,rfl,.inl (.inl bC),rs.kp (.of (cF hl))⟩
  ·refine .inr ⟨sq,q _ H (Same.refl H) trivial ?_⟩
   unfold bH Rep
   exact⟨p,vs,rfl,sq,rs⟩
 ·cases e
def Nt:List Dt->Option (List Bool)
 |[]=>some []
 |.bl b::ds=>(Nt ds).bind fun bs=>some (b::bs)
 |_=>none
theorem JH {K:FG_} {H:Hp}:∀ {ds:List Dt} {bs:List Bool} {vs:List V} {us:List Value},Nt ds=some bs->aW K H ds vs->Vals vs us->us=bs.map Value.bool
 |[],_,_,_,e,r,w=>by
  cases e
  simp only[aW] at r;subst r;cases w;rfl
 |d::ds,_,_,_,e,r,w=>by
  simp only[aW] at r
  obtain⟨v,r',rfl,h1,h2⟩:=r
  cases d<;>first|(cases e;done)|skip
  simp only[Nt] at e
  obtain⟨bs,e1,e⟩:=bind_some e
  cases e
  simp only[Rep] at h1
  subst h1
  cases w with
  |cons p t=>
   cases p
   rw[JH e1 h2 t]
   rfl
theorem all_range (bs:List Bool):((List.range bs.length).all fun i=>bs.getD i false)=bs.all id:=by
 rw[Bool.eq_iff_iff,ja,ja]
 constructor
 ·intro h b hb
  obtain⟨i,hi,rfl⟩:=List.mem_iff_getElem.mp hb
  have:=h i (by simpa using hi)
  simpa [List.getD,hi] using this
 ·intro h i hi
  have hi:i < bs.length:=by simpa using hi
  have:=h bs[i] (JY hi)
  simpa [List.getD,hi] using this
def allB:List Bx->Option Bx
 |[b]=>(yJ b).bind fun ds=>(Nt ds).bind fun bs=>some (.z (.bl (bs.all id)))
 |_=>none
theorem Rn {prog:Program} {w:World} {A:Around} (bs:List Bool):TruthOf prog w A (fun i v=>(bs.map Value.bool).toArray[i]?=some v) fun i=>bs.getD i false:=fun i v s Q E h q=>by
 have h':(bs.map Value.bool)[i]?=some v:=by simpa using h
 rw[ZZ] at h'
 cases e:bs[i]? with
 |none=>rw[e] at h';cases h'
 |some b=>
  rw[e] at h'
  cases h'
  have:bs.getD i false=b:=by simp[List.getD,e]
  have q':Q b s:=by rw[<-this];exact q
  exact QE q'
theorem Ga (hc:X.calm=true):Dj X (.builtin "all") allB:=by
 intro pins s σ H xs us Q I r h
 obtain⟨bs,c,rb,e,q⟩:=h
 unfold allB at e
 split at e
 ·obtain⟨ds,ed,e⟩:=bind_some e
  obtain⟨ks,ek,e⟩:=bind_some e
  cases e
  obtain⟨v,rfl,r1⟩:=rep1 rb
  obtain⟨a,vs,rfl,sq,rs⟩:=r1.Ni ed
  obtain⟨u,rfl,ru⟩:=vals1 r
  cases ru
  obtain⟨its,w,pl,hz⟩:=I.list sq
  have hv:=JH ek rs w
  have hlt:a < s.heap.objs.size:=by obtain⟨o,n,e,_⟩:=pl;exact zt e
  refine call_all_walk (wpAny_pyIter_list pl.isList ?_)
  refine⟨s.heap.objs.size,_,_,_,_,_,fun i=>ks.getD i false,rfl,Walks.list (by show X.A.handled=none;exact I.ok.hd hc) s.heap.objs.size a (ZI hlt) its.toArray,⟨⟨_,zS _ rfl,rfl,rfl⟩,pl.isList.push _⟩,?_,fun h' tk k=>?_⟩
  ·rw[hv];exact Rn ks
  ·have hn:its.toArray.size=ks.length:=by rw[hv];simp
   rw[hn,all_range]
   have I1:L2.Inv X pins σ H { s with heap:=s.heap.push { cls:=.type "list_iterator", data:=.fields #[.ref a,.int 0 0] } }:=I.kept (t':=s.toks) fun b o e=>zd _ e
   refine⟨.bl _,H,?_,rfl,q _ H (Same.refl H) trivial Ri⟩
   obtain⟨f0,f1,f2,f3,f4,f5⟩:=I.Xi (b:=s.heap.objs.size) (H':=H) (zl _) (I.hok.fresh (zl _))
   exact I1.turned (it:=s.heap.objs.size) (fun b o hb e=>k b o (by simpa using hb) e) f0 f1 f3 f4 f5
 ·cases e
end
end P1
end
section
namespace P1
open PySem PySem.Spec PyProof.Rows L2
def gv (i:Nat):Ev->Option Bx:=fun ρ=>Hy ρ i
def qK (g:Bx->Bx->Option Bx) (fa fb:Ev->Option Bx):Ev->Option Bool:=fun ρ=>(b2 g fa fb ρ).bind OJ
def tV (f:Ev->Option Bx):Ev->Option Bool:=fun ρ=>(f ρ).bind XD
def aO:Ev->Option (List Bx):=fun _=>some []
def G5 (p:Dt->Bool) (f:Ev->Option Bx):Ev->Option Bx:=b1 (fun b=>if uX b=true then none else some (.z (.bl (p (toD b))))) f
def eE:Ev->Option Out:=fun ρ=>some (.nx ρ)
def dO (f:Ev->Option Bx):Ev->Option Out:=fun ρ=>(f ρ).bind XH
def setG (i:Nat) (f:Ev->Option Bx):Ev->Option Out:=fun ρ=>(f ρ).bind fun b=>(ZF ρ i b).bind fun ρ'=>some (.nx ρ')
def X6 (gt:Dt->Ev->Option Ev) (f:Ev->Option Bx):Ev->Option Out:=fun ρ=>(f ρ).bind fun b=>match b with|.z d=>(gt d ρ).bind fun ρ'=>some (.nx ρ')|_=>none
def Z1 (i:Nat) (f:Ev->Option Bx):Ev->Option Out:=fun ρ=>(f ρ).bind (acB ρ i)
def yL (fi:Ev->Option (List Dt)) (gt:Dt->Ev->Option Ev) (gb:Ev->Option Out):Ev->Option Out:=fun ρ=>(fi ρ).bind fun ds=>yW gt gb ds ρ
def itF (f:Ev->Option Bx):Ev->Option (List Dt):=fun ρ=>(f ρ).bind ZJ
def Jk (f:Ev->Option Bx):Ev->Option (List Dt):=fun ρ=>(f ρ).bind ZS
def Ux (fs:Ev->Option (List Bx)):Ev->Option (List Dt):=fun ρ=>(fs ρ).bind afo
def sO (i:Nat):Dt->Ev->Option Ev:=fun d ρ=>some (ρ.set i (some (.z d)))
def rZ:Ev->Option Bool:=fun _=>some true
theorem cH {X:Cx}:JD X [] rZ:=⟨.inl ⟨rfl,rfl⟩⟩
theorem JK {X:Cx} {c:Expr} {p:Ev->Option Bool} (h:QB X c p):JD X [c] p:=⟨have h:=h.run;.inr ⟨c,rfl,h⟩⟩
theorem afF {X:Cx} {scope:Scope} {cl:List (Str×Addr)}:MJ X scope cl [] []:=trivial
theorem acR {X:Cx} {scope:Scope} {cl:List (Str×Addr)} {x:Str} {i:Nat} {xs:LS_} {is:List Nat} (n:X.N[i]?=some x) (k:X.env.kindOf x=some .cell\/X.env.kindOf x=some .free)
  (k':(relabel scope X.env).names.lookup x=some .cell\/(relabel scope X.env).names.lookup x=some .free) (c:∃ c,cl.lookup x=some c) (r:MJ X scope cl xs is):MJ X scope cl (x::xs) (i::is):=⟨⟨n,k,k',c⟩,r⟩
theorem mem_of_lookup {names:List (Str×NameKind)} {x:Str} {k:NameKind}:names.lookup x=some k->(x,k)∈names:=Q4
theorem afG {X:Cx} {scope:Scope} {cl:List (Str×Addr)} {xs:LS_} {is:List Nat} (clos:closureFor scope X.env=pure cl) (kind:scope.kind=.function) (cell:scope.names.all (fun y=>decide (y.2≠.cell)||(cl.lookup y.1).isNone)=true)
  (names:scope.names.all (fun y=>decide (y.2=.local->scope.names.lookup y.1=some .local))=true) (sub:SubL X.env.cells cl)
  (has:(relabel scope X.env).names.all (fun y=>!(y.2==.cell||y.2==.free)||(cl.lookup y.1).isSome||scope.names.contains (y.1,.cell))=true) (cap:MJ X scope cl xs is):uV X scope cl xs is where
 clos:=clos
 kind:=kind
 cell:=fun y hy hc=>by
  have:=List.all_eq_true.mp cell y hy
  simp only[hc,ne_eq,not_true_eq_false,decide_false,Bool.false_or,Option.isNone_iff_eq_none] at this
  exact this
 names:=fun y hy=>JE (List.all_eq_true.mp names y hy)
 sub:=sub
 has:=fun x hx=>by
  have h:∃ k,(relabel scope X.env).names.lookup x=some k/\(k==NameKind.cell||k==NameKind.free)=true:=by
   rcases hx with hx|hx
   ·exact⟨_,hx,rfl⟩
   ·exact⟨_,hx,rfl⟩
  obtain⟨k,e,hk⟩:=h
  have:=List.all_eq_true.mp has _ (mem_of_lookup e)
  simp only[hk,Bool.not_true,Bool.false_or,ke] at this
  rcases this with h|h
  ·exact .inr (Option.isSome_iff_exists.mp h)
  ·exact .inl (List.contains_iff_mem.mp h)
 cap:=cap
theorem cg {k:Nat} {A:Around} (r:lR k A):A.units+100 < cLine:=by have:=r.un;omega
theorem afH {F:List Bx->Option Bx} (h:∀ ns:List Int,ns.length<=63->F [.z (.lst (ns.map .int))]=some (.z (.bl true))) (hl:∀ ns:List Int,ns.length<=63->F [.l (ns.map .int)]=some (.z (.bl true))) (K:FG_) (H:Hp) (a:Addr) (ns:List Int) (hn:ns.length<=63) (_:Only H) (hS:vH K H a (ns.map V.int)) :
  iK K 1 F [.ref a] H (fun v _=>v=.bl true) fun _ _ _=>False:=by
 have rs:∀ ms:List Int,aW K H (ms.map Dt.int) (ms.map V.int):=fun ms=>by
  induction ms with
  |nil=>exact aW.nil
  |cons m ms ih=>exact aW.cons (by unfold Rep;rfl) ih
 have fin:∀ v (H':Hp),Same H H'->Nw H (.z (.bl true)) v->bH K H' (.z (.bl true)) v->v=.bl true:=fun v H' _ _ r=>by simpa only[bH,Rep] using r
 rcases hS with hS|hS
 ·exact⟨rfl,[.l (ns.map .int)],_,.cons ⟨a,_,rfl,hS,rs ns⟩ .nil,rfl,hl ns hn,fin⟩
 ·refine⟨rfl,[.z (.lst (ns.map .int))],_,.cons ?_ .nil,rfl,h ns hn,fin⟩
  unfold bH Rep
  exact⟨a,_,rfl,.inr hS,rs ns⟩
theorem aki {P:Program} {w:World} {K:FG_} {mg:Str->Option Value} {base:Heap} {x qual:Str} {st:Stmt} {f:Addr} {fd:FuncData} {N ps:LS_} {k n m:Nat} {g:Ev->Option Out} (F:qI K x qual st f fd) (S:bD N ps (aP st)) (hn:N.length=n) (hm:ps.length=m)
  (hbody:∀ (cdv:Value) (A:Around) (outer:List Env) (s:Shared) (H:Hp) (E:XK),lR k (A.deeper (envOfC qual (aP st) s.heap.objs.size f cdv))->Y0 (BR fB P w K mg base N qual (aP st) f cdv A outer s H E).TJ (jZ st) g) :
  bx P w K mg base fB (k+1) f fd ps (iK K m (fG n g)):=by
 subst hn hm
 exact akg F S hbody
section
variable {X:Cx} {e st:Expr} {f fs:Ev->Option Bx} {pos p2:Pos}
section
variable {prog:Program} {w:World} {A:Around} {E:VP_} {s:Shared}
end
end
section
variable {X:Cx} {e:Expr} {f:Ev->Option Bx}
def Y5:Bx->Bx->Option Bx
 |.z (.int i),.z (.int j)=>some (.z (.bl (decide (i < j))))
 |.z (.str x),.z (.str y)=>some (.z (.bl (decide (x.cps.toList < y.cps.toList))))
 |_,_=>none
theorem Ph:Mr X (compareOp .Lt) Y5:=by
 intro pins s σ H x y v u Q I rx ry h
 obtain⟨a,b,c,ra,rb,e,q⟩:=h
 unfold Y5 at e
 split at e
 ·rename_i i j
  cases e
  exact ag6 pins s σ H x y v u Q I rx ry ⟨i,j,Wa ra,Wa rb,q _ H (Same.refl H) trivial (by unfold bH;exact okT)⟩
 ·rename_i i j
  cases e
  obtain⟨rfl,_⟩:=Pa ra
  obtain⟨rfl,_⟩:=Pa rb
  obtain⟨t,rfl⟩:=rx
  obtain⟨t',rfl⟩:=ry
  exact PySem.P.lt_str ⟨.bl _,H,I,rfl,q _ H (Same.refl H) trivial (by unfold bH;exact okT)⟩
 ·cases e
def uD:List Dt->Option LS_
 |[]=>some []
 |.str x::r=>(uD r).bind fun ys=>some (x::ys)
 |_=>none
theorem Nu {K:FG_} {H:Hp}:∀ {ds:List Dt} {vs:List V} {ys:LS_},aW K H ds vs->uD ds=some ys->vs=ys.map V.str/\∀ y∈ys,y.length<=sizeLine
 |[],_,_,h,e=>by cases e;simp only[aW] at h;subst h;exact⟨rfl,fun y hy=>by cases hy⟩
 |.str x::ds,_,_,h,e=>by
  simp only[uD] at e
  obtain⟨ys,e1,e2⟩:=bind_some e
  cases e2
  simp only[aW] at h
  obtain⟨v,r,rfl,hd,hr⟩:=h
  obtain⟨rfl,hx⟩:v=.str x/\x.length<=sizeLine:=by simpa only[Rep] using hd
  obtain⟨rfl,h2⟩:=Nu hr e1
  refine⟨rfl,fun y hy=>?_⟩
  rcases List.mem_cons.mp hy with rfl|hy
  ·exact hx
  ·exact h2 y hy
 |.non::_,_,_,_,e=>by cases e
 |.bl _::_,_,_,_,e=>by cases e
 |.int _::_,_,_,_,e=>by cases e
 |.tup _::_,_,_,_,e=>by cases e
 |.lst _::_,_,_,_,e=>by cases e
 |.emp::_,_,_,_,e=>by cases e
theorem Ds {K:FG_} {H:Hp}:∀ {ys:LS_},(∀ y∈ys,y.length<=sizeLine)->aW K H (ys.map Dt.str) (ys.map V.str)
 |[],_=>aW.nil
 |y::ys,h=>aW.cons (by unfold Rep;exact⟨rfl,h y (zi ..)⟩) (Ds fun z hz=>h z (zo _ hz))
theorem JL:∀ {ys:LS_} {its:List Value},Vals (ys.map V.str) its->StrsAre its ys
 |[],_,h=>by cases h;exact .nil
 |y::ys,_,h=>by
  cases h with
  |cons r t=>
   obtain⟨tk,rfl⟩:=r
   exact .cons y tk (JL t)
theorem Gb:∀ {its:List Value} {ys:LS_},StrsAre its ys->Vals (ys.map V.str) its
 |_,_,.nil=>.nil
 |_,_,.cons y t h=>.cons ⟨t,rfl⟩ (Gb h)
def QC (a b:Str):Prop:=ltCps b.cps.toList a.cps.toList=false
theorem Du:∀ (p:Str) (l:LS_),risingS p l=true->(p::l).Pairwise QC
 |p,[],_=>by simp
 |p,x::r,h=>by
  have h':(!ltCps x.cps.toList p.cps.toList&&risingS x r)=true:=h
  rw[ZN] at h'
  have ih:=Du x r h'.2
  have hx:QC p x:=by simpa [QC] using h'.1
  refine List.pairwise_cons.mpr ⟨fun y hy=>?_,ih⟩
  rcases List.mem_cons.mp hy with rfl|hy
  ·exact hx
  ·have hxy:QC x y:=qV ih hy
   unfold QC at hx hxy ⊢
   rw[ltCps_eq] at hx hxy ⊢
   simp only[jb] at hx hxy ⊢
   exact List.le_trans (α:=Nat) hx hxy
theorem Pj {l:LS_} (h:sortedS l=true):l.Pairwise QC:=by
 cases l with
 |nil=>exact .nil
 |cons p l=>exact Du p l h
theorem Ro {a b:Str} (h:QC a b) (h':QC b a):a=b:=by
 unfold QC at h h'
 rw[ltCps_eq] at h h'
 simp only[jb] at h h'
 have:=List.le_antisymm (as:=a.cps.toList) (bs:=b.cps.toList) h h'
 cases a;cases b
 simp only[Str.mk.injEq]
 exact Array.toList_inj.mp this
theorem Wc:∀ {l l':LS_},l.Perm l'->l.Pairwise QC->l'.Pairwise QC->l=l'
 |[],l',h,_,_=>by rw[List.nil_perm.mp h]
 |a::l,[],h,_,_=>by cases List.perm_nil.mp h
 |a::l,b::l',h,p,p'=>by
  have e:a=b:=by
   have ha:a∈b::l':=h.mem_iff.mp (zi ..)
   have hb:b∈a::l:=h.mem_iff.mpr (zi ..)
   rcases List.mem_cons.mp ha with h1|h1
   ·exact h1
   ·rcases List.mem_cons.mp hb with h2|h2
    ·exact h2.symm
    ·exact Ro (qV p h2) (qV p' h1)
  subst e
  rw[Wc ((List.perm_cons a).mp h) (List.pairwise_cons.mp p).2 (List.pairwise_cons.mp p').2]
def X7 (a b:Str):Bool:=!ltCps b.cps.toList a.cps.toList
def uE (ys:LS_):LS_:=ys.mergeSort X7
theorem oX (ys:LS_):(uE ys).Perm ys:=List.mergeSort_perm ys X7
theorem JM (ys:LS_):(uE ys).Pairwise QC:=by
 have h:=List.pairwise_mergeSort (le:=X7) (fun a b c h1 h2=>by
  unfold X7 at *
  rw[ltCps_eq] at *
  simp only[Ki,jb] at *
  exact List.le_trans (α:=Nat) h1 h2) (fun a b=>by
  unfold X7
  rw[ltCps_eq,ltCps_eq]
  simp only[ke,Ki,jb]
  exact List.le_total a.cps.toList b.cps.toList) ys
 exact h.imp fun {a b} hh=>by simpa [X7,QC] using hh
theorem Z2 {ys zs:LS_} (hp:zs.Perm ys) (hs:sortedS zs=true):zs=uE ys:=Wc (hp.trans (oX ys).symm) (Pj hs) (JM ys)
def yr (x:Str) (b:Bx):Option Bx:=(yJ b).bind fun ds=>(uD ds).bind fun ys=>if (ys.map (·.length)).sum+ys.length * x.length<=100000 then some (.z (.str (Txt.join x ys))) else none
theorem acS:MtR X "str.join" (fun x xs H Q=>∃ y p ys,x=.str y/\xs=[.ref p]/\vH X.K H p (ys.map V.str)/\(ys.map (·.length)).sum+ys.length * y.length<=100000/\Q (.str (Txt.join y ys)) H):=by
 intro pins s σ H x xs v us Q I rx rs h
 obtain⟨y,p,ys,rfl,rfl,sq,hb,q⟩:=h
 obtain⟨t,rfl⟩:=rx
 obtain⟨u,rfl,ru⟩:=vals1 rs
 cases ru
 obtain⟨its,r',pl,hz⟩:=I.list sq
 exact join_list pl.isList (JL r') (by omega) fun t' k=>⟨.str _,H,I.tok _,⟨_,rfl⟩,q⟩
theorem Dv {x:Str} {j:Nat} {p1 apos cpos:Pos} (h:QV X e f) (hx:x.length<=sizeLine:=by decide) (hbase:attributeBase (.Constant (.str x) j p1) "join" X.env (eval (.Constant (.str x) j p1) X.env)=eval (.Constant (.str x) j p1) X.env:=by rfl) (hfew:((backTo cpos (starEach [e] X.env)).all (fun x=>!x.1)&&(backToKw cpos (keywordEach [] X.env)).all (fun x=>x.1.isSome)&&decide ([e].length+([]:List Keyword).length+(if ([]:List Keyword).isEmpty then 0 else 1) < 30))=true:=by rfl) (hline:(apos.endLine==cpos.line)=true:=by rfl) (hs:starEach [e] X.env=(false,eval e X.env)::starEach [] X.env:=by rfl):QV X (.Call (.Attribute (.Constant (.str x) j p1) "join" apos) [e] [] cpos) (b1 (yr x) f):=⟨have h:=h.run;Jx (QS (T := "str") F.plainAttrs_str F.slot_str_join F.type_str_join acS (ZC (hx:=hx)) (Dk h Jd hs) hbase hfew hline hs rfl) fun σ H Q q=>by
  obtain⟨H0,ρ,c,E,e,q⟩:=q
  obtain⟨a,ea,e⟩:=bind_some e
  refine⟨H0,ρ,_,E,rfl,fun v H1 s1 n1 r1=>?_⟩
  obtain⟨rfl,hx'⟩:v=.str x/\x.length<=sizeLine:=by simpa only[bH,Rep] using r1
  refine⟨rfl,H0,ρ,[a],E.grow s1,by simp only[ao,ea,Qb],fun vs H2 s2 r2=>?_⟩
  obtain⟨w,rfl,rw1⟩:=rep1 r2
  unfold yr at e
  obtain⟨ds,ed,e⟩:=bind_some e
  obtain⟨ys,ey,e⟩:=bind_some e
  split at e
  ·rename_i hb
   cases e
   obtain⟨p,ws,rfl,sq,rs⟩:=rw1.Ni ed
   obtain⟨rfl,hy⟩:=Nu rs ey
   refine⟨x,p,ys,rfl,rfl,sq,hb,q _ _ (s1.trans s2) trivial ?_⟩
   unfold bH Rep
   exact⟨rfl,joinOk_length (joinOk_of (by omega))⟩
  ·cases e⟩
end
section
variable {X:Cx}
end
def JN (kvs:List (Key×Dt)) (x:Key):Option Dt:=(kvs.find? fun kv=>decide (kv.1=x)).map (·.2)
def Uy (kvs:List (Key×Dt)) (x:Key) (d:Dt):List (Key×Dt):=
 if (kvs.any fun kv=>decide (kv.1=x))=true then kvs.map (fun kv=>if kv.1=x then (kv.1,d) else kv) else kvs++[(x,d)]
section
variable {K:FG_} {H:Hp}
theorem lO.nil:lO K H [] []:=⟨rfl,aW.nil,fun p hp=>by cases hp⟩
theorem lO.inv {p:Key×Dt} {kvs:List (Key×Dt)} {ks:List (Key×V)} (h:lO K H (p::kvs) ks):∃ v r,ks=(p.1,v)::r/\Rep K H p.2 v/\okK p.1/\lO K H kvs r:=by
 obtain⟨h1,h2,h3⟩:=h
 cases ks with
 |nil=>simp at h1
 |cons q r=>
  simp only[zg,kG] at h1
  obtain⟨e,h1⟩:=h1
  simp only[zg,aW] at h2
  obtain⟨v,r',e2,hv,hr⟩:=h2
  simp only[kG] at e2
  obtain⟨rfl,rfl⟩:=e2
  exact⟨q.2,r,by rw[<-e],hv,h3 p (zi ..),h1,hr,fun x hx=>h3 x (zo _ hx)⟩
theorem lO.cons {p:Key×Dt} {kvs:List (Key×Dt)} {v:V} {r:List (Key×V)} (hv:Rep K H p.2 v) (hp:okK p.1) (h:lO K H kvs r):lO K H (p::kvs) ((p.1,v)::r):=
 ⟨by simp[h.1],aW.cons hv h.2.1,fun x hx=>by
  rcases List.mem_cons.mp hx with rfl|hx
  ·exact hp
  ·exact h.2.2 x hx⟩
theorem lO.append {kvs:List (Key×Dt)} {ks:List (Key×V)} {x:Key} {d:Dt} {v:V} (h:lO K H kvs ks) (hv:Rep K H d v) (hx:okK x):lO K H (kvs++[(x,d)]) (ks++[(x,v)]):=
 ⟨by simp[h.1],by rw[Zl,Zl];exact aW.append h.2.1 (aW.cons hv aW.nil),fun p hp=>by
  rcases List.mem_append.mp hp with hp|hp
  ·exact h.2.2 p hp
  ·cases List.mem_singleton.mp hp;exact hx⟩
theorem lO.len {kvs:List (Key×Dt)} {ks:List (Key×V)} (h:lO K H kvs ks):ks.length=kvs.length:=by
 have:=congrArg List.length h.1
 simpa using this
theorem lO.look:∀ {kvs:List (Key×Dt)} {ks:List (Key×V)} {x:Key} {d:Dt},lO K H kvs ks->JN kvs x=some d->∃ v,BW ks x=some v/\Rep K H d v
 |[],_,_,_,_,e=>by cases e
 |p::kvs,_,x,d,h,e=>by
  obtain⟨v,r,rfl,hv,hpl,hr⟩:=h.inv
  unfold JN at e
  by_cases hp:p.1=x
  ·rw[List.find?_cons_of_pos (by simpa using hp)] at e
   cases e
   exact⟨v,yQ (by rw[hp]),hv⟩
  ·rw[List.find?_cons_of_neg (by simpa using hp)] at e
   obtain⟨w,e1,e2⟩:=lO.look hr e
   exact⟨w,(yR (by simpa using hp)).trans e1,e2⟩
theorem lO.any:∀ {kvs:List (Key×Dt)} {ks:List (Key×V)} {x:Key},lO K H kvs ks->(ks.any fun kv=>decide (kv.1=x))=kvs.any fun kv=>decide (kv.1=x)
 |[],ks,_,h=>by
  have:=h.len
  cases ks with
  |nil=>rfl
  |cons _ _=>simp at this
 |p::kvs,_,x,h=>by
  obtain⟨v,r,rfl,hv,hpl,hr⟩:=h.inv
  rw[Q3,Q3,lO.any hr]
theorem lO.Z4:∀ {kvs:List (Key×Dt)} {ks:List (Key×V)} {x:Key} {d:Dt} {v:V},lO K H kvs ks->Rep K H d v->lO K H (kvs.map fun kv=>if kv.1=x then (kv.1,d) else kv) (ks.map fun kv=>if kv.1=x then (kv.1,v) else kv)
 |[],ks,_,_,_,h,_=>by
  have:=h.len
  cases ks with
  |nil=>exact lO.nil
  |cons _ _=>simp at this
 |p::kvs,_,x,d,v,h,hd=>by
  obtain⟨w,r,rfl,hw,hpl,hr⟩:=h.inv
  rw[zg,zg]
  have ih:=lO.Z4 (x:=x) hr hd
  by_cases hp:p.1=x
  ·rw[zk hp,zk (by simp[hp])]
   exact lO.cons (p:=(p.1,d)) hd hpl ih
  ·rw[zI hp,zI (by simpa using hp)]
   exact lO.cons hw hpl ih
theorem lO.put {kvs:List (Key×Dt)} {ks:List (Key×V)} {x:Key} {d:Dt} {v:V} (h:lO K H kvs ks) (hv:Rep K H d v) (hx:okK x):lO K H (Uy kvs x d) (putK ks x v):=by
 unfold Uy putK
 rw[h.any]
 split
 ·exact h.Z4 hv
 ·exact h.append hv hx
end
section
variable {X:Cx} {e ek o:Expr} {f fk fo:Ev->Option Bx} {pos pos':Pos}
theorem acT  : QV X (.Dict [] [] pos) (fun _=>some (.m [] none)):=⟨Jx Zv fun σ H Q h=>by
 obtain⟨H0,ρ,b,E,e,q⟩:=h
 cases e
 intro p hp
 exact q _ _ (cF hp) (fun a ea=>by cases ea;exact hp) ⟨p,[],rfl,bC,lO.nil,fun b h=>by cases h⟩⟩
def kyB:Bx->Option Key
 |.z (.str x)=>some (.inr x)
 |.z (.int i)=>some (.inl i)
 |_=>none
theorem Wf {K:FG_} {H:Hp} {b:Bx} {k:Key} {v:V} (e:kyB b=some k) (r:bH K H b v):v=kV k/\okK k:=by
 unfold kyB at e
 split at e
 ·cases e;simp only[bH,Rep] at r;exact r
 ·cases e;simp only[bH,Rep] at r;exact⟨r,trivial⟩
 ·cases e
def Nv:Bx->Bx->Option Bx
 |.n kvs,b=>(kyB b).bind fun k=>(JN kvs k).bind fun d=>some (.z d)
 |_,_=>none
theorem Uz {a b c:Bx} (h:Nv a b=some c):∃ kvs k d,a=.n kvs/\kyB b=some k/\JN kvs k=some d/\c=.z d:=by
 unfold Nv at h
 split at h
 ·obtain⟨k,ek,h⟩:=bind_some h
  obtain⟨d,ed,h⟩:=bind_some h
  cases h
  exact⟨_,k,d,rfl,ek,ed,rfl⟩
 ·cases h
theorem acU (hu:X.A.units+100 < cLine) (ho:QV X o fo) (hk:QV X ek fk) (hs:afj ek:=by intro _ _;rfl):QV X (.Subscript o ek pos) (b2 Nv fo fk):=⟨have ho:=ho.run;have hk:=hk.run;Jx (acr (by omega) ho hk hs) fun σ H Q h=>by
 obtain⟨H0,ρ,c,E,e,q⟩:=h
 obtain⟨a,ea,e⟩:=bind_some e
 obtain⟨b,eb,e⟩:=bind_some e
 refine⟨H0,ρ,a,E,ea,fun v H1 s1 n1 r1=>⟨H0,ρ,b,E.grow s1,eb,fun w H2 s2 n2 r2=>?_⟩⟩
 obtain⟨kvs,x,d,rfl,ekx,ed,rfl⟩:=Uz e
 obtain⟨p,ks,rfl,rd,rm⟩:=r1.same s2
 obtain⟨v',ev,rv⟩:=rm.look ed
 obtain⟨rfl,_⟩:=Wf ekx r2
 exact⟨p,v',rfl,.inl ⟨ks,x,rd,rfl,ev.symm⟩,q _ _ (s1.trans s2) trivial rv⟩⟩
def Rp (ρ:Ev) (i:Nat):Bx->Bx->Option Out
 |.z d,b=>(kyB b).bind fun x=>match ρ[i]? with
  |some (some (.m kvs w))=>if kvs.length < 1000 then some (.nx (ρ.set i (some (.m (Uy kvs x d) w)))) else none
  |_=>none
 |_,_=>none
def Z5 (i:Nat) (f fk:Ev->Option Bx):Ev->Option Out:=fun ρ=>(f ρ).bind fun b=>(fk ρ).bind fun k=>Rp ρ i b k
theorem UG {ρ:Ev} {i:Nat} {b k:Bx} {r:Out} (h:Rp ρ i b k=some r):∃ d y kvs w,b=.z d/\kyB k=some y/\ρ[i]?=some (some (.m kvs w))/\kvs.length < 1000/\r=.nx (ρ.set i (some (.m (Uy kvs y d) w))):=by
 unfold Rp at h
 split at h
 ·obtain⟨y,ey,h⟩:=bind_some h
  split at h
  ·rename_i hρ
   split at h
   ·rename_i hl
    cases h
    exact⟨_,y,_,_,rfl,ey,hρ,hl,rfl⟩
   ·cases h
  ·cases h
 ·cases h
theorem acV (i:Nat) {x:Str} {p:Pos} (hu:X.A.units+100 < cLine) (he:QV X e f) (hk:QV X ek fk) (hN:X.N[i]?=some x:=by rfl) (hv:Mt X.env.scope x:=by first|exact ZU rfl|exact Zs (ZU rfl)|exact Zs (Zs rfl)) (hd:(x==("__debug__" : Str))=false:=by decide) (hcd:(x==("__classdict__" : Str))=false:=by decide) (hs:swapsWith e (some (.Subscript (.Name x p) ek pos')) pos.line X.env=pure false:=by rfl):XF X (.Assign [.Subscript (.Name x p) ek pos'] e pos) (fun ρ=>(f ρ).bind fun b=>(fk ρ).bind fun k=>Rp ρ i b k):=⟨have he:=he.run;have hk:=hk.run;psM (acs (by omega) (tD (i:=i) hN hv hd hcd) hk he hs) fun D σ H h=>by
  obtain⟨H0,ρ,r,E,e,q⟩:=h
  obtain⟨b,eb,e⟩:=bind_some e
  obtain⟨k,ek,e⟩:=bind_some e
  refine⟨H0,ρ,b,E,eb,fun v H1 s1 n1 r1=>?_⟩
  obtain⟨d,y,kvs,w0,rfl,eky,hρ,hl,rfl⟩:=UG e
  have E1:=E.grow s1
  obtain⟨w,e1,a,ks,rfl,ha,rm,tie⟩:=E1.val i _ hρ
  refine⟨_,e1,H0,ρ,_,E1,ek,fun u H2 s2 n2 r2=>?_⟩
  obtain⟨rfl,hyl⟩:=Wf eky r2
  have E2:=E1.grow s2
  have ha2:=s2 _ _ ha
  have kp:Kp H2 (upd H2 a (.dK (putK ks y v))):=.dk ha2
  refine⟨a,_,rfl,Ug.k (k:=y) ha2 (by rw[rm.len];exact Nat.lt_trans hl (by decide)),q _ _ ?_⟩
  exact E2.ahx hρ rfl e1 kp ⟨a,_,rfl,bC,((rm.kp (.of s2)).put (x:=y) (bH.same s2 r1) hyl).kp kp,tie⟩⟩
end
section
variable {X:Cx} {a b c e:Expr} {es:List Expr} {fa fb fc f:Ev->Option Bx} {fs:Ev->Option (List Bx)} {pos:Pos}
theorem j5 {x:Str} {j} (hx:x.length<=sizeLine:=by decide):QV X (.Constant (.str x) j pos) (cB (.str x)):=⟨P1.ZC (hx:=hx)⟩
end
section
variable {X:Cx} {a b c e:Expr} {es:List Expr} {fa fb fc f:Ev->Option Bx} {fs:Ev->Option (List Bx)} {pos:Pos}
variable {p q:Ev->Option Bool} {rest:List Expr}
theorem ak (h1:QV X e f) (h2:QVs X es fs) (hs:starEach (e::es) X.env=(false,eval e X.env)::starEach es X.env:=by rfl):QVs X (e::es) (ao f fs):=⟨P1.Dk (h1:=h1.run) (h2:=h2.run) (hs:=hs)⟩
theorem aA  : QVs X [] (fun _=>some []):=⟨P1.Jd ⟩
end
theorem qJ {P:Program} {w:World} {K:FG_} {mg:Str->Option Value} {base:Heap} {x qual:Str} {st:Stmt} {f:Addr} {fd:FuncData} {N ps:LS_} {k n m:Nat} {g:Ev->Option Out} (F:qI K x qual st f fd) (S:bD N ps (aP st)) (hn:N.length=n) (hm:ps.length=m)
  (hbody:∀ (cdv:Value) (A:Around) (outer:List Env) (s:Shared) (H:Hp) (E:XK),lR k (A.deeper (envOfC qual (aP st) s.heap.objs.size f cdv))->V6 (BR fB P w K mg base N qual (aP st) f cdv A outer s H E).TJ (jZ st) g) :
  bx P w K mg base fB (k+1) f fd ps (iK K m (fG n g)):=aki F S hn hm fun cdv A outer s H E hr=>(hbody cdv A outer s H E hr).run
section
variable {prog:Program} {w:World} {A:Around} {E:VP_} {s:Shared}
theorem Pk {d:Addr} {kvs:List (Key×Value)} {ep:Nat} {Q:List Value->Shared->Prop} (hh:A.handled=none) (hd:(d==sysModules)=false) (hm:s.heap.DictAt (dI prog w) d kvs ep) (hn:kvs.length<=sizeLine)
  (hQ:∀ s' acc,s.heap.objs.size<=s'.heap.objs.size->(∀ b o,s.heap.get? b=some o->s'.heap.get? b=some o)->s'.gens=s.gens->s'.drawn=s.drawn->s'.os=s.os->ItemsOf (fun i v=>∃ k x,kvs[i]?=some (k,x)/\(dI prog w).is k v=true) acc kvs.length->Q acc.toList s') :
  wpAny (model prog w) A (collect (.ref d)) Q E s:=by
 have hT:s.TypeIs (.ref d) "dict" := hm.dictOf.typeIs
 have hlt:d < s.heap.objs.size:=by obtain⟨o,_,ho,_⟩:=hm;exact zt ho
 unfold collect
 refine zb (wpAny_runValue (codeAny_builtin F.entry_proto_collect ?_));rw[Around.under_plainId F.plain_proto_collect _]
 show wpAny _ A.in1 (newList [] >>= fun l=>again (.builtin "list.__iadd__" ⟨[l,.ref d],[]⟩)) _ _ s
 refine zb (Q2 (ze ⟨plainId_quiet F.plain_list_iadd _,codeAny_builtin F.entry_list_iadd ?_⟩));rw[Around.under_plainId F.plain_list_iadd _]
 show wpAny _ A.in1 (Builtin.List.listExtendWith (.ref s.heap.objs.size) (.ref d) (.ref s.heap.objs.size)) _ _ _
 unfold Builtin.List.listExtendWith
 have hm1:=hm.at' (h':=s.heap.push { cls:=.type "list", data:=.seq ([]:List Value).toArray }) fun o e=>zd _ e
 refine zb (JS (T := "dict") hm1.dictOf.typeIs ?_)
 have h1:Builtin.List.listSameRef (.ref s.heap.objs.size) (.ref d)=false:=by simp[Builtin.List.listSameRef];exact js hlt
 simp only[h1,show (Value.type "dict" == Value.type "list")=false by decide,show (Value.type "dict" == Value.type "tuple")=false by decide,Bool.or_false,ZH,qA]
 refine zb (wpAny_pyIter_dict hd hm1 ?_)
 refine zb (qi ?_)
 have hm2:=hm1.at' (h':=(s.heap.push { cls:=.type "list", data:=.seq ([]:List Value).toArray }).push { cls:=.type "dict_keyiterator", data:=.fields #[.ref d,.int 0 0,.int kvs.length 0,.int ep 0] }) fun o e=>zd _ e
 unfold Builtin.List.listLengthHint
 refine zb (wpAny_specialOf (T := "dict") hm2.dictOf.typeIs F.slot_dict_len.lookup ?_)
 wp_delta
 refine zb (wpAny_isInstance (T := "dict") (b:=true) hm2.dictOf.typeIs (by rw[isSubtype_type];kernel_rfl) ?_)
 show wpAny _ A.in1 (typeOf (Value.ref d) >>= _) _ _ _
 refine zb (JS (T := "dict") hm2.dictOf.typeIs (ze ?_))
 rw[zk (by decide)]
 show wpAny _ A.in1 (Builtin.List.listTouch (Value.ref s.heap.objs.size) >>= fun _=>again (Code.builtin "list.extend.loop" ⟨[Value.ref s.heap.objs.size,Value.ref (s.heap.push { cls:=.type "list", data:=.seq ([]:List Value).toArray }).objs.size,Value.ref s.heap.objs.size],[]⟩)) _ _ _
 generalize hH:(s.heap.push { cls:=.type "list", data:=.seq ([]:List Value).toArray })=H at hm1 hm2 ⊢
 have hHs:H.objs.size=s.heap.objs.size+1:=by rw[<-hH,JO]
 generalize hG:H.push { cls:=.type "dict_keyiterator", data:=.fields #[.ref d,.int 0 0,.int kvs.length 0,.int ep 0] }=G at hm2 ⊢
 have hS:G.get? s.heap.objs.size=some (seqObj "list" #[] 0):=by
  rw[<-hG]
  refine zd _ ?_
  rw[<-hH]
  exact zS _ rfl
 have hI:G.get? H.objs.size=some { cls:=.type "dict_keyiterator", data:=.fields #[.ref d,.int 0 0,.int kvs.length 0,.int ep 0] }:=by
  rw[<-hG]
  exact zS _ rfl
 unfold Builtin.List.listTouch
 refine zb (zb (listUpdate_at hS rfl (listUpdate_at (get?_update_seq hS _) rfl ?_ (by show _<=_;decide) (by show _<=_;decide)) (by show _<=_;decide) (by show _<=_;decide)))
 have hIS:H.objs.size≠s.heap.objs.size:=by omega
 have hdS:d≠s.heap.objs.size:=ZI hlt
 have hS3:=get?_update_seq (get?_update_seq hS (fun x=>x.push Value.none)) (fun x=>x.pop)
 generalize hU:(G.update s.heap.objs.size (Obj.mapSeq fun x=>x.push Value.none)).update s.heap.objs.size (Obj.mapSeq fun x=>x.pop)=U at hS3
 have keep:∀ b,b≠s.heap.objs.size->U.get? b=G.get? b:=fun b hb=>by rw[<-hU,Heap.get?_update_ne _ _ _ _ hb,Heap.get?_update_ne _ _ _ _ hb]
 have st0:U.IsKeyIter H.objs.size d 0 kvs.length ep/\U.DictAt (dI prog w) d kvs ep:=⟨⟨_,(keep _ hIS).trans hI,rfl,rfl⟩,hm2.at' fun o e=>(keep d hdS).trans e⟩
 show wpAny _ A.in1 (again _) _ _ { s with heap:=U }
 have hSf:s.heap.objs.size∉[H.objs.size,d]:=fun h=>by
  simp only[j0,kr,or_false] at h
  rcases h with h|h
  ·exact hIS h.symm
  ·exact hdS h.symm
 refine ze ⟨plainId_quiet F.plain_extend_loop _,codeAny_extend_loopS (Walks.dictKeys (A:=A.in1) hh H.objs.size d (ZI (hHs▸Nat.lt_succ_of_lt hlt)) kvs ep).toS hn s.heap.objs.size hSf _ kvs.length 0 { s with heap:=U } #[] _ rfl (QP _) st0 hS3 (ItemsOf.nil _) fun s' acc' c' mv hS' hacc=>?_⟩
 show wpAny _ A (load s.heap.objs.size >>= _) _ _ s'
 refine zb (wpAny_load hS' (ze (hQ s' acc' (Q1 (zt hS')) (fun b ob e=>?_) mv.gens mv.drawn mv.os hacc)))
 have hb:=zt e
 refine mv.heap b ob (fun h=>?_) ((keep b (ZI hb)).trans ?_)
 ·simp only[j0,kr,or_false] at h
  rcases h with h|h
  ·exact ZI hb h
  ·rw[h,hHs] at hb
   exact absurd hb (Nat.not_lt.mpr (JJ _))
 ·rw[<-hG]
  refine zd _ ?_
  rw[<-hH]
  exact zd _ e
theorem G6:∀ (vs:List Value) (ys:LS_),vs.length=ys.length->(∀ (j:Nat) v,vs[j]?=some v->∃ y t,ys[j]?=some y/\v=.str y t)->StrsAre vs ys
 |[],[],_,_=>.nil
 |v::vs,y::ys,hl,h=>by
  obtain⟨y',t,e,rfl⟩:=h 0 v rfl
  cases e
  exact .cons y t (G6 vs ys (by simpa using hl) fun j v hv=>h (j+1) v (by simpa using hv))
theorem UJ {kvs:List (Key×Value)} {ys:LS_} (hk:kvs.map (·.1)=ys.map Sum.inr) {acc:Array Value} (h:ItemsOf (fun i v=>∃ k x,kvs[i]?=some (k,x)/\(dI prog w).is k v=true) acc kvs.length):StrsAre acc.toList ys:=by
 have hl:kvs.length=ys.length:=by have:=congrArg List.length hk;simpa using this
 refine G6 _ _ (by rw[qc,h.1,hl]) fun j v hv=>?_
 obtain⟨k,x,e,hi⟩:=h.2 j v (by simpa using hv)
 have e1:(kvs.map (·.1))[j]?=some k:=by rw[ZZ,e];rfl
 rw[hk,ZZ] at e1
 cases hy:ys[j]? with
 |none=>rw[hy] at e1;cases e1
 |some y=>
  rw[hy] at e1
  cases e1
  have hi':uw (Sum.inr y) v=true:=hi
  rcases cu hi' with⟨i,t,e2,e3⟩|⟨z,t,e2,e3⟩
  ·cases e2
  ·cases e2
   exact⟨_,t,rfl,e3⟩
theorem Rq {d:Addr} {kvs:List (Key×Value)} {ep:Nat} {ys:LS_} {Q:VP_} (hh:A.handled=none) (hd:(d==sysModules)=false) (hm:s.heap.DictAt (dI prog w) d kvs ep) (hk:kvs.map (·.1)=ys.map Sum.inr) (h64:ys.length < 64)
  (h:∀ (l:Addr) (h':Heap) (tk:Nat) (out:Array Value) (zs:LS_) (n:Nat),s.heap.objs.size<=l->(∀ b o,s.heap.get? b=some o->h'.get? b=some o)->h'.get? l=some (seqObj "list" out n)->StrsAre out.toList zs->zs.Perm ys->sortedS zs=true->Q (.ref l) { s with heap:=h',toks:=tk }) :
  wpAny (model prog w) A (call (.builtin "sorted") [.ref d]) Q E s:=by
 have hl:kvs.length=ys.length:=by have:=congrArg List.length hk;simpa using this
 refine Calls.call_function_entry kind_sorted plain_sorted entry_sorted (args_sorted1 _) ?_;unfold Builtin.«sorted»
 refine zb (m:=checkCount "sorted" 1 1 _) (ze (zb (Pk (by exact hh) hd hm (zz (Q1 (hl▸h64)) (by decide)) fun s' acc hle ext hg hdr hos hit=>?_)))
 have hS:=UJ hk hit
 have hlen:acc.toList.length < 64:=by rw[qc,hit.1,hl];exact h64
 refine zb (wpAny_newList ?_)
 have hoL:(s'.heap.push (seqObj "list" acc.toList.toArray 0)).get? s'.heap.objs.size=some (seqObj "list" acc.toList.toArray 0):=zS _ rfl
 refine zb (qi (Kt slot_list_sort ⟨_,hoL,rfl⟩ entry_list_sort (list_sort_treeK strKind_oneLt hoL hS.keysOf (fun v₁ v₂ rest e=>keyKind_strs (by rw[<-e];exact hS)) hlen fun st' a1 a2=>⟨_,rfl,ze ⟨_,rfl,?_⟩⟩) (args_list_sort _)))
 obtain⟨zs,z1,z2,z3⟩:=sorted_out_str hS a1 a2
 obtain⟨n,en⟩:=sortedHeap_at (out:=(arrOf st').map (·.2)) hoL
 have key:=h s'.heap.objs.size _ s'.toks _ zs n hle (fun b o e=>by
  have e1:=ext b o e
  have hb:=zt e1
  rw[sortedHeap_old (ZI hb) (by rw[JO];exact Nat.lt_succ_of_lt hb)]
  exact zd _ e1) en z1 z2 z3
 rw[<-hg,<-hdr,<-hos] at key
 exact key
end
section
variable {X:Cx}
def X8:List (Key×Dt)->Option LS_
 |[]=>some []
 |(.inr x,_)::r=>(X8 r).bind fun ys=>some (x::ys)
 |(.inl _,_)::_=>none
theorem Ar:∀ {kvs:List (Key×Dt)} {ys:LS_},X8 kvs=some ys->kvs.map (·.1)=ys.map Sum.inr
 |[],_,e=>by cases e;rfl
 |(.inr x,_)::r,_,e=>by
  obtain⟨ys,e1,e⟩:=bind_some e
  cases e
  rw[zg,zg,Ar e1]
 |(.inl _,_)::_,_,e=>by cases e
theorem acW {kvs:List (Key×Dt)} {ys:LS_} (e:X8 kvs=some ys) (h:∀ p∈kvs,okK p.1) (y:Str) (hy:y∈ys):y.length<=sizeLine:=by
 have:(Sum.inr y:Key)∈kvs.map (·.1):=by rw[Ar e];exact List.mem_map.mpr ⟨y,hy,rfl⟩
 obtain⟨p,hp,ep⟩:=List.mem_map.mp this
 have:=h p hp
 rw[ep] at this;exact this
def JQ:List Bx->Option Bx
 |[.n kvs]=>(X8 kvs).bind fun ys=>if kvs.length < 64 then some (.o ((uE ys).map Dt.str)) else none
 |_=>none
theorem Wg:∀ {ks:List (Key×V)} {vs:List (Key×Value)},KV ks vs->vs.map (·.1)=ks.map (·.1)
 |_,_,.nil=>rfl
 |_,_,.cons h t=>by rw[zg,zg,Wg t,h.1]
theorem UL (hc:X.calm=true):Dj X (.builtin "sorted") JQ:=by
 intro pins s σ H xs us Q I r h
 obtain⟨bs,c,rb,e,q⟩:=h
 unfold JQ at e
 split at e
 ·rename_i kvs
  obtain⟨ys,ey,e⟩:=bind_some e
  have hlen:kvs.length=ys.length:=by have:=congrArg List.length (Ar ey);simpa using this
  split at e
  ·rename_i h64
   cases e
   obtain⟨v,rfl,r1⟩:=rep1 rb
   obtain⟨a,ks,rfl,rd,rm⟩:=r1
   obtain⟨u,rfl,ru⟩:=vals1 r
   cases ru
   obtain⟨_,hsys,vs,kv,o,es,ep,dd⟩:=Bp I.hok rd
   have hk:vs.map (·.1)=ys.map Sum.inr:=by rw[Wg kv,rm.1];exact Ar ey
   refine Rq (I.ok.hd hc) hsys ⟨o,es,dd⟩ hk (by omega) fun l h' tk out zs n hle ext en z1 z2 z3=>?_
   have ez:=Z2 z2 z3
   subst ez
   have hy:∀ y∈uE ys,y.length<=sizeLine:=fun y hy=>acW ey rm.2.2 y ((oX _).mem_iff.mp hy)
   have hl:=I.hok.fresh hle
   refine⟨.ref l,_,I.laid (t':=tk) (a:=l) (o:=.lst ((uE ys).map V.str)) ext hle ?_,rfl,q _ _ (cF hl) (fun a ea=>by cases ea;exact hl) ⟨l,_,rfl,bC,Ds hy⟩⟩
   refine⟨by rw[zh,(oX _).length_eq,<-hlen];exact zz (Q1 h64) (by decide),out.toList,n,Gb z1,?_⟩
   rw[en]
  ·cases e
 ·cases e
end
theorem bF.aej {K:FG_} {H0 H:Hp} {σ:L2.St} {ρ:Ev} (E:bF K H0 H σ ρ) (i:Nat):bF K H0 H σ (ρ.set i none):=by
 have back:∀ (j:Nat) (b:Bx),(ρ.set i none)[j]?=some (some b)->ρ[j]?=some (some b):=fun j b e=>by
  rw[ki] at e
  split at e
  ·split at e<;>cases e
  ·exact e
 refine⟨by rw[qf];exact E.len,fun j b e=>E.val j b (back j b e),fun j k c a b e1 ec e2 e3 e4 e5=>E.own j k c a b (back _ _ e1) ec e2 (back _ _ e3) e4 e5,E.base,fun j c a e1 ec e2=>E.new j c a (back _ _ e1) ec e2⟩
def kill (is:List Nat) (ρ:Ev):Ev:=is.foldl (fun ρ i=>ρ.set i none) ρ
theorem bF.kill {K:FG_} {H0 H:Hp} {σ:L2.St}:∀ (is:List Nat) {ρ:Ev},bF K H0 H σ ρ->bF K H0 H σ (P1.kill is ρ)
 |[],_,E=>E
 |i::is,_,E=>bF.kill is (E.aej i)
def qL (is:List Nat):Ev->Option Out:=fun ρ=>some (.nx (kill is ρ))
theorem Z6 {X:Cx} {ss:List Stmt} {g:Ev->Option Out} (is:List Nat) (h:Y0 X ss g):Y0 X ss (aM g (qL is)):=OD h fun D σ H q=>by
 obtain⟨H0,ρ,r,E,e,q⟩:=q
 obtain⟨r1,e1,e⟩:=bind_some e
 refine⟨H0,ρ,r1,E,e1,?_⟩
 cases r1 with
 |nx ρ1=>cases e;exact fun σ' H' E'=>q σ' H' (E'.kill is)
 |rt b=>cases e;exact q
 |bk b=>cases e;exact q
 |ct b=>cases e;exact q
theorem jD {X:Cx} {ss:List Stmt} {g:Ev->Option Out} (is:List Nat) (h:V6 X ss g):V6 X ss (aM g (qL is)):=⟨Z6 is h.run⟩
end P1
end
section
namespace S1
open PySem PySem.Spec PyProof.Rows
section
variable (rk:Value->Nat)
def at_ (xs:Array Keyed) (i:Nat):Nat:=match xs[i]? with
 |some p=>rk p.1
 |none=>0
def Up (xs:Array Keyed) (k:Nat):Prop:=∀ i j,i<=j->j < k->at_ rk xs i<=at_ rk xs j
def Down (xs:Array Keyed) (k:Nat):Prop:=∀ i j,i<=j->j < k->at_ rk xs j<=at_ rk xs i
structure Bs (kd:SortKind) (b:Array Keyed) (st:SortSt):Prop where
 pm:(arrOf st).Perm b
 kd:kindOf st=kd
 fl:failedOf st=none
 pd:pendingOf st=#[]
variable {rk} {kd:SortKind} {b:Array Keyed}
theorem Bs.sz {st:SortSt} (h:Bs kd b st):(arrOf st).size=b.size:=h.pm.size_eq
theorem Bs.arr {st:SortSt} {xs:Array Keyed} (h:Bs kd b st) (hp:xs.Perm (arrOf st)):Bs kd b (PyProof.Rows.setArr st xs):=⟨hp.trans h.pm,h.kd,h.fl,h.pd⟩
theorem Rr {xs ys:Array Keyed} {i j:Nat} (h:xs[i]?=ys[j]?):at_ rk xs i=at_ rk ys j:=by unfold at_;rw[h]
theorem Z7 {xs:Array Keyed} {i j:Nat} (hj:j<=xs.size) (k:Nat):at_ rk (mirror xs i j ((j - i) / 2)) k=if i<=k/\k < j then at_ rk xs (i+j - 1 - k) else at_ rk xs k:=by
 have e:=getElem?_mirror_all (i:=i) hj k
 by_cases q:i<=k/\k < j
 ·simp only[zk q] at e ⊢;exact Rr e
 ·simp only[zI q] at e ⊢;exact Rr e
end
section
variable {prog:Program} {w:World} {A:Around} {E:VP_} {s:Shared} {b:Array Keyed} {kd:SortKind} {rk:Value->Nat}
def Cmp (prog:Program) (w:World) (A:Around) (s:Shared) (kd:SortKind) (rk:Value->Nat) (b:Array Keyed):Prop:=
 ∀ (E:VP_) (p q:Keyed) (Q:Bool->Shared->Prop),p∈b.toList->q∈b.toList->Q (decide (rk p.1 < rk q.1)) s->wpAny (model prog w) A (keyLt' kd p.1 q.1) Q E s
theorem ahO {st:SortSt} {i j:Nat} {Q:Option Bool->SortSt->Prop} (hC:Cmp prog w A s kd rk b) (B:Bs kd b st) (hi:i < b.size) (hj:j < b.size)
  (h:Q (some (decide (at_ rk (arrOf st) i < at_ rk (arrOf st) j))) st):wpS (model prog w) A E s (ltAt' i j) Q st:=by
 have get:∀ k,k < b.size->∃ p,(arrOf st)[k]?=some p/\p∈b.toList:=fun k hk=>by
  have hk':k < (arrOf st).size:=by rw[B.sz];exact hk
  exact⟨(arrOf st)[k],getElem?_pos _ k hk',(Array.perm_iff_toList_perm.mp B.pm).mem_iff.mp (by simp)⟩
 obtain⟨p,e1,m1⟩:=get i hi
 obtain⟨q,e2,m2⟩:=get j hj
 have h:Q (some (decide (rk p.1 < rk q.1))) st:=by unfold at_ at h;rw[e1,e2] at h;exact h
 rw[ltAt'_eq]
 refine wpS_bind (wpS_get ?_)
 show wpS _ _ _ _ (elem' (arrOf st) i >>= fun x=>elem' (arrOf st) j >>= fun y=>lt' x y) Q st
 rw[elem'_eq,elem'_eq,e1,e2]
 refine wpS_bind (wpS_pure ?_)
 refine wpS_bind (wpS_pure ?_)
 rw[lt'_eq]
 refine wpS_bind (wpS_get ?_)
 rw[B.kd]
 exact wpS_bind (wpS_lift (wpAny_attempt (hC _ p q _ m1 m2 ⟨rfl,wpS_pure h⟩)))
theorem asc {st:SortSt} {a n:Nat} {Q:AscSt->SortSt->Prop} (hC:Cmp prog w A s kd rk b) (hn:n<=b.size) (ha:1<=a) (han:a<=n) (B:Bs kd b st) (hs:Up rk (arrOf st) a)
  (h:∀ m,a<=m->m<=n->Up rk (arrOf st) m->(m=n\/at_ rk (arrOf st) m < at_ rk (arrOf st) (m - 1))->Q (none,m) st):wpS (model prog w) A E s (ascLoop a n) Q st:=by
 unfold ascLoop
 refine wpS_forRange (I:=fun x c t=>t=st/\c=(none,x)/\Up rk (arrOf st) x) ?_ ?_ ⟨rfl,rfl,hs⟩
 ·rintro x c t hax hxn ⟨rfl,rfl,up⟩
  refine wpS_bind (ahO hC B (by omega) (by omega) ?_)
  by_cases q:at_ rk (arrOf t) x < at_ rk (arrOf t) (x - 1)
  ·simp only[q,decide_true,QR]
   exact wpS_pure (h x hax (by omega) up (.inr q))
  ·simp only[q,decide_false,ZH,qA]
   refine wpS_pure ⟨rfl,rfl,fun i j hij hj=>?_⟩
   by_cases hx:j < x
   ·exact up i j hij hx
   ·have e:j=x:=by omega
    subst e
    by_cases hi:i=j
    ·rw[hi];exact zl _
    ·have:=up i (j - 1) (by omega) (by omega);omega
 ·rintro c t ⟨rfl,rfl,up⟩
  rw[show max a n=n by omega] at up ⊢
  exact h n han (zl _) up (.inl rfl)
theorem t3 {st:SortSt} {m n:Nat} {Q:Option Nat->SortSt->Prop} (hC:Cmp prog w A s kd rk b) (hn:n<=b.size) (h1:1<=m) (hmn:m<=n) (B:Bs kd b st) (hs:Down rk (arrOf st) m)
  (h:∀ k t,Bs kd b t->1<=k->k<=n->Up rk (arrOf t) k->Q (some k) t):wpS (model prog w) A E s (tail3 m n) Q st:=by
 unfold tail3
 have hz:m<=(arrOf st).size:=by rw[B.sz];omega
 refine wpS_bind (wpS_reverse ?_)
 have B':Bs kd b (PyProof.Rows.setArr st (mirror (arrOf st) 0 m ((m - 0) / 2))):=B.arr (mirror_perm _ _ _ _)
 refine wpS_bind (asc hC hn h1 hmn B' (fun i j hij hj=>?_) fun k k1 k2 up _=>wpS_pure (h k _ B' (by omega) k2 up))
 show at_ rk (mirror (arrOf st) 0 m ((m - 0) / 2)) i<=at_ rk (mirror (arrOf st) 0 m ((m - 0) / 2)) j
 rw[Z7 hz,Z7 hz,zk ⟨by omega,by omega⟩,zk ⟨by omega,by omega⟩]
 exact hs _ _ (by omega) (by omega)
def Dn (kd:SortKind) (rk:Value->Nat) (b:Array Keyed) (st:SortSt):Prop:=(arrOf st).Perm b/\failedOf st=none/\pendingOf st=#[(0,b.size,0)]/\Up rk (arrOf st) b.size
theorem Bs.dn {st:SortSt} (B:Bs kd b st) (up:Up rk (arrOf st) b.size):Dn kd rk b (setPending st ((pendingOf st).push (0,b.size,0))):=⟨B.pm,B.fl,(by show (pendingOf st).push _=_;rw[B.pd];rfl),up⟩
end
end S1
end
section
namespace S1
open PySem PySem.Spec PyProof.Rows L2
def ltK:Key->Key->Bool
 |.inl a,.inl b=>decide (a < b)
 |.inr x,.inr y=>decide (x.cps.toList < y.cps.toList)
 |.inl _,.inr _=>true
 |.inr _,.inl _=>false
def Wh:Key->Key->Bool
 |.inl _,.inl _=>true
 |.inr _,.inr _=>true
 |_,_=>false
def ahP:List Key->List Key->Bool
 |[],[]=>false
 |[],_::_=>true
 |_::_,[]=>false
 |x::xs,y::ys=>if x=y then ahP xs ys else ltK x y
def Shp:List Key->List Key->Prop
 |x::xs,y::ys=>Wh x y=true/\Shp xs ys
 |_,_=>True
section
variable {prog:Program} {w:World} {A:Around} {E:VP_} {s:Shared}
theorem key_eq {x y:Key} {p q:Value} {Q:Bool->Shared->Prop} (hp:uw x p=true) (hq:uw y q=true) (h:Q (decide (x=y)) s):wpAny (model prog w) A (eqBool p q) Q E s:=
 (dI prog w).eqBool (a:=x) (b:=y) hp hq h
theorem afI {fb:Bool} {x y:Key} {p q:Value} {Q:Bool->Shared->Prop} (hs:Wh x y=true) (hp:uw x p=true) (hq:uw y q=true) (h:Q (ltK x y) s):wpAny (model prog w) A (oneLt' fb p q) Q E s:=by
 rcases cu hp with⟨i,t,rfl,rfl⟩|⟨z,t,rfl,rfl⟩
 ·rcases cu hq with⟨j,u,rfl,rfl⟩|⟨z,u,rfl,rfl⟩
  ·cases fb with
   |true=>exact oneLt_int h
   |false=>
    rw[oneLt'_eq]
    simp only[ZH,qA]
    refine zb (show wpAny _ _ (compareOp .Lt (.int i t) (.int j u)) _ _ _ from lt_int ?_)
    exact QE h
  ·cases hs
 ·rcases cu hq with⟨j,u,rfl,rfl⟩|⟨z',u,rfl,rfl⟩
  ·cases hs
  ·cases fb with
   |true=>exact oneLt_str h
   |false=>
    rw[oneLt'_eq]
    simp only[ZH,qA]
    refine zb (show wpAny _ _ (compareOp .Lt (.str z t) (.str z' u)) _ _ _ from PySem.P.lt_str ?_)
    exact QE h
def Ks (ks:List Key) (its:List Value):Prop:=Paired (fun k v=>uw k v=true) ks its
def dif:List Key->List Key->Option Bool
 |x::xs,y::ys=>if x=y then dif xs ys else some (ltK x y)
 |_,_=>none
def turn (fb:Bool):(Value×Value)×Nat->Option Bool×Unit->Sem (ForInStep (Option Bool×Unit)):=fun x _=>match x with
 |((p,q),i)=>do
  let e <-eqBool p q
  if (!e)=true then do
    let r <-oneLt' (fb&&i==0) p q
    pure (ForInStep.done (some r,()))
   else pure (ForInStep.yield (none,()))
theorem walk (fb:Bool):∀ (ks ls:List Key) (its jts:List Value) (i:Nat) (R:Option Bool×Unit->Shared->Prop),Ks ks its->Ks ls jts->Shp ks ls->R (dif ks ls,()) s->wpAny (model prog w) A (forIn ((its.zip jts).zipIdx i) ((none,()):Option Bool×Unit) (turn fb)) R E s
 |[],_,_,_,_,R,.nil,_,_,h=>ze h
 |_::_,[],_::_,_,_,R,_,.nil,_,h=>ze h
 |x::xs,y::ys,p::its,q::jts,i,R,.cons hp hk,.cons hq hl,hs,h=>by
  rw[List.zip_cons_cons,List.zipIdx_cons,List.forIn_cons]
  refine zb ?_
  show wpAny _ _ (eqBool p q >>= _) _ _ _
  refine zb (key_eq hp hq ?_)
  by_cases e:x=y
  ·simp only[e,decide_true,Bool.not_true,ZH,qA]
   refine ze (walk fb xs ys its jts (i+1) R hk hl hs.2 ?_)
   simp only[dif,zk e] at h
   exact h
  ·simp only[e,decide_false,Bool.not_false,QR]
   refine zb (afI hs.1 hp hq (ze (ze ?_)))
   simp only[dif,zI e] at h
   exact h
end
def akl (xs ys:List Key):Bool:=!ahP ys xs
def Yb (h:Heap) (ks:List Key) (v:Value):Prop:=∃ (a:Addr) (o:Obj) (its:List Value) (n:Nat),v=.ref a/\h.get? a=some o/\o.cls=.type "tuple" ∧ o.data=.seq its.toArray n/\Ks ks its
theorem Yb.keep {h h':Heap} {ks:List Key} {v:Value} (q:Yb h ks v) (k:∀ c o,h.get? c=some o->h'.get? c=some o):Yb h' ks v:=by
 obtain⟨a,o,its,n,e,g,c,d,p⟩:=q
 exact⟨a,o,its,n,e,k _ _ g,c,d,p⟩
theorem acX {k l:Key} {v:Value} (h:uw k v=true) (h':uw l v=true):k=l:=by
 rcases cu h with⟨i,t,rfl,rfl⟩|⟨x,t,rfl,rfl⟩
 ·rcases cu h' with⟨j,u,rfl,e⟩|⟨y,u,rfl,e⟩
  ·cases e;rfl
  ·cases e
 ·rcases cu h' with⟨j,u,rfl,e⟩|⟨y,u,rfl,e⟩
  ·cases e
  ·cases e;rfl
theorem Ks.inj:∀ {ks ls:List Key} {its:List Value},Ks ks its->Ks ls its->ks=ls
 |_,_,[],h,h'=>by cases h;cases h';rfl
 |_,_,v::its,h,h'=>by
  cases h with
  |cons p t=>cases h' with
   |cons p' t'=>rw[acX p p',Ks.inj t t']
theorem Yb.inj {h:Heap} {ks ls:List Key} {v:Value} (q:Yb h ks v) (q':Yb h ls v):ks=ls:=by
 obtain⟨a,o,its,n,rfl,g,c,d,p⟩:=q
 obtain⟨a',o',its',n',e,g',c',d',p'⟩:=q'
 cases e
 rw[g] at g'
 cases g'
 rw[d] at d'
 injection d' with e1 e2
 have e3:its=its':=by simpa using congrArg Array.toList e1
 subst e3
 exact p.inj p'
section
variable {prog:Program} {w:World} {A:Around} {E:VP_} {s:Shared}
end
end S1
end
section
namespace P1
open PySem PySem.Spec PyProof.Rows L2 S1
section
variable {prog:Program} {w:World} {A:Around} {E:VP_} {s:Shared}
end
def ahQ:Dt->Option Key
 |.int i=>some (.inl i)
 |.str x=>some (.inr x)
 |_=>none
def Rt:List Dt->Option (List Key)
 |[]=>some []
 |d::ds=>(ahQ d).bind fun k=>(Rt ds).bind fun ks=>some (k::ks)
def Wi:Dt->Option (List Key)
 |.tup ds=>Rt ds
 |_=>none
def dK:Key->Dt
 |.inl i=>.int i
 |.inr x=>.str x
section
variable {X:Cx}
def acY (k l:List Key):Bool:=((k.zip l).all fun p=>Wh p.1 p.2)
end
end P1
end
section
namespace S6
open PySem PySem.Spec PyProof.Rows
structure Wk (w:World) (h:Heap) (a:Addr) (es:Array (Int×Value)) (ep:Nat) (t:SetTable):Prop where
 at_:∃ o,h.get? a=some o/\o.cls=.type "set" ∧ o.data=.set es ep t
 fit:t.fits es.size=true
 led:w.params.followText "set-order" = false->t.led=true
 non:1 < es.size->t.plain=false
theorem Wk.keep {w:World} {h h':Heap} {a:Addr} {es:Array (Int×Value)} {ep:Nat} {t:SetTable} (x:Wk w h a es ep t) (k:∀ o,h.get? a=some o->h'.get? a=some o):Wk w h' a es ep t:=
 ⟨let ⟨o,e,r⟩:=x.at_;⟨o,k o e,r⟩,x.fit,x.led,x.non⟩
def It (h:Heap) (it a:Addr) (first:Value) (i n ep:Nat):Prop:=∃ o,h.get? it=some o/\o.cls=.type "set_iterator" ∧ o.data=.fields #[first,.int (i:Int) 0,.ref a,.int (n:Int) 0,.int (ep:Int) 0]
theorem It.keep {h h':Heap} {it a:Addr} {f:Value} {i n ep:Nat} (x:It h it a f i n ep) (k:∀ o,h.get? it=some o->h'.get? it=some o):It h' it a f i n ep:=
 let ⟨o,e,r⟩:=x;⟨o,k o e,r⟩
theorem It.ty {s:Shared} {it a:Addr} {f:Value} {i n ep:Nat} (x:It s.heap it a f i n ep):s.TypeIs (.ref it) "set_iterator" := let ⟨o,e,c,_⟩:=x;⟨o,e,c⟩
section
variable {prog:Program} {w:World} {A:Around} {E:VP_} {s:Shared} {it a:Addr} {i ep:Nat} {es:Array (Int×Value)} {t:SetTable}
theorem It.put {h:Heap} {f:Value} {n:Nat} (hit:It h it a f i n ep) (x:Value):It (h.update it (Obj.mapFields (·.setIfInBounds 0 x))) it a x i n ep:=by
 obtain⟨o,ho,hc,hd⟩:=hit
 exact⟨_,qv _ ho (kn (QQ hd _)),(Obj.cls_mapFields ..).trans hc,by rw[QQ hd];simp⟩
theorem It.step {h:Heap} {f:Value} {n:Nat} (hit:It h it a f i n ep):It (h.update it (Obj.mapFields (·.setIfInBounds 1 (rawInt ((i:Int)+1))))) it a f (i+1) n ep:=by
 obtain⟨o,ho,hc,hd⟩:=hit
 exact⟨_,qv _ ho (kn (QQ hd _)),(Obj.cls_mapFields ..).trans hc,by rw[QQ hd];simp[rawInt]⟩
theorem It.field {f:Value} {n k:Nat} {x:Value} {A:Around} {Q:Unit->Shared->Prop} {E:VP_} (hit:It s.heap it a f i n ep) (hk:k < 5) (h:Q () { s with heap:=s.heap.update it (Obj.mapFields (·.setIfInBounds k x)) }):wpAny (model prog w) A (setField (.ref it) k x) Q E s:=by
 obtain⟨o,ho,hc,hd⟩:=hit
 exact wpAny_setField ho hd (by simpa using hk) h
theorem Yc {Q:Bool->Shared->Prop} (h:Q (w.params.followText "set-order") s):wpAny (model prog w) A setsByText Q E s:=by
 unfold setsByText
 exact zb (wpAny_askSetting (ze h))
end
end S6
end
section
namespace S6
open PySem PySem.Spec PyProof.Rows P1
section
variable {prog:Program} {w:World} {A:Around} {E:VP_} {s:Shared} {it a:Addr} {i ep:Nat} {es:Array (Int×Value)} {t:SetTable}
end
theorem Pn {α:Type} [DecidableEq α]:∀ {xs ys:List α},xs.Nodup->ys.Nodup->(∀ z,z∈xs↔z∈ys)->xs.Perm ys
 |[],ys,_,_,h=>by
  have:ys=[]:=List.eq_nil_iff_forall_not_mem.mpr fun z hz=>by simpa using (h z).mpr hz
  subst this;exact .refl _
 |x::xs,ys,hx,hy,h=>by
  have hm:x∈ys:=(h x).mp (zi ..)
  have hc:=List.nodup_cons.mp hx
  refine ((Pn hc.2 (hy.erase x) fun z=>?_).cons x).trans (List.perm_cons_erase hm).symm
  rw[hy.mem_erase_iff]
  constructor
  ·intro hz
   exact⟨fun e=>hc.1 (e▸hz),(h z).mp (zo _ hz)⟩
  ·intro ⟨hn,hz⟩
   rcases List.mem_cons.mp ((h z).mpr hz) with e|e
   ·exact absurd e hn
   ·exact e
theorem G7 {α β:Type} {R:α->β->Prop}:∀ {l l':List β},l'.Perm l->∀ {ys:List α},Paired R ys l->∃ ys',ys'.Perm ys/\Paired R ys' l':=by
 intro l l' hp
 replace hp:=hp.symm
 induction hp with
 |nil=>intro ys h;exact⟨ys,.refl _,h⟩
 |cons x _ ih=>intro ys h;cases h with|cons r t=>obtain⟨zs,z1,z2⟩:=ih t;exact⟨_::zs,z1.cons _,.cons r z2⟩
 |swap x y l=>intro ys h;cases h with|cons r t=>cases t with|cons r' t'=>exact⟨_,List.Perm.swap _ _ _,.cons r' (.cons r t')⟩
 |trans _ _ ih1 ih2=>intro ys h;obtain⟨zs,z1,z2⟩:=ih1 h;obtain⟨us,u1,u2⟩:=ih2 z2;exact⟨us,u1.trans z1,u2⟩
theorem UW {α β:Type} {R:α->β->Prop} {xs:List α} {us:List β} {ys:List α} {vs:List β} (h:Paired R xs us) (k:Paired R ys vs):Paired R (xs++ys) (us++vs):=by
 induction h with
 |nil=>exact k
 |cons r _ ih=>exact .cons r ih
theorem acZ (t:SetTable) (es:Array (Int×Value)) (h:Int) (x:Value):(layNew t es h x).2.1.led=t.led:=by
 unfold layNew
 split
 ·dsimp only[SetTable.put,SetTable.orStandIn]
  generalize SetTable.fits _ _=b
  cases b<;>rfl
 ·rfl
theorem Yd (t:SetTable) (es:Array (Int×Value)) (n:Nat):(relayAll t es n).2.1.led=t.led/\(t.plain=false->(relayAll t es n).2.1.plain=false):=by
 unfold relayAll
 split
 ·rename_i t' order e
  have ht:t'.led=t.led/\t'.plain=t.plain:=by
   unfold SetTable.relaid SetTable.laid at e
   cases hl:SetTable.layClean (SetTable.sizeAbove n - 1) (es.map (·.1)) with
   |none=>rw[hl] at e;cases e
   |some ow=>rw[hl] at e;cases e;exact⟨rfl,rfl⟩
  dsimp only
  generalize (coversAll order es.size&&_)=b
  cases b
  ·exact⟨rfl,fun _=>rfl⟩
  ·exact⟨ht.1,fun hp=>ht.2.trans hp⟩
 ·exact⟨rfl,fun _=>rfl⟩
section
variable {prog:Program} {w:World} {A:Around} {E:VP_} {s:Shared} {a:Addr}
def Z8 (prog:Program) (w:World) (y:Str) (e:Int×Value):Prop:=∃ tk,e=((strKind prog w).hash y,.str y tk)
structure Z9 (prog:Program) (w:World) (ys:LS_) (es:Array (Int×Value)) (t:SetTable):Prop where
 rel:Paired (Z8 prog w) ys es.toList
 nd:ys.Nodup
 fit:t.fits es.size=true
 led:w.params.followText "set-order" = false->t.led=true
 non:0 < es.size->t.plain=false
def Tx (prog:Program) (w:World) (h:Heap) (a:Addr) (ys:LS_):Prop:=∃ o es ep t,h.get? a=some o/\o.ExactSet/\o.data=.set es ep t/\Z9 prog w ys es t
theorem Tx.keep {h h':Heap} {ys:LS_} (x:Tx prog w h a ys) (k:∀ o,h.get? a=some o->h'.get? a=some o):Tx prog w h' a ys:=
 let ⟨o,es,ep,t,e,r⟩:=x;⟨o,es,ep,t,k o e,r⟩
theorem Z9.elems {ys:LS_} {es:Array (Int×Value)} {t:SetTable} (x:Z9 prog w ys es t):ElemsOf (strKind prog w) es.toList:=by
 have:∀ {ys:LS_} {l:List (Int×Value)},Paired (Z8 prog w) ys l->ElemsOf (strKind prog w) l:=by
  intro ys l h
  induction h with
  |nil=>intro e he;cases he
  |cons r _ ih=>
   intro e he
   rcases List.mem_cons.mp he with rfl|he
   ·obtain⟨tk,rfl⟩:=r
    exact⟨⟨_,strKind_is _ _ _ _,rfl⟩,rfl⟩
   ·exact ih e he
 exact this x.rel
theorem Z9.size {ys:LS_} {es:Array (Int×Value)} {t:SetTable} (x:Z9 prog w ys es t):es.size=ys.length:=by rw[x.rel.length];simp
theorem Wj {y z:Str} {e:Int×Value} (h:Z8 prog w y e):(strKind prog w).is z e.2=true↔z=y:=by
 obtain⟨tk,rfl⟩:=h
 constructor
 ·intro q;exact (strKind prog w).inj _ _ _ q (strKind_is _ _ _ _)
 ·rintro rfl;exact strKind_is _ _ _ _
theorem JR {y:Str}:∀ {ys:LS_} {l:List (Int×Value)},Paired (Z8 prog w) ys l->((l.findIdx? fun e=>(strKind prog w).is y e.2)=none↔y∉ys)
 |_,_,.nil=>by simp
 |z::ys,e::l,.cons r t=>by
  rw[List.findIdx?_cons]
  by_cases q:(strKind prog w).is y e.2=true
  ·rw[zk q,(Wj r).mp q];simp
  ·rw[zI q]
   have:y≠z:=fun e'=>q ((Wj r).mpr e')
   rw[Option.map_eq_none_iff,JR t]
   simp[this]
theorem aac {ys:LS_} {y:Str} {tk:Nat} {Q:Bool->Shared->Prop} (hS:Tx prog w s.heap a ys) (hroom:ys.length+1 < scanBound)
  (h:∀ b h' ys',Heap.SameBut a s.heap h'->Tx prog w h' a ys'->(∀ z,z∈ys'↔z∈ys\/z=y)->ys'.length<=ys.length+1->Q b { s with heap:=h' }):wpAny (model prog w) A (setAddHashed a (.str y tk) ((strKind prog w).hash y)) Q E s:=by
 obtain⟨o,es,ep,t,ho,hex,hd,x⟩:=id hS
 have hsz:=x.size
 have hb1:es.size+1 < scanBound:=by rw[hsz];exact hroom
 have hel:=x.elems
 have hkey:=strKind_is prog w y tk
 unfold setAddHashed setAddHashedIn
 refine qi (zb (wpAny_setState_of ho hd x.fit ?_))
 dsimp only
 rw[byScan_of (knd:=strKind prog w) (x:=.str y tk) rfl (by omega) hel]
 simp only[↓reduceIte]
 unfold setAddByScan
 refine zb (zb (ko (zb (wpAny_setScan_of hkey ho hd x.fit hel ?_))))
 cases hr:es.toList.findIdx? (fun e=>(strKind prog w).is y e.2) with
 |some j=>
  dsimp only
  have hm:y∈ys:=by
   by_cases q:y∈ys
   ·exact q
   ·rw[(JR x.rel).mpr q] at hr;cases hr
  refine ze (ze (h _ s.heap ys (Heap.SameBut.refl a s.heap) hS (fun z=>⟨.inl,fun q=>q.elim id fun e=>e▸hm⟩) (JJ _)))
 |none=>
  dsimp only
  have hm:y∉ys:=(JR x.rel).mp hr
  have gw:∀ (b:Bool) {s₁:Shared} {Q':Unit->Shared->Prop},Q' () s₁->wpAny (model prog w) A (match b with|true=>rule "set.scan.the-table-gave-way" | false=>pure ()) Q' E s₁:=
   fun b _ _ hq=>by cases b;exact ze hq;exact ko hq
  have hperm:=layNew_perm t es ((strKind prog w).hash y) (.str y tk)
  have hfits:=layNew_fits t es ((strKind prog w).hash y) (.str y tk)
  have ac0:=acZ t es ((strKind prog w).hash y) (.str y tk)
  generalize layNew t es ((strKind prog w).hash y) (.str y tk)=L at hperm hfits ac0 ⊢
  obtain⟨es1,t1,wasDummy,gave⟩:=L
  dsimp only at hperm hfits ac0 ⊢
  rw[Array.toList_push] at hperm
  refine zb (gw _ ?_)
  have hrel:Paired (Z8 prog w) (ys++[y]) (es.toList++[((strKind prog w).hash y,.str y tk)]):=UW x.rel (.cons ⟨tk,rfl⟩ .nil)
  obtain⟨ys1,p1,r1⟩:=G7 hperm hrel
  have nd1:ys1.Nodup:=p1.nodup_iff.mpr (List.nodup_append.mpr ⟨x.nd,by simp,fun u hu v hv=>by simp at hv;subst hv;exact fun e=>hm (e▸hu)⟩)
  have m1:∀ z,z∈ys1↔z∈ys\/z=y:=fun z=>by rw[p1.mem_iff];simp
  have l1:ys1.length=ys.length+1:=by rw[p1.length_eq];simp
  have z1:es1.size=es.size+1:=by rw[<-qc,hperm.length_eq];simp
  have tail:∀ t2:SetTable,t2.fits es1.size=true->t2.led=t1.led->t2.plain=false->wpAny (model prog w) A (do
    storeSet a es1 t2
    if (!wasDummy&&t2.tooFull)=true then do
      (match (relayAll t2 es1 (SetTable.grown es1.size)).2.2 with|true=>rule "set.scan.the-table-gave-way" | false=>pure ())
      storeSet a (relayAll t2 es1 (SetTable.grown es1.size)).1 (relayAll t2 es1 (SetTable.grown es1.size)).2.1
      pure (some true)
     else pure (some true)) (fun r s'=>∃ b,r=some b/\Q b s') E s:=by
   intro t2 f2 l2 p2
   have up:∀ (hp:Heap) (ob:Obj) (e1 e2:Array (Int×Value)) (n1:Nat) (u1 u2:SetTable),hp.get? a=some ob->ob.data=.set e1 n1 u1->(hp.update a (Obj.putSet e2 u2)).get? a=some { ob with data:=.set e2 (n1+1) u2 }:=fun hp ob e1 e2 n1 u1 u2 g q=>by
    have:=qv (Obj.putSet e2 u2) g (by rw[putSet_of e2 u2 q];rfl)
    rw[putSet_of e2 u2 q] at this;exact this
   have g1:=up s.heap o es es1 ep t t2 ho hd
   refine zb (wpAny_storeSet_of ho hd ?_ (fits_of_scanBound (by omega)))
   split
   ·have hp:=relayAll_perm t2 es1 (SetTable.grown es1.size)
    have hf:=relayAll_fits t2 es1 (SetTable.grown es1.size)
    have hl:=Yd t2 es1 (SetTable.grown es1.size)
    generalize relayAll t2 es1 (SetTable.grown es1.size)=Rl at hp hf hl ⊢
    obtain⟨es2,t3,gave2⟩:=Rl
    dsimp only at hp hf hl ⊢
    obtain⟨ys2,p2',r2⟩:=G7 hp r1
    refine zb (gw _ ?_)
    refine zb (wpAny_storeSet_of g1 rfl ?_ (fits_of_scanBound (by rw[<-qc,hp.length_eq,qc];omega)))
    have g2:=up _ _ es1 es2 _ t2 t3 g1 rfl
    exact ze ⟨true,rfl,h _ _ ys2 ((kK ..).trans (kK ..)) ⟨_,es2,_,t3,g2,hex,rfl,r2,p2'.nodup_iff.mpr nd1,hf,fun q=>(hl.1.trans l2).trans (ac0.trans (x.led q)),fun _=>hl.2 p2⟩ (fun z=>by rw[p2'.mem_iff];exact m1 z) (by rw[p2'.length_eq];exact Nat.le_of_eq l1)⟩
   ·exact ze ⟨true,rfl,h _ _ ys1 (kK ..) ⟨_,es1,_,t2,g1,hex,rfl,r1,nd1,f2,fun q=>l2.trans (ac0.trans (x.led q)),fun _=>p2⟩ m1 (Nat.le_of_eq l1)⟩
  have fin:∀ {m:Sem (Option Bool)},wpAny (model prog w) A m (fun r s'=>∃ b,r=some b/\Q b s') E s->wpAny (model prog w) A m (fun r s'=>wpAny (model prog w) A (match r with|some added=>pure added|none=>setAddHashedIn a (.str y tk) ((strKind prog w).hash y) 99999) Q E s') E s:=fun hm=>ZA hm (fun r s' q=>by obtain⟨b,rfl,q⟩:=q;exact ze q) fun _ _ q=>q
  refine fin ?_
  split
  ·refine zb ?_
   rw[hashByValue_scannable 8 (x:=.str y tk) rfl]
   refine ze ?_
   exact tail { t1 with plain:=false } (SetTable.fits_plain_off hfits) rfl rfl
  ·rename_i hp
   refine zb (ze ?_)
   simp only[↓reduceIte]
   exact tail t1 hfits rfl (by simpa using hp)
end
def blank (w:World):Obj:={ cls:=.type "set", dict:=none,data:=.set #[] 0 (.fresh 0 0 (!w.params.followText "set-order")) }
section
variable {prog:Program} {w:World} {A:Around} {R:Result->Shared->Prop} {I:Addr} {fp wr:List Addr} {n:Nat} {P:Nat->Value->Prop} {St:Nat->Shared->Prop} {κ:Type} {C:Heap->List κ->Prop} {val:Nat->κ}
end
section
variable {prog:Program} {w:World} {A:Around} {E:VP_} {s:Shared}
end
end S6
end
section
namespace S6
open PySem
def akm (xs:Array Nat):Prop:=∀ i j,i < j->j < xs.size->xs.getD i 0 < xs.getD j 0
structure Tb (t:SetTable):Prop where
 mask:t.mask=7\/t.mask=31\/t.mask=127
 dum:t.dummies=#[]
 rise:akm t.place
 bd:∀ j:Nat,j∈t.place->j<=t.mask
 full:t.place.size<=t.mask
def akn (mask:Nat) (p:SetTable.Probe):SetTable.Probe:=
 if p.more > 0 then { p with j:=p.j+1,more:=p.more - 1 } else
 { p with j:=(SetTable.leap mask p.i p.perturb).1,more:=SetTable.runEnd mask (SetTable.leap mask p.i p.perturb).1 - (SetTable.leap mask p.i p.perturb).1,i:=(SetTable.leap mask p.i p.perturb).1,perturb:=(SetTable.leap mask p.i p.perturb).2 }
def at0 (mask i perturb:Nat):SetTable.Probe:={ j:=i,more:=SetTable.runEnd mask i - i,i,perturb,dummy:=none }
def wlk (mask:Nat) (h:Int):Nat->SetTable.Probe
 |0=>at0 mask (SetTable.bits h % (mask+1)) (SetTable.bits h)
 |n+1=>akn mask (wlk mask h n)
def nx (M i:Nat):Nat:=(i * 5+1) % M
structure Tok (t:SetTable) (es:Array (Int×Value)):Prop extends Tb t where
 size:t.place.size=es.size
 reach:∀ (i j:Nat) e,t.place[i]?=some j->es[i]?=some e->∃ n,n < 10 * SetTable.turns t.mask/\(wlk t.mask e.1 n).j=j/\∀ m,m < n->(wlk t.mask e.1 m).j∈t.place
end S6
end
section
namespace S6
open PySem PySem.Spec PyProof.Rows P1 L2
section
variable {prog:Program} {w:World} {A:Around} {E:VP_} {s:Shared} {a:Addr}
abbrev aad (prog:Program) (w:World) (ks:List Key):Int:=tupleKeyHash (dI prog w) ks
def TE (prog:Program) (w:World) (h:Heap) (z:List Key×Addr) (e:Int×Value):Prop:=e=(aad prog w z.1,.ref z.2)/\IsTupleKey (dI prog w) h z.1 z.2
structure afJ (prog:Program) (w:World) (h:Heap) (zs:List (List Key×Addr)) (es:Array (Int×Value)) (t:SetTable):Prop where
 rel:Paired (TE prog w h) zs es.toList
 nd:(zs.map (·.1)).Nodup
 tok:Tok t es
 load:es.size * 5 < t.mask * 3
 led:w.params.followText "set-order" = false->t.led=true
 non:0 < es.size->t.plain=false
def Tu (prog:Program) (w:World) (h:Heap) (a:Addr) (zs:List (List Key×Addr)):Prop:=∃ o es ep t,h.get? a=some o/\o.ExactSet/\o.data=.set es ep t/\afJ prog w h zs es t
theorem ac1 {h h':Heap} {ks:List Key} {b:Addr} (x:IsTupleKey (dI prog w) h ks b) (k:∀ o,h.get? b=some o->o.cls=.type "tuple" → h'.get? b=some o):IsTupleKey (dI prog w) h' ks b:=
 let ⟨o,its,n,e,c,r⟩:=x;⟨o,its,n,k o e c,c,r⟩
theorem aae {h h':Heap} {zs:List (List Key×Addr)} {l:List (Int×Value)} (k:∀ b o,h.get? b=some o->o.cls=.type "tuple" → h'.get? b=some o) (r:Paired (TE prog w h) zs l):Paired (TE prog w h') zs l:=by
 induction r with
 |nil=>exact .nil
 |cons q _ ih=>exact .cons ⟨q.1,ac1 q.2 fun o e c=>k _ o e c⟩ ih
theorem Tu.keep {h h':Heap} {zs:List (List Key×Addr)} (x:Tu prog w h a zs) (k:∀ b o,h.get? b=some o->h'.get? b=some o):Tu prog w h' a zs:=
 let ⟨o,es,ep,t,e,r,d,q⟩:=x;⟨o,es,ep,t,k a o e,r,d,⟨aae (fun b o e _=>k b o e) q.rel,q.nd,q.tok,q.load,q.led,q.non⟩⟩
theorem afJ.size {h:Heap} {zs:List (List Key×Addr)} {es:Array (Int×Value)} {t:SetTable} (x:afJ prog w h zs es t):es.size=zs.length:=by rw[x.rel.length];simp
theorem Tok.fits {t:SetTable} {es:Array (Int×Value)} (h:Tok t es):t.fits es.size=true:=by
 unfold SetTable.fits SetTable.fill
 have h1:=h.full
 have h2:=h.size
 rw[h.dum]
 simp[h2]
 omega
end
end S6
end
section
namespace S1
open PySem PySem.Spec PyProof.Rows L2
section
variable {prog:Program} {w:World} {A:Around} {E:VP_} {s:Shared}
end
end S1
end
section
namespace P1
open PySem PySem.Spec PyProof.Rows L2 S6
def zf:LS_->LS_
 |[]=>[]
 |y::ys=>if y∈ys then zf ys else y::zf ys
theorem zj:∀ {ys:LS_} {z:Str},z∈zf ys↔z∈ys
 |[],z=>by simp[zf]
 |y::ys,z=>by
  unfold zf
  split
  ·rename_i h
   rw[zj,j0]
   exact⟨.inr,fun q=>q.elim (fun e=>e▸h) id⟩
  ·rw[j0,zj,j0]
theorem Jl:∀ (ys:LS_),(zf ys).Nodup
 |[]=>by simp[zf]
 |y::ys=>by
  unfold zf
  split
  ·exact Jl ys
  ·rename_i h
   exact List.nodup_cons.mpr ⟨fun q=>h (zj.mp q),Jl ys⟩
theorem Ru:∀ (ys:LS_),(zf ys).length<=ys.length
 |[]=>by simp[zf]
 |y::ys=>by
  have:=Ru ys
  unfold zf
  split<;>simp<;>omega
section
variable {X:Cx}
def hoS (X:Cx) (a:Addr) (zs:LS_):HO:=.ext fun h=>Tx X.prog X.w h a zs
theorem aaf {pins:List (Addr×Obj)} {σ:L2.St} {H:Hp} {s:Shared} (I:Inv X pins σ H s) {a:Addr} {zs:LS_} (h:H a=some (hoS X a zs)):Tx X.prog X.w s.heap a zs:=(I.hok _ _ h).1
def ahR (X:Cx):List V->Hp->VK->Prop:=fun xs H Q=>∃ a zs,xs=[.ref a]/\H a=some (hoS X a zs)/\zs.length < 4096/\Q (.int zs.length) H
theorem ac2:jV X (.builtin "len") (ahR X):=by
 intro pins s σ H xs us Q I r h
 obtain⟨a,zs,rfl,ha,hl,q⟩:=h
 obtain⟨u,rfl,ru⟩:=vals1 r
 cases ru
 obtain⟨o,es,ep,t,ho,hex,hd,x⟩:=aaf I ha
 have hz:=x.size
 exact call_len_set ho hex hd x.fit (by omega) ⟨.int zs.length,H,I.tok _,⟨s.toks+1,by rw[hz]⟩,q⟩
def tS (X:Cx) (f:Ev->Option LS_):TE:=fun σ H Q=>∃ H0 ρ ys,bF X.K H0 H σ ρ/\f ρ=some ys/\ys.length < 4000/\∀ a zs H',Same H H'->H' a=some (hoS X a zs)->(∀ z,z∈zs↔z∈ys)->zs.Nodup->(∀ z∈zs,z.length<=sizeLine)->Q (.ref a) H'
def PVS (X:Cx) (e:Expr) (f:Ev->Option LS_):Prop:=PE X e (tS X f)
def aek (b:Bx):Option LS_:=(HB b).bind uD
variable {x:Str} {e:Expr} {f:Ev->Option Bx} {fs:Ev->Option LS_} {p pos:Pos}
theorem ac3 (hg:Gl X "len") (hm:X.mg "len" = none) (ha:PVS X e fs) (he:starEach (e::[]) X.env=(false,eval e X.env)::starEach [] X.env:=by rfl):PV X (.Call (.Name "len" p) [e] [] pos) (fun ρ=>(fs ρ).bind fun ys=>if ys.length < 4000 then some (.z (.int (zf ys).length)) else none):=by
 refine Jx (Dg (id := "len") ac2 hg hm rfl (jY ha tH he) (he:=he)) fun σ H Q h=>?_
 obtain⟨H0,ρ,b,E,ef,q⟩:=h
 obtain⟨ys,ey,ef⟩:=bind_some ef
 split at ef
 ·rename_i hl
  cases ef
  refine⟨H0,ρ,ys,E,ey,hl,fun a zs H1 s1 e1 m nd hy=>⟨a,zs,rfl,e1,?_,?_⟩⟩
  ·have:=(Pn nd (Jl ys) fun z=>by rw[m z,zj]).length_eq
   have:=Ru ys
   omega
  ·rw[(Pn nd (Jl ys) fun z=>by rw[m z,zj]).length_eq]
   exact q _ H1 s1 trivial (by simp only[bH,Rep])
 ·cases ef
end
theorem Nx {prog:Program} {w:World} {A:Around} {E:VP_} {s:Shared} {Q:VP_} (h:Q (.ref s.heap.objs.size) { s with heap:=s.heap.push (blank w) }):wpAny (model prog w) A (newSet (.type "set")) Q E s:=by
 unfold newSet
 refine zb (Yc ?_)
 simp only[newObj]
 exact zb (wpAny_alloc (ze h))
theorem Ny {prog:Program} {w:World} {A:Around} {R:Result->Shared->Prop} {s:Shared} {elt target iter:Expr} {ifs:List Expr} {rest:List Comprehension} {scope:Scope} {pos:Pos} {it acc:Value} {env:Env}
  (h0:codeAny (model prog w) A (.compLoop (.SetComp elt (⟨target,iter,ifs,0⟩::rest) scope pos) 0 it acc env) R s)
  (h:wpAny (model prog w) A (pyIter it) (fun it' s'=>codeAny (model prog w) A (.compLoop (.SetComp elt (⟨target,iter,ifs,0⟩::rest) scope pos) 0 it' acc env) R s') (notedBy (model prog w) A env fun x s'=>R (.error x) s') s) :
  codeAny (model prog w) A (.compStart (.SetComp elt (⟨target,iter,ifs,0⟩::rest) scope pos) 0 it acc env) R s:=by
 refine codeAny_of_tree ?_
 show wpAny _ _ ((compStart (.SetComp elt (⟨target,iter,ifs,0⟩::rest) scope pos) 0 it acc env).onRaise (fun x=>do noteFrame x env;standAt theWindowsPlace)) _ _ s
 refine wpAny_notedAt ?_
 unfold compStart
 show wpAny _ _ (ask >>= _) _ _ s
 refine zb (wpAny_askSetting (wpAny_ite ?_))
 split
 ·first
   |exact zb (ze (ze (And.intro rfl h0)))
   |exact ze (And.intro rfl h0)
 ·first
   |exact zb (ko (zb (Qr (zb (ZA h (fun it' s' h'=>ze (And.intro rfl h')) fun _ _ x=>x)))))
   |(refine zb (ko ?_);show wpAny _ _ (standAt iter.pos >>= _) _ _ s;exact zb (Qr (zb (ZA h (fun q s' h'=>ze (And.intro rfl h')) fun _ _ x=>x))))
theorem U0 {H:Hp} {a:Addr} {φ:Heap->Prop} {o:HO} (h:H a=some (.ext φ)):Kp H (upd H a o):=by
 refine⟨fun b ys e=>?_,fun b ob u e=>?_⟩
 ·rw[aV (yh e h (by intro z;cases z))];exact e
 ·rw[aV (yh e h (by intro z;cases z))];exact e
section
variable {X:Cx}
theorem aag {H:Hp} {h:Heap} {a:Addr} (e:h.get? a=some (blank X.w)):gC X.prog X.w H h a (hoS X a []):=
 ⟨⟨_,#[],0,_,e,⟨rfl,rfl,rfl⟩,rfl,.nil,kN,rfl,fun q=>by simp[SetTable.fresh,q],fun q=>absurd q (jS _)⟩,⟨_,e⟩,fun h1 h2 t1 k1=>Tx.keep t1 k1⟩
def ahS (X:Cx):V->List V->Hp->VK->Prop:=fun x vs H Q=>∃ l zs t,x=.ref l/\vs=[.str t]/\H l=some (hoS X l zs)/\zs.length+1 < 4096/\∀ zs',(∀ z,z∈zs'↔z∈zs\/z=t)->zs'.Nodup->zs'.length<=zs.length+1->Q .non (upd H l (hoS X l zs'))
theorem Ye:MtM X "set.add" (ahS X):=by
 intro pins s σ H x vs v us Q I rx rv h
 obtain⟨l,zs,t,rfl,rfl,hH,hz,q⟩:=h
 cases rx
 obtain⟨u,rfl,ru⟩:=rv.one
 obtain⟨tk,rfl⟩:=ru
 have tx:=aaf I hH
 obtain⟨o,es,ep,tb,ho,hex,hd,xx⟩:=id tx
 refine Kt F.slot_set_add ⟨o,ho,hex.1⟩ F.entry_set_add ?_ (F.args_set_add_2 _ _)
 show wpAny _ _ (setAdd l (.str t tk) >>= _) _ _ s
 refine zb ?_
 unfold setAdd
 refine qi (zb ((strKind X.prog X.w).pyHash (strKind_is X.prog X.w t tk) ?_))
 refine aac (s:={ s with toks:=s.toks+1 }) tx hz fun b h' zs' sb t' m l'=>?_
 obtain⟨o',es',ep',tb',ho',_,_,xx'⟩:=id t'
 refine ze ⟨.none,rfl,.non,_,I.write (t':=s.toks+1) (x:=l) (e:=l) (o:=hoS X l zs') (by rw[hH];trivial) (.inl rfl) (fun b u hb e=>by rw[sb.2 b hb];exact e) ⟨o',ho'⟩ ⟨t',⟨o',ho'⟩,fun h1 h2 t1 k1=>Tx.keep t1 k1⟩,rfl,q zs' m xx'.nd l'⟩
end
section
variable {X:Cx} {elt tgt iter:Expr} {ifs:List Expr} {scope:Scope} {cl:List (Str×Addr)} {pos:Pos} {xs ts:LS_} {is:List Nat} {gt:Dt->Ev->Option Ev} {p:Ev->Option Bool} {fe:Ev->Option Bx} {fi:Ev->Option (List Dt)}
def AcS (X:Cx) (D:Addr) (_:Hp) (o1:List Dt) (o:HO):Prop:=∃ us,o=hoS X D us/\(∀ z,z∈us↔Dt.str z∈o1)/\us.Nodup/\(∀ z∈us,z.length<=sizeLine)/\us.length<=o1.length
def Yg:Bx->Option (List Dt)
 |.z (.str x)=>some [.str x]
 |_=>none
theorem afK {n:Nat} (h:PV X elt fe):XM X (fun D env=>do let v <-eval elt env;standAt elt.pos;let _ <-call (.builtin "set.add") [.ref D,v]) (fun ρ=>(fe ρ).bind Yg) (AcS X) 4000 n:=by
 refine Uq fun pins s σ H Hb ρ D o o1 ys I En ee hD ⟨us,e,r4⟩ hl=>?_
 subst e
 obtain⟨b,eb,ee⟩:=bind_some ee
 obtain⟨yt,rfl,rfl⟩:∃ yt,b=.z (.str yt)/\ys=[.str yt]:=by
  unfold Yg at ee
  split at ee
  ·cases ee;exact⟨_,rfl,rfl⟩
  ·cases ee
 refine zb (ZA (h pins s σ H (fun v H9=>Same H H9/\Rep X.K H9 (.str yt) v) I ⟨Hb,ρ,_,En,eb,fun v H9 s9 _ r9=>⟨s9,r9⟩⟩) (fun v s9 h9=>?_) fun _ _ z=>z)
 obtain⟨v',H9,I9,rv,s89,r9⟩:=h9
 obtain⟨rfl,hyl⟩:v'=.str yt/\yt.length<=sizeLine:=by simpa only[Rep] using r9
 have ZR:=s89 _ _ hD
 simp only[JA] at hl
 refine zb (Qr (zb (ZA ((Ye (X:=X)) _ s9 σ H9 (.ref D) [.str yt] (.ref D) [v] (fun w H10=>∃ zs',H10=upd H9 D (hoS X D zs')/\(∀ z,z∈zs'↔z∈us\/z=yt)/\zs'.Nodup/\zs'.length<=us.length+1) I9 rfl (.cons rv .nil)
  ⟨_,us,yt,rfl,rfl,ZR,by omega,fun zs' m nd hl=>⟨zs',rfl,m,nd,hl⟩⟩) (fun w s10 h10=>?_) fun _ _ z=>z)))
 obtain⟨w',H10,I10,_,zs',rfl,m',nd',hl'⟩:=h10
 refine ze ⟨H9,_,I10,s89,U0 ZR,zs',rfl,fun z=>?_,nd',fun z hz=>?_,by simp;omega⟩
 ·rw[m' z,r4.1 z];simp
 ·rcases (m' z).mp hz with q|rfl
  ·exact r4.2.2.1 z q
  ·exact hyl
end
theorem JT:∀ {ds:List Dt} {ys:LS_},uD ds=some ys->ds=ys.map Dt.str
 |[],_,e=>by cases e;rfl
 |.str x::ds,_,e=>by
  simp only[uD] at e
  obtain⟨ys,e1,e2⟩:=bind_some e
  cases e2
  rw[zg,<-JT e1]
 |.non::_,_,e=>by cases e
 |.bl _::_,_,e=>by cases e
 |.int _::_,_,e=>by cases e
 |.tup _::_,_,e=>by cases e
 |.lst _::_,_,e=>by cases e
 |.emp::_,_,e=>by cases e
section
variable {X:Cx} {elt tgt iter:Expr} {ifs:List Expr} {scope:Scope} {cl:List (Str×Addr)} {pos:Pos} {xs:LS_} {is:List Nat} {gt:Dt->Ev->Option Ev} {p:Ev->Option Bool} {fe:Ev->Option Bx} {fi:Ev->Option (List Dt)}
def akq (fe:Ev->Option Bx):Ev->Option (List Dt):=fun ρ=>(fe ρ).bind Yg
def ael (fs fs':Ev->Option (List Dt)):Prop:=∀ ρ ys,fs ρ=some ys->(∀ d∈ys,∃ x,d=Dt.str x)->fs' ρ=some ys
theorem one_up:ael (ahC fe) (akq fe):=fun ρ ys e h=>by
 obtain⟨b,eb,e⟩:=bind_some e
 obtain⟨y,rfl,rfl⟩:=FP e
 obtain⟨x,rfl⟩:=h y (List.mem_singleton.mpr rfl)
 show (fe ρ).bind Yg=_
 rw[eb];rfl
theorem Pq {fs fs':Ev->Option (List Dt)} (u:ael fs fs') {ρ:Ev}:∀ {ds out:List Dt},Bo gt p fs ρ ds=some out->(∀ d∈out,∃ x,d=Dt.str x)->Bo gt p fs' ρ ds=some out
 |[],_,e,_=>e
 |d::ds,out,e,h=>by
  simp only[Bo] at e ⊢
  obtain⟨ρ1,e1,e⟩:=bind_some e
  obtain⟨k,ek,e⟩:=bind_some e
  simp only[e1,ek,Qb]
  cases k with
  |false=>rw[zI zr] at e ⊢;exact Pq u e h
  |true=>
   rw[zk rfl] at e ⊢
   obtain⟨ys,ey,e⟩:=bind_some e
   obtain⟨zs,ez,e⟩:=bind_some e
   cases e
   rw[u ρ1 ys ey fun d hd=>h d (qo _ hd),Pq u ez fun d hd=>h d (z4 _ hd)]
   rfl
def Rv (fi:Ev->Option (List Dt)) (gt:Dt->Ev->Option Ev) (p:Ev->Option Bool) (fe:Ev->Option Bx) (is:List Nat) (n:Nat):Ev->Option LS_:=fun ρ=>(fi ρ).bind fun ds=>
 if ds.length < 4000 then (Bq gt p fe (rY is ρ++List.replicate n none) ds).bind uD else none
theorem aah (ts:LS_) (O:uV X scope cl xs is) (hcalm:X.calm=true) (hi:PIC X tgt iter fi)
  (O9:∀ C s₀ H₀ fp,PTg (Jf X (xs++ts) scope cl C s₀ H₀ fp) tgt gt) (hif:∀ C s₀ H₀ fp,Tests (Jf X (xs++ts) scope cl C s₀ H₀ fp) ifs p) (helt:∀ C s₀ H₀ fp,PV (Jf X (xs++ts) scope cl C s₀ H₀ fp) elt fe) (htk:ZM is.length (is.length+ts.length) gt)
  (hs:∀ x,foldedSetIterable iter X.env x=pure x:=by intro _;rfl):PVS X (.SetComp elt [⟨tgt,iter,ifs,0⟩] scope pos) (Rv fi gt p fe is ts.length):=fun pins s σ H Q I h=>by
 obtain⟨H0,ρ,ys,E,e,hl,q⟩:=h
 obtain⟨ds,ed,e⟩:=bind_some e
 split at e
 ·rename_i hlen
  obtain⟨out,eo,e⟩:=bind_some e
  have aai:=JT e
  rw[arm_eval_SetComp]
  refine ka (use:=none) rfl hs O.clos O.kind O.names ?_
  refine lH (hi pins s σ H (fun J H'=>Same H H'/\Yields X.K J ds H') I ⟨H0,ρ,ds,E,ed,fun J H' s' y=>⟨s',y⟩⟩) fun v s1 h1=>lH h1 fun itv s2 h2=>?_
  obtain⟨it,fp,tn,J,H2,rfl,I2,T,st,hf,s12,Y⟩:=h2
  have hst:∀ d∈out,∃ z,d=Dt.str z:=fun d hd=>by rw[aai] at hd;obtain⟨z,_,rfl⟩:=List.mem_map.mp hd;exact⟨z,rfl⟩
  refine FQ (Ac:=AcS X) (O0:=hoS X s2.heap.objs.size []) (N:=4000) (RR:=fun acc C=>compPost (model X.prog X.w) X.A X.xe none (EP X pins σ Q) acc C) (ts:=ts) (xs:=xs) O hcalm O9 hif (fun C s₀ H₀ fp=>afK (helt C s₀ H₀ fp)) htk (Nat.le_add_right ..) I2 ((E.grow s12).caps is ts.length) T st hf Y (Pq one_up eo hst) (zz (vO eo) (Q1 hlen)) ?_
   Nx (fun _=>aag (zS _ rfl)) (fun _=>⟨[],rfl,by simp,kN,by simp,zl _⟩) (fun _ h=>h) (fun _ _ _=>rfl) Ny fun h=>h
  rintro D C s' H' o hD I' fC ⟨m,hn⟩ s2' hD' ⟨zs,rfl,mz,nd,hz,_⟩
  refine⟨m,hn,fun h' sb=>⟨.ref D,H',?_,rfl,q D zs H' (s12.trans s2') hD' (fun z=>?_) nd hz⟩⟩
  ·obtain⟨f0,f1,f2,f3,f4,f5⟩:=fC
   exact I'.turned (t':=s'.toks) (fun b o hb e=>(sb.2 b hb).trans e) f0 f1 f3 f4 f5
  ·rw[mz z,aai]
   constructor
   ·intro q'
    obtain⟨y,hy,e⟩:=List.mem_map.mp q'
    cases e;exact hy
   ·exact fun q'=>List.mem_map.mpr ⟨z,q',rfl⟩
 ·cases e
structure QVS (X:Cx) (e:Expr) (f:Ev->Option LS_):Prop where
 run:PVS X e f
def setC (fi:Ev->Option (List Dt)) (f:Ev->Option Bx):Ev->Option LS_:=fun ρ=>(fi ρ).bind fun ds=>if ds.length < 4000 then (f ρ).bind aek else none
def Wm (fs:Ev->Option LS_):Ev->Option Bx:=fun ρ=>(fs ρ).bind fun ys=>if ys.length < 4000 then some (.z (.int (zf ys).length)) else none
theorem Yh {n:Nat} {ρ:Ev} {ys:LS_} (h:setC fi (fD fi gt p fe is n) ρ=some ys):Rv fi gt p fe is n ρ=some ys:=by
 unfold setC at h
 obtain⟨ds,ed,h⟩:=bind_some h
 split at h
 ·rename_i hl
  obtain⟨b,eb,h⟩:=bind_some h
  unfold fD at eb
  rw[ed] at eb
  obtain⟨ds',e1,eb⟩:=bind_some eb
  cases e1
  rw[zk (by omega)] at eb
  obtain⟨out,eo,eb⟩:=bind_some eb
  cases eb
  unfold Rv
  rw[ed]
  show (if ds.length < 4000 then _ else _)=_
  rw[zk hl,eo]
  exact h
 ·cases h
variable {e:Expr} {f:Ev->Option Bx} {fs:Ev->Option LS_} {p':Pos}
theorem aaj (ts:LS_) (O:uV X scope cl xs is) (hcalm:X.calm=true) (hi:QIC X tgt iter fi) (O9:∀ C s₀ H₀ fp,QTg (Jf X (xs++ts) scope cl C s₀ H₀ fp) tgt gt) (hif:∀ C s₀ H₀ fp,JD (Jf X (xs++ts) scope cl C s₀ H₀ fp) ifs p) (helt:∀ C s₀ H₀ fp,QV (Jf X (xs++ts) scope cl C s₀ H₀ fp) elt fe) (htk:ZM is.length (is.length+ts.length) gt) (hs:∀ x,foldedSetIterable iter X.env x=pure x:=by intro _;rfl):QVS X (.SetComp elt [⟨tgt,iter,ifs,0⟩] scope pos) (setC fi (fD fi gt p fe is ts.length)):=
 ⟨Jx (aah ts O hcalm hi.run (fun C s₀ H₀ fp=>(O9 C s₀ H₀ fp).run) (fun C s₀ H₀ fp=>(hif C s₀ H₀ fp).run) (fun C s₀ H₀ fp=>(helt C s₀ H₀ fp).run) htk hs) fun σ H Q h=>by
  obtain⟨H0,ρ,ys,E,ef,r⟩:=h
  exact⟨H0,ρ,ys,E,Yh ef,r⟩⟩
theorem ac4 (hg:Gl X "len") (hm:X.mg "len" = none) (ha:QVS X e fs) (he:starEach (e::[]) X.env=(false,eval e X.env)::starEach [] X.env:=by rfl):QV X (.Call (.Name "len" p') [e] [] pos) (Wm fs):=⟨ac3 hg hm ha.run he⟩
end
end P1
end
section
namespace P1
open PySem PySem.Spec PyProof.Rows L2 S1 S6
section
variable {X:Cx}
def Ts (prog:Program) (w:World) (h:Heap) (a:Addr) (zs:List (List Key×Addr)):Prop:=∃ o es ep t,h.get? a=some o/\o.ExactSet/\o.data=.set es ep t/\es.toList=zs.map (fun z=>(aad prog w z.1,(.ref z.2:Value)))/\t.fits es.size=true/\(w.params.followText "set-order" = false->t.led=true)/\(0 < es.size->t.plain=false)
theorem Rx {prog:Program} {w:World} {h:Heap}:∀ {zs:List (List Key×Addr)} {l:List (Int×Value)},Paired (TE prog w h) zs l->l=zs.map (fun z=>(aad prog w z.1,(.ref z.2:Value)))
 |_,_,.nil=>rfl
 |_,_,.cons r t=>by rw[zg,<-Rx t,r.1]
theorem Ts.of {prog:Program} {w:World} {h:Heap} {a:Addr} {zs:List (List Key×Addr)} (x:Tu prog w h a zs):Ts prog w h a zs:=
 let ⟨o,es,ep,t,e,r,d,q⟩:=x;⟨o,es,ep,t,e,r,d,Rx q.rel,q.tok.fits,q.led,q.non⟩
theorem Ts.keep {prog:Program} {w:World} {h h':Heap} {a:Addr} {zs:List (List Key×Addr)} (x:Ts prog w h a zs) (k:∀ o,h.get? a=some o->h'.get? a=some o):Ts prog w h' a zs:=
 let ⟨o,es,ep,t,e,r⟩:=x;⟨o,es,ep,t,k o e,r⟩
end
section
variable {α:Type} [DecidableEq α]
end
section
variable {X:Cx}
def ac5 (ks:List Key):Bool:=ks.any fun k=>k.isRight
variable {e:Expr} {f:Ev->Option Bx} {fs:Ev->Option (List (List Key))} {p pos:Pos}
end
end P1
end
section
namespace P1
open PySem PySem.Spec PyProof.Rows L2
def akr (kvs:List (Key×Dt)):Dt->List (Key×Dt)
 |.tup [.str k,d]=>Uy kvs (.inr k) d
 |_=>kvs
def dictOf (out:List Dt):List (Key×Dt):=out.foldl akr []
section
variable {X:Cx} {pins:List (Addr×Obj)} {σ:L2.St} {H:Hp} {s:Shared} {a:Addr} {A:Around} {E:VP_}
end
section
variable {X:Cx} {kx vx tgt iter:Expr} {ifs:List Expr} {scope:Scope} {cl:List (Str×Addr)} {pos:Pos} {xs ts:LS_} {is:List Nat} {gt:Dt->Ev->Option Ev} {p:Ev->Option Bool} {fk fv:Ev->Option Bx} {fi:Ev->Option (List Dt)}
def AcD (K:FG_) (_:Addr) (H:Hp) (o1:List Dt) (o:HO):Prop:=∃ us,o=.dK us/\lO K H (dictOf o1) us/\us.length<=o1.length
theorem AcD.kp {K:FG_} {D:Addr} {H H':Hp} {o1:List Dt} {o:HO} (k:Kp H H'):AcD K D H o1 o->AcD K D H' o1 o:=fun ⟨us,e,r,z⟩=>⟨us,e,r.kp k,z⟩
end
section
variable {X:Cx} {pins:List (Addr×Obj)} {σ:L2.St} {H:Hp} {s:Shared} {a:Addr} {ks:List (Key×V)} {o:Obj}
end
section
variable {X:Cx} {e elt tgt iter:Expr} {ifs:List Expr} {fd:Ev->Option Bx} {scope:Scope} {cl:List (Str×Addr)} {pos:Pos} {xs ts:LS_} {is:List Nat} {gt:Dt->Ev->Option Ev} {p:Ev->Option Bool} {fe:Ev->Option Bx}
end
section
variable {prog:Program} {w:World} {A:Around} {E:VP_} {s:Shared}
end
section
variable {X:Cx}
end
section
variable {X:Cx} {e:Expr} {es:List Expr} {fs:Ev->Option (List Bx)} {p px pos spos:Pos} {x y:Str} {k n:Nat} {f:Addr} {fd:FuncData} {ps:LS_} {G:Addr->List (Key×Dt)->List Bx->Option (List (Key×Dt))}
end
def isT:Option Bool->Bool
 |some true=>true
 |_=>false
def aks (x:Dt) (ys:List Dt):Option Bool:=if (ys.all fun y=>(Jg y x).isSome&&decide (min (Br y) (Br x)<=60))=true then some (ys.any fun y=>isT (Jg y x)) else none
def inX (a b:Bx):Option Bx:=match a with
 |.z d=>(HB b).bind fun ys=>(aks d ys).bind fun k=>some (.z (.bl k))
 |_=>none
section
variable {X:Cx} {pins:List (Addr×Obj)} {σ:L2.St} {H:Hp} {s:Shared}
end
section
variable {X:Cx} {g:Ev->Option Out} {st:List Stmt} {i:Nat}
end
open AutoSeq1 (wpAny_loadPart')
open SeqAt
section
variable {X:Cx} {pins:List (Addr×Obj)} {σ:L2.St} {H:Hp} {s:Shared}
end
section
variable {X:Cx} {o e:Expr} {fo fx:Ev->Option Bx}
end
section
variable {X:Cx} {c:Expr} {body:List Stmt} {t:Ev->Option Bool} {g:Ev->Option Out} {pos:Pos}
end
section
variable {X:Cx} {pins:List (Addr×Obj)} {σ:L2.St} {H:Hp} {s:Shared} {h':Heap}
theorem ac6 {t':Nat} {e it:Addr} {xs:List V} (I:L2.Inv X pins σ H s) (k:∀ b o,b≠e->b≠it->s.heap.get? b=some o->h'.get? b=some o) (fe:yH X pins H e) (fi:yH X pins H it)
  (he:∃ o,h'.get? e=some o) (hi:∃ o,h'.get? it=some o) (new:gC X.prog X.w (upd H s.heap.objs.size (.tup xs)) h' s.heap.objs.size (.tup xs)):L2.Inv X pins σ (upd H s.heap.objs.size (.tup xs)) { s with heap:=h',toks:=t' }:=by
 have hf:H s.heap.objs.size=none:=I.hok.fresh (zl _)
 have nd:∀ b u,H b=some u->b≠s.heap.objs.size:=fun b u q z=>by rw[z,hf] at q;cases q
 have ne:∀ b u,H b=some u->b≠e/\b≠it:=fun b u q=>⟨fun z=>(by rw[z,fe.1] at q;cases q),fun z=>(by rw[z,fi.1] at q;cases q)⟩
 have nc:∀ b,b∉[e,it]->b≠e/\b≠it:=fun b hb=>⟨fun z=>hb (by simp[z]),fun z=>hb (by simp[z])⟩
 refine I.step (g':=s.gens) (d':=s.drawn) (ch:=[e,it]) (fun b hb=>?_) (fun b o _ _ hc q _=>k b o (nc b hc).1 (nc b hc).2 q) (fun b o _ _ hc q _=>⟨o.slots,k b o (nc b hc).1 (nc b hc).2 q⟩) (fun b o _ q n=>?_)
  (fun b o hc q=>⟨o,k b o (nc b hc).1 (nc b hc).2 q⟩) (fun b ys q=>?_) (fun b o u q=>?_) (fun b ps q=>⟨#[],?_⟩) (fun m hm=>?_) (fun b u q=>?_) I.bare
 ·rcases List.mem_cons.mp hb with rfl|hb
  ·exact⟨fe.2.2.2.1,fe.2.1,fe.2.2.2.2.1,fe.2.2.2.2.2⟩
  ·cases List.mem_singleton.mp hb
   exact⟨fi.2.2.2.1,fi.2.1,fi.2.2.2.2.1,fi.2.2.2.2.2⟩
 ·rw[aV (ZI (zt q))];exact n
 ·rw[aV (nd b _ q)];exact q
 ·rw[aV (nd b _ q)];exact q
 ·rw[aV (nd b _ q),q];simp
 ·obtain⟨o,es,ep,ho,r⟩:=hm
  exact⟨o,es,ep,k _ o (QA fe.2.1) (QA fi.2.1) ho,r⟩
 ·by_cases hb:b=s.heap.objs.size
  ·subst hb
   rw[bC] at q;cases q
   exact new
  ·rw[aV hb] at q
   refine (I.hok b u q).stay (fun c v hc w=>k c v ?_ ?_ w) (fun c w=>?_) fun c ys w=>?_
   ·rcases hc with rfl|z
    ·exact (ne _ _ q).1
    ·exact (ne _ _ z).1
   ·rcases hc with rfl|z
    ·exact (ne _ _ q).2
    ·exact (ne _ _ z).2
   ·rw[aV (nd c _ w)];exact w
   ·rw[aV (nd c _ w)];exact w
end
def Ite (K:FG_) (l:Addr):It:=
 ⟨fun i H=>∃ xs x,vH K H l xs/\xs[i]?=some x,fun i H v H'=>∃ p x,H p=none/\(∀ xs,vH K H l xs->xs[i]?=some x)/\v=.ref p/\H'=upd H p (.tup [.int i,x]),fun i H=>∃ xs,vH K H l xs/\xs.length<=i⟩
theorem Yi {P:Program} {w:World} {K:FG_} {elts:List Expr} {x1:Nat} {tpos:Pos} (l e it:Addr) (hne:e≠it) :
  Turn P w K (.Tuple elts x1 tpos) (Ite K l) [e,it] e (fun i h=>(∃ old,IsEnum h e it i old)/\h.IsListIter it l i) where
 mem:=by simp
 obj:=fun i h st b hb=>by
  obtain⟨⟨old,h1⟩,o,h2,_,h3⟩:=st
  rcases List.mem_cons.mp hb with rfl|hb
  ·exact⟨_,h1,fun v z=>by cases z⟩
  ·cases List.mem_singleton.mp hb
   exact⟨o,h2,fun v z=>by rw[h3] at z;cases z⟩
 keep:=fun i h h' st k=>by
  obtain⟨⟨old,h1⟩,h2⟩:=st
  exact⟨⟨old,k e (by simp) _ h1⟩,h2.at fun o q=>k it (by simp) o q⟩
 item:=by
  intro X hP hw hK hc i pins s σ H E I hf st hg
  subst hP hw hK
  obtain⟨⟨old,h1⟩,h2⟩:=st
  obtain⟨xs,x,hq,hx⟩:=hg
  obtain⟨its,rv,p,hz⟩:=I.list hq
  obtain⟨u,hu,ru⟩:=rv.get hx
  have fe:=hf e (by simp)
  have fi:=hf it (by simp)
  refine wpAny_pyNext_enum_item h1 h2 p.isList (x:=u) (by simpa using hu) hne fun h1' ho hit' hT hsz hk=>⟨_,rfl,?_⟩
  refine wpAny_letOwnedTupleGo_enum ho fun h2' ahU hsb=>?_
  have elt:e < s.heap.objs.size:=zt h1
  have ilt:it < s.heap.objs.size:=by obtain⟨_,q,_⟩:=h2;exact zt q
  have hT2:h2'.get? s.heap.objs.size=some { cls:=.type "tuple", data:=.seq #[.int i s.toks,u] }:=(hsb.2 _ (js elt)).trans hT
  have hit2:h2'.IsListIter it l (i+1):=hit'.at fun o q=>(hsb.2 it (QA hne)).trans q
  refine⟨.ref s.heap.objs.size,upd H s.heap.objs.size (.tup [.int i,x]),ac6 (t':=s.toks+1) I (fun b o n1 n2 q=>(hsb.2 b n1).trans (hk b o n1 n2 q)) fe fi ⟨_,ahU⟩ (by obtain⟨o,q,_⟩:=hit2;exact⟨o,q⟩) ?_,rfl,⟨_,x,I.hok.fresh (zl _),fun ys hy=>by rw[I.Js hy hq];exact hx,rfl,rfl⟩,⟨⟨_,by simpa using ahU⟩,hit2⟩,fun b hb=>?_⟩
  ·exact⟨by show 2<=sizeLine;decide,[.int i s.toks,u],.cons ⟨_,rfl⟩ (.cons ru .nil),_,hT2,rfl,⟨_,rfl⟩,rfl⟩
  ·rcases List.mem_cons.mp hb with rfl|hb
   ·rw[aV (ZI elt)];exact fe.1
   ·cases List.mem_singleton.mp hb
    rw[aV (ZI ilt)];exact fi.1
 done:=by
  intro X hP hw hK hc i pins s σ H E I hf st hg
  subst hP hw hK
  obtain⟨⟨old,h1⟩,h2⟩:=st
  obtain⟨xs,hq,hx⟩:=hg
  obtain⟨its,rv,p,hz⟩:=I.list hq
  obtain⟨f0,f1,f2,f3,f4,f5⟩:=hf it (by simp)
  have hl:=rv.length
  exact wpAny_pyNext_enum_end (I.ok.hd hc) h1 h2 p.isList (by simp;omega) fun h' eb=>⟨rfl,I.turned (t':=s.toks) (fun b o hb e=>eb b o hb e) f0 f1 f3 f4 f5⟩
 self:=fun _ _ _ _ _ st h=>by
  obtain⟨⟨old,h1⟩,_⟩:=st
  exact wpAny_pyIter_enum h1 h
def G8 (ds:List Dt):List Dt:=(List.range ds.length).zipWith (fun k d=>.tup [.int (k:Nat),d]) ds
theorem Nz (ds:List Dt):(G8 ds).length=ds.length:=by simp[G8]
theorem Yj {ds:List Dt} {i:Nat} {d:Dt} (h:(G8 ds)[i]?=some d):∃ c,ds[i]?=some c/\d=.tup [.int (i:Nat),c]:=by
 have hi:i < ds.length:=by
  have:=(List.getElem?_eq_some_iff.mp h).1
  rwa [Nz] at this
 refine⟨ds[i],by simp[hi],?_⟩
 unfold G8 at h
 rw[List.getElem?_zipWith] at h
 simp[hi] at h
 exact h.symm
theorem Yields.enum {K:FG_} {Hs:Hp} {l:Addr} {vs:List V} {ds:List Dt} (h:vH K Hs l vs) (r:aW K Hs ds vs):Yields K (Ite K l) (G8 ds) Hs:=fun i H s=>by
 have h':=s.seq h
 have r':=r.kp (.of s)
 refine⟨fun d e=>?_,fun e=>⟨vs,h',by rw[Nz] at e;rw[r.length];exact e⟩⟩
 obtain⟨c,ec,rfl⟩:=Yj e
 obtain⟨v,ev,rv⟩:=r'.get ec
 refine⟨⟨vs,v,h',ev⟩,fun x H' y=>?_⟩
 obtain⟨p,x0,hp,hq,rfl,rfl⟩:=y
 have:=hq vs h'
 rw[ev] at this;cases this
 have sm:Same H (upd H p (.tup [.int (i:Nat),v])):=fun b o q=>by rw[aV (bY q hp)];exact q
 refine⟨sm,?_⟩
 simp only[Rep]
 exact⟨p,_,rfl,.inl (.inl bC),aW.cons (by simp only[Rep]) (aW.cons (Rep.kp (.of sm) rv) aW.nil)⟩
section
variable {X:Cx} {elts:List Expr} {x1:Nat} {tpos p pos:Pos} {e:Expr} {fs:Ev->Option (List Bx)}
def iEn (K:FG_) (ta:TA):TI:=fun σ H R=>ta σ H fun vs H1=>∃ l,vs=[.ref l]/\(∃ xs,vH K H1 l xs)/\R (Ite K l) H1
theorem ac7 {ta:TA} (hg:Gl X "enumerate") (hm:X.mg "enumerate" = none) (ha:PA X [e] ta) (hs:starEach [e] X.env=[(false,eval e X.env)]:=by rfl):PI X (.Tuple elts x1 tpos) (.Call (.Name "enumerate" p) [e] [] pos) (iEn X.K ta):=by
 intro pins s σ H R I h
 refine Call_ (Fq I hg hm boot_enumerate (PyProof.Rows.callWith_type1 (lH (ha pos pins s σ H _ I h) fun us s1 ⟨vs,H1,I1,r1,q1⟩=>?_) hs rfl))
 obtain⟨l,rfl,⟨xs,hq⟩,q⟩:=q1
 obtain⟨u,rfl,ru⟩:=vals1 r1
 cases ru
 obtain⟨its,rv,p,hz⟩:=I1.list hq
 refine call_enumerate_list p.isList fun h' he hit hsz hk=>?_
 refine wpAny_pyIter_enum he ?_
 refine⟨s1.heap.objs.size+1,[s1.heap.objs.size+1,s1.heap.objs.size],_,_,H1,rfl,I1.kept (t':=s1.toks) hk,Yi l _ _ (js (Nat.lt_succ_self _)),⟨⟨_,he⟩,hit⟩,fun b hb=>?_,q⟩
 rcases List.mem_cons.mp hb with rfl|hb
 ·exact I1.Xi (JJ _) (I1.hok.fresh (JJ _))
 ·cases List.mem_singleton.mp hb
  exact I1.Xi (zl _) (I1.hok.fresh (zl _))
def Ry:List Bx->Option (List Dt)
 |[.z (.lst ds)]=>some (G8 ds)
 |_=>none
theorem aak (hg:Gl X "enumerate") (hm:X.mg "enumerate" = none) (ha:PVs X [e] fs) (hs:starEach [e] X.env=[(false,eval e X.env)]:=by rfl):PIF X (.Tuple elts x1 tpos) (.Call (.Name "enumerate" p) [e] [] pos) (fun ρ=>(fs ρ).bind Ry):=fun pins s σ H R I q=>by
 refine ac7 hg hm ha hs pins s σ H R I ?_
 obtain⟨H0,ρ,ds,E,e,q⟩:=q
 obtain⟨bs,eb,e⟩:=bind_some e
 refine⟨H0,ρ,bs,E,eb,fun vs H1 s1 r1=>?_⟩
 unfold Ry at e
 split at e
 ·rename_i ds'
  cases e
  obtain⟨v,rfl,rb⟩:=rep1 r1
  simp only[bH,Rep] at rb
  obtain⟨a,ws,rfl,hq,rs⟩:=rb
  refine⟨a,rfl,⟨ws,hq.sq⟩,q _ _ s1 fun Hs hs hn hf ht=>.enum ?_ (rs.part hf ht)⟩
  rcases hq with⟨o,hq⟩|hq
  ·exact .inl (.inr ⟨o,(hf _ _ _ hq).trans hq⟩)
  ·exact .inr hq
 ·cases e
theorem Rz (hg:Gl X "enumerate") (hm:X.mg "enumerate" = none) (ha:QVs X [e] fs) (hs:starEach [e] X.env=[(false,eval e X.env)]:=by rfl):QIF X (.Tuple elts x1 tpos) (.Call (.Name "enumerate" p) [e] [] pos) (fun ρ=>(fs ρ).bind Ry):=⟨aak hg hm ha.run hs⟩
end
section
variable {X:Cx} {e:Expr} {f:Ev->Option Bx} {pos:Pos}
end
section
variable {X:Cx}
def NK:List Dt->Option LI_
 |[]=>some []
 |.int k::r=>(NK r).bind fun ks=>some (k::ks)
 |_=>none
end
section
variable {X:Cx} {e:Expr} {f:Ev->Option Bx} {pos:Pos}
end
section
variable {X:Cx} {e ek ev:Expr} {f fk fv:Ev->Option Bx} {pos:Pos} {st:Stmt}
def noG:Ev->Option Out:=fun _=>none
theorem Pr:XF X st noG:=⟨fun D pins s σ H I q=>by
 obtain⟨H0,ρ,r,E,e,q⟩:=q
 cases e⟩
end
section
variable {X:Cx} {e st:Expr} {f fs:Ev->Option Bx} {pos p2:Pos}
end
section
variable {prog:Program} {w:World} {A:Around} {E:VP_} {s:Shared}
theorem ad {a b:Nat} (h:a≠b):@Ne Addr a b:=h
end
section
variable {prog:Program} {w:World} {A:Around} {E:VP_} {s:Shared} {K:Type} [DecidableEq K] {knd:KeyKind prog w K}
end
section
variable {X:Cx} {ea eb:Expr} {fa fb:Ev->Option Bx} {p1 p2 pos1 pos2:Pos}
end
section
variable {X:Cx}
end
theorem w6 {X:Cx} {scope:Scope} {cl:List (Str×Addr)} (xs:LS_) (is:List Nat) (clos:closureFor scope X.env=pure cl:=by with_unfolding_all rfl) (kind:scope.kind=.function:=by rfl) (cell:scope.names.all (fun y=>decide (y.2≠.cell)||(cl.lookup y.1).isNone)=true:=by rfl)
  (names:scope.names.all (fun y=>decide (y.2=.local->scope.names.lookup y.1=some .local))=true:=by decide +kernel) (sub:SubL X.env.cells cl:=by repeat (first|exact trivial|refine⟨rfl,?_⟩))
  (has:(relabel scope X.env).names.all (fun y=>!(y.2==.cell||y.2==.free)||(cl.lookup y.1).isSome||scope.names.contains (y.1,.cell))=true:=by rfl) (cap:MJ X scope cl xs is:=by repeat (first|exact afF|refine acR rfl (by first|exact .inl rfl|exact .inr rfl) (by first|exact .inl rfl|exact .inr rfl) ⟨_,rfl⟩ ?_)):uV X scope cl xs is:=afG clos kind cell names sub has cap
theorem nW {N ps:LS_} {sc:Scope} (h1:sc.kind=.function:=by rfl) (h2:sc.isCoroutine=false:=by rfl) (h3:sc.isGenerator=false:=by rfl) (h4:N.Nodup:=by decide +kernel) (h5:N.take ps.length=ps:=by rfl) (h6:∀ x∈ps,sc.names.lookup x=some .local\/sc.names.lookup x=some .cell:=by decide +kernel) (h7:∀ y∈sc.names,y.2≠.free:=by decide +kernel):bD N ps sc:=⟨h1,h2,h3,h4,h5,h6,h7⟩
instance:Inhabited Dt:=⟨.non⟩
theorem bnd {α β:Type} (a:α) (f:α->Option β):(some a).bind f=f a:=(Qb a f).trans (Eq.refl _)
def hold:Option Prop->Prop
 |none=>True
 |some p=>p
def bG:Option Prop->Option Prop->Option Prop
 |none,q=>q
 |some p,none=>some p
 |some p,some q=>some (p/\q)
def Gd (c:Prop):Option Prop->Option Prop
 |none=>none
 |some p=>some (c->p)
theorem aB {p q:Option Prop} (h:hold (bG p q)):hold p/\hold q:=by
 cases p with
 |none=>exact⟨trivial,h⟩
 |some p=>cases q with
  |none=>exact⟨h,trivial⟩
  |some q=>exact h
theorem lV {c:Prop} {p:Option Prop} (h:hold (Gd c p)) (hc:c):hold p:=by
 cases p with
 |none=>trivial
 |some p=>exact h hc
structure R {α β:Type} (f:Ev->Option β) (ρ:Ev) (c:α->β) where
 v:α
 D:Option Prop
 ok:hold D->f ρ=some (c v)
abbrev zE {α:Type} (e:α->Dt):α->Bx:=fun a=>.z (e a)
abbrev oE {α:Type} (e:α->Dt):List α->Bx:=fun xs=>.o (xs.map e)
abbrev lE {α:Type} (e:α->Dt):List α->Bx:=fun xs=>.l (xs.map e)
abbrev tE:Bool->Bool:=fun b=>b
abbrev iE {α:Type} (e:α->Dt):List α->List Dt:=fun xs=>xs.map e
abbrev eI:Int->Dt:=Dt.int
abbrev eB:Bool->Dt:=Dt.bl
abbrev eS:Str->Dt:=Dt.str
abbrev eL {α:Type} (e:α->Dt):List α->Dt:=fun xs=>.lst (xs.map e)
abbrev eT {α:Type} (e:α->Dt):List α->Dt:=fun xs=>.tup (xs.map e)
abbrev eO {α:Type} (e:α->Dt):Option α->Dt:=fun o=>match o with|none=>.non|some a=>e a
abbrev eP1 {α:Type} (a:α->Dt):α->Dt:=fun x=>.tup [a x]
abbrev Fl {α β:Type} (a:α->Dt) (b:β->Dt):α×β->Dt:=fun x=>.tup [a x.1,b x.2]
abbrev eP3 {α β γ:Type} (a:α->Dt) (b:β->Dt) (c:γ->Dt):α×β×γ->Dt:=fun x=>.tup [a x.1,b x.2.1,c x.2.2]
abbrev eP4 {α β γ δ:Type} (a:α->Dt) (b:β->Dt) (c:γ->Dt) (d:δ->Dt):α×β×γ×δ->Dt:=fun x=>.tup [a x.1,b x.2.1,c x.2.2.1,d x.2.2.2]
structure RL {α:Type} (f:Ev->Option Bx) (ρ:Ev) (e:α->Dt) where
 v:List α
 D:Option Prop
 b:Bx
 lk:yJ b=some (v.map e)
 ok:hold D->f ρ=some b
section
variable {α β γ δ:Type} {ρ:Ev} {f fa fb fc:Ev->Option Bx} {fs:Ev->Option (List Bx)} {e:α->Dt} {e':β->Dt}
def su (a:R f ρ (oE e)):RL f ρ e:=⟨a.v,a.D,_,rfl,a.ok⟩
def xg (a:R f ρ (lE e)):RL f ρ e:=⟨a.v,a.D,_,rfl,a.ok⟩
def afL (a:R f ρ (zE (eL e))):RL f ρ e:=⟨a.v,a.D,_,rfl,a.ok⟩
def Lp (b:Bx) (ds:List Dt):Prop:=b=.z (.lst ds)\/b=.l ds
theorem Lp.Ni {b:Bx} {ds:List Dt} (h:Lp b ds):yJ b=some ds:=by rcases h with rfl|rfl<;>rfl
theorem Lp.get {b:Bx} {ds:List Dt} {i:Nat} (h:Lp b ds) (hi:ρ[i]?=some (some b)):Hy ρ i=some b:=by
 rcases h with rfl|rfl<;>(unfold Hy;rw[hi])
theorem Lp.lend {b:Bx} {ds:List Dt} (h:Lp b ds):P1.lend b=b:=by rcases h with rfl|rfl<;>rfl
theorem JV {b:Bx} {ds:List Dt} (h:yJ b=some ds):Lp (P1.lend b) ds:=by
 cases b with
 |z d=>cases d<;>cases h;exact .inl rfl
 |l d=>cases h;exact .inr rfl
 |o d=>cases h;exact .inr rfl
 |n d=>cases h
 |m d _=>cases h
def aq (i:Nat) (c:α->Bx) (a:α) (h:Hy ρ i=some (c a)):R (gv i) ρ c:=⟨a,none,fun _=>h⟩
def lW (i:Nat) (e:α->Dt) (a:List α) {b:Bx} (h:Lp b (a.map e)) (hi:ρ[i]?=some (some b)):RL (gv i) ρ e:=⟨a,none,b,h.Ni,fun _=>h.get hi⟩
def rO (d:Dt) (e:α->Dt) (a:α) (h:d=e a):R (cB d) ρ (zE e):=⟨a,none,fun _=>by rw[h];rfl⟩
def zm (a:R f ρ (zE e)):R f ρ (zE (eO e)):=⟨some a.v,a.D,a.ok⟩
def Ce {e:α->Dt}:R (cB .non) ρ (zE (eO e)):=⟨none,none,fun _=>rfl⟩
def aal [Inhabited α] (a:R f ρ (zE (eO e))):R f ρ (zE e):=⟨a.v.getD default,bG a.D (some (a.v.isSome=true)),fun h=>by
 obtain⟨h1,h2⟩:=aB h
 rw[a.ok h1]
 have h2:a.v.isSome=true:=h2
 cases hv:a.v with
 |none=>rw[hv] at h2;cases h2
 |some x=>rfl⟩
def Yk (a:R f ρ (oE e)):R (b1 wO f) ρ (zE (eL e)):=⟨a.v,a.D,fun h=>by simp only[b1,a.ok h,bnd,wO]⟩
def ou (a:R f ρ (zE e)):R (b1 wO f) ρ (zE e):=⟨a.v,a.D,fun h=>by simp only[b1,a.ok h,bnd,wO]⟩
def jE (a:R fa ρ (zE eI)) (b:R fb ρ (zE eI)):R (b2 dh fa fb) ρ (zE eI):=⟨a.v+b.v,bG a.D b.D,fun h=>by
 obtain⟨h1,h2⟩:=aB h
 simp only[b2,a.ok h1,b.ok h2,bnd,dh]⟩
def aam (a:R fa ρ (zE eI)) (b:R fb ρ (zE eI)):R (b2 subB fa fb) ρ (zE eI):=⟨a.v - b.v,bG a.D b.D,fun h=>by
 obtain⟨h1,h2⟩:=aB h
 simp only[b2,a.ok h1,b.ok h2,bnd,i2]⟩
def Mul (a b:Int):Prop:=(-18446744073709551616 < a/\a < 18446744073709551616)\/(-18446744073709551616 < b/\b < 18446744073709551616)
def aem (a:R fa ρ (zE eI)) (b:R fb ρ (zE eI)):R (b2 uY fa fb) ρ (zE eI):=⟨a.v * b.v,bG (bG a.D b.D) (some (Mul a.v b.v)),fun h=>by
 obtain⟨h,h3⟩:=aB h
 obtain⟨h1,h2⟩:=aB h
 simp only[b2,a.ok h1,b.ok h2,bnd]
 exact zk h3⟩
def xq (n:Int) (hn : -18446744073709551616 < n/\n < 18446744073709551616) (b:R fb ρ (zE eI)):R (b2 uY (cB (.int n)) fb) ρ (zE eI):=⟨n * b.v,b.D,fun h=>by
 simp only[b2,b.ok h,bnd,cB]
 exact zk (.inl hn)⟩
def Wn (a:R fa ρ (zE eI)) (n:Int) (hn : -18446744073709551616 < n/\n < 18446744073709551616):R (b2 uY fa (cB (.int n))) ρ (zE eI):=⟨a.v * n,a.D,fun h=>by
 simp only[b2,a.ok h,bnd,cB]
 exact zk (.inr hn)⟩
def U3 (a:R fa ρ (zE eI)) (b:R fb ρ (zE eI)):R (b2 yq fa fb) ρ (zE eI):=⟨a.v / b.v,bG (bG a.D b.D) (some (0 < b.v/\b.v < 1073741824)),fun h=>by
 obtain⟨h,h3⟩:=aB h
 obtain⟨h1,h2⟩:=aB h
 have h3:0 < b.v/\b.v < 1073741824:=h3
 simp only[b2,a.ok h1,b.ok h2,bnd,i2,zk h3]⟩
def Dw (a:R fa ρ (zE eI)) (n:Int) (hn:0 < n/\n < 1073741824):R (b2 yq fa (cB (.int n))) ρ (zE eI):=⟨a.v / n,a.D,fun h=>by
 simp only[b2,a.ok h,bnd,i2,cB,zk hn]⟩
def G9 (a:R fa ρ (zE eI)) (b:R fb ρ (zE eI)):R (b2 nj fa fb) ρ (zE eI):=⟨a.v % b.v,bG (bG a.D b.D) (some (0 < b.v)),fun h=>by
 obtain⟨h,h3⟩:=aB h
 obtain⟨h1,h2⟩:=aB h
 have h3:0 < b.v:=h3
 simp only[b2,a.ok h1,b.ok h2,bnd,i2,zk h3]⟩
def nY (a:R fa ρ (zE eI)) (n:Int) (hn:0 < n):R (b2 nj fa (cB (.int n))) ρ (zE eI):=⟨a.v % n,a.D,fun h=>by
 simp only[b2,a.ok h,bnd,i2,cB,zk hn]⟩
def afM (a b:Int) (n:Nat) (h:0<=b/\b<=1000/\a.natAbs < 18446744073709551616) (hb:b.toNat=n):R (b2 acK (cB (.int a)) (cB (.int b))) ρ (zE eI):=⟨a ^ n,none,fun _=>by
 simp only[b2,bnd,cB]
 show ((if 0<=b/\b<=1000/\a.natAbs < 2 ^ 64 then some (Dt.int (a ^ b.toNat)) else none).bind fun d=>some (Bx.z d))=_
 rw[zk h,hb]
 rfl⟩
def ahX (a:R fa ρ (zE eI)) (b:R fb ρ (zE eI)):R (b2 leB fa fb) ρ (zE eB):=⟨decide (a.v<=b.v),bG a.D b.D,fun h=>by
 obtain⟨h1,h2⟩:=aB h
 simp only[b2,a.ok h1,b.ok h2,bnd,i2]⟩
def akt (a:R fa ρ (zE eI)) (b:R fb ρ (zE eI)):R (b2 gtB fa fb) ρ (zE eB):=⟨decide (b.v < a.v),bG a.D b.D,fun h=>by
 obtain⟨h1,h2⟩:=aB h
 simp only[b2,a.ok h1,b.ok h2,bnd,i2]⟩
def x_ge (a:R fa ρ (zE eI)) (b:R fb ρ (zE eI)):R (b2 geB fa fb) ρ (zE eB):=⟨decide (b.v<=a.v),bG a.D b.D,fun h=>by
 obtain⟨h1,h2⟩:=aB h
 simp only[b2,a.ok h1,b.ok h2,bnd,i2]⟩
def aan (a:R fa ρ (zE eI)) (b:R fb ρ (zE eI)):R (b2 Y5 fa fb) ρ (zE eB):=⟨decide (a.v < b.v),bG a.D b.D,fun h=>by
 obtain⟨h1,h2⟩:=aB h
 simp only[b2,a.ok h1,b.ok h2,bnd,Y5]⟩
def U4 (x y:Str):Bool:=decide (x.cps.toList < y.cps.toList)
def ahY (a:R fa ρ (zE eS)) (b:R fb ρ (zE eS)):R (b2 Y5 fa fb) ρ (zE eB):=⟨U4 a.v b.v,bG a.D b.D,fun h=>by
 obtain⟨h1,h2⟩:=aB h
 simp only[b2,a.ok h1,b.ok h2,bnd,Y5,U4]⟩
end
class Eqs {α:Type} [DecidableEq α] (e:α->Dt) (n:outParam Nat):Prop where
 eq:∀ a b,Jg (e a) (e b)=some (decide (a=b))
 dp:∀ a,Br (e a)<=n
class Non {α:Type} (e:α->Dt):Prop where
 l:∀ a,Jg .non (e a)=some false
 r:∀ a,Jg (e a) .non=some false
instance:Eqs eI 1:=⟨fun a b=>rfl,fun a=>by simp[Br]⟩
instance:Eqs eB 1:=⟨fun a b=>rfl,fun a=>by simp[Br]⟩
instance:Eqs eS 1:=⟨fun a b=>rfl,fun a=>by simp[Br]⟩
instance:Non eI:=⟨fun a=>rfl,fun a=>rfl⟩
instance:Non eB:=⟨fun a=>rfl,fun a=>rfl⟩
instance:Non eS:=⟨fun a=>rfl,fun a=>rfl⟩
section
variable {α β γ δ:Type} [DecidableEq α] [DecidableEq β] [DecidableEq γ] [DecidableEq δ] {e:α->Dt} {e':β->Dt} {e'':γ->Dt} {e3:δ->Dt} {n m k l:Nat}
theorem JW [Eqs e n]:∀ xs ys:List α,qT (xs.map e) (ys.map e)=some (decide (xs=ys))
 |[],[]=>by simp[qT]
 |[],y::ys=>by simp[qT]
 |x::xs,[]=>by simp[qT]
 |x::xs,y::ys=>by
  simp only[zg,qT,Eqs.eq,JW xs ys]
  congr 1
  by_cases h:x=y<;>by_cases h':xs=ys<;>simp[h,h']
theorem JX [Eqs e n]:∀ xs:List α,yZ (xs.map e)<=n
 |[]=>by simp[yZ]
 |x::xs=>by
  have:=Eqs.dp (e:=e) x
  have:=JX xs
  simp only[zg,yZ]
  omega
instance [Eqs e n]:Eqs (eL e) (n+1):=⟨fun a b=>JW a b,fun a=>by simp only[Br];have:=JX (e:=e) a;omega⟩
instance [Eqs e n]:Eqs (eT e) (n+1):=⟨fun a b=>JW a b,fun a=>by simp only[Br];have:=JX (e:=e) a;omega⟩
instance:Non (eL e):=⟨fun a=>rfl,fun a=>rfl⟩
instance:Non (eT e):=⟨fun a=>rfl,fun a=>rfl⟩
instance:Non (eP1 e):=⟨fun a=>rfl,fun a=>rfl⟩
instance:Non (Fl e e'):=⟨fun a=>rfl,fun a=>rfl⟩
instance:Non (eP3 e e' e''):=⟨fun a=>rfl,fun a=>rfl⟩
instance:Non (eP4 e e' e'' e3):=⟨fun a=>rfl,fun a=>rfl⟩
instance [Eqs e n]:Eqs (eP1 e) (n+1):=⟨fun a b=>by
 simp only[Jh,qT,Eqs.eq,ku],fun a=>by
 have:=Eqs.dp (e:=e) a
 simp only[Br,yZ];omega⟩
instance [Eqs e n] [Eqs e' m]:Eqs (Fl e e') (max n m+1):=⟨fun a b=>by
 obtain⟨a,a'⟩:=a;obtain⟨b,b'⟩:=b
 simp only[Jh,qT,Eqs.eq,Prod.mk.injEq,Bool.decide_and,ku],fun a=>by
 have:=Eqs.dp (e:=e) a.1;have:=Eqs.dp (e:=e') a.2
 simp only[Br,yZ];omega⟩
instance [Eqs e n] [Eqs e' m] [Eqs e'' k]:Eqs (eP3 e e' e'') (max n (max m k)+1):=⟨fun a b=>by
 obtain⟨a,a',a2⟩:=a;obtain⟨b,b',b2⟩:=b
 simp only[Jh,qT,Eqs.eq,Prod.mk.injEq,Bool.decide_and,ku],fun a=>by
 have:=Eqs.dp (e:=e) a.1;have:=Eqs.dp (e:=e') a.2.1;have:=Eqs.dp (e:=e'') a.2.2
 simp only[Br,yZ];omega⟩
instance [Eqs e n] [Eqs e' m] [Eqs e'' k] [Eqs e3 l]:Eqs (eP4 e e' e'' e3) (max n (max m (max k l))+1):=⟨fun a b=>by
 obtain⟨a,a',a2,a3⟩:=a;obtain⟨b,b',b2,b3⟩:=b
 simp only[Jh,qT,Eqs.eq,Prod.mk.injEq,Bool.decide_and,ku],fun a=>by
 have:=Eqs.dp (e:=e) a.1;have:=Eqs.dp (e:=e') a.2.1;have:=Eqs.dp (e:=e'') a.2.2.1;have:=Eqs.dp (e:=e3) a.2.2.2
 simp only[Br,yZ];omega⟩
instance [Eqs e n] [Non e]:Eqs (eO e) (n+1):=⟨fun a b=>by
 cases a with
 |none=>cases b with
  |none=>exact rfl
  |some b=>exact (Non.l (e:=e) b).trans (by simp)
 |some a=>cases b with
  |none=>exact (Non.r (e:=e) a).trans (by simp)
  |some b=>exact (Eqs.eq (e:=e) a b).trans (by simp),fun a=>by
 cases a with
 |none=>show Br .non<=n+1;simp[Br]
 |some a=>exact Nat.le_succ_of_le (Eqs.dp (e:=e) a)⟩
end
section
variable {α β γ δ:Type} {ρ:Ev} {f fa fb fc:Ev->Option Bx} {p q:Ev->Option Bool} {fs:Ev->Option (List Bx)} {e:α->Dt} {e':β->Dt}
def x_eq [DecidableEq α] {n:Nat} [Eqs e n] (hn:n<=100) (a:R fa ρ (zE e)) (b:R fb ρ (zE e)):R (b2 eqB fa fb) ρ (zE eB):=⟨decide (a.v=b.v),bG a.D b.D,fun h=>by
 obtain⟨h1,h2⟩:=aB h
 have:=Eqs.dp (e:=e) a.v
 simp only[b2,a.ok h1,b.ok h2,bnd,eqB,uX,toD,ZH,or_self,qA,Eqs.eq]
 rw[zk (by omega)]⟩
def xu [DecidableEq α] {n:Nat} [Eqs e n] (hn:n<=100) (a:R fa ρ (zE e)) (b:R fb ρ (zE e)):R (b2 yp fa fb) ρ (zE eB):=⟨!decide (a.v=b.v),bG a.D b.D,fun h=>by
 obtain⟨h1,h2⟩:=aB h
 have:=Eqs.dp (e:=e) a.v
 simp only[b2,a.ok h1,b.ok h2,bnd,yp,uX,toD,ZH,or_self,qA,Eqs.eq]
 rw[zk (by omega)]⟩
def aao (a:R fa ρ (zE (eO e))) (hn:∀ x,Uw (.z (e x))=false):R (b2 isB fa (cB .non)) ρ (zE eB):=⟨a.v.isNone,a.D,fun h=>by
 simp only[b2,a.ok h,bnd,cB,isB]
 cases hv:a.v with
 |none=>rfl
 |some x=>simp only[Option.isNone_some,hn]⟩
def Hf (a:R fa ρ (zE eB)) (b:R fb ρ (zE eB)):R (Mz fa fb) ρ (zE eB):=⟨a.v&&b.v,bG a.D (Gd (a.v=true) b.D),fun h=>by
 obtain⟨h1,h2⟩:=aB h
 simp only[Mz,a.ok h1,bnd,OJ]
 cases hv:a.v with
 |true=>simp only[QR,Bool.true_and];exact b.ok (lV h2 hv)
 |false=>simp only[ZH,qA,Bool.false_and]⟩
def JZ (a:R fa ρ (zE eB)):R (tV fa) ρ tE:=⟨a.v,a.D,fun h=>by simp only[tV,a.ok h,bnd,XD]⟩
def aap (a:R fa ρ (zE eS)):R (tV fa) ρ tE:=⟨decide (a.v.length≠0),a.D,fun h=>by
 simp only[tV,a.ok h,bnd,XD]
 congr 1
 exact Bool.eq_iff_iff.mpr (by simp)⟩
def ahZ (a:R fa ρ (zE (eT e))):R (tV fa) ρ tE:=⟨!a.v.isEmpty,a.D,fun h=>by
 simp only[tV,a.ok h,bnd,XD,List.isEmpty_map]⟩
def gn {g:Bx->Bx->Option Bx} (a:R (b2 g fa fb) ρ (zE eB)):R (qK g fa fb) ρ tE:=⟨a.v,a.D,fun h=>by simp only[qK,a.ok h,bnd,OJ]⟩
def aaq (a:R p ρ tE) (b:R q ρ tE):R (O1 p q) ρ tE:=⟨a.v&&b.v,bG a.D (Gd (a.v=true) b.D),fun h=>by
 obtain⟨h1,h2⟩:=aB h
 simp only[O1,a.ok h1,bnd]
 cases hv:a.v with
 |true=>simp only[QR,Bool.true_and];exact b.ok (lV h2 hv)
 |false=>simp only[ZH,qA,Bool.false_and]⟩
def Ge (a:R p ρ tE) (b:R q ρ tE):R (G4 p q) ρ tE:=⟨a.v||b.v,bG a.D (Gd (a.v=false) b.D),fun h=>by
 obtain⟨h1,h2⟩:=aB h
 simp only[G4,a.ok h1,bnd]
 cases hv:a.v with
 |true=>simp only[QR,Bool.true_or]
 |false=>simp only[ZH,qA,Bool.false_or];exact b.ok (lV h2 hv)⟩
def zp (a:R p ρ tE):R (Bm p) ρ tE:=⟨!a.v,a.D,fun h=>by simp only[Bm,a.ok h,bnd]⟩
def aku {g g':Bx->Bx->Option Bx} (ab:R (b2 g fa fb) ρ (zE eB)) (bc:R (b2 g' fb fc) ρ (zE eB)):R (ch3 g g' fa fb fc) ρ (zE eB):=⟨ab.v&&bc.v,bG ab.D (Gd (ab.v=true) bc.D),fun h=>by
 obtain⟨h1,h3⟩:=aB h
 have e1:=ab.ok h1
 simp only[b2] at e1
 obtain⟨x,ex,e1⟩:=bind_some e1
 obtain⟨y,ey,e1⟩:=bind_some e1
 simp only[ch3,ex,ey,bnd,e1,OJ]
 cases hv:ab.v with
 |true=>
  have e2:=bc.ok (lV h3 hv)
  simp only[b2,ey,bnd] at e2
  simp only[QR,Bool.true_and]
  exact e2
 |false=>simp only[ZH,qA,Bool.false_and]⟩
def ac8 {c:α->Bx} (t:R p ρ tE) (a:R fa ρ c) (b:R fb ρ c):R (ifV p fa fb) ρ c:=⟨if t.v=true then a.v else b.v,bG t.D (bG (Gd (t.v=true) a.D) (Gd (t.v=false) b.D)),fun h=>by
 obtain⟨h1,h2⟩:=aB h
 obtain⟨h2,h3⟩:=aB h2
 simp only[ifV,t.ok h1,bnd]
 cases hv:t.v with
 |true=>simp only[QR];exact a.ok (lV h2 hv)
 |false=>simp only[ZH,qA];exact b.ok (lV h3 hv)⟩
end
section
variable {α β γ δ ε:Type} {ρ:Ev} {f fa fb fc fd:Ev->Option Bx} {p q:Ev->Option Bool} {fs:Ev->Option (List Bx)} {e:α->Dt} {e':β->Dt} {e'':γ->Dt} {e3:δ->Dt}
def Gf (e:α->Dt):R (dZ qP aO) ρ (zE (eT e)):=⟨[],none,fun _=>rfl⟩
def Pu (a:R fa ρ (zE e)) (b:R fb ρ (zE e')):R (dZ qP (ao fa (ao fb aO))) ρ (zE (Fl e e')):=⟨(a.v,b.v),bG a.D b.D,fun h=>by
 obtain⟨h1,h2⟩:=aB h
 simp only[dZ,ao,aO,a.ok h1,b.ok h2,bnd];rfl⟩
def qd (e:α->Dt):R aO ρ (fun xs:List α=>xs.map (zE e)):=⟨[],none,fun _=>rfl⟩
def j6 (a:R fa ρ (zE e)) (t:R fs ρ (fun xs:List α=>xs.map (zE e))):R (ao fa fs) ρ (fun xs:List α=>xs.map (zE e)):=⟨a.v::t.v,bG a.D t.D,fun h=>by
 obtain⟨h1,h2⟩:=aB h
 simp only[ao,a.ok h1,t.ok h2,bnd,zg]⟩
theorem J1:∀ xs:List α,O5 (xs.map (zE e))=some (xs.map e)
 |[]=>rfl
 |x::xs=>by simp only[zg,O5,J1 xs,bnd]
def Bv (t:R fs ρ (fun xs:List α=>xs.map (zE e))) (hl:t.v.length<=1000):R (dZ yK fs) ρ (oE e):=⟨t.v,t.D,fun h=>by
 simp only[dZ,t.ok h,bnd,yK,zh,zk hl,J1]⟩
def Px (t:R fs ρ (fun xs:List α=>xs.map (zE e))) (hl:t.v.length<=1000):R (dZ qP fs) ρ (zE (eT e)):=⟨t.v,t.D,fun h=>by
 simp only[dZ,t.ok h,bnd,qP,zh,zk hl,J1]⟩
def at' [Inhabited α] (xs:List α) (i:Int):α:=(Mv xs i).getD default
def In (n:Nat) (i:Int):Prop:=-(n:Int)<=i/\i < n
theorem Py {xs:List α} {i:Int} (h:In xs.length i):∃ x,Mv xs i=some x:=by
 obtain⟨h1,h2⟩:=h
 unfold Mv ixN
 by_cases h0:0<=i
 ·rw[zk h0,zk h2]
  exact⟨xs[i.toNat]'(by omega),kb (by omega)⟩
 ·rw[zI h0,zk h1]
  exact⟨xs[(i+xs.length).toNat]'(by omega),kb (by omega)⟩
theorem afN {xs:List α} {i:Int} {x:α} (h:Mv xs i=some x):Mv (xs.map e) i=some (e x):=by
 unfold Mv at h ⊢
 rw[zh]
 obtain⟨j,ej,h⟩:=bind_some h
 rw[ej,bnd,ZZ,h]
 rfl
theorem aar [Inhabited α] {xs:List α} {i:Int} (h:In xs.length i):Mv (xs.map e) i=some (e (at' xs i)):=by
 obtain⟨x,hx⟩:=Py h
 rw[afN hx]
 unfold at'
 rw[hx]
 rfl
theorem ac9 {b:Bx} {ds:List Dt} {i:Int} (h:yJ b=some ds):jr b (.z (.int i))=(Mv ds i).bind fun d=>some (.z d):=by
 cases b with
 |z d=>cases d<;>cases h;rfl
 |l d=>cases h;rfl
 |o d=>cases h;rfl
 |n d=>cases h
 |m d _=>cases h
def qe [Inhabited α] (a:RL fa ρ e) (b:R fb ρ (zE eI)):R (b2 jr fa fb) ρ (zE e):=⟨at' a.v b.v,bG (bG a.D b.D) (some (In a.v.length b.v)),fun h=>by
 obtain⟨h,h3⟩:=aB h
 obtain⟨h1,h2⟩:=aB h
 simp only[b2,a.ok h1,b.ok h2,bnd,ac9 a.lk,aar (show In a.v.length b.v from h3)]⟩
def aas [Inhabited α] (a:R fa ρ (zE (eT e))) (b:R fb ρ (zE eI)):R (b2 jr fa fb) ρ (zE e):=⟨at' a.v b.v,bG (bG a.D b.D) (some (In a.v.length b.v)),fun h=>by
 obtain⟨h,h3⟩:=aB h
 obtain⟨h1,h2⟩:=aB h
 simp only[b2,a.ok h1,b.ok h2,bnd,jr,HB,aar (show In a.v.length b.v from h3)]⟩
def ch (x:Str) (i:Int):Str:=⟨#[(Mv x.cps.toList i).getD 0]⟩
def RB (a:R fa ρ (zE eS)) (b:R fb ρ (zE eI)):R (b2 jr fa fb) ρ (zE eS):=⟨ch a.v b.v,bG (bG a.D b.D) (some (In a.v.length b.v)),fun h=>by
 obtain⟨h,h3⟩:=aB h
 obtain⟨h1,h2⟩:=aB h
 obtain⟨x,hx⟩:=Py (xs:=a.v.cps.toList) (i:=b.v) (show In a.v.length b.v from h3)
 simp only[b2,a.ok h1,b.ok h2,bnd,jr,hx,ch,Option.getD_some]⟩
def tU (a:R fa ρ (zE e)) (g:α->β) (e':β->Dt) (i:Int) (h:∀ x,jr (.z (e x)) (.z (.int i))=some (.z (e' (g x)))):R (b2 jr fa (cB (.int i))) ρ (zE e'):=⟨g a.v,a.D,fun hd=>by
 simp only[b2,a.ok hd,bnd,cB,h]⟩
def cut (xs:List α) (lo hi:Option Int):List α:=(xs.drop (HT.lU xs.length 0 lo)).take (HT.lU xs.length xs.length hi - HT.lU xs.length 0 lo)
theorem Wq (xs:List α) (lo hi:Option Int):cutD (xs.map e) lo hi=(cut xs lo hi).map e:=by
 unfold cutD cut
 rw[zh,List.map_take,List.map_drop]
abbrev pE:Option Int->Option Int:=fun o=>o
def Gg:R iM ρ pE:=⟨none,none,fun _=>rfl⟩
def Cg (a:R fa ρ (zE eI)):R (lq fa) ρ pE:=⟨some a.v,a.D,fun h=>by simp only[lq,a.ok h,bnd,afB]⟩
variable {fl fh:Ev->Option (Option Int)}
theorem ada {b:Bx} {ds:List Dt} {lo hi:Option Int} (h:yJ b=some ds):slB b lo hi=some (.o (cutD ds lo hi)):=by
 cases b with
 |z d=>cases d<;>cases h;rfl
 |l d=>cases h;rfl
 |o d=>cases h;rfl
 |n d=>cases h
 |m d _=>cases h
def adb (a:RL fa ρ e) (l:R fl ρ pE) (u:R fh ρ pE):R (Fj fa fl fh) ρ (oE e):=⟨cut a.v l.v u.v,bG a.D (bG l.D u.D),fun h=>by
 obtain⟨h1,h⟩:=aB h
 obtain⟨h2,h3⟩:=aB h
 simp only[Fj,a.ok h1,l.ok h2,u.ok h3,bnd,ada a.lk,Wq]⟩
def J2 (a:R fa ρ (zE (eT e))) (l:R fl ρ pE) (u:R fh ρ pE):R (Fj fa fl fh) ρ (zE (eT e)):=⟨cut a.v l.v u.v,bG a.D (bG l.D u.D),fun h=>by
 obtain⟨h1,h⟩:=aB h
 obtain⟨h2,h3⟩:=aB h
 simp only[Fj,a.ok h1,l.ok h2,u.ok h3,bnd,slB,Wq]⟩
def aat (a:R fa ρ (zE eS)) (l:R fl ρ pE) (u:R fh ρ pE):R (Fj fa fl fh) ρ (zE eS):=⟨Txt.slice a.v l.v u.v,bG a.D (bG l.D u.D),fun h=>by
 obtain⟨h1,h⟩:=aB h
 obtain⟨h2,h3⟩:=aB h
 simp only[Fj,a.ok h1,l.ok h2,u.ok h3,bnd,slB]⟩
def Ms (n:Nat):Prop:=n<=1000000
def J3 (a:R fa ρ (zE eS)) (b:R fb ρ (zE eS)):R (b2 dh fa fb) ρ (zE eS):=⟨a.v++b.v,bG (bG a.D b.D) (some (Ms (a.v.length+b.v.length))),fun h=>by
 obtain⟨h,h3⟩:=aB h
 obtain⟨h1,h2⟩:=aB h
 simp only[b2,a.ok h1,b.ok h2,bnd,dh,zk (show a.v.length+b.v.length<=Rj from h3)]⟩
def U5 (a:R fa ρ (zE (eT e))) (b:R fb ρ (zE (eT e))):R (b2 dh fa fb) ρ (zE (eT e)):=⟨a.v++b.v,bG (bG a.D b.D) (some (Ms (a.v.length+b.v.length))),fun h=>by
 obtain⟨h,h3⟩:=aB h
 obtain⟨h1,h2⟩:=aB h
 simp only[b2,a.ok h1,b.ok h2,bnd,dh,zh,zk (show a.v.length+b.v.length<=Rj from h3),zE,eT,Zl]⟩
theorem aau {b b':Bx} {ds ds':List Dt} (h:yJ b=some ds) (h':yJ b'=some ds') (hl:ds.length+ds'.length<=Rj):dh b b'=some (.o (ds++ds')):=by
 cases b with
 |z d=>
  cases d<;>cases h
  cases b' with
  |z d'=>cases d'<;>cases h';exact zk hl
  |l d'=>cases h';exact zk hl
  |o d'=>cases h';exact zk hl
  |n d'=>cases h'
  |m d'=>cases h'
 |l d=>
  cases h
  cases b' with
  |z d'=>cases d'<;>cases h';exact zk hl
  |l d'=>cases h';exact zk hl
  |o d'=>cases h';exact zk hl
  |n d'=>cases h'
  |m d'=>cases h'
 |o d=>
  cases h
  cases b' with
  |z d'=>cases d'<;>cases h';exact zk hl
  |l d'=>cases h';exact zk hl
  |o d'=>cases h';exact zk hl
  |n d'=>cases h'
  |m d'=>cases h'
 |n d=>cases h
 |m d _=>cases h
def afO (a:RL fa ρ e) (b:RL fb ρ e):R (b2 dh fa fb) ρ (oE e):=⟨a.v++b.v,bG (bG a.D b.D) (some (Ms (a.v.length+b.v.length))),fun h=>by
 obtain⟨h,h3⟩:=aB h
 obtain⟨h1,h2⟩:=aB h
 simp only[b2,a.ok h1,b.ok h2,bnd]
 rw[aau a.lk b.lk (by rw[zh,zh];exact h3)]
 simp only[oE,Zl]⟩
def afP (a:R fa ρ (zE eS)) (b:R fb ρ (zE eI)):R (b2 uY fa fb) ρ (zE eS):=⟨Txt.mul a.v b.v,bG (bG a.D b.D) (some (b.v<=1000 ∧ -1000<=b.v/\a.v.length<=1000)),fun h=>by
 obtain⟨h,h3⟩:=aB h
 obtain⟨h1,h2⟩:=aB h
 simp only[b2,a.ok h1,b.ok h2,bnd]
 exact zk h3⟩
theorem aav {b:Bx} {ds:List Dt} (h:yJ b=some ds):nq [b]=some (.z (.int ds.length)):=by
 cases b with
 |z d=>cases d<;>cases h;rfl
 |l d=>cases h;rfl
 |o d=>cases h;rfl
 |n d=>cases h
 |m d _=>cases h
theorem aaw {b:Bx} {ds:List Dt} (h:yJ b=some ds):HB b=some ds:=by
 cases b with
 |z d=>cases d<;>cases h;rfl
 |l d=>cases h;rfl
 |o d=>cases h;rfl
 |n d=>cases h
 |m d _=>cases h
def x_len (a:RL fa ρ e):R (dZ nq (ao fa aO)) ρ (zE eI):=⟨(a.v.length:Int),a.D,fun h=>by
 simp only[dZ,ao,aO,a.ok h,bnd,aav a.lk,zh]⟩
def xG (a:R fa ρ (zE (eT e))):R (dZ nq (ao fa aO)) ρ (zE eI):=⟨(a.v.length:Int),a.D,fun h=>by
 simp only[dZ,ao,aO,a.ok h,bnd,nq,HB,zh]⟩
def J4 (a:R fa ρ (zE eS)):R (dZ nq (ao fa aO)) ρ (zE eI):=⟨(a.v.length:Int),a.D,fun h=>by
 simp only[dZ,ao,aO,a.ok h,bnd,nq]⟩
def Av (a:RL fa ρ e):R (dZ uZ (ao fa aO)) ρ (zE (eT e)):=⟨a.v,a.D,fun h=>by
 simp only[dZ,ao,aO,a.ok h,bnd,uZ,aaw a.lk]⟩
def ah0 (a:R fa ρ (zE eI)):R (dZ X5 (ao fa aO)) ρ (zE eI):=⟨if a.v < 0 then -a.v else a.v,a.D,fun h=>by
 simp only[dZ,ao,aO,a.ok h,bnd,X5]⟩
def afQ (a:R fa ρ (zE eB)):R (dZ Z0 (ao fa aO)) ρ (zE eI):=⟨if a.v=true then 1 else 0,a.D,fun h=>by
 simp only[dZ,ao,aO,a.ok h,bnd,Z0]⟩
theorem NP:∀ l:List Bool,Nt (l.map eB)=some l
 |[]=>rfl
 |a::l=>by simp only[zg,Nt,NP l,bnd]
def NQ (a:RL fa ρ eB):R (dZ allB (ao fa aO)) ρ (zE eB):=⟨a.v.all id,a.D,fun h=>by
 simp only[dZ,ao,aO,a.ok h,bnd,allB,a.lk,NP]⟩
def J5 (P:Dt->Bool) (a:R fa ρ (zE e)):R (G5 P fa) ρ (zE eB):=⟨P (e a.v),a.D,fun h=>by
 simp only[G5,b1,a.ok h,bnd,uX,toD,ZH,qA]⟩
theorem strs_map:∀ l:LS_,uD (l.map eS)=some l
 |[]=>rfl
 |a::l=>by simp only[zg,uD,strs_map l,bnd]
def J6 (s:Str) (a:RL fa ρ eS):R (b1 (yr s) fa) ρ (zE eS):=⟨Txt.join s a.v,bG a.D (some ((a.v.map (·.length)).sum+a.v.length * s.length<=100000)),fun h=>by
 obtain⟨h,h4⟩:=aB h
 simp only[b1,a.ok h,bnd,yr,a.lk,strs_map]
 exact zk h4⟩
class Flat {α:Type} (e:α->Dt):Prop where
 f:∀ a,Dp (e a)=true
instance:Flat eI:=⟨fun _=>rfl⟩
instance:Flat eB:=⟨fun _=>rfl⟩
instance:Flat eS:=⟨fun _=>rfl⟩
theorem RD [DecidableEq α] {n:Nat} [Eqs e n] [Flat e] (x:α) (ys:List α):memD (e x) (ys.map e)=some (decide (x∈ys)):=by
 unfold memD
 rw[zk ⟨Flat.f x,by rw[List.all_map];exact List.all_eq_true.mpr fun y _=>Flat.f y⟩,List.any_map]
 congr 1
 rw[Bool.eq_iff_iff,List.any_eq_true,decide_eq_true_iff]
 constructor
 ·rintro⟨y,hy,h⟩
  simp only[Function.comp,Eqs.eq] at h
  by_cases e1:y=x
  ·rw[<-e1];exact hy
  ·simp only[e1,decide_false] at h
   cases h
 ·intro h
  exact⟨x,h,by simp only[Function.comp,Eqs.eq,decide_true]⟩
theorem Wr {b:Bx} {d:Dt} {ds:List Dt} (h:yJ b=some ds):inB (.z d) b=memD d ds:=by
 cases b with
 |z d'=>cases d'<;>cases h;cases d<;>rfl
 |l d'=>cases h;cases d<;>rfl
 |o d'=>cases h;cases d<;>rfl
 |n d'=>cases h
 |m d'=>cases h
def akv [DecidableEq α] {n:Nat} [Eqs e n] [Flat e] (a:R fa ρ (zE e)) (b:RL fb ρ e):R (b2 inF fa fb) ρ (zE eB):=⟨decide (a.v∈b.v),bG a.D b.D,fun h=>by
 obtain⟨h1,h2⟩:=aB h
 simp only[b2,a.ok h1,b.ok h2,bnd,inF,Wr b.lk,RD]⟩
def ah1 [DecidableEq α] {n:Nat} [Eqs e n] [Flat e] (a:R fa ρ (zE e)) (b:RL fb ρ e):R (b2 acM fa fb) ρ (zE eB):=⟨!decide (a.v∈b.v),bG a.D b.D,fun h=>by
 obtain⟨h1,h2⟩:=aB h
 simp only[b2,a.ok h1,b.ok h2,bnd,acM,Wr b.lk,RD]⟩
def ah2 (a:R fa ρ (zE eS)) (b:R fb ρ (zE eS)):R (b2 inF fa fb) ρ (zE eB):=⟨Nk a.v b.v,bG a.D b.D,fun h=>by
 obtain⟨h1,h2⟩:=aB h
 simp only[b2,a.ok h1,b.ok h2,bnd,inF,inB]⟩
end
structure AR {γ:Type} (cA:γ->List Bx->Prop) (fs:Ev->Option (List Bx)) (ρ:Ev) where
 v:γ
 D:Option Prop
 bs:List Bx
 h:cA v bs
 ok:hold D->fs ρ=some bs
section
variable {α β γ δ ε σ:Type} {ρ:Ev} {f fa fb fc fd:Ev->Option Bx} {p q:Ev->Option Bool} {fs:Ev->Option (List Bx)} {e:α->Dt} {e':β->Dt} {e'':γ->Dt} {e3:δ->Dt}
def aN:Unit->List Bx->Prop:=fun _ bs=>bs=[]
def aZ (e:α->Dt) (t:γ->List Bx->Prop):α×γ->List Bx->Prop:=fun x bs=>∃ r,bs=.z (e x.1)::r/\t x.2 r
def aL (e:α->Dt) (t:γ->List Bx->Prop):List α×γ->List Bx->Prop:=fun x bs=>∃ b r,bs=b::r/\yJ b=some (x.1.map e)/\t x.2 r
def bB:AR aN aO ρ:=⟨(),none,[],rfl,fun _=>rfl⟩
def bR {t:γ->List Bx->Prop} (a:R fa ρ (zE e)) (r:AR t fs ρ):AR (aZ e t) (ao fa fs) ρ:=⟨(a.v,r.v),bG a.D r.D,_,⟨_,rfl,r.h⟩,fun h=>by
 obtain⟨h1,h2⟩:=aB h
 simp only[ao,a.ok h1,r.ok h2,bnd]⟩
def RG {t:γ->List Bx->Prop} (a:RL fa ρ e) (r:AR t fs ρ):AR (aL e t) (ao fa fs) ρ:=⟨(a.v,r.v),bG a.D r.D,_,⟨_,_,rfl,a.lk,r.h⟩,fun h=>by
 obtain⟨h1,h2⟩:=aB h
 simp only[ao,a.ok h1,r.ok h2,bnd]⟩
def x_call {cA:γ->List Bx->Prop} {F:List Bx->Option Bx} {n:Nat} {c:α->Bx} {T:γ->α} {Df:γ->Option Prop} (S:∀ v bs,cA v bs->bs.length=n/\(hold (Df v)->F (bs.map lend)=some (c (T v)))) (a:AR cA fs ρ):R (aY n F fs) ρ c:=⟨T a.v,bG a.D (Df a.v),fun h=>by
 obtain⟨h1,h2⟩:=aB h
 obtain⟨h3,h4⟩:=S a.v a.bs a.h
 simp only[aY,a.ok h1,bnd,zk h3,h4 h2]⟩
theorem afR {g:Ev->Option Out} {n:Nat} {bs:List Bx} {c:α->Bx} (x:R g (bs.map some++List.replicate (n - bs.length) none) (fun r=>Out.rt (c r))) (h:hold x.D):fG n g bs=some (c x.v):=by
 unfold fG
 rw[x.ok h]
 rfl
variable {fi:Ev->Option (List Dt)} {gt:Dt->Ev->Option Ev} {fe:Ev->Option Bx} {is:List Nat} {n:Nat}
def afS (xs:List α) (P:α->Option Prop):Option Prop:=some (∀ x∈xs,hold (P x))
theorem RJ {fs:Ev->Option (List Dt)} {ρ1:Ev} {g:α->List Dt} {π:α->Bool}:∀ xs:List α,(∀ x∈xs,∃ ρ2,gt (e x) ρ1=some ρ2/\p ρ2=some (π x)/\(π x=true->fs ρ2=some (g x)))->Bo gt p fs ρ1 (xs.map e)=some ((xs.filter π).flatMap g)
 |[],_=>rfl
 |x::xs,h=>by
  obtain⟨ρ2,h1,h2,h3⟩:=h x (zi ..)
  have ih:=RJ (g:=g) (π:=π) xs fun y hy=>h y (zo _ hy)
  cases hp:π x with
  |true=>simp only[zg,Bo,h1,bnd,h2,hp,QR,h3 hp,ih,Kx,Kb]
  |false=>simp only[zg,Bo,h1,bnd,h2,hp,ih,Kx,ZH,qA]
theorem RK {g:α->β}:∀ xs:List α,xs.flatMap (fun x=>[e' (g x)])=(xs.map g).map e'
 |[]=>rfl
 |x::xs=>by rw[Kb,RK xs];rfl
theorem J7 {ρ1:Ev} {g:α->β} {π:α->Bool} (xs:List α) (h:∀ x∈xs,∃ ρ2,gt (e x) ρ1=some ρ2/\p ρ2=some (π x)/\(π x=true->fe ρ2=some (.z (e' (g x))))):Bq gt p fe ρ1 (xs.map e)=some (((xs.filter π).map g).map e'):=by
 rw[<-RK]
 exact RJ xs fun x hx=>let ⟨ρ2,h1,h2,h3⟩:=h x hx;⟨ρ2,h1,h2,fun hp=>by rw[h3 hp];rfl⟩
theorem comp_map {ρ1:Ev} {g:α->β} (xs:List α) (h:∀ x∈xs,∃ ρ2,gt (e x) ρ1=some ρ2/\fe ρ2=some (.z (e' (g x)))):Bq gt rZ fe ρ1 (xs.map e)=some ((xs.map g).map e'):=
 (J7 (π:=fun _=>true) xs fun x hx=>let ⟨ρ2,h1,h2⟩:=h x hx;⟨ρ2,h1,rfl,fun _=>h2⟩).trans (by rw[List.filter_eq_self.mpr fun _ _=>rfl])
def u0 (it:R fi ρ (iE e)) (ρ2:α->Ev) (hg:∀ x,gt (e x) (rY is ρ++List.replicate n none)=some (ρ2 x)) (b:∀ x,R fe (ρ2 x) (zE e')):R (fD fi gt rZ fe is n) ρ (oE e'):=⟨it.v.map fun x=>(b x).v,bG (bG it.D (some (it.v.length<=100000))) (afS it.v fun x=>(b x).D),fun h=>by
 obtain⟨h,h3⟩:=aB h
 obtain⟨h1,h2⟩:=aB h
 have h3:∀ x∈it.v,hold (b x).D:=h3
 simp only[fD,it.ok h1,bnd,zh,zk (show it.v.length<=100000 from h2),comp_map it.v fun x hx=>⟨ρ2 x,hg x,(b x).ok (h3 x hx)⟩]⟩
def Dy (it:R fi ρ (iE e)) (ρ2:α->Ev) (hg:∀ x,gt (e x) (rY is ρ++List.replicate n none)=some (ρ2 x)) (b:∀ x,R fe (ρ2 x) (zE e')) (hb:∀ x,(b x).D=none):R (fD fi gt rZ fe is n) ρ (oE e'):=⟨it.v.map fun x=>(b x).v,bG it.D (some (it.v.length<=100000)),fun h=>by
 obtain⟨h1,h2⟩:=aB h
 simp only[fD,it.ok h1,bnd,zh,zk (show it.v.length<=100000 from h2),comp_map it.v fun x hx=>⟨ρ2 x,hg x,(b x).ok (by rw[hb x];trivial)⟩]⟩
def ade (it:R fi ρ (iE e)) (ρ2:α->Ev) (hg:∀ x,gt (e x) (rY is ρ++List.replicate n none)=some (ρ2 x)) (t:∀ x,R p (ρ2 x) tE) (b:∀ x,R fe (ρ2 x) (zE e')):R (fD fi gt p fe is n) ρ (oE e'):=⟨(it.v.filter fun x=>(t x).v).map fun x=>(b x).v,bG (bG it.D (some (it.v.length<=100000))) (afS it.v fun x=>bG (t x).D (Gd ((t x).v=true) (b x).D)),fun h=>by
 obtain⟨h,h3⟩:=aB h
 obtain⟨h1,h2⟩:=aB h
 have h3:∀ x∈it.v,hold (bG (t x).D (Gd ((t x).v=true) (b x).D)):=h3
 simp only[fD,it.ok h1,bnd,zh,zk (show it.v.length<=100000 from h2),J7 it.v fun x hx=>⟨ρ2 x,hg x,(t x).ok (aB (h3 x hx)).1,fun ht=>(b x).ok (lV (aB (h3 x hx)).2 ht)⟩]⟩
def aax (it:R fi ρ (iE e)) (ρ2:α->Ev) (hg:∀ x,gt (e x) (rY is ρ++List.replicate n none)=some (ρ2 x)) (t:∀ x,R p (ρ2 x) tE) (b:∀ x,R fe (ρ2 x) (zE e')) (ht:∀ x,(t x).D=none) (hb:∀ x,(b x).D=none):R (fD fi gt p fe is n) ρ (oE e'):=⟨(it.v.filter fun x=>(t x).v).map fun x=>(b x).v,bG it.D (some (it.v.length<=100000)),fun h=>by
 obtain⟨h1,h2⟩:=aB h
 simp only[fD,it.ok h1,bnd,zh,zk (show it.v.length<=100000 from h2),J7 it.v fun x hx=>⟨ρ2 x,hg x,(t x).ok (by rw[ht x];trivial),fun _=>(b x).ok (by rw[hb x];trivial)⟩]⟩
def afT (a:RL fa ρ e):R (Jk fa) ρ (iE e):=⟨a.v,a.D,fun h=>by
 have:ZS a.b=some (a.v.map e):=by
  have:=a.lk
  revert this
  generalize a.b=b
  generalize a.v.map e=ds
  intro this
  cases b with
  |z d=>cases d<;>cases this;rfl
  |l d=>cases this;rfl
  |o d=>cases this;rfl
  |n d=>cases this
  |m d _=>cases this
 simp only[Jk,a.ok h,bnd,this]⟩
def J8 (a:R fa ρ (zE (eT e))):R (Jk fa) ρ (iE e):=⟨a.v,a.D,fun h=>by simp only[Jk,a.ok h,bnd,ZS]⟩
def chars (x:Str):LS_:=x.cps.toList.map fun c=>⟨#[c]⟩
theorem aay (x:Str):signs x=(chars x).map eS:=by
 unfold signs chars
 rw[Z3]
 rfl
def akx (a:R fa ρ (zE eS)):R (Jk fa) ρ (iE eS):=⟨chars a.v,a.D,fun h=>by simp only[Jk,a.ok h,bnd,ZS,aay]⟩
def aky (a:R fa ρ (oE e)):R (itF fa) ρ (iE e):=⟨a.v,a.D,fun h=>by simp only[itF,a.ok h,bnd,ZJ]⟩
def akz (a:R fa ρ (zE (eT e))):R (itF fa) ρ (iE e):=⟨a.v,a.D,fun h=>by simp only[itF,a.ok h,bnd,ZJ]⟩
def rng (i:Int) (n:Nat):List Int:=(List.range n).map fun k:Nat=>i+(k:Int)
theorem adf (i:Int) (n:Nat):Q6 i n=(rng i n).map eI:=by
 unfold Q6 rng
 rw[Z3]
 rfl
def Rg (j:Int):Prop:=-4611686018427387904<=j/\j < 4611686018427387904
def Dz (a:R fa ρ (zE eI)):R (Ux (ao fa aO)) ρ (iE eI):=⟨rng 0 a.v.toNat,bG a.D (some (Rg a.v)),fun h=>by
 obtain⟨h,h4⟩:=aB h
 simp only[Ux,ao,aO,a.ok h,bnd]
 show (if -(2 ^ 62)<=a.v/\a.v < 2 ^ 62 then some (Q6 0 a.v.toNat) else none)=_
 exact (zk h4).trans (by rw[adf])⟩
end
section
variable {α β γ δ ε σ τ:Type} {ρ:Ev} {f fa fb fc fd:Ev->Option Bx} {p q:Ev->Option Bool} {fs:Ev->Option (List Bx)} {e:α->Dt} {e':β->Dt} {g g1 g2 k:Ev->Option Out} {cO:γ->Out} {gt:Dt->Ev->Option Ev}
theorem u5 {ρ':Ev} (h:g1 ρ=some (.nx ρ')):aM g1 k ρ=k ρ':=by
 unfold aM
 rw[h]
 rfl
def cX (x:R (aM g (aM g1 k)) ρ cO):R (aM (aM g g1) k) ρ cO:=⟨x.v,x.D,fun h=>by
 rw[<-x.ok h]
 unfold aM
 cases g ρ with
 |none=>rfl
 |some o=>cases o<;>rfl⟩
def eF (x:R k ρ cO):R (aM eE k) ρ cO:=⟨x.v,x.D,fun h=>x.ok h⟩
def nu {is:List Nat} (x:γ) (h:cO x=.nx (kill is ρ)):R (qL is) ρ cO:=⟨x,none,fun _=>by rw[h];rfl⟩
def cY {c:α->Bx} (inj:α->γ) (a:R f ρ c) (h:∀ x,cO (inj x)=.rt (c x)) (hc:∀ x,XH (c x)=some (.rt (c x))):R (aM (dO f) k) ρ cO:=⟨inj a.v,a.D,fun hd=>by
 have:dO f ρ=some (.rt (c a.v)):=by unfold dO;rw[a.ok hd,bnd,hc]
 unfold aM
 rw[this,h]
 rfl⟩
def aaz {c:α->Bx} (i:Nat) (inj:α->γ) (a:α) (hi:ρ[i]?=some (some (c a))) (h:∀ x,cO (inj x)=.rt (c x)) (hc:∀ x,XH (c x)=some (.rt (c x))):R (aM (O6 i) k) ρ cO:=⟨inj a,none,fun hd=>by
 have:O6 i ρ=some (.rt (c a)):=by unfold O6;rw[hi];exact hc a
 unfold aM
 rw[this,h]
 rfl⟩
def cR {c:α->Bx} (i:Nat) (a:R f ρ c) (hc:∀ x,ZF ρ i (c x)=some (ρ.set i (some (c x)))) (K:∀ x,R k (ρ.set i (some (c x))) cO):R (aM (setG i f) k) ρ cO:=⟨(K a.v).v,bG a.D (K a.v).D,fun hd=>by
 obtain⟨h1,h2⟩:=aB hd
 rw[u5 (ρ':=ρ.set i (some (c a.v))) (by unfold setG;rw[a.ok h1,bnd,hc,bnd])]
 exact (K a.v).ok h2⟩
def aaA (a:R f ρ (zE e)) (ρ2:α->Ev) (hg:∀ x,gt (e x) ρ=some (ρ2 x)) (K:∀ x,R k (ρ2 x) cO):R (aM (X6 gt f) k) ρ cO:=⟨(K a.v).v,bG a.D (K a.v).D,fun hd=>by
 obtain⟨h1,h2⟩:=aB hd
 rw[u5 (ρ':=ρ2 a.v) (by unfold X6;rw[a.ok h1,bnd];simp only[hg,bnd])]
 exact (K a.v).ok h2⟩
def aaB (i:Nat) (xs:List α) (hi:ρ[i]?=some (some (.o (xs.map e)))) (a:R f ρ (zE e)) (K:∀ ys:List α,R k (ρ.set i (some (.o (ys.map e)))) cO):R (aM (Z1 i f) k) ρ cO:=⟨(K (xs++[a.v])).v,bG (bG a.D (some (Ms xs.length))) (K (xs++[a.v])).D,fun hd=>by
 obtain⟨h1,h3⟩:=aB hd
 obtain⟨h1,h2⟩:=aB h1
 have h2:xs.length<=1000000:=h2
 rw[u5 (ρ':=ρ.set i (some (.o ((xs++[a.v]).map e)))) (by
  unfold Z1
  rw[a.ok h1,bnd]
  simp only[acB,hi,zh,Zl,zg,kM]
  rw[zk (Nat.lt_of_le_of_lt h2 (by decide))])]
 exact (K _).ok h3⟩
def nQ (t:R p ρ tE) (a:R (aM g1 k) ρ cO) (b:R (aM g2 k) ρ cO):R (aM (wQ p g1 g2) k) ρ cO:=⟨if t.v=true then a.v else b.v,bG t.D (bG (Gd (t.v=true) a.D) (Gd (t.v=false) b.D)),fun hd=>by
 obtain⟨h1,h2⟩:=aB hd
 obtain⟨h2,h3⟩:=aB h2
 have e1:∀ c,t.v=c->aM (wQ p g1 g2) k ρ=aM (if c=true then g1 else g2) k ρ:=fun c hc=>by
  unfold aM wQ
  rw[t.ok h1,bnd,hc]
  cases c<;>rfl
 cases hv:t.v with
 |true=>rw[e1 true hv];simp only[QR];exact a.ok (lV h2 hv)
 |false=>rw[e1 false hv];simp only[ZH,qA];exact b.ok (lV h3 hv)⟩
def aen (E:σ->Ev) (t:R p ρ tE) (a:R g1 ρ (fun s=>Out.nx (E s))) (b:R g2 ρ (fun s=>Out.nx (E s))) (K:∀ s,R k (E s) cO):R (aM (wQ p g1 g2) k) ρ cO:=⟨(K (if t.v=true then a.v else b.v)).v,bG (bG t.D (bG (Gd (t.v=true) a.D) (Gd (t.v=false) b.D))) (K (if t.v=true then a.v else b.v)).D,fun hd=>by
 obtain⟨h,h4⟩:=aB hd
 obtain⟨h1,h2⟩:=aB h
 obtain⟨h2,h3⟩:=aB h2
 rw[u5 (ρ':=E (if t.v=true then a.v else b.v)) (by
  unfold wQ
  rw[t.ok h1,bnd]
  cases hv:t.v with
  |true=>simp only[QR];exact a.ok (lV h2 hv)
  |false=>simp only[ZH,qA];exact b.ok (lV h3 hv))]
 exact (K _).ok h4⟩
def HD (step:σ->α->σ) (P:σ->α->Option Prop):List α->σ->Prop
 |[],_=>True
 |x::xs,s=>hold (P s x)/\HD step P xs (step s x)
theorem J9 {gb:Ev->Option Out} (E:σ->Ev) (ρ2:σ->α->Ev) (hg:∀ s x,gt (e x) (E s)=some (ρ2 s x)) (body:∀ s x,R gb (ρ2 s x) (fun s=>Out.nx (E s))):∀ (xs:List α) (s:σ),HD (fun s x=>(body s x).v) (fun s x=>(body s x).D) xs s->yW gt gb (xs.map e) (E s)=some (.nx (E (xs.foldl (fun s x=>(body s x).v) s)))
 |[],s,_=>rfl
 |x::xs,s,h=>by
  simp only[zg,yW,hg,bnd,(body s x).ok h.1,kF]
  exact J9 E ρ2 hg body xs _ h.2
variable {fi:Ev->Option (List Dt)} {gb:Ev->Option Out}
def RM (E:σ->Ev) (s0:σ) (hE:ρ=E s0) (it:R fi ρ (iE e)) (ρ2:σ->α->Ev) (hg:∀ s x,gt (e x) (E s)=some (ρ2 s x)) (body:∀ s x,R gb (ρ2 s x) (fun s=>Out.nx (E s))) (K:∀ s,R k (E s) cO):R (aM (yL fi gt gb) k) ρ cO:=⟨(K (it.v.foldl (fun s x=>(body s x).v) s0)).v,bG (bG it.D (some (HD (fun s x=>(body s x).v) (fun s x=>(body s x).D) it.v s0))) (K (it.v.foldl (fun s x=>(body s x).v) s0)).D,fun hd=>by
 obtain⟨h,h4⟩:=aB hd
 obtain⟨h1,h2⟩:=aB h
 rw[u5 (ρ':=E (it.v.foldl (fun s x=>(body s x).v) s0)) (by
  unfold yL
  rw[it.ok h1,bnd]
  subst hE
  exact J9 E ρ2 hg body it.v s0 h2)]
 exact (K _).ok h4⟩
def afU (E:σ->Ev) (s0:σ) (hE:ρ=E s0) (it:R fi ρ (iE e)) (ρ2:σ->α->Ev) (hg:∀ s x,gt (e x) (E s)=some (ρ2 s x)) (body:∀ s x,R gb (ρ2 s x) (fun s=>Out.nx (E s))) (hb:∀ s x,(body s x).D=none) (K:∀ s,R k (E s) cO):R (aM (yL fi gt gb) k) ρ cO:=⟨(K (it.v.foldl (fun s x=>(body s x).v) s0)).v,bG it.D (K (it.v.foldl (fun s x=>(body s x).v) s0)).D,fun hd=>by
 obtain⟨h1,h4⟩:=aB hd
 have h2:∀ (xs:List α) (s:σ),HD (fun s x=>(body s x).v) (fun s x=>(body s x).D) xs s:=fun xs=>by
  induction xs with
  |nil=>intro s;trivial
  |cons x xs ih=>intro s;exact⟨by show hold (body s x).D;rw[hb s x];trivial,ih _⟩
 rw[u5 (ρ':=E (it.v.foldl (fun s x=>(body s x).v) s0)) (by
  unfold yL
  rw[it.ok h1,bnd]
  subst hE
  exact J9 E ρ2 hg body it.v s0 (h2 _ _))]
 exact (K _).ok h4⟩
inductive Bw (σ τ:Type) where
 |nx (s:σ)|rt (r:τ)|bk (s:σ)|ct (s:σ)
def cC (E:σ->Ev) (c:τ->Bx):Bw σ τ->Out
 |.nx s=>.nx (E s)
 |.rt r=>.rt (c r)
 |.bk s=>.bk (E s)
 |.ct s=>.ct (E s)
def qU (step:σ->α->Bw σ τ):List α->σ->Bw σ τ
 |[],s=>.nx s
 |x::xs,s=>match step s x with
  |.nx s'=>qU step xs s'
  |.ct s'=>qU step xs s'
  |.bk s'=>.nx s'
  |.rt r=>.rt r
def zq (step:σ->α->Bw σ τ) (P:σ->α->Option Prop):List α->σ->Prop
 |[],_=>True
 |x::xs,s=>hold (P s x)/\match step s x with
  |.nx s'=>zq step P xs s'
  |.ct s'=>zq step P xs s'
  |.bk _=>True
  |.rt _=>True
theorem Jm {c:τ->Bx} (E:σ->Ev) (ρ2:σ->α->Ev) (hg:∀ s x,gt (e x) (E s)=some (ρ2 s x)) (body:∀ s x,R gb (ρ2 s x) (cC E c)):∀ (xs:List α) (s:σ),zq (fun s x=>(body s x).v) (fun s x=>(body s x).D) xs s->yW gt gb (xs.map e) (E s)=some (cC E c (qU (fun s x=>(body s x).v) xs s))
 |[],s,_=>rfl
 |x::xs,s,h=>by
  obtain⟨h1,h2⟩:=h
  dsimp only at h2
  simp only[zg,yW,hg,bnd,(body s x).ok h1,qU]
  revert h2
  cases (body s x).v with
  |nx s'=>intro h2;exact Jm E ρ2 hg body xs s' h2
  |ct s'=>intro h2;exact Jm E ρ2 hg body xs s' h2
  |bk s'=>intro _;rfl
  |rt r=>intro _;rfl
theorem DG (step:σ->α->Bw σ τ):∀ (xs:List α) (s:σ),(∃ s',qU step xs s=.nx s')\/∃ r,qU step xs s=.rt r
 |[],s=>.inl ⟨s,rfl⟩
 |x::xs,s=>by
  unfold qU
  cases step s x with
  |nx s'=>exact DG step xs s'
  |ct s'=>exact DG step xs s'
  |bk s'=>exact .inl ⟨s',rfl⟩
  |rt r=>exact .inr ⟨r,rfl⟩
def behind (r:Bw σ τ) (inj:τ->γ) (K:σ->γ):γ:=match r with
 |.rt r=>inj r
 |.nx s=>K s
 |.bk s=>K s
 |.ct s=>K s
def DK (r:Bw σ τ) (K:σ->Prop):Prop:=match r with
 |.rt _=>True
 |.nx s=>K s
 |.bk s=>K s
 |.ct s=>K s
def Ws (r:Bw σ τ) (K:σ->Option Prop):Option Prop:=some (DK r fun s=>hold (K s))
def R.to {α β:Type} {f:Ev->Option β} {ρ:Ev} {c:α->β} (x:R f ρ c) (v':α) (D':Option Prop) (hv:x.v=v':=by kernel_rfl) (hD:x.D=D':=by kernel_rfl):R f ρ c:=⟨v',D',fun h=>by
 subst hv hD
 exact x.ok h⟩
def aaC {c:τ->Bx} (E:σ->Ev) (s0:σ) (hE:ρ=E s0) (it:R fi ρ (iE e)) (ρ2:σ->α->Ev) (hg:∀ s x,gt (e x) (E s)=some (ρ2 s x)) (body:∀ s x,R gb (ρ2 s x) (cC E c)) (inj:τ->γ) (hj:∀ r,cO (inj r)=.rt (c r)) (K:∀ s,R k (E s) cO):R (aM (yL fi gt gb) k) ρ cO:=⟨behind (qU (fun s x=>(body s x).v) it.v s0) inj fun s=>(K s).v,bG (bG it.D (some (zq (fun s x=>(body s x).v) (fun s x=>(body s x).D) it.v s0))) (Ws (qU (fun s x=>(body s x).v) it.v s0) fun s=>(K s).D),fun hd=>by
 obtain⟨h,h4⟩:=aB hd
 obtain⟨h1,h2⟩:=aB h
 have e1:yL fi gt gb ρ=some (cC E c (qU (fun s x=>(body s x).v) it.v s0)):=by
  unfold yL
  rw[it.ok h1,bnd]
  subst hE
  exact Jm E ρ2 hg body it.v s0 h2
 rcases DG (fun s x=>(body s x).v) it.v s0 with⟨s',es⟩|⟨r,es⟩
 ·rw[es] at e1 h4 ⊢
  rw[u5 e1]
  exact (K s').ok h4
 ·rw[es] at e1 ⊢
  show aM (yL fi gt gb) k ρ=some (cO (inj r))
  unfold aM
  rw[e1,hj]
  rfl⟩
theorem afV {i:Nat} {ds:List Dt} (h:ρ[i]?=some (some (.o ds))):MF i gt gb ρ=yW gt gb ds (ρ.set i (some (.l ds))):=by unfold MF;rw[h]
def adg {c:τ->Bx} (i:Nat) {ρ':Ev} (xs:List α) (hv:MF i gt gb ρ=yW gt gb (xs.map e) ρ') (E:σ->Ev) (s0:σ) (hE:ρ'=E s0) (ρ2:σ->α->Ev) (hg:∀ s x,gt (e x) (E s)=some (ρ2 s x)) (body:∀ s x,R gb (ρ2 s x) (cC E c)) (inj:τ->γ) (hj:∀ r,cO (inj r)=.rt (c r)) (K:∀ s,R k (E s) cO):R (aM (MF i gt gb) k) ρ cO:=⟨behind (qU (fun s x=>(body s x).v) xs s0) inj fun s=>(K s).v,bG (some (zq (fun s x=>(body s x).v) (fun s x=>(body s x).D) xs s0)) (Ws (qU (fun s x=>(body s x).v) xs s0) fun s=>(K s).D),fun hd=>by
 obtain⟨h2,h4⟩:=aB hd
 have e1:MF i gt gb ρ=some (cC E c (qU (fun s x=>(body s x).v) xs s0)):=by
  rw[hv,hE]
  exact Jm E ρ2 hg body xs s0 h2
 rcases DG (fun s x=>(body s x).v) xs s0 with⟨s',es⟩|⟨r,es⟩
 ·rw[es] at e1 h4 ⊢
  rw[u5 e1]
  exact (K s').ok h4
 ·rw[es] at e1 ⊢
  show aM (MF i gt gb) k ρ=some (cO (inj r))
  unfold aM
  rw[e1,hj]
  rfl⟩
class Ky {κ:Type} (c:κ->Key):Prop where
 inj:∀ a b,c a=c b->a=b
abbrev kS:Str->Key:=Sum.inr
abbrev kI:Int->Key:=Sum.inl
instance:Ky kS:=⟨fun _ _ h=>by cases h;rfl⟩
instance:Ky kI:=⟨fun _ _ h=>by cases h;rfl⟩
abbrev mE (e:α->Dt):List (Str×α)->Bx:=fun m=>.m (m.map fun q=>(kS q.1,e q.2)) none
abbrev nE (e:α->Dt):List (Str×α)->Bx:=fun m=>.n (m.map fun q=>(kS q.1,e q.2))
section
variable {κ:Type} [DecidableEq κ] {c:κ->Key}
def look [Inhabited α] (m:List (κ×α)) (x:κ):α:=((m.find? fun q=>decide (q.1=x)).map (·.2)).getD default
def has (m:List (κ×α)) (x:κ):Bool:=m.any fun q=>decide (q.1=x)
def put (m:List (κ×α)) (x:κ) (a:α):List (κ×α):=if has m x=true then m.map (fun q=>if q.1=x then (q.1,a) else q) else m++[(x,a)]
theorem aeo [Ky c] (a b:κ):decide (c a=c b)=decide (a=b):=by
 by_cases h:a=b
 ·rw[h];simp
 ·rw[ZT h,ZT fun z=>h (Ky.inj (c:=c) _ _ z)]
theorem aaD [Ky c] (m:List (κ×α)) (x:κ):JN (m.map fun q=>(c q.1,e q.2)) (c x)=((m.find? fun q=>decide (q.1=x)).map (·.2)).map e:=by
 unfold JN
 rw[List.find?_map]
 simp only[Option.map_map,Function.comp_def,aeo]
theorem aaE [Ky c] [Inhabited α] {m:List (κ×α)} {x:κ} (h:has m x=true):JN (m.map fun q=>(c q.1,e q.2)) (c x)=some (e (look m x)):=by
 rw[aaD]
 unfold look
 unfold has at h
 rw[List.any_eq_true] at h
 obtain⟨q,hq,hx⟩:=h
 cases hf:m.find? fun q=>decide (q.1=x) with
 |none=>exact absurd hx (by simpa using List.find?_eq_none.mp hf q hq)
 |some q=>rfl
theorem adh [Ky c] (m:List (κ×α)) (x:κ) (a:α):Uy (m.map fun q=>(c q.1,e q.2)) (c x) (e a)=(put m x a).map fun q=>(c q.1,e q.2):=by
 unfold Uy put has
 rw[List.any_map]
 simp only[Function.comp_def,aeo]
 by_cases h:(m.any fun q=>decide (q.1=x))=true
 ·rw[zk h,zk h]
  rw[Z3,Z3]
  refine qr fun q _=>?_
  simp only[Function.comp]
  by_cases hq:q.1=x
  ·simp[hq]
  ·have h':¬ c q.1=c x:=fun z=>hq (Ky.inj (c:=c) _ _ z)
   simp[hq,h']
 ·rw[zI h,zI h]
  simp
end
theorem RN:∀ m:List (Str×α),X8 (m.map fun q=>(kS q.1,e q.2))=some (m.map (·.1))
 |[]=>rfl
 |q::m=>by rw[zg,X8,RN m,bnd];rfl
def afW [Inhabited α] (a:R fa ρ (nE e)) (b:R fb ρ (zE eS)):R (b2 Nv fa fb) ρ (zE e):=⟨look a.v b.v,bG (bG a.D b.D) (some (has a.v b.v=true)),fun h=>by
 obtain⟨h,h3⟩:=aB h
 obtain⟨h1,h2⟩:=aB h
 simp only[b2,a.ok h1,b.ok h2,bnd,Nv,kyB,aaE (c:=kS) (show has a.v b.v=true from h3)]⟩
def afX (e:α->Dt):R (fun _=>some (.m [] none)) ρ (mE e):=⟨[],none,fun _=>rfl⟩
def adi (a:R fa ρ (nE e)):R (dZ JQ (ao fa aO)) ρ (oE eS):=⟨uE (a.v.map (·.1)),bG a.D (some (a.v.length < 64)),fun h=>by
 obtain⟨h,h4⟩:=aB h
 simp only[dZ,ao,aO,a.ok h,bnd,JQ,nE,RN,zh,zk (show a.v.length < 64 from h4),Z3]⟩
end
section
variable {α β:Type} {ρ:Ev} {fa f:Ev->Option Bx} {fs:Ev->Option LS_} {fi:Ev->Option (List Dt)} {e:α->Dt}
abbrev sE:LS_->LS_:=fun ys=>ys
def afY (i:R fi ρ (iE e)) (a:R f ρ (oE eS)):R (setC fi f) ρ sE:=⟨a.v,bG (bG i.D (some (i.v.length < 4000))) a.D,fun h=>by
 obtain⟨h,h3⟩:=aB h
 obtain⟨h1,h2⟩:=aB h
 simp only[setC,i.ok h1,bnd,zh,zk (show i.v.length < 4000 from h2),a.ok h3,aek,HB,strs_map]⟩
def afZ (a:R fs ρ sE):R (Wm fs) ρ (zE eI):=⟨((zf a.v).length:Int),bG a.D (some (a.v.length < 4000)),fun h=>by
 obtain⟨h,h4⟩:=aB h
 simp only[Wm,a.ok h,bnd]
 exact zk h4⟩
end
end P1
end
section
namespace P1
open PySem PySem.Spec PyProof.Rows L2 S1 S6
class uF {α:Type} (e:α->Dt) where
 k:α->Key
 ok:∀ a,ahQ (e a)=some (k a)
 inj:∀ a b,k a=k b->a=b
 same:∀ a b,Wh (k a) (k b)=true
instance:uF eI:=⟨fun i=>.inl i,fun _=>rfl,fun a b h=>by cases h;rfl,fun _ _=>rfl⟩
instance:uF eS:=⟨fun i=>.inr i,fun _=>rfl,fun a b h=>by cases h;rfl,fun _ _=>rfl⟩
class Kys {α:Type} (e:α->Dt) where
 k:α->List Key
 ok:∀ a,Wi (e a)=some (k a)
 inj:∀ a b,k a=k b->a=b
 shp:∀ a b,acY (k a) (k b)=true
 ne:∀ a,(k a).isEmpty=false
class af0 {α:Type} (e:α->Dt) [Kys e]:Prop where
 tx:∀ a,ac5 (Kys.k e a)=true
section
variable {α β γ δ:Type} {e:α->Dt} {e':β->Dt} {e'':γ->Dt} {e3:δ->Dt}
instance [uF e] [uF e']:Kys (Fl e e'):=⟨fun q=>[uF.k e q.1,uF.k e' q.2],fun q=>by simp only[Wi,Rt,uF.ok,bnd],fun a b h=>by
 simp only[kG,and_true] at h
 exact Prod.ext (uF.inj _ _ h.1) (uF.inj _ _ h.2),fun a b=>by simp[acY,uF.same],fun _=>rfl⟩
instance [uF e] [uF e'] [uF e'']:Kys (eP3 e e' e''):=⟨fun q=>[uF.k e q.1,uF.k e' q.2.1,uF.k e'' q.2.2],fun q=>by simp only[Wi,Rt,uF.ok,bnd],fun a b h=>by
 simp only[kG,and_true] at h
 exact Prod.ext (uF.inj _ _ h.1) (Prod.ext (uF.inj _ _ h.2.1) (uF.inj _ _ h.2.2)),fun a b=>by simp[acY,uF.same],fun _=>rfl⟩
instance [uF e] [uF e'] [uF e''] [uF e3]:Kys (eP4 e e' e'' e3):=⟨fun q=>[uF.k e q.1,uF.k e' q.2.1,uF.k e'' q.2.2.1,uF.k e3 q.2.2.2],fun q=>by simp only[Wi,Rt,uF.ok,bnd],fun a b h=>by
 simp only[kG,and_true] at h
 exact Prod.ext (uF.inj _ _ h.1) (Prod.ext (uF.inj _ _ h.2.1) (Prod.ext (uF.inj _ _ h.2.2.1) (uF.inj _ _ h.2.2.2))),fun a b=>by simp[acY,uF.same],fun _=>rfl⟩
instance [uF e]:af0 (Fl e eS):=⟨fun a=>by simp[Kys.k,ac5,uF.k]⟩
instance [uF e] [uF e']:af0 (eP3 e eS e'):=⟨fun a=>by simp[Kys.k,ac5,uF.k]⟩
instance [uF e] [uF e'] [uF e'']:af0 (eP4 e eS e' e''):=⟨fun a=>by simp[Kys.k,ac5,uF.k]⟩
variable {ρ:Ev} {fa f:Ev->Option Bx} {fs:Ev->Option (List (List Key))}
end
end P1
end
section
namespace P1
open PySem PySem.Spec PyProof.Rows L2
section
variable {α β γ:Type} {ρ:Ev} {fa fb fd f fk fv:Ev->Option Bx} {fs:Ev->Option (List Bx)} {fi:Ev->Option (List Dt)} {e:α->Dt} {e':β->Dt} {g k:Ev->Option Out} {cO:γ->Out} {gt:Dt->Ev->Option Ev} {p:Ev->Option Bool} {is:List Nat} {n:Nat}
abbrev mW (w:Option Addr) (e:α->Dt):List (Str×α)->Bx:=fun m=>.m (m.map fun q=>(kS q.1,e q.2)) w
def adl (w:Option Addr) (i:Nat) (m:List (Str×α)) (hi:ρ[i]?=some (some (mW w e m))) (a:R fa ρ (zE e)) (b:R fb ρ (zE eS)) (K:∀ m':List (Str×α),R k (ρ.set i (some (mW w e m'))) cO):R (aM (Z5 i fa fb) k) ρ cO:=⟨(K (put m b.v a.v)).v,bG (bG (bG a.D b.D) (some (m.length < 1000))) (K (put m b.v a.v)).D,fun hd=>by
 obtain⟨h,h4⟩:=aB hd
 obtain⟨h,h3⟩:=aB h
 obtain⟨h1,h2⟩:=aB h
 rw[u5 (ρ':=ρ.set i (some (mW w e (put m b.v a.v)))) (by
  unfold Z5
  rw[a.ok h1,bnd,b.ok h2,bnd]
  simp only[Rp,kyB,bnd,hi,mW,zh,zk (show m.length < 1000 from h3),adh])]
 exact (K _).ok h4⟩
end
section
variable {α:Type} {ρ:Ev} {fa fb:Ev->Option Bx} {e:α->Dt}
end
end P1
end
section
namespace P1
open PySem PySem.Spec PyProof.Rows L2 S1 S6
section
variable {ρ:Ev} {fa:Ev->Option Bx}
def kT (xs:LS_):List Key:=xs.map Sum.inr
def akA (a b:LS_):Bool:=akl (kT a) (kT b)
end
section
variable {α:Type} {ρ:Ev} {f:Ev->Option Bx} {e:α->Dt}
theorem map_some (e:α->Dt) (xs:List α):(xs.map some).map (eO e)=xs.map e:=by rw[Z3];rfl
end
end P1
end
section
namespace P1
open PySem PySem.Spec PyProof.Rows L2
section
variable {α:Type} {k g:Ev->Option Out} {ρ:Ev} {cO:α->Out}
end
section
variable {α:Type} {e:α->Dt} {ρ:Ev} {fa fb:Ev->Option Bx}
end
section
variable {σ τ γ:Type} {p:Ev->Option Bool} {gb k:Ev->Option Out} {ρ:Ev} {cO:γ->Out}
end
section
variable {α:Type} {e:α->Dt} {ρ:Ev} {fa:Ev->Option Bx}
def enF (fs:Ev->Option (List Bx)):Ev->Option (List Dt):=fun ρ=>(fs ρ).bind Ry
def pG (xs:List α):List (Int×α):=(List.range xs.length).zipWith (fun (k:Nat) x=>((k:Int),x)) xs
theorem Yl (xs:List α):G8 (xs.map e)=(pG xs).map (Fl eI e):=by
 unfold G8 pG
 rw[zh,List.zipWith_map_right,List.map_zipWith]
def aaF (a:R fa ρ (zE (eL e))):R (enF (ao fa aO)) ρ (iE (Fl eI e)):=⟨pG a.v,a.D,fun h=>by
 simp only[enF,ao,aO,a.ok h,bnd,zE,eL,Ry,Yl]⟩
end
section
variable {α β σ τ:Type}
theorem Wt {step:σ->α->σ} {P:σ->α->Option Prop} (I:Nat->σ->Prop):∀ (xs:List α) (m:Nat) (s0:σ),I m s0->(∀ k x s,xs[k]?=some x->I (m+k) s->hold (P s x)/\I (m+k+1) (step s x))->HD step P xs s0/\I (m+xs.length) (xs.foldl step s0)
 |[],m,s0,h0,_=>⟨trivial,h0⟩
 |x::xs,m,s0,h0,hs=>by
  obtain⟨h1,h2⟩:=hs 0 x s0 rfl h0
  have:=Wt I xs (m+1) (step s0 x) h2 fun k y s e h=>by
   have:=hs (k+1) y s (by simpa using e) (by rw[show m+(k+1)=m+1+k by omega];exact h)
   rw[show m+(k+1)+1=m+1+k+1 by omega] at this
   exact this
  refine⟨⟨h1,this.1⟩,?_⟩
  rw[Zp,show m+(xs.length+1)=m+1+xs.length by omega]
  exact this.2
theorem adn {i:Int} {n k:Nat} {x:Int} (h:(rng i n)[k]?=some x):x=i+k/\k < n:=by
 unfold rng at h
 rw[ZZ] at h
 cases hk:(List.range n)[k]? with
 |none=>rw[hk] at h;cases h
 |some j=>
  rw[hk] at h
  have hl:k < n:=by simpa using (List.getElem?_eq_some_iff.mp hk).1
  have:j=k:=by
   rw[List.getElem?_range hl] at hk
   cases hk;rfl
  subst this
  cases h
  exact⟨rfl,hl⟩
theorem xH (i:Int) (n:Nat):(rng i n).length=n:=by unfold rng;simp
theorem zu {step:σ->Int->σ} {P:σ->Int->Option Prop} (I:Nat->σ->Prop) (n:Nat) (s0:σ) (h0:I 0 s0) (hs:∀ (k:Nat) s,k < n->I k s->hold (P s k)/\I (k+1) (step s k)):HD step P (rng 0 n) s0/\I n ((rng 0 n).foldl step s0):=by
 have:=Wt (P:=P) I (rng 0 n) 0 s0 h0 fun k x s e h=>by
  obtain⟨rfl,hk⟩:=adn e
  rw[Nat.zero_add] at h ⊢
  rw[Int.zero_add]
  exact hs k s hk h
 rw[xH,Nat.zero_add] at this
 exact this
theorem RQ {step:Unit->α->Bw Unit Bool} {P:Unit->α->Option Prop}:∀ xs:List α,(∀ x∈xs,hold (P () x)/\(step () x=.nx ()\/step () x=.ct ()))->qU step xs ()=.nx ()/\zq step P xs ()
 |[],_=>⟨rfl,trivial⟩
 |x::xs,h=>by
  obtain⟨h1,h2⟩:=h x (zi ..)
  have ih:=RQ (P:=P) xs fun y hy=>h y (zo _ hy)
  rcases h2 with h2|h2
  ·exact⟨by unfold qU;rw[h2];exact ih.1,h1,by rw[h2];exact ih.2⟩
  ·exact⟨by unfold qU;rw[h2];exact ih.1,h1,by rw[h2];exact ih.2⟩
theorem U6 [Inhabited α] {xs:List α} {i:Int} (h:In xs.length i):at' xs i∈xs:=by
 obtain⟨x,hx⟩:=Py h
 unfold at'
 rw[hx]
 unfold Mv at hx
 obtain⟨j,_,hx⟩:=bind_some hx
 exact ky hx
theorem u6 [Inhabited α] {xs:List α} {k:Nat} {x:α} (h:xs[k]?=some x):at' xs (k:Int)=x:=by
 have hl:k < xs.length:=(List.getElem?_eq_some_iff.mp h).1
 unfold at' Mv ixN
 rw[zk (by omega),zk (by omega),bnd,Int.toNat_natCast,h]
 rfl
theorem Gh [Inhabited α] (xs:List α) (k:Nat) (h:k < xs.length):at' xs (k:Int)=xs[k]:=u6 (kb h)
theorem in_of {n:Nat} {i:Int} (h0:0<=i) (h1:i < n):In n i:=⟨by omega,h1⟩
theorem U7 {n k:Nat} (h:k < n):In n (k:Int):=⟨by omega,by omega⟩
theorem Gi {n:Nat} {x m:Int} (hm:0 < m) (h:m<=n):In n (x % m):=in_of (Int.emod_nonneg _ (by omega)) (Int.lt_of_lt_of_le (Int.emod_lt_of_pos _ hm) h)
theorem jz (x:Int) {m:Int} (hm:0 < m):0<=x % m/\x % m < m:=⟨Int.emod_nonneg _ (by omega),Int.emod_lt_of_pos _ hm⟩
theorem Hg {j:Int} (h0:0<=j) (h1:j<=1000000):Rg j:=⟨by omega,by omega⟩
theorem aep {a b:Int} (h0:0<=a) (h1:a < 18446744073709551616):Mul a b:=.inl ⟨by omega,h1⟩
theorem DN {xs:List α} {k:Nat} (h:k<=xs.length):cut xs (some (k:Int)) none=xs.drop k:=by
 unfold cut
 rw[HT.Ja,HT.QL,Nat.min_eq_left h,jI (by simp)]
theorem U8 {xs:List α} {k:Nat} (h:k<=xs.length):cut xs none (some (k:Int))=xs.take k:=by
 unfold cut
 rw[HT.Ja,HT.QL,Nat.min_eq_left h,Nat.sub_zero,List.drop_zero]
theorem eN (x y:Str):(x++y).length=x.length+y.length:=by
 show (x.cps++y.cps).size=_
 rw[Kj]
 rfl
theorem Ci (x:Str) (i:Int):(ch x i).length=1:=rfl
theorem slice_le (x:Str) (l u:Option Int):(Txt.slice x l u).length<=x.length:=PyProof.Txt.length_slice_le x l u
theorem Ym (x:Str):(chars x).length=x.length:=by unfold chars;rw[zh,qc];rfl
end
section
variable {α γ:Type} [Inhabited α] {e:α->Dt} {ρ:Ev} {f:Ev->Option Bx} {k:Ev->Option Out} {cO:γ->Out}
end
section
variable {ρ:Ev} {fa:Ev->Option Bx}
end
section
variable {α γ:Type} {e:α->Dt} {ρ:Ev} {f:Ev->Option Bx} {k:Ev->Option Out} {cO:γ->Out}
end
section
variable {α β γ:Type} {e:α->Dt} {f fa fb:Ev->Option Bx} {k g:Ev->Option Out} {ρ:Ev} {cO:γ->Out}
def Pz [Inhabited γ]:R (aM noG k) ρ cO:=⟨default,some False,fun h=>absurd h id⟩
end
section
variable {α:Type} {e:α->Dt} {f fa fb:Ev->Option Bx} {ρ:Ev}
def aaG (a:R fa ρ (zE e)) (n:Nat) (h:∀ x,∃ ds,e x=.tup ds/\ds.length=n):R (dZ nq (ao fa aO)) ρ (zE eI):=⟨(n:Int),a.D,fun hd=>by
 obtain⟨ds,e1,e2⟩:=h a.v
 simp only[dZ,ao,aO,a.ok hd,bnd,zE,e1,nq,HB,e2]⟩
end
section
variable {α β γ:Type} {e:α->Dt} {e':β->Dt} {fa fb:Ev->Option Bx} {ρ:Ev}
end
def RP {α β:Type} (f:Ev->Option β) (ρ:Ev) (c:α->β) (v:α) (D:Option Prop):Prop:=hold D->f ρ=some (c v)
theorem R.tp {α β:Type} {f:Ev->Option β} {ρ:Ev} {c:α->β} {v':α} {D':Option Prop} (x:R f ρ c) (hv:x.v=v':=by kernel_rfl) (hD:x.D=D':=by kernel_rfl):RP f ρ c v' D':=fun h=>by
 subst hv hD
 exact x.ok h
def RP.r {α β:Type} {f:Ev->Option β} {ρ:Ev} {c:α->β} {v:α} {D:Option Prop} (h:RP f ρ c v D):R f ρ c:=⟨v,D,h⟩
theorem len1 {α:Type} {p:List α->Prop} (h:∀ a,p [a]):∀ us:List α,us.length=1->p us
 |[a],_=>h a
theorem len2 {α:Type} {p:List α->Prop} (h:∀ a b,p [a,b]):∀ us:List α,us.length=2->p us
 |[a,b],_=>h a b
theorem ado {α:Type} {p:List α->Prop} (h:∀ a b c,p [a,b,c]):∀ us:List α,us.length=3->p us
 |[a,b,c],_=>h a b c
end P1
end
section
namespace P1
open PySem PySem.Spec PyProof.Rows L2 S1
section
variable {prog:Program} {w:World} {A:Around} {E:VP_} {s:Shared}
end
section
variable {X:Cx}
end
section
variable {fa:Ev->Option Bx} {ρ:Ev}
end
end P1
end
section
namespace P1
open PySem PySem.Spec PyProof.Rows L2
section
variable {i n:Nat} {is:List Nat} {f:Ev->Option Bx} {fs:Ev->Option (List Bx)} {p:Ev->Option Bool} {gt:Dt->Ev->Option Ev} {g1 g2 gb:Ev->Option Out}
end
section
variable {X:Cx} {st:Stmt} {rest:List Stmt} {g1 g2:Ev->Option Out}
end
section
variable {P:Program} {w:World} {K:FG_} {mg:Str->Option Value} {base:Heap}
end
section
variable {X:Cx} {pins:List (Addr×Obj)} {σ:L2.St} {H:Hp} {s:Shared} {a:Addr} {ks:List V} {o:Obj}
end
def Fr3 (Hb Hc H:Hp) (σ:L2.St) (i:Nat):Prop:=∃ (t p0 p1 p2:Addr) (x0 x1 x2:List V) (o0 o1 o2:Obj),(x0.length < 1000/\x2.length < 1000)/\σ[i]?=some (some (.ref t))/\H t=some (.tup [.ref p0,.ref p1,.ref p2])/\(H p0=some (.CV o0 (.lst x0))/\H p1=some (.CV o1 (.lst x1))/\H p2=some (.CV o2 (.lst x2)))/\(Hc p0=none/\Hc p1=none/\Hc p2=none)/\(p0≠p1/\p0≠p2/\p1≠p2)/\(∀ ob u,Hb p0≠some (.CV ob u))/\(∀ ob u,Hb p1≠some (.CV ob u))/\∀ ob u,Hb p2≠some (.CV ob u)
theorem Fr3.grow {Hb Hc H H':Hp} {σ σ':L2.St} {i:Nat} (h:Fr3 Hb Hc H σ i) (s:Same H H') (hs:σ'[i]?=σ[i]?):Fr3 Hb Hc H' σ' i:=by
 obtain⟨t,p0,p1,p2,x0,x1,x2,o0,o1,o2,l,e,ht,⟨h0,h1,h2⟩,r⟩:=h
 exact⟨t,p0,p1,p2,x0,x1,x2,o0,o1,o2,l,by rw[hs];exact e,s _ _ ht,⟨s _ _ h0,s _ _ h1,s _ _ h2⟩,r⟩
section
variable {X:Cx} {i:Nat} {M0 M1 M2 er:Expr} {f0 f2 f:Ev->Option Bx} {d0 d2:Dt} {z0 z1 z2 z3:Pos}
end
theorem bF.sl {K:FG_} {H0 H:Hp} {σ:L2.St} {ρ:Ev} (E:bF K H0 H σ ρ) {i:Nat} (h:∀ c,ρ[i]?≠some (some c)) (v:Option V):bF K H0 H (σ.set i v) ρ:=by
 have ne:∀ {j:Nat} {c:Bx},ρ[j]?=some (some c)->(σ.set i v)[j]?=σ[j]?:=fun e=>kz (fun z=>h _ (z▸e))
 exact⟨by rw[qf];exact E.len,fun j b e=>by rw[ne e];exact E.val j b e,fun j k c a b e1 e2 e3 e4 e5 e6=>E.own j k c a b e1 e2 (by rw[<-ne e1];exact e3) e4 e5 (by rw[<-ne e4];exact e6),E.base,fun j c a e1 e2 e3=>E.new j c a e1 e2 (by rw[<-ne e1];exact e3)⟩
section
variable {X:Cx} {st:List Stmt} {g:Ev->Option Out} {f fr fe:Ev->Option Bx} {p:Ev->Option Bool} {i i':Nat} {W:List Nat} {c e:Expr} {pos z:Pos}
end
section
variable {a b c g g1 g2 gb:Ev->Option Out} {f:Ev->Option Bx} {p:Ev->Option Bool} {i k:Nat} {gt:Dt->Ev->Option Ev}
end
end P1
end
section
namespace P1
open PySem PySem.Spec PyProof.Rows L2 S6
section
variable {X:Cx} {elt kx vx t1 i1 t2 i2:Expr} {f1 f2:List Expr} {scope:Scope} {cl:List (Str×Addr)} {pos:Pos} {xs:LS_} {is:List Nat} {g1 g2:Dt->Ev->Option Ev} {p1 p2:Ev->Option Bool} {fe fk fv:Ev->Option Bx} {fi1 fi2:Ev->Option (List Dt)} {fs:Ev->Option (List Dt)} {N m:Nat} {Ac:Addr->Hp->List Dt->HO->Prop} {el:Addr->Env->Sem Unit}
def cls2 (fi:Ev->Option (List Dt)) (gt:Dt->Ev->Option Ev) (p:Ev->Option Bool) (fs:Ev->Option (List Dt)) (is:List Nat) (n:Nat):Ev->Option (List Dt):=fun ρ=>(fi ρ).bind fun ds=>Bo gt p fs (rY is ρ++List.replicate n none) ds
theorem AcL.no {K:FG_} {D:Addr} {H:Hp} {o1:List Dt} {o:HO}:AcL K D H o1 o->(∀ ob u,o≠.CV ob u)/\∀ vs,o≠.tup vs:=fun ⟨_,e,_⟩=>by subst e;exact⟨fun _ _ z=>(by cases z),fun _ z=>(by cases z)⟩
theorem AcS.no {D:Addr} {H:Hp} {o1:List Dt} {o:HO}:AcS X D H o1 o->(∀ ob u,o≠.CV ob u)/\∀ vs,o≠.tup vs:=fun ⟨_,e,_⟩=>by subst e;exact⟨fun _ _ z=>(by cases z),fun _ z=>(by cases z)⟩
end
end P1
end
section
namespace P1
open PySem PySem.Spec PyProof.Rows L2
section
variable {α β:Type} {ρ:Ev} {e:α->Dt} {e':β->Dt} {p:Ev->Option Bool} {fi fs:Ev->Option (List Dt)} {gt:Dt->Ev->Option Ev} {fe:Ev->Option Bx} {is:List Nat} {n:Nat}
end
section
variable {X:Cx}
end
section
variable {ρ:Ev} {fa fb:Ev->Option Bx}
end
def hx (h:Heap) (a:Addr):HO:=.ext fun h'=>h'.get? a=h.get? a
def LD (o:Option HO):Prop:=(∃ xs,o=some (.lst xs))\/∃ ks,o=some (.dK ks)
def Sep (as:List Addr) (σ:L2.St) (ρ:Ev):Prop:=∀ (j:Nat) c a,ρ[j]?=some (some c)->loose c=true->σ[j]?=some (some (.ref a))->a∉as
section
variable {X:Cx} {pins:List (Addr×Obj)} {σ:L2.St} {H H2:Hp} {s:Shared} {as:List Addr}
theorem LD.at {P:Program} {w:World} {H H':Hp} {h h':Heap} {a:Addr} {o:HO} (k:LD (some o)) (e:h'.get? a=h.get? a) (x:gC P w H h a o):gC P w H' h' a o:=by
 rcases k with⟨xs,hk⟩|⟨ks,hk⟩
 ·cases hk
  obtain⟨z,its,n,v,g⟩:=x
  exact⟨z,its,n,v,e.trans g⟩
 ·cases hk
  obtain⟨z,hd,vs,kv,o,es,ep,ho,r⟩:=x
  exact⟨z,hd,vs,kv,o,es,ep,e.trans ho,r⟩
theorem LD.obj {P:Program} {w:World} {H:Hp} {h:Heap} {a:Addr} (k:LD (H a)) (x:yN P w H h):∃ o,h.get? a=some o:=by
 rcases k with⟨xs,hk⟩|⟨ks,hk⟩
 ·obtain⟨_,its,n,_,g⟩:=x a _ hk
  exact⟨_,g⟩
 ·obtain⟨_,_,vs,_,o,es,ep,ho,_⟩:=x a _ hk
  exact⟨o,ho⟩
theorem bF.move {K:FG_} {Hb Hb' H H':Hp} {σ:L2.St} {ρ:Ev} (E:bF K Hb H σ ρ) (S:Sep as σ ρ) (kp:Kp H H') (ho:∀ b,b∉as->H' b=H b) (hb:Same Hb' H') (hn:∀ (j:Nat) c a,ρ[j]?=some (some c)->BX c=true->σ[j]?=some (some (.ref a))->Hb' a=none):bF K Hb' H' σ ρ:=by
 refine⟨E.len,fun j b e=>?_,E.own,hb,hn⟩
 obtain⟨v,ev,rb⟩:=E.val j b e
 refine⟨v,ev,?_⟩
 cases b with
 |z d=>exact Rep.kp kp rb
 |l dz=>
  obtain⟨a,vs,rfl,q,rr⟩:=rb
  have ha:=ho a (S j _ a e rfl ev)
  exact⟨a,vs,rfl,q.imp (fun q=>ha.trans q) fun ⟨o,q⟩=>⟨o,ha.trans q⟩,rr.kp kp⟩
 |o dz=>
  obtain⟨a,vs,rfl,q,rr⟩:=rb
  exact⟨a,vs,rfl,(ho a (S j _ a e rfl ev)).trans q,rr.kp kp⟩
 |n dz=>
  obtain⟨a,vs,rfl,q,rr⟩:=rb
  have ha:=ho a (S j _ a e rfl ev)
  exact⟨a,vs,rfl,q.imp (fun q=>ha.trans q) fun ⟨o,q⟩=>⟨o,ha.trans q⟩,rr.kp kp⟩
 |m dz _=>
  obtain⟨a,vs,rfl,q,rr⟩:=rb
  exact⟨a,vs,rfl,(ho a (S j _ a e rfl ev)).trans q,rr.1.kp kp,rr.2⟩
end
section
variable {X:Cx} {pins:List (Addr×Obj)} {σ:L2.St} {H:Hp} {s:Shared}
def ah4 {α:Type} (m:List (Int×List α)) (k:Int) (d:α):List (Int×List α):=if (m.any fun q=>decide (q.1=k))=true then m.map fun q=>if q.1=k then (q.1,q.2++[d]) else q else m++[(k,[d])]
structure Gp (K:FG_) (H:Hp) (D:Addr) (gs:List (Int×Addr×List Dt)):Prop where
 d:H D=some (.dK (gs.map fun g=>(Sum.inl g.1,V.ref g.2.1)))
 l:∀ g∈gs,∃ vs,H g.2.1=some (.lst vs)/\aW K H g.2.2 vs
 k:(gs.map (·.1)).Nodup
 a:(gs.map (·.2.1)).Nodup
def gpA (D:Addr) (gs:List (Int×Addr×List Dt)):List Addr:=D::gs.map (·.2.1)
theorem Gp.ld {K:FG_} {H:Hp} {D:Addr} {gs:List (Int×Addr×List Dt)} (G:Gp K H D gs):∀ a∈gpA D gs,LD (H a):=fun a ha=>by
 rcases List.mem_cons.mp ha with rfl|ha
 ·exact .inr ⟨_,G.d⟩
 ·obtain⟨g,hg,rfl⟩:=List.mem_map.mp ha
  obtain⟨vs,e,_⟩:=G.l g hg
  exact .inl ⟨vs,e⟩
theorem Gp.kept {K:FG_} {H H':Hp} {D:Addr} {gs:List (Int×Addr×List Dt)} (G:Gp K H D gs) (h:∀ a∈gpA D gs,H' a=H a) (r:∀ ds vs,aW K H ds vs->aW K H' ds vs):Gp K H' D gs:=
 ⟨(h D (zi ..)).trans G.d,fun g hg=>let ⟨vs,e,q⟩:=G.l g hg;⟨vs,(h _ (zo _ (List.mem_map.mpr ⟨g,hg,rfl⟩))).trans e,r _ _ q⟩,G.k,G.a⟩
theorem Gp.same {K:FG_} {H H':Hp} {D:Addr} {gs:List (Int×Addr×List Dt)} (G:Gp K H D gs) (s:Same H H'):Gp K H' D gs:=
 ⟨s _ _ G.d,fun g hg=>let ⟨vs,e,q⟩:=G.l g hg;⟨vs,s _ _ e,q.kp (.of s)⟩,G.k,G.a⟩
theorem Gp.val {gs:List (Int×Addr×List Dt)} {k:Int}:∀ {w:V},BW (gs.map fun g=>((Sum.inl g.1:Key),V.ref g.2.1)) (Sum.inl k)=some w->∃ g∈gs,g.1=k/\w=.ref g.2.1:=by
 induction gs with
 |nil=>intro w e;cases e
 |cons g gs ih=>
  intro w e
  rw[zg] at e
  by_cases hk:g.1=k
  ·rw[yQ (by rw[hk])] at e
   cases e
   exact⟨g,zi ..,hk,rfl⟩
  ·rw[yR (by simpa using hk)] at e
   obtain⟨g',h1,h2,h3⟩:=ih e
   exact⟨g',zo _ h1,h2,h3⟩
end
section
variable {K:FG_} {H:Hp} {D l:Addr} {gs:List (Int×Addr×List Dt)} {k:Int} {x:Dt} {u:V}
theorem Gp.new (G:Gp K H D gs) (hn:BW (gs.map fun g=>((Sum.inl g.1:Key),V.ref g.2.1)) (Sum.inl k)=none) (hl:H l=some (.lst [])) (hla:l∉gpA D gs) :
  Gp K (upd H D (.dK (putK (gs.map fun g=>(Sum.inl g.1,V.ref g.2.1)) (Sum.inl k) (.ref l)))) D (gs++[(k,l,[])]):=by
 have kp:Kp H (upd H D (.dK (putK (gs.map fun g=>(Sum.inl g.1,V.ref g.2.1)) (Sum.inl k) (.ref l)))):=.dk G.d
 have hany:((gs.map fun g=>((Sum.inl g.1:Key),V.ref g.2.1)).any fun kv=>decide (kv.1=Sum.inl k))=false:=by rw[Jw,hn];rfl
 have hlD:l≠D:=fun z=>hla (by rw[z];exact zi ..)
 have hkn:k∉gs.map (·.1):=fun z=>by
  obtain⟨g,hg,e⟩:=List.mem_map.mp z
  have:=List.any_eq_false.mp hany _ (List.mem_map.mpr ⟨g,hg,rfl⟩)
  simp only[ZY] at this
  exact this (by rw[e])
 refine⟨?_,fun g hg=>?_,?_,?_⟩
 ·rw[bC,putK,zI (by rw[hany];exact zr),Zl];rfl
 ·rcases List.mem_append.mp hg with hg|hg
  ·obtain⟨vs,e,r⟩:=G.l g hg
   exact⟨vs,by rw[aV fun z=>by rw[z,G.d] at e;cases e];exact e,r.kp kp⟩
  ·cases List.mem_singleton.mp hg
   exact⟨[],by rw[aV hlD];exact hl,aW.nil⟩
 ·rw[Zl,kU]
  exact⟨G.k,by simp,fun a ha b hb=>by cases List.mem_singleton.mp hb;exact fun z=>hkn (by rw[z] at ha;exact ha)⟩
 ·rw[Zl,kU]
  exact⟨G.a,by simp,fun a ha b hb=>by cases List.mem_singleton.mp hb;exact fun z=>hla (zo _ (by rw[z] at ha;exact ha))⟩
end
section
variable {X:Cx} {iter e1 e2 c ev:Expr} {fi:Ev->Option (List Dt)} {f1 f2 fv:Ev->Option Bx} {p:Ev->Option Bool} {x y w:Str} {pw py py2 py3 px p1 p2 p3 p4 pl a1 a2 c1 c2 pos:Pos}
theorem Aw {ρ:Ev} {i q:Nat} {b:Bx} (h:(ρ.set i none)[q]?=some (some b)):q≠i/\ρ[q]?=some (some b):=by
 rcases getset h with⟨_,z,_⟩|⟨h1,h2⟩
 ·cases z
 ·exact⟨h1,h2⟩
end
end P1
end
section
namespace P1
open PySem PySem.Spec PyProof.Rows L2 S6
section
variable {X:Cx} {kx vx t1 i1 t2 i2:Expr} {f1 f2:List Expr} {scope:Scope} {cl:List (Str×Addr)} {pos:Pos} {xs:LS_} {is:List Nat} {g1 g2:Dt->Ev->Option Ev} {p1 p2:Ev->Option Bool} {fk fv:Ev->Option Bx} {fi1 fi2:Ev->Option (List Dt)} {m:Nat}
theorem AcD.no {K:FG_} {D:Addr} {H:Hp} {o1:List Dt} {o:HO}:AcD K D H o1 o->(∀ ob u,o≠.CV ob u)/\∀ vs,o≠.tup vs:=fun ⟨_,e,_⟩=>by subst e;exact⟨fun _ _ z=>(by cases z),fun _ z=>(by cases z)⟩
end
end P1
end
section
namespace P1
open PySem PySem.Spec PyProof.Rows L2
section
variable {α β γ:Type} {ρ:Ev} {e:α->Dt} {e0:β->Dt} {fa fb fd f1 f2 fv:Ev->Option Bx} {p:Ev->Option Bool} {fi:Ev->Option (List Dt)} {kk:Ev->Option Out} {cO:γ->Out}
end
section
variable {X:Cx}
end
section
variable {α β:Type} {e:α->Dt} {ρ:Ev} {fa:Ev->Option Bx} {p:Ev->Option Bool} {fi fs:Ev->Option (List Dt)} {gt:Dt->Ev->Option Ev} {is:List Nat} {n:Nat}
end
section
variable {X:Cx} {a:Expr} {fa:Ev->Option Bx} {pos:Pos}
end
theorem cG {α:Type} {g:Ev->Option Out} {n:Nat} {bs:List Bx} {c:α->Bx} {v:α} {D:Option Prop} (x:RP g (bs.map some++List.replicate (n - bs.length) none) (fun r=>Out.rt (c r)) v D) (h:hold D):fG n g bs=some (c v):=afR x.r h
section
variable {α:Type} {e:α->Dt} {ρ:Ev} {fa:Ev->Option Bx}
end
open PySem.Builtin PySem.Builtin.Str
section
variable {X:Cx}
theorem aaH:MtR X "str.split" (fun x xs H Q=>∃ y z,x=.str y/\xs=[.str z]/\(z.length==0)=false/\y.length<=100000/\∀ l H',Same H H'->H l=none->H' l=some (.lst ((Txt.split y z).map V.str))->Q (.ref l) H'):=by
 intro pins s σ H x xs v us Q I rx rs h
 obtain⟨y,z,rfl,rfl,hz,hy,q⟩:=h
 obtain⟨t,rfl⟩:=rx
 obtain⟨u,rfl,ru⟩:=vals1 rs
 obtain⟨t2,rfl⟩:=ru
 have sl:(100002:Nat)<=sizeLine:=by decide
 have hl:=split_le y z
 have fin:∀ (l:List (Str×Tok)) (tk:Nat),l.map (·.1)=Txt.split y z->EP X pins σ Q (.ref s.heap.objs.size) { s with toks:=tk,heap:=s.heap.push { cls:=.type "list", data:=.seq (strValues l).toArray } }:=fun l tk e=>by
  have I2:Inv X pins σ (upd H s.heap.objs.size (.lst ((Txt.split y z).map V.str))) { s with toks:=tk,heap:=s.heap.push { cls:=.type "list", data:=.seq (strValues l).toArray } }:=
   I.laid (t':=tk) (fun b o e=>zd _ e) (zl _) (show gC X.prog X.w _ _ _ (.lst _) from⟨by rw[zh];omega,strValues l,0,Gb (by rw[<-e];exact strsAre_of_values l),zS _ rfl⟩)
  have hfr:=I.hok.fresh (zl _)
  exact⟨.ref s.heap.objs.size,_,I2,rfl,q _ _ (cF hfr) hfr bC⟩
 cases h1:(decide (y.length < z.length)||decide (strKind y < strKind z))
 ·cases hf:(occurrences y z 0 y.length (y.length+1)).isEmpty
  ·have e:Txt.split y z=partsBetween y (occurrences y z 0 y.length (y.length+1)) z.length:=(zI (ne_true_of_eq_false h1)).trans (zI (ne_true_of_eq_false hf))
   refine call_meets KA (typeIs_str _ _ _) F.entry_str_split (F.args_str_split_2 _ _) (meets_str_split_sep y z t t2 h1 hz hf (by omega) (by rw[<-e];omega)) ?_
   show EP X pins σ Q _ { s with toks:=_,heap:=s.heap.push { cls:=.type "list", data:=.seq (strsFrom s.toks (partsBetween y (occurrences y z 0 y.length (y.length+1)) z.length)).toArray } }
   rw[strsFrom_eq]
   exact fin _ _ ((numbered_texts _ _).trans e.symm)
  ·exact call_meets KA (typeIs_str _ _ _) F.entry_str_split (F.args_str_split_2 _ _) (meets_str_split_not_found y z t t2 h1 hz hf) (fin [(y,t)] s.toks ((zI (ne_true_of_eq_false h1)).trans (zk hf)).symm)
 ·exact call_meets KA (typeIs_str _ _ _) F.entry_str_split (F.args_str_split_2 _ _) (meets_str_split_cannot_occur y z t t2 h1) (fin [(y,t)] s.toks (zk h1).symm)
def Ka:Bx->Bx->Option Bx
 |.z (.str y),.z (.str z)=>if (z.length==0)=false/\y.length<=100000 then some (.o ((Txt.split y z).map Dt.str)) else none
 |_,_=>none
variable {o e:Expr} {fo fx:Ev->Option Bx}
theorem zx {apos cpos:Pos} (ho:QV X o fo) (hx:QV X e fx) (hbase:attributeBase o "split" X.env (eval o X.env)=eval o X.env:=by rfl)
  (hfew:((backTo cpos (starEach [e] X.env)).all (fun x=>!x.1)&&(backToKw cpos (keywordEach [] X.env)).all (fun x=>x.1.isSome)&&decide ([e].length+([]:List Keyword).length+(if ([]:List Keyword).isEmpty then 0 else 1) < 30))=true:=by rfl)
  (hline:(apos.endLine==cpos.line)=true:=by rfl) (hs:starEach [e] X.env=(false,eval e X.env)::starEach [] X.env:=by rfl):QV X (.Call (.Attribute o "split" apos) [e] [] cpos) (b2 Ka fo fx):=
 ⟨Jx (QS (T := "str") F.plainAttrs_str KA F.type_str_split aaH ho.run (Dk hx.run Jd hs) hbase hfew hline hs rfl) fun σ H Q q=>by
  obtain⟨H0,ρ,c,E,e,q⟩:=q
  obtain⟨a,ea,e⟩:=bind_some e
  obtain⟨b,eb,e⟩:=bind_some e
  unfold Ka at e
  split at e
  ·rename_i y z _
   split at e
   ·rename_i hb
    cases e
    refine⟨H0,ρ,_,E,ea,fun v H1 s1 n1 r1=>?_⟩
    obtain⟨rfl,hy⟩:=Pa r1
    refine⟨rfl,H0,ρ,[_],E.grow s1,by simp only[ao,eb,Qb];rfl,fun vs H2 s2 r2=>?_⟩
    obtain⟨w,rfl,rw1⟩:=rep1 r2
    obtain⟨rfl,hz⟩:=Pa rw1
    refine⟨y,z,rfl,rfl,hb.1,hb.2,fun l H3 s3 n3 e3=>q _ _ ((s1.trans s2).trans s3) (fun a ea=>by cases ea;exact (s1.trans s2).free n3) ⟨l,_,rfl,e3,Ds fun p hp=>zz (part_short hp) hy⟩⟩
   ·cases e
  ·cases e⟩
theorem adp:MtR X "str.partition" (fun x xs H Q=>∃ y z,x=.str y/\xs=[.str z]/\(z.length==0)=false/\y.length<=sizeLine/\∀ l H',Same H H'->H' l=some (.tup [.str (Txt.partition y z).1,.str (Txt.partition y z).2.1,.str (Txt.partition y z).2.2])->Q (.ref l) H'):=by
 intro pins s σ H x xs v us Q I rx rs h
 obtain⟨y,z,rfl,rfl,hz,hy,q⟩:=h
 obtain⟨t,rfl⟩:=rx
 obtain⟨u,rfl,ru⟩:=vals1 rs
 obtain⟨t2,rfl⟩:=ru
 have fin:∀ (a b c:Tok) (tk:Nat),EP X pins σ Q (.ref s.heap.objs.size) { s with toks:=tk,heap:=s.heap.push { cls:=.type "tuple", data:=.seq [.str (Txt.partition y z).1 a,.str (Txt.partition y z).2.1 b,.str (Txt.partition y z).2.2 c].toArray } }:=fun a b c tk=>by
  have I2:Inv X pins σ (upd H s.heap.objs.size (.tup [.str (Txt.partition y z).1,.str (Txt.partition y z).2.1,.str (Txt.partition y z).2.2])) { s with toks:=tk,heap:=s.heap.push { cls:=.type "tuple", data:=.seq [.str (Txt.partition y z).1 a,.str (Txt.partition y z).2.1 b,.str (Txt.partition y z).2.2 c].toArray } }:=
   I.laid (t':=tk) (fun b o e=>zd _ e) (zl _) (show gC X.prog X.w _ _ _ (.tup _) from⟨by show (3:Nat)<=sizeLine;decide,_,.cons ⟨_,rfl⟩ (.cons ⟨_,rfl⟩ (.cons ⟨_,rfl⟩ .nil)),wR.new _ _⟩)
  have hfr:=I.hok.fresh (zl _)
  exact⟨.ref s.heap.objs.size,_,I2,rfl,q _ _ (cF hfr) bC⟩
 refine call_meets F.slot_str_partition (typeIs_str _ _ _) F.entry_str_partition (F.args_str_partition_2 _ _) (meets_str_partition y z t t2 hz hy) ?_
 show EP X pins σ Q _ _
 unfold Txt.partition at fin
 cases ho:occurrences y z 0 y.length 1 with
 |nil=>rw[ho] at fin;exact fin _ _ _ _
 |cons i r=>rw[ho] at fin;exact fin _ _ _ _
def aaI:Bx->Bx->Option Bx
 |.z (.str y),.z (.str z)=>if (z.length==0)=false then some (.z (.tup [.str (Txt.partition y z).1,.str (Txt.partition y z).2.1,.str (Txt.partition y z).2.2])) else none
 |_,_=>none
theorem adq {apos cpos:Pos} (ho:QV X o fo) (hx:QV X e fx) (hbase:attributeBase o "partition" X.env (eval o X.env)=eval o X.env:=by rfl)
  (hfew:((backTo cpos (starEach [e] X.env)).all (fun x=>!x.1)&&(backToKw cpos (keywordEach [] X.env)).all (fun x=>x.1.isSome)&&decide ([e].length+([]:List Keyword).length+(if ([]:List Keyword).isEmpty then 0 else 1) < 30))=true:=by rfl)
  (hline:(apos.endLine==cpos.line)=true:=by rfl) (hs:starEach [e] X.env=(false,eval e X.env)::starEach [] X.env:=by rfl):QV X (.Call (.Attribute o "partition" apos) [e] [] cpos) (b2 aaI fo fx):=
 ⟨Jx (QS (T := "str") F.plainAttrs_str F.slot_str_partition F.type_str_partition adp ho.run (Dk hx.run Jd hs) hbase hfew hline hs rfl) fun σ H Q q=>by
  obtain⟨H0,ρ,c,E,e,q⟩:=q
  obtain⟨a,ea,e⟩:=bind_some e
  obtain⟨b,eb,e⟩:=bind_some e
  unfold aaI at e
  split at e
  ·rename_i y z _
   split at e
   ·rename_i hb
    cases e
    refine⟨H0,ρ,_,E,ea,fun v H1 s1 n1 r1=>?_⟩
    obtain⟨rfl,hy⟩:=Pa r1
    refine⟨rfl,H0,ρ,[_],E.grow s1,by simp only[ao,eb,Qb];rfl,fun vs H2 s2 r2=>?_⟩
    obtain⟨w,rfl,rw1⟩:=rep1 r2
    obtain⟨rfl,hz⟩:=Pa rw1
    obtain⟨f1,f2,f3⟩:=fact_partition y z
    refine⟨y,z,rfl,rfl,hb,hy,fun l H3 s3 e3=>q _ _ ((s1.trans s2).trans s3) trivial ?_⟩
    unfold bH Rep
    exact⟨l,_,rfl,.inl (.inl e3),Ds (ys:=[_,_,_]) fun p hp=>by
     rcases List.mem_cons.mp hp with rfl|hp
     ·omega
     ·rcases List.mem_cons.mp hp with rfl|hp
      ·omega
      ·rw[List.mem_singleton.mp hp];omega⟩
   ·cases e
  ·cases e⟩
def txB:Bx->Option Str
 |.z (.str x)=>some x
 |_=>none
theorem U9 {b:Bx} {x:Str} (h:txB b=some x):b=.z (.str x):=by
 unfold txB at h
 split at h
 ·cases h;rfl
 ·cases h
def Yn:Ev->Option Str:=fun _=>some Str.empty
def rP (f:Ev->Option Bx) (g:Ev->Option Str):Ev->Option Str:=fun ρ=>(f ρ).bind fun b=>(txB b).bind fun x=>(g ρ).bind fun t=>some (x++t)
def Hh (g:Ev->Option Str):Ev->Option Bx:=fun ρ=>(g ρ).bind fun t=>if t.length<=100000 then some (.z (.str t)) else none
structure QJ (X:Cx) (es:List Expr) (f:Ev->Option Str):Prop where
 run:∀ (acc:Str) (pins:List (Addr×Obj)) (s:Shared) (σ:L2.St) (H:Hp) (Q:VK),Inv X pins σ H s->(∃ H0 ρ t,bF X.K H0 H σ ρ/\f ρ=some t/\(acc++t).length<=sizeLine/\∀ H',Same H H'->Q (.str (acc++t)) H') →
  wpAny (model X.prog X.w) X.A (joinParts acc (evalEach es X.env)) (EP X pins σ Q) X.xe s
theorem PJ:QJ X [] Yn:=⟨fun acc pins s σ H Q I h=>by
 obtain⟨H0,ρ,t,E,e,hl,q⟩:=h
 cases e
 rw[Str.append_empty] at hl q
 exact joinParts_nil ⟨.str acc,H,I.tok _,⟨_,rfl⟩,q H (Same.refl H)⟩ hl⟩
theorem qg {es:List Expr} {g:Ev->Option Str} (h1:QV X e fx) (h2:QJ X es g):QJ X (e::es) (rP fx g):=⟨fun acc pins s σ H Q I h=>by
 obtain⟨H0,ρ,t,E,e,hl,q⟩:=h
 obtain⟨b,eb,e⟩:=bind_some e
 obtain⟨x,ex,e⟩:=bind_some e
 obtain⟨t',et,e⟩:=bind_some e
 cases e
 have hb:=U9 ex
 subst hb
 rw[<-Str.append_assoc] at hl q
 have hl2:(acc++x).length<=sizeLine:=by rw[strLen_append] at hl;omega
 refine joinParts_cons (ZA (h1.run pins s σ H (fun v H'=>Same H H'/\v=.str x) I ⟨H0,ρ,_,E,eb,fun v H' s' n' r'=>⟨s',(Pa r').1⟩⟩) (fun v s1 hq=>?_) fun _ _ z=>z)
 obtain⟨w,H1,I1,r1,s1',rfl⟩:=hq
 obtain⟨tk,rfl⟩:=r1
 exact⟨hl2,h2.run (acc++x) pins s1 σ H1 Q I1 ⟨H0,ρ,t',E.grow s1',et,hl,fun H2 s2=>q H2 (s1'.trans s2)⟩⟩⟩
theorem Jo {es:List Expr} {e1 e2:Expr} {g:Ev->Option Str} {pos:Pos} (h:QJ X (e1::e2::es) g):QV X (.JoinedStr (e1::e2::es) pos) (Hh g):=⟨fun pins s σ H Q I q=>by
 obtain⟨H0,ρ,b,E,e,q⟩:=q
 obtain⟨t,et,e⟩:=bind_some e
 split at e
 ·rename_i hl
  cases e
  have sl:(100000:Nat)<=sizeLine:=by decide
  refine JoinedStr_many (h.run Str.empty pins s σ H Q I ⟨H0,ρ,t,E,et,by rw[Str.empty_append];omega,fun H' s'=>by rw[Str.empty_append];exact q _ H' s' trivial (by unfold bH Rep;exact⟨rfl,by omega⟩)⟩)
 ·cases e⟩
def hoF (f:Ev->Option Bx):Ev->Option Bx:=fun ρ=>(f ρ).bind fun b=>(txB b).bind fun x=>some (.z (.str x))
theorem DP {v:Expr} {pos:Pos} (h:QV X v fx):QV X (.FormattedValue v (-1) none pos) (hoF fx):=⟨fun pins s σ H Q I q=>by
 obtain⟨H0,ρ,b,E,e,q⟩:=q
 obtain⟨b',eb,e⟩:=bind_some e
 obtain⟨x,ex,e⟩:=bind_some e
 cases e
 have hb:=U9 ex
 subst hb
 refine FormattedValue_plain (ZA (h.run pins s σ H (fun v H'=>Same H H'/\bH X.K H' (.z (.str x)) v) I ⟨H0,ρ,_,E,eb,fun v H' s' n' r'=>⟨s',r'⟩⟩) (fun v s1 hq=>?_) fun _ _ z=>z)
 obtain⟨w,H1,I1,r1,s1',rb⟩:=hq
 obtain⟨rfl,hx⟩:=Pa rb
 obtain⟨tk,rfl⟩:=r1
 exact formatField_str (fun t' k=>⟨.str x,H1,I1.tok _,⟨_,rfl⟩,q _ H1 s1' trivial rb⟩) hx⟩
end
section
variable {ρ:Ev} {fa fb:Ev->Option Bx} {g:Ev->Option Str}
def DQ (a:R fa ρ (zE eS)) (b:R fb ρ (zE eS)):R (b2 Ka fa fb) ρ (oE eS):=⟨Txt.split a.v b.v,bG (bG a.D b.D) (some ((b.v.length==0)=false/\a.v.length<=100000)),fun h=>by
 obtain⟨h,h3⟩:=aB h
 obtain⟨h1,h2⟩:=aB h
 simp only[b2,a.ok h1,b.ok h2,bnd,Ka,zE,eS]
 exact zk h3⟩
def af2 (a:R fa ρ (zE eS)) (b:R fb ρ (zE eS)):R (b2 aaI fa fb) ρ (zE (eP3 eS eS eS)):=⟨Txt.partition a.v b.v,bG (bG a.D b.D) (some ((b.v.length==0)=false)),fun h=>by
 obtain⟨h,h3⟩:=aB h
 obtain⟨h1,h2⟩:=aB h
 simp only[b2,a.ok h1,b.ok h2,bnd,aaI,zE,eS]
 exact zk h3⟩
def akE {α:Type} [Inhabited α] {e:α->Dt} (a:R fa ρ (zE (eT e))):R fa ρ (zE (Fl e e)):=⟨(at' a.v 0,at' a.v 1),bG a.D (some (a.v.length=2)),fun h=>by
 obtain⟨h1,h2⟩:=aB h
 rw[a.ok h1]
 have h2:a.v.length=2:=h2
 generalize a.v=l at h2 ⊢
 cases l with
 |nil=>cases h2
 |cons x l=>cases l with
  |nil=>cases h2
  |cons y l=>cases l with
   |nil=>rfl
   |cons z l=>simp at h2⟩
def aaK:R Yn ρ (fun t:Str=>t):=⟨Str.empty,none,fun _=>rfl⟩
def aaL (c:Str) (b:R g ρ (fun t:Str=>t)):R (rP (cB (.str c)) g) ρ (fun t:Str=>t):=⟨c++b.v,b.D,fun h=>by
 simp only[rP,cB,bnd,txB,b.ok h]⟩
def RT (a:R fa ρ (zE eS)) (b:R g ρ (fun t:Str=>t)):R (rP (hoF fa) g) ρ (fun t:Str=>t):=⟨a.v++b.v,bG a.D b.D,fun h=>by
 obtain⟨h1,h2⟩:=aB h
 simp only[rP,hoF,a.ok h1,bnd,txB,zE,eS,b.ok h2]⟩
def Va (b:R g ρ (fun t:Str=>t)):R (Hh g) ρ (zE eS):=⟨b.v,bG b.D (some (b.v.length<=100000)),fun h=>by
 obtain⟨h1,h2⟩:=aB h
 simp only[Hh,b.ok h1,bnd,zE,eS]
 exact zk h2⟩
end
section
variable {X:Cx}
def hoT (X:Cx) (a:Addr) (zs:LS_):HO:=.ext fun h=>∃ n,n<=zs.length/\h.SetOf (strKind X.prog X.w) a (fun z=>decide (z∈zs)) n
theorem PK {H:Hp} {h:Heap} {a:Addr} {zs:LS_} {n:Nat} (hn:n<=zs.length) (x:h.SetOf (strKind X.prog X.w) a (fun z=>decide (z∈zs)) n):gC X.prog X.w H h a (hoT X a zs):=
 ⟨⟨n,hn,x⟩,(let ⟨o,_,_,_,ho,_⟩:=x;⟨o,ho⟩),fun h1 h2 ⟨n,hn,o,es,ep,t,ho,r⟩ k=>⟨n,hn,o,es,ep,t,k o ho,r⟩⟩
theorem adt:jV X (.type "set") (fun xs H Q=>xs=[]/\∀ a H',Same H H'->H a=none->H' a=some (hoT X a [])->Q (.ref a) H'):=by
 intro pins s σ H xs us Q I r h
 obtain⟨rfl,q⟩:=h
 have hu:=r.zero
 subst hu
 refine call_set_0 fun led=>?_
 have hfr:=I.hok.fresh (zl _)
 refine⟨.ref s.heap.objs.size,_,I.laid (t':=s.toks) (a:=s.heap.objs.size) (o:=hoT X s.heap.objs.size []) (fun b o e=>zd _ e) (zl _) ?_,rfl,q _ _ (cF hfr) hfr bC⟩
 exact PK (n:=0) (zl _) ((setObjOf_fresh led).setOf (zS _ rfl) (by decide))
theorem aaM:yI X (compareOp .In) (fun x y H Q=>∃ t a zs,x=.str t/\y=.ref a/\H a=some (hoT X a zs)/\Q (.bl (decide (t∈zs))) H):=by
 intro pins s σ H x y v u Q I rx ry h
 obtain⟨t,a,zs,rfl,rfl,ha,q⟩:=h
 obtain⟨tk,rfl⟩:=rx
 cases ry
 obtain⟨n,_,hS⟩:=(I.hok _ _ ha).1
 exact wpAny_inSet_of (strKind_is X.prog X.w t tk) rfl hS ⟨.bl _,H,I.tok _,rfl,q⟩
def ah5 (X:Cx) (to:TE) (t:TA):TE:=fun σ H Q=>to σ H fun x H1=>∃ a,x=.ref a/\(∃ zs,H1 a=some (hoT X a zs))/\t σ H1 fun xs H2=>∃ y zs,xs=[.str y]/\H2 a=some (hoT X a zs)/\zs.length < 4000/\Q .non (upd H2 a (hoT X a (zs++[y])))
theorem adu {o e:Expr} {to:TE} {t:TA} {apos cpos:Pos} (ho:PE X o to) (ha:PA X [e] t)
  (hbase:attributeBase o "add" X.env (eval o X.env)=eval o X.env:=by rfl)
  (hfew:((backTo cpos (starEach [e] X.env)).all (fun x=>!x.1)&&(backToKw cpos (keywordEach [] X.env)).all (fun x=>x.1.isSome)&&decide ([e].length+([]:List Keyword).length+(if ([]:List Keyword).isEmpty then 0 else 1) < 30))=true:=by rfl)
  (hline:(apos.endLine==cpos.line)=true:=by rfl) (hs:starEach [e] X.env=(false,eval e X.env)::starEach [] X.env:=by rfl) (hplain:(backTo cpos (starEach [] X.env)).any (·.1)=false:=by rfl) :
  PE X (.Call (.Attribute o "add" apos) [e] [] cpos) (ah5 X to t):=by
 intro pins s σ H Q I h
 refine wpAny_Call_method_late hbase hfew hline rfl (lH (ho pins s σ H _ I h) fun v s1 ⟨x,H1,I1,r1,a,ea,⟨zs,hz⟩,q1⟩=>?_)
 subst ea
 cases r1
 obtain⟨n,_,hS⟩:=(I1.hok _ _ hz).1
 refine⟨"set", "set.add", F.plainAttrs_set,F.slot_set_add,F.type_set_add,hS.typeIs,hS.noDict,?_⟩
 have hA:=ha cpos pins s1 σ H1 _ I1 q1
 rw[hs] at hA ⊢
 refine Calls.callWith_builtin (by show (false||(backTo cpos (starEach [] X.env)).any (·.1))=false;rw[hplain]<;>rfl) (Calls.evalArgs_plain ?_)
 refine lH hA fun us s2 ⟨vs,H2,I2,r2,y,zs2,ev,h2,hl,q2⟩=>?_
 subst ev
 obtain⟨u,rfl,tk,rfl⟩:=vals1 r2
 obtain⟨n2,hn2,hS2⟩:=(I2.hok _ _ h2).1
 have sb:(4001:Nat) < scanBound:=by decide
 refine call_set_add (k:=y) (strKind_is X.prog X.w y tk) rfl hS2 (by omega) fun h' hsb hS'=>?_
 have e:(fun k'=>decide (k'∈zs2)||decide (k'=y))=fun z=>decide (z∈zs2++[y]):=by
  funext z;simp
 rw[e] at hS'
 obtain⟨o',_,_,_,ho',_⟩:=id hS'
 exact⟨.non,_,I2.write (t':=s2.toks+1) (x:=a) (e:=a) (o:=hoT X a (zs2++[y])) (by rw[h2];trivial) (.inl rfl) (fun b u hb e=>by rw[hsb.2 b hb];exact e) ⟨o',ho'⟩ (PK (by rw[zw,JA];split<;>omega) hS'),rfl,q2⟩
end
def Hi (k1 k2 j:Nat) (f1:Ev->Option Bx) (p:Ev->Option Bool) (fe:Ev->Option Bx) (ρ0:Ev):List Dt->LS_->List Dt->Option (List Dt)
 |[],_,out=>some out
 |d::ds,seen,out=>match d with
  |.tup [a,b]=>(f1 ((ρ0.set k1 (some (.z a))).set k2 (some (.z b)))).bind fun r=>match r with
   |.z dr=>(p (((ρ0.set k1 (some (.z a))).set k2 (some (.z b))).set j (some (.z dr)))).bind fun c=>(fe (((ρ0.set k1 (some (.z a))).set k2 (some (.z b))).set j (some (.z dr)))).bind fun v=>(txB v).bind fun x=>
    if c=false/\x∉seen/\seen.length < 4000/\out.length < 4000 then Hi k1 k2 j f1 p fe ρ0 ds (seen++[x]) (out++[dr]) else none
   |_=>none
  |_=>none
def RV (i r j k1 k2:Nat) (fi:Ev->Option (List Dt)) (f1:Ev->Option Bx) (p:Ev->Option Bool) (fe:Ev->Option Bx):Ev->Option Out:=fun ρ=>match ρ[r]? with
 |some (some (.o []))=>if i < ρ.length/\j < ρ.length then (fi (((((ρ.set i none).set r none).set j none).set k1 none).set k2 none)).bind fun ds=>(Hi k1 k2 j f1 p fe (((((ρ.set i none).set r none).set j none).set k1 none).set k2 none) ds [] []).bind fun out=>
   some (.nx ((((((ρ.set i none).set r none).set j none).set k1 none).set k2 none).set r (some (.o out)))) else none
 |_=>none
def zy (k1 k2 j:Nat) (f1:Ev->Option Bx) (p:Ev->Option Bool) (fe:Ev->Option Bx) (fx:Ev->Option Dt) (ρ0:Ev):List Dt->LS_->List Dt->Option (Sum (List Dt) Dt)
 |[],_,out=>some (.inl out)
 |d::ds,seen,out=>match d with
  |.tup [a,b]=>(f1 ((ρ0.set k1 (some (.z a))).set k2 (some (.z b)))).bind fun r=>match r with
   |.z dr=>(p (((ρ0.set k1 (some (.z a))).set k2 (some (.z b))).set j (some (.z dr)))).bind fun c=>
    if c=true then (fx (((ρ0.set k1 (some (.z a))).set k2 (some (.z b))).set j (some (.z dr)))).bind fun q=>some (.inr q)
    else (fe (((ρ0.set k1 (some (.z a))).set k2 (some (.z b))).set j (some (.z dr)))).bind fun v=>(txB v).bind fun x=>
     if x∈seen then (fx (((ρ0.set k1 (some (.z a))).set k2 (some (.z b))).set j (some (.z dr)))).bind fun q=>some (.inr q)
     else if seen.length < 4000/\out.length < 4000 then zy k1 k2 j f1 p fe fx ρ0 ds (seen++[x]) (out++[dr]) else none
   |_=>none
  |_=>none
def Kc (i r j k1 k2:Nat) (fi:Ev->Option (List Dt)) (f1:Ev->Option Bx) (p:Ev->Option Bool) (fe:Ev->Option Bx) (fx:Ev->Option Dt):Ev->Option (Sum Ev Dt):=fun ρ=>match ρ[r]? with
 |some (some (.o []))=>if i < ρ.length/\j < ρ.length then (fi (((((ρ.set i none).set r none).set j none).set k1 none).set k2 none)).bind fun ds=>(zy k1 k2 j f1 p fe fx (((((ρ.set i none).set r none).set j none).set k1 none).set k2 none) ds [] []).bind fun q=>match q with
   |.inl out=>some (.inl ((((((ρ.set i none).set r none).set j none).set k1 none).set k2 none).set r (some (.o out))))
   |.inr d=>some (.inr d) else none
 |_=>none
theorem aaN {k1 k2 j:Nat} {f1:Ev->Option Bx} {p:Ev->Option Bool} {fe:Ev->Option Bx} {fx:Ev->Option Dt} {ρ0:Ev}:∀ {ds:List Dt} {seen:LS_} {out res:List Dt},Hi k1 k2 j f1 p fe ρ0 ds seen out=some res->zy k1 k2 j f1 p fe fx ρ0 ds seen out=some (.inl res)
 |[],seen,out,res,h=>by simp only[Hi] at h;cases h;rfl
 |d::ds,seen,out,res,h=>by
  simp only[Hi] at h
  split at h
  rotate_left
  ·cases h
  obtain⟨b1,eb1,h⟩:=bind_some h
  split at h
  rotate_left
  ·cases h
  obtain⟨t,et,h⟩:=bind_some h
  obtain⟨b2,eb2,h⟩:=bind_some h
  obtain⟨z,ez,h⟩:=bind_some h
  split at h
  rotate_left
  ·cases h
  rename_i hok
  have hz:=h
  obtain⟨rfl,hnew,hs4,ho4⟩:=hok
  simp only[zy]
  rw[eb1]
  simp only[bnd]
  rw[et]
  simp only[bnd]
  rw[zI zr,eb2]
  simp only[bnd]
  rw[ez]
  simp only[bnd]
  rw[zI hnew,zk ⟨hs4,ho4⟩]
  exact aaN hz
section
variable {X:Cx} {iter e1 e2 e3 c:Expr} {fi:Ev->Option (List Dt)} {f1 fe:Ev->Option Bx} {p:Ev->Option Bool} {gr:Ev->Option Out} {fx:Ev->Option Dt} {tR tQ:TS} {x xr xj y1 y2:Str} {rest no:List Stmt} {kk:Nat} {p0 p00 p01 Vb q1 q2 pt pj pa px pb pif pf2 RW a1 c1 pe1 pr a2 NT c2 pe2 pos:Pos}
theorem nd5 {i r j k1 k2:Nat} (h:[i,r,j,k1,k2].Nodup):i≠r/\i≠j/\i≠k1/\i≠k2/\r≠j/\r≠k1/\r≠k2/\j≠k1/\j≠k2/\k1≠k2:=by
 simp at h;omega
theorem RZ (i r j k1 k2:Nat) (hp:PassesOwn (model X.prog X.w) X.A X.env X.xe) (hc:X.calm=true) (hN:X.N.Nodup) (hg:Gl X "set") (hm:X.mg "set" = none) (hi:QIF X (.Tuple [.Name y1 q1,.Name y2 q2] kk pt) iter fi) (h1:QV X e1 f1) (hcn:QB X c p) (h2:QV X e2 fe) (h3:QV X e3 fe) (hR:CT X no tR) (hr:CT X rest tQ)
  (nd:[i,r,j,k1,k2].Nodup:=by decide) (xi:X.N[i]?=some x:=by rfl) (xR:X.N[r]?=some xr:=by rfl) (xJ:X.N[j]?=some xj:=by rfl) (x1:X.N[k1]?=some y1:=by rfl) (x2:X.N[k2]?=some y2:=by rfl)
  (vi:Mt X.env.scope x:=by first|exact ZU rfl|exact Zs (ZU rfl)|exact Zs (Zs rfl)) (vr:Mt X.env.scope xr:=by first|exact ZU rfl|exact Zs (ZU rfl)|exact Zs (Zs rfl)) (vj:Mt X.env.scope xj:=by first|exact ZU rfl|exact Zs (ZU rfl)|exact Zs (Zs rfl))
  (li:Loc X.env.scope x:=by first|exact ZU rfl|exact Zs rfl) (lj:Loc X.env.scope xj:=by first|exact ZU rfl|exact Zs rfl) (l1:Loc X.env.scope y1:=by first|exact ZU rfl|exact Zs rfl) (l2:Loc X.env.scope y2:=by first|exact ZU rfl|exact Zs rfl)
  (gi:X.fn x=true\/X.env.scope.names.lookup x=some .local:=by first|exact .inl rfl|exact .inr rfl) (gj:X.fn xj=true\/X.env.scope.names.lookup xj=some .local:=by first|exact .inl rfl|exact .inr rfl) (g1:X.fn y1=true\/X.env.scope.names.lookup y1=some .local:=by first|exact .inl rfl|exact .inr rfl) (g2:X.fn y2=true\/X.env.scope.names.lookup y2=some .local:=by first|exact .inl rfl|exact .inr rfl)
  (di:(x==("__debug__" : Str))=false:=by decide) (ci:(x==("__classdict__" : Str))=false:=by decide) (dr:(xr==("__debug__" : Str))=false:=by decide) (cr:(xr==("__classdict__" : Str))=false:=by decide) (dj:(xj==("__debug__" : Str))=false:=by decide) (cj:(xj==("__classdict__" : Str))=false:=by decide)
  (hs:∀ z,foldedSetIterable iter X.env z=pure z:=by intro _;rfl)
  (ht:(assignEach [.Name y1 q1,.Name y2 q2] X.env).map (·.2)=assign (.Name y1 q1) X.env::(assignEach [.Name y2 q2] X.env).map (·.2):=by rfl) (ht2:(assignEach [.Name y2 q2] X.env).map (·.2)=assign (.Name y2 q2) X.env::(assignEach [] X.env).map (·.2):=by rfl)
  (hn:(assignEach [.Name y1 q1,.Name y2 q2] X.env).length=2:=by rfl) (hst:(assignEach [.Name y1 q1,.Name y2 q2] X.env).findIdx? (·.1)=none:=by rfl)
  (s0:swapsWith (.Call (.Name "set" p00) [] [] p01) (some (.Name x p0)) Vb.line X.env=pure false:=by rfl) (s1:swapsWith e1 (some (.Name xj pj)) pa.line X.env=pure false:=by rfl)
  (hmk:behindInMarks .In (.Name x px)=false:=by with_unfolding_all rfl)
  (st1:starEach [e3] X.env=[(false,eval e3 X.env)]:=by rfl) (st2:starEach [.Name xj NT] X.env=[(false,eval (.Name xj NT) X.env)]:=by rfl)
  (hb1:attributeBase (.Name x RW) "add" X.env (eval (.Name x RW) X.env)=eval (.Name x RW) X.env:=by rfl) (hb2:attributeBase (.Name xr pr) "append" X.env (eval (.Name xr pr) X.env)=eval (.Name xr pr) X.env:=by rfl)
  (hw1:((backTo c1 (starEach [e3] X.env)).all (fun x=>!x.1)&&(backToKw c1 (keywordEach [] X.env)).all (fun x=>x.1.isSome)&&decide ([e3].length+([]:List Keyword).length+(if ([]:List Keyword).isEmpty then 0 else 1) < 30))=true:=by rfl)
  (hw2:((backTo c2 (starEach [.Name xj NT] X.env)).all (fun x=>!x.1)&&(backToKw c2 (keywordEach [] X.env)).all (fun x=>x.1.isSome)&&decide ([Expr.Name xj NT].length+([]:List Keyword).length+(if ([]:List Keyword).isEmpty then 0 else 1) < 30))=true:=by rfl)
  (hl1:(a1.endLine==c1.line)=true:=by rfl) (hl2:(a2.endLine==c2.line)=true:=by rfl)
  (s3:swapsWith (.Call (.Attribute (.Name x RW) "add" a1) [e3] [] c1) none pe1.line X.env=pure false:=by rfl)
  (s4:swapsWith (.Call (.Attribute (.Name xr pr) "append" a2) [.Name xj NT] [] c2) none pe2.line X.env=pure false:=by rfl) :
  CT X (.Assign [.Name x p0] (.Call (.Name "set" p00) [] [] p01) Vb::.For (.Tuple [.Name y1 q1,.Name y2 q2] kk pt) iter [.Assign [.Name xj pj] e1 pa,.If (.BoolOp .Or [c,.Compare e2 [.In] [.Name x px] pb] pif) no [] pf2,.Expr (.Call (.Attribute (.Name x RW) "add" a1) [e3] [] c1) pe1,.Expr (.Call (.Attribute (.Name xr pr) "append" a2) [.Name xj NT] [] c2) pe2] [] pos::rest) fun De σ H=>
   ∃ H0 ρ res,bF X.K H0 H σ ρ/\Kc i r j k1 k2 fi f1 p fe fx ρ=some res/\(∀ ρ',res=.inl ρ'->∀ σ' H',bF X.K H0 H' σ' ρ'->tQ De σ' H')/\∀ d,res=.inr d->∀ D' σ' H' ρ1,bF X.K H0 H' σ' ρ1->fx ρ1=some d->D'.rt=De.rt->tR D' σ' H':=by
 obtain⟨n1,n2,n3,n4,n5,n6,n7,n8,n9,n10⟩:=nd5 nd
 have hadd:PE X (.Call (.Attribute (.Name x RW) "add" a1) [e3] [] c1) _:=adu (tD (i:=i) xi vi di ci) (jY h3.run tH (by rw[st1]<;>rfl)) hb1 hw1 hl1 (by rw[st1]<;>rfl) rfl
 have happ:PE X (.Call (.Attribute (.Name xr pr) "append" a2) [.Name xj NT] [] c2) _:=
  QS PySem.F.plainAttrs_list PySem.F.slot_list_append PySem.F.type_list_append Fy (tD (i:=r) xR vr dr cr) (jY (tD (i:=j) xJ vj dj cj) tH (by rw[st2]<;>rfl)) hb2 hw2 hl2 (by rw[st2]<;>rfl) rfl
 refine OD (lQ (TY (pos:=Vb) (pos':=p0) hN xi li (T9 adt hg hm rfl) s0 gi)
  (lQ (Oo hp hc hi.run (L2.Ze hc (L2.Jt (L2.Ao hN x1 l1 g1) (L2.Jt (L2.Ao hN x2 l2 g2) L2.V0 ht2) ht) hn hst)
   (lQ (TY (pos:=pa) (pos':=pj) hN xJ lj h1.run s1 gj) (lQ (Zd (ad3 hcn.run (Zb (Oq aaM h2.run (tD (i:=i) xi vi di ci) hmk))).pt hR Ol) (lQ (IW hadd s3) (wV (IW happ s4))))) hs) hr)) fun De σ H h=>?_
 obtain⟨H0,ρ,aqP,E,eo,q,qx⟩:=h
 unfold Kc at eo
 split at eo
 rotate_left
 ·cases eo
 rename_i hρ
 split at eo
 rotate_left
 ·cases eo
 rename_i hij
 obtain⟨ds,ed,eo⟩:=bind_some eo
 obtain⟨res,em,eo⟩:=bind_some eo
 obtain⟨v,hσr,L,vs0,rfl,hL,rs0⟩:=E.val r _ hρ
 have fr:∀ (q:Nat) b,(((((ρ.set i none).set r none).set j none).set k1 none).set k2 none)[q]?=some (some b)->q≠i/\q≠r/\q≠j/\q≠k1/\q≠k2/\ρ[q]?=some (some b):=fun q b e=>by
  obtain⟨m1,e⟩:=Aw e
  obtain⟨m2,e⟩:=Aw e
  obtain⟨m3,e⟩:=Aw e
  obtain⟨m4,e⟩:=Aw e
  obtain⟨m5,e⟩:=Aw e
  exact⟨m5,m4,m3,m2,m1,e⟩
 have hl0:(((((ρ.set i none).set r none).set j none).set k1 none).set k2 none).length=ρ.length:=by simp
 have hrL:r < ρ.length:=(List.getElem?_eq_some_iff.mp hρ).1
 generalize ((((ρ.set i none).set r none).set j none).set k1 none).set k2 none=ρ0 at *
 refine⟨rfl,fun D H1 sm1 hfr hD=>?_⟩
 have E0:bF X.K H0 H1 σ ρ0:=(E.forget hl0.symm fun q b e=>(fr q b e).2.2.2.2.2).grow sm1
 have hL1:=sm1 _ _ hL
 have hLD:L≠D:=fun z=>by rw[z,hfr] at hL;cases hL
 have aaO:∀ (q:Nat) c a,ρ0[q]?=some (some c)->loose c=true->σ[q]?=some (some (.ref a))->a≠L/\a≠D:=fun q c a e1 e2 e3=>by
  obtain⟨_,m2,_,_,_,e⟩:=fr q c e1
  exact⟨fun z=>by subst z;exact m2 (E.own r q _ a c hρ rfl hσr e e2 e3).symm,fun z=>by subst z;exact known E q c a e e2 e3 hfr⟩
 have agi:∀ q c,ρ0[q]?=some (some c)->(σ.set i (some (V.ref D)))[q]?=σ[q]?:=fun q c e=>rN _ (fr q c e).1
 have E1:bF X.K H0 H1 (σ.set i (some (.ref D))) ρ0:=⟨by rw[qf];exact E0.len,fun q b e=>by rw[agi q b e];exact E0.val q b e,
  fun q q' c a b e1 e2 e3 e4 e5 e6=>E0.own q q' c a b e1 e2 (by rw[<-agi q c e1];exact e3) e4 e5 (by rw[<-agi q' b e4];exact e6),E0.base,fun q c a e1 e2 e3=>E0.new q c a e1 e2 (by rw[<-agi q c e1];exact e3)⟩
 have hLs:σ.length=ρ.length:=E.len
 have hσi:(σ.set i (some (V.ref D)))[i]?=some (some (.ref D)):=yS _ (by omega)
 have ah7:(σ.set i (some (V.ref D)))[r]?=some (some (.ref L)):=(rN _ n1.symm).trans hσr
 have sep1:∀ (q:Nat) c a,ρ0[q]?=some (some c)->loose c=true->(σ.set i (some (V.ref D)))[q]?=some (some (.ref a))->a≠L/\a≠D:=fun q c a e1 e2 e3=>aaO q c a e1 e2 (by rw[<-agi q c e1];exact e3)
 have newL:H0 L=none:=E.new r _ L hρ rfl hσr
 have newD:H0 D=none:=E.base.free hfr
 clear aaO agi hσr E0 sm1 hL
 dsimp only[VR]
 generalize hσs:σ.set i (some (V.ref D))=σ1 at *
 have hls1:σ1.length=ρ.length:=by rw[<-hσs,qf];exact hLs
 clear hσs
 refine⟨H0,ρ0,ds,E1,ed,fun J H2 sm2 y=>?_⟩
 have E2:=E1.grow sm2
 have hL2:=sm2 _ _ hL1
 have hD2:=sm2 _ _ hD
 have Y:Yields X.K J ds (sJ (sJ (cT H2 σ1 ρ0) L) D):=by
  refine y _ ((wZ.trans wZ).trans pY) (fun a ha=>?_) (fun a o u ha=>?_) fun a vs ha=>?_
  ·rw[oh (fun z=>by rw[z,hD] at ha;cases ha),oh (fun z=>by rw[z,hL1] at ha;cases ha)]
   unfold cT
   rw[zI]
   rintro⟨q,c,e1,ec,e2⟩
   exact known E1 q c a e1 (by cases c<;>first|rfl|cases ec) e2 ha
  ·rw[oh (fun z=>by rw[z,hD2] at ha;cases ha),oh (fun z=>by rw[z,hL2] at ha;cases ha)]
   exact dN E2 (fun vs z=>by rw[ha] at z;cases z) fun vs z=>by rw[ha] at z;cases z
  ·rw[oh (fun z=>by rw[z,hD2] at ha;cases ha),oh (fun z=>by rw[z,hL2] at ha;cases ha)]
   exact dN E2 (fun vs z=>by rw[ha] at z;cases z) fun vs z=>by rw[ha] at z;cases z
 have sub:Same H0 (sJ (sJ (cT H2 σ1 ρ0) L) D):=fun b o eb=>by
  rw[oh (fun z=>by rw[z,newD] at eb;cases eb),oh (fun z=>by rw[z,newL] at eb;cases eb)]
  exact E2.sub b o eb
 have ES:bF X.K (sJ (sJ (cT H2 σ1 ρ0) L) D) H2 σ1 ρ0:=by
  have:=E2.sans
  exact⟨this.len,this.val,this.own,(wZ.trans wZ).trans pY,fun q c a e1 ec e2=>by
   unfold sJ
   split
   ·rfl
   ·split
    ·rfl
    ·exact this.new q c a e1 ec e2⟩
 have hsD:sJ (sJ (cT H2 σ1 ρ0) L) D D=none:=zk rfl
 have hsL:sJ (sJ (cT H2 σ1 ρ0) L) D L=none:=by rw[oh hLD];exact zk rfl
 generalize sJ (sJ (cT H2 σ1 ρ0) L) D=Hs at Y sub ES hsD hsL
 refine⟨fun n m' σ' H'=>m'=ds.length - n/\n<=ds.length/\(∀ q,q≠j->q≠k1->q≠k2->σ'[q]?=σ1[q]?)/\∃ seen outs vs,bF X.K Hs H' σ' ρ0/\H' L=some (.lst vs)/\aW X.K H' outs vs/\H' D=some (hoT X D seen)/\zy k1 k2 j f1 p fe fx ρ0 (ds.drop n) seen outs=some res,⟨ds.length,by simp,QP _,fun _ _ _ _=>rfl,[],[],vs0,ES,hL2,?_,hD2,em⟩,?_⟩
 ·have:=rs0.length
  rw[List.length_nil] at this
  rw[List.length_eq_zero_iff.mp this]
  exact aW.nil
 rintro n m' σ' H' ⟨rfl,hn',hσ,seen,outs,vs,E',hL',rL,hD',em'⟩
 obtain⟨y1',y2'⟩:=Y n H' E'.base
 by_cases hlt:n < ds.length
 ·right
  have hd:ds[n]?=some ds[n]:=by simp[hlt]
  obtain⟨go,yl⟩:=y1' _ hd
  rw[QU hlt] at em'
  refine⟨go,fun σ2 H2=>(∀ q,q≠j->q≠k1->q≠k2->σ2[q]?=σ1[q]?)/\∃ seen outs vs,bF X.K Hs H2 σ2 ρ0/\H2 L=some (.lst vs)/\aW X.K H2 outs vs/\H2 D=some (hoT X D seen)/\zy k1 k2 j f1 p fe fx ρ0 (ds.drop (n+1)) seen outs=some res,fun σ2 H2 ⟨z1,z2⟩=>⟨ds.length - (n+1),by omega,rfl,hlt,z1,z2⟩,fun xv H3 yy=>?_⟩
  obtain⟨sm3,rx⟩:=yl xv H3 yy
  simp only[zy] at em'
  split at em'
  rotate_left
  ·cases em'
  rename_i da db hdd
  rw[hdd] at rx
  obtain⟨b1,eb1,em'⟩:=bind_some em'
  split at em'
  rotate_left
  ·cases em'
  rename_i d1
  obtain⟨t,et,em'⟩:=bind_some em'
  simp only[Rep] at rx
  obtain⟨ta,tvs,rfl,sq,rts⟩:=rx
  simp only[aW] at rts
  obtain⟨va,_,rfl,ra,vb,_,rfl,rb,rfl⟩:=rts
  have E3:=E'.grow sm3
  have Ea:bF X.K Hs H3 (σ'.set k1 (some va)) (ρ0.set k1 (some (.z da))):=E3.set (b:=.z da) (Same.refl H3) ra (.inr rfl) trivial
  have Eb:bF X.K Hs H3 ((σ'.set k1 (some va)).set k2 (some vb)) ((ρ0.set k1 (some (.z da))).set k2 (some (.z db))):=Ea.set (b:=.z db) (Same.refl H3) rb (.inr rfl) trivial
  refine⟨ta,[va,vb],rfl,sq,rfl,va,[vb],rfl,vb,[],rfl,rfl,Hs,_,_,Eb,eb1,fun v1 H4 s4' n4' r4=>?_⟩
  have Ej:bF X.K Hs H4 (((σ'.set k1 (some va)).set k2 (some vb)).set j (some v1)) (((ρ0.set k1 (some (.z da))).set k2 (some (.z db))).set j (some (.z d1))):=Eb.set (b:=.z d1) s4' r4 (.inr rfl) trivial
  have ag:∀ q,q≠j->q≠k1->q≠k2->(((σ'.set k1 (some va)).set k2 (some vb)).set j (some v1))[q]?=σ1[q]?:=fun q a1 a2 a3=>by rw[rN _ a1,rN _ a3,rN _ a2];exact hσ q a1 a2 a3
  have hlj:(((σ'.set k1 (some va)).set k2 (some vb)).set j (some v1))[j]?=some (some v1):=yS _ (by
   have:=E'.len
   rw[qf,qf,this,hl0];exact hij.2)
  have hi':=(ag i n2 n3 n4).trans hσi
  have hr':=(ag r n5 n6 n7).trans ah7
  have dn:∀ (q:Nat) b,loose b=true->(((ρ0.set k1 (some (.z da))).set k2 (some (.z db))).set j (some (.z d1)))[q]?=some (some b)->ρ0[q]?=some (some b):=fun q b hl e=>by
   rcases getset e with⟨_,z,_⟩|⟨_,e⟩
   ·cases z;cases hl
   ·rcases getset e with⟨_,z,_⟩|⟨_,e⟩
    ·cases z;cases hl
    ·rcases getset e with⟨_,z,_⟩|⟨_,e⟩
     ·cases z;cases hl
     ·exact e
  have sep2:∀ (q:Nat) c a,(((ρ0.set k1 (some (.z da))).set k2 (some (.z db))).set j (some (.z d1)))[q]?=some (some c)->loose c=true->(((σ'.set k1 (some va)).set k2 (some vb)).set j (some v1))[q]?=some (some (.ref a))->a≠L/\a≠D:=fun q c a e1 e2 e3=>by
   have e0:=dn q c e2 e1
   obtain⟨_,_,m3,m4,m5,_⟩:=fr q c e0
   exact sep1 q c a e0 e2 (by rw[<-ag q m3 m4 m5];exact e3)
  have up:∀ (q:Nat) b,ρ0[q]?=some (some b)->(((ρ0.set k1 (some (.z da))).set k2 (some (.z db))).set j (some (.z d1)))[q]?=some (some b):=fun q b e=>by
   obtain⟨_,_,m3,m4,m5,_⟩:=fr q b e
   rw[rN _ m3,rN _ m5,rN _ m4];exact e
  have ah8:(((ρ0.set k1 (some (.z da))).set k2 (some (.z db))).set j (some (.z d1))).length=ρ0.length:=by simp
  have hLj:=s4' _ _ (sm3 _ _ hL')
  have hDj:=s4' _ _ (sm3 _ _ hD')
  have rLj:=(rL.kp (.of sm3)).kp (.of s4')
  dsimp only[VR]
  generalize ((σ'.set k1 (some va)).set k2 (some vb)).set j (some v1)=σ3 at *
  generalize ((ρ0.set k1 (some (.z da))).set k2 (some (.z db))).set j (some (.z d1))=ρ3 at *
  refine⟨Hs,ρ3,t,Ej,et,fun H5 s5=>?_⟩
  by_cases ht':t=true
  ·subst ht'
   rw[zk rfl] at em'
   obtain⟨d0,ex,em'⟩:=bind_some em'
   cases em'
   cases eo
   show (if true=true then _ else _)
   rw[zk rfl]
   exact qx d0 rfl _ _ _ _ ((Ej.grow s5).rebase sub) ex rfl
  obtain rfl:t=false:=by cases t with
   |true=>exact absurd rfl ht'
   |false=>rfl
  rw[zI zr] at em'
  obtain⟨b2,eb2,em'⟩:=bind_some em'
  obtain⟨z,ez,em'⟩:=bind_some em'
  rw[U9 ez] at eb2
  show (if false=true then _ else _)
  rw[zI zr]
  refine⟨Hs,ρ3,_,Ej.grow s5,eb2,fun v2 H6 s6 n6' r6=>⟨_,hi',?_⟩⟩
  obtain⟨rfl,hz⟩:=Pa r6
  refine⟨z,D,seen,rfl,rfl,s6 _ _ (s5 _ _ hDj),_,rfl,?_⟩
  have E6:=(Ej.grow s5).grow s6
  show (if decide (z∈seen)=true then _ else _)
  by_cases hnew:z∈seen
  ·rw[zk hnew] at em'
   obtain⟨d0,ex,em'⟩:=bind_some em'
   cases em'
   cases eo
   rw[zk (z5 hnew)]
   exact qx d0 rfl _ _ _ _ (E6.rebase sub) ex rfl
  rw[zI hnew] at em'
  split at em'
  rotate_left
  ·cases em'
  rename_i hok
  have emz:=em'
  obtain⟨hs4,ho4⟩:=hok
  rw[zI (by simpa using hnew)]
  refine⟨_,hi',D,rfl,⟨seen,s6 _ _ (s5 _ _ hDj)⟩,Hs,ρ3,_,E6,eb2,fun v3 H7 s7 n7' r7=>?_⟩
  obtain⟨rfl,_⟩:=Pa r7
  have E7:=E6.grow s7
  have hD7:=s7 _ _ (s6 _ _ (s5 _ _ hDj))
  have hL7:=s7 _ _ (s6 _ _ (s5 _ _ hLj))
  refine⟨z,seen,rfl,hD7,hs4,?_⟩
  have kD:Kp H7 (upd H7 D (hoT X D (seen++[z]))):=U0 hD7
  have E8:bF X.K Hs (upd H7 D (hoT X D (seen++[z]))) σ3 ρ3:=E7.move (as:=[D]) (fun q c a e1 e2 e3 z=>(sep2 q c a e1 e2 e3).2 (List.mem_singleton.mp z)) kD (fun b hb=>aV fun z=>hb (by rw[z];simp)) (fun b o eb=>by
   rw[aV fun z=>by rw[z,hsD] at eb;cases eb]
   exact E7.base b o eb) E7.new
  have hL8:upd H7 D (hoT X D (seen++[z])) L=some (.lst vs):=by rw[aV hLD];exact hL7
  have hD8:upd H7 D (hoT X D (seen++[z])) D=some (hoT X D (seen++[z])):=bC
  have rL8:=(((rLj.kp (.of s5)).kp (.of s6)).kp (.of s7)).kp kD
  have r8:Rep X.K (upd H7 D (hoT X D (seen++[z]))) d1 v1:=Rep.kp kD (Rep.kp (.of s7) (Rep.kp (.of s6) (Rep.kp (.of s5) r4)))
  generalize upd H7 D (hoT X D (seen++[z]))=H8 at *
  have sz:(4001:Nat)<=sizeLine:=by decide
  refine⟨_,hr',.inl ⟨rfl,vs,.inl (.inl hL8)⟩,_,hlj,L,vs,v1,rfl,rfl,hL8,by rw[rL8.length];omega,ag,seen++[z],outs++[d1],vs++[v1],?_,bC,(rL8.kp (.lst hL8)).append (aW.cons (Rep.kp (.lst hL8) r8) aW.nil),?_,emz⟩
  ·exact (E8.move (as:=[L]) (fun q c a e1 e2 e3 z=>(sep2 q c a e1 e2 e3).1 (List.mem_singleton.mp z)) (.lst hL8) (fun b hb=>aV fun z=>hb (by rw[z];simp)) (fun b o eb=>by
    rw[aV fun z=>by rw[z,hsL] at eb;cases eb]
    exact E8.base b o eb) E8.new).forget ah8 up
  ·rw[aV hLD.symm];exact hD8
 ·left
  have hge:ds.length<=n:=by omega
  rw[km hge] at em'
  cases em'
  cases eo
  have agL:∀ (q:Nat) c,ρ0[q]?=some (some c)->σ'[q]?=σ1[q]?:=fun q c e=>let ⟨_,_,m3,m4,m5,_⟩:=fr q c e;hσ q m3 m4 m5
  have hr':σ'[r]?=some (some (.ref L)):=(hσ r n5 n6 n7).trans ah7
  have E9:=E'.rebase sub
  have aaO:∀ (q:Nat) c,ρ0[q]?=some (some c)->loose c=true->σ'[q]?≠some (some (.ref L)):=fun q c e1 e2 e3=>(sep1 q c L e1 e2 (by rw[<-agL q c e1];exact e3)).1 rfl
  refine⟨y2' hge,q _ rfl σ' H' ⟨by rw[qf];exact E9.len,fun q b e=>?_,fun a1 a2 c a b g1 g2 g3 g4 g5 g6=>?_,E9.base,fun a1 c a g1 g2 g3=>?_⟩⟩
  ·rcases getset e with⟨rfl,z,_⟩|⟨_,e⟩
   ·cases z;exact⟨_,hr',L,vs,rfl,hL',rL⟩
   ·exact E9.val q b e
  ·rcases getset g1 with⟨rfl,z,_⟩|⟨_,k1'⟩
   ·cases z
    rw[hr'] at g3;cases g3
    rcases getset g4 with⟨rfl,_,_⟩|⟨_,k4⟩
    ·rfl
    ·exact absurd g6 (aaO a2 b k4 g5)
   ·rcases getset g4 with⟨rfl,z,_⟩|⟨_,k4⟩
    ·cases z
     rw[hr'] at g6;cases g6
     exact absurd g3 (aaO a1 c k1' (by cases c<;>first|rfl|cases g2))
    ·exact E9.own a1 a2 c a b k1' g2 g3 k4 g5 g6
  ·rcases getset g1 with⟨rfl,z,_⟩|⟨_,g1⟩
   ·rw[hr'] at g3;cases g3
    exact newL
   ·exact E9.new a1 c a g1 g2 g3
theorem aaP (i r j k1 k2:Nat) (hp:PassesOwn (model X.prog X.w) X.A X.env X.xe) (hc:X.calm=true) (hN:X.N.Nodup) (hg:Gl X "set") (hm:X.mg "set" = none) (hi:QIF X (.Tuple [.Name y1 q1,.Name y2 q2] kk pt) iter fi) (h1:QV X e1 f1) (hcn:QB X c p) (h2:QV X e2 fe) (h3:QV X e3 fe) (hr:V6 X rest gr)
  (nd:[i,r,j,k1,k2].Nodup:=by decide) (xi:X.N[i]?=some x:=by rfl) (xR:X.N[r]?=some xr:=by rfl) (xJ:X.N[j]?=some xj:=by rfl) (x1:X.N[k1]?=some y1:=by rfl) (x2:X.N[k2]?=some y2:=by rfl)
  (vi:Mt X.env.scope x:=by first|exact ZU rfl|exact Zs (ZU rfl)|exact Zs (Zs rfl)) (vr:Mt X.env.scope xr:=by first|exact ZU rfl|exact Zs (ZU rfl)|exact Zs (Zs rfl)) (vj:Mt X.env.scope xj:=by first|exact ZU rfl|exact Zs (ZU rfl)|exact Zs (Zs rfl))
  (li:Loc X.env.scope x:=by first|exact ZU rfl|exact Zs rfl) (lj:Loc X.env.scope xj:=by first|exact ZU rfl|exact Zs rfl) (l1:Loc X.env.scope y1:=by first|exact ZU rfl|exact Zs rfl) (l2:Loc X.env.scope y2:=by first|exact ZU rfl|exact Zs rfl)
  (gi:X.fn x=true\/X.env.scope.names.lookup x=some .local:=by first|exact .inl rfl|exact .inr rfl) (gj:X.fn xj=true\/X.env.scope.names.lookup xj=some .local:=by first|exact .inl rfl|exact .inr rfl) (g1:X.fn y1=true\/X.env.scope.names.lookup y1=some .local:=by first|exact .inl rfl|exact .inr rfl) (g2:X.fn y2=true\/X.env.scope.names.lookup y2=some .local:=by first|exact .inl rfl|exact .inr rfl)
  (di:(x==("__debug__" : Str))=false:=by decide) (ci:(x==("__classdict__" : Str))=false:=by decide) (dr:(xr==("__debug__" : Str))=false:=by decide) (cr:(xr==("__classdict__" : Str))=false:=by decide) (dj:(xj==("__debug__" : Str))=false:=by decide) (cj:(xj==("__classdict__" : Str))=false:=by decide)
  (hs:∀ z,foldedSetIterable iter X.env z=pure z:=by intro _;rfl)
  (ht:(assignEach [.Name y1 q1,.Name y2 q2] X.env).map (·.2)=assign (.Name y1 q1) X.env::(assignEach [.Name y2 q2] X.env).map (·.2):=by rfl) (ht2:(assignEach [.Name y2 q2] X.env).map (·.2)=assign (.Name y2 q2) X.env::(assignEach [] X.env).map (·.2):=by rfl)
  (hn:(assignEach [.Name y1 q1,.Name y2 q2] X.env).length=2:=by rfl) (hst:(assignEach [.Name y1 q1,.Name y2 q2] X.env).findIdx? (·.1)=none:=by rfl)
  (s0:swapsWith (.Call (.Name "set" p00) [] [] p01) (some (.Name x p0)) Vb.line X.env=pure false:=by rfl) (s1:swapsWith e1 (some (.Name xj pj)) pa.line X.env=pure false:=by rfl)
  (hmk:behindInMarks .In (.Name x px)=false:=by with_unfolding_all rfl)
  (st1:starEach [e3] X.env=[(false,eval e3 X.env)]:=by rfl) (st2:starEach [.Name xj NT] X.env=[(false,eval (.Name xj NT) X.env)]:=by rfl)
  (hb1:attributeBase (.Name x RW) "add" X.env (eval (.Name x RW) X.env)=eval (.Name x RW) X.env:=by rfl) (hb2:attributeBase (.Name xr pr) "append" X.env (eval (.Name xr pr) X.env)=eval (.Name xr pr) X.env:=by rfl)
  (hw1:((backTo c1 (starEach [e3] X.env)).all (fun x=>!x.1)&&(backToKw c1 (keywordEach [] X.env)).all (fun x=>x.1.isSome)&&decide ([e3].length+([]:List Keyword).length+(if ([]:List Keyword).isEmpty then 0 else 1) < 30))=true:=by rfl)
  (hw2:((backTo c2 (starEach [.Name xj NT] X.env)).all (fun x=>!x.1)&&(backToKw c2 (keywordEach [] X.env)).all (fun x=>x.1.isSome)&&decide ([Expr.Name xj NT].length+([]:List Keyword).length+(if ([]:List Keyword).isEmpty then 0 else 1) < 30))=true:=by rfl)
  (hl1:(a1.endLine==c1.line)=true:=by rfl) (hl2:(a2.endLine==c2.line)=true:=by rfl)
  (s3:swapsWith (.Call (.Attribute (.Name x RW) "add" a1) [e3] [] c1) none pe1.line X.env=pure false:=by rfl)
  (s4:swapsWith (.Call (.Attribute (.Name xr pr) "append" a2) [.Name xj NT] [] c2) none pe2.line X.env=pure false:=by rfl) :
  V6 X (.Assign [.Name x p0] (.Call (.Name "set" p00) [] [] p01) Vb::.For (.Tuple [.Name y1 q1,.Name y2 q2] kk pt) iter [.Assign [.Name xj pj] e1 pa,.If (.BoolOp .Or [c,.Compare e2 [.In] [.Name x px] pb] pif) no [] pf2,.Expr (.Call (.Attribute (.Name x RW) "add" a1) [e3] [] c1) pe1,.Expr (.Call (.Attribute (.Name xr pr) "append" a2) [.Name xj NT] [] c2) pe2] [] pos::rest) (aM (RV i r j k1 k2 fi f1 p fe) gr):=by
 refine⟨OD (RZ (fx:=fun _=>none) (tR:=Om) i r j k1 k2 hp hc hN hg hm hi h1 hcn h2 h3 Am hr.run nd xi xR xJ x1 x2 vi vr vj li lj l1 l2 gi gj g1 g2 di ci dr cr dj cj hs ht ht2 hn hst s0 s1 hmk st1 st2 hb1 hb2 hw1 hw2 hl1 hl2 s3 s4) fun De σ H h=>?_⟩
 obtain⟨H0,ρ,out,Ev,e,q⟩:=h
 obtain⟨o1,eo,e⟩:=bind_some e
 unfold RV at eo
 split at eo
 rotate_left
 ·cases eo
 rename_i hρ
 split at eo
 rotate_left
 ·cases eo
 rename_i hij
 obtain⟨ds,ed,eo⟩:=bind_some eo
 obtain⟨res,em,eo⟩:=bind_some eo
 cases eo
 refine⟨H0,ρ,.inl _,Ev,?_,fun ρ' z σ' H' E'=>⟨H0,_,out,E',(by cases z;exact e),q⟩,fun d z=>nomatch z⟩
 unfold Kc
 rw[hρ]
 dsimp only
 rw[zk hij,ed]
 simp only[bnd]
 rw[aaN em]
 rfl
end
section
variable {α β γ δ:Type} {ρ:Ev} {e:α->Dt} {ea:β->Dt} {eb:δ->Dt} {f1 fe:Ev->Option Bx} {p:Ev->Option Bool} {fi:Ev->Option (List Dt)} {kk:Ev->Option Out} {cO:γ->Out}
theorem Wu [Inhabited α] {k1 k2 j:Nat} {A:β×δ->Option α} {V:β×δ->Str}:∀ (xs:List (β×δ)) (seen:LS_) (outs:List α),(∀ x∈xs,(A x).isSome=true/\f1 ((ρ.set k1 (some (.z (ea x.1)))).set k2 (some (.z (eb x.2))))=some (.z (eO e (A x)))/\p (((ρ.set k1 (some (.z (ea x.1)))).set k2 (some (.z (eb x.2)))).set j (some (.z (eO e (A x)))))=some false/\fe (((ρ.set k1 (some (.z (ea x.1)))).set k2 (some (.z (eb x.2)))).set j (some (.z (eO e (A x)))))=some (.z (.str (V x)))) →
  (seen++xs.map V).Nodup->seen.length+xs.length < 4000->outs.length+xs.length < 4000->Hi k1 k2 j f1 p fe ρ (xs.map (Fl ea eb)) seen (outs.map e)=some ((outs++xs.map fun x=>(A x).getD default).map e)
 |[],seen,outs,_,_,_,_=>by simp[Hi]
 |x::xs,seen,outs,h,hn,h1,h2=>by
  obtain⟨a1,a2,a3,a4⟩:=h x (zi ..)
  rw[Zp] at h1 h2
  rw[zg]
  simp only[Hi,Fl,a2,bnd,a3,a4,txB]
  rw[zk ⟨by first|rfl|trivial,fun hm=>by
   rw[zg] at hn
   exact (List.nodup_append.mp hn).2.2 _ hm _ (zi ..) rfl,by omega,by rw[zh];omega⟩]
  have e1:outs.map e++[eO e (A x)]=(outs++[(A x).getD default]).map e:=by
   rw[Zl]
   cases hA:A x with
   |none=>rw[hA] at a1;cases a1
   |some y=>rfl
  rw[e1,Wu xs (seen++[V x]) (outs++[(A x).getD default]) (fun y hy=>h y (zo _ hy)) (by simpa using hn) (by simp;omega) (by simp;omega)]
  simp
def af7 [Inhabited α] (i r j k1 k2:Nat) (m0:List α) (hr:ρ[r]?=some (some (oE e m0))) (hij:(decide (i < ρ.length)&&decide (j < ρ.length))=true) {ρ0:Ev} (h0:((((ρ.set i none).set r none).set j none).set k1 none).set k2 none=ρ0) (it:R fi ρ0 (iE (Fl ea eb)))
  (a:∀ x:β×δ,R f1 ((ρ0.set k1 (some (.z (ea x.1)))).set k2 (some (.z (eb x.2)))) (zE (eO e))) (c:∀ (x:β×δ) (y:Option α),R p (((ρ0.set k1 (some (.z (ea x.1)))).set k2 (some (.z (eb x.2)))).set j (some (.z (eO e y)))) tE)
  (v:∀ (x:β×δ) (y:Option α),R fe (((ρ0.set k1 (some (.z (ea x.1)))).set k2 (some (.z (eb x.2)))).set j (some (.z (eO e y)))) (zE eS)) (K:∀ m:List α,R kk (ρ0.set r (some (oE e m))) cO):R (aM (RV i r j k1 k2 fi f1 p fe) kk) ρ cO:=
 ⟨(K (it.v.map fun x=>(a x).v.getD default)).v,bG (bG (bG (bG (some (m0=[])) it.D) (some (it.v.length < 4000/\(it.v.map fun x=>(v x (a x).v).v).Nodup))) (afS it.v fun x=>bG (a x).D (bG (some ((a x).v.isSome=true)) (bG (c x (a x).v).D (bG (some ((c x (a x).v).v=false)) (v x (a x).v).D))))) (K (it.v.map fun x=>(a x).v.getD default)).D,fun hd=>by
 obtain⟨h,h4⟩:=aB hd
 obtain⟨h,h3⟩:=aB h
 obtain⟨h',h2⟩:=aB h
 obtain⟨hm,h1⟩:=aB h'
 have hm:m0=[]:=hm
 rw[hm] at hr
 have h2:it.v.length < 4000/\(it.v.map fun x=>(v x (a x).v).v).Nodup:=h2
 have h3:∀ x∈it.v,hold (bG (a x).D (bG (some ((a x).v.isSome=true)) (bG (c x (a x).v).D (bG (some ((c x (a x).v).v=false)) (v x (a x).v).D)))):=h3
 rw[ZN,ZY,ZY] at hij
 rw[u5 (ρ':=ρ0.set r (some (oE e (it.v.map fun x=>(a x).v.getD default)))) (by
  unfold RV
  rw[show ρ[r]?=some (some (Bx.o [])) from hr]
  simp only[zk hij,h0,it.ok h1,bnd]
  have:=Wu (ρ:=ρ0) (k1:=k1) (k2:=k2) (j:=j) (f1:=f1) (p:=p) (fe:=fe) (e:=e) (ea:=ea) (eb:=eb) (A:=fun x=>(a x).v) (V:=fun x=>(v x (a x).v).v) it.v [] [] (fun x hx=>by
   obtain⟨d1,d2⟩:=aB (h3 x hx)
   obtain⟨d2,d3⟩:=aB d2
   obtain⟨d3,d4⟩:=aB d3
   obtain⟨d4,d5⟩:=aB d4
   have d4:(c x (a x).v).v=false:=d4
   exact⟨d2,(a x).ok d1,by rw[(c x (a x).v).ok d3,d4],(v x (a x).v).ok d5⟩) (by simpa using h2.2) (by simpa using h2.1) (by simpa using h2.1)
  rw[kM] at this
  rw[show (iE (Fl ea eb)) it.v=it.v.map (Fl ea eb) from rfl,this,bnd]
  rfl)]
 exact (K _).ok h4⟩
end
end P1
end
section
namespace P1
open PySem PySem.Spec PyProof.Rows L2 S1
section
variable {prog:Program} {w:World} {A:Around} {E:VP_} {s:Shared}
end
section
variable {X:Cx}
end
section
variable {X:Cx} {k n:Nat} {f:Addr} {fd:FuncData} {ps:LS_} {F:List Bx->Option Bx} {x:Str} {p pos:Pos}
end
end P1
end
section
namespace P1
open PySem PySem.Spec PyProof.Rows L2 S1 S6
section
variable {α β:Type} {e:α->Dt} {ρ:Ev} {f g fa fb:Ev->Option Bx} {c:α->Bx}
end
section
variable {ρ:Ev}
def x_i (i:Int):R (cB (.int i)) ρ (zE eI):=rO (.int i) eI i rfl
def Vc (s:Str):R (cB (.str s)) ρ (zE eS):=rO (.str s) eS s rfl
end
abbrev Nn (K:FG_) (n:Str) (f:Addr):Prop:=PySem.W.nsIn K mainGlobals n=some (some (.ref f))
abbrev Lk (K:FG_) (f:Addr) (n:Str) (st:Stmt) (oc:Value) (od:Option Addr) (sl:Array (Option Value)) (kV dc pm:Value) (an:Option Addr) (cd ct:Value):Prop:=K.lookup f=some ⟨oc,od,.func (PySem.W.fnOf n n (ux st) (jZ st) (aP st) .none kV dc pm an cd ct),sl⟩
abbrev Zn (K:FG_) (n:Str):Prop:=PySem.W.nsIn K mainGlobals n=some none
end P1
end
section
namespace P1
open PySem PySem.Spec PyProof.Rows L2
section
variable {α:Type} {ρ:Ev} {fa fb:Ev->Option Bx} {e:α->Dt}
end
def ExR (h:Heap) (e:Addr) (C:Value) (dx:Option Addr):Prop:=∃ vs sl,h.get? e=some ⟨C,dx,.fields vs,sl⟩/\vs[1]?=some .none
def Vd (h:Heap) (e:Addr) (C:Value) (dx:Option Addr) (fl:Value) (T:Addr):Prop:=
 ∃ vs sl oT ts,h.get? e=some ⟨C,dx,.fields vs,sl⟩/\vs[1]?=some (.ref T)/\T≠e/\h.get? T=some oT/\oT.data=.fields ts/\ts[3]?=some fl
structure PL (S ch:List Addr) (h h':Heap):Prop where
 keep:∀ b o,h.get? b=some o->b∉ch->b∉S->h'.get? b=some o
 slot:∀ b o,h.get? b=some o->b∉ch->∃ sl,h'.get? b=some { o with slots:=sl }
theorem PL.trans {S c1 c2:List Addr} {h h1 h2:Heap} (a:PL S c1 h h1) (b:PL S c2 h1 h2):PL S (c1++c2) h h2:=by
 refine⟨fun x o e n m=>b.keep x o (a.keep x o e (fun z=>n (qo _ z)) m) (fun z=>n (z4 _ z)) m,fun x o e n=>?_⟩
 obtain⟨s1,e1⟩:=a.slot x o e (fun z=>n (qo _ z))
 obtain⟨s2,e2⟩:=b.slot x _ e1 (fun z=>n (z4 _ z))
 exact⟨s2,e2⟩
theorem PL.mono {S S' c1 c2:List Addr} {h h1:Heap} (a:PL S c1 h h1) (hc:∀ b∈c1,b∈c2) (hs:∀ b∈S,b∈S'):PL S' c2 h h1:=
 ⟨fun x o e n m=>a.keep x o e (fun z=>n (hc _ z)) (fun z=>m (hs _ z)),fun x o e n=>a.slot x o e (fun z=>n (hc _ z))⟩
theorem PL.Bl {S ch:List Addr} {h h1 base:Heap} {l:List Env} (a:PL S ch h h1) (nf:∀ b∈ch,∀ o,h.get? b=some o->∃ vs,o.data=.fields vs) (hl:h.FunFrames base l):h1.FunFrames base l:=
 hl.of_keeps fun b o e hn=>by
  obtain⟨sl,q⟩:=a.slot b o e fun z=>by
   obtain⟨vs,d⟩:=nf b z o e
   exact hn vs d
  exact⟨_,q,rfl⟩
section
variable {M:Model} {A:Around} {Ex:VP_} {s:Shared} {base:Heap} {env:Env} {outer:List Env} {L e T:Addr} {C fl:Value} {dx:Option Addr} {Q:Unit->Shared->Prop}
theorem NZ {head:Value} {hadNext:Bool} {vs:Array Value} {sl:Array (Option Value)} (hfr:A.frames=some (env::outer)) (hl:s.heap.FunFrames base (env::outer)) (hf:env.frame=some L)
  (he:s.heap.get? e=some ⟨C,dx,.fields vs,sl⟩) (hsz:1 < vs.size)
  (h:∀ h' T,s.heap.objs.size<=T->PL (frs (env::outer)) [e] s.heap h'->Vd h' e C dx (rawInt L) T->Q () { s with heap:=h' }) :
  wpAny M A (do let a <-frameOf env;let pl <-entryPlaceOf L hadNext;let b <-EntryCells.newEntry head a .none (rawInt L) .none pl;setField (.ref e) 1 b) Q Ex s:=by
 have hene:e∉frs (env::outer):=fun hm=>by
  obtain⟨_,o,ho,hnf⟩:=hl.mem hm
  rw[he] at ho;cases ho;exact hnf vs rfl
 refine zb (wpAny_frameOf_fun hfr hl hf fun h1 hs1=>?_)
 refine zb (wpAny_entryPlaceOf fun pl hpl=>?_)
 unfold EntryCells.newEntry newFields
 refine zb (Q2 ?_ (hpl.sizeOk5 _ _ _ _ _))
 have he1:h1.get? e=some ⟨C,dx,.fields vs,sl⟩:=(hs1.2.1 e hene).trans he
 have he2:=zd (h:=h1) { cls:=.type "traceback", dict:=none,data:=.fields ([head,.ref L,.none,rawInt L,.none]++(if pl.isEmpty then List.replicate 6 Value.none else pl)).toArray } he1
 refine wpAny_setField he2 rfl hsz (h _ h1.objs.size (by rw[hs1.1];exact zl _) ?_ ?_)
 ·have kp:∀ b o,b≠e->h1.get? b=some o->_:=fun b o hb hq=>(qB _ (Obj.mapFields (·.setIfInBounds 1 (Value.ref h1.objs.size))) (QA hb)).trans (zd
   { cls:=.type "traceback", dict:=none,data:=.fields ([head,.ref L,.none,rawInt L,.none]++(if pl.isEmpty then List.replicate 6 Value.none else pl)).toArray } hq)
  refine⟨fun b o q n m=>kp b o (fun z=>n (by simp[z])) ((hs1.2.1 b m).trans q),fun b o q n=>?_⟩
  obtain⟨sl',q'⟩:=hs1.2.2 b o q
  exact⟨sl',kp b _ (fun z=>n (by simp[z])) q'⟩
 ·have hTe:h1.objs.size≠e:=js (zt he1)
  have he3:=qv (Obj.mapFields (·.setIfInBounds 1 (Value.ref h1.objs.size))) he2 (kn (QQ rfl _))
  have hT3:=(qB (h1.push { cls:=.type "traceback", dict:=none,data:=.fields ([head,.ref L,.none,rawInt L,.none]++(if pl.isEmpty then List.replicate 6 Value.none else pl)).toArray })
   (Obj.mapFields (·.setIfInBounds 1 (Value.ref h1.objs.size))) (QA hTe)).trans (zS h1 rfl)
  refine⟨_,_,_,_,he3,by simp[hsz],hTe,hT3,rfl,?_⟩
  first|(simp;done)|(rcases hpl with rfl|⟨_,_,_,_,_,_,_,rfl⟩<;>simp)
theorem aaQ (hfr:A.frames=some (env::outer)) (hl:s.heap.FunFrames base (env::outer)) (hf:env.frame=some L) (hx:ExR s.heap e C dx)
  (h:∀ h' T,s.heap.objs.size<=T->PL (frs (env::outer)) [e] s.heap h'->Vd h' e C dx (rawInt L) T->Q () { s with heap:=h' }):wpAny M A (noteFrame (.ref e) env) Q Ex s:=by
 obtain⟨vs,sl,he,h1⟩:=hx
 unfold noteFrame
 simp only[hf]
 refine zb (jn he rfl h1 ?_)
 rw[zI (by decide)]
 exact NZ hfr hl hf he (Array.getElem?_eq_some_iff.mp h1).1 h
theorem Yo (hf:env.frame=some L) (hx:Vd s.heap e C dx (rawInt L) T) (h:Q () s):wpAny M A (noteFrame (.ref e) env) Q Ex s:=by
 obtain⟨vs,sl,oT,ts,he,h1,hTe,hT,hd,h3⟩:=hx
 unfold noteFrame
 simp only[hf]
 refine zb (jn he rfl h1 ?_)
 rw[zk (show (Value.ref T != Value.none)=true from by simp)]
 refine zb (jn hT hd h3 ?_)
 rw[zk (show (rawInt L==rawInt L)=true from by simp)]
 exact ze h
theorem Wv {fl':Value} (hx:Vd s.heap e C dx fl T):∀ h',h'=s.heap.update T (Obj.mapFields (·.setIfInBounds 3 fl'))->PL [] [T] s.heap h'/\Vd h' e C dx fl' T:=by
 obtain⟨vs,sl,oT,ts,he,h1,hTe,hT,hd,h3⟩:=hx
 have hsz:3 < ts.size:=(Array.getElem?_eq_some_iff.mp h3).1
 intro h' eh
 subst eh
 have oth:∀ b,b≠T->(s.heap.update T (Obj.mapFields (·.setIfInBounds 3 fl'))).get? b=s.heap.get? b:=fun b hb=>qB _ _ (QA hb)
 refine⟨⟨fun b o q n _=>(oth b fun z=>n (by simp[z])).trans q,fun b o q n=>⟨o.slots,(oth b fun z=>n (by simp[z])).trans q⟩⟩,vs,sl,_,_,(oth e (QA hTe)).trans he,h1,hTe,
  qv _ hT (kn (QQ hd _)),QQ hd _,by simp[hsz]⟩
theorem xK (fr:Option Addr) (hx:Vd s.heap e C dx fl T) (h:∀ h',PL [] [T] s.heap h'->Vd h' e C dx (fr.elim .none fun f=>rawInt f) T->Q () { s with heap:=h' }):wpAny M A (setFlight (.ref e) fr) Q Ex s:=by
 obtain⟨x1,x2⟩:=Wv (fl':=fr.elim .none fun f=>rawInt f) hx _ rfl
 obtain⟨vs,sl,oT,ts,he,h1,hTe,hT,hd,h3⟩:=hx
 unfold setFlight
 refine zb (jn he rfl h1 ?_)
 rw[zk (show (Value.ref T != Value.none)=true from by simp)]
 exact wpAny_setField hT hd (Array.getElem?_eq_some_iff.mp h3).1 (h _ x1 x2)
theorem adv (hfr:A.frames=some (env::outer)) (hl:s.heap.FunFrames base (env::outer)) (hf:env.frame=some L) (hx:Vd s.heap e C dx .none T)
  (h:∀ h' T',s.heap.objs.size<=T'->PL (frs (env::outer)) [T,e] s.heap h'->Vd h' e C dx (rawInt L) T'->Q () { s with heap:=h' }):wpAny M A (noteFrame (.ref e) env) Q Ex s:=by
 obtain⟨x1,x2⟩:=Wv (fl':=.none) hx _ rfl
 obtain⟨vs,sl,oT,ts,he,h1,hTe,hT,hd,h3⟩:=hx
 unfold noteFrame
 simp only[hf]
 refine zb (jn he rfl h1 ?_)
 rw[zk (show (Value.ref T != Value.none)=true from by simp)]
 refine zb (jn hT hd h3 ?_)
 rw[zI (show ¬ ((Value.none==rawInt L)=true) from by simp[rawInt])]
 refine zb (wpAny_setField hT hd (Array.getElem?_eq_some_iff.mp h3).1 ?_)
 have x1':PL (frs (env::outer)) [T] _ _:=x1.mono (fun _ z=>z) (fun _ z=>nomatch z)
 refine NZ (base:=base) hfr (x1.Bl (fun b z o q=>by
  obtain rfl:b=T:=by simpa using z
  rw[hT] at q;cases q;exact⟨_,hd⟩) hl) hf ((x1.keep e _ he (by simpa using QA hTe) (by simp))) (Array.getElem?_eq_some_iff.mp h1).1 fun h' T' z c x=>?_
 exact h h' T' (by have:=Heap.size_after_update s.heap T (Obj.mapFields (·.setIfInBounds 3 Value.none));exact this▸z) (x1'.trans c) x
end
structure HF (X:Cx) (H:Hp) (b:Addr):Prop where
 un:H b=none
 ab:X.s₀.heap.objs.size<=b
 nl:b≠X.env.locals
 nc:∀ x c,X.env.cells.lookup x=some c->c≠b
section
variable {X:Cx} {σ:L2.St} {H H':Hp} {s:Shared} {h':Heap} {ch:List Addr}
theorem HF.new (I:Inv X [] σ H s) {b:Addr} (h:s.heap.objs.size<=b):HF X H b:=
 ⟨I.hok.fresh h,zz I.sz h,fun z=>by have:=I.lt;rw[<-z] at this;exact absurd this (Nat.not_lt.mpr h),fun x c e z=>by
  obtain⟨v,q⟩:=I.cell x c e
  have:c < s.heap.objs.size:=by
   obtain⟨o,q⟩:∃ o,s.heap.get? c=some o:=by
    first|(obtain⟨o,q,_⟩:=q;exact⟨o,q⟩)|exact⟨_,q⟩
   exact zt q
  rw[z] at this;exact absurd this (Nat.not_lt.mpr h)⟩
theorem PN {t':Nat} (hpn:X.pn=[]) (I:Inv X [] σ H s) (c:PL (frs X.stack) ch s.heap h') (hm:∀ b∈ch,HF X H b):Inv X [] σ H { s with heap:=h',toks:=t' }:=by
 refine I.step (g':=s.gens) (d':=s.drawn) (ch:=ch) (fun b hb=>⟨.inr (hm b hb).ab,(hm b hb).nl,(hm b hb).nc,fun p hp=>by rw[hpn] at hp;cases hp⟩)
  (fun b o hL hb hc e n=>c.keep b o e hc fun z=>(List.mem_cons.mp (I.Jq b z)).elim hL hb) (fun b o _ _ hc e n=>c.slot b o e hc) (fun _ _ _ _ n=>n)
  (fun b o hc e=>let ⟨_,q⟩:=c.slot b o e hc;⟨_,q⟩) (fun _ _ e=>e) (fun _ _ _ e=>e) (fun b ps e=>⟨#[],by rw[e];simp⟩) (fun m hm'=>?_) (fun b u e=>?_) I.bare
 ·obtain⟨o,es,ep,ho,r⟩:=hm'
  obtain⟨sl,q⟩:=c.slot _ o ho fun z=>(hm _ z).nl rfl
  exact⟨_,es,ep,q,r⟩
 ·have ne:∀ (d:Addr) (w:HO),H d=some w->d∉ch/\d∉frs X.stack:=fun d w q=>⟨fun z=>(by rw[(hm d z).un] at q;cases q),fun z=>(by rw[I.IK d z] at q;cases q)⟩
  refine (I.hok b u e).stay (fun d v hd q=>?_) (fun _ q=>q) fun _ _ q=>q
  rcases hd with z|z
  ·subst z;exact c.keep _ _ q (ne _ _ e).1 (ne _ _ e).2
  ·exact c.keep _ _ q (ne _ _ z).1 (ne _ _ z).2
def RX (X:Cx) (E:XK) (e:Value) (s:Shared):Prop:=
 ∃ a C dx σ H,e=.ref a/\Inv X [] σ H s/\HF X H a/\(ExR s.heap a C dx\/∃ T,HF X H T/\Vd s.heap a C dx (rawInt X.env.locals) T)/\E C dx H
def Ww (P:Program) (w:World):TQ:=fun outer H s E e s'=>
 ∃ a C dx H' T,e=.ref a/\s'.os=s.os/\AllBare s'.gens/\Un (frs outer) [] H H' s.heap s'.heap/\yN P w H' s'.heap/\s.heap.objs.size<=a/\s.heap.objs.size<=T/\H' a=none/\H' T=none ∧
  Vd s'.heap a C dx .none T/\E C dx H'
theorem af8 {fs:List Addr} {h h1 h2:Heap} (u:Un fs [] H H' h h1) (c:PL fs ch h1 h2) (hc:∀ b∈ch,h.get? b=none):Un fs [] H H' h h2:=by
 have nc:∀ b o,h.get? b=some o->b∉ch:=fun b o e z=>by rw[hc b z] at e;cases e
 refine⟨fun b o e n f x=>c.keep b o (u.keep b o e n f x) (nc b o e) f,fun b o e n f x=>?_,u.free,fun b o e x=>?_,u.tups,u.wU,u.yO⟩
 ·obtain⟨sl,q⟩:=u.slot b o e n f x
  obtain⟨sl',q'⟩:=c.slot b _ q (nc b o e)
  exact⟨sl',q'⟩
 ·obtain⟨o',q⟩:=u.there b o e x
  obtain⟨sl,q'⟩:=c.slot b _ q (nc b o e)
  exact⟨_,q'⟩
theorem Vd.apart {h:Heap} {e T:Addr} {C fl:Value} {dx:Option Addr} (x:Vd h e C dx fl T):(∃ o vs,h.get? e=some o/\o.data=.fields vs)/\∃ o vs,h.get? T=some o/\o.data=.fields vs:=by
 obtain⟨vs,sl,oT,ts,he,h1,hTe,hT,hd,h3⟩:=x
 exact⟨⟨_,vs,he,rfl⟩,oT,ts,hT,hd⟩
theorem Wx {E:XK} {Ex:VP_} {Q:Unit->Shared->Prop} {a:Addr} {C:Value} {dx:Option Addr} (hpn:X.pn=[]) (hst:X.stack=X.env::X.outer) (hf:X.env.frame=some X.env.locals) (I:Inv X [] σ H s) (ma:HF X H a)
  (hx:ExR s.heap a C dx\/∃ T,HF X H T/\Vd s.heap a C dx (rawInt X.env.locals) T)
  (h:∀ h' T,Inv X [] σ H { s with heap:=h' }->HF X H T->Vd h' a C dx (rawInt X.env.locals) T->Q () { s with heap:=h' }):wpAny (model X.prog X.w) X.A (noteFrame (.ref a) X.env) Q Ex s:=by
 rcases hx with x|⟨T,mT,x⟩
 ·have fr:=I.stack
  rw[hst] at fr
  refine aaQ (base:=X.base) (hst▸I.ok.frames) fr hf x fun h' T z c x'=>?_
  rw[<-hst] at c
  have mT:HF X H T:=HF.new I z
  exact h h' T (PN (t':=s.toks) hpn I c (fun b hb=>(List.mem_singleton.mp hb)▸ma)) mT x'
 ·exact Yo hf x (h s.heap T I mT x)
theorem Yp {E:XK} (hpn:X.pn=[]) (hst:X.stack=X.env::X.outer) (hf:X.env.frame=some X.env.locals):PassesOwn (model X.prog X.w) X.A X.env (RX X E):=by
 intro e s' h
 obtain⟨a,C,dx,σ,H,rfl,I,ma,hx,he⟩:=h
 refine Wx (E:=E) hpn hst hf I ma hx fun h' T I' mT x=>?_
 show wpAny _ _ _ _ _ _
 obtain⟨vs,sl,oT,ts,h1,h2,h3,h4,h5,h6⟩:=id x
 refine zb (jn h1 rfl h2 ?_)
 rw[zI (by simp)]
 rw[hf]
 refine xK (s:={ s' with heap:=h' }) (some X.env.locals) x fun h'' c x'=>?_
 exact⟨a,C,dx,σ,H,rfl,PN (s:={ s' with heap:=h' }) (t':=s'.toks) hpn I' (c.mono (fun _ z=>z) fun _ z=>nomatch z) (fun b hb=>(List.mem_singleton.mp hb)▸mT),ma,.inr ⟨T,mT,x'⟩,he⟩
theorem aaR {E:XK} {Ex:VP_} {e:Value} (hpn:X.pn=[]) (hst:X.stack=X.env::X.outer) (hf:X.env.frame=some X.env.locals) (hex:X.ex=[]) (h:RX X E e s) :
  wpAny (model X.prog X.w) X.A (leaving X.env e) (fun _ s''=>Ww X.prog X.w X.outer X.H₀ X.s₀ E e s'') Ex s:=by
 obtain⟨a,C,dx,σ,H,rfl,I,ma,hx,he⟩:=h
 unfold leaving
 refine zb (Wx (E:=E) hpn hst hf I ma hx fun h' T I' mT x=>?_)
 refine xK (s:={ s with heap:=h' }) none x fun h'' c x'=>?_
 have J:=PN (s:={ s with heap:=h' }) (t':=s.toks) hpn I' (c.mono (fun _ z=>z) fun _ z=>nomatch z) (fun b hb=>(List.mem_singleton.mp hb)▸mT)
 have u:=J.base
 rw[hex] at u
 exact⟨a,C,dx,H,T,rfl,J.os,J.bare,u,J.hok,ma.ab,mT.ab,ma.un,mT.un,x',he⟩
end
def TV (K:FG_) (C fI:Addr) (bmB:List Value) (newId:String):Bool:=match K.lookup C with
 |some ⟨.type "type", _,.cls cd,sl⟩=>(match cd.mro,sl.toList with
  |.ref C'::bm,[_,_,_,_,some (.builtin n),_]=>C'==C&&(n==newId&&(!cd.hasDel&&(PySem.W.tailIn K bmB bm&&(PySem.W.findIn K (.ref C) "__init__" == some (some (.ref fI))&&PySem.W.isFn K (.ref fI)))))
  |_,_=>false)
 |_=>false
def XCl (h:Heap) (C:Addr) (bmB:List Value) (newId:String):Prop:=∃ nm q N bs bm hdct sn sub ab col dd k0 k1 k2 k3 k5,h.get? C=some (excClassObj nm q C N bs bm hdct sn sub ab col dd k0 k1 k2 k3 k5 newId)/\OwnTail h bmB bm
theorem PX {K:FG_} {h:Heap} {C fI:Addr} {bmB:List Value} {newId:String} (X:K.In h) (q:TV K C fI bmB newId=true):XCl h C bmB newId/\PySem.W.findIn K (.ref C) "__init__" = some (some (.ref fI))/\PySem.W.isFn K (.ref fI)=true:=by
 unfold TV at q
 split at q
 ·rename_i dd cd sl ho
  split at q
  ·rename_i C' bm k0 k1 k2 k3 n k5 hm hs
   simp only[ZN,beq_iff_eq,Ki] at q
   obtain⟨rfl,rfl,hdel,ht,hi,hf⟩:=q
   obtain⟨nm,bs,mro,ns,qn,hd,sn,sub,ab,col,del⟩:=cd
   dsimp only at hm hdel
   subst hm hdel
   have hsl:sl=#[k0,k1,k2,k3,some (.builtin n),k5]:=by
    obtain⟨l⟩:=sl
    simp only at hs
    rw[hs]
   subst hsl
   exact⟨⟨nm,qn,ns,bs,bm,hd,sn,sub,ab,col,dd,k0,k1,k2,k3,k5,X _ _ ho,PySem.W.tail_of_in X ht⟩,hi,hf⟩
  ·cases q
 ·cases q
theorem XCl.keeps {h h':Heap} {C:Addr} {bmB:List Value} {newId:String} (x:XCl h C bmB newId) (k:∀ b o,h.get? b=some o->h'.get? b=some o):XCl h' C bmB newId:=by
 obtain⟨nm,q,N,bs,bm,hdct,sn,sub,ab,col,dd,k0,k1,k2,k3,k5,hC,T⟩:=x
 exact⟨nm,q,N,bs,bm,hdct,sn,sub,ab,col,dd,k0,k1,k2,k3,k5,k _ _ hC,T.keeps k⟩
section
variable {prog:Program} {w:World} {A:Around} {E:VP_} {h:Heap} {g:Array GenState} {d:Drawn} {t:Nat} {os:OsState} {C fI e:Addr} {rest bmB:List Value} {K:FG_} {B newId initId:String}
abbrev Wy (C t:Addr):Obj:={ cls:=.ref C,data:=.fields #[.ref t,.none,.none,.none,.bool false,.none] }
theorem adw {Q:Fin->Shared->Prop} (F:ExcBaseFacts B newId initId bmB) (X:K.In h) (hx:TV K C fI bmB newId=true) (hr:rest.length<=sizeLine)
  (hq:∀ h',(∀ b o,h.get? b=some o->h'.get? b=some o)->h'.get? (h.objs.size+1)=some (Wy C h.objs.size) →
   wpAny (model prog w) A (call (.ref fI) (.ref (h.objs.size+1)::rest)) (fun r s'=>r=.none/\Q (.done (.ret (.ref (h.objs.size+1)))) s') E ⟨h',g,d,t,os⟩) :
  wpAny (model prog w) A (Builtin.«type.__call__» ⟨.ref C::rest,[]⟩) Q E ⟨h,g,d,t,os⟩:=by
 obtain⟨x,hi,hf⟩:=PX X hx
 obtain⟨nm,q,N,bs,bm,hdct,sn,sub,ab,col,dd,k0,k1,k2,k3,k5,hC,T⟩:=x
 repeat (first|with_reducible refine kg hC ?_|with_reducible refine wpAny_madeBy_exc hC ?_|wp_step)
 refine codeAny_call_builtin_code (Code.quiet_builtin _ F.quiet) (wpAny_check_new_subT F T hC ?_)
 refine codeAny_exc_new_subT F T hC ?_ hr
 show wpAny _ _ _ _ _ _
 have kp:∀ b o,h.get? b=some o->((h.push { cls:=.type "tuple", data:=.seq rest.toArray }).push (Wy C h.objs.size)).get? b=some o:=fun b o z=>zd _ (zd _ z)
 have hget:((h.push { cls:=.type "tuple", data:=.seq rest.toArray }).push (Wy C h.objs.size)).get? (h.objs.size+1)=some (Wy C h.objs.size):=by heap_get
 have hcC:(Value.ref C::bm).contains (.ref C)=true:=by simp
 unfold isInstance
 repeat (first|with_reducible refine kg hget ?_|(with_reducible refine wpAny_isSubtype_exc (kp _ _ hC) ?_;rw[hcC])|wp_step)
 show wpAny _ _ (typeLookup (.ref C) _) _ _ _
 refine (PySem.W.looks_findIn (X.keeps kp) hi).at ?_
 refine qi (zb ?_)
 unfold bindSpecial
 obtain⟨oI,hfI,hfc⟩:∃ oI,h.get? fI=some oI/\oI.cls=.type "function" := by
  have this:(K.lookup fI).map (·.cls)=some (.type "function"):=beq_iff_eq.mp hf
  obtain⟨o,ho,hc⟩:=Option.map_eq_some_iff.mp this
  exact⟨o,X _ _ ho,hc⟩
 refine zb (JS (T := "function") ⟨_,kp _ _ hfI,hfc⟩ ?_)
 rw[zk (by decide)]
 refine ze (zb (ZA (hq _ kp hget) (fun r s' hr=>?_) fun _ _ x=>x))
 obtain⟨rfl,hQ⟩:=hr
 wp_walk
 exact hQ
end
abbrev Y6 (C t:Addr) (dx:Option Addr):Obj:={ cls:=.ref C,dict:=dx,data:=.fields #[.ref t,.none,.none,.none,.bool false,.none] }
section
variable {prog:Program} {w:World} {A:Around} {E:VP_} {h:Heap} {g:Array GenState} {d:Drawn} {t:Nat} {os:OsState} {C fI e:Addr} {rest bmB:List Value} {K:FG_} {B newId initId:String}
theorem af9 {Q:VP_} (F:ExcBaseFacts B newId initId bmB) (X:K.In h) (hx:TV K C fI bmB newId=true) (hr:rest.length<=sizeLine)
  (hq:∀ h',(∀ b o,h.get? b=some o->h'.get? b=some o)->h'.get? (h.objs.size+1)=some (Y6 C h.objs.size none) →
   wpAny (model prog w) (A.under (.builtin "type.__call__" ⟨.ref C::rest,[]⟩)) (call (.ref fI) (.ref (h.objs.size+1)::rest)) (fun r s'=>r=.none/\Q (.ref (h.objs.size+1)) s') E ⟨h',g,d,t,os⟩) :
  wpAny (model prog w) A (call (.ref C) rest) Q E ⟨h,g,d,t,os⟩:=by
 obtain⟨nm,q,N,bs,bm,hdct,sn,sub,ab,col,dd,k0,k1,k2,k3,k5,hC,T⟩:=(PX X hx).1
 have f1:=tc_lookup
 have f2:=tc_bind (.ref C)
 have hT:(⟨h,g,d,t,os⟩:Shared).TypeIs (.ref C) "type" := ⟨_,hC,rfl⟩
 refine wpAny_call (codeAny_of_tree ?_)
 show wpAny _ _ (callAny (.ref C) _) _ _ _
 repeat (any_goals (first|assumption|with_reducible refine kg hC ?_|wp_step))
 refine⟨rfl,?_⟩
 exact codeAny_call_builtin_at (Code.quiet_builtin _ (by decide +kernel)) entry_typeCall (wpAny_check_type_call_sub hC (adw F X hx hr fun h' k he=>hq h' k he))
theorem adx {M:Model} {s:Shared} {env:Env} {x:Sem Value} {Q:Flow->Shared->Prop} (hbase:bmB.contains (.type "BaseException")=true) (hh:A.handled=none)
  (hq:wpAny M A x (fun v s1=>∃ e t dx,v=.ref e/\XCl s1.heap C bmB newId/\s1.heap.get? e=some (Y6 C t dx)/\E (.ref e) s1) E s):wpAny M A (raiseStmt env (some x) none) Q E s:=by
 unfold raiseStmt
 refine zb (ZA hq (fun v s1 h1=>?_) fun _ _ z=>z)
 obtain⟨e,t,dx,rfl,⟨nm,q,N,bs,bm,hdct,sn,sub,ab,col,dd,k0,k1,k2,k3,k5,hC,T⟩,he,hE⟩:=h1
 obtain⟨hp,g,d,tk,os⟩:=s1
 dsimp only at hC he
 have hcB:(Value.ref C::bm).contains (.type "BaseException")=true:=by rw[List.contains_cons,T.hasType hbase,Bool.or_true]
 repeat (first|with_reducible refine kg he ?_|with_reducible refine kg hC ?_|(with_reducible refine wpAny_isSubtype_exc hC ?_;rw[hcB])|wp_step)
 exact wpAny_raiseNew_none hh hE
theorem aga {Q:VP_} {t0:Addr} {dx:Option Addr} (F:ExcBaseFacts B newId initId bmB) (x:XCl h C bmB newId) (he:h.get? e=some (Y6 C t0 dx)) (hr:rest.length<=sizeLine)
  (hq:∀ h' t1,(∀ b o,b≠e->h.get? b=some o->h'.get? b=some o)->h'.get? e=some (Y6 C t1 dx)->h.objs.size<=t1->h'.objs.size=h.objs.size+1->Q .none ⟨h',g,d,t,os⟩) :
  wpAny (model prog w) A (call (.builtin initId) (.ref e::rest)) Q E ⟨h,g,d,t,os⟩:=by
 obtain⟨nm,q,N,bs,bm,hdct,sn,sub,ab,col,dd,k0,k1,k2,k3,k5,hC,T⟩:=x
 refine wpAny_call (codeAny_call_builtin F.init.plain F.initEntry (wpAny_check_init_subT F T hC he rfl ?_))
 wp_walk
 refine hq _ h.objs.size (fun b o hb z=>?_) ?_ (zl _) ?_
 ·rw[qB _ _ (QA hb)]
  exact zd _ z
 ·rw[qv _ (zd _ he) rfl]
  rfl
 ·rw[Heap.size_after_update,JO]
end
abbrev veM:List Value:=[.type "ValueError", .type "Exception", .type "BaseException", .type "object"]
theorem ady (self:Value):refuseLoop self "__setattr__" veM=pure ():=by kernel_rfl
def xM:List Value->Bool
 |.ref _::r=>xM r
 |l=>l==veM
theorem Kd (self:Value):∀ {l:List Value},xM l=true->refuseLoop self "__setattr__" l=pure ()/\l.contains (.type "object")=true/\l.isEmpty=false
 |.ref c::r,e=>by
  have e':xM r=true:=by unfold xM at e;exact e
  obtain⟨a,b,_⟩:=Kd self (l:=r) e'
  exact⟨by rw[refuseLoop_ref];exact a,by rw[List.contains_cons,b,Bool.or_true],rfl⟩
 |[],e=>by cases e
 |.none::r,e=>by cases e
 |.bool _::r,e=>by cases e
 |.int _ _::r,e=>by cases e
 |.str _ _::r,e=>by cases e
 |.bytes _ _::r,e=>by cases e
 |.float _ _::r,e=>by cases e
 |.builtin _::r,e=>by cases e
 |.type n::r,e=>by
  have e':(.type n::r)=veM:=by unfold xM at e;exact beq_iff_eq.mp e
  rw[e']
  exact⟨ady self,by decide,rfl⟩
def setIn (K:FG_) (C:Addr) (name:Str):Bool:=
 (PySem.W.clsIn K C).any (fun cd=>cd.hasDict&&xM cd.mro)&&(PySem.W.findIn K (.ref C) "__setattr__" == some (some (.builtin "object.__setattr__"))&&PySem.W.findIn K (.ref C) name==some none)
section
variable {prog:Program} {w:World} {A:Around} {E:VP_} {h:Heap} {g:Array GenState} {d:Drawn} {t:Nat} {os:OsState} {C e:Addr} {K:FG_} {name:Str}
theorem aia {Q:Unit->Shared->Prop} {t0:Addr} {v:Value} (X:K.In h) (hs:setIn K C name=true) (he:h.get? e=some (Y6 C t0 none))
  (hq:∀ h' tk,(∀ b o,b≠e->h.get? b=some o->h'.get? b=some o)->h'.get? e=some (Y6 C t0 (some h.objs.size))->h'.Ns1 h.objs.size (fun y=>if y=name then some v else none)->Q () ⟨h',g,d,tk,os⟩) :
  wpAny (model prog w) A (setAttr (.ref e) name v) Q E ⟨h,g,d,t,os⟩:=by
 unfold setIn at hs
 rw[ZN,ZN,beq_iff_eq,beq_iff_eq] at hs
 obtain⟨h1,h2,h3⟩:=hs
 obtain⟨cd,hc,hb⟩:∃ cd,PySem.W.clsIn K C=some cd/\(cd.hasDict&&xM cd.mro)=true:=by
  cases q:PySem.W.clsIn K C with
  |none=>rw[q] at h1;cases h1
  |some cd=>rw[q] at h1;exact⟨cd,rfl,h1⟩
 rw[ZN] at hb
 obtain⟨hd,hb⟩:=hb
 obtain⟨p1,p2,p3⟩:=Kd (.ref e) hb
 have I:PySem.W.InstAt h e (Y6 C t0 none) C none:=⟨he,rfl,rfl,trivial⟩
 refine PySem.W.set_plain (s:=⟨h,g,d,t,os⟩) X I h2 ?_
 have SF:=PySem.F.store_object
 have sub:PySem.W.Looks (model prog w) h (isInstance (.ref e) (.type "object")) true:=I.type.andThen (PySem.W.looks_mroIn X (by unfold PySem.W.mroIn;rw[hc,Qb,zI (by rw[p3];decide),p2]))
 refine codeAny_call_builtin SF.slot.plain SF.entry (@PySem.W.check_slot (model prog w) _ _ ⟨h,g,d,t+1,os⟩ "object.__setattr__" "object" "__setattr__" (.ref e) [.str name t,v] [] _ SF.kind SF.split sub (SF.args (.ref e) (.str name t) v) ?_)
 have hm:PySem.W.Looks (model prog w) h (mroOf (.ref C)) cd.mro:=(PySem.W.looks_clsIn X hc).andThen .now
 rw[PySem.W.osa_eq,refuse_eq]
 refine zb (zb (I.type.at (zb (hm.at ?_))))
 rw[p1]
 refine ze (zb (I.type.at (zb ((PySem.W.looks_findIn X h3).at (zb (ze ?_))))))
 refine zb (ze (zb ?_))
 show wpAny _ _ (instanceDict e true) _ _ _
 unfold instanceDict
 refine zb (wpAny_loadPart he (zb ((PySem.W.looks_clsIn X hc).at ?_)))
 rw[hd]
 show wpAny _ _ (alloc { cls:=.type "dict", data:=.dict #[] } >>= fun dx=>update e (fun o=>{ o with dict:=some dx }) >>= fun _=>dictMade (.ref C) e dx) _ _ _
 have hp:∀ b o,h.get? b=some o->(h.push { cls:=.type "dict", data:=.dict #[] }).get? b=some o:=fun b o z=>zd _ z
 have hne:h.objs.size≠e:=js (zt he)
 have hd1:((h.push { cls:=.type "dict", data:=.dict #[] }).update e (fun o=>{ o with dict:=some h.objs.size })).get? h.objs.size=some { cls:=.type "dict", data:=.dict #[] }:=by
  rw[qB _ _ (QA hne)]
  exact zS _ rfl
 refine zb (wpAny_alloc (zb (wpAny_update (hp _ _ he) (ze ?_))))
 show wpAny _ _ (Builtin.ObjectAttr.storeInDict h.objs.size (.str name t) name v) _ _ _
 unfold Builtin.ObjectAttr.storeInDict
 refine zb (ze (zb ?_))
 have hn1:((h.push { cls:=.type "dict", data:=.dict #[] }).update e (fun o=>{ o with dict:=some h.objs.size })).Ns1 h.objs.size (fun _=>none):=
  .of_empty ⟨_,#[],0,hd1,rfl,fun x z=>by simp at z,fun _=>rfl⟩
 refine wpAny_nsSet1 hn1 fun h' n1 sm=>?_
 obtain⟨o,es,ep,ho,hd',hsz⟩:=n1.count (ns:=[name]) (Within.cons name v Within.nil)
 refine zb (wpAny_lookBehind ho (by rw[hd'];exact pastItsLine_dict (zz hsz (Nat.le_add_left _ _))) (ze ?_))
 refine hq h' _ (fun b o hb z=>?_) ?_ n1
 ·rw[sm.2 b (ZI (zt z)),qB _ _ (QA hb)]
  exact hp _ _ z
 ·rw[sm.2 e (QA hne),qv _ (hp _ _ he) rfl]
end
def yu (K:FG_) (C:Addr):Bool:=
 (PySem.W.clsIn K C).any (fun cd=>cd.hasDict&&(!cd.mro.isEmpty&&(cd.mro.contains (.type "BaseException")&&cd.mro.contains (.type "object"))))&&(PySem.W.findIn K (.ref C) "__getattribute__" == some (some (.builtin "BaseException.__getattribute__")) &&
  (PySem.W.findIn K (.ref C) "__getattr__" == some none&&(PySem.W.findIn K (.ref C) "__class__" == some (some (.builtin "object.__class__")) &&
  (PySem.W.specialIn K (.builtin "object.__class__") "__get__" == some (some (.builtin "getset_descriptor.__get__"))&&PySem.W.takesIn K (.builtin "object.__class__")==some true))))
section
variable {prog:Program} {w:World} {A:Around} {E:VP_} {h:Heap} {g:Array GenState} {d:Drawn} {t:Nat} {os:OsState} {C e dx:Addr} {K:FG_} {name:Str} {v:Value} {vs:Array Value} {sl:Array (Option Value)} {m:Str->Option Value}
theorem Yq {o:Obj} {es:Array DictEntry} {ep:Nat} (hd:o.data=.dict es ep) (hf:nsFind es name=some v):PySem.W.lookIn name o=some (some v):=by
 unfold PySem.W.lookIn
 rw[hd]
 dsimp only
 unfold nsFind findBy at hf
 rw[<-kQ] at hf
 obtain⟨en,h1,h2⟩:=Option.map_eq_some_iff.mp hf
 rw[h1]
 dsimp only
 rw[h2]
structure adz (K:FG_) (C:Addr) (cd:ClassData):Prop where
 cls:PySem.W.clsIn K C=some cd
 dct:cd.hasDict=true
 ne:cd.mro.isEmpty=false
 be:cd.mro.contains (.type "BaseException")=true
 ob:cd.mro.contains (.type "object")=true
 ga:PySem.W.findIn K (.ref C) "__getattribute__" = some (some (.builtin "BaseException.__getattribute__"))
 hk:PySem.W.findIn K (.ref C) "__getattr__" = some none
 cl:PySem.W.findIn K (.ref C) "__class__" = some (some (.builtin "object.__class__"))
 gt:PySem.W.specialIn K (.builtin "object.__class__") "__get__" = some (some (.builtin "getset_descriptor.__get__"))
 tk:PySem.W.takesIn K (.builtin "object.__class__")=some true
theorem adA (hs:yu K C=true):∃ cd,adz K C cd:=by
 unfold yu at hs
 simp only[ZN,beq_iff_eq] at hs
 obtain⟨h1,h2,h3,h4,h5,h6⟩:=hs
 cases q:PySem.W.clsIn K C with
 |none=>rw[q] at h1;cases h1
 |some cd=>
  rw[q] at h1
  have h1:(cd.hasDict&&(!cd.mro.isEmpty&&(cd.mro.contains (.type "BaseException")&&cd.mro.contains (.type "object"))))=true:=h1
  simp only[ZN,Ki] at h1
  exact⟨cd,⟨q,h1.1,h1.2.1,h1.2.2.1,h1.2.2.2,h2,h3,h4,h5,h6⟩⟩
theorem adz.sub {cd:ClassData} (G:adz K C cd):PySem.W.mroIn K C (.type "object")=some true/\PySem.W.mroIn K C (.type "BaseException")=some true:=by
 unfold PySem.W.mroIn
 rw[G.cls,Qb,Qb,zI (by rw[G.ne];decide),zI (by rw[G.ne];decide),G.ob,G.be]
 exact⟨rfl,rfl⟩
theorem agb {cd:ClassData} {Q:VP_} {expr fill:Bool} {od:Obj} {tk:Tok} {fo:Builtin.ObjectAttr.Found} (X:K.In h) (G:adz K C cd) (I:PySem.W.InstAt h e ⟨.ref C,some dx,.fields vs,sl⟩ C (some od))
  (hfo:PySem.W.findObj K C (some od) name=some fo)
  (hq:wpAny (model prog w) A.in1 (match fo with|.value v=>ret v|.bind g a=>Builtin.ObjectAttr.bindTo g a (.ref e) (.ref C)|.missing=>unsupported "") (fun fin s'=>match fin with|.done (.ret v)=>wpAny (model prog w) A (handedOut v) Q E s'|_=>False) (fun _ _=>False) ⟨h,g,d,t,os⟩)
  (hm:fo≠.missing):wpAny (model prog w) A (getAttrBy (.ref e) (.str name tk) fill expr) Q E ⟨h,g,d,t,os⟩:=by
 have hga:=PySem.W.looks_findIn (M:=model prog w) X G.ga
 have hhk:PySem.W.Looks (model prog w) h (hookBefore (.ref C)) none:=PySem.W.looks_hook X (by rw[zk (by rfl)];exact G.hk)
 have sub:PySem.W.Looks (model prog w) h (isInstance (.ref e) (.type "BaseException")) true:=I.type.andThen (PySem.W.looks_mroIn X G.sub.2)
 unfold getAttrBy
 refine qi (zb (I.type.at (zb (hga.at ?_))))
 have hx2:(Value.builtin "BaseException.__getattribute__" == Value.builtin "object.__getattribute__")=false:=by decide +kernel
 dsimp only
 rw[zI (by rw[hx2,Bool.and_false];decide)]
 unfold getAttrByItsOwn
 refine zb (hhk.at (zb (wpAny_attempt (qi ?_))))
 unfold callGetattribute
 rw[zI (by cases expr<;>simp[onTheHeap])]
 unfold boundAndCalled
 have SF:=PySem.F.attrBase_ValueError.ga
 rw[SF.bind]
 refine zb (ze ?_)
 refine wpAny_call (codeAny_call_builtin SF.plain PySem.F.entry_bexc_ga (@PySem.W.check_slot (model prog w) _ _ ⟨h,g,d,t,os⟩ "BaseException.__getattribute__" "BaseException" "__getattribute__" (.ref e) [.str name tk] [] _ (by decide +kernel) (by decide +kernel) sub (PySem.F.args_bexc_ga (.ref e) (.str name tk)) ?_))
 have L1:=PySem.W.looks_find (M:=model prog w) X I hfo
 refine zb (ze (zb (ze (zb (I.type.at (zb (L1.at ?_)))))))
 cases fo with
 |missing=>exact absurd rfl hm
 |value v=>
  refine ZA hq (fun fin s' z=>?_) (fun _ _ z=>False.elim z)
  rcases fin with (_|_|_|_)|_<;>first|exact z|exact z.elim
 |bind g a=>
  refine ZA hq (fun fin s' z=>?_) (fun _ _ z=>False.elim z)
  rcases fin with (_|_|_|_)|_<;>first|exact z|exact z.elim
theorem aib {Q:VP_} {expr:Bool} (X:K.In h) (hs:yu K C=true) (hn:PySem.W.findIn K (.ref C) name=some none) (he:h.get? e=some ⟨.ref C,some dx,.fields vs,sl⟩) (hN:h.Ns1 dx m) (hm:m name=some v) (hv:PySem.W.handedIn v=true)
  (hq:Q v ⟨h,g,d,t+1,os⟩):wpAny (model prog w) A (getAttr (.ref e) name expr) Q E ⟨h,g,d,t,os⟩:=by
 obtain⟨cd,G⟩:=adA hs
 obtain⟨od,es,ep,ho,hod,hk,hu,hf⟩:=hN
 have I:PySem.W.InstAt h e ⟨.ref C,some dx,.fields vs,sl⟩ C (some od):=⟨he,rfl,rfl,ho⟩
 have hfo:PySem.W.findObj K C (some od) name=some (.value v):=by
  unfold PySem.W.findObj PySem.W.ownOf
  rw[G.cls,hn]
  simp only[Qb,G.dct,QR,Yq hod ((hf name).trans hm)]
 unfold getAttr
 refine zb (wpAny_mkText (agb X G I hfo (ze ?_) (by intro z;cases z)))
 show wpAny _ _ (handedOut v) _ _ _
 rw[PySem.W.handedOut_of hv]
 exact ze hq
end
def N5 (e C:Addr) (dx:Option Addr):HO:=.ext fun h=>∃ t,h.get? e=some (Y6 C t dx)
theorem Ve {P:Program} {w:World} {H:Hp} {h:Heap} {e C t:Addr} {dx:Option Addr} (q:h.get? e=some (Y6 C t dx)):gC P w H h e (N5 e C dx):=⟨⟨t,q⟩,⟨_,q⟩,fun _ _ ⟨t,p⟩ k=>⟨t,k _ p⟩⟩
section
variable {X:Cx} {pins:List (Addr×Obj)} {σ:L2.St} {H:Hp} {s:Shared} {C a:Addr} {o value:Expr} {ta tv:TE} {f:Str} {pos pos' p apos:Pos} {B newId initId:String} {bmB:List Value} {e:Expr} {es:List Expr} {t:TA} {x:Str}
theorem Vf {dx:Option Addr} (I:Inv X pins σ H s) (e:H a=some (N5 a C dx)):∃ t,s.heap.get? a=some (Y6 C t dx):=(I.hok a _ e).1
theorem Inv.adB {h':Heap} {tk:Nat} {dx:Option Addr} (I:Inv X pins σ H s) (ea:H a=some (N5 a C dx)) (k:∀ b u,b≠a->s.heap.get? b=some u->h'.get? b=some u) {t1:Addr} (he:h'.get? a=some (Y6 C t1 dx)) :
  Inv X pins σ H { s with heap:=h',toks:=tk }:=by
 have z:=I.write (t':=tk) (x:=a) (e:=a) (o:=N5 a C dx) (by rw[ea];trivial) (.inl rfl) k ⟨_,he⟩ (Ve he)
 have q:upd H a (N5 a C dx)=H:=by
  funext b
  by_cases hb:b=a
  ·subst hb;rw[bC,ea]
  ·rw[aV hb]
 rwa [q] at z
theorem Inv.attr {h':Heap} {tk:Nat} {v:V} {u:Value} (I:Inv X pins σ H s) (ea:H a=some (N5 a C none)) (rv:RelV v u) (k:∀ b o,b≠a->s.heap.get? b=some o->h'.get? b=some o) {t1:Addr}
  (he:h'.get? a=some (Y6 C t1 (some s.heap.objs.size))) (n1:h'.Ns1 s.heap.objs.size (fun y=>if y=f then some u else none)) :
  Inv X pins σ (upd (upd H s.heap.objs.size (.xd [(f,v)])) a (N5 a C (some s.heap.objs.size))) { s with heap:=h',toks:=tk }:=by
 have hf:H s.heap.objs.size=none:=I.hok.fresh (zl _)
 have hla:a < s.heap.objs.size:=I.hok.lt ea
 have hne:s.heap.objs.size≠a:=js hla
 have lt:∀ b u,s.heap.get? b=some u->b≠s.heap.objs.size:=fun b u q=>ZI (zt q)
 have gu:∀ b,b≠a->b≠s.heap.objs.size->upd (upd H s.heap.objs.size (.xd [(f,v)])) a (N5 a C (some s.heap.objs.size)) b=H b:=fun b h1 h2=>by rw[aV h1,aV h2]
 have na:∀ b w,H b=some w->(∀ φ,w≠.ext φ)->b≠a:=fun b w q h z=>by subst z;rw[ea] at q;cases q;exact h _ rfl
 have nd:∀ b w,H b=some w->b≠s.heap.objs.size:=fun b w q z=>by rw[z,hf] at q;cases q
 refine I.un (t':=tk) ⟨fun b u q n _ _=>k b u (fun z=>by subst z;rw[ea] at n;cases n) q,fun b u q n _ _=>⟨u.slots,k b u (fun z=>by subst z;rw[ea] at n;cases n) q⟩,
  fun b u q n _=>?_,fun b u q _=>?_,fun b xs q=>?_,fun b u xs q=>?_,fun b ps q=>⟨#[],?_⟩⟩ (fun b w q=>?_)
 ·rw[gu b (fun z=>by subst z;rw[ea] at n;cases n) (lt b u q)];exact n
 ·by_cases hb:b=a
  ·subst hb;exact⟨_,he⟩
  ·exact⟨u,k b u hb q⟩
 ·rw[gu b (na b _ q fun _ z=>nomatch z) (nd b _ q)];exact q
 ·rw[gu b (na b _ q fun _ z=>nomatch z) (nd b _ q)];exact q
 ·rw[gu b (na b _ q fun _ z=>nomatch z) (nd b _ q),q];simp
 ·by_cases hb:b=a
  ·subst hb
   rw[bC] at q
   cases q
   exact Ve he
  ·rw[aV hb] at q
   by_cases hd:b=s.heap.objs.size
   ·subst hd
    rw[bC] at q
    cases q
    refine⟨_,n1,fun y=>?_⟩
    by_cases hy:y=f
    ·subst hy
     rw[zk rfl]
     simp only[List.lookup,beq_self_eq_true]
     exact rv
    ·rw[zI hy]
     have:(y==f)=false:=beq_eq_false_iff_ne.mpr hy
     simp only[List.lookup,this]
     trivial
   ·rw[aV hd] at q
    refine (I.hok b w q).stay (fun c u hc z=>k c u ?_ z) (fun c z=>?_) fun c xs z=>?_
    ·rcases hc with hc|hc
     ·rw[hc];exact hb
     ·exact na c _ hc fun _ z=>nomatch z
    ·rw[gu c (na c _ z fun _ z=>nomatch z) (nd c _ z)];exact z
    ·rw[gu c (na c _ z fun _ z=>nomatch z) (nd c _ z)];exact z
def sEx (C:Addr) (ta tv:TE) (f:Str):TS:=fun D σ H=>tv σ H fun y H1=>ta σ H1 fun x H2=>∃ a,x=.ref a/\H2 a=some (N5 a C none)/\∀ dx,H2 dx=none->dx≠a->D.nx σ (upd (upd H2 dx (.xd [(f,y)])) a (N5 a C (some dx)))
theorem aic (hc:setIn X.K C f=true) (ha:PE X o ta) (hv:PE X value tv) (hs:swapsWith value (some (.Attribute o f pos')) pos.line X.env=pure false:=by rfl):PS X (.Assign [.Attribute o f pos'] value pos) (sEx C ta tv f):=by
 intro pins s σ H D I h
 refine plainObj_wpAny_Assign_Attribute (lH (hv pins s σ H _ I h) fun u s1 ⟨y,H1,I1,ry,q⟩=>lH (ha pins s1 σ H1 _ I1 q) fun ov s2 ⟨x,H2,I2,rx,a,ex,ea,q2⟩=>?_) hs
 subst ex
 obtain rfl:ov=Value.ref a:=rx
 obtain⟨t0,ht⟩:=Vf I2 ea
 have hf:H2 s2.heap.objs.size=none:=I2.hok.fresh (zl _)
 obtain⟨hh,g,d,tk,os⟩:=s2
 refine aia I2.Qz hc ht fun h' tk' k he n1=>?_
 exact⟨σ,_,Inv.attr (tk:=tk') I2 ea ry k he n1,q2 _ hf (js (I2.hok.lt ea))⟩
def tBI (C:Addr) (t:TA):TE:=fun σ H Q=>t σ H fun vs H1=>∃ a v,vs=[.ref a,v]/\H1 a=some (N5 a C none)/\Q .non H1
def R0 (K:FG_) (FE:Addr) (initId:String):Prop:=
 PySem.W.specialIn K (.ref FE) "__getattribute__" = some (some (.builtin "type.__getattribute__"))/\PySem.W.readsIn K FE (.type "type")=true/\PySem.W.findCls K (.ref FE) (.type "type") "__init__" = some (.val (.builtin initId))
theorem aaT {pl:Sem Bool} {FE fI:Addr} (F:ExcBaseFacts B newId initId bmB) (hx:TV X.K C fI bmB newId=true) (hg:Gl X x) (hm:X.mg x=some (.ref FE)) (hb:R0 X.K FE initId) (hh:PySem.W.handedIn (.builtin initId)=true) (ha:PA X (e::es) t)
  (hdb:(x==("__debug__" : Str))=false:=by decide) (he:starEach (e::es) X.env=(false,eval e X.env)::starEach es X.env:=by rfl) (hpl:(backTo pos (starEach es X.env)).any (·.1)=false:=by rfl)
  (ht:eval (.Call (.Attribute (.Name x p) "__init__" apos) (e::es) [] pos) X.env=(do
   let ov <-eval (.Name x p) X.env
   standAt apos.atName
   let (f,first) <-holding [ov] (getMethod ov "__init__" pl)
   callWith pos f first (backTo pos (starEach (e::es) X.env)) (backToKw pos (keywordEach [] X.env))):=by rfl) :
  PE X (.Call (.Attribute (.Name x p) "__init__" apos) (e::es) [] pos) (tBI C t):=by
 intro pins s σ H Q I h
 refine PySem.W.methodCall_KW (pl:=pl) (Dc I hg hm ?_ hdb) ht
 refine PySem.W.method_cls I.Qz hb.1 (PySem.W.cls_value I.Qz hb.2.1 hb.2.2 hh ?_)
 refine PyProof.Rows.callWith_builtin1 (lH (ha pos pins _ σ H _ (I.tok (s.toks+1)) h) fun us s1 ⟨vs,H1,I1,r1,a,v,ev,ea,q⟩=>?_) he hpl
 subst ev
 cases r1 with
 |cons ra r1=>
  cases r1 with
  |cons rv r1=>
   cases r1
   obtain rfl:=ra
   obtain⟨t0,h0⟩:=Vf I1 ea
   have x1:=(PX I1.Qz hx).1
   obtain⟨hh',g,d,tk,os⟩:=s1
   refine aga F x1 h0 (show 1<=sizeLine by decide +kernel) fun h' t1 k he _ _=>?_
   exact⟨.non,H1,Inv.adB (tk:=tk) I1 ea k he,rfl,q⟩
end
def uG (H:Hp) (a:Addr):Hp:=fun b=>if b=a then none else H b
section
variable {X:Cx} {pins:List (Addr×Obj)} {σ:L2.St} {H:Hp} {s:Shared} {C a:Addr} {f:Str} {pos cpos p:Pos} {B newId initId:String} {bmB:List Value} {e:Expr} {x:Str} {te:TE}
theorem Inv.adC {φ:Heap->Prop} (I:Inv X pins σ H s) (ea:H a=some (.ext φ)):Inv X [] σ (uG H a) s:=by
 have dn:∀ b,H b=none->uG H a b=none:=fun b q=>by unfold uG;split<;>first|rfl|exact q
 have ds:∀ b u,H b=some u->(∀ ψ,u≠.ext ψ)->uG H a b=some u:=fun b u q n=>by
  unfold uG
  rw[zI (fun z=>by subst z;rw[ea] at q;cases q;exact n _ rfl)]
  exact q
 refine⟨I.ok,I.os,I.bare,⟨I.base.keep,I.base.slot,fun b o e n x=>dn b (I.base.free b o e n x),I.base.there,fun b xs q=>ds b _ (I.base.tups b xs q) (fun _ z=>nomatch z),fun b o u q=>ds b _ (I.base.wU b o u q) (fun _ z=>nomatch z),fun b ps q=>?_⟩,
  I.loc,I.cell,dn _ I.free,fun y c q=>dn _ (I.rM y c q),fun p hp=>?_,fun b u q=>?_,I.len⟩
 ·obtain⟨more,z⟩:=I.base.yO b ps q
  exact⟨more,ds b _ z fun _ z=>nomatch z⟩
 ·obtain⟨z1,z2,z3⟩:=I.pin p (by rcases List.mem_append.mp hp with z|z;exact qo _ z;cases z)
  exact⟨z1,dn _ z2,z3⟩
 ·have hb:H b=some u:=by
   unfold uG at q
   split at q
   ·cases q
   ·exact q
  exact (I.hok b u hb).stay (fun _ _ _ z=>z) (fun c z=>ds c _ z fun _ z=>nomatch z) fun c xs z=>ds c _ z fun _ z=>nomatch z
def spI (C:Addr) (f:Str) (ok:V->Prop):Sp:=fun vs H Q _=>∃ a v,vs=[.ref a,v]/\ok v/\H a=some (N5 a C none)/\∀ H1 dx,Same H H1->H1 dx=none->dx≠a->Q .non (upd (upd H1 dx (.xd [(f,v)])) a (N5 a C (some dx)))
def tRz (C:Addr) (f:Str) (ok:V->Prop) (E:XK) (t:TA):TS:=fun _ σ H=>t σ H fun vs H1=>∃ v,vs=[v]/\ok v/\∀ H2 dx,Same H1 H2->H2 dx=none->E (.ref C) (some dx) (upd H2 dx (.xd [(f,v)]))
theorem aie {k:Nat} {fI:Addr} {fd:FuncData} {ps:LS_} {E:XK} {es:List Expr} {t:TA} {ok:V->Prop} (Fe:ExcBaseFacts B newId initId bmB) (hx:TV X.K C fI bmB newId=true) (hbase:bmB.contains (.type "BaseException")=true) (hk:PySem.W.keepIn X.K (.ref C)=true)
  (F:bx X.prog X.w X.K X.mg X.base fB k fI fd ps (spI C f ok)) (hb:Binds X.K fd ps []) (hr:lR (k+1) X.A) (hg:Gl X x) (hm:X.mg x=some (.ref C)) (hxe:∀ e s,RX X E e s->X.xe e s) (ha:PA X (e::es) t)
  (hdb:(x==("__debug__" : Str))=false:=by decide) (hs:starEach (e::es) X.env=(false,eval e X.env)::starEach es X.env:=by rfl) (hpl:(backTo cpos (starEach es X.env)).any (·.1)=false:=by rfl) :
  PS X (.Raise (some (.Call (.Name x p) (e::es) [] cpos)) none pos) (tRz C f ok E t):=by
 intro pins s σ H D I h
 rw[arm_exec_Raise]
 refine zb (Qr (adx (C:=C) (bmB:=bmB) (newId:=newId) hbase hr.hd (zb (ZA ?_ (fun v s3 h3=>zb (Qr (ze h3))) fun _ _ x=>x))))
 refine jv (Dc I hg hm ?_ hdb)
 refine PySem.W.callWith_K (h₀:=X.base) I.ok.mod.kin hk (lH (ha cpos pins s σ H _ I h) fun us s1 ⟨vs,H1,I1,r,v,ev,hok,q⟩=>⟨I1.Qz,?_⟩) hs hpl
 subst ev
 have hl:us.length=1:=r.length.symm
 have hf:H1 (s1.heap.objs.size+1)=none:=I1.hok.fresh (JJ _)
 have mi:HF X H1 (s1.heap.objs.size+1):=HF.new (I1.CW (Y9:=[]) fun _ z=>nomatch z) (JJ _)
 obtain⟨hh,g,d,tk,os⟩:=s1
 refine af9 Fe I1.Qz hx (by rw[kc,hl];decide +kernel) fun h' k' he=>?_
 have I2:Inv X pins σ (upd H1 (hh.objs.size+1) (N5 (hh.objs.size+1) C none)) ⟨h',g,d,tk,os⟩:=I1.laid (t':=tk) k' (JJ _) (Ve he)
 have r2:Vals [V.ref (hh.objs.size+1),v] (Value.ref (hh.objs.size+1)::us):=.cons rfl r
 have hps:ps.length=2:=(F.len [V.ref (hh.objs.size+1),v] (upd H1 (hh.objs.size+1) (N5 (hh.objs.size+1) C none)) (fun _ _=>True) E0 ⟨_,_,rfl,hok,bC,fun _ _ _ _ _=>trivial⟩).symm
 rw[kc]
 refine wpAny_call (kL (F.run _ X.stack _ _ ⟨Value.ref (hh.objs.size+1)::us,[]⟩ (Value.ref (hh.objs.size+1)::us) _ (fun y H3=>y=.non/\∃ H4 dx,Same (upd H1 (hh.objs.size+1) (N5 (hh.objs.size+1) C none)) H4/\H4 dx=none/\dx≠hh.objs.size+1/\H3=upd (upd H4 dx (.xd [(f,v)])) (hh.objs.size+1) (N5 (hh.objs.size+1) C (some dx))) E0 (hr.make C us [])
  (I2.env0.make C us []) (by have:=hb ⟨h',g,d,tk,os⟩ (Value.ref (hh.objs.size+1)::us) I2.Qz (by rw[QO,Zp,hl,hps]);rwa [QO] at this) r2
  ⟨_,_,rfl,hok,bC,fun H4 dx s4 hd hne=>⟨rfl,H4,dx,s4,hd,hne,rfl⟩⟩) fun r s' hq'=>?_)
 cases r with
 |error e=>exact False.elim hq'
 |ok fl=>
  cases fl with
  |next=>exact False.elim hq'
  |brk=>exact False.elim hq'
  |cont=>exact False.elim hq'
  |ret u=>
   obtain⟨y,H3,I3,ry,ey,H4,dx,s4,hd,hne,eH⟩:=I2.after hq'
   subst ey eH
   obtain rfl:u=Value.none:=ry
   refine⟨rfl,hh.objs.size+1,?_⟩
   have ea:(upd (upd H4 dx (.xd [(f,v)])) (hh.objs.size+1) (N5 (hh.objs.size+1) C (some dx))) (hh.objs.size+1)=some (N5 (hh.objs.size+1) C (some dx)):=bC
   obtain⟨t1,h1⟩:=Vf I3 ea
   have eH:uG (upd (upd H4 dx (.xd [(f,v)])) (hh.objs.size+1) (N5 (hh.objs.size+1) C (some dx))) (hh.objs.size+1)=upd (uG H4 (hh.objs.size+1)) dx (.xd [(f,v)]):=by
    funext b
    unfold uG
    by_cases hb:b=hh.objs.size+1
    ·rw[zk hb,hb,aV (QA hne),zk rfl]
    ·rw[zI hb,aV hb]
     by_cases hb':b=dx
     ·rw[hb',bC,bC]
     ·rw[aV hb',aV hb',zI hb]
   have J:=Inv.adC I3 ea
   rw[eH] at J
   have sm:Same H1 (uG H4 (hh.objs.size+1)):=fun b o eb=>by
    have hb:b≠hh.objs.size+1:=fun z=>by rw[z,hf] at eb;cases eb
    unfold uG
    rw[zI hb]
    exact s4 b o (by rw[aV hb];exact eb)
   have hd':uG H4 (hh.objs.size+1) dx=none:=by unfold uG;rw[zI hne];exact hd
   refine⟨t1,some dx,rfl,(PX I3.Qz hx).1,h1,hxe _ _ ⟨hh.objs.size+1,.ref C,some dx,σ,_,rfl,J,⟨by rw[aV (QA hne)];unfold uG;rw[zk rfl],mi.ab,mi.nl,mi.nc⟩,.inl ⟨_,_,h1,rfl⟩,q _ _ sm hd'⟩⟩
end
theorem R3 {name x:Str} (hx:x≠name):∀ (l:List DictEntry) (i:Nat),l.findIdx? (fun e=>e.key.isStr name)=some i->(l.eraseIdx i).find? (fun e=>e.key.isStr x)=l.find? (fun e=>e.key.isStr x)
 |[],i,hi=>by simp at hi
 |e::l,i,hi=>by
  rw[List.findIdx?_cons] at hi
  by_cases he:e.key.isStr name=true
  ·simp only[he,QR,Option.some.injEq] at hi;subst hi
   have:e.key.isStr x=false:=by
    cases hh:e.key.isStr x
    ·rfl
    ·exact absurd (Value.isStr_inj _ _ _ hh he) hx
   rw[List.eraseIdx_zero,List.tail_cons,QN,this]
  ·have he':e.key.isStr name=false:=by simpa using he
   simp only[he',ZH,qA] at hi
   cases hj:l.findIdx? (fun e=>e.key.isStr name) with
   |none=>simp[hj] at hi
   |some j=>
    simp only[hj,Option.map_some,Option.some.injEq] at hi;subst hi
    rw[List.eraseIdx_cons_succ,QN,QN]
    cases e.key.isStr x with
    |false=>exact R3 hx l j hj
    |true=>rfl
section
variable {M:Model} {A:Around} {E:VP_} {s:Shared}
theorem agf {a:Addr} {m:Str->Option Value} {name:Str} {v:Value} {Q:Bool->Shared->Prop} (hn:s.heap.Ns a m) (hv:m name=some v)
  (hQ:∀ h' m',h'.Ns a m'->(∀ x,x≠name->m' x=m x)->Heap.SameBut a s.heap h'->Q true { s with heap:=h' }):wpAny M A (nsDel a name) Q E s:=by
 obtain⟨o,es,ep,ho,hd,hk,hm⟩:=id hn
 have hany:es.any (·.refKey)=false:=by
  rw[Array.any_eq_false'];intro e he;obtain⟨n,t,h⟩:=hk e he;simp[DictEntry.refKey,h]
 have hin:es.any (·.key.isStr name)=true:=by
  have h1:=(hm name).trans hv
  unfold nsFind findBy at h1
  obtain⟨en,h2,_⟩:=Option.map_eq_some_iff.mp h1
  rw[Array.any_eq_true']
  exact⟨en,Array.mem_of_find?_eq_some h2,by have:=Array.find?_some h2;exact this⟩
 have hhas:nsHas name o=pure true:=by
  rw[nsHas_eq];unfold nsHasByArray;rw[hd]
  show (if (es.any fun x=>x.key.isStr name)=true then _ else _)=_
  rw[zk hin]
 unfold nsDel
 refine zb (wpAny_loadPart ho ?_)
 rw[hhas]
 refine zb (ze ?_)
 rw[zk rfl]
 refine zb (wpAny_updatePart ho (ze ?_))
 obtain⟨cl,d,dt,sl⟩:=o
 subst hd
 cases hi:es.findIdx? (·.key.isStr name) with
 |none=>
  exfalso
  obtain⟨i,hi',hp⟩:=Array.any_eq_true.mp hin
  have:=Array.findIdx?_eq_none_iff.mp hi es[i] (Array.getElem_mem hi')
  rw[this] at hp;cases hp
 |some i=>
  refine hQ _ (nsFind (es.eraseIdxIfInBounds i)) ⟨_,_,ep+1,qv _ ho (by simp only[Obj.dropName_eq,Obj.dropNameByArray,hi]<;>rfl),(by simp only[Obj.dropName_eq,Obj.dropNameByArray,hi]<;>rfl),hk.erase i,fun _=>rfl⟩ (fun x hx=>?_) (kK ..)
  rw[<-hm x]
  unfold nsFind findBy
  rw[<-kQ,<-kQ,Array.toList_eraseIdxIfInBounds,R3 hx es.toList i (by rw[<-hi];obtain⟨l⟩:=es;simp)]
end
section
variable {X:Cx} {pins:List (Addr×Obj)} {σ:L2.St} {H:Hp} {s:Shared}
theorem agg {M:Model} {A:Around} {E:VP_} {i:Nat} {x:Str} {v:V} {Q:Unit->Shared->Prop} (I:Inv X pins σ H s) (hN:X.N.Nodup) (hi:X.N[i]?=some x) (hx:X.env.scope.names.lookup x=some .local) (hv:σ[i]?=some (some v))
  (h:∀ s',Inv X pins (σ.set i none) H s'->Q () s'):wpAny M A (deleteName X.env x) Q E s:=by
 obtain⟨m,hn,hl⟩:=id I.loc
 obtain⟨u,ru,lk⟩:=hl i x v hi hv (.inl hx)
 have hk:X.env.kindOf x=some .local:=hx
 have hm:m x=some u:=by
  rcases lk with⟨_,q⟩|⟨q,_⟩
  ·exact q
  ·rw[hk] at q;rcases q with q|q<;>cases q
 have go:∀ h' m',h'.Ns X.env.locals m'->(∀ y,y≠x->m' y=m y)->Heap.SameBut X.env.locals s.heap h'->Q () { s with heap:=h' }:=fun h' m' n' sm sb=>by
  refine h _ ?_
  have nl:∀ b o,X.s₀.heap.get? b=some o->b≠X.env.locals:=fun b o e=>ZI (ZE (zt e) I.ok.above)
  have tr:∀ b w,H b=some w->b≠X.env.locals:=fun b w q z=>by rw[z,I.free] at q;cases q
  refine⟨I.ok,I.os,I.bare,⟨fun b o e n f y=>(sb.2 b (nl b o e)).trans (I.base.keep b o e n f y),fun b o e n f y=>?_,I.base.free,fun b o e y=>?_,I.base.tups,I.base.wU,I.base.yO⟩,
   ⟨m',n',fun j y v' h1 h2 h3=>?_⟩,fun y c e=>?_,I.free,I.rM,fun p hp=>?_,fun b w q=>?_,by rw[qf];exact I.len⟩
  ·obtain⟨sl,q⟩:=I.base.slot b o e n f y
   exact⟨sl,(sb.2 b (nl b o e)).trans q⟩
  ·obtain⟨o',q⟩:=I.base.there b o e y
   exact⟨o',(sb.2 b (nl b o e)).trans q⟩
  ·have hj:j≠i:=fun z=>by
    subst z
    rw[ki] at h2
    split at h2
    ·split at h2<;>cases h2
    ·rename_i z;exact z rfl
   rw[kz (QA hj)] at h2
   obtain⟨u',r',lk'⟩:=hl j y v' h1 h2 h3
   refine⟨u',r',?_⟩
   rcases lk' with⟨k1,k2⟩|⟨k1,c,k2,k3⟩
   ·exact .inl ⟨k1,by rw[sm y (fun z=>hj (Jr hN (z▸h1) hi))];exact k2⟩
   ·refine .inr ⟨k1,c,k2,?_⟩
    have:=I.cne y c k2
    unfold Heap.IsCell at k3 ⊢
    rw[sb.2 c this];exact k3
  ·obtain⟨v',q⟩:=I.cell y c e
   refine⟨v',?_⟩
   unfold Heap.IsCell at q ⊢
   rw[sb.2 c (I.cne y c e)];exact q
  ·obtain⟨q1,q2,q3,q4⟩:=I.pin p hp
   exact⟨(sb.2 _ q3).trans q1,q2,q3,q4⟩
  ·refine (I.hok b w q).stay (fun c u hc z=>(sb.2 c ?_).trans z) (fun _ z=>z) fun _ _ z=>z
   rcases hc with hc|hc
   ·rw[hc];exact tr b w q
   ·exact tr c _ hc
 unfold deleteName
 rw[hk]
 dsimp only
 rw[I.ok.kind,zI (by rw[show (ScopeKind.function==ScopeKind.class)=false from rfl,show (ScopeKind.function==ScopeKind.module)=false from rfl];simp)]
 refine zb (agf hn hm fun h' m' n' sm sb=>?_)
 exact ze (go h' m' n' sm sb)
end
section
variable {X:Cx} {pins:List (Addr×Obj)} {σ:L2.St} {H:Hp} {s:Shared} {E:XK}
theorem RX.nU {Ex:VP_} {e:Value} (h:RX (X.wish Ex) E e s):RX X E e s:=by
 obtain⟨a,C,dx,σ,H,r,I,m,x,q⟩:=h
 refine⟨a,C,dx,σ,H,r,I.nU,⟨m.un,m.ab,m.nl,m.nc⟩,?_,q⟩
 rcases x with x|⟨T,mT,x⟩
 ·exact .inl x
 ·exact .inr ⟨T,⟨mT.un,mT.ab,mT.nl,mT.nc⟩,x⟩
theorem CT.mono {st:List Stmt} {t:TS} {E1:VP_} (h:CT (X.wish E1) st t) (k:∀ e s,E1 e s->X.xe e s):CT X st t:=fun pins s σ H D I hw=>
 ZA (h pins s σ H D (I.wish _) hw) (fun _ _ q=>q.nU) k
theorem PA.TJ {es:List Expr} {t:TA} (h:PA X.TJ es t):PA X es t:=fun pos pins s σ H Q I hw=>
 ZA (h pos pins s σ H Q (I.wish _) hw) (fun _ _ ⟨v,H',I',r,q⟩=>⟨v,H',I'.nU,r,q⟩) fun _ _ z=>False.elim z
end
theorem qI.okX {P:Program} {w:World} {K:FG_} {mg:Str->Option Value} {base:Heap} {x qual:Str} {st:Stmt} {f:Addr} {fd:FuncData} {N ps:LS_} {k:Nat} {sp:Sp} (F:qI K x qual st f fd) (S:bD N ps (aP st)) (len:∀ vs H Q E,sp vs H Q E->vs.length=ps.length)
  (hbody:∀ (cdv:Value) (A:Around) (outer:List Env) (s:Shared) (H:Hp) (vs:List V) (Q:VK) (E:XK),lR k (A.deeper (envOfC qual (aP st) s.heap.objs.size f cdv))->sp vs H Q E →
   ∃ t,CT ((BR (Ww P w) P w K mg base N qual (aP st) f cdv A outer s H E).wish (RX (BR (Ww P w) P w K mg base N qual (aP st) f cdv A outer s H E) E)) (jZ st) t/\t { nx:=fun _ H'=>Q .non H',rt:=Q } (start N vs) H):bx P w K mg base (Ww P w) (k+1) f fd ps sp:=by
 obtain⟨oc,od,kV,doc,pm,an,cdv,ct,osl,rfl,lk,hcd⟩:=F.ex
 refine ad6 lk hcd S len fun A outer s H vs Q E hr hsp=>?_
 obtain⟨t,h,q⟩:=hbody cdv A outer s H vs Q E hr hsp
 exact⟨t,CT.mono h fun e s' hx=>aaR rfl rfl rfl rfl hx,q⟩
theorem bx.or {P:Program} {w:World} {K:FG_} {mg:Str->Option Value} {base:Heap} {CX:TQ} {k:Nat} {f:Addr} {fd:FuncData} {ps:LS_} {sp sp':Sp} (F:bx P w K mg base fB k f fd ps sp) (G:bx P w K mg base CX k f fd ps sp') :
  bx P w K mg base CX k f fd ps (fun vs H Q E=>sp vs H Q E\/sp' vs H Q E):=
 ⟨fun vs H Q E h=>h.elim (F.len vs H Q E) (G.len vs H Q E),fun A outer s H args us vs Q E hr he hb hv hs=>by
  rcases hs with hs|hs
  ·refine kL (F.run A outer s H args us vs Q E hr he hb hv hs) fun r s' q=>?_
   cases r with
   |error e=>exact False.elim q
   |ok fl=>cases fl<;>exact q
  ·exact G.run A outer s H args us vs Q E hr he hb hv hs⟩
def CxO (a C dx:Addr):HO:=.ext fun h=>∃ vs sl,h.get? a=some ⟨.ref C,some dx,.fields vs,sl⟩
theorem agj {P:Program} {w:World} {H:Hp} {h:Heap} {a C dx:Addr} {vs:Array Value} {sl:Array (Option Value)} (q:h.get? a=some ⟨.ref C,some dx,.fields vs,sl⟩):gC P w H h a (CxO a C dx):=
 ⟨⟨vs,sl,q⟩,⟨_,q⟩,fun _ _ ⟨vs,sl,p⟩ k=>⟨vs,sl,k _ p⟩⟩
theorem adD {P:Program} {w:World} {H:Hp} {h h':Heap} {S ch:List Addr} (ok:yN P w H h) (c:PL S ch h h') (hc:∀ b∈ch,H b=none) (hS:∀ b∈S,H b=none):yN P w H h':=fun b u e=>by
 have ne:∀ (d:Addr) (w:HO),H d=some w->d∉ch/\d∉S:=fun d w q=>⟨fun z=>(by rw[hc d z] at q;cases q),fun z=>(by rw[hS d z] at q;cases q)⟩
 refine (ok b u e).stay (fun d v hd q=>?_) (fun _ q=>q) fun _ _ q=>q
 rcases hd with z|z
 ·subst z;exact c.keep _ _ q (ne _ _ e).1 (ne _ _ e).2
 ·exact c.keep _ _ q (ne _ _ z).1 (ne _ _ z).2
theorem adE {P:Program} {w:World} {H:Hp} {h:Heap} {a:Addr} {o:HO} (ok:yN P w H h) (na:H a=none) (new:gC P w (upd H a o) h a o):yN P w (upd H a o) h:=fun b u e=>by
 by_cases hb:b=a
 ·subst hb;rw[bC] at e;cases e;exact new
 ·rw[aV hb] at e
  exact (ok b u e).stay (fun _ _ _ q=>q) (fun c q=>by rw[aV (bY q na)];exact q) fun c xs q=>by rw[aV (bY q na)];exact q
theorem agk {fs:List Addr} {H H':Hp} {h h':Heap} {a:Addr} {o:HO} (u:Un fs [] H H' h h') (na:H' a=none) (ha:h.get? a=none):Un fs [] H (upd H' a o) h h':=
 ⟨u.keep,u.slot,fun b ob e n x=>by rw[aV (fun z=>by rw[z,ha] at e;cases e)];exact u.free b ob e n x,u.there,fun b xs q=>by rw[aV (bY (u.tups b xs q) na)];exact u.tups b xs q,
  fun b ob xs q=>by rw[aV (bY (u.wU b ob xs q) na)];exact u.wU b ob xs q,fun b ps q=>by
   obtain⟨m,z⟩:=u.yO b ps q
   exact⟨m,by rw[aV (bY z na)];exact z⟩⟩
abbrev Cx.inX (X:Cx) (a:Addr):Cx:={ X with A:=X.A.mark (some (.ref a)),calm:=false,xe:=fun _ _=>False }
section
variable {X:Cx} {pins:List (Addr×Obj)} {σ:L2.St} {H:Hp} {s:Shared} {a:Addr}
theorem Inv.inX (I:Inv X pins σ H s):Inv (Cx.inX X a) pins σ H s:=
 ⟨⟨I.ok.mod,I.ok.kind,I.ok.glob,I.ok.blt,I.ok.above,I.ok.inj,I.ok.has,I.ok.cab,fun z=>(by cases z),I.ok.frames,I.ok.stk,I.ok.exf,I.ok.bs,I.ok.YZ,I.ok.Xg,I.ok.Y8,I.ok.Bl,I.ok.frf⟩,I.os,I.bare,I.base,I.loc,I.cell,I.free,I.rM,I.pin,I.hok,I.len⟩
theorem Inv.akN (ok:X.Ok) (I:Inv (Cx.inX X a) pins σ H s):Inv X pins σ H s:=⟨ok,I.os,I.bare,I.base,I.loc,I.cell,I.free,I.rM,I.pin,I.hok,I.len⟩
def XT (X:Cx) (C:Addr) (iv:Nat) (ts:TS) (D:Ends) (σ:L2.St):XK:=fun Cv dx H2=>Cv=.ref C/\∃ d,dx=some d/\∀ a,H2 a=none →
 ts { nx:=fun σ' H'=>D.nx (σ'.set iv none) H',rt:=D.rt } (σ.set iv (some (.ref a))) (upd H2 a (CxO a C d))
theorem Vg {C Cn:Addr} {iv:Nat} {n cn:Str} {np hp:Pos} {b0:Stmt} {suite:List Stmt} {ts:TS} {D:Ends} {H1:Hp} {s1 s':Shared} {e:Value} (hst:X.stack=X.env::X.outer) (hf:X.env.frame=some X.env.locals) (hN:X.N.Nodup)
  (hi:X.N[iv]?=some n) (hl:X.env.scope.names.lookup n=some .local) (hg:Gl X cn) (hm:X.mg cn=some (.ref Cn)) (hx:PySem.W.exmOne X.K (.ref C) (.ref Cn)=some true) (hs:∀ a,CT (Cx.inX X a) (b0::suite) ts)
  (I1:Inv X pins σ H1 s1) (hq:Ww X.prog X.w X.stack H1 s1 (XT X C iv ts D σ) e s') (hdb:(cn==("__debug__" : Str))=false:=by decide) :
  wpAny (model X.prog X.w) X.A (noteFrame e X.env) (fun _ s2=>wpAny (model X.prog X.w) X.A (setFlight e none) (fun _ s3=>wpAny (model X.prog X.w) X.A (handleBy e X.env [.ExceptHandler (some (.Name cn np)) (some n) (b0::suite) hp]) (SP X pins D) X.xe s3) X.xe s2) X.xe s':=by
 obtain⟨a,Cv,dx,H2,T,rfl,os,bare,un,hok,ha,hT,na,nT,ex,rfl,d,rfl,hE⟩:=hq
 have J0:Inv X pins σ H2 s':=I1.call' (ch:=[]) os un hok bare fun _ z=>nomatch z
 have fr:=J0.stack
 rw[hst] at fr
 have old:∀ b,s'.heap.objs.size<=b->s1.heap.get? b=none:=fun b z=>by
  cases q:s1.heap.get? b with
  |none=>rfl
  |some o=>
   obtain⟨o',q'⟩:=un.there b o q (fun z=>nomatch z)
   exact absurd (zt q') (Nat.not_lt.mpr z)
 have oa:s1.heap.get? a=none:=Heap.get?_none_of_le ha
 have mk:∀ (h:Heap) (ch:List Addr) (tk:Nat),PL (frs X.stack) ch s'.heap h->(∀ b∈ch,s1.heap.get? b=none/\H2 b=none)->(∃ vs sl,h.get? a=some ⟨.ref C,some d,.fields vs,sl⟩)->Inv X pins σ (upd H2 a (CxO a C d)) { s' with heap:=h,toks:=tk }:=fun h ch tk c hc he=>by
  obtain⟨vs,sl,he⟩:=he
  refine I1.call' (ch:=[]) (s':={ s' with heap:=h,toks:=tk }) os (agk (af8 un c fun b z=>(hc b z).1) na oa) ?_ bare fun _ z=>nomatch z
  exact adE (adD hok c (fun b z=>(hc b z).2) J0.IK) na (agj he)
 refine adv (base:=X.base) (hst▸I1.ok.frames) fr hf ex fun h4 T' z c4 x4=>?_
 rw[<-hst] at c4
 refine xK (s:={ s' with heap:=h4 }) none x4 fun h5 c5 x5=>?_
 have nT':H2 T'=none:=hok.fresh z
 have c45:=c4.trans (c5.mono (S':=frs X.stack) (c2:=[T']) (fun _ z=>z) fun _ z=>nomatch z)
 have cc:∀ b∈[T,a]++[T'],s1.heap.get? b=none/\H2 b=none:=fun b hb=>by
  simp only[List.mem_append,j0,kr,or_false] at hb
  rcases hb with (rfl|rfl)|rfl
  ·exact⟨Heap.get?_none_of_le hT,nT⟩
  ·exact⟨oa,na⟩
  ·exact⟨old _ z,nT'⟩
 have at5:∃ vs sl,h5.get? a=some ⟨.ref C,some d,.fields vs,sl⟩:=by
  obtain⟨vs,sl,_,_,q,_⟩:=x5
  exact⟨vs,sl,q⟩
 have I5:=mk h5 _ s'.toks c45 cc at5
 have LT:PySem.W.Looks (model X.prog X.w) h5 (typeOf (.ref a)) (.ref C):=by
  obtain⟨vs,sl,q⟩:=at5
  exact (PySem.W.Looks.ld q).andThen .now
 refine wpAny_handleBy_cons (codeAny_handlers_test (Dc (X:=Cx.inX X a) (Inv.inX I5) hg hm ?_ hdb)) (by intro q;cases q)
 refine (PySem.W.exm_one I5.Qz LT hx).at ?_
 show codeAny _ _ _ _ _
 refine codeAny_handlers_suite_as ?_
 refine xK (s:={ s' with heap:=h5 }) none x5 fun h6 c6 x6=>?_
 have I6:=mk h6 _ s'.toks (c45.trans (c6.mono (S':=frs X.stack) (c2:=[T']) (fun _ z=>z) fun _ z=>nomatch z)) (fun b hb=>by
  rcases List.mem_append.mp hb with hb|hb
  ·exact cc b hb
  ·exact cc b (z4 _ hb)) (by obtain⟨vs,sl,_,_,q,_⟩:=x6;exact⟨vs,sl,q⟩)
 refine CZ (X:=X) (v:=.ref a) I6 hN hi (.inl hl) rfl (fun s7 I7=>?_) (.inr hl)
 refine ZA (hs a pins s7 _ _ _ (Inv.inX I7) (hE a na)) (fun fl s8 h8=>?_) fun _ _ z=>False.elim z
 show wpAny _ _ _ _ _ _
 have fin:∀ {σ':L2.St} {H':Hp},Inv (Cx.inX X a) pins σ' H' s8->(∀ s9,Inv X pins (σ'.set iv none) H' s9->SP X pins D fl s9) →
   wpAny (model X.prog X.w) X.A (do bindName X.env n .none;unbindBehindTheSuite X.env n hp) (fun _ s5=>SP X pins D fl s5) X.xe s8:=fun {σ' H'} J k=>by
  have J':=Inv.akN I7.ok J
  have hlt:iv < σ'.length:=by rw[J'.len];exact (List.getElem?_eq_some_iff.mp hi).1
  refine zb (wpAny_bindName (CZ (v:=.non) J' hN hi (.inl hl) rfl (fun s9 I9=>?_) (.inr hl)))
  unfold unbindBehindTheSuite unbindName
  refine wpAny_onRaise (zb (wpAny_point (zb (agg (v:=.non) I9 hN hi hl (by rw[List.getElem?_set_self hlt]) fun s10 I10=>wpAny_point (k s10 ?_)))))
  rwa [List.set_set] at I10
 cases fl with
 |next=>
  obtain⟨σ',H',J,q⟩:=h8
  exact fin J fun s9 I9=>⟨_,H',I9,q⟩
 |ret u=>
  obtain⟨v,σ',H',J,rv,q⟩:=h8
  exact fin J fun s9 I9=>⟨v,_,H',I9,rv,q⟩
 |brk=>
  obtain⟨_,_,_,q⟩:=h8
  exact False.elim q
 |cont=>
  obtain⟨_,_,_,q⟩:=h8
  exact False.elim q
end
section
variable {X:Cx} {C Cn f:Addr} {iv iy k:Nat} {n cn x y:Str} {np hp p py pa cpos pos:Pos} {b0:Stmt} {suite:List Stmt} {ts:TS} {tf:TE} {t:TA} {sp:Sp} {fd:FuncData} {ps:LS_} {e:Expr} {es:List Expr}
end
section
variable {X:Cx} {pins:List (Addr×Obj)} {σ:L2.St} {H:Hp} {s:Shared} {C a d:Addr} {fs:List (Str×V)} {f:Str} {o:Expr} {ta:TE} {pos:Pos}
theorem agl (I:Inv X pins σ H s) (ea:H a=some (CxO a C d)) (ed:H d=some (.xd fs)):∃ vs sl m,s.heap.get? a=some ⟨.ref C,some d,.fields vs,sl⟩/\s.heap.Ns1 d m/\∀ f,Fp (fs.lookup f) (m f):=by
 obtain⟨vs,sl,q⟩:=(I.hok a _ ea).1
 obtain⟨m,n1,r⟩:=I.hok d _ ed
 exact⟨vs,sl,m,q,n1,r⟩
def akO (Cs:List Addr) (ta:TE) (f:Str):TE:=fun σ H Q=>ta σ H fun x H1=>∃ a C d v,C∈Cs/\x=.ref a/\H1 a=some (CxO a C d)/\H1 d=some (.xd [(f,v)])/\Q v H1
theorem Vh {v:V} {u:Value} (r:RelV v u):PySem.W.handedIn u=true:=by
 cases v with
 |non=>obtain rfl:=r;rfl
 |bl b=>obtain rfl:=r;rfl
 |int i=>obtain⟨t,rfl⟩:=r;rfl
 |str x=>obtain⟨t,rfl⟩:=r;rfl
 |byt b=>obtain⟨t,rfl⟩:=r;rfl
 |flt b=>obtain⟨t,rfl⟩:=r;rfl
 |ref a=>obtain rfl:=r;rfl
 |ty n=>obtain rfl:=r;rfl
theorem aaU {Cs:List Addr} (hC:∀ C,C∈Cs->yu X.K C=true/\PySem.W.findIn X.K (.ref C) f=some none) (ha:PE X o ta) (hb:attributeBase o f X.env (eval o X.env)=eval o X.env):PE X (.Attribute o f pos) (akO Cs ta f):=by
 intro pins s σ H Q I h
 refine ab7 hb (lH (ha pins s σ H _ I h) fun u s1 ⟨x,H1,I1,rx,a,C,d,v,hm,ex,ea,ed,q⟩=>?_)
 subst ex
 obtain rfl:u=Value.ref a:=rx
 obtain⟨vs,sl,m,h1,h2,h3⟩:=agl I1 ea ed
 have r:=h3 f
 simp only[List.lookup,beq_self_eq_true] at r
 cases em:m f with
 |none=>rw[em] at r;exact False.elim r
 |some u=>
  rw[em] at r
  obtain⟨hh,g,dr,tk,os⟩:=s1
  exact aib I1.Qz (hC C hm).1 (hC C hm).2 h1 h2 em (Vh r) ⟨v,H1,I1.tok _,r,q⟩
end
def XW (K:FG_) (C:Addr) (f:Str) (E:XK) (H0:Hp) (d:Dt):Prop:=∀ dx v H',Same H0 H'->H' dx=some (.xd [(f,v)])->Rep K H' d v->E (.ref C) (some dx) H'
theorem XW.rebase {K:FG_} {C:Addr} {f:Str} {E:XK} {H0 Hs:Hp} {d:Dt} (s:Same H0 Hs) (h:XW K C f E H0 d):XW K C f E Hs d:=fun dx v H' s' e r=>h dx v H' (s.trans s') e r
def tX (K:FG_) (C:Addr) (f:Str) (E:XK) (gx:Ev->Option Dt):TS:=fun _ σ H=>∃ H0 ρ d,bF K H0 H σ ρ/\gx ρ=some d/\XW K C f E H0 d
structure QX1 (X:Cx) (C:Addr) (f:Str) (E:XK) (st:Stmt) (gx:Ev->Option Dt):Prop where
 run:PS X st (tX X.K C f E gx)
structure QXs (X:Cx) (C:Addr) (f:Str) (E:XK) (st:List Stmt) (gx:Ev->Option Dt):Prop where
 run:CT X st (tX X.K C f E gx)
def zD:Bx->Option Dt
 |.z d=>some d
 |_=>none
section
variable {X:Cx} {C:Addr} {f x:Str} {E:XK} {e c tg iter:Expr} {fe:Ev->Option Bx} {gx gy:Ev->Option Dt} {g:Ev->Option Out} {pos cpos p:Pos} {st:Stmt} {rest body a b:List Stmt} {B newId initId:String} {bmB:List Value} {pc:Ev->Option Bool}
def rzX (okX:Dt->Bool) (fe:Ev->Option Bx):Ev->Option Dt:=fun ρ=>(fe ρ).bind fun b=>(zD b).bind fun d=>if okX d=true then some d else none
theorem R4 {okX:Dt->Bool} {k:Nat} {fI:Addr} {fd:FuncData} {ps:LS_} {ok:V->Prop} (Fe:ExcBaseFacts B newId initId bmB) (hx:TV X.K C fI bmB newId=true) (hbase:bmB.contains (.type "BaseException")=true) (hk:PySem.W.keepIn X.K (.ref C)=true)
  (F:bx X.prog X.w X.K X.mg X.base fB k fI fd ps (spI C f ok)) (hb:Binds X.K fd ps []) (hr:lR (k+1) X.A) (hg:Gl X x) (hm:X.mg x=some (.ref C)) (hxe:∀ e s,RX X E e s->X.xe e s) (he:QV X e fe) (hok:∀ d v K H,okX d=true->Rep K H d v->ok v)
  (hdb:(x==("__debug__" : Str))=false:=by decide) (hs:starEach [e] X.env=(false,eval e X.env)::starEach [] X.env:=by rfl) (hpl:(backTo cpos (starEach [] X.env)).any (·.1)=false:=by rfl) :
  QX1 X C f E (.Raise (some (.Call (.Name x p) [e] [] cpos)) none pos) (rzX okX fe):=⟨psM (aie Fe hx hbase hk F hb hr hg hm hxe (jY he.run tH hs) hdb hs hpl) fun D σ H h=>by
 obtain⟨H0,ρ,d,Ev,ed,w⟩:=h
 obtain⟨b,eb,ed⟩:=bind_some ed
 obtain⟨d',ez,ed⟩:=bind_some ed
 split at ed
 ·rename_i ho
  cases ed
  cases b with
  |z d'=>
   cases ez
   refine⟨H0,ρ,_,Ev,eb,fun v H1 s1 _ r1=>⟨v,rfl,hok _ _ _ _ ho r1,fun H2 dx s2 hd=>?_⟩⟩
   have sd:Same H2 (upd H2 dx (.xd [(f,v)])):=cF hd
   exact w dx v _ ((Ev.base.trans s1).trans (s2.trans sd)) bC (Rep.kp (Kp.of (s2.trans sd)) r1)
  |l _=>cases ez
  |o _=>cases ez
  |n _=>cases ez
  |m _ _=>cases ez
 ·cases ed⟩
theorem R5 (h:QX1 X C f E st gx):QXs X C f E (st::rest) gx:=⟨fun pins s σ H D I hw=>kq (ZA (h.run pins s σ H { nx:=fun _ _=>False,rt:=D.rt,bk:=D.bk,ct:=D.ct } I hw) (fun fl s1 q=>by
 cases fl with
 |next=>obtain⟨_,_,_,z⟩:=q;exact False.elim z
 |ret v=>exact q
 |brk=>exact q
 |cont=>exact q) fun _ _ z=>z)⟩
def aaV (g:Ev->Option Out) (gx:Ev->Option Dt):Ev->Option Dt:=fun ρ=>(g ρ).bind fun r=>match r with
 |.nx ρ'=>gx ρ'
 |_=>none
theorem aaW (h:XF X st g) (hx:QXs X C f E rest gx):QXs X C f E (st::rest) (aaV g gx):=⟨fun pins s σ H D I hw=>by
 obtain⟨H0,ρ,d,Ev,ed,w⟩:=hw
 obtain⟨r,er,ed⟩:=bind_some ed
 cases r with
 |nx ρ'=>
  refine kq (ZA (h.run pins s σ H { nx:=fun σ' H'=>bF X.K H0 H' σ' ρ',rt:=fun _ _=>False } I ⟨H0,ρ,_,Ev,er,fun σ' H' z=>z⟩) (fun fl s1 q=>?_) fun _ _ z=>z)
  cases fl with
  |next=>
   obtain⟨σ',H',I',E'⟩:=q
   exact hx.run pins s1 σ' H' D I' ⟨H0,ρ',d,E',ed,w⟩
  |ret v=>obtain⟨_,_,_,_,_,z⟩:=q;exact False.elim z
  |brk=>obtain⟨_,_,_,z⟩:=q;exact False.elim z
  |cont=>obtain⟨_,_,_,z⟩:=q;exact False.elim z
 |rt _=>cases ed
 |bk _=>cases ed
 |ct _=>cases ed⟩
end
def spX (K:FG_) (n:Nat) (Fx:List Bx->Option Dt) (C:Addr) (f:Str):Sp:=fun vs H _ E=>vs.length=n/\∃ bs d,vL K H bs vs/\bs.all (fun b=>!isO b)=true/\Fx bs=some d/\XW K C f E H d
def zA (n:Nat) (gx:Ev->Option Dt):List Bx->Option Dt:=fun bs=>gx (bs.map some++List.replicate (n - bs.length) none)
section
variable {P:Program} {w:World} {K:FG_} {mg:Str->Option Value} {base:Heap}
abbrev cxR (P:Program) (w:World) (K:FG_) (mg:Str->Option Value) (base:Heap) (N:LS_) (qual:Str) (scope:Scope) (f:Addr) (cd:Value) (A:Around) (outer:List Env) (s:Shared) (H:Hp) (E:XK):Cx:=
 (BR (Ww P w) P w K mg base N qual scope f cd A outer s H E).wish (RX (BR (Ww P w) P w K mg base N qual scope f cd A outer s H E) E)
theorem aew {x qual:Str} {st:Stmt} {f C:Addr} {a:Str} {fd:FuncData} {N ps:LS_} {k n m:Nat} {gx:Ev->Option Dt} (F:qI K x qual st f fd) (S:bD N ps (aP st)) (hn:N.length=n) (hm:ps.length=m)
  (hbody:∀ (cdv:Value) (A:Around) (outer:List Env) (s:Shared) (H:Hp) (E:XK),lR k (A.deeper (envOfC qual (aP st) s.heap.objs.size f cdv)) →
   (∀ e s',RX (cxR P w K mg base N qual (aP st) f cdv A outer s H E) E e s'->(cxR P w K mg base N qual (aP st) f cdv A outer s H E).xe e s') →
   PassesOwn (model P w) (A.deeper (envOfC qual (aP st) s.heap.objs.size f cdv)) (envOfC qual (aP st) s.heap.objs.size f cdv) (cxR P w K mg base N qual (aP st) f cdv A outer s H E).xe →
   QXs (cxR P w K mg base N qual (aP st) f cdv A outer s H E) C a E (jZ st) gx):bx P w K mg base (Ww P w) (k+1) f fd ps (spX K m (zA n gx) C a):=
 qI.okX F S (fun vs H Q E h=>h.1.trans hm.symm) fun cdv A outer s H vs Q E hr hsp=>by
  obtain⟨_,bs,d,r,ho,e,w⟩:=hsp
  subst hn
  exact⟨_,(hbody cdv A outer s H E hr (fun e s' h=>h.nU) (Yp (X:=BR (Ww P _) P _ K mg base N qual (aP st) f cdv A outer s H E) rfl rfl rfl)).run,H,_,d,bF.start r ho,e,w⟩
theorem Wz {x qual sn vn fe a:Str} {st:Stmt} {f C FE:Addr} {fd:FuncData} {k:Nat} {arg:Expr} {fa:Ev->Option Bx} {ok:V->Prop} {ρ0:V->Ev} {p1 p2 p3 p4 p5 p6 p7 p8 p9:Pos} {B newId initId:String} {bmB:List Value}
  (F:qI K x qual st f fd) (S:bD [sn,vn] [sn,vn] (aP st)) (Fe:ExcBaseFacts B newId initId bmB) (hx:TV K C f bmB newId=true) (Vi:setIn K C a=true) (hm:mg fe=some (.ref FE)) (hb:R0 K FE initId) (hh:PySem.W.handedIn (.builtin initId)=true)
  (hbd:jZ st=[.Expr (.Call (.Attribute (.Name fe p1) "__init__" p2) [.Name sn p3,arg] [] p4) p5,.Assign [.Attribute (.Name sn p6) a p7] (.Name vn p8) p9])
  (hρ:∀ v,ok v->∃ b,fa (ρ0 v)=some b/\∀ H e,bF K H H [some (.ref e),some v] (ρ0 v))
  (hbody:∀ (cdv:Value) (A:Around) (outer:List Env) (s:Shared) (H:Hp) (E:XK) (X:Cx),X=(BR fB P w K mg base [sn,vn] qual (aP st) f cdv A outer s H E).TJ->lR k X.A →
   Gl X fe/\QV X arg fa/\PE X (.Name sn p3) (Za 0)/\PE X (.Name sn p6) (Za 0)/\PE X (.Name vn p8) (Za 1)/\(fe==("__debug__" : Str))=false/\starEach [.Name sn p3,arg] X.env=(false,eval (.Name sn p3) X.env)::starEach [arg] X.env/\starEach [arg] X.env=(false,eval arg X.env)::starEach [] X.env ∧
   (backTo p4 (starEach [arg] X.env)).any (·.1)=false/\swapsWith (.Call (.Attribute (.Name fe p1) "__init__" p2) [.Name sn p3,arg] [] p4) none p5.line X.env=pure false/\swapsWith (.Name vn p8) (some (.Attribute (.Name sn p6) a p7)) p9.line X.env=pure false ∧
   ∃ pl:Sem Bool,eval (.Call (.Attribute (.Name fe p1) "__init__" p2) [.Name sn p3,arg] [] p4) X.env=(do
    let ov <-eval (.Name fe p1) X.env
    standAt p2.atName
    let (f,first) <-holding [ov] (getMethod ov "__init__" pl)
    callWith p4 f first (backTo p4 (starEach [.Name sn p3,arg] X.env)) (backToKw p4 (keywordEach [] X.env)))) :
  bx P w K mg base fB (k+1) f fd [sn,vn] (spI C a ok):=
 qI.ok F S (fun vs H Q E h=>by obtain⟨_,_,rfl,_⟩:=h;rfl) fun cdv A outer s H vs Q E hr hsp=>by
  obtain⟨e,v,rfl,hok,ea,q⟩:=hsp
  obtain⟨h1,h2,h3,h4,h5,h6,h7,h8,h9,h10,h11,pl,h12⟩:=hbody cdv A outer s H E _ rfl hr
  rw[hbd]
  refine⟨_,lQ (IW (aaT (pl:=pl) Fe hx h1 hm hb hh (jY h3 (jY h2.run tH h8) h7) h6 h7 h9 h12) h10) (wV (aic Vi h4 h5 h11)),?_⟩
  obtain⟨b,eb,akP⟩:=hρ v hok
  refine⟨.ref e,rfl,H,ρ0 v,b,akP H e,eb,fun y H1 s1 _ _=>⟨e,y,rfl,s1 _ _ ea,?_⟩⟩
  exact⟨v,rfl,.ref e,rfl,e,rfl,s1 _ _ ea,fun dx hd hne=>q H1 dx s1 hd hne⟩
end
section
variable {X:Cx} {k n:Nat} {f h:Addr} {fd:FuncData} {ps:LS_} {F:List Bx->Option Bx} {fs:Ev->Option (List Bx)} {x y:Str} {p q pos:Pos} {e:Expr} {es:List Expr}
end
end P1
end
section
namespace P1
open PySem PySem.Spec PyProof.Rows L2 S6
section
variable {X:Cx} {elt tgt iter:Expr} {ifs:List Expr} {scope:Scope} {cl:List (Str×Addr)} {pos:Pos} {xs ts:LS_} {is:List Nat} {gt:Dt->Ev->Option Ev} {p:Ev->Option Bool} {fe:Ev->Option Bx} {fi:Ev->Option (List Dt)}
theorem Yr {H:Hp} {h:Heap} {a:Addr} (e:h.get? a=some (blank X.w)):gC X.prog X.w H h a (hoT X a []):=PK (n:=0) (zl _) ((setObjOf_fresh _).setOf e (by decide))
def AcT (X:Cx) (D:Addr) (_:Hp) (o1:List Dt) (o:HO):Prop:=∃ us,o=hoT X D us/\(∀ z,z∈us↔Dt.str z∈o1)/\us.length<=o1.length
theorem adF {n:Nat} (h:PV X elt fe):XM X (fun D env=>do let v <-eval elt env;standAt elt.pos;let _ <-call (.builtin "set.add") [.ref D,v]) (fun ρ=>(fe ρ).bind Yg) (AcT X) 4000 n:=by
 refine Uq fun pins s σ H Hb ρ D o o1 ys I En ee hD ⟨us,e,r4⟩ hl=>?_
 subst e
 obtain⟨b,eb,ee⟩:=bind_some ee
 obtain⟨yt,rfl,rfl⟩:∃ yt,b=.z (.str yt)/\ys=[.str yt]:=by
  unfold Yg at ee
  split at ee
  ·cases ee;exact⟨_,rfl,rfl⟩
  ·cases ee
 refine zb (ZA (h pins s σ H (fun v H9=>Same H H9/\Rep X.K H9 (.str yt) v) I ⟨Hb,ρ,_,En,eb,fun v H9 s9 _ r9=>⟨s9,r9⟩⟩) (fun v s9 h9=>?_) fun _ _ z=>z)
 obtain⟨v',H9,I9,rv,s89,r9⟩:=h9
 obtain⟨rfl,hyl⟩:v'=.str yt/\yt.length<=sizeLine:=by simpa only[Rep] using r9
 obtain⟨tk,rfl⟩:=rv
 have ZR:=s89 _ _ hD
 simp only[JA] at hl
 obtain⟨n2,hn2,hS2⟩:=(I9.hok _ _ ZR).1
 have sb:(4001:Nat) < scanBound:=by decide
 refine zb (Qr (zb ?_))
 refine call_set_add (k:=yt) (strKind_is X.prog X.w yt tk) rfl hS2 (by omega) fun h' hsb hS'=>?_
 have e:(fun k'=>decide (k'∈us)||decide (k'=yt))=fun z=>decide (z∈us++[yt]):=by
  funext z;simp
 rw[e] at hS'
 obtain⟨o',_,_,_,ho',_⟩:=id hS'
 refine ze ⟨H9,_,I9.write (t':=s9.toks+1) (x:=D) (e:=D) (o:=hoT X D (us++[yt])) (by rw[ZR];trivial) (.inl rfl) (fun b u hb e=>by rw[hsb.2 b hb];exact e) ⟨o',ho'⟩ (PK (by rw[zw,JA];split<;>omega) hS'),
  s89,U0 ZR,us++[yt],rfl,fun z=>?_,by simp;omega⟩
 rw[List.mem_append,List.mem_append,r4.1 z]
 simp
def tST (X:Cx) (i:Nat) (f:Ev->Option LS_):TS:=fun D σ H=>∃ H0 ρ ys,bF X.K H0 H σ ρ/\f ρ=some ys/\∀ Da zs H',Same H H'->H Da=none->H' Da=some (hoT X Da zs)->(∀ z,z∈zs↔z∈ys)->D.nx (σ.set i (some (.ref Da))) H'
theorem Ke (i:Nat) {y:Str} {py spos:Pos} (ts:LS_) (O:uV X scope cl xs is) (hcalm:X.calm=true) (hN:X.N.Nodup) (hi:PIC X tgt iter fi)
  (O9:∀ C s₀ H₀ fp,PTg (Jf X (xs++ts) scope cl C s₀ H₀ fp) tgt gt) (hif:∀ C s₀ H₀ fp,Tests (Jf X (xs++ts) scope cl C s₀ H₀ fp) ifs p) (helt:∀ C s₀ H₀ fp,PV (Jf X (xs++ts) scope cl C s₀ H₀ fp) elt fe) (htk:ZM is.length (is.length+ts.length) gt)
  (hsw:swapsWith (.SetComp elt [⟨tgt,iter,ifs,0⟩] scope pos) (some (.Name y py)) spos.line X.env=pure true:=by with_unfolding_all rfl)
  (hy:X.N[i]?=some y:=by rfl) (hx:Loc X.env.scope y:=by first|exact ZU rfl|exact Zs rfl)
  (hf:X.fn y=true\/X.env.scope.names.lookup y=some .local:=by first|exact .inl rfl|exact .inr rfl)
  (hs:∀ x,foldedSetIterable iter X.env x=pure x:=by intro _;rfl):PS X (.Assign [.Name y py] (.SetComp elt [⟨tgt,iter,ifs,0⟩] scope pos) spos) (tST X i (Rv fi gt p fe is ts.length)):=fun pins s σ H D I h=>by
 obtain⟨H0,ρ,ys,E,e,q⟩:=h
 obtain⟨ds,ed,e⟩:=bind_some e
 split at e
 ·rename_i hlen
  obtain⟨out,eo,e⟩:=bind_some e
  have aai:=JT e
  rw[exec_Assign_Name_used _ _ _ _ hsw]
  refine zb (Qr (zb ?_))
  show wpAny _ X.A (do let _ <-comprehension (.SetComp elt [⟨tgt,iter,ifs,0⟩] scope pos) scope X.env _ (newSet (.type "set")) false (eval iter X.env) (some (assign (.Name y py) X.env))) _ _ s
  refine zb (ZA (ka (use:=some (assign (.Name y py) X.env)) (Q:=fun _ s'=>SP X pins D .next s') rfl hs O.clos O.kind O.names ?_) (fun _ s' hq=>ze (ze hq)) fun _ _ e=>e)
  refine lH (hi pins s σ H (fun J H'=>Same H H'/\Yields X.K J ds H') I ⟨H0,ρ,ds,E,ed,fun J H' s' y=>⟨s',y⟩⟩) fun v s1 h1=>lH h1 fun itv s2 h2=>?_
  obtain⟨it,fp,tn,J,H2,rfl,I2,T,st,hf',s12,Y⟩:=h2
  have hst:∀ d∈out,∃ z,d=Dt.str z:=fun d hd=>by rw[aai] at hd;obtain⟨z,_,rfl⟩:=List.mem_map.mp hd;exact⟨z,rfl⟩
  refine FQ (Ac:=AcT X) (O0:=hoT X s2.heap.objs.size []) (N:=4000) (RR:=fun acc C=>compPost (model X.prog X.w) X.A X.xe (some (assign (.Name y py) X.env)) (fun _ s'=>SP X pins D .next s') acc C) (ts:=ts) (xs:=xs) O hcalm O9 hif (fun C s₀ H₀ fp=>adF (helt C s₀ H₀ fp)) htk (Nat.le_add_right ..) I2 ((E.grow s12).caps is ts.length) T st hf' Y (Pq one_up eo hst) (zz (vO eo) (Q1 hlen)) ?_
   Nx (fun _=>Yr (zS _ rfl)) (fun _=>⟨[],rfl,by simp,zl _⟩) (fun _ h=>h) (fun _ _ _=>rfl) Ny fun h=>h
  rintro Da C s' H' o hD I' fC ⟨m,hn⟩ s2' hD' ⟨zs,rfl,mz,_⟩
  show wpAny _ X.A (assign (.Name y py) X.env (.ref Da)) _ _ s'
  obtain⟨f0,f1,f2,f3,f4,f5⟩:=fC
  obtain⟨oC,es',ep,hoC,hdC,hrest⟩:=id hn
  have I'':L2.Inv X (pins++[(C,oC)]) σ H' s':=I'.CW fun pp hp=>by
   rcases List.mem_append.mp hp with z|z
   ·exact I'.pin pp (z4 _ z)
   ·have:pp=(C,oC):=by simpa using z
    subst this
    exact⟨hoC,f0,f1,f2,fun v z=>by rw[hdC] at z;cases z⟩
  refine lH (L2.Ao hN hy hx hf (pins++[(C,oC)]) s' σ H' (.ref Da) (.ref Da) (fun σ' H''=>σ'=σ.set i (some (.ref Da))/\H''=H') I'' rfl ⟨rfl,rfl⟩) fun _ s'' ⟨σ',H'',J',e1,e2⟩=>?_
  subst e1 e2
  have hC':=(J'.pin (C,oC) (by simp)).1
  refine⟨m,⟨oC,es',ep,hC',hdC,hrest⟩,fun h' sb=>?_⟩
  refine⟨σ.set i (some (.ref Da)),H'',J'.vI.turned (t':=s''.toks) (fun b o hb e=>(sb.2 b hb).trans e) f0 f1 f3 f4 f5,q Da zs _ (s12.trans s2') (s12.free hD) hD' fun z=>?_⟩
  rw[mz z,aai]
  constructor
  ·intro q'
   obtain⟨y,hy,e⟩:=List.mem_map.mp q'
   cases e;exact hy
  ·exact fun q'=>List.mem_map.mpr ⟨z,q',rfl⟩
 ·cases e
end
def R6 (k:Nat) (fe:Ev->Option Bx) (ys:LS_) (fx:Ev->Option Dt):List Dt->Ev->Option (Sum Ev Dt)
 |[],ρ=>some (.inl ρ)
 |d::ds,ρ=>(fe (ρ.set k (some (.z d)))).bind fun b=>match b with
  |.z (.str x)=>if x∈ys then (fx (ρ.set k (some (.z d)))).bind fun q=>some (.inr q) else R6 k fe ys fx ds (ρ.set k (some (.z d)))
  |_=>none
section
variable {X:Cx} {x y:Str} {e2 se iter:Expr} {fS:Ev->Option LS_} {fe:Ev->Option Bx} {fx:Ev->Option Dt} {fi:Ev->Option (List Dt)} {no rest:List Stmt} {tR tQ:TS} {p0 Vb px pb pif pos pk:Pos} {C:Addr} {f:Str} {E:XK} {g:Ev->Option Out} {gx:Ev->Option Dt}
def Vj (j k:Nat) (fS:Ev->Option LS_) (fi:Ev->Option (List Dt)) (fe:Ev->Option Bx) (fx:Ev->Option Dt):Ev->Option (Sum Ev Dt):=fun ρ=>(fS ρ).bind fun ys=>(fi (ρ.set j none)).bind fun ds=>if j < ρ.length/\j≠k then R6 k fe ys fx ds (ρ.set j none) else none
theorem WD (j k:Nat) (hp:PassesOwn (model X.prog X.w) X.A X.env X.xe) (hc:X.calm=true) (hN:X.N.Nodup) (hS:PS X (.Assign [.Name x p0] se Vb) (tST X j fS)) (hi:QIF X (.Name y pk) iter fi) (h2:QV X e2 fe) (hR:CT X no tR) (hQ:CT X rest tQ)
  (xj:X.N[j]?=some x:=by rfl) (xk:X.N[k]?=some y:=by rfl) (vj:Mt X.env.scope x:=by first|exact ZU rfl|exact Zs (ZU rfl)|exact Zs (Zs rfl)) (lj:Loc X.env.scope x:=by first|exact ZU rfl|exact Zs rfl) (lk:Loc X.env.scope y:=by first|exact ZU rfl|exact Zs rfl)
  (gj:X.fn x=true\/X.env.scope.names.lookup x=some .local:=by first|exact .inl rfl|exact .inr rfl) (gk:X.fn y=true\/X.env.scope.names.lookup y=some .local:=by first|exact .inl rfl|exact .inr rfl)
  (dj:(x==("__debug__" : Str))=false:=by decide) (cj:(x==("__classdict__" : Str))=false:=by decide) (hs:∀ z,foldedSetIterable iter X.env z=pure z:=by intro _;rfl)
  (hmk:behindInMarks .In (.Name x px)=false:=by with_unfolding_all rfl) :
  CT X (.Assign [.Name x p0] se Vb::.For (.Name y pk) iter [.If (.Compare e2 [.In] [.Name x px] pb) no [] pif] [] pos::rest) fun De σ H=>
   ∃ H0 ρ r,bF X.K H0 H σ ρ/\Vj j k fS fi fe fx ρ=some r/\(∀ ρ',r=.inl ρ'->∀ σ' H',bF X.K H0 H' σ' ρ'->tQ De σ' H')/\∀ d,r=.inr d->∀ D' σ' H' ρ1,bF X.K H0 H' σ' ρ1->fx ρ1=some d->D'.rt=De.rt->tR D' σ' H':=by
 refine OD (lQ hS
  (lQ (Oo hp hc hi.run (L2.Ao hN xk lk gk) (wV (Zd (Oq aaM h2.run (tD (i:=j) xj vj dj cj) hmk) hR Ol)) hs) hQ)) fun De σ H h=>?_
 obtain⟨H0,ρ,r,Ev,e,q1,q2⟩:=h
 obtain⟨ys,ey,e⟩:=bind_some e
 obtain⟨ds,ed,e⟩:=bind_some e
 split at e
 rotate_left
 ·cases e
 rename_i hjk
 obtain⟨hj,hjk⟩:=hjk
 refine⟨H0,ρ,ys,Ev,ey,fun D zs H1 s1 hD0 hD hz=>?_⟩
 have E1:bF X.K H0 H1 (σ.set j (some (.ref D))) (ρ.set j none):=by
  have E0:=(Ev.aej j).grow s1
  have ag:∀ (q:Nat) c,(ρ.set j none)[q]?=some (some c)->(σ.set j (some (V.ref D)))[q]?=σ[q]?:=fun q c z=>rN _ (Aw z).1
  exact⟨by rw[qf];exact E0.len,fun q b e=>by rw[ag q b e];exact E0.val q b e,
   fun q q' c a b e1 e2 e3 e4 e5 e6=>E0.own q q' c a b e1 e2 (by rw[<-ag q c e1];exact e3) e4 e5 (by rw[<-ag q' b e4];exact e6),E0.base,fun q c a e1 e2 e3=>E0.new q c a e1 e2 (by rw[<-ag q c e1];exact e3)⟩
 have hσj:(σ.set j (some (V.ref D)))[j]?=some (some (.ref D)):=yS _ (by rw[Ev.len];exact hj)
 generalize σ.set j (some (V.ref D))=σ1 at *
 refine⟨H0,_,ds,E1,ed,fun J H2 s2 y=>?_⟩
 have E2:=E1.grow s2
 have hD2:=s2 _ _ hD
 have Y:Yields X.K J ds (cT H2 σ1 (ρ.set j none)):=by
  refine y _ pY (fun a ha=>?_) (fun a o u ha=>dN E2 (fun vs z=>by rw[ha] at z;cases z) (fun vs z=>by rw[ha] at z;cases z)) fun a vs ha=>dN E2 (fun vs z=>by rw[ha] at z;cases z) (fun vs z=>by rw[ha] at z;cases z)
  unfold cT
  rw[zI]
  rintro⟨q,c,e1,ec,e2⟩
  exact known E1 q c a e1 (by cases c<;>first|rfl|cases ec) e2 ha
 have hDs:cT H2 σ1 (ρ.set j none) D=some (hoT X D zs):=(dN E2 (fun vs z=>by rw[hD2] at z;cases z) (fun vs z=>by rw[hD2] at z;cases z)).trans hD2
 have ES:=E2.sans
 have sub:=E2.sub
 generalize cT H2 σ1 (ρ.set j none)=Hs at Y hDs ES sub
 refine⟨fun n m' σ' H'=>m'=ds.length - n/\n<=ds.length/\σ'[j]?=some (some (.ref D))/\∃ ρ',bF X.K Hs H' σ' ρ'/\R6 k fe ys fx (ds.drop n) ρ'=some r,⟨ds.length,by simp,QP _,hσj,_,ES,e⟩,?_⟩
 rintro n m' σ' H' ⟨rfl,hn',hσ,ρ',E',em⟩
 obtain⟨y1',y2'⟩:=Y n H' E'.base
 by_cases hlt:n < ds.length
 ·right
  have hd:ds[n]?=some ds[n]:=by simp[hlt]
  obtain⟨go,yl⟩:=y1' _ hd
  rw[QU hlt] at em
  simp only[R6] at em
  obtain⟨b,eb,em⟩:=bind_some em
  refine⟨go,fun σ2 H2=>σ2[j]?=some (some (.ref D))/\∃ ρ2,bF X.K Hs H2 σ2 ρ2/\R6 k fe ys fx (ds.drop (n+1)) ρ2=some r,fun σ2 H2 ⟨z1,z2⟩=>⟨ds.length - (n+1),by omega,rfl,hlt,z1,z2⟩,fun xv H3 yy=>?_⟩
  obtain⟨sm3,rx⟩:=yl xv H3 yy
  have E3:bF X.K Hs H3 (σ'.set k (some xv)) (ρ'.set k (some (.z ds[n]))):=(E'.grow sm3).set (b:=.z ds[n]) (Same.refl H3) rx (.inr rfl) trivial
  have hσ3:(σ'.set k (some xv))[j]?=some (some (.ref D)):=(rN _ hjk).trans hσ
  split at em
  rotate_left
  ·cases em
  rename_i t
  refine⟨Hs,_,_,E3,eb,fun v H4 s4 _ r4=>⟨.ref D,hσ3,?_⟩⟩
  obtain⟨rfl,_⟩:v=.str t/\t.length<=sizeLine:=by simpa only[bH,Rep] using r4
  have E4:=E3.grow s4
  have hD4:=E4.base _ _ hDs
  refine⟨t,D,zs,rfl,rfl,hD4,?_⟩
  refine⟨decide (t∈zs),rfl,?_⟩
  dsimp only
  by_cases ht:t∈ys
  ·rw[zk ht] at em
   obtain⟨d,ex,em⟩:=bind_some em
   cases em
   rw[zk (z5 ((hz t).mpr ht))]
   exact q2 d rfl _ _ _ _ (E4.rebase sub) ex rfl
  ·rw[zI ht] at em
   rw[zI (by rw[ZT (fun z=>ht ((hz t).mp z))];exact zr)]
   exact⟨hσ3,_,E4,em⟩
 ·left
  have hge:ds.length<=n:=by omega
  refine⟨y2' hge,?_⟩
  rw[km hge] at em
  cases em
  exact q1 _ rfl σ' H' (E'.rebase sub)
theorem adG (j k:Nat) (hp:PassesOwn (model X.prog X.w) X.A X.env X.xe) (hc:X.calm=true) (hN:X.N.Nodup) (hS:PS X (.Assign [.Name x p0] se Vb) (tST X j fS)) (hi:QIF X (.Name y pk) iter fi) (h2:QV X e2 fe) (hQ:V6 X rest g)
  (xj:X.N[j]?=some x:=by rfl) (xk:X.N[k]?=some y:=by rfl) (vj:Mt X.env.scope x:=by first|exact ZU rfl|exact Zs (ZU rfl)|exact Zs (Zs rfl)) (lj:Loc X.env.scope x:=by first|exact ZU rfl|exact Zs rfl) (lk:Loc X.env.scope y:=by first|exact ZU rfl|exact Zs rfl)
  (gj:X.fn x=true\/X.env.scope.names.lookup x=some .local:=by first|exact .inl rfl|exact .inr rfl) (gk:X.fn y=true\/X.env.scope.names.lookup y=some .local:=by first|exact .inl rfl|exact .inr rfl)
  (dj:(x==("__debug__" : Str))=false:=by decide) (cj:(x==("__classdict__" : Str))=false:=by decide) (hs:∀ z,foldedSetIterable iter X.env z=pure z:=by intro _;rfl)
  (hmk:behindInMarks .In (.Name x px)=false:=by with_unfolding_all rfl) :
  V6 X (.Assign [.Name x p0] se Vb::.For (.Name y pk) iter [.If (.Compare e2 [.In] [.Name x px] pb) no [] pif] [] pos::rest) (fun ρ=>(Vj j k fS fi fe (fun _=>none) ρ).bind fun r=>match r with
   |.inl ρ'=>g ρ'
   |.inr _=>none):=⟨OD (WD j k hp hc hN hS hi h2 Am hQ.run xj xk vj lj lk gj gk dj cj hs hmk) fun De σ H h=>by
 obtain⟨H0,ρ,out,Ev,e,q⟩:=h
 obtain⟨r,er,e⟩:=bind_some e
 cases r with
 |inl ρ1=>exact⟨H0,ρ,_,Ev,er,fun ρ' z σ' H' E'=>(by cases z;exact⟨H0,ρ1,out,E',e,q⟩),fun d z=>nomatch z⟩
 |inr d=>cases e⟩
theorem adH (j k:Nat) (hp:PassesOwn (model X.prog X.w) X.A X.env X.xe) (hc:X.calm=true) (hN:X.N.Nodup) (hS:PS X (.Assign [.Name x p0] se Vb) (tST X j fS)) (hi:QIF X (.Name y pk) iter fi) (h2:QV X e2 fe) (hR:QXs X C f E no fx)
  (xj:X.N[j]?=some x:=by rfl) (xk:X.N[k]?=some y:=by rfl) (vj:Mt X.env.scope x:=by first|exact ZU rfl|exact Zs (ZU rfl)|exact Zs (Zs rfl)) (lj:Loc X.env.scope x:=by first|exact ZU rfl|exact Zs rfl) (lk:Loc X.env.scope y:=by first|exact ZU rfl|exact Zs rfl)
  (gj:X.fn x=true\/X.env.scope.names.lookup x=some .local:=by first|exact .inl rfl|exact .inr rfl) (gk:X.fn y=true\/X.env.scope.names.lookup y=some .local:=by first|exact .inl rfl|exact .inr rfl)
  (dj:(x==("__debug__" : Str))=false:=by decide) (cj:(x==("__classdict__" : Str))=false:=by decide) (hs:∀ z,foldedSetIterable iter X.env z=pure z:=by intro _;rfl)
  (hmk:behindInMarks .In (.Name x px)=false:=by with_unfolding_all rfl) :
  QXs X C f E (.Assign [.Name x p0] se Vb::.For (.Name y pk) iter [.If (.Compare e2 [.In] [.Name x px] pb) no [] pif] [] pos::rest) (fun ρ=>(Vj j k fS fi fe fx ρ).bind fun r=>match r with
   |.inl _=>none
   |.inr d=>some d):=⟨OD (WD (tQ:=Om) j k hp hc hN hS hi h2 hR.run Am xj xk vj lj lk gj gk dj cj hs hmk) fun De σ H h=>by
 obtain⟨H0,ρ,d,Ev,e,w⟩:=h
 obtain⟨r,er,e⟩:=bind_some e
 cases r with
 |inl ρ1=>cases e
 |inr d'=>
  cases e
  exact⟨H0,ρ,_,Ev,er,(fun ρ' z=>nomatch z),fun d' z D' σ' H' ρ1 E' ex _=>by cases z;exact⟨H0,ρ1,d,E',ex,w⟩⟩⟩
end
end P1
end
section
namespace P1
open PySem PySem.Spec PyProof.Rows L2
section
variable {X:Cx} {iter e1 e2 e3 c:Expr} {fi:Ev->Option (List Dt)} {f1 fe:Ev->Option Bx} {p:Ev->Option Bool} {gr:Ev->Option Out} {x xr xj y1 y2:Str} {rest no:List Stmt} {kk:Nat} {p0 p00 p01 Vb q1 q2 pt pj pa px pb pif pf2 RW a1 c1 pe1 pr a2 NT c2 pe2 pos:Pos} {fx:Ev->Option Dt} {C:Addr} {f:Str} {E:XK}
theorem aaX (i r j k1 k2:Nat) (hp:PassesOwn (model X.prog X.w) X.A X.env X.xe) (hc:X.calm=true) (hN:X.N.Nodup) (hg:Gl X "set") (hm:X.mg "set" = none) (hi:QIF X (.Tuple [.Name y1 q1,.Name y2 q2] kk pt) iter fi) (h1:QV X e1 f1) (hcn:QB X c p) (h2:QV X e2 fe) (h3:QV X e3 fe) (hR:QXs X C f E no fx)
  (nd:[i,r,j,k1,k2].Nodup:=by decide) (xi:X.N[i]?=some x:=by rfl) (xR:X.N[r]?=some xr:=by rfl) (xJ:X.N[j]?=some xj:=by rfl) (x1:X.N[k1]?=some y1:=by rfl) (x2:X.N[k2]?=some y2:=by rfl)
  (vi:Mt X.env.scope x:=by first|exact ZU rfl|exact Zs (ZU rfl)|exact Zs (Zs rfl)) (vr:Mt X.env.scope xr:=by first|exact ZU rfl|exact Zs (ZU rfl)|exact Zs (Zs rfl)) (vj:Mt X.env.scope xj:=by first|exact ZU rfl|exact Zs (ZU rfl)|exact Zs (Zs rfl))
  (li:Loc X.env.scope x:=by first|exact ZU rfl|exact Zs rfl) (lj:Loc X.env.scope xj:=by first|exact ZU rfl|exact Zs rfl) (l1:Loc X.env.scope y1:=by first|exact ZU rfl|exact Zs rfl) (l2:Loc X.env.scope y2:=by first|exact ZU rfl|exact Zs rfl)
  (gi:X.fn x=true\/X.env.scope.names.lookup x=some .local:=by first|exact .inl rfl|exact .inr rfl) (gj:X.fn xj=true\/X.env.scope.names.lookup xj=some .local:=by first|exact .inl rfl|exact .inr rfl) (g1:X.fn y1=true\/X.env.scope.names.lookup y1=some .local:=by first|exact .inl rfl|exact .inr rfl) (g2:X.fn y2=true\/X.env.scope.names.lookup y2=some .local:=by first|exact .inl rfl|exact .inr rfl)
  (di:(x==("__debug__" : Str))=false:=by decide) (ci:(x==("__classdict__" : Str))=false:=by decide) (dr:(xr==("__debug__" : Str))=false:=by decide) (cr:(xr==("__classdict__" : Str))=false:=by decide) (dj:(xj==("__debug__" : Str))=false:=by decide) (cj:(xj==("__classdict__" : Str))=false:=by decide)
  (hs:∀ z,foldedSetIterable iter X.env z=pure z:=by intro _;rfl)
  (ht:(assignEach [.Name y1 q1,.Name y2 q2] X.env).map (·.2)=assign (.Name y1 q1) X.env::(assignEach [.Name y2 q2] X.env).map (·.2):=by rfl) (ht2:(assignEach [.Name y2 q2] X.env).map (·.2)=assign (.Name y2 q2) X.env::(assignEach [] X.env).map (·.2):=by rfl)
  (hn:(assignEach [.Name y1 q1,.Name y2 q2] X.env).length=2:=by rfl) (hst:(assignEach [.Name y1 q1,.Name y2 q2] X.env).findIdx? (·.1)=none:=by rfl)
  (s0:swapsWith (.Call (.Name "set" p00) [] [] p01) (some (.Name x p0)) Vb.line X.env=pure false:=by rfl) (s1:swapsWith e1 (some (.Name xj pj)) pa.line X.env=pure false:=by rfl)
  (hmk:behindInMarks .In (.Name x px)=false:=by with_unfolding_all rfl)
  (st1:starEach [e3] X.env=[(false,eval e3 X.env)]:=by rfl) (st2:starEach [.Name xj NT] X.env=[(false,eval (.Name xj NT) X.env)]:=by rfl)
  (hb1:attributeBase (.Name x RW) "add" X.env (eval (.Name x RW) X.env)=eval (.Name x RW) X.env:=by rfl) (hb2:attributeBase (.Name xr pr) "append" X.env (eval (.Name xr pr) X.env)=eval (.Name xr pr) X.env:=by rfl)
  (hw1:((backTo c1 (starEach [e3] X.env)).all (fun x=>!x.1)&&(backToKw c1 (keywordEach [] X.env)).all (fun x=>x.1.isSome)&&decide ([e3].length+([]:List Keyword).length+(if ([]:List Keyword).isEmpty then 0 else 1) < 30))=true:=by rfl)
  (hw2:((backTo c2 (starEach [.Name xj NT] X.env)).all (fun x=>!x.1)&&(backToKw c2 (keywordEach [] X.env)).all (fun x=>x.1.isSome)&&decide ([Expr.Name xj NT].length+([]:List Keyword).length+(if ([]:List Keyword).isEmpty then 0 else 1) < 30))=true:=by rfl)
  (hl1:(a1.endLine==c1.line)=true:=by rfl) (hl2:(a2.endLine==c2.line)=true:=by rfl)
  (s3:swapsWith (.Call (.Attribute (.Name x RW) "add" a1) [e3] [] c1) none pe1.line X.env=pure false:=by rfl)
  (s4:swapsWith (.Call (.Attribute (.Name xr pr) "append" a2) [.Name xj NT] [] c2) none pe2.line X.env=pure false:=by rfl) :
  QXs X C f E (.Assign [.Name x p0] (.Call (.Name "set" p00) [] [] p01) Vb::.For (.Tuple [.Name y1 q1,.Name y2 q2] kk pt) iter [.Assign [.Name xj pj] e1 pa,.If (.BoolOp .Or [c,.Compare e2 [.In] [.Name x px] pb] pif) no [] pf2,.Expr (.Call (.Attribute (.Name x RW) "add" a1) [e3] [] c1) pe1,.Expr (.Call (.Attribute (.Name xr pr) "append" a2) [.Name xj NT] [] c2) pe2] [] pos::rest) (fun ρ=>(Kc i r j k1 k2 fi f1 p fe fx ρ).bind fun q=>match q with
   |.inl _=>none
   |.inr d=>some d):=⟨OD (RZ (tQ:=Om) i r j k1 k2 hp hc hN hg hm hi h1 hcn h2 h3 hR.run Am nd xi xR xJ x1 x2 vi vr vj li lj l1 l2 gi gj g1 g2 di ci dr cr dj cj hs ht ht2 hn hst s0 s1 hmk st1 st2 hb1 hb2 hw1 hw2 hl1 hl2 s3 s4) fun De σ H h=>by
 obtain⟨H0,ρ,d,Ev,e,w⟩:=h
 obtain⟨q,eq,e⟩:=bind_some e
 cases q with
 |inl ρ1=>cases e
 |inr d'=>
  cases e
  exact⟨H0,ρ,_,Ev,eq,(fun ρ' z=>nomatch z),fun d' z D' σ' H' ρ1 E' ex _=>by cases z;exact⟨H0,ρ1,d,E',ex,w⟩⟩⟩
end
section
variable {X:Cx} {C Cn f:Addr} {iv k:Nat} {n cn x:Str} {np hp p pa cpos pos:Pos} {b0:Stmt} {suite:List Stmt} {ts:TS} {tf:TE} {t:TA} {sp:Sp} {fd:FuncData} {ps:LS_} {e:Expr} {es:List Expr}
def aij (X:Cx) (C f:Addr) (iv:Nat) (ts:TS) (tf:TE) (t:TA) (sp:Sp):TS:=fun D σ H=>tf σ H fun v H0=>v=.ref f/\t σ H0 fun vs H1=>sp vs H1 (fun _ H2=>D.nx σ H2) (XT X C iv ts D σ)
theorem WK (hst:X.stack=X.env::X.outer) (hfr:X.env.frame=some X.env.locals) (hN:X.N.Nodup) (hi:X.N[iv]?=some n) (hl:X.env.scope.names.lookup n=some .local)
  (hg:Gl X cn) (hm:X.mg cn=some (.ref Cn)) (hx:PySem.W.exmOne X.K (.ref C) (.ref Cn)=some true) (hs:∀ a,CT (Cx.inX X a) (b0::suite) ts)
  (hfe:PE X.TJ (.Name x p) tf) (F:bx X.prog X.w X.K X.mg X.base (Ww X.prog X.w) k f fd ps sp) (hr:lR k X.A) (hk:PySem.W.keepIn X.K (.ref f)=true) (hb:Binds X.K fd ps []) (ha:PA X.TJ (e::es) t)
  (hdb:(cn==("__debug__" : Str))=false:=by decide) (hst':starEach (e::es) X.env=(false,eval e X.env)::starEach es X.env:=by rfl) (hpl:(backTo cpos (starEach es X.env)).any (·.1)=false:=by rfl)
  (hsw:swapsWith (.Call (.Name x p) (e::es) [] cpos) none pa.line X.env=pure false:=by rfl) :
  PS X (.Try [.Expr (.Call (.Name x p) (e::es) [] cpos) pa] [.ExceptHandler (some (.Name cn np)) (some n) (b0::suite) hp] [] [] pos) (aij X C f iv ts tf t sp):=by
 intro pins s σ H D I h
 refine wpAny_Try_except (kq (wpAny_Expr_any (jv ?_) I.quiet hsw))
 refine ZA (hfe pins s σ H _ (I.wish _) h) (fun u s0 ⟨v,H0,I0,r0,ev,q0⟩=>?_) (fun _ _ z=>False.elim z)
 subst ev
 obtain rfl:u=Value.ref f:=r0
 refine PySem.W.callWith_K (h₀:=X.base) I.ok.mod.kin hk (ZA (ha cpos pins s0 σ H0 _ I0 q0) (fun us s1 ⟨vs,H1,I1,r,q⟩=>⟨I1.Qz,?_⟩) (fun _ _ z=>False.elim z)) hst' hpl
 have I1':=I1.nU
 have hl2:us.length=ps.length:=by rw[<-r.length];exact F.len _ _ _ _ q
 rw[kc]
 refine wpAny_call (kL (F.run X.A X.stack s1 H1 ⟨us,[]⟩ us vs _ _ hr I1'.env0 (by have:=hb s1 us I1'.Qz (by rw[QO];exact hl2);rwa [QO] at this) r q) fun r s' hq=>?_)
 cases r with
 |error e=>exact Vg hst hfr hN hi hl hg hm hx hs I1' hq hdb
 |ok fl=>
  cases fl with
  |next=>exact False.elim hq
  |brk=>exact False.elim hq
  |cont=>exact False.elim hq
  |ret u=>
   obtain⟨v,H2,I2,rv,q2⟩:=I1'.after hq
   exact kC (kC ⟨_,H2,I2,q2⟩)
end
section
variable {X:Cx} {fx:Ev->Option Bx}
def hoI (f:Ev->Option Bx):Ev->Option Bx:=fun ρ=>(f ρ).bind fun b=>match b with
 |.z (.int i)=>if 0<=i/\i < 100000 then some (.z (.str (toString i))) else none
 |_=>none
theorem aaY {v:Expr} {pos:Pos} (h:QV X v fx):QV X (.FormattedValue v (-1) none pos) (hoI fx):=⟨fun pins s σ H Q I q=>by
 obtain⟨H0,ρ,b,E,e,q⟩:=q
 obtain⟨b',eb,e⟩:=bind_some e
 split at e
 rotate_left
 ·cases e
 rename_i i
 split at e
 rotate_left
 ·cases e
 rename_i hi
 cases e
 have hd:i.natAbs.log2 < 1920:=by
  by_cases h0:i.natAbs=0
  ·rw[h0];decide
  ·rw[Nat.log2_lt h0]
   exact ZE (show i.natAbs < 2 ^ 17 by omega) (Nat.pow_le_pow_right (by decide) (by decide))
 refine FormattedValue_plain (ZA (h.run pins s σ H (fun v H'=>Same H H'/\bH X.K H' (.z (.int i)) v) I ⟨H0,ρ,_,E,eb,fun v H' s' n' r'=>⟨s',r'⟩⟩) (fun v s1 hq=>?_) fun _ _ z=>z)
 obtain⟨w,H1,I1,r1,s1',rb⟩:=hq
 obtain rfl:w=.int i:=by simpa only[bH,Rep] using rb
 obtain⟨tk,rfl⟩:=r1
 exact formatField_int_small hd ⟨.str (toString i),H1,I1.tok _,⟨_,rfl⟩,q _ H1 s1' trivial (by unfold bH Rep;exact⟨rfl,int_text_fits hd⟩)⟩⟩
end
section
variable {prog:Program} {w:World} {A:Around} {E:VP_} {it l:Addr} {xs:Array Value}
theorem aex (hne:l≠it):∀ (n i:Nat) (s:Shared) (Q:List Value->Shared->Prop),s.heap.IsListIter it l i->s.heap.IsList l xs->i+n<=xs.size →
  (∀ h',h'.IsListIter it l (i+n)->Heap.SameBut it s.heap h'->Q ((xs.toList.drop i).take n) { s with heap:=h' })->wpAny (model prog w) A (draw (.ref it) n) Q E s
 |0,i,s,Q,z,_,_,q=>ze (by have:=q s.heap z (Heap.SameBut.refl ..);rwa [List.take_zero] at this)
 |n+1,i,s,Q,z,hl,le,q=>by
  have hi:i < xs.size:=by omega
  refine zb (m:=pyNext (.ref it)) (wpAny_pyNext_list_item z hl (x:=xs[i]) (Array.getElem?_eq_getElem hi) fun h1 z1 b1=>?_)
  refine zb (qi (aex hne n (i+1) _ _ z1 (hl.extBut b1.extBut hne) (by omega) fun h2 z2 b2=>ze ?_))
  have:=q h2 (by rw[show i+(n+1)=i+1+n by omega];exact z2) (b1.trans b2)
  rwa [QU (by rw[qc];exact hi),List.take_succ_cons,Array.getElem_toList] at this
theorem akQ {s:Shared} {Q:List Value->Shared->Prop} (hh:A.handled=none) (hl:s.heap.IsList l xs) (q:∀ h',Heap.ExtBut s.heap.objs.size s.heap h'->Q xs.toList { s with heap:=h' }):wpAny (model prog w) A (unpackItems (.ref l) xs.size none) Q E s:=by
 have ne:l≠s.heap.objs.size:=by obtain⟨o,ho,_⟩:=hl;exact ZI (zt ho)
 unfold unpackItems
 refine zb ?_
 unfold notIterableAtAll
 refine zb (wpAny_specialOf hl.typeIs slot_list_iter.lookup (ze ?_))
 rw[zI (by decide)]
 refine zb (qi (wpAny_pyIter_list hl ?_))
 refine zb (qi (aex ne xs.size 0 _ _ ⟨_,zS _ rfl,rfl,rfl⟩ (hl.push _) (by omega) fun h1 z1 b1=>?_))
 rw[List.drop_zero,jI (by rw[qc];exact zl _),zI (by simp)]
 refine zb (qi (wpAny_pyNext_list_end hh z1 ((hl.push _).extBut b1.extBut ne) (by simp) fun h2 b2=>?_))
 rw[zI (by decide)]
 exact ze (q h2 fun b o hb e=>b2 b o hb (b1.extBut b o hb (zd _ e)))
end
section
variable {X:Cx} {pos:Pos}
def akR (K:FG_) (n:Nat) (t:TGs):TG:=fun v σ H Q=>∃ a xs,v=.ref a/\vH K H a xs/\xs.length=n/\t xs σ H Q
theorem agm {es:List Expr} {k:Nat} {t:TGs} {n:Nat} (hc:X.calm=true) (h:L2.Y0 X es t) (hn:(assignEach es X.env).length=n:=by rfl) (hst:(assignEach es X.env).findIdx? (·.1)=none:=by rfl):PG X (.Tuple es k pos) (akR X.K n t):=by
 intro pins s σ H v u Q I r hw
 obtain⟨a,xs,e1,hq,hl,hw⟩:=hw
 subst e1
 cases r
 obtain⟨its,rv,ht,hz⟩:=I.list hq
 have sz:(assignEach es X.env).length=its.toArray.size:=by rw[hn,<-hl,rv.length];simp
 rw[assign_Tuple]
 refine zb (Qr ?_)
 unfold unpack
 rw[sz,hst]
 refine zb (qi (akQ (I.ok.hd hc) ht.isList fun h' hx=>?_))
 have I1:Inv X pins σ H { s with heap:=h' }:=I.kept (t':=s.toks) fun b o e=>hx b o (ZI (zt e)) e
 exact h pins _ σ H xs _ Q I1 (by simpa using rv) hw
def WL (n:Nat) (gs:List Dt->Ev->Option Ev):Dt->Ev->Option Ev
 |.lst ds,ρ=>if ds.length=n then gs ds ρ else none
 |_,_=>none
theorem agn {ts:List Expr} {k n:Nat} {gs:List Dt->Ev->Option Ev} (hc:X.calm=true) (h:ZG X ts gs) (hn:(assignEach ts X.env).length=n:=by rfl) (hst:(assignEach ts X.env).findIdx? (·.1)=none:=by rfl) :
  QTg X (.Tuple ts k pos) (WL n gs):=⟨fun pins s σ H v u Q I r hw=>by
 obtain⟨H0,ρ,d,ρ',E,rd,e,q⟩:=hw
 cases d with
 |lst ds=>
  simp only[WL] at e
  split at e
  ·rename_i hl
   unfold Rep at rd
   obtain⟨a,vs,rfl,hq,rs⟩:=rd
   exact agm hc h.run hn hst pins s σ H _ u Q I r ⟨a,vs,rfl,hq.sq,by rw[rs.length];exact hl,H0,ρ,ds,ρ',E,rs,e,q⟩
  ·cases e
 |_=>cases e⟩
def sortI (ns:List Int):List Int:=ns.mergeSort fun a b=>decide (a<=b)
theorem sortI_perm (ns:List Int):(sortI ns).Perm ns:=List.mergeSort_perm ns _
theorem Cj (ns:List Int):(sortI ns).Pairwise (·<=·):=
 (List.pairwise_mergeSort (le:=fun a b:Int=>decide (a<=b)) (fun a b c h1 h2=>by simp only[ZY] at *;omega) (fun a b=>by simp only[ke,ZY];omega) ns).imp fun h=>JE h
theorem DR:∀ {l l':List Int},l.Perm l'->l.Pairwise (·<=·)->l'.Pairwise (·<=·)->l=l'
 |[],l',h,_,_=>by rw[List.nil_perm.mp h]
 |a::l,[],h,_,_=>by cases List.perm_nil.mp h
 |a::l,b::l',h,p,p'=>by
  have e:a=b:=by
   have ha:a∈b::l':=h.mem_iff.mp (zi ..)
   have hb:b∈a::l:=h.mem_iff.mpr (zi ..)
   rcases List.mem_cons.mp ha with h1|h1
   ·exact h1
   ·rcases List.mem_cons.mp hb with h2|h2
    ·exact h2.symm
    ·have:=qV p h2
     have:=qV p' h1
     omega
  subst e
  rw[DR ((List.perm_cons a).mp h) (List.pairwise_cons.mp p).2 (List.pairwise_cons.mp p').2]
theorem vK:∀ {its:List Value} {ns:List Int},IntsAre its ns->Vals (ns.map V.int) its
 |_,_,.nil=>.nil
 |_,_,.cons y t h=>.cons ⟨t,rfl⟩ (vK h)
theorem ints_rep {K:FG_} {H:Hp}:∀ {ns:List Int},aW K H (ns.map Dt.int) (ns.map V.int)
 |[]=>aW.nil
 |n::ns=>aW.cons (by simp only[Rep]) ints_rep
theorem N6 {K:FG_} {H:Hp}:∀ {ds:List Dt} {vs:List V} {ns:List Int},aW K H ds vs->NK ds=some ns->vs=ns.map V.int
 |[],vs,ns,r,e=>by cases e;simp only[aW] at r;exact r
 |d::ds,vs,ns,r,e=>by
  cases d<;>first|(cases e;done)|skip
  rename_i i
  simp only[NK] at e
  obtain⟨ks,e1,e⟩:=bind_some e
  cases e
  simp only[aW] at r
  obtain⟨v,r',rfl,rv,r2⟩:=r
  rw[N6 r2 e1]
  obtain rfl:v=.int i:=by simpa only[Rep] using rv
  rfl
theorem Qa:jV X (.builtin "sorted") (fun xs H Q=>∃ p ys,xs=[.ref p]/\vH X.K H p (ys.map V.int)/\ys.length < 64/\∀ l,H l=none->Q (.ref l) (upd H l (.lst ((sortI ys).map V.int)))):=by
 intro pins s σ H xs us Q I r h
 obtain⟨p,ys,rfl,hq,h64,q⟩:=h
 obtain⟨u,rfl,rx⟩:=vals1 r
 cases rx
 obtain⟨its,r',pl,hz⟩:=I.list hq
 have hlen:=r'.length
 rw[zh] at hlen hz
 refine sorted_ints pl.isList (intsAre_of r') (by omega) fun out zs hs hp aik=>?_
 obtain rfl:zs=sortI ys:=DR (hp.trans (sortI_perm ys).symm) aik (Cj ys)
 obtain⟨n,en⟩:=sortedAll_at s.heap its out
 refine⟨.ref (s.heap.objs.size+1),_,I.laid (t':=s.toks) (a:=s.heap.objs.size+1) (o:=.lst ((sortI ys).map V.int)) (fun b o e=>sortedAll_old e) (JJ _) ?_,rfl,q _ (I.hok.fresh (JJ _))⟩
 refine⟨by rw[zh,hp.length_eq];exact hz,out.toList,n,vK hs,?_⟩
 rw[en]
def Gj:List Bx->Option Bx
 |[b]=>(yJ b).bind fun ds=>(NK ds).bind fun ys=>if ys.length < 64 then some (.o ((sortI ys).map Dt.int)) else none
 |_=>none
theorem aaZ:Dj X (.builtin "sorted") Gj:=jV.imp Qa fun xs H Q q=>by
 obtain⟨bs,c,rb,e,q⟩:=q
 unfold Gj at e
 split at e
 ·rename_i b
  obtain⟨ds,ed,e⟩:=bind_some e
  obtain⟨ys,ey,e⟩:=bind_some e
  split at e
  ·rename_i h64
   cases e
   obtain⟨v,rfl,r1⟩:=rep1 rb
   obtain⟨p,vs,rfl,sq,rs⟩:=r1.Ni ed
   obtain rfl:=N6 rs ey
   exact⟨p,ys,rfl,sq,h64,fun l hl=>q _ _ (cF hl) (fun a ea=>by cases ea;exact hl) ⟨l,_,rfl,bC,ints_rep⟩⟩
  ·cases e
 ·cases e
end
section
variable {X:Cx}
def Hj:Bx->Bx->Option Bx
 |.z (.bl a),.z (.bl b)=>some (.z (.bl (!(a==b))))
 |_,_=>none
theorem R7:Mr X (compareOp .IsNot) Hj:=by
 intro pins s σ H x y v u Q I rx ry h
 obtain⟨a,b,c,ra,rb,e,q⟩:=h
 unfold Hj at e
 split at e
 ·rename_i k j
  cases e
  obtain rfl:x=.bl k:=by simpa only[bH,Rep] using ra
  obtain rfl:y=.bl j:=by simpa only[bH,Rep] using rb
  cases rx
  cases ry
  exact ze ⟨.bl (!(k==j)),H,I,(by cases k<;>cases j<;>rfl),q _ H (Same.refl H) trivial (by simp only[bH,Rep])⟩
 ·cases e
end
section
variable {α:Type} {e:α->Dt} {ρ:Ev} {fa:Ev->Option Bx}
theorem ints_map:∀ ns:List Int,NK (ns.map eI)=some ns
 |[]=>rfl
 |n::ns=>by show (NK (ns.map eI)).bind _=_;rw[ints_map ns];rfl
def adI (a:RL fa ρ eI):R (dZ Gj (ao fa aO)) ρ (oE eI):=⟨sortI a.v,bG a.D (some (a.v.length < 64)),fun h=>by
 obtain⟨h,h4⟩:=aB h
 simp only[dZ,ao,aO,a.ok h,bnd,Gj,a.lk,ints_map]
 exact zk h4⟩
def WM {fb:Ev->Option Bx} (a:R fa ρ (zE eB)) (b:R fb ρ (zE eB)):R (b2 Hj fa fb) ρ (zE eB):=⟨!(a.v==b.v),bG a.D b.D,fun h=>by
 obtain⟨h1,h2⟩:=aB h
 simp only[b2,a.ok h1,b.ok h2,bnd,Hj]⟩
abbrev eL2 {α:Type} (e:α->Dt):α×α->Dt:=fun x=>.lst [e x.1,e x.2]
def akS [Inhabited α] (a:R fa ρ (zE (eL e))):R fa ρ (zE (eL2 e)):=⟨(at' a.v 0,at' a.v 1),bG a.D (some (a.v.length=2)),fun h=>by
 obtain⟨h1,h2⟩:=aB h
 rw[a.ok h1]
 have h2:a.v.length=2:=h2
 generalize a.v=l at h2 ⊢
 match l,h2 with
 |[x,y],_=>rfl⟩
end
section
variable {α β δ:Type} {ρ:Ev} {e:α->Dt} {ea:β->Dt} {eb:δ->Dt} {f1 fe:Ev->Option Bx} {p:Ev->Option Bool} {fi:Ev->Option (List Dt)} {fx:Ev->Option Dt} {d:Dt}
def evS (ρ:Ev) (k1 k2 j:Nat) (ea:β->Dt) (eb:δ->Dt) (e:α->Dt) (x:β×δ) (y:Option α):Ev:=((ρ.set k1 (some (.z (ea x.1)))).set k2 (some (.z (eb x.2)))).set j (some (.z (eO e y)))
structure aa0 (ρ:Ev) (k1 k2 j:Nat) (ea:β->Dt) (eb:δ->Dt) (e:α->Dt) (f1 fe:Ev->Option Bx) (p:Ev->Option Bool) (A:β×δ->Option α) (V:β×δ->Str) (x:β×δ):Prop where
 s:(A x).isSome=true
 a:f1 ((ρ.set k1 (some (.z (ea x.1)))).set k2 (some (.z (eb x.2))))=some (.z (eO e (A x)))
 c:p (evS ρ k1 k2 j ea eb e x (A x))=some false
 v:fe (evS ρ k1 k2 j ea eb e x (A x))=some (.z (eS (V x)))
theorem Kf [Inhabited α] {k1 k2 j:Nat} {A:β×δ->Option α} {V:β×δ->Str} {rest:List Dt}:∀ (xs:List (β×δ)) (seen:LS_) (outs:List α),(∀ x∈xs,aa0 ρ k1 k2 j ea eb e f1 fe p A V x) →
  (seen++xs.map V).Nodup->seen.length+xs.length < 4000->outs.length+xs.length < 4000->zy k1 k2 j f1 p fe fx ρ (xs.map (Fl ea eb)++rest) seen (outs.map e)=zy k1 k2 j f1 p fe fx ρ rest (seen++xs.map V) ((outs++xs.map fun x=>(A x).getD default).map e)
 |[],seen,outs,_,_,_,_=>by simp
 |x::xs,seen,outs,h,hn,h1,h2=>by
  obtain⟨a1,a2,a3,a4⟩:=h x (zi ..)
  unfold evS at a3 a4
  rw[Zp] at h1 h2
  rw[zg,List.cons_append]
  simp only[zy,Fl,a2,bnd,a3,a4,txB,ZH,qA]
  rw[zI (fun hm=>by
   rw[zg] at hn
   exact (List.nodup_append.mp hn).2.2 _ hm _ (zi ..) rfl),zk ⟨by omega,by rw[zh];omega⟩]
  have e1:outs.map e++[eO e (A x)]=(outs++[(A x).getD default]).map e:=by
   rw[Zl]
   cases hA:A x with
   |none=>rw[hA] at a1;cases a1
   |some y=>rfl
  rw[e1,Kf xs (seen++[V x]) (outs++[(A x).getD default]) (fun y hy=>h y (zo _ hy)) (by simpa using hn) (by simp;omega) (by simp;omega)]
  simp
theorem aa1 [Inhabited α] (i r j k1 k2:Nat) (hr:ρ[r]?=some (some (Bx.o []))) (hij:(decide (i < ρ.length)&&decide (j < ρ.length))=true) {ρ0:Ev} (h0:((((ρ.set i none).set r none).set j none).set k1 none).set k2 none=ρ0) (it:R fi ρ0 (iE (Fl ea eb)))
  (a:∀ x:β×δ,R f1 ((ρ0.set k1 (some (.z (ea x.1)))).set k2 (some (.z (eb x.2)))) (zE (eO e))) (c:∀ (x:β×δ) (y:Option α),R p (((ρ0.set k1 (some (.z (ea x.1)))).set k2 (some (.z (eb x.2)))).set j (some (.z (eO e y)))) tE)
  (v:∀ (x:β×δ) (y:Option α),R fe (((ρ0.set k1 (some (.z (ea x.1)))).set k2 (some (.z (eb x.2)))).set j (some (.z (eO e y)))) (zE eS))
  {L1 L2:List (β×δ)} {x0:β×δ} (hit:it.v=L1++x0::L2) (h1:hold it.D) (hl:L1.length < 4000) (nd:(L1.map fun x=>(v x (a x).v).v).Nodup) (hx:(v x0 (a x0).v).v∈L1.map fun x=>(v x (a x).v).v)
  (hd:∀ x∈L1++[x0],hold (a x).D/\(a x).v.isSome=true/\hold (c x (a x).v).D/\(c x (a x).v).v=false/\hold (v x (a x).v).D) (hfx:fx (evS ρ0 k1 k2 j ea eb e x0 (a x0).v)=some d):Kc i r j k1 k2 fi f1 p fe fx ρ=some (.inr d):=by
 rw[ZN,ZY,ZY] at hij
 have ok:∀ x∈L1++[x0],aa0 ρ0 k1 k2 j ea eb e f1 fe p (fun x=>(a x).v) (fun x=>(v x (a x).v).v) x:=fun x hx=>by
  obtain⟨d1,d2,d3,d4,d5⟩:=hd x hx
  exact⟨d2,(a x).ok d1,by unfold evS;rw[(c x (a x).v).ok d3,d4],(v x (a x).v).ok d5⟩
 unfold Kc
 rw[hr]
 simp only[zk hij,h0,it.ok h1,bnd]
 rw[show (iE (Fl ea eb)) it.v=L1.map (Fl ea eb)++Fl ea eb x0::L2.map (Fl ea eb) by rw[show (iE (Fl ea eb)) it.v=it.v.map (Fl ea eb) from rfl,hit,Zl,zg]]
 have k:=Kf (ρ:=ρ0) (k1:=k1) (k2:=k2) (j:=j) (f1:=f1) (p:=p) (fe:=fe) (fx:=fx) (e:=e) (ea:=ea) (eb:=eb) (A:=fun x=>(a x).v) (V:=fun x=>(v x (a x).v).v) (rest:=Fl ea eb x0::L2.map (Fl ea eb)) L1 [] [] (fun x hx=>ok x (qo _ hx)) (by simpa using nd) (by simpa using hl) (by simpa using hl)
 rw[kM,kc] at k
 rw[k]
 obtain⟨a1,a2,a3,a4⟩:=ok x0 (z4 _ (List.mem_singleton.mpr rfl))
 unfold evS at a3 a4 hfx
 simp only[zy,Fl,a2,bnd,a3,a4,txB,ZH,qA]
 rw[zk hx]
 simp only[hfx,bnd]
end
theorem lt_iff (a b:Str):U4 a b=true↔QC a b/\a≠b:=by
 unfold U4 QC
 rw[ltCps_eq]
 simp only[ZY,jb]
 constructor
 ·intro h
  exact⟨List.lt_asymm h,fun e=>by subst e;exact List.lt_irrefl _ h⟩
 ·intro ⟨h,hn⟩
  by_cases q:a.cps.toList < b.cps.toList
  ·exact q
  ·exact absurd (Ro (a:=a) (b:=b) (by unfold QC;rw[ltCps_eq];simpa using h) (by unfold QC;rw[ltCps_eq];simpa using q)) hn
theorem aa2 (n:Nat):rng 0 (n+1)=0::(rng 0 n).map (·+1):=by
 unfold rng
 rw[kl,zg,Z3,Z3]
 refine congr (congrArg _ ?_) ?_
 ·simp
 ·apply qr
  intro k _
  simp only[Function.comp]
  omega
theorem Jp {n:Nat} {i:Int} (h:i∈rng 0 n):∃ k:Nat,k < n/\i=(k:Int):=by
 unfold rng at h
 obtain⟨k,hk,rfl⟩:=List.mem_map.mp h
 exact⟨k,List.mem_range.mp hk,by omega⟩
def Gk (xs:LS_):Bool:=((rng 0 ((xs.length:Int) - 1).toNat).map fun i:Int=>U4 (at' xs i) (at' xs (i+1))).all id
theorem WQ (a:Str) (l:LS_) {k:Nat} (h:k < l.length):at' (a::l) ((k:Int)+1)=at' l (k:Int):=by
 have e:=Gh (a::l) (k+1) (by simp;omega)
 rw[Gh l k h,show ((k:Int)+1)=((k+1:Nat):Int) by omega,e]
 rfl
theorem R8 (a b:Str) (l:LS_):Gk (a::b::l)=(U4 a b&&Gk (b::l)):=by
 unfold Gk
 rw[show (((a::b::l).length:Int) - 1).toNat=l.length+1 by simp only[Zp];omega,show (((b::l).length:Int) - 1).toNat=l.length by simp only[Zp];omega,aa2,zg,j3,Z3]
 refine congr (congrArg _ ?_) (congrArg (fun l:List Bool=>l.all id) ?_)
 ·have e0:=Gh (a::b::l) 0 (by simp)
  have e1:=Gh (a::b::l) 1 (by simp)
  show U4 (at' (a::b::l) ((0:Nat):Int)) (at' (a::b::l) ((1:Nat):Int))=U4 a b
  rw[e0,e1]
  rfl
 ·apply qr
  intro i hi
  obtain⟨k,hk,rfl⟩:=Jp hi
  have e1:=WQ a (b::l) (k:=k) (by simp;omega)
  have e2:=WQ a (b::l) (k:=k+1) (by simp;omega)
  have e3:((k+1:Nat):Int)=(k:Int)+1:=by omega
  rw[e3] at e2
  simp only[Function.comp]
  rw[e1,e2]
theorem Hl:∀ (xs:LS_),Gk xs=true↔xs.Pairwise fun a b=>U4 a b=true
 |[]=>by simp[Gk,rng]
 |[a]=>by simp[Gk,rng]
 |a::b::l=>by
  rw[R8,ZN,Hl (b::l),@List.pairwise_cons _ _ a (b::l)]
  constructor
  ·intro ⟨h1,h2⟩
   refine⟨fun y hy=>?_,h2⟩
   rcases List.mem_cons.mp hy with rfl|hy
   ·exact h1
   ·have:=qV h2 hy
    unfold U4 at *
    simp only[ZY] at *
    exact List.lt_trans h1 this
  ·intro ⟨h1,h2⟩
   exact⟨h1 b (zi ..),h2⟩
theorem WR:∀ {xs:LS_},xs.Nodup->zf xs=xs
 |[],_=>rfl
 |x::xs,h=>by
  have:=List.nodup_cons.mp h
  unfold zf
  rw[zI this.1,WR this.2]
end P1
end
section
namespace P1
open PySem PySem.Spec PyProof.Rows L2 S1 S6
structure Wd (U:LS_) (w:List LS_):Prop where
 ne:∀ s∈w,s≠[]
 so:∀ s∈w,s.Pairwise QC
 nd:w.flatten.Nodup
 sub:∀ x∈w.flatten,x∈U
 st:w.Pairwise (fun a b=>akA a b=true)
def same (w:List LS_) (x y:Str):Prop:=∃ s∈w,x∈s/\y∈s
section
variable {α β:Type}
structure GOk (m:List (Int×List α)) (xs:List α):Prop where
 k:(m.map (·.1)).Nodup
 ne:∀ q∈m,q.2≠[]
 p:(m.map (·.2)).flatten.Perm xs
theorem GOk.put {m:List (Int×List α)} {xs:List α} (h:GOk m xs) (k:Int) (x:α):GOk (ah4 m k x) (xs++[x]):=by
 unfold ah4
 split
 ·rename_i hk
  obtain⟨q0,hq,e⟩:=List.any_eq_true.mp hk
  have e:q0.1=k:=JE e
  obtain⟨pre,rest,rfl⟩:=List.append_of_mem hq
  have nk:=h.k
  rw[Zl,zg,kU] at nk
  have fix:∀ l:List (Int×List α),k∉l.map (·.1)->l.map (fun q=>if q.1=k then (q.1,q.2++[x]) else q)=l:=fun l hl=>by
   conv=>rhs;rw[<-List.map_id l]
   exact qr fun q hq=>by rw[zI fun z=>hl (List.mem_map.mpr ⟨q,hq,z⟩)];rfl
  have f1:=fix pre fun z=>nk.2.2 _ z _ (zi ..) e.symm
  have f2:=fix rest fun z=>(List.nodup_cons.mp nk.2.1).1 (by rw[e];exact z)
  have f3:(pre++q0::rest).map (fun q=>if q.1=k then (q.1,q.2++[x]) else q)=pre++(q0.1,q0.2++[x])::rest:=by rw[Zl,zg,f1,f2,zk e]
  rw[f3]
  refine⟨by have:=h.k;simpa using this,fun q hq=>?_,?_⟩
  ·rcases List.mem_append.mp hq with hq|hq
   ·exact h.ne q (qo _ hq)
   ·rcases List.mem_cons.mp hq with z|hq
    ·rw[z];simp
    ·exact h.ne q (z4 _ (zo _ hq))
  ·refine List.Perm.trans ?_ (h.p.append_right [x])
   simp only[Zl,zg,List.flatten_append,kX,JI]
   refine List.Perm.append_left _ (List.Perm.append_left _ ?_)
   exact List.perm_append_comm
 ·rename_i hk
  refine⟨?_,fun q hq=>?_,?_⟩
  ·rw[Zl,kU]
   refine⟨h.k,by simp,fun a ha b hb=>?_⟩
   have hb:b=k:=by simpa using hb
   subst hb
   intro z
   subst z
   obtain⟨q,hq,e⟩:=List.mem_map.mp ha
   exact hk (List.any_eq_true.mpr ⟨q,hq,z5 e⟩)
  ·rcases List.mem_append.mp hq with hq|hq
   ·exact h.ne q hq
   ·cases List.mem_singleton.mp hq;simp
  ·rw[Zl,List.flatten_append]
   simpa using h.p.append_right [x]
end
end P1
end
section
set_option maxHeartbeats 1000000
namespace P1
open PySem PySem.Spec PyProof.Rows L2
open PySem.Builtin PySem.Builtin.Str
abbrev cs (s:Str):List Nat:=s.cps.toList
theorem eU (a b:Str):cs (a++b)=cs a++cs b:=Array.toList_append
theorem u9 {a b:Str} (h:cs a=cs b):a=b:=Str.ext' (Array.toList_inj.mp h)
theorem g8 (a:Str):a.length=(cs a).length:=by simp[Str.length]
theorem Qc (y p q:Str) (ps:LS_):Str.join y (p::q::ps)=p++y++Str.join y (q::ps):=rfl
theorem aa3 {x y:Str} {k:Nat} (h:StrLaws.At x y x.length k):∃ r,(cs x).drop k=cs y++r:=by
 have e:=h.2
 rw[StrLaws.subAt_eq] at e
 have e:((cs x).drop k).take y.length=cs y:=eq_of_beq e
 exact⟨((cs x).drop k).drop y.length,by rw[<-e];exact (List.take_append_drop _ _).symm⟩
theorem aa4 {x y:Str} {k:Nat} {r:List Nat} (h:(cs x).drop k=cs y++r) (hk:k<=(cs x).length):StrLaws.At x y x.length k:=by
 refine⟨?_,?_⟩
 ·have:=congrArg List.length h
  rw[qq,zw,<-g8,<-g8] at this
  rw[<-g8] at hk
  omega
 ·rw[StrLaws.subAt_eq]
  apply beq_iff_eq.mpr
  show ((cs x).drop k).take y.length=cs y
  rw[h,g8,List.take_left]
theorem Kg {x y:Str} {c:Nat} {y':List Nat} (hy:cs y=c::y'):∀ (ps:LS_) (p:Str) (cuts:List Nat) (a f:Nat),(∀ q∈p::ps,c∉cs q)->a<=(cs x).length->(cs x).drop a=cs (Str.join y (p::ps))->StrLaws.ChainG x y x.length a cuts f->(∀ k,f<=k->¬ StrLaws.At x y x.length k) →
  StrLaws.partsFrom x y.length a cuts=p::ps
 |[],p,cuts,a,f,hc,ha,hx,hG,hn=>by
  have hx:(cs x).drop a=cs p:=hx
  have hp:=hc p (zi ..)
  cases cuts with
  |nil=>
   show [strSub x a x.length]=[p]
   congr 1
   refine u9 ?_
   show (strSub x a x.length).cps.toList=_
   rw[StrLaws.strSub_toList]
   show ((cs x).drop a).take (x.length - a)=_
   rw[jI (by rw[qq,g8];exact zl _),hx]
  |cons d r=>
   obtain⟨g1,g2,_,_⟩:=hG
   obtain⟨t,et⟩:=aa3 g2
   refine absurd ?_ hp
   rw[<-hx,show (cs x).drop a=((cs x).drop a).take (d - a)++(cs x).drop d by
    rw[show (cs x).drop d=((cs x).drop a).drop (d - a) by rw[kP];congr 1;omega,List.take_append_drop],et,hy]
   exact z4 _ (zi ..)
 |q::ps,p,cuts,a,f,hc,ha,hx,hG,hn=>by
  have hx:(cs x).drop a=cs p++(cs y++cs (Str.join y (q::ps))):=by
   rw[hx,Qc,eU,eU,JI]
  have hp:=hc p (zi ..)
  have hl:=congrArg List.length hx
  rw[qq,zw,zw] at hl
  have hy1:1<=(cs y).length:=by rw[hy];simp
  have e1:(cs x).drop (a+(cs p).length)=cs y++cs (Str.join y (q::ps)):=by
   rw[<-kP,hx,List.drop_left]
  have A1:StrLaws.At x y x.length (a+(cs p).length):=aa4 e1 (by omega)
  have no:∀ d,a<=d->d < a+(cs p).length->¬ StrLaws.At x y x.length d:=fun d h1 h2 hA=>by
   obtain⟨t,et⟩:=aa3 hA
   refine hp ?_
   have:(cs x).drop d=((cs p).drop (d - a))++(cs y++cs (Str.join y (q::ps))):=by
    rw[show (cs x).drop d=((cs x).drop a).drop (d - a) by rw[kP];congr 1;omega,hx,List.drop_append_of_le_length (by omega)]
   rw[et,hy] at this
   have h3:(cs p).drop (d - a)≠[]:=fun z=>by
    have:=congrArg List.length z
    rw[qq,List.length_nil] at this
    omega
   cases hz:(cs p).drop (d - a) with
   |nil=>exact absurd hz h3
   |cons u v=>
    rw[hz] at this
    injection this with e _
    rw[e]
    exact List.mem_of_mem_drop (i:=d - a) (by rw[hz];exact zi ..)
  cases cuts with
  |nil=>
   have hG:f=a:=hG
   exact absurd A1 (hn _ (by omega))
  |cons d r=>
   obtain⟨g1,g2,g3,g4⟩:=hG
   have hd:d=a+(cs p).length:=by
    apply Decidable.byContradiction
    intro hne
    by_cases h:d < a+(cs p).length
    ·exact no d g1 h g2
    ·exact g3 _ (by omega) (by omega) A1
   subst hd
   show strSub x a (a+(cs p).length)::StrLaws.partsFrom x y.length (a+(cs p).length+y.length) r=p::q::ps
   rw[Kg hy ps q r _ f (fun z hz=>hc z (zo _ hz)) (by rw[g8];omega) (by rw[<-kP,e1,g8,List.drop_left]) g4 hn]
   congr 1
   refine u9 ?_
   show (strSub x a (a+(cs p).length)).cps.toList=_
   rw[StrLaws.strSub_toList]
   show ((cs x).drop a).take (a+(cs p).length - a)=_
   rw[hx,show a+(cs p).length - a=(cs p).length by omega,List.take_left]
theorem aa5 (x:Str):1<=Builtin.Str.strKind x:=by
 unfold Builtin.Str.strKind
 split
 ·exact zl _
 ·split<;>decide
theorem tW {y:Str} {c:Nat} {y':List Nat} (hy:cs y=c::y') (hk:Builtin.Str.strKind y=1) (p:Str) (ps:LS_) (hc:∀ q∈p::ps,c∉cs q):Txt.split (Txt.join y (p::ps)) y=p::ps:=by
 have ej:Txt.join y (p::ps)=Str.join y (p::ps):=StrLaws.glued_eq_join y _
 rw[ej]
 have hl:1<=y.length:=by rw[g8,hy];simp
 generalize hx:Str.join y (p::ps)=x
 obtain⟨f,hG,hn⟩:=StrLaws.occ_tight x y hl
 have key:=Kg (x:=x) hy ps p _ 0 f hc (QP _) (by rw[hx];rfl) hG hn
 unfold Txt.split
 split
 ·rename_i h
  rw[ke,ZY,ZY] at h
  have:=aa5 x
  have h:x.length < y.length:=by omega
  cases ps with
  |nil=>rw[<-hx];rfl
  |cons q ps=>
   rw[<-hx,Qc,eN,eN] at h
   omega
 ·split
  ·rename_i h
   rw[List.isEmpty_iff.mp h] at key
   have key:[strSub x 0 x.length]=p::ps:=key
   rw[StrLaws.sub_whole] at key
   exact key
  ·rw[StrLaws.partsBetween_eq]
   exact key
theorem adJ {a b:Str} {c:Nat} (h:c∉cs a):Txt.partition (a++(⟨#[c]⟩++b)) ⟨#[c]⟩=(a,⟨#[c]⟩,b):=by
 have ex:cs (a++(⟨#[c]⟩++b))=cs a++c::cs b:=by rw[eU,eU];rfl
 generalize a++(⟨#[c]⟩++b)=x at ex
 have hA:StrLaws.At x ⟨#[c]⟩ x.length (cs a).length:=aa4 (r:=cs b) (by rw[ex,List.drop_left];rfl) (by rw[ex,zw];omega)
 rcases partition_whole x ⟨#[c]⟩ with⟨_,hn⟩|⟨i,hp,hi,hn⟩
 ·exact absurd hA (hn _)
 ·have e1:i=(cs a).length:=by
   have h1:¬ (cs a).length < i:=fun z=>hn _ z hA
   have h2:¬ i < (cs a).length:=fun z=>by
    have:=(StrLaws.subAt_one x c i).mp hi
    have this:(cs x)[i]?=some c:=this
    rw[ex,qa z] at this
    exact h (ky this)
   omega
  subst e1
  rw[hp]
  have e2:strSub x 0 (cs a).length=a:=u9 (by
   show (strSub x 0 _).cps.toList=_
   rw[StrLaws.strSub_toList]
   show ((cs x).drop 0).take _=_
   rw[ex,List.drop_zero,Nat.sub_zero,List.take_left])
  have e3:strSub x ((cs a).length+(⟨#[c]⟩:Str).length) x.length=b:=u9 (by
   show (strSub x _ _).cps.toList=_
   rw[StrLaws.strSub_toList]
   show ((cs x).drop ((cs a).length+1)).take _=_
   rw[g8,ex,<-kP,List.drop_left]
   show (cs b).take _=_
   rw[jI]
   rw[zw,Zp]
   show _<=(cs a).length+((cs b).length+1) - ((cs a).length+1)
   omega)
  rw[e2,e3]
theorem Ys {c:Nat} {s:Str} (h:c∈cs s):Nk ⟨#[c]⟩ s=true:=by
 unfold Nk
 obtain⟨i,hi⟩:=(mem_iff_at s c).mp h
 rcases StrLaws.occ_head s ⟨#[c]⟩ 1 (zl 1) with⟨h0,hn⟩|⟨i,r,h0,_,_⟩
 ·exact absurd hi (hn i)
 ·rw[h0];rfl
theorem R9 {x:Str} {n:Nat} (h:n<=x.length):cs (Txt.slice x (some (n:Int)) none)=(cs x).drop n:=by
 rw[slice_from_eq (b:=x.length) (by omega) (by omega) rfl]
 show ((cs x).drop ((n:Int).toNat)).take _=_
 rw[Int.toNat_natCast,jI (by rw[qq,<-g8];omega)]
theorem aa6 {x:Str} {n:Nat} (h:n<=x.length):cs (Txt.slice x none (some (n:Int)))=(cs x).take n:=by
 have:=slice_closes_to (x:=x) (j:=(n:Int)) ⟨by omega,by rw[show x.cps.toList.length=x.length by simp[Str.length]];omega⟩
 rw[eq_of_beq this]
 show ((cs x).drop 0).take _=_
 simp
theorem aa7 (x:Str):chars x=(cs x).map fun c=>⟨#[c]⟩:=rfl
theorem ail {x:Str} {i:Int} (h:In x.length i):∃ c∈cs x,ch x i=⟨#[c]⟩:=by
 have:=U6 (xs:=cs x) (i:=i) (by rw[<-g8];exact h)
 refine⟨_,this,?_⟩
 unfold ch at'
 rfl
theorem xO:∀ (y p:Str) (ps:LS_),cs (Txt.join y (p::ps))=cs p++ps.flatMap fun q=>cs y++cs q:=by
 intro y p ps
 rw[show Txt.join y (p::ps)=Str.join y (p::ps) from StrLaws.glued_eq_join y _]
 induction ps generalizing p with
 |nil=>simp[Str.join]
 |cons q ps ih=>rw[Qc,eU,eU,ih,Kb,JI,JI]
end P1
end
section
set_option maxHeartbeats 1000000
namespace P1
open PySem PySem.Spec PyProof.Rows L2 S1 S6
section
variable {α:Type} [Inhabited α]
end
section
variable {α:Type} {e:α->Dt} [Kys e]
end
end P1
end
section
set_option synthInstance.maxSize 100000
namespace G05
open PySem PySem.Spec PyProof.Rows L2 P1
noncomputable section
abbrev LD_:=List P1.Dt
abbrev jF:Type:=Str×Str
abbrev oY:jF->Dt:=Fl eS eS
abbrev aG:Type:=Str×(List jF)
abbrev aF:aG->Dt:=Fl eS (eT oY)
abbrev aa8:Type:=Int×Str
def top (i:Nat):Stmt:=PySem.Challenge.pw_onefolk_k05_whole_books_and_texts.main.body.getD i (.Pass ⟨0,0,0,0⟩)
abbrev xP:Stmt:=top 30
abbrev rJ:Stmt:=top 31
abbrev uH:Stmt:=top 32
abbrev qj:Stmt:=top 33
abbrev ql:Stmt:=top 34
abbrev oA:Stmt:=top 35
abbrev gH:Stmt:=top 21
abbrev xQ:Stmt:=top 6
abbrev sS:Stmt:=top 15
abbrev Ax:Stmt:=top 13
abbrev Ay:Stmt:=top 14
abbrev oF:Stmt:=top 18
abbrev sU:Stmt:=top 7
abbrev uI:Stmt:=top 17
abbrev DW:Stmt:=top 16
abbrev Az:Stmt:=top 19
abbrev xT:Stmt:=top 24
abbrev uJ:Stmt:=top 27
abbrev rQ:Stmt:=top 37
abbrev iW:Stmt:=top 36
abbrev qm:Stmt:=top 22
abbrev oG:Stmt:=top 40
abbrev xU:Stmt:=top 8
abbrev DX:Stmt:=top 26
abbrev pH:Stmt:=top 28
abbrev rR:Stmt:=top 38
abbrev xV:Stmt:=top 25
abbrev Ba:Stmt:=top 20
abbrev oH:Stmt:=top 39
abbrev Kh:Stmt:=top 41
def BJ:Ev->Option Out:=(aM (aM (setG 2 (b2 nj (b2 dh (b2 uY (gv 2) (cB (.int 69621))) (gv 3)) (cB (.int 2147483647)))) eE) (qL [3]))
def xW:Ev->Option Out:=(aM (wQ (qK Y5 (gv 1) (dZ nq (ao (gv 0) aO))) (aM (dO (b2 jr (gv 0) (gv 1))) eE) eE) (aM (setG 2 (b2 nj (b2 uY (cB (.int 48271)) (b2 dh (b2 dh (b2 uY (gv 1) (gv 1)) (b2 uY (cB (.int 7)) (gv 1))) (cB (.int 11)))) (cB (.int 2147483647)))) (aM (yL (itF (Fj (gv 0) iM (lq (cB (.int 3))))) (sO 3) BJ) (aM (dO (gv 2)) eE))))
def ig:List Bx->Option Bx:=fG 4 xW
def qW:Ev->Option Out:=(aM (aM (setG 3 (b2 nj (b2 dh (b2 dh (b2 uY (gv 3) (b2 dh (b2 nj (gv 3) (cB (.int 65521))) (cB (.int 40487)))) (b2 uY (cB (.int 7)) (gv 5))) (cB (.int 5))) (cB (.int 1999999973)))) (aM (Z1 2 (b2 jr (dZ yK (ao (gv 3) (ao (b2 nj (gv 4) (cB (.int 1000000))) aO))) (dZ Z0 (ao (b2 gtB (gv 4) (cB (.int 0))) aO)))) (aM (setG 4 (b2 yq (gv 4) (cB (.int 1000000)))) eE))) (qL [5]))
def rK:Ev->Option Out:=(aM (setG 2 (dZ yK aO)) (aM (setG 3 (b2 nj (b2 uY (b2 dh (b2 nj (gv 0) (cB (.int 1999999973))) (cB (.int 31))) (cB (.int 765432101))) (cB (.int 1999999973)))) (aM (setG 4 (cB (.int 0))) (aM (wQ (G4 (qK Y5 (gv 0) (cB (.int 0))) (qK geB (gv 0) (b2 acK (cB (.int 10)) (cB (.int 18))))) (aM (aM (setG 4 (dZ X5 (ao (gv 0) aO))) eE) (qL [])) (aM eE (qL []))) (aM (yL (Ux (ao (gv 1) aO)) (sO 5) qW) (aM (O6 2) eE))))))
def dG:List Bx->Option Bx:=fG 6 rK
def tY:Ev->Option Out:=(aM (aM (setG 7 (b2 jr (gv 2) (b2 nj (b2 dh (gv 6) (b2 jr (gv 0) (cB (.int 2)))) (cB (.int 15))))) (aM (setG 8 (b2 dh (b2 dh (Fj (gv 3) iM (lq (gv 4))) (gv 7)) (Fj (gv 3) (lq (gv 4)) iM))) (aM (wQ (qK eqB (b2 nj (b2 jr (gv 0) (cB (.int 3))) (cB (.int 3))) (cB (.int 1))) (aM (aM (setG 8 (b2 uY (b2 jr (gv 2) (b2 yq (gv 6) (cB (.int 8)))) (b2 dh (cB (.int 1)) (b2 nj (gv 6) (cB (.int 8)))))) eE) (qL [])) (aM eE (qL []))) (aM (Z1 5 (gv 8)) eE)))) (qL [6,7,8]))
def uK:Ev->Option Out:=(aM (setG 2 (cB (.str "abcdefghijklmnopqrstuvwxyz"))) (aM (setG 3 (b1 (yr "") (fD (Ux (ao (b2 nj (b2 jr (gv 0) (cB (.int 0))) (cB (.int 6))) aO)) (sO 2) rZ (b2 jr (gv 0) (b2 nj (b2 yq (b2 jr (gv 1) (gv 2)) (cB (.int 40))) (cB (.int 26)))) [2,0] 1))) (aM (setG 4 (b2 nj (b2 jr (gv 0) (cB (.int 1))) (b2 dh (dZ nq (ao (gv 3) aO)) (cB (.int 1))))) (aM (setG 5 (dZ yK aO)) (aM (yL (Ux (ao (gv 1) aO)) (sO 6) tY) (aM (O6 5) eE))))))
def lX:List Bx->Option Bx:=fG 9 uK
def uL:Ev->Option Out:=(aM (aM (setG 3 (b2 dh (gv 3) (b2 jr (gv 1) (b2 nj (b2 yq (gv 0) (b2 dh (cB (.int 7)) (b2 uY (cB (.int 5)) (gv 4)))) (dZ nq (ao (gv 1) aO)))))) eE) (qL [4]))
def qp:Ev->Option Out:=(aM (setG 3 (cB (.str ""))) (aM (yL (Ux (ao (b2 dh (cB (.int 1)) (b2 nj (gv 0) (gv 2))) aO)) (sO 4) uL) (aM (dO (gv 3)) eE)))
def eV:List Bx->Option Bx:=fG 5 qp
def uM:Ev->Option Out:=(aM (aM (setG 4 (cB (.str "abcdefghijklmnopqrstuvwxyz"))) (aM (setG 5 (aY 3 eV (ao (b2 jr (gv 1) (b2 dh (cB (.int 1)) (b2 uY (cB (.int 2)) (gv 3)))) (ao (gv 4) (ao (b2 jr (dZ yK (ao (cB (.int 2)) (ao (cB (.int 8)) aO))) (b2 nj (b2 yq (b2 jr (gv 1) (b2 dh (cB (.int 1)) (b2 uY (cB (.int 2)) (gv 3)))) (cB (.int 999))) (cB (.int 2)))) aO))))) (aM (Z5 2 (b1 wO (aY 3 eV (ao (b2 jr (gv 1) (b2 dh (cB (.int 2)) (b2 uY (cB (.int 2)) (gv 3)))) (ao (b1 wO (b2 dh (gv 4) (cB (.str "0123456789")))) (ao (b2 jr (dZ yK (ao (cB (.int 3)) (ao (cB (.int 12)) aO))) (b2 nj (b2 yq (b2 jr (gv 1) (b2 dh (cB (.int 2)) (b2 uY (cB (.int 2)) (gv 3)))) (cB (.int 999))) (cB (.int 2)))) aO))))) (gv 5)) eE))) (qL [3,4,5]))
def qt:Ev->Option Out:=(aM (setG 2 (fun _=>some (.m [] none))) (aM (yL (Ux (ao (b2 nj (b2 jr (gv 1) (cB (.int 0))) (cB (.int 9))) aO)) (sO 3) uM) (aM (dO (dZ qP (ao (gv 0) (ao (dZ uZ (ao (fD (Jk (dZ JQ (ao (gv 2) aO))) (sO 1) rZ (dZ qP (ao (gv 1) (ao (b2 Nv (gv 0) (gv 1)) aO))) [2] 1) aO)) aO)))) eE)))
def iu:List Bx->Option Bx:=fG 6 qt
def tZ:Ev->Option Out:=(aM (aM (setG 7 (b2 jr (gv 4) (b2 nj (b2 dh (b2 uY (cB (.int 7)) (gv 6)) (b2 jr (gv 3) (cB (.int 7)))) (cB (.int 15))))) (aM (Z1 5 (b1 wO (aY 2 iu (ao (gv 7) (ao (b1 wO (aY 2 dG (ao (b1 wO (aY 2 ig (ao (gv 0) (ao (b1 wO (b2 dh (b2 dh (gv 1) (cB (.int 1))) (gv 6))) aO)))) (ao (cB (.int 17)) aO)))) aO))))) eE)) (qL [6,7]))
def oJ:Ev->Option Out:=(aM (setG 3 (aY 2 dG (ao (b1 wO (aY 2 ig (ao (gv 0) (ao (gv 1) aO)))) (ao (cB (.int 8)) aO)))) (aM (setG 4 (aY 2 lX (ao (gv 3) (ao (cB (.int 15)) aO)))) (aM (setG 5 (dZ yK aO)) (aM (yL (Ux (ao (b2 nj (b2 jr (gv 3) (cB (.int 6))) (b2 dh (gv 2) (cB (.int 1)))) aO)) (sO 6) tZ) (aM (dO (dZ uZ (ao (gv 5) aO))) eE)))))
def fO:List Bx->Option Bx:=fG 8 oJ
def WT:Ev->Option LS_:=Rv (Jk (gv 0)) (sO 0) rZ (b2 jr (gv 0) (cB (.int 0))) [] 1
def adK:Ev->Option Out:=fun ρ=>(Vj 2 3 WT (itF (gv 1)) (b2 jr (gv 3) (cB (.int 0))) (fun _=>none) ρ).bind fun r=>match r with
 |.inl ρ'=>aM (dO (b2 dh (gv 0) (gv 1))) eE ρ'
 |.inr _=>none
def Kl:Ev->Option Dt:=fun ρ=>(Vj 2 3 WT (itF (gv 1)) (b2 jr (gv 3) (cB (.int 0))) (rzX (fun _=>true) (b2 jr (gv 3) (cB (.int 0)))) ρ).bind fun r=>match r with
 |.inl _=>none
 |.inr d=>some d
def aU:List Bx->Option Bx:=fG 4 adK
def qX:Ev->Option Out:=(aM (dO (Mz (G5 is_tuple (gv 0)) (b2 eqB (dZ nq (ao (gv 0) aO)) (gv 1)))) eE)
def jt:List Bx->Option Bx:=fG 2 qX
def sV:Ev->Option Out:=(aM (dO (Mz (G5 lF (gv 0)) (Mz (ch3 leB leB (cB (.int 1)) (dZ nq (ao (gv 0) aO)) (gv 2)) (dZ allB (ao (fD (Jk (gv 0)) (sO 1) rZ (b2 inF (gv 1) (gv 0)) [1] 1) aO))))) eE)
def gA:List Bx->Option Bx:=fG 3 sV
def Bb:Ev->Option Out:=(aM (dO (aY 3 gA (ao (gv 0) (ao (cB (.str "abcdefghijklmnopqrstuvwxyz")) (ao (cB (.int 8)) aO))))) eE)
def jG:List Bx->Option Bx:=fG 1 Bb
def Bc:Ev->Option Out:=(aM (dO (aY 3 gA (ao (gv 0) (ao (b1 wO (b2 dh (cB (.str "abcdefghijklmnopqrstuvwxyz")) (cB (.str "0123456789")))) (ao (cB (.int 12)) aO))))) eE)
def qY:List Bx->Option Bx:=fG 1 Bc
def oK:Ev->Option Out:=(aM (dO (Mz (aY 2 jt (ao (gv 0) (ao (cB (.int 2)) aO))) (Mz (aY 1 jG (ao (b2 jr (gv 0) (cB (.int 0))) aO)) (aY 1 qY (ao (b2 jr (gv 0) (cB (.int 1))) aO))))) eE)
def fP:List Bx->Option Bx:=fG 1 oK
def sW:Ev->Option Out:=(aM (dO (dZ allB (ao (fD (Ux (ao (b2 subB (dZ nq (ao (gv 0) aO)) (cB (.int 1))) aO)) (sO 1) rZ (b2 Y5 (b2 jr (gv 0) (gv 1)) (b2 jr (gv 0) (b2 dh (gv 1) (cB (.int 1))))) [0] 1) aO))) eE)
def j7:List Bx->Option Bx:=fG 1 sW
def uN:Ev->Option Out:=(aM (wQ (G4 (Bm (tV (G5 is_tuple (gv 0)))) (Bm (tV (dZ allB (ao (fD (Jk (gv 0)) (sO 0) rZ (b1 wO (aY 1 fP (ao (gv 0) aO))) [] 1) aO))))) (aM (dO (cB (.bl false))) eE) eE) (aM (dO (aY 1 j7 (ao (b1 wO (fD (Jk (gv 0)) (yV 2 (gW (sO 0) (gW (sO 1) yU))) rZ (gv 0) [] 2)) aO))) eE))
def lY:List Bx->Option Bx:=fG 1 uN
def DY:Ev->Option Out:=(aM (dO (Mz (aY 2 jt (ao (gv 0) (ao (cB (.int 2)) aO))) (Mz (aY 1 jG (ao (b2 jr (gv 0) (cB (.int 0))) aO)) (aY 1 lY (ao (b2 jr (gv 0) (cB (.int 1))) aO))))) eE)
def lu:List Bx->Option Bx:=fG 1 DY
def Bd:Ev->Option Out:=(aM (wQ (G4 (Bm (tV (G5 is_tuple (gv 0)))) (Bm (tV (dZ allB (ao (fD (Jk (gv 0)) (sO 0) rZ (b1 wO (aY 1 lu (ao (gv 0) aO))) [] 1) aO))))) (aM (dO (cB (.bl false))) eE) eE) (aM (dO (b2 eqB (Wm (setC (Jk (gv 0)) (fD (Jk (gv 0)) (sO 0) rZ (b2 jr (gv 0) (cB (.int 0))) [] 1))) (dZ nq (ao (gv 0) aO)))) eE))
def pI:List Bx->Option Bx:=fG 1 Bd
def xX:Ev->Option Out:=(aM (X6 (yV 2 (gW (sO 1) (gW (sO 2) yU))) (gv 0)) (aM (wQ (Bm (tV (gv 2))) (aM (dO (Hh (rP (hoF (gv 1)) (rP (cB (.str ":")) Yn)))) eE) eE) (aM (setG 3 (b1 (yr ", ") (fD (Jk (gv 2)) (yV 2 (gW (sO 0) (gW (sO 1) yU))) rZ (Hh (rP (hoF (gv 0)) (rP (cB (.str " ")) (rP (hoF (gv 1)) Yn)))) [] 2))) (aM (dO (Hh (rP (hoF (gv 1)) (rP (cB (.str ": ")) (rP (hoF (gv 3)) Yn))))) eE))))
def ju:List Bx->Option Bx:=fG 4 xX
def uO:Ev->Option Out:=(aM (dO (b1 (yr "\n") (fD (Jk (gv 0)) (sO 0) rZ (b1 wO (aY 1 ju (ao (gv 0) aO))) [] 1))) eE)
def bA:List Bx->Option Bx:=fG 1 uO
def gD:List Bx->Option Bx:=fun bs=>match zA 4 Kl bs with
 |some d=>some (.z d)
 |none=>(aU bs).bind fun _=>some (.z .non)
def jH:Ev->Option Out:=(aM (aM (wQ (O1 (qK yp (gv 7) (dZ qP aO)) (qK yp (aY 2 gD (ao (gv 0) (ao (gv 7) aO))) (b2 jr (b2 jr (gv 7) (cB (.int 0))) (cB (.int 0))))) (aM (dO (cB (.bl false))) eE) eE) eE) (qL [7]))
def iY:Ev->Option Out:=(aM (setG 3 (dZ yK (ao (b1 wO (Fj (gv 0) iM (lq (gv 1)))) (ao (b1 wO (Fj (gv 0) (lq (gv 1)) (lq (gv 2)))) (ao (b1 wO (Fj (gv 0) (lq (gv 2)) iM)) aO))))) (aM (setG 4 (aY 2 aU (ao (b1 wO (aY 2 aU (ao (b2 jr (gv 3) (cB (.int 0))) (ao (b2 jr (gv 3) (cB (.int 1))) aO)))) (ao (b2 jr (gv 3) (cB (.int 2))) aO)))) (aM (setG 5 (aY 2 aU (ao (b2 jr (gv 3) (cB (.int 0))) (ao (b1 wO (aY 2 aU (ao (b2 jr (gv 3) (cB (.int 1))) (ao (b2 jr (gv 3) (cB (.int 2))) aO)))) aO)))) (aM (wQ (G4 (qK yp (gv 4) (gv 0)) (G4 (qK yp (gv 5) (gv 0)) (qK Hj (aY 1 pI (ao (gv 4) aO)) (cB (.bl true))))) (aM (dO (cB (.bl false))) eE) eE) (aM (setG 6 (fD (Jk (gv 3)) (sO 0) (qK yp (gv 0) (dZ qP aO)) (b1 wO (aY 1 bA (ao (gv 0) aO))) [] 1)) (aM (wQ (qK yp (aY 1 bA (ao (gv 0) aO)) (b1 (yr "\n") (gv 6))) (aM (dO (cB (.bl false))) eE) eE) (aM (MF 3 (sO 7) jH) (aM (dO (cB (.bl true))) eE))))))))
def bV:List Bx->Option Bx:=fG 8 iY
def qu:Ev->Option Out:=(aM (wQ (G4 (Bm (tV (aY 1 jG (ao (gv 1) aO)))) (qK acM (gv 1) (fD (Jk (gv 0)) (sO 0) rZ (b2 jr (gv 0) (cB (.int 0))) [] 1))) (aM noG eE) eE) (aM (dO (dZ uZ (ao (fD (Jk (gv 0)) (sO 1) (qK yp (b2 jr (gv 1) (cB (.int 0))) (gv 0)) (gv 1) [1] 1) aO))) eE))
def dH:List Bx->Option Bx:=fG 2 qu
def uc:Ev->Option Out:=(aM (aM (setG 4 (b2 jr (b2 jr (gv 2) (b2 nj (b2 yq (b2 jr (gv 1) (b2 nj (gv 3) (dZ nq (ao (gv 1) aO)))) (b2 dh (cB (.int 1)) (b2 yq (gv 3) (dZ nq (ao (gv 1) aO))))) (dZ nq (ao (gv 2) aO)))) (cB (.int 0)))) (aM (setG 2 (aY 2 dH (ao (gv 2) (ao (gv 4) aO)))) (aM (wQ (G4 (qK inF (gv 4) (fD (Jk (gv 2)) (sO 0) rZ (b2 jr (gv 0) (cB (.int 0))) [] 1)) (qK yp (dZ nq (ao (gv 2) aO)) (b2 subB (b2 subB (dZ nq (ao (gv 0) aO)) (cB (.int 1))) (gv 3)))) (aM (dO (cB .non)) eE) eE) eE))) (qL [3,4]))
def oM:Ev->Option Out:=(aM (setG 2 (gv 0)) (aM (yL (Ux (ao (dZ nq (ao (gv 0) aO)) aO)) (sO 3) uc) (aM (dO (gv 2)) eE)))
def dU:List Bx->Option Bx:=fG 5 oM
def xY:Ev->Option Out:=(aM (wQ (Bm (tV (G5 lF (gv 0)))) (aM noG eE) eE) (aM (dO (ifV (tV (gv 0)) (b2 Ka (gv 0) (cB (.str "\n"))) (dZ yK aO))) eE))
def iw:List Bx->Option Bx:=fG 1 xY
def Ed:Ev->Option Out:=(aM (X6 (yV 3 (gW (sO 1) (gW (sO 2) (gW (sO 3) yU)))) (b2 aaI (gv 0) (cB (.str ":")))) (aM (wQ (Bm (tV (gv 2))) (aM (dO (cB .non)) eE) eE) (aM (wQ (Bm (tV (gv 3))) (aM (setG 4 (dZ qP aO)) eE) (aM (wQ (qK eqB (b2 jr (gv 3) (cB (.int 0))) (cB (.str " "))) (aM (setG 4 (dZ uZ (ao (fD (Jk (b2 Ka (Fj (gv 3) (lq (cB (.int 1))) iM) (cB (.str ", ")))) (sO 0) rZ (dZ uZ (ao (b2 Ka (gv 0) (cB (.str " "))) aO)) [] 1) aO))) eE) (aM (dO (cB .non)) eE)) eE)) (aM (setG 5 (dZ qP (ao (gv 1) (ao (gv 4) aO)))) (aM (dO (b1 wO (ifV (tV (aY 1 lu (ao (gv 5) aO))) (gv 5) (cB .non)))) eE)))))
def jJ:List Bx->Option Bx:=fG 6 Ed
def uP:Ev->Option Out:=(aM (setG 1 (dZ yK aO)) (aM (RV 2 1 5 3 4 (enF (ao (b1 wO (aY 1 iw (ao (gv 0) aO))) aO)) (aY 1 jJ (ao (gv 4) aO)) (qK isB (gv 5) (cB .non)) (b2 jr (gv 5) (cB (.int 0)))) (aM (dO (dZ uZ (ao (gv 1) aO))) eE)))
def cL:List Bx->Option Bx:=fG 6 uP
def WW:Dt->Bool
 |.int i=>decide (0<=i/\i < 100000)
 |_=>false
def Km:Ev->Option Dt:=aaV (setG 1 (dZ yK aO)) (fun ρ=>(Kc 2 1 5 3 4 (enF (ao (b1 wO (aY 1 iw (ao (gv 0) aO))) aO)) (aY 1 jJ (ao (gv 4) aO)) (qK isB (gv 5) (cB .non)) (b2 jr (gv 5) (cB (.int 0))) (rzX WW (gv 3)) ρ).bind fun q=>match q with
 |.inl _=>none
 |.inr d=>some d)
def aa9:Ev->Option Bx:=b2 dh (b2 dh (gv 0) (cB (.str "\n"))) (gv 0)
def jX:List Bx->Option Bx:=fun bs=>(aa9 (bs.map some++List.replicate (2 - bs.length) none)).bind fun a=>(zD a).bind fun x=>match zA 6 Km [.z x] with
 |some d=>some (.z d)
 |none=>(cL [.z x]).bind fun _=>some (.z .non)
def xZ:Ev->Option Out:=(aM (setG 1 (ifV (tV (G5 lF (gv 0))) (aY 1 jJ (ao (gv 0) aO)) (cB .non))) (aM (wQ (qK isB (gv 1) (cB .non)) (aM noG eE) eE) (aM (dO (gv 1)) eE)))
def lZ:List Bx->Option Bx:=fG 2 xZ
def Ef:Ev->Option Out:=(aM (aM (wQ (qK eqB (gv 2) (gv 1)) (aM (dO (gv 3)) eE) eE) eE) (qL [2,3]))
def Bf:Ev->Option Out:=(aM (yL (itF (b2 jr (gv 0) (cB (.int 1)))) (yV 2 (gW (sO 2) (gW (sO 3) yU))) Ef) (aM (dO (cB .non)) eE))
def pJ:List Bx->Option Bx:=fG 4 Bf
def oN:Ev->Option Out:=(aM (setG 2 (b2 jr (gv 0) (gv 1))) (aM (setG 3 (aY 1 ju (ao (gv 2) aO))) (aM (setG 4 (aY 1 lZ (ao (gv 3) aO))) (aM (wQ (G4 (qK yp (gv 4) (gv 2)) (G4 (qK Hj (aY 1 lu (ao (gv 4) aO)) (cB (.bl true))) (G4 (qK yp (aY 1 bA (ao (dZ qP (ao (gv 2) aO)) aO)) (gv 3)) (qK yp (aY 1 cL (ao (gv 3) aO)) (dZ qP (ao (gv 2) aO)))))) (aM (dO (cB (.bl false))) eE) eE) (aM (wQ (qK yp (b2 jr (b2 Ka (aY 1 bA (ao (gv 0) aO)) (cB (.str "\n"))) (gv 1)) (gv 3)) (aM (dO (cB (.bl false))) eE) eE) (aM (wQ (Bm (tV (dZ allB (ao (fD (Jk (b2 jr (gv 2) (cB (.int 1)))) (yV 2 (gW (sO 1) (gW (sO 2) yU))) rZ (b2 eqB (aY 2 pJ (ao (gv 0) (ao (gv 1) aO))) (gv 2)) [4] 2) aO)))) (aM (dO (cB (.bl false))) eE) eE) (aM (setG 5 (aY 2 dH (ao (gv 0) (ao (b2 jr (gv 2) (cB (.int 0))) aO)))) (aM (wQ (G4 (qK yp (gv 5) (b2 dh (Fj (gv 0) iM (lq (gv 1))) (Fj (gv 0) (lq (b2 dh (gv 1) (cB (.int 1)))) iM))) (qK yp (aY 2 aU (ao (gv 5) (ao (dZ qP (ao (gv 2) aO)) aO))) (b2 dh (b2 dh (Fj (gv 0) iM (lq (gv 1))) (Fj (gv 0) (lq (b2 dh (gv 1) (cB (.int 1)))) iM)) (dZ qP (ao (gv 2) aO))))) (aM (dO (cB (.bl false))) eE) eE) (aM (setG 6 (b2 Ka (aY 1 bA (ao (gv 0) aO)) (cB (.str "\n")))) (aM (dO (b2 eqB (aY 1 bA (ao (gv 5) aO)) (b1 (yr "\n") (b2 dh (Fj (gv 6) iM (lq (gv 1))) (Fj (gv 6) (lq (b2 dh (gv 1) (cB (.int 1)))) iM))))) eE))))))))))
def dW:List Bx->Option Bx:=fG 7 oN
def WX:Ev->Option Out:=(aM (setG 1 (aY 3 fO (ao (gv 0) (ao (cB (.int 0)) (ao (cB (.int 12)) aO))))) (aM (setG 2 (aY 2 dG (ao (b1 wO (aY 2 ig (ao (gv 0) (ao (cB (.int 13)) aO)))) (ao (cB (.int 14)) aO)))) (aM (X6 (WL 2 (gW (sO 3) (gW (sO 4) yU))) (b1 wO (dZ Gj (ao (dZ yK (ao (b2 nj (b2 jr (gv 2) (cB (.int 0))) (b2 dh (dZ nq (ao (gv 1) aO)) (cB (.int 1)))) (ao (b2 nj (b2 jr (gv 2) (cB (.int 1))) (b2 dh (dZ nq (ao (gv 1) aO)) (cB (.int 1)))) aO))) aO)))) (aM (wQ (G4 (Bm (tV (aY 3 bV (ao (gv 1) (ao (gv 3) (ao (gv 4) aO)))))) (qK yp (aY 2 dU (ao (gv 1) (ao (b1 wO (Fj (gv 2) (lq (cB (.int 2))) iM)) aO))) (dZ qP aO))) (aM (dO (cB (.bl false))) eE) eE) (aM (wQ (G4 (qK yp (aY 1 cL (ao (b1 wO (aY 1 bA (ao (gv 1) aO))) aO)) (gv 1)) (qK yp (aY 1 bA (ao (dZ qP aO) aO)) (cB (.str "")))) (aM (dO (cB (.bl false))) eE) eE) (aM (setG 5 (aY 1 bA (ao (gv 1) aO))) (aM (wQ (O1 (qK yp (gv 1) (dZ qP aO)) (O1 (qK Y5 (dZ nq (ao (gv 5) aO)) (cB (.int 2000))) (qK yp (aY 1 jX (ao (gv 5) aO)) (dZ nq (ao (gv 1) aO))))) (aM (dO (cB (.bl false))) eE) eE) (aM (dO (dZ allB (ao (fD (Ux (ao (dZ nq (ao (gv 1) aO)) aO)) (sO 1) rZ (b1 wO (aY 2 dW (ao (gv 0) (ao (gv 1) aO)))) [1] 1) aO))) eE))))))))
def uQ:List Bx->Option Bx:=fG 6 WX
end
end G05
end
section
set_option synthInstance.maxSize 100000
namespace G05
open PySem PySem.Spec PyProof.Rows L2 P1
abbrev zB:Stmt:=match top 2 with
 |.ClassDef _ _ _ b _ _ _ _ _ _ _=>b.getD 0 (.Pass ⟨0,0,0,0⟩)
 |s=>s
abbrev Ho:Stmt:=match top 3 with
 |.ClassDef _ _ _ b _ _ _ _ _ _ _=>b.getD 0 (.Pass ⟨0,0,0,0⟩)
 |s=>s
section
variable {P:Program} {w:World} {K:FG_} {mg:Str->Option Value} {base:Heap} {C FE fI:Addr} {fdI:FuncData}
theorem adM:bD ["self", "name"] ["self", "name"] (aP zB):=nW
theorem adN (F:qI K "__init__" "NoName.__init__" zB fI fdI) (hx:TV K C fI veM "ValueError.__new__" = true) (Vi:setIn K C "name" = true) (hm:mg "FolkError" = some (.ref FE)) (hb:R0 K FE "ValueError.__init__") :
  bx P w K mg base fB 1 fI fdI ["self", "name"] (spI C "name" fun _=>True):=by
 refine Wz (k:=0) (fa:=cB (.str "this name is refused")) (ρ0:=fun _=>[none,none]) F adM JP hx Vi hm hb (by decide +kernel) rfl (fun v _=>⟨_,rfl,fun H e=>⟨rfl,fun i b z=>?_,fun i j c a b z=>?_,Same.refl H,fun i c a z=>?_⟩⟩) fun cdv A outer s H E X eX hr=>?_
 ·match i with
  |0=>cases z
  |1=>cases z
  |_+2=>cases z
 ·match i with
  |0=>cases z
  |1=>cases z
  |_+2=>cases z
 ·match i with
  |0=>cases z
  |1=>cases z
  |_+2=>cases z
 ·subst eX
  exact⟨rfl,j5,pv 0,pv 0,pv 1,by decide,rfl,rfl,rfl,rfl,rfl,_,rfl⟩
def rwI:V->Prop
 |.int i=>0<=i/\i < 100000
 |_=>False
def rwD:V->Ev
 |.int i=>[none,some (.z (.int i))]
 |_=>[none,none]
def adO:Ev->Option Bx:=Hh (rP (cB (.str "row ")) (rP (hoI (gv 1)) (rP (cB (.str " is refused")) Yn)))
theorem ain {i:Int} (h:0<=i/\i < 100000):∃ b,adO [none,some (.z (.int i))]=some b:=by
 have hl:=int_text_length_le10 (a:=i) (k:=5) (by decide) (by omega)
 have hl2:(Str.ofString (toString i)).length<=6:=by rw[PySem.ofString_length];exact hl
 have e:adO [none,some (.z (.int i))]=(if (Str.ofString "row " ++ (Str.ofString (toString i)++(Str.ofString " is refused" ++ Str.empty))).length<=100000 then some (.z (.str (Str.ofString "row " ++ (Str.ofString (toString i)++(Str.ofString " is refused" ++ Str.empty))))) else none):=by
  have e1:hoI (gv 1) [none,some (.z (.int i))]=some (.z (.str (toString i))):=zk h
  unfold adO Hh
  simp only[rP,e1]
  rfl
 have l4:(Str.ofString "row ").length=4:=by decide +kernel
 have l11:(Str.ofString " is refused" ++ Str.empty).length=11:=by decide +kernel
 refine⟨_,e.trans (zk ?_)⟩
 rw[strLen_append,strLen_append,l4,l11]
 omega
variable {D fJ:Addr} {fdJ:FuncData}
theorem agp:bD ["self", "row"] ["self", "row"] (aP Ho):=nW
theorem agq (F:qI K "__init__" "NoText.__init__" Ho fJ fdJ) (hx:TV K D fJ veM "ValueError.__new__" = true) (Vi:setIn K D "row" = true) (hm:mg "FolkError" = some (.ref FE)) (hb:R0 K FE "ValueError.__init__") :
  bx P w K mg base fB 1 fJ fdJ ["self", "row"] (spI D "row" rwI):=by
 refine Wz (k:=0) (fa:=adO) (ρ0:=rwD) (ok:=rwI) F agp JP hx Vi hm hb (by decide +kernel) rfl (fun v hv=>?_) fun cdv A outer s H E X eX hr=>?_
 ·cases v with
  |int i=>
   obtain⟨b,eb⟩:=ain hv
   refine⟨b,eb,fun H e=>⟨rfl,fun k b z=>?_,fun k j c a b z hc=>?_,Same.refl H,fun k c a z hc=>?_⟩⟩
   ·match k with
    |0=>cases z
    |1=>cases z;exact⟨_,rfl,by simp only[bH,Rep]⟩
    |_+2=>cases z
   ·match k with
    |0=>cases z
    |1=>cases z;cases hc
    |_+2=>cases z
   ·match k with
    |0=>cases z
    |1=>cases z;cases hc
    |_+2=>cases z
  |_=>exact False.elim hv
 ·subst eX
  exact⟨rfl,Jo (qg j5 (qg (aaY (aj 1)) (qg j5 PJ))),pv 0,pv 0,pv 1,by decide,rfl,rfl,rfl,rfl,rfl,_,rfl⟩
variable {Qd Vk f_c fQ jK:Addr} {N7 WY adQ gF jL:FuncData}
theorem N8:bD ["book", "other", "names", "row"] ["book", "other"] (aP gH):=nW
theorem aey (F:qI K "books_together" "books_together" gH Qd N7):bx P w K mg base fB 2 Qd N7 ["book", "other"] (iK K 2 aU):=by
 refine qJ (k:=1) (g:=adK) F N8 rfl rfl fun cdv A outer s H E hr=>?_
 have hu:=cg hr
 exact adG 2 3 PassesOwn.never rfl N8.nd (Ke 2 ["row"] (w6 [] []) rfl N8.nd (jA (aj 0)).run (fun _ _ _ _=>(bK 0 (by show List.Nodup (_++_);decide +kernel)).run) (fun _ _ _ _=>cH.run) (fun _ _ _ _=>(bQ (aj 0) aH).run) (dY)) (Je (aj 1)) (bQ (aj 3) aH) (au (bO (bf bZ (aj 0) (aj 1))) aR)
theorem aio (F:qI K "books_together" "books_together" gH Qd N7) (hx:TV K C fI veM "ValueError.__new__" = true) (hk:PySem.W.keepIn K (.ref C)=true) (Vl:bx P w K mg base fB 1 fI fdI ["self", "name"] (spI C "name" fun _=>True)) (hb:Binds K fdI ["self", "name"] []) (hm:mg "NoName" = some (.ref C)) :
  bx P w K mg base (Ww P w) 3 Qd N7 ["book", "other"] (spX K 2 (zA 4 Kl) C "name"):=by
 refine aew (k:=2) (gx:=Kl) F N8 rfl rfl fun cdv A outer s H E hr hxe hp=>?_
 have hu:=cg hr
 exact adH 2 3 hp rfl N8.nd (Ke 2 ["row"] (w6 [] []) rfl N8.nd (jA (aj 0)).run (fun _ _ _ _=>(bK 0 (by show List.Nodup (_++_);decide +kernel)).run) (fun _ _ _ _=>cH.run) (fun _ _ _ _=>(bQ (aj 0) aH).run) (dY)) (Je (aj 1)) (bQ (aj 3) aH) (R5 (R4 (okX:=fun _=>true) JP hx (by decide) hk Vl hb (hr.mono (by decide)) rfl hm hxe (bQ (aj 3) aH) (fun _ _ _ _ _ _=>trivial)))
theorem aez:bD ["text", "rows", "names", "at", "line", "row"] ["text"] (aP pH):=nW
theorem aip (F:qI K "read_book" "read_book" pH Vk WY) (mj:bx P w K mg base fB 1 fQ gF ["text"] (iK K 1 iw)) (mq:bx P w K mg base fB 6 jK jL ["text"] (iK K 1 jJ))
  (m_l:mg "lines_in" = some (.ref fQ)) (k_l:PySem.W.keepIn K (.ref fQ)=true) (b_l:Binds K gF ["text"] []) (m_r:mg "row_in" = some (.ref jK)) (k_r:PySem.W.keepIn K (.ref jK)=true) (b_r:Binds K jL ["text"] []) (Ko:mg "set" = none) (mC:mg "enumerate" = none)
  (hx:TV K D fJ veM "ValueError.__new__" = true) (hk:PySem.W.keepIn K (.ref D)=true) (Vl:bx P w K mg base fB 1 fJ fdJ ["self", "row"] (spI D "row" rwI)) (hb:Binds K fdJ ["self", "row"] []) (hm:mg "NoText" = some (.ref D)) :
  bx P w K mg base (Ww P w) 7 Vk WY ["text"] (spX K 1 (zA 6 Km) D "row"):=by
 refine aew (k:=6) (gx:=Km) F aez rfl rfl fun cdv A outer s H E hr hxe hp=>?_
 have hu:=cg hr
 have nd:=aez.nd
 exact aaW (bN 1 nd (tM aA)) (aaX 2 1 5 3 4 hp rfl nd rfl Ko (Rz rfl mC (ak (jW (aX mj (hr.mono (by decide)) rfl m_l k_l b_l (ak (aj 0) aA))) aA)) (aX mq (hr.mono (by decide)) rfl m_r k_r b_r (ak (aj 4) aA)) (cZ of_is (aj 5) wX (cD _)) (bQ (aj 5) aH) (bQ (aj 5) aH)
  (R5 (R4 (okX:=WW) JP hx (by decide) hk Vl hb (hr.mono (by decide)) rfl hm hxe (aj 3) (fun d v K H ho r=>by
   cases d<;>first|(cases ho;done)|skip
   rename_i i
   obtain rfl:v=.int i:=by simpa only[Rep] using r
   have ho:decide (0<=i/\i < 100000)=true:=ho
   exact (show 0<=i/\i < 100000 from JE ho)))))
theorem Sd:bD ["_law_book", "_law_part", "e"] ["_law_book", "_law_part"] (aP rQ):=nW
theorem abb (F:qI K "_law_again" "_law_again" rQ f_c adQ) (hk:PySem.W.keepIn K (.ref Qd)=true) (hbD:Binds K N7 ["book", "other"] []) (G:bx P w K mg base (Ww P w) 3 Qd N7 ["book", "other"] (fun vs H Q E=>iK K 2 aU vs H Q E\/spX K 2 (zA 4 Kl) C "name" vs H Q E)) (hm:mg "books_together" = some (.ref Qd))
  (hmC:mg "NoName" = some (.ref C)) (hex:PySem.W.exmOne K (.ref C) (.ref C)=some true) (hget:yu K C=true) (hfn:PySem.W.findIn K (.ref C) "name" = some none):bx P w K mg base fB 4 f_c adQ ["_law_book", "_law_part"] (iK K 2 gD):=by
 refine qI.ok (k:=3) F Sd (fun vs H Q E h=>h.1) fun cdv A outer s H vs Q E hr hsp=>?_
 have nd:=Sd.nd
 have hC2:∀ D,D∈[C]->yu K D=true/\PySem.W.findIn K (.ref D) "name" = some none:=fun D z=>by rw[List.mem_singleton.mp z];exact⟨hget,hfn⟩
 refine⟨_,(by exact (lQ (WK (C:=C) (iv:=2) (f:=Qd) rfl rfl nd rfl rfl rfl hmC hex (fun a=>wV (Ft (aaU (X:=Cx.inX _ a) (Cs:=[C]) hC2 (pv 2) rfl))) (IV (v:=.ref Qd) rfl hm rfl) G (hr.mono (by decide)) hk hbD (jY (pv 0) (jY (pv 1) tH))) (wV (Ft TX)))),?_⟩
 obtain⟨hl,bs,r,reps,no,er,q⟩:=hsp
 obtain⟨v1,v2,rfl⟩:∃ v1 v2,vs=[v1,v2]:=by
  match vs,hl with
  |[v1,v2],_=>exact⟨v1,v2,rfl⟩
 unfold gD at er
 split at er
 rotate_left
 ·obtain⟨b,eb,er⟩:=bind_some er
  cases er
  exact⟨rfl,v1,rfl,v2,rfl,.inl ⟨rfl,bs,b,reps,no,eb,fun v H' s' _ _=>q _ _ s' trivial (by simp only[bH,Rep])⟩⟩
 ·rename_i d ed
  cases er
  refine⟨rfl,v1,rfl,v2,rfl,.inr ⟨rfl,bs,d,reps,no,ed,fun dx v H' s' ex r'=>⟨rfl,dx,rfl,fun a na=>?_⟩⟩⟩
  have s4:Same H' (upd H' a (CxO a C dx)):=cF na
  exact⟨.ref a,rfl,a,C,dx,v,List.mem_singleton.mpr rfl,rfl,bC,s4 _ _ ex,q _ _ (s'.trans s4) trivial (Rep.kp (Kp.of s4) r')⟩
theorem Sg:bD ["_law_text", "e"] ["_law_text"] (aP rR):=nW
theorem abd (F:qI K "_law_twice" "_law_twice" rR f_c adQ) (hk:PySem.W.keepIn K (.ref Vk)=true) (hbD:Binds K WY ["text"] []) (G:bx P w K mg base (Ww P w) 7 Vk WY ["text"] (fun vs H Q E=>iK K 1 cL vs H Q E\/spX K 1 (zA 6 Km) D "row" vs H Q E)) (hm:mg "read_book" = some (.ref Vk))
  (hmD:mg "NoText" = some (.ref D)) (hex:PySem.W.exmOne K (.ref D) (.ref D)=some true) (hget:yu K D=true) (hfn:PySem.W.findIn K (.ref D) "row" = some none):bx P w K mg base fB 8 f_c adQ ["_law_text"] (iK K 1 jX):=by
 refine qI.ok (k:=7) F Sg (fun vs H Q E h=>h.1) fun cdv A outer s H vs Q E hr hsp=>?_
 have nd:=Sg.nd
 have hD2:∀ C,C∈[D]->yu K C=true/\PySem.W.findIn K (.ref C) "row" = some none:=fun C z=>by rw[List.mem_singleton.mp z];exact⟨hget,hfn⟩
 refine⟨_,(by exact (lQ (WK (C:=D) (iv:=1) (f:=Vk) rfl rfl nd rfl rfl rfl hmD hex (fun a=>wV (Ft (aaU (X:=Cx.inX _ a) (Cs:=[D]) hD2 (pv 1) rfl))) (IV (v:=.ref Vk) rfl hm rfl) G (hr.mono (by decide)) hk hbD (jY (bf bZ (bf bZ (aj 0) j5) (aj 0)).run tH)) (wV (Ft TX)))),?_⟩
 obtain⟨hl,bs,r,reps,no,er,q⟩:=hsp
 obtain⟨v1,rfl⟩:∃ v1,vs=[v1]:=by
  match vs,hl with
  |[v1],_=>exact⟨v1,rfl⟩
 obtain⟨a,ea,er1⟩:=bind_some er
 obtain⟨x,ex,er2⟩:=bind_some er1
 obtain rfl:a=.z x:=by
  cases a<;>first|(cases ex;done)|skip
  cases ex;rfl
 refine⟨rfl,H,_,.z x,bF.start reps no,ea,fun va H1 s1 _ ra=>?_⟩
 have rs:vL K H1 [.z x] [va]:=.cons ra .nil
 split at er2
 rotate_left
 ·obtain⟨b,eb,er3⟩:=bind_some er2
  cases er3
  exact .inl ⟨rfl,[.z x],b,rs,rfl,eb,fun v H' s' _ _=>q _ _ (s1.trans s') trivial (by simp only[bH,Rep])⟩
 ·rename_i d ed
  cases er2
  refine .inr ⟨rfl,[.z x],d,rs,rfl,ed,fun dx v H' s' ex r'=>⟨rfl,dx,rfl,fun e na=>?_⟩⟩
  have s4:Same H' (upd H' e (CxO e D dx)):=cF na
  exact⟨.ref e,rfl,e,D,dx,v,List.mem_singleton.mpr rfl,rfl,bC,s4 _ _ ex,q _ _ ((s1.trans s').trans s4) trivial (Rep.kp (Kp.of s4) r')⟩
end
structure T (K:FG_) (mg:Str->Option Value) (mD:Addr) (mF:FuncData) (gG:Addr) (iz:FuncData) (mG:Addr) (nA:FuncData) (iB:Addr) (iQ:FuncData) (iD:Addr) (iR:FuncData) (fU:Addr) (gK:FuncData) (dM:Addr) (dR:FuncData) (mH:Addr) (mJ:FuncData) (iZ:Addr) (jw:FuncData) (nC:Addr) (mK:FuncData) (qZ:Addr) (q8:FuncData) (fV:Addr) (gM:FuncData) (j8:Addr) (lB:FuncData) (mL:Addr) (nD:FuncData) (qw:Addr) (pK:FuncData) (q9:Addr) (rz:FuncData) (mO:Addr) (mQ:FuncData) (jc:Addr) (jd:FuncData) (mR:Addr) (nF:FuncData) (cM:Addr) (dD:FuncData) (eY:Addr) (fW:FuncData) (fX:Addr) (gO:FuncData) (fQ:Addr) (gF:FuncData) (jK:Addr) (jL:FuncData) (je:Addr) (jf:FuncData) (mU:Addr) (nG:FuncData) (oZ:Addr) (pL:FuncData) (rA:Addr) (rB:FuncData) (fY:Addr) (gP:FuncData) (Oa:Addr) (Kq:FuncData) (fI:Addr) (fdI:FuncData) (fJ:Addr) (fdJ:FuncData) (C D FE:Addr):Prop where
 F_I:qI K "__init__" "NoName.__init__" zB fI fdI
 b_I:Binds K fdI ["self", "name"] []
 F_J:qI K "__init__" "NoText.__init__" Ho fJ fdJ
 b_J:Binds K fdJ ["self", "row"] []
 hbi:R0 K FE "ValueError.__init__"
 aiq:mg "FolkError" = some (.ref FE)
 hx:TV K C fI veM "ValueError.__new__" = true
 Vi:setIn K C "name" = true
 hmC:mg "NoName" = some (.ref C)
 hkC:PySem.W.keepIn K (.ref C)=true
 hex:PySem.W.exmOne K (.ref C) (.ref C)=some true
 hget:yu K C=true
 hfn:PySem.W.findIn K (.ref C) "name" = some none
 jx:TV K D fJ veM "ValueError.__new__" = true
 akW:setIn K D "row" = true
 jmC:mg "NoText" = some (.ref D)
 jkC:PySem.W.keepIn K (.ref D)=true
 jex:PySem.W.exmOne K (.ref D) (.ref D)=some true
 akX:yu K D=true
 jfn:PySem.W.findIn K (.ref D) "row" = some none
 ig:qI K "_law_cell" "_law_cell" xP mD mF
 Ck:Binds K mF ["_law_script", "_law_k"] []
 Cm:mg "_law_cell" = some (.ref mD)
 Cp:PySem.W.keepIn K (.ref mD)=true
 dG:qI K "_law_numbers" "_law_numbers" rJ gG iz
 vA:Binds K iz ["_law_cell_here", "_law_many"] []
 vB:mg "_law_numbers" = some (.ref gG)
 vC:PySem.W.keepIn K (.ref gG)=true
 lX:qI K "_law_names" "_law_names" uH mG nA
 Sh:Binds K nA ["_law_xs", "_law_many"] []
 Sq:mg "_law_names" = some (.ref mG)
 Ss:PySem.W.keepIn K (.ref mG)=true
 eV:qI K "_law_any_text" "_law_any_text" qj iB iQ
 zF:Binds K iQ ["_law_x", "_law_letters", "_law_most"] []
 zG:mg "_law_any_text" = some (.ref iB)
 zH:PySem.W.keepIn K (.ref iB)=true
 iu:qI K "_law_wide_row" "_law_wide_row" ql iD iR
 Kr:Binds K iR ["_law_name", "_law_xs"] []
 Ku:mg "_law_wide_row" = some (.ref iD)
 Kv:PySem.W.keepIn K (.ref iD)=true
 fO:qI K "_law_wide_book" "_law_wide_book" oA fU gK
 HJ:Binds K gK ["_law_script", "_law_at", "_law_most"] []
 HN:mg "_law_wide_book" = some (.ref fU)
 HS:PySem.W.keepIn K (.ref fU)=true
 aU:qI K "books_together" "books_together" gH dM dR
 gQ:Binds K dR ["book", "other"] []
 gR:mg "books_together" = some (.ref dM)
 gU:PySem.W.keepIn K (.ref dM)=true
 jt:qI K "is_tuple" "is_tuple" xQ mH mJ
 Kw:Binds K mJ ["thing", "many"] []
 Kz:mg "is_tuple" = some (.ref mH)
 KC:PySem.W.keepIn K (.ref mH)=true
 gA:qI K "is_text_of" "is_text_of" sS iZ jw
 Eh:Binds K jw ["thing", "signs", "longest"] []
 Ei:mg "is_text_of" = some (.ref iZ)
 Ek:PySem.W.keepIn K (.ref iZ)=true
 jG:qI K "is_name" "is_name" Ax nC mK
 Gm:Binds K mK ["thing"] []
 Gn:mg "is_name" = some (.ref nC)
 Gq:PySem.W.keepIn K (.ref nC)=true
 qY:qI K "is_word" "is_word" Ay qZ q8
 Yt:Binds K q8 ["thing"] []
 Yu:mg "is_word" = some (.ref qZ)
 Yv:PySem.W.keepIn K (.ref qZ)=true
 fP:qI K "is_field_word" "is_field_word" oF fV gM
 HW:Binds K gM ["thing"] []
 HX:mg "is_field_word" = some (.ref fV)
 HY:PySem.W.keepIn K (.ref fV)=true
 j7:qI K "are_rising" "are_rising" sU j8 lB
 Qe:Binds K lB ["things"] []
 Qf:mg "are_rising" = some (.ref j8)
 Qg:PySem.W.keepIn K (.ref j8)=true
 lY:qI K "are_words" "are_words" uI mL nD
 Sv:Binds K nD ["thing"] []
 Sw:mg "are_words" = some (.ref mL)
 Sx:PySem.W.keepIn K (.ref mL)=true
 lu:qI K "is_row" "is_row" DW qw pK
 KD:Binds K pK ["thing"] []
 KH:mg "is_row" = some (.ref qw)
 KJ:PySem.W.keepIn K (.ref qw)=true
 pI:qI K "is_book" "is_book" Az q9 rz
 Yw:Binds K rz ["thing"] []
 Yx:mg "is_book" = some (.ref q9)
 Yy:PySem.W.keepIn K (.ref q9)=true
 ju:qI K "show_row" "show_row" xT mO mQ
 KN:Binds K mQ ["row"] []
 KQ:mg "show_row" = some (.ref mO)
 KR:PySem.W.keepIn K (.ref mO)=true
 bA:qI K "show_book" "show_book" uJ jc jd
 jg:Binds K jd ["book"] []
 jh:mg "show_book" = some (.ref jc)
 ji:PySem.W.keepIn K (.ref jc)=true
 gD:qI K "_law_again" "_law_again" rQ mR nF
 Sy:Binds K nF ["_law_book", "_law_part"] []
 SJ:mg "_law_again" = some (.ref mR)
 SM:PySem.W.keepIn K (.ref mR)=true
 bV:qI K "_law_together_right" "_law_together_right" iW cM dD
 zJ:Binds K dD ["_law_book", "_law_one", "_law_two"] []
 zK:mg "_law_together_right" = some (.ref cM)
 zL:PySem.W.keepIn K (.ref cM)=true
 dH:qI K "book_without" "book_without" qm eY fW
 zM:Binds K fW ["book", "name"] []
 zN:mg "book_without" = some (.ref eY)
 zO:PySem.W.keepIn K (.ref eY)=true
 dU:qI K "_law_taken_out" "_law_taken_out" oG fX gO
 Ia:Binds K gO ["_law_book", "_law_xs"] []
 Ib:mg "_law_taken_out" = some (.ref fX)
 Ie:PySem.W.keepIn K (.ref fX)=true
 iw:qI K "lines_in" "lines_in" xU fQ gF
 KY:Binds K gF ["text"] []
 KZ:mg "lines_in" = some (.ref fQ)
 K1:PySem.W.keepIn K (.ref fQ)=true
 jJ:qI K "row_in" "row_in" DX jK jL
 K3:Binds K jL ["text"] []
 K4:mg "row_in" = some (.ref jK)
 K5:PySem.W.keepIn K (.ref jK)=true
 cL:qI K "read_book" "read_book" pH je jf
 zP:Binds K jf ["text"] []
 zQ:mg "read_book" = some (.ref je)
 zR:PySem.W.keepIn K (.ref je)=true
 jX:qI K "_law_twice" "_law_twice" rR mU nG
 SN:Binds K nG ["_law_text"] []
 SQ:mg "_law_twice" = some (.ref mU)
 SX:PySem.W.keepIn K (.ref mU)=true
 lZ:qI K "read_row" "read_row" xV oZ pL
 Vm:Binds K pL ["text"] []
 Vn:mg "read_row" = some (.ref oZ)
 Vo:PySem.W.keepIn K (.ref oZ)=true
 pJ:qI K "word_of" "word_of" Ba rA rB
 Yz:Binds K rB ["row", "field"] []
 YB:mg "word_of" = some (.ref rA)
 YC:PySem.W.keepIn K (.ref rA)=true
 dW:qI K "_law_row_right" "_law_row_right" oH fY gP
 Ig:Binds K gP ["_law_book", "_law_k"] []
 Ih:mg "_law_row_right" = some (.ref fY)
 Ii:PySem.W.keepIn K (.ref fY)=true
 uQ:qI K "law" "law" Kh Oa Kq
 apm:Binds K Kq ["_law_script"] []
 apn:mg "law" = some (.ref Oa)
 apo:PySem.W.keepIn K (.ref Oa)=true
 W0:mg "abs" = none
 El:mg "all" = none
 mC:mg "enumerate" = none
 W2:mg "int" = none
 gB:mg "isinstance" = none
 nR:mg "len" = none
 oO:mg "range" = none
 Ko:mg "set" = none
 zT:mg "sorted" = none
 Ob:mg "str" = none
 oR:mg "tuple" = none
 YD:∃ tk,mg "FIGURES" = some (.str "0123456789" tk)
 Oc:∃ tk,mg "LETTERS" = some (.str "abcdefghijklmnopqrstuvwxyz" tk)
 K6:∃ tk,mg "LONGEST_NAME" = some (.int 8 tk)
 K7:∃ tk,mg "LONGEST_WORD" = some (.int 12 tk)
section
variable {P:Program} {w:World} {K:FG_} {mg:Str->Option Value} {base:Heap} {mD:Addr} {mF:FuncData} {gG:Addr} {iz:FuncData} {mG:Addr} {nA:FuncData} {iB:Addr} {iQ:FuncData} {iD:Addr} {iR:FuncData} {fU:Addr} {gK:FuncData} {dM:Addr} {dR:FuncData} {mH:Addr} {mJ:FuncData} {iZ:Addr} {jw:FuncData} {nC:Addr} {mK:FuncData} {qZ:Addr} {q8:FuncData} {fV:Addr} {gM:FuncData} {j8:Addr} {lB:FuncData} {mL:Addr} {nD:FuncData} {qw:Addr} {pK:FuncData} {q9:Addr} {rz:FuncData} {mO:Addr} {mQ:FuncData} {jc:Addr} {jd:FuncData} {mR:Addr} {nF:FuncData} {cM:Addr} {dD:FuncData} {eY:Addr} {fW:FuncData} {fX:Addr} {gO:FuncData} {fQ:Addr} {gF:FuncData} {jK:Addr} {jL:FuncData} {je:Addr} {jf:FuncData} {mU:Addr} {nG:FuncData} {oZ:Addr} {pL:FuncData} {rA:Addr} {rB:FuncData} {fY:Addr} {gP:FuncData} {Oa:Addr} {Kq:FuncData} {fI:Addr} {fdI:FuncData} {fJ:Addr} {fdJ:FuncData} {C D FE:Addr} (t:T K mg mD mF gG iz mG nA iB iQ iD iR fU gK dM dR mH mJ iZ jw nC mK qZ q8 fV gM j8 lB mL nD qw pK q9 rz mO mQ jc jd mR nF cM dD eY fW fX gO fQ gF jK jL je jf mU nG oZ pL rA rB fY gP Oa Kq fI fdI fJ fdJ C D FE)
theorem Hq:bD ["_law_script", "_law_k", "_law_state", "_law_cell_here"] ["_law_script", "_law_k"] (aP xP):=nW
include t in
theorem S5:bx P w K mg base fB 1 mD mF ["_law_script", "_law_k"] (iK K 2 ig):=by
 unfold ig
 refine qJ (k:=0) (g:=xW) t.ig Hq rfl rfl fun cdv A outer s H E hr=>?_
 have hu:=cg hr
 have nd:=Hq.nd
 exact (au (lK (cZ Ph (aj 1) (bT lG rfl t.nR lD (ak (aj 0) aA)) (cD _)) (au (bO (bQ (aj 0) (aj 1))) aR) aR) (au (bN 2 nd (bf gq (bf qb aH (bf bZ (bf bZ (bf qb (aj 1) (aj 1)) (bf qb aH (aj 1))) aH)) aH)) (au (yX PassesOwn.never rfl (Je (uz (aj 0) jC (gZ aH))) (bK 3 nd) (jD [3] (au (bN 2 nd (bf gq (bf bZ (bf qb (aj 2) aH) (aj 3)) aH)) aR))) (au (bO (aj 2)) aR))))
theorem zU:bD ["_law_cell_here", "_law_many", "_law_found", "_law_state", "_law_digits", "_law_k"] ["_law_cell_here", "_law_many"] (aP rJ):=nW
include t in
theorem K8:bx P w K mg base fB 1 gG iz ["_law_cell_here", "_law_many"] (iK K 2 dG):=by
 unfold dG
 refine qJ (k:=0) (g:=rK) t.dG zU rfl rfl fun cdv A outer s H E hr=>?_
 have hu:=cg hr
 have nd:=zU.nd
 exact (au (bN 2 nd (tM aA)) (au (bN 3 nd (bf gq (bf qb (bf bZ (bf gq (aj 0) aH) aH) aH) aH)) (au (bN 4 nd aH) (au (lK (Hz (qO (cZ Ph (aj 0) aH (cD _)) (rH (cZ ahL (aj 0) (bf afv aH aH) (cD _))))) (jD [] (au (bN 4 nd (bT afD rfl t.W0 afA (ak (aj 0) aA))) aR)) (jD [] aR)) (au (yX PassesOwn.never rfl (pX rfl t.oO (ak (aj 1) aA)) (bK 5 nd) (jD [5] (au (bN 3 nd (bf gq (bf bZ (bf bZ (bf qb (aj 3) (bf bZ (bf gq (aj 3) aH) aH)) (bf qb aH (aj 5))) aH) aH)) (au (Uk 2 (bQ (tM (ak (aj 3) (ak (bf gq (aj 4) aH) aA))) (qR afE rfl t.W2 afy (ak (BZ ahK (aj 4) aH (cD _)) aA)))) (au (bN 4 nd (bf uy (aj 4) aH)) aR))))) (au (V7 2) aR))))))
theorem Em:bD ["_law_xs", "_law_many", "_law_letters", "_law_stem", "_law_at", "_law_found", "_law_k", "_law_mark", "_law_name"] ["_law_xs", "_law_many"] (aP uH):=nW
include t in
theorem Qh:bx P w K mg base fB 1 mG nA ["_law_xs", "_law_many"] (iK K 2 lX):=by
 unfold lX
 refine qJ (k:=0) (g:=uK) t.lX Em rfl rfl fun cdv A outer s H E hr=>?_
 have hu:=cg hr
 have nd:=Em.nd
 exact (au (bN 2 nd j5) (au (bN 3 nd (Dv (j4 ["_law_k"] (w6 ["_law_letters", "_law_xs"] [2,0]) rfl (Ur (pX rfl t.oO (ak (bf gq (bQ (aj 0) aH) aH) aA))) (fun _ _ _ _=>(bK 2 (by show List.Nodup (_++_);decide +kernel))) (fun _ _ _ _=>cH) (fun _ _ _ _=>(bQ (aj 0) (bf gq (bf uy (bQ (aj 1) (aj 2)) aH) aH))) (dY)))) (au (bN 4 nd (bf gq (bQ (aj 0) aH) (bf bZ (bT lG rfl t.nR lD (ak (aj 3) aA)) aH))) (au (bN 5 nd (tM aA)) (au (yX PassesOwn.never rfl (pX rfl t.oO (ak (aj 1) aA)) (bK 6 nd) (jD [6,7,8] (au (bN 7 nd (bQ (aj 2) (bf gq (bf bZ (aj 6) (bQ (aj 0) aH)) aH))) (au (bN 8 nd (bf bZ (bf bZ (uz (aj 3) jC (gZ (aj 4))) (aj 7)) (uz (aj 3) (gZ (aj 4)) jC))) (au (lK (cZ (of_eq hu) (bf gq (bQ (aj 0) aH) aH) aH (cD _)) (jD [] (au (bN 8 nd (bf qb (bQ (aj 2) (bf uy (aj 6) aH)) (bf bZ aH (bf gq (aj 6) aH)))) aR)) (jD [] aR)) (au (Uk 5 (aj 8)) aR)))))) (au (V7 5) aR))))))
theorem yw:bD ["_law_x", "_law_letters", "_law_most", "_law_found", "_law_k"] ["_law_x", "_law_letters", "_law_most"] (aP qj):=nW
include t in
theorem Ij:bx P w K mg base fB 1 iB iQ ["_law_x", "_law_letters", "_law_most"] (iK K 3 eV):=by
 unfold eV
 refine qJ (k:=0) (g:=qp) t.eV yw rfl rfl fun cdv A outer s H E hr=>?_
 have hu:=cg hr
 have nd:=yw.nd
 exact (au (bN 3 nd j5) (au (yX PassesOwn.never rfl (pX rfl t.oO (ak (bf bZ aH (bf gq (aj 0) (aj 2))) aA)) (bK 4 nd) (jD [4] (au (bN 3 nd (bf bZ (aj 3) (bQ (aj 1) (bf gq (bf uy (aj 0) (bf bZ aH (bf qb aH (aj 4)))) (bT lG rfl t.nR lD (ak (aj 1) aA)))))) aR))) (au (bO (aj 3)) aR)))
theorem yx:bD ["_law_name", "_law_xs", "_law_words", "_law_k", "_law_letters", "_law_field"] ["_law_name", "_law_xs"] (aP ql):=nW
include t in
theorem Ik (qy:bx P w K mg base fB 1 iB iQ ["_law_x", "_law_letters", "_law_most"] (iK K 3 eV)):bx P w K mg base fB 2 iD iR ["_law_name", "_law_xs"] (iK K 2 iu):=by
 unfold iu
 refine qJ (k:=1) (g:=qt) t.iu yx rfl rfl fun cdv A outer s H E hr=>?_
 have hu:=cg hr
 have nd:=yx.nd
 exact (au (bN 2 nd acT) (au (yX PassesOwn.never rfl (pX rfl t.oO (ak (bf gq (bQ (aj 1) aH) aH) aA)) (bK 3 nd) (jD [3,4,5] (au (bN 4 nd j5) (au (bN 5 nd (aX qy (hr.mono (by decide)) rfl t.zG t.zH t.zF (ak (bQ (aj 1) (bf bZ aH (bf qb aH (aj 3)))) (ak (aj 4) (ak (bQ (tM (ak aH (ak aH aA))) (bf gq (bf uy (bQ (aj 1) (bf bZ aH (bf qb aH (aj 3)))) aH) aH)) aA))))) (au (acV 2 hu (jW (aX qy (hr.mono (by decide)) rfl t.zG t.zH t.zF (ak (bQ (aj 1) (bf bZ aH (bf qb aH (aj 3)))) (ak (jW (bf bZ (aj 4) j5)) (ak (bQ (tM (ak aH (ak aH aA))) (bf gq (bf uy (bQ (aj 1) (bf bZ aH (bf qb aH (aj 3)))) aH) aH)) aA))))) (aj 5)) aR))))) (au (bO (qQ (ak (aj 0) (ak (qR vP rfl t.oR tO (ak (j4 ["_law_field"] (w6 ["_law_words"] [2]) rfl (jA (bT (UL rfl) rfl t.zT Nr (ak (aj 2) aA))) (fun _ _ _ _=>(bK 1 (by show List.Nodup (_++_);decide +kernel))) (fun _ _ _ _=>cH) (fun _ _ _ _=>(qQ (ak (aj 1) (ak (acU hu (aj 0) (aj 1)) aA)))) (dY)) aA)) aA)))) aR)))
theorem vQ:bD ["_law_script", "_law_at", "_law_most", "_law_head", "_law_names_here", "_law_found", "_law_k", "_law_name"] ["_law_script", "_law_at", "_law_most"] (aP oA):=nW
include t in
theorem Gr (o7:bx P w K mg base fB 1 mD mF ["_law_script", "_law_k"] (iK K 2 ig)) (zV:bx P w K mg base fB 1 mG nA ["_law_xs", "_law_many"] (iK K 2 lX)) (jy:bx P w K mg base fB 1 gG iz ["_law_cell_here", "_law_many"] (iK K 2 dG)) (ud:bx P w K mg base fB 2 iD iR ["_law_name", "_law_xs"] (iK K 2 iu)):bx P w K mg base fB 3 fU gK ["_law_script", "_law_at", "_law_most"] (iK K 3 fO):=by
 unfold fO
 refine qJ (k:=2) (g:=oJ) t.fO vQ rfl rfl fun cdv A outer s H E hr=>?_
 have hu:=cg hr
 have nd:=vQ.nd
 exact (au (bN 3 nd (aX jy (hr.mono (by decide)) rfl t.vB t.vC t.vA (ak (jW (aX o7 (hr.mono (by decide)) rfl t.Cm t.Cp t.Ck (ak (aj 0) (ak (aj 1) aA)))) (ak aH aA)))) (au (bN 4 nd (aX zV (hr.mono (by decide)) rfl t.Sq t.Ss t.Sh (ak (aj 3) (ak aH aA)))) (au (bN 5 nd (tM aA)) (au (yX PassesOwn.never rfl (pX rfl t.oO (ak (bf gq (bQ (aj 3) aH) (bf bZ (aj 2) aH)) aA)) (bK 6 nd) (jD [6,7] (au (bN 7 nd (bQ (aj 4) (bf gq (bf bZ (bf qb aH (aj 6)) (bQ (aj 3) aH)) aH))) (au (Uk 5 (jW (aX ud (hr.mono (by decide)) rfl t.Ku t.Kv t.Kr (ak (aj 7) (ak (jW (aX jy (hr.mono (by decide)) rfl t.vB t.vC t.vA (ak (jW (aX o7 (hr.mono (by decide)) rfl t.Cm t.Cp t.Ck (ak (aj 0) (ak (jW (bf bZ (bf bZ (aj 1) aH) (aj 6))) aA)))) (ak aH aA)))) aA))))) aR)))) (au (bO (qR vP rfl t.oR tO (ak (aj 5) aA))) aR)))))
include t in
theorem Eo:bx P w K mg base fB 2 dM dR ["book", "other"] (iK K 2 aU):=
 aey t.aU
theorem Hr:bD ["thing", "many"] ["thing", "many"] (aP xQ):=nW
include t in
theorem S7:bx P w K mg base fB 1 mH mJ ["thing", "many"] (iK K 2 jt):=by
 unfold jt
 refine qJ (k:=0) (g:=qX) t.jt Hr rfl rfl fun cdv A outer s H E hr=>?_
 have hu:=cg hr
 have nd:=Hr.nd
 exact (au (bO (Ca (w5 (aj 0) rfl t.gB rfl t.oR) (O4 (BZ (of_eq hu) (bT lG rfl t.nR lD (ak (aj 0) aA)) (aj 1) (cD _))))) aR)
theorem BK:bD ["thing", "signs", "longest"] ["thing", "signs", "longest"] (aP sS):=nW
include t in
theorem MN:bx P w K mg base fB 1 iZ jw ["thing", "signs", "longest"] (iK K 3 gA):=by
 unfold gA
 refine qJ (k:=0) (g:=sV) t.gA BK rfl rfl fun cdv A outer s H E hr=>?_
 have hu:=cg hr
 have nd:=BK.nd
 exact (au (bO (Ca (Cd (aj 0) rfl t.gB rfl t.Ob) (Ca (Zz of_le of_le aH (bT lG rfl t.nR lD (ak (aj 0) aA)) (aj 2)) (O4 (bT (Ga rfl) rfl t.El FZ (ak (j4 ["sign"] (w6 ["signs"] [1]) rfl (jA (aj 0)) (fun _ _ _ _=>(bK 1 (by show List.Nodup (_++_);decide +kernel))) (fun _ _ _ _=>cH) (fun _ _ _ _=>(BZ aeg (aj 1) (aj 0) (by with_unfolding_all rfl))) (dY)) aA)))))) aR)
theorem K9:bD ["thing"] ["thing"] (aP Ax):=nW
include t in
theorem Vp (nH:bx P w K mg base fB 1 iZ jw ["thing", "signs", "longest"] (iK K 3 gA)):bx P w K mg base fB 2 nC mK ["thing"] (iK K 1 jG):=by
 unfold jG
 refine qJ (k:=1) (g:=Bb) t.jG K9 rfl rfl fun cdv A outer s H E hr=>?_
 have hu:=cg hr
 have nd:=K9.nd
 obtain⟨Cq,Gs⟩:=t.Oc
 obtain⟨yC,La⟩:=t.K6
 exact (au (bO (aX nH (hr.mono (by decide)) rfl t.Ei t.Ek t.Eh (ak (aj 0) (ak (Jz rfl Gs) (ak (QZ rfl La) aA))))) aR)
theorem Lb:bD ["thing"] ["thing"] (aP Ay):=nW
include t in
theorem Vq (nH:bx P w K mg base fB 1 iZ jw ["thing", "signs", "longest"] (iK K 3 gA)):bx P w K mg base fB 2 qZ q8 ["thing"] (iK K 1 qY):=by
 unfold qY
 refine qJ (k:=1) (g:=Bc) t.qY Lb rfl rfl fun cdv A outer s H E hr=>?_
 have hu:=cg hr
 have nd:=Lb.nd
 obtain⟨Ld,YF⟩:=t.YD
 obtain⟨Cq,Gs⟩:=t.Oc
 obtain⟨yD,Le⟩:=t.K7
 exact (au (bO (aX nH (hr.mono (by decide)) rfl t.Ei t.Ek t.Eh (ak (aj 0) (ak (jW (bf bZ (Jz rfl Gs) (Jz rfl YF))) (ak (QZ rfl Le) aA))))) aR)
theorem vR:bD ["thing"] ["thing"] (aP oF):=nW
include t in
theorem Gu (nJ:bx P w K mg base fB 2 nC mK ["thing"] (iK K 1 jG)) (rC:bx P w K mg base fB 1 mH mJ ["thing", "many"] (iK K 2 jt)) (Gv:bx P w K mg base fB 2 qZ q8 ["thing"] (iK K 1 qY)):bx P w K mg base fB 3 fV gM ["thing"] (iK K 1 fP):=by
 unfold fP
 refine qJ (k:=2) (g:=oK) t.fP vR rfl rfl fun cdv A outer s H E hr=>?_
 have hu:=cg hr
 have nd:=vR.nd
 exact (au (bO (Ca (aX rC (hr.mono (by decide)) rfl t.Kz t.KC t.Kw (ak (aj 0) (ak aH aA))) (Ca (aX nJ (hr.mono (by decide)) rfl t.Gn t.Gq t.Gm (ak (bQ (aj 0) aH) aA)) (O4 (aX Gv (hr.mono (by decide)) rfl t.Yu t.Yv t.Yt (ak (bQ (aj 0) aH) aA)))))) aR)
theorem BL:bD ["things"] ["things"] (aP sU):=nW
include t in
theorem MP:bx P w K mg base fB 1 j8 lB ["things"] (iK K 1 j7):=by
 unfold j7
 refine qJ (k:=0) (g:=sW) t.j7 BL rfl rfl fun cdv A outer s H E hr=>?_
 have hu:=cg hr
 have nd:=BL.nd
 exact (au (bO (bT (Ga rfl) rfl t.El FZ (ak (j4 ["at"] (w6 ["things"] [0]) rfl (Ur (pX rfl t.oO (ak (bf Uv (bT lG rfl t.nR lD (ak (aj 0) aA)) aH) aA))) (fun _ _ _ _=>(bK 1 (by show List.Nodup (_++_);decide +kernel))) (fun _ _ _ _=>cH) (fun _ _ _ _=>(BZ Ph (bQ (aj 0) (aj 1)) (bQ (aj 0) (bf bZ (aj 1) aH)) (cD _))) (dY)) aA))) aR)
theorem Ep:bD ["thing"] ["thing"] (aP uI):=nW
include t in
theorem Qi (yc:bx P w K mg base fB 1 j8 lB ["things"] (iK K 1 j7)) (sy:bx P w K mg base fB 3 fV gM ["thing"] (iK K 1 fP)):bx P w K mg base fB 4 mL nD ["thing"] (iK K 1 lY):=by
 unfold lY
 refine qJ (k:=3) (g:=uN) t.lY Ep rfl rfl fun cdv A outer s H E hr=>?_
 have hu:=cg hr
 have nd:=Ep.nd
 exact (au (lK (Hz (qO (tL (pW (w5 (aj 0) rfl t.gB rfl t.oR))) (rH (tL (pW (bT (Ga rfl) rfl t.El FZ (ak (j4 ["pair"] (w6 [] []) rfl (jA (aj 0)) (fun _ _ _ _=>(bK 0 (by show List.Nodup (_++_);decide +kernel))) (fun _ _ _ _=>cH) (fun _ _ _ _=>(jW (aX sy (hr.mono (by decide)) rfl t.HX t.HY t.HW (ak (aj 0) aA)))) (dY)) aA))))))) (au (bO tK) aR) aR) (au (bO (aX yc (hr.mono (by decide)) rfl t.Qf t.Qg t.Qe (ak (jW (j4 ["field", "word"] (w6 [] []) rfl (jA (aj 0)) (fun _ _ _ _=>(Fz rfl (gY (bK 0 (by show List.Nodup (_++_);decide +kernel)) (gY (bK 1 (by show List.Nodup (_++_);decide +kernel)) wY)))) (fun _ _ _ _=>cH) (fun _ _ _ _=>(aj 0)) (Uo (vN (dY) (vN (dY) O8))))) aA))) aR))
theorem Od:bD ["thing"] ["thing"] (aP DW):=nW
include t in
theorem YG (zW:bx P w K mg base fB 4 mL nD ["thing"] (iK K 1 lY)) (nJ:bx P w K mg base fB 2 nC mK ["thing"] (iK K 1 jG)) (rC:bx P w K mg base fB 1 mH mJ ["thing", "many"] (iK K 2 jt)):bx P w K mg base fB 5 qw pK ["thing"] (iK K 1 lu):=by
 unfold lu
 refine qJ (k:=4) (g:=DY) t.lu Od rfl rfl fun cdv A outer s H E hr=>?_
 have hu:=cg hr
 have nd:=Od.nd
 exact (au (bO (Ca (aX rC (hr.mono (by decide)) rfl t.Kz t.KC t.Kw (ak (aj 0) (ak aH aA))) (Ca (aX nJ (hr.mono (by decide)) rfl t.Gn t.Gq t.Gm (ak (bQ (aj 0) aH) aA)) (O4 (aX zW (hr.mono (by decide)) rfl t.Sw t.Sx t.Sv (ak (bQ (aj 0) aH) aA)))))) aR)
theorem Lf:bD ["thing"] ["thing"] (aP Az):=nW
include t in
theorem Vr (qz:bx P w K mg base fB 5 qw pK ["thing"] (iK K 1 lu)):bx P w K mg base fB 6 q9 rz ["thing"] (iK K 1 pI):=by
 unfold pI
 refine qJ (k:=5) (g:=Bd) t.pI Lf rfl rfl fun cdv A outer s H E hr=>?_
 have hu:=cg hr
 have nd:=Lf.nd
 exact (au (lK (Hz (qO (tL (pW (w5 (aj 0) rfl t.gB rfl t.oR))) (rH (tL (pW (bT (Ga rfl) rfl t.El FZ (ak (j4 ["row"] (w6 [] []) rfl (jA (aj 0)) (fun _ _ _ _=>(bK 0 (by show List.Nodup (_++_);decide +kernel))) (fun _ _ _ _=>cH) (fun _ _ _ _=>(jW (aX qz (hr.mono (by decide)) rfl t.KH t.KJ t.KD (ak (aj 0) aA)))) (dY)) aA))))))) (au (bO tK) aR) aR) (au (bO (BZ (of_eq hu) (ac4 rfl t.nR (aaj ["row"] (w6 [] []) rfl (jA (aj 0)) (fun _ _ _ _=>(bK 0 (by show List.Nodup (_++_);decide +kernel))) (fun _ _ _ _=>cH) (fun _ _ _ _=>(bQ (aj 0) aH)) (dY))) (bT lG rfl t.nR lD (ak (aj 0) aA)) (cD _))) aR))
theorem Ht:bD ["row", "name", "words", "shown"] ["row"] (aP xT):=nW
include t in
theorem S8:bx P w K mg base fB 1 mO mQ ["row"] (iK K 1 ju):=by
 unfold ju
 refine qJ (k:=0) (g:=xX) t.ju Ht rfl rfl fun cdv A outer s H E hr=>?_
 have hu:=cg hr
 have nd:=Ht.nd
 exact (au (Uj (aj 0) (Fz rfl (gY (bK 1 nd) (gY (bK 2 nd) wY)))) (au (lK (tL (pW (aj 2))) (au (bO (Jo (qg (DP (aj 1)) (qg j5 PJ)))) aR) aR) (au (bN 3 nd (Dv (j4 ["field", "word"] (w6 [] []) rfl (jA (aj 2)) (fun _ _ _ _=>(Fz rfl (gY (bK 0 (by show List.Nodup (_++_);decide +kernel)) (gY (bK 1 (by show List.Nodup (_++_);decide +kernel)) wY)))) (fun _ _ _ _=>cH) (fun _ _ _ _=>(Jo (qg (DP (aj 0)) (qg j5 (qg (DP (aj 1)) PJ))))) (Uo (vN (dY) (vN (dY) O8)))))) (au (bO (Jo (qg (DP (aj 1)) (qg j5 (qg (DP (aj 3)) PJ))))) aR))))
theorem Er:bD ["book"] ["book"] (aP uJ):=nW
include t in
theorem Qj (rD:bx P w K mg base fB 1 mO mQ ["row"] (iK K 1 ju)):bx P w K mg base fB 2 jc jd ["book"] (iK K 1 bA):=by
 unfold bA
 refine qJ (k:=1) (g:=uO) t.bA Er rfl rfl fun cdv A outer s H E hr=>?_
 have hu:=cg hr
 have nd:=Er.nd
 exact (au (bO (Dv (j4 ["row"] (w6 [] []) rfl (jA (aj 0)) (fun _ _ _ _=>(bK 0 (by show List.Nodup (_++_);decide +kernel))) (fun _ _ _ _=>cH) (fun _ _ _ _=>(jW (aX rD (hr.mono (by decide)) rfl t.KQ t.KR t.KN (ak (aj 0) aA)))) (dY)))) aR)
include t in
theorem Qk:bx P w K mg base fB 4 mR nF ["_law_book", "_law_part"] (iK K 2 gD):=
 abb t.gD t.gU t.gQ (P1.bx.or ((aey t.aU).mono (by decide)) (aio t.aU t.hx t.hkC (adN t.F_I t.hx t.Vi t.aiq t.hbi) t.b_I t.hmC)) t.gR t.hmC t.hex t.hget t.hfn
theorem qM:bD ["_law_book", "_law_one", "_law_two", "_law_parts", "_law_first", "_law_second", "_law_texts", "_law_part"] ["_law_book", "_law_one", "_law_two"] (aP iW):=nW
include t in
theorem yM (zX:bx P w K mg base fB 4 mR nF ["_law_book", "_law_part"] (iK K 2 gD)) (cU:bx P w K mg base fB 2 dM dR ["book", "other"] (iK K 2 aU)) (Gw:bx P w K mg base fB 6 q9 rz ["thing"] (iK K 1 pI)) (cN:bx P w K mg base fB 2 jc jd ["book"] (iK K 1 bA)):bx P w K mg base fB 7 cM dD ["_law_book", "_law_one", "_law_two"] (iK K 3 bV):=by
 unfold bV
 refine qJ (k:=6) (g:=iY) t.bV qM rfl rfl fun cdv A outer s H E hr=>?_
 have hu:=cg hr
 have nd:=qM.nd
 exact (au (bN 3 nd (tM (ak (jW (uz (aj 0) jC (gZ (aj 1)))) (ak (jW (uz (aj 0) (gZ (aj 1)) (gZ (aj 2)))) (ak (jW (uz (aj 0) (gZ (aj 2)) jC)) aA))))) (au (bN 4 nd (aX cU (hr.mono (by decide)) rfl t.gR t.gU t.gQ (ak (jW (aX cU (hr.mono (by decide)) rfl t.gR t.gU t.gQ (ak (bQ (aj 3) aH) (ak (bQ (aj 3) aH) aA)))) (ak (bQ (aj 3) aH) aA)))) (au (bN 5 nd (aX cU (hr.mono (by decide)) rfl t.gR t.gU t.gQ (ak (bQ (aj 3) aH) (ak (jW (aX cU (hr.mono (by decide)) rfl t.gR t.gU t.gQ (ak (bQ (aj 3) aH) (ak (bQ (aj 3) aH) aA)))) aA)))) (au (lK (Hz (qO (cZ (pZ hu) (aj 4) (aj 0) (cD _)) (qO (cZ (pZ hu) (aj 5) (aj 0) (cD _)) (rH (cZ R7 (aX Gw (hr.mono (by decide)) rfl t.Yx t.Yy t.Yw (ak (aj 4) aA)) tK (cD _)))))) (au (bO tK) aR) aR) (au (acH 6 ["_law_part"] (w6 [] []) rfl nd (jA (aj 3)) (fun _ _ _ _=>(bK 0 (by show List.Nodup (_++_);decide +kernel))) (fun _ _ _ _=>(JK (cZ (pZ hu) (aj 0) (qQ aA) (cD _)))) (fun _ _ _ _=>(jW (aX cN (hr.mono (by decide)) rfl t.jh t.ji t.jg (ak (aj 0) aA)))) (dY)) (au (lK (cZ (pZ hu) (aX cN (hr.mono (by decide)) rfl t.jh t.ji t.jg (ak (aj 0) aA)) (Dv (aj 6)) (cD _)) (au (bO tK) aR) aR) (au (acC 3 PassesOwn.never rfl (bK 7 nd) (jD [7] (au (lK (Hz (O2 (cZ (pZ hu) (aj 7) (qQ aA) (cD _)) (Q0 (cZ (pZ hu) (aX zX (hr.mono (by decide)) rfl t.SJ t.SM t.Sy (ak (aj 0) (ak (aj 7) aA))) (bQ (bQ (aj 7) aH) aH) (cD _))))) (au (bO tK) aR) aR) aR))) (au (bO tK) aR))))))))
theorem yE:bD ["book", "name"] ["book", "name"] (aP qm):=nW
include t in
theorem Il (nJ:bx P w K mg base fB 2 nC mK ["thing"] (iK K 1 jG)):bx P w K mg base fB 3 eY fW ["book", "name"] (iK K 2 dH):=by
 unfold dH
 refine qJ (k:=2) (g:=qu) t.dH yE rfl rfl fun cdv A outer s H E hr=>?_
 have hu:=cg hr
 have nd:=yE.nd
 exact (au (lK (Hz (qO (tL (pW (aX nJ (hr.mono (by decide)) rfl t.Gn t.Gq t.Gm (ak (aj 1) aA)))) (rH (cZ ZW (aj 1) (j4 ["row"] (w6 [] []) rfl (jA (aj 0)) (fun _ _ _ _=>(bK 0 (by show List.Nodup (_++_);decide +kernel))) (fun _ _ _ _=>cH) (fun _ _ _ _=>(bQ (aj 0) aH)) (dY)) (by with_unfolding_all rfl))))) (au Pr aR) aR) (au (bO (qR vP rfl t.oR tO (ak (j4 ["row"] (w6 ["name"] [1]) rfl (jA (aj 0)) (fun _ _ _ _=>(bK 1 (by show List.Nodup (_++_);decide +kernel))) (fun _ _ _ _=>(JK (cZ (pZ hu) (bQ (aj 1) aH) (aj 0) (cD _)))) (fun _ _ _ _=>(aj 1)) (dY)) aA))) aR))
theorem vU:bD ["_law_book", "_law_xs", "_law_left", "_law_k", "_law_name"] ["_law_book", "_law_xs"] (aP oG):=nW
include t in
theorem Gx (jM:bx P w K mg base fB 3 eY fW ["book", "name"] (iK K 2 dH)):bx P w K mg base fB 4 fX gO ["_law_book", "_law_xs"] (iK K 2 dU):=by
 unfold dU
 refine qJ (k:=3) (g:=oM) t.dU vU rfl rfl fun cdv A outer s H E hr=>?_
 have hu:=cg hr
 have nd:=vU.nd
 exact (au (bN 2 nd (aj 0)) (au (yX PassesOwn.never rfl (pX rfl t.oO (ak (bT lG rfl t.nR lD (ak (aj 0) aA)) aA)) (bK 3 nd) (jD [3,4] (au (bN 4 nd (bQ (bQ (aj 2) (bf gq (bf uy (bQ (aj 1) (bf gq (aj 3) (bT lG rfl t.nR lD (ak (aj 1) aA)))) (bf bZ aH (bf uy (aj 3) (bT lG rfl t.nR lD (ak (aj 1) aA))))) (bT lG rfl t.nR lD (ak (aj 2) aA)))) aH)) (au (bN 2 nd (aX jM (hr.mono (by decide)) rfl t.zN t.zO t.zM (ak (aj 2) (ak (aj 4) aA)))) (au (lK (Hz (qO (cZ aeg (aj 4) (j4 ["_law_row"] (w6 [] []) rfl (jA (aj 2)) (fun _ _ _ _=>(bK 0 (by show List.Nodup (_++_);decide +kernel))) (fun _ _ _ _=>cH) (fun _ _ _ _=>(bQ (aj 0) aH)) (dY)) (by with_unfolding_all rfl)) (rH (cZ (pZ hu) (bT lG rfl t.nR lD (ak (aj 2) aA)) (bf Uv (bf Uv (bT lG rfl t.nR lD (ak (aj 0) aA)) aH) (aj 3)) (cD _))))) (au (bO wX) aR) aR) aR))))) (au (bO (aj 2)) aR)))
theorem Hu:bD ["text"] ["text"] (aP xU):=nW
include t in
theorem S9:bx P w K mg base fB 1 fQ gF ["text"] (iK K 1 iw):=by
 unfold iw
 refine qJ (k:=0) (g:=xY) t.iw Hu rfl rfl fun cdv A outer s H E hr=>?_
 have hu:=cg hr
 have nd:=Hu.nd
 exact (au (lK (tL (pW (Cd (aj 0) rfl t.gB rfl t.Ob))) (au Pr aR) aR) (au (bO (Uh (pW (aj 0)) (zx (aj 0) j5) (tM aA))) aR))
theorem Oe:bD ["text", "name", "colon", "rest", "words", "row"] ["text"] (aP DX):=nW
include t in
theorem YH (qz:bx P w K mg base fB 5 qw pK ["thing"] (iK K 1 lu)):bx P w K mg base fB 6 jK jL ["text"] (iK K 1 jJ):=by
 unfold jJ
 refine qJ (k:=5) (g:=Ed) t.jJ Oe rfl rfl fun cdv A outer s H E hr=>?_
 have hu:=cg hr
 have nd:=Oe.nd
 exact (au (Uj (adq (aj 0) j5) (Fz rfl (gY (bK 1 nd) (gY (bK 2 nd) (gY (bK 3 nd) wY))))) (au (lK (tL (pW (aj 2))) (au (bO wX) aR) aR) (au (lK (tL (pW (aj 3))) (au (bN 4 nd (qQ aA)) aR) (au (lK (cZ (of_eq hu) (bQ (aj 3) aH) j5 (cD _)) (au (bN 4 nd (qR vP rfl t.oR tO (ak (j4 ["pair"] (w6 [] []) rfl (jA (zx (uz (aj 3) (gZ aH) jC) j5)) (fun _ _ _ _=>(bK 0 (by show List.Nodup (_++_);decide +kernel))) (fun _ _ _ _=>cH) (fun _ _ _ _=>(qR vP rfl t.oR tO (ak (zx (aj 0) j5) aA))) (dY)) aA))) aR) (au (bO wX) aR)) aR)) (au (bN 5 nd (qQ (ak (aj 1) (ak (aj 4) aA)))) (au (bO (jW (Uh (pW (aX qz (hr.mono (by decide)) rfl t.KH t.KJ t.KD (ak (aj 5) aA))) (aj 5) wX))) aR)))))
theorem Es:bD ["text", "rows", "names", "at", "line", "row"] ["text"] (aP pH):=nW
include t in
theorem Ql (mj:bx P w K mg base fB 1 fQ gF ["text"] (iK K 1 iw)) (mq:bx P w K mg base fB 6 jK jL ["text"] (iK K 1 jJ)):bx P w K mg base fB 7 je jf ["text"] (iK K 1 cL):=by
 unfold cL
 refine qJ (k:=6) (g:=uP) t.cL Es rfl rfl fun cdv A outer s H E hr=>?_
 have hu:=cg hr
 have nd:=Es.nd
 exact (au (bN 1 nd (tM aA)) (aaP 2 1 5 3 4 PassesOwn.never rfl nd rfl t.Ko (Rz rfl t.mC (ak (jW (aX mj (hr.mono (by decide)) rfl t.KZ t.K1 t.KY (ak (aj 0) aA))) aA)) (aX mq (hr.mono (by decide)) rfl t.K4 t.K5 t.K3 (ak (aj 4) aA)) (cZ of_is (aj 5) wX (cD _)) (bQ (aj 5) aH) (bQ (aj 5) aH) (au (bO (qR vP rfl t.oR tO (ak (aj 1) aA))) aR)))
include t in
theorem Qm (mj:bx P w K mg base fB 1 fQ gF ["text"] (iK K 1 iw)) (jk:bx P w K mg base fB 7 je jf ["text"] (iK K 1 cL)) (mq:bx P w K mg base fB 6 jK jL ["text"] (iK K 1 jJ)):bx P w K mg base fB 8 mU nG ["_law_text"] (iK K 1 jX):=
 abd t.jX t.zR t.zP (P1.bx.or jk (aip t.cL mj mq t.KZ t.K1 t.KY t.K4 t.K5 t.K3 t.Ko t.mC t.jx t.jkC (agq t.F_J t.jx t.akW t.aiq t.hbi) t.b_J t.jmC)) t.zQ t.jmC t.jex t.akX t.jfn
theorem Hv:bD ["text", "row"] ["text"] (aP xV):=nW
include t in
theorem Tc (mq:bx P w K mg base fB 6 jK jL ["text"] (iK K 1 jJ)):bx P w K mg base fB 7 oZ pL ["text"] (iK K 1 lZ):=by
 unfold lZ
 refine qJ (k:=6) (g:=xZ) t.lZ Hv rfl rfl fun cdv A outer s H E hr=>?_
 have hu:=cg hr
 have nd:=Hv.nd
 exact (au (bN 1 nd (Uh (pW (Cd (aj 0) rfl t.gB rfl t.Ob)) (aX mq (hr.mono (by decide)) rfl t.K4 t.K5 t.K3 (ak (aj 0) aA)) wX)) (au (lK (cZ of_is (aj 1) wX (cD _)) (au Pr aR) aR) (au (bO (aj 1)) aR)))
theorem Lg:bD ["row", "field", "own_field", "word"] ["row", "field"] (aP Ba):=nW
include t in
theorem Vs:bx P w K mg base fB 1 rA rB ["row", "field"] (iK K 2 pJ):=by
 unfold pJ
 refine qJ (k:=0) (g:=Bf) t.pJ Lg rfl rfl fun cdv A outer s H E hr=>?_
 have hu:=cg hr
 have nd:=Lg.nd
 exact (au (yX PassesOwn.never rfl (Je (bQ (aj 0) aH)) (Fz rfl (gY (bK 2 nd) (gY (bK 3 nd) wY))) (jD [2,3] (au (lK (cZ (of_eq hu) (aj 2) (aj 1) (cD _)) (au (bO (aj 3)) aR) aR) aR))) (au (bO wX) aR))
theorem vV:bD ["_law_book", "_law_k", "_law_row", "_law_text", "_law_found", "_law_left", "_law_rows"] ["_law_book", "_law_k"] (aP oH):=nW
include t in
theorem Gy (jM:bx P w K mg base fB 3 eY fW ["book", "name"] (iK K 2 dH)) (cU:bx P w K mg base fB 2 dM dR ["book", "other"] (iK K 2 aU)) (qz:bx P w K mg base fB 5 qw pK ["thing"] (iK K 1 lu)) (jk:bx P w K mg base fB 7 je jf ["text"] (iK K 1 cL)) (Cr:bx P w K mg base fB 7 oZ pL ["text"] (iK K 1 lZ)) (cN:bx P w K mg base fB 2 jc jd ["book"] (iK K 1 bA)) (rD:bx P w K mg base fB 1 mO mQ ["row"] (iK K 1 ju)) (Gz:bx P w K mg base fB 1 rA rB ["row", "field"] (iK K 2 pJ)):bx P w K mg base fB 8 fY gP ["_law_book", "_law_k"] (iK K 2 dW):=by
 unfold dW
 refine qJ (k:=7) (g:=oN) t.dW vV rfl rfl fun cdv A outer s H E hr=>?_
 have hu:=cg hr
 have nd:=vV.nd
 exact (au (bN 2 nd (bQ (aj 0) (aj 1))) (au (bN 3 nd (aX rD (hr.mono (by decide)) rfl t.KQ t.KR t.KN (ak (aj 2) aA))) (au (bN 4 nd (aX Cr (hr.mono (by decide)) rfl t.Vn t.Vo t.Vm (ak (aj 3) aA))) (au (lK (Hz (qO (cZ (pZ hu) (aj 4) (aj 2) (cD _)) (qO (cZ R7 (aX qz (hr.mono (by decide)) rfl t.KH t.KJ t.KD (ak (aj 4) aA)) tK (cD _)) (qO (cZ (pZ hu) (aX cN (hr.mono (by decide)) rfl t.jh t.ji t.jg (ak (qQ (ak (aj 2) aA)) aA)) (aj 3) (cD _)) (rH (cZ (pZ hu) (aX jk (hr.mono (by decide)) rfl t.zQ t.zR t.zP (ak (aj 3) aA)) (qQ (ak (aj 2) aA)) (cD _))))))) (au (bO tK) aR) aR) (au (lK (cZ (pZ hu) (bQ (zx (aX cN (hr.mono (by decide)) rfl t.jh t.ji t.jg (ak (aj 0) aA)) j5) (aj 1)) (aj 3) (cD _)) (au (bO tK) aR) aR) (au (lK (tL (pW (bT (Ga rfl) rfl t.El FZ (ak (j4 ["_law_field", "_law_word"] (w6 ["_law_found"] [4]) rfl (jA (bQ (aj 2) aH)) (fun _ _ _ _=>(Fz rfl (gY (bK 1 (by show List.Nodup (_++_);decide +kernel)) (gY (bK 2 (by show List.Nodup (_++_);decide +kernel)) wY)))) (fun _ _ _ _=>cH) (fun _ _ _ _=>(BZ (of_eq hu) (aX Gz (hr.mono (by decide)) rfl t.YB t.YC t.Yz (ak (aj 0) (ak (aj 1) aA))) (aj 2) (cD _))) (Uo (vN (dY) (vN (dY) O8)))) aA)))) (au (bO tK) aR) aR) (au (bN 5 nd (aX jM (hr.mono (by decide)) rfl t.zN t.zO t.zM (ak (aj 0) (ak (bQ (aj 2) aH) aA)))) (au (lK (Hz (qO (cZ (pZ hu) (aj 5) (bf bZ (uz (aj 0) jC (gZ (aj 1))) (uz (aj 0) (gZ (bf bZ (aj 1) aH)) jC)) (cD _)) (rH (cZ (pZ hu) (aX cU (hr.mono (by decide)) rfl t.gR t.gU t.gQ (ak (aj 5) (ak (qQ (ak (aj 2) aA)) aA))) (bf bZ (bf bZ (uz (aj 0) jC (gZ (aj 1))) (uz (aj 0) (gZ (bf bZ (aj 1) aH)) jC)) (qQ (ak (aj 2) aA))) (cD _))))) (au (bO tK) aR) aR) (au (bN 6 nd (zx (aX cN (hr.mono (by decide)) rfl t.jh t.ji t.jg (ak (aj 0) aA)) j5)) (au (bO (BZ (of_eq hu) (aX cN (hr.mono (by decide)) rfl t.jh t.ji t.jg (ak (aj 5) aA)) (Dv (bf bZ (uz (aj 6) jC (gZ (aj 1))) (uz (aj 6) (gZ (bf bZ (aj 1) aH)) jC))) (cD _))) aR))))))))))
theorem abe:bD ["_law_script", "_law_book", "_law_xs", "_law_one", "_law_two", "_law_text"] ["_law_script"] (aP Kh):=nW
include t in
theorem agr (o7:bx P w K mg base fB 1 mD mF ["_law_script", "_law_k"] (iK K 2 ig)) (jy:bx P w K mg base fB 1 gG iz ["_law_cell_here", "_law_many"] (iK K 2 dG)) (sG:bx P w K mg base fB 8 fY gP ["_law_book", "_law_k"] (iK K 2 dW)) (sH:bx P w K mg base fB 4 fX gO ["_law_book", "_law_xs"] (iK K 2 dU)) (mV:bx P w K mg base fB 7 cM dD ["_law_book", "_law_one", "_law_two"] (iK K 3 bV)) (zY:bx P w K mg base fB 8 mU nG ["_law_text"] (iK K 1 jX)) (sI:bx P w K mg base fB 3 fU gK ["_law_script", "_law_at", "_law_most"] (iK K 3 fO)) (jk:bx P w K mg base fB 7 je jf ["text"] (iK K 1 cL)) (cN:bx P w K mg base fB 2 jc jd ["book"] (iK K 1 bA)):bx P w K mg base fB 9 Oa Kq ["_law_script"] (iK K 1 uQ):=by
 unfold uQ
 refine qJ (k:=8) (g:=WX) t.uQ abe rfl rfl fun cdv A outer s H E hr=>?_
 have hu:=cg hr
 have nd:=abe.nd
 exact (au (bN 1 nd (aX sI (hr.mono (by decide)) rfl t.HN t.HS t.HJ (ak (aj 0) (ak aH (ak aH aA))))) (au (bN 2 nd (aX jy (hr.mono (by decide)) rfl t.vB t.vC t.vA (ak (jW (aX o7 (hr.mono (by decide)) rfl t.Cm t.Cp t.Ck (ak (aj 0) (ak aH aA)))) (ak aH aA)))) (au (Uj (jW (bT aaZ rfl t.zT Nr (ak (tM (ak (bf gq (bQ (aj 2) aH) (bf bZ (bT lG rfl t.nR lD (ak (aj 1) aA)) aH)) (ak (bf gq (bQ (aj 2) aH) (bf bZ (bT lG rfl t.nR lD (ak (aj 1) aA)) aH)) aA))) aA))) (agn rfl (gY (bK 3 nd) (gY (bK 4 nd) wY)))) (au (lK (Hz (qO (tL (pW (aX mV (hr.mono (by decide)) rfl t.zK t.zL t.zJ (ak (aj 1) (ak (aj 3) (ak (aj 4) aA)))))) (rH (cZ (pZ hu) (aX sH (hr.mono (by decide)) rfl t.Ib t.Ie t.Ia (ak (aj 1) (ak (jW (uz (aj 2) (gZ aH) jC)) aA))) (qQ aA) (cD _))))) (au (bO tK) aR) aR) (au (lK (Hz (qO (cZ (pZ hu) (aX jk (hr.mono (by decide)) rfl t.zQ t.zR t.zP (ak (jW (aX cN (hr.mono (by decide)) rfl t.jh t.ji t.jg (ak (aj 1) aA))) aA)) (aj 1) (cD _)) (rH (cZ (pZ hu) (aX cN (hr.mono (by decide)) rfl t.jh t.ji t.jg (ak (qQ aA) aA)) j5 (cD _))))) (au (bO tK) aR) aR) (au (bN 5 nd (aX cN (hr.mono (by decide)) rfl t.jh t.ji t.jg (ak (aj 1) aA))) (au (lK (Hz (O2 (cZ (pZ hu) (aj 1) (qQ aA) (cD _)) (O2 (cZ Ph (bT lG rfl t.nR lD (ak (aj 5) aA)) aH (cD _)) (Q0 (cZ (pZ hu) (aX zY (hr.mono (by decide)) rfl t.SQ t.SX t.SN (ak (aj 5) aA)) (bT lG rfl t.nR lD (ak (aj 1) aA)) (cD _)))))) (au (bO tK) aR) aR) (au (bO (bT (Ga rfl) rfl t.El FZ (ak (j4 ["_law_k"] (w6 ["_law_book"] [1]) rfl (Ur (pX rfl t.oO (ak (bT lG rfl t.nR lD (ak (aj 1) aA)) aA))) (fun _ _ _ _=>(bK 1 (by show List.Nodup (_++_);decide +kernel))) (fun _ _ _ _=>cH) (fun _ _ _ _=>(jW (aX sG (hr.mono (by decide)) rfl t.Ih t.Ii t.Ig (ak (aj 0) (ak (aj 1) aA))))) (dY)) aA))) aR))))))))
end
theorem all_mk {l:PySem.W.OpenLaw} {w:World} {K:FG_} {h:Heap} {mg:Str->Option Value} {fa:Addr} {f0:Addr} {od0 an0:Option Addr} {sl0:Array (Option Value)} {oc0 kV0 dc0 pm0 cd0 ct0:Value} {f1:Addr} {od1 an1:Option Addr} {sl1:Array (Option Value)} {oc1 kV1 dc1 pm1 cd1 ct1:Value} {f2:Addr} {od2 an2:Option Addr} {sl2:Array (Option Value)} {oc2 kV2 dc2 pm2 cd2 ct2:Value} {f3:Addr} {od3 an3:Option Addr} {sl3:Array (Option Value)} {oc3 kV3 dc3 pm3 cd3 ct3:Value} {f4:Addr} {od4 an4:Option Addr} {sl4:Array (Option Value)} {oc4 kV4 dc4 pm4 cd4 ct4:Value} {f5:Addr} {od5 an5:Option Addr} {sl5:Array (Option Value)} {oc5 kV5 dc5 pm5 cd5 ct5:Value} {f6:Addr} {od6 an6:Option Addr} {sl6:Array (Option Value)} {oc6 kV6 dc6 pm6 cd6 ct6:Value} {f7:Addr} {od7 an7:Option Addr} {sl7:Array (Option Value)} {oc7 kV7 dc7 pm7 cd7 ct7:Value} {f8:Addr} {od8 an8:Option Addr} {sl8:Array (Option Value)} {oc8 kV8 dc8 pm8 cd8 ct8:Value} {f9:Addr} {od9 an9:Option Addr} {sl9:Array (Option Value)} {oc9 kV9 dc9 pm9 cd9 ct9:Value} {f10:Addr} {akZ ak0:Option Addr} {ak1:Array (Option Value)} {ak2 ak3 ak4 ak5 air ak6:Value} {f11:Addr} {ak7 ak8:Option Addr} {ak9:Array (Option Value)} {ala alb alc ald ais ale:Value} {f12:Addr} {alg alh:Option Addr} {ali:Array (Option Value)} {alj alk alm aln ait alo:Value} {f13:Addr} {alq alr:Option Addr} {als:Array (Option Value)} {alu alv alw alx aiu aly:Value} {f14:Addr} {alA alB:Option Addr} {alC:Array (Option Value)} {alD alE alF alG aiv alH:Value} {f15:Addr} {alJ alK:Option Addr} {alL:Array (Option Value)} {alM alN alO alP aiw alQ:Value} {f16:Addr} {alS alT:Option Addr} {alU:Array (Option Value)} {alV alW alX alY aix alZ:Value} {f17:Addr} {al1 al2:Option Addr} {al3:Array (Option Value)} {al4 al5 al6 al7 aiy al8:Value} {f18:Addr} {ama amb:Option Addr} {amc:Array (Option Value)} {amd ame amf amg aiz amh:Value} {f19:Addr} {amj amk:Option Addr} {aml:Array (Option Value)} {amm amn amo amq aiA amr:Value} {f20:Addr} {amt amu:Option Addr} {amv:Array (Option Value)} {amw amx amy amA aiB amB:Value} {f21:Addr} {amD amE:Option Addr} {amF:Array (Option Value)} {amG amH amI amJ aiC amK:Value} {f22:Addr} {amM amN:Option Addr} {amO:Array (Option Value)} {amP amQ amR amS aiD amT:Value} {f23:Addr} {amV amW:Option Addr} {amX:Array (Option Value)} {amY amZ am0 am1 aiE am2:Value} {f24:Addr} {am4 am5:Option Addr} {am6:Array (Option Value)} {am7 am8 am9 ana aiF anb:Value} {f25:Addr} {ane anf:Option Addr} {ang:Array (Option Value)} {anh ani anj ank aiG anl:Value} {f26:Addr} {ano anp:Option Addr} {anq:Array (Option Value)} {anr ant anu anv aiH anw:Value} {f27:Addr} {anz anA:Option Addr} {anB:Array (Option Value)} {anC anD anE anF aiI anG:Value} {f28:Addr} {anI anJ:Option Addr} {anK:Array (Option Value)} {anL anM anN anO aiJ anP:Value} {f29:Addr} {anR aiK:Option Addr} {anS:Array (Option Value)} {anT aiL aiM aiN ags aiO:Value} {f30:Addr} {anU anV:Option Addr} {anW:Array (Option Value)} {anY anZ aoa aob aiQ aoc:Value} {f31:Addr} {aod aoe:Option Addr} {aof:Array (Option Value)} {aog aoh aoi aoj aiS aok:Value} {C D FE:Addr} (X:K.In h) (G:h.Ns mainGlobals mg) (hfa:mg "law" = some (.ref fa))
  (a0:Nn K "_law_cell" f0) (l0:Lk K f0 "_law_cell" xP oc0 od0 sl0 kV0 dc0 pm0 an0 cd0 ct0) (c0:PySem.W.codeIn K cd0 "_law_cell" = true) (k0:PySem.W.keepIn K (.ref f0)=true)
  (a1:Nn K "_law_numbers" f1) (l1:Lk K f1 "_law_numbers" rJ oc1 od1 sl1 kV1 dc1 pm1 an1 cd1 ct1) (c1:PySem.W.codeIn K cd1 "_law_numbers" = true) (k1:PySem.W.keepIn K (.ref f1)=true)
  (a2:Nn K "_law_names" f2) (l2:Lk K f2 "_law_names" uH oc2 od2 sl2 kV2 dc2 pm2 an2 cd2 ct2) (c2:PySem.W.codeIn K cd2 "_law_names" = true) (k2:PySem.W.keepIn K (.ref f2)=true)
  (a3:Nn K "_law_any_text" f3) (l3:Lk K f3 "_law_any_text" qj oc3 od3 sl3 kV3 dc3 pm3 an3 cd3 ct3) (c3:PySem.W.codeIn K cd3 "_law_any_text" = true) (k3:PySem.W.keepIn K (.ref f3)=true)
  (a4:Nn K "_law_wide_row" f4) (l4:Lk K f4 "_law_wide_row" ql oc4 od4 sl4 kV4 dc4 pm4 an4 cd4 ct4) (c4:PySem.W.codeIn K cd4 "_law_wide_row" = true) (k4:PySem.W.keepIn K (.ref f4)=true)
  (a5:Nn K "_law_wide_book" f5) (l5:Lk K f5 "_law_wide_book" oA oc5 od5 sl5 kV5 dc5 pm5 an5 cd5 ct5) (c5:PySem.W.codeIn K cd5 "_law_wide_book" = true) (k5:PySem.W.keepIn K (.ref f5)=true)
  (a6:Nn K "books_together" f6) (l6:Lk K f6 "books_together" gH oc6 od6 sl6 kV6 dc6 pm6 an6 cd6 ct6) (c6:PySem.W.codeIn K cd6 "books_together" = true) (k6:PySem.W.keepIn K (.ref f6)=true)
  (a7:Nn K "is_tuple" f7) (l7:Lk K f7 "is_tuple" xQ oc7 od7 sl7 kV7 dc7 pm7 an7 cd7 ct7) (c7:PySem.W.codeIn K cd7 "is_tuple" = true) (k7:PySem.W.keepIn K (.ref f7)=true)
  (a8:Nn K "is_text_of" f8) (l8:Lk K f8 "is_text_of" sS oc8 od8 sl8 kV8 dc8 pm8 an8 cd8 ct8) (c8:PySem.W.codeIn K cd8 "is_text_of" = true) (k8:PySem.W.keepIn K (.ref f8)=true)
  (a9:Nn K "is_name" f9) (l9:Lk K f9 "is_name" Ax oc9 od9 sl9 kV9 dc9 pm9 an9 cd9 ct9) (c9:PySem.W.codeIn K cd9 "is_name" = true) (k9:PySem.W.keepIn K (.ref f9)=true)
  (a10:Nn K "is_word" f10) (l10:Lk K f10 "is_word" Ay ak2 akZ ak1 ak3 ak4 ak5 ak0 air ak6) (c10:PySem.W.codeIn K air "is_word" = true) (k10:PySem.W.keepIn K (.ref f10)=true)
  (a11:Nn K "is_field_word" f11) (l11:Lk K f11 "is_field_word" oF ala ak7 ak9 alb alc ald ak8 ais ale) (c11:PySem.W.codeIn K ais "is_field_word" = true) (k11:PySem.W.keepIn K (.ref f11)=true)
  (a12:Nn K "are_rising" f12) (l12:Lk K f12 "are_rising" sU alj alg ali alk alm aln alh ait alo) (c12:PySem.W.codeIn K ait "are_rising" = true) (k12:PySem.W.keepIn K (.ref f12)=true)
  (a13:Nn K "are_words" f13) (l13:Lk K f13 "are_words" uI alu alq als alv alw alx alr aiu aly) (c13:PySem.W.codeIn K aiu "are_words" = true) (k13:PySem.W.keepIn K (.ref f13)=true)
  (a14:Nn K "is_row" f14) (l14:Lk K f14 "is_row" DW alD alA alC alE alF alG alB aiv alH) (c14:PySem.W.codeIn K aiv "is_row" = true) (k14:PySem.W.keepIn K (.ref f14)=true)
  (a15:Nn K "is_book" f15) (l15:Lk K f15 "is_book" Az alM alJ alL alN alO alP alK aiw alQ) (c15:PySem.W.codeIn K aiw "is_book" = true) (k15:PySem.W.keepIn K (.ref f15)=true)
  (a16:Nn K "show_row" f16) (l16:Lk K f16 "show_row" xT alV alS alU alW alX alY alT aix alZ) (c16:PySem.W.codeIn K aix "show_row" = true) (k16:PySem.W.keepIn K (.ref f16)=true)
  (a17:Nn K "show_book" f17) (l17:Lk K f17 "show_book" uJ al4 al1 al3 al5 al6 al7 al2 aiy al8) (c17:PySem.W.codeIn K aiy "show_book" = true) (k17:PySem.W.keepIn K (.ref f17)=true)
  (a18:Nn K "_law_again" f18) (l18:Lk K f18 "_law_again" rQ amd ama amc ame amf amg amb aiz amh) (c18:PySem.W.codeIn K aiz "_law_again" = true) (k18:PySem.W.keepIn K (.ref f18)=true)
  (a19:Nn K "_law_together_right" f19) (l19:Lk K f19 "_law_together_right" iW amm amj aml amn amo amq amk aiA amr) (c19:PySem.W.codeIn K aiA "_law_together_right" = true) (k19:PySem.W.keepIn K (.ref f19)=true)
  (a20:Nn K "book_without" f20) (l20:Lk K f20 "book_without" qm amw amt amv amx amy amA amu aiB amB) (c20:PySem.W.codeIn K aiB "book_without" = true) (k20:PySem.W.keepIn K (.ref f20)=true)
  (a21:Nn K "_law_taken_out" f21) (l21:Lk K f21 "_law_taken_out" oG amG amD amF amH amI amJ amE aiC amK) (c21:PySem.W.codeIn K aiC "_law_taken_out" = true) (k21:PySem.W.keepIn K (.ref f21)=true)
  (a22:Nn K "lines_in" f22) (l22:Lk K f22 "lines_in" xU amP amM amO amQ amR amS amN aiD amT) (c22:PySem.W.codeIn K aiD "lines_in" = true) (k22:PySem.W.keepIn K (.ref f22)=true)
  (a23:Nn K "row_in" f23) (l23:Lk K f23 "row_in" DX amY amV amX amZ am0 am1 amW aiE am2) (c23:PySem.W.codeIn K aiE "row_in" = true) (k23:PySem.W.keepIn K (.ref f23)=true)
  (a24:Nn K "read_book" f24) (l24:Lk K f24 "read_book" pH am7 am4 am6 am8 am9 ana am5 aiF anb) (c24:PySem.W.codeIn K aiF "read_book" = true) (k24:PySem.W.keepIn K (.ref f24)=true)
  (a25:Nn K "_law_twice" f25) (l25:Lk K f25 "_law_twice" rR anh ane ang ani anj ank anf aiG anl) (c25:PySem.W.codeIn K aiG "_law_twice" = true) (k25:PySem.W.keepIn K (.ref f25)=true)
  (a26:Nn K "read_row" f26) (l26:Lk K f26 "read_row" xV anr ano anq ant anu anv anp aiH anw) (c26:PySem.W.codeIn K aiH "read_row" = true) (k26:PySem.W.keepIn K (.ref f26)=true)
  (a27:Nn K "word_of" f27) (l27:Lk K f27 "word_of" Ba anC anz anB anD anE anF anA aiI anG) (c27:PySem.W.codeIn K aiI "word_of" = true) (k27:PySem.W.keepIn K (.ref f27)=true)
  (a28:Nn K "_law_row_right" f28) (l28:Lk K f28 "_law_row_right" oH anL anI anK anM anN anO anJ aiJ anP) (c28:PySem.W.codeIn K aiJ "_law_row_right" = true) (k28:PySem.W.keepIn K (.ref f28)=true)
  (a29:Nn K "law" f29) (l29:Lk K f29 "law" Kh anT anR anS aiL aiM aiN aiK ags aiO) (c29:PySem.W.codeIn K ags "law" = true) (k29:PySem.W.keepIn K (.ref f29)=true)
  (aC:Nn K "NoName" C) (aD:Nn K "NoText" D) (aFE:Nn K "FolkError" FE)
  (aI:PySem.W.findIn K (.ref C) "__init__" = some (some (.ref f30))) (lI:K.lookup f30=some ⟨anY,anU,.func (PySem.W.fnOf "__init__" "NoName.__init__" (ux zB) (jZ zB) (aP zB) .none anZ aoa aob anV aiQ aoc),anW⟩) (cI:PySem.W.codeIn K aiQ "NoName.__init__" = true) (kI:PySem.W.keepIn K (.ref f30)=true)
  (aJ:PySem.W.findIn K (.ref D) "__init__" = some (some (.ref f31))) (lJ:K.lookup f31=some ⟨aog,aod,.func (PySem.W.fnOf "__init__" "NoText.__init__" (ux Ho) (jZ Ho) (aP Ho) .none aoh aoi aoj aoe aiS aok),aof⟩) (cJ:PySem.W.codeIn K aiS "NoText.__init__" = true) (kJ:PySem.W.keepIn K (.ref f31)=true)
  (e1:TV K C f30 veM "ValueError.__new__" = true) (e2:setIn K C "name" = true) (e3:PySem.W.specialIn K (.ref FE) "__getattribute__" = some (some (.builtin "type.__getattribute__"))) (e4:PySem.W.readsIn K FE (.type "type")=true) (e5:PySem.W.findCls K (.ref FE) (.type "type") "__init__" = some (.val (.builtin "ValueError.__init__"))) (e6:PySem.W.keepIn K (.ref C)=true)
  (e7:PySem.W.exmOne K (.ref C) (.ref C)=some true) (e8:yu K C=true) (e9:PySem.W.findIn K (.ref C) "name" = some none) (d1:TV K D f31 veM "ValueError.__new__" = true) (d2:setIn K D "row" = true) (d6:PySem.W.keepIn K (.ref D)=true) (d7:PySem.W.exmOne K (.ref D) (.ref D)=some true) (d8:yu K D=true) (d9:PySem.W.findIn K (.ref D) "row" = some none)
  (W0:Zn K "abs")
  (El:Zn K "all")
  (mC:Zn K "enumerate")
  (W2:Zn K "int")
  (gB:Zn K "isinstance")
  (nR:Zn K "len")
  (oO:Zn K "range")
  (Ko:Zn K "set")
  (zT:Zn K "sorted")
  (Ob:Zn K "str")
  (oR:Zn K "tuple")
  {Ld:Tok} (Lh:PySem.W.nsIn K mainGlobals "FIGURES" = some (some (.str "0123456789" Ld)))
  {Cq:Tok} (Li:PySem.W.nsIn K mainGlobals "LETTERS" = some (some (.str "abcdefghijklmnopqrstuvwxyz" Cq)))
  {yC:Tok} (yF:PySem.W.nsIn K mainGlobals "LONGEST_NAME" = some (some (.int 8 yC)))
  {yD:Tok} (yG:PySem.W.nsIn K mainGlobals "LONGEST_WORD" = some (some (.int 12 yD))) :
  ∃ fd:FuncData,(∀ (s:Shared) (v:Value),BindsTo s fd ⟨[v],[]⟩ [("_law_script", v)])/\∀ base:Heap,K.In base->base.Ns mainGlobals mg->bx l.prog w K mg base fB 9 fa fd ["_law_script"] (iK K 1 uQ):=by
 have e:=hfa.symm.trans (zC X G a29)
 cases e
 have F0:=dF (st:=xP) l0 c0 k0
 have b0:=F0.binds (ps:=["_law_script", "_law_k"]) fun _ _ _ _ _ _=>len2 fun _ _=>rfl
 have F1:=dF (st:=rJ) l1 c1 k1
 have b1:=F1.binds (ps:=["_law_cell_here", "_law_many"]) fun _ _ _ _ _ _=>len2 fun _ _=>rfl
 have F2:=dF (st:=uH) l2 c2 k2
 have b2:=F2.binds (ps:=["_law_xs", "_law_many"]) fun _ _ _ _ _ _=>len2 fun _ _=>rfl
 have F3:=dF (st:=qj) l3 c3 k3
 have b3:=F3.binds (ps:=["_law_x", "_law_letters", "_law_most"]) fun _ _ _ _ _ _=>ado fun _ _ _=>rfl
 have F4:=dF (st:=ql) l4 c4 k4
 have b4:=F4.binds (ps:=["_law_name", "_law_xs"]) fun _ _ _ _ _ _=>len2 fun _ _=>rfl
 have F5:=dF (st:=oA) l5 c5 k5
 have b5:=F5.binds (ps:=["_law_script", "_law_at", "_law_most"]) fun _ _ _ _ _ _=>ado fun _ _ _=>rfl
 have F6:=dF (st:=gH) l6 c6 k6
 have b6:=F6.binds (ps:=["book", "other"]) fun _ _ _ _ _ _=>len2 fun _ _=>rfl
 have F7:=dF (st:=xQ) l7 c7 k7
 have b7:=F7.binds (ps:=["thing", "many"]) fun _ _ _ _ _ _=>len2 fun _ _=>rfl
 have F8:=dF (st:=sS) l8 c8 k8
 have b8:=F8.binds (ps:=["thing", "signs", "longest"]) fun _ _ _ _ _ _=>ado fun _ _ _=>rfl
 have F9:=dF (st:=Ax) l9 c9 k9
 have b9:=F9.binds (ps:=["thing"]) fun _ _ _ _ _ _=>len1 fun _=>rfl
 have F10:=dF (st:=Ay) l10 c10 k10
 have b10:=F10.binds (ps:=["thing"]) fun _ _ _ _ _ _=>len1 fun _=>rfl
 have F11:=dF (st:=oF) l11 c11 k11
 have b11:=F11.binds (ps:=["thing"]) fun _ _ _ _ _ _=>len1 fun _=>rfl
 have F12:=dF (st:=sU) l12 c12 k12
 have b12:=F12.binds (ps:=["things"]) fun _ _ _ _ _ _=>len1 fun _=>rfl
 have F13:=dF (st:=uI) l13 c13 k13
 have b13:=F13.binds (ps:=["thing"]) fun _ _ _ _ _ _=>len1 fun _=>rfl
 have F14:=dF (st:=DW) l14 c14 k14
 have b14:=F14.binds (ps:=["thing"]) fun _ _ _ _ _ _=>len1 fun _=>rfl
 have F15:=dF (st:=Az) l15 c15 k15
 have b15:=F15.binds (ps:=["thing"]) fun _ _ _ _ _ _=>len1 fun _=>rfl
 have F16:=dF (st:=xT) l16 c16 k16
 have b16:=F16.binds (ps:=["row"]) fun _ _ _ _ _ _=>len1 fun _=>rfl
 have F17:=dF (st:=uJ) l17 c17 k17
 have b17:=F17.binds (ps:=["book"]) fun _ _ _ _ _ _=>len1 fun _=>rfl
 have F18:=dF (st:=rQ) l18 c18 k18
 have b18:=F18.binds (ps:=["_law_book", "_law_part"]) fun _ _ _ _ _ _=>len2 fun _ _=>rfl
 have F19:=dF (st:=iW) l19 c19 k19
 have b19:=F19.binds (ps:=["_law_book", "_law_one", "_law_two"]) fun _ _ _ _ _ _=>ado fun _ _ _=>rfl
 have F20:=dF (st:=qm) l20 c20 k20
 have b20:=F20.binds (ps:=["book", "name"]) fun _ _ _ _ _ _=>len2 fun _ _=>rfl
 have F21:=dF (st:=oG) l21 c21 k21
 have b21:=F21.binds (ps:=["_law_book", "_law_xs"]) fun _ _ _ _ _ _=>len2 fun _ _=>rfl
 have F22:=dF (st:=xU) l22 c22 k22
 have b22:=F22.binds (ps:=["text"]) fun _ _ _ _ _ _=>len1 fun _=>rfl
 have F23:=dF (st:=DX) l23 c23 k23
 have b23:=F23.binds (ps:=["text"]) fun _ _ _ _ _ _=>len1 fun _=>rfl
 have F24:=dF (st:=pH) l24 c24 k24
 have b24:=F24.binds (ps:=["text"]) fun _ _ _ _ _ _=>len1 fun _=>rfl
 have F25:=dF (st:=rR) l25 c25 k25
 have b25:=F25.binds (ps:=["_law_text"]) fun _ _ _ _ _ _=>len1 fun _=>rfl
 have F26:=dF (st:=xV) l26 c26 k26
 have b26:=F26.binds (ps:=["text"]) fun _ _ _ _ _ _=>len1 fun _=>rfl
 have F27:=dF (st:=Ba) l27 c27 k27
 have b27:=F27.binds (ps:=["row", "field"]) fun _ _ _ _ _ _=>len2 fun _ _=>rfl
 have F28:=dF (st:=oH) l28 c28 k28
 have b28:=F28.binds (ps:=["_law_book", "_law_k"]) fun _ _ _ _ _ _=>len2 fun _ _=>rfl
 have F29:=dF (st:=Kh) l29 c29 k29
 have b29:=F29.binds (ps:=["_law_script"]) fun _ _ _ _ _ _=>len1 fun _=>rfl
 have FI:qI K "__init__" "NoName.__init__" zB f30 _:=dF (st:=zB) lI cI kI
 have bI:=FI.binds (ps:=["self", "name"]) fun _ _ _ _ _ _=>len2 fun _ _=>rfl
 have FJ:qI K "__init__" "NoText.__init__" Ho f31 _:=dF (st:=Ho) lJ cJ kJ
 have bJ:=FJ.binds (ps:=["self", "row"]) fun _ _ _ _ _ _=>len2 fun _ _=>rfl
 have t:T K mg _ _ _ _ _ _ _ _ _ _ _ _ _ _ _ _ _ _ _ _ _ _ _ _ _ _ _ _ _ _ _ _ _ _ _ _ _ _ _ _ _ _ _ _ _ _ _ _ _ _ _ _ _ _ _ _ _ _ _ _ _ _ _ _ _ _ _:=⟨FI,bI,FJ,bJ,⟨e3,e4,e5⟩,zC X G aFE,e1,e2,zC X G aC,e6,e7,e8,e9,d1,d2,zC X G aD,d6,d7,d8,d9,F0,b0,zC X G a0,k0,F1,b1,zC X G a1,k1,F2,b2,zC X G a2,k2,F3,b3,zC X G a3,k3,F4,b4,zC X G a4,k4,F5,b5,zC X G a5,k5,F6,b6,zC X G a6,k6,F7,b7,zC X G a7,k7,F8,b8,zC X G a8,k8,F9,b9,zC X G a9,k9,F10,b10,zC X G a10,k10,F11,b11,zC X G a11,k11,F12,b12,zC X G a12,k12,F13,b13,zC X G a13,k13,F14,b14,zC X G a14,k14,F15,b15,zC X G a15,k15,F16,b16,zC X G a16,k16,F17,b17,zC X G a17,k17,F18,b18,zC X G a18,k18,F19,b19,zC X G a19,k19,F20,b20,zC X G a20,k20,F21,b21,zC X G a21,k21,F22,b22,zC X G a22,k22,F23,b23,zC X G a23,k23,F24,b24,zC X G a24,k24,F25,b25,zC X G a25,k25,F26,b26,zC X G a26,k26,F27,b27,zC X G a27,k27,F28,b28,zC X G a28,k28,F29,b29,zC X G a29,k29,qh X G W0,qh X G El,qh X G mC,qh X G W2,qh X G gB,qh X G nR,qh X G oO,qh X G Ko,qh X G zT,qh X G Ob,qh X G oR,⟨_,zC X G Lh⟩,⟨_,zC X G Li⟩,⟨_,zC X G yF⟩,⟨_,zC X G yG⟩⟩
 refine⟨PySem.W.fnOf "law" "law" (ux Kh) (jZ Kh) (aP Kh) .none aiL aiM aiN aiK ags aiO,fun s v=>.of_eq rfl,fun base _ _=>?_⟩
 have o7:=S5 (P:=l.prog) (w:=w) (base:=base) t
 have jy:=K8 (P:=l.prog) (w:=w) (base:=base) t
 have zV:=Qh (P:=l.prog) (w:=w) (base:=base) t
 have qy:=Ij (P:=l.prog) (w:=w) (base:=base) t
 have ud:=Ik (P:=l.prog) (w:=w) (base:=base) t qy
 have sI:=Gr (P:=l.prog) (w:=w) (base:=base) t o7 zV jy ud
 have cU:=Eo (P:=l.prog) (w:=w) (base:=base) t
 have rC:=S7 (P:=l.prog) (w:=w) (base:=base) t
 have nH:=MN (P:=l.prog) (w:=w) (base:=base) t
 have nJ:=Vp (P:=l.prog) (w:=w) (base:=base) t nH
 have Gv:=Vq (P:=l.prog) (w:=w) (base:=base) t nH
 have sy:=Gu (P:=l.prog) (w:=w) (base:=base) t nJ rC Gv
 have yc:=MP (P:=l.prog) (w:=w) (base:=base) t
 have zW:=Qi (P:=l.prog) (w:=w) (base:=base) t yc sy
 have qz:=YG (P:=l.prog) (w:=w) (base:=base) t zW nJ rC
 have Gw:=Vr (P:=l.prog) (w:=w) (base:=base) t qz
 have rD:=S8 (P:=l.prog) (w:=w) (base:=base) t
 have cN:=Qj (P:=l.prog) (w:=w) (base:=base) t rD
 have zX:=Qk (P:=l.prog) (w:=w) (base:=base) t
 have mV:=yM (P:=l.prog) (w:=w) (base:=base) t zX cU Gw cN
 have jM:=Il (P:=l.prog) (w:=w) (base:=base) t nJ
 have sH:=Gx (P:=l.prog) (w:=w) (base:=base) t jM
 have mj:=S9 (P:=l.prog) (w:=w) (base:=base) t
 have mq:=YH (P:=l.prog) (w:=w) (base:=base) t qz
 have jk:=Ql (P:=l.prog) (w:=w) (base:=base) t mj mq
 have zY:=Qm (P:=l.prog) (w:=w) (base:=base) t mj jk mq
 have Cr:=Tc (P:=l.prog) (w:=w) (base:=base) t mq
 have Gz:=Vs (P:=l.prog) (w:=w) (base:=base) t
 have sG:=Gy (P:=l.prog) (w:=w) (base:=base) t jM cU qz jk Cr cN rD Gz
 have aiT:=agr (P:=l.prog) (w:=w) (base:=base) t o7 jy sG sH mV zY sI jk cN
 exact aiT
theorem walk {l:PySem.W.OpenLaw} {q:Program} {loose:LS_} {XP:(Str->Option Value)->Heap->Prop} {YP:World->Heap->Prop} {d:DefRec} {K:Params->FG_} (hn:l.most=some 63) (hdf:d.params.defaults=[])
  (h1:∀ ns:List Int,ns.length<=63->uQ [.z (.lst (ns.map .int))]=some (.z (.bl true))) (h2:∀ ns:List Int,ns.length<=63->uQ [.l (ns.map .int)]=some (.z (.bl true)))
  (hY:∀ (w:World) (h:Heap),YP w h->(K w.params).In h)
  (F:∀ (w:World) (mg:Str->Option Value) (fa:Addr) (h:Heap),(K w.params).In h->h.Ns mainGlobals mg->mg d.name=some (.ref fa) →
   ∃ fd:FuncData,(∀ (s:Shared) (u:Value),BindsTo s fd ⟨[u],[]⟩ [("_law_script", u)])/\∀ base:Heap,(K w.params).In base->base.Ns mainGlobals mg->bx l.prog w (K w.params) mg base fB 9 fa fd ["_law_script"] (iK (K w.params) 1 uQ)) :
  PySem.W.WalkO q loose XP YP l.row.toRowW d [] (fun f vs=>PySem.call f vs):=
 L2.Zx (n:=63) (k:=9) (x := "_law_script") (CX:=fB) (sp:=fun K=>iK K 1 uQ) hn (by decide) hdf ⟨rfl,by decide,by decide⟩ hY F (fun K H a ns hl hO hS=>afH h1 h2 K H a ns hl hO hS) fun _ _ _ _ z=>z
end G05
end
section
set_option synthInstance.maxSize 100000
namespace G05
open PySem PySem.Spec PyProof.Rows L2 P1
noncomputable section
def BP  (v6:Int) (v7:Int):Int:=(let v6:=(((v6 * (69621:Int))+v7) % (2147483647:Int));v6)
theorem M4 (v0:LI_) {nZ:Bx} (qN:Lp nZ (v0.map eI)) (v5:Int) (v6:Int) (v7:Int):RP BJ [some nZ,some ((zE eI) v5),some ((zE eI) v6),some ((zE eI) v7)] (fun s=>Out.nx ((fun v6:Int=>[some nZ,some ((zE eI) v5),some ((zE eI) v6),none]) s)) (BP  v6 v7) (none):=R.tp (cX (cR 2 (nY (jE (Wn (aq 2 (zE eI) v6 rfl) 69621 (by decide)) (aq 3 (zE eI) v7 rfl)) 2147483647 (by decide)) (fun _=>rfl) fun v6=>(eF (nu v6 rfl))))
def aQ (v0:LI_) (v5:Int):Int:=(if (decide (v5 < (v0.length:Int)))=true then (at' v0 v5) else (let v6:=(((48271:Int) * (((v5 * v5)+((7:Int) * v5))+(11:Int))) % (2147483647:Int));(let v6:Int:=((cut v0 none (some (3:Int))).foldl (fun (v6:Int) (v7:Int)=>(BP  v6 v7)) v6);v6)))
def o8 (v0:LI_) (v5:Int):Prop:=(((decide (v5 < (v0.length:Int)))=true->In v0.length v5)/\((decide (v5 < (v0.length:Int)))=false->Mul v5 v5))
theorem Vt (v0:LI_) {nZ:Bx} (qN:Lp nZ (v0.map eI)) (v5:Int):RP xW [some nZ,some ((zE eI) v5),none,none] (fun r=>Out.rt ((zE eI) r)) (aQ v0 v5) (some (o8 v0 v5)):=R.tp (nQ (gn (aan (aq 1 (zE eI) v5 rfl) (x_len (lW 0 eI v0 qN rfl)))) (cX (cY (fun r=>r) (qe (lW 0 eI v0 qN rfl) (aq 1 (zE eI) v5 rfl)) (fun _=>rfl) fun _=>rfl)) (eF (cR 2 (nY (xq 48271 (by decide) (jE (jE (aem (aq 1 (zE eI) v5 rfl) (aq 1 (zE eI) v5 rfl)) (xq 7 (by decide) (aq 1 (zE eI) v5 rfl))) (x_i 11))) 2147483647 (by decide)) (fun _=>rfl) fun v6=>(afU (fun v6:Int=>[some nZ,some ((zE eI) v5),some ((zE eI) v6),none]) v6 rfl (aky (adb (lW 0 eI v0 qN rfl) Gg (Cg (x_i 3)))) _ (fun _ _=>rfl) (fun (v6:Int) (v7:Int)=>(M4 v0 qN v5 v6 v7).r) (fun _ _=>rfl) fun v6=>(cY (fun r=>r) (aq 2 (zE eI) v6 rfl) (fun _=>rfl) fun _=>rfl)))))
theorem Cu:∀ v bs,(aL eI (aZ eI aN)) v bs->bs.length=2/\(hold (some (o8 v.1 v.2.1))->ig (bs.map lend)=some ((zE eI) (aQ v.1 v.2.1))):=by
 rintro⟨v0,v5,_⟩ _ ⟨nZ,_,rfl,qN,⟨_,rfl,rfl⟩⟩
 exact⟨rfl,fun h=>cG (g:=xW) (n:=4) (bs:=[lend nZ,.z (eI v5)]) (Vt v0 (JV qN) v5) h⟩
def cV  (s1:Int×LI_×Int) (v5:Int):Int×LI_×Int:=(let v6:=((((s1.1 * ((s1.1 % (65521:Int))+(40487:Int)))+((7:Int) * v5))+(5:Int)) % (1999999973:Int));(let v9:=s1.2.1++[(at' [v6,(s1.2.2 % (1000000:Int))] (if (decide ((0:Int) < s1.2.2))=true then (1:Int) else 0))];(let va:=(s1.2.2 / (1000000:Int));(v6,v9,va))))
def nM  (s1:Int×LI_×Int) (v5:Int):Prop:=(Mul s1.1 ((s1.1 % (65521:Int))+(40487:Int))/\(let v6:=((((s1.1 * ((s1.1 % (65521:Int))+(40487:Int)))+((7:Int) * v5))+(5:Int)) % (1999999973:Int));(In [v6,(s1.2.2 % (1000000:Int))].length (if (decide ((0:Int) < s1.2.2))=true then (1:Int) else 0)/\Ms s1.2.1.length)))
theorem GC (v7:Int) (v8:Int) (s1:Int×LI_×Int) (v5:Int):RP qW [some ((zE eI) v7),some ((zE eI) v8),some ((oE eI) s1.2.1),some ((zE eI) s1.1),some ((zE eI) s1.2.2),some ((zE eI) v5)] (fun s=>Out.nx ((fun s1:Int×LI_×Int=>[some ((zE eI) v7),some ((zE eI) v8),some ((oE eI) s1.2.1),some ((zE eI) s1.1),some ((zE eI) s1.2.2),none]) s)) (cV  s1 v5) (some (nM  s1 v5)):=R.tp (cX (cR 3 (nY (jE (jE (aem (aq 3 (zE eI) s1.1 rfl) (jE (nY (aq 3 (zE eI) s1.1 rfl) 65521 (by decide)) (x_i 40487))) (xq 7 (by decide) (aq 5 (zE eI) v5 rfl))) (x_i 5)) 1999999973 (by decide)) (fun _=>rfl) fun v6=>(cX (aaB 2 s1.2.1 rfl (qe (su (Bv (j6 (aq 3 (zE eI) v6 rfl) (j6 (nY (aq 4 (zE eI) s1.2.2 rfl) 1000000 (by decide)) (qd eI))) (ZO rfl))) (afQ (akt (aq 4 (zE eI) s1.2.2 rfl) (x_i 0)))) fun v9=>(cX (cR 4 (Dw (aq 4 (zE eI) s1.2.2 rfl) 1000000 (by decide)) (fun _=>rfl) fun va=>(eF (nu (v6,v9,va) rfl))))))))
def vW (v7:Int) (v8:Int) (v9:LI_) (v6:Int) (va:Int):LI_:=v9
def vX:Ev->Option Out:=(aM (O6 2) eE)
theorem GD (v7:Int) (v8:Int) (v9:LI_) (v6:Int) (va:Int):RP vX [some ((zE eI) v7),some ((zE eI) v8),some ((oE eI) v9),some ((zE eI) v6),some ((zE eI) va),none] (fun r=>Out.rt ((oE eI) r)) (vW v7 v8 v9 v6 va) (none):=R.tp (aaz 2 (fun r=>r) v9 rfl (fun _=>rfl) fun _=>rfl)
def nO (v7:Int) (v8:Int) (v9:LI_) (v6:Int) (va:Int):LI_:=(let s1:Int×LI_×Int:=((rng 0 v8.toNat).foldl (fun (s1:Int×LI_×Int) (v5:Int)=>(cV  s1 v5)) (v6,v9,va));(vW v7 v8 s1.2.1 s1.1 s1.2.2))
def rE (v7:Int) (v8:Int) (v9:LI_) (v6:Int) (va:Int):Prop:=(Rg v8/\HD (fun (s1:Int×LI_×Int) (v5:Int)=>(cV  s1 v5)) (fun (s1:Int×LI_×Int) (v5:Int)=>some (nM  s1 v5)) (rng 0 v8.toNat) (v6,v9,va))
def vY:Ev->Option Out:=(aM (yL (Ux (ao (gv 1) aO)) (sO 5) qW) vX)
theorem GF (v7:Int) (v8:Int) (v9:LI_) (v6:Int) (va:Int):RP vY [some ((zE eI) v7),some ((zE eI) v8),some ((oE eI) v9),some ((zE eI) v6),some ((zE eI) va),none] (fun r=>Out.rt ((oE eI) r)) (nO v7 v8 v9 v6 va) (some (rE v7 v8 v9 v6 va)):=R.tp (RM (fun s1:Int×LI_×Int=>[some ((zE eI) v7),some ((zE eI) v8),some ((oE eI) s1.2.1),some ((zE eI) s1.1),some ((zE eI) s1.2.2),none]) (v6,v9,va) rfl (Dz (aq 1 (zE eI) v8 rfl)) _ (fun _ _=>rfl) (fun (s1:Int×LI_×Int) (v5:Int)=>(GC v7 v8 s1 v5).r) fun s1=>(GD v7 v8 s1.2.1 s1.1 s1.2.2).r)
def vZ (v7:Int) (v8:Int) (v9:LI_) (v6:Int) (va:Int):LI_:=(let va:Int:=(if ((decide (v7 < (0:Int)))||(decide (((10:Int) ^ 18)<=v7)))=true then (let va:=(if v7 < 0 then -v7 else v7);va) else va);(nO v7 v8 v9 v6 va))
def wg (v7:Int) (v8:Int) (v9:LI_) (v6:Int) (va:Int):Prop:=(let va:Int:=(if ((decide (v7 < (0:Int)))||(decide (((10:Int) ^ 18)<=v7)))=true then (let va:=(if v7 < 0 then -v7 else v7);va) else va);(rE v7 v8 v9 v6 va))
def wj:Ev->Option Out:=(aM (wQ (G4 (qK Y5 (gv 0) (cB (.int 0))) (qK geB (gv 0) (b2 acK (cB (.int 10)) (cB (.int 18))))) (aM (aM (setG 4 (dZ X5 (ao (gv 0) aO))) eE) (qL [])) (aM eE (qL []))) vY)
theorem GJ (v7:Int) (v8:Int) (v9:LI_) (v6:Int) (va:Int):RP wj [some ((zE eI) v7),some ((zE eI) v8),some ((oE eI) v9),some ((zE eI) v6),some ((zE eI) va),none] (fun r=>Out.rt ((oE eI) r)) (vZ v7 v8 v9 v6 va) (some (wg v7 v8 v9 v6 va)):=R.tp (aen (fun va:Int=>[some ((zE eI) v7),some ((zE eI) v8),some ((oE eI) v9),some ((zE eI) v6),some ((zE eI) va),none]) (Ge (gn (aan (aq 0 (zE eI) v7 rfl) (x_i 0))) (gn (x_ge (aq 0 (zE eI) v7 rfl) (afM 10 18 18 (by decide) rfl)))) (cX (cR 4 (ah0 (aq 0 (zE eI) v7 rfl)) (fun _=>rfl) fun va=>(eF (nu va rfl)))) (eF (nu va rfl)) fun va=>(GF v7 v8 v9 v6 va).r)
def wk (v7:Int) (v8:Int) (v9:LI_) (v6:Int):LI_:=(let va:=(0:Int);(vZ v7 v8 v9 v6 va))
def wz (v7:Int) (v8:Int) (v9:LI_) (v6:Int):Prop:=(let va:=(0:Int);(wg v7 v8 v9 v6 va))
def wA:Ev->Option Out:=(aM (setG 4 (cB (.int 0))) wj)
theorem GK (v7:Int) (v8:Int) (v9:LI_) (v6:Int):RP wA [some ((zE eI) v7),some ((zE eI) v8),some ((oE eI) v9),some ((zE eI) v6),none,none] (fun r=>Out.rt ((oE eI) r)) (wk v7 v8 v9 v6) (some (wz v7 v8 v9 v6)):=R.tp (cR 4 (x_i 0) (fun _=>rfl) fun va=>(GJ v7 v8 v9 v6 va).r)
def wB (v7:Int) (v8:Int) (v9:LI_):LI_:=(let v6:=((((v7 % (1999999973:Int))+(31:Int)) * (765432101:Int)) % (1999999973:Int));(wk v7 v8 v9 v6))
def wC (v7:Int) (v8:Int) (v9:LI_):Prop:=(let v6:=((((v7 % (1999999973:Int))+(31:Int)) * (765432101:Int)) % (1999999973:Int));(wz v7 v8 v9 v6))
def GP:Ev->Option Out:=(aM (setG 3 (b2 nj (b2 uY (b2 dh (b2 nj (gv 0) (cB (.int 1999999973))) (cB (.int 31))) (cB (.int 765432101))) (cB (.int 1999999973)))) wA)
theorem GQ (v7:Int) (v8:Int) (v9:LI_):RP GP [some ((zE eI) v7),some ((zE eI) v8),some ((oE eI) v9),none,none,none] (fun r=>Out.rt ((oE eI) r)) (wB v7 v8 v9) (some (wC v7 v8 v9)):=R.tp (cR 3 (nY (Wn (jE (nY (aq 0 (zE eI) v7 rfl) 1999999973 (by decide)) (x_i 31)) 765432101 (by decide)) 1999999973 (by decide)) (fun _=>rfl) fun v6=>(GK v7 v8 v9 v6).r)
def aK (v7:Int) (v8:Int):LI_:=(let v9:=([]:List Int);(wB v7 v8 v9))
def lC (v7:Int) (v8:Int):Prop:=(let v9:=([]:List Int);(wC v7 v8 v9))
theorem M5 (v7:Int) (v8:Int):RP rK [some ((zE eI) v7),some ((zE eI) v8),none,none,none,none] (fun r=>Out.rt ((oE eI) r)) (aK v7 v8) (some (lC v7 v8)):=R.tp (cR 2 (Bv (qd eI) (ZO rfl)) (fun _=>rfl) fun v9=>(GQ v7 v8 v9).r)
theorem vD:∀ v bs,(aZ eI (aZ eI aN)) v bs->bs.length=2/\(hold (some (lC v.1 v.2.1))->dG (bs.map lend)=some ((oE eI) (aK v.1 v.2.1))):=by
 rintro⟨v7,v8,_⟩ _ ⟨_,rfl,⟨_,rfl,rfl⟩⟩
 exact⟨rfl,fun h=>cG (g:=rK) (n:=6) (bs:=[.z (eI v7),.z (eI v8)]) (M5 v7 v8) h⟩
def iG (vc:LI_) (vd:Str) (ve:Str) (v2:Int) (v9:LS_) (v5:Int):LS_:=(let vf:=(ch vd ((v5+(at' vc (2:Int))) % (15:Int)));(let vg:=(((Txt.slice ve none (some v2))++vf)++(Txt.slice ve (some v2) none));(let vg:Str:=(if (decide (((at' vc (3:Int)) % (3:Int))=(1:Int)))=true then (let vg:=(Txt.mul (ch vd (v5 / (8:Int))) ((1:Int)+(v5 % (8:Int))));vg) else vg);(let v9:=v9++[vg];v9))))
def qC (vc:LI_) (vd:Str) (ve:Str) (v2:Int) (v9:LS_) (v5:Int):Prop:=((In vc.length (2:Int)/\In vd.length ((v5+(at' vc (2:Int))) % (15:Int)))/\(let vf:=(ch vd ((v5+(at' vc (2:Int))) % (15:Int)));((Ms ((Txt.slice ve none (some v2)).length+vf.length)/\Ms (((Txt.slice ve none (some v2))++vf).length+(Txt.slice ve (some v2) none).length))/\(let vg:=(((Txt.slice ve none (some v2))++vf)++(Txt.slice ve (some v2) none));((In vc.length (3:Int)/\((decide (((at' vc (3:Int)) % (3:Int))=(1:Int)))=true->(In vd.length (v5 / (8:Int))/\(((1:Int)+(v5 % (8:Int)))<=1000 ∧ -1000<=((1:Int)+(v5 % (8:Int)))/\(ch vd (v5 / (8:Int))).length<=1000))))/\(let vg:Str:=(if (decide (((at' vc (3:Int)) % (3:Int))=(1:Int)))=true then (let vg:=(Txt.mul (ch vd (v5 / (8:Int))) ((1:Int)+(v5 % (8:Int))));vg) else vg);Ms v9.length))))))
theorem Lj (vc:LI_) {nZ:Bx} (qN:Lp nZ (vc.map eI)) (v8:Int) (vd:Str) (ve:Str) (v2:Int) (v9:LS_) (v5:Int):RP tY [some nZ,some ((zE eI) v8),some ((zE eS) vd),some ((zE eS) ve),some ((zE eI) v2),some ((oE eS) v9),some ((zE eI) v5),none,none] (fun s=>Out.nx ((fun v9:LS_=>[some nZ,some ((zE eI) v8),some ((zE eS) vd),some ((zE eS) ve),some ((zE eI) v2),some ((oE eS) v9),none,none,none]) s)) (iG vc vd ve v2 v9 v5) (some (qC vc vd ve v2 v9 v5)):=R.tp (cX (cR 7 (RB (aq 2 (zE eS) vd rfl) (nY (jE (aq 6 (zE eI) v5 rfl) (qe (lW 0 eI vc qN rfl) (x_i 2))) 15 (by decide))) (fun _=>rfl) fun vf=>(cX (cR 8 (J3 (J3 (aat (aq 3 (zE eS) ve rfl) Gg (Cg (aq 4 (zE eI) v2 rfl))) (aq 7 (zE eS) vf rfl)) (aat (aq 3 (zE eS) ve rfl) (Cg (aq 4 (zE eI) v2 rfl)) Gg)) (fun _=>rfl) fun vg=>(cX (aen (fun vg:Str=>[some nZ,some ((zE eI) v8),some ((zE eS) vd),some ((zE eS) ve),some ((zE eI) v2),some ((oE eS) v9),some ((zE eI) v5),some ((zE eS) vf),some ((zE eS) vg)]) (gn (x_eq (by decide) (nY (qe (lW 0 eI vc qN rfl) (x_i 3)) 3 (by decide)) (x_i 1))) (cX (cR 8 (afP (RB (aq 2 (zE eS) vd rfl) (Dw (aq 6 (zE eI) v5 rfl) 8 (by decide))) (jE (x_i 1) (nY (aq 6 (zE eI) v5 rfl) 8 (by decide)))) (fun _=>rfl) fun vg=>(eF (nu vg rfl)))) (eF (nu vg rfl)) fun vg=>(cX (aaB 5 v9 rfl (aq 8 (zE eS) vg rfl) fun v9=>(eF (nu v9 rfl))))))))))
def zZ (vc:LI_) (v8:Int) (vd:Str) (ve:Str) (v2:Int) (v9:LS_):LS_:=v9
def z6:Ev->Option Out:=(aM (O6 5) eE)
theorem Ln (vc:LI_) {nZ:Bx} (qN:Lp nZ (vc.map eI)) (v8:Int) (vd:Str) (ve:Str) (v2:Int) (v9:LS_):RP z6 [some nZ,some ((zE eI) v8),some ((zE eS) vd),some ((zE eS) ve),some ((zE eI) v2),some ((oE eS) v9),none,none,none] (fun r=>Out.rt ((oE eS) r)) (zZ vc v8 vd ve v2 v9) (none):=R.tp (aaz 5 (fun r=>r) v9 rfl (fun _=>rfl) fun _=>rfl)
def z7 (vc:LI_) (v8:Int) (vd:Str) (ve:Str) (v2:Int) (v9:LS_):LS_:=(let v9:LS_:=((rng 0 v8.toNat).foldl (fun (v9:LS_) (v5:Int)=>(iG vc vd ve v2 v9 v5)) v9);(zZ vc v8 vd ve v2 v9))
def z8 (vc:LI_) (v8:Int) (vd:Str) (ve:Str) (v2:Int) (v9:LS_):Prop:=(Rg v8/\HD (fun (v9:LS_) (v5:Int)=>(iG vc vd ve v2 v9 v5)) (fun (v9:LS_) (v5:Int)=>some (qC vc vd ve v2 v9 v5)) (rng 0 v8.toNat) v9)
def z9:Ev->Option Out:=(aM (yL (Ux (ao (gv 1) aO)) (sO 6) tY) z6)
theorem Lq (vc:LI_) {nZ:Bx} (qN:Lp nZ (vc.map eI)) (v8:Int) (vd:Str) (ve:Str) (v2:Int) (v9:LS_):RP z9 [some nZ,some ((zE eI) v8),some ((zE eS) vd),some ((zE eS) ve),some ((zE eI) v2),some ((oE eS) v9),none,none,none] (fun r=>Out.rt ((oE eS) r)) (z7 vc v8 vd ve v2 v9) (some (z8 vc v8 vd ve v2 v9)):=R.tp (RM (fun v9:LS_=>[some nZ,some ((zE eI) v8),some ((zE eS) vd),some ((zE eS) ve),some ((zE eI) v2),some ((oE eS) v9),none,none,none]) v9 rfl (Dz (aq 1 (zE eI) v8 rfl)) _ (fun _ _=>rfl) (fun (v9:LS_) (v5:Int)=>(Lj vc qN v8 vd ve v2 v9 v5).r) fun v9=>(Ln vc qN v8 vd ve v2 v9).r)
def Aa (vc:LI_) (v8:Int) (vd:Str) (ve:Str) (v2:Int):LS_:=(let v9:=([]:LS_);(z7 vc v8 vd ve v2 v9))
def Ab (vc:LI_) (v8:Int) (vd:Str) (ve:Str) (v2:Int):Prop:=(let v9:=([]:LS_);(z8 vc v8 vd ve v2 v9))
def Ad:Ev->Option Out:=(aM (setG 5 (dZ yK aO)) z9)
theorem Lr (vc:LI_) {nZ:Bx} (qN:Lp nZ (vc.map eI)) (v8:Int) (vd:Str) (ve:Str) (v2:Int):RP Ad [some nZ,some ((zE eI) v8),some ((zE eS) vd),some ((zE eS) ve),some ((zE eI) v2),none,none,none,none] (fun r=>Out.rt ((oE eS) r)) (Aa vc v8 vd ve v2) (some (Ab vc v8 vd ve v2)):=R.tp (cR 5 (Bv (qd eS) (ZO rfl)) (fun _=>rfl) fun v9=>(Lq vc qN v8 vd ve v2 v9).r)
def qD (vc:LI_) (v8:Int) (vd:Str) (ve:Str):LS_:=(let v2:=((at' vc (1:Int)) % ((ve.length:Int)+(1:Int)));(Aa vc v8 vd ve v2))
def uf (vc:LI_) (v8:Int) (vd:Str) (ve:Str):Prop:=((In vc.length (1:Int)/\0 < ((ve.length:Int)+(1:Int)))/\(let v2:=((at' vc (1:Int)) % ((ve.length:Int)+(1:Int)));(Ab vc v8 vd ve v2)))
def Ae:Ev->Option Out:=(aM (setG 4 (b2 nj (b2 jr (gv 0) (cB (.int 1))) (b2 dh (dZ nq (ao (gv 3) aO)) (cB (.int 1))))) Ad)
theorem Ls (vc:LI_) {nZ:Bx} (qN:Lp nZ (vc.map eI)) (v8:Int) (vd:Str) (ve:Str):RP Ae [some nZ,some ((zE eI) v8),some ((zE eS) vd),some ((zE eS) ve),none,none,none,none,none] (fun r=>Out.rt ((oE eS) r)) (qD vc v8 vd ve) (some (uf vc v8 vd ve)):=R.tp (cR 4 (G9 (qe (lW 0 eI vc qN rfl) (x_i 1)) (jE (J4 (aq 3 (zE eS) ve rfl)) (x_i 1))) (fun _=>rfl) fun v2=>(Lr vc qN v8 vd ve v2).r)
def Af (vc:LI_) (v8:Int) (vd:Str):LS_:=(let ve:=(Txt.join "" ((rng 0 ((at' vc (0:Int)) % (6:Int)).toNat).map fun v5:Int=>(ch vd (((at' vc v5) / (40:Int)) % (26:Int)))));(qD vc v8 vd ve))
def Ag (vc:LI_) (v8:Int) (vd:Str):Prop:=(((((In vc.length (0:Int)/\Rg ((at' vc (0:Int)) % (6:Int)))/\(rng 0 ((at' vc (0:Int)) % (6:Int)).toNat).length<=100000)/\(∀ v5∈(rng 0 ((at' vc (0:Int)) % (6:Int)).toNat),(In vc.length v5/\In vd.length (((at' vc v5) / (40:Int)) % (26:Int)))))/\(((rng 0 ((at' vc (0:Int)) % (6:Int)).toNat).map fun v5:Int=>(ch vd (((at' vc v5) / (40:Int)) % (26:Int)))).map (·.length)).sum+((rng 0 ((at' vc (0:Int)) % (6:Int)).toNat).map fun v5:Int=>(ch vd (((at' vc v5) / (40:Int)) % (26:Int)))).length * ("" : Str).length<=100000)/\(let ve:=(Txt.join "" ((rng 0 ((at' vc (0:Int)) % (6:Int)).toNat).map fun v5:Int=>(ch vd (((at' vc v5) / (40:Int)) % (26:Int)))));(uf vc v8 vd ve)))
def Lx:Ev->Option Out:=(aM (setG 3 (b1 (yr "") (fD (Ux (ao (b2 nj (b2 jr (gv 0) (cB (.int 0))) (cB (.int 6))) aO)) (sO 2) rZ (b2 jr (gv 0) (b2 nj (b2 yq (b2 jr (gv 1) (gv 2)) (cB (.int 40))) (cB (.int 26)))) [2,0] 1))) Ae)
theorem Ly (vc:LI_) {nZ:Bx} (qN:Lp nZ (vc.map eI)) (v8:Int) (vd:Str):RP Lx [some nZ,some ((zE eI) v8),some ((zE eS) vd),none,none,none,none,none,none] (fun r=>Out.rt ((oE eS) r)) (Af vc v8 vd) (some (Ag vc v8 vd)):=R.tp (cR 3 (J6 "" (su (u0 (Dz (nY (qe (lW 0 eI vc qN rfl) (x_i 0)) 6 (by decide))) _ (fun _=>rfl) (fun v5:Int=>(RB (aq 0 (zE eS) vd rfl) (nY (Dw (qe (lW 1 eI vc qN (congrArg some (qN.get rfl))) (aq 2 (zE eI) v5 rfl)) 40 (by decide)) 26 (by decide))))))) (fun _=>rfl) fun ve=>(Ls vc qN v8 vd ve).r)
def bW (vc:LI_) (v8:Int):LS_:=(let vd:=("abcdefghijklmnopqrstuvwxyz" : Str);(Af vc v8 vd))
def uR (vc:LI_) (v8:Int):Prop:=(let vd:=("abcdefghijklmnopqrstuvwxyz" : Str);(Ag vc v8 vd))
theorem Td (vc:LI_) {nZ:Bx} (qN:Lp nZ (vc.map eI)) (v8:Int):RP uK [some nZ,some ((zE eI) v8),none,none,none,none,none,none,none] (fun r=>Out.rt ((oE eS) r)) (bW vc v8) (some (uR vc v8)):=R.tp (cR 2 (Vc "abcdefghijklmnopqrstuvwxyz") (fun _=>rfl) fun vd=>(Ly vc qN v8 vd).r)
theorem Te:∀ v bs,(aL eI (aZ eI aN)) v bs->bs.length=2/\(hold (some (uR v.1 v.2.1))->lX (bs.map lend)=some ((oE eS) (bW v.1 v.2.1))):=by
 rintro⟨vc,v8,_⟩ _ ⟨nZ,_,rfl,qN,⟨_,rfl,rfl⟩⟩
 exact⟨rfl,fun h=>cG (g:=uK) (n:=9) (bs:=[lend nZ,.z (eI v8)]) (Td vc (JV qN) v8) h⟩
def lM (vj:Int) (vd:Str) (v9:Str) (v5:Int):Str:=(let v9:=(v9++(ch vd ((vj / ((7:Int)+((5:Int) * v5))) % (vd.length:Int))));v9)
def qF (vj:Int) (vd:Str) (v9:Str) (v5:Int):Prop:=((((0 < ((7:Int)+((5:Int) * v5))/\((7:Int)+((5:Int) * v5)) < 1073741824)/\0 < (vd.length:Int))/\In vd.length ((vj / ((7:Int)+((5:Int) * v5))) % (vd.length:Int)))/\Ms (v9.length+(ch vd ((vj / ((7:Int)+((5:Int) * v5))) % (vd.length:Int))).length))
theorem Et (vj:Int) (vd:Str) (v3:Int) (v9:Str) (v5:Int):RP uL [some ((zE eI) vj),some ((zE eS) vd),some ((zE eI) v3),some ((zE eS) v9),some ((zE eI) v5)] (fun s=>Out.nx ((fun v9:Str=>[some ((zE eI) vj),some ((zE eS) vd),some ((zE eI) v3),some ((zE eS) v9),none]) s)) (lM vj vd v9 v5) (some (qF vj vd v9 v5)):=R.tp (cX (cR 3 (J3 (aq 3 (zE eS) v9 rfl) (RB (aq 1 (zE eS) vd rfl) (G9 (U3 (aq 0 (zE eI) vj rfl) (jE (x_i 7) (xq 5 (by decide) (aq 4 (zE eI) v5 rfl)))) (J4 (aq 1 (zE eS) vd rfl))))) (fun _=>rfl) fun v9=>(eF (nu v9 rfl))))
def iH (vj:Int) (vd:Str) (v3:Int):Str:=(let v9:=("" : Str);(let v9:Str:=((rng 0 ((1:Int)+(vj % v3)).toNat).foldl (fun (v9:Str) (v5:Int)=>(lM vj vd v9 v5)) v9);v9))
def mX (vj:Int) (vd:Str) (v3:Int):Prop:=(let v9:=("" : Str);((0 < v3/\Rg ((1:Int)+(vj % v3)))/\HD (fun (v9:Str) (v5:Int)=>(lM vj vd v9 v5)) (fun (v9:Str) (v5:Int)=>some (qF vj vd v9 v5)) (rng 0 ((1:Int)+(vj % v3)).toNat) v9))
theorem Lz (vj:Int) (vd:Str) (v3:Int):RP qp [some ((zE eI) vj),some ((zE eS) vd),some ((zE eI) v3),none,none] (fun r=>Out.rt ((zE eS) r)) (iH vj vd v3) (some (mX vj vd v3)):=R.tp (cR 3 (Vc "") (fun _=>rfl) fun v9=>(RM (fun v9:Str=>[some ((zE eI) vj),some ((zE eS) vd),some ((zE eI) v3),some ((zE eS) v9),none]) v9 rfl (Dz (jE (x_i 1) (G9 (aq 0 (zE eI) vj rfl) (aq 2 (zE eI) v3 rfl)))) _ (fun _ _=>rfl) (fun (v9:Str) (v5:Int)=>(Et vj vd v3 v9 v5).r) fun v9=>(cY (fun r=>r) (aq 3 (zE eS) v9 rfl) (fun _=>rfl) fun _=>rfl)))
theorem Ah:∀ v bs,(aZ eI (aZ eS (aZ eI aN))) v bs->bs.length=3/\(hold (some (mX v.1 v.2.1 v.2.2.1))->eV (bs.map lend)=some ((zE eS) (iH v.1 v.2.1 v.2.2.1))):=by
 rintro⟨vj,vd,v3,_⟩ _ ⟨_,rfl,⟨_,rfl,⟨_,rfl,rfl⟩⟩⟩
 exact⟨rfl,fun h=>cG (g:=qp) (n:=5) (bs:=[.z (eI vj),.z (eS vd),.z (eI v3)]) (Lz vj vd v3) h⟩
def dB (vc:LI_) (vh:(List (Str×Str))) (v5:Int):(List (Str×Str)):=(let vd:=("abcdefghijklmnopqrstuvwxyz" : Str);(let vi:=(iH (at' vc ((1:Int)+((2:Int) * v5))) vd (at' [(2:Int),(8:Int)] (((at' vc ((1:Int)+((2:Int) * v5))) / (999:Int)) % (2:Int))));(let vh:=put vh vi (iH (at' vc ((2:Int)+((2:Int) * v5))) (vd++("0123456789" : Str)) (at' [(3:Int),(12:Int)] (((at' vc ((2:Int)+((2:Int) * v5))) / (999:Int)) % (2:Int))));vh)))
def lN (vc:LI_) (vh:(List (Str×Str))) (v5:Int):Prop:=(let vd:=("abcdefghijklmnopqrstuvwxyz" : Str);(((In vc.length ((1:Int)+((2:Int) * v5))/\(In vc.length ((1:Int)+((2:Int) * v5))/\In [(2:Int),(8:Int)].length (((at' vc ((1:Int)+((2:Int) * v5))) / (999:Int)) % (2:Int))))/\(mX (at' vc ((1:Int)+((2:Int) * v5))) vd (at' [(2:Int),(8:Int)] (((at' vc ((1:Int)+((2:Int) * v5))) / (999:Int)) % (2:Int)))))/\(let vi:=(iH (at' vc ((1:Int)+((2:Int) * v5))) vd (at' [(2:Int),(8:Int)] (((at' vc ((1:Int)+((2:Int) * v5))) / (999:Int)) % (2:Int))));(((In vc.length ((2:Int)+((2:Int) * v5))/\(Ms (vd.length+("0123456789" : Str).length)/\(In vc.length ((2:Int)+((2:Int) * v5))/\In [(3:Int),(12:Int)].length (((at' vc ((2:Int)+((2:Int) * v5))) / (999:Int)) % (2:Int)))))/\(mX (at' vc ((2:Int)+((2:Int) * v5))) (vd++("0123456789" : Str)) (at' [(3:Int),(12:Int)] (((at' vc ((2:Int)+((2:Int) * v5))) / (999:Int)) % (2:Int)))))/\vh.length < 1000))))
theorem Eu (vg:Str) (vc:LI_) {b_1:Bx} (h_1:Lp b_1 (vc.map eI)) (vh:(List (Str×Str))) (v5:Int):RP uM [some ((zE eS) vg),some b_1,some ((mE eS) vh),some ((zE eI) v5),none,none] (fun s=>Out.nx ((fun vh:(List (Str×Str))=>[some ((zE eS) vg),some b_1,some ((mE eS) vh),none,none,none]) s)) (dB vc vh v5) (some (lN vc vh v5)):=R.tp (cX (cR 4 (Vc "abcdefghijklmnopqrstuvwxyz") (fun _=>rfl) fun vd=>(cX (cR 5 (x_call Ah (bR (qe (lW 1 eI vc h_1 rfl) (jE (x_i 1) (xq 2 (by decide) (aq 3 (zE eI) v5 rfl)))) (bR (aq 4 (zE eS) vd rfl) (bR (qe (su (Bv (j6 (x_i 2) (j6 (x_i 8) (qd eI))) (ZO rfl))) (nY (Dw (qe (lW 1 eI vc h_1 rfl) (jE (x_i 1) (xq 2 (by decide) (aq 3 (zE eI) v5 rfl)))) 999 (by decide)) 2 (by decide))) bB)))) (fun _=>rfl) fun vi=>(cX (adl none 2 vh rfl (ou (x_call Ah (bR (qe (lW 1 eI vc h_1 rfl) (jE (x_i 2) (xq 2 (by decide) (aq 3 (zE eI) v5 rfl)))) (bR (ou (J3 (aq 4 (zE eS) vd rfl) (Vc "0123456789"))) (bR (qe (su (Bv (j6 (x_i 3) (j6 (x_i 12) (qd eI))) (ZO rfl))) (nY (Dw (qe (lW 1 eI vc h_1 rfl) (jE (x_i 2) (xq 2 (by decide) (aq 3 (zE eI) v5 rfl)))) 999 (by decide)) 2 (by decide))) bB))))) (aq 5 (zE eS) vi rfl) fun vh=>(eF (nu vh rfl))))))))
def iI (vg:Str) (vc:LI_):aG:=(let vh:=([]:(List (Str×Str)));(let vh:(List (Str×Str)):=((rng 0 ((at' vc (0:Int)) % (9:Int)).toNat).foldl (fun (vh:(List (Str×Str))) (v5:Int)=>(dB vc vh v5)) vh);(vg,((uE (vh.map (·.1))).map fun vi:Str=>(vi,(look vh vi))))))
def mY (vg:Str) (vc:LI_):Prop:=(let vh:=([]:(List (Str×Str)));(((In vc.length (0:Int)/\Rg ((at' vc (0:Int)) % (9:Int)))/\HD (fun (vh:(List (Str×Str))) (v5:Int)=>(dB vc vh v5)) (fun (vh:(List (Str×Str))) (v5:Int)=>some (lN vc vh v5)) (rng 0 ((at' vc (0:Int)) % (9:Int)).toNat) vh)/\(let vh:(List (Str×Str)):=((rng 0 ((at' vc (0:Int)) % (9:Int)).toNat).foldl (fun (vh:(List (Str×Str))) (v5:Int)=>(dB vc vh v5)) vh);((vh.length < 64/\(uE (vh.map (·.1))).length<=100000)/\(∀ vi∈(uE (vh.map (·.1))),has vh vi=true)))))
theorem LC (vg:Str) (vc:LI_) {b_1:Bx} (h_1:Lp b_1 (vc.map eI)):RP qt [some ((zE eS) vg),some b_1,none,none,none,none] (fun r=>Out.rt ((zE aF) r)) (iI vg vc) (some (mY vg vc)):=R.tp (cR 2 (afX eS) (fun _=>rfl) fun vh=>(RM (fun vh:(List (Str×Str))=>[some ((zE eS) vg),some b_1,some ((mE eS) vh),none,none,none]) vh rfl (Dz (nY (qe (lW 1 eI vc h_1 rfl) (x_i 0)) 9 (by decide))) _ (fun _ _=>rfl) (fun (vh:(List (Str×Str))) (v5:Int)=>(Eu vg vc h_1 vh v5).r) fun vh=>(cY (fun r=>r) (Pu (aq 0 (zE eS) vg rfl) (Av (su (u0 (afT (su (adi (aq 2 (nE eS) vh rfl)))) _ (fun _=>rfl) (fun vi:Str=>(Pu (aq 1 (zE eS) vi rfl) (afW (aq 0 (nE eS) vh rfl) (aq 1 (zE eS) vi rfl)))))))) (fun _=>rfl) fun _=>rfl)))
theorem LK:∀ v bs,(aZ eS (aL eI aN)) v bs->bs.length=2/\(hold (some (mY v.1 v.2.1))->iu (bs.map lend)=some ((zE aF) (iI v.1 v.2.1))):=by
 rintro⟨vg,vc,_⟩ _ ⟨_,rfl,⟨b_1,_,rfl,h_1,rfl⟩⟩
 exact⟨rfl,fun h=>cG (g:=qt) (n:=6) (bs:=[.z (eS vg),lend b_1]) (LC vg vc (JV h_1)) h⟩
def j9 (v0:LI_) (v2:Int) (v4:LI_) (vb:LS_) (v9:List aG) (v5:Int):(List aG):=(let vg:=(at' vb ((((7:Int) * v5)+(at' v4 (7:Int))) % (15:Int)));(let v9:=v9++[(iI vg (aK (aQ v0 ((v2+(1:Int))+v5)) (17:Int)))];v9))
def o9 (v0:LI_) (v2:Int) (v4:LI_) (vb:LS_) (v9:List aG) (v5:Int):Prop:=((In v4.length (7:Int)/\In vb.length ((((7:Int) * v5)+(at' v4 (7:Int))) % (15:Int)))/\(let vg:=(at' vb ((((7:Int) * v5)+(at' v4 (7:Int))) % (15:Int)));((((o8 v0 ((v2+(1:Int))+v5))/\(lC (aQ v0 ((v2+(1:Int))+v5)) (17:Int)))/\(mY vg (aK (aQ v0 ((v2+(1:Int))+v5)) (17:Int))))/\Ms v9.length)))
theorem Cw (v0:LI_) {nZ:Bx} (qN:Lp nZ (v0.map eI)) (v2:Int) (v3:Int) (v4:LI_) (vb:LS_) (v9:List aG) (v5:Int):RP tZ [some nZ,some ((zE eI) v2),some ((zE eI) v3),some ((oE eI) v4),some ((oE eS) vb),some ((oE aF) v9),some ((zE eI) v5),none] (fun s=>Out.nx ((fun v9:(List aG)=>[some nZ,some ((zE eI) v2),some ((zE eI) v3),some ((oE eI) v4),some ((oE eS) vb),some ((oE aF) v9),none,none]) s)) (j9 v0 v2 v4 vb v9 v5) (some (o9 v0 v2 v4 vb v9 v5)):=R.tp (cX (cR 7 (qe (xg (aq 4 (lE eS) vb rfl)) (nY (jE (xq 7 (by decide) (aq 6 (zE eI) v5 rfl)) (qe (xg (aq 3 (lE eI) v4 rfl)) (x_i 7))) 15 (by decide))) (fun _=>rfl) fun vg=>(cX (aaB 5 v9 rfl (ou (x_call LK (bR (aq 7 (zE eS) vg rfl) (RG (afL (Yk (x_call vD (bR (ou (x_call Cu (RG (lW 0 eI v0 qN rfl) (bR (ou (jE (jE (aq 1 (zE eI) v2 rfl) (x_i 1)) (aq 6 (zE eI) v5 rfl))) bB)))) (bR (x_i 17) bB))))) bB)))) fun v9=>(eF (nu v9 rfl))))))
def dJ (v0:LI_) (v2:Int) (v3:Int):(List aG):=(let v4:=(aK (aQ v0 v2) (8:Int));(let vb:=(bW v4 (15:Int));(let v9:=([]:List aG);(let v9:(List aG):=((rng 0 ((at' v4 (6:Int)) % (v3+(1:Int))).toNat).foldl (fun (v9:List aG) (v5:Int)=>(j9 v0 v2 v4 vb v9 v5)) v9);v9))))
def oU (v0:LI_) (v2:Int) (v3:Int):Prop:=(((o8 v0 v2)/\(lC (aQ v0 v2) (8:Int)))/\(let v4:=(aK (aQ v0 v2) (8:Int));((uR v4 (15:Int))/\(let vb:=(bW v4 (15:Int));(let v9:=([]:List aG);(((In v4.length (6:Int)/\0 < (v3+(1:Int)))/\Rg ((at' v4 (6:Int)) % (v3+(1:Int))))/\HD (fun (v9:List aG) (v5:Int)=>(j9 v0 v2 v4 vb v9 v5)) (fun (v9:List aG) (v5:Int)=>some (o9 v0 v2 v4 vb v9 v5)) (rng 0 ((at' v4 (6:Int)) % (v3+(1:Int))).toNat) v9))))))
theorem Im (v0:LI_) {nZ:Bx} (qN:Lp nZ (v0.map eI)) (v2:Int) (v3:Int):RP oJ [some nZ,some ((zE eI) v2),some ((zE eI) v3),none,none,none,none,none] (fun r=>Out.rt ((zE (eT aF)) r)) (dJ v0 v2 v3) (some (oU v0 v2 v3)):=R.tp (cR 3 (x_call vD (bR (ou (x_call Cu (RG (lW 0 eI v0 qN rfl) (bR (aq 1 (zE eI) v2 rfl) bB)))) (bR (x_i 8) bB))) (fun _=>rfl) fun v4=>(cR 4 (x_call Te (RG (xg (aq 3 (lE eI) v4 rfl)) (bR (x_i 15) bB))) (fun _=>rfl) fun vb=>(cR 5 (Bv (qd aF) (ZO rfl)) (fun _=>rfl) fun v9=>(RM (fun v9:(List aG)=>[some nZ,some ((zE eI) v2),some ((zE eI) v3),some ((oE eI) v4),some ((oE eS) vb),some ((oE aF) v9),none,none]) v9 rfl (Dz (G9 (qe (xg (aq 3 (lE eI) v4 rfl)) (x_i 6)) (jE (aq 2 (zE eI) v3 rfl) (x_i 1)))) _ (fun _ _=>rfl) (fun (v9:List aG) (v5:Int)=>(Cw v0 qN v2 v3 v4 vb v9 v5).r) fun v9=>(cY (fun r=>r) (Av (xg (aq 5 (lE aF) v9 rfl))) (fun _=>rfl) fun _=>rfl)))))
theorem Io:∀ v bs,(aL eI (aZ eI (aZ eI aN))) v bs->bs.length=3/\(hold (some (oU v.1 v.2.1 v.2.2.1))->fO (bs.map lend)=some ((zE (eT aF)) (dJ v.1 v.2.1 v.2.2.1))):=by
 rintro⟨v0,v2,v3,_⟩ _ ⟨nZ,_,rfl,qN,⟨_,rfl,⟨_,rfl,rfl⟩⟩⟩
 exact⟨rfl,fun h=>cG (g:=oJ) (n:=8) (bs:=[lend nZ,.z (eI v2),.z (eI v3)]) (Im v0 (JV qN) v2 v3) h⟩
def bh (vo:List aG) (vp:List aG):(List aG):=(vo++vp)
def cW (vo:List aG) (vp:List aG):Prop:=(vo.length < 4000/\Ms (vo.length+vp.length))/\vp.find? (fun r=>decide (r.1∈vo.map (·.1)))=none
theorem abf:∀ vo:List aG,Bq (sO 0) rZ (b2 jr (gv 0) (cB (.int 0))) [none] (vo.map aF)=some (vo.map fun r=>Dt.str r.1)
 |[]=>rfl
 |r::vo=>by
  have ih:=abf vo
  unfold Bq at ih ⊢
  simp only[zg,Bo]
  rw[ih]
  rfl
theorem W3:∀ ys:LS_,uD (ys.map Dt.str)=some ys
 |[]=>rfl
 |y::ys=>by
  simp only[zg,uD,W3 ys]
  rfl
theorem aiU (vo vp:List aG) (h:vo.length < 4000):WT [some (.z (eT aF vo)),some (.z (eT aF vp)),none,none]=some (vo.map (·.1)):=by
 show (if (vo.map aF).length < 4000 then _ else _)=_
 rw[zk (by rw[zh];exact h)]
 show (Bq (sO 0) rZ (b2 jr (gv 0) (cB (.int 0))) [none] (vo.map aF)).bind uD=_
 rw[abf]
 show uD (vo.map fun r=>Dt.str r.1)=_
 have:(vo.map fun r=>Dt.str r.1)=(vo.map (·.1)).map Dt.str:=by rw[Z3];rfl
 rw[this,W3]
theorem Vu (ys:LS_) (fx:Ev->Option Dt) (b1 b2':Option Bx):∀ (vp:List aG) (x:Option Bx),R6 3 (b2 jr (gv 3) (cB (.int 0))) ys fx (vp.map aF) [b1,b2',none,x]=match vp.find? (fun r=>decide (r.1∈ys)) with
  |some r=>(fx [b1,b2',none,some (.z (aF r))]).bind fun q=>some (.inr q)
  |none=>some (.inl [b1,b2',none,(vp.getLast?.map fun r=>some (Bx.z (aF r))).getD x])
 |[],x=>rfl
 |r::vp,x=>by
  have ih:=Vu ys fx b1 b2' vp (some (.z (aF r)))
  simp only[zg,R6]
  show (if r.1∈ys then _ else _)=_
  by_cases hr:r.1∈ys
  ·rw[zk hr,List.find?_cons_of_pos (by simpa using hr)]
   rfl
  ·rw[zI hr,List.find?_cons_of_neg (by simpa using hr)]
   refine ih.trans ?_
   cases vp.find? (fun r=>decide (r.1∈ys)) with
   |some q=>rfl
   |none=>cases vp<;>rfl
theorem aeA {vo vp:List aG} (h1:vo.length < 4000) (fx:Ev->Option Dt):Vj 2 3 WT (itF (gv 1)) (b2 jr (gv 3) (cB (.int 0))) fx [some (.z (eT aF vo)),some (.z (eT aF vp)),none,none]=R6 3 (b2 jr (gv 3) (cB (.int 0))) (vo.map (·.1)) fx (vp.map aF) [some (.z (eT aF vo)),some (.z (eT aF vp)),none,none]:=by
 unfold Vj
 rw[aiU vo vp h1]
 rfl
theorem aeB {vo vp:List aG} (h1:vo.length < 4000) (h2:Ms (vo.length+vp.length)) (hn:vp.find? (fun r=>decide (r.1∈vo.map (·.1)))=none):aU [.z (eT aF vo),.z (eT aF vp)]=some (.z (eT aF (vo++vp))):=by
 show (adK [some (.z (eT aF vo)),some (.z (eT aF vp)),none,none]).bind _=_
 unfold adK
 rw[aeA h1,Vu,hn]
 have ad:dh (.z (eT aF vo)) (.z (eT aF vp))=some (.z (eT aF (vo++vp))):=by
  unfold Ms at h2
  simp only[eT,dh,zh,Zl]
  rw[zk (show vo.length+vp.length<=Rj from zz h2 (by decide))]
 show ((((dh (.z (eT aF vo)) (.z (eT aF vp))).bind XH).bind _).bind _)=_
 rw[ad]
 rfl
theorem aiV {vo vp:List aG} (h1:vo.length < 4000):zA 4 Kl [.z (eT aF vo),.z (eT aF vp)]=(vp.find? (fun r=>decide (r.1∈vo.map (·.1)))).map fun r=>eS r.1:=by
 show Kl [some (.z (eT aF vo)),some (.z (eT aF vp)),none,none]=_
 unfold Kl
 rw[aeA h1,Vu]
 cases vp.find? (fun r=>decide (r.1∈vo.map (·.1))) with
 |some q=>rfl
 |none=>rfl
theorem jN:∀ v bs,(aZ (eT aF) (aZ (eT aF) aN)) v bs->bs.length=2/\(hold (some (cW v.1 v.2.1))->aU (bs.map lend)=some ((zE (eT aF)) (bh v.1 v.2.1))):=by
 rintro⟨vo,vp,_⟩ _ ⟨_,rfl,⟨_,rfl,rfl⟩⟩
 refine⟨rfl,fun h=>?_⟩
 obtain⟨⟨h1,h2⟩,h3⟩:cW vo vp:=h
 exact aeB h1 h2 h3
def yd (vr:aG) (vt:Int):Bool:=((is_tuple (aF vr))&&(decide ((2:Int)=vt)))
theorem Vv (vr:aG) (vt:Int):RP qX [some ((zE aF) vr),some ((zE eI) vt)] (fun r=>Out.rt ((zE eB) r)) (yd vr vt) none:=R.tp (cY (fun r=>r) (Hf (J5 is_tuple (aq 0 (zE aF) vr rfl)) (x_eq (by decide) (aaG (aq 0 (zE aF) vr rfl) 2 fun _=>⟨_,rfl,rfl⟩) (aq 1 (zE eI) vt rfl))) (fun _=>rfl) fun _=>rfl)
theorem Vw:∀ v bs,(aZ aF (aZ eI aN)) v bs->bs.length=2/\(hold (none)->jt (bs.map lend)=some ((zE eB) (yd v.1 v.2.1))):=by
 rintro⟨vr,vt,_⟩ _ ⟨_,rfl,⟨_,rfl,rfl⟩⟩
 exact⟨rfl,fun h=>cG (g:=qX) (n:=2) (bs:=[.z (aF vr),.z (eI vt)]) (Vv vr vt) h⟩
def nP (vr:Str) (vu:Str) (vv:Int):Bool:=((lF (eS vr))&&(((decide ((1:Int)<=(vr.length:Int)))&&(decide ((vr.length:Int)<=vv)))&&(((chars vr).map fun vw:Str=>(Nk vw vu)).all id)))
def qG (vr:Str) (vu:Str) (vv:Int):Prop:=((lF (eS vr))=true->(((decide ((1:Int)<=(vr.length:Int)))&&(decide ((vr.length:Int)<=vv)))=true->(chars vr).length<=100000))
theorem Qn (vr:Str) (vu:Str) (vv:Int):RP sV [some ((zE eS) vr),some ((zE eS) vu),some ((zE eI) vv)] (fun r=>Out.rt ((zE eB) r)) (nP vr vu vv) (some (qG vr vu vv)):=R.tp (cY (fun r=>r) (Hf (J5 lF (aq 0 (zE eS) vr rfl)) (Hf (aku (ahX (x_i 1) (J4 (aq 0 (zE eS) vr rfl))) (ahX (J4 (aq 0 (zE eS) vr rfl)) (aq 2 (zE eI) vv rfl))) (NQ (su (Dy (akx (aq 0 (zE eS) vr rfl)) _ (fun _=>rfl) (fun vw:Str=>(ah2 (aq 1 (zE eS) vw rfl) (aq 0 (zE eS) vu rfl))) fun _=>rfl))))) (fun _=>rfl) fun _=>rfl)
theorem Ew:∀ v bs,(aZ eS (aZ eS (aZ eI aN))) v bs->bs.length=3/\(hold (some (qG v.1 v.2.1 v.2.2.1))->gA (bs.map lend)=some ((zE eB) (nP v.1 v.2.1 v.2.2.1))):=by
 rintro⟨vr,vu,vv,_⟩ _ ⟨_,rfl,⟨_,rfl,⟨_,rfl,rfl⟩⟩⟩
 exact⟨rfl,fun h=>cG (g:=sV) (n:=3) (bs:=[.z (eS vr),.z (eS vu),.z (eI vv)]) (Qn vr vu vv) h⟩
def jO (vr:Str):Bool:=(nP vr ("abcdefghijklmnopqrstuvwxyz" : Str) (8:Int))
def tu (vr:Str):Prop:=(qG vr ("abcdefghijklmnopqrstuvwxyz" : Str) (8:Int))
theorem YJ (vr:Str):RP Bb [some ((zE eS) vr)] (fun r=>Out.rt ((zE eB) r)) (jO vr) (some (tu vr)):=R.tp (cY (fun r=>r) (x_call Ew (bR (aq 0 (zE eS) vr rfl) (bR (Vc "abcdefghijklmnopqrstuvwxyz") (bR (x_i 8) bB)))) (fun _=>rfl) fun _=>rfl)
theorem GR:∀ v bs,(aZ eS aN) v bs->bs.length=1/\(hold (some (tu v.1))->jG (bs.map lend)=some ((zE eB) (jO v.1))):=by
 rintro⟨vr,_⟩ _ ⟨_,rfl,rfl⟩
 exact⟨rfl,fun h=>cG (g:=Bb) (n:=1) (bs:=[.z (eS vr)]) (YJ vr) h⟩
def sX (vr:jF) (vt:Int):Bool:=((is_tuple (oY vr))&&(decide ((2:Int)=vt)))
theorem Qo (vr:jF) (vt:Int):RP qX [some ((zE oY) vr),some ((zE eI) vt)] (fun r=>Out.rt ((zE eB) r)) (sX vr vt) none:=R.tp (cY (fun r=>r) (Hf (J5 is_tuple (aq 0 (zE oY) vr rfl)) (x_eq (by decide) (aaG (aq 0 (zE oY) vr rfl) 2 fun _=>⟨_,rfl,rfl⟩) (aq 1 (zE eI) vt rfl))) (fun _=>rfl) fun _=>rfl)
theorem Qp:∀ v bs,(aZ oY (aZ eI aN)) v bs->bs.length=2/\(hold (none)->jt (bs.map lend)=some ((zE eB) (sX v.1 v.2.1))):=by
 rintro⟨vr,vt,_⟩ _ ⟨_,rfl,⟨_,rfl,rfl⟩⟩
 exact⟨rfl,fun h=>cG (g:=qX) (n:=2) (bs:=[.z (oY vr),.z (eI vt)]) (Qo vr vt) h⟩
def Bg (vr:Str):Bool:=(nP vr (("abcdefghijklmnopqrstuvwxyz" : Str)++("0123456789" : Str)) (12:Int))
def Bh (vr:Str):Prop:=(Ms (("abcdefghijklmnopqrstuvwxyz" : Str).length+("0123456789" : Str).length)/\(qG vr (("abcdefghijklmnopqrstuvwxyz" : Str)++("0123456789" : Str)) (12:Int)))
theorem YK (vr:Str):RP Bc [some ((zE eS) vr)] (fun r=>Out.rt ((zE eB) r)) (Bg vr) (some (Bh vr)):=R.tp (cY (fun r=>r) (x_call Ew (bR (aq 0 (zE eS) vr rfl) (bR (ou (J3 (Vc "abcdefghijklmnopqrstuvwxyz") (Vc "0123456789"))) (bR (x_i 12) bB)))) (fun _=>rfl) fun _=>rfl)
theorem YL:∀ v bs,(aZ eS aN) v bs->bs.length=1/\(hold (some (Bh v.1))->qY (bs.map lend)=some ((zE eB) (Bg v.1))):=by
 rintro⟨vr,_⟩ _ ⟨_,rfl,rfl⟩
 exact⟨rfl,fun h=>cG (g:=Bc) (n:=1) (bs:=[.z (eS vr)]) (YK vr) h⟩
def fZ (vr:jF):Bool:=((sX vr (2:Int))&&((jO vr.1)&&(Bg vr.2)))
def oV (vr:jF):Prop:=((sX vr (2:Int))=true->((tu vr.1)/\((jO vr.1)=true->(Bh vr.2))))
theorem Ip (vr:jF):RP oK [some ((zE oY) vr)] (fun r=>Out.rt ((zE eB) r)) (fZ vr) (some (oV vr)):=R.tp (cY (fun r=>r) (Hf (x_call Qp (bR (aq 0 (zE oY) vr rfl) (bR (x_i 2) bB))) (Hf (x_call GR (bR (tU (aq 0 (zE oY) vr rfl) (fun q=>q.1) eS 0 fun _=>rfl) bB)) (x_call YL (bR (tU (aq 0 (zE oY) vr rfl) (fun q=>q.2) eS 1 fun _=>rfl) bB)))) (fun _=>rfl) fun _=>rfl)
theorem Ir:∀ v bs,(aZ oY aN) v bs->bs.length=1/\(hold (some (oV v.1))->fP (bs.map lend)=some ((zE eB) (fZ v.1))):=by
 rintro⟨vr,_⟩ _ ⟨_,rfl,rfl⟩
 exact⟨rfl,fun h=>cG (g:=oK) (n:=1) (bs:=[.z (oY vr)]) (Ip vr) h⟩
def sY (vy:LS_):Bool:=(((rng 0 ((vy.length:Int) - (1:Int)).toNat).map fun vz:Int=>(U4 (at' vy vz) (at' vy (vz+(1:Int))))).all id)
def sZ (vy:LS_):Prop:=((Rg ((vy.length:Int) - (1:Int))/\(rng 0 ((vy.length:Int) - (1:Int)).toNat).length<=100000)/\(∀ vz∈(rng 0 ((vy.length:Int) - (1:Int)).toNat),(In vy.length vz/\In vy.length (vz+(1:Int)))))
theorem Qq (vy:LS_) {nZ:Bx} (qN:Lp nZ (vy.map eS)):RP sW [some nZ] (fun r=>Out.rt ((zE eB) r)) (sY vy) (some (sZ vy)):=R.tp (cY (fun r=>r) (NQ (su (u0 (Dz (aam (x_len (lW 0 eS vy qN rfl)) (x_i 1))) _ (fun _=>rfl) (fun vz:Int=>(ahY (qe (lW 0 eS vy qN (congrArg some (qN.get rfl))) (aq 1 (zE eI) vz rfl)) (qe (lW 0 eS vy qN (congrArg some (qN.get rfl))) (jE (aq 1 (zE eI) vz rfl) (x_i 1)))))))) (fun _=>rfl) fun _=>rfl)
theorem Qs:∀ v bs,(aL eS aN) v bs->bs.length=1/\(hold (some (sZ v.1))->j7 (bs.map lend)=some ((zE eB) (sY v.1))):=by
 rintro⟨vy,_⟩ _ ⟨nZ,_,rfl,qN,rfl⟩
 exact⟨rfl,fun h=>cG (g:=sW) (n:=1) (bs:=[lend nZ]) (Qq vy (JV qN)) h⟩
def rT (vr:List jF):Bool:=(if ((!(is_tuple ((eT oY) vr)))||(!((vr.map fun vx:jF=>(fZ vx)).all id)))=true then false else (sY (vr.map fun q1:jF=>q1.1)))
def uT (vr:List jF):Prop:=(((!(is_tuple ((eT oY) vr)))=false->(vr.length<=100000/\(∀ vx∈vr,(oV vx))))/\(((!(is_tuple ((eT oY) vr)))||(!((vr.map fun vx:jF=>(fZ vx)).all id)))=false->(vr.length<=100000/\(sZ (vr.map fun q1:jF=>q1.1)))))
theorem Tf (vr:List jF):RP uN [some ((zE (eT oY)) vr)] (fun r=>Out.rt ((zE eB) r)) (rT vr) (some (uT vr)):=R.tp (nQ (Ge (zp (JZ (J5 is_tuple (aq 0 (zE (eT oY)) vr rfl)))) (zp (JZ (NQ (su (u0 (J8 (aq 0 (zE (eT oY)) vr rfl)) _ (fun _=>rfl) (fun vx:jF=>(ou (x_call Ir (bR (aq 0 (zE oY) vx rfl) bB)))))))))) (cX (cY (fun r=>r) (rO (.bl false) eB false rfl) (fun _=>rfl) fun _=>rfl)) (eF (cY (fun r=>r) (x_call Qs (RG (afL (Yk (Dy (J8 (aq 0 (zE (eT oY)) vr rfl)) _ (fun _=>rfl) (fun q1:jF=>(aq 0 (zE eS) q1.1 rfl)) fun _=>rfl))) bB)) (fun _=>rfl) fun _=>rfl)))
theorem Tg:∀ v bs,(aZ (eT oY) aN) v bs->bs.length=1/\(hold (some (uT v.1))->lY (bs.map lend)=some ((zE eB) (rT v.1))):=by
 rintro⟨vr,_⟩ _ ⟨_,rfl,rfl⟩
 exact⟨rfl,fun h=>cG (g:=uN) (n:=1) (bs:=[.z ((eT oY) vr)]) (Tf vr) h⟩
def lA (vr:aG):Bool:=((yd vr (2:Int))&&((jO vr.1)&&(rT vr.2)))
def ug (vr:aG):Prop:=((yd vr (2:Int))=true->((tu vr.1)/\((jO vr.1)=true->(uT vr.2))))
theorem abg (vr:aG):RP DY [some ((zE aF) vr)] (fun r=>Out.rt ((zE eB) r)) (lA vr) (some (ug vr)):=R.tp (cY (fun r=>r) (Hf (x_call Vw (bR (aq 0 (zE aF) vr rfl) (bR (x_i 2) bB))) (Hf (x_call GR (bR (tU (aq 0 (zE aF) vr rfl) (fun q=>q.1) eS 0 fun _=>rfl) bB)) (x_call Tg (bR (tU (aq 0 (zE aF) vr rfl) (fun q=>q.2) (eT oY) 1 fun _=>rfl) bB)))) (fun _=>rfl) fun _=>rfl)
theorem Ey:∀ v bs,(aZ aF aN) v bs->bs.length=1/\(hold (some (ug v.1))->lu (bs.map lend)=some ((zE eB) (lA v.1))):=by
 rintro⟨vr,_⟩ _ ⟨_,rfl,rfl⟩
 exact⟨rfl,fun h=>cG (g:=DY) (n:=1) (bs:=[.z (aF vr)]) (abg vr) h⟩
def tB (vr:List aG):Bool:=(if ((!(is_tuple ((eT aF) vr)))||(!((vr.map fun vs:aG=>(lA vs)).all id)))=true then false else (decide (((zf (vr.map fun vs:aG=>vs.1)).length:Int)=(vr.length:Int))))
def Bj (vr:List aG):Prop:=(((!(is_tuple ((eT aF) vr)))=false->(vr.length<=100000/\(∀ vs∈vr,(ug vs))))/\(((!(is_tuple ((eT aF) vr)))||(!((vr.map fun vs:aG=>(lA vs)).all id)))=false->((vr.length < 4000/\vr.length<=100000)/\(vr.map fun vs:aG=>vs.1).length < 4000)))
theorem YM (vr:List aG):RP Bd [some ((zE (eT aF)) vr)] (fun r=>Out.rt ((zE eB) r)) (tB vr) (some (Bj vr)):=R.tp (nQ (Ge (zp (JZ (J5 is_tuple (aq 0 (zE (eT aF)) vr rfl)))) (zp (JZ (NQ (su (u0 (J8 (aq 0 (zE (eT aF)) vr rfl)) _ (fun _=>rfl) (fun vs:aG=>(ou (x_call Ey (bR (aq 0 (zE aF) vs rfl) bB)))))))))) (cX (cY (fun r=>r) (rO (.bl false) eB false rfl) (fun _=>rfl) fun _=>rfl)) (eF (cY (fun r=>r) (x_eq (by decide) (afZ (afY (J8 (aq 0 (zE (eT aF)) vr rfl)) (Dy (J8 (aq 0 (zE (eT aF)) vr rfl)) _ (fun _=>rfl) (fun vs:aG=>(tU (aq 0 (zE aF) vs rfl) (fun q=>q.1) eS 0 fun _=>rfl)) fun _=>rfl))) (xG (aq 0 (zE (eT aF)) vr rfl))) (fun _=>rfl) fun _=>rfl)))
theorem YQ:∀ v bs,(aZ (eT aF) aN) v bs->bs.length=1/\(hold (some (Bj v.1))->pI (bs.map lend)=some ((zE eB) (tB v.1))):=by
 rintro⟨vr,_⟩ _ ⟨_,rfl,rfl⟩
 exact⟨rfl,fun h=>cG (g:=Bd) (n:=1) (bs:=[.z ((eT aF) vr)]) (YM vr) h⟩
def dw (vs:aG):Str:=(let q1:=vs;(if (!(!q1.2.isEmpty))=true then (q1.1++((":" : Str)++Str.empty)) else (let va2:=(Txt.join ", " (q1.2.map fun q2:jF=>(q2.1++((" " : Str)++(q2.2++Str.empty)))));(q1.1++((": " : Str)++(va2++Str.empty))))))
def uh (vs:aG):Prop:=(let q1:=vs;(((!(!q1.2.isEmpty))=true->(q1.1++((":" : Str)++Str.empty)).length<=100000)/\((!(!q1.2.isEmpty))=false->(((q1.2.length<=100000/\(∀ q2∈q1.2,(q2.1++((" " : Str)++(q2.2++Str.empty))).length<=100000))/\((q1.2.map fun q2:jF=>(q2.1++((" " : Str)++(q2.2++Str.empty)))).map (·.length)).sum+(q1.2.map fun q2:jF=>(q2.1++((" " : Str)++(q2.2++Str.empty)))).length * (", " : Str).length<=100000)/\(let va2:=(Txt.join ", " (q1.2.map fun q2:jF=>(q2.1++((" " : Str)++(q2.2++Str.empty)))));(q1.1++((": " : Str)++(va2++Str.empty))).length<=100000)))))
theorem Vx (vs:aG):RP xX [some ((zE aF) vs),none,none,none] (fun r=>Out.rt ((zE eS) r)) (dw vs) (some (uh vs)):=R.tp (aaA (aq 0 (zE aF) vs rfl) _ (fun _=>rfl) fun q1=>(nQ (zp (ahZ (aq 2 (zE (eT oY)) q1.2 rfl))) (cX (cY (fun r=>r) (Va (RT (aq 1 (zE eS) q1.1 rfl) (aaL ":" aaK))) (fun _=>rfl) fun _=>rfl)) (eF (cR 3 (J6 ", " (su (u0 (J8 (aq 2 (zE (eT oY)) q1.2 rfl)) _ (fun _=>rfl) (fun q2:jF=>(Va (RT (aq 0 (zE eS) q2.1 rfl) (aaL " " (RT (aq 1 (zE eS) q2.2 rfl) aaK)))))))) (fun _=>rfl) fun va2=>(cY (fun r=>r) (Va (RT (aq 1 (zE eS) q1.1 rfl) (aaL ": " (RT (aq 3 (zE eS) va2 rfl) aaK)))) (fun _=>rfl) fun _=>rfl)))))
theorem LQ:∀ v bs,(aZ aF aN) v bs->bs.length=1/\(hold (some (uh v.1))->ju (bs.map lend)=some ((zE eS) (dw v.1))):=by
 rintro⟨vs,_⟩ _ ⟨_,rfl,rfl⟩
 exact⟨rfl,fun h=>cG (g:=xX) (n:=4) (bs:=[.z (aF vs)]) (Vx vs) h⟩
def bw (vo:List aG):Str:=(Txt.join "\n" (vo.map fun vs:aG=>(dw vs)))
def dX (vo:List aG):Prop:=((vo.length<=100000/\(∀ vs∈vo,(uh vs)))/\((vo.map fun vs:aG=>(dw vs)).map (·.length)).sum+(vo.map fun vs:aG=>(dw vs)).length * ("\n" : Str).length<=100000)
theorem Ti (vo:List aG):RP uO [some ((zE (eT aF)) vo)] (fun r=>Out.rt ((zE eS) r)) (bw vo) (some (dX vo)):=R.tp (cY (fun r=>r) (J6 "\n" (su (u0 (J8 (aq 0 (zE (eT aF)) vo rfl)) _ (fun _=>rfl) (fun vs:aG=>(ou (x_call LQ (bR (aq 0 (zE aF) vs rfl) bB))))))) (fun _=>rfl) fun _=>rfl)
theorem jm:∀ v bs,(aZ (eT aF) aN) v bs->bs.length=1/\(hold (some (dX v.1))->bA (bs.map lend)=some ((zE eS) (bw v.1))):=by
 rintro⟨vo,_⟩ _ ⟨_,rfl,rfl⟩
 exact⟨rfl,fun h=>cG (g:=uO) (n:=1) (bs:=[.z ((eT aF) vo)]) (Ti vo) h⟩
def pN (v1:List aG) (vG:List aG):(Option Str):=(vG.find? (fun r=>decide (r.1∈v1.map (·.1)))).map (·.1)
def uU (v1:List aG) (vG:List aG):Prop:=v1.length < 4000/\Ms (v1.length+vG.length)
theorem Tj:∀ v bs,(aZ (eT aF) (aZ (eT aF) aN)) v bs->bs.length=2/\(hold (some (uU v.1 v.2.1))->gD (bs.map lend)=some ((zE (eO eS)) (pN v.1 v.2.1))):=by
 rintro⟨vo,vp,_⟩ _ ⟨_,rfl,⟨_,rfl,rfl⟩⟩
 refine⟨rfl,fun h=>?_⟩
 obtain⟨h1,h2⟩:uU vo vp:=h
 show gD [.z (eT aF vo),.z (eT aF vp)]=some (.z (eO eS (pN vo vp)))
 unfold gD pN
 rw[aiV h1]
 cases hf:vp.find? (fun r=>decide (r.1∈vo.map (·.1))) with
 |some q=>rfl
 |none=>
  show (aU _).bind _=_
  rw[aeB h1 h2 hf]
  rfl
def bU (v1:List aG) (s1:Unit) (vG:List aG):Bw (Unit) Bool:=(if ((!decide (vG=([]:List aG)))&&(!decide ((pN v1 vG)=(some (at' vG (0:Int)).1))))=true then (Bw.rt false) else (Bw.nx ()))
def jP (v1:List aG) (s1:Unit) (vG:List aG):Prop:=((!decide (vG=([]:List aG)))=true->((uU v1 vG)/\In vG.length (0:Int)))
theorem wD (v1:List aG) (vk:Int) (vl:Int) (vm:(List (List aG))) (vn:List aG) (vq:List aG) (Fo:LS_) (s1:Unit) (vG:List aG):RP jH [some ((zE (eT aF)) v1),some ((zE eI) vk),some ((zE eI) vl),some ((lE (eT aF)) vm),some ((zE (eT aF)) vn),some ((zE (eT aF)) vq),some ((oE eS) Fo),some ((zE (eT aF)) vG)] (cC (fun s1:Unit=>[some ((zE (eT aF)) v1),some ((zE eI) vk),some ((zE eI) vl),some ((lE (eT aF)) vm),some ((zE (eT aF)) vn),some ((zE (eT aF)) vq),some ((oE eS) Fo),none]) (zE eB)) (bU v1 s1 vG) (some (jP v1 s1 vG)):=R.tp (cX (nQ (aaq (gn (xu (by decide) (aq 7 (zE (eT aF)) vG rfl) (Gf aF))) (gn (xu (by decide) (x_call Tj (bR (aq 0 (zE (eT aF)) v1 rfl) (bR (aq 7 (zE (eT aF)) vG rfl) bB))) (zm (tU (aas (aq 7 (zE (eT aF)) vG rfl) (x_i 0)) (fun q=>q.1) eS 0 fun _=>rfl))))) (cX (cY .rt (rO (.bl false) eB false rfl) (fun _=>rfl) fun _=>rfl)) (eF (eF (nu (.nx ()) rfl)))))
def pO (v1:List aG) (vk:Int) (vl:Int) (vm:(List (List aG))) (vn:List aG) (vq:List aG) (Fo:LS_):Bool:=true
def pP:Ev->Option Out:=(aM (dO (cB (.bl true))) eE)
theorem wF (v1:List aG) (vk:Int) (vl:Int) (vm:(List (List aG))) (vn:List aG) (vq:List aG) (Fo:LS_):RP pP [some ((zE (eT aF)) v1),some ((zE eI) vk),some ((zE eI) vl),some ((lE (eT aF)) vm),some ((zE (eT aF)) vn),some ((zE (eT aF)) vq),some ((oE eS) Fo),none] (fun r=>Out.rt ((zE eB) r)) (pO v1 vk vl vm vn vq Fo) (none):=R.tp (cY (fun r=>r) (rO (.bl true) eB true rfl) (fun _=>rfl) fun _=>rfl)
def fH (v1:List aG) (vk:Int) (vl:Int) (vm:(List (List aG))) (vn:List aG) (vq:List aG) (Fo:LS_):Bool:=(if (!decide ((bw v1)=(Txt.join "\n" Fo)))=true then false else (behind (qU (fun (s1:Unit) (vG:List aG)=>((bU v1 s1 vG):Bw (Unit) Bool)) vm ()) (fun r=>r) fun s1:Unit=>(pO v1 vk vl vm vn vq Fo)))
def jQ (v1:List aG) (vk:Int) (vl:Int) (vm:(List (List aG))) (vn:List aG) (vq:List aG) (Fo:LS_):Prop:=(((dX v1)/\(Fo.map (·.length)).sum+Fo.length * ("\n" : Str).length<=100000)/\((!decide ((bw v1)=(Txt.join "\n" Fo)))=false->(zq (fun (s1:Unit) (vG:List aG)=>((bU v1 s1 vG):Bw (Unit) Bool)) (fun (s1:Unit) (vG:List aG)=>some (jP v1 s1 vG)) vm ()/\(DK (qU (fun (s1:Unit) (vG:List aG)=>((bU v1 s1 vG):Bw (Unit) Bool)) vm ()) fun s1:Unit=>True))))
def pQ:Ev->Option Out:=(aM (wQ (qK yp (aY 1 bA (ao (gv 0) aO)) (b1 (yr "\n") (gv 6))) (aM (dO (cB (.bl false))) eE) eE) (aM (MF 3 (sO 7) jH) pP))
theorem wG (v1:List aG) (vk:Int) (vl:Int) (vm:(List (List aG))) (vn:List aG) (vq:List aG) (Fo:LS_):RP pQ [some ((zE (eT aF)) v1),some ((zE eI) vk),some ((zE eI) vl),some ((oE (eT aF)) vm),some ((zE (eT aF)) vn),some ((zE (eT aF)) vq),some ((oE eS) Fo),none] (fun r=>Out.rt ((zE eB) r)) (fH v1 vk vl vm vn vq Fo) (some (jQ v1 vk vl vm vn vq Fo)):=R.tp (nQ (gn (xu (by decide) (x_call jm (bR (aq 0 (zE (eT aF)) v1 rfl) bB)) (J6 "\n" (xg (aq 6 (lE eS) Fo rfl))))) (cX (cY (fun r=>r) (rO (.bl false) eB false rfl) (fun _=>rfl) fun _=>rfl)) (eF (adg 3 vm (afV rfl) (fun s1:Unit=>[some ((zE (eT aF)) v1),some ((zE eI) vk),some ((zE eI) vl),some ((lE (eT aF)) vm),some ((zE (eT aF)) vn),some ((zE (eT aF)) vq),some ((oE eS) Fo),none]) () rfl _ (fun _ _=>rfl) (fun (s1:Unit) (vG:List aG)=>((wD v1 vk vl vm vn vq Fo s1 vG).r:R _ _ (cC (fun s1:Unit=>[some ((zE (eT aF)) v1),some ((zE eI) vk),some ((zE eI) vl),some ((lE (eT aF)) vm),some ((zE (eT aF)) vn),some ((zE (eT aF)) vq),some ((oE eS) Fo),none]) (zE eB)))) (fun r=>r) (fun _=>rfl) fun s1=>(wF v1 vk vl vm vn vq Fo).r)))
def fK (v1:List aG) (vk:Int) (vl:Int) (vm:(List (List aG))) (vn:List aG) (vq:List aG):Bool:=(if ((!decide (vn=v1))||((!decide (vq=v1))||(!((tB vn)==true))))=true then false else (let Fo:=((vm.filter fun vG:(List aG)=>(!decide (vG=([]:List aG)))).map fun vG:(List aG)=>(bw vG));(fH v1 vk vl vm vn vq Fo)))
def jR (v1:List aG) (vk:Int) (vl:Int) (vm:(List (List aG))) (vn:List aG) (vq:List aG):Prop:=(((!decide (vn=v1))=false->((!decide (vq=v1))=false->(Bj vn)))/\(((!decide (vn=v1))||((!decide (vq=v1))||(!((tB vn)==true))))=false->((vm.length<=100000/\(∀ vG∈vm,((!decide (vG=([]:List aG)))=true->(dX vG))))/\(let Fo:=((vm.filter fun vG:(List aG)=>(!decide (vG=([]:List aG)))).map fun vG:(List aG)=>(bw vG));(jQ v1 vk vl vm vn vq Fo)))))
def pR:Ev->Option Out:=(aM (wQ (G4 (qK yp (gv 4) (gv 0)) (G4 (qK yp (gv 5) (gv 0)) (qK Hj (aY 1 pI (ao (gv 4) aO)) (cB (.bl true))))) (aM (dO (cB (.bl false))) eE) eE) (aM (setG 6 (fD (Jk (gv 3)) (sO 0) (qK yp (gv 0) (dZ qP aO)) (b1 wO (aY 1 bA (ao (gv 0) aO))) [] 1)) pQ))
theorem wH (v1:List aG) (vk:Int) (vl:Int) (vm:(List (List aG))) (vn:List aG) (vq:List aG):RP pR [some ((zE (eT aF)) v1),some ((zE eI) vk),some ((zE eI) vl),some ((oE (eT aF)) vm),some ((zE (eT aF)) vn),some ((zE (eT aF)) vq),none,none] (fun r=>Out.rt ((zE eB) r)) (fK v1 vk vl vm vn vq) (some (jR v1 vk vl vm vn vq)):=R.tp (nQ (Ge (gn (xu (by decide) (aq 4 (zE (eT aF)) vn rfl) (aq 0 (zE (eT aF)) v1 rfl))) (Ge (gn (xu (by decide) (aq 5 (zE (eT aF)) vq rfl) (aq 0 (zE (eT aF)) v1 rfl))) (gn (WM (x_call YQ (bR (aq 4 (zE (eT aF)) vn rfl) bB)) (rO (.bl true) eB true rfl))))) (cX (cY (fun r=>r) (rO (.bl false) eB false rfl) (fun _=>rfl) fun _=>rfl)) (eF (cR 6 (ade (afT (xg (aq 3 (lE (eT aF)) vm rfl))) _ (fun _=>rfl) (fun vG:(List aG)=>(gn (xu (by decide) (aq 0 (zE (eT aF)) vG rfl) (Gf aF)))) (fun vG:(List aG)=>(ou (x_call jm (bR (aq 0 (zE (eT aF)) vG rfl) bB))))) (fun _=>rfl) fun Fo=>(wG v1 vk vl vm vn vq Fo).r)))
def fL (v1:List aG) (vk:Int) (vl:Int) (vm:(List (List aG))) (vn:List aG):Bool:=(let vq:=(bh (at' vm (0:Int)) (bh (at' vm (1:Int)) (at' vm (2:Int))));(fK v1 vk vl vm vn vq))
def fM (v1:List aG) (vk:Int) (vl:Int) (vm:(List (List aG))) (vn:List aG):Prop:=(((In vm.length (0:Int)/\((In vm.length (1:Int)/\In vm.length (2:Int))/\(cW (at' vm (1:Int)) (at' vm (2:Int)))))/\(cW (at' vm (0:Int)) (bh (at' vm (1:Int)) (at' vm (2:Int)))))/\(let vq:=(bh (at' vm (0:Int)) (bh (at' vm (1:Int)) (at' vm (2:Int))));(jR v1 vk vl vm vn vq)))
def pU:Ev->Option Out:=(aM (setG 5 (aY 2 aU (ao (b2 jr (gv 3) (cB (.int 0))) (ao (b1 wO (aY 2 aU (ao (b2 jr (gv 3) (cB (.int 1))) (ao (b2 jr (gv 3) (cB (.int 2))) aO)))) aO)))) pR)
theorem wI (v1:List aG) (vk:Int) (vl:Int) (vm:(List (List aG))) (vn:List aG):RP pU [some ((zE (eT aF)) v1),some ((zE eI) vk),some ((zE eI) vl),some ((oE (eT aF)) vm),some ((zE (eT aF)) vn),none,none,none] (fun r=>Out.rt ((zE eB) r)) (fL v1 vk vl vm vn) (some (fM v1 vk vl vm vn)):=R.tp (cR 5 (x_call jN (bR (qe (xg (aq 3 (lE (eT aF)) vm rfl)) (x_i 0)) (bR (ou (x_call jN (bR (qe (xg (aq 3 (lE (eT aF)) vm rfl)) (x_i 1)) (bR (qe (xg (aq 3 (lE (eT aF)) vm rfl)) (x_i 2)) bB)))) bB))) (fun _=>rfl) fun vq=>(wH v1 vk vl vm vn vq).r)
def jT (v1:List aG) (vk:Int) (vl:Int) (vm:(List (List aG))):Bool:=(let vn:=(bh (bh (at' vm (0:Int)) (at' vm (1:Int))) (at' vm (2:Int)));(fL v1 vk vl vm vn))
def jU (v1:List aG) (vk:Int) (vl:Int) (vm:(List (List aG))):Prop:=(((((In vm.length (0:Int)/\In vm.length (1:Int))/\(cW (at' vm (0:Int)) (at' vm (1:Int))))/\In vm.length (2:Int))/\(cW (bh (at' vm (0:Int)) (at' vm (1:Int))) (at' vm (2:Int))))/\(let vn:=(bh (bh (at' vm (0:Int)) (at' vm (1:Int))) (at' vm (2:Int)));(fM v1 vk vl vm vn)))
def wJ:Ev->Option Out:=(aM (setG 4 (aY 2 aU (ao (b1 wO (aY 2 aU (ao (b2 jr (gv 3) (cB (.int 0))) (ao (b2 jr (gv 3) (cB (.int 1))) aO)))) (ao (b2 jr (gv 3) (cB (.int 2))) aO)))) pU)
theorem wK (v1:List aG) (vk:Int) (vl:Int) (vm:(List (List aG))):RP wJ [some ((zE (eT aF)) v1),some ((zE eI) vk),some ((zE eI) vl),some ((oE (eT aF)) vm),none,none,none,none] (fun r=>Out.rt ((zE eB) r)) (jT v1 vk vl vm) (some (jU v1 vk vl vm)):=R.tp (cR 4 (x_call jN (bR (ou (x_call jN (bR (qe (xg (aq 3 (lE (eT aF)) vm rfl)) (x_i 0)) (bR (qe (xg (aq 3 (lE (eT aF)) vm rfl)) (x_i 1)) bB)))) (bR (qe (xg (aq 3 (lE (eT aF)) vm rfl)) (x_i 2)) bB))) (fun _=>rfl) fun vn=>(wI v1 vk vl vm vn).r)
def cP (v1:List aG) (vk:Int) (vl:Int):Bool:=(let vm:=[(cut v1 none (some vk)),(cut v1 (some vk) (some vl)),(cut v1 (some vl) none)];(jT v1 vk vl vm))
def eZ (v1:List aG) (vk:Int) (vl:Int):Prop:=(let vm:=[(cut v1 none (some vk)),(cut v1 (some vk) (some vl)),(cut v1 (some vl) none)];(jU v1 vk vl vm))
theorem Ai (v1:List aG) (vk:Int) (vl:Int):RP iY [some ((zE (eT aF)) v1),some ((zE eI) vk),some ((zE eI) vl),none,none,none,none,none] (fun r=>Out.rt ((zE eB) r)) (cP v1 vk vl) (some (eZ v1 vk vl)):=R.tp (cR 3 (Bv (j6 (ou (J2 (aq 0 (zE (eT aF)) v1 rfl) Gg (Cg (aq 1 (zE eI) vk rfl)))) (j6 (ou (J2 (aq 0 (zE (eT aF)) v1 rfl) (Cg (aq 1 (zE eI) vk rfl)) (Cg (aq 2 (zE eI) vl rfl)))) (j6 (ou (J2 (aq 0 (zE (eT aF)) v1 rfl) (Cg (aq 2 (zE eI) vl rfl)) Gg)) (qd (eT aF))))) (ZO rfl)) (fun _=>rfl) fun vm=>(wK v1 vk vl vm).r)
theorem Aj:∀ v bs,(aZ (eT aF) (aZ eI (aZ eI aN))) v bs->bs.length=3/\(hold (some (eZ v.1 v.2.1 v.2.2.1))->bV (bs.map lend)=some ((zE eB) (cP v.1 v.2.1 v.2.2.1))):=by
 rintro⟨v1,vk,vl,_⟩ _ ⟨_,rfl,⟨_,rfl,⟨_,rfl,rfl⟩⟩⟩
 exact⟨rfl,fun h=>cG (g:=iY) (n:=8) (bs:=[.z ((eT aF) v1),.z (eI vk),.z (eI vl)]) (Ai v1 vk vl) h⟩
def fj (vo:List aG) (Og:Str):(List aG):=(if ((!(jO Og))||(!decide (Og∈(vo.map fun vs:aG=>vs.1))))=true then default else ((vo.filter fun vs:aG=>(!decide (vs.1=Og))).map fun vs:aG=>vs))
def mZ (vo:List aG) (Og:Str):Prop:=(((tu Og)/\((!(jO Og))=false->vo.length<=100000))/\((((!(jO Og))||(!decide (Og∈(vo.map fun vs:aG=>vs.1))))=true->False)/\(((!(jO Og))||(!decide (Og∈(vo.map fun vs:aG=>vs.1))))=false->vo.length<=100000)))
theorem LR (vo:List aG) (Og:Str):RP qu [some ((zE (eT aF)) vo),some ((zE eS) Og)] (fun r=>Out.rt ((zE (eT aF)) r)) (fj vo Og) (some (mZ vo Og)):=R.tp (nQ (Ge (zp (JZ (x_call GR (bR (aq 1 (zE eS) Og rfl) bB)))) (gn (ah1 (aq 1 (zE eS) Og rfl) (su (Dy (J8 (aq 0 (zE (eT aF)) vo rfl)) _ (fun _=>rfl) (fun vs:aG=>(tU (aq 0 (zE aF) vs rfl) (fun q=>q.1) eS 0 fun _=>rfl)) fun _=>rfl))))) (cX Pz) (eF (cY (fun r=>r) (Av (su (aax (J8 (aq 0 (zE (eT aF)) vo rfl)) _ (fun _=>rfl) (fun vs:aG=>(gn (xu (by decide) (tU (aq 1 (zE aF) vs rfl) (fun q=>q.1) eS 0 fun _=>rfl) (aq 0 (zE eS) Og rfl)))) (fun vs:aG=>(aq 1 (zE aF) vs rfl)) (fun _=>rfl) fun _=>rfl))) (fun _=>rfl) fun _=>rfl)))
theorem Ak:∀ v bs,(aZ (eT aF) (aZ eS aN)) v bs->bs.length=2/\(hold (some (mZ v.1 v.2.1))->dH (bs.map lend)=some ((zE (eT aF)) (fj v.1 v.2.1))):=by
 rintro⟨vo,Og,_⟩ _ ⟨_,rfl,⟨_,rfl,rfl⟩⟩
 exact⟨rfl,fun h=>cG (g:=qu) (n:=2) (bs:=[.z ((eT aF) vo),.z (eS Og)]) (LR vo Og) h⟩
def cQ (v1:List aG) (vc:LI_) (iJ:List aG) (v5:Int):Bw ((List aG)) (Option (List aG)):=(let vg:=(at' iJ (((at' vc (v5 % (vc.length:Int))) / ((1:Int)+(v5 / (vc.length:Int)))) % (iJ.length:Int))).1;(let iJ:=(fj iJ vg);(if ((decide (vg∈(iJ.map fun jB:aG=>jB.1)))||(!decide ((iJ.length:Int)=(((v1.length:Int) - (1:Int)) - v5))))=true then (Bw.rt none) else (Bw.nx iJ))))
def pq (v1:List aG) (vc:LI_) (iJ:List aG) (v5:Int):Prop:=((((((0 < (vc.length:Int)/\In vc.length (v5 % (vc.length:Int)))/\(0 < (vc.length:Int)/\(vc.length:Int) < 1073741824))/\(0 < ((1:Int)+(v5 / (vc.length:Int)))/\((1:Int)+(v5 / (vc.length:Int))) < 1073741824))/\0 < (iJ.length:Int))/\In iJ.length (((at' vc (v5 % (vc.length:Int))) / ((1:Int)+(v5 / (vc.length:Int)))) % (iJ.length:Int)))/\(let vg:=(at' iJ (((at' vc (v5 % (vc.length:Int))) / ((1:Int)+(v5 / (vc.length:Int)))) % (iJ.length:Int))).1;((mZ iJ vg)/\(let iJ:=(fj iJ vg);iJ.length<=100000))))
theorem Cy (v1:List aG) (vc:LI_) {b_1:Bx} (h_1:Lp b_1 (vc.map eI)) (iJ:List aG) (v5:Int):RP uc [some ((zE (eT aF)) v1),some b_1,some ((zE (eT aF)) iJ),some ((zE eI) v5),none] (cC (fun iJ:(List aG)=>[some ((zE (eT aF)) v1),some b_1,some ((zE (eT aF)) iJ),none,none]) (zE (eO (eT aF)))) (cQ v1 vc iJ v5) (some (pq v1 vc iJ v5)):=R.tp (cX (cR 4 (tU (aas (aq 2 (zE (eT aF)) iJ rfl) (G9 (U3 (qe (lW 1 eI vc h_1 rfl) (G9 (aq 3 (zE eI) v5 rfl) (x_len (lW 1 eI vc h_1 rfl)))) (jE (x_i 1) (U3 (aq 3 (zE eI) v5 rfl) (x_len (lW 1 eI vc h_1 rfl))))) (xG (aq 2 (zE (eT aF)) iJ rfl)))) (fun q=>q.1) eS 0 fun _=>rfl) (fun _=>rfl) fun vg=>(cX (cR 2 (x_call Ak (bR (aq 2 (zE (eT aF)) iJ rfl) (bR (aq 4 (zE eS) vg rfl) bB))) (fun _=>rfl) fun iJ=>(cX (nQ (Ge (gn (akv (aq 4 (zE eS) vg rfl) (su (Dy (J8 (aq 2 (zE (eT aF)) iJ rfl)) _ (fun _=>rfl) (fun jB:aG=>(tU (aq 0 (zE aF) jB rfl) (fun q=>q.1) eS 0 fun _=>rfl)) fun _=>rfl)))) (gn (xu (by decide) (xG (aq 2 (zE (eT aF)) iJ rfl)) (aam (aam (xG (aq 0 (zE (eT aF)) v1 rfl)) (x_i 1)) (aq 3 (zE eI) v5 rfl))))) (cX (cY .rt Ce (fun _=>rfl) fun _=>rfl)) (eF (eF (nu (.nx iJ) rfl)))))))))
def iT (v1:List aG) (vc:LI_):(Option (List aG)):=(let iJ:=v1;(behind (qU (fun (iJ:List aG) (v5:Int)=>((cQ v1 vc iJ v5):Bw ((List aG)) (Option (List aG)))) (rng 0 (v1.length:Int).toNat) iJ) (fun r=>r) fun iJ:(List aG)=>(some iJ)))
def oW (v1:List aG) (vc:LI_):Prop:=(let iJ:=v1;((Rg (v1.length:Int)/\zq (fun (iJ:List aG) (v5:Int)=>((cQ v1 vc iJ v5):Bw ((List aG)) (Option (List aG)))) (fun (iJ:List aG) (v5:Int)=>some (pq v1 vc iJ v5)) (rng 0 (v1.length:Int).toNat) iJ)/\(DK (qU (fun (iJ:List aG) (v5:Int)=>((cQ v1 vc iJ v5):Bw ((List aG)) (Option (List aG)))) (rng 0 (v1.length:Int).toNat) iJ) fun iJ:(List aG)=>True)))
theorem Iu (v1:List aG) (vc:LI_) {b_1:Bx} (h_1:Lp b_1 (vc.map eI)):RP oM [some ((zE (eT aF)) v1),some b_1,none,none,none] (fun r=>Out.rt ((zE (eO (eT aF))) r)) (iT v1 vc) (some (oW v1 vc)):=R.tp (cR 2 (aq 0 (zE (eT aF)) v1 rfl) (fun _=>rfl) fun iJ=>(aaC (fun iJ:(List aG)=>[some ((zE (eT aF)) v1),some b_1,some ((zE (eT aF)) iJ),none,none]) iJ rfl (Dz (xG (aq 0 (zE (eT aF)) v1 rfl))) _ (fun _ _=>rfl) (fun (iJ:List aG) (v5:Int)=>((Cy v1 vc h_1 iJ v5).r:R _ _ (cC (fun iJ:(List aG)=>[some ((zE (eT aF)) v1),some b_1,some ((zE (eT aF)) iJ),none,none]) (zE (eO (eT aF)))))) (fun r=>r) (fun _=>rfl) fun iJ=>(cY (fun r=>r) (zm (aq 2 (zE (eT aF)) iJ rfl)) (fun _=>rfl) fun _=>rfl)))
theorem Iv:∀ v bs,(aZ (eT aF) (aL eI aN)) v bs->bs.length=2/\(hold (some (oW v.1 v.2.1))->dU (bs.map lend)=some ((zE (eO (eT aF))) (iT v.1 v.2.1))):=by
 rintro⟨v1,vc,_⟩ _ ⟨_,rfl,⟨b_1,_,rfl,h_1,rfl⟩⟩
 exact⟨rfl,fun h=>cG (g:=oM) (n:=5) (bs:=[.z ((eT aF) v1),lend b_1]) (Iu v1 vc (JV h_1)) h⟩
def bL (pA:Str):LS_:=(if (!(lF (eS pA)))=true then default else (if (decide (pA.length≠0))=true then (Txt.split pA ("\n" : Str)) else ([]:LS_)))
def m7 (pA:Str):Prop:=(((!(lF (eS pA)))=true->False)/\((!(lF (eS pA)))=false->((decide (pA.length≠0))=true->((("\n" : Str).length==0)=false/\pA.length<=100000))))
theorem Vy (pA:Str):RP xY [some ((zE eS) pA)] (fun r=>Out.rt ((oE eS) r)) (bL pA) (some (m7 pA)):=R.tp (nQ (zp (JZ (J5 lF (aq 0 (zE eS) pA rfl)))) (cX Pz) (eF (cY (fun r=>r) (ac8 (aap (aq 0 (zE eS) pA rfl)) (DQ (aq 0 (zE eS) pA rfl) (Vc "\n")) (Bv (qd eS) (ZO rfl))) (fun _=>rfl) fun _=>rfl)))
theorem Ma:∀ v bs,(aZ eS aN) v bs->bs.length=1/\(hold (some (m7 v.1))->iw (bs.map lend)=some ((oE eS) (bL v.1))):=by
 rintro⟨pA,_⟩ _ ⟨_,rfl,rfl⟩
 exact⟨rfl,fun h=>cG (g:=xY) (n:=1) (bs:=[.z (eS pA)]) (Vy pA) h⟩
def bM (pA:Str):(Option aG):=(let q1:=(Txt.partition pA (":" : Str));(if (!(decide (q1.2.1.length≠0)))=true then none else (if (!(decide (q1.2.2.length≠0)))=true then (let va9:=([]:List jF);(let vs:=(q1.1,va9);(if (lA vs)=true then (some vs) else none))) else (if (decide ((ch q1.2.2 (0:Int))=(" " : Str)))=true then (let va9:=((Txt.split (Txt.slice q1.2.2 (some (1:Int)) none) (", " : Str)).map fun vx:Str=>(at' (Txt.split vx (" " : Str)) 0,at' (Txt.split vx (" " : Str)) 1));(let vs:=(q1.1,va9);(if (lA vs)=true then (some vs) else none))) else none))))
def qH (pA:Str):Prop:=(((":" : Str).length==0)=false/\(let q1:=(Txt.partition pA (":" : Str));((!(decide (q1.2.1.length≠0)))=false->(((!(decide (q1.2.2.length≠0)))=true->(let va9:=([]:List jF);(let vs:=(q1.1,va9);(ug vs))))/\((!(decide (q1.2.2.length≠0)))=false->(In q1.2.2.length (0:Int)/\((decide ((ch q1.2.2 (0:Int))=(" " : Str)))=true->((((((", " : Str).length==0)=false/\(Txt.slice q1.2.2 (some (1:Int)) none).length<=100000)/\(Txt.split (Txt.slice q1.2.2 (some (1:Int)) none) (", " : Str)).length<=100000)/\(∀ vx∈(Txt.split (Txt.slice q1.2.2 (some (1:Int)) none) (", " : Str)),((((" " : Str).length==0)=false/\vx.length<=100000)/\(Txt.split vx (" " : Str)).length=2)))/\(let va9:=((Txt.split (Txt.slice q1.2.2 (some (1:Int)) none) (", " : Str)).map fun vx:Str=>(at' (Txt.split vx (" " : Str)) 0,at' (Txt.split vx (" " : Str)) 1));(let vs:=(q1.1,va9);(ug vs)))))))))))
theorem abj (pA:Str):RP Ed [some ((zE eS) pA),none,none,none,none,none] (fun r=>Out.rt ((zE (eO aF)) r)) (bM pA) (some (qH pA)):=R.tp (aaA (af2 (aq 0 (zE eS) pA rfl) (Vc ":")) _ (fun _=>rfl) fun q1=>(nQ (zp (aap (aq 2 (zE eS) q1.2.1 rfl))) (cX (cY (fun r=>r) Ce (fun _=>rfl) fun _=>rfl)) (eF (nQ (zp (aap (aq 3 (zE eS) q1.2.2 rfl))) (cX (cR 4 (Gf oY) (fun _=>rfl) fun va9=>(eF (cR 5 (Pu (aq 1 (zE eS) q1.1 rfl) (aq 4 (zE (eT oY)) va9 rfl)) (fun _=>rfl) fun vs=>(cY (fun r=>r) (ou (ac8 (JZ (x_call Ey (bR (aq 5 (zE aF) vs rfl) bB))) (zm (aq 5 (zE aF) vs rfl)) Ce)) (fun _=>rfl) fun _=>rfl))))) (cX (nQ (gn (x_eq (by decide) (RB (aq 3 (zE eS) q1.2.2 rfl) (x_i 0)) (Vc " "))) (cX (cR 4 (Av (su (u0 (afT (su (DQ (aat (aq 3 (zE eS) q1.2.2 rfl) (Cg (x_i 1)) Gg) (Vc ", ")))) _ (fun _=>rfl) (fun vx:Str=>(akE (Av (su (DQ (aq 0 (zE eS) vx rfl) (Vc " "))))))))) (fun _=>rfl) fun va9=>(eF (eF (cR 5 (Pu (aq 1 (zE eS) q1.1 rfl) (aq 4 (zE (eT oY)) va9 rfl)) (fun _=>rfl) fun vs=>(cY (fun r=>r) (ou (ac8 (JZ (x_call Ey (bR (aq 5 (zE aF) vs rfl) bB))) (zm (aq 5 (zE aF) vs rfl)) Ce)) (fun _=>rfl) fun _=>rfl)))))) (cX (cY (fun r=>r) Ce (fun _=>rfl) fun _=>rfl))))))))
theorem Mf:∀ v bs,(aZ eS aN) v bs->bs.length=1/\(hold (some (qH v.1))->jJ (bs.map lend)=some ((zE (eO aF)) (bM v.1))):=by
 rintro⟨pA,_⟩ _ ⟨_,rfl,rfl⟩
 exact⟨rfl,fun h=>cG (g:=Ed) (n:=6) (bs:=[.z (eS pA)]) (abj pA) h⟩
def jo (pA:Str):(List aG):=(let va8:=([]:List aG);(let va8:=((pG (bL pA)).map fun q1:aa8=>(bM q1.2).getD default);va8))
def rU (pA:Str):Prop:=(let va8:=([]:List aG);(((va8=[]/\(m7 pA))/\((pG (bL pA)).length < 4000/\((pG (bL pA)).map fun q1:aa8=>(let y2:=(bM q1.2);(y2.getD default).1)).Nodup))/\(∀ q1∈(pG (bL pA)),((qH q1.2)/\(((bM q1.2)).isSome=true/\((let y2:=(bM q1.2);y2.isNone=false)/\(let y2:=(bM q1.2);y2.isSome=true)))))))
theorem Tn (pA:Str):RP uP [some ((zE eS) pA),none,none,none,none,none] (fun r=>Out.rt ((zE (eT aF)) r)) (jo pA) (some (rU pA)):=R.tp (cR 1 (Bv (qd aF) (ZO rfl)) (fun _=>rfl) fun va8=>(af7 2 1 5 3 4 va8 rfl rfl (ρ0:=[some ((zE eS) pA),none,none,none,none,none]) rfl (aaF (Yk (x_call Ma (bR (aq 0 (zE eS) pA rfl) bB)))) (fun q1:aa8=>(x_call Mf (bR (aq 4 (zE eS) q1.2 rfl) bB))) (fun (q1:aa8) y2=>(gn (aao (aq 5 (zE (eO aF)) y2 rfl) fun _=>rfl))) (fun (q1:aa8) y2=>(tU (aal (aq 5 (zE (eO aF)) y2 rfl)) (fun q=>q.1) eS 0 fun _=>rfl)) fun va8=>(cY (fun r=>r) (Av (xg (aq 1 (lE aF) va8 rfl))) (fun _=>rfl) fun _=>rfl)))
theorem Hw:∀ v bs,(aZ eS aN) v bs->bs.length=1/\(hold (some (rU v.1))->cL (bs.map lend)=some ((zE (eT aF)) (jo v.1))):=by
 rintro⟨pA,_⟩ _ ⟨_,rfl,rfl⟩
 exact⟨rfl,fun h=>cG (g:=uP) (n:=6) (bs:=[.z (eS pA)]) (Tn pA) h⟩
def twT (t:Str):Str:=(t++("\n" : Str))++t
def ni (fu:Str):(Option Int):=some ((bL fu).length:Int)
def rW (fu:Str):Prop:=fu.length<=2000/\bL (twT fu)=bL fu++bL fu/\m7 (twT fu)/\bL fu≠[]/\(bL fu).length < 4000/\(∀ l∈bL fu,qH l/\(bM l).isSome=true)/\((bL fu).map fun l=>((bM l).getD default).1).Nodup
theorem abk {α:Type} (xs ys:List α):pG (xs++ys)=pG xs++((List.range ys.length).map (xs.length+·)).zipWith (fun (k:Nat) x=>((k:Int),x)) ys:=by
 unfold pG
 rw[zw,List.range_add,List.zipWith_append (by rw[List.length_range])]
theorem W4 {α β:Type} (f:α->β):∀ (ks:List Nat) (xs:List α),ks.length=xs.length->(ks.zipWith (fun (k:Nat) x=>((k:Int),x)) xs).map (fun q=>f q.2)=xs.map f
 |[],[],_=>rfl
 |k::ks,x::xs,h=>by
  rw[List.zipWith_cons_cons,zg,zg,W4 f ks xs (Nat.succ.inj h)]
theorem Mg {α β:Type} (f:α->β) (xs:List α):(pG xs).map (fun q=>f q.2)=xs.map f:=W4 f _ xs (List.length_range ..)
theorem aiX (t:Str):RP (enF (ao (b1 wO (aY 1 iw (ao (gv 0) aO))) aO)) [some ((zE eS) t),none,none,none,none,none] (iE (Fl eI eS)) (pG (bL t)) (some (m7 t)):=R.tp (aaF (Yk (x_call Ma (bR (aq 0 (zE eS) t rfl) bB))))
theorem aiY (t:Str) (q1:Int×Str):RP (aY 1 jJ (ao (gv 4) aO)) ((([some ((zE eS) t),none,none,none,none,none]:Ev).set 3 (some (.z (eI q1.1)))).set 4 (some (.z (eS q1.2)))) (zE (eO aF)) (bM q1.2) (some (qH q1.2)):=R.tp (x_call Mf (bR (aq 4 (zE eS) q1.2 rfl) bB))
theorem aiZ (t:Str) (q1:Int×Str) (y2:Option aG):RP (qK isB (gv 5) (cB .non)) (((([some ((zE eS) t),none,none,none,none,none]:Ev).set 3 (some (.z (eI q1.1)))).set 4 (some (.z (eS q1.2)))).set 5 (some (.z (eO aF y2)))) tE y2.isNone none:=R.tp (gn (aao (aq 5 (zE (eO aF)) y2 rfl) fun _=>rfl))
theorem ai0 (t:Str) (q1:Int×Str) (y2:Option aG):RP (b2 jr (gv 5) (cB (.int 0))) (((([some ((zE eS) t),none,none,none,none,none]:Ev).set 3 (some (.z (eI q1.1)))).set 4 (some (.z (eS q1.2)))).set 5 (some (.z (eO aF y2)))) (zE eS) (y2.getD default).1 (some (y2.isSome=true)):=R.tp (tU (aal (aq 5 (zE (eO aF)) y2 rfl)) (fun q=>q.1) eS 0 fun _=>rfl)
theorem agt (t:Str) (L:LS_) (l0:Str) (L':LS_) (hL:L=l0::L') (h2:bL t=L++L) (h3:m7 t) (h5:L.length < 4000) (h6:∀ l∈L,qH l/\(bM l).isSome=true) (h7:(L.map fun l=>((bM l).getD default).1).Nodup):zA 6 Km [.z (eS t)]=some (.int (L.length:Int)):=by
 have hit:pG (bL t)=pG L++((L.length:Int),l0)::((List.range L'.length).map fun k=>L.length+(k+1)).zipWith (fun (k:Nat) x=>((k:Int),x)) L':=by
  rw[h2,abk]
  conv=>lhs;rhs;rw[hL]
  rw[Zp,kl,zg,List.zipWith_cons_cons,Z3,hL]
  rfl
 have mem:∀ q∈pG L++[((L.length:Int),l0)],q.2∈L:=fun q hq=>by
  rcases List.mem_append.mp hq with hq|hq
  ·have:=qS (f:=fun q:Int×Str=>q.2) hq
   rwa [Mg (fun x=>x),List.map_id'] at this
  ·cases List.mem_singleton.mp hq
   rw[hL];exact zi ..
 have key:=aa1 (fx:=rzX WW (gv 3)) (d:=.int (L.length:Int)) (ρ:=[some ((zE eS) t),some (.o []),none,none,none,none]) (e:=aF) (ea:=eI) (eb:=eS) 2 1 5 3 4 rfl rfl (ρ0:=[some ((zE eS) t),none,none,none,none,none]) rfl (aiX t).r (fun q=>(aiY t q).r) (fun q y=>(aiZ t q y).r) (fun q y=>(ai0 t q y).r) (L1:=pG L) (x0:=((L.length:Int),l0)) hit h3 (by unfold pG;simpa using h5)
  (Eq.mpr (congrArg List.Nodup (Mg (fun l:Str=>((bM l).getD default).1) L)) h7)
  (by
   have e1:((bM l0).getD default).1∈L.map fun l:Str=>((bM l).getD default).1:=by rw[hL];exact zi ..
   exact Eq.mpr (congrArg (fun z=>((bM l0).getD default).1∈z) (Mg (fun l:Str=>((bM l).getD default).1) L)) e1)
  (fun q hq=>by
   obtain⟨d1,d2⟩:=h6 q.2 (mem q hq)
   refine⟨d1,d2,trivial,?_,d2⟩
   show (bM q.2).isNone=false
   cases hr:bM q.2 with
   |none=>rw[hr] at d2;cases d2
   |some _=>rfl)
  (by
   have g:∀ (y:Option aG) (n:Int),0<=n/\n < 100000->rzX WW (gv 3) (evS [some ((zE eS) t),none,none,none,none,none] 3 4 5 eI eS aF (n,l0) y)=some (.int n):=fun y n hn=>zk (z5 hn)
   exact g _ _ (by omega))
 unfold zA Km aaV
 rw[show setG 1 (dZ yK aO) ([Bx.z (eS t)].map some++List.replicate (6 - [Bx.z (eS t)].length) none)=some (.nx [some ((zE eS) t),some (.o []),none,none,none,none]) from rfl]
 simp only[bnd]
 rw[key]
 rfl
theorem Tp:∀ v bs,(aZ eS aN) v bs->bs.length=1/\(hold (some (rW v.1))->jX (bs.map lend)=some ((zE (eO eI)) (ni v.1))):=by
 rintro⟨fu,_⟩ _ ⟨_,rfl,rfl⟩
 refine⟨rfl,fun h=>?_⟩
 obtain⟨h1,h2,h3,h4,h5,h6,h7⟩:rW fu:=h
 obtain⟨l0,L',hL⟩:∃ l0 L',bL fu=l0::L':=by
  cases hl:bL fu with
  |nil=>exact absurd hl h4
  |cons a b=>exact⟨a,b,rfl⟩
 have n1:("\n" : Str).length=1:=by decide +kernel
 have a1:dh (.z (.str fu)) (.z (.str "\n"))=some (.z (.str (fu++("\n" : Str)))):=zk (zz (show fu.length+("\n" : Str).length<=2001 by omega) (by decide))
 have a2:dh (.z (.str (fu++("\n" : Str)))) (.z (.str fu))=some (.z (.str (twT fu))):=zk (zz (show (fu++("\n" : Str)).length+fu.length<=4001 by rw[strLen_append];omega) (by decide))
 have et:aa9 [some (.z (.str fu)),none]=some (.z (.str (twT fu))):=by
  show ((dh (.z (.str fu)) (.z (.str "\n"))).bind fun x=>(some (Bx.z (.str fu))).bind fun y=>dh x y)=_
  rw[a1]
  exact a2
 show ((aa9 [some (.z (.str fu)),none]).bind _)=_
 rw[et]
 show (match zA 6 Km [.z (eS (twT fu))] with
  |some d=>some (Bx.z d)
  |none=>_)=_
 rw[agt (twT fu) _ l0 L' hL h2 h3 h5 h6 h7]
 rfl
def pB (pA:Str):(Option aG):=(let vs:=(if (lF (eS pA))=true then (bM pA) else none);(if vs.isNone=true then default else vs))
def yg (pA:Str):Prop:=(((lF (eS pA))=true->(qH pA))/\(let vs:=(if (lF (eS pA))=true then (bM pA) else none);(vs.isNone=true->False)))
theorem Vz (pA:Str):RP xZ [some ((zE eS) pA),none] (fun r=>Out.rt ((zE (eO aF)) r)) (pB pA) (some (yg pA)):=R.tp (cR 1 (ac8 (JZ (J5 lF (aq 0 (zE eS) pA rfl))) (x_call Mf (bR (aq 0 (zE eS) pA rfl) bB)) Ce) (fun _=>rfl) fun vs=>(nQ (gn (aao (aq 1 (zE (eO aF)) vs rfl) fun _=>rfl)) (cX Pz) (eF (cY (fun r=>r) (aq 1 (zE (eO aF)) vs rfl) (fun _=>rfl) fun _=>rfl))))
theorem VB:∀ v bs,(aZ eS aN) v bs->bs.length=1/\(hold (some (yg v.1))->lZ (bs.map lend)=some ((zE (eO aF)) (pB v.1))):=by
 rintro⟨pA,_⟩ _ ⟨_,rfl,rfl⟩
 exact⟨rfl,fun h=>cG (g:=xZ) (n:=2) (bs:=[.z (eS pA)]) (Vz pA) h⟩
def eG (M6:Str) (s1:Unit) (q2:jF):Bw (Unit) (Option Str):=(if (decide (q2.1=M6))=true then (Bw.rt (some q2.2)) else (Bw.nx ()))
theorem Qt (vs:aG) (M6:Str) (s1:Unit) (q2:jF):RP Ef [some ((zE aF) vs),some ((zE eS) M6),some ((zE eS) q2.1),some ((zE eS) q2.2)] (cC (fun s1:Unit=>[some ((zE aF) vs),some ((zE eS) M6),none,none]) (zE (eO eS))) (eG M6 s1 q2) (none):=R.tp (cX (nQ (gn (x_eq (by decide) (aq 2 (zE eS) q2.1 rfl) (aq 1 (zE eS) M6 rfl))) (cX (cY .rt (zm (aq 3 (zE eS) q2.2 rfl)) (fun _=>rfl) fun _=>rfl)) (eF (eF (nu (.nx ()) rfl)))))
def wL (vs:aG) (M6:Str):(Option Str):=(behind (qU (fun (s1:Unit) (q2:jF)=>((eG M6 s1 q2):Bw (Unit) (Option Str))) vs.2 ()) (fun r=>r) fun s1:Unit=>none)
def GX (vs:aG) (M6:Str):Prop:=(zq (fun (s1:Unit) (q2:jF)=>((eG M6 s1 q2):Bw (Unit) (Option Str))) (fun (s1:Unit) (q2:jF)=>none) vs.2 ()/\(DK (qU (fun (s1:Unit) (q2:jF)=>((eG M6 s1 q2):Bw (Unit) (Option Str))) vs.2 ()) fun s1:Unit=>True))
theorem YS (vs:aG) (M6:Str):RP Bf [some ((zE aF) vs),some ((zE eS) M6),none,none] (fun r=>Out.rt ((zE (eO eS)) r)) (wL vs M6) (some (GX vs M6)):=R.tp (aaC (fun s1:Unit=>[some ((zE aF) vs),some ((zE eS) M6),none,none]) () rfl (akz (tU (aq 0 (zE aF) vs rfl) (fun q=>q.2) (eT oY) 1 fun _=>rfl)) _ (fun _ _=>rfl) (fun (s1:Unit) (q2:jF)=>((Qt vs M6 s1 q2).r:R _ _ (cC (fun s1:Unit=>[some ((zE aF) vs),some ((zE eS) M6),none,none]) (zE (eO eS))))) (fun r=>r) (fun _=>rfl) fun s1=>(cY (fun r=>r) Ce (fun _=>rfl) fun _=>rfl))
theorem YT:∀ v bs,(aZ aF (aZ eS aN)) v bs->bs.length=2/\(hold (some (GX v.1 v.2.1))->pJ (bs.map lend)=some ((zE (eO eS)) (wL v.1 v.2.1))):=by
 rintro⟨vs,M6,_⟩ _ ⟨_,rfl,⟨_,rfl,rfl⟩⟩
 exact⟨rfl,fun h=>cG (g:=Bf) (n:=4) (bs:=[.z (aF vs),.z (eS M6)]) (YS vs M6) h⟩
def kh (v1:List aG) (v5:Int) (jB:aG) (fu:Str) (v9:aG) (iJ:List aG) (M7:LS_):Bool:=(decide ((bw iJ)=(Txt.join "\n" ((cut M7 none (some v5))++(cut M7 (some (v5+(1:Int))) none)))))
def kj (v1:List aG) (v5:Int) (jB:aG) (fu:Str) (v9:aG) (iJ:List aG) (M7:LS_):Prop:=((dX iJ)/\(Ms ((cut M7 none (some v5)).length+(cut M7 (some (v5+(1:Int))) none).length)/\(((cut M7 none (some v5))++(cut M7 (some (v5+(1:Int))) none)).map (·.length)).sum+((cut M7 none (some v5))++(cut M7 (some (v5+(1:Int))) none)).length * ("\n" : Str).length<=100000))
def um:Ev->Option Out:=(aM (dO (b2 eqB (aY 1 bA (ao (gv 5) aO)) (b1 (yr "\n") (b2 dh (Fj (gv 6) iM (lq (gv 1))) (Fj (gv 6) (lq (b2 dh (gv 1) (cB (.int 1)))) iM))))) eE)
theorem Cz (v1:List aG) (v5:Int) (jB:aG) (fu:Str) (v9:aG) (iJ:List aG) (M7:LS_):RP um [some ((zE (eT aF)) v1),some ((zE eI) v5),some ((zE aF) jB),some ((zE eS) fu),some ((zE aF) v9),some ((zE (eT aF)) iJ),some ((oE eS) M7)] (fun r=>Out.rt ((zE eB) r)) (kh v1 v5 jB fu v9 iJ M7) (some (kj v1 v5 jB fu v9 iJ M7)):=R.tp (cY (fun r=>r) (x_eq (by decide) (x_call jm (bR (aq 5 (zE (eT aF)) iJ rfl) bB)) (J6 "\n" (su (afO (su (adb (xg (aq 6 (lE eS) M7 rfl)) Gg (Cg (aq 1 (zE eI) v5 rfl)))) (su (adb (xg (aq 6 (lE eS) M7 rfl)) (Cg (jE (aq 1 (zE eI) v5 rfl) (x_i 1))) Gg)))))) (fun _=>rfl) fun _=>rfl)
def kE (v1:List aG) (v5:Int) (jB:aG) (fu:Str) (v9:aG) (iJ:List aG):Bool:=(if ((!decide (iJ=((cut v1 none (some v5))++(cut v1 (some (v5+(1:Int))) none))))||(!decide ((bh iJ [jB])=(((cut v1 none (some v5))++(cut v1 (some (v5+(1:Int))) none))++[jB]))))=true then false else (let M7:=(Txt.split (bw v1) ("\n" : Str));(kh v1 v5 jB fu v9 iJ M7)))
def kO (v1:List aG) (v5:Int) (jB:aG) (fu:Str) (v9:aG) (iJ:List aG):Prop:=((Ms ((cut v1 none (some v5)).length+(cut v1 (some (v5+(1:Int))) none).length)/\((!decide (iJ=((cut v1 none (some v5))++(cut v1 (some (v5+(1:Int))) none))))=false->((cW iJ [jB])/\(Ms ((cut v1 none (some v5)).length+(cut v1 (some (v5+(1:Int))) none).length)/\Ms (((cut v1 none (some v5))++(cut v1 (some (v5+(1:Int))) none)).length+[jB].length)))))/\(((!decide (iJ=((cut v1 none (some v5))++(cut v1 (some (v5+(1:Int))) none))))||(!decide ((bh iJ [jB])=(((cut v1 none (some v5))++(cut v1 (some (v5+(1:Int))) none))++[jB]))))=false->(((dX v1)/\((("\n" : Str).length==0)=false/\(bw v1).length<=100000))/\(let M7:=(Txt.split (bw v1) ("\n" : Str));(kj v1 v5 jB fu v9 iJ M7)))))
def uo:Ev->Option Out:=(aM (wQ (G4 (qK yp (gv 5) (b2 dh (Fj (gv 0) iM (lq (gv 1))) (Fj (gv 0) (lq (b2 dh (gv 1) (cB (.int 1)))) iM))) (qK yp (aY 2 aU (ao (gv 5) (ao (dZ qP (ao (gv 2) aO)) aO))) (b2 dh (b2 dh (Fj (gv 0) iM (lq (gv 1))) (Fj (gv 0) (lq (b2 dh (gv 1) (cB (.int 1)))) iM)) (dZ qP (ao (gv 2) aO))))) (aM (dO (cB (.bl false))) eE) eE) (aM (setG 6 (b2 Ka (aY 1 bA (ao (gv 0) aO)) (cB (.str "\n")))) um))
theorem CG (v1:List aG) (v5:Int) (jB:aG) (fu:Str) (v9:aG) (iJ:List aG):RP uo [some ((zE (eT aF)) v1),some ((zE eI) v5),some ((zE aF) jB),some ((zE eS) fu),some ((zE aF) v9),some ((zE (eT aF)) iJ),none] (fun r=>Out.rt ((zE eB) r)) (kE v1 v5 jB fu v9 iJ) (some (kO v1 v5 jB fu v9 iJ)):=R.tp (nQ (Ge (gn (xu (by decide) (aq 5 (zE (eT aF)) iJ rfl) (U5 (J2 (aq 0 (zE (eT aF)) v1 rfl) Gg (Cg (aq 1 (zE eI) v5 rfl))) (J2 (aq 0 (zE (eT aF)) v1 rfl) (Cg (jE (aq 1 (zE eI) v5 rfl) (x_i 1))) Gg)))) (gn (xu (by decide) (x_call jN (bR (aq 5 (zE (eT aF)) iJ rfl) (bR (Px (j6 (aq 2 (zE aF) jB rfl) (qd aF)) (ZO rfl)) bB))) (U5 (U5 (J2 (aq 0 (zE (eT aF)) v1 rfl) Gg (Cg (aq 1 (zE eI) v5 rfl))) (J2 (aq 0 (zE (eT aF)) v1 rfl) (Cg (jE (aq 1 (zE eI) v5 rfl) (x_i 1))) Gg)) (Px (j6 (aq 2 (zE aF) jB rfl) (qd aF)) (ZO rfl)))))) (cX (cY (fun r=>r) (rO (.bl false) eB false rfl) (fun _=>rfl) fun _=>rfl)) (eF (cR 6 (DQ (x_call jm (bR (aq 0 (zE (eT aF)) v1 rfl) bB)) (Vc "\n")) (fun _=>rfl) fun M7=>(Cz v1 v5 jB fu v9 iJ M7).r)))
def kW (v1:List aG) (v5:Int) (jB:aG) (fu:Str) (v9:aG):Bool:=(if ((!decide (v9=jB))||((!((lA v9)==true))||((!decide ((bw [jB])=fu))||(!decide ((jo fu)=[jB])))))=true then false else (if (!decide ((at' (Txt.split (bw v1) ("\n" : Str)) v5)=fu))=true then false else (if (!((jB.2.map fun q1:jF=>(decide ((wL v9 q1.1)=(some q1.2)))).all id))=true then false else (let iJ:=(fj v1 jB.1);(kE v1 v5 jB fu v9 iJ)))))
def kY (v1:List aG) (v5:Int) (jB:aG) (fu:Str) (v9:aG):Prop:=(((!decide (v9=jB))=false->((ug v9)/\((!((lA v9)==true))=false->((dX [jB])/\((!decide ((bw [jB])=fu))=false->(rU fu))))))/\(((!decide (v9=jB))||((!((lA v9)==true))||((!decide ((bw [jB])=fu))||(!decide ((jo fu)=[jB])))))=false->((((dX v1)/\((("\n" : Str).length==0)=false/\(bw v1).length<=100000))/\In (Txt.split (bw v1) ("\n" : Str)).length v5)/\((!decide ((at' (Txt.split (bw v1) ("\n" : Str)) v5)=fu))=false->((jB.2.length<=100000/\(∀ q1∈jB.2,(GX v9 q1.1)))/\((!((jB.2.map fun q1:jF=>(decide ((wL v9 q1.1)=(some q1.2)))).all id))=false->((mZ v1 jB.1)/\(let iJ:=(fj v1 jB.1);(kO v1 v5 jB fu v9 iJ)))))))))
def uq:Ev->Option Out:=(aM (wQ (G4 (qK yp (gv 4) (gv 2)) (G4 (qK Hj (aY 1 lu (ao (gv 4) aO)) (cB (.bl true))) (G4 (qK yp (aY 1 bA (ao (dZ qP (ao (gv 2) aO)) aO)) (gv 3)) (qK yp (aY 1 cL (ao (gv 3) aO)) (dZ qP (ao (gv 2) aO)))))) (aM (dO (cB (.bl false))) eE) eE) (aM (wQ (qK yp (b2 jr (b2 Ka (aY 1 bA (ao (gv 0) aO)) (cB (.str "\n"))) (gv 1)) (gv 3)) (aM (dO (cB (.bl false))) eE) eE) (aM (wQ (Bm (tV (dZ allB (ao (fD (Jk (b2 jr (gv 2) (cB (.int 1)))) (yV 2 (gW (sO 1) (gW (sO 2) yU))) rZ (b2 eqB (aY 2 pJ (ao (gv 0) (ao (gv 1) aO))) (gv 2)) [4] 2) aO)))) (aM (dO (cB (.bl false))) eE) eE) (aM (setG 5 (aY 2 dH (ao (gv 0) (ao (b2 jr (gv 2) (cB (.int 0))) aO)))) uo))))
theorem CJ (v1:List aG) (v5:Int) (jB:aG) (fu:Str) (v9:aG):RP uq [some ((zE (eT aF)) v1),some ((zE eI) v5),some ((zE aF) jB),some ((zE eS) fu),some ((zE aF) v9),none,none] (fun r=>Out.rt ((zE eB) r)) (kW v1 v5 jB fu v9) (some (kY v1 v5 jB fu v9)):=R.tp (nQ (Ge (gn (xu (by decide) (aq 4 (zE aF) v9 rfl) (aq 2 (zE aF) jB rfl))) (Ge (gn (WM (x_call Ey (bR (aq 4 (zE aF) v9 rfl) bB)) (rO (.bl true) eB true rfl))) (Ge (gn (xu (by decide) (x_call jm (bR (Px (j6 (aq 2 (zE aF) jB rfl) (qd aF)) (ZO rfl)) bB)) (aq 3 (zE eS) fu rfl))) (gn (xu (by decide) (x_call Hw (bR (aq 3 (zE eS) fu rfl) bB)) (Px (j6 (aq 2 (zE aF) jB rfl) (qd aF)) (ZO rfl))))))) (cX (cY (fun r=>r) (rO (.bl false) eB false rfl) (fun _=>rfl) fun _=>rfl)) (eF (nQ (gn (xu (by decide) (qe (su (DQ (x_call jm (bR (aq 0 (zE (eT aF)) v1 rfl) bB)) (Vc "\n"))) (aq 1 (zE eI) v5 rfl)) (aq 3 (zE eS) fu rfl))) (cX (cY (fun r=>r) (rO (.bl false) eB false rfl) (fun _=>rfl) fun _=>rfl)) (eF (nQ (zp (JZ (NQ (su (u0 (J8 (tU (aq 2 (zE aF) jB rfl) (fun q=>q.2) (eT oY) 1 fun _=>rfl)) _ (fun _=>rfl) (fun q1:jF=>(x_eq (by decide) (x_call YT (bR (aq 0 (zE aF) v9 rfl) (bR (aq 1 (zE eS) q1.1 rfl) bB))) (zm (aq 2 (zE eS) q1.2 rfl))))))))) (cX (cY (fun r=>r) (rO (.bl false) eB false rfl) (fun _=>rfl) fun _=>rfl)) (eF (cR 5 (x_call Ak (bR (aq 0 (zE (eT aF)) v1 rfl) (bR (tU (aq 2 (zE aF) jB rfl) (fun q=>q.1) eS 0 fun _=>rfl) bB))) (fun _=>rfl) fun iJ=>(CG v1 v5 jB fu v9 iJ).r)))))))
def kZ (v1:List aG) (v5:Int) (jB:aG) (fu:Str):Bool:=(let v9:=((pB fu).getD default);(kW v1 v5 jB fu v9))
def lg (v1:List aG) (v5:Int) (jB:aG) (fu:Str):Prop:=(((yg fu)/\(pB fu).isSome=true)/\(let v9:=((pB fu).getD default);(kY v1 v5 jB fu v9)))
def ur:Ev->Option Out:=(aM (setG 4 (aY 1 lZ (ao (gv 3) aO))) uq)
theorem CK (v1:List aG) (v5:Int) (jB:aG) (fu:Str):RP ur [some ((zE (eT aF)) v1),some ((zE eI) v5),some ((zE aF) jB),some ((zE eS) fu),none,none,none] (fun r=>Out.rt ((zE eB) r)) (kZ v1 v5 jB fu) (some (lg v1 v5 jB fu)):=R.tp (cR 4 (aal (x_call VB (bR (aq 3 (zE eS) fu rfl) bB))) (fun _=>rfl) fun v9=>(CJ v1 v5 jB fu v9).r)
def pC (v1:List aG) (v5:Int) (jB:aG):Bool:=(let fu:=(dw jB);(kZ v1 v5 jB fu))
def pD (v1:List aG) (v5:Int) (jB:aG):Prop:=((uh jB)/\(let fu:=(dw jB);(lg v1 v5 jB fu)))
def CN:Ev->Option Out:=(aM (setG 3 (aY 1 ju (ao (gv 2) aO))) ur)
theorem CP (v1:List aG) (v5:Int) (jB:aG):RP CN [some ((zE (eT aF)) v1),some ((zE eI) v5),some ((zE aF) jB),none,none,none,none] (fun r=>Out.rt ((zE eB) r)) (pC v1 v5 jB) (some (pD v1 v5 jB)):=R.tp (cR 3 (x_call LQ (bR (aq 2 (zE aF) jB rfl) bB)) (fun _=>rfl) fun fu=>(CK v1 v5 jB fu).r)
def iU (v1:List aG) (v5:Int):Bool:=(let jB:=(at' v1 v5);(pC v1 v5 jB))
def iV (v1:List aG) (v5:Int):Prop:=(In v1.length v5/\(let jB:=(at' v1 v5);(pD v1 v5 jB)))
theorem Iw (v1:List aG) (v5:Int):RP oN [some ((zE (eT aF)) v1),some ((zE eI) v5),none,none,none,none,none] (fun r=>Out.rt ((zE eB) r)) (iU v1 v5) (some (iV v1 v5)):=R.tp (cR 2 (aas (aq 0 (zE (eT aF)) v1 rfl) (aq 1 (zE eI) v5 rfl)) (fun _=>rfl) fun jB=>(CP v1 v5 jB).r)
theorem Iz:∀ v bs,(aZ (eT aF) (aZ eI aN)) v bs->bs.length=2/\(hold (some (iV v.1 v.2.1))->dW (bs.map lend)=some ((zE eB) (iU v.1 v.2.1))):=by
 rintro⟨v1,v5,_⟩ _ ⟨_,rfl,⟨_,rfl,rfl⟩⟩
 exact⟨rfl,fun h=>cG (g:=oN) (n:=7) (bs:=[.z ((eT aF) v1),.z (eI v5)]) (Iw v1 v5) h⟩
def Ez (v0:LI_) (v1:List aG) (vc:LI_) (vk:Int) (vl:Int) (fu:Str):Bool:=(if ((!decide (v1=([]:List aG)))&&((decide ((fu.length:Int) < (2000:Int)))&&(!decide ((ni fu)=(some (v1.length:Int))))))=true then false else (((rng 0 (v1.length:Int).toNat).map fun v5:Int=>(iU v1 v5)).all id))
def Mh (v0:LI_) (v1:List aG) (vc:LI_) (vk:Int) (vl:Int) (fu:Str):Prop:=(((!decide (v1=([]:List aG)))=true->((decide ((fu.length:Int) < (2000:Int)))=true->(rW fu)))/\(((!decide (v1=([]:List aG)))&&((decide ((fu.length:Int) < (2000:Int)))&&(!decide ((ni fu)=(some (v1.length:Int))))))=false->((Rg (v1.length:Int)/\(rng 0 (v1.length:Int).toNat).length<=100000)/\(∀ v5∈(rng 0 (v1.length:Int).toNat),(iV v1 v5)))))
def Tq:Ev->Option Out:=(aM (wQ (O1 (qK yp (gv 1) (dZ qP aO)) (O1 (qK Y5 (dZ nq (ao (gv 5) aO)) (cB (.int 2000))) (qK yp (aY 1 jX (ao (gv 5) aO)) (dZ nq (ao (gv 1) aO))))) (aM (dO (cB (.bl false))) eE) eE) (aM (dO (dZ allB (ao (fD (Ux (ao (dZ nq (ao (gv 1) aO)) aO)) (sO 1) rZ (b1 wO (aY 2 dW (ao (gv 0) (ao (gv 1) aO)))) [1] 1) aO))) eE))
theorem abl (v0:LI_) {nZ:Bx} (qN:Lp nZ (v0.map eI)) (v1:List aG) (vc:LI_) (vk:Int) (vl:Int) (fu:Str):RP Tq [some nZ,some ((zE (eT aF)) v1),some ((oE eI) vc),some ((zE eI) vk),some ((zE eI) vl),some ((zE eS) fu)] (fun r=>Out.rt ((zE eB) r)) (Ez v0 v1 vc vk vl fu) (some (Mh v0 v1 vc vk vl fu)):=R.tp (nQ (aaq (gn (xu (by decide) (aq 1 (zE (eT aF)) v1 rfl) (Gf aF))) (aaq (gn (aan (J4 (aq 5 (zE eS) fu rfl)) (x_i 2000))) (gn (xu (by decide) (x_call Tp (bR (aq 5 (zE eS) fu rfl) bB)) (zm (xG (aq 1 (zE (eT aF)) v1 rfl))))))) (cX (cY (fun r=>r) (rO (.bl false) eB false rfl) (fun _=>rfl) fun _=>rfl)) (eF (cY (fun r=>r) (NQ (su (u0 (Dz (xG (aq 1 (zE (eT aF)) v1 rfl))) _ (fun _=>rfl) (fun v5:Int=>(ou (x_call Iz (bR (aq 0 (zE (eT aF)) v1 rfl) (bR (aq 1 (zE eI) v5 rfl) bB)))))))) (fun _=>rfl) fun _=>rfl)))
def EY (v0:LI_) (v1:List aG) (vc:LI_) (vk:Int) (vl:Int):Bool:=(if ((!(cP v1 vk vl))||(!decide ((iT v1 (cut vc (some (2:Int)) none))=(some ([]:List aG)))))=true then false else (if ((!decide ((jo (bw v1))=v1))||(!decide ((bw ([]:List aG))=("" : Str))))=true then false else (let fu:=(bw v1);(Ez v0 v1 vc vk vl fu))))
def Fb (v0:LI_) (v1:List aG) (vc:LI_) (vk:Int) (vl:Int):Prop:=(((eZ v1 vk vl)/\((!(cP v1 vk vl))=false->(oW v1 (cut vc (some (2:Int)) none))))/\(((!(cP v1 vk vl))||(!decide ((iT v1 (cut vc (some (2:Int)) none))=(some ([]:List aG)))))=false->((((dX v1)/\(rU (bw v1)))/\((!decide ((jo (bw v1))=v1))=false->(dX ([]:List aG))))/\(((!decide ((jo (bw v1))=v1))||(!decide ((bw ([]:List aG))=("" : Str))))=false->((dX v1)/\(let fu:=(bw v1);(Mh v0 v1 vc vk vl fu)))))))
def Tr:Ev->Option Out:=(aM (wQ (G4 (Bm (tV (aY 3 bV (ao (gv 1) (ao (gv 3) (ao (gv 4) aO)))))) (qK yp (aY 2 dU (ao (gv 1) (ao (b1 wO (Fj (gv 2) (lq (cB (.int 2))) iM)) aO))) (dZ qP aO))) (aM (dO (cB (.bl false))) eE) eE) (aM (wQ (G4 (qK yp (aY 1 cL (ao (b1 wO (aY 1 bA (ao (gv 1) aO))) aO)) (gv 1)) (qK yp (aY 1 bA (ao (dZ qP aO) aO)) (cB (.str "")))) (aM (dO (cB (.bl false))) eE) eE) (aM (setG 5 (aY 1 bA (ao (gv 1) aO))) Tq)))
theorem abm (v0:LI_) {nZ:Bx} (qN:Lp nZ (v0.map eI)) (v1:List aG) (vc:LI_) (vk:Int) (vl:Int):RP Tr [some nZ,some ((zE (eT aF)) v1),some ((oE eI) vc),some ((zE eI) vk),some ((zE eI) vl),none] (fun r=>Out.rt ((zE eB) r)) (EY v0 v1 vc vk vl) (some (Fb v0 v1 vc vk vl)):=R.tp (nQ (Ge (zp (JZ (x_call Aj (bR (aq 1 (zE (eT aF)) v1 rfl) (bR (aq 3 (zE eI) vk rfl) (bR (aq 4 (zE eI) vl rfl) bB)))))) (gn (xu (by decide) (x_call Iv (bR (aq 1 (zE (eT aF)) v1 rfl) (RG (afL (Yk (adb (xg (aq 2 (lE eI) vc rfl)) (Cg (x_i 2)) Gg))) bB))) (zm (Gf aF))))) (cX (cY (fun r=>r) (rO (.bl false) eB false rfl) (fun _=>rfl) fun _=>rfl)) (eF (nQ (Ge (gn (xu (by decide) (x_call Hw (bR (ou (x_call jm (bR (aq 1 (zE (eT aF)) v1 rfl) bB))) bB)) (aq 1 (zE (eT aF)) v1 rfl))) (gn (xu (by decide) (x_call jm (bR (Gf aF) bB)) (Vc "")))) (cX (cY (fun r=>r) (rO (.bl false) eB false rfl) (fun _=>rfl) fun _=>rfl)) (eF (cR 5 (x_call jm (bR (aq 1 (zE (eT aF)) v1 rfl) bB)) (fun _=>rfl) fun fu=>(abl v0 qN v1 vc vk vl fu).r)))))
def Al (v0:LI_) (v1:List aG) (vc:LI_):Bool:=(let q1:=((at' (sortI [((at' vc (0:Int)) % ((v1.length:Int)+(1:Int))),((at' vc (1:Int)) % ((v1.length:Int)+(1:Int)))]) 0),(at' (sortI [((at' vc (0:Int)) % ((v1.length:Int)+(1:Int))),((at' vc (1:Int)) % ((v1.length:Int)+(1:Int)))]) 1));(EY v0 v1 vc q1.1 q1.2))
def Fd (v0:LI_) (v1:List aG) (vc:LI_):Prop:=(((((In vc.length (0:Int)/\0 < ((v1.length:Int)+(1:Int)))/\(In vc.length (1:Int)/\0 < ((v1.length:Int)+(1:Int))))/\[((at' vc (0:Int)) % ((v1.length:Int)+(1:Int))),((at' vc (1:Int)) % ((v1.length:Int)+(1:Int)))].length < 64)/\(sortI [((at' vc (0:Int)) % ((v1.length:Int)+(1:Int))),((at' vc (1:Int)) % ((v1.length:Int)+(1:Int)))]).length=2)/\(let q1:=((at' (sortI [((at' vc (0:Int)) % ((v1.length:Int)+(1:Int))),((at' vc (1:Int)) % ((v1.length:Int)+(1:Int)))]) 0),(at' (sortI [((at' vc (0:Int)) % ((v1.length:Int)+(1:Int))),((at' vc (1:Int)) % ((v1.length:Int)+(1:Int)))]) 1));(Fb v0 v1 vc q1.1 q1.2)))
def Tt:Ev->Option Out:=(aM (X6 (WL 2 (gW (sO 3) (gW (sO 4) yU))) (b1 wO (dZ Gj (ao (dZ yK (ao (b2 nj (b2 jr (gv 2) (cB (.int 0))) (b2 dh (dZ nq (ao (gv 1) aO)) (cB (.int 1)))) (ao (b2 nj (b2 jr (gv 2) (cB (.int 1))) (b2 dh (dZ nq (ao (gv 1) aO)) (cB (.int 1)))) aO))) aO)))) Tr)
theorem abn (v0:LI_) {nZ:Bx} (qN:Lp nZ (v0.map eI)) (v1:List aG) (vc:LI_):RP Tt [some nZ,some ((zE (eT aF)) v1),some ((oE eI) vc),none,none,none] (fun r=>Out.rt ((zE eB) r)) (Al v0 v1 vc) (some (Fd v0 v1 vc)):=R.tp (aaA (akS (Yk (adI (su (Bv (j6 (G9 (qe (xg (aq 2 (lE eI) vc rfl)) (x_i 0)) (jE (xG (aq 1 (zE (eT aF)) v1 rfl)) (x_i 1))) (j6 (G9 (qe (xg (aq 2 (lE eI) vc rfl)) (x_i 1)) (jE (xG (aq 1 (zE (eT aF)) v1 rfl)) (x_i 1))) (qd eI))) (ZO rfl)))))) _ (fun _=>rfl) fun q1=>(abm v0 qN v1 vc q1.1 q1.2).r)
def Tv (v0:LI_) (v1:List aG):Bool:=(let vc:=(aK (aQ v0 (13:Int)) (14:Int));(Al v0 v1 vc))
def Tw (v0:LI_) (v1:List aG):Prop:=(((o8 v0 (13:Int))/\(lC (aQ v0 (13:Int)) (14:Int)))/\(let vc:=(aK (aQ v0 (13:Int)) (14:Int));(Fd v0 v1 vc)))
def abo:Ev->Option Out:=(aM (setG 2 (aY 2 dG (ao (b1 wO (aY 2 ig (ao (gv 0) (ao (cB (.int 13)) aO)))) (ao (cB (.int 14)) aO)))) Tt)
theorem abp (v0:LI_) {nZ:Bx} (qN:Lp nZ (v0.map eI)) (v1:List aG):RP abo [some nZ,some ((zE (eT aF)) v1),none,none,none,none] (fun r=>Out.rt ((zE eB) r)) (Tv v0 v1) (some (Tw v0 v1)):=R.tp (cR 2 (x_call vD (bR (ou (x_call Cu (RG (lW 0 eI v0 qN rfl) (bR (x_i 13) bB)))) (bR (x_i 14) bB))) (fun _=>rfl) fun vc=>(abn v0 qN v1 vc).r)
def W5 (v0:LI_):Bool:=(let v1:=(dJ v0 (0:Int) (12:Int));(Tv v0 v1))
def W6 (v0:LI_):Prop:=((oU v0 (0:Int) (12:Int))/\(let v1:=(dJ v0 (0:Int) (12:Int));(Tw v0 v1)))
theorem ai1 (v0:LI_) {nZ:Bx} (qN:Lp nZ (v0.map eI)):RP WX [some nZ,none,none,none,none,none] (fun r=>Out.rt ((zE eB) r)) (W5 v0) (some (W6 v0)):=R.tp (cR 1 (x_call Io (RG (lW 0 eI v0 qN rfl) (bR (x_i 0) (bR (x_i 12) bB)))) (fun _=>rfl) fun v1=>(abp v0 qN v1).r)
theorem aeD:∀ v bs,(aL eI aN) v bs->bs.length=1/\(hold (some (W6 v.1))->uQ (bs.map lend)=some ((zE eB) (W5 v.1))):=by
 rintro⟨v0,_⟩ _ ⟨nZ,_,rfl,qN,rfl⟩
 exact⟨rfl,fun h=>cG (g:=WX) (n:=6) (bs:=[lend nZ]) (ai1 v0 (JV qN)) h⟩
theorem aeE (h:∀ ns:List Int,ns.length<=63->W6 ns/\W5 ns=true):(∀ ns:List Int,ns.length<=63->uQ [.z (.lst (ns.map .int))]=some (.z (.bl true)))/\∀ ns:List Int,ns.length<=63->uQ [.l (ns.map .int)]=some (.z (.bl true)):=
 ⟨fun ns hn=>((aeD (ns,()) [.z (.lst (ns.map .int))] ⟨_,_,rfl,rfl,rfl⟩).2 (h ns hn).1).trans (by rw[(h ns hn).2]),fun ns hn=>((aeD (ns,()) [.l (ns.map .int)] ⟨_,_,rfl,rfl,rfl⟩).2 (h ns hn).1).trans (by rw[(h ns hn).2])⟩
end
end G05
end
section
set_option synthInstance.maxSize 100000
namespace G05
open PySem PySem.Spec PyProof.Rows L2 P1
theorem VD (script:List Int) (k:Int) (h0:0<=k) (h1:k<=1000):o8 script k:=by
 unfold o8
 exact⟨fun h=>in_of h0 (by simpa using h),fun _=>aep h0 (by omega)⟩
theorem abq (k:Nat) (s:Int×List Int×Int) (hk:k < 1000) (h:(0<=s.1/\s.1 < 1999999973)/\s.2.1.length=k/\(∀ x∈s.2.1,0<=x)/\0<=s.2.2):nM s k/\(0<=(cV s k).1/\(cV s k).1 < 1999999973)/\(cV s k).2.1.length=k+1/\(∀ x∈(cV s k).2.1,0<=x)/\0<=(cV s k).2.2:=by
 obtain⟨h1,h2,h3,h4⟩:=h
 have hin:In 2 (if (decide ((0:Int) < s.2.2))=true then (1:Int) else 0):=by split<;>exact in_of (by omega) (by omega)
 refine⟨⟨aep h1.1 (by omega),hin,?_⟩,jz _ (by decide),?_,?_,Int.ediv_nonneg h4 (by decide)⟩
 ·show s.2.1.length<=1000000
  omega
 ·show (s.2.1++[_]).length=k+1
  rw[zw,h2];rfl
 ·intro x hx
  rcases List.mem_append.mp hx with hx|hx
  ·exact h3 x hx
  ·cases List.mem_singleton.mp hx
   have:=U6 (xs:=[((((s.1 * ((s.1 % (65521:Int))+(40487:Int)))+((7:Int) * k))+(5:Int)) % (1999999973:Int)),(s.2.2 % (1000000:Int))]) hin
   simp only[j0,kr,or_false] at this
   rcases this with e|e<;>rw[e]
   ·exact (jz _ (by decide)).1
   ·exact (jz _ (by decide)).1
theorem Qu (c m:Int) (h0:0<=m) (h1:m<=1000):lC c m/\(aK c m).length=m.toNat/\∀ x∈aK c m,0<=x:=by
 have key:∀ st dg:Int,(0<=st/\st < 1999999973)->0<=dg->rE c m [] st dg/\(nO c m [] st dg).length=m.toNat/\∀ x∈nO c m [] st dg,0<=x:=fun st dg hs hd=>by
  have:=zu (P:=fun s k=>some (nM s k)) (fun k s=>(0<=s.1/\s.1 < 1999999973)/\s.2.1.length=k/\(∀ x∈s.2.1,0<=x)/\0<=s.2.2) (step:=fun s k=>cV s k) m.toNat (st,[],dg) ⟨hs,rfl,fun x h=>(by cases h),hd⟩ fun k s hk h=>abq k s (by omega) h
  exact⟨⟨Hg h0 (by omega),this.1⟩,this.2.2.1,this.2.2.2.1⟩
 refine key _ _ (jz _ (by decide)) ?_
 dsimp only
 split<;>(try split)<;>omega
theorem foldl_size {α:Type} (c:Array α):∀ (n:Nat) (a:Array α),((List.replicate n c).foldl (·++·) a).size=a.size+n * c.size
 |0,a=>by simp
 |n+1,a=>by
  rw[kH,kF,foldl_size c n,Kj,Nat.succ_mul]
  omega
theorem Pb (x:Str) (k:Int):(Txt.mul x k).length<=x.length * k.toNat:=by
 unfold Txt.mul
 split
 ·exact QP _
 split
 ·rename_i h0 h
  simp only[ke,beq_iff_eq] at h
  rcases h with h|h
  ·subst h;simp
  ·rw[h];simp
 ·show (Array.size _)<=_
  rw[foldl_size]
  have:x.cps.size=x.length:=rfl
  rw[this,Nat.mul_comm]
  simp
def LT:Str:=("abcdefghijklmnopqrstuvwxyz" : Str)
theorem VF:LT.length=26:=by decide +kernel
theorem rG {n:Nat} (h:n<=1000):Ms n:=zz h (by decide)
theorem VG (xs:List Int) (hl:6<=xs.length) (stem:Str) (hs:stem.length<=5) (at_:Int) (k:Nat) (found:LS_) (hk:k < 200) (h:found.length=k/\∀ n∈found,n.length<=12):qC xs LT stem at_ found k/\(iG xs LT stem at_ found k).length=k+1/\∀ n∈iG xs LT stem at_ found k,n.length<=12:=by
 have s1:=zz (slice_le stem none (some at_)) hs
 have s2:=zz (slice_le stem (some at_) none) hs
 have c1:=Ci LT ((↑k+at' xs 2) % 15)
 have m8:=jz (k:Int) (m:=8) (by decide)
 have hd:(0:Int)<=(k:Int) / 8/\(k:Int) / 8 < 26:=by omega
 refine⟨⟨⟨in_of (by decide) (by omega),Gi (by decide) (by rw[VF];decide)⟩,⟨rG (by omega),rG (by rw[eN];omega)⟩,⟨in_of (by decide) (by omega),fun _=>⟨in_of hd.1 (by rw[VF];exact hd.2),by omega,by omega,by rw[Ci];decide⟩⟩,rG (by omega)⟩,?_⟩
 have key:∀ n:Str,n.length<=12->(found++[n]).length=k+1/\∀ m∈found++[n],m.length<=12:=fun n hn=>⟨by simp[h.1],fun m hm=>by
  rcases List.mem_append.mp hm with hm|hm
  ·exact h.2 m hm
  ·cases List.mem_singleton.mp hm;exact hn⟩
 unfold iG
 dsimp only
 split
 ·exact key _ (by have:=Pb (ch LT ((k:Int) / 8)) (1+(k:Int) % 8);rw[Ci] at this;exact zz this (by omega))
 ·exact key _ (by rw[eN,eN,c1];omega)
theorem abr (xs:LS_) (n:Nat) (h:∀ x∈xs,x.length<=n):(Txt.join "" xs).length<=xs.length * n:=by
 have h1:=StrLaws.join_length_le ("" : Str) xs
 rw[<-StrLaws.glued_eq_join] at h1
 have h2:(xs.map (·.length)).sum<=xs.length * n:=by
  clear h1
  induction xs with
  |nil=>simp
  |cons a l ih=>
   have:=ih fun x hx=>h x (zo _ hx)
   have:=h a (zi ..)
   simp only[zg,Kk,Zp,Nat.succ_mul]
   omega
 have h3:("" : Str).length=0:=rfl
 rw[h3,Nat.mul_zero] at h1
 exact zz h1 (by omega)
theorem aoA (xs:LS_) (h:∀ x∈xs,x.length=1):(xs.map (·.length)).sum=xs.length:=by
 induction xs with
 |nil=>rfl
 |cons a l ih=>
  have:=ih fun x hx=>h x (zo _ hx)
  have:=h a (zi ..)
  simp only[zg,Kk,Zp]
  omega
theorem abt (xs:List Int) (hl:6<=xs.length) (many:Int) (h0:0<=many) (h1:many<=200):uR xs many/\(bW xs many).length=many.toNat/\∀ n∈bW xs many,n.length<=12:=by
 have m6:=jz (at' xs 0) (m:=6) (by decide)
 have st:∀ stem:Str,stem.length<=5->uf xs many LT stem/\(qD xs many LT stem).length=many.toNat/\∀ n∈qD xs many LT stem,n.length<=12:=fun stem hs=>by
  have:=zu (P:=fun f k=>some (qC xs LT stem (at' xs 1 % ((stem.length:Int)+1)) f k)) (step:=fun f k=>iG xs LT stem (at' xs 1 % ((stem.length:Int)+1)) f k) (fun k s=>s.length=k/\∀ n∈s,n.length<=12) many.toNat [] ⟨rfl,fun n h=>(by cases h)⟩ fun k s hk h=>VG xs hl stem hs _ k s (by omega) h
  exact⟨⟨⟨in_of (by decide) (by omega),by omega⟩,Hg h0 (by omega),this.1⟩,this.2⟩
 have c1:∀ x∈((rng 0 (at' xs 0 % 6).toNat).map fun k_:Int=>ch LT (at' xs k_ / 40 % 26)),x.length=1:=fun x hx=>by
  obtain⟨k,_,rfl⟩:=List.mem_map.mp hx
  exact Ci _ _
 have:=st (Txt.join "" ((rng 0 (at' xs 0 % 6).toNat).map fun k_:Int=>ch LT (at' xs k_ / 40 % 26))) (by
  have:=abr _ 1 fun x hx=>Nat.le_of_eq (c1 x hx)
  rw[zh,xH] at this
  omega)
 refine⟨⟨⟨⟨⟨⟨in_of (by decide) (by omega),Hg m6.1 (by omega)⟩,by rw[xH];omega⟩,fun k hk=>?_⟩,?_⟩,this.1⟩,this.2⟩
 ·obtain⟨j,hj,rfl⟩:=Jp hk
  exact⟨in_of (by omega) (by omega),Gi (by decide) (by rw[show ("abcdefghijklmnopqrstuvwxyz" : Str)=LT from rfl,VF];decide)⟩
 ·rw[show ("abcdefghijklmnopqrstuvwxyz" : Str)=LT from rfl,aoA _ c1,zh,xH]
  have h3:("" : Str).length=0:=rfl
  rw[h3]
  omega
def nmF (xs:List Int) (stem:Str) (at_:Int) (k:Int):Str:=if (decide (((at' xs (3:Int)) % (3:Int))=(1:Int)))=true then (Txt.mul (ch LT (k / (8:Int))) ((1:Int)+(k % (8:Int)))) else (((Txt.slice stem none (some at_))++(ch LT ((k+(at' xs (2:Int))) % (15:Int))))++(Txt.slice stem (some at_) none))
theorem Mi {α β:Type} (g:β->α):∀ (l:List β) (f:List α),l.foldl (fun f k=>f++[g k]) f=f++l.map g
 |[],f=>by simp
 |k::l,f=>by rw[kF,Mi g l];simp
theorem VH {a b m m':Str} (h:(a++m)++b=(a++m')++b):m=m':=by
 have h:=congrArg (fun s:Str=>s.cps.toList) h
 have h:((a.cps++m.cps)++b.cps).toList=((a.cps++m'.cps)++b.cps).toList:=h
 simp only[Array.toList_append] at h
 have:=List.append_cancel_left (List.append_cancel_right h)
 cases m;cases m'
 congr 1
 exact Array.ext' this
theorem agu:∀ i:Fin 30,∀ j:Fin 30,Txt.mul (ch LT ((i.val:Int) / 8)) (1+(i.val:Int) % 8)=Txt.mul (ch LT ((j.val:Int) / 8)) (1+(j.val:Int) % 8)->i=j:=by decide +kernel
theorem ai2:∀ i:Fin 15,∀ j:Fin 15,ch LT (i.val:Int)=ch LT (j.val:Int)->i=j:=by decide +kernel
theorem agv {x y:Int} (hx:0<=x/\x < 15) (hy:0<=y/\y < 15) (h:ch LT x=ch LT y):x=y:=by
 have:=ai2 ⟨x.toNat,by omega⟩ ⟨y.toNat,by omega⟩ (by
  show ch LT ((x.toNat:Nat):Int)=ch LT ((y.toNat:Nat):Int)
  rw[qk hx.1,qk hy.1];exact h)
 have:=congrArg Fin.val this
 have:x.toNat=y.toNat:=this
 omega
theorem agw {xs:List Int} {stem:Str} {at_:Int} {i j:Nat} (hi:i < 15) (hj:j < 15) (h:nmF xs stem at_ i=nmF xs stem at_ j):i=j:=by
 unfold nmF at h
 by_cases e:(decide (((at' xs (3:Int)) % (3:Int))=(1:Int)))=true
 ·rw[zk e,zk e] at h
  exact congrArg Fin.val (agu ⟨i,by omega⟩ ⟨j,by omega⟩ h)
 ·rw[zI e,zI e] at h
  have:=agv (jz _ (by decide)) (jz _ (by decide)) (VH h)
  omega
theorem agx {n:Nat} {g:Int->Str} (h:∀ i j:Nat,i < n->j < n->g i=g j->i=j):((rng 0 n).map g).Nodup:=by
 unfold rng
 rw[Z3]
 unfold List.Nodup
 rw[List.pairwise_map]
 refine List.Pairwise.imp_of_mem ?_ (List.nodup_range (n:=n))
 intro a b ha hb hne e
 refine hne (h a b (List.mem_range.mp ha) (List.mem_range.mp hb) ?_)
 have e:g (0+(a:Int))=g (0+(b:Int)):=e
 rwa [Int.zero_add,Int.zero_add] at e
def Lw (c:Nat):Prop:=97<=c/\c<=122
def Wd (c:Nat):Prop:=Lw c\/(48<=c/\c<=57)
def Nm (s:Str):Prop:=1<=s.length/\s.length<=8/\∀ c∈cs s,Lw c
def Wo (s:Str):Prop:=1<=s.length/\s.length<=12/\∀ c∈cs s,Wd c
abbrev Rw:=Str×List (Str×Str)
structure CQ (r:Rw):Prop where
 n:Nm r.1
 l:r.2.length<=8
 w:∀ q∈r.2,Nm q.1/\Wo q.2
 s:(r.2.map (·.1)).Pairwise fun a b=>U4 a b=true
theorem ai3:∀ c∈cs LT,Lw c:=by unfold Lw;decide +kernel
theorem aeF {c:Nat} (h:Lw c):c∈cs LT:=by
 have:∀ i:Fin 26,97+i.val∈cs LT:=by decide +kernel
 have:=this ⟨c - 97,by unfold Lw at h;omega⟩
 unfold Lw at h
 rwa [show 97+(c - 97)=c by omega] at this
theorem aoB {c:Nat} (h:Wd c):c∈cs (("abcdefghijklmnopqrstuvwxyz" : Str)++("0123456789" : Str)):=by
 rw[eU]
 rcases h with h|h
 ·exact qo _ (aeF h)
 ·have:∀ i:Fin 10,48+i.val∈cs ("0123456789" : Str):=by decide +kernel
  have:=this ⟨c - 48,by omega⟩
  rw[show 48+(c - 48)=c by omega] at this
  exact z4 _ this
theorem W7 {s ls:Str} {n:Int} (h1:1<=s.length) (h2:(s.length:Int)<=n) (h3:∀ c∈cs s,c∈cs ls) (h4:s.length<=100):qG s ls n/\nP s ls n=true:=by
 refine⟨fun _ _=>by rw[Ym];omega,?_⟩
 unfold nP
 rw[ZN,ZN,ZN,ZY,ZY,ja]
 refine⟨rfl,⟨by omega,h2⟩,fun b hb=>?_⟩
 obtain⟨x,hx,rfl⟩:=List.mem_map.mp hb
 rw[aa7] at hx
 obtain⟨c,hc,rfl⟩:=List.mem_map.mp hx
 exact Ys (h3 c hc)
theorem Fg {s:Str} (h:Nm s):tu s/\jO s=true:=W7 h.1 (by have:=h.2.1;omega) (fun c hc=>aeF (h.2.2 c hc)) (by have:=h.2.1;omega)
theorem W8 {s:Str} (h:Wo s):Bh s/\Bg s=true:=by
 have:=W7 (ls:=("abcdefghijklmnopqrstuvwxyz" : Str)++("0123456789" : Str)) (n:=12) h.1 (by have:=h.2.1;omega) (fun c hc=>aoB (h.2.2 c hc)) (by have:=h.2.1;omega)
 exact⟨⟨by unfold Ms;decide +kernel,this.1⟩,this.2⟩
theorem aeG {q:Str×Str} (h1:Nm q.1) (h2:Wo q.2):oV q/\fZ q=true:=by
 refine⟨fun _=>⟨(Fg h1).1,fun _=>(W8 h2).1⟩,?_⟩
 unfold fZ
 rw[(Fg h1).2,(W8 h2).2]
 rfl
theorem YW {xs:LS_} (h:xs.length<=100) (hp:xs.Pairwise fun a b=>U4 a b=true):sZ xs/\sY xs=true:=by
 refine⟨⟨⟨⟨by omega,by omega⟩,by rw[xH];omega⟩,fun z hz=>?_⟩,(Hl xs).mpr hp⟩
 obtain⟨k,hk,rfl⟩:=Jp hz
 exact⟨in_of (by omega) (by omega),in_of (by omega) (by omega)⟩
theorem abu {ws:List (Str×Str)} (hl:ws.length<=8) (hw:∀ q∈ws,Nm q.1/\Wo q.2) (hs:(ws.map (·.1)).Pairwise fun a b=>U4 a b=true):uT ws/\rT ws=true:=by
 have r:=YW (xs:=ws.map fun q1=>q1.1) (by rw[zh];omega) hs
 have a:((ws.map fun vx=>fZ vx).all id)=true:=by
  rw[ja]
  intro b hb
  obtain⟨q,hq,rfl⟩:=List.mem_map.mp hb
  exact (aeG (hw q hq).1 (hw q hq).2).2
 refine⟨⟨fun _=>⟨by omega,fun q hq=>(aeG (hw q hq).1 (hw q hq).2).1⟩,fun _=>⟨by omega,r.1⟩⟩,?_⟩
 unfold rT
 rw[a]
 exact r.2
theorem wM {r:Rw} (h:CQ r):ug r/\lA r=true:=by
 have w:=abu h.l h.w h.s
 refine⟨fun _=>⟨(Fg h.n).1,fun _=>w.1⟩,?_⟩
 unfold lA
 rw[(Fg h.n).2,w.2]
 rfl
def pc (q:Str×Str):Str:=q.1++((" " : Str)++(q.2++Str.empty))
def bd (ws:List (Str×Str)):Str:=if ws.isEmpty=true then Str.empty else (" " : Str)++Txt.join ", " (ws.map pc)
def rt (r:Rw):Str:=r.1++((":" : Str)++bd r.2)
theorem colon:(":" : Str)=⟨#[58]⟩:=by decide +kernel
theorem blank:(" " : Str)=⟨#[32]⟩:=by decide +kernel
theorem abv:(", " : Str)=⟨#[44,32]⟩:=by decide +kernel
theorem agy:(": " : Str)=⟨#[58,32]⟩:=by decide +kernel
theorem abw:("\n" : Str)=⟨#[10]⟩:=by decide +kernel
theorem Oh (a:Array Nat):cs ⟨a⟩=a.toList:=rfl
theorem abx (q:Str×Str):cs (pc q)=cs q.1++32::cs q.2:=by
 unfold pc
 rw[eU,eU,eU,blank,Oh]
 show _++([32]++(cs q.2++[]))=_
 simp
def bl:List (Str×Str)->List Nat
 |[]=>[]
 |q::qs=>32::(cs (pc q)++qs.flatMap fun q=>44::32::cs (pc q))
theorem ai4 (ws:List (Str×Str)):cs (bd ws)=bl ws:=by
 unfold bd
 cases ws with
 |nil=>rfl
 |cons q qs=>
  show cs ((" " : Str)++Txt.join ", " (pc q::qs.map pc))=_
  rw[eU,xO,blank,Oh,abv,Oh,List.flatMap_map]
  rfl
theorem W9 (r:Rw):cs (rt r)=cs r.1++58::bl r.2:=by
 unfold rt
 rw[eU,eU,ai4,colon,Oh]
 rfl
theorem Qv {q:Str×Str} (h:Nm q.1/\Wo q.2):(cs (pc q)).length<=21:=by
 rw[abx,zw,Zp,<-g8,<-g8]
 have:=h.1.2.1
 have:=h.2.2.1
 omega
theorem agz:∀ (ws:List (Str×Str)),(∀ q∈ws,Nm q.1/\Wo q.2)->(bl ws).length<=23 * ws.length:=by
 intro ws h
 have fm:∀ qs:List (Str×Str),(∀ q∈qs,Nm q.1/\Wo q.2)->(qs.flatMap fun q=>44::32::cs (pc q)).length<=23 * qs.length:=by
  intro qs
  induction qs with
  |nil=>intro _;exact zl _
  |cons q qs ih=>
   intro h
   have:=ih fun z hz=>h z (zo _ hz)
   have:=Qv (h q (zi ..))
   rw[Kb,zw,Zp,Zp,Zp]
   omega
 cases ws with
 |nil=>exact zl _
 |cons q qs=>
  have h1:=fm qs fun z hz=>h z (zo _ hz)
  have h2:=Qv (h q (zi ..))
  show (32::(cs (pc q)++_)).length<=_
  rw[Zp,zw,Zp]
  omega
theorem VJ {r:Rw} (h:CQ r):(rt r).length<=200:=by
 rw[g8,W9,zw,Zp,<-g8]
 have:=agz r.2 h.w
 have:=h.n.2.1
 have:=h.l
 omega
theorem Qw {r:Rw} (h:CQ r):uh r/\dw r=rt r:=by
 have hl:=VJ h
 have hs:∀ q∈r.2,(pc q).length<=100:=fun q hq=>by have:=Qv (h.w q hq);rw[g8];omega
 have hsum:((r.2.map pc).map (·.length)).sum<=r.2.length * 100:=by
  rw[Z3]
  have:∀ l:List (Str×Str),(∀ q∈l,(pc q).length<=100)->(l.map ((fun x:Str=>x.length) ∘ pc)).sum<=l.length * 100:=by
   intro l
   induction l with
   |nil=>intro _;exact zl _
   |cons q l ih=>
    intro h
    have:=ih fun z hz=>h z (zo _ hz)
    have h2:=h q (zi ..)
    rw[zg,Kk,Zp]
    show (pc q).length+_<=_
    omega
  exact this r.2 hs
 have c2:(", " : Str).length=2:=by decide +kernel
 have eq:dw r=rt r:=by
  unfold dw
  dsimp only
  obtain⟨n,ws⟩:=r
  cases ws with
  |nil=>rfl
  |cons q qs=>
   rw[zI (by simp)]
   refine u9 ?_
   unfold rt bd
   rw[zI (by simp)]
   rw[eU,eU,eU,eU,eU,eU,agy,colon,blank]
   show _++([58,32]++(_++[]))=_++([58]++([32]++_))
   rw[QO]
   rfl
 have hl8:=h.l
 refine⟨⟨fun he=>?_,fun he=>⟨⟨⟨by omega,fun q hq=>zz (hs q hq) (by decide)⟩,?_⟩,?_⟩⟩,eq⟩
 ·have e:dw r=r.1++((":" : Str)++Str.empty):=zk he
  rw[<-e,eq];omega
 ·rw[c2]
  have hsum:((r.2.map fun q2:Str×Str=>q2.1++((" " : Str)++(q2.2++Str.empty))).map (·.length)).sum<=r.2.length * 100:=hsum
  refine zz (Nat.add_le_add_right hsum _) ?_
  rw[zh]
  omega
 ·have e:dw r=r.1++((": " : Str)++(Txt.join ", " (r.2.map fun q2:Str×Str=>q2.1++((" " : Str)++(q2.2++Str.empty)))++Str.empty)):=zI (by rw[he];decide)
  dsimp only
  rw[<-e,eq];omega
theorem aeH {q:Str×Str} (h:Nm q.1/\Wo q.2):Txt.split (pc q) (" " : Str)=[q.1,q.2]:=by
 have e:pc q=Txt.join (" " : Str) [q.1,q.2]:=u9 (by rw[abx,xO,blank];simp[Oh])
 rw[e]
 refine tW (c:=32) (y':=[]) (by rw[blank]) (by decide +kernel) _ _ fun z hz hc=>?_
 rcases List.mem_cons.mp hz with rfl|hz
 ·have:=h.1.2.2 _ hc;unfold Lw at this;omega
 ·cases List.mem_singleton.mp hz
  have:=h.2.2.2 _ hc
  unfold Wd Lw at this;omega
theorem Xa {q:Str×Str} (h:Nm q.1/\Wo q.2) {c:Nat} (hc:c∈cs (pc q)):c=32\/Wd c:=by
 rw[abx] at hc
 rcases List.mem_append.mp hc with hc|hc
 ·exact .inr (.inl (h.1.2.2 _ hc))
 ·rcases List.mem_cons.mp hc with hc|hc
  ·exact .inl hc
  ·exact .inr (h.2.2.2 _ hc)
theorem ai5 {q:Str×Str} {qs:List (Str×Str)} (h:∀ z∈q::qs,Nm z.1/\Wo z.2):Txt.split (Txt.join ", " ((q::qs).map pc)) (", " : Str)=(q::qs).map pc:=by
 rw[zg]
 refine tW (c:=44) (y':=[32]) (by rw[abv]) (by decide +kernel) _ _ fun z hz hc=>?_
 obtain⟨p,hp,rfl⟩:∃ p∈q::qs,pc p=z:=by rw[<-zg] at hz;exact List.mem_map.mp hz
 rcases Xa (h p hp) hc with e|e
 ·omega
 ·unfold Wd Lw at e;omega
theorem adR {r:Rw} (h:CQ r):Txt.partition (rt r) (":" : Str)=(r.1,(":" : Str),bd r.2):=by
 unfold rt
 rw[colon]
 exact adJ fun hc=>by have:=h.n.2.2 _ hc;unfold Lw at this;omega
theorem wN {r:Rw} (h:CQ r):qH (rt r)/\bM (rt r)=some r:=by
 obtain⟨dr,tr⟩:=wM h
 have hl:=VJ h
 have c1:(":" : Str).length=1:=by decide +kernel
 have hbl:(bd r.2).length<=200:=by
  have:(rt r).length=r.1.length+((":" : Str).length+(bd r.2).length):=by unfold rt;rw[eN,eN]
  omega
 have k1:(!decide ((":" : Str).length≠0))=false:=by rw[c1];rfl
 unfold qH bM
 rw[adR h]
 obtain⟨n,ws⟩:=r
 dsimp only
 cases ws with
 |nil=>
  have k2:(!decide ((bd []).length≠0))=true:=by rfl
  refine⟨⟨by rw[c1];rfl,fun _=>⟨fun _=>dr,fun z=>by rw[k2] at z;cases z⟩⟩,?_⟩
  rw[k1,zI zr,zk k2,zk tr]
 |cons q qs=>
  have eb:bd (q::qs)=(⟨#[32]⟩:Str)++Txt.join ", " ((q::qs).map pc):=by unfold bd;rw[zI (by simp),blank]
  have lb:(bd (q::qs)).length=1+(Txt.join ", " ((q::qs).map pc)).length:=by rw[eb,eN];rfl
  have hbl:(bd (q::qs)).length<=200:=hbl
  have k2:(!decide ((bd (q::qs)).length≠0))=false:=by rw[lb];simp
  have sl:Txt.slice (bd (q::qs)) (some (1:Int)) none=Txt.join ", " ((q::qs).map pc):=u9 (by
   have:=R9 (x:=bd (q::qs)) (n:=1) (by omega)
   refine (this:cs (Txt.slice _ (some ((1:Nat):Int)) none)=_).trans ?_
   rw[eb,eU];rfl)
  have c0:ch (bd (q::qs)) (0:Int)=(" " : Str):=by
   rw[blank]
   have e:cs (bd (q::qs))=32::cs (Txt.join ", " ((q::qs).map pc)):=by rw[eb,eU];rfl
   show (⟨#[at' (cs (bd (q::qs))) ((0:Nat):Int)]⟩:Str)=_
   rw[u6 (xs:=cs (bd (q::qs))) (k:=0) (x:=32) (by rw[e];rfl)]
  have sp:=ai5 h.w
  have mp:((q::qs).map pc).map (fun vx:Str=>(at' (Txt.split vx (" " : Str)) 0,at' (Txt.split vx (" " : Str)) 1))=q::qs:=by
   rw[Z3]
   have:∀ l:List (Str×Str),(∀ z∈l,Nm z.1/\Wo z.2)->l.map ((fun vx:Str=>(at' (Txt.split vx (" " : Str)) 0,at' (Txt.split vx (" " : Str)) 1)) ∘ pc)=l:=by
    intro l
    induction l with
    |nil=>intro _;rfl
    |cons p l ih=>
     intro hp
     rw[zg,ih fun z hz=>hp z (zo _ hz)]
     congr 1
     show (at' (Txt.split (pc p) (" " : Str)) 0,at' (Txt.split (pc p) (" " : Str)) 1)=p
     rw[aeH (hp p (zi ..))]
     rfl
   exact this _ h.w
  rw[sl,sp,mp,c0,k1,k2]
  refine⟨⟨by rw[c1];rfl,fun _=>⟨(fun z=>by cases z),fun _=>⟨in_of (by decide) (by omega),fun _=>⟨⟨⟨⟨by decide +kernel,by omega⟩,?_⟩,fun vx hx=>?_⟩,dr⟩⟩⟩⟩,?_⟩
  ·rw[zh];have:=h.l;show (q::qs).length<=_;have:(q::qs).length<=8:=h.l;omega
  ·obtain⟨p,hp,rfl⟩:=List.mem_map.mp hx
   have:=Qv (h.w p hp)
   refine⟨⟨by decide +kernel,by rw[g8];omega⟩,?_⟩
   rw[aeH (h.w p hp)]
   rfl
  ·rw[zI zr,zI zr,zk (by simp),zk tr]
theorem Tz {r:Rw} (h:CQ r):yg (rt r)/\pB (rt r)=some r:=by
 obtain⟨d,t⟩:=wN h
 have e:(if (lF (eS (rt r)))=true then bM (rt r) else none)=some r:=(zk rfl).trans t
 refine⟨⟨fun _=>d,?_⟩,?_⟩
 ·dsimp only
  rw[e]
  intro z;cases z
 ·unfold pB
  dsimp only
  rw[e]
  rfl
theorem aby (x:Int) (ls:Str) (hls:0 < ls.length) (most:Int) (h0:0 < most) (h1:most<=12):mX x ls most/\(iH x ls most).length=(1+x % most).toNat/\∀ c∈cs (iH x ls most),c∈cs ls:=by
 have m:=jz x (m:=most) h0
 have:=zu (P:=fun f k=>some (qF x ls f k)) (step:=fun f k=>lM x ls f k) (fun k (s:Str)=>s.length=k/\∀ c∈cs s,c∈cs ls) (1+x % most).toNat ("" : Str) ⟨rfl,fun c hc=>by cases hc⟩ fun k s hk h=>by
  have hi:In ls.length (x / (7+5 * (k:Int)) % (ls.length:Int)):=Gi (by omega) (Int.le_refl _)
  refine⟨⟨⟨⟨by omega,by omega⟩,hi⟩,rG (by rw[Ci];omega)⟩,?_,fun c hc=>?_⟩
  ·show (s++ch ls _).length=k+1
   rw[eN,Ci];omega
  ·have hc:c∈cs (s++ch ls (x / (7+5 * (k:Int)) % (ls.length:Int))):=hc
   rw[eU] at hc
   rcases List.mem_append.mp hc with hc|hc
   ·exact h.2 c hc
   ·obtain⟨d,hd,e⟩:=ail hi
    rw[e] at hc
    cases List.mem_singleton.mp hc
    exact hd
 exact⟨⟨⟨h0,Hg (by omega) (by omega)⟩,this.1⟩,this.2⟩
theorem adS {α:Type} (m:List (Str×α)) (x:Str) (a:α):(put m x a).length<=m.length+1:=by
 unfold put
 split<;>simp
theorem adT {α:Type} {m:List (Str×α)} {x:Str} {a:α} {q:Str×α} (h:q∈put m x a):q.1=x/\q.2=a\/q∈m:=by
 unfold put at h
 split at h
 ·obtain⟨r,hr,e⟩:=List.mem_map.mp h
  split at e
  ·rename_i he;subst e;exact .inl ⟨he,rfl⟩
  ·subst e;exact .inr hr
 ·rcases List.mem_append.mp h with h|h
  ·exact .inr h
  ·cases List.mem_singleton.mp h;exact .inl ⟨rfl,rfl⟩
theorem abz {α:Type} {m:List (Str×α)} {x:Str} (h:x∈m.map (·.1)):has m x=true:=by
 obtain⟨q,hq,rfl⟩:=List.mem_map.mp h
 unfold has
 exact List.any_eq_true.mpr ⟨q,hq,by simp⟩
theorem agA {α:Type} {m:List (Str×α)} {x:Str} {a:α} (h:(m.map (·.1)).Nodup):((put m x a).map (·.1)).Nodup:=by
 unfold put
 split
 ·rw[Z3]
  have:(fun q:Str×α=>q.1) ∘ (fun q=>if q.1=x then (q.1,a) else q)=fun q=>q.1:=by
   funext q
   show (if q.1=x then (q.1,a) else q).1=q.1
   split<;>rfl
  rw[this];exact h
 ·rename_i hx
  rw[Zl]
  refine List.nodup_append.mpr ⟨h,by simp,fun y hy z hz e=>?_⟩
  have hz:z=x:=by simpa using hz
  exact hx (abz (by rw[<-hz,<-e];exact hy))
theorem abA {m:List (Str×Str)} {x:Str} (h:x∈m.map (·.1)):∃ q∈m,look m x=q.2:=by
 unfold look
 cases hf:m.find? fun q=>decide (q.1=x) with
 |none=>
  obtain⟨q,hq,rfl⟩:=List.mem_map.mp h
  have:=List.find?_eq_none.mp hf q hq
  simp at this
 |some q=>exact⟨q,List.mem_of_find?_eq_some hf,rfl⟩
theorem ai6:∀ c∈cs (("abcdefghijklmnopqrstuvwxyz" : Str)++("0123456789" : Str)),Wd c:=by unfold Wd Lw;decide +kernel
theorem abB (xs:List Int) (k:Nat) (hl:2+2 * k < xs.length) (ws:List (Str×Str)) (hk:k < 8) (h:ws.length<=k/\(∀ q∈ws,Nm q.1/\Wo q.2)/\(ws.map (·.1)).Nodup):lN xs ws k/\(dB xs ws k).length<=k+1/\(∀ q∈dB xs ws k,Nm q.1/\Wo q.2)/\((dB xs ws k).map (·.1)).Nodup:=by
 have i1:In xs.length (1+2 * (k:Int)):=in_of (by omega) (by omega)
 have i2:In xs.length (2+2 * (k:Int)):=in_of (by omega) (by omega)
 have j:∀ y:Int,In 2 (y % 2):=fun y=>Gi (by decide) (by decide)
 have o:∀ (a b:Int) (y:Int),at' [a,b] (y % 2)=a\/at' [a,b] (y % 2)=b:=fun a b y=>by
  have:=U6 (xs:=[a,b]) (j y);simpa using this
 have q1:=o 2 8 (at' xs (1+2 * (k:Int)) / 999)
 have q2:=o 3 12 (at' xs (2+2 * (k:Int)) / 999)
 have a1:=aby (at' xs (1+2 * (k:Int))) ("abcdefghijklmnopqrstuvwxyz" : Str) (by decide +kernel) (at' [(2:Int),(8:Int)] (at' xs (1+2 * (k:Int)) / 999 % 2)) (by omega) (by omega)
 have a2:=aby (at' xs (2+2 * (k:Int))) (("abcdefghijklmnopqrstuvwxyz" : Str)++("0123456789" : Str)) (by decide +kernel) (at' [(3:Int),(12:Int)] (at' xs (2+2 * (k:Int)) / 999 % 2)) (by omega) (by omega)
 have m1:=jz (at' xs (1+2 * (k:Int))) (m:=at' [(2:Int),(8:Int)] (at' xs (1+2 * (k:Int)) / 999 % 2)) (by omega)
 have m2:=jz (at' xs (2+2 * (k:Int))) (m:=at' [(3:Int),(12:Int)] (at' xs (2+2 * (k:Int)) / 999 % 2)) (by omega)
 refine⟨⟨⟨⟨i1,i1,j _⟩,a1.1⟩,⟨⟨i2,rG (by decide +kernel),i2,j _⟩,a2.1⟩,by omega⟩,?_,?_,agA h.2.2⟩
 ·exact zz (adS _ _ _) (by omega)
 ·intro q hq
  rcases adT hq with⟨e1,e2⟩|hq
  ·rw[e1,e2]
   exact⟨⟨by rw[a1.2.1];omega,by rw[a1.2.1];omega,fun c hc=>ai3 c (a1.2.2 c hc)⟩,by rw[a2.2.1];omega,by rw[a2.2.1];omega,fun c hc=>ai6 c (a2.2.2 c hc)⟩
  ·exact h.2.1 q hq
theorem agB {name:Str} (hn:Nm name) (xs:List Int) (h0:1<=xs.length) (hl:∀ k:Nat,(k:Int) < at' xs 0 % 9->2+2 * k < xs.length):mY name xs/\CQ (iI name xs):=by
 have m:=jz (at' xs 0) (m:=9) (by decide)
 have:=zu (P:=fun f k=>some (lN xs f k)) (step:=fun f k=>dB xs f k) (fun k (s:List (Str×Str))=>s.length<=k/\(∀ q∈s,Nm q.1/\Wo q.2)/\(s.map (·.1)).Nodup) (at' xs 0 % 9).toNat [] ⟨zl 0,fun q h=>(by cases h),kN⟩ fun k s hk h=>abB xs k (hl k (by omega)) s (by omega) h
 obtain⟨d1,w1,w2,w3⟩:=this
 have hs:∀ ws:List (Str×Str),(uE (ws.map (·.1))).length=ws.length:=fun ws=>by rw[(oX _).length_eq,zh]
 refine⟨⟨⟨⟨in_of (by decide) (by omega),Hg m.1 (by omega)⟩,d1⟩,⟨Nat.lt_of_le_of_lt w1 (by omega),by rw[hs];exact zz w1 (by omega)⟩,fun f hf=>abz ((oX _).mem_iff.mp hf)⟩,hn,?_,?_,?_⟩
 ·show (List.map _ (uE _)).length<=8
  rw[zh,hs]
  exact zz w1 (by omega)
 ·intro q hq
  obtain⟨f,hf,rfl⟩:=List.mem_map.mp (show q∈List.map _ (uE _) from hq)
  have hf:=(oX _).mem_iff.mp hf
  obtain⟨r,hr,e⟩:=abA hf
  obtain⟨s,hs',e'⟩:=List.mem_map.mp hf
  dsimp only
  rw[e,<-e']
  exact⟨(w2 s hs').1,(w2 r hr).2⟩
 ·unfold iI
  dsimp only
  rw[Z3]
  show (List.map (fun f=>f) (uE _)).Pairwise _
  rw[List.map_id']
  have nd:=(oX _).nodup_iff.mpr w3
  exact ((JM _).and nd).imp fun h=>(lt_iff _ _).mpr h
theorem agC (c:Nat) (n:Int) (h:1<=n):cs (Txt.mul ⟨#[c]⟩ n)=List.replicate n.toNat c:=by
 unfold Txt.mul
 split
 ·omega
 split
 ·rename_i h
  simp only[ke,beq_iff_eq] at h
  rcases h with h|h
  ·subst h;rfl
  ·cases h
 ·have:∀ (k:Nat) (a:Array Nat),((List.replicate k (#[c]:Array Nat)).foldl (·++·) a).toList=a.toList++List.replicate k c:=by
   intro k
   induction k with
   |zero=>intro a;simp
   |succ k ih=>
    intro a
    rw[kH,kF,ih,Array.toList_append,kH]
    simp
  exact (this _ _).trans (by simp)
theorem abC {i:Int} (h:0<=i/\i < 26):ch LT i=⟨#[97+i.toNat]⟩:=by
 have:∀ i:Fin 26,ch LT (i.val:Int)=⟨#[97+i.val]⟩:=by decide +kernel
 have:=this ⟨i.toNat,by omega⟩
 rwa [show ((⟨i.toNat,by omega⟩:Fin 26).val:Int)=i by show (i.toNat:Int)=i;omega] at this
theorem adU {i n:Int} (h:0<=i/\i < 26) (h1:1<=n) (h8:n<=8):Nm (Txt.mul (ch LT i) n):=by
 have e:=agC (97+i.toNat) n h1
 rw[<-abC h] at e
 refine⟨?_,?_,fun c hc=>?_⟩
 ·rw[g8,e,List.length_replicate];omega
 ·rw[g8,e,List.length_replicate];omega
 ·rw[e] at hc
  rw[(List.mem_replicate.mp hc).2]
  unfold Lw;omega
theorem abD {l:LS_} {c:Nat} (h:c∈cs (Txt.join "" l)):∃ q∈l,c∈cs q:=by
 cases l with
 |nil=>cases h
 |cons p ps=>
  rw[xO] at h
  rcases List.mem_append.mp h with h|h
  ·exact⟨p,zi ..,h⟩
  ·obtain⟨q,hq,h⟩:=List.mem_flatMap.mp h
   exact⟨q,zo _ hq,h⟩
theorem YX (xs:List Int) (many:Int):∃ (stem:Str) (at_:Int),(∀ c∈cs stem,Lw c)/\stem.length<=5/\0<=at_/\at_<=(stem.length:Int)/\bW xs many=(rng 0 many.toNat).map (nmF xs stem at_):=by
 have m6:=jz (at' xs 0) (m:=6) (by decide)
 have mem:∀ x∈((rng 0 (at' xs 0 % 6).toNat).map fun k_:Int=>ch LT (at' xs k_ / 40 % 26)),x.length=1/\∀ c∈cs x,Lw c:=fun x hx=>by
  obtain⟨k,_,rfl⟩:=List.mem_map.mp hx
  refine⟨Ci _ _,fun c hc=>?_⟩
  rw[abC (jz _ (by decide))] at hc
  cases List.mem_singleton.mp hc
  have:=jz (at' xs k / 40) (m:=26) (by decide)
  unfold Lw;omega
 refine⟨Txt.join "" ((rng 0 (at' xs 0 % 6).toNat).map fun k_:Int=>ch LT (at' xs k_ / 40 % 26)),at' xs 1 % (((Txt.join "" ((rng 0 (at' xs 0 % 6).toNat).map fun k_:Int=>ch LT (at' xs k_ / 40 % 26))).length:Int)+1),fun c hc=>?_,?_,?_,?_,(Mi (nmF xs _ _) _ []).trans (kc _)⟩
 ·obtain⟨q,hq,h⟩:=abD hc
  exact (mem q hq).2 c h
 ·have:=abr _ 1 fun x hx=>Nat.le_of_eq (mem x hx).1
  rw[zh,xH] at this
  omega
 ·exact (jz _ (by omega)).1
 ·have:=(jz (at' xs 1) (m:=((Txt.join "" ((rng 0 (at' xs 0 % 6).toNat).map fun k_:Int=>ch LT (at' xs k_ / 40 % 26))).length:Int)+1) (by omega)).2
  omega
theorem agD {xs:List Int} {stem:Str} {at_:Int} (h1:∀ c∈cs stem,Lw c) (h2:stem.length<=5) (h3:0<=at_) (h4:at_<=(stem.length:Int)) {k:Int} (hk:0<=k/\k < 15):Nm (nmF xs stem at_ k):=by
 unfold nmF
 split
 ·exact adU (by omega) (by omega) (by omega)
 ·have s1:=aa6 (x:=stem) (n:=at_.toNat) (by omega)
  have s2:=R9 (x:=stem) (n:=at_.toNat) (by omega)
  rw[qk h3] at s1 s2
  have c1:=abC (i:=(k+at' xs 2) % 15) (by have:=jz (k+at' xs 2) (m:=15) (by decide);omega)
  have m:=jz (k+at' xs 2) (m:=15) (by decide)
  have e:cs ((Txt.slice stem none (some at_)++ch LT ((k+at' xs 2) % 15))++Txt.slice stem (some at_) none)=((cs stem).take at_.toNat++[97+((k+at' xs 2) % 15).toNat])++(cs stem).drop at_.toNat:=by
   rw[eU,eU,s1,s2,c1]
  have hl:((Txt.slice stem none (some at_)++ch LT ((k+at' xs 2) % 15))++Txt.slice stem (some at_) none).length=stem.length+1:=by
   rw[g8,e,zw,zw,JU,qq,<-g8]
   show _+1+_=_
   omega
  refine⟨by rw[hl];omega,by rw[hl];omega,fun c hc=>?_⟩
  rw[e] at hc
  rcases List.mem_append.mp hc with hc|hc
  ·rcases List.mem_append.mp hc with hc|hc
   ·exact h1 c (List.mem_of_mem_take hc)
   ·cases List.mem_singleton.mp hc
    unfold Lw;omega
  ·exact h1 c (List.mem_of_mem_drop hc)
structure Bk (b:List Rw):Prop where
 l:b.length<=40
 g:∀ r∈b,CQ r
 nd:(b.map (·.1)).Nodup
theorem abE (n:Nat):rng 0 (n+1)=rng 0 n++[(n:Int)]:=by
 unfold rng
 rw[List.range_succ,Zl]
 simp
theorem adV {g:Int->Str} {n:Nat} {i:Int} (h:0<=i/\i < n):at' ((rng 0 n).map g) i=g i:=by
 have:=u6 (xs:=(rng 0 n).map g) (k:=i.toNat) (x:=g i) (by
  unfold rng
  rw[Z3,ZZ,List.getElem?_range (by omega)]
  show some (g (0+(i.toNat:Int)))=some (g i)
  rw[Int.zero_add,qk h.1])
 rwa [qk h.1] at this
theorem adW {xs:List Int} {stem:Str} {at_:Int} {i j:Int} (hi:0<=i/\i < 15) (hj:0<=j/\j < 15) (h:nmF xs stem at_ i=nmF xs stem at_ j):i=j:=by
 have:=agw (xs:=xs) (stem:=stem) (at_:=at_) (i:=i.toNat) (j:=j.toNat) (by omega) (by omega) (by rw[qk hi.1,qk hj.1];exact h)
 omega
theorem adX {step:List Rw->Int->List Rw} {P:List Rw->Int->Option Prop} {name:Int->Str} {row:Int->Rw} {n:Nat} (hn:n<=40) (hs:∀ b k,step b k=b++[row k]) (hr:∀ k:Nat,k < n->CQ (row k)/\(row k).1=name k) (hd:∀ (b:List Rw) (k:Nat),b.length=k->k < n->hold (P b k))
  (hi:∀ i j:Nat,i < n->j < n->name i=name j->i=j):HD step P (rng 0 n) []/\Bk ((rng 0 n).foldl step []):=by
 have:=zu (P:=P) (step:=step) (fun k (b:List Rw)=>b.length=k/\(∀ r∈b,CQ r)/\b.map (·.1)=(rng 0 k).map name) n [] ⟨rfl,fun r h=>(by cases h),rfl⟩ fun k b hk h=>by
  obtain⟨r1,r2⟩:=hr k hk
  refine⟨hd b k h.1 hk,by rw[hs];simp[h.1],fun r hr'=>?_,?_⟩
  ·rw[hs] at hr'
   rcases List.mem_append.mp hr' with hr'|hr'
   ·exact h.2.1 r hr'
   ·cases List.mem_singleton.mp hr';exact r1
  ·rw[hs,Zl,h.2.2,abE,Zl]
   simp[r2]
 refine⟨this.1,by rw[this.2.1];exact hn,this.2.2.1,?_⟩
 rw[this.2.2.2]
 exact agx hi
theorem adY (s:List Int):oU s 0 12/\Bk (dJ s 0 12):=by
 obtain⟨d1,l1,_⟩:=Qu (aQ s 0) 8 (by decide) (by decide)
 have l8:(aK (aQ s 0) 8).length=8:=l1
 obtain⟨d2,l2,n2⟩:=abt (aK (aQ s 0) 8) (by omega) 15 (by decide) (by decide)
 obtain⟨stem,at_,a1,a2,a3,a4,e⟩:=YX (aK (aQ s 0) 8) 15
 have m:=jz (at' (aK (aQ s 0) 8) 6) (m:=12+1) (by decide)
 have ix:∀ y:Int,In (bW (aK (aQ s 0) 8) 15).length (y % 15):=fun y=>Gi (by decide) (by rw[l2];decide)
 have nm:∀ y:Int,at' (bW (aK (aQ s 0) 8) 15) (y % 15)=nmF (aK (aQ s 0) 8) stem at_ (y % 15):=fun y=>by rw[e];exact adV (n:=15) (jz y (by decide))
 have wr:∀ k:Nat,k < 13->mY (at' (bW (aK (aQ s 0) 8) 15) ((7 * (k:Int)+at' (aK (aQ s 0) 8) 7) % 15)) (aK (aQ s ((0+1)+(k:Int))) 17)/\CQ (iI (at' (bW (aK (aQ s 0) 8) 15) ((7 * (k:Int)+at' (aK (aQ s 0) 8) 7) % 15)) (aK (aQ s ((0+1)+(k:Int))) 17)):=fun k hk=>by
  obtain⟨_,lk,_⟩:=Qu (aQ s ((0+1)+(k:Int))) 17 (by decide) (by decide)
  have lk:(aK (aQ s ((0+1)+(k:Int))) 17).length=17:=lk
  have m9:=jz (at' (aK (aQ s ((0+1)+(k:Int))) 17) 0) (m:=9) (by decide)
  rw[nm]
  exact agB (agD a1 a2 a3 a4 (jz _ (by decide))) _ (by omega) fun j hj=>by omega
 have:=adX (P:=fun b k=>some (o9 s 0 (aK (aQ s 0) 8) (bW (aK (aQ s 0) 8) 15) b k)) (step:=fun b k=>j9 s 0 (aK (aQ s 0) 8) (bW (aK (aQ s 0) 8) 15) b k)
  (name:=fun k=>at' (bW (aK (aQ s 0) 8) 15) ((7 * k+at' (aK (aQ s 0) 8) 7) % 15)) (row:=fun k=>iI (at' (bW (aK (aQ s 0) 8) 15) ((7 * k+at' (aK (aQ s 0) 8) 7) % 15)) (aK (aQ s ((0+1)+k)) 17))
  (n:=(at' (aK (aQ s 0) 8) 6 % (12+1)).toNat) (by omega) (fun b k=>rfl) (fun k hk=>⟨(wr k (by omega)).2,rfl⟩) (fun b k hb hk=>⟨⟨in_of (by decide) (by omega),ix _⟩,⟨⟨VD s _ (by omega) (by omega),(Qu _ 17 (by decide) (by decide)).1⟩,(wr k (by omega)).1⟩,rG (by omega)⟩) fun i j hi hj h=>by
   have h:at' (bW (aK (aQ s 0) 8) 15) ((7 * (i:Int)+at' (aK (aQ s 0) 8) 7) % 15)=at' (bW (aK (aQ s 0) 8) 15) ((7 * (j:Int)+at' (aK (aQ s 0) 8) 7) % 15):=h
   rw[nm,nm] at h
   have:=adW (jz _ (by decide)) (jz _ (by decide)) h
   omega
 exact⟨⟨⟨VD s 0 (by decide) (by decide),d1⟩,d2,⟨⟨in_of (by decide) (by omega),by decide⟩,Hg m.1 (by omega)⟩,this.1⟩,this.2⟩
theorem adZ {ws:List (Str×Str)} (h:∀ q∈ws,Nm q.1/\Wo q.2) {c:Nat} (hc:c∈bl ws):c≠10:=by
 have pf:∀ q∈ws,c∈cs (pc q)->c≠10:=fun q hq hc=>by
  rcases Xa (h q hq) hc with e|e
  ·omega
  ·unfold Wd Lw at e;omega
 cases ws with
 |nil=>cases hc
 |cons q qs=>
  rcases List.mem_cons.mp hc with e|hc
  ·omega
  ·rcases List.mem_append.mp hc with hc|hc
   ·exact pf q (zi ..) hc
   ·obtain⟨p,hp,hc⟩:=List.mem_flatMap.mp hc
    rcases List.mem_cons.mp hc with e|hc
    ·omega
    ·rcases List.mem_cons.mp hc with e|hc
     ·omega
     ·exact pf p (zo _ hp) hc
theorem Qx {r:Rw} (h:CQ r):10∉cs (rt r):=fun hc=>by
 rw[W9] at hc
 rcases List.mem_append.mp hc with hc|hc
 ·have:=h.n.2.2 _ hc;unfold Lw at this;omega
 ·rcases List.mem_cons.mp hc with e|hc
  ·omega
  ·exact adZ h.w hc rfl
theorem Mj {b:List Rw} (h:∀ r∈b,CQ r):((b.map rt).map (·.length)).sum<=200 * b.length:=by
 induction b with
 |nil=>exact zl _
 |cons r b ih=>
  have:=ih fun z hz=>h z (zo _ hz)
  have:=VJ (h r (zi ..))
  rw[zg,zg,Kk,Zp]
  omega
theorem TF {b:List Rw} (h:Bk b):m7 (Txt.join "\n" (b.map rt))/\bL (Txt.join "\n" (b.map rt))=b.map rt:=by
 have n1:("\n" : Str).length=1:=by decide +kernel
 have hl:(Txt.join "\n" (b.map rt)).length<=100000:=by
  have h1:=StrLaws.join_length_le ("\n" : Str) (b.map rt)
  rw[<-StrLaws.glued_eq_join] at h1
  have h1:(Txt.join "\n" (b.map rt)).length<=_:=h1
  have h2:=Mj h.g
  have h3:=h.l
  rw[n1,zh] at h1
  omega
 refine⟨⟨(fun z=>by cases z),fun _ _=>⟨by rw[n1];rfl,hl⟩⟩,?_⟩
 unfold bL
 rw[zI (by intro z;cases z)]
 cases b with
 |nil=>rfl
 |cons r b=>
  rw[zk (by
   rw[ZY,g8,zg,xO,W9,zw,zw,Zp]
   omega),zg]
  refine tW (c:=10) (y':=[]) (by rw[abw]) (by decide +kernel) _ _ fun z hz=>?_
  rw[<-zg] at hz
  obtain⟨p,hp,rfl⟩:=List.mem_map.mp hz
  exact Qx (h.g p hp)
theorem Ml {β:Type} (g:Str->β) (xs:LS_):(pG xs).map (fun q=>g q.2)=xs.map g:=by
 unfold pG
 rw[List.map_zipWith]
 refine List.ext_getElem (by simp) fun i h1 h2=>?_
 simp
theorem abF {xs:LS_} {q:Int×Str} (h:q∈pG xs):q.2∈xs:=by
 have:=qS (f:=fun q:Int×Str=>q.2) h
 rw[Ml (fun x=>x) xs,List.map_id'] at this
 exact this
theorem Xb {b:List Rw} (h:Bk b):rU (Txt.join "\n" (b.map rt))/\jo (Txt.join "\n" (b.map rt))=b:=by
 obtain⟨d,t⟩:=TF h
 have e1:(b.map rt).map (fun x=>(bM x).getD default)=b:=by
  rw[Z3]
  refine (qr fun r hr=>?_).trans (List.map_id' b)
  show (bM (rt r)).getD default=r
  rw[(wN (h.g r hr)).2];rfl
 have hl:=h.l
 refine⟨⟨⟨⟨rfl,d⟩,?_,?_⟩,fun q hq=>?_⟩,?_⟩
 ·rw[t]
  show ((List.range _).zipWith _ _).length < 4000
  simp
  omega
 ·rw[t]
  have:=Ml (fun x=>((bM x).getD default).1) (b.map rt)
  have e2:(b.map rt).map (fun x=>((bM x).getD default).1)=b.map (·.1):=by
   have:=congrArg (List.map (fun r:Rw=>r.1)) e1
   rw[Z3] at this
   exact this
  rw[e2] at this
  exact this▸h.nd
 ·rw[t] at hq
  obtain⟨r,hr,e⟩:=List.mem_map.mp (abF hq)
  obtain⟨d,t⟩:=wN (h.g r hr)
  rw[<-e]
  dsimp only
  rw[t]
  exact⟨d,rfl,rfl,rfl⟩
 ·unfold jo
  dsimp only
  rw[t]
  exact (Ml (fun x=>(bM x).getD default) (b.map rt)).trans e1
theorem jq {b:List Rw} (h:Bk b):dX b/\bw b=Txt.join "\n" (b.map rt):=by
 have e:(b.map fun vo:Rw=>dw vo)=b.map rt:=qr fun r hr=>(Qw (h.g r hr)).2
 have n1:("\n" : Str).length=1:=by decide +kernel
 have h2:=Mj h.g
 have h3:=h.l
 refine⟨⟨⟨by omega,fun r hr=>(Qw (h.g r hr)).1⟩,?_⟩,?_⟩
 ·show ((b.map fun vo:Rw=>dw vo).map (·.length)).sum+(b.map fun vo:Rw=>dw vo).length * ("\n" : Str).length<=100000
  rw[e,n1,zh]
  omega
 ·show Txt.join "\n" (b.map fun vo:Rw=>dw vo)=_
  rw[e]
theorem agE:Bk []:=⟨QP _,fun r h=>(by cases h),kN⟩
theorem Bk.sub {a b:List Rw} (h:Bk b) (s:a.Sublist b):Bk a:=⟨zz s.length_le h.l,fun r hr=>h.g r (s.subset hr),h.nd.sublist (s.map _)⟩
theorem ad0 {α:Type} {xs:List α} {i j:Nat} (hi:i<=xs.length) (hj:j<=xs.length):cut xs (some (i:Int)) (some (j:Int))=(xs.drop i).take (j - i):=by
 unfold cut
 rw[HT.Ja,HT.Ja,Nat.min_eq_left hi,Nat.min_eq_left hj]
theorem apart {a c:List Rw} (h:((a++c).map (·.1)).Nodup):c.find? (fun r=>decide (r.1∈a.map (·.1)))=none:=by
 rw[Zl] at h
 rw[List.find?_eq_none]
 intro r hr z
 exact (List.nodup_append.mp h).2.2 _ (JE z) _ (qS (f:=fun r:Rw=>r.1) hr) rfl
theorem ad1 {a c:List Rw} (h:Bk (a++c)):cW a c:=by
 have hl:=h.l
 rw[zw] at hl
 exact⟨⟨by omega,rG (by omega)⟩,apart h.nd⟩
theorem Mp {b:List Rw} (h:Bk b):Bj b/\tB b=true:=by
 have hl:=h.l
 have a:((b.map fun vs:Rw=>lA vs).all id)=true:=by
  rw[ja]
  intro t ht
  obtain⟨r,hr,rfl⟩:=List.mem_map.mp ht
  exact (wM (h.g r hr)).2
 refine⟨⟨fun _=>⟨by omega,fun r hr=>(wM (h.g r hr)).1⟩,fun _=>⟨⟨by omega,by omega⟩,by rw[zh];omega⟩⟩,?_⟩
 unfold tB
 rw[a,zI (by intro z;cases z)]
 refine z5 ?_
 rw[WR (show (b.map fun vs:Rw=>vs.1).Nodup from h.nd),zh]
theorem abG {b p:List Rw} (hb:b.length<=40) (hp:p.length<=40) (hs:∀ r∈p,r∈b) {r:Rw} {q:List Rw} (e:p=r::q):uU b p/\pN b p=some r.1:=by
 refine⟨⟨by omega,rG (by omega)⟩,?_⟩
 unfold pN
 have hm:r.1∈b.map fun r:Rw=>r.1:=qS (f:=fun r:Rw=>r.1) (hs r (by rw[e];exact zi ..))
 rw[e,List.find?_cons_of_pos (by exact z5 hm)]
 rfl
def gJ (l:LS_):List Nat:=l.flatMap fun q=>10::cs q
theorem abH (a b:LS_):gJ (a++b)=gJ a++gJ b:=List.flatMap_append ..
theorem Fi:∀ {l:LS_},l≠[]->gJ l=10::cs (Txt.join "\n" l)
 |[],h=>absurd rfl h
 |p::ps,_=>by
  rw[xO,abw,Oh]
  show 10::cs p++ps.flatMap (fun q=>10::cs q)=_
  rfl
theorem ai7:∀ {ms:List LS_},(∀ m∈ms,m≠[])->gJ (ms.map fun m=>Txt.join "\n" m)=gJ ms.flatten
 |[],_=>rfl
 |m::ms,h=>by
  have ih:=ai7 fun z hz=>h z (zo _ hz)
  rw[kX,abH,Fi (h m (zi ..)),<-ih]
  rfl
theorem agF {ms:List LS_} (h:∀ m∈ms,m≠[]):Txt.join "\n" (ms.map fun m=>Txt.join "\n" m)=Txt.join "\n" ms.flatten:=by
 cases ms with
 |nil=>rfl
 |cons m ms=>
  have e:=ai7 h
  have n1:(m::ms).flatten≠[]:=by
   rw[kX]
   intro z
   exact h m (zi ..) (List.append_eq_nil_iff.mp z).1
  rw[Fi n1,Fi (by simp)] at e
  exact u9 (List.cons.inj e).2
theorem agG {b:List Rw} (h:Bk b) {i j:Nat} (hij:i<=j) (hj:j<=b.length):eZ b (i:Int) (j:Int)/\cP b (i:Int) (j:Int)=true:=by
 have hl:=h.l
 have c1:cut b none (some (i:Int))=b.take i:=U8 (by omega)
 have c2:cut b (some (i:Int)) (some (j:Int))=(b.drop i).take (j - i):=ad0 (by omega) hj
 have c3:cut b (some (j:Int)) none=b.drop j:=DN hj
 have eb:(b.take i++(b.drop i).take (j - i))++b.drop j=b:=by
  have e1:b.take i++(b.drop i).take (j - i)=b.take j:=by
   rw[<-List.take_add,Nat.add_sub_cancel' hij]
  rw[e1,List.take_append_drop]
 generalize b.take i=p at c1 eb
 generalize (b.drop i).take (j - i)=q at c2 eb
 generalize b.drop j=r at c3 eb
 have eb2:p++(q++r)=b:=by rw[<-JI];exact eb
 have hb:Bk ((p++q)++r):=by rw[eb];exact h
 have hpq:Bk (p++q):=hb.sub (List.sublist_append_left ..)
 have hqr:Bk (q++r):=(show Bk (p++(q++r)) by rw[eb2];exact h).sub (kR ..)
 have hp:Bk p:=hpq.sub (List.sublist_append_left ..)
 have hq:Bk q:=hpq.sub (kR ..)
 have hr:Bk r:=hb.sub (kR ..)
 have sub:∀ x∈[p,q,r],Bk x/\∀ y∈x,y∈b:=fun x hx=>by
  simp only[j0,kr,or_false] at hx
  rw[<-eb]
  rcases hx with rfl|rfl|rfl
  ·exact⟨hp,fun y hy=>by simp[hy]⟩
  ·exact⟨hq,fun y hy=>by simp[hy]⟩
  ·exact⟨hr,fun y hy=>by simp[hy]⟩
 have a0:at' [p,q,r] 0=p:=u6 (k:=0) rfl
 have a1:at' [p,q,r] 1=q:=u6 (k:=1) rfl
 have a2:at' [p,q,r] 2=r:=u6 (k:=2) rfl
 obtain⟨sd,st⟩:=jq h
 obtain⟨f1,f2⟩:=RQ (P:=fun s1 x=>some (jP b s1 x)) (step:=fun s1 x=>bU b s1 x) [p,q,r] fun x hx=>by
  obtain⟨hx1,hx2⟩:=sub x hx
  cases x with
  |nil=>exact⟨(fun z=>by cases z),.inl rfl⟩
  |cons y ys=>
   obtain⟨d,t⟩:=abG hl hx1.l hx2 rfl
   refine⟨fun _=>⟨d,in_of (by decide) (by simp)⟩,.inl ?_⟩
   show bU b () (y::ys)=_
   unfold bU
   rw[t,show at' (y::ys) 0=y from u6 (k:=0) rfl,z5 rfl,Bool.not_true,Bool.and_false]
   rfl
 have texts:((([p,q,r].filter fun x:List Rw=>(!decide (x=([]:List Rw)))).map fun x:List Rw=>bw x))=([p,q,r].filter fun x:List Rw=>(!decide (x=([]:List Rw)))).map fun x=>Txt.join "\n" (x.map rt):=
  qr fun x hx=>(jq (sub x (List.mem_filter.mp hx).1).1).2
 have ne:∀ m∈([p,q,r].filter fun x:List Rw=>(!decide (x=([]:List Rw)))).map (fun x=>x.map rt),m≠[]:=fun m hm z=>by
  obtain⟨x,hx,rfl⟩:=List.mem_map.mp hm
  have:=(List.mem_filter.mp hx).2
  rw[List.map_eq_nil_iff] at z
  rw[z5 z] at this
  cases this
 have flat:(([p,q,r].filter fun x:List Rw=>(!decide (x=([]:List Rw)))).map (fun x=>x.map rt)).flatten=b.map rt:=by
  have e:∀ l:List (List Rw),((l.filter fun x:List Rw=>(!decide (x=([]:List Rw)))).map (fun x=>x.map rt)).flatten=(l.flatten).map rt:=by
   intro l
   induction l with
   |nil=>rfl
   |cons x l ih=>
    rw[kX,Zl,<-ih]
    cases x with
    |nil=>rw[List.filter_cons_of_neg (by rw[z5 rfl];decide)];rfl
    |cons y ys=>rw[List.filter_cons_of_pos (by rw[ZT (by simp)];rfl)];rfl
  rw[e,<-eb2]
  simp
 have jj:Txt.join "\n" (([p,q,r].filter fun x:List Rw=>(!decide (x=([]:List Rw)))).map fun x=>Txt.join "\n" (x.map rt))=Txt.join "\n" (b.map rt):=by
  have:=agF ne
  rw[flat,Z3] at this
  exact this
 have n1:("\n" : Str).length=1:=by decide +kernel
 have bound:∀ x∈[p,q,r],(Txt.join "\n" (x.map rt)).length<=20000:=fun x hx=>by
  have hx:=(sub x hx).1
  have h1:=StrLaws.join_length_le ("\n" : Str) (x.map rt)
  rw[<-StrLaws.glued_eq_join] at h1
  have h1:(Txt.join "\n" (x.map rt)).length<=_:=h1
  have h2:=Mj hx.g
  have h3:=hx.l
  rw[n1,zh] at h1
  omega
 have aoC:∀ l:LS_,(∀ s∈l,s.length<=20000)->(l.map (·.length)).sum<=20000 * l.length:=by
  intro l
  induction l with
  |nil=>intro _;exact QP _
  |cons s l ih=>
   intro hs
   have:=ih fun z hz=>hs z (zo _ hz)
   have:=hs s (zi ..)
   rw[zg,Kk,Zp]
   omega
 have l3:(([p,q,r].filter fun x:List Rw=>(!decide (x=([]:List Rw)))).map fun x=>Txt.join "\n" (x.map rt)).length<=3:=by
  rw[zh];exact List.length_filter_le ..
 have s3:=aoC (([p,q,r].filter fun x:List Rw=>(!decide (x=([]:List Rw)))).map fun x=>Txt.join "\n" (x.map rt)) fun s hs=>by
  obtain⟨x,hx,rfl⟩:=List.mem_map.mp hs
  exact bound x (List.mem_filter.mp hx).1
 have k3:jQ b i j [p,q,r] b b (([p,q,r].filter fun x:List Rw=>(!decide (x=([]:List Rw)))).map fun x=>Txt.join "\n" (x.map rt))/\fH b i j [p,q,r] b b (([p,q,r].filter fun x:List Rw=>(!decide (x=([]:List Rw)))).map fun x=>Txt.join "\n" (x.map rt))=true:=by
  refine⟨⟨⟨sd,by rw[n1];omega⟩,fun _=>⟨f2,by rw[f1];trivial⟩⟩,?_⟩
  unfold fH
  rw[st,jj,z5 rfl,zI (by decide),f1]
  rfl
 have k4:jR b i j [p,q,r] b b/\fK b i j [p,q,r] b b=true:=by
  refine⟨⟨fun _ _=>(Mp h).1,fun _=>⟨⟨by show 3<=100000;decide,fun x hx _=>(jq (sub x hx).1).1⟩,?_⟩⟩,?_⟩
  ·dsimp only
   rw[texts];exact k3.1
  ·unfold fK
   rw[z5 rfl,(Mp h).2,zI (by decide)]
   dsimp only
   rw[texts];exact k3.2
 have i3:∀ k:Int,0<=k/\k < 3->In [p,q,r].length k:=fun k hk=>in_of hk.1 hk.2
 have t1:bh p q=p++q:=rfl
 have t2:bh (p++q) r=b:=eb
 have t3:bh q r=q++r:=rfl
 have t4:bh p (q++r)=b:=eb2
 have k5:fM b i j [p,q,r] b/\fL b i j [p,q,r] b=true:=by
  unfold fM fL
  dsimp only
  rw[a0,a1,a2,t3,t4]
  exact⟨⟨⟨⟨i3 0 (by decide),⟨i3 1 (by decide),i3 2 (by decide)⟩,ad1 hqr⟩,ad1 (by rw[eb2];exact h)⟩,k4.1⟩,k4.2⟩
 unfold eZ cP
 dsimp only
 rw[c1,c2,c3]
 unfold jU jT
 dsimp only
 rw[a0,a1,a2,t1,t2]
 exact⟨⟨⟨⟨⟨⟨i3 0 (by decide),i3 1 (by decide)⟩,ad1 hpq⟩,i3 2 (by decide)⟩,ad1 hb⟩,k5.1⟩,k5.2⟩
theorem abI (m:Int) (n:Nat):rng m (n+1)=m::rng (m+1) n:=by
 unfold rng
 rw[kl,zg,Z3]
 refine congr (congrArg List.cons (by omega)) (qr fun k _=>?_)
 show m+((k+1:Nat):Int)=(m+1)+(k:Int)
 omega
theorem Oi {σ τ:Type} {step:σ->Int->Bw σ τ} {P:σ->Int->Option Prop} (I:Nat->σ->Prop):∀ (n m:Nat) (s0:σ),I m s0->(∀ (k:Nat) s,m<=k->k < m+n->I k s->hold (P s k)/\∃ s',step s k=.nx s'/\I (k+1) s')->∃ s',qU step (rng (m:Int) n) s0=.nx s'/\zq step P (rng (m:Int) n) s0/\I (m+n) s'
 |0,m,s0,h,_=>⟨s0,rfl,trivial,h⟩
 |n+1,m,s0,h,hs=>by
  obtain⟨d,s1,e,i1⟩:=hs m s0 (zl _) (by omega) h
  obtain⟨s',e',d',i'⟩:=Oi (P:=P) I n (m+1) s1 i1 fun k s h1 h2=>hs k s (by omega) (by omega)
  rw[show ((m+1:Nat):Int)=(m:Int)+1 by omega] at e' d'
  rw[abI]
  refine⟨s',?_,⟨d,?_⟩,by rw[show m+(n+1)=m+1+n by omega];exact i'⟩
  ·unfold qU;rw[e];exact e'
  ·rw[e];exact d'
theorem Mq:∀ {b:List Rw} {k:Nat} (hk:k < b.length),(b.map (·.1)).Nodup->b.filter (fun vs:Rw=>(!decide (vs.1=b[k].1)))=b.take k++b.drop (k+1)
 |[],k,hk,_=>absurd hk (Nat.not_lt_zero _)
 |r::b,0,hk,h=>by
  rw[zg,List.nodup_cons] at h
  rw[List.filter_cons_of_neg (by simp)]
  show b.filter _=b
  rw[List.filter_eq_self]
  intro x hx
  rw[ZT fun e=>h.1 (by rw[show r.1=x.1 from e.symm];exact qS (f:=fun r:Rw=>r.1) hx)]
  rfl
 |r::b,k+1,hk,h=>by
  rw[zg,List.nodup_cons] at h
  have hk':k < b.length:=by simpa using hk
  have ih:=Mq hk' h.2
  have e:(r::b)[k+1]=b[k]:=rfl
  rw[List.filter_cons_of_pos (by
   rw[e,ZT fun z=>h.1 (by rw[show r.1=b[k].1 from z];exact qS (f:=fun r:Rw=>r.1) (JY hk'))]
   rfl)]
  show r::b.filter (fun vs:Rw=>(!decide (vs.1=b[k].1)))=r::(b.take k++b.drop (k+1))
  rw[ih]
theorem abJ {b:List Rw} (h:Bk b) {k:Nat} (hk:k < b.length):mZ b b[k].1/\fj b b[k].1=b.take k++b.drop (k+1):=by
 have hl:=h.l
 obtain⟨d,t⟩:=Fg (h.g _ (JY hk)).n
 have hm:b[k].1∈b.map fun vs:Rw=>vs.1:=qS (f:=fun r:Rw=>r.1) (JY hk)
 refine⟨⟨⟨d,fun _=>by omega⟩,fun z=>?_,fun _=>by omega⟩,?_⟩
 ·rw[t,z5 hm] at z;cases z
 ·unfold fj
  rw[t,z5 hm,zI (by decide),List.map_id']
  exact Mq hk h.nd
theorem abK {b:List Rw} (h:Bk b) {k:Nat} (hk:k < b.length):Bk (b.take k++b.drop (k+1))/\(b.take k++b.drop (k+1)).length=b.length - 1/\b[k].1∉(b.take k++b.drop (k+1)).map (·.1):=by
 have e:=Mq hk h.nd
 refine⟨by rw[<-e];exact h.sub (List.filter_sublist ..),?_,?_⟩
 ·rw[zw,JU,qq];omega
 ·rw[<-e]
  intro z
  obtain⟨r,hr,z⟩:=List.mem_map.mp z
  have:=(List.mem_filter.mp hr).2
  rw[z5 z] at this
  cases this
theorem abL {b:List Rw} (h:Bk b) {xs:List Int} (hx:xs.length=12):oW b xs/\iT b xs=some []:=by
 have hl:=h.l
 obtain⟨s',e,d,hk,i⟩:=Oi (step:=fun iJ v5=>cQ b xs iJ v5) (P:=fun iJ v5=>some (pq b xs iJ v5)) (fun k (s:List Rw)=>Bk s/\s.length=b.length - k) b.length 0 b ⟨h,rfl⟩ fun k s _ hk ⟨h1,h2⟩=>by
  have hk:k < b.length:=by omega
  have m:=jz (at' xs ((k:Int) % (xs.length:Int)) / (1+(k:Int) / (xs.length:Int))) (m:=(s.length:Int)) (by omega)
  obtain⟨n,en⟩:∃ n:Nat,at' xs ((k:Int) % (xs.length:Int)) / (1+(k:Int) / (xs.length:Int)) % (s.length:Int)=(n:Int):=⟨_,(qk m.1).symm⟩
  have hn:n < s.length:=by omega
  have ea:at' s (at' xs ((k:Int) % (xs.length:Int)) / (1+(k:Int) / (xs.length:Int)) % (s.length:Int))=s[n]:=by rw[en];exact Gh s n hn
  obtain⟨d1,t1⟩:=abJ h1 hn
  obtain⟨b1,b2,b3⟩:=abK h1 hn
  have hl1:=h1.l
  refine⟨⟨⟨⟨⟨⟨⟨by omega,Gi (by omega) (Int.le_refl _)⟩,by omega,by omega⟩,by rw[hx];omega,by rw[hx];omega⟩,by omega⟩,by rw[en];exact U7 hn⟩,?_⟩,s.take n++s.drop (n+1),?_,b1,by omega⟩
  ·dsimp only
   rw[ea,t1]
   exact⟨d1,by rw[b2];omega⟩
  ·show cQ b xs s (k:Int)=_
   unfold cQ
   dsimp only
   rw[ea,t1,ZT b3,z5 (show (((s.take n++s.drop (n+1)).length:Nat):Int)=((b.length:Int) - 1) - (k:Int) by rw[b2];omega)]
   rfl
 have hnil:s'=[]:=by
  have:s'.length=0:=by omega
  exact kA this
 rw[show ((0:Nat):Int)=0 from rfl] at e d
 have e':qU (fun (iJ:List Rw) (v5:Int)=>(cQ b xs iJ v5:Bw (List Rw) (Option (List Rw)))) (rng 0 (b.length:Int).toNat) b=.nx s':=e
 refine⟨⟨⟨Hg (by omega) (by omega),d⟩,?_⟩,?_⟩
 ·rw[e'];trivial
 ·unfold iT
  dsimp only
  rw[e',hnil]
  rfl
theorem abM (f:Str):∀ l:List jF,zq (fun (s:Unit) (q:jF)=>(eG f s q:Bw Unit (Option Str))) (fun (s:Unit) (q:jF)=>none) l ()
 |[]=>trivial
 |q::l=>by
  refine⟨trivial,?_⟩
  have h:eG f () q=.nx ()\/∃ r,eG f () q=.rt r:=by
   unfold eG
   split
   ·exact .inr ⟨_,rfl⟩
   ·exact .inl rfl
  rcases h with h|⟨r,h⟩
  ·dsimp only;rw[h];exact abM f l
  ·dsimp only;rw[h];trivial
theorem aoD (r:Bw Unit (Option Str)):DK r fun _:Unit=>True:=by cases r<;>trivial
theorem Xc:∀ {l:List jF} {q:jF},q∈l->(l.map (·.1)).Nodup->behind (qU (fun (s:Unit) (x:jF)=>(eG q.1 s x:Bw Unit (Option Str))) l ()) (fun r=>r) (fun _:Unit=>none)=some q.2
 |[],q,h,_=>by cases h
 |x::l,q,h,nd=>by
  rw[zg,List.nodup_cons] at nd
  unfold qU eG
  rcases List.mem_cons.mp h with rfl|h
  ·rw[zk (z5 rfl)]
   rfl
  ·rw[zI (by rw[ZY];intro e;exact nd.1 (by rw[e];exact qS (f:=fun q:jF=>q.1) h))]
   exact Xc h nd.2
theorem abN {l:LS_} (h:l.Pairwise fun a b=>U4 a b=true):l.Nodup:=h.imp fun q=>((lt_iff _ _).mp q).2
theorem abO {b:List Rw} (h:Bk b):(Txt.join "\n" (b.map rt)).length<=20000:=by
 have n1:("\n" : Str).length=1:=by decide +kernel
 have h1:=StrLaws.join_length_le ("\n" : Str) (b.map rt)
 rw[<-StrLaws.glued_eq_join] at h1
 have h1:(Txt.join "\n" (b.map rt)).length<=_:=h1
 have h2:=Mj h.g
 have h3:=h.l
 rw[n1,zh] at h1
 omega
theorem VL {b:List Rw} (h:Bk b) (hb:b≠[]):Txt.split (Txt.join "\n" (b.map rt)) ("\n" : Str)=b.map rt:=by
 cases b with
 |nil=>exact absurd rfl hb
 |cons r b=>
  rw[zg]
  refine tW (c:=10) (y':=[]) (by rw[abw]) (by decide +kernel) _ _ fun z hz=>?_
  rw[<-zg] at hz
  obtain⟨p,hp,rfl⟩:=List.mem_map.mp hz
  exact Qx (h.g p hp)
theorem join_one (x:Str):Txt.join "\n" [x]=x:=u9 (by rw[xO];simp)
theorem Qy {b:List Rw} (h:Bk b) {k:Nat} (hk:k < b.length):iV b (k:Int)/\iU b (k:Int)=true:=by
 have hl:=h.l
 have ea:at' b (k:Int)=b[k]:=Gh b k hk
 have g:=h.g _ (JY hk)
 have bne:b≠[]:=fun z=>by rw[z] at hk;exact absurd hk (Nat.not_lt_zero _)
 obtain⟨sd,st⟩:=Qw g
 obtain⟨rd,rr⟩:=Tz g
 obtain⟨bd',bt'⟩:=jq h
 obtain⟨od,ot⟩:=abJ h hk
 obtain⟨o1,o2,o3⟩:=abK h hk
 have h1:Bk [b[k]]:=h.sub (List.singleton_sublist.mpr (JY hk))
 obtain⟨s1d,s1t⟩:=jq h1
 obtain⟨r1d,r1t⟩:=Xb h1
 have j1:Txt.join "\n" ([b[k]].map rt)=rt b[k]:=join_one _
 rw[j1] at s1t r1d r1t
 obtain⟨sod,sot⟩:=jq o1
 have cA:cut b none (some (k:Int))=b.take k:=U8 (by omega)
 have cB:cut b (some ((k:Int)+1)) none=b.drop (k+1):=by
  have:=DN (xs:=b) (k:=k+1) (by omega)
  rwa [show ((k+1:Nat):Int)=(k:Int)+1 by omega] at this
 have cA':cut (b.map rt) none (some (k:Int))=(b.take k).map rt:=by rw[U8 (by rw[zh];omega),List.map_take]
 have cB':cut (b.map rt) (some ((k:Int)+1)) none=(b.drop (k+1)).map rt:=by
  have:=DN (xs:=b.map rt) (k:=k+1) (by rw[zh];omega)
  rw[show ((k+1:Nat):Int)=(k:Int)+1 by omega] at this
  rw[this,List.map_drop]
 have n1:("\n" : Str).length=1:=by decide +kernel
 have jl:=abO h
 have lt:(b.take k).length<=40:=by rw[JU];omega
 have ld:(b.drop (k+1)).length<=40:=by rw[qq];omega
 have hw:((b[k].2.map fun q1:jF=>(decide ((wL b[k] q1.1)=(some q1.2)))).all id)=true:=by
  rw[ja]
  intro t ht
  obtain⟨q,hq,rfl⟩:=List.mem_map.mp ht
  exact z5 (Xc hq (abN g.s))
 have sp:=VL h bne
 have at1:at' (b.map rt) (k:Int)=rt b[k]:=u6 (by rw[ZZ,kb hk];rfl)
 have tt:bh (b.take k++b.drop (k+1)) [b[k]]=(b.take k++b.drop (k+1))++[b[k]]:=rfl
 have wl:=g.l
 have dbt:cW (b.take k++b.drop (k+1)) [b[k]]:=by
  refine⟨⟨by rw[o2];omega,rG (by rw[o2];show _+1<=_;omega)⟩,?_⟩
  rw[List.find?_cons_of_neg (by rw[ZT o3];decide)]
  rfl
 have c1:kj b k b[k] (rt b[k]) b[k] (b.take k++b.drop (k+1)) (b.map rt)/\kh b k b[k] (rt b[k]) b[k] (b.take k++b.drop (k+1)) (b.map rt)=true:=by
  unfold kj kh
  rw[cA',cB',<-Zl,sot,z5 rfl,n1,zh,zh,zh]
  have s2:=Mj o1.g
  exact⟨⟨sod,rG (by omega),by rw[o2] at s2 ⊢;omega⟩,rfl⟩
 have c2:kO b k b[k] (rt b[k]) b[k] (b.take k++b.drop (k+1))/\kE b k b[k] (rt b[k]) b[k] (b.take k++b.drop (k+1))=true:=by
  unfold kO kE
  dsimp only
  rw[cA,cB,tt,z5 rfl,z5 rfl,bt',sp,n1,zI (by decide)]
  exact⟨⟨⟨rG (by omega),fun _=>⟨dbt,rG (by omega),rG (by rw[o2];show _+1<=_;omega)⟩⟩,fun _=>⟨⟨bd',rfl,by omega⟩,c1.1⟩⟩,c1.2⟩
 have c3:kY b k b[k] (rt b[k]) b[k]/\kW b k b[k] (rt b[k]) b[k]=true:=by
  unfold kY kW
  dsimp only
  rw[s1t,r1t,bt',sp,at1,hw,ot,(wM g).2,z5 rfl,z5 rfl,z5 rfl,n1]
  refine⟨⟨fun _=>⟨(wM g).1,fun _=>⟨s1d,fun _=>r1d⟩⟩,fun _=>⟨⟨⟨bd',rfl,by omega⟩,by rw[zh];exact U7 hk⟩,fun _=>⟨⟨by omega,fun q _=>⟨abM q.1 _,aoD _⟩⟩,fun _=>⟨od,c2.1⟩⟩⟩⟩,?_⟩
  exact c2.2
 have c4:lg b k b[k] (rt b[k])/\kZ b k b[k] (rt b[k])=true:=by
  unfold lg kZ
  rw[rr]
  exact⟨⟨⟨rd,rfl⟩,c3.1⟩,c3.2⟩
 unfold iV iU
 rw[ea]
 dsimp only
 unfold pD pC
 rw[st]
 exact⟨⟨U7 hk,sd,c4.1⟩,c4.2⟩
theorem VN {l:List Rw} (hg:∀ r∈l,CQ r) (hl:(Txt.join "\n" (l.map rt)).length<=100000):m7 (Txt.join "\n" (l.map rt))/\bL (Txt.join "\n" (l.map rt))=l.map rt:=by
 have n1:("\n" : Str).length=1:=by decide +kernel
 refine⟨⟨(fun z=>by cases z),fun _ _=>⟨by rw[n1];rfl,hl⟩⟩,?_⟩
 unfold bL
 rw[zI (by intro z;cases z)]
 cases l with
 |nil=>rfl
 |cons r b=>
  rw[zk (by
   rw[ZY,g8,zg,xO,W9,zw,zw,Zp]
   omega),zg]
  refine tW (c:=10) (y':=[]) (by rw[abw]) (by decide +kernel) _ _ fun z hz=>?_
  rw[<-zg] at hz
  obtain⟨p,hp,rfl⟩:=List.mem_map.mp hz
  exact Qx (hg p hp)
theorem ad2 {l:LS_} (h:l≠[]):twT (Txt.join "\n" l)=Txt.join "\n" (l++l):=by
 have e:=abH l l
 rw[Fi h,Fi (by intro z;exact h (List.append_eq_nil_iff.mp z).1)] at e
 refine u9 ?_
 unfold twT
 have nl:cs ("\n" : Str)=[10]:=by rw[abw]
 rw[eU,eU,nl,(List.cons.inj e).2]
 simp
theorem abP {b:List Rw} (h:Bk b) (hb:b≠[]) (hl:(Txt.join "\n" (b.map rt)).length < 2000):rW (Txt.join "\n" (b.map rt))/\ni (Txt.join "\n" (b.map rt))=some (b.length:Int):=by
 obtain⟨_,t1⟩:=TF h
 have ne:b.map rt≠[]:=fun z=>hb (List.map_eq_nil_iff.mp z)
 have tw:=ad2 ne
 have n1:("\n" : Str).length=1:=by decide +kernel
 have l2:(twT (Txt.join "\n" (b.map rt))).length<=100000:=by
  unfold twT
  rw[eN,eN,n1]
  omega
 have g2:∀ r∈b++b,CQ r:=fun r hr=>by
  rcases List.mem_append.mp hr with hr|hr<;>exact h.g r hr
 rw[tw,<-Zl] at l2
 obtain⟨d2,t2⟩:=VN g2 l2
 rw[Zl,<-tw] at d2
 rw[Zl,<-tw] at t2
 have hl':=h.l
 refine⟨⟨by omega,by rw[t1];exact t2,d2,by rw[t1];exact ne,by rw[t1,zh];omega,fun l hl=>?_,?_⟩,?_⟩
 ·rw[t1] at hl
  obtain⟨r,hr,rfl⟩:=List.mem_map.mp hl
  obtain⟨d,t⟩:=wN (h.g r hr)
  exact⟨d,by rw[t];rfl⟩
 ·rw[t1,Z3]
  have:b.map ((fun l=>((bM l).getD default).1) ∘ rt)=b.map (·.1):=qr fun r hr=>by
   show ((bM (rt r)).getD default).1=r.1
   rw[(wN (h.g r hr)).2];rfl
  rw[this]
  exact h.nd
 ·unfold ni
  rw[t1,zh]
theorem ai8 {x y:Int}:∃ i j:Int,sortI [x,y]=[i,j]/\i<=j/\((i=x/\j=y)\/(i=y/\j=x)):=by
 by_cases h:x<=y
 ·exact⟨x,y,DR (sortI_perm _) (Cj _) (by simp[h]),h,.inl ⟨rfl,rfl⟩⟩
 ·exact⟨y,x,DR ((sortI_perm _).trans (List.Perm.swap ..)) (Cj _) (by simp;omega),by omega,.inr ⟨rfl,rfl⟩⟩
theorem ai9 (ns:List Int) {b:List Rw} (h:Bk b) (xs:List Int) (i j:Int):Mh ns b xs i j (Txt.join "\n" (b.map rt))/\Ez ns b xs i j (Txt.join "\n" (b.map rt))=true:=by
 have hl:=h.l
 have tw:(!decide (b=([]:List Rw)))=true->decide (((Txt.join "\n" (b.map rt)).length:Int) < 2000)=true->rW (Txt.join "\n" (b.map rt))/\ni (Txt.join "\n" (b.map rt))=some (b.length:Int):=fun h1 h2=>by
  have h2:=JE h2
  exact abP h (fun z=>by rw[z5 z] at h1;cases h1) (by omega)
 have no:((!decide (b=([]:List Rw)))&&((decide (((Txt.join "\n" (b.map rt)).length:Int) < (2000:Int)))&&(!decide ((ni (Txt.join "\n" (b.map rt)))=(some (b.length:Int))))))=false:=by
  cases h1:(!decide (b=([]:List Rw))) with
  |false=>rfl
  |true=>
   cases h2:decide (((Txt.join "\n" (b.map rt)).length:Int) < 2000) with
   |false=>rfl
   |true=>rw[z5 (tw h1 h2).2];rfl
 have rows:∀ v∈rng 0 (b.length:Int).toNat,iV b v/\iU b v=true:=fun v hv=>by
  obtain⟨k,hk,rfl⟩:=Jp hv
  exact Qy h (by omega)
 refine⟨⟨fun h1 h2=>(tw h1 h2).1,fun _=>⟨⟨Hg (by omega) (by omega),by rw[xH];omega⟩,fun v hv=>(rows v hv).1⟩⟩,?_⟩
 unfold Ez
 rw[no,zI (by decide),ja]
 intro t ht
 obtain⟨v,hv,rfl⟩:=List.mem_map.mp ht
 exact (rows v hv).2
theorem aja (ns:List Int) {b:List Rw} (h:Bk b) {xs:List Int} (hx:xs.length=14) {i j:Nat} (hij:i<=j) (hj:j<=b.length):Fb ns b xs (i:Int) (j:Int)/\EY ns b xs (i:Int) (j:Int)=true:=by
 obtain⟨td,tt⟩:=agG h hij hj
 have c:cut xs (some (2:Int)) none=xs.drop 2:=DN (k:=2) (by omega)
 obtain⟨od,ot⟩:=abL h (xs:=cut xs (some (2:Int)) none) (by rw[c,qq];omega)
 obtain⟨sd,st⟩:=jq h
 obtain⟨rd,rr⟩:=Xb h
 obtain⟨sd0,st0⟩:=jq agE
 have ee:Txt.join "\n" (([]:List Rw).map rt)=("" : Str):=rfl
 rw[ee] at st0
 obtain⟨c1,c2⟩:=ai9 ns h xs i j
 unfold Fb EY
 dsimp only
 rw[tt,ot,st,rr,st0,z5 rfl,z5 rfl,z5 rfl]
 exact⟨⟨⟨td,fun _=>od⟩,fun _=>⟨⟨⟨sd,rd⟩,fun _=>sd0⟩,fun _=>⟨sd,c1⟩⟩⟩,c2⟩
theorem abQ (ns:List Int) (_:ns.length<=63):W6 ns/\W5 ns=true:=by
 obtain⟨d1,b1⟩:=adY ns
 obtain⟨dn,ln,_⟩:=Qu (aQ ns 13) 14 (by decide) (by decide)
 have ln:(aK (aQ ns 13) 14).length=14:=ln
 have hl:=b1.l
 generalize hxs:aK (aQ ns 13) 14=xs at ln dn
 have key:Fd ns (dJ ns 0 12) xs/\Al ns (dJ ns 0 12) xs=true:=by
  generalize dJ ns 0 12=b at b1 hl
  have m0:=jz (at' xs 0) (m:=(b.length:Int)+1) (by omega)
  have m1:=jz (at' xs 1) (m:=(b.length:Int)+1) (by omega)
  obtain⟨i,j,e,hij,o⟩:=ai8 (x:=at' xs 0 % ((b.length:Int)+1)) (y:=at' xs 1 % ((b.length:Int)+1))
  have a0:at' [i,j] 0=i:=u6 (k:=0) rfl
  have a1:at' [i,j] 1=j:=u6 (k:=1) rfl
  have c:=aja ns b1 ln (i:=i.toNat) (j:=j.toNat) (by omega) (by omega)
  rw[qk (by omega),qk (by omega)] at c
  unfold Fd Al
  dsimp only
  rw[e,a0,a1]
  exact⟨⟨⟨⟨⟨⟨in_of (by decide) (by omega),by omega⟩,in_of (by decide) (by omega),by omega⟩,by show 2 < 64;decide⟩,rfl⟩,c.1⟩,c.2⟩
 refine⟨⟨d1,⟨VD ns 13 (by decide) (by decide),dn⟩,?_⟩,?_⟩
 ·dsimp only;rw[hxs];exact key.1
 ·show Al ns (dJ ns 0 12) (aK (aQ ns 13) 14)=true
  rw[hxs];exact key.2
theorem H1:∀ ns:List Int,ns.length<=63->uQ [.z (.lst (ns.map .int))]=some (.z (.bl true)):=(aeE abQ).1
theorem H2:∀ ns:List Int,ns.length<=63->uQ [.l (ns.map .int)]=some (.z (.bl true)):=(aeE abQ).2
end G05
end
open PySem PySem.W PyProof.Rows
def PySem.W.Fast.tw8290819004940169899:=0
def PySem.W.Fast.tw5674657199589250162:=0
def PySem.W.Fast.tw7409024418573275961:=0
def PySem.W.Fast.tw770658989145467770:=0
def PySem.W.Fast.tw3406099615295890968:=0
def PySem.W.Fast.tw2934484204212586279:=0
def PySem.W.Fast.tw12573631028253065685:=0
def PySem.W.Fast.tw17487994095189577990:=0
def PySem.W.Fast.tw6556793205735932289:=0
def PySem.W.Fast.tw14764298325159962902:=0
def PySem.W.Fast.tw1790230995692055389:=0
def PySem.W.Fast.tw9852885956258483958:=0
def PySem.W.Fast.tw12291273349811127220:=0
def PySem.W.Fast.tw3429078538168842937:=0
def PySem.W.Fast.tw15370667437531362038:=0
def PySem.W.Fast.tw2052662376108726105:=0
def PySem.W.Fast.tw513174344773456595:=0
def PySem.W.Fast.tw359211313956653118:=0
def PySem.W.Fast.tw12567350191652688257:=0
def PySem.W.Fast.tw18073460620503333671:=0
def PySem.W.Fast.tw16118655742004748075:=0
def PySem.W.Fast.tw4676908919005513481:=0
def PySem.W.Fast.tw9677406220356724647:=0
def PySem.W.Fast.tw3783478385483353649:=0
set_option maxRecDepth 100000 in
set_option maxHeartbeats 0 in
theorem PySem.Challenge.cw_onefolk_k05_whole_books_and_texts_holds : PySem.Challenge.rw_onefolk_k05_whole_books_and_texts.Holds := by
 w_on;refine PySem.W.holds_law (by decide +kernel) fun said=>?_
 k_head;(case hw=>w_witness2)
 k_fill
 refine G05.walk (l:=PySem.Challenge.rw_onefolk_k05_whole_books_and_texts) rfl rfl G05.H1 G05.H2 (fun w h Y=>PySem.W.kIn_of Y) ?F
 case F=>
  intro w mg fa h KX G hmg
  refine' G05.all_mk KX G hmg ?a0 ?l0 ?c0 ?k0 ?a1 ?l1 ?c1 ?k1 ?a2 ?l2 ?c2 ?k2 ?a3 ?l3 ?c3 ?k3 ?a4 ?l4 ?c4 ?k4 ?a5 ?l5 ?c5 ?k5 ?a6 ?l6 ?c6 ?k6 ?a7 ?l7 ?c7 ?k7 ?a8 ?l8 ?c8 ?k8 ?a9 ?l9 ?c9 ?k9 ?a10 ?l10 ?c10 ?k10 ?a11 ?l11 ?c11 ?k11 ?a12 ?l12 ?c12 ?k12 ?a13 ?l13 ?c13 ?k13 ?a14 ?l14 ?c14 ?k14 ?a15 ?l15 ?c15 ?k15 ?a16 ?l16 ?c16 ?k16 ?a17 ?l17 ?c17 ?k17 ?a18 ?l18 ?c18 ?k18 ?a19 ?l19 ?c19 ?k19 ?a20 ?l20 ?c20 ?k20 ?a21 ?l21 ?c21 ?k21 ?a22 ?l22 ?c22 ?k22 ?a23 ?l23 ?c23 ?k23 ?a24 ?l24 ?c24 ?k24 ?a25 ?l25 ?c25 ?k25 ?a26 ?l26 ?c26 ?k26 ?a27 ?l27 ?c27 ?k27 ?a28 ?l28 ?c28 ?k28 ?a29 ?l29 ?c29 ?k29 ?aC ?aD ?aFE ?aI ?lI ?cI ?kI ?aJ ?lJ ?cJ ?kJ ?e1 ?e2 ?e3 ?e4 ?e5 ?e6 ?e7 ?e8 ?e9 ?d1 ?d2 ?d6 ?d7 ?d8 ?d9 ?W0 ?El ?mC ?W2 ?gB ?nR ?oO ?Ko ?zT ?Ob ?oR ?Lh ?Li ?yF ?yG
  all_goals try (show _=_;k_is)
  all_goals try kernel_rfl
