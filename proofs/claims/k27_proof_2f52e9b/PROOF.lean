import PyProof.Rows.All
import Wide.All
import OpenK.AllK
import Wide.FinOn
import PyProof.EqAt
import PyProof.EqKinds
import PyProof.TupleCall
import PyProof.StrLoop
import PyProof.StrWalks
import PyProof.CompFree
import PyProof.NeKinds
import PyProof.Rows.RuleN_isinstance
import PyProof.ConsumeWalk
import PyProof.IsiPairs
import PyProof.IsiSeqPairs
import PyProof.IsiHeapPairs
import PyProof.IsiNone
import PyProof.PureStr
import PyProof.StrCalls
import PyProof.Rows.SortStr
import PyProof.Rows.StrJoin2
import PyProof.CallStr
import PyProof.WalkInts
import PyProof.Rows.StrDigits
import PyProof.DictWalks
import PyProof.DictTruth
import PyProof.CollectWalk
import PyProof.WalkLemmas
import PyProof.Rows.SortShellK
import PyProof.Rows.SortWalk
import PyProof.SetKind
import PyProof.FactsAll.set
import PyProof.Rows.SetFrom
import PyProof.TupleKey
import PyProof.IsRules
import PyProof.WalksMore
import PyProof.SetRoads
import PyProof.DictCompW
import PyProof.ListRange
import PyProof.FString5
import PyProof.MeetsSeq2
import PyProof.FactsAll.tuple_0
import PyProof.FactsAll.tuple_2
import PyProof.FactsAll.tuple_3
import Lean
import PySem.Challenge.RW_onefolk_k27_whole_joinings_by_and_by
set_option maxRecDepth 100000
set_option maxHeartbeats 4000000
set_option linter.all false
set_option Elab.async false
section
namespace L2
open PySem PySem.Spec PyProof.Rows
abbrev Key:=Sum Int Str
def kI:Key->Value->Bool
 |.inl k,v=>Value.isInt k v
 |.inr x,v=>Value.isStrOf x v
def afl (w:World):Key->Int
 |.inl k=>hashInt k
 |.inr x=>hashStr w x
theorem cJ:∀ {k:Key} {v:Value},kI k v=true->(∃ i t,k=Sum.inl i/\v=Value.int i t)\/(∃ x t,k=Sum.inr x/\v=Value.str x t)
 |.inl i,v,h=>by
  obtain⟨t,e⟩:=Value.isInt_shape (k:=i) (v:=v) h
  exact .inl ⟨i,t,rfl,e⟩
 |.inr x,v,h=>by
  obtain⟨t,e⟩:=Value.isStrOf_shape (x:=x) (v:=v) h
  exact .inr ⟨x,t,rfl,e⟩
theorem Q5 (i:Int) (t:Tok):kI (.inl i) (.int i t)=true:=by simp[kI,Value.isInt]
theorem Q6 (x:Str) (t:Tok):kI (.inr x) (.str x t)=true:=by simp[kI,Value.isStrOf]
theorem aaA (a b:Int):decide ((Sum.inl a:Key)=Sum.inl b)=(a==b):=by
 by_cases e:a=b
 ·subst e;simp
 ·have h:¬ (Sum.inl a:Key)=Sum.inl b:=fun q=>e (Sum.inl.inj q)
  rw[decide_eq_false h]
  exact (beq_eq_false_iff_ne.mpr e).symm
theorem aaB (a b:Str):decide ((Sum.inr a:Key)=Sum.inr b)=decide (a=b):=by
 by_cases e:a=b
 ·subst e;simp
 ·have h:¬ (Sum.inr a:Key)=Sum.inr b:=fun q=>e (Sum.inr.inj q)
  rw[decide_eq_false h,decide_eq_false e]
theorem aaC (a:Int) (b:Str):decide ((Sum.inl a:Key)=Sum.inr b)=false:=decide_eq_false (fun q=>nomatch q)
theorem aaD (a:Str) (b:Int):decide ((Sum.inr a:Key)=Sum.inl b)=false:=decide_eq_false (fun q=>nomatch q)
def bU (prog:Program) (w:World):PySem.KeyKind prog w Key where
 is:=kI
 hash:=afl w
 inj:=fun v a b ha hb=>by
  rcases cJ ha with⟨i,t,rfl,rfl⟩|⟨x,t,rfl,rfl⟩
  ·rcases cJ hb with⟨j,u,rfl,e⟩|⟨y,u,rfl,e⟩
   ·injection e with e1 _;rw[e1]
   ·exact nomatch e
  ·rcases cJ hb with⟨j,u,rfl,e⟩|⟨y,u,rfl,e⟩
   ·exact nomatch e
   ·injection e with e1 _;rw[e1]
 byValue:=fun k v h=>by
  rcases cJ h with⟨i,t,rfl,rfl⟩|⟨x,t,rfl,rfl⟩<;>rfl
 pyHash:=fun hv h=>by
  rcases cJ hv with⟨i,t,rfl,rfl⟩|⟨x,t,rfl,rfl⟩
  ·exact wpAny_pyHash_int h
  ·exact wpAny_pyHash_str h
 eqBool:=fun hu hv h=>by
  rcases cJ hu with⟨i,t,rfl,rfl⟩|⟨x,t,rfl,rfl⟩
  ·rcases cJ hv with⟨j,u,rfl,rfl⟩|⟨y,u,rfl,rfl⟩
   ·rw[aaA] at h;exact wpAny_eqBool_int h
   ·rw[aaC] at h;exact SeqAt.EqAt.int_str i t y u _ _ _ _ h
  ·rcases cJ hv with⟨j,u,rfl,rfl⟩|⟨y,u,rfl,rfl⟩
   ·rw[aaD] at h;exact SeqAt.EqAt.str_int x t j u _ _ _ _ h
   ·rw[aaB] at h;exact wpAny_eqBool_str h
 «strs»:=fun k x t v h=>by
  rcases cJ h with⟨i,u,rfl,e⟩|⟨y,u,rfl,e⟩
  ·exact nomatch e
  ·injection e with e1 _
   subst e1
   cases v<;>rfl
theorem Kr (prog:Program) (w:World) (i:Int) (t:Tok):(bU prog w).is (.inl i) (.int i t)=true:=Q5 i t
theorem Ku (prog:Program) (w:World) (x:Str) (t:Tok):(bU prog w).is (.inr x) (.str x t)=true:=Q6 x t
end L2
namespace L2
open PySem PySem.Spec PyProof.Rows
inductive V where
 |non|bl (b:Bool)|int (i:Int)|str (x:Str)|byt (b:Array UInt8)|flt (b:UInt64)|ref (a:Addr)|ty (n:String)
 deriving DecidableEq
def RelV:V->Value->Prop
 |.non,u=>u=Value.none
 |.bl b,u=>u=Value.bool b
 |.int i,u=>∃ t,u=Value.int i t
 |.str x,u=>∃ t,u=Value.str x t
 |.byt b,u=>∃ t,u=Value.bytes b t
 |.flt b,u=>∃ t,u=Value.float b t
 |.ref a,u=>u=Value.ref a
 |.ty n,u=>u=Value.type n
abbrev Vals:List V->List Value->Prop:=Paired RelV
theorem Vals.length {xs:List V} {us:List Value} (r:Vals xs us):xs.length=us.length:=Paired.length r
theorem Vals.get:∀ {xs:List V} {us:List Value} {i:Nat} {x:V},Vals xs us->xs[i]?=some x->∃ u,us[i]?=some u/\RelV x u
 |_,_,_,_,.nil,e=>by simp at e
 |_,_,0,_,.cons r _,e=>by simp at e;subst e;exact⟨_,rfl,r⟩
 |_,_,i+1,x,.cons _ t,e=>by
  obtain⟨u,h1,h2⟩:=Vals.get (i:=i) (x:=x) t (by simpa using e)
  exact⟨u,by simpa using h1,h2⟩
theorem Vals.set {x:V} {u:Value} (r:RelV x u):∀ {xs:List V} {us:List Value} (i:Nat),Vals xs us->Vals (xs.set i x) (us.set i u)
 |_,_,_,.nil=>.nil
 |_,_,0,.cons _ t=>.cons r t
 |_,_,i+1,.cons q t=>.cons q (Vals.set r i t)
theorem Vals.append:∀ {xs ys:List V} {us ws:List Value},Vals xs us->Vals ys ws->Vals (xs++ys) (us++ws)
 |_,_,_,_,.nil,s=>s
 |_,_,_,_,.cons r t,s=>.cons r (Vals.append t s)
theorem Vals.take:∀ {xs:List V} {us:List Value} (n:Nat),Vals xs us->Vals (xs.take n) (us.take n)
 |_,_,0,_=>.nil
 |_,_,_+1,.nil=>.nil
 |_,_,n+1,.cons r t=>.cons r (Vals.take n t)
theorem Vals.drop:∀ {xs:List V} {us:List Value} (n:Nat),Vals xs us->Vals (xs.drop n) (us.drop n)
 |_,_,0,r=>r
 |_,_,_+1,.nil=>.nil
 |_,_,n+1,.cons _ t=>Vals.drop n t
def za:Option V->Option Value->Prop
 |some v,some u=>RelV v u
 |none,none=>True
 |_,_=>False
def KV {κ:Type}:List (κ×V)->List (κ×Value)->Prop:=Paired fun (p:κ×V) (q:κ×Value)=>p.1=q.1/\RelV p.2 q.2
def kV:Key->V
 |.inl i=>.int i
 |.inr x=>.str x
inductive HO where
 |lst (xs:List V)
 |tup (xs:List V)
 |dK (kvs:List (Key×V))|dT (kvs:List (List Key×V))
 |set (S:Int->Bool) (n:Nat)
 |ins (C dx:Addr) (fs:List (Str×V))
 |own (x:Addr)
 |xd (fs:List (Str×V))
 |met (f x:Addr)
 |rng (lo hi:Int)
 |q9 (o:Obj) (u:HO)
 |tbl (ps:Array Value)
 |ext (φ:Heap->Prop)
abbrev Hp:=Addr->Option HO
def upd (H:Hp) (a:Addr) (o:HO):Hp:=fun b=>if b=a then some o else H b
theorem cG {H:Hp} {a:Addr} {o:HO}:upd H a o a=some o:=by unfold upd;rw[if_pos rfl]
theorem aU {H:Hp} {a b:Addr} {o:HO} (h:b≠a):upd H a o b=H b:=by unfold upd;rw[if_neg h]
def rz (h:Heap) (a:Addr) (items:Array Value):Prop:=∃ o,h.get? a=some o/\o.cls=.type "tuple" ∧ (∃ n,o.data=.seq items n)/\o.dict=none
theorem rz.weak {h:Heap} {a:Addr} {items:Array Value} (x:rz h a items):IsTup h a items:=let ⟨o,e,c,d,_⟩:=x;⟨o,e,c,d⟩
theorem rz.new (h:Heap) (items:Array Value):rz (h.push { cls:=.type "tuple", data:=.seq items }) h.objs.size items:=⟨_,Heap.get?_push_size _ rfl,rfl,⟨_,rfl⟩,rfl⟩
theorem n6 {H:Hp} {a b:Addr} {o u:HO} (h:H a=some o) (h':H b=some u) (d:o≠u):a≠b:=by
 intro e;subst e;rw[h] at h';exact d (Option.some.inj h')
theorem d9 {H:Hp} {a b:Addr} {o:HO} (h:H a=some o) (h':H b=none):a≠b:=by
 intro e;subst e;rw[h] at h';cases h'
section
variable (P:Program) (w:World)
def ji (H:Hp) (h:Heap) (a:Addr):HO->Prop
 |.lst xs=>xs.length<=sizeLine/\∃ (its:List Value) (n:Nat),Vals xs its/\h.get? a=some { cls:=.type "list", data:=.seq its.toArray n }
 |.tup xs=>xs.length<=sizeLine/\∃ its:List Value,Vals xs its/\rz h a its.toArray
 |.dK kvs=>kvs.length<=sizeLine/\(a==sysModules)=false/\∃ vs,KV kvs vs/\h.DictOf (bU P w) a vs
 |.dT kvs=>kvs.length<=sizeLine/\(a==sysModules)=false/\∃ xs:List (List Key×Addr×Value),
   Paired (fun (p:List Key×V) (q:List Key×Addr×Value)=>p.1=q.1/\H q.2.1=some (.tup (p.1.map kV))/\RelV p.2 q.2.2) kvs xs ∧
   ∃ o es ep,h.get? a=some o/\o.ExactDict/\o.data=.dict es ep/\es.toList=xs.map (entryOfKey (tupleKind (bU P w)))/\(xs.map (·.1)).Nodup
 |.set S n=>h.SetOf (intKind P w) a S n
 |.ins C dx fs=>H dx=some (.own a)/\fs.length<=1000/\dx≠a/\h.get? a=some (PySem.W.instObj C dx) ∧
   ∃ mA,h.Ns1 dx mA/\(∀ f,za (fs.lookup f) (mA f))/\PySem.Within mA (fs.map (·.1))
 |.own _=>∃ o,h.get? a=some o
 |.xd fs=>∃ mA,h.Ns1 a mA/\∀ f,za (fs.lookup f) (mA f)
 |.rng lo hi=>∃ t u v,h.get? a=some { cls:=.type "range", data:=.fields #[.int lo t,.int hi u,.int 1 v] }
 |.q9 o u=>h.get? a=some o/\ji H h a u
 |.tbl ps=>h.get? a=some { cls:=.none,data:=.fields ps }
 |.met f x=>h.get? a=some (PySem.W.methodObj (.ref f) (.ref x))
 |.ext φ=>φ h/\(∃ o,h.get? a=some o)/\∀ h1 h2:Heap,φ h1->(∀ o,h1.get? a=some o->h2.get? a=some o)->φ h2
def xO (H:Hp) (h:Heap):Prop:=∀ a o,H a=some o->ji P w H h a o
end
section
variable {P:Program} {w:World} {H H':Hp} {h h':Heap} {a:Addr} {o:HO}
theorem ji.lt (x:ji P w H h a o):a < h.objs.size:=by
 cases o with
 |lst xs=>obtain⟨_,_,_,_,e⟩:=x;exact Heap.lt_size e
 |tup xs=>obtain⟨_,_,_,p⟩:=x;exact p.weak.lt
 |dK kvs=>obtain⟨_,_,_,_,o,_,_,e,_⟩:=x;exact Heap.lt_size e
 |dT kvs=>obtain⟨_,_,_,_,o,_,_,e,_⟩:=x;exact Heap.lt_size e
 |set S n=>obtain⟨o,_,_,_,e,_⟩:=x;exact Heap.lt_size e
 |ins C dx fs=>obtain⟨_,_,_,e,_⟩:=x;exact Heap.lt_size e
 |own y=>obtain⟨_,e⟩:=x;exact Heap.lt_size e
 |xd fs=>obtain⟨_,⟨_,_,_,e,_⟩,_⟩:=x;exact Heap.lt_size e
 |rng lo hi=>obtain⟨_,_,_,e⟩:=x;exact Heap.lt_size e
 |q9 ob u=>obtain⟨e,_⟩:=x;exact Heap.lt_size e
 |tbl ps=>exact Heap.lt_size (show h.get? a=some _ from x)
 |met f y=>exact Heap.lt_size (show h.get? a=some _ from x)
 |ext φ=>obtain⟨_,⟨_,e⟩,_⟩:=x;exact Heap.lt_size e
theorem Paired.W8 {α β:Type} {F G:α->β->Prop}:∀ {l₁:List α} {l₂:List β},Paired F l₁ l₂->(∀ a b,F a b->G a b)->Paired G l₁ l₂
 |_,_,.nil,_=>.nil
 |_,_,.cons r t,f=>.cons (f _ _ r) (Paired.W8 t f)
theorem Paired.imp' {α β:Type} {F G:α->β->Prop} (f:∀ a b,F a b->G a b) {l₁:List α} {l₂:List β} (r:Paired F l₁ l₂):Paired G l₁ l₂:=Paired.W8 r f
theorem ji.stay (x:ji P w H h a o) (k:∀ b u,(b=a\/H b=some (.own a))->h.get? b=some u->h'.get? b=some u)
  (ho:∀ b,H b=some (.own a)->H' b=some (.own a)) (ht:∀ b xs,H b=some (.tup xs)->H' b=some (.tup xs)):ji P w H' h' a o:=by
 induction o with
 |lst xs=>obtain⟨z,its,n,r,e⟩:=x;exact⟨z,its,n,r,k _ _ (.inl rfl) e⟩
 |tup xs=>obtain⟨z,its,r,ob,e,c⟩:=x;exact⟨z,its,r,ob,k _ _ (.inl rfl) e,c⟩
 |dK kvs=>obtain⟨z,y,vs,r,ob,es,ep,e,c⟩:=x;exact⟨z,y,vs,r,ob,es,ep,k _ _ (.inl rfl) e,c⟩
 |dT kvs=>
  obtain⟨z,y,xs,r,ob,es,ep,e,c⟩:=x
  exact⟨z,y,xs,Paired.W8 r fun p q z=>⟨z.1,ht _ _ z.2.1,z.2.2⟩,ob,es,ep,k _ _ (.inl rfl) e,c⟩
 |set S n=>obtain⟨ob,es,ep,t,e,c⟩:=x;exact⟨ob,es,ep,t,k _ _ (.inl rfl) e,c⟩
 |ins C dx fs=>
  obtain⟨d,z,ne,e,mA,⟨od,es,ep,e2,c⟩,r⟩:=x
  exact⟨ho _ d,z,ne,k _ _ (.inl rfl) e,mA,⟨od,es,ep,k _ _ (.inr d) e2,c⟩,r⟩
 |own y=>obtain⟨ob,e⟩:=x;exact⟨ob,k _ _ (.inl rfl) e⟩
 |xd fs=>obtain⟨mA,⟨od,es,ep,e,c⟩,r⟩:=x;exact⟨mA,⟨od,es,ep,k _ _ (.inl rfl) e,c⟩,r⟩
 |rng lo hi=>obtain⟨t,u,v,e⟩:=x;exact⟨t,u,v,k _ _ (.inl rfl) e⟩
 |q9 ob u ih=>obtain⟨e,q⟩:=x;exact⟨k _ _ (.inl rfl) e,ih q⟩
 |tbl ps=>
  have e:h.get? a=some { cls:=.none,data:=.fields ps }:=x
  show h'.get? a=some { cls:=.none,data:=.fields ps }
  exact k a _ (.inl rfl) e
 |met f y=>
  have e:h.get? a=some (PySem.W.methodObj (.ref f) (.ref y)):=x
  show h'.get? a=some (PySem.W.methodObj (.ref f) (.ref y))
  exact k a _ (.inl rfl) e
 |ext φ=>obtain⟨p,⟨o,e⟩,st⟩:=x;exact⟨st _ _ p fun o q=>k _ _ (.inl rfl) q,⟨o,k _ _ (.inl rfl) e⟩,st⟩
theorem xO.lt (x:xO P w H h) (e:H a=some o):a < h.objs.size:=(x a o e).lt
theorem xO.fresh (x:xO P w H h) (e:h.objs.size<=a):H a=none:=by
 cases q:H a with
 |none=>rfl
 |some u=>exact absurd (Nat.lt_of_lt_of_le (x.lt q) e) (Nat.lt_irrefl _)
theorem xO.kept (x:xO P w H h) (k:∀ b u,h.get? b=some u->h'.get? b=some u):xO P w H h':=fun a o e=>
 (x a o e).stay (fun b u _ q=>k b u q) (fun _ q=>q) fun _ _ q=>q
theorem xO.laid (x:xO P w H h) (k:∀ b u,h.get? b=some u->h'.get? b=some u) (hp:h.objs.size<=a) (new:ji P w (upd H a o) h' a o):xO P w (upd H a o) h':=fun b u e=>by
 have hn:=x.fresh hp
 by_cases hb:b=a
 ·subst hb;rw[cG] at e;cases e;exact new
 ·rw[aU hb] at e
  exact (x b u e).stay (fun c v _ q=>k c v q) (fun c q=>by rw[aU (d9 q hn)];exact q) fun c xs q=>by rw[aU (d9 q hn)];exact q
end
def Rd (H:Hp) (a:Addr) (u:HO):Prop:=H a=some u\/∃ o,H a=some (.q9 o u)
theorem Rd.of {H:Hp} {a:Addr} {u:HO} (h:H a=some u):Rd H a u:=.inl h
theorem Rd.ok {P:Program} {w:World} {H:Hp} {h:Heap} {a:Addr} {u:HO} (r:Rd H a u) (x:xO P w H h):ji P w H h a u:=by
 rcases r with r|⟨o,r⟩
 ·exact x a u r
 ·obtain⟨_,q⟩:=x a _ r
  exact q
def Mut:Option HO->Prop
 |some (.lst _)=>True
 |some (.dK _)=>True
 |some (.dT _)=>True
 |some (.set _ _)=>True
 |some (.ins _ _ _)=>True
 |some (.ext _)=>True
 |_=>False
section
variable {P:Program} {w:World} {H:Hp} {h h':Heap} {x e:Addr} {o':HO}
theorem xO.write (ok:xO P w H h) (mu:Mut (H x)) (he:e=x\/H e=some (.own x)) (k:∀ b u,b≠e->h.get? b=some u->h'.get? b=some u) (heo:∃ u,h'.get? e=some u)
  (new:ji P w (upd H x o') h' x o'):xO P w (upd H x o') h':=fun b u q=>by
 have adl:∀ c y,H c=some (.own y)->c≠x:=fun c y r z=>by subst z;rw[r] at mu;exact mu
 have afm:∀ c xs,H c=some (.tup xs)->c≠x:=fun c xs r z=>by subst z;rw[r] at mu;exact mu
 by_cases hb:b=x
 ·subst hb;rw[cG] at q;cases q;exact new
 ·rw[aU hb] at q
  by_cases hbe:b=e
  ·have q':H b=some (.own x):=by
    rcases he with z|z
    ·exact absurd (hbe.trans z) hb
    ·rw[hbe];exact z
   rw[q] at q';cases q'
   obtain⟨v,hv⟩:=heo
   exact⟨v,by rw[hbe];exact hv⟩
  ·refine (ok b u q).stay (fun c v hc r=>k c v ?_ r) (fun c r=>by rw[aU (adl c b r)];exact r) fun c xs r=>by rw[aU (afm c xs r)];exact r
   rcases hc with rfl|hc
   ·exact hbe
   ·rintro rfl
    rcases he with z|z
    ·exact adl c b hc z
    ·rw[hc] at z;cases z;exact hb rfl
end
structure Un (fs ex:List Addr) (H H':Hp) (h h':Heap):Prop where
 keep:∀ b o,h.get? b=some o->H b=none->b∉fs->b∉ex->h'.get? b=some o
 slot:∀ b o,h.get? b=some o->H b=none->b∈fs->b∉ex->∃ sl,h'.get? b=some { o with slots:=sl }
 free:∀ b o,h.get? b=some o->H b=none->b∉ex->H' b=none
 there:∀ b o,h.get? b=some o->b∉ex->∃ o',h'.get? b=some o'
 tups:∀ b xs,H b=some (.tup xs)->H' b=some (.tup xs)
 wg:∀ b o u,H b=some (.q9 o u)->H' b=some (.q9 o u)
 xP:∀ b ps,H b=some (.tbl ps)->∃ more,H' b=some (.tbl (ps++more))
section
variable {fs fs' ex ex':List Addr} {H H1 H2:Hp} {h h1 h2 h':Heap} {a x e:Addr} {o:HO}
theorem Un.any (u:Un fs ex H H1 h h1) {b:Addr} {ob:Obj} (q:h.get? b=some ob) (n:H b=none) (hx:b∉ex):∃ sl,h1.get? b=some { ob with slots:=sl }:=by
 by_cases hb:b∈fs
 ·exact u.slot b ob q n hb hx
 ·exact⟨ob.slots,u.keep b ob q n hb hx⟩
theorem Un.trans (a:Un fs ex H H1 h h1) (b:Un fs ex H1 H2 h1 h2):Un fs ex H H2 h h2 where
 keep:=fun c ob q n hc hx=>b.keep c ob (a.keep c ob q n hc hx) (a.free c ob q n hx) hc hx
 slot:=fun c ob q n hc hx=>by
  obtain⟨sl,e1⟩:=a.slot c ob q n hc hx
  obtain⟨sl',e2⟩:=b.slot c _ e1 (a.free c ob q n hx) hc hx
  exact⟨sl',e2⟩
 free:=fun c ob q n hx=>by
  obtain⟨o',e1⟩:=a.there c ob q hx
  exact b.free c o' e1 (a.free c ob q n hx) hx
 there:=fun c ob q hx=>by
  obtain⟨o',e1⟩:=a.there c ob q hx
  exact b.there c o' e1 hx
 tups:=fun c xs q=>b.tups c xs (a.tups c xs q)
 wg:=fun c ob xs q=>b.wg c ob xs (a.wg c ob xs q)
 xP:=fun c ps q=>by
  obtain⟨m1,e1⟩:=a.xP c ps q
  obtain⟨m2,e2⟩:=b.xP c _ e1
  exact⟨m1++m2,by rw[e2,Array.append_assoc]⟩
theorem Un.kept (k:∀ b u,h.get? b=some u->h'.get? b=some u):Un fs ex H H h h':=
 ⟨fun b ob q _ _ _=>k b ob q,fun b ob q _ _ _=>⟨ob.slots,k b ob q⟩,fun _ _ _ n _=>n,fun b ob q _=>⟨ob,k b ob q⟩,fun _ _ q=>q,fun _ _ _ q=>q,fun _ ps q=>⟨#[],by rw[q];simp⟩⟩
theorem Un.refl:Un fs ex H H h h:=Un.kept fun _ _ q=>q
theorem Un.laid (k:∀ b u,h.get? b=some u->h'.get? b=some u) (hp:h.objs.size<=a) (hn:H a=none):Un fs ex H (upd H a o) h h' where
 keep:=fun b u q _ _ _=>k b u q
 slot:=fun b u q _ _ _=>⟨u.slots,k b u q⟩
 free:=fun b u q n _=>by rw[aU (Nat.ne_of_lt (Nat.lt_of_lt_of_le (Heap.lt_size q) hp))];exact n
 there:=fun b u q _=>⟨u,k b u q⟩
 tups:=fun b xs q=>by rw[aU (d9 q hn)];exact q
 wg:=fun b u xs q=>by rw[aU (d9 q hn)];exact q
 xP:=fun b ps q=>⟨#[],by rw[aU (d9 q hn),q];simp⟩
theorem Un.write (mu:Mut (H x)) (he:e=x\/H e=some (.own x)) (k:∀ b u,b≠e->h.get? b=some u->h'.get? b=some u) (heo:∃ u,h'.get? e=some u):Un fs ex H (upd H x o) h h':=by
 have hx:∀ b,H b=none->b≠x:=fun b n z=>by subst z;rw[n] at mu;exact mu
 have hb:∀ b,H b=none->b≠e:=fun b n z=>by
  subst z
  rcases he with r|r
  ·exact hx b n r
  ·rw[n] at r;cases r
 have hm:∀ b u,H b=some u->¬ Mut (some u)->b≠x:=fun b u q nm z=>by subst z;rw[q] at mu;exact nm mu
 refine⟨fun b u q n _ _=>k b u (hb b n) q,fun b u q n _ _=>⟨u.slots,k b u (hb b n) q⟩,fun b u q n _=>by rw[aU (hx b n)];exact n,fun b u q _=>?_,
  fun b xs q=>by rw[aU (hm b _ q fun z=>z)];exact q,fun b u xs q=>by rw[aU (hm b _ q fun z=>z)];exact q,fun b ps q=>⟨#[],by rw[aU (hm b _ q fun z=>z),q];simp⟩⟩
 by_cases hbe:b=e
 ·subst hbe;exact heo
 ·exact⟨u,k b u hbe q⟩
theorem Un.mono (u:Un fs ex H H1 h h1) (hs:∀ b∈fs,b∈fs') (hx:∀ b∈ex,b∈ex'):Un fs' ex' H H1 h h1:=
 ⟨fun b ob q n hb he=>u.keep b ob q n (fun z=>hb (hs b z)) fun z=>he (hx b z),fun _ _ q n _ he=>u.any q n fun z=>he (hx _ z),fun b ob q n he=>u.free b ob q n fun z=>he (hx b z),fun b ob q he=>u.there b ob q fun z=>he (hx b z),u.tups,u.wg,u.xP⟩
end
def trk (h:Heap) (H:Hp):List Addr:=(List.range h.objs.size).filter fun a=>(H a).isSome
def Ig (h:Heap) (H:Hp):Heap:=PySem.W.hideAll h (trk h H)
theorem Q7 (h:Heap) (H:Hp):(Ig h H).objs.size=h.objs.size:=PySem.W.hideAll_size _ _
theorem Tr {h:Heap} {H:Hp} {b:Addr} {o:Obj} (e:h.get? b=some o) (n:H b=none):(Ig h H).get? b=some o:=
 PySem.W.hideAll_get _ e fun hm=>by
  have q:(H b).isSome=true:=(List.mem_filter.mp hm).2
  rw[n] at q;simp at q
theorem W9 {h:Heap} {H:Hp} {b:Addr} {o:Obj} (e:(Ig h H).get? b=some o):h.get? b=some o/\H b=none:=by
 have e':h.get? b=some o:=PySem.W.of_hideAll (trk h H) e
 refine⟨e',?_⟩
 cases q:H b with
 |none=>rfl
 |some x=>
  have hm:b∈trk h H:=List.mem_filter.mpr ⟨List.mem_range.mpr (Heap.lt_size e'),by simp[q]⟩
  have z:(Ig h H).get? b=none:=PySem.W.hideAll_none (trk h H) hm
  rw[z] at e;cases e
def Xa (g h:Heap) (L:Addr):List (Addr×Obj):=(List.range h.objs.size).filterMap fun a=>if a=L\/(g.get? a).isSome=true then none else (h.get? a).map fun o=>(a,o)
def rest (g h:Heap) (L d:Addr):List (Addr×Obj):=(Xa g h L).filter fun p=>decide (p.1≠d)
end L2
namespace L2
open PySem PySem.Spec PyProof.Rows
structure Mod (K:PySem.W.Frag) (mg:Str->Option Value) (base:Heap):Prop where
 kin:K.In base
 glob:base.Ns mainGlobals mg
 blt:∃ mb,base.Ns builtinsNs mb/\∀ x:Str,x ≠ "__name__" → mb x=bootBuiltins x
 nolimit:base.NoLimit
structure Cx where
 prog:Program
 w:World
 K:PySem.W.Frag
 mg:Str->Option Value
 base:Heap
 A:Around
 N:List Str
 s₀:Shared
 H₀:Hp
 env:Env
 outer:List Env
 stack:List Env
 ex:List Addr
 fn:Str->Bool
 calm:Bool
 pn:List (Addr×Obj)
 xe:Value->Shared->Prop
def frs (l:List Env):List Addr:=l.filterMap (·.frame)
abbrev Cx.fs (X:Cx):List Addr:=frs X.outer
def Nk (sc:Scope) (x:Str):Prop:=sc.names.lookup x=some .local\/sc.names.lookup x=some .cell\/sc.names.lookup x=some .free
def Loc (sc:Scope) (x:Str):Prop:=sc.names.lookup x=some .local\/sc.names.lookup x=some .cell
def Look (env:Env) (h:Heap) (m:Str->Option Value) (x:Str) (u:Value):Prop:=
 (env.kindOf x=some .local/\m x=some u)\/((env.kindOf x=some .cell\/env.kindOf x=some .free)/\∃ c,env.cells.lookup x=some c/\h.IsCell c (some u))
structure Cx.Ok (X:Cx):Prop where
 mod:Mod X.K X.mg X.base
 kind:X.env.scope.kind=.function
 glob:X.env.globals=mainGlobals
 blt:X.env.builtins=builtinsNs
 above:X.s₀.heap.objs.size<=X.env.locals
 inj:∀ x y c,X.env.cells.lookup x=some c->X.env.cells.lookup y=some c->x=y
 has:∀ x,(X.env.kindOf x=some .cell\/X.env.kindOf x=some .free)->∃ c,X.env.cells.lookup x=some c
 cab:∀ x c,X.fn x=true->X.env.cells.lookup x=some c->X.s₀.heap.objs.size<=c
 hd:X.calm=true->X.A.handled=none
 frames:X.A.frames=some X.stack
 stk:X.stack=X.outer\/(X.stack=X.env::X.outer/\X.env.frame=some X.env.locals)
 exf:∀ b∈X.ex,b≠X.env.locals/\∀ x c,X.env.cells.lookup x=some c->c≠b
 bs:∀ b o,X.base.get? b=some o->X.s₀.heap.get? b=some o/\X.H₀ b=none
 Xb:X.base.objs.size<=X.s₀.heap.objs.size
 Tt:∀ b o,X.base.get? b=some o->b∉X.ex
 Xc:∀ b∈X.ex,b∉X.fs
 Ao:X.s₀.heap.FunFrames X.base X.outer
 frf:∀ b∈X.fs,X.H₀ b=none
structure Inv (X:Cx) (pins:List (Addr×Obj)) (σ:List (Option V)) (H:Hp) (s:Shared):Prop where
 ok:X.Ok
 os:s.os=X.s₀.os
 bare:AllBare s.gens
 base:Un X.fs X.ex X.H₀ H X.s₀.heap s.heap
 loc:∃ m,s.heap.Ns X.env.locals m/\∀ (i:Nat) (x:Str) (v:V),X.N[i]?=some x->σ[i]?=some (some v)->Nk X.env.scope x->∃ u,RelV v u/\Look X.env s.heap m x u
 cell:∀ x c,X.env.cells.lookup x=some c->∃ v,s.heap.IsCell c v
 free:H X.env.locals=none
 oV:∀ x c,X.env.cells.lookup x=some c->H c=none
 pin:∀ p∈X.pn++pins,s.heap.get? p.1=some p.2/\H p.1=none/\p.1≠X.env.locals/\p.1∉X.fs/\∀ v,p.2.data≠.cell v
 hok:xO X.prog X.w H s.heap
 len:σ.length=X.N.length
section
variable {X:Cx} {pins:List (Addr×Obj)} {σ:List (Option V)} {H H':Hp} {s:Shared} {h':Heap}
theorem Cx.Ok.afo (ok:X.Ok) {b:Addr} {o:Obj} (e:X.base.get? b=some o):b∉X.fs:=fun hb=>by
 have:=(ok.Ao.mem hb).1
 rw[e] at this;cases this
theorem Inv.bs (I:Inv X pins σ H s):∀ b o,X.base.get? b=some o->s.heap.get? b=some o/\H b=none:=fun b o e=>
 ⟨I.base.keep b o (I.ok.bs b o e).1 (I.ok.bs b o e).2 (I.ok.afo e) (I.ok.Tt b o e),I.base.free b o (I.ok.bs b o e).1 (I.ok.bs b o e).2 (I.ok.Tt b o e)⟩
theorem Inv.bk (I:Inv X pins σ H s):∀ b o,X.base.get? b=some o->s.heap.get? b=some o:=fun b o e=>(I.bs b o e).1
theorem Inv.mod (I:Inv X pins σ H s):Mod X.K X.mg X.base:=I.ok.mod
theorem Inv.kIn (I:Inv X pins σ H s):X.K.In s.heap:=I.ok.mod.kin.keeps I.bk
theorem Inv.nolimit (I:Inv X pins σ H s):s.heap.NoLimit:=I.ok.mod.nolimit.keeps I.bk
theorem Inv.lt (I:Inv X pins σ H s):X.env.locals < s.heap.objs.size:=let ⟨_,hn,_⟩:=I.loc;hn.lt
theorem Inv.sz (I:Inv X pins σ H s):X.s₀.heap.objs.size<=s.heap.objs.size:=Nat.le_trans I.ok.above (Nat.le_of_lt I.lt)
theorem Inv.afp (I:Inv X pins σ H s) {a:Addr} (h:s.heap.objs.size<=a):a∉X.fs:=fun hb=>by
 obtain⟨_,o,ho,_⟩:=I.ok.Ao.mem hb
 exact absurd (Nat.lt_of_lt_of_le (Heap.lt_size ho) (Nat.le_trans I.sz h)) (Nat.lt_irrefl _)
theorem Inv.cne (I:Inv X pins σ H s):∀ x c,X.env.cells.lookup x=some c->c≠X.env.locals:=fun x c e z=>by
 obtain⟨v,o,ho,hd⟩:=I.cell x c e
 obtain⟨m,⟨o',es,ep,ho',hd',_⟩,_⟩:=I.loc
 rw[z,ho'] at ho;cases ho;rw[hd'] at hd;cases hd
theorem Inv.Ao (I:Inv X pins σ H s):s.heap.FunFrames X.base X.outer:=by
 have all:∀ (l:List Env),(∀ b∈frs l,b∈X.fs)->X.s₀.heap.FunFrames X.base l->s.heap.FunFrames X.base l:=by
  intro l
  induction l with
  |nil=>intro _ _;trivial
  |cons env r ih=>
   intro hs hl
   obtain⟨hk,⟨L,o,hf,hn,ho,hd⟩,hr⟩:=hl
   have hL:L∈X.fs:=hs L (by unfold frs;rw[List.filterMap_cons,hf];exact List.mem_cons_self)
   obtain⟨sl,e⟩:=I.base.slot L o ho (I.ok.frf L hL) hL fun z=>I.ok.Xc L z hL
   exact⟨hk,⟨L,_,hf,hn,e,hd⟩,ih (fun b hb=>hs b (by unfold frs;rw[List.filterMap_cons,hf];exact List.mem_cons_of_mem _ hb)) hr⟩
 exact all X.outer (fun _ hb=>hb) I.ok.Ao
theorem Inv.stack (I:Inv X pins σ H s):s.heap.FunFrames X.base X.stack:=by
 rcases I.ok.stk with e|⟨e,hf⟩
 ·rw[e];exact I.Ao
 ·rw[e]
  obtain⟨m,hn,_⟩:=I.loc
  refine .cons (by rw[I.ok.kind];decide) hf hn ?_ I.Ao
  exact Heap.get?_none_of_le (Nat.le_trans I.ok.Xb I.ok.above)
theorem Inv.Ci (I:Inv X pins σ H s):∀ b∈frs X.stack,b∈X.env.locals::X.fs:=fun b hb=>by
 rcases I.ok.stk with e|⟨e,hf⟩
 ·rw[e] at hb;exact List.mem_cons_of_mem _ hb
 ·rw[e] at hb
  unfold frs at hb
  rw[List.filterMap_cons,hf] at hb
  exact hb
theorem Inv.Pu (I:Inv X pins σ H s):∀ b∈frs X.stack,H b=none:=fun b hb=>by
 rcases List.mem_cons.mp (I.Ci b hb) with e|hb
 ·rw[e];exact I.free
 ·obtain⟨_,o,ho,_⟩:=I.ok.Ao.mem hb
  exact I.base.free b o ho (I.ok.frf b hb) fun z=>I.ok.Xc b z hb
theorem Inv.step {g':Array GenState} {t':Nat} {d':Drawn} {ch:List Addr} (I:Inv X pins σ H s)
  (hch:∀ b∈ch,(b∈X.ex\/X.s₀.heap.objs.size<=b)/\b≠X.env.locals/\(∀ x c,X.env.cells.lookup x=some c->c≠b)/\∀ p∈X.pn++pins,p.1≠b)
  (keep:∀ b o,b≠X.env.locals->b∉X.fs->b∉ch->s.heap.get? b=some o->H b=none->h'.get? b=some o)
  (slot:∀ b o,b≠X.env.locals->b∈X.fs->b∉ch->s.heap.get? b=some o->H b=none->∃ sl,h'.get? b=some { o with slots:=sl }) (free:∀ b o,b∉ch->s.heap.get? b=some o->H b=none->H' b=none)
  (there:∀ b o,b∉ch->s.heap.get? b=some o->∃ o',h'.get? b=some o')
  (tups:∀ b xs,H b=some (.tup xs)->H' b=some (.tup xs)) (wg:∀ b o u,H b=some (.q9 o u)->H' b=some (.q9 o u)) (xP:∀ b ps,H b=some (.tbl ps)->∃ more,H' b=some (.tbl (ps++more)))
  (ns:∀ m,s.heap.Ns X.env.locals m->h'.Ns X.env.locals m) (hok:xO X.prog X.w H' h') (hg:AllBare g') :
  Inv X pins σ H' { s with heap:=h',gens:=g',drawn:=d',toks:=t' }:=by
 have neL:∀ b o,X.s₀.heap.get? b=some o->b≠X.env.locals:=fun b o e=>Nat.ne_of_lt (Nat.lt_of_lt_of_le (Heap.lt_size e) I.ok.above)
 have neC:∀ b o,X.s₀.heap.get? b=some o->b∉X.ex->b∉ch:=fun b o e hx hb=>by
  rcases (hch b hb).1 with z|z
  ·exact hx z
  ·exact absurd (Nat.lt_of_lt_of_le (Heap.lt_size e) z) (Nat.lt_irrefl _)
 have cellK:∀ x c,X.env.cells.lookup x=some c->∀ v,s.heap.IsCell c v->h'.IsCell c v:=fun x c e v ⟨o,ho,hd⟩=>by
  have nch:c∉ch:=fun z=>(hch c z).2.2.1 x c e rfl
  by_cases hc:c∈X.fs
  ·obtain⟨sl,q⟩:=slot c o (I.cne x c e) hc nch ho (I.oV x c e)
   exact⟨_,q,hd⟩
  ·exact⟨o,keep c o (I.cne x c e) hc nch ho (I.oV x c e),hd⟩
 refine⟨I.ok,I.os,hg,⟨fun b o e n hb hx=>?_,fun b o e n hb hx=>?_,fun b o e n hx=>?_,fun b o e hx=>?_,fun b xs e=>tups b xs (I.base.tups b xs e),fun b o xs e=>wg b o xs (I.base.wg b o xs e),fun b ps e=>?_⟩,?_,fun x c e=>?_,?_,fun x c e=>?_,fun p hp=>?_,hok,I.len⟩
 ·exact keep b o (neL b o e) hb (neC b o e hx) (I.base.keep b o e n hb hx) (I.base.free b o e n hx)
 ·obtain⟨sl,e1⟩:=I.base.slot b o e n hb hx
  obtain⟨sl',e2⟩:=slot b _ (neL b o e) hb (neC b o e hx) e1 (I.base.free b o e n hx)
  exact⟨sl',e2⟩
 ·obtain⟨o',e1⟩:=I.base.there b o e hx
  exact free b o' (neC b o e hx) e1 (I.base.free b o e n hx)
 ·obtain⟨o',e1⟩:=I.base.there b o e hx
  exact there b o' (neC b o e hx) e1
 ·obtain⟨m1,e1⟩:=I.base.xP b ps e
  obtain⟨m2,e2⟩:=xP b _ e1
  exact⟨m1++m2,by rw[e2,Array.append_assoc]⟩
 ·obtain⟨m,hn,hl⟩:=I.loc
  refine⟨m,ns m hn,fun i x v e1 e2 e3=>?_⟩
  obtain⟨u,r,l⟩:=hl i x v e1 e2 e3
  refine⟨u,r,?_⟩
  rcases l with l|⟨k,c,e,z⟩
  ·exact .inl l
  ·exact .inr ⟨k,c,e,cellK x c e _ z⟩
 ·obtain⟨v,z⟩:=I.cell x c e
  exact⟨v,cellK x c e v z⟩
 ·obtain⟨m,⟨o,_,_,ho,_⟩,_⟩:=I.loc
  exact free _ o (fun z=>(hch _ z).2.1 rfl) ho I.free
 ·obtain⟨v,o,ho,hd⟩:=I.cell x c e
  exact free c o (fun z=>(hch c z).2.2.1 x c e rfl) ho (I.oV x c e)
 ·obtain⟨e,n,ne,nf,d⟩:=I.pin p hp
  have nch:p.1∉ch:=fun z=>(hch p.1 z).2.2.2 p hp rfl
  exact⟨keep p.1 p.2 ne nf nch e n,free p.1 p.2 nch e n,ne,nf,d⟩
theorem Inv.un {t':Nat} (I:Inv X pins σ H s) (u:Un X.fs [] H H' s.heap h') (hok:xO X.prog X.w H' h'):Inv X pins σ H' { s with heap:=h',toks:=t' }:=by
 obtain⟨m,⟨o,es,ep,ho,r⟩,_⟩:=id I.loc
 obtain⟨sl,hL⟩:=u.any ho I.free (by simp)
 exact I.step (g':=s.gens) (d':=s.drawn) (ch:=[]) (fun _ z=>nomatch z) (fun b o _ hb _ e n=>u.keep b o e n hb (by simp)) (fun b o _ hb _ e n=>u.slot b o e n hb (by simp)) (fun b o _ e n=>u.free b o e n (by simp)) (fun b o _ e=>u.there b o e (by simp)) u.tups u.wg u.xP (fun m' hm=>by
  obtain⟨o',es',ep',ho',r'⟩:=hm
  rw[ho] at ho';cases ho'
  exact⟨_,es',ep',hL,r'⟩) hok I.bare
theorem Inv.call {g':Array GenState} {t':Nat} {d':Drawn} {ch:List Addr} (I:Inv X pins σ H s) (u:Un (frs X.stack) ch H H' s.heap h') (hok:xO X.prog X.w H' h') (hg:AllBare g')
  (hch:∀ b∈ch,(b∈X.ex\/X.s₀.heap.objs.size<=b)/\b≠X.env.locals/\(∀ x c,X.env.cells.lookup x=some c->c≠b)/\∀ p∈X.pn++pins,p.1≠b) :
  Inv X pins σ H' { s with heap:=h',gens:=g',drawn:=d',toks:=t' }:=by
 obtain⟨m,⟨o,es,ep,ho,r⟩,_⟩:=id I.loc
 obtain⟨sl,hL⟩:=u.any ho I.free fun z=>(hch _ z).2.1 rfl
 exact I.step (ch:=ch) hch (fun b o hL hb hc e n=>u.keep b o e n (fun z=>(List.mem_cons.mp (I.Ci b z)).elim hL hb) hc) (fun b o _ _ hc e n=>u.any e n hc) (fun b o hc e n=>u.free b o e n hc) (fun b o hc e=>u.there b o e hc) u.tups u.wg u.xP (fun m' hm=>by
  obtain⟨o',es',ep',ho',r'⟩:=hm
  rw[ho] at ho';cases ho'
  exact⟨_,es',ep',hL,r'⟩) hok hg
theorem Inv.turned {t':Nat} {it:Addr} (I:Inv X pins σ H s) (k:∀ b o,b≠it->s.heap.get? b=some o->h'.get? b=some o) (hn:H it=none) (hL:it≠X.env.locals)
  (h1:it∈X.ex\/X.s₀.heap.objs.size<=it) (h2:∀ x c,X.env.cells.lookup x=some c->c≠it) (h3:∀ p∈X.pn++pins,p.1≠it):Inv X pins σ H { s with heap:=h',toks:=t' }:=by
 have nit:∀ b u,H b=some u->b≠it:=fun b u e z=>by rw[z,hn] at e;cases e
 refine I.step (g':=s.gens) (d':=s.drawn) (ch:=[it]) (fun b hb=>?_) (fun b o _ _ hc e _=>k b o (fun z=>hc (by simp[z])) e) (fun b o _ _ hc e _=>⟨o.slots,k b o (fun z=>hc (by simp[z])) e⟩) (fun _ _ _ _ n=>n)
  (fun b o hc e=>⟨o,k b o (fun z=>hc (by simp[z])) e⟩) (fun _ _ e=>e) (fun _ _ _ e=>e) (fun b ps e=>⟨#[],by rw[e];simp⟩) (fun m hm=>?_) (fun b u e=>?_) I.bare
 ·have e:b=it:=by simpa using hb
  subst e
  exact⟨h1,hL,h2,h3⟩
 ·obtain⟨o,es,ep,ho,r⟩:=hm
  exact⟨o,es,ep,k _ o (Ne.symm hL) ho,r⟩
 ·refine (I.hok b u e).stay (fun c v hc q=>k c v ?_ q) (fun _ q=>q) fun _ _ q=>q
  rcases hc with z|z
  ·rw[z];exact nit b u e
  ·exact nit c _ z
theorem Inv.tok (I:Inv X pins σ H s) (t:Nat):Inv X pins σ H { s with toks:=t }:=I.un (h':=s.heap) (t':=t) Un.refl I.hok
theorem Inv.kept {t':Nat} (I:Inv X pins σ H s) (k:∀ b u,s.heap.get? b=some u->h'.get? b=some u):Inv X pins σ H { s with heap:=h',toks:=t' }:=I.un (Un.kept k) (I.hok.kept k)
theorem Inv.laid {a:Addr} {o:HO} {t':Nat} (I:Inv X pins σ H s) (k:∀ b u,s.heap.get? b=some u->h'.get? b=some u) (hp:s.heap.objs.size<=a) (new:ji X.prog X.w (upd H a o) h' a o) :
  Inv X pins σ (upd H a o) { s with heap:=h',toks:=t' }:=I.un (Un.laid k hp (I.hok.fresh hp)) (I.hok.laid k hp new)
theorem Inv.write {x e:Addr} {o:HO} {t':Nat} (I:Inv X pins σ H s) (mu:Mut (H x)) (he:e=x\/H e=some (.own x)) (k:∀ b u,b≠e->s.heap.get? b=some u->h'.get? b=some u) (heo:∃ u,h'.get? e=some u)
  (new:ji X.prog X.w (upd H x o) h' x o):Inv X pins σ (upd H x o) { s with heap:=h',toks:=t' }:=I.un (Un.write mu he k heo) (I.hok.write mu he k heo new)
theorem Inv.weak {σ':List (Option V)} (I:Inv X pins σ H s) (hl:σ'.length=σ.length) (w:∀ (i:Nat) v,σ'[i]?=some (some v)->σ[i]?=some (some v)):Inv X pins σ' H s:=
 ⟨I.ok,I.os,I.bare,I.base,let ⟨m,hn,hl'⟩:=I.loc;⟨m,hn,fun i x v e1 e2 e3=>hl' i x v e1 (w i v e2) e3⟩,I.cell,I.free,I.oV,I.pin,I.hok,hl.trans I.len⟩
theorem Inv.Ih {ZS:List (Addr×Obj)} (I:Inv X pins σ H s) (h:∀ p∈ZS,s.heap.get? p.1=some p.2/\H p.1=none/\p.1≠X.env.locals/\p.1∉X.fs/\∀ v,p.2.data≠.cell v):Inv X ZS σ H s:=
 ⟨I.ok,I.os,I.bare,I.base,I.loc,I.cell,I.free,I.oV,fun p hp=>(List.mem_append.mp hp).elim (fun z=>I.pin p (List.mem_append_left _ z)) (h p),I.hok,I.len⟩
theorem Kv {N:List Str} (hN:N.Nodup) {i j:Nat} {x:Str} (a:N[i]?=some x) (b:N[j]?=some x):i=j:=by
 obtain⟨h1,e1⟩:=List.getElem?_eq_some_iff.mp a
 obtain⟨h2,e2⟩:=List.getElem?_eq_some_iff.mp b
 exact (List.getElem_inj hN).mp (e1.trans e2.symm)
theorem Q8 {M:Model} {A:Around} {E:Value->Shared->Prop} {i:Nat} {x:Str} {v:V} {u:Value} {Q:Unit->Shared->Prop} (I:Inv X pins σ H s) (hN:X.N.Nodup) (hi:X.N[i]?=some x) (hx:Loc X.env.scope x) (r:RelV v u)
  (h:∀ s',Inv X pins (σ.set i (some v)) H s'->(∃ a,Heap.SameBut a s.heap s'.heap/\(a=X.env.locals\/X.env.cells.lookup x=some a))->Q () s') (hf:X.fn x=true\/X.env.scope.names.lookup x=some .local:=by first|exact .inl rfl|exact .inr rfl|assumption):wpAny M A (storeName X.env x u) Q E s:=by
 obtain⟨m,hn,hl⟩:=id I.loc
 have hcls:(X.env.scope.kind==.class||(X.env.scope.kind==.module&&X.env.locals != X.env.globals))=false:=by rw[I.ok.kind];rfl
 have hiσ:i < σ.length:=by rw[I.len];exact (List.getElem?_eq_some_iff.mp hi).1
 have cne:=I.cne
 have tracked:∀ {a:Addr} {h':Heap},(∃ o,s.heap.get? a=some o/\H a=none)->Heap.SameBut a s.heap h'->xO X.prog X.w H h':=fun {a h'} ha hs b ob e=>by
  obtain⟨_,_,hfree⟩:=ha
  refine (I.hok b ob e).stay (fun c w' hc q=>(hs.2 c ?_).trans q) (fun _ q=>q) fun _ _ q=>q
  rintro rfl
  rcases hc with rfl|hc
  ·rw[hfree] at e;cases e
  ·rw[hfree] at hc;cases hc
 rcases hx with hk|hk
 ·refine wpAny_storeName_local hk hn (fun h' hn' hs=>?_) hcls
  obtain⟨oL,_,_,hoL,_⟩:=id hn
  refine h _ ⟨I.ok,I.os,I.bare,⟨fun b o e n hb hx=>?_,fun b o e n hb hx=>?_,I.base.free,fun b o e hx=>?_,I.base.tups,I.base.wg,I.base.xP⟩,⟨_,hn',fun j y v' e1 e2 e3=>?_⟩,fun y c e=>?_,I.free,I.oV,fun p hp=>?_,tracked ⟨oL,hoL,I.free⟩ hs,by simpa using I.len⟩ ⟨_,hs,.inl rfl⟩
  ·exact (hs.2 b (Nat.ne_of_lt (Nat.lt_of_lt_of_le (Heap.lt_size e) I.ok.above))).trans (I.base.keep b o e n hb hx)
  ·obtain⟨sl,e1⟩:=I.base.slot b o e n hb hx
   exact⟨sl,(hs.2 b (Nat.ne_of_lt (Nat.lt_of_lt_of_le (Heap.lt_size e) I.ok.above))).trans e1⟩
  ·obtain⟨o',e1⟩:=I.base.there b o e hx
   exact⟨o',(hs.2 b (Nat.ne_of_lt (Nat.lt_of_lt_of_le (Heap.lt_size e) I.ok.above))).trans e1⟩
  ·by_cases hj:j=i
   ·subst hj
    rw[hi] at e1;cases e1
    rw[List.getElem?_set_self hiσ] at e2
    cases e2
    exact⟨u,r,.inl ⟨hk,by simp⟩⟩
   ·rw[List.getElem?_set_ne (Ne.symm hj)] at e2
    obtain⟨u',r',q⟩:=hl j y v' e1 e2 e3
    refine⟨u',r',?_⟩
    rcases q with⟨k,e⟩|⟨k,c,e,z⟩
    ·refine .inl ⟨k,?_⟩
     have:y≠x:=fun e=>hj (Kv hN e1 (e▸hi))
     simp[this,e]
    ·exact .inr ⟨k,c,e,z.sameBut hs (cne y c e)⟩
  ·obtain⟨w',z⟩:=I.cell y c e
   exact⟨w',z.sameBut hs (cne y c e)⟩
  ·obtain⟨e,n,ne,nf,d⟩:=I.pin p hp
   exact⟨(hs.2 p.1 ne).trans e,n,ne,nf,d⟩
 ·have hfn:X.fn x=true:=by
   rcases hf with z|z
   ·exact z
   ·rw[z] at hk;cases hk
  obtain⟨c,hc⟩:=I.ok.has x (.inl hk)
  obtain⟨w',z⟩:=I.cell x c hc
  refine wpAny_storeName_cell I.ok.kind hk hc z (fun h' hc' hs=>?_)
  obtain⟨oc,hoc,afq⟩:=id z
  refine h { s with heap:=h' } ⟨I.ok,I.os,I.bare,⟨fun b o e n hb hx=>?_,fun b o e n hb hx=>?_,I.base.free,fun b o e hx=>?_,I.base.tups,I.base.wg,I.base.xP⟩,⟨m,hn.sameBut hs (Ne.symm (cne x c hc)),fun j y v' e1 e2 e3=>?_⟩,fun y c' e=>?_,I.free,I.oV,fun p hp=>?_,tracked ⟨oc,hoc,I.oV x c hc⟩ hs,by simpa using I.len⟩ ⟨c,hs,.inr hc⟩
  ·exact (hs.2 b (Nat.ne_of_lt (Nat.lt_of_lt_of_le (Heap.lt_size e) (I.ok.cab x c hfn hc)))).trans (I.base.keep b o e n hb hx)
  ·obtain⟨sl,e1⟩:=I.base.slot b o e n hb hx
   exact⟨sl,(hs.2 b (Nat.ne_of_lt (Nat.lt_of_lt_of_le (Heap.lt_size e) (I.ok.cab x c hfn hc)))).trans e1⟩
  ·obtain⟨o',e1⟩:=I.base.there b o e hx
   exact⟨o',(hs.2 b (Nat.ne_of_lt (Nat.lt_of_lt_of_le (Heap.lt_size e) (I.ok.cab x c hfn hc)))).trans e1⟩
  ·by_cases hj:j=i
   ·subst hj
    rw[hi] at e1;cases e1
    rw[List.getElem?_set_self hiσ] at e2
    cases e2
    exact⟨u,r,.inr ⟨.inl hk,c,hc,hc'⟩⟩
   ·rw[List.getElem?_set_ne (Ne.symm hj)] at e2
    obtain⟨u',r',q⟩:=hl j y v' e1 e2 e3
    refine⟨u',r',?_⟩
    rcases q with q|⟨k,c',e,z'⟩
    ·exact .inl q
    ·refine .inr ⟨k,c',e,z'.sameBut hs ?_⟩
     rintro rfl
     exact hj (Kv hN e1 (I.ok.inj _ _ _ e hc▸hi))
  ·by_cases hcc:c'=c
   ·subst hcc;exact⟨_,hc'⟩
   ·obtain⟨w2,z2⟩:=I.cell y c' e
    exact⟨w2,z2.sameBut hs hcc⟩
  ·obtain⟨e,n,ne,nf,d⟩:=I.pin p hp
   refine⟨(hs.2 p.1 ?_).trans e,n,ne,nf,d⟩
   intro q
   rw[q,hoc] at e
   have q':oc=p.2:=Option.some.inj e
   exact d w' (by rw[<-q'];exact afq)
theorem xQ {M:Model} {A:Around} {E:Value->Shared->Prop} {i:Nat} {x:Str} {v:V} {u:Value} {Q:Unit->Shared->Prop} (I:Inv X pins σ H s) (hN:X.N.Nodup) (hi:X.N[i]?=some x) (hx:Loc X.env.scope x) (r:RelV v u)
  (h:∀ s',Inv X pins (σ.set i (some v)) H s'->Q () s') (hf:X.fn x=true\/X.env.scope.names.lookup x=some .local:=by first|exact .inl rfl|exact .inr rfl|assumption):wpAny M A (storeName X.env x u) Q E s:=
 Q8 I hN hi hx r (fun s' I' _=>h s' I') hf
theorem Inv.call' {s':Shared} {ch:List Addr} (I:Inv X pins σ H s) (ho:s'.os=s.os) (u:Un (frs X.stack) ch H H' s.heap s'.heap) (hok:xO X.prog X.w H' s'.heap) (hg:AllBare s'.gens)
  (hch:∀ b∈ch,(b∈X.ex\/X.s₀.heap.objs.size<=b)/\b≠X.env.locals/\(∀ x c,X.env.cells.lookup x=some c->c≠b)/\∀ p∈X.pn++pins,p.1≠b):Inv X pins σ H' s':=by
 obtain⟨h',g',d',t',o'⟩:=s'
 have e:o'=s.os:=ho
 subst e
 exact I.call (g':=g') (t':=t') (d':=d') u hok hg hch
end
abbrev XK:=Value->Option Addr->Hp->Prop
abbrev St:=List (Option V)
abbrev VK:=V->Hp->Prop
abbrev TE:=St->Hp->VK->Prop
abbrev TT:=St->Hp->(Bool->Hp->Prop)->Prop
abbrev TA:=St->Hp->(List V->Hp->Prop)->Prop
structure Ends where
 nx:St->Hp->Prop
 rt:VK
 bk:St->Hp->Prop:=fun _ _=>False
 ct:St->Hp->Prop:=fun _ _=>False
abbrev TS:=Ends->St->Hp->Prop
def EP (X:Cx) (pins:List (Addr×Obj)) (σ:St) (Q:VK) (u:Value) (s':Shared):Prop:=∃ v H',Inv X pins σ H' s'/\RelV v u/\Q v H'
def TP (X:Cx) (pins:List (Addr×Obj)) (σ:St) (Q:Bool->Hp->Prop) (b:Bool) (s':Shared):Prop:=∃ H',Inv X pins σ H' s'/\Q b H'
def AP (X:Cx) (pins:List (Addr×Obj)) (σ:St) (Q:List V->Hp->Prop) (us:List Value) (s':Shared):Prop:=∃ vs H',Inv X pins σ H' s'/\Vals vs us/\Q vs H'
def SP (X:Cx) (pins:List (Addr×Obj)) (D:Ends) (f:Flow) (s':Shared):Prop:=
 match f with
 |.next=>∃ σ' H',Inv X pins σ' H' s'/\D.nx σ' H'
 |.brk=>∃ σ' H',Inv X pins σ' H' s'/\D.bk σ' H'
 |.cont=>∃ σ' H',Inv X pins σ' H' s'/\D.ct σ' H'
 |.ret u=>∃ v σ' H',Inv X pins σ' H' s'/\RelV v u/\D.rt v H'
def PE (X:Cx) (e:Expr) (t:TE):Prop:=
 ∀ (pins:List (Addr×Obj)) (s:Shared) (σ:St) (H:Hp) (Q:VK),Inv X pins σ H s->t σ H Q->wpAny (model X.prog X.w) X.A (eval e X.env) (EP X pins σ Q) X.xe s
def PT (X:Cx) (e:Expr) (t:TT):Prop:=
 ∀ (pins:List (Addr×Obj)) (s:Shared) (σ:St) (H:Hp) (Q:Bool->Hp->Prop),Inv X pins σ H s->t σ H Q->wpAny (model X.prog X.w) X.A (isTrue e X.env (eval e X.env)) (TP X pins σ Q) X.xe s
def PW (X:Cx) (e:Expr) (t:TT):Prop:=
 ∀ (whole:Sem Value) (pins:List (Addr×Obj)) (s:Shared) (σ:St) (H:Hp) (Q:Bool->Hp->Prop),Inv X pins σ H s->t σ H Q->wpAny (model X.prog X.w) X.A (isTrue e X.env whole) (TP X pins σ Q) X.xe s
theorem PW.pt {X:Cx} {e:Expr} {t:TT} (h:PW X e t):PT X e t:=h _
def PA (X:Cx) (es:List Expr) (t:TA):Prop:=
 ∀ (pos:Pos) (pins:List (Addr×Obj)) (s:Shared) (σ:St) (H:Hp) (Q:List V->Hp->Prop),Inv X pins σ H s->t σ H Q->wpAny (model X.prog X.w) X.A (spliced (backTo pos (starEach es X.env))) (AP X pins σ Q) X.xe s
def PS (X:Cx) (st:Stmt) (t:TS):Prop:=
 ∀ (pins:List (Addr×Obj)) (s:Shared) (σ:St) (H:Hp) (D:Ends),Inv X pins σ H s->t D σ H->wpAny (model X.prog X.w) X.A (exec st X.env) (SP X pins D) X.xe s
def Px (X:Cx) (st:List Stmt) (t:TS):Prop:=
 ∀ (pins:List (Addr×Obj)) (s:Shared) (σ:St) (H:Hp) (D:Ends),Inv X pins σ H s->t D σ H->wpAny (model X.prog X.w) X.A (execs st X.env) (SP X pins D) X.xe s
theorem j6 {α:Type} {t:Sem α} {Q Q':α->Shared->Prop} {M:Model} {A:Around} {E:Value->Shared->Prop} {s:Shared} (h:wpAny M A t Q E s) (hQ:∀ a s,Q a s->Q' a s):wpAny M A t Q' E s:=wpAny_mono h hQ fun _ _ x=>x
end L2
namespace L2
open PySem PySem.Spec PyProof.Rows
section
variable {X:Cx}
def ado (i:Nat):TE:=fun σ H Q=>∃ v,σ[i]?=some (some v)/\Q v H
def tC (v:V):TE:=fun _ H Q=>Q v H
theorem wQ {i:Nat} {x:Str} {pos:Pos} (hN:X.N[i]?=some x) (hv:Nk X.env.scope x) (hd:(x==("__debug__" : Str))=false:=by decide) (hcd:(x==("__classdict__" : Str))=false:=by decide):PE X (.Name x pos) (ado i):=by
 intro pins s σ H Q I h
 obtain⟨v,e,h⟩:=h
 obtain⟨m,hn,hl⟩:=I.loc
 obtain⟨u,r,l⟩:=hl i x v hN e hv
 have fin:EP X pins σ Q u s:=⟨v,H,I,r,h⟩
 rcases l with⟨hk,hm⟩|⟨hk,c,hc,hcell⟩
 ·exact wpAny_Name (wpAny_loadName_local I.ok.kind hk hn hm fin) hd
 ·rcases hk with hk|hk
  ·exact wpAny_Name (wpAny_loadName_cell I.ok.kind hk hc hcell fin) hd
  ·exact wpAny_Name (wpAny_loadName_free I.ok.kind hk hc hcell fin hcd) hd
theorem aaI {i j pos}:PE X (.Constant (.int i) j pos) (tC (.int i)):=fun _ _ _ H _ I h=>wpAny_Constant_int ⟨.int i,H,I.tok _,⟨_,rfl⟩,h⟩
theorem adp {b j pos}:PE X (.Constant (.bool b) j pos) (tC (.bl b)):=fun _ _ _ H _ I h=>Constant_bool ⟨.bl b,H,I,rfl,h⟩
theorem aaJ {j pos}:PE X (.Constant .none j pos) (tC .non):=fun _ _ _ H _ I h=>Constant_none ⟨.non,H,I,rfl,h⟩
theorem aaK {x j pos}:PE X (.Constant (.str x) j pos) (tC (.str x)):=fun _ _ _ H _ I h=>Calls.Constant_str ⟨.str x,H,I.tok _,⟨_,rfl⟩,h⟩
def Gl (X:Cx) (x:Str):Prop:=X.env.kindOf x=some .globalImplicit
theorem Xd {E:Value->Shared->Prop} {pins:List (Addr×Obj)} {s:Shared} {σ:St} {H:Hp} {x:Str} {u:Value} {pos:Pos} {Q:Value->Shared->Prop} (I:Inv X pins σ H s) (hg:Gl X x) (hm:X.mg x=some u) (h:Q u s)
  (hd:(x==("__debug__" : Str))=false:=by decide):wpAny (model X.prog X.w) X.A (eval (.Name x pos) X.env) Q E s:=
 Calls.Name_function_global I.ok.kind hg (Calls.loadGlobal_global (by rw[I.ok.glob];exact I.mod.glob.keeps I.bk) hm h) hd
theorem Nm {E:Value->Shared->Prop} {pins:List (Addr×Obj)} {s:Shared} {σ:St} {H:Hp} {x:Str} {u:Value} {pos:Pos} {Q:Value->Shared->Prop} (I:Inv X pins σ H s) (hg:Gl X x) (hm:X.mg x=none) (hv:bootBuiltins x=some u) (h:Q u s)
  (hn:x ≠ "__name__" := by decide) (hd:(x==("__debug__" : Str))=false:=by decide):wpAny (model X.prog X.w) X.A (eval (.Name x pos) X.env) Q E s:=by
 obtain⟨mb,h1,h2⟩:=I.mod.blt
 exact Calls.Name_function_global I.ok.kind hg (Calls.loadGlobal_builtin (by rw[I.ok.glob];exact I.mod.glob.keeps I.bk) hm (by rw[I.ok.blt];exact h1.keeps I.bk) ((h2 x hn).trans hv) h) hd
variable {a b:Expr} {ta tb:TE} {pos:Pos}
variable {tA tB':TT} {rest:List Expr}
def adq (t u:TT):TT:=fun σ H Q=>t σ H fun c H1=>if c=true then u σ H1 Q else Q false H1
def tOr (t u:TT):TT:=fun σ H Q=>t σ H fun c H1=>if c=true then Q true H1 else u σ H1 Q
def afr (t:TT):TT:=fun σ H Q=>t σ H fun c H1=>Q (!c) H1
theorem Xe (ha:PT X a tA):PW X (.BoolOp .And [a] pos) tA:=by
 intro wh pins s σ H Q I h
 refine isTrue_and (j6 (ha pins s σ H Q I h) fun c s1 e=>?_)
 cases c with
 |true=>exact isTrue_and_nil e
 |false=>exact e
theorem aaL (ha:PT X a tA):PW X (.BoolOp .Or [a] pos) tA:=by
 intro wh pins s σ H Q I h
 refine isTrue_or (j6 (ha pins s σ H Q I h) fun c s1 e=>?_)
 cases c with
 |false=>exact isTrue_or_nil e
 |true=>exact e
theorem aaM (ha:PT X a tA) (hb:PW X (.BoolOp .And (b::rest) pos) tB'):PW X (.BoolOp .And (a::b::rest) pos) (adq tA tB'):=by
 intro wh pins s σ H Q I h
 refine isTrue_and (j6 (ha pins s σ H _ I h) fun c s1 ⟨H1,I1,q1⟩=>?_)
 cases c with
 |true=>exact hb wh pins s1 σ H1 Q I1 q1
 |false=>exact⟨H1,I1,q1⟩
theorem adt (ha:PT X a tA) (hb:PW X (.BoolOp .Or (b::rest) pos) tB'):PW X (.BoolOp .Or (a::b::rest) pos) (tOr tA tB'):=by
 intro wh pins s σ H Q I h
 refine isTrue_or (j6 (ha pins s σ H _ I h) fun c s1 ⟨H1,I1,q1⟩=>?_)
 cases c with
 |true=>exact⟨H1,I1,q1⟩
 |false=>exact hb wh pins s1 σ H1 Q I1 q1
theorem aaN (ha:PT X a tA):PT X (.UnaryOp .Not a pos) (afr tA):=by
 intro pins s σ H Q I h
 exact isTrue_not (ha pins s σ H (fun c H1=>Q (!c) H1) I h)
end
end L2
namespace L2
open PySem PySem.Spec PyProof.Rows
def uz (K:PySem.W.Frag) (H:Hp) (a:Addr) (xs:List V):Prop:=
 Rd H a (.lst xs) ∨
  ∃ (o:Obj) (its:Array Value) (n:Nat),K.lookup a=some o/\o.cls=.type "list" ∧ o.dict=none/\o.data=.seq its n/\its.size<=sizeLine/\Vals xs its.toList
def wD (K:PySem.W.Frag) (H:Hp) (a:Addr) (xs:List V):Prop:=
 Rd H a (.tup xs) ∨
  ∃ (o:Obj) (its:Array Value) (n:Nat),K.lookup a=some o/\(o.cls=.type "tuple" ∧ o.dict=none)/\o.data=.seq its n/\its.size<=sizeLine/\Vals xs its.toList
def aaO:Value->Option V
 |.none=>some .non
 |.bool b=>some (.bl b)
 |.int i _=>some (.int i)
 |.str x _=>some (.str x)
 |.bytes b _=>some (.byt b)
 |.float b _=>some (.flt b)
 |.ref a=>some (.ref a)
 |.type n=>some (.ty n)
 |_=>none
theorem RelV.abs {x:V} {u:Value} (r:RelV x u):aaO u=some x:=by
 cases x with
 |non=>cases r;rfl
 |bl _=>cases r;rfl
 |int _=>obtain⟨t,rfl⟩:=r;rfl
 |str _=>obtain⟨t,rfl⟩:=r;rfl
 |byt _=>obtain⟨t,rfl⟩:=r;rfl
 |flt _=>obtain⟨t,rfl⟩:=r;rfl
 |ref _=>cases r;rfl
 |ty _=>cases r;rfl
theorem RelV.inj {x y:V} {u:Value} (r:RelV x u) (q:RelV y u):x=y:=Option.some.inj (r.abs.symm.trans q.abs)
theorem Vals.inj:∀ {xs ys:List V} {us:List Value},Vals xs us->Vals ys us->xs=ys
 |_,_,_,.nil,.nil=>rfl
 |_,_,_,.cons r t,.cons r' t'=>by rw[r.inj r',Vals.inj t t']
section
variable {X:Cx} {pins:List (Addr×Obj)} {σ:St} {H:Hp} {s:Shared} {a:Addr} {xs ys:List V}
theorem uz.of {K:PySem.W.Frag} (h:H a=some (.lst xs)):uz K H a xs:=.inl (.inl h)
theorem wD.of {K:PySem.W.Frag} (h:H a=some (.tup xs)):wD K H a xs:=.inl (.inl h)
theorem Inv.list (I:Inv X pins σ H s) (h:uz X.K H a xs):∃ its:List Value,Vals xs its/\PlainL s.heap a its.toArray/\xs.length<=sizeLine:=by
 rcases h with h|⟨o,its,n,hk,hc,hd,hs,hz,r⟩
 ·obtain⟨z,its,n,r,e⟩:=h.ok I.hok
  exact⟨its,r,⟨_,n,e,rfl,rfl,rfl⟩,z⟩
 ·refine⟨its.toList,r,⟨o,n,I.kIn a o hk,hc,hd,by simpa using hs⟩,?_⟩
  have e:=r.length
  simp only[Array.length_toList] at e
  omega
theorem Inv.tuple (I:Inv X pins σ H s) (h:wD X.K H a xs):∃ its:List Value,Vals xs its/\IsTup s.heap a its.toArray/\xs.length<=sizeLine:=by
 rcases h with h|⟨o,its,n,hk,hc,hs,hz,r⟩
 ·obtain⟨z,its,r,p⟩:=h.ok I.hok
  exact⟨its,r,p.weak,z⟩
 ·refine⟨its.toList,r,⟨o,I.kIn a o hk,hc.1,n,by simpa using hs⟩,?_⟩
  have e:=r.length
  simp only[Array.length_toList] at e
  omega
theorem Inv.Kw (I:Inv X pins σ H s) (h:uz X.K H a xs) (h':uz X.K H a ys):xs=ys:=by
 obtain⟨its,r,⟨o,n,e,_,_,d⟩,_⟩:=I.list h
 obtain⟨its',r',⟨o',n',e',_,_,d'⟩,_⟩:=I.list h'
 rw[e] at e';cases e'
 rw[d] at d'
 injection d' with d1 _
 have:its=its':=by simpa using congrArg Array.toList d1
 subst this
 exact r.inj r'
theorem Inv.GP (I:Inv X pins σ H s) (h:wD X.K H a xs) (h':wD X.K H a ys):xs=ys:=by
 obtain⟨its,r,⟨o,e,_,n,d⟩,_⟩:=I.tuple h
 obtain⟨its',r',⟨o',e',_,n',d'⟩,_⟩:=I.tuple h'
 rw[e] at e';cases e'
 rw[d] at d'
 injection d' with d1 _
 have:its=its':=by simpa using congrArg Array.toList d1
 subst this
 exact r.inj r'
end
abbrev Cx.wish (X:Cx) (E:Value->Shared->Prop):Cx:={ X with xe:=E }
abbrev Cx.Te (X:Cx):Cx:=X.wish fun _ _=>False
theorem Cx.Ok.wish {X:Cx} (ok:X.Ok) (E:Value->Shared->Prop):(X.wish E).Ok:=
 ⟨ok.mod,ok.kind,ok.glob,ok.blt,ok.above,ok.inj,ok.has,ok.cab,ok.hd,ok.frames,ok.stk,ok.exf,ok.bs,ok.Xb,ok.Tt,ok.Xc,ok.Ao,ok.frf⟩
theorem Cx.Ok.p7 {X:Cx} {E:Value->Shared->Prop} (ok:(X.wish E).Ok):X.Ok:=
 ⟨ok.mod,ok.kind,ok.glob,ok.blt,ok.above,ok.inj,ok.has,ok.cab,ok.hd,ok.frames,ok.stk,ok.exf,ok.bs,ok.Xb,ok.Tt,ok.Xc,ok.Ao,ok.frf⟩
section
variable {X:Cx} {pins:List (Addr×Obj)} {σ:St} {H:Hp} {s:Shared} {E:Value->Shared->Prop}
theorem Inv.wish (I:Inv X pins σ H s) (E:Value->Shared->Prop):Inv (X.wish E) pins σ H s:=⟨I.ok.wish E,I.os,I.bare,I.base,I.loc,I.cell,I.free,I.oV,I.pin,I.hok,I.len⟩
theorem Inv.p7 (I:Inv (X.wish E) pins σ H s):Inv X pins σ H s:=⟨I.ok.p7,I.os,I.bare,I.base,I.loc,I.cell,I.free,I.oV,I.pin,I.hok,I.len⟩
theorem SP.p7 {D:Ends} {f:Flow} {s':Shared} (h:SP (X.wish E) pins D f s'):SP X pins D f s':=by
 cases f with
 |next=>obtain⟨σ',H',I,q⟩:=h;exact⟨σ',H',I.p7,q⟩
 |brk=>obtain⟨σ',H',I,q⟩:=h;exact⟨σ',H',I.p7,q⟩
 |cont=>obtain⟨σ',H',I,q⟩:=h;exact⟨σ',H',I.p7,q⟩
 |ret u=>obtain⟨v,σ',H',I,r,q⟩:=h;exact⟨v,σ',H',I.p7,r,q⟩
theorem PE.Te {e:Expr} {t:TE} (h:PE X.Te e t):PE X e t:=fun pins s σ H Q I hw=>
 wpAny_mono (h pins s σ H Q (I.wish _) hw) (fun _ _ ⟨v,H',I',r,q⟩=>⟨v,H',I'.p7,r,q⟩) fun _ _ z=>False.elim z
theorem PT.Te {e:Expr} {t:TT} (h:PT X.Te e t):PT X e t:=fun pins s σ H Q I hw=>
 wpAny_mono (h pins s σ H Q (I.wish _) hw) (fun _ _ ⟨H',I',q⟩=>⟨H',I'.p7,q⟩) fun _ _ z=>False.elim z
theorem Px.Te {st:List Stmt} {t:TS} (h:Px X.Te st t):Px X st t:=fun pins s σ H D I hw=>
 wpAny_mono (h pins s σ H D (I.wish _) hw) (fun _ _ q=>q.p7) fun _ _ z=>False.elim z
end
section
variable {X:Cx} {st:Stmt} {rest:List Stmt} {t u:TS} {e:Expr} {te:TE} {pos:Pos}
def adu:TS:=fun D σ H=>D.nx σ H
def afs (t u:TS):TS:=fun D σ H=>t { D with nx:=u D } σ H
theorem Xf:Px X [] adu:=fun _ _ σ H _ I h=>wpAny_execs_nil ⟨σ,H,I,h⟩
theorem Tv (h1:PS X st t) (h2:Px X rest u):Px X (st::rest) (afs t u):=by
 intro pins s σ H D I h
 refine wpAny_execs_cons (j6 (h1 pins s σ H { D with nx:=u D } I h) fun f s1 q=>?_)
 cases f with
 |next=>
  obtain⟨σ',H',I',q⟩:=q
  exact h2 pins s1 σ' H' D I' q
 |ret v=>exact q
 |brk=>exact q
 |cont=>exact q
theorem Inv.quiet {pins:List (Addr×Obj)} {σ:St} {H:Hp} {s:Shared} (I:Inv X pins σ H s):interactive X.env=false:=by simp[interactive,I.ok.kind]
def adv (te:TE):TS:=fun D σ H=>te σ H fun _ H1=>D.nx σ H1
theorem Py (he:PE X e te) (hs:swapsWith e none pos.line X.env=pure false:=by rfl):PS X (.Expr e pos) (adv te):=by
 intro pins s σ H D I h
 exact wpAny_Expr_any (j6 (he pins s σ H _ I h) fun v s1 ⟨x,H1,I1,r1,q1⟩=>⟨σ,H1,I1,q1⟩) I.quiet hs
def aft (te:TE):TS:=fun D σ H=>te σ H D.rt
theorem Tw (he:PE X e te):PS X (.Return (some e) pos) (aft te):=by
 intro pins s σ H D I h
 exact wpAny_Return_some (j6 (he pins s σ H _ I h) fun v s1 ⟨x,H1,I1,r1,q1⟩=>⟨x,σ,H1,I1,r1,q1⟩)
def afu (c:TT) (t u:TS):TS:=fun D σ H=>c σ H fun b H1=>if b=true then t D σ H1 else u D σ H1
theorem adw {c:Expr} {a b:List Stmt} {tc:TT} (hc:PT X c tc) (ha:Px X a t) (hb:Px X b u):PS X (.If c a b pos) (afu tc t u):=by
 intro pins s σ H D I h
 refine wpAny_If (j6 (hc pins s σ H _ I h) fun d s1 ⟨H1,I1,q1⟩=>?_)
 cases d with
 |true=>exact ha pins s1 σ H1 D I1 q1
 |false=>exact hb pins s1 σ H1 D I1 q1
end
abbrev TG:=V->St->Hp->(St->Hp->Prop)->Prop
abbrev ZV:=List V->St->Hp->(St->Hp->Prop)->Prop
def PG (X:Cx) (target:Expr) (t:TG):Prop:=
 ∀ (pins:List (Addr×Obj)) (s:Shared) (σ:St) (H:Hp) (v:V) (u:Value) (Q:St->Hp->Prop),Inv X pins σ H s->RelV v u->t v σ H Q →
  wpAny (model X.prog X.w) X.A (assign target X.env u) (fun _ s'=>∃ σ' H',Inv X pins σ' H' s'/\Q σ' H') X.xe s
def GQ (X:Cx) (ts:List Expr) (t:ZV):Prop:=
 ∀ (pins:List (Addr×Obj)) (s:Shared) (σ:St) (H:Hp) (vs:List V) (us:List Value) (Q:St->Hp->Prop),Inv X pins σ H s->Vals vs us->t vs σ H Q →
  wpAny (model X.prog X.w) X.A (assignInOrder ((assignEach ts X.env).map (·.2)) us) (fun _ s'=>∃ σ' H',Inv X pins σ' H' s'/\Q σ' H') X.xe s
section
variable {X:Cx} {pos:Pos}
def ZW (i:Nat):TG:=fun v σ H Q=>Q (σ.set i (some v)) H
theorem Pz {i:Nat} {x:Str} (hN:X.N.Nodup) (hi:X.N[i]?=some x) (hx:Loc X.env.scope x) (hf:X.fn x=true\/X.env.scope.names.lookup x=some .local:=by first|exact .inl rfl|exact .inr rfl|assumption):PG X (.Name x pos) (ZW i):=by
 intro pins s σ H v u Q I r h
 exact wpAny_assign_Name (xQ I hN hi hx r (fun s' I'=>⟨_,H,I',h⟩) hf)
def afv:ZV:=fun vs σ H Q=>vs=[]/\Q σ H
def adx (t:TG) (u:ZV):ZV:=fun vs σ H Q=>∃ v r,vs=v::r/\t v σ H fun σ' H'=>u r σ' H' Q
theorem Xg:GQ X [] afv:=by
 intro pins s σ H vs us Q I r h
 obtain⟨e,h⟩:=h
 subst e
 cases r
 exact assignInOrder_nil ⟨σ,H,I,h⟩
theorem Tz {e:Expr} {es:List Expr} {t:TG} {u:ZV} (h1:PG X e t) (h2:GQ X es u)
  (hs:(assignEach (e::es) X.env).map (·.2)=assign e X.env::(assignEach es X.env).map (·.2):=by rfl):GQ X (e::es) (adx t u):=by
 intro pins s σ H vs us Q I r h
 obtain⟨v,vr,e1,h⟩:=h
 subst e1
 cases r with
 |cons r rr=>
  rw[hs]
  refine assignInOrder_cons (j6 (h1 pins s σ H _ _ _ I r h) fun _ s1 ⟨σ1,H1,I1,q1⟩=>?_)
  exact h2 pins s1 σ1 H1 _ _ Q I1 rr q1
def afw (K:PySem.W.Frag) (n:Nat) (t:ZV):TG:=fun v σ H Q=>∃ a xs,v=.ref a/\wD K H a xs/\xs.length=n/\t xs σ H Q
theorem aaP {es:List Expr} {k:Nat} {t:ZV} {n:Nat} (hc:X.calm=true) (h:GQ X es t)
  (hn:(assignEach es X.env).length=n:=by rfl) (hst:(assignEach es X.env).findIdx? (·.1)=none:=by rfl):PG X (.Tuple es k pos) (afw X.K n t):=by
 intro pins s σ H v u Q I r hw
 obtain⟨a,xs,e1,hq,hl,hw⟩:=hw
 subst e1
 cases r
 obtain⟨its,rv,ht,hz⟩:=I.tuple hq
 refine assign_Tuple_tuple (I.ok.hd hc) ht (by simp[hn,<-hl,rv.length]) hst fun h' hx=>?_
 have I1:Inv X pins σ H { s with heap:=h' }:=I.kept (t':=s.toks) fun b o e=>hx b o (Nat.ne_of_lt (Heap.lt_size e)) e
 exact h pins _ σ H xs _ Q I1 (by simpa using rv) hw
def ady (te:TE) (g:TG):TS:=fun D σ H=>te σ H fun x H1=>g x σ H1 D.nx
theorem aaQ {tg e:Expr} {te:TE} {g:TG} (he:PE X e te) (hg:PG X tg g) (hs:swapsWithSole [tg] e pos.line X.env=pure false:=by rfl) (hw:swappedStores [tg] e X.env=pure none:=by rfl)
  (h1:(assignEach [tg] X.env).map (·.2)=[assign tg X.env]:=by rfl):PS X (.Assign [tg] e pos) (ady te g):=by
 intro pins s σ H D I h
 refine wpAny_Assign_stores (j6 (he pins s σ H _ I h) fun v s1 ⟨x,H1,I1,r1,q1⟩=>?_) hs hw
 rw[h1]
 exact j6 (hg pins s1 σ H1 x v _ I1 r1 q1) fun _ s2 q=>q
theorem aaR {i:Nat} {x:Str} {e:Expr} {te:TE} {pos':Pos} (hN:X.N.Nodup) (hi:X.N[i]?=some x) (hx:Loc X.env.scope x) (he:PE X e te) (hs:swapsWith e (some (.Name x pos')) pos.line X.env=pure false:=by rfl) (hf:X.fn x=true\/X.env.scope.names.lookup x=some .local:=by first|exact .inl rfl|exact .inr rfl|assumption) :
  PS X (.Assign [.Name x pos'] e pos) (ady te (ZW i)):=by
 intro pins s σ H D I h
 refine wpAny_Assign_Name (j6 (he pins s σ H _ I h) fun v s1 ⟨y,H1,I1,r1,q1⟩=>?_) hs
 exact xQ I1 hN hi hx r1 (fun s2 I2=>⟨_,H1,I2,q1⟩) hf
def afx (i j:Nat) (ta:TA):TS:=fun D σ H=>ta σ H fun vs H1=>∃ v w,vs=[v,w]/\D.nx ((σ.set i (some v)).set j (some w)) H1
theorem aaS {i j:Nat} {x y:Str} {a b:Expr} {ta:TA} {px py pt:Pos} {kt k2 TF} (hc:X.calm=true) (hN:X.N.Nodup) (hi:X.N[i]?=some x) (hj:X.N[j]?=some y) (hij:i≠j)
  (hx:X.env.scope.names.lookup x=some .local) (hy:X.env.scope.names.lookup y=some .local) (ha:PA X [a,b] ta)
  (hw:swappedStores [.Tuple [.Name x px,.Name y py] kt pt] (.Tuple [a,b] k2 TF) X.env=pure (some [x,y]))
  (hs:swapsWithSole [.Tuple [.Name x px,.Name y py] kt pt] (.Tuple [a,b] k2 TF) pos.line X.env=pure false:=by rfl) :
  PS X (.Assign [.Tuple [.Name x px,.Name y py] kt pt] (.Tuple [a,b] k2 TF) pos) (afx i j ta):=by
 intro pins s σ H D I h
 rw[exec_Assign_arm]
 refine wpAny_bind (wpAny_standAt ?_)
 rw[hs]
 refine wpAny_bind (wpAny_pure ?_)
 rw[if_neg (by decide)]
 refine wpAny_bind (Tuple_ (j6 (ha _ pins s σ H _ I h) fun us s1 ⟨vs,H1,I1,r1,q1⟩=>?_))
 obtain⟨v,w,e1,q1⟩:=q1
 subst e1
 obtain⟨u1,u2,rfl,rv,PJ⟩:∃ u1 u2,us=[u1,u2]/\RelV v u1/\RelV w u2:=by
  cases r1 with
  |cons p q=>
   cases q with
   |cons p' q'=>
    cases q'
    exact⟨_,_,rfl,p,p'⟩
 refine wpAny_newObj_type ?_ (by show 2<=sizeLine;decide)
 have I2:Inv X pins σ H1 { s1 with heap:=s1.heap.push { cls:=.type "tuple", data:=.seq [u1,u2].toArray } }:=I1.kept (t':=s1.toks) fun b o e=>Heap.get?_push_of_some _ e
 rw[hw]
 refine wpAny_bind (wpAny_pure ?_)
 show wpAny (model X.prog X.w) X.A (do rule "assign.swapped-stores"; let items <-unpackItems (.ref s1.heap.objs.size) 2 none;assignInOrder [fun v=>bindName X.env y v,fun v=>bindName X.env x v] items.reverse;pure Flow.next) _ _ _
 refine wpAny_bind (wpAny_rule (wpAny_bind (unpackItems_tuple (items:=#[u1,u2]) (I.ok.hd hc) (IsTup.new s1.heap _) fun h' hx'=>?_)))
 have I3:=I2.kept (h':=h') (t':=s1.toks) fun b o e=>hx' b o (Nat.ne_of_lt (Heap.lt_size e)) e
 show wpAny _ _ (assignInOrder [fun v=>bindName X.env y v,fun v=>bindName X.env x v] [u2,u1] >>= fun _=>pure Flow.next) _ _ _
 refine wpAny_bind (assignInOrder_cons (wpAny_bindName (xQ I3 hN hj (.inl hy) PJ (fun s2 I4=>?_) (.inr hy))))
 refine assignInOrder_cons (wpAny_bindName (xQ I4 hN hi (.inl hx) rv (fun s3 I5=>assignInOrder_nil (wpAny_pure ?_)) (.inr hx)))
 rw[List.set_comm _ _ (Ne.symm hij)] at I5
 exact⟨_,H1,I5,q1⟩
end
section
variable {X:Cx} {pos:Pos}
end
structure It where
 go:Nat->Hp->Prop
 yld:Nat->Hp->V->Hp->Prop
 stop:Nat->Hp->Prop
def uH (X:Cx) (pins:List (Addr×Obj)) (H:Hp) (b:Addr):Prop:=
 H b=none/\b≠X.env.locals/\b∉X.fs/\(b∈X.ex\/X.s₀.heap.objs.size<=b)/\(∀ x c,X.env.cells.lookup x=some c->c≠b)/\∀ p∈X.pn++pins,p.1≠b
theorem Inv.Q9 {X:Cx} {pins:List (Addr×Obj)} {σ:St} {H H':Hp} {s:Shared} {b:Addr} (I:Inv X pins σ H s) (hb:s.heap.objs.size<=b) (hn:H' b=none):uH X pins H' b:=by
 refine⟨hn,Nat.ne_of_gt (Nat.lt_of_lt_of_le I.lt hb),I.afp hb,.inr (Nat.le_trans I.sz hb),fun x c e z=>?_,fun p hp z=>?_⟩
 ·obtain⟨v,q⟩:=I.cell x c e
  exact absurd (Nat.lt_of_lt_of_le q.lt (by rw[z];exact hb)) (Nat.lt_irrefl _)
 ·exact absurd (Nat.lt_of_lt_of_le (Heap.lt_size (I.pin p hp).1) (by rw[z];exact hb)) (Nat.lt_irrefl _)
structure Turn (P:Program) (w:World) (K:PySem.W.Frag) (tg:Expr) (J:It) (fp:List Addr) (it:Addr) (tn:Nat->Heap->Prop):Prop where
 mem:it∈fp
 obj:∀ i h,tn i h->∀ b∈fp,∃ o,h.get? b=some o/\∀ v,o.data≠.cell v
 keep:∀ i h h',tn i h->(∀ b∈fp,∀ o,h.get? b=some o->h'.get? b=some o)->tn i h'
 item:∀ (X:Cx),X.prog=P->X.w=w->X.K=K->X.calm=true->∀ (i:Nat) (pins:List (Addr×Obj)) (s:Shared) (σ:St) (H:Hp) (E:Value->Shared->Prop),Inv X pins σ H s->(∀ b∈fp,uH X pins H b)->tn i s.heap->J.go i H →
  wpAny (model P w) X.A (pyNext (.ref it)) (fun r s1=>∃ u,r=some u ∧
   wpAny (model P w) X.A (letOwnedTupleGo tg (.ref it) u) (fun _ s2=>∃ x H',Inv X pins σ H' s2/\RelV x u/\J.yld i H x H'/\tn (i+1) s2.heap/\∀ b∈fp,H' b=none) E s1) E s
 done:∀ (X:Cx),X.prog=P->X.w=w->X.K=K->X.calm=true->∀ (i:Nat) (pins:List (Addr×Obj)) (s:Shared) (σ:St) (H:Hp) (E:Value->Shared->Prop),Inv X pins σ H s->(∀ b∈fp,uH X pins H b)->tn i s.heap->J.stop i H →
  wpAny (model P w) X.A (pyNext (.ref it)) (fun r s1=>r=none/\Inv X pins σ H s1) E s
 self:∀ (A:Around) (i:Nat) (s:Shared) (Q:Value->Shared->Prop) (E:Value->Shared->Prop),tn i s.heap->Q (.ref it) s->wpAny (model P w) A (pyIter (.ref it)) Q E s
abbrev TI:=St->Hp->(It->Hp->Prop)->Prop
def PIE (X:Cx) (pins:List (Addr×Obj)) (σ:St) (tg:Expr) (R:It->Hp->Prop) (itv:Value) (s2:Shared):Prop:=
 ∃ (it:Addr) (fp:List Addr) (tn:Nat->Heap->Prop) (J:It) (H':Hp),itv=.ref it/\Inv X pins σ H' s2/\Turn X.prog X.w X.K tg J fp it tn/\tn 0 s2.heap/\(∀ b∈fp,uH X pins H' b)/\R J H'
def PI (X:Cx) (tg iter:Expr) (wi:TI):Prop:=
 ∀ (pins:List (Addr×Obj)) (s:Shared) (σ:St) (H:Hp) (R:It->Hp->Prop),Inv X pins σ H s->wi σ H R →
  wpAny (model X.prog X.w) X.A (eval iter X.env) (fun v s1=>wpAny (model X.prog X.w) X.A (pyIter v) (PIE X pins σ tg R) X.xe s1) X.xe s
theorem GR {M:Model} {A:Around} {E:Value->Shared->Prop} {s:Shared} {tg:Expr} {it:Addr} {u:Value} {o:Obj} {n:String} {vs:Array Value} {Q:Unit->Shared->Prop} (ho:s.heap.get? it=some o) (hc:o.cls=.type n) (hd:o.data=.fields vs)
  (hn:["enumerate", "zip", "dict_itemiterator", "dict_reverseitemiterator", "odict_iterator", "itertools.zip_longest", "itertools.pairwise"].contains n=false) (hQ:Q () s):wpAny M A (letOwnedTupleGo tg (.ref it) u) Q E s:=by
 unfold letOwnedTupleGo
 cases tg<;>first
  |exact wpAny_pure hQ
  |(cases u<;>first
    |exact wpAny_pure hQ
    |(refine wpAny_bind (wpAny_load ho ?_)
      rw[hc,hd]
      show wpAny M A (if (["enumerate", "zip", "dict_itemiterator", "dict_reverseitemiterator", "odict_iterator", "itertools.zip_longest", "itertools.pairwise"].contains n&&vs[0]?==some (rawInt _))=true then _ else _) Q E s
      rw[if_neg (by intro h;rw[hn,Bool.false_and] at h;cases h)]
      exact wpAny_pure hQ))
def Itl (K:PySem.W.Frag) (a:Addr):It:=
 ⟨fun i H=>∃ xs x,uz K H a xs/\xs[i]?=some x,fun i H x H'=>H'=H/\∀ xs,uz K H a xs->xs[i]?=some x,fun i H=>∃ xs,uz K H a xs/\xs.length<=i⟩
def Itt (K:PySem.W.Frag) (a:Addr):It:=
 ⟨fun i H=>∃ xs x,wD K H a xs/\xs[i]?=some x,fun i H x H'=>H'=H/\∀ xs,wD K H a xs->xs[i]?=some x,fun i H=>∃ xs,wD K H a xs/\xs.length<=i⟩
def Itr (lo:Int) (n:Nat):It:=⟨fun i _=>i < n,fun i H x H'=>H'=H/\x=.int (lo+i),fun i _=>n<=i⟩
theorem Ra {P:Program} {w:World} {K:PySem.W.Frag} {tg:Expr} (a it:Addr):Turn P w K tg (Itl K a) [it] it (fun i h=>h.IsListIter it a i) where
 mem:=by simp
 obj:=fun i h st b hb=>by
  have e:b=it:=by simpa using hb
  subst e
  obtain⟨o,e,c,d⟩:=st
  exact⟨o,e,fun v z=>by rw[d] at z;cases z⟩
 keep:=fun i h h' st k=>st.at fun o e=>k it (by simp) o e
 item:=by
  intro X hP hw hK hc i pins s σ H E I hf st hg
  subst hP hw hK
  obtain⟨xs,x,hq,hx⟩:=hg
  obtain⟨its,rv,p,hz⟩:=I.list hq
  obtain⟨u,hu,ru⟩:=rv.get hx
  obtain⟨f0,f1,f2,f3,f4,f5⟩:=hf it (by simp)
  refine wpAny_pyNext_list_item st p.isList (x:=u) (by simpa using hu) fun h' st' sb=>?_
  have I1:Inv X pins σ H { s with heap:=h' }:=I.turned (t':=s.toks) (fun b o hb e=>(sb.2 b hb).trans e) f0 f1 f3 f4 f5
  obtain⟨o,e,c,d⟩:=id st'
  exact⟨u,rfl,GR (s:={ s with heap:=h' }) e c d (by decide) ⟨x,H,I1,ru,⟨rfl,fun ys hy=>by rw[I.Kw hy hq];exact hx⟩,st',fun b hb=>(hf b hb).1⟩⟩
 done:=by
  intro X hP hw hK hc i pins s σ H E I hf st hg
  subst hP hw hK
  obtain⟨xs,hq,hx⟩:=hg
  obtain⟨its,rv,p,hz⟩:=I.list hq
  obtain⟨f0,f1,f2,f3,f4,f5⟩:=hf it (by simp)
  have hl:=rv.length
  exact wpAny_pyNext_list_end (I.ok.hd hc) st p.isList (by simp;omega) fun h' eb=>⟨rfl,I.turned (t':=s.toks) (fun b o hb e=>eb b o hb e) f0 f1 f3 f4 f5⟩
 self:=fun _ _ _ _ _ st h=>wpAny_pyIter_listiter st h
theorem Np {P:Program} {w:World} {K:PySem.W.Frag} {tg:Expr} (a it:Addr):Turn P w K tg (Itt K a) [it] it (fun i h=>h.IsTupleIter it a i) where
 mem:=by simp
 obj:=fun i h st b hb=>by
  have e:b=it:=by simpa using hb
  subst e
  obtain⟨o,e,c,d⟩:=st
  exact⟨o,e,fun v z=>by rw[d] at z;cases z⟩
 keep:=fun i h h' st k=>st.at fun o e=>k it (by simp) o e
 item:=by
  intro X hP hw hK hc i pins s σ H E I hf st hg
  subst hP hw hK
  obtain⟨xs,x,hq,hx⟩:=hg
  obtain⟨its,rv,p,hz⟩:=I.tuple hq
  obtain⟨u,hu,ru⟩:=rv.get hx
  obtain⟨f0,f1,f2,f3,f4,f5⟩:=hf it (by simp)
  refine wpAny_pyNext_tuple_item st (show s.heap.IsTuple a its.toArray from p) (x:=u) (by simpa using hu) fun h' st' sb=>?_
  have I1:Inv X pins σ H { s with heap:=h' }:=I.turned (t':=s.toks) (fun b o hb e=>(sb.2 b hb).trans e) f0 f1 f3 f4 f5
  obtain⟨o,e,c,d⟩:=id st'
  exact⟨u,rfl,GR (s:={ s with heap:=h' }) e c d (by decide) ⟨x,H,I1,ru,⟨rfl,fun ys hy=>by rw[I.GP hy hq];exact hx⟩,st',fun b hb=>(hf b hb).1⟩⟩
 done:=by
  intro X hP hw hK hc i pins s σ H E I hf st hg
  subst hP hw hK
  obtain⟨xs,hq,hx⟩:=hg
  obtain⟨its,rv,p,hz⟩:=I.tuple hq
  obtain⟨f0,f1,f2,f3,f4,f5⟩:=hf it (by simp)
  have hl:=rv.length
  exact wpAny_pyNext_tuple_end (I.ok.hd hc) st (show s.heap.IsTuple a its.toArray from p) (by simp;omega) fun h' eb=>⟨rfl,I.turned (t':=s.toks) (fun b o hb e=>eb b o hb e) f0 f1 f3 f4 f5⟩
 self:=fun _ _ _ _ _ st h=>wpAny_pyIter_tupleiter st h
theorem Nq {P:Program} {w:World} {K:PySem.W.Frag} {tg:Expr} (it:Addr) (lo:Int) (n:Nat):Turn P w K tg (Itr lo n) [it] it (fun i h=>IsRangeIter h it (lo+(i:Nat) * 1) ((n:Int) - (i:Nat)) 1) where
 mem:=by simp
 obj:=fun i h st b hb=>by
  have e:b=it:=by simpa using hb
  subst e
  exact⟨_,st,fun v z=>by
   have z':Data.fields _=Data.cell v:=z
   cases z'⟩
 keep:=fun i h h' st k=>k it (by simp) _ st
 item:=by
  intro X hP hw hK hc i pins s σ H E I hf st hg
  subst hP hw hK
  obtain⟨f0,f1,f2,f3,f4,f5⟩:=hf it (by simp)
  have W:=Walks.range (prog:=X.prog) (w:=X.w) (I.ok.hd hc) it lo 1 n
  refine W.item i s _ _ hg st fun v h' tk hv st' kk=>?_
  obtain⟨t,rfl⟩:=hv
  have I1:Inv X pins σ H { s with heap:=h',toks:=tk }:=I.turned (fun b o hb e=>kk b o (by simpa using hb) e) f0 f1 f3 f4 f5
  refine⟨_,rfl,GR (s:={ s with heap:=h',toks:=tk }) (n := "range_iterator") st' rfl rfl (by decide) ⟨.int (lo+i),H,I1,⟨t,?_⟩,⟨rfl,rfl⟩,st',fun b hb=>(hf b hb).1⟩⟩
  rw[Int.mul_one]
 done:=by
  intro X hP hw hK hc i pins s σ H E I hf st hg
  subst hP hw hK
  obtain⟨f0,f1,f2,f3,f4,f5⟩:=hf it (by simp)
  exact wpAny_pyNext_range_end (I.ok.hd hc) st (by have:n<=i:=hg;omega) fun h' eb=>⟨rfl,I.turned (t':=s.toks) (fun b o hb e=>eb b o hb e) f0 f1 f3 f4 f5⟩
 self:=fun _ _ _ _ _ st h=>wpAny_pyIter_rangeiter st h
end L2
namespace L2
open PySem PySem.Spec PyProof.Rows
section
variable {X:Cx} {tg:Expr}
theorem TJ {pins:List (Addr×Obj)} {σ:St} {H:Hp} {s:Shared} {R:It->Hp->Prop} {E:Value->Shared->Prop} {lo hi:Int} {t u v:Tok} {tk:Nat} (I:Inv X pins σ H s) (h1 : -(2 ^ 62)<=lo) (h2:lo < 2 ^ 62) (h3 : -(2 ^ 62)<=hi) (h4:hi < 2 ^ 62)
  (q:R (Itr lo (hi - lo).toNat) H):wpAny (model X.prog X.w) X.A (pyIter (.ref s.heap.objs.size)) (PIE X pins σ tg R) E { s with heap:=s.heap.push { cls:=.type "range", data:=.fields #[.int lo t,.int hi u,.int 1 v] },toks:=tk }:=by
 refine wpAny_pyIter_range (IsRange.new ..) (small_one h1 h2 h3 h4) ?_
 have I1:Inv X pins σ H { s with heap:=s.heap.push { cls:=.type "range", data:=.fields #[.int lo t,.int hi u,.int 1 v] },toks:=tk }:=I.kept fun b o e=>Heap.get?_push_of_some _ e
 refine⟨(s.heap.push { cls:=.type "range", data:=.fields #[.int lo t,.int hi u,.int 1 v] }).objs.size,[(s.heap.push { cls:=.type "range", data:=.fields #[.int lo t,.int hi u,.int 1 v] }).objs.size],_,_,H,rfl,
  I1.kept (t':=tk) fun b o e=>Heap.get?_push_of_some _ e,Nq _ lo (hi - lo).toNat,?_,fun b hb=>?_,q⟩
 ·have e1:lo+((0:Nat):Int) * 1=lo:=by simp
  have e2:(((hi - lo).toNat:Nat):Int) - ((0:Nat):Int)=Builtin.Range.rangeSize lo hi 1:=by rw[rangeSize_one];split<;>omega
  show IsRangeIter _ _ (lo+((0:Nat):Int) * 1) ((((hi - lo).toNat:Nat):Int) - ((0:Nat):Int)) 1
  rw[e1,e2]
  exact Heap.get?_push_size _ rfl
 ·have e:b=(s.heap.push { cls:=.type "range", data:=.fields #[.int lo t,.int hi u,.int 1 v] }).objs.size:=by simpa using hb
  subst e
  exact I1.Q9 (Nat.le_refl _) (I1.hok.fresh (Nat.le_refl _))
def adz (ta:TA):TI:=fun σ H R=>ta σ H fun vs H1=>∃ j:Int,vs=[.int j] ∧ -(2 ^ 62)<=j/\j < 2 ^ 62/\R (Itr 0 j.toNat) H1
theorem Rb {a:Expr} {ta:TA} {p pos:Pos} (hg:Gl X "range") (hm:X.mg "range" = none) (ha:PA X [a] ta) (hs:starEach [a] X.env=[(false,eval a X.env)]:=by rfl):PI X tg (.Call (.Name "range" p) [a] [] pos) (adz ta):=by
 intro pins s σ H R I h
 refine Call_ (Nm I hg hm boot_range (PyProof.Rows.callWith_type1 (j6 (ha pos pins s σ H _ I h) fun us s1 ⟨vs,H1,I1,r1,q1⟩=>?_) hs rfl))
 obtain⟨j,e,q1,q2,q⟩:=q1
 subst e
 cases r1 with
 |cons r rr=>
  cases rr
  obtain⟨t,rfl⟩:=r
  exact call_range_1 (TJ I1 (by omega) (by omega) q1 q2 (by simpa using q))
def afz (wi:TI) (g:TG) (tb:TS):TS:=fun D σ H=>wi σ H fun J H1=>∃ W:Nat->Nat->St->Hp->Prop,(∃ m,W 0 m σ H1)/\∀ i m σ H,W i m σ H →
 (J.stop i H/\D.nx σ H)\/(J.go i H/\∃ N:St->Hp->Prop,(∀ σ' H',N σ' H'->∃ m',m' < m/\W (i+1) m' σ' H')/\∀ x H',J.yld i H x H'->g x σ H' fun σ2 H2=>tb { D with nx:=N,ct:=N,bk:=D.nx } σ2 H2)
def rA (fp:List Addr) (h:Heap):List (Addr×Obj):=fp.filterMap fun b=>(h.get? b).map fun o=>(b,o)
theorem lW {fp:List Addr} {h:Heap} {b:Addr} {o:Obj} (hb:b∈fp) (e:h.get? b=some o):(b,o)∈rA fp h:=List.mem_filterMap.mpr ⟨b,hb,by rw[e];rfl⟩
theorem Rc {fp:List Addr} {h:Heap} {p:Addr×Obj} (hp:p∈rA fp h):p.1∈fp/\h.get? p.1=some p.2:=by
 obtain⟨b,hb,e⟩:=List.mem_filterMap.mp hp
 cases q:h.get? b with
 |none=>rw[q] at e;cases e
 |some o=>
  rw[q] at e
  have e':(b,o)=p:=Option.some.inj e
  subst e'
  exact⟨hb,q⟩
theorem Inv.pinned {pins:List (Addr×Obj)} {σ:St} {H:Hp} {s:Shared} {fp:List Addr} (I:Inv X pins σ H s) (hf:∀ b∈fp,uH X pins H b) (ho:∀ b∈fp,∃ o,s.heap.get? b=some o/\∀ v,o.data≠.cell v):Inv X (pins++rA fp s.heap) σ H s:=
 I.Ih fun p hp=>(List.mem_append.mp hp).elim (fun z=>I.pin p (List.mem_append_right _ z)) fun z=>by
  obtain⟨hb,e⟩:=Rc z
  obtain⟨f0,f1,f2,_⟩:=hf p.1 hb
  obtain⟨o,e',d⟩:=ho p.1 hb
  rw[e] at e';cases e'
  exact⟨e,f0,f1,f2,d⟩
theorem Inv.qm {pins pl:List (Addr×Obj)} {σ:St} {H:Hp} {s:Shared} (I:Inv X (pins++pl) σ H s):Inv X pins σ H s:=I.Ih fun p hp=>I.pin p (List.mem_append_right _ (List.mem_append_left _ hp))
theorem TQ {iter:Expr} {body:List Stmt} {wi:TI} {g:TG} {tb:TS} {pos:Pos} (hp:PassesOwn (model X.prog X.w) X.A X.env X.xe) (hc:X.calm=true) (hi:PI X tg iter wi) (hg:PG X tg g) (hb:Px X body tb)
  (hs:∀ x,foldedSetIterable iter X.env x=pure x:=by intro _;rfl):PS X (.For tg iter body [] pos) (afz wi g tb):=by
 intro pins s σ H D I h
 refine wpAny_For (j6 (hi pins s σ H _ I h) fun v s1 h1=>j6 h1 fun itv s2 h2=>?_) hs
 obtain⟨it,fp,tn,J,H2,e,I2,T,st2,f2,W,⟨m0,w0⟩,turn⟩:=h2
 subst e
 have stat:∀ {H':Hp},(∀ b∈fp,H' b=none)->∀ b∈fp,uH X pins H' b:=fun hn b hb=>⟨hn b hb,(f2 b hb).2⟩
 refine codeAny_forLoop_any (fun n s'=>∃ i σ' H',Inv X pins σ' H' s'/\tn i s'.heap/\(∀ b∈fp,H' b=none)/\W i n σ' H') ?_ m0 ⟨0,σ,H2,I2,st2,fun b hb=>(f2 b hb).1,w0⟩
 rintro n s3 ⟨i,σ3,H3,I3,st3,fr3,w3⟩
 rcases turn i n σ3 H3 w3 with⟨stop,qn⟩|⟨go,N,hN,step⟩
 ·refine wpAny_passesOwn hp (j6 (T.done X rfl rfl rfl hc i pins s3 σ3 H3 X.xe I3 (stat fr3) st3 stop) fun r s4 ⟨hr,I4⟩=>?_)
  subst hr
  exact wpAny_execs_nil ⟨σ3,H3,I4,qn⟩
 ·refine wpAny_passesOwn hp (j6 (T.item X rfl rfl rfl hc i pins s3 σ3 H3 X.xe I3 (stat fr3) st3 go) fun r s4 ⟨u,hr,h4⟩=>?_)
  subst hr
  refine wpAny_passesOwn hp (j6 h4 fun _ s5 ⟨x,H5,I5,r5,y5,st5,fr5⟩=>?_)
  have I5':=I5.pinned (stat fr5) (T.obj _ _ st5)
  refine wpAny_passesOwn hp (j6 (hg _ s5 σ3 H5 x u _ I5' r5 (step x H5 y5)) fun _ s6 ⟨σ6,H6,I6,q6⟩=>?_)
  refine wpAny_passesOwn hp (j6 (hb _ s6 σ6 H6 _ I6 q6) fun f s7 q7=>?_)
  have again:∀ {σ7:St} {H7:Hp},Inv X (pins++rA fp s5.heap) σ7 H7 s7->N σ7 H7->∃ m,m < n/\∃ i σ' H',Inv X pins σ' H' s7/\tn i s7.heap/\(∀ b∈fp,H' b=none)/\W i m σ' H':=fun {σ7 H7} I7 n7=>by
   obtain⟨m',hm,w7⟩:=hN σ7 H7 n7
   refine⟨m',hm,i+1,σ7,H7,I7.qm,T.keep _ _ _ st5 fun b hb o e=>(I7.pin (b,o) (List.mem_append_right _ (List.mem_append_right _ (lW hb e)))).1,fun b hb=>?_,w7⟩
   obtain⟨o,e,d⟩:=T.obj _ _ st5 b hb
   exact (I7.pin (b,o) (List.mem_append_right _ (List.mem_append_right _ (lW hb e)))).2.1
  cases f with
  |next=>obtain⟨σ7,H7,I7,n7⟩:=q7;exact again I7 n7
  |cont=>obtain⟨σ7,H7,I7,n7⟩:=q7;exact again I7 n7
  |brk=>obtain⟨σ7,H7,I7,q7⟩:=q7;exact⟨σ7,H7,I7.qm,q7⟩
  |ret v=>obtain⟨x7,σ7,H7,I7,r7,q7⟩:=q7;exact⟨x7,σ7,H7,I7.qm,r7,q7⟩
end
end L2
namespace L2
open PySem PySem.Spec PyProof.Rows
abbrev R2:=V->V->Hp->VK->Prop
def wR (X:Cx) (f:Value->Value->Sem Value) (r:R2):Prop:=
 ∀ (pins:List (Addr×Obj)) (s:Shared) (σ:St) (H:Hp) (x y:V) (v u:Value) (Q:VK),Inv X pins σ H s->RelV x v->RelV y u->r x y H Q →
  wpAny (model X.prog X.w) X.A (f v u) (EP X pins σ Q) X.xe s
def ZX (X:Cx) (f:Value->Sem Value) (r:V->Hp->VK->Prop):Prop:=
 ∀ (pins:List (Addr×Obj)) (s:Shared) (σ:St) (H:Hp) (x:V) (v:Value) (Q:VK),Inv X pins σ H s->RelV x v->r x H Q →
  wpAny (model X.prog X.w) X.A (f v) (EP X pins σ Q) X.xe s
def jq (X:Cx) (f:Value) (r:List V->Hp->VK->Prop):Prop:=
 ∀ (pins:List (Addr×Obj)) (s:Shared) (σ:St) (H:Hp) (xs:List V) (us:List Value) (Q:VK),Inv X pins σ H s->Vals xs us->r xs H Q →
  wpAny (model X.prog X.w) X.A (call f us) (EP X pins σ Q) X.xe s
def afB (X:Cx) (r:V->Hp->(Bool->Hp->Prop)->Prop):Prop:=
 ∀ (pins:List (Addr×Obj)) (s:Shared) (σ:St) (H:Hp) (x:V) (v:Value) (Q:Bool->Hp->Prop),Inv X pins σ H s->RelV x v->r x H Q →
  wpAny (model X.prog X.w) X.A (truthy v) (TP X pins σ Q) X.xe s
def tOp (r:R2) (ta tb:TE):TE:=fun σ H Q=>ta σ H fun x H1=>tb σ H1 fun y H2=>r x y H2 Q
def tUn (r:V->Hp->VK->Prop) (ta:TE):TE:=fun σ H Q=>ta σ H fun x H1=>r x H1 Q
def rI (C:Int->Int->Prop) (g:Int->Int->V):R2:=fun x y H Q=>∃ i j,x=.int i/\y=.int j/\C i j/\Q (g i j) H
def rI0 (g:Int->Int->V):R2:=fun x y H Q=>∃ i j,x=.int i/\y=.int j/\Q (g i j) H
def rU (g:Int->V):V->Hp->VK->Prop:=fun x H Q=>∃ i,x=.int i/\Q (g i) H
section
variable {X:Cx} {a b c:Expr} {ta tb tc:TE} {pos:Pos}
theorem aaU (ha:PE X a ta) (hb:PE X b tb) {pins:List (Addr×Obj)} {s:Shared} {σ:St} {H:Hp} {R:V->V->Hp->Prop} (I:Inv X pins σ H s)
  (h:ta σ H fun x H1=>tb σ H1 fun y H2=>R x y H2) {Q:Value->Shared->Prop} {f:Value->Value->Sem Value}
  (hf:∀ v u s2 x y H2,Inv X pins σ H2 s2->RelV x v->RelV y u->R x y H2->wpAny (model X.prog X.w) X.A (f v u) Q X.xe s2) :
  wpAny (model X.prog X.w) X.A (eval a X.env) (fun v s₁=>wpAny (model X.prog X.w) X.A (eval b X.env) (fun u s₂=>wpAny (model X.prog X.w) X.A (f v u) Q X.xe s₂) X.xe s₁) X.xe s:=by
 refine j6 (ha pins s σ H _ I h) fun v s1 ⟨x,H1,I1,r1,q1⟩=>?_
 refine j6 (hb pins s1 σ H1 _ I1 q1) fun u s2 ⟨y,H2,I2,r2,q2⟩=>?_
 exact hf v u s2 x y H2 I2 r1 r2 q2
theorem adB {op:Operator} {r:R2} (ho:wR X (binaryOp op) r) (ha:PE X a ta) (hb:PE X b tb):PE X (.BinOp a op b pos) (tOp r ta tb):=by
 intro pins s σ H Q I h
 exact wpAny_BinOp (aaU ha hb I h fun v u s2 x y H2 I2 rx ry q=>ho pins s2 σ H2 x y v u Q I2 rx ry q)
theorem adC {op:UnaryOp} {r:V->Hp->VK->Prop} (ho:ZX X (unaryOp op) r) (ha:PE X a ta):PE X (.UnaryOp op a pos) (tUn r ta):=by
 intro pins s σ H Q I h
 exact UnaryOp_ (j6 (ha pins s σ H _ I h) fun v s1 ⟨x,H1,I1,r1,q1⟩=>ho pins s1 σ H1 x v Q I1 r1 q1)
theorem opI {f:Value->Value->Sem Value} {C:Int->Int->Prop} {g:Int->Int->Int}
  (rule:∀ (i j:Int) (t u:Tok) (s:Shared) (Q:Value->Shared->Prop) (E:Value->Shared->Prop),C i j->Q (.int (g i j) s.toks) { s with toks:=s.toks+1 }->wpAny (model X.prog X.w) X.A (f (.int i t) (.int j u)) Q E s) :
  wR X f (rI C fun i j=>.int (g i j)):=by
 intro pins s σ H x y v u Q I rx ry h
 obtain⟨i,j,rfl,rfl,hc,q⟩:=h
 obtain⟨t,rfl⟩:=rx
 obtain⟨t',rfl⟩:=ry
 exact rule i j t t' s _ _ hc ⟨.int (g i j),H,I.tok _,⟨_,rfl⟩,q⟩
theorem adD {f:Value->Value->Sem Value} {g:Int->Int->Int}
  (rule:∀ (i j:Int) (t u:Tok) (s:Shared) (Q:Value->Shared->Prop) (E:Value->Shared->Prop),Q (.int (g i j) s.toks) { s with toks:=s.toks+1 }->wpAny (model X.prog X.w) X.A (f (.int i t) (.int j u)) Q E s) :
  wR X f (rI0 fun i j=>.int (g i j)):=by
 intro pins s σ H x y v u Q I rx ry h
 obtain⟨i,j,rfl,rfl,q⟩:=h
 obtain⟨t,rfl⟩:=rx
 obtain⟨t',rfl⟩:=ry
 exact rule i j t t' s _ _ ⟨.int (g i j),H,I.tok _,⟨_,rfl⟩,q⟩
theorem aaV {f:Value->Value->Sem Value} {g:Int->Int->Bool}
  (rule:∀ (i j:Int) (t u:Tok) (s:Shared) (Q:Value->Shared->Prop) (E:Value->Shared->Prop),Q (.bool (g i j)) s->wpAny (model X.prog X.w) X.A (f (.int i t) (.int j u)) Q E s) :
  wR X f (rI0 fun i j=>.bl (g i j)):=by
 intro pins s σ H x y v u Q I rx ry h
 obtain⟨i,j,rfl,rfl,q⟩:=h
 obtain⟨t,rfl⟩:=rx
 obtain⟨t',rfl⟩:=ry
 exact rule i j t t' s _ _ ⟨.bl (g i j),H,I,rfl,q⟩
def afC (i j:Int):Prop:=0 < j/\j < 1073741824
def afD (i j:Int):Prop:=0<=j/\j<=1000000/\i.natAbs < 2 ^ 64
def aaW (i j:Int):Prop:=(-(2 ^ 64) < i/\i < 2 ^ 64)\/(-(2 ^ 64) < j/\j < 2 ^ 64)
theorem aaW.ok {i j:Int} (h:aaW i j):IntMulOk i j:=by
 rcases h with⟨h1,h2⟩|⟨h1,h2⟩
 ·exact .of_left (intBits_le_64 h1 h2)
 ·exact .of_right (intBits_le_64 h1 h2)
theorem aaX:wR X (binaryOp .Add) (rI0 fun i j=>.int (i+j)):=adD fun _ _ _ _ _ _ _ q=>add_int q
theorem aaY:wR X (binaryOp .Sub) (rI0 fun i j=>.int (i - j)):=adD fun _ _ _ _ _ _ _ q=>sub_int q
theorem aaZ:wR X (binaryOp .Mult) (rI aaW fun i j=>.int (i * j)):=opI fun _ _ _ _ _ _ _ hc q=>mul_int q hc.ok
theorem Xh:wR X (binaryOp .FloorDiv) (rI afC fun i j=>.int (i / j)):=opI fun i j _ _ _ _ _ hc q=>by
 have h1:(0:Int) < j:=hc.1
 have h2:j < 1073741824:=hc.2
 exact floordiv_int (by omega) (by rw[Int.fdiv_eq_ediv_of_nonneg i (by omega)];exact q) (.inl (PyProof.noPylong_small (by omega)))
theorem aa0:wR X (binaryOp .Mod) (rI (fun _ j=>0 < j) fun i j=>.int (i % j)):=opI fun i j _ _ _ _ _ hc q=>by
 have h1:(0:Int) < j:=hc
 exact mod_int' (by omega) (by rw[Int.fmod_eq_emod_of_nonneg i (by omega)];exact q)
theorem aa1:wR X (binaryOp .Pow) (rI afD fun i j=>.int (i ^ j.toNat)):=opI fun _ _ _ _ _ _ _ hc q=>pow_int_small hc.1 hc.2.1 hc.2.2 q
theorem unI {f:Value->Sem Value} {g:Int->Int}
  (rule:∀ (i:Int) (t:Tok) (s:Shared) (Q:Value->Shared->Prop) (E:Value->Shared->Prop),Q (.int (g i) s.toks) { s with toks:=s.toks+1 }->wpAny (model X.prog X.w) X.A (f (.int i t)) Q E s) :
  ZX X f (rU fun i=>.int (g i)):=by
 intro pins s σ H x v Q I rx h
 obtain⟨i,rfl,q⟩:=h
 obtain⟨t,rfl⟩:=rx
 exact rule i t s _ _ ⟨.int (g i),H,I.tok _,⟨_,rfl⟩,q⟩
theorem aa2:ZX X (unaryOp .USub) (rU fun i=>.int (-i)):=unI fun _ _ _ _ _ q=>neg_int q
end
section
variable {X:Cx} {a b c:Expr} {ta tb tc:TE} {pos:Pos}
theorem TV {pins:List (Addr×Obj)} {σ:St} {H:Hp} {s:Shared} {Q:VK} {k k':Bool} (I:Inv X pins σ H s) (q:Q (.bl k) H) (e:k=k'):EP X pins σ Q (.bool k') s:=by
 subst e
 exact⟨.bl k,H,I,rfl,q⟩
theorem adE:wR X (compareOp .Lt) (rI0 fun i j=>.bl (decide (i < j))):=aaV fun _ _ _ _ _ _ _ q=>lt_int q
theorem adF:wR X (compareOp .Gt) (rI0 fun i j=>.bl (decide (j < i))):=aaV fun _ _ _ _ _ _ _ q=>gt_int q
theorem adG:wR X (compareOp .GtE) (rI0 fun i j=>.bl (decide (j<=i))):=aaV fun _ _ _ _ _ _ _ q=>ge_int q
theorem Rf:wR X (compareOp .In) (fun x y H Q=>∃ i j,x=.str i/\y=.str j/\Q (.bl (!(Builtin.Str.occurrences j i 0 j.length 1).isEmpty)) H):=by
 intro pins s σ H x y v u Q I rx ry h
 obtain⟨i,j,rfl,rfl,q⟩:=h
 obtain⟨t,rfl⟩:=rx
 obtain⟨t',rfl⟩:=ry
 exact in_str (TV I q rfl)
theorem aa3:wR X (compareOp .Is) (fun x y H Q=>y=.non/\Q (.bl (decide (x=.non))) H):=by
 intro pins s σ H x y v u Q I rx ry h
 obtain⟨rfl,q⟩:=h
 cases ry
 refine is_none_gen (TV I q ?_)
 cases x<;>first
  |(cases rx;rfl)
  |(obtain⟨t,rfl⟩:=rx;rfl)
theorem wR.or {f:Value->Value->Sem Value} {r r':R2} (h:wR X f r) (h':wR X f r'):wR X f (fun x y H Q=>r x y H Q\/r' x y H Q):=by
 intro pins s σ H x y v u Q I rx ry q
 rcases q with q|q
 ·exact h pins s σ H x y v u Q I rx ry q
 ·exact h' pins s σ H x y v u Q I rx ry q
theorem fY (b:Expr) {op:CmpOp} (h:op≠.In:=by decide) (h2:op≠.NotIn:=by decide):behindInMarks op b=false:=by
 have e1:(op==CmpOp.In)=false:=by cases op<;>first|rfl|exact absurd rfl h
 have e2:(op==CmpOp.NotIn)=false:=by cases op<;>first|rfl|exact absurd rfl h2
 cases b<;>simp[behindInMarks,e1,e2]
theorem Xi {op:CmpOp} {r:R2} (ho:wR X (compareOp op) r) (ha:PE X a ta) (hb:PE X b tb) (hm:behindInMarks op b=false):PE X (.Compare a [op] [b] pos) (tOp r ta tb):=by
 intro pins s σ H Q I h
 exact wpAny_Compare1 (aaU ha hb I h fun v u s2 x y H2 I2 rx ry q=>ho pins s2 σ H2 x y v u Q I2 rx ry q) hm
def adH (t:TE):TT:=fun σ H Q=>t σ H fun x H'=>∃ k,x=.bl k/\Q k H'
theorem Xj {op:CmpOp} {r:R2} (ho:wR X (compareOp op) r) (ha:PE X a ta) (hb:PE X b tb) (hm:behindInMarks op b=false):PT X (.Compare a [op] [b] pos) (adH (tOp r ta tb)):=by
 intro pins s σ H Q I h
 refine wpAny_isTrue_Compare1 (j6 (ha pins s σ H _ I h) fun v s1 ⟨x,H1,I1,r1,q1⟩=>j6 (hb pins s1 σ H1 _ I1 q1) fun u s2 ⟨y,H2,I2,r2,q2⟩=>
  j6 (ho pins s2 σ H2 x y v u _ I2 r1 r2 q2) fun c s3 ⟨z,H3,I3,r3,k,e,q3⟩=>?_) hm
 subst e
 cases r3
 exact wpAny_truthy_bool ⟨H3,I3,q3⟩
def aa4 (K:PySem.W.Frag) (x:V) (H:Hp) (k:Bool):Prop:=
 match x with
 |.non=>k=false
 |.bl b=>k=b
 |.int i=>k=(i != 0)
 |.str y=>y.length<=sizeLine/\k=((y.length:Int) != 0)
 |.byt y=>y.size<=sizeLine/\k=((y.size:Int) != 0)
 |.ref p=>(∃ xs,uz K H p xs/\k=!xs.isEmpty)\/(∃ xs,wD K H p xs/\k=!xs.isEmpty)\/∃ kvs,H p=some (.dK kvs)/\k=!kvs.isEmpty
 |_=>False
theorem Nr {κ:Type} {kvs:List (κ×V)} {vs:List (κ×Value)} (r:KV kvs vs):(!vs.isEmpty)=!kvs.isEmpty:=by
 cases r<;>rfl
theorem Cj {xs:List V} {its:List Value} (r:Vals xs its):(!its.toArray.isEmpty)=!xs.isEmpty:=by
 cases r<;>simp
theorem zc:(sizeLine:Nat) < 2 ^ 63:=by rw[sizeLine_eq];decide
theorem aa5:afB X (fun x H Q=>∃ k,aa4 X.K x H k/\Q k H):=by
 intro pins s σ H x v Q I rx h
 obtain⟨k,e,q⟩:=h
 have hl:=zc
 have hs:sizeLine=16777216:=sizeLine_eq
 cases x with
 |non=>
  cases rx
  have e':k=false:=e
  subst e'
  exact truthy_none ⟨H,I,q⟩
 |bl b=>
  cases rx
  have e':k=b:=e
  subst e'
  exact wpAny_truthy_bool ⟨H,I,q⟩
 |int i=>
  obtain⟨t,rfl⟩:=rx
  have e':k=(i != 0):=e
  subst e'
  exact PySem.P.truthy_int ⟨H,I,q⟩
 |str y=>
  obtain⟨t,rfl⟩:=rx
  obtain⟨hy,e'⟩:y.length<=sizeLine/\k=((y.length:Int) != 0):=e
  subst e'
  exact PySem.P.truthy_str (by omega) ⟨H,I.tok _,q⟩
 |byt y=>
  obtain⟨t,rfl⟩:=rx
  obtain⟨hy,e'⟩:y.size<=sizeLine/\k=((y.size:Int) != 0):=e
  subst e'
  exact PySem.W.truthy_bytes (by omega) ⟨H,I.tok _,q⟩
 |ref p=>
  cases rx
  have e':(∃ xs,uz X.K H p xs/\k=!xs.isEmpty)\/(∃ xs,wD X.K H p xs/\k=!xs.isEmpty)\/∃ kvs,H p=some (.dK kvs)/\k=!kvs.isEmpty:=e
  rcases e' with⟨xs,hx,e'⟩|⟨xs,hx,e'⟩|⟨kvs,hx,e'⟩
  ·subst e'
   obtain⟨its,r,pl,hz⟩:=I.list hx
   have hlen:=r.length
   exact wpAny_truthy_list pl.isList (by simp only[List.size_toArray];omega) ⟨H,I.tok _,by rw[Cj r];exact q⟩
  ·subst e'
   obtain⟨its,r,pl,hz⟩:=I.tuple hx
   have hlen:=r.length
   exact truthy_tuple pl (by simp only[List.size_toArray];omega) ⟨H,I.tok _,by rw[Cj r];exact q⟩
  ·subst e'
   obtain⟨hz,hS,vs,r,m⟩:kvs.length<=sizeLine/\(p==sysModules)=false/\∃ vs,KV kvs vs/\s.heap.DictOf (bU X.prog X.w) p vs:=I.hok p _ hx
   have hlen:kvs.length=vs.length:=Paired.length r
   exact wpAny_truthy_dict hS m (by omega) ⟨H,I.tok _,by rw[Nr r];exact q⟩
 |_=>exact (show False from e).elim
theorem TX (ha:PE X a ta) (he:∀ whole,isTrue a X.env whole=(do let v <-whole;standAt a.pos;holding [v] (truthy v))) :
  PT X a (fun σ H Q=>ta σ H fun x H'=>∃ k,aa4 X.K x H' k/\Q k H'):=by
 intro pins s σ H Q I h
 exact isTrue_plain (j6 (ha pins s σ H _ I h) fun v s1 ⟨x,H1,I1,r1,q1⟩=>aa5 pins s1 σ H1 x v Q I1 r1 q1) (he _)
theorem Nt:wR X (binaryOp .Add) (fun x y H Q=>∃ i j,x=.str i/\y=.str j/\i.length+j.length<=sizeLine/\Q (.str (i++j)) H):=by
 intro pins s σ H x y v u Q I rx ry h
 obtain⟨i,j,rfl,rfl,hz,q⟩:=h
 obtain⟨t,rfl⟩:=rx
 obtain⟨t',rfl⟩:=ry
 exact add_str (fun t' tk=>⟨.str (i++j),H,I.tok _,⟨_,rfl⟩,q⟩) hz
theorem vals1 {x:V} {us:List Value} (r:Vals [x] us):∃ u,us=[u]/\RelV x u:=by
 cases r with
 |cons r1 r2=>cases r2;exact⟨_,rfl,r1⟩
theorem TY:jq X (.builtin "abs") (fun xs H Q=>∃ i,xs=[.int i]/\Q (.int (if i < 0 then -i else i)) H):=by
 intro pins s σ H xs us Q I r h
 obtain⟨i,rfl,q⟩:=h
 obtain⟨u,rfl,t,rfl⟩:=vals1 r
 exact call_abs_int fun u tk=>⟨.int (if i < 0 then -i else i),H,I.tok _,⟨_,rfl⟩,q⟩
theorem Rh:jq X (.type "int") (fun xs H Q=>(∃ i,xs=[.int i]/\Q (.int i) H)\/∃ k,xs=[.bl k]/\Q (.int (if k then 1 else 0)) H):=by
 intro pins s σ H xs us Q I r h
 rcases h with⟨i,rfl,q⟩|⟨k,rfl,q⟩
 ·obtain⟨u,rfl,t,rfl⟩:=vals1 r
  exact call_int_int ⟨.int i,H,I,⟨_,rfl⟩,q⟩
 ·obtain⟨u,rfl,r1⟩:=vals1 r
  cases r1
  exact call_int_bool ⟨.int (if k then 1 else 0),H,I.tok _,⟨_,rfl⟩,q⟩
end
end L2
namespace L2
open PySem PySem.Spec PyProof.Rows
structure aa6 (h:Heap) (x dx C:Addr) (mA:Str->Option Value):Prop where
 obj:h.get? x=some (PySem.W.instObj C dx)
 ns:h.Ns1 dx mA
 ne:dx≠x
theorem Ri {h:Heap} {dx:Addr} {mA:Str->Option Value} (n:h.Ns1 dx mA):∃ od,h.get? dx=some od/\∀ name,PySem.W.lookIn name od=some (mA name):=by
 obtain⟨o,es,ep,ho,hd,hk,_,hm⟩:=n
 refine⟨o,ho,fun name=>?_⟩
 have e:=hm name
 unfold nsFind findBy at e
 rw[<-Array.find?_toList] at e
 unfold PySem.W.lookIn
 rw[hd]
 dsimp only
 split
 ·rename_i y q
  rw[q] at e
  exact congrArg some e
 ·rename_i q
  rw[q] at e
  have a:es.toList.any (·.refKey)=false:=by
   rw[List.any_eq_false]
   intro y hy
   obtain⟨z,t,hkey⟩:=hk y (Array.mem_toList_iff.mp hy)
   simp[DictEntry.refKey,hkey]
  have a':¬ es.toList.any (·.refKey)=true:=by rw[a];exact Bool.false_ne_true
  rw[if_neg a']
  exact congrArg some e
theorem aa6.look {h:Heap} {x dx C:Addr} {mA:Str->Option Value} (I:aa6 h x dx C mA):∃ od,PySem.W.InstAt h x (PySem.W.instObj C dx) C (some od)/\∀ name,PySem.W.lookIn name od=some (mA name):=
 let ⟨od,ho,hl⟩:=Ri I.ns
 ⟨od,⟨I.obj,rfl,rfl,ho⟩,hl⟩
section
variable {prog:Program} {w:World} {A:Around} {E:Value->Shared->Prop} {s:Shared} {K:PySem.W.Frag} {x dx C f:Addr} {mA:Str->Option Value} {name:Str} {v:Value}
end
theorem za.some_of {v:V} {o:Option Value} (r:za (some v) o):∃ u,o=some u/\RelV v u:=by
 cases o with
 |none=>exact (show False from r).elim
 |some u=>exact⟨u,rfl,r⟩
section
variable {P:Program} {w:World} {H H':Hp} {h h':Heap} {a C dx:Addr} {fs fs':List (Str×V)}
theorem Bu (hok:xO P w H h) (e:H a=some (.ins C dx fs)):∃ mA,aa6 h a dx C mA/\(∀ f,za (fs.lookup f) (mA f))/\PySem.Within mA (fs.map (·.1))/\fs.length<=1000/\H dx=some (.own a):=by
 obtain⟨d,z,ne,ob,mA,n,r,q⟩:=(show ji P w H h a (.ins C dx fs) from hok a _ e)
 exact⟨mA,⟨ob,n,ne⟩,r,q,z,d⟩
end
structure Cls (K:PySem.W.Frag) (C:Addr):Prop where
 pg:PySem.W.plainGet K C Str.empty=true
 hd:PySem.W.hasDictIn K C=true
 po:PySem.W.plainOver K C=true
 sa:PySem.W.findIn K (.ref C) "__setattr__" = some (some (.builtin "object.__setattr__"))
theorem Cls.get {K:PySem.W.Frag} {C:Addr} (c:Cls K C) (f:Str):PySem.W.plainGet K C f=true:=c.pg
section
variable {X:Cx} {pins:List (Addr×Obj)} {σ:St} {H:Hp} {s:Shared} {a C dx:Addr} {fs:List (Str×V)} {f:Str} {v:V} {A:Around} {E:Value->Shared->Prop}
theorem Inv.made (I:Inv X pins σ H s):Inv X pins σ (upd (upd H s.heap.objs.size (.own (s.heap.objs.size+1))) (s.heap.objs.size+1) (.ins C s.heap.objs.size []))
  { s with heap:=(s.heap.push PySem.W.emptyDict).push (PySem.W.instObj C s.heap.objs.size) }:=by
 have e1:(s.heap.push PySem.W.emptyDict).get? s.heap.objs.size=some PySem.W.emptyDict:=Heap.get?_push_size s.heap rfl
 have e2:((s.heap.push PySem.W.emptyDict).push (PySem.W.instObj C s.heap.objs.size)).get? (s.heap.objs.size+1)=some (PySem.W.instObj C s.heap.objs.size):=by
  have:=Heap.get?_push_size (s.heap.push PySem.W.emptyDict) (o:=PySem.W.instObj C s.heap.objs.size) rfl
  rwa [Heap.size_push] at this
 have e3:(s.heap.push PySem.W.emptyDict).Ns s.heap.objs.size (fun _=>none):=⟨PySem.W.emptyDict,#[],_,e1,rfl,(fun e he=>absurd he (by simp)),fun _=>rfl⟩
 have I1:=I.laid (a:=s.heap.objs.size) (o:=.own (s.heap.objs.size+1)) (h':=s.heap.push PySem.W.emptyDict) (t':=s.toks) (fun b u q=>Heap.get?_push_of_some _ q) (Nat.le_refl _) ⟨_,e1⟩
 refine I1.laid (a:=s.heap.objs.size+1) (o:=.ins C s.heap.objs.size []) (t':=s.toks) (fun b u q=>Heap.get?_push_of_some _ q) (Nat.le_of_eq (Heap.size_push _ _)) ?_
 have ne:s.heap.objs.size≠s.heap.objs.size+1:=Nat.ne_of_lt (Nat.lt_succ_self _)
 refine⟨by rw[aU ne,cG],Nat.zero_le _,ne,e2,fun _=>none,(Heap.Ns1.of_empty e3).at fun o q=>Heap.get?_push_of_some _ q,fun _=>True.intro,fun y hy=>absurd rfl hy⟩
end
section
variable {X:Cx} {o e value:Expr} {f:Str} {pos pos' tpos:Pos} {ta tv:TE}
end
section
variable {X:Cx} {pins:List (Addr×Obj)} {σ:St} {H:Hp} {s:Shared} {A:Around} {E:Value->Shared->Prop} {Q:Value->Shared->Prop} {c:Value} {b:Bool}
end
end L2
namespace L2
open PySem PySem.Spec PyProof.Rows
structure kJ (k:Nat) (A:Around):Prop where
 hd:A.handled=none
 dp:A.depth+3 * k+5 < recursionLimit
 un:A.units+16 * k+200 < cLine
theorem kJ.mono {j k:Nat} {A:Around} (r:kJ k A) (h:j<=k):kJ j A:=⟨r.hd,by have:=r.dp;omega,by have:=r.un;omega⟩
theorem kJ.deeper {k:Nat} {A:Around} (r:kJ (k+1) A) (env:Env):kJ k (A.deeper env):=
 ⟨r.hd,by have:=r.dp;show A.depth+1+3 * k+5 < _;omega,by have:=r.un;show A.units+3+16 * k+200 < _;omega⟩
theorem kJ.in1 {k:Nat} {A:Around} (r:kJ (k+1) A):kJ k A.in1:=
 ⟨r.hd,by have:=r.dp;show A.depth+3 * k+5 < _;omega,by have:=r.un;show A.units+1+16 * k+200 < _;omega⟩
theorem kJ.depth {k:Nat} {A:Around} (r:kJ k A):A.depth < recursionLimit:=by have:=r.dp;omega
theorem kJ.units {k:Nat} {A:Around} (r:kJ k A):A.units+64 < cLine:=by have:=r.un;omega
def afE:TA:=fun _ H Q=>Q [] H
def adI (ta:TE) (tr:TA):TA:=fun σ H Q=>ta σ H fun x H1=>tr σ H1 fun xs H2=>Q (x::xs) H2
section
variable {X:Cx} {e:Expr} {es:List Expr} {te:TE} {t:TA} {pos:Pos}
theorem Ii:PA X [] afE:=fun _ _ _ _ H Q I h=>Calls.spliced_nil ⟨[],H,I,.nil,h⟩
theorem xR (ha:PE X e te) (hr:PA X es t) (hs:starEach (e::es) X.env=(false,eval e X.env)::starEach es X.env:=by rfl):PA X (e::es) (adI te t):=by
 intro pos pins s σ H Q I h
 rw[hs]
 show wpAny _ _ (spliced ((false,eval e X.env)::backTo pos (starEach es X.env))) _ _ s
 refine Calls.spliced_cons (j6 (ha pins s σ H _ I h) fun u s1 ⟨x,H1,I1,r1,q1⟩=>?_)
 exact j6 (hr pos pins s1 σ H1 _ I1 q1) fun us s2 ⟨xs,H2,I2,r2,q2⟩=>⟨x::xs,H2,I2,.cons r1 r2,q2⟩
def afF (t:TA):TE:=fun σ H Q=>t σ H fun xs H1=>xs.length<=sizeLine/\∀ p,H1 p=none->Q (.ref p) (upd H1 p (.tup xs))
def afG (t:TA):TE:=fun σ H Q=>t σ H fun xs H1=>xs.length<=sizeLine/\∀ p,H1 p=none->Q (.ref p) (upd H1 p (.lst xs))
theorem aa7 {x1} (h:PA X es t):PE X (.Tuple es x1 pos) (afF t):=by
 intro pins s σ H Q I hq
 refine wpAny_Tuple_spliced (j6 (h pos pins s σ H _ I hq) fun us s1 ⟨xs,H1,I1,r,z,q⟩=>⟨by rw[<-r.length];exact z,?_⟩)
 have hf:H1 s1.heap.objs.size=none:=I1.hok.fresh (Nat.le_refl _)
 refine⟨.ref s1.heap.objs.size,upd H1 s1.heap.objs.size (.tup xs),I1.laid (t':=s1.toks) (fun b u e=>Heap.get?_push_of_some _ e) (Nat.le_refl _) ?_,rfl,q _ hf⟩
 exact⟨z,us,r,⟨_,Heap.get?_push_size _ rfl,rfl,⟨_,rfl⟩,rfl⟩⟩
theorem aa8 (h:PA X es t):PE X (.List es pos) (afG t):=by
 intro pins s σ H Q I hq
 refine wpAny_List_spliced (j6 (h pos pins s σ H _ I hq) fun us s1 ⟨xs,H1,I1,r,z,q⟩=>⟨by rw[<-r.length];exact z,?_⟩)
 have hf:H1 s1.heap.objs.size=none:=I1.hok.fresh (Nat.le_refl _)
 refine⟨.ref s1.heap.objs.size,upd H1 s1.heap.objs.size (.lst xs),I1.laid (t':=s1.toks) (fun b u e=>Heap.get?_push_of_some _ e) (Nat.le_refl _) ?_,rfl,q _ hf⟩
 exact⟨z,us,0,r,Heap.get?_push_size _ rfl⟩
end
abbrev Sp:=List V->Hp->VK->XK->Prop
abbrev PK:=List Env->Hp->Shared->XK->Value->Shared->Prop
structure Nu (P:Program) (w:World) (K:PySem.W.Frag) (mg:Str->Option Value) (base:Heap) (A:Around) (outer:List Env) (s:Shared) (H:Hp):Prop where
 frames:A.frames=some outer
 mod:Mod K mg base
 bs:∀ b o,base.get? b=some o->s.heap.get? b=some o/\H b=none
 Xb:base.objs.size<=s.heap.objs.size
 Ao:s.heap.FunFrames base outer
 frf:∀ b∈frs outer,H b=none
 hok:xO P w H s.heap
 bare:AllBare s.gens
def CE (outer:List Env) (P:Program) (w:World) (H:Hp) (s:Shared) (Q:VK) (u:Value) (s':Shared):Prop:=
 ∃ v H',s'.os=s.os/\AllBare s'.gens/\Un (frs outer) [] H H' s.heap s'.heap/\xO P w H' s'.heap/\RelV v u/\Q v H'
def CR (CX:PK) (outer:List Env) (P:Program) (w:World) (H:Hp) (s:Shared) (Q:VK) (E:XK) (r:Result) (s':Shared):Prop:=
 match r with
 |.ok (.ret u)=>CE outer P w H s Q u s'
 |.ok _=>False
 |.error e=>CX outer H s E e s'
structure fG (P:Program) (w:World) (K:PySem.W.Frag) (mg:Str->Option Value) (base:Heap) (CX:PK) (k:Nat) (f:Addr) (fd:FuncData) (ps:List Str) (sp:Sp):Prop where
 len:∀ vs H Q E,sp vs H Q E->vs.length=ps.length
 run:∀ (A:Around) (outer:List Env) (s:Shared) (H:Hp) (args:Args) (us:List Value) (vs:List V) (Q:VK) (E:XK),kJ k A->Nu P w K mg base A outer s H->BindsTo s fd args (ps.zip us)->Vals vs us->sp vs H Q E →
  codeAny (model P w) A (.call (.ref f) args) (CR CX outer P w H s Q E) s
theorem fG.mono {P:Program} {w:World} {K:PySem.W.Frag} {mg:Str->Option Value} {base:Heap} {CX:PK} {j k:Nat} {f:Addr} {fd:FuncData} {ps:List Str} {sp:Sp} (F:fG P w K mg base CX j f fd ps sp) (h:j<=k) :
  fG P w K mg base CX k f fd ps sp:=⟨F.len,fun A outer s H args us vs Q E hr=>F.run A outer s H args us vs Q E (hr.mono h)⟩
theorem fG.imp {P:Program} {w:World} {K:PySem.W.Frag} {mg:Str->Option Value} {base:Heap} {CX:PK} {k:Nat} {f:Addr} {fd:FuncData} {ps:List Str} {sp sp':Sp} (F:fG P w K mg base CX k f fd ps sp)
  (h:∀ vs H Q E,sp' vs H Q E->sp vs H Q E):fG P w K mg base CX k f fd ps sp':=
 ⟨fun vs H Q E q=>F.len vs H Q E (h _ _ _ _ q),fun A outer s H args us vs Q E hr he hb hv hs=>F.run A outer s H args us vs Q E hr he hb hv (h _ _ _ _ hs)⟩
theorem Nu.in1 {P:Program} {w:World} {K:PySem.W.Frag} {mg:Str->Option Value} {base:Heap} {A:Around} {outer:List Env} {s:Shared} {H:Hp} (e:Nu P w K mg base A outer s H) :
  Nu P w K mg base A.in1 outer s H:=⟨e.frames,e.mod,e.bs,e.Xb,e.Ao,e.frf,e.hok,e.bare⟩
section
variable {X:Cx} {pins:List (Addr×Obj)} {σ:St} {H:Hp} {s s':Shared}
theorem Inv.env0 (I:Inv X pins σ H s):Nu X.prog X.w X.K X.mg X.base X.A X.stack s H:=
 ⟨I.ok.frames,I.ok.mod,I.bs,Nat.le_trans I.ok.Xb I.sz,I.stack,I.Pu,I.hok,I.bare⟩
theorem Inv.after {Q:VK} {u:Value} (I:Inv X pins σ H s) (h:CE X.stack X.prog X.w H s Q u s'):EP X pins σ Q u s':=by
 obtain⟨v,H',os,bare,un,hok,r,q⟩:=h
 obtain⟨hh,g,d,t,os'⟩:=s'
 obtain rfl:os'=s.os:=os
 exact⟨v,H',I.call (h':=hh) (g':=g) (d':=d) (t':=t) (ch:=[]) un hok bare (fun b z=>absurd z (by simp)),r,q⟩
end
def adJ (sp:Sp) (Z0:List V) (E:XK) (t:TA):TE:=fun σ H Q=>t σ H fun vs H1=>sp (vs++Z0) H1 Q E
def Binds (K:PySem.W.Frag) (fd:FuncData) (ps:List Str) (ds:List Value):Prop:=
 ∀ (s:Shared) (us:List Value),K.In s.heap->(us++ds).length=ps.length->BindsTo s fd ⟨us,[]⟩ (ps.zip (us++ds))
theorem Binds.all {K:PySem.W.Frag} {fd:FuncData} {ps:List Str} (h:∀ us:List Value,us.length=ps.length->bindArgs fd ⟨us,[]⟩=pure (ps.zip us)):Binds K fd ps []:=fun s us _ hl=>by
 rw[List.append_nil] at hl ⊢
 exact .of_eq (h us hl)
def Passes (CX:PK) (X:Cx) (E:XK):Prop:=∀ (pins:List (Addr×Obj)) (σ:St) (H:Hp) (s:Shared) (e:Value) (s':Shared),Inv X pins σ H s->CX X.stack H s E e s'->X.xe e s'
section
variable {X:Cx} {CX:PK} {k:Nat} {f C:Addr} {fd:FuncData} {ps:List Str} {sp:Sp} {Z0:List V} {ds:List Value} {E:XK} {x m:Str} {p pos apos:Pos} {e o:Expr} {es:List Expr} {ta:TE} {t:TA}
theorem aa9 {pins:List (Addr×Obj)} {σ:St} {H:Hp} {s:Shared} {Q:VK} {us:List Value} {vs:List V} (F:fG X.prog X.w X.K X.mg X.base CX k f fd ps sp) (hr:kJ k X.A) (hb:Binds X.K fd ps ds) (hd:Vals Z0 ds) (hx:Passes CX X E)
  (I:Inv X pins σ H s) (r:Vals vs us) (h:sp (vs++Z0) H Q E):wpAny (model X.prog X.w) X.A (call (.ref f) us) (EP X pins σ Q) X.xe s:=by
 have r2:Vals (vs++Z0) (us++ds):=r.append hd
 have hl:(us++ds).length=ps.length:=by rw[<-r2.length];exact F.len _ _ _ _ h
 refine wpAny_call (codeAny_mono (F.run X.A X.stack s H ⟨us,[]⟩ (us++ds) (vs++Z0) Q E hr I.env0 (hb s us I.kIn hl) r2 h) fun r s' hq=>?_)
 cases r with
 |error e=>exact hx pins σ H s e s' I hq
 |ok fl=>
  cases fl with
  |ret u=>exact I.after hq
  |next=>exact False.elim hq
  |brk=>exact False.elim hq
  |cont=>exact False.elim hq
theorem PL (F:fG X.prog X.w X.K X.mg X.base CX k f fd ps sp) (hr:kJ k X.A) (hg:Gl X x) (hm:X.mg x=some (.ref f)) (hk:PySem.W.keepIn X.K (.ref f)=true) (hb:Binds X.K fd ps ds) (hd:Vals Z0 ds) (hx:Passes CX X E)
  (ha:PA X (e::es) t) (hdb:(x==("__debug__" : Str))=false:=by decide) (he:starEach (e::es) X.env=(false,eval e X.env)::starEach es X.env:=by rfl) (hpl:(backTo pos (starEach es X.env)).any (·.1)=false:=by rfl) :
  PE X (.Call (.Name x p) (e::es) [] pos) (adJ sp Z0 E t):=by
 intro pins s σ H Q I h
 refine wpAny_Call_Name_kw (Xd I hg hm ?_ hdb)
 refine PySem.W.callWith_K (h₀:=X.base) I.ok.mod.kin hk (j6 (ha pos pins s σ H _ I h) fun us s1 ⟨vs,H1,I1,r,q⟩=>⟨I1.kIn,?_⟩) he hpl
 exact aa9 F hr hb hd hx I1 r q
end
section
variable {X:Cx} {CX:PK} {k:Nat} {f C:Addr} {fd:FuncData} {ps ks:List Str} {sp:Sp} {E:XK} {x m:Str} {p pos apos kpos:Pos} {e o:Expr} {es:List Expr} {kws:List Keyword} {te ta:TE} {t tk:TA} {nm:Option Str}
variable {g:List Value->List Value->List Value} {gV:List V->List V->List V}
end
structure fB (N P:List Str) (sc:Scope):Prop where
 kind:sc.kind=.function
 co:sc.isCoroutine=false
 gen:sc.isGenerator=false
 nd:N.Nodup
 pre:N.take P.length=P
 par:∀ x∈P,sc.names.lookup x=some .local\/sc.names.lookup x=some .cell
 abb:∀ y∈sc.names,y.2≠.free
theorem GX {kindOf:Str->Option NameKind} {x:Str}:∀ {binds:List (Str×Value)} {m:Str->Option Value},(∀ v,(x,v)∉binds)->bindL kindOf binds m x=m x
 |[],_,_=>rfl
 |(n,v)::r,m,h=>by
  unfold bindL
  rw[GX fun w hw=>h w (List.mem_cons_of_mem _ hw)]
  split
  ·have:x≠n:=by rintro rfl;exact h v List.mem_cons_self
   simp[this]
  ·rfl
theorem GZ {kindOf:Str->Option NameKind} {x:Str}:∀ {binds:List (Str×Value)} {m:Str->Option Value},(∀ v,(x,v)∉binds)->bindC kindOf binds m x=m x
 |[],_,_=>rfl
 |(n,v)::r,m,h=>by
  unfold bindC
  rw[GZ fun w hw=>h w (List.mem_cons_of_mem _ hw)]
  split
  ·rfl
  ·have:x≠n:=by rintro rfl;exact h v List.mem_cons_self
   simp[this]
theorem G3 {kindOf:Str->Option NameKind} {x:Str} {v:Value}:∀ {P:List Str} {vs:List Value} {i:Nat} {m:Str->Option Value},P.Nodup->P[i]?=some x->vs[i]?=some v->kindOf x=some .local →
  bindL kindOf (P.zip vs) m x=some v
 |[],_,_,_,_,h,_,_=>by simp at h
 |_::_,[],_,_,_,_,h,_=>by simp at h
 |p::P,w::vs,0,m,nd,h1,h2,hk=>by
  simp at h1 h2;subst h1;subst h2
  show bindL kindOf ((p,w)::P.zip vs) m p=_
  unfold bindL
  rw[GX fun v hv=>(List.nodup_cons.mp nd).1 (List.of_mem_zip hv).1,if_pos hk]
  simp
 |p::P,w::vs,i+1,m,nd,h1,h2,hk=>by
  show bindL kindOf ((p,w)::P.zip vs) m x=_
  unfold bindL
  exact G3 (i:=i) (List.nodup_cons.mp nd).2 (by simpa using h1) (by simpa using h2) hk
theorem G4 {kindOf:Str->Option NameKind} {x:Str} {v:Value}:∀ {P:List Str} {vs:List Value} {i:Nat} {m:Str->Option Value},P.Nodup->P[i]?=some x->vs[i]?=some v->kindOf x≠some .local →
  bindC kindOf (P.zip vs) m x=some v
 |[],_,_,_,_,h,_,_=>by simp at h
 |_::_,[],_,_,_,_,h,_=>by simp at h
 |p::P,w::vs,0,m,nd,h1,h2,hk=>by
  simp at h1 h2;subst h1;subst h2
  show bindC kindOf ((p,w)::P.zip vs) m p=_
  unfold bindC
  rw[GZ fun v hv=>(List.nodup_cons.mp nd).1 (List.of_mem_zip hv).1,if_neg hk]
  simp
 |p::P,w::vs,i+1,m,nd,h1,h2,hk=>by
  show bindC kindOf ((p,w)::P.zip vs) m x=_
  unfold bindC
  exact G4 (i:=i) (List.nodup_cons.mp nd).2 (by simpa using h1) (by simpa using h2) hk
def start (N:List Str) (vs:List V):St:=vs.map some++List.replicate (N.length - vs.length) none
def Fz (CX:PK) (P:Program) (w:World) (K:PySem.W.Frag) (mg:Str->Option Value) (base:Heap) (N:List Str) (qual:Str) (scope:Scope) (f:Addr) (cd:Value) (A:Around) (outer:List Env) (s:Shared) (H:Hp) (E:XK):Cx where
 prog:=P
 w:=w
 K:=K
 mg:=mg
 base:=base
 A:=A.deeper (envOfC qual scope s.heap.objs.size f cd)
 N:=N
 s₀:=s
 H₀:=H
 env:=envOfC qual scope s.heap.objs.size f cd
 outer:=outer
 stack:=envOfC qual scope s.heap.objs.size f cd::outer
 ex:=[]
 calm:=true
 fn:=fun _=>true
 pn:=[]
 xe:=fun e s'=>wpAny (model P w) (A.deeper (envOfC qual scope s.heap.objs.size f cd)) (leaving (envOfC qual scope s.heap.objs.size f cd) e) (fun _ s''=>CX outer H s E e s'') (fun e' s''=>CX outer H s E e' s'') s'
theorem Ky {sc:Scope} {n:Nat} {x:Str} (h:sc.names.lookup x=some .cell):∃ c,(cellsFrom n sc.names []).lookup x=some c:=by
 have q:=PySem.W.cellsFrom_some sc.names n [] (.inl h)
 exact Option.isSome_iff_exists.mp q
theorem Rj {CX:PK} {P:Program} {w:World} {K:PySem.W.Frag} {mg:Str->Option Value} {base:Heap} {N ps:List Str} {qual:Str} {scope:Scope} {f:Addr} {cd:Value} {A:Around} {outer:List Env} {s s1:Shared} {H:Hp} {E:XK} {us:List Value} {vs:List V}
  (S:fB N ps scope) (hd:A.handled=none) (e0:Nu P w K mg base A outer s H) (hl:vs.length=ps.length) (r:Vals vs us)
  (x:InCallC s s.heap.objs.size (bindL (envOfC qual scope s.heap.objs.size f cd).kindOf (ps.zip us) fun _=>none) (cellsFrom (s.heap.objs.size+1) scope.names []) (bindC (envOfC qual scope s.heap.objs.size f cd).kindOf (ps.zip us) fun _=>none) s1) :
  Inv (Fz CX P w K mg base N qual scope f cd A outer s H E) [] (start N vs) H s1:=by
 have hpl:ps.length<=N.length:=by have:=congrArg List.length S.pre;rw[List.length_take] at this;omega
 obtain⟨h1,tk,rfl,hk⟩:=x.done
 have noA:∀ b:Addr,b∉(Fz CX P w K mg base N qual scope f cd A outer s H E).ex:=fun b z=>absurd (show b∈([]:List Addr) from z) (by simp)
 refine⟨⟨e0.mod,S.kind,rfl,rfl,Nat.le_refl _,fun y z c h1 h2=>?_,fun y hy=>?_,fun y c _ h=>?_,fun _=>hd,Around.frames_deeper e0.frames,.inr ⟨rfl,rfl⟩,fun b z=>absurd z (noA b),e0.bs,e0.Xb,fun b _ _=>noA b,fun b z=>absurd z (noA b),e0.Ao,e0.frf⟩,
  rfl,e0.bare,Un.kept hk,⟨_,x.toInCall.ns,fun i y v h1 h2 h3=>?_⟩,fun y c h=>⟨_,x.cell y c h⟩,e0.hok.fresh (Nat.le_refl _),fun y c h=>?_,fun p hp=>absurd (show p∈([]:List (Addr×Obj)) from hp) (by simp),e0.hok.kept hk,?_⟩
 ·exact name_of_addr x.apart (PySem.mem_of_lookup h1) (PySem.mem_of_lookup h2)
 ·have hy:scope.names.lookup y=some .cell\/scope.names.lookup y=some .free:=hy
  rcases hy with hy|hy
  ·exact Ky hy
  ·exact absurd rfl (S.abb _ (PySem.mem_of_lookup hy))
 ·exact Nat.le_of_lt (x.above y c (PySem.mem_of_lookup h))
 ·have hi:i < vs.length:=by
   unfold start at h2
   by_cases hi:i < vs.length
   ·exact hi
   ·rw[List.getElem?_append_right (by simpa using hi)] at h2
    rw[List.getElem?_replicate] at h2
    split at h2<;>cases h2
  have ha:vs[i]?=some v:=by
   unfold start at h2
   rw[List.getElem?_append_left (by simpa using hi),List.getElem?_map] at h2
   cases e:vs[i]? with
   |none=>rw[e] at h2;cases h2
   |some a=>rw[e] at h2;cases h2;rfl
  obtain⟨u,hu,rv⟩:=r.get ha
  have hp:ps[i]?=some y:=by
   rw[<-S.pre,List.getElem?_take_of_lt (by omega)];exact h1
  have ndP:ps.Nodup:=by rw[<-S.pre];exact S.nd.sublist (List.take_sublist _ _)
  refine⟨u,rv,?_⟩
  rcases S.par y (List.mem_of_getElem? hp) with k|k
  ·exact .inl ⟨k,G3 ndP hp hu k⟩
  ·obtain⟨c,e⟩:=Ky (n:=s.heap.objs.size+1) k
   refine .inr ⟨.inl k,c,e,?_⟩
   have q:=x.cell y c e
   rw[G4 ndP hp hu (by show scope.names.lookup y≠_;rw[k];decide)] at q
   exact q
 ·exact e0.hok.fresh (Nat.le_of_lt (x.above y c (PySem.mem_of_lookup h)))
 ·unfold start
  show _=N.length
  rw[List.length_append,List.length_map,List.length_replicate]
  omega
theorem adL {CX:PK} {P:Program} {w:World} {K:PySem.W.Frag} {mg:Str->Option Value} {base:Heap} {k:Nat} {f:Addr} {name qual:Str} {params:Arguments} {body:List Stmt} {scope:Scope} {dV kV doc pm cdv ct oc:Value} {an od:Option Addr}
  {osl:Array (Option Value)} {N ps:List Str} {sp:Sp} (lk:K.lookup f=some ⟨oc,od,.func (PySem.W.fnOf name qual params body scope dV kV doc pm an cdv ct),osl⟩) (hcd:PySem.W.codeIn K cdv qual=true) (S:fB N ps scope)
  (len:∀ vs H Q E,sp vs H Q E->vs.length=ps.length)
  (hbody:∀ (A:Around) (outer:List Env) (s:Shared) (H:Hp) (vs:List V) (Q:VK) (E:XK),kJ k (A.deeper (envOfC qual scope s.heap.objs.size f cdv))->sp vs H Q E →
   ∃ t,Px (Fz CX P w K mg base N qual scope f cdv A outer s H E) body t/\t { nx:=fun _ H'=>Q .non H',rt:=Q } (start N vs) H) :
  fG P w K mg base CX (k+1) f (PySem.W.fnOf name qual params body scope dV kV doc pm an cdv ct) ps sp:=by
 refine⟨len,fun A outer s H args us vs Q E hr e0 hb r hsp=>?_⟩
 have hl:=len _ _ _ _ hsp
 have KX:K.In s.heap:=e0.mod.kin.keeps fun b o e=>(e0.bs b o e).1
 have lim:s.heap.NoLimit:=e0.mod.nolimit.keeps fun b o e=>(e0.bs b o e).1
 have hkind:∀ y∈ps.zip us,scope.names.lookup y.1=some .local\/(scope.names.lookup y.1=some .cell/\((cellsFrom (s.heap.objs.size+1) scope.names []).lookup y.1).isSome=true):=fun ⟨n,v⟩ hy=>by
  rcases S.par n (List.of_mem_zip hy).1 with q|q
  ·exact .inl q
  ·exact .inr ⟨q,PySem.W.cellsFrom_some _ _ _ (.inl q)⟩
 refine codeAny_call_function hr.depth (KX _ _ lk) rfl S.co S.gen rfl (PySem.W.codeRec_of KX hcd) (hb _ _ _ _ ?_)
 refine wpAny_newFunctionEnv_cells S.kind hkind fun env he s1 x=>?_
 subst he
 refine⟨lim.keeps x.toInCall.keep,codeAny_func ?_⟩
 obtain⟨t,ht,hq⟩:=hbody A outer s H vs Q E (hr.deeper _) hsp
 have I:Inv (Fz CX P w K mg base N qual scope f cdv A outer s H E) [] (start N vs) H s1:=Rj S hr.hd e0 hl r x
 refine wpAny_mono (ht [] s1 (start N vs) H _ I hq) (fun fl s' hs=>?_) fun e s' hs=>hs
 have fin:∀ {σ':St} {H':Hp} {v:V} {u:Value},Inv (Fz CX P w K mg base N qual scope f cdv A outer s H E) [] σ' H' s'->RelV v u->Q v H'->CE outer P w H s Q u s':=
  fun {σ' H' v u} J rv q=>⟨v,H',J.os,J.bare,J.base,J.hok,rv,q⟩
 cases fl with
 |ret u=>
  obtain⟨v,σ',H',J,rv,q⟩:=hs
  exact fin J rv q
 |next=>
  obtain⟨σ',H',J,q⟩:=hs
  exact fin (v:=V.non) (u:=Value.none) J rfl q
 |brk=>
  obtain⟨_,_,_,q⟩:=hs
  exact False.elim q
 |cont=>
  obtain⟨_,_,_,q⟩:=hs
  exact False.elim q
end L2
namespace L2
open PySem PySem.Spec PyProof.Rows
section
variable {X:Cx} {x:Str} {p pos:Pos} {e:Expr} {es:List Expr} {t:TA} {id T:String} {r:List V->Hp->VK->Prop}
def tCB (r:List V->Hp->VK->Prop) (t:TA):TE:=fun σ H Q=>t σ H fun vs H1=>r vs H1 Q
theorem Kz (hc:jq X (.builtin id) r) (hg:Gl X x) (hm:X.mg x=none) (hv:bootBuiltins x=some (.builtin id)) (ha:PA X (e::es) t) (hn:x ≠ "__name__" := by decide) (hdb:(x==("__debug__" : Str))=false:=by decide)
  (he:starEach (e::es) X.env=(false,eval e X.env)::starEach es X.env:=by rfl) (hpl:(backTo pos (starEach es X.env)).any (·.1)=false:=by rfl):PE X (.Call (.Name x p) (e::es) [] pos) (tCB r t):=by
 intro pins s σ H Q I h
 refine wpAny_Call_Name_kw (Nm I hg hm hv ?_ hn hdb)
 exact PyProof.Rows.callWith_builtin1 (j6 (ha pos pins s σ H _ I h) fun us s1 ⟨vs,H1,I1,r1,q1⟩=>hc pins s1 σ H1 vs us Q I1 r1 q1) he hpl
theorem G5 (hc:jq X (.type T) r) (hg:Gl X x) (hm:X.mg x=none) (hv:bootBuiltins x=some (.type T)) (ha:PA X (e::es) t) (hn:x ≠ "__name__" := by decide) (hdb:(x==("__debug__" : Str))=false:=by decide)
  (he:starEach (e::es) X.env=(false,eval e X.env)::starEach es X.env:=by rfl) (hpl:(backTo pos (starEach es X.env)).any (·.1)=false:=by rfl):PE X (.Call (.Name x p) (e::es) [] pos) (tCB r t):=by
 intro pins s σ H Q I h
 refine wpAny_Call_Name_kw (Nm I hg hm hv ?_ hn hdb)
 exact PyProof.Rows.callWith_type1 (j6 (ha pos pins s σ H _ I h) fun us s1 ⟨vs,H1,I1,r1,q1⟩=>hc pins s1 σ H1 vs us Q I1 r1 q1) he hpl
end
end L2
namespace HT
open PySem PyProof.Rows
section
open PySem.SeqAt
open PySem.AutoSeq1 (wpAny_loadPart')
open PySem.MeetsSeq PySem.MeetsSeq2 PySem.MeetsSeq3
end
section
variable {prog:Program} {w:World} {A:Around} {E:Value->Shared->Prop} {s:Shared}
theorem Xk {t b:Addr} {vs ws:List Value} {Q:Value->Shared->Prop} (ht:IsTup s.heap t vs.toArray) (hb:IsTup s.heap b ws.toArray) (hv:vs≠[])
  (h1:ws=[]->Q (.ref t) s) (h2:ws≠[]->Q (.ref s.heap.objs.size) { s with heap:=s.heap.push { cls:=.type "tuple", data:=.seq (vs++ws).toArray } })
  (hsz:vs.length+ws.length<=sizeLine):wpAny (model prog w) A (binaryOp .Add (.ref t) (.ref b)) Q E s:=by
 obtain⟨⟨cls,dd,data,sl⟩,ho,hc,n,hd⟩:=id ht
 obtain⟨⟨cls2,dd2,data2,sl2⟩,ho2,hc2,n2,hd2⟩:=id hb
 simp only at hc hd hc2 hd2
 subst hc hd hc2 hd2
 have e:vs.toArray++ws.toArray=(vs++ws).toArray:=by simp
 by_cases hw:ws=[]
 ·exact concat_meets ⟨_,ho,rfl⟩ ⟨_,ho2,rfl⟩ noFill_tuple_add seq_tuple_add PySem.F.slot_tuple_add PySem.F.entry_tuple_add (PySem.F.args_tuple_add_2 _ _)
   (tuple_addW1 t b vs.toArray ws.toArray n n2 dd dd2 sl sl2 (by simpa using hv) (by simp[hw])) ⟨ho,ho2,h1 hw⟩
 ·refine concat_meets ⟨_,ho,rfl⟩ ⟨_,ho2,rfl⟩ noFill_tuple_add seq_tuple_add PySem.F.slot_tuple_add PySem.F.entry_tuple_add (PySem.F.args_tuple_add_2 _ _)
   (tuple_addW2 t b vs.toArray ws.toArray n n2 dd dd2 sl sl2 (by simpa using hv) (by simpa using hw) (by rw[List.size_toArray,List.size_toArray];exact hsz)) ⟨ho,ho2,?_⟩
  rw[e]
  exact h2 hw
def jr (n d:Nat):Option Int->Nat
 |none=>d
 |some v=>if v < 0 then (v+(n:Int)).toNat else min v.toNat n
theorem T3 (n d:Nat):jr n d none=d:=rfl
theorem Xl (n d k:Nat):jr n d (some (k:Int))=min k n:=by
 show (if (k:Int) < 0 then ((k:Int)+(n:Int)).toNat else min (k:Int).toNat n)=min k n
 rw[if_neg (by omega),Int.toNat_natCast]
theorem abd (n d:Nat) (hd:d<=n) (o:Option Int):jr n d o<=n:=by
 cases o with
 |none=>exact hd
 |some v=>
  show (if v < 0 then (v+(n:Int)).toNat else min v.toNat n)<=n
  by_cases hv:v < 0
  ·rw[if_pos hv];omega
  ·rw[if_neg hv];exact Nat.min_le_right _ _
theorem PN (v:Int) (n d:Nat):(if v < 0 then max (v+(n:Int)) 0 else min v (n:Int))=((jr n d (some v):Nat):Int):=by
 show (if v < 0 then max (v+(n:Int)) 0 else min v (n:Int))=(((if v < 0 then (v+(n:Int)).toNat else min v.toNat n):Nat):Int)
 by_cases hv:v < 0
 ·simp only[if_pos hv];omega
 ·simp only[if_neg hv];omega
theorem Nv (lo hi:Option Int) (n:Nat):Builtin.Slice.sliceAdjust lo hi 1 (n:Int)=(((jr n 0 lo:Nat):Int),((jr n n hi:Nat):Int)):=by
 have h1:¬ ((1:Int) < 0):=by omega
 unfold Builtin.Slice.sliceAdjust
 simp only[h1,if_false]
 refine Prod.ext ?_ ?_
 ·cases lo with
  |none=>rfl
  |some v=>exact PN v n 0
 ·cases hi with
  |none=>rfl
  |some v=>exact PN v n n
theorem Nx (i j:Nat):Builtin.Slice.slicePlaces (i:Int) (j:Int) 1=j - i:=by
 unfold Builtin.Slice.slicePlaces
 have h1:(1:Int) > 0:=by omega
 simp only[h1,if_true,Int.ediv_one]
 split<;>omega
theorem Ck {v:Value} {o:Option Int} {Q:Option Int->Shared->Prop} (p:IsPart v o) (h:Q o s):wpAny (model prog w) A (Builtin.Slice.slicePartIndex v) Q E s:=by
 cases p with
 |none=>exact slicePart_none h
 |int i t=>exact slicePart_int h
theorem qp {sl:Addr} {vl vu:Value} {lo hi:Option Int} {n:Nat} {Q:Int×Int×Nat->Shared->Prop} (hs:s.heap.IsSliceOf sl vl vu .none) (pl:IsPart vl lo) (pu:IsPart vu hi)
  (h:Q (((jr n 0 lo:Nat):Int),1,jr n n hi - jr n 0 lo) s):wpAny (model prog w) A (Builtin.Slice.sliceApplied (.ref sl) (pure (n:Int))) Q E s:=by
 obtain⟨os,hos,hcs,hds⟩:=id hs
 unfold Builtin.Slice.sliceApplied Builtin.Slice.sliceFields
 refine wpAny_bind (wpAny_bind (wpAny_field hos hds (x:=vl) rfl (wpAny_bind (wpAny_field hos hds (x:=vu) rfl (wpAny_bind (wpAny_field hos hds (x:=.none) rfl (wpAny_pure ?_)))))))
 refine wpAny_bind (slicePart_none ?_)
 show wpAny _ _ (if ((1:Int)==0)=true then _ else _) _ _ s
 rw[if_neg (by decide)]
 refine wpAny_bind (Ck pl (wpAny_bind (Ck pu (wpAny_bind (wpAny_pure ?_)))))
 show wpAny _ _ (match Builtin.Slice.sliceAdjust lo hi 1 (n:Int) with|(lo,hi)=>pure (lo,(1:Int),Builtin.Slice.slicePlaces lo hi 1)) _ _ s
 rw[Nv lo hi n]
 show wpAny _ _ (pure (((jr n 0 lo:Nat):Int),(1:Int),Builtin.Slice.slicePlaces ((jr n 0 lo:Nat):Int) ((jr n n hi:Nat):Int) 1)) _ _ s
 rw[Nx]
 exact wpAny_pure h
theorem T5 (xs:Array Value) (i k:Nat):((List.range k).filterMap fun (m:Nat)=>xs[((i:Int)+(m:Int) * 1).toNat]?).toArray=((xs.toList.drop i).take k).toArray:=by
 have e:(fun (m:Nat)=>xs[((i:Int)+(m:Int) * 1).toNat]?)=fun m=>xs[i+m]?:=by
  funext m
  have:((i:Int)+(m:Int) * 1).toNat=i+m:=by omega
  rw[this]
 rw[e]
 have:=pick_run xs i k
 rw[List.filterMap_map] at this
 have e2:((fun x=>xs[x]?) ∘ fun x=>i+x)=fun m=>xs[i+m]?:=rfl
 rw[e2] at this
 rw[this]
theorem xT {t sl:Addr} {items:Array Value} {vl vu:Value} {lo hi:Option Int} {Q:Value->Shared->Prop} (ht:IsTup s.heap t items) (hs:s.heap.IsSliceOf sl vl vu .none) (pl:IsPart vl lo) (pu:IsPart vu hi)
  (hw:¬ (jr items.size 0 lo=0/\jr items.size items.size hi=items.size))
  (h:Q (.ref s.heap.objs.size) { s with heap:=s.heap.push { cls:=.type "tuple", data:=.seq ((items.toList.drop (jr items.size 0 lo)).take (jr items.size items.size hi - jr items.size 0 lo)).toArray } })
  (hsz:items.size<=sizeLine):wpAny (model prog w) A (getItem (.ref t) (.ref sl)) Q E s:=by
 have PX:sizeOk (.seq ((items.toList.drop (jr items.size 0 lo)).take (jr items.size items.size hi - jr items.size 0 lo)).toArray):=by
  show ((items.toList.drop (jr items.size 0 lo)).take (jr items.size items.size hi - jr items.size 0 lo)).toArray.size<=sizeLine
  rw[List.size_toArray,List.length_take,List.length_drop,Array.length_toList]
  omega
 have hj:jr items.size items.size hi<=items.size:=abd _ _ (Nat.le_refl _) hi
 obtain⟨os,hos,hcs,hds⟩:=id hs
 have hTs:s.TypeIs (.ref sl) "slice" := ⟨os,hos,hcs⟩
 unfold getItem
 try with_reducible refine wpAny_holding ?_
 first|refine wpAny_bind (wpAny_pure ?_)|skip
 refine wpAny_bind (wpAny_sequenceKey ht.typeIs (by decide) ?_)
 refine wpAny_bind (wpAny_callSpecial?_slot (name:=Str.ofString "__getitem__") ht.typeIs PyProof.Rows.slot_tuple_getitem
  (wpAny_call_entry PyProof.Rows.slot_tuple_getitem ht.typeIs entry_tuple_getitem ?_ (args_tuple_getitem _ _)))
 show wpAny _ _ (Builtin.Tuple.tupleItemsOf (.ref t) >>= _) _ _ s
 refine wpAny_bind (tupleItemsOf_ ht ?_)
 refine wpAny_bind (wpAny_typeOf hTs ?_)
 rw[if_pos (by decide)]
 refine wpAny_bind (qp hs pl pu ?_)
 have hno:¬ ((((jr items.size 0 lo:Nat):Int)==0&&(1:Int)==1&&(jr items.size items.size hi - jr items.size 0 lo)==items.size)=true):=by
  intro q
  rw[Bool.and_eq_true,Bool.and_eq_true] at q
  have q1:((jr items.size 0 lo:Nat):Int)=0:=eq_of_beq q.1.1
  have q2:jr items.size items.size hi - jr items.size 0 lo=items.size:=eq_of_beq q.2
  exact hw ⟨by omega,by omega⟩
 show wpAny _ _ (if (((jr items.size 0 lo:Nat):Int)==0&&(1:Int)==1&&(jr items.size items.size hi - jr items.size 0 lo)==items.size)=true then _ else _) _ _ s
 rw[if_neg hno,T5]
 first
  |exact wpAny_bind (m:=Builtin.Tuple.tupleExact _) (wpAny_newObj_type (wpAny_pure ⟨_,rfl,wpAny_pure h⟩) PX)
  |exact wpAny_bind (m:=Builtin.Tuple.tupleExact _) (wpAny_newObj_type (wpAny_bind (wpAny_pure (wpAny_pure ⟨_,rfl,wpAny_pure h⟩))) PX)
  |exact wpAny_bind (wpAny_bind (m:=Builtin.Tuple.tupleExact _) (wpAny_newObj_type (wpAny_pure (wpAny_pure ⟨_,rfl,wpAny_pure h⟩)) PX))
  |exact wpAny_bind (wpAny_bind (m:=Builtin.Tuple.tupleExact _) (wpAny_newObj_type (wpAny_pure ⟨_,rfl,wpAny_pure h⟩) PX))
end
end HT
namespace L2
open PySem PySem.Spec PyProof.Rows
abbrev TO:=St->Hp->(Option Int->Hp->Prop)->Prop
def PO (X:Cx) (e:Option Expr) (t:TO):Prop:=
 ∀ (pins:List (Addr×Obj)) (s:Shared) (σ:St) (H:Hp) (Q:Option Int->Hp->Prop),Inv X pins σ H s->t σ H Q →
  wpAny (model X.prog X.w) X.A (evalPart e X.env) (fun u s'=>∃ o H',Inv X pins σ H' s'/\IsPart u o/\Q o H') X.xe s
def Xm:TO:=fun _ H Q=>Q none H
def adM (t:TE):TO:=fun σ H Q=>t σ H fun x H1=>∃ i,x=.int i/\Q (some i) H1
section
variable {X:Cx} {e:Expr} {te:TE} {lo hi:Option Expr} {tl th:TO} {pos p2:Pos}
theorem Xn:PO X none Xm:=by
 intro pins s σ H Q I h
 rw[evalPart_none]
 exact wpAny_pure ⟨none,H,I,.none,h⟩
theorem Xo (h:PE X e te):PO X (some e) (adM te):=by
 intro pins s σ H Q I hw
 rw[evalPart_some]
 refine j6 (h pins s σ H _ I hw) fun u s1 ⟨x,H1,I1,r1,q1⟩=>?_
 obtain⟨i,rfl,q⟩:=q1
 obtain⟨t,rfl⟩:=r1
 exact⟨some i,H1,I1,.int i t,q⟩
def Z1 (X:Cx) (r:V->Option Int->Option Int->Hp->VK->Prop):Prop:=
 ∀ (pins:List (Addr×Obj)) (s:Shared) (σ:St) (H:Hp) (x:V) (v vl vu:Value) (lo hi:Option Int) (sl:Addr) (Q:VK),Inv X pins σ H s->RelV x v->s.heap.IsSliceOf sl vl vu .none->IsPart vl lo->IsPart vu hi->r x lo hi H Q →
  ∃ T id,typeLookup (.type T) "__getitem__" = pure (some (.builtin id))/\s.TypeIs v T/\wpAny (model X.prog X.w) X.A (getItem v (.ref sl)) (EP X pins σ Q) X.xe s
theorem Z1.or {r r':V->Option Int->Option Int->Hp->VK->Prop} (h:Z1 X r) (h':Z1 X r'):Z1 X (fun x lo hi H Q=>r x lo hi H Q\/r' x lo hi H Q):=by
 intro pins s σ H x v vl vu lo hi sl Q I rx hs pl pu q
 rcases q with q|q
 ·exact h pins s σ H x v vl vu lo hi sl Q I rx hs pl pu q
 ·exact h' pins s σ H x v vl vu lo hi sl Q I rx hs pl pu q
def tSl (r:V->Option Int->Option Int->Hp->VK->Prop) (te:TE) (tl th:TO):TE:=fun σ H Q=>te σ H fun x H1=>tl σ H1 fun l H2=>th σ H2 fun u H3=>r x l u H3 Q
theorem T6 {r:V->Option Int->Option Int->Hp->VK->Prop} (hr:Z1 X r) (he:PE X e te) (hl:PO X lo tl) (hu:PO X hi th):PE X (.Subscript e (.Slice lo hi none p2) pos) (tSl r te tl th):=by
 intro pins s σ H Q I h
 refine Subscript_ (j6 (he pins s σ H _ I h) fun v s1 ⟨x,H1,I1,r1,q1⟩=>?_)
 refine wpAny_Slice (j6 (hl pins s1 σ H1 _ I1 q1) fun vl s2 ⟨l,H2,I2,pl,q2⟩=>j6 (hu pins s2 σ H2 _ I2 q2) fun vu s3 ⟨u,H3,I3,pu,q3⟩=>?_)
 rw[evalPart_none]
 refine wpAny_pure ?_
 have I4:Inv X pins σ H3 { s3 with heap:=s3.heap.push { cls:=.type "slice", data:=.fields #[vl,vu,.none] } }:=I3.kept (t':=s3.toks) fun b ob q=>Heap.get?_push_of_some _ q
 obtain⟨T,id,hT,ht,hg⟩:=hr pins { s3 with heap:=s3.heap.push { cls:=.type "slice", data:=.fields #[vl,vu,.none] } } σ H3 x v vl vu l u s3.heap.objs.size Q I4 r1 (Heap.IsSliceOf.new ..) pl pu q3
 show wpAny (model X.prog X.w) X.A (subscriptTail e (.Slice lo hi none p2) v (.ref s3.heap.objs.size)) (EP X pins σ Q) X.xe { s3 with heap:=s3.heap.push { cls:=.type "slice", data:=.fields #[vl,vu,.none] } }
 exact tail_any (ops:=[.ref s3.heap.objs.size,v]) ht hT hg (by with_unfolding_all rfl)
def KC (xs:List V) (lo hi:Option Int):List V:=(xs.drop (HT.jr xs.length 0 lo)).take (HT.jr xs.length xs.length hi - HT.jr xs.length 0 lo)
theorem z9 (xs:List V) (lo hi:Option Int):(KC xs lo hi).length<=xs.length:=by
 unfold KC
 rw[List.length_take,List.length_drop]
 omega
def afI (K:PySem.W.Frag):V->Option Int->Option Int->Hp->VK->Prop:=fun x lo hi H Q=>∃ a xs,x=.ref a/\wD K H a xs ∧
 ¬ (HT.jr xs.length 0 lo=0/\HT.jr xs.length xs.length hi=xs.length)/\∀ p,H p=none->Q (.ref p) (upd H p (.tup (KC xs lo hi)))
theorem abe:Z1 X (afI X.K):=by
 intro pins s σ H x v vl vu lo hi sl Q I rx hs pl pu h
 obtain⟨a,xs,rfl,hx,hw,q⟩:=h
 cases rx
 obtain⟨its,r,ht,hz⟩:=I.tuple hx
 have hlen:its.toArray.size=xs.length:=by rw[List.size_toArray];exact r.length.symm
 refine⟨"tuple", _,PyProof.Rows.slot_tuple_getitem.lookup,ht.typeIs,?_⟩
 refine HT.xT ht hs pl pu (by rw[hlen];exact hw) ?_ (by rw[hlen];exact hz)
 rw[hlen]
 refine⟨.ref s.heap.objs.size,_,I.laid (t':=s.toks) (o:=.tup (KC xs lo hi)) (fun b ob q=>Heap.get?_push_of_some _ q) (Nat.le_refl _) ?_,rfl,q _ (I.hok.fresh (Nat.le_refl _))⟩
 exact⟨Nat.le_trans (z9 xs lo hi) hz,_,(r.drop (HT.jr xs.length 0 lo)).take (HT.jr xs.length xs.length hi - HT.jr xs.length 0 lo),rz.new _ _⟩
def adN (K:PySem.W.Frag):R2:=fun x y H Q=>∃ a b xs ys,x=.ref a/\y=.ref b/\wD K H a xs/\wD K H b ys/\xs≠[]/\xs.length+ys.length<=sizeLine ∧
 (ys=[]->Q (.ref a) H)/\(ys≠[]->∀ p,H p=none->Q (.ref p) (upd H p (.tup (xs++ys))))
theorem Vals.Bv {xs:List V} {us:List Value} (r:Vals xs us):us=[]↔xs=[]:=by
 cases r with
 |nil=>simp
 |cons _ _=>simp
theorem Xp:wR X (binaryOp .Add) (adN X.K):=by
 intro pins s σ H x y v u Q I rx ry h
 obtain⟨a,b,xs,ys,rfl,rfl,ha,hb,hx,hz,q1,q2⟩:=h
 cases rx
 cases ry
 obtain⟨its,r1,p1,_⟩:=I.tuple ha
 obtain⟨its2,r2,p2,_⟩:=I.tuple hb
 refine HT.Xk p1 p2 (fun z=>hx (r1.Bv.mp z)) (fun z=>⟨.ref a,H,I,rfl,q1 (r2.Bv.mp z)⟩) (fun z=>?_) (by rw[<-r1.length,<-r2.length];exact hz)
 refine⟨.ref s.heap.objs.size,_,I.laid (t':=s.toks) (o:=.tup (xs++ys)) (fun b ob q=>Heap.get?_push_of_some _ q) (Nat.le_refl _) ?_,rfl,q2 (fun w=>z (r2.Bv.mpr w)) _ (I.hok.fresh (Nat.le_refl _))⟩
 exact⟨by rw[List.length_append];exact hz,_,r1.append r2,rz.new _ _⟩
end
end L2
namespace L2
open PySem PySem.Spec PyProof.Rows
def ixN (n:Nat) (i:Int):Option Nat:=if 0<=i then (if i < n then some i.toNat else none) else if -(n:Int)<=i then some (i+n).toNat else none
def G6 {α:Type} (xs:List α) (i:Int):Option α:=(ixN xs.length i).bind fun j=>xs[j]?
theorem Xq {n:Nat} {i:Int} {j:Nat} (h:ixN n i=some j):seqIndex? i n=some j/\j < n ∧ -(n:Int)<=i/\i < n:=by
 unfold ixN at h
 by_cases h0:0<=i
 ·rw[if_pos h0] at h
  by_cases h1:i < n
  ·rw[if_pos h1] at h
   have e:i.toNat=j:=Option.some.inj h
   exact⟨by rw[seqIndex_of h0 h1,e],by omega,by omega,h1⟩
  ·rw[if_neg h1] at h;cases h
 ·rw[if_neg h0] at h
  by_cases h1 : -(n:Int)<=i
  ·rw[if_pos h1] at h
   have e:(i+n).toNat=j:=Option.some.inj h
   exact⟨by rw[seqIndex_neg (by omega) h1,e],by omega,h1,by omega⟩
  ·rw[if_neg h1] at h;cases h
theorem Ij {α:Type} {xs:List α} {i:Int} {v:α} (h:G6 xs i=some v):∃ j,seqIndex? i xs.length=some j/\xs[j]?=some v/\j < xs.length ∧ -(xs.length:Int)<=i/\i < xs.length:=by
 unfold G6 at h
 cases e:ixN xs.length i with
 |none=>rw[e] at h;cases h
 |some j=>
  rw[e] at h
  obtain⟨h1,h2,h3,h4⟩:=Xq e
  exact⟨j,h1,h,h2,h3,h4⟩
def Ik (b:Expr):Prop:=∀ o i,subscripted b false o i=operate [o,i] (getItem o i)
def Xr (X:Cx) (r:R2):Prop:=
 ∀ (value slice:Expr) (pins:List (Addr×Obj)) (s:Shared) (σ:St) (H:Hp) (x y:V) (v u:Value) (Q:VK),Inv X pins σ H s->RelV x v->RelV y u->r x y H Q →
  subscripted slice false v u=operate [v,u] (getItem v u)->wpAny (model X.prog X.w) X.A (subscriptTail value slice v u) (EP X pins σ Q) X.xe s
def MtR (X:Cx) (id:String) (r:V->List V->Hp->VK->Prop):Prop:=
 ∀ (pins:List (Addr×Obj)) (s:Shared) (σ:St) (H:Hp) (x:V) (xs:List V) (v:Value) (us:List Value) (Q:VK),Inv X pins σ H s->RelV x v->Vals xs us->r x xs H Q →
  wpAny (model X.prog X.w) X.A (call (.builtin id) (v::us)) (EP X pins σ Q) X.xe s
section
variable {X:Cx} {a b:Expr} {ta tb:TE} {pos:Pos}
theorem Xr.or {r r':R2} (h:Xr X r) (h':Xr X r'):Xr X (fun x y H Q=>r x y H Q\/r' x y H Q):=by
 intro value slice pins s σ H x y v u Q I rx ry q hs
 rcases q with q|q
 ·exact h value slice pins s σ H x y v u Q I rx ry q hs
 ·exact h' value slice pins s σ H x y v u Q I rx ry q hs
theorem MtR.or {id:String} {r r':V->List V->Hp->VK->Prop} (h:MtR X id r) (h':MtR X id r'):MtR X id (fun x xs H Q=>r x xs H Q\/r' x xs H Q):=by
 intro pins s σ H x xs v us Q I rx rs q
 rcases q with q|q
 ·exact h pins s σ H x xs v us Q I rx rs q
 ·exact h' pins s σ H x xs v us Q I rx rs q
theorem adP {r:R2} (hr:Xr X r) (ha:PE X a ta) (hb:PE X b tb) (hs:Ik b):PE X (.Subscript a b pos) (tOp r ta tb):=by
 intro pins s σ H Q I h
 exact Subscript_ (aaU ha hb I h fun v u s2 x y H2 I2 rx ry q=>hr a b pins s2 σ H2 x y v u Q I2 rx ry q (hs _ _))
def adQ (K:PySem.W.Frag):R2:=fun x y H Q=>∃ p xs i v,x=.ref p/\y=.int i/\uz K H p xs/\G6 xs i=some v/\Q v H
def adR (K:PySem.W.Frag):R2:=fun x y H Q=>∃ p xs i v,x=.ref p/\y=.int i/\wD K H p xs/\G6 xs i=some v/\Q v H
def adS:R2:=fun x y H Q=>∃ z i c,x=.str z/\y=.int i/\z.length<=sizeLine/\G6 z.cps.toList i=some c/\Q (.str ⟨#[c]⟩) H
theorem Xu:Xr X (adQ X.K):=by
 intro value slice pins s σ H x y v u Q I rx ry h hs
 obtain⟨p,xs,i,z,rfl,rfl,hq,he,q⟩:=h
 cases rx
 obtain⟨t,rfl⟩:=ry
 obtain⟨its,r,pl,hz⟩:=I.list hq
 obtain⟨j,h1,h2,h3,h4,h5⟩:=Ij he
 obtain⟨w,ew,PJ⟩:=r.get h2
 have hl:=r.length
 have hn:=zc
 have fin:EP X pins σ Q w s:=⟨z,H,I,PJ,q⟩
 by_cases h0:0<=i
 ·have hj:i.toNat=j:=by
   rw[seqIndex_of h0 h5] at h1
   exact Option.some.inj h1
  exact item_listR pl.isList h0 (by omega) (by rw[hj];simpa using ew) fin hs
 ·have hj:(i+(its.toArray.size:Int)).toNat=j:=by
   rw[seqIndex_neg (by omega) h4] at h1
   rw[List.size_toArray,<-hl]
   exact Option.some.inj h1
  exact subscriptTail_builtinR (x:=w) pl.isList.typeIs slot_list_getitem.lookup
   (wpAny_getItem_list_neg (Q:=fun r s'=>r=w/\EP X pins σ Q r s') pl.isList (by omega) (by rw[List.size_toArray]<;>omega) (by omega) (by rw[hj];simpa using ew) ⟨rfl,fin⟩) hs
theorem abf:Xr X (adR X.K):=by
 intro value slice pins s σ H x y v u Q I rx ry h hs
 obtain⟨p,xs,i,z,rfl,rfl,hq,he,q⟩:=h
 cases rx
 obtain⟨t,rfl⟩:=ry
 obtain⟨its,r,pl,hz⟩:=I.tuple hq
 obtain⟨j,h1,h2,h3,h4,h5⟩:=Ij he
 obtain⟨w,ew,PJ⟩:=r.get h2
 have hl:=r.length
 have hn:=zc
 have fin:EP X pins σ Q w s:=⟨z,H,I,PJ,q⟩
 exact subscriptTail_builtinR (x:=w) pl.typeIs slot_tuple_getitem.lookup
  (getItem_tuple (j:=j) (Q:=fun r s'=>r=w/\EP X pins σ Q r s') pl (by omega) (by omega) (by rw[List.size_toArray,<-hl];exact h1) (by simpa using ew) ⟨rfl,fin⟩) hs
theorem abg:Xr X adS:=by
 intro value slice pins s σ H x y v u Q I rx ry h hs
 obtain⟨z,i,c,rfl,rfl,hz,he,q⟩:=h
 obtain⟨t,rfl⟩:=rx
 obtain⟨t',rfl⟩:=ry
 obtain⟨j,h1,h2,h3,h4,h5⟩:=Ij he
 have hl:z.cps.toList.length=z.length:=by simp[Str.length]
 rw[hl] at h1 h4 h5
 have hn:=zc
 exact tail_any (typeIs_str s z t) slot_str_getitem.lookup (getItem_str (c:=c) (by
  have e1:decide (i < -(2 ^ 63:Int))=false:=decide_eq_false (by omega)
  have e2:decide (i>=2 ^ 63)=false:=decide_eq_false (by omega)
  rw[e1,e2,Bool.or_false]) (by rw[h1];simpa using h2) ⟨.str ⟨#[c]⟩,H,I.tok _,⟨_,rfl⟩,q⟩) hs
def rIx (K:PySem.W.Frag):R2:=fun x y H Q=>adQ K x y H Q\/adR K x y H Q\/adS x y H Q
theorem abh:Xr X (rIx X.K):=Xu.or (abf.or abg)
theorem Inv.lst {pins:List (Addr×Obj)} {σ:St} {H:Hp} {s:Shared} {p:Addr} {xs:List V} (I:Inv X pins σ H s) (h:H p=some (.lst xs)) :
  ∃ (its:List Value) (n:Nat),Vals xs its/\s.heap.get? p=some { cls:=.type "list", data:=.seq its.toArray n }/\xs.length<=sizeLine:=by
 obtain⟨z,its,n,r,e⟩:=I.hok p _ h
 exact⟨its,n,r,e,z⟩
theorem Il (lo hi:Option Int) (n:Nat):(sliceBounds lo hi none n).1=((HT.jr n 0 lo:Nat):Int)/\(sliceBounds lo hi none n).2.1=((HT.jr n n hi:Nat):Int)/\(sliceBounds lo hi none n).2.2=1:=by
 refine⟨?_,?_,rfl⟩
 ·cases lo with
  |none=>simp[sliceBounds,HT.jr]
  |some i=>
   simp only[sliceBounds,HT.jr,Option.getD_none,show (1:Int) > 0 by decide,if_true]
   by_cases h:i < 0
   ·simp only[h,if_true]<;>omega
   ·simp only[h,if_false]<;>omega
 ·cases hi with
  |none=>simp[sliceBounds,HT.jr]
  |some i=>
   simp only[sliceBounds,HT.jr,Option.getD_none,show (1:Int) > 0 by decide,if_true]
   by_cases h:i < 0
   ·simp only[h,if_true]<;>omega
   ·simp only[h,if_false]<;>omega
theorem FJ (its:List Value) (lo hi:Option Int):slicePick its.toArray lo hi none=((its.drop (HT.jr its.length 0 lo)).take (HT.jr its.length its.length hi - HT.jr its.length 0 lo)).toArray:=by
 obtain⟨h1,h2,h3⟩:=Il lo hi its.toArray.size
 unfold slicePick
 rw[h1,h2,h3]
 simp only[sliceRange_one,pick_run,List.size_toArray]<;>rfl
def afJ (K:PySem.W.Frag):V->Option Int->Option Int->Hp->VK->Prop:=fun x lo hi H Q=>∃ a xs,x=.ref a/\uz K H a xs/\∀ p,H p=none->Q (.ref p) (upd H p (.lst (KC xs lo hi)))
theorem Xv:Z1 X (afJ X.K):=by
 intro pins s σ H x v vl vu lo hi sl Q I rx hs pl pu h
 obtain⟨a,xs,rfl,hx,q⟩:=h
 cases rx
 obtain⟨its,r,ht,hz⟩:=I.list hx
 have hlen:=r.length
 refine⟨"list", _,slot_list_getitem.lookup,ht.isList.typeIs,?_⟩
 refine wpAny_getItem_list_slice ht.isList hs pl pu .none (by simp) ?_ (by rw[List.size_toArray]<;>omega)
 rw[FJ,<-hlen]
 refine⟨.ref s.heap.objs.size,_,I.laid (t':=s.toks) (o:=.lst (KC xs lo hi)) (fun b ob q=>Heap.get?_push_of_some _ q) (Nat.le_refl _) ?_,rfl,q _ (I.hok.fresh (Nat.le_refl _))⟩
 exact⟨Nat.le_trans (z9 xs lo hi) hz,_,0,(r.drop (HT.jr xs.length 0 lo)).take (HT.jr xs.length xs.length hi - HT.jr xs.length 0 lo),Heap.get?_push_size _ rfl⟩
def sI:V->Bool
 |.non=>true
 |.bl _=>true
 |.int _=>true
 |.str _=>true
 |_=>false
def Rk:V->V->Bool
 |.non,.non=>true
 |.bl a,.bl b=>a==b
 |.bl a,.int b=>(if a then 1 else 0)==b
 |.int a,.bl b=>a==(if b then 1 else 0)
 |.int a,.int b=>a==b
 |.str a,.str b=>a==b
 |_,_=>false
theorem abj {A:Around} {s:Shared} {y x:V} {u v:Value} (ry:RelV y u) (rx:RelV x v) (fy:sI y=true) (fx:sI x=true):SeqAt.EqAt A s u v (Rk y x):=by
 cases y with
 |non=>
  cases ry
  cases x with
  |non=>cases rx;exact SeqAt.EqAt.same _
  |bl b=>cases rx;exact SeqAt.EqAt.none_bool b
  |int b=>obtain⟨t,rfl⟩:=rx;exact SeqAt.EqAt.none_int b t
  |str b=>obtain⟨t,rfl⟩:=rx;exact SeqAt.EqAt.none_str b t
  |_=>exact absurd (show false=true from fx) Bool.false_ne_true
 |bl a=>
  cases ry
  cases x with
  |non=>cases rx;exact SeqAt.EqAt.bool_none a
  |bl b=>cases rx;exact SeqAt.EqAt.bool_bool a b
  |int b=>obtain⟨t,rfl⟩:=rx;exact SeqAt.EqAt.bool_int a b t
  |str b=>obtain⟨t,rfl⟩:=rx;exact SeqAt.EqAt.bool_str a b t
  |_=>exact absurd (show false=true from fx) Bool.false_ne_true
 |int a=>
  obtain⟨t',rfl⟩:=ry
  cases x with
  |non=>cases rx;exact SeqAt.EqAt.int_none a t'
  |bl b=>cases rx;exact SeqAt.EqAt.int_bool a t' b
  |int b=>obtain⟨t,rfl⟩:=rx;exact SeqAt.EqAt.int_int a t' b t
  |str b=>obtain⟨t,rfl⟩:=rx;exact SeqAt.EqAt.int_str a t' b t
  |_=>exact absurd (show false=true from fx) Bool.false_ne_true
 |str a=>
  obtain⟨t',rfl⟩:=ry
  cases x with
  |non=>cases rx;exact SeqAt.EqAt.str_none a t'
  |bl b=>cases rx;exact SeqAt.EqAt.str_bool a t' b
  |int b=>obtain⟨t,rfl⟩:=rx;exact SeqAt.EqAt.str_int a t' b t
  |str b=>obtain⟨t,rfl⟩:=rx;exact SeqAt.EqAt.str_str a t' b t
  |_=>exact absurd (show false=true from fx) Bool.false_ne_true
 |_=>exact absurd (show false=true from fy) Bool.false_ne_true
def Xw (x:V) (u:Value):Bool:=match u with
 |.none=>Rk .non x
 |.bool b=>Rk (.bl b) x
 |.int i _=>Rk (.int i) x
 |.str z _=>Rk (.str z) x
 |_=>false
theorem T7 {x y:V} {u:Value} (r:RelV y u) (f:sI y=true):Xw x u=Rk y x:=by
 cases y with
 |non=>cases r;rfl
 |bl b=>cases r;rfl
 |int i=>obtain⟨t,rfl⟩:=r;rfl
 |str z=>obtain⟨t,rfl⟩:=r;rfl
 |_=>exact absurd (show false=true from f) Bool.false_ne_true
theorem Im {x:V}:∀ {xs:List V} {us:List Value},Vals xs us->xs.all sI=true->us.any (Xw x)=xs.any fun y=>Rk y x
 |_,_,.nil,_=>rfl
 |y::xs,u::us,.cons r t,f=>by
  rw[List.all_cons,Bool.and_eq_true] at f
  rw[List.any_cons,List.any_cons,T7 r f.1,Im t f.2]
theorem Cm {A:Around} {s:Shared} {x:V} {v:Value} (rx:RelV x v) (fx:sI x=true):∀ {xs:List V} {us:List Value},Vals xs us->xs.all sI=true->∀ u∈us,SeqAt.EqAt A s u v (Xw x u)
 |_,_,.nil,_=>fun u hu=>by cases hu
 |y::xs,u::us,.cons r t,f=>fun u' hu=>by
  rw[List.all_cons,Bool.and_eq_true] at f
  rcases List.mem_cons.mp hu with rfl|hu
  ·rw[T7 r f.1];exact abj r rx f.1 fx
  ·exact Cm rx fx t f.2 u' hu
def inV (x:V) (xs:List V):Bool:=xs.any fun y=>Rk y x
def rIn (K:PySem.W.Frag) (neg:Bool):R2:=fun x y H Q=>∃ p xs,y=.ref p/\(uz K H p xs\/wD K H p xs)/\sI x=true/\xs.all sI=true/\Q (.bl (if neg then !inV x xs else inV x xs)) H
theorem Rm:wR X (compareOp .In) (rIn X.K false):=by
 intro pins s σ H x y v u Q I rx ry h
 obtain⟨p,xs,rfl,hq,fx,fs,q⟩:=h
 cases ry
 rcases hq with hq|hq
 ·obtain⟨its,r,pl,hz⟩:=I.list hq
  refine SeqAt.in_listAt (Xw x) pl.isList (fun w hw=>Cm rx fx r fs w (by simpa using hw)) ⟨.bl _,H,I,rfl,?_⟩
  rw[show its.toArray.any (Xw x)=its.any (Xw x) by simp,Im r fs]
  exact q
 ·obtain⟨its,r,pl,hz⟩:=I.tuple hq
  refine SeqAt.in_tupleAt (Xw x) pl (fun w hw=>Cm rx fx r fs w (by simpa using hw)) ⟨.bl _,H,I,rfl,?_⟩
  rw[show its.toArray.any (Xw x)=its.any (Xw x) by simp,Im r fs]
  exact q
theorem Io:jq X (.builtin "len") (fun xs H Q=>∃ p ys,xs=[.ref p]/\(uz X.K H p ys\/wD X.K H p ys)/\Q (.int ys.length) H):=by
 intro pins s σ H xs us Q I r h
 obtain⟨p,ys,rfl,hq,q⟩:=h
 obtain⟨u,rfl,rx⟩:=vals1 r
 cases rx
 have hn:=zc
 rcases hq with hq|hq
 ·obtain⟨its,r',pl,hz⟩:=I.list hq
  have hlen:=r'.length
  exact Calls.call_len_list pl.isList (by simp only[List.size_toArray]<;>omega) ⟨.int ys.length,H,I.tok _,⟨s.toks+1,by rw[List.size_toArray,hlen]⟩,q⟩
 ·obtain⟨its,r',pl,hz⟩:=I.tuple hq
  have hlen:=r'.length
  exact len_tuple pl (by simp only[List.size_toArray]<;>omega) ⟨.int ys.length,H,I.tok _,⟨s.toks+1,by rw[List.size_toArray,hlen]⟩,q⟩
theorem Ip:jq X (.builtin "len") (fun xs H Q=>∃ z,xs=[.str z]/\z.length<=sizeLine/\Q (.int z.length) H):=by
 intro pins s σ H xs us Q I r h
 obtain⟨z,rfl,hz,q⟩:=h
 obtain⟨u,rfl,t,rfl⟩:=vals1 r
 have hn:=zc
 exact len_str (by omega) ⟨.int z.length,H,I.tok _,⟨_,rfl⟩,q⟩
theorem jq.or {f:Value} {r r':List V->Hp->VK->Prop} (h:jq X f r) (h':jq X f r'):jq X f (fun xs H Q=>r xs H Q\/r' xs H Q):=by
 intro pins s σ H xs us Q I rs q
 rcases q with q|q
 ·exact h pins s σ H xs us Q I rs q
 ·exact h' pins s σ H xs us Q I rs q
theorem FN:jq X (.type "tuple") (fun xs H Q=>∃ p ys,xs=[.ref p]/\((uz X.K H p ys/\∀ l,H l=none->Q (.ref l) (upd H l (.tup ys)))\/(wD X.K H p ys/\Q (.ref p) H))):=by
 intro pins s σ H xs us Q I r h
 obtain⟨p,ys,rfl,h⟩:=h
 obtain⟨u,rfl,rx⟩:=vals1 r
 cases rx
 rcases h with⟨hq,q⟩|⟨hq,q⟩
 ·obtain⟨its,r',pl,hz⟩:=I.list hq
  have hlen:=r'.length
  refine call_tuple_list pl.isList (fun h' kp=>?_) (by simp only[List.size_toArray]<;>omega)
  have I1:Inv X pins σ H { s with heap:=h' }:=I.kept (t':=s.toks) kp
  have I2:Inv X pins σ (upd H h'.objs.size (.tup ys)) { s with heap:=h'.push { cls:=.type "tuple", data:=.seq its.toArray } }:=
   I1.laid (t':=s.toks) (fun b o e=>Heap.get?_push_of_some _ e) (Nat.le_refl _) (show ji X.prog X.w _ _ _ (.tup ys) from⟨hz,its,r',rz.new _ _⟩)
  exact⟨.ref h'.objs.size,_,I2,rfl,q _ (I1.hok.fresh (Nat.le_refl _))⟩
 ·obtain⟨its,r',pl,hz⟩:=I.tuple hq
  exact call_tuple_same pl ⟨.ref p,H,I,rfl,q⟩
def tyV (K:PySem.W.Frag) (T:String) (x:V) (H:Hp):Prop:=match x with
 |.str _=>T = "str"
 |.int _=>T = "int"
 |.ref p=>(T = "list" ∧ ∃ xs,uz K H p xs)\/(T = "tuple" ∧ ∃ o,K.lookup p=some o/\o.cls=.type "tuple" ∧ o.dict=none) ∨
   (T = "dict" ∧ ((∃ kvs,H p=some (.dK kvs))\/∃ kvs,H p=some (.dT kvs)))\/(T = "set" ∧ ∃ S n,H p=some (.set S n))
 |_=>False
theorem abk {pins:List (Addr×Obj)} {σ:St} {H:Hp} {s:Shared} {T:String} {x:V} {v:Value} (I:Inv X pins σ H s) (r:RelV x v) (ty:tyV X.K T x H) :
  s.TypeIs v T/\∀ a,v=.ref a->∃ ob,s.heap.get? a=some ob/\ob.dict=none:=by
 cases x with
 |str z=>
  obtain⟨t,rfl⟩:=r
  cases (show T = "str" from ty)
  exact⟨typeIs_str s z t,fun _ e=>nomatch e⟩
 |int i=>
  obtain⟨t,rfl⟩:=r
  cases (show T = "int" from ty)
  exact⟨typeIs_int s i t,fun _ e=>nomatch e⟩
 |ref p=>
  cases r
  rcases ty with⟨rfl,xs,hq⟩|⟨rfl,o,hk,hc,hd⟩|⟨rfl,hk⟩|⟨rfl,S,n,hk⟩
  ·obtain⟨its,_,pl,_⟩:=I.list hq
   refine⟨pl.isList.typeIs,fun a e=>?_⟩
   cases e
   obtain⟨o,n,e,c,hd,_⟩:=pl
   exact⟨o,e,hd⟩
  ·refine⟨⟨o,I.kIn p o hk,hc⟩,fun a e=>?_⟩
   cases e
   exact⟨o,I.kIn _ o hk,hd⟩
  ·have z:∃ o,s.heap.get? p=some o/\o.ExactDict:=by
    rcases hk with⟨kvs,hk⟩|⟨kvs,hk⟩
    ·obtain⟨_,_,_,_,o,_,_,e,ex,_⟩:=I.hok p _ hk
     exact⟨o,e,ex⟩
    ·obtain⟨_,_,_,_,o,_,_,e,ex,_⟩:=I.hok p _ hk
     exact⟨o,e,ex⟩
   obtain⟨o,e,ex⟩:=z
   refine⟨⟨o,e,ex.1⟩,fun a e2=>?_⟩
   cases e2
   exact⟨o,e,ex.2.1⟩
  ·obtain⟨o,_,_,_,e,ex,_⟩:=I.hok p _ hk
   refine⟨⟨o,e,ex.1⟩,fun a e2=>?_⟩
   cases e2
   exact⟨o,e,ex.2.1⟩
 |_=>exact False.elim ty
def tBM (K:PySem.W.Frag) (T:String) (r:V->List V->Hp->VK->Prop) (to:TE) (t:TA):TE:=fun σ H Q=>to σ H fun x H1=>tyV K T x H1/\t σ H1 fun xs H2=>r x xs H2 Q
variable {o e:Expr} {es:List Expr} {to:TE} {t:TA} {name:Str} {apos cpos:Pos} {T id:String} {r:V->List V->Hp->VK->Prop}
theorem Z2 (pa:PlainAttrs T) (slot:Slot T name id) (hty:typeOf (.builtin id)=pure (.type "method_descriptor")) (hm:MtR X id r) (ho:PE X o to) (ha:PA X (e::es) t)
  (hbase:attributeBase o name X.env (eval o X.env)=eval o X.env:=by rfl)
  (hfew:((backTo cpos (starEach (e::es) X.env)).all (fun x=>!x.1)&&(backToKw cpos (keywordEach [] X.env)).all (fun x=>x.1.isSome)
   && decide ((e::es).length+([]:List Keyword).length+(if ([]:List Keyword).isEmpty then 0 else 1) < 30))=true:=by rfl)
  (hline:(apos.endLine==cpos.line)=true:=by rfl) (hs:starEach (e::es) X.env=(false,eval e X.env)::starEach es X.env:=by rfl) (hplain:(backTo cpos (starEach es X.env)).any (·.1)=false:=by rfl) :
  PE X (.Call (.Attribute o name apos) (e::es) [] cpos) (tBM X.K T r to t):=by
 intro pins s σ H Q I h
 refine wpAny_Call_method_late hbase hfew hline rfl (j6 (ho pins s σ H _ I h) fun v s1 ⟨x,H1,I1,r1,ty,q1⟩=>?_)
 obtain⟨h1,h2⟩:=abk I1 r1 ty
 refine⟨T,id,pa,slot,hty,h1,h2,?_⟩
 have hA:=ha cpos pins s1 σ H1 _ I1 q1
 rw[hs] at hA ⊢
 refine Calls.callWith_builtin (by show (false||(backTo cpos (starEach es X.env)).any (·.1))=false;rw[hplain]<;>rfl) (Calls.evalArgs_plain ?_)
 exact j6 hA fun us s2 ⟨vs,H2,I2,r2,q2⟩=>hm pins s2 σ H2 x vs v us Q I2 r1 r2 q2
end
end L2
namespace L2
open PySem PySem.Spec PyProof.Rows
def MtM (X:Cx) (id:String) (r:V->List V->Hp->VK->Prop):Prop:=
 ∀ (pins:List (Addr×Obj)) (s:Shared) (σ:St) (H:Hp) (x:V) (xs:List V) (v:Value) (us:List Value) (Q:VK),Inv X pins σ H s->RelV x v->Vals xs us->r x xs H Q →
  wpAny (model X.prog X.w) X.A (call (.builtin id) (v::us)) (EP X pins σ Q) X.xe s
theorem Vals.one:∀ {x:V} {us:List Value},Vals [x] us->∃ u,us=[u]/\RelV x u
 |_,_,.cons r .nil=>⟨_,rfl,r⟩
theorem Vals.two:∀ {x y:V} {us:List Value},Vals [x,y] us->∃ u v,us=[u,v]/\RelV x u/\RelV y v
 |_,_,_,.cons r (.cons q .nil)=>⟨_,_,rfl,r,q⟩
theorem Vals.zero:∀ {us:List Value},Vals [] us->us=[]
 |_,.nil=>rfl
theorem Vals.eraseIdx:∀ {xs:List V} {us:List Value} (i:Nat),Vals xs us->Vals (xs.eraseIdx i) (us.eraseIdx i)
 |_,_,_,.nil=>.nil
 |_,_,0,.cons _ t=>t
 |_,_,i+1,.cons r t=>.cons r (Vals.eraseIdx i t)
theorem Vals.reverse {xs:List V} {us:List Value} (h:Vals xs us):Vals xs.reverse us.reverse:=by
 induction h with
 |nil=>exact .nil
 |cons r t ih=>rw[List.reverse_cons,List.reverse_cons];exact Vals.append ih (.cons r .nil)
section
variable {X:Cx} {pins:List (Addr×Obj)} {σ:St} {H:Hp} {s:Shared} {l b:Addr} {xs ys zs:List V}
theorem Inv.abl {its its':List Value} {n:Nat} {f:Array Value->Array Value} {t':Nat} (I:Inv X pins σ H s) (hH:H l=some (.lst xs))
  (e:s.heap.get? l=some { cls:=.type "list", data:=.seq its.toArray n }) (hf:f its.toArray=its'.toArray) (hv:Vals ys its') (hz:ys.length<=sizeLine) :
  Inv X pins σ (upd H l (.lst ys)) { s with heap:=s.heap.update l (Obj.mapSeq f),toks:=t' }:=by
 have q:=PySem.IsL.update e f
 rw[hf] at q
 refine I.write (x:=l) (e:=l) (by rw[hH];exact trivial) (.inl rfl) (fun b' u hb hu=>(Heap.get?_update_other s.heap (Obj.mapSeq f) (Ne.symm hb)).trans hu) ⟨_,q⟩ ?_
 exact⟨hz,its',_,hv,q⟩
theorem Inv.fresh (I:Inv X pins σ H s):H s.heap.objs.size=none:=I.hok.fresh (Nat.le_refl _)
theorem Inv.afK (I:Inv X pins σ H s) (hH:H l=some (.lst xs)):xs.length<=sizeLine/\∃ (its:List Value) (n:Nat),Vals xs its/\xs.length=its.length/\s.heap.get? l=some { cls:=.type "list", data:=.seq its.toArray n }:=by
 obtain⟨z,its,n,r,e⟩:=I.hok l _ hH
 exact⟨z,its,n,r,r.length,e⟩
end
section
variable {X:Cx}
def Xx:V->List V->Hp->VK->Prop:=fun x vs H Q=>∃ l xs y,x=.ref l/\vs=[y]/\H l=some (.lst xs)/\xs.length < sizeLine/\Q .non (upd H l (.lst (xs++[y])))
theorem G7:MtM X "list.append" Xx:=by
 intro pins s σ H x vs v us Q I rx rv h
 obtain⟨l,xs,y,rfl,rfl,hH,hz,q⟩:=h
 cases rx
 obtain⟨u,rfl,ru⟩:=rv.one
 obtain⟨z,its,n,r,hl,e⟩:=I.afK hH
 refine call_meets F.slot_list_append ⟨_,e,rfl⟩ F.entry_list_append (F.args_list_append_2 _ _) (PySem.list_append l its.toArray n u (by rw[List.size_toArray];omega)) ⟨e,?_⟩
 refine⟨.non,_,I.abl (its':=its++[u]) hH e (by simp) (r.append (.cons ru .nil)) ?_,rfl,q⟩
 rw[List.length_append,List.length_singleton]
 omega
end
section
variable {prog:Program} {w:World} {A:Around} {E:Value->Shared->Prop} {s:Shared}
end
section
variable {X:Cx}
end
end L2
namespace L2
open PySem PySem.Spec PyProof.Rows
section
variable {κ:Type} [DecidableEq κ]
def zf (kvs:List (κ×V)) (k:κ):Option V:=(kvs.find? fun kv=>decide (kv.1=k)).map (·.2)
def putK (kvs:List (κ×V)) (k:κ) (v:V):List (κ×V):=
 if (kvs.any fun kv=>decide (kv.1=k))=true then kvs.map (fun kv=>if kv.1=k then (kv.1,v) else kv) else kvs++[(k,v)]
def Z4 (kvs:List (κ×V)) (k:κ):List (κ×V):=kvs.filter fun kv=>decide (kv.1≠k)
theorem xU {p:κ×V} {r:List (κ×V)} {k:κ} (e:p.1=k):zf (p::r) k=some p.2:=by simp[zf,List.find?_cons,e]
theorem xV {p:κ×V} {r:List (κ×V)} {k:κ} (e:¬ p.1=k):zf (p::r) k=zf r k:=by simp[zf,List.find?_cons,e]
theorem KD (k:κ):∀ kvs:List (κ×V),(kvs.any fun kv=>decide (kv.1=k))=(zf kvs k).isSome
 |[]=>rfl
 |p::r=>by
  rw[List.any_cons]
  by_cases e:p.1=k
  ·simp only[xU e,decide_eq_true e,Bool.true_or,Option.isSome_some]
  ·rw[xV e,decide_eq_false e,Bool.false_or];exact KD k r
theorem pK (kvs:List (κ×V)) (k:κ) (v:V):(putK kvs k v).length<=kvs.length+1:=by
 unfold putK
 split
 ·rw[List.length_map];omega
 ·rw[List.length_append,List.length_cons,List.length_nil];omega
theorem za.Rn {o:Option V} {u:Option Value} (r:za o u):o.isSome=u.isSome:=by
 cases o with
 |none=>cases u with
  |none=>rfl
  |some _=>exact (show False from r).elim
 |some _=>cases u with
  |none=>exact (show False from r).elim
  |some _=>rfl
theorem za.getD {o:Option V} {u:Option Value} {d:V} {d':Value} (r:za o u) (rd:RelV d d'):RelV (o.getD d) (u.getD d'):=by
 cases o with
 |none=>cases u with
  |none=>exact rd
  |some _=>exact (show False from r).elim
 |some _=>cases u with
  |none=>exact (show False from r).elim
  |some _=>exact r
theorem KV.val {kvs:List (κ×V)} {vs:List (κ×Value)} (r:KV kvs vs) (k:κ):za (zf kvs k) (valueAt vs k):=by
 unfold KV at r
 induction r with
 |nil=>exact True.intro
 |@cons p q ps qs h t ih=>
  obtain⟨h1,h2⟩:=h
  by_cases e:p.1=k
  ·have e':q.1=k:=h1.symm.trans e
   have b:valueAt (q::qs) k=some q.2:=by simp[valueAt,List.find?_cons,e']
   rw[xU e,b];exact h2
  ·have e':¬ q.1=k:=fun z=>e (h1.trans z)
   have b:valueAt (q::qs) k=valueAt qs k:=by simp[valueAt,List.find?_cons,e']
   rw[xV e,b];exact ih
theorem KV.any {kvs:List (κ×V)} {vs:List (κ×Value)} (r:KV kvs vs) (k:κ):(kvs.any fun kv=>decide (kv.1=k))=vs.any fun kv=>decide (kv.1=k):=by
 unfold KV at r
 induction r with
 |nil=>rfl
 |cons h t ih=>rw[List.any_cons,List.any_cons,ih,h.1]
theorem KV.repl {kvs:List (κ×V)} {vs:List (κ×Value)} (r:KV kvs vs) (k:κ) {y:V} {u:Value} (ry:RelV y u) :
  KV (kvs.map fun kv=>if kv.1=k then (kv.1,y) else kv) (vs.map fun kv=>if kv.1=k then (kv.1,u) else kv):=by
 unfold KV at r ⊢
 induction r with
 |nil=>exact .nil
 |@cons p q ps qs h t ih=>
  rw[List.map_cons,List.map_cons]
  refine .cons ?_ ih
  obtain⟨h1,h2⟩:=h
  by_cases e:p.1=k
  ·rw[if_pos e,if_pos (h1.symm.trans e)];exact⟨h1,ry⟩
  ·rw[if_neg e,if_neg (fun z=>e (h1.trans z))];exact⟨h1,h2⟩
theorem KV.put {kvs:List (κ×V)} {vs:List (κ×Value)} (r:KV kvs vs) (k:κ) {y:V} {u:Value} (ry:RelV y u):KV (putK kvs k y) (stored vs k u):=by
 unfold putK stored
 rw[r.any k]
 by_cases e:(vs.any fun kv=>decide (kv.1=k))=true
 ·rw[if_pos e,if_pos e];exact r.repl k ry
 ·rw[if_neg e,if_neg e];exact Paired.snoc r ⟨rfl,ry⟩
theorem KV.drop {kvs:List (κ×V)} {vs:List (κ×Value)} (r:KV kvs vs) (k:κ):KV (Z4 kvs k) (without vs k):=by
 unfold KV at r ⊢
 unfold Z4 without
 induction r with
 |nil=>exact .nil
 |@cons p q ps qs h t ih=>
  obtain⟨h1,h2⟩:=h
  rw[List.filter_cons,List.filter_cons]
  by_cases e:p.1=k
  ·have a:¬ decide (p.1≠k)=true:=by simp[e]
   have b:¬ decide (q.1≠k)=true:=by simp[h1.symm.trans e]
   rw[if_neg a,if_neg b];exact ih
  ·have e':¬ q.1=k:=fun z=>e (h1.trans z)
   have a:decide (p.1≠k)=true:=by simp[e]
   have b:decide (q.1≠k)=true:=by simp[e']
   rw[if_pos a,if_pos b];exact .cons ⟨h1,h2⟩ ih
theorem KV.keys {kvs:List (κ×V)} {vs:List (κ×Value)} (r:KV kvs vs):kvs.map (·.1)=vs.map (·.1):=by
 unfold KV at r
 induction r with
 |nil=>rfl
 |cons h t ih=>rw[List.map_cons,List.map_cons,ih,h.1]
theorem KV.length {kvs:List (κ×V)} {vs:List (κ×Value)} (r:KV kvs vs):kvs.length=vs.length:=Paired.length r
end
theorem KH {P:Program} {w:World} {k:Key} {u:Value} (r:RelV (kV k) u):(bU P w).is k u=true:=by
 cases k with
 |inl i=>obtain⟨t,e⟩:=(show ∃ t,u=Value.int i t from r);subst e;exact Kr P w i t
 |inr x=>obtain⟨t,e⟩:=(show ∃ t,u=Value.str x t from r);subst e;exact Ku P w x t
theorem G8 {P:Program} {w:World}:∀ {ks:List Key} {us:List Value},Vals (ks.map kV) us->ItemsAre (bU P w) ks us
 |[],_,r=>by rw[List.map_nil] at r;cases r;exact .nil
 |k::ks,_,r=>by
  rw[List.map_cons] at r
  cases r with
  |cons h t=>exact .cons (KH h) (G8 t)
abbrev KT (H:Hp):List (List Key×V)->List (List Key×Addr×Value)->Prop:=Paired fun p q=>p.1=q.1/\H q.2.1=some (.tup (p.1.map kV))/\RelV p.2 q.2.2
theorem KT.val {H:Hp} {kvs:List (List Key×V)} {xs:List (List Key×Addr×Value)} (r:KT H kvs xs) (k:List Key):za (zf kvs k) ((atKey xs k).map (·.2)):=by
 induction r with
 |nil=>exact True.intro
 |@cons p q ps qs h t ih=>
  obtain⟨h1,_,h2⟩:=h
  by_cases e:p.1=k
  ·have e':q.1=k:=h1.symm.trans e
   have b:atKey (q::qs) k=some q.2:=by simp[atKey,List.find?_cons,e']
   rw[xU e,b];exact h2
  ·have e':¬ q.1=k:=fun z=>e (h1.trans z)
   have b:atKey (q::qs) k=atKey qs k:=by simp[atKey,List.find?_cons,e']
   rw[xV e,b];exact ih
theorem KT.repl {H:Hp} {kvs:List (List Key×V)} {xs:List (List Key×Addr×Value)} (r:KT H kvs xs) (k:List Key) {y:V} {u:Value} (ry:RelV y u) :
  KT H (kvs.map fun kv=>if kv.1=k then (kv.1,y) else kv) (xs.map (putAt k u)):=by
 induction r with
 |nil=>exact .nil
 |@cons p q ps qs h t ih=>
  rw[List.map_cons,List.map_cons]
  refine .cons ?_ ih
  obtain⟨h1,h2,h3⟩:=h
  unfold putAt
  by_cases e:p.1=k
  ·rw[if_pos e,if_pos (h1.symm.trans e)];exact⟨h1,h2,ry⟩
  ·rw[if_neg e,if_neg (fun z=>e (h1.trans z))];exact⟨h1,h2,h3⟩
theorem KT.put {H:Hp} {kvs:List (List Key×V)} {xs:List (List Key×Addr×Value)} (r:KT H kvs xs) (k:List Key) {b:Addr} {y:V} {u:Value} (hb:H b=some (.tup (k.map kV))) (ry:RelV y u) :
  KT H (putK kvs k y) (storedH xs k b u):=by
 have e:(kvs.any fun kv=>decide (kv.1=k))=(atKey xs k).isSome:=by
  rw[KD,(r.val k).Rn,Option.isSome_map]
 unfold putK storedH
 rw[e]
 by_cases q:(atKey xs k).isSome=true
 ·rw[if_pos q,if_pos q];exact r.repl k ry
 ·rw[if_neg q,if_neg q];exact Paired.snoc r ⟨rfl,hb,ry⟩
theorem KT.keeps {H H':Hp} {kvs:List (List Key×V)} {xs:List (List Key×Addr×Value)} (r:KT H kvs xs) (ht:∀ b ys,H b=some (.tup ys)->H' b=some (.tup ys)):KT H' kvs xs:=
 Paired.W8 r fun _ _ z=>⟨z.1,ht _ _ z.2.1,z.2.2⟩
section
variable {P:Program} {w:World} {H:Hp} {h:Heap} {a:Addr}
theorem Z5 {u:HO} (ok:xO P w H h) (e:Rd H a u):ji P w H h a u:=e.ok ok
theorem KJ {kvs:List (Key×V)} (ok:xO P w H h) (e:Rd H a (.dK kvs)):kvs.length<=sizeLine/\(a==sysModules)=false/\∃ vs,KV kvs vs/\h.DictOf (bU P w) a vs:=
 show ji P w H h a (.dK kvs) from Z5 ok e
theorem Z6 {kvs:List (Key×V)} (ok:xO P w H h) (e:H a=some (.dK kvs)):kvs.length<=sizeLine/\(a==sysModules)=false/\∃ vs,KV kvs vs/\h.DictOf (bU P w) a vs:=KJ ok (.inl e)
theorem Ny {ks:List Key} (ok:xO P w H h) (e:H a=some (.tup (ks.map kV))):(tupleKind (bU P w)).is h ks a:=by
 obtain⟨_,its,r,o,h1,h2,⟨n,h3⟩,_⟩:=(show ji P w H h a (.tup (ks.map kV)) from ok a _ e)
 exact⟨o,its.toArray,n,h1,h2,h3,by simpa using G8 r⟩
theorem T8 {kvs:List (List Key×V)} (ok:xO P w H h) (e:Rd H a (.dT kvs)):kvs.length<=sizeLine/\(a==sysModules)=false ∧
  ∃ xs,KT H kvs xs/\h.DictOfH (tupleKind (bU P w)) a xs:=by
 obtain⟨z,y,xs,r,o,es,ep,h1,h2,h3,h4,h5⟩:=(show ji P w H h a (.dT kvs) from Z5 ok e)
 refine⟨z,y,xs,r,o,es,ep,h1,h2,h3,h4,fun x hx=>?_,h5⟩
 have all:∀ {l:List (List Key×V)} {m:List (List Key×Addr×Value)},KT H l m->∀ x∈m,(tupleKind (bU P w)).is h x.1 x.2.1:=by
  intro l m q
  induction q with
  |nil=>intro x hx;exact nomatch hx
  |@cons p q ps qs hq t ih=>
   intro x hx
   rcases List.mem_cons.mp hx with e|hx
   ·subst e
    exact Ny ok (by rw[<-hq.1];exact hq.2.1)
   ·exact ih x hx
 exact all r x hx
theorem adT {kvs:List (List Key×V)} (ok:xO P w H h) (e:H a=some (.dT kvs)):kvs.length<=sizeLine/\(a==sysModules)=false ∧
  ∃ xs,KT H kvs xs/\h.DictOfH (tupleKind (bU P w)) a xs:=T8 ok (.inl e)
end
def Nz (H:Hp) (a:Addr) (y:V) (r:Option V):Prop:=
 (∃ kvs k,Rd H a (.dK kvs)/\y=kV k/\r=zf kvs k)\/∃ kvs k b,Rd H a (.dT kvs)/\y=.ref b/\H b=some (.tup (k.map kV))/\r=zf kvs k
def NK (H:Hp) (a:Addr) (y v:V) (H':Hp):Prop:=
 (∃ kvs k,H a=some (.dK kvs)/\y=kV k/\kvs.length < sizeLine/\H'=upd H a (.dK (putK kvs k v))) ∨
 ∃ kvs k b,H a=some (.dT kvs)/\y=.ref b/\H b=some (.tup (k.map kV))/\kvs.length < sizeLine/\H'=upd H a (.dT (putK kvs k v))
theorem Nz.k {H:Hp} {a:Addr} {kvs:List (Key×V)} {k:Key} (e:H a=some (.dK kvs)):Nz H a (kV k) (zf kvs k):=.inl ⟨kvs,k,.inl e,rfl,rfl⟩
theorem Nz.t {H:Hp} {a b:Addr} {kvs:List (List Key×V)} {k:List Key} (e:H a=some (.dT kvs)) (eb:H b=some (.tup (k.map kV))):Nz H a (.ref b) (zf kvs k):=.inr ⟨kvs,k,b,.inl e,rfl,eb,rfl⟩
theorem NK.k {H:Hp} {a:Addr} {kvs:List (Key×V)} {k:Key} {v:V} (e:H a=some (.dK kvs)) (hl:kvs.length < sizeLine):NK H a (kV k) v (upd H a (.dK (putK kvs k v))):=.inl ⟨kvs,k,e,rfl,hl,rfl⟩
theorem NK.t {H:Hp} {a b:Addr} {kvs:List (List Key×V)} {k:List Key} {v:V} (e:H a=some (.dT kvs)) (eb:H b=some (.tup (k.map kV))) (hl:kvs.length < sizeLine) :
  NK H a (.ref b) v (upd H a (.dT (putK kvs k v))):=.inr ⟨kvs,k,b,e,rfl,eb,hl,rfl⟩
section
variable {X:Cx} {pins:List (Addr×Obj)} {σ:St} {H:Hp} {s:Shared} {a:Addr} {y v:V} {u r:Value} {o:Option V} {A:Around} {E:Value->Shared->Prop}
theorem Inv.big (I:Inv X pins σ H s):sysModules < s.heap.objs.size:=by
 have h:mainGlobals < s.heap.objs.size:=(I.mod.glob.keeps I.bk).lt
 exact Nat.lt_trans (by decide) h
theorem Ro {Q:Value->Shared->Prop} (hu:A.units+1 < cLine) (I:Inv X pins σ H s) (g:Nz H a y (some v)) (ry:RelV y u) (h:∀ w' s',Inv X pins σ H s'->RelV v w'->Q w' s') :
  wpAny (model X.prog X.w) A (getItem (.ref a) u) Q E s:=by
 rcases g with⟨kvs,k,e,ey,l⟩|⟨kvs,k,b,e,ey,eb,l⟩
 ·subst ey
  obtain⟨z,hd,vs,rel,dd⟩:=KJ I.hok e
  obtain⟨w',hw,PJ⟩:=za.some_of (v:=v) (o:=valueAt vs k) (by rw[l];exact rel.val k)
  exact wpAny_getItem_of (KH ry) dd.mapOf hw (h w' _ (I.tok _) PJ)
 ·subst ey
  cases (show u=Value.ref b from ry)
  obtain⟨z,hd,xs,rel,dd⟩:=T8 I.hok e
  obtain⟨w',hw,PJ⟩:=za.some_of (v:=v) (o:=(atKey xs k).map (·.2)) (by rw[l];exact rel.val k)
  obtain⟨p,hp,hp2⟩:=Option.map_eq_some_iff.mp hw
  refine wpAny_getItem_heap (tupleKind_room_in1 hu) (Ny I.hok eb) dd hp ?_
  rw[hp2]
  exact h w' _ (I.tok _) PJ
theorem Ir {h':Heap} {t':Nat} {ob:HO} (I:Inv X pins σ H s) (mu:Mut (H a)) (hs:Heap.SameBut a s.heap h') (he:∃ q,h'.get? a=some q) (new:ji X.prog X.w (upd H a ob) h' a ob) :
  Inv X pins σ (upd H a ob) { s with heap:=h',toks:=t' }:=
 I.write (x:=a) (e:=a) mu (.inl rfl) (fun b q hb z=>(hs.2 b hb).trans z) he new
theorem T9 {P:Program} {w:World} {H':Hp} {h':Heap} {kvs:List (Key×V)} {vs:List (Key×Value)} (z:kvs.length<=sizeLine) (hd:(a==sysModules)=false) (rel:KV kvs vs) (dd:h'.DictOf (bU P w) a vs) :
  ji P w H' h' a (.dK kvs):=⟨z,hd,vs,rel,dd⟩
theorem Rp {H':Hp} {Q:Unit->Shared->Prop} (hu:A.units+1 < cLine) (I:Inv X pins σ H s) (g:NK H a y v H') (ry:RelV y u) (rv:RelV v r) (h:∀ s',Inv X pins σ H' s'->Q () s') :
  wpAny (model X.prog X.w) A (setItem (.ref a) u r) Q E s:=by
 rcases g with⟨kvs,k,e,ey,l,eH⟩|⟨kvs,k,b,e,ey,eb,l,eH⟩
 ·subst ey eH
  obtain⟨z,hd,vs,rel,dd⟩:=Z6 I.hok e
  have hz:vs.length<=sizeLine:=by rw[<-rel.length];exact z
  have hl:(putK kvs k v).length<=sizeLine:=by have:=pK kvs k v;omega
  refine wpAny_setItem_pairs (hsz:=hz) (KH ry) dd fun h' dd' hs=>h _ ?_
  have he:∃ q,h'.get? a=some q:=let ⟨q,_,_,hq,_⟩:=dd';⟨q,hq⟩
  exact Ir I (by rw[e];exact True.intro) hs he (T9 hl hd (rel.put k rv) dd')
 ·subst ey eH
  cases (show u=Value.ref b from ry)
  obtain⟨z,hd,xs,rel,dd⟩:=adT I.hok e
  have hz:xs.length<=sizeLine:=by rw[<-Paired.length rel];exact z
  have hl:(putK kvs k v).length<=sizeLine:=by have:=pK kvs k v;omega
  refine wpAny_setItem_heap (hsz:=hz) (tupleKind_room_in1 hu) (Ny I.hok eb) dd fun h' dd' hs=>h _ ?_
  obtain⟨q,es,ep,hq,h2,h3,h4,_,h5⟩:=dd'
  refine Ir I (by rw[e];exact True.intro) hs ⟨q,hq⟩ ⟨hl,hd,_,(rel.put k eb rv).keeps fun c ys ec=>?_,q,es,ep,hq,h2,h3,h4,h5⟩
  rw[aU (n6 ec e (fun z=>nomatch z))]
  exact ec
end
section
variable {X:Cx} {pins:List (Addr×Obj)} {σ:St} {H:Hp} {s:Shared} {a:Addr} {kvs:List (Key×V)} {k:Key} {u:Value} {A:Around} {E:Value->Shared->Prop}
end
def Xy (i:Expr):Prop:=∀ ov iv,subscripted i false ov iv=operate [ov,iv] (getItem ov iv)
theorem Xz {prog:Program} {w:World} {A:Around} {E:Value->Shared->Prop} {s:Shared} {env:Env} {value slice:Expr} {pos:Pos} {T id:String} {Q:Value->Shared->Prop}
  (hl:typeLookup (.type T) "__getitem__" = pure (some (.builtin id))) (hs:Xy slice)
  (h:wpAny (model prog w) A (eval value env) (fun o s₁=>wpAny (model prog w) A (eval slice env) (fun i s₂=>s₂.TypeIs o T/\wpAny (model prog w) A (getItem o i) Q E s₂) E s₁) E s) :
  wpAny (model prog w) A (eval (.Subscript value slice pos) env) Q E s:=by
 refine Subscript_ (wpAny_mono h (fun o s₁ h₁=>wpAny_mono h₁ (fun i s₂ h₂=>?_) fun _ _ x=>x) fun _ _ x=>x)
 obtain⟨hT,h₂⟩:=h₂
 unfold subscriptTail
 refine wpAny_bind ?_
 rw[getitemInPython_of_ne hT.not_modules]
 refine wpAny_bind (wpAny_specialOf hT hl ?_)
 have fin:wpAny (model prog w) A (subscripted slice false o i) (fun r s₃=>wpAny (model prog w) A (letTemporaryGo value o r >>= fun _=>pure r) Q E s₃) E s₂:=by
  rw[hs o i]
  exact wpAny_operating (wpAny_mono h₂ (fun r s₃ h₃=>wpAny_bind (wpAny_letTemporaryGo (wpAny_pure h₃))) fun _ _ x=>x)
 first
  |exact wpAny_pure (wpAny_bind fin)
  |exact wpAny_bind (wpAny_pure (wpAny_bind fin))
  |exact wpAny_bind fin
theorem KN {X:Cx} {pins:List (Addr×Obj)} {σ:St} {H:Hp} {s:Shared} {a:Addr} {y:V} {o:Option V} (I:Inv X pins σ H s) (g:Nz H a y o):s.TypeIs (.ref a) "dict" := by
 rcases g with⟨kvs,k,e,_,_⟩|⟨kvs,k,b,e,_,_,_⟩
 ·obtain⟨_,_,vs,_,dd⟩:=KJ I.hok e
  exact dd.typeIs
 ·obtain⟨_,_,xs,_,dd⟩:=T8 I.hok e
  exact dd.typeIs
def adU (td ty:TE):TE:=fun σ H Q=>td σ H fun x H1=>ty σ H1 fun y H2=>∃ a v,x=.ref a/\Nz H2 a y (some v)/\Q v H2
def adV (td ty tv:TE):TS:=fun D σ H=>tv σ H fun v H1=>td σ H1 fun x H2=>ty σ H2 fun y H3=>∃ a H4,x=.ref a/\NK H3 a y v H4/\D.nx σ H4
section
variable {X:Cx} {o i e value:Expr} {pos pos' tpos:Pos} {td ty tv:TE}
theorem XC (hu:X.A.units+1 < cLine) (ho:PE X o td) (hi:PE X i ty) (hs:Xy i):PE X (.Subscript o i pos) (adU td ty):=by
 intro pins s σ H Q I h
 refine Xz PySem.F.slot_dict_getitem.lookup hs (j6 (ho pins s σ H _ I h) fun u s1 ⟨x,H1,I1,rx,q1⟩=>j6 (hi pins s1 σ H1 _ I1 q1) fun iv s2 ⟨y,H2,I2,ry,a,v,ex,g,q2⟩=>?_)
 subst ex
 obtain rfl:u=Value.ref a:=rx
 exact⟨KN I2 g,Ro hu I2 g ry fun w' s3 I3 PJ=>⟨v,H2,I3,PJ,q2⟩⟩
theorem XD (hu:X.A.units+1 < cLine) (ho:PE X o td) (hi:PE X i ty) (hv:PE X value tv) (hs:swapsWith value (some (.Subscript o i pos')) pos.line X.env=pure false) :
  PS X (.Assign [.Subscript o i pos'] value pos) (adV td ty tv):=by
 intro pins s σ H D I h
 refine wpAny_Assign_Subscript (j6 (hv pins s σ H _ I h) fun r s1 ⟨v,H1,I1,rv,q1⟩=>j6 (ho pins s1 σ H1 _ I1 q1) fun u s2 ⟨x,H2,I2,rx,q2⟩=>j6 (hi pins s2 σ H2 _ I2 q2) fun iv s3 ⟨y,H3,I3,ry,a,H4,ex,g,q3⟩=>?_) hs
 subst ex
 obtain rfl:u=Value.ref a:=rx
 exact Rp hu I3 g ry rv fun s4 I4=>⟨σ,H4,I4,q3⟩
end
theorem Ua {P:Program} {w:World} {H:Hp} (h:Heap) (hb:sysModules < h.objs.size):ji P w H (h.push { cls:=.type "dict", data:=.dict #[] }) h.objs.size (.dK []):=
 ⟨Nat.zero_le _,beq_eq_false_iff_ne.mpr (Ne.symm (Nat.ne_of_lt hb)),[],.nil,Heap.DictOf.new h⟩
section
variable {X:Cx} {pos:Pos}
end
section
variable {X:Cx} {pins:List (Addr×Obj)} {σ:St} {H:Hp} {s:Shared} {a:Addr} {y d:V} {u r:Value} {o:Option V} {A:Around} {E:Value->Shared->Prop}
end
section
variable {X:Cx} {o e f:Expr} {apos cpos:Pos} {td ty tx:TE}
end
section
variable {X:Cx} {pins:List (Addr×Obj)} {σ:St} {H:Hp} {s:Shared} {a:Addr} {kvs:List (Key×V)} {A:Around} {E:Value->Shared->Prop}
end
section
variable {X:Cx} {pins:List (Addr×Obj)} {σ:St} {H:Hp} {s:Shared} {a:Addr} {y:V} {u:Value} {A:Around} {E:Value->Shared->Prop}
end
end L2
namespace Att
open PySem PySem.W PySem.Calls PyProof.Rows
theorem Aq {P:Params} {h:Heap}:∀ (ns:List Int) (vs:List Value),WellAll P h vs (ns.map WData.int)->IntsAre vs ns:=by
 intro ns
 induction ns with
 |nil=>
  intro vs w
  rw[List.map_nil] at w
  cases w
  exact .nil
 |cons n ns ih=>
  intro vs w
  rw[List.map_cons] at w
  cases w with
  |cons a b=>
   cases a
   exact .cons _ _ (ih _ b)
theorem Rq {l:OpenLaw} {n:Nat} (hn:l.most=some n) {P:Params} {h:Heap} {args:List WData} {vals:List Value}
  (hpre:l.row.toRowW.claim.pre args=true) (hwl:WellAll P h vals args) :
  ∃ a vs ns,vals=[Value.ref a]/\args=[WData.list (ns.map WData.int)]/\h.get? a=some { cls:=.type "list", data:=.seq vs.toArray }/\IntsAre vs ns/\ns.length<=n:=by
 have hsh:WShape.hasAll [] args [.list .int]=true:=(pre_splitW hpre).1
 have hc:l.pre.holds [] { args:=args }=true:=(pre_splitW hpre).2
 obtain⟨d,r,rfl,h1,h2⟩:=hasAllW_cons hsh
 obtain rfl:=hasAllW_nil h2
 obtain⟨xs,rfl,h3⟩:=hasW_list h1
 obtain⟨ns,rfl⟩:=items_int h3
 have hlen:ns.length<=n:=by
  unfold OpenLaw.pre at hc
  have h4:(WTm.not (.lt (.lit (.int (n:Int))) (.len (.arg 0)))).holds [] { args:=[.list (ns.map .int)] }=true:=by
   have h4:=(holds_andW hc).1
   rw[hn] at h4
   exact h4
  have h5:=condW_of h4 (w_not (w_lt w_lit (w_len_list (w_arg rfl))))
  rw[List.length_map] at h5
  refine Nat.le_of_not_lt fun q=>?_
  have q':(n:Int) < ((ns.length:Nat):Int):=by omega
  first
   |(rw[decide_eq_true q'] at h5;exact absurd h5 (by decide))
   |(simp at h5;omega)
 cases hwl with
 |cons w1 w2=>
  cases w2
  cases w1 with
  |list ho hall=>exact⟨_,_,ns,rfl,rfl,ho,Aq ns _ hall,hlen⟩
theorem Rr (l:OpenLaw) (args:List WData):l.row.toRowW.claim.post args (.bool true) args=true:=
 postW_of (r:=l.row.toRowW) (X:=(true==true))
  (show WShape.has [] (.bool true) .bool=true by first|rfl|decide|simp[WShape.has,WShape.arms,WShape.armsAll])
  (show (WTm.eq .res (.lit (.bool true))).value [] { args:=args,res:=some (.bool true),after:=args }=some (.bool (true==true)) from w_eq_bool (w_res rfl) w_lit) rfl
theorem KQ {l:OpenLaw} {n:Nat} {q:Program} {loose:List Str} {XP:(Str->Option Value)->Heap->Prop} {YP:World->Heap->Prop} {d:DefRec}
  (hn:l.most=some n) (hdf:d.params.defaults=[])
  (call:∀ (w:World) (s₀ s₁:Shared) (mg mb:Str->Option Value) (fa:Addr) (o:Obj) (pm cd doc:Value) (a:Addr) (vs:List Value) (ns:List Int),
   Ground q loose [] XP w s₀ mg mb s₁.heap->YP w s₁.heap →
   s₁.heap.get? fa=some o->o.data=.func (docDef d.name d.params d.body d.scope pm cd doc)->s₁.heap.CodeRec cd d.name->mg d.name=some (.ref fa) →
   s₁.heap.get? a=some { cls:=.type "list", data:=.seq vs.toArray }->IntsAre vs ns->ns.length<=n->s₁.gens=#[] →
   codeAny (model l.prog w) callerA (.call (.ref fa) ⟨[.ref a],[]⟩) (fun r s'=>r=.ok (.ret (.bool true))/\OldK s₁.heap s'.heap/\s'.os=s₁.os/\AllBare s'.gens) s₁) :
  WalkO q loose XP YP l.row.toRowW d [] (fun f vs=>PySem.call f vs):=by
 intro w s₀ s₁ mg mb G Y fa o pm cd doc dV kV ho hd hcd hD hmg hg args vals as hpre hlay hrd hwl hlo
 obtain rfl:dV=.none:=Dflts.none hD hdf
 obtain rfl:kV=.none:=Dflts.noKw hD
 obtain⟨a,vs,ns,rfl,rfl,hobj,hints,hlen⟩:=Rq hn hpre hwl
 refine enter_call (codeAny_mono (call w s₀ s₁ mg mb fa o pm cd doc a vs ns G Y ho (fd_plain hd) hcd hmg hobj hints hlen hg) fun r s' hq=>?_)
 obtain⟨rfl,h2,h3,h4⟩:=hq
 exact⟨.inl ⟨.bool true,.bool true,[],rfl,fun _=>rfl,.bool true,Rr l _,fun _=>⟨List.Pairwise.nil,fun _ hm=>(nomatch hm)⟩⟩,h2,h3,h4⟩
section
variable {prog:Program} {w:World} {A:Around} {E:Value->Shared->Prop} {s:Shared} {K:Frag}
end
end Att
namespace L2
open PySem PySem.Spec PyProof.Rows
theorem G9:∀ {vs:List Value} {ns:List Int},IntsAre vs ns->Vals (ns.map V.int) vs
 |_,_,.nil=>.nil
 |_,_,.cons n t h=>.cons ⟨t,rfl⟩ (G9 h)
def Only (H:Hp):Prop:=∀ b,H b=none\/∃ o xs,H b=some (.q9 o (.lst xs))
theorem Ub {P:Program} {w:World} {K:PySem.W.Frag} {mg mb:Str->Option Value} {CX:PK} {k:Nat} {fa a:Addr} {fd:FuncData} {x:Str} {sp:Sp} {s₁:Shared} {vs:List Value} {ns:List Int}
  (KX:K.In s₁.heap) (hns:s₁.heap.Ns mainGlobals mg) (hb:s₁.heap.Ns builtinsNs mb) (hbb:∀ x:Str,x ≠ "__name__" → mb x=bootBuiltins x) (hlim:s₁.heap.NoLimit) (hg:s₁.gens=#[])
  (ha:s₁.heap.get? a=some { cls:=.type "list", data:=.seq vs.toArray }) (hi:IntsAre vs ns) (hl:ns.length<=sizeLine) (hr:kJ k callerA)
  (F:∀ base:Heap,K.In base->base.Ns mainGlobals mg->fG P w K mg base CX k fa fd [x] sp) (hbind:∀ (s:Shared) (u:Value),BindsTo s fd ⟨[u],[]⟩ [(x,u)])
  (hsp:∀ H:Hp,Only H->uz K H a (ns.map V.int)->sp [.ref a] H (fun v _=>v=.bl true) fun _ _ _=>False)
  (hCX:∀ H e s',CX [] H s₁ (fun _ _ _=>False) e s'->False) :
  codeAny (model P w) callerA (.call (.ref fa) ⟨[.ref a],[]⟩) (fun r s'=>r=.ok (.ret (.bool true))/\OldK s₁.heap s'.heap/\s'.os=s₁.os/\AllBare s'.gens) s₁:=by
 have rv:=G9 hi
 have lenV:=hi.length
 have core:∀ H:Hp,Only H->uz K H a (ns.map V.int)->xO P w H s₁.heap->(∀ b,H b≠none->b=a)->(H a≠none->K.lookup a=none) →
   codeAny (model P w) callerA (.call (.ref fa) ⟨[.ref a],[]⟩) (fun r s'=>r=.ok (.ret (.bool true))/\OldK s₁.heap s'.heap/\s'.os=s₁.os/\AllBare s'.gens) s₁:=by
  intro H hO hS hok hA hK
  have P0:∀ {b:Addr} {o:Obj},s₁.heap.get? b=some o->H b=none->(Ig s₁.heap H).get? b=some o:=fun e n=>Tr e n
  have noA:∀ {b:Addr} {o:Obj} {es:Array DictEntry} {ep:Nat},s₁.heap.get? b=some o->o.data=.dict es ep->H b=none:=fun {b o es ep} e d=>by
   cases q:H b with
   |none=>rfl
   |some u=>
    have e':b=a:=hA b (by rw[q];simp)
    subst e'
    rw[ha] at e;cases e
    have d':Data.seq vs.toArray _=Data.dict es ep:=d
    cases d'
  have nsK:∀ {b:Addr} {m:Str->Option Value},s₁.heap.Ns b m->(Ig s₁.heap H).Ns b m:=fun {b m} ⟨o,es,ep,e,d,r⟩=>⟨o,es,ep,P0 e (noA e d),d,r⟩
  have hKb:K.In (Ig s₁.heap H):=fun b o e=>P0 (KX b o e) (by
   cases q:H b with
   |none=>rfl
   |some u=>
    have e':b=a:=hA b (by rw[q];simp)
    subst e'
    rw[hK (by rw[q];simp)] at e;cases e)
  have hM:Mod K mg (Ig s₁.heap H):=⟨hKb,nsK hns,⟨mb,nsK hb,hbb⟩,let ⟨mc,h1,h2⟩:=hlim;⟨mc,nsK h1,h2⟩⟩
  have e0:Nu P w K mg (Ig s₁.heap H) callerA [] s₁ H:=⟨rfl,hM,fun b o e=>W9 e,Nat.le_of_eq (Q7 _ _),trivial,fun b hb=>absurd (show b∈([]:List Addr) from hb) (by simp),hok,.of_eq hg⟩
  refine codeAny_mono ((F _ hKb (nsK hns)).run callerA [] s₁ H ⟨[.ref a],[]⟩ [.ref a] [.ref a] _ _ hr e0 (hbind s₁ (.ref a)) (.cons rfl .nil) (hsp H hO hS)) fun r s' h=>?_
  cases r with
  |error e=>exact (hCX H e s' h).elim
  |ok fl=>
   cases fl with
   |next=>exact False.elim h
   |brk=>exact False.elim h
   |cont=>exact False.elim h
   |ret u=>
    obtain⟨v,H',os,bare,un,hok',r',q⟩:=h
    have q':v=.bl true:=q
    subst q'
    obtain rfl:u=Value.bool true:=r'
    refine⟨rfl,OldK.of_keep fun b o e=>?_,os,bare⟩
    cases q:H b with
    |none=>exact un.keep b o e q (by intro z;exact absurd (show b∈([]:List Addr) from z) (by simp)) (by simp)
    |some u=>
     rcases hO b with z|⟨ob,xs,z⟩
     ·rw[q] at z;cases z
     ·have z2:=un.wg b ob _ z
      obtain⟨e1,_⟩:=hok b _ z
      obtain⟨e2,_⟩:=hok' b _ z2
      rw[e] at e1;cases e1
      exact e2
 cases hk:K.lookup a with
 |some o=>
  have e:=KX a o hk
  rw[ha] at e
  cases e
  refine core (fun _=>none) (fun _=>.inl rfl) (.inr ⟨_,vs.toArray,_,hk,rfl,rfl,rfl,by rw[List.size_toArray,lenV];exact hl,by simpa using rv⟩) (fun b u z=>by have z':(none:Option HO)=some u:=z;cases z') (fun b z=>absurd rfl z) fun z=>absurd rfl z
 |none=>
  refine core (fun b=>if b=a then some (.q9 { cls:=.type "list", data:=.seq vs.toArray } (.lst (ns.map V.int))) else none) (fun b=>?_) (.inl (.inr ⟨{ cls:=.type "list", data:=.seq vs.toArray },if_pos rfl⟩)) (fun b u z=>?_) (fun b z=>?_) fun _=>hk
  ·by_cases hb:b=a
   ·exact .inr ⟨_,_,if_pos hb⟩
   ·exact .inl (if_neg hb)
  ·by_cases hb:b=a
   ·have z':=(if_pos hb).symm.trans z
    cases z'
    subst hb
    exact⟨ha,by rw[List.length_map];exact hl,vs,_,rv,ha⟩
   ·have z':=(if_neg hb).symm.trans z
    cases z'
  ·by_cases hb:b=a
   ·exact hb
   ·exact absurd (if_neg hb) z
end L2
namespace L2
open PySem PySem.Spec PyProof.Rows
theorem XF {l:PySem.W.OpenLaw} {n k:Nat} {q:Program} {loose:List Str} {XP:(Str->Option Value)->Heap->Prop} {YP:World->Heap->Prop} {d:DefRec} {K:Params->PySem.W.Frag} {CX:World->PK} {sp:World->Sp} {x:Str}
  (hn:l.most=some n) (hn2:n<=sizeLine) (hdf:d.params.defaults=[]) (hr:kJ k callerA)
  (hY:∀ (w:World) (h:Heap),YP w h->(K w.params).In h)
  (F:∀ (w:World) (mg:Str->Option Value) (fa:Addr) (h:Heap),(K w.params).In h->h.Ns mainGlobals mg->mg d.name=some (.ref fa) →
   ∃ fd:FuncData,(∀ (s:Shared) (u:Value),BindsTo s fd ⟨[u],[]⟩ [(x,u)]) ∧
    ∀ base:Heap,(K w.params).In base->base.Ns mainGlobals mg->fG l.prog w (K w.params) mg base (CX w) k fa fd [x] (sp w))
  (hsp:∀ (w:World) (H:Hp) (a:Addr) (ns:List Int),ns.length<=n->Only H->uz (K w.params) H a (ns.map V.int)->sp w [.ref a] H (fun v _=>v=.bl true) fun _ _ _=>False)
  (hCX:∀ (w:World) (H:Hp) (s:Shared) (e:Value) (s':Shared),CX w [] H s (fun _ _ _=>False) e s'->False) :
  PySem.W.WalkO q loose XP YP l.row.toRowW d [] (fun f vs=>PySem.call f vs):=by
 refine Att.KQ hn hdf fun w s₀ s₁ mg mb fa o pm cd doc a vs ns G Y ho hd hcd hmg hobj hints hlen hg=>?_
 have KX:=hY w _ Y
 obtain⟨fd,hb,hF⟩:=F w mg fa _ KX G.T.g hmg
 exact Ub KX G.T.g G.T.b G.T.builtins G.T.nolimit hg hobj hints (Nat.le_trans hlen hn2) hr hF hb (fun H hO hS=>hsp w H a ns hlen hO hS) fun H e s'=>hCX w H s₁ e s'
theorem Uc {l:PySem.W.OpenLaw} {n k:Nat} {q:Program} {loose:List Str} {XP:(Str->Option Value)->Heap->Prop} {YP:World->Heap->Prop} {d:DefRec} {K:Params->PySem.W.Frag} {CX:PK} {sp:PySem.W.Frag->Sp} {x:Str}
  (hn:l.most=some n) (hn2:n<=sizeLine) (hdf:d.params.defaults=[]) (hr:kJ k callerA)
  (hY:∀ (w:World) (h:Heap),YP w h->(K w.params).In h)
  (F:∀ (w:World) (mg:Str->Option Value) (fa:Addr) (h:Heap),(K w.params).In h->h.Ns mainGlobals mg->mg d.name=some (.ref fa) →
   ∃ fd:FuncData,(∀ (s:Shared) (u:Value),BindsTo s fd ⟨[u],[]⟩ [(x,u)]) ∧
    ∀ base:Heap,(K w.params).In base->base.Ns mainGlobals mg->fG l.prog w (K w.params) mg base CX k fa fd [x] (sp (K w.params)))
  (hsp:∀ (K:PySem.W.Frag) (H:Hp) (a:Addr) (ns:List Int),ns.length<=n->Only H->uz K H a (ns.map V.int)->sp K [.ref a] H (fun v _=>v=.bl true) fun _ _ _=>False)
  (hCX:∀ (H:Hp) (s:Shared) (e:Value) (s':Shared),CX [] H s (fun _ _ _=>False) e s'->False) :
  PySem.W.WalkO q loose XP YP l.row.toRowW d [] (fun f vs=>PySem.call f vs):=
 XF (K:=K) (CX:=fun _=>CX) (sp:=fun w=>sp (K w.params)) hn hn2 hdf hr hY F (fun w H a ns h1 h2 h3=>hsp (K w.params) H a ns h1 h2 h3) fun _ H s e s'=>hCX H s e s'
end L2
namespace L2
open PySem PySem.Spec PyProof.Rows
def fU (s:Stmt):Arguments:=match s with
 |.FunctionDef _ a _ _ _ _ _ _ _ _=>a
 |_=>{ posonlyargs:=[],args:=[],vararg:=none,kwonlyargs:=[],kw_defaults:=[],kwarg:=none,defaults:=[] }
def dO (s:Stmt):List Stmt:=match s with
 |.FunctionDef _ _ b _ _ _ _ _ _ _=>b
 |_=>[]
def aW (s:Stmt):Scope:=match s with
 |.FunctionDef _ _ _ _ _ _ sc _ _ _=>sc
 |_=>{ kind:=.function,names:=[],isGenerator:=false,isCoroutine:=false }
abbrev nC:PK:=fun _ _ _ _ _ _=>False
abbrev E0:XK:=fun _ _ _=>False
theorem Z7 {X:Cx}:Passes nC X E0:=fun _ _ _ _ _ _ _ h=>h.elim
structure Bw (K:PySem.W.Frag) (x qual:Str) (st:Stmt) (f:Addr) (fd:FuncData):Prop where
 ex:∃ (oc:Value) (od:Option Addr) (kV doc pm:Value) (an:Option Addr) (cdv ct:Value) (osl:Array (Option Value)),
  fd=PySem.W.fnOf x qual (fU st) (dO st) (aW st) .none kV doc pm an cdv ct/\K.lookup f=some ⟨oc,od,.func fd,osl⟩/\PySem.W.codeIn K cdv qual=true
 kp:PySem.W.keepIn K (.ref f)=true
section
variable {P:Program} {w:World} {K:PySem.W.Frag} {mg:Str->Option Value} {base:Heap}
theorem Bw.ok {x qual:Str} {st:Stmt} {f:Addr} {fd:FuncData} {N ps:List Str} {k:Nat} {sp:Sp} (F:Bw K x qual st f fd) (S:fB N ps (aW st)) (len:∀ vs H Q E,sp vs H Q E->vs.length=ps.length)
  (hbody:∀ (cdv:Value) (A:Around) (outer:List Env) (s:Shared) (H:Hp) (vs:List V) (Q:VK) (E:XK),kJ k (A.deeper (envOfC qual (aW st) s.heap.objs.size f cdv))->sp vs H Q E →
   ∃ t,Px (Fz nC P w K mg base N qual (aW st) f cdv A outer s H E).Te (dO st) t/\t { nx:=fun _ H'=>Q .non H',rt:=Q } (start N vs) H):fG P w K mg base nC (k+1) f fd ps sp:=by
 obtain⟨oc,od,kV,doc,pm,an,cdv,ct,osl,rfl,lk,hcd⟩:=F.ex
 refine adL lk hcd S len fun A outer s H vs Q E hr hsp=>?_
 obtain⟨t,h,q⟩:=hbody cdv A outer s H vs Q E hr hsp
 exact⟨t,h.Te,q⟩
theorem Bw.binds {x qual:Str} {st:Stmt} {f:Addr} {fd:FuncData} {ps:List Str} (F:Bw K x qual st f fd)
  (h:∀ (kV doc pm:Value) (an:Option Addr) (cdv ct:Value) (us:List Value),us.length=ps.length->bindArgs (PySem.W.fnOf x qual (fU st) (dO st) (aW st) .none kV doc pm an cdv ct) ⟨us,[]⟩=pure (ps.zip us)):Binds K fd ps []:=by
 obtain⟨oc,od,kV,doc,pm,an,cdv,ct,osl,rfl,lk,hcd⟩:=F.ex
 exact .all (h kV doc pm an cdv ct)
theorem j7 {x qual:Str} {st:Stmt} {f:Addr} {oc:Value} {od an:Option Addr} {osl:Array (Option Value)} {kV doc pm cdv ct:Value} (l:K.lookup f=some ⟨oc,od,.func (PySem.W.fnOf x qual (fU st) (dO st) (aW st) .none kV doc pm an cdv ct),osl⟩)
  (c:PySem.W.codeIn K cdv qual=true) (k:PySem.W.keepIn K (.ref f)=true):Bw K x qual st f (PySem.W.fnOf x qual (fU st) (dO st) (aW st) .none kV doc pm an cdv ct):=⟨⟨oc,od,kV,doc,pm,an,cdv,ct,osl,rfl,l,c⟩,k⟩
end
section
variable {X:Cx}
theorem pv (i:Nat) {x:Str} {pos:Pos} (hN:X.N[i]?=some x:=by rfl) (hv:Nk X.env.scope x:=by first|exact Or.inl rfl|exact Or.inr (Or.inl rfl)|exact Or.inr (Or.inr rfl)) (hd:(x==("__debug__" : Str))=false:=by decide)
  (hcd:(x==("__classdict__" : Str))=false:=by decide):PE X (.Name x pos) (ado i):=wQ hN hv hd hcd
end
def Same (H H':Hp):Prop:=∀ b o,H b=some o->H' b=some o
theorem Same.refl (H:Hp):Same H H:=fun _ _ h=>h
theorem Same.trans {H H1 H2:Hp} (a:Same H H1) (b:Same H1 H2):Same H H2:=fun c o h=>b c o (a c o h)
theorem Same.free {H H':Hp} (e:Same H H') {l:Addr} (h:H' l=Option.none):H l=Option.none:=by
 cases q:H l with
 |none=>rfl
 |some o=>
  rw[e l o q] at h
  cases h
theorem Same.seq {K:PySem.W.Frag} {H H':Hp} {a:Addr} {xs:List V} (e:Same H H') (h:uz K H a xs):uz K H' a xs:=by
 rcases h with (h|⟨o,h⟩)|h
 ·exact .inl (.inl (e _ _ h))
 ·exact .inl (.inr ⟨o,e _ _ h⟩)
 ·exact .inr h
end L2
end
section
namespace P1
open PySem PySem.Spec PyProof.Rows L2
inductive Dt where
 |non|bl (b:Bool)|int (i:Int)|str (x:Str)|tup (xs:List Dt)|lst (xs:List Dt)|emp
inductive Bx where
 |z (d:Dt)|l (ds:List Dt)|o (ds:List Dt)|n (kvs:List (Str×Dt))|m (kvs:List (Str×Dt)) (w:Option Addr)
abbrev Ev:=List (Option Bx)
def FzL (K:PySem.W.Frag) (H:Hp) (a:Addr) (xs:List V):Prop:=
 (∃ o,H a=some (.q9 o (.lst xs))) ∨
  ∃ (o:Obj) (its:Array Value) (n:Nat),K.lookup a=some o/\o.cls=.type "list" ∧ o.dict=none/\o.data=.seq its n/\its.size<=sizeLine/\Vals xs its.toList
theorem FzL.sq {K:PySem.W.Frag} {H:Hp} {a:Addr} {xs:List V} (h:FzL K H a xs):uz K H a xs:=by
 rcases h with h|h
 ·exact .inl (.inr h)
 ·exact .inr h
mutual
def Rep (K:PySem.W.Frag) (H:Hp):Dt->V->Prop
 |.non,v=>v=.non
 |.bl b,v=>v=.bl b
 |.int i,v=>v=.int i
 |.str x,v=>v=.str x/\x.length<=sizeLine
 |.tup ds,v=>∃ a vs,v=.ref a/\wD K H a vs/\aO K H ds vs
 |.lst ds,v=>∃ a vs,v=.ref a/\FzL K H a vs/\aO K H ds vs
 |.emp,v=>∃ a o,v=.ref a/\H a=some (.q9 o (.dK []))
def aO (K:PySem.W.Frag) (H:Hp):List Dt->List V->Prop
 |[],vs=>vs=[]
 |d::ds,vs=>∃ v r,vs=v::r/\Rep K H d v/\aO K H ds r
end
structure Kp (H H':Hp):Prop where
 t:∀ a xs,H a=some (.tup xs)->H' a=some (.tup xs)
 f:∀ a o u,H a=some (.q9 o u)->H' a=some (.q9 o u)
theorem Kp.of {H H':Hp} (s:Same H H'):Kp H H':=⟨fun a _ h=>s a _ h,fun a _ _ h=>s a _ h⟩
theorem Kp.sqT {K:PySem.W.Frag} {H H':Hp} {a:Addr} {xs:List V} (k:Kp H H') (h:wD K H a xs):wD K H' a xs:=by
 rcases h with (h|⟨o,h⟩)|h
 ·exact .inl (.inl (k.t _ _ h))
 ·exact .inl (.inr ⟨o,k.f _ _ _ h⟩)
 ·exact .inr h
theorem Kp.fzL {K:PySem.W.Frag} {H H':Hp} {a:Addr} {xs:List V} (k:Kp H H') (h:FzL K H a xs):FzL K H' a xs:=by
 rcases h with⟨o,h⟩|h
 ·exact .inl ⟨o,k.f _ _ _ h⟩
 ·exact .inr h
theorem Kp.lst {H:Hp} {a:Addr} {xs:List V} {o:HO} (h:H a=some (.lst xs)):Kp H (upd H a o):=by
 refine⟨fun b ys e=>?_,fun b ob u e=>?_⟩
 ·rw[aU (n6 e h (by intro z;cases z))];exact e
 ·rw[aU (n6 e h (by intro z;cases z))];exact e
theorem Kp.dk {H:Hp} {a:Addr} {xs:List (Key×V)} {o:HO} (h:H a=some (.dK xs)):Kp H (upd H a o):=by
 refine⟨fun b ys e=>?_,fun b ob u e=>?_⟩
 ·rw[aU (n6 e h (by intro z;cases z))];exact e
 ·rw[aU (n6 e h (by intro z;cases z))];exact e
mutual
theorem Rep.kp {K:PySem.W.Frag} {H H':Hp} (k:Kp H H'):∀ {d:Dt} {v:V},Rep K H d v->Rep K H' d v
 |.non,_,h=>by simpa only[Rep] using h
 |.bl _,_,h=>by simpa only[Rep] using h
 |.int _,_,h=>by simpa only[Rep] using h
 |.str _,_,h=>by simpa only[Rep] using h
 |.tup ds,_,h=>by
  simp only[Rep] at h ⊢
  obtain⟨a,vs,e,q,r⟩:=h
  exact⟨a,vs,e,k.sqT q,aO.kp k r⟩
 |.lst ds,_,h=>by
  simp only[Rep] at h ⊢
  obtain⟨a,vs,e,q,r⟩:=h
  exact⟨a,vs,e,k.fzL q,aO.kp k r⟩
 |.emp,_,h=>by
  simp only[Rep] at h ⊢
  obtain⟨a,o,e,q⟩:=h
  exact⟨a,o,e,k.f _ _ _ q⟩
theorem aO.kp {K:PySem.W.Frag} {H H':Hp} (k:Kp H H'):∀ {ds:List Dt} {vs:List V},aO K H ds vs->aO K H' ds vs
 |[],_,h=>by simpa only[aO] using h
 |d::ds,_,h=>by
  simp only[aO] at h ⊢
  obtain⟨v,r,e,q,t⟩:=h
  exact⟨v,r,e,Rep.kp k q,aO.kp k t⟩
end
theorem aO.length {K:PySem.W.Frag} {H:Hp}:∀ {ds:List Dt} {vs:List V},aO K H ds vs->vs.length=ds.length
 |[],_,h=>by simp only[aO] at h;subst h;rfl
 |d::ds,_,h=>by
  simp only[aO] at h
  obtain⟨v,r,rfl,_,t⟩:=h
  simp[aO.length t]
theorem aO.nil {K:PySem.W.Frag} {H:Hp}:aO K H [] []:=by simp only[aO]
theorem aO.cons {K:PySem.W.Frag} {H:Hp} {d:Dt} {v:V} {ds:List Dt} {vs:List V} (h:Rep K H d v) (t:aO K H ds vs):aO K H (d::ds) (v::vs):=by
 simp only[aO];exact⟨v,vs,rfl,h,t⟩
theorem aO.append {K:PySem.W.Frag} {H:Hp}:∀ {ds es:List Dt} {vs us:List V},aO K H ds vs->aO K H es us->aO K H (ds++es) (vs++us)
 |[],_,_,_,h,t=>by simp only[aO] at h;subst h;exact t
 |d::ds,_,_,_,h,t=>by
  simp only[aO] at h
  obtain⟨v,r,rfl,q,h⟩:=h
  exact aO.cons q (aO.append h t)
theorem aO.drop {K:PySem.W.Frag} {H:Hp}:∀ (n:Nat) {ds:List Dt} {vs:List V},aO K H ds vs->aO K H (ds.drop n) (vs.drop n)
 |0,_,_,h=>h
 |n+1,[],_,h=>by simp only[aO] at h;subst h;exact aO.nil
 |n+1,d::ds,_,h=>by
  simp only[aO] at h
  obtain⟨v,r,rfl,q,h⟩:=h
  exact aO.drop n h
theorem aO.take {K:PySem.W.Frag} {H:Hp}:∀ (n:Nat) {ds:List Dt} {vs:List V},aO K H ds vs->aO K H (ds.take n) (vs.take n)
 |0,_,_,_=>aO.nil
 |n+1,[],_,h=>by simp only[aO] at h;subst h;exact aO.nil
 |n+1,d::ds,_,h=>by
  simp only[aO] at h
  obtain⟨v,r,rfl,q,h⟩:=h
  exact aO.cons q (aO.take n h)
theorem aO.get {K:PySem.W.Frag} {H:Hp}:∀ {ds:List Dt} {vs:List V} {i:Nat} {d:Dt},aO K H ds vs->ds[i]?=some d->∃ v,vs[i]?=some v/\Rep K H d v
 |[],_,_,_,_,e=>by simp at e
 |d::ds,_,0,_,h,e=>by
  simp only[aO] at h
  obtain⟨v,r,rfl,q,h⟩:=h
  simp at e;subst e;exact⟨v,rfl,q⟩
 |d::ds,_,i+1,_,h,e=>by
  simp only[aO] at h
  obtain⟨v,r,rfl,q,h⟩:=h
  obtain⟨u,e1,e2⟩:=aO.get h (i:=i) (by simpa using e)
  exact⟨u,by simpa using e1,e2⟩
def g8 (K:PySem.W.Frag) (H:Hp) (kvs:List (Str×Dt)) (ks:List (Key×V)):Prop:=ks.map (·.1)=kvs.map (fun p=>(Sum.inr p.1:Key))/\aO K H (kvs.map (·.2)) (ks.map (·.2))/\∀ p∈kvs,p.1.length<=sizeLine
theorem g8.kp {K:PySem.W.Frag} {H H':Hp} {kvs:List (Str×Dt)} {ks:List (Key×V)} (h:g8 K H kvs ks) (k:Kp H H'):g8 K H' kvs ks:=⟨h.1,h.2.1.kp k,h.2.2⟩
def bN (K:PySem.W.Frag) (H:Hp):Bx->V->Prop
 |.z d,v=>Rep K H d v
 |.l ds,v=>∃ a vs,v=.ref a/\Rd H a (.lst vs)/\aO K H ds vs
 |.o ds,v=>∃ a vs,v=.ref a/\H a=some (.lst vs)/\aO K H ds vs
 |.n kvs,v=>∃ a ks,v=.ref a/\Rd H a (.dK ks)/\g8 K H kvs ks
 |.m kvs w,v=>∃ a ks,v=.ref a/\H a=some (.dK ks)/\g8 K H kvs ks/\∀ b,w=some b->b=a
theorem bN.same {K:PySem.W.Frag} {H H':Hp} (s:Same H H') {b:Bx} {v:V} (h:bN K H b v):bN K H' b v:=by
 cases b with
 |z d=>exact Rep.kp (.of s) h
 |l ds=>
  obtain⟨a,vs,e,q,r⟩:=h
  refine⟨a,vs,e,?_,r.kp (.of s)⟩
  rcases q with q|⟨o,q⟩
  ·exact .inl (s _ _ q)
  ·exact .inr ⟨o,s _ _ q⟩
 |o ds=>
  obtain⟨a,vs,e,q,r⟩:=h
  exact⟨a,vs,e,s _ _ q,r.kp (.of s)⟩
 |n kvs=>
  obtain⟨a,vs,e,q,r⟩:=h
  refine⟨a,vs,e,?_,r.kp (.of s)⟩
  rcases q with q|⟨o,q⟩
  ·exact .inl (s _ _ q)
  ·exact .inr ⟨o,s _ _ q⟩
 |m kvs _=>
  obtain⟨a,vs,e,q,r⟩:=h
  exact⟨a,vs,e,s _ _ q,r.1.kp (.of s),r.2⟩
def qt:Bx->Option (List Dt)
 |.z (.lst ds)=>some ds
 |.l ds=>some ds
 |.o ds=>some ds
 |_=>none
theorem bN.Hf {K:PySem.W.Frag} {H:Hp} {b:Bx} {v:V} {ds:List Dt} (h:bN K H b v) (e:qt b=some ds):∃ a vs,v=.ref a/\uz K H a vs/\aO K H ds vs:=by
 cases b with
 |z d=>
  cases d<;>first|(cases e;done)|skip
  cases e
  simp only[bN,Rep] at h
  obtain⟨a,vs,e,q,r⟩:=h
  exact⟨a,vs,e,q.sq,r⟩
 |l ds'=>
  cases e
  obtain⟨a,vs,e,q,r⟩:=h
  exact⟨a,vs,e,.inl q,r⟩
 |o ds'=>
  cases e
  obtain⟨a,vs,e,q,r⟩:=h
  exact⟨a,vs,e,.inl (.inl q),r⟩
 |n _=>cases e
 |m _ _=>cases e
abbrev n8 (K:PySem.W.Frag) (H:Hp):List Bx->List V->Prop:=Paired (bN K H)
theorem n8.same {K:PySem.W.Frag} {H H':Hp} (s:Same H H') {bs:List Bx} {vs:List V} (h:n8 K H bs vs):n8 K H' bs vs:=Paired.imp' (fun _ _ q=>bN.same s q) h
def Nw (H:Hp):Bx->V->Prop
 |.o _,v=>∀ a,v=.ref a->H a=none
 |.m _ _,v=>∀ a,v=.ref a->H a=none
 |_,_=>True
theorem Nw.old {H H1:Hp} (s:Same H H1) {b:Bx} {v:V} (h:Nw H1 b v):Nw H b v:=by
 cases b with
 |o ds=>exact fun a e=>s.free (h a e)
 |m ds _=>exact fun a e=>s.free (h a e)
 |_=>trivial
def loose:Bx->Bool
 |.z _=>false
 |_=>true
def uD:Bx->Bool
 |.o _=>true
 |.m _ _=>true
 |_=>false
structure cQ (K:PySem.W.Frag) (H0 H:Hp) (σ:L2.St) (ρ:Ev):Prop where
 len:σ.length=ρ.length
 val:∀ (i:Nat) b,ρ[i]?=some (some b)->∃ v,σ[i]?=some (some v)/\bN K H b v
 own:∀ (i j:Nat) c a b,ρ[i]?=some (some c)->uD c=true->σ[i]?=some (some (.ref a))->ρ[j]?=some (some b)->loose b=true->σ[j]?=some (some (.ref a))->i=j
 base:Same H0 H
 new:∀ (i:Nat) c a,ρ[i]?=some (some c)->uD c=true->σ[i]?=some (some (.ref a))->H0 a=none
theorem cQ.grow {K:PySem.W.Frag} {H0 H H':Hp} {σ:L2.St} {ρ:Ev} (r:cQ K H0 H σ ρ) (s:Same H H'):cQ K H0 H' σ ρ:=
 ⟨r.len,fun i b e=>let ⟨v,e1,h⟩:=r.val i b e;⟨v,e1,h.same s⟩,r.own,r.base.trans s,r.new⟩
def tF (K:PySem.W.Frag) (f:Ev->Option Bx):TE:=fun σ H Q=>∃ H0 ρ b,cQ K H0 H σ ρ/\f ρ=some b/\∀ v H',Same H H'->Nw H b v->bN K H' b v->Q v H'
def tFA (K:PySem.W.Frag) (f:Ev->Option (List Bx)):TA:=fun σ H Q=>∃ H0 ρ bs,cQ K H0 H σ ρ/\f ρ=some bs/\∀ vs H',Same H H'->n8 K H' bs vs->Q vs H'
def XH (K:PySem.W.Frag) (f:Ev->Option Bool):TT:=fun σ H Q=>∃ H0 ρ b,cQ K H0 H σ ρ/\f ρ=some b/\∀ H',Same H H'->Q b H'
def PV (X:Cx) (e:Expr) (f:Ev->Option Bx):Prop:=PE X e (tF X.K f)
def Ud (X:Cx) (es:List Expr) (f:Ev->Option (List Bx)):Prop:=PA X es (tFA X.K f)
def PB (X:Cx) (e:Expr) (f:Ev->Option Bool):Prop:=PT X e (XH X.K f)
theorem Ng {X:Cx} {e:Expr} {t t':TE} (h:PE X e t) (m:∀ σ H Q,t' σ H Q->t σ H Q):PE X e t':=fun pins s σ H Q I q=>h pins s σ H Q I (m σ H Q q)
theorem paM {X:Cx} {e:List Expr} {t t':TA} (h:PA X e t) (m:∀ σ H Q,t' σ H Q->t σ H Q):PA X e t':=fun pos pins s σ H Q I q=>h pos pins s σ H Q I (m σ H Q q)
theorem ptM {X:Cx} {e:Expr} {t t':TT} (h:PT X e t) (m:∀ σ H Q,t' σ H Q->t σ H Q):PT X e t':=fun pins s σ H Q I q=>h pins s σ H Q I (m σ H Q q)
theorem pwM {X:Cx} {e:Expr} {t t':TT} (h:PW X e t) (m:∀ σ H Q,t' σ H Q->t σ H Q):PW X e t':=fun wh pins s σ H Q I q=>h wh pins s σ H Q I (m σ H Q q)
theorem Ue {X:Cx} {e:Stmt} {t t':TS} (h:PS X e t) (m:∀ D σ H,t' D σ H->t D σ H):PS X e t':=fun pins s σ H D I q=>h pins s σ H D I (m D σ H q)
theorem abn {X:Cx} {e:List Stmt} {t t':TS} (h:Px X e t) (m:∀ D σ H,t' D σ H->t D σ H):Px X e t':=fun pins s σ H D I q=>h pins s σ H D I (m D σ H q)
def rF (K:PySem.W.Frag) (g:Bx->Bx->Option Bx):R2:=fun x y H Q=>∃ a b c,bN K H a x/\bN K H b y/\g a b=some c/\∀ w H',Same H H'->Nw H c w->bN K H' c w->Q w H'
def rF1 (K:PySem.W.Frag) (g:Bx->Option Bx):V->Hp->VK->Prop:=fun x H Q=>∃ a c,bN K H a x/\g a=some c/\∀ w H',Same H H'->Nw H c w->bN K H' c w->Q w H'
def rFs (K:PySem.W.Frag) (g:List Bx->Option Bx):List V->Hp->VK->Prop:=fun xs H Q=>∃ bs c,n8 K H bs xs/\g bs=some c/\∀ w H',Same H H'->Nw H c w->bN K H' c w->Q w H'
abbrev Fx (X:Cx) (f:Value->Value->Sem Value) (g:Bx->Bx->Option Bx):Prop:=wR X f (rF X.K g)
abbrev UnF (X:Cx) (f:Value->Sem Value) (g:Bx->Option Bx):Prop:=ZX X f (rF1 X.K g)
abbrev oW (X:Cx) (f:Value) (g:List Bx->Option Bx):Prop:=jq X f (rFs X.K g)
theorem wR.imp {X:Cx} {f:Value->Value->Sem Value} {r r':R2} (h:wR X f r) (m:∀ x y H Q,r' x y H Q->r x y H Q):wR X f r':=fun pins s σ H x y v u Q I rx ry q=>h pins s σ H x y v u Q I rx ry (m x y H Q q)
theorem ZX.imp {X:Cx} {f:Value->Sem Value} {r r':V->Hp->VK->Prop} (h:ZX X f r) (m:∀ x H Q,r' x H Q->r x H Q):ZX X f r':=fun pins s σ H x v Q I rx q=>h pins s σ H x v Q I rx (m x H Q q)
theorem jq.imp {X:Cx} {f:Value} {r r':List V->Hp->VK->Prop} (h:jq X f r) (m:∀ x H Q,r' x H Q->r x H Q):jq X f r':=fun pins s σ H xs us Q I rx q=>h pins s σ H xs us Q I rx (m xs H Q q)
def b2 (g:Bx->Bx->Option Bx) (fa fb:Ev->Option Bx):Ev->Option Bx:=fun ρ=>(fa ρ).bind fun x=>(fb ρ).bind fun y=>g x y
def b1 (g:Bx->Option Bx) (fa:Ev->Option Bx):Ev->Option Bx:=fun ρ=>(fa ρ).bind g
def fJ (g:List Bx->Option Bx) (fs:Ev->Option (List Bx)):Ev->Option Bx:=fun ρ=>(fs ρ).bind g
theorem bind_some {α β:Type} {o:Option α} {f:α->Option β} {b:β} (h:o.bind f=some b):∃ a,o=some a/\f a=some b:=by
 cases o with
 |none=>cases h
 |some a=>exact⟨a,rfl,h⟩
theorem Ug {K:PySem.W.Frag} {g:Bx->Bx->Option Bx} {fa fb:Ev->Option Bx} (σ:L2.St) (H:Hp) (Q:VK) (h:tF K (b2 g fa fb) σ H Q):tOp (rF K g) (tF K fa) (tF K fb) σ H Q:=by
 obtain⟨H0,ρ,c,E,e,q⟩:=h
 obtain⟨a,ea,e⟩:=bind_some e
 obtain⟨b,eb,e⟩:=bind_some e
 refine⟨H0,ρ,a,E,ea,fun v H1 s1 n1 r1=>⟨H0,ρ,b,E.grow s1,eb,fun u H2 s2 n2 r2=>?_⟩⟩
 exact⟨a,b,c,r1.same s2,r2,e,fun w H3 s3 n3 r3=>q w H3 ((s1.trans s2).trans s3) (n3.old (s1.trans s2)) r3⟩
theorem adY {K:PySem.W.Frag} {g:Bx->Option Bx} {fa:Ev->Option Bx} (σ:L2.St) (H:Hp) (Q:VK) (h:tF K (b1 g fa) σ H Q):tUn (rF1 K g) (tF K fa) σ H Q:=by
 obtain⟨H0,ρ,c,E,e,q⟩:=h
 obtain⟨a,ea,e⟩:=bind_some e
 exact⟨H0,ρ,a,E,ea,fun v H1 s1 n1 r1=>⟨a,c,r1,e,fun w H3 s3 n3 r3=>q w H3 (s1.trans s3) (n3.old s1) r3⟩⟩
theorem convs {K:PySem.W.Frag} {g:List Bx->Option Bx} {fs:Ev->Option (List Bx)} (σ:L2.St) (H:Hp) (Q:VK) (h:tF K (fJ g fs) σ H Q):tCB (rFs K g) (tFA K fs) σ H Q:=by
 obtain⟨H0,ρ,c,E,e,q⟩:=h
 obtain⟨a,ea,e⟩:=bind_some e
 exact⟨H0,ρ,a,E,ea,fun v H1 s1 r1=>⟨a,c,r1,e,fun w H3 s3 n3 r3=>q w H3 (s1.trans s3) (n3.old s1) r3⟩⟩
section
variable {X:Cx} {a b c e:Expr} {es:List Expr} {fa fb fc f:Ev->Option Bx} {fs:Ev->Option (List Bx)} {pos:Pos}
theorem adZ {op:Operator} {g:Bx->Bx->Option Bx} (ho:Fx X (binaryOp op) g) (ha:PV X a fa) (hb:PV X b fb):PV X (.BinOp a op b pos) (b2 g fa fb):=Ng (adB ho ha hb) Ug
theorem ad0 {op:UnaryOp} {g:Bx->Option Bx} (ho:UnF X (unaryOp op) g) (ha:PV X a fa):PV X (.UnaryOp op a pos) (b1 g fa):=Ng (adC ho ha) adY
theorem abo {op:CmpOp} {g:Bx->Bx->Option Bx} (ho:Fx X (compareOp op) g) (ha:PV X a fa) (hb:PV X b fb) (hm:behindInMarks op b=false):PV X (.Compare a [op] [b] pos) (b2 g fa fb):=Ng (Xi ho ha hb hm) Ug
def Rt:Bx->Option Bool
 |.z (.bl b)=>some b
 |_=>none
theorem Uh {K:PySem.W.Frag} {H:Hp} {b:Bx} {v:V} {k:Bool} (h:bN K H b v) (e:Rt b=some k):v=.bl k:=by
 cases b with
 |z d=>
  cases d<;>first|(cases e;done)|skip
  cases e
  simpa only[bN,Rep] using h
 |_=>cases e
theorem ad1 {K:PySem.W.Frag} {f:Ev->Option Bx} (σ:L2.St) (H:Hp) (Q:Bool->Hp->Prop) (h:XH K (fun ρ=>(f ρ).bind Rt) σ H Q):tF K f σ H (fun x H'=>∃ k,x=.bl k/\Q k H'):=by
 obtain⟨H0,ρ,k,E,e,q⟩:=h
 obtain⟨b,eb,e⟩:=bind_some e
 exact⟨H0,ρ,b,E,eb,fun v H1 s1 n1 r1=>⟨k,Uh r1 e,q H1 s1⟩⟩
theorem abp {op:CmpOp} {g:Bx->Bx->Option Bx} (ho:Fx X (compareOp op) g) (ha:PV X a fa) (hb:PV X b fb) (hm:behindInMarks op b=false):PB X (.Compare a [op] [b] pos) (fun ρ=>(b2 g fa fb ρ).bind Rt):=
 ptM (Xj ho ha hb hm) fun σ H Q h=>Ug σ H _ (ad1 σ H Q h)
def xW (ρ:Ev) (i:Nat):Option Bx:=match ρ[i]? with
 |some (some (.o ds))=>some (.l ds)
 |some (some (.m kvs _))=>some (.n kvs)
 |some (some b)=>some b
 |_=>none
theorem KR {K:PySem.W.Frag} {H0 H:Hp} {σ:L2.St} {ρ:Ev} {i:Nat} {b:Bx} (E:cQ K H0 H σ ρ) (e:xW ρ i=some b):∃ v,σ[i]?=some (some v)/\bN K H b v:=by
 unfold xW at e
 split at e
 ·rename_i ds h
  cases e
  obtain⟨v,e1,a,vs,e2,q,r⟩:=E.val i _ h
  exact⟨v,e1,a,vs,e2,.inl q,r⟩
 ·rename_i ds h
  cases e
  obtain⟨v,e1,a,vs,e2,q,r⟩:=E.val i _ h
  exact⟨v,e1,a,vs,e2,.inl q,r.1⟩
 ·rename_i b' h
  cases e
  exact E.val i _ h
 ·cases e
theorem vV {ρ:Ev} {i:Nat} {b:Bx} (e:xW ρ i=some b):uD b=false:=by
 unfold xW at e
 split at e
 ·cases e;rfl
 ·cases e;rfl
 ·rename_i b' h1 h2 h3
  cases e
  cases b with
  |o ds=>exact absurd rfl (h1 ds)
  |m ds _=>exact absurd rfl (h2 ds _)
  |_=>rfl
 ·cases e
theorem abq (i:Nat) {x:Str} (hN:X.N[i]?=some x:=by rfl) (hv:Nk X.env.scope x:=by first|exact Or.inl rfl|exact Or.inr (Or.inl rfl)|exact Or.inr (Or.inr rfl)) (hd:(x==("__debug__" : Str))=false:=by decide)
  (hcd:(x==("__classdict__" : Str))=false:=by decide):PV X (.Name x pos) (fun ρ=>xW ρ i):=Ng (wQ hN hv hd hcd) fun σ H Q h=>by
 obtain⟨H0,ρ,b,E,e,q⟩:=h
 obtain⟨v,e1,r⟩:=KR E e
 refine⟨v,e1,q v H (Same.refl H) ?_ r⟩
 cases b with
 |o ds=>have:=vV e;cases this
 |m ds _=>have:=vV e;cases this
 |_=>trivial
def cB (d:Dt):Ev->Option Bx:=fun _=>some (.z d)
theorem XJ {v:V} {d:Dt} (h:PE X e (tC v)) (r:∀ H,Rep X.K H d v):PV X e (cB d):=Ng h fun σ H Q q=>by
 obtain⟨H0,ρ,b,E,e,q⟩:=q
 cases e
 exact q v H (Same.refl H) trivial (r H)
theorem abr {i j}:PV X (.Constant (.int i) j pos) (cB (.int i)):=XJ aaI fun H=>by simp only[Rep]
theorem ad2 {i j}:PV X (.Constant (.bool i) j pos) (cB (.bl i)):=XJ adp fun H=>by simp only[Rep]
theorem abt {j}:PV X (.Constant .none j pos) (cB .non):=XJ aaJ fun H=>by simp only[Rep]
theorem Ui {x:Str} {j} (hx:x.length<=sizeLine:=by decide):PV X (.Constant (.str x) j pos) (cB (.str x)):=XJ aaK fun H=>by unfold Rep;exact⟨rfl,hx⟩
def Uj:Bx->Option Bool
 |.z .non=>some false
 |.z (.bl b)=>some b
 |.z (.int i)=>some (i != 0)
 |.z (.str x)=>some ((x.length:Int) != 0)
 |.z (.tup ds)=>some (!ds.isEmpty)
 |.z (.lst ds)=>some (!ds.isEmpty)
 |.l ds=>some (!ds.isEmpty)
 |.o ds=>some (!ds.isEmpty)
 |.z .emp=>none
 |.n _=>none
 |.m _ _=>none
theorem aO.isEmpty {K:PySem.W.Frag} {H:Hp} {ds:List Dt} {vs:List V} (h:aO K H ds vs):(!ds.isEmpty)=!vs.isEmpty:=by
 have:=h.length
 cases ds<;>cases vs<;>simp_all
theorem XM {K:PySem.W.Frag} {H:Hp} {b:Bx} {v:V} {k:Bool} (r:bN K H b v) (e:Uj b=some k):aa4 K v H k:=by
 cases b with
 |z d=>
  cases d with
  |non=>cases e;simp only[bN,Rep] at r;subst r;rfl
  |bl b=>cases e;simp only[bN,Rep] at r;subst r;rfl
  |int b=>cases e;simp only[bN,Rep] at r;subst r;rfl
  |str x=>cases e;simp only[bN,Rep] at r;obtain⟨rfl,h⟩:=r;exact⟨h,rfl⟩
  |tup ds=>
   cases e;simp only[bN,Rep] at r
   obtain⟨a,vs,rfl,q,r⟩:=r
   exact .inr (.inl ⟨vs,q,r.isEmpty⟩)
  |lst ds=>
   cases e
   obtain⟨a,vs,rfl,q,r⟩:=r.Hf rfl
   exact .inl ⟨vs,q,r.isEmpty⟩
  |emp=>cases e
 |l ds=>
  cases e
  obtain⟨a,vs,rfl,q,r⟩:=r.Hf rfl
  exact .inl ⟨vs,q,r.isEmpty⟩
 |o ds=>
  cases e
  obtain⟨a,vs,rfl,q,r⟩:=r.Hf rfl
  exact .inl ⟨vs,q,r.isEmpty⟩
 |n _=>cases e
 |m _ _=>cases e
theorem abu (h:PV X e f) (he:∀ whole,isTrue e X.env whole=(do let v <-whole;standAt e.pos;holding [v] (truthy v)):=by intro _;rfl):PB X e (fun ρ=>(f ρ).bind Uj):=ptM (TX h he) fun σ H Q q=>by
 obtain⟨H0,ρ,k,E,e,q⟩:=q
 obtain⟨b,eb,e⟩:=bind_some e
 exact⟨H0,ρ,b,E,eb,fun v H1 s1 n1 r1=>⟨k,XM r1 e,q H1 s1⟩⟩
def Iu (p q:Ev->Option Bool):Ev->Option Bool:=fun ρ=>(p ρ).bind fun c=>if c=true then q ρ else some false
def XQ (p q:Ev->Option Bool):Ev->Option Bool:=fun ρ=>(p ρ).bind fun c=>if c=true then some true else q ρ
def NP (p:Ev->Option Bool):Ev->Option Bool:=fun ρ=>(p ρ).bind fun c=>some (!c)
def Z8 (X:Cx) (e:Expr) (f:Ev->Option Bool):Prop:=PW X e (XH X.K f)
variable {p q:Ev->Option Bool} {rest:List Expr}
theorem Uk (ha:PB X a p):Z8 X (.BoolOp .And [a] pos) p:=Xe ha
theorem XR (ha:PB X a p):Z8 X (.BoolOp .Or [a] pos) p:=aaL ha
theorem XS {K:PySem.W.Frag} (σ:L2.St) (H:Hp) (Q:Bool->Hp->Prop) (h:XH K (Iu p q) σ H Q):adq (XH K p) (XH K q) σ H Q:=by
 obtain⟨H0,ρ,k,E,e,w⟩:=h
 obtain⟨c,ec,e⟩:=bind_some e
 refine⟨H0,ρ,c,E,ec,fun H1 s1=>?_⟩
 cases c with
 |true=>rw[if_pos rfl] at e ⊢;exact⟨H0,ρ,k,E.grow s1,e,fun H2 s2=>w H2 (s1.trans s2)⟩
 |false=>rw[if_neg Bool.false_ne_true] at e ⊢;cases e;exact w H1 s1
theorem abv {K:PySem.W.Frag} (σ:L2.St) (H:Hp) (Q:Bool->Hp->Prop) (h:XH K (XQ p q) σ H Q):tOr (XH K p) (XH K q) σ H Q:=by
 obtain⟨H0,ρ,k,E,e,w⟩:=h
 obtain⟨c,ec,e⟩:=bind_some e
 refine⟨H0,ρ,c,E,ec,fun H1 s1=>?_⟩
 cases c with
 |true=>rw[if_pos rfl] at e ⊢;cases e;exact w H1 s1
 |false=>rw[if_neg Bool.false_ne_true] at e ⊢;exact⟨H0,ρ,k,E.grow s1,e,fun H2 s2=>w H2 (s1.trans s2)⟩
theorem X3 (ha:PB X a p) (hb:Z8 X (.BoolOp .And (b::rest) pos) q):Z8 X (.BoolOp .And (a::b::rest) pos) (Iu p q):=pwM (aaM ha hb) XS
theorem abw (ha:PB X a p) (hb:Z8 X (.BoolOp .Or (b::rest) pos) q):Z8 X (.BoolOp .Or (a::b::rest) pos) (XQ p q):=pwM (adt ha hb) abv
theorem afO (h:Z8 X e p):PB X e p:=h.pt
theorem abx (ha:PB X a p):PB X (.UnaryOp .Not a pos) (NP p):=ptM (aaN ha) fun σ H Q h=>by
 obtain⟨H0,ρ,k,E,e,w⟩:=h
 obtain⟨c,ec,e⟩:=bind_some e
 cases e
 exact⟨H0,ρ,c,E,ec,fun H1 s1=>w H1 s1⟩
theorem Iv:Ud X [] (fun _=>some []):=paM Ii fun σ H Q h=>by
 obtain⟨H0,ρ,bs,E,e,q⟩:=h
 cases e
 exact q [] H (Same.refl H) .nil
def ao (f:Ev->Option Bx) (fs:Ev->Option (List Bx)):Ev->Option (List Bx):=fun ρ=>(f ρ).bind fun b=>(fs ρ).bind fun bs=>some (b::bs)
theorem Cp (h1:PV X e f) (h2:Ud X es fs) (hs:starEach (e::es) X.env=(false,eval e X.env)::starEach es X.env:=by rfl):Ud X (e::es) (ao f fs):=paM (xR h1 h2 hs) fun σ H Q h=>by
 obtain⟨H0,ρ,bs,E,e,q⟩:=h
 obtain⟨b,eb,e⟩:=bind_some e
 obtain⟨bs',ebs,e⟩:=bind_some e
 cases e
 refine⟨H0,ρ,b,E,eb,fun v H1 s1 n1 r1=>⟨H0,ρ,bs',E.grow s1,ebs,fun vs H2 s2 r2=>?_⟩⟩
 exact q (v::vs) H2 (s1.trans s2) (.cons (r1.same s2) r2)
def rB:Bx->Option Bx
 |.z d=>some (.z d)
 |.o ds=>some (.z (.lst ds))
 |.l _=>none
 |.n _=>none
 |.m _ _=>none
theorem Cq {pins:List (Addr×Obj)} {σ:L2.St} {H:Hp} {s:Shared} {a:Addr} {vs:List V} (I:L2.Inv X pins σ H s) (h:H a=some (.lst vs)):∃ o,L2.Inv X pins σ (upd H a (.q9 o (.lst vs))) s:=by
 obtain⟨z,its,n,r,e⟩:=I.hok a _ h
 refine⟨{ cls:=.type "list", data:=.seq its.toArray n },⟨I.ok,I.os,I.bare,⟨I.base.keep,I.base.slot,fun b ob q1 q2 q3=>?_,I.base.there,fun b xs q=>?_,fun b ob u q=>?_,fun b ps q=>?_⟩,I.loc,I.cell,?_,fun x c q=>?_,fun p hp=>?_,?_,I.len⟩⟩
 ·have:=I.base.free b ob q1 q2 q3
  rw[aU (d9 h this).symm];exact this
 ·have:=I.base.tups b xs q
  rw[aU (n6 this h (by intro z;cases z))];exact this
 ·have:=I.base.wg b ob u q
  rw[aU (n6 this h (by intro z;cases z))];exact this
 ·obtain⟨m,this⟩:=I.base.xP b ps q
  rw[aU (n6 this h (by intro z;cases z))];exact⟨m,this⟩
 ·rw[aU (d9 h I.free).symm];exact I.free
 ·rw[aU (d9 h (I.oV x c q)).symm];exact I.oV x c q
 ·obtain⟨q1,q2,q3⟩:=I.pin p hp
  refine⟨q1,?_,q3⟩
  rw[aU (d9 h q2).symm];exact q2
 ·intro b u q
  by_cases hb:b=a
  ·subst hb
   rw[cG] at q;cases q
   exact⟨e,z,its,n,r,e⟩
  ·rw[aU hb] at q
   refine (I.hok b u q).stay (fun c v _ w=>w) (fun c w=>?_) fun c xs w=>?_
   ·rw[aU (n6 w h (by intro z;cases z))];exact w
   ·rw[aU (n6 w h (by intro z;cases z))];exact w
theorem ad4 (h:PV X e f):PV X e (b1 rB f):=by
 intro pins s σ H Q I q
 obtain⟨H0,ρ,b,E,e,q⟩:=q
 obtain⟨x,ex,e⟩:=bind_some e
 cases x with
 |z d=>
  cases e
  exact h pins s σ H Q I ⟨H0,ρ,_,E,ex,fun v H' s' n' r'=>q v H' s' trivial r'⟩
 |l ds=>cases e
 |n ds=>cases e
 |m ds _=>cases e
 |o ds=>
  cases e
  refine j6 (h pins s σ H (fun v H'=>Same H H'/\Nw H (.o ds) v/\bN X.K H' (.o ds) v) I ⟨H0,ρ,_,E,ex,fun v H' s' n' r'=>⟨s',n',r'⟩⟩) fun u s1 hq=>?_
  obtain⟨v,H1,I1,rv,s',n',r'⟩:=hq
  obtain⟨a,vs,rfl,ha,rs⟩:=r'
  obtain⟨o,I2⟩:=Cq I1 ha
  refine⟨.ref a,_,I2,rv,q _ _ (fun c ob hc=>?_) trivial ?_⟩
  ·rw[aU (d9 hc (n' a rfl))];exact s' c ob hc
  ·simp only[bN,Rep]
   exact⟨a,vs,rfl,.inl ⟨o,cG⟩,rs.kp (.lst ha)⟩
def Iw:List Bx->Option (List Dt)
 |[]=>some []
 |.z d::r=>(Iw r).bind fun ds=>some (d::ds)
 |_=>none
theorem Cr {K:PySem.W.Frag} {H:Hp}:∀ {bs:List Bx} {vs:List V} {ds:List Dt},n8 K H bs vs->Iw bs=some ds->aO K H ds vs
 |_,_,_,.nil,e=>by cases e;exact aO.nil
 |b::bs,_,_,.cons h t,e=>by
  cases b with
  |z d=>
   simp only[Iw] at e
   obtain⟨ds',e1,e2⟩:=bind_some e
   cases e2
   exact aO.cons h (Cr t e1)
  |_=>cases e
theorem Cu:∀ {bs:List Bx} {ds:List Dt},Iw bs=some ds->ds.length=bs.length
 |[],_,e=>by cases e;rfl
 |.z d::r,_,e=>by
  simp only[Iw] at e
  obtain⟨ds',e1,e2⟩:=bind_some e
  cases e2
  simp[Cu e1]
 |.l _::_,_,e=>by cases e
 |.o _::_,_,e=>by cases e
 |.n _::_,_,e=>by cases e
 |.m _ _::_,_,e=>by cases e
def rC (bs:List Bx):Option Bx:=if bs.length<=1000 then (Iw bs).bind fun ds=>some (.z (.tup ds)) else none
def nD (bs:List Bx):Option Bx:=if bs.length<=1000 then (Iw bs).bind fun ds=>some (.o ds) else none
theorem cV {H:Hp} {p:Addr} {o:HO} (h:H p=none):Same H (upd H p o):=fun b u e=>by rw[aU (d9 e h)];exact e
theorem Z9 {n:Nat} (h:n<=1000):n<=sizeLine:=Nat.le_trans h (by decide)
theorem aby {x1} (h:Ud X es fs):PV X (.Tuple es x1 pos) (fJ rC fs):=Ng (aa7 h) fun σ H Q q=>by
 obtain⟨H0,ρ,c,E,e,q⟩:=q
 obtain⟨bs,ebs,e⟩:=bind_some e
 refine⟨H0,ρ,bs,E,ebs,fun vs H1 s1 r1=>?_⟩
 unfold rC at e
 split at e
 ·rename_i hl
  obtain⟨ds,e1,e⟩:=bind_some e
  cases e
  have r2:=Cr r1 e1
  refine⟨Z9 (by rw[r2.length,Cu e1];exact hl),fun p hp=>q _ _ (s1.trans (cV hp)) trivial ?_⟩
  simp only[bN,Rep]
  exact⟨p,vs,rfl,.inl (.inl cG),r2.kp (.of (cV hp))⟩
 ·cases e
theorem abz (h:Ud X es fs):PV X (.List es pos) (fJ nD fs):=Ng (aa8 h) fun σ H Q q=>by
 obtain⟨H0,ρ,c,E,e,q⟩:=q
 obtain⟨bs,ebs,e⟩:=bind_some e
 refine⟨H0,ρ,bs,E,ebs,fun vs H1 s1 r1=>?_⟩
 unfold nD at e
 split at e
 ·rename_i hl
  obtain⟨ds,e1,e⟩:=bind_some e
  cases e
  have r2:=Cr r1 e1
  refine⟨Z9 (by rw[r2.length,Cu e1];exact hl),fun p hp=>q _ _ (s1.trans (cV hp)) (fun a ea=>by cases ea;exact s1.free hp) ?_⟩
  exact⟨p,vs,rfl,cG,r2.kp (.of (cV hp))⟩
 ·cases e
theorem Ul {x:Str} {id:String} {g:List Bx->Option Bx} {p:Pos} (hc:oW X (.builtin id) g) (hg:Gl X x) (hm:X.mg x=none) (hv:bootBuiltins x=some (.builtin id)) (ha:Ud X (e::es) fs) (hn:x ≠ "__name__" := by decide) (hdb:(x==("__debug__" : Str))=false:=by decide) (he:starEach (e::es) X.env=(false,eval e X.env)::starEach es X.env:=by rfl) (hpl:(backTo pos (starEach es X.env)).any (·.1)=false:=by rfl) :
  PV X (.Call (.Name x p) (e::es) [] pos) (fJ g fs):=Ng (Kz hc hg hm hv ha hn hdb he hpl) convs
theorem Ru {x:Str} {T:String} {g:List Bx->Option Bx} {p:Pos} (hc:oW X (.type T) g) (hg:Gl X x) (hm:X.mg x=none) (hv:bootBuiltins x=some (.type T)) (ha:Ud X (e::es) fs) (hn:x ≠ "__name__" := by decide) (hdb:(x==("__debug__" : Str))=false:=by decide) (he:starEach (e::es) X.env=(false,eval e X.env)::starEach es X.env:=by rfl) (hpl:(backTo pos (starEach es X.env)).any (·.1)=false:=by rfl) :
  PV X (.Call (.Name x p) (e::es) [] pos) (fJ g fs):=Ng (G5 hc hg hm hv ha hn hdb he hpl) convs
end
inductive Out where
 |nx (ρ:Ev)|rt (b:Bx)|bk (ρ:Ev)|ct (ρ:Ev)
def Um (K:PySem.W.Frag) (H0:Hp) (D:Ends):Out->Prop
 |.nx ρ=>∀ σ H,cQ K H0 H σ ρ->D.nx σ H
 |.rt b=>∀ v H,Same H0 H->Nw H0 b v->bN K H b v->D.rt v H
 |.bk ρ=>∀ σ H,cQ K H0 H σ ρ->D.bk σ H
 |.ct ρ=>∀ σ H,cQ K H0 H σ ρ->D.ct σ H
def tG (K:PySem.W.Frag) (g:Ev->Option Out):TS:=fun D σ H=>∃ H0 ρ r,cQ K H0 H σ ρ/\g ρ=some r/\Um K H0 D r
def Rv (X:Cx) (st:Stmt) (g:Ev->Option Out):Prop:=PS X st (tG X.K g)
def GQ (X:Cx) (st:List Stmt) (g:Ev->Option Out):Prop:=Px X st (tG X.K g)
def aD (g1 g2:Ev->Option Out):Ev->Option Out:=fun ρ=>(g1 ρ).bind fun r=>match r with
 |.nx ρ'=>g2 ρ'
 |r=>some r
section
variable {X:Cx} {a b c e:Expr} {es:List Expr} {fa fb fc f:Ev->Option Bx} {fs:Ev->Option (List Bx)} {pos:Pos} {st:Stmt} {rest:List Stmt} {g g1 g2:Ev->Option Out}
theorem abA:GQ X [] (fun ρ=>some (.nx ρ)):=abn Xf fun D σ H h=>by
 obtain⟨H0,ρ,r,E,e,q⟩:=h
 cases e
 exact q σ H E
theorem X4 (h1:Rv X st g1) (h2:GQ X rest g2):GQ X (st::rest) (aD g1 g2):=abn (Tv h1 h2) fun D σ H h=>by
 obtain⟨H0,ρ,r,E,e,q⟩:=h
 obtain⟨r1,e1,e⟩:=bind_some e
 refine⟨H0,ρ,r1,E,e1,?_⟩
 cases r1 with
 |nx ρ'=>exact fun σ' H' E'=>⟨H0,ρ',r,E',e,q⟩
 |rt b=>cases e;exact q
 |bk ρ'=>cases e;exact q
 |ct ρ'=>cases e;exact q
def Rw:Bx->Option Out
 |.l _=>none
 |.n _=>none
 |b=>some (.rt b)
theorem abB (h:PV X e f):Rv X (.Return (some e) pos) (fun ρ=>(f ρ).bind Rw):=Ue (Tw h) fun D σ H h=>by
 obtain⟨H0,ρ,r,E,e,q⟩:=h
 obtain⟨b,eb,e⟩:=bind_some e
 refine⟨H0,ρ,b,E,eb,fun v H1 s1 n1 r1=>?_⟩
 cases b with
 |l ds=>cases e
 |z d=>cases e;exact q v H1 (E.base.trans s1) trivial r1
 |o ds=>cases e;exact q v H1 (E.base.trans s1) (n1.old E.base) r1
 |n ds=>cases e
 |m ds _=>cases e;exact q v H1 (E.base.trans s1) (n1.old E.base) r1
def FP (i:Nat) (ρ:Ev):Option Out:=match ρ[i]? with
 |some (some b)=>Rw b
 |_=>none
theorem X5 (i:Nat) {x:Str} {p:Pos} (hN:X.N[i]?=some x:=by rfl) (hv:Nk X.env.scope x:=by first|exact Or.inl rfl|exact Or.inr (Or.inl rfl)|exact Or.inr (Or.inr rfl)) (hd:(x==("__debug__" : Str))=false:=by decide)
  (hcd:(x==("__classdict__" : Str))=false:=by decide):Rv X (.Return (some (.Name x p)) pos) (FP i):=Ue (Tw (wQ hN hv hd hcd)) fun D σ H h=>by
 obtain⟨H0,ρ,r,E,e,q⟩:=h
 unfold FP at e
 split at e
 ·rename_i b hb
  obtain⟨v,e1,r1⟩:=E.val i b hb
  refine⟨v,e1,?_⟩
  cases b with
  |l ds=>cases e
  |z d=>cases e;exact q v H E.base trivial r1
  |o ds=>cases e;exact q v H E.base (fun a ea=>E.new i _ a hb rfl (by rw[e1,ea])) r1
  |n ds=>cases e
  |m ds _=>cases e;exact q v H E.base (fun a ea=>E.new i _ a hb rfl (by rw[e1,ea])) r1
 ·cases e
def Aa (p:Ev->Option Bool) (g1 g2:Ev->Option Out):Ev->Option Out:=fun ρ=>(p ρ).bind fun k=>if k=true then g1 ρ else g2 ρ
theorem ad5 {p:Ev->Option Bool} {u v:List Stmt} (hc:PB X c p) (ha:GQ X u g1) (hb:GQ X v g2):Rv X (.If c u v pos) (Aa p g1 g2):=Ue (adw hc ha hb) fun D σ H h=>by
 obtain⟨H0,ρ,r,E,e,q⟩:=h
 obtain⟨k,ek,e⟩:=bind_some e
 refine⟨H0,ρ,k,E,ek,fun H1 s1=>?_⟩
 cases k with
 |true=>rw[if_pos rfl] at e ⊢;exact⟨H0,ρ,r,E.grow s1,e,q⟩
 |false=>rw[if_neg Bool.false_ne_true] at e ⊢;exact⟨H0,ρ,r,E.grow s1,e,q⟩
theorem getset {α:Type} {l:List α} {i j:Nat} {x y:α} (h:(l.set i x)[j]?=some y):(j=i/\y=x/\i < l.length)\/(j≠i/\l[j]?=some y):=by
 rw[List.getElem?_set] at h
 by_cases e:i=j
 ·subst e
  rw[if_pos rfl] at h
  split at h
  ·cases h;exact .inl ⟨rfl,rfl,by assumption⟩
  ·cases h
 ·rw[if_neg e] at h
  exact .inr ⟨fun z=>e z.symm,h⟩
theorem Cv {α:Type} {l:List α} {i:Nat} (x:α) (h:i < l.length):(l.set i x)[i]?=some x:=by
 rw[List.getElem?_set,if_pos rfl,if_pos h]
theorem Cw {α:Type} {l:List α} {i j:Nat} (x:α) (h:j≠i):(l.set i x)[j]?=l[j]?:=by
 rw[List.getElem?_set,if_neg (Ne.symm h)]
theorem cQ.set {K:PySem.W.Frag} {H0 H H1:Hp} {σ:L2.St} {ρ:Ev} {i:Nat} {b:Bx} {v:V} (E:cQ K H0 H σ ρ) (s:Same H H1) (r:bN K H1 b v) (hl:uD b=true\/loose b=false) (n:Nw H b v):cQ K H0 H1 (σ.set i (some v)) (ρ.set i (some b)):=by
 have E1:=E.grow s
 have apart:∀ (j:Nat) (b':Bx) (a:Addr),ρ[j]?=some (some b')->loose b'=true->σ[j]?=some (some (.ref a))->H a≠none:=fun j b' a e1 e2 e3 z=>by
  obtain⟨v',e4,r'⟩:=E.val j b' e1
  rw[e3] at e4;cases e4
  cases b' with
  |z d=>cases e2
  |l ds=>
   obtain⟨a',vs,e5,q,_⟩:=r'
   cases e5
   rcases q with q|⟨o,q⟩<;>(rw[z] at q;cases q)
  |o ds=>
   obtain⟨a',vs,e5,q,_⟩:=r'
   cases e5
   rw[z] at q;cases q
  |n ds=>
   obtain⟨a',vs,e5,q,_⟩:=r'
   cases e5
   rcases q with q|⟨o,q⟩<;>(rw[z] at q;cases q)
  |m ds _=>
   obtain⟨a',vs,e5,q,_⟩:=r'
   cases e5
   rw[z] at q;cases q
 have nw:uD b=true->∀ a,v=.ref a->H a=none:=fun ho=>by
  cases b with
  |o ds=>exact n
  |m ds _=>exact n
  |_=>cases ho
 refine⟨by rw[List.length_set,List.length_set];exact E.len,fun j b' e=>?_,fun j k c a b' e1 ec e2 e3 e4 e5=>?_,E1.base,fun j c a e1 ec e2=>?_⟩
 ·rcases getset e with⟨rfl,e',hi⟩|⟨hne,e'⟩
  ·cases e'
   exact⟨v,Cv _ (by rw[E.len];exact hi),r⟩
  ·rw[Cw _ hne]
   exact E1.val j b' e'
 ·rcases getset e1 with⟨rfl,e',hi⟩|⟨hne,e'⟩
  ·cases e'
   rw[Cv _ (by rw[E.len];exact hi)] at e2
   cases e2
   rcases getset e3 with⟨rfl,e3',_⟩|⟨X6,e3'⟩
   ·rfl
   ·rw[Cw _ X6] at e5
    exact absurd (nw ec a rfl) (apart k b' a e3' e4 e5)
  ·rw[Cw _ hne] at e2
   rcases getset e3 with⟨rfl,e3',hi⟩|⟨X6,e3'⟩
   ·cases e3'
    rw[Cv _ (by rw[E.len];exact hi)] at e5
    cases e5
    have hlo:loose c=true:=by cases c<;>first|rfl|cases ec
    rcases hl with hl|hl
    ·exact absurd (nw hl a rfl) (apart j _ a e' hlo e2)
    ·rw[hl] at e4;cases e4
   ·rw[Cw _ X6] at e5
    exact E.own j k c a b' e' ec e2 e3' e4 e5
 ·rcases getset e1 with⟨rfl,e',hi⟩|⟨hne,e'⟩
  ·cases e'
   rw[Cv _ (by rw[E.len];exact hi)] at e2
   cases e2
   exact E.base.free (nw ec a rfl)
  ·rw[Cw _ hne] at e2
   exact E.new j c a e' ec e2
def NQ (ρ:Ev) (i:Nat):Bx->Option Ev
 |.l _=>none
 |.n _=>none
 |b=>some (ρ.set i (some b))
theorem X7 {K:PySem.W.Frag} {H0 H H1:Hp} {σ:L2.St} {ρ ρ':Ev} {i:Nat} {b:Bx} {v:V} (E:cQ K H0 H σ ρ) (s:Same H H1) (r:bN K H1 b v) (n:Nw H b v) (e:NQ ρ i b=some ρ'):cQ K H0 H1 (σ.set i (some v)) ρ':=by
 cases b with
 |l ds=>cases e
 |z d=>cases e;exact E.set s r (.inr rfl) n
 |o d=>cases e;exact E.set s r (.inl rfl) n
 |n ds=>cases e
 |m d _=>cases e;exact E.set s r (.inl rfl) n
theorem abC (i:Nat) {x:Str} {p:Pos} (hN:X.N.Nodup) (he:PV X e f) (hi:X.N[i]?=some x:=by rfl) (hx:Loc X.env.scope x:=by first|exact Or.inl rfl|exact Or.inr rfl) (hs:swapsWith e (some (.Name x p)) pos.line X.env=pure false:=by rfl)
  (hf:X.fn x=true\/X.env.scope.names.lookup x=some .local:=by first|exact .inl rfl|exact .inr rfl):Rv X (.Assign [.Name x p] e pos) (fun ρ=>(f ρ).bind fun b=>(NQ ρ i b).bind fun ρ'=>some (.nx ρ')):=Ue (aaR hN hi hx he hs hf) fun D σ H h=>by
 obtain⟨H0,ρ,r,E,e,q⟩:=h
 obtain⟨b,eb,e⟩:=bind_some e
 obtain⟨ρ',eρ,e⟩:=bind_some e
 cases e
 exact⟨H0,ρ,b,E,eb,fun v H1 s1 n1 r1=>q _ _ (X7 E s1 r1 n1 eρ)⟩
def Lo (σ:L2.St) (ρ:Ev) (σ':L2.St) (ρ':Ev):Prop:=∀ (j:Nat) b,loose b=true->ρ'[j]?=some (some b)->ρ[j]?=some (some b)/\σ'[j]?=σ[j]?
theorem Lo.refl {σ:L2.St} {ρ:Ev}:Lo σ ρ σ ρ:=fun _ _ _ e=>⟨e,rfl⟩
theorem Lo.trans {σ σ1 σ2:L2.St} {ρ ρ1 ρ2:Ev} (a:Lo σ ρ σ1 ρ1) (b:Lo σ1 ρ1 σ2 ρ2):Lo σ ρ σ2 ρ2:=fun j c l e=>by
 obtain⟨e1,e2⟩:=b j c l e
 obtain⟨e3,e4⟩:=a j c l e1
 exact⟨e3,e2.trans e4⟩
theorem Lo.set {σ:L2.St} {ρ:Ev} (i:Nat) (v:V) (d:Dt):Lo σ ρ (σ.set i (some v)) (ρ.set i (some (.z d))):=fun j b l e=>by
 rcases getset e with⟨rfl,e',_⟩|⟨hne,e'⟩
 ·cases e';cases l
 ·exact⟨e',Cw _ hne⟩
def tgF (K:PySem.W.Frag) (g:Dt->Ev->Option Ev):TG:=fun v σ H Q=>∃ H0 ρ d ρ',cQ K H0 H σ ρ/\Rep K H d v/\g d ρ=some ρ'/\∀ σ',cQ K H0 H σ' ρ'->Lo σ ρ σ' ρ'->Q σ' H
def Rx (X:Cx) (t:Expr) (g:Dt->Ev->Option Ev):Prop:=PG X t (tgF X.K g)
theorem X8 (i:Nat) {x:Str} (hN:X.N.Nodup) (hi:X.N[i]?=some x:=by rfl) (hx:Loc X.env.scope x:=by first|exact Or.inl rfl|exact Or.inr rfl)
  (hf:X.fn x=true\/X.env.scope.names.lookup x=some .local:=by first|exact .inl rfl|exact .inr rfl):Rx X (.Name x pos) (fun d ρ=>some (ρ.set i (some (.z d)))):=fun pins s σ H v u Q I r h=>by
 obtain⟨H0,ρ,d,ρ',E,rd,e,q⟩:=h
 cases e
 exact Pz hN hi hx hf pins s σ H v u Q I r (q _ (E.set (b:=.z d) (Same.refl H) rd (.inr rfl) trivial) (Lo.set i v d))
def afP (K:PySem.W.Frag) (g:List Dt->Ev->Option Ev):ZV:=fun vs σ H Q=>∃ H0 ρ ds ρ',cQ K H0 H σ ρ/\aO K H ds vs/\g ds ρ=some ρ'/\∀ σ',cQ K H0 H σ' ρ'->Lo σ ρ σ' ρ'->Q σ' H
def Uo (X:Cx) (t:List Expr) (g:List Dt->Ev->Option Ev):Prop:=L2.GQ X t (afP X.K g)
def wF:List Dt->Ev->Option Ev
 |[],ρ=>some ρ
 |_,_=>none
def eE (g:Dt->Ev->Option Ev) (gs:List Dt->Ev->Option Ev):List Dt->Ev->Option Ev
 |d::ds,ρ=>(g d ρ).bind (gs ds)
 |_,_=>none
theorem Yb:Uo X [] wF:=fun pins s σ H vs us Q I r h=>by
 obtain⟨H0,ρ,ds,ρ',E,rd,e,q⟩:=h
 cases ds with
 |nil=>cases e;unfold aO at rd;exact Xg pins s σ H vs us Q I r ⟨rd,q _ E Lo.refl⟩
 |cons d ds=>cases e
theorem Uq {t:Expr} {ts:List Expr} {gt:Dt->Ev->Option Ev} {gs:List Dt->Ev->Option Ev} (h1:Rx X t gt) (h2:Uo X ts gs) (hs:(assignEach (t::ts) X.env).map (·.2)=assign t X.env::(assignEach ts X.env).map (·.2):=by rfl) :
  Uo X (t::ts) (eE gt gs):=fun pins s σ H vs us Q I r h=>by
 obtain⟨H0,ρ,ds,ρ',E,rd,e,q⟩:=h
 cases ds with
 |nil=>cases e
 |cons d ds=>
  unfold aO at rd
  obtain⟨v,vr,rfl,r1,r2⟩:=rd
  simp only[eE] at e
  obtain⟨ρ1,e1,e⟩:=bind_some e
  exact Tz h1 h2 hs pins s σ H _ us Q I r ⟨v,vr,rfl,H0,ρ,d,ρ1,E,r1,e1,fun σ1 E1 L1=>⟨H0,ρ1,ds,ρ',E1,r2,e,fun σ2 E2 L2=>q σ2 E2 (L1.trans L2)⟩⟩
def sJ (n:Nat) (gs:List Dt->Ev->Option Ev):Dt->Ev->Option Ev
 |.tup ds,ρ=>if ds.length=n then gs ds ρ else none
 |_,_=>none
theorem abD {ts:List Expr} {k n:Nat} {gs:List Dt->Ev->Option Ev} (hc:X.calm=true) (h:Uo X ts gs) (hn:(assignEach ts X.env).length=n:=by rfl) (hst:(assignEach ts X.env).findIdx? (·.1)=none:=by rfl) :
  Rx X (.Tuple ts k pos) (sJ n gs):=fun pins s σ H v u Q I r hw=>by
 obtain⟨H0,ρ,d,ρ',E,rd,e,q⟩:=hw
 cases d with
 |tup ds=>
  simp only[sJ] at e
  split at e
  ·rename_i hl
   unfold Rep at rd
   obtain⟨a,vs,rfl,hq,rs⟩:=rd
   exact aaP hc h hn hst pins s σ H _ u Q I r ⟨a,vs,rfl,hq,by rw[rs.length];exact hl,H0,ρ,ds,ρ',E,rs,e,q⟩
  ·cases e
 |_=>cases e
theorem abE {tg:Expr} {gt:Dt->Ev->Option Ev} (he:PV X e f) (hg:Rx X tg gt) (hs:swapsWithSole [tg] e pos.line X.env=pure false:=by rfl) (hw:swappedStores [tg] e X.env=pure none:=by rfl)
  (h1:(assignEach [tg] X.env).map (·.2)=[assign tg X.env]:=by rfl):Rv X (.Assign [tg] e pos) (fun ρ=>(f ρ).bind fun b=>match b with|.z d=>(gt d ρ).bind fun ρ'=>some (.nx ρ')|_=>none):=Ue (aaQ he hg hs hw h1) fun D σ H h=>by
 obtain⟨H0,ρ,r,E,e,q⟩:=h
 obtain⟨b,eb,e⟩:=bind_some e
 refine⟨H0,ρ,b,E,eb,fun v H1 s1 n1 r1=>?_⟩
 cases b with
 |z d=>
  obtain⟨ρ',eρ,e⟩:=bind_some e
  cases e
  exact⟨H0,ρ,d,ρ',E.grow s1,r1,eρ,fun σ' E' _=>q _ _ E'⟩
 |_=>cases e
def Ur (i j:Nat) (ρ:Ev):List Bx->Option Out
 |[.z d,.z d']=>some (.nx ((ρ.set i (some (.z d))).set j (some (.z d'))))
 |_=>none
theorem abF (i j:Nat) {x y:Str} {px py pt:Pos} {kt k2 TF} (hc:X.calm=true) (hN:X.N.Nodup) (ha:Ud X [a,b] fs) (hi:X.N[i]?=some x:=by rfl) (hj:X.N[j]?=some y:=by rfl) (hij:i≠j:=by decide)
  (hx:X.env.scope.names.lookup x=some .local:=by rfl) (hy:X.env.scope.names.lookup y=some .local:=by rfl)
  (hw:swappedStores [.Tuple [.Name x px,.Name y py] kt pt] (.Tuple [a,b] k2 TF) X.env=pure (some [x,y]):=by rfl)
  (hs:swapsWithSole [.Tuple [.Name x px,.Name y py] kt pt] (.Tuple [a,b] k2 TF) pos.line X.env=pure false:=by rfl) :
  Rv X (.Assign [.Tuple [.Name x px,.Name y py] kt pt] (.Tuple [a,b] k2 TF) pos) (fun ρ=>(fs ρ).bind (Ur i j ρ)):=Ue (aaS hc hN hi hj hij hx hy ha hw hs) fun D σ H h=>by
 obtain⟨H0,ρ,r,E,e,q⟩:=h
 obtain⟨bs,eb,e⟩:=bind_some e
 refine⟨H0,ρ,bs,E,eb,fun vs H1 s1 r1=>?_⟩
 unfold Ur at e
 split at e
 ·rename_i d d'
  cases e
  cases r1 with
  |cons p t=>
   cases t with
   |cons p' t'=>
    cases t'
    refine⟨_,_,rfl,q _ _ ?_⟩
    exact ((E.grow s1).set (b:=.z d) (Same.refl H1) p (.inr rfl) trivial).set (b:=.z d') (Same.refl H1) p' (.inr rfl) trivial
 ·cases e
def Us (ρ:Ev) (i:Nat):Bx->Option Out
 |.z d=>match ρ[i]? with
  |some (some (.o ds))=>if ds.length < sizeLine then some (.nx (ρ.set i (some (.o (ds++[d]))))) else none
  |_=>none
 |_=>none
theorem cQ.abG {K:PySem.W.Frag} {H0 H:Hp} {σ:L2.St} {ρ:Ev} {i:Nat} {c0 c1:Bx} {a:Addr} {u:HO} (E:cQ K H0 H σ ρ) (h:ρ[i]?=some (some c0)) (ho:uD c0=true) (hs:σ[i]?=some (some (.ref a))) (k:Kp H (upd H a u)) (r:bN K (upd H a u) c1 (.ref a)) :
  cQ K H0 (upd H a u) σ (ρ.set i (some c1)):=by
 have hi:i < ρ.length:=(List.getElem?_eq_some_iff.mp h).1
 have hb:H0 a=none:=E.new i c0 a h ho hs
 have lo:∀ c,uD c=true->loose c=true:=fun c hc=>by cases c<;>first|rfl|cases hc
 refine⟨by rw[List.length_set];exact E.len,fun j b' e=>?_,fun j k' c a' b' e1 ec e2 e3 e4 e5=>?_,fun c o e=>?_,fun j c a' e1 ec e2=>?_⟩
 ·rcases getset e with⟨rfl,e',_⟩|⟨hne,e'⟩
  ·cases e'
   exact⟨_,hs,r⟩
  ·obtain⟨v,e1,r'⟩:=E.val j b' e'
   refine⟨v,e1,?_⟩
   have away:∀ a',v=.ref a'->loose b'=true->a'≠a:=fun a' ev hl z=>by
    subst z
    exact hne (E.own i j c0 _ _ h ho hs e' hl (by rw[e1,ev])).symm
   cases b' with
   |z d=>exact Rep.kp k r'
   |l ds'=>
    obtain⟨a',vs',rfl,q,rr⟩:=r'
    refine⟨a',vs',rfl,?_,rr.kp k⟩
    have hn:=away a' rfl rfl
    rcases q with q|⟨o,q⟩
    ·exact .inl (by rw[aU hn];exact q)
    ·exact .inr ⟨o,by rw[aU hn];exact q⟩
   |o ds'=>
    obtain⟨a',vs',rfl,q,rr⟩:=r'
    have hn:=away a' rfl rfl
    exact⟨a',vs',rfl,by rw[aU hn];exact q,rr.kp k⟩
   |n ds'=>
    obtain⟨a',vs',rfl,q,rr⟩:=r'
    refine⟨a',vs',rfl,?_,rr.kp k⟩
    have hn:=away a' rfl rfl
    rcases q with q|⟨o,q⟩
    ·exact .inl (by rw[aU hn];exact q)
    ·exact .inr ⟨o,by rw[aU hn];exact q⟩
   |m ds'=>
    obtain⟨a',vs',rfl,q,rr⟩:=r'
    have hn:=away a' rfl rfl
    exact⟨a',vs',rfl,by rw[aU hn];exact q,rr.1.kp k,rr.2⟩
 ·have back:∀ (m:Nat) (b:Bx),(ρ.set i (some c1))[m]?=some (some b)->loose b=true->∃ b0,ρ[m]?=some (some b0)/\loose b0=true/\(uD b=true->uD b0=true):=fun m b e l=>by
   rcases getset e with⟨rfl,e',_⟩|⟨hne,e'⟩
   ·exact⟨_,h,lo _ ho,fun _=>ho⟩
   ·exact⟨b,e',l,fun z=>z⟩
  obtain⟨b0,q1,q2,q3⟩:=back j _ e1 (lo _ ec)
  obtain⟨b1,q4,q5,_⟩:=back k' _ e3 e4
  exact E.own j k' b0 a' b1 q1 (q3 ec) e2 q4 q5 e5
 ·rw[aU (d9 e hb)];exact E.base c o e
 ·rcases getset e1 with⟨rfl,e',_⟩|⟨hne,e'⟩
  ·exact E.new _ c0 a' h ho e2
  ·exact E.new j c a' e' ec e2
theorem cQ.abl {K:PySem.W.Frag} {H0 H:Hp} {σ:L2.St} {ρ:Ev} {i:Nat} {ds es:List Dt} {a:Addr} {vs us:List V} (E:cQ K H0 H σ ρ) (h:ρ[i]?=some (some (.o ds))) (hs:σ[i]?=some (some (.ref a))) (ha:H a=some (.lst vs)) (r:aO K H es us) :
  cQ K H0 (upd H a (.lst us)) σ (ρ.set i (some (.o es))):=E.abG h rfl hs (.lst ha) ⟨a,us,rfl,cG,r.kp (.lst ha)⟩
theorem abH (i:Nat) {x:Str} {p apos cpos:Pos} (he:PV X e f) (hN:X.N[i]?=some x:=by rfl) (hv:Nk X.env.scope x:=by first|exact Or.inl rfl|exact Or.inr (Or.inl rfl)|exact Or.inr (Or.inr rfl)) (hd:(x==("__debug__" : Str))=false:=by decide)
  (hcd:(x==("__classdict__" : Str))=false:=by decide) (hst:starEach [e] X.env=[(false,eval e X.env)]:=by rfl)
  (hbase:attributeBase (.Name x p) "append" X.env (eval (.Name x p) X.env)=eval (.Name x p) X.env:=by rfl)
  (hfew:((backTo cpos (starEach [e] X.env)).all (fun x=>!x.1)&&(backToKw cpos (keywordEach [] X.env)).all (fun x=>x.1.isSome)
   && decide ([e].length+([]:List Keyword).length+(if ([]:List Keyword).isEmpty then 0 else 1) < 30))=true:=by rfl)
  (hline:(apos.endLine==cpos.line)=true:=by rfl) (hs:swapsWith (.Call (.Attribute (.Name x p) "append" apos) [e] [] cpos) none pos.line X.env=pure false:=by rfl) :
  Rv X (.Expr (.Call (.Attribute (.Name x p) "append" apos) [e] [] cpos) pos) (fun ρ=>(f ρ).bind (Us ρ i)):=
 Ue (Py (Z2 PySem.F.plainAttrs_list PySem.F.slot_list_append PySem.F.type_list_append G7 (wQ (i:=i) hN hv hd hcd) (xR he Ii (by rw[hst]<;>rfl)) hbase hfew hline (by rw[hst]<;>rfl) rfl) hs) fun D σ H h=>by
  obtain⟨H0,ρ,r,E,e,q⟩:=h
  obtain⟨b,eb,e⟩:=bind_some e
  cases b with
  |z d=>
   simp only[Us] at e
   split at e
   ·rename_i ds hρ
    split at e
    ·rename_i hl
     cases e
     obtain⟨v,e1,a,vs,rfl,ha,rs⟩:=E.val i _ hρ
     refine⟨_,e1,.inl ⟨rfl,vs,.inl (.inl ha)⟩,H0,ρ,_,E,eb,fun u H1 s1 n1 r1=>?_⟩
     have E1:=E.grow s1
     refine⟨a,vs,u,rfl,rfl,s1 _ _ ha,by rw[rs.length];exact hl,q _ _ ?_⟩
     exact E1.abl hρ e1 (s1 _ _ ha) ((rs.kp (.of s1)).append (aO.cons r1 aO.nil))
    ·cases e
   ·cases e
  |_=>cases e
end
def Its (x:Str):It:=⟨fun i _=>i < x.cps.size,fun i H v H'=>H'=H/\∃ c,x.cps[i]?=some c/\v=.str ⟨#[c]⟩,fun i _=>x.cps.size<=i⟩
def afQ (h:Heap) (it:Addr) (x:Str) (i:Nat):Prop:=∃ t,h.IsStrIter it "str_ascii_iterator" x t i\/h.IsStrIter it "str_iterator" x t i
theorem KY {P:Program} {w:World} {K:PySem.W.Frag} {tg:Expr} (it:Addr) (x:Str):Turn P w K tg (Its x) [it] it (fun i h=>afQ h it x i) where
 mem:=by simp
 obj:=fun i h st b hb=>by
  have e:b=it:=by simpa using hb
  subst e
  obtain⟨t,⟨o,e,c,d⟩|⟨o,e,c,d⟩⟩:=st
  ·exact⟨o,e,fun v z=>by rw[d] at z;cases z⟩
  ·exact⟨o,e,fun v z=>by rw[d] at z;cases z⟩
 keep:=fun i h h' st k=>by
  obtain⟨t,⟨o,e,c⟩|⟨o,e,c⟩⟩:=st
  ·exact⟨t,.inl ⟨o,k it (by simp) o e,c⟩⟩
  ·exact⟨t,.inr ⟨o,k it (by simp) o e,c⟩⟩
 item:=by
  intro X hP hw hK hc i pins s σ H E I hf st hg
  subst hP hw hK
  obtain⟨f0,f1,f2,f3,f4,f5⟩:=hf it (by simp)
  have hi:i < x.cps.size:=hg
  have hx:x.cps[i]?=some x.cps[i]:=by simp[hi]
  obtain⟨t,st|st⟩:=st
  ·refine wpAny_pyNext_ascii_item st hx fun h' st' sb=>?_
   have I1:L2.Inv X pins σ H { s with heap:=h',toks:=s.toks+1 }:=I.turned (fun b o hb e=>(sb.2 b hb).trans e) f0 f1 f3 f4 f5
   obtain⟨o,e,c,d⟩:=id st'
   exact⟨_,rfl,GR (s:={ s with heap:=h',toks:=s.toks+1 }) e c d (by decide) ⟨.str ⟨#[x.cps[i]]⟩,H,I1,⟨_,rfl⟩,⟨rfl,_,hx,rfl⟩,⟨t,.inl st'⟩,fun b hb=>(hf b hb).1⟩⟩
  ·refine wpAny_pyNext_wide_item st hx fun h' st' sb=>?_
   have I1:L2.Inv X pins σ H { s with heap:=h',toks:=s.toks+1 }:=I.turned (fun b o hb e=>(sb.2 b hb).trans e) f0 f1 f3 f4 f5
   obtain⟨o,e,c,d⟩:=id st'
   exact⟨_,rfl,GR (s:={ s with heap:=h',toks:=s.toks+1 }) e c d (by decide) ⟨.str ⟨#[x.cps[i]]⟩,H,I1,⟨_,rfl⟩,⟨rfl,_,hx,rfl⟩,⟨t,.inr st'⟩,fun b hb=>(hf b hb).1⟩⟩
 done:=by
  intro X hP hw hK hc i pins s σ H E I hf st hg
  subst hP hw hK
  obtain⟨f0,f1,f2,f3,f4,f5⟩:=hf it (by simp)
  have hx:x.cps[i]?=none:=by have:x.cps.size<=i:=hg;simp[this]
  obtain⟨t,st|st⟩:=st
  ·exact wpAny_pyNext_ascii_end (I.ok.hd hc) st hx fun h' eb=>⟨rfl,I.turned (t':=s.toks) (fun b o hb e=>eb b o hb e) f0 f1 f3 f4 f5⟩
  ·exact wpAny_pyNext_wide_end (I.ok.hd hc) st hx fun h' eb=>⟨rfl,I.turned (t':=s.toks) (fun b o hb e=>eb b o hb e) f0 f1 f3 f4 f5⟩
 self:=fun _ _ _ _ _ st h=>by
  obtain⟨t,st|st⟩:=st
  ·exact wpAny_pyIter_striter_ascii st h
  ·exact wpAny_pyIter_striter_wide st h
section
variable {X:Cx} {tg:Expr}
def afR (K:PySem.W.Frag) (tl:TE):TI:=fun σ H R=>tl σ H fun x H1=>(∃ a,x=.ref a/\(∃ xs,uz K H1 a xs)/\R (Itl K a) H1)\/(∃ a,x=.ref a/\(∃ xs,wD K H1 a xs)/\R (Itt K a) H1)\/∃ y,x=.str y/\R (Its y) H1
theorem NT {l:Expr} {tl:TE} (hl:PE X l tl):PI X tg l (afR X.K tl):=by
 intro pins s σ H R I h
 refine j6 (hl pins s σ H _ I h) fun v s1 ⟨x,H1,I1,r1,q1⟩=>?_
 have fp1:∀ (o:Obj) (b:Addr),b∈[s1.heap.objs.size]->uH X pins H1 b:=fun o b hb=>by
  have e:b=s1.heap.objs.size:=by simpa using hb
  subst e
  exact I1.Q9 (Nat.le_refl _) (I1.hok.fresh (Nat.le_refl _))
 rcases q1 with⟨a,e,⟨xs,hq⟩,q⟩|⟨a,e,⟨xs,hq⟩,q⟩|⟨y,e,q⟩
 ·subst e
  cases r1
  obtain⟨its,rv,p,hz⟩:=I1.list hq
  refine wpAny_pyIter_list p.isList ?_
  exact⟨s1.heap.objs.size,[s1.heap.objs.size],_,_,H1,rfl,I1.kept (t':=s1.toks) fun b o e=>Heap.get?_push_of_some _ e,Ra a _,⟨_,Heap.get?_push_size _ rfl,rfl,rfl⟩,fp1 default,q⟩
 ·subst e
  cases r1
  obtain⟨its,rv,p,hz⟩:=I1.tuple hq
  refine wpAny_pyIter_tuple (show s1.heap.IsTuple a its.toArray from p) ?_
  exact⟨s1.heap.objs.size,[s1.heap.objs.size],_,_,H1,rfl,I1.kept (t':=s1.toks) fun b o e=>Heap.get?_push_of_some _ e,Np a _,⟨_,Heap.get?_push_size _ rfl,rfl,rfl⟩,fp1 default,q⟩
 ·subst e
  obtain⟨t,rfl⟩:=r1
  cases ha:y.cps.all (· < 128) with
  |true=>
   refine wpAny_pyIter_ascii ha ?_
   exact⟨s1.heap.objs.size,[s1.heap.objs.size],_,_,H1,rfl,I1.kept (t':=s1.toks) fun b o e=>Heap.get?_push_of_some _ e,KY _ y,⟨t,.inl ⟨_,Heap.get?_push_size _ rfl,rfl,rfl⟩⟩,fp1 default,q⟩
  |false=>
   refine wpAny_pyIter_wide ha ?_
   exact⟨s1.heap.objs.size,[s1.heap.objs.size],_,_,H1,rfl,I1.kept (t':=s1.toks) fun b o e=>Heap.get?_push_of_some _ e,KY _ y,⟨t,.inr ⟨_,Heap.get?_push_size _ rfl,rfl,rfl⟩⟩,fp1 default,q⟩
end
def Yields (K:PySem.W.Frag) (J:It) (ds:List Dt) (Hs:Hp):Prop:=∀ (i:Nat) (H:Hp),Same Hs H →
 (∀ d,ds[i]?=some d->J.go i H/\∀ x H',J.yld i H x H'->H'=H/\Rep K H d x)/\(ds.length<=i->J.stop i H)
def signs (x:Str):List Dt:=x.cps.toList.map fun c=>.str ⟨#[c]⟩
theorem Yields.list {K:PySem.W.Frag} {Hs:Hp} {a:Addr} {vs:List V} {ds:List Dt} (h:uz K Hs a vs) (r:aO K Hs ds vs):Yields K (Itl K a) ds Hs:=fun i H s=>by
 have h':=s.seq h
 have r':=r.kp (.of s)
 refine⟨fun d e=>?_,fun e=>⟨vs,h',by rw[r.length];exact e⟩⟩
 obtain⟨v,ev,rv⟩:=r'.get e
 refine⟨⟨vs,v,h',ev⟩,fun x H' y=>?_⟩
 obtain⟨y1,y2⟩:=y
 have:=y2 vs h'
 rw[ev] at this;cases this
 exact⟨y1,rv⟩
theorem Yields.tup {K:PySem.W.Frag} {Hs:Hp} {a:Addr} {vs:List V} {ds:List Dt} (h:wD K Hs a vs) (r:aO K Hs ds vs):Yields K (Itt K a) ds Hs:=fun i H s=>by
 have h':=(Kp.of s).sqT h
 have r':=r.kp (.of s)
 refine⟨fun d e=>?_,fun e=>⟨vs,h',by rw[r.length];exact e⟩⟩
 obtain⟨v,ev,rv⟩:=r'.get e
 refine⟨⟨vs,v,h',ev⟩,fun x H' y=>?_⟩
 obtain⟨y1,y2⟩:=y
 have:=y2 vs h'
 rw[ev] at this;cases this
 exact⟨y1,rv⟩
theorem Yields.str {K:PySem.W.Frag} {Hs:Hp} (x:Str):Yields K (Its x) (signs x) Hs:=fun i H s=>by
 refine⟨fun d e=>?_,fun e=>?_⟩
 ·unfold signs at e
  rw[List.getElem?_map] at e
  cases h:x.cps.toList[i]? with
  |none=>rw[h] at e;cases e
  |some c=>
   rw[h] at e;cases e
   have hc:x.cps[i]?=some c:=by simpa using h
   have hi:i < x.cps.size:=by
    have:=(List.getElem?_eq_some_iff.mp h).1
    simpa using this
   refine⟨hi,fun v H' y=>?_⟩
   obtain⟨y1,c',hc',rfl⟩:=y
   rw[hc] at hc';cases hc'
   refine⟨y1,?_⟩
   unfold Rep
   exact⟨rfl,by show (1:Nat)<=sizeLine;decide⟩
 ·have:(signs x).length=x.cps.size:=by simp[signs]
  show x.cps.size<=i
  omega
def KZ (lo:Int) (n:Nat):List Dt:=(List.range n).map fun k=>.int (lo+(k:Nat))
theorem Yields.rng {K:PySem.W.Frag} {Hs:Hp} (lo:Int) (n:Nat):Yields K (Itr lo n) (KZ lo n) Hs:=fun i H s=>by
 refine⟨fun d e=>?_,fun e=>?_⟩
 ·unfold KZ at e
  rw[List.getElem?_map] at e
  by_cases hi:i < n
  ·rw[List.getElem?_range hi] at e
   cases e
   refine⟨hi,fun v H' y=>?_⟩
   obtain⟨y1,y2⟩:=y
   refine⟨y1,?_⟩
   unfold Rep
   exact y2
  ·rw[List.getElem?_eq_none (by simp;omega)] at e
   cases e
 ·have:(KZ lo n).length=n:=by simp[KZ]
  show n<=i
  omega
def iF (K:PySem.W.Frag) (f:Ev->Option (List Dt)):TI:=fun σ H R=>∃ H0 ρ ds,cQ K H0 H σ ρ/\f ρ=some ds/\∀ J H',Same H H' →
 (∀ Hs,Same Hs H'->(∀ a,H a=none->Hs a=H' a)->(∀ a o u,H' a=some (.q9 o u)->Hs a=H' a)->(∀ a vs,H' a=some (.tup vs)->Hs a=H' a)->Yields K J ds Hs)->R J H'
def PIF (X:Cx) (tg iter:Expr) (f:Ev->Option (List Dt)):Prop:=PI X tg iter (iF X.K f)
def Ut:Bx->Option (List Dt)
 |.z (.lst ds)=>some ds
 |.z (.tup ds)=>some ds
 |.z (.str x)=>some (signs x)
 |.o ds=>some ds
 |_=>none
section
variable {X:Cx} {tg e:Expr} {es:List Expr} {f:Ev->Option Bx} {fs:Ev->Option (List Bx)}
mutual
theorem Rep.part {K:PySem.W.Frag} {H Hs:Hp} (hf:∀ a o u,H a=some (.q9 o u)->Hs a=H a) (ht:∀ a vs,H a=some (.tup vs)->Hs a=H a):∀ {d:Dt} {v:V},Rep K H d v->Rep K Hs d v
 |.non,_,h=>by simpa only[Rep] using h
 |.bl _,_,h=>by simpa only[Rep] using h
 |.int _,_,h=>by simpa only[Rep] using h
 |.str _,_,h=>by simpa only[Rep] using h
 |.tup ds,_,h=>by
  simp only[Rep] at h ⊢
  obtain⟨a,vs,e,q,r⟩:=h
  refine⟨a,vs,e,?_,aO.part hf ht r⟩
  rcases q with (q|⟨o,q⟩)|q
  ·exact .inl (.inl ((ht _ _ q).trans q))
  ·exact .inl (.inr ⟨o,(hf _ _ _ q).trans q⟩)
  ·exact .inr q
 |.lst ds,_,h=>by
  simp only[Rep] at h ⊢
  obtain⟨a,vs,e,q,r⟩:=h
  refine⟨a,vs,e,?_,aO.part hf ht r⟩
  rcases q with⟨o,q⟩|q
  ·exact .inl ⟨o,(hf _ _ _ q).trans q⟩
  ·exact .inr q
 |.emp,_,h=>by
  simp only[Rep] at h ⊢
  obtain⟨a,o,e,q⟩:=h
  exact⟨a,o,e,(hf _ _ _ q).trans q⟩
theorem aO.part {K:PySem.W.Frag} {H Hs:Hp} (hf:∀ a o u,H a=some (.q9 o u)->Hs a=H a) (ht:∀ a vs,H a=some (.tup vs)->Hs a=H a):∀ {ds:List Dt} {vs:List V},aO K H ds vs->aO K Hs ds vs
 |[],_,h=>by simpa only[aO] using h
 |d::ds,_,h=>by
  simp only[aO] at h ⊢
  obtain⟨v,r,e,q,t⟩:=h
  exact⟨v,r,e,Rep.part hf ht q,aO.part hf ht t⟩
end
theorem Yc (h:PV X e f):PIF X tg e (fun ρ=>(f ρ).bind Ut):=fun pins s σ H R I q=>by
 refine NT h pins s σ H R I ?_
 obtain⟨H0,ρ,ds,E,e,q⟩:=q
 obtain⟨b,eb,e⟩:=bind_some e
 refine⟨H0,ρ,b,E,eb,fun v H1 s1 n1 r1=>?_⟩
 cases b with
 |z d=>
  cases d with
  |tup ds'=>
   cases e
   simp only[bN,Rep] at r1
   obtain⟨a,vs,rfl,hq,rs⟩:=r1
   refine .inr (.inl ⟨a,rfl,⟨vs,hq⟩,q _ _ s1 fun Hs hs hn hf ht=>.tup ?_ (rs.part hf ht)⟩)
   rcases hq with (hq|⟨o,hq⟩)|hq
   ·exact .inl (.inl ((ht _ _ hq).trans hq))
   ·exact .inl (.inr ⟨o,(hf _ _ _ hq).trans hq⟩)
   ·exact .inr hq
  |lst ds'=>
   cases e
   simp only[bN,Rep] at r1
   obtain⟨a,vs,rfl,hq,rs⟩:=r1
   refine .inl ⟨a,rfl,⟨vs,hq.sq⟩,q _ _ s1 fun Hs hs hn hf ht=>.list ?_ (rs.part hf ht)⟩
   rcases hq with⟨o,hq⟩|hq
   ·exact .inl (.inr ⟨o,(hf _ _ _ hq).trans hq⟩)
   ·exact .inr hq
  |str x=>
   cases e
   simp only[bN,Rep] at r1
   obtain⟨rfl,_⟩:=r1
   exact .inr (.inr ⟨x,rfl,q _ _ s1 fun Hs hs hn hf ht=>.str x⟩)
  |_=>cases e
 |l ds'=>cases e
 |n ds'=>cases e
 |m ds'=>cases e
 |o ds'=>
  cases e
  obtain⟨a,vs,rfl,hq,rs⟩:=r1
  refine .inl ⟨a,rfl,⟨vs,.inl (.inl hq)⟩,q _ _ s1 fun Hs hs hn hf ht=>.list (.inl (.inl ((hn a (n1 a rfl)).trans hq))) (rs.part hf ht)⟩
def Yd:List Bx->Option (List Dt)
 |[.z (.int j)]=>if -(2 ^ 62)<=j/\j < 2 ^ 62 then some (KZ 0 j.toNat) else none
 |_=>none
theorem Uu {p pos:Pos} (hg:Gl X "range") (hm:X.mg "range" = none) (ha:Ud X [e] fs) (hs:starEach [e] X.env=[(false,eval e X.env)]:=by rfl):PIF X tg (.Call (.Name "range" p) [e] [] pos) (fun ρ=>(fs ρ).bind Yd):=fun pins s σ H R I q=>by
 refine Rb hg hm ha hs pins s σ H R I ?_
 obtain⟨H0,ρ,ds,E,e,q⟩:=q
 obtain⟨bs,eb,e⟩:=bind_some e
 refine⟨H0,ρ,bs,E,eb,fun vs H1 s1 r1=>?_⟩
 unfold Yd at e
 split at e
 ·rename_i j
  split at e
  ·rename_i hj
   cases e
   cases r1 with
   |cons p t=>
    cases t
    simp only[bN,Rep] at p
    subst p
    exact⟨j,rfl,hj.1,hj.2,q _ _ s1 fun Hs _ _ _ _=>.rng 0 _⟩
  ·cases e
 ·cases e
def pD (gt:Dt->Ev->Option Ev) (gb:Ev->Option Out):List Dt->Ev->Option Out
 |[],ρ=>some (.nx ρ)
 |d::ds,ρ=>(gt d ρ).bind fun ρ1=>(gb ρ1).bind fun r=>match r with
  |.nx ρ2=>pD gt gb ds ρ2
  |.ct ρ2=>pD gt gb ds ρ2
  |.bk ρ2=>some (.nx ρ2)
  |.rt b=>some (.rt b)
noncomputable def iy (H:Hp) (σ:L2.St) (ρ:Ev):Hp:=fun a=>@ite _ (∃ (i:Nat) (c:Bx),ρ[i]?=some (some c)/\uD c=true/\σ[i]?=some (some (.ref a))) (Classical.propDecidable _) none (H a)
theorem xX {H:Hp} {σ:L2.St} {ρ:Ev}:Same (iy H σ ρ) H:=fun a o e=>by
 unfold iy at e
 split at e
 ·cases e
 ·exact e
theorem cQ.rebase {K:PySem.W.Frag} {H0 Hs H:Hp} {σ:L2.St} {ρ:Ev} (E:cQ K Hs H σ ρ) (s:Same H0 Hs):cQ K H0 H σ ρ:=⟨E.len,E.val,E.own,s.trans E.base,fun i c a e1 ec e2=>s.free (E.new i c a e1 ec e2)⟩
theorem cQ.sans {K:PySem.W.Frag} {H0 H:Hp} {σ:L2.St} {ρ:Ev} (E:cQ K H0 H σ ρ):cQ K (iy H σ ρ) H σ ρ:=⟨E.len,E.val,E.own,xX,fun i c a e1 ec e2=>by
 unfold iy
 rw[if_pos ⟨i,c,e1,ec,e2⟩]⟩
theorem cQ.sub {K:PySem.W.Frag} {H0 H:Hp} {σ:L2.St} {ρ:Ev} (E:cQ K H0 H σ ρ):Same H0 (iy H σ ρ):=fun a o e=>by
 unfold iy
 split
 ·rename_i h
  obtain⟨i,c,e1,ec,e2⟩:=h
  rw[E.new i c a e1 ec e2] at e;cases e
 ·exact E.base a o e
theorem jE {K:PySem.W.Frag} {H0 H:Hp} {σ:L2.St} {ρ:Ev} (E:cQ K H0 H σ ρ) {a:Addr} (h:∀ vs,H a≠some (.lst vs)) (h2:∀ vs,H a≠some (.dK vs)):iy H σ ρ a=H a:=by
 unfold iy
 split
 ·rename_i hh
  obtain⟨i,c,e1,ec,e2⟩:=hh
  obtain⟨v,e3,rc⟩:=E.val i _ e1
  rw[e2] at e3;cases e3
  cases c with
  |o ds=>obtain⟨a',vs,e4,q,_⟩:=rc;cases e4;exact absurd q (h vs)
  |m ds _=>obtain⟨a',vs,e4,q,_⟩:=rc;cases e4;exact absurd q (h2 vs)
  |_=>cases ec
 ·rfl
theorem Um.rebase {K:PySem.W.Frag} {H0 Hs:Hp} {D:Ends} {r:Out} (s:Same H0 Hs) (h:Um K H0 D r):Um K Hs D r:=by
 cases r with
 |nx ρ=>exact fun σ H E=>h σ H (E.rebase s)
 |bk ρ=>exact fun σ H E=>h σ H (E.rebase s)
 |ct ρ=>exact fun σ H E=>h σ H (E.rebase s)
 |rt b=>exact fun v H s' n r=>h v H (s.trans s') (n.old s) r
theorem qu {gt:Dt->Ev->Option Ev} {gb:Ev->Option Out} {J:It} {ds:List Dt} {H0 H1:Hp} {σ:L2.St} {ρ:Ev} {D:Ends} {r:Out} (E1:cQ X.K H0 H1 σ ρ) (Y:Yields X.K J ds (iy H1 σ ρ)) (e:pD gt gb ds ρ=some r) (q:Um X.K H0 D r) :
  ∃ W:Nat->Nat->L2.St->Hp->Prop,(∃ m,W 0 m σ H1)/\∀ i m σ H,W i m σ H →
   (J.stop i H/\D.nx σ H)\/(J.go i H/\∃ N:L2.St->Hp->Prop,(∀ σ' H',N σ' H'->∃ m',m' < m/\W (i+1) m' σ' H')/\∀ x H',J.yld i H x H'->tgF X.K gt x σ H' fun σ2 H2=>tG X.K gb { D with nx:=N,ct:=N,bk:=D.nx } σ2 H2):=by
 have E2:=E1.sans
 have q2:=q.rebase E1.sub
 generalize iy H1 σ ρ=Hs at Y E2 q2
 refine⟨fun i m σ' H'=>m=ds.length - i/\i<=ds.length/\∃ ρ',cQ X.K Hs H' σ' ρ'/\pD gt gb (ds.drop i) ρ'=some r,⟨ds.length,by simp,Nat.zero_le _,ρ,E2,by simpa using e⟩,?_⟩
 rintro i m σ' H' ⟨rfl,hi',ρ',E',e'⟩
 obtain⟨y1,y2⟩:=Y i H' E'.base
 by_cases hlt:i < ds.length
 ·right
  have hd:ds[i]?=some ds[i]:=by simp[hlt]
  obtain⟨go,yl⟩:=y1 _ hd
  rw[List.drop_eq_getElem_cons hlt] at e'
  simp only[pD] at e'
  obtain⟨ρ1,e1,e'⟩:=bind_some e'
  obtain⟨r1,e2,e'⟩:=bind_some e'
  refine⟨go,fun σ2 H2=>∃ ρ2,cQ X.K Hs H2 σ2 ρ2/\pD gt gb (ds.drop (i+1)) ρ2=some r,fun σ2 H2 ⟨ρ2,E3,e3⟩=>⟨ds.length - (i+1),by omega,rfl,hlt,ρ2,E3,e3⟩,fun x H2 yy=>?_⟩
  obtain⟨rfl,rx⟩:=yl x H2 yy
  refine⟨Hs,ρ',ds[i],ρ1,E',rx,e1,fun σ1 E3 _=>⟨Hs,ρ1,r1,E3,e2,?_⟩⟩
  cases r1 with
  |nx ρ2=>exact fun σ2 H3 E4=>⟨ρ2,E4,e'⟩
  |ct ρ2=>exact fun σ2 H3 E4=>⟨ρ2,E4,e'⟩
  |bk ρ2=>cases e';exact q2
  |rt b=>cases e';exact q2
 ·left
  have hge:ds.length<=i:=by omega
  refine⟨y2 hge,?_⟩
  rw[List.drop_eq_nil_of_le hge] at e'
  cases e'
  exact q2 σ' H' E'
theorem abI {iter:Expr} {body:List Stmt} {fi:Ev->Option (List Dt)} {gt:Dt->Ev->Option Ev} {gb:Ev->Option Out} {pos:Pos} (hp:PassesOwn (model X.prog X.w) X.A X.env X.xe) (hc:X.calm=true) (hi:PIF X tg iter fi) (hg:Rx X tg gt) (hb:GQ X body gb)
  (hs:∀ x,foldedSetIterable iter X.env x=pure x:=by intro _;rfl):Rv X (.For tg iter body [] pos) (fun ρ=>(fi ρ).bind fun ds=>pD gt gb ds ρ):=Ue (TQ hp hc hi hg hb hs) fun D σ H h=>by
 obtain⟨H0,ρ,r,E,e,q⟩:=h
 obtain⟨ds,ed,e⟩:=bind_some e
 refine⟨H0,ρ,ds,E,ed,fun J H1 s1 y=>?_⟩
 have E1:=E.grow s1
 refine qu E1 ?_ e q
 refine y _ xX (fun a ha=>?_) (fun a o u ha=>jE E1 (fun vs z=>by rw[ha] at z;cases z) (fun vs z=>by rw[ha] at z;cases z)) fun a vs ha=>jE E1 (fun vs z=>by rw[ha] at z;cases z) (fun vs z=>by rw[ha] at z;cases z)
 unfold iy
 split
 ·rename_i hh
  obtain⟨i,c,e1,ec,e2⟩:=hh
  obtain⟨v,e3,rc⟩:=E.val i _ e1
  rw[e2] at e3;cases e3
  cases c with
  |o ds=>obtain⟨a',vs,e4,q,_⟩:=rc;cases e4;rw[ha] at q;cases q
  |m ds _=>obtain⟨a',vs,e4,q,_⟩:=rc;cases e4;rw[ha] at q;cases q
  |_=>cases ec
 ·rfl
theorem cQ.lend {K:PySem.W.Frag} {H0 H:Hp} {σ:L2.St} {ρ:Ev} {i:Nat} {ds:List Dt} (E:cQ K H0 H σ ρ) (h:ρ[i]?=some (some (.o ds))):cQ K H0 H σ (ρ.set i (some (.l ds))):=by
 have back:∀ (j:Nat) (b:Bx),(ρ.set i (some (.l ds)))[j]?=some (some b)->(j=i/\b=.l ds)\/(j≠i/\ρ[j]?=some (some b)):=fun j b e=>by
  rcases getset e with⟨rfl,e',_⟩|⟨hne,e'⟩
  ·cases e';exact .inl ⟨rfl,rfl⟩
  ·exact .inr ⟨hne,e'⟩
 refine⟨by rw[List.length_set];exact E.len,fun j b e=>?_,fun j k c a b e1 ec e2 e3 e4 e5=>?_,E.base,fun j c a e1 ec e2=>?_⟩
 ·rcases back j b e with⟨rfl,rfl⟩|⟨hne,e'⟩
  ·obtain⟨v,e1,a,vs,e2,q,r⟩:=E.val _ _ h
   exact⟨v,e1,a,vs,e2,.inl q,r⟩
  ·exact E.val j b e'
 ·rcases back j _ e1 with⟨rfl,z⟩|⟨hne,e'⟩
  ·subst z;cases ec
  ·rcases back k _ e3 with⟨rfl,z⟩|⟨X6,e3'⟩
   ·exact E.own j _ c a _ e' ec e2 h rfl e5
   ·exact E.own j k c a b e' ec e2 e3' e4 e5
 ·rcases back j _ e1 with⟨rfl,z⟩|⟨hne,e'⟩
  ·subst z;cases ec
  ·exact E.new j c a e' ec e2
def qw (i:Nat) (gt:Dt->Ev->Option Ev) (gb:Ev->Option Out) (ρ:Ev):Option Out:=match ρ[i]? with
 |some (some (.o ds))=>pD gt gb ds (ρ.set i (some (.l ds)))
 |some (some (.l ds))=>pD gt gb ds ρ
 |some (some b)=>(Ut b).bind fun ds=>pD gt gb ds ρ
 |_=>none
theorem Uv {H0 H:Hp} {σ:L2.St} {ρ:Ev} {i:Nat} {ds:List Dt} (E:cQ X.K H0 H σ ρ) (h:ρ[i]?=some (some (.l ds))):∃ a vs,σ[i]?=some (some (.ref a))/\uz X.K H a vs/\Yields X.K (Itl X.K a) ds (iy H σ ρ):=by
 obtain⟨v,e1,a,vs,rfl,q,r⟩:=E.val i _ h
 have hk:iy H σ ρ a=H a:=by
  unfold iy
  split
  ·rename_i hh
   obtain⟨j,c,e2,ec,e3⟩:=hh
   have:=E.own j i c a _ e2 ec e3 h rfl e1
   subst this
   rw[h] at e2;cases e2;cases ec
  ·rfl
 refine⟨a,vs,e1,.inl q,.list (.inl ?_) (r.part (fun b o u hb=>jE E (fun vs z=>by rw[hb] at z;cases z) (fun vs z=>by rw[hb] at z;cases z)) fun b ws hb=>jE E (fun vs z=>by rw[hb] at z;cases z) (fun vs z=>by rw[hb] at z;cases z))⟩
 rcases q with q|⟨o,q⟩
 ·exact .inl (hk.trans q)
 ·exact .inr ⟨o,hk.trans q⟩
theorem Ye (i:Nat) {x:Str} {p:Pos} {body:List Stmt} {gt:Dt->Ev->Option Ev} {gb:Ev->Option Out} {pos:Pos} (hp:PassesOwn (model X.prog X.w) X.A X.env X.xe) (hc:X.calm=true) (hg:Rx X tg gt) (hb:GQ X body gb)
  (hN:X.N[i]?=some x:=by rfl) (hv:Nk X.env.scope x:=by first|exact Or.inl rfl|exact Or.inr (Or.inl rfl)|exact Or.inr (Or.inr rfl)) (hd:(x==("__debug__" : Str))=false:=by decide)
  (hcd:(x==("__classdict__" : Str))=false:=by decide)
  (hs:∀ y,foldedSetIterable (.Name x p) X.env y=pure y:=by intro _;rfl):Rv X (.For tg (.Name x p) body [] pos) (qw i gt gb):=Ue (TQ hp hc (NT (wQ (i:=i) hN hv hd hcd)) hg hb hs) fun D σ H h=>by
 obtain⟨H0,ρ,r,E,e,q⟩:=h
 unfold qw at e
 split at e
 ·rename_i ds hρ
  have E1:=E.lend hρ
  have hi:i < ρ.length:=(List.getElem?_eq_some_iff.mp hρ).1
  obtain⟨a,vs,e1,sq,Y⟩:=Uv E1 (Cv _ hi)
  exact⟨_,e1,.inl ⟨a,rfl,⟨vs,sq⟩,qu E1 Y e q⟩⟩
 ·rename_i ds hρ
  obtain⟨a,vs,e1,sq,Y⟩:=Uv E hρ
  exact⟨_,e1,.inl ⟨a,rfl,⟨vs,sq⟩,qu E Y e q⟩⟩
 ·rename_i b n1 n2 hρ
  obtain⟨ds,ed,e⟩:=bind_some e
  obtain⟨v,e1,rb⟩:=E.val i _ hρ
  have hf:∀ b o u,H b=some (.q9 o u)->iy H σ ρ b=H b:=fun b o u hb=>jE E (fun vs z=>by rw[hb] at z;cases z) (fun vs z=>by rw[hb] at z;cases z)
  have ht:∀ b ws,H b=some (.tup ws)->iy H σ ρ b=H b:=fun b ws hb=>jE E (fun vs z=>by rw[hb] at z;cases z) (fun vs z=>by rw[hb] at z;cases z)
  cases b with
  |z d=>
   cases d with
   |tup ds'=>
    cases ed
    simp only[bN,Rep] at rb
    obtain⟨a,vs,rfl,hq,rs⟩:=rb
    refine⟨_,e1,.inr (.inl ⟨a,rfl,⟨vs,hq⟩,qu E (.tup ?_ (rs.part hf ht)) e q⟩)⟩
    rcases hq with (hq|⟨o,hq⟩)|hq
    ·exact .inl (.inl ((ht _ _ hq).trans hq))
    ·exact .inl (.inr ⟨o,(hf _ _ _ hq).trans hq⟩)
    ·exact .inr hq
   |lst ds'=>
    cases ed
    simp only[bN,Rep] at rb
    obtain⟨a,vs,rfl,hq,rs⟩:=rb
    refine⟨_,e1,.inl ⟨a,rfl,⟨vs,hq.sq⟩,qu E (.list ?_ (rs.part hf ht)) e q⟩⟩
    rcases hq with⟨o,hq⟩|hq
    ·exact .inl (.inr ⟨o,(hf _ _ _ hq).trans hq⟩)
    ·exact .inr hq
   |str x=>
    cases ed
    simp only[bN,Rep] at rb
    obtain⟨rfl,_⟩:=rb
    exact⟨_,e1,.inr (.inr ⟨x,rfl,qu E (.str x) e q⟩)⟩
   |_=>cases ed
  |l ds'=>cases ed
  |o ds'=>exact absurd rfl (n1 ds')
  |n ds'=>cases ed
  |m ds'=>cases ed
 ·cases e
end
def SubL (cells:List (Str×Addr)):List (Str×Addr)->Prop
 |[]=>True
 |(n,c)::r=>cells.lookup n=some c/\SubL cells r
theorem SubL.get {cells:List (Str×Addr)}:∀ {cl:List (Str×Addr)},SubL cells cl->∀ {x:Str} {c:Addr},cl.lookup x=some c->cells.lookup x=some c
 |[],_,_,_,e=>by cases e
 |(n,d)::r,h,x,c,e=>by
  rw[List.lookup_cons] at e
  by_cases hx:x==n
  ·simp only[hx] at e
   cases e
   have:x=n:=by simpa using hx
   rw[this];exact h.1
  ·have hx:(x==n)=false:=by simpa using hx
   simp only[hx] at e
   exact SubL.get h.2 e
structure Cap (X:Cx) (scope:Scope) (cl:List (Str×Addr)) (x:Str) (i:Nat):Prop where
 n:X.N[i]?=some x
 k:X.env.kindOf x=some .cell\/X.env.kindOf x=some .free
 k':(relabel scope X.env).names.lookup x=some .cell\/(relabel scope X.env).names.lookup x=some .free
 c:∃ c,cl.lookup x=some c
def Ar (X:Cx) (scope:Scope) (cl:List (Str×Addr)):List Str->List Nat->Prop
 |[],[]=>True
 |x::xs,i::is=>Cap X scope cl x i/\Ar X scope cl xs is
 |_,_=>False
theorem Ar.get {X:Cx} {scope:Scope} {cl:List (Str×Addr)}:∀ {xs:List Str} {is:List Nat},Ar X scope cl xs is->xs.length=is.length/\∀ (j:Nat) (x:Str),xs[j]?=some x->∃ i,is[j]?=some i/\Cap X scope cl x i
 |[],[],_=>⟨rfl,fun j x e=>by simp at e⟩
 |x::xs,i::is,h=>by
  obtain⟨h1,h2⟩:=h
  obtain⟨l,g⟩:=Ar.get h2
  refine⟨by simp[l],fun j y e=>?_⟩
  cases j with
  |zero=>simp at e;subst e;exact⟨i,rfl,h1⟩
  |succ j=>obtain⟨k,e1,e2⟩:=g j y (by simpa using e);exact⟨k,by simpa using e1,e2⟩
 |[],_::_,h=>h.elim
 |_::_,[],h=>h.elim
def wU (X:Cx) (N':List Str) (scope:Scope) (cl:List (Str×Addr)) (C:Addr) (s₀:Shared) (H₀:Hp) (fp:List Addr):Cx:=
 { X with N:=N',s₀:=s₀,H₀:=H₀,env:=compEnvC scope cl C X.env,outer:=X.stack,ex:=fp,fn:=fun _=>false,pn:=[],xe:=fun _ _=>False }
def uF (is:List Nat) (σ:L2.St):L2.St:=is.map fun i=>(σ[i]?).bind fun v=>v
def gR (is:List Nat) (ρ:Ev):Ev:=is.map fun i=>xW ρ i
def Uw (n:Nat) (g:Dt->Ev->Option Ev):Prop:=∀ d ρ ρ',g d ρ=some ρ'->ρ'.length=ρ.length/\∀ j,j < n->ρ'[j]?=ρ[j]?
def Yg (n:Nat) (g:List Dt->Ev->Option Ev):Prop:=∀ d ρ ρ',g d ρ=some ρ'->ρ'.length=ρ.length/\∀ j,j < n->ρ'[j]?=ρ[j]?
theorem eF {n i:Nat} (h:n<=i:=by decide):Uw n (fun d ρ=>some (ρ.set i (some (.z d)))):=fun d ρ ρ' e=>by
 cases e
 exact⟨by rw[List.length_set],fun j hj=>Cw _ (by omega)⟩
theorem Yh {n:Nat}:Yg n wF:=fun d ρ ρ' e=>by
 cases d with
 |nil=>cases e;exact⟨rfl,fun _ _=>rfl⟩
 |cons=>cases e
theorem xY {n:Nat} {g:Dt->Ev->Option Ev} {gs:List Dt->Ev->Option Ev} (h:Uw n g) (hs:Yg n gs):Yg n (eE g gs):=fun d ρ ρ' e=>by
 cases d with
 |nil=>cases e
 |cons d ds=>
  simp only[eE] at e
  obtain⟨ρ1,e1,e⟩:=bind_some e
  obtain⟨a,b⟩:=h _ _ _ e1
  obtain⟨a',b'⟩:=hs _ _ _ e
  exact⟨a'.trans a,fun j hj=>(b' j hj).trans (b j hj)⟩
theorem abJ {n m:Nat} {gs:List Dt->Ev->Option Ev} (hs:Yg n gs):Uw n (sJ m gs):=fun d ρ ρ' e=>by
 cases d with
 |tup ds=>
  simp only[sJ] at e
  split at e
  ·exact hs _ _ _ e
  ·cases e
 |_=>cases e
def oh (gt:Dt->Ev->Option Ev) (p:Ev->Option Bool) (fe:Ev->Option Bx) (ρ:Ev):List Dt->Option (List Dt)
 |[]=>some []
 |d::ds=>(gt d ρ).bind fun ρ1=>(p ρ1).bind fun k=>if k=true then (fe ρ1).bind fun b=>match b with
   |.z y=>(oh gt p fe ρ ds).bind fun ys=>some (y::ys)
   |_=>none
  else oh gt p fe ρ ds
def Tests (X:Cx) (ifs:List Expr) (p:Ev->Option Bool):Prop:=(ifs=[]/\p=fun _=>some true)\/∃ c,ifs=[c]/\PB X c p
section
variable {X:Cx} {elt tgt iter:Expr} {ifs:List Expr} {scope:Scope} {cl:List (Str×Addr)} {pos:Pos} {xs ts:List Str} {is:List Nat} {gt:Dt->Ev->Option Ev} {p:Ev->Option Bool} {fe:Ev->Option Bx} {fi:Ev->Option (List Dt)}
theorem K1 {pins:List (Addr×Obj)} {σ:L2.St} {H3:Hp} {s3:Shared} {h1:Heap} {tk:Nat} {fp:List Addr} {m:Str->Option Value} (I3:L2.Inv X pins σ H3 s3) (hkind:scope.kind=.function) (hcell:∀ y∈scope.names,y.2≠.cell)
  (hsub:SubL X.env.cells cl) (hhas:∀ x,((relabel scope X.env).names.lookup x=some .cell\/(relabel scope X.env).names.lookup x=some .free)->∃ c,cl.lookup x=some c) (hcap:Ar X scope cl xs is)
  (hf:∀ b∈fp,uH X pins H3 b) (hfl:∀ b∈fp,b < s3.heap.objs.size) (hns:h1.Ns s3.heap.objs.size m) (hk:∀ b o,s3.heap.get? b=some o->h1.get? b=some o) :
  L2.Inv (wU X (xs++ts) scope cl s3.heap.objs.size s3 H3 fp) [] (uF is σ++List.replicate ts.length none) H3 { s3 with heap:=h1,toks:=tk }:=by
 obtain⟨hl,hc⟩:=hcap.get
 refine⟨⟨I3.ok.mod,hkind,I3.ok.glob,I3.ok.blt,Nat.le_refl _,fun x y c e1 e2=>?_,fun x hx=>hhas x hx,fun x c e=>(by cases e),I3.ok.hd,I3.ok.frames,.inl rfl,fun b hb=>⟨Nat.ne_of_lt (hfl b hb),fun x c e=>?_⟩,I3.bs,Nat.le_trans I3.ok.Xb I3.sz,fun b o e hb=>?_,fun b hb hb'=>?_,I3.stack,I3.Pu⟩,
  rfl,I3.bare,Un.kept hk,⟨m,hns,fun j x v e1 e2 _=>?_⟩,fun x c e=>?_,I3.hok.fresh (Nat.le_refl _),fun x c e=>I3.oV x c (hsub.get e),fun q hq=>absurd (show q∈([]:List (Addr×Obj)) from hq) (by simp),I3.hok.kept hk,?_⟩
 ·exact I3.ok.inj x y c (hsub.get e1) (hsub.get e2)
 ·exact (hf b hb).2.2.2.2.1 x c (hsub.get e)
 ·obtain⟨_,_,_,z,_⟩:=hf b hb
  rcases z with z|z
  ·exact I3.ok.Tt b o e z
  ·exact absurd (Nat.lt_of_lt_of_le (Heap.lt_size e) (Nat.le_trans I3.ok.Xb z)) (Nat.lt_irrefl _)
 ·obtain⟨_,n1,n2,_⟩:=hf b hb
  rcases List.mem_cons.mp (I3.Ci b hb') with z|z
  ·exact n1 z
  ·exact n2 z
 ·have hj:j < is.length:=by
   by_cases hj:j < is.length
   ·exact hj
   ·rw[List.getElem?_append_right (by simp[uF];omega)] at e2
    rw[List.getElem?_replicate] at e2
    split at e2<;>cases e2
  have e1':xs[j]?=some x:=by
   have e1:(xs++ts)[j]?=some x:=e1
   rw[List.getElem?_append_left (by omega)] at e1;exact e1
  obtain⟨i,ei,hcp⟩:=hc j x e1'
  have e3:σ[i]?=some (some v):=by
   rw[List.getElem?_append_left (by simp[uF];omega)] at e2
   unfold uF at e2
   rw[List.getElem?_map,ei] at e2
   cases q:σ[i]? with
   |none=>rw[Option.map_some,q] at e2;cases e2
   |some o=>
    rw[Option.map_some,q] at e2
    have:o=some v:=by simpa using e2
    rw[this]
  have vis:Nk X.env.scope x:=by
   rcases hcp.k with k|k
   ·exact .inr (.inl k)
   ·exact .inr (.inr k)
  obtain⟨m',hn',hlk⟩:=I3.loc
  obtain⟨u,r,l⟩:=hlk i x v hcp.n e3 vis
  refine⟨u,r,?_⟩
  rcases l with⟨k,_⟩|⟨k,c,ec,ic⟩
  ·rcases hcp.k with k'|k'<;>(rw[k] at k';cases k')
  ·obtain⟨c',ec'⟩:=hcp.c
   have:=hsub.get ec'
   rw[ec] at this;cases this
   refine .inr ⟨hcp.k',c,ec',?_⟩
   obtain⟨o,ho,hd⟩:=ic
   exact⟨o,hk c o ho,hd⟩
 ·obtain⟨v,o,ho,hd⟩:=I3.cell x c (hsub.get e)
  exact⟨v,o,hk c o ho,hd⟩
 ·show (uF is σ++List.replicate ts.length none).length=(xs++ts).length
  simp[uF,hl]
theorem cQ.caps {K:PySem.W.Frag} {H0 H:Hp} {σ:L2.St} {ρ:Ev} (E:cQ K H0 H σ ρ) (is:List Nat) (n:Nat):cQ K H H (uF is σ++List.replicate n none) (gR is ρ++List.replicate n none):=by
 have Hg:∀ (j:Nat) c,(gR is ρ++List.replicate n none)[j]?=some (some c)->uD c=false:=fun j c e=>by
  by_cases hj:j < is.length
  ·rw[List.getElem?_append_left (by simp[gR];omega)] at e
   unfold gR at e
   rw[List.getElem?_map] at e
   cases q:is[j]? with
   |none=>rw[q] at e;cases e
   |some i=>
    rw[q] at e
    have:xW ρ i=some c:=by simpa using e
    exact vV this
  ·rw[List.getElem?_append_right (by simp[gR];omega),List.getElem?_replicate] at e
   split at e<;>cases e
 refine⟨by simp[uF,gR],fun j b e=>?_,fun j k c a b e ec=>absurd ec (by rw[Hg j c e];exact Bool.false_ne_true),Same.refl H,fun j c a e ec=>absurd ec (by rw[Hg j c e];exact Bool.false_ne_true)⟩
 by_cases hj:j < is.length
 ·rw[List.getElem?_append_left (by simp[gR];omega)] at e
  rw[List.getElem?_append_left (by simp[uF];omega)]
  unfold gR at e
  unfold uF
  rw[List.getElem?_map] at e ⊢
  cases q:is[j]? with
  |none=>rw[q] at e;cases e
  |some i=>
   rw[q] at e
   have:xW ρ i=some b:=by simpa using e
   obtain⟨v,e1,r⟩:=KR E this
   exact⟨v,by simp[e1],r⟩
 ·rw[List.getElem?_append_right (by simp[gR];omega),List.getElem?_replicate] at e
  split at e<;>cases e
theorem cQ.forget {K:PySem.W.Frag} {H0 H:Hp} {σ:L2.St} {ρ ρ':Ev} (E:cQ K H0 H σ ρ') (hl:ρ'.length=ρ.length) (h:∀ (j:Nat) b,ρ[j]?=some (some b)->ρ'[j]?=some (some b)):cQ K H0 H σ ρ:=
 ⟨E.len.trans hl,fun j b e=>E.val j b (h j b e),fun i j c a b e1 ec e2 e3 e4 e5=>E.own i j c a b (h _ _ e1) ec e2 (h _ _ e3) e4 e5,E.base,fun i c a e1 ec e2=>E.new i c a (h _ _ e1) ec e2⟩
theorem xZ {pins:List (Addr×Obj)} {σ:L2.St} {H H2:Hp} {s2:Shared} {it:Addr} {fp:List Addr} {tn:Nat->Heap->Prop} {J:It} {ds out:List Dt} {ρ:Ev} {RR:Value->Addr->Result->Shared->Prop} {E:Value->Shared->Prop}
  (hkind:scope.kind=.function) (hcell:∀ y∈scope.names,y.2≠.cell) (hcalm:X.calm=true)
  (hsub:SubL X.env.cells cl) (hhas:∀ x,((relabel scope X.env).names.lookup x=some .cell\/(relabel scope X.env).names.lookup x=some .free)->∃ c,cl.lookup x=some c) (hcap:Ar X scope cl xs is)
  (Kq:∀ C s₀ H₀ fp,Rx (wU X (xs++ts) scope cl C s₀ H₀ fp) tgt gt) (hif:∀ C s₀ H₀ fp,Tests (wU X (xs++ts) scope cl C s₀ H₀ fp) ifs p) (helt:∀ C s₀ H₀ fp,PV (wU X (xs++ts) scope cl C s₀ H₀ fp) elt fe) (htk:Uw is.length gt)
  (I2:L2.Inv X pins σ H2 s2) (Ec:cQ X.K H2 H2 (uF is σ++List.replicate ts.length none) (gR is ρ++List.replicate ts.length none)) (T:Turn X.prog X.w X.K tgt J fp it tn) (st:tn 0 s2.heap) (hf:∀ b∈fp,uH X pins H2 b) (Y:Yields X.K J ds H2)
  (hlen:ds.length<=100000) (hout:oh gt p fe (gR is ρ++List.replicate ts.length none) ds=some out)
  (hRR:∀ (D C:Addr) (s':Shared) (H':Hp) (us:List V),H2 D=none->L2.Inv X pins σ H' s'->uH X pins H' C->(∃ m,s'.heap.Ns C m)->Same H2 H'->H' D=some (.lst us)->aO X.K H' out us->RR (.ref D) C (.ok .next) s') :
  wpAny (model X.prog X.w) X.A (newList []) (fun acc s₃=>wpAny (model X.prog X.w) X.A (newFunctionEnv scope X.env.globals cl [] X.env.qual none .none (some X.env)) (fun cenv s₄=>
   codeAny (model X.prog X.w) X.A (.compStart (.ListComp elt [⟨tgt,iter,ifs,0⟩] scope pos) 0 (.ref it) acc { cenv with scope:=relabel scope X.env }) (RR acc cenv.locals) s₄) E s₃) E s2:=by
 refine wpAny_newObj_type (wpAny_newFunctionEnv hcell (by intro y hy;simp at hy) (fun h₁ hns₁ hsb₁=>?_) hkind)
 have hD:H2 s2.heap.objs.size=none:=I2.hok.fresh (Nat.le_refl _)
 have I3:L2.Inv X pins σ (upd H2 s2.heap.objs.size (.lst [])) { s2 with heap:=s2.heap.push { cls:=.type "list", data:=.seq ([]:List Value).toArray } }:=
  I2.laid (t':=s2.toks) (fun b o e=>Heap.get?_push_of_some _ e) (Nat.le_refl _) ⟨Nat.zero_le _,[],0,.nil,Heap.get?_push_size _ rfl⟩
 have sD:Same H2 (upd H2 s2.heap.objs.size (.lst [])):=cV hD
 have Ux:∀ b∈fp,b < s2.heap.objs.size:=fun b hb=>let ⟨o,e,_⟩:=T.obj 0 _ st b hb;Heap.lt_size e
 have Yi:∀ b∈fp,uH X pins (upd H2 s2.heap.objs.size (.lst [])) b:=fun b hb=>⟨by rw[aU (Nat.ne_of_lt (Ux b hb))];exact (hf b hb).1,(hf b hb).2⟩
 generalize hs3:({ s2 with heap:=s2.heap.push { cls:=.type "list", data:=.seq ([]:List Value).toArray } }:Shared)=s3 at *
 have Uy:s3.heap=s2.heap.push { cls:=.type "list", data:=.seq ([]:List Value).toArray }:=by rw[<-hs3]
 have Uz:∀ b∈fp,b < s3.heap.objs.size:=fun b hb=>by rw[Uy,Heap.size_push];exact Nat.lt_succ_of_lt (Ux b hb)
 have hk:∀ b o,s3.heap.get? b=some o->h₁.get? b=some o:=fun b o e=>hsb₁.extBut b o (Nat.ne_of_lt (Heap.lt_size e)) (Heap.get?_push_of_some _ e)
 have IC:=K1 (ts:=ts) (tk:=s3.toks+([]:List (Str×Value)).length) I3 hkind hcell hsub hhas hcap Yi Uz hns₁ hk
 have st1:tn 0 h₁:=T.keep 0 _ _ st fun b hb o e=>hk b o (by rw[Uy];exact Heap.get?_push_of_some _ e)
 generalize hX':wU X (xs++ts) scope cl s3.heap.objs.size s3 (upd H2 s2.heap.objs.size (.lst [])) fp=X' at *
 have Nh:X'.env=compEnvC scope cl s3.heap.objs.size X.env:=by rw[<-hX'];rfl
 have Iz:X'.K=X.K:=by rw[<-hX'];rfl
 have Ry:X'.A=X.A:=by rw[<-hX'];rfl
 have Ni:X'.prog=X.prog:=by rw[<-hX'];rfl
 have Nj:X'.w=X.w:=by rw[<-hX'];rfl
 have hXc:X'.calm=true:=by rw[<-hX'];exact hcalm
 have Yj:X'.xe=fun _ _=>False:=by rw[<-hX'];rfl
 have abK:cQ X.K H2 (upd H2 s2.heap.objs.size (.lst [])) (uF is σ++List.replicate ts.length none) (gR is ρ++List.replicate ts.length none):=Ec.grow sD
 have hl0:(gR is ρ++List.replicate ts.length (none:Option Bx)).length=is.length+ts.length:=by simp[gR]
 have hb0:∀ (j:Nat) b,(gR is ρ++List.replicate ts.length (none:Option Bx))[j]?=some (some b)->j < is.length:=fun j b e=>by
  by_cases hj:j < is.length
  ·exact hj
  ·rw[List.getElem?_append_right (by simp[gR];omega),List.getElem?_replicate] at e
   split at e<;>cases e
 have abL:Rx X' tgt gt:=by rw[<-hX'];exact Kq _ _ _ _
 have abM:Tests X' ifs p:=by rw[<-hX'];exact hif _ _ _ _
 have ad8:PV X' elt fe:=by rw[<-hX'];exact helt _ _ _ _
 have hfC:∀ {H':Hp},(∀ b∈fp,H' b=none)->∀ b∈fp,uH X' [] H' b:=fun {H'} hn b hb=>by
  obtain⟨f0,f1,f2,f3,f4,f5⟩:=Yi b hb
  refine⟨hn b hb,?_,?_,.inl (by rw[<-hX'];exact hb),?_,?_⟩
  ·rw[Nh];exact Nat.ne_of_lt (Uz b hb)
  ·intro z
   have z:b∈frs X.stack:=by rw[<-hX'] at z;exact z
   rcases List.mem_cons.mp (I3.Ci b z) with q|q
   ·exact f1 q
   ·exact f2 q
  ·intro x c e
   rw[Nh] at e
   exact f4 x c (hsub.get e)
  ·intro q hq
   have:q∈([]:List (Addr×Obj)):=by rw[<-hX'] at hq;simpa [wU] using hq
   cases this
 have abO:∀ (j:Nat) c a,(gR is ρ++List.replicate ts.length (none:Option Bx))[j]?=some (some c)->loose c=true->(uF is σ++List.replicate ts.length none)[j]?=some (some (.ref a))->H2 a≠none:=fun j c a e hl ea z=>by
  obtain⟨v,e1,rc⟩:=Ec.val j _ e
  rw[ea] at e1;cases e1
  cases c with
  |z d=>cases hl
  |l dz=>
   obtain⟨a',vs,e2,q,_⟩:=rc
   cases e2
   rcases q with q|⟨o,q⟩<;>(rw[z] at q;cases q)
  |n dz=>
   obtain⟨a',vs,e2,q,_⟩:=rc
   cases e2
   rcases q with q|⟨o,q⟩<;>(rw[z] at q;cases q)
  |o dz=>
   obtain⟨a',vs,e2,q,_⟩:=rc
   cases e2
   rw[z] at q;cases q
  |m dz _=>
   obtain⟨a',vs,e2,q,_⟩:=rc
   cases e2
   rw[z] at q;cases q
 generalize hρ0:gR is ρ++List.replicate ts.length (none:Option Bx)=ρ0 at *
 have loop:∀ s₃:Shared,s₃={ s3 with heap:=h₁,toks:=s3.toks+([]:List (Str×Value)).length } →
   codeAny (model X.prog X.w) X.A (.compLoop (.ListComp elt [⟨tgt,iter,ifs,0⟩] scope pos) 0 (.ref it) (.ref s2.heap.objs.size) (compEnvC scope cl s3.heap.objs.size X.env)) (RR (.ref s2.heap.objs.size) s3.heap.objs.size) s₃:=by
  rintro s₃ rfl
  refine codeAny_loop rfl (fun n s'=>∃ (i:Nat) (σ':L2.St) (H':Hp) (o1 o2:List Dt) (us:List V),n=ds.length - i/\i<=ds.length/\L2.Inv X' [] σ' H' s'/\tn i s'.heap/\(∀ b∈fp,H' b=none)/\cQ X.K H2 H' σ' ρ0/\(∀ (j:Nat) c a,ρ0[j]?=some (some c)->loose c=true->σ'[j]?=some (some (.ref a))->H2 a≠none)/\H' s2.heap.objs.size=some (.lst us)/\aO X.K H' o1 us/\o1.length<=i/\oh gt p fe ρ0 (ds.drop i)=some o2/\o1++o2=out) ?_ ds.length
   ⟨0,_,_,[],out,[],by simp,Nat.zero_le _,IC,st1,fun b hb=>(Yi b hb).1,abK,abO,cG,aO.nil,Nat.le_refl _,by simpa using hout,rfl⟩
  rintro n s4 ⟨i,σ4,H4,o1,o2,us,rfl,hi,I4,st4,fr4,E4,abP,hD4,r4,hl4,e4,ho⟩
  show wpAny _ X.A ((compTurn (.ListComp elt [⟨tgt,iter,ifs,0⟩] scope pos) 0 (.ref it) (.ref s2.heap.objs.size) (compEnvC scope cl s3.heap.objs.size X.env)).onRaise (fun x=>do noteFrame x (compEnvC scope cl s3.heap.objs.size X.env);theTreesLotGoes x)) _ _ s4
  refine wpAny_noted ?_
  rw[compTurn_list]
  obtain⟨y1,y2⟩:=Y i H4 E4.base
  by_cases hlt:i < ds.length
  ·have hd:ds[i]?=some ds[i]:=by simp[hlt]
   obtain⟨go,yl⟩:=y1 _ hd
   rw[List.drop_eq_getElem_cons hlt] at e4
   simp only[oh] at e4
   obtain⟨ρ1,e1,e4⟩:=bind_some e4
   obtain⟨k,ek,e4⟩:=bind_some e4
   obtain⟨hl1,hk1⟩:=htk _ _ _ e1
   have back:∀ {σ5:L2.St} {H5:Hp},cQ X.K H2 H5 σ5 ρ1->cQ X.K H2 H5 σ5 ρ0:=fun E5=>E5.forget hl1 fun j b e=>by rw[hk1 j (hb0 j b e)];exact e
   refine wpAny_bind (wpAny_standAt (wpAny_bind ?_))
   have T4:=T.item X' Ni Nj Iz hXc i [] s4 σ4 H4 (notedBy (model X.prog X.w) X.A (compEnvC scope cl s3.heap.objs.size X.env) fun e s'=>RR (.ref s2.heap.objs.size) s3.heap.objs.size (.error e) s') I4 (hfC fr4) st4 go
   rw[Ry] at T4
   refine j6 T4 fun r s5 ⟨u,hr,h5⟩=>?_
   subst hr
   refine wpAny_bind (j6 h5 fun _ s6 ⟨x,H6,I6,r6,y6,st6,fr6⟩=>?_)
   obtain⟨rfl,rx⟩:=yl x H6 y6
   have I6':=I6.pinned (hfC fr6) (T.obj _ _ st6)
   have ha:=abL _ s6 σ4 H6 x u (fun σ' H'=>H'=H6/\cQ X.K H2 H6 σ' ρ1/\Lo σ4 ρ0 σ' ρ1) I6' r6 ⟨H2,ρ0,ds[i],ρ1,by rw[Iz];exact E4,by rw[Iz];exact rx,e1,fun σ' E' L'=>⟨rfl,by rw[Iz] at E';exact E',L'⟩⟩
   rw[Ry,Nh,Yj] at ha
   simp only[Ni,Nj] at ha
   refine wpAny_bind (wpAny_mono ha (fun _ s7 h7=>?_) fun _ _ z=>z.elim)
   obtain⟨σ7,H7,I7,rfl,E7,L7⟩:=h7
   have IK:∀ (j:Nat) c a,ρ0[j]?=some (some c)->loose c=true->σ7[j]?=some (some (.ref a))->H2 a≠none:=fun j c a e hl ea=>by
    have e':ρ1[j]?=some (some c):=by rw[hk1 j (hb0 j _ e)];exact e
    exact abP j c a e hl (by rw[<-(L7 j _ hl e').2];exact ea)
   have ht:wpAny (model X.prog X.w) X.A (forIn ifs true fun c r=>if r=true then do let ok <-isTrue c (compEnvC scope cl s3.heap.objs.size X.env) (eval c (compEnvC scope cl s3.heap.objs.size X.env));pure (ForInStep.yield ok) else pure (ForInStep.yield r))
     (fun ok s8=>ok=k/\∃ H8,L2.Inv X' ([]++rA fp s6.heap) σ7 H8 s8/\Same H7 H8) (notedBy (model X.prog X.w) X.A (compEnvC scope cl s3.heap.objs.size X.env) fun e s'=>RR (.ref s2.heap.objs.size) s3.heap.objs.size (.error e) s') s7:=by
    rcases abM with⟨rfl,rfl⟩|⟨c,rfl,hc⟩
    ·cases ek
     exact wpAny_tests_nil ⟨rfl,H7,I7,Same.refl H7⟩
    ·refine wpAny_tests_one ?_
     have:=hc _ s7 σ7 H7 (fun b H8=>b=k/\Same H7 H8) I7 ⟨H2,ρ1,k,by rw[Iz];exact E7,ek,fun H8 s8=>⟨rfl,s8⟩⟩
     rw[Ry,Nh,Yj] at this
     simp only[Ni,Nj] at this
     exact wpAny_mono this (fun b s8 ⟨H8,I8,eb,s8'⟩=>⟨eb,H8,I8,s8'⟩) fun _ _ z=>z.elim
   refine wpAny_bind (wpAny_mono ht (fun ok s8 h8=>?_) fun _ _ z=>z)
   obtain⟨rfl,H8,I8,Tf⟩:=h8
   have Cy:∀ {σ9:L2.St} {H9:Hp} {s9:Shared},L2.Inv X' ([]++rA fp s6.heap) σ9 H9 s9->L2.Inv X' [] σ9 H9 s9/\tn (i+1) s9.heap/\∀ b∈fp,H9 b=none:=fun {σ9 H9 s9} I9=>by
    refine⟨I9.qm,T.keep _ _ _ st6 fun b hb o e=>(I9.pin (b,o) (List.mem_append_right _ (List.mem_append_right _ (lW hb e)))).1,fun b hb=>?_⟩
    obtain⟨o,e,d⟩:=T.obj _ _ st6 b hb
    exact (I9.pin (b,o) (List.mem_append_right _ (List.mem_append_right _ (lW hb e)))).2.1
   cases ok with
   |false=>
    rw[if_neg Bool.false_ne_true] at e4
    obtain⟨I9,st9,fr9⟩:=Cy I8
    exact wpAny_pure ⟨rfl,ds.length - (i+1),by omega,i+1,σ7,H8,o1,o2,us,rfl,hlt,I9,st9,fr9,back (E7.grow Tf),IK,Tf _ _ hD4,r4.kp (.of Tf),by omega,e4,ho⟩
   |true=>
    rw[if_pos rfl] at e4
    obtain⟨b,eb,e4⟩:=bind_some e4
    cases b with
    |z y=>
     obtain⟨ys,e5,e4⟩:=bind_some e4
     cases e4
     have he:=ad8 _ s8 σ7 H8 (fun v H9=>Same H8 H9/\Rep X.K H9 y v) I8 ⟨H2,ρ1,_,by rw[Iz];exact E7.grow Tf,eb,fun v H9 s9 _ r9=>⟨s9,by rw[Iz] at r9;exact r9⟩⟩
     rw[Ry,Nh,Yj] at he
     simp only[Ni,Nj] at he
     refine wpAny_bind (wpAny_bind (wpAny_mono he (fun v s9 h9=>?_) fun _ _ z=>z.elim))
     obtain⟨v',H9,I9,rv,s89,r9⟩:=h9
     have s79:=Tf.trans s89
     have hD9:H9 s2.heap.objs.size=some (.lst us):=s79 _ _ hD4
     have hap:=(G7 (X:=X')) _ s9 σ7 H9 (.ref s2.heap.objs.size) [v'] (.ref s2.heap.objs.size) [v] (fun w H10=>H10=upd H9 s2.heap.objs.size (.lst (us++[v']))) I9 rfl (.cons rv .nil)
      ⟨_,us,v',rfl,rfl,hD9,by rw[r4.length];have h0:(100000:Nat) < sizeLine:=(by decide);omega,rfl⟩
     rw[Ry,Yj] at hap
     simp only[Ni,Nj] at hap
     refine wpAny_bind (wpAny_mono hap (fun w s10 h10=>?_) fun _ _ z=>z.elim)
     obtain⟨w',H10,I10,_,rfl⟩:=h10
     obtain⟨I11,abT,abU⟩:=Cy I10
     have kp:Kp H9 (upd H9 s2.heap.objs.size (.lst (us++[v']))):=.lst hD9
     have E9:=back (E7.grow s79)
     refine wpAny_pure (wpAny_pure ⟨rfl,ds.length - (i+1),by omega,i+1,σ7,_,o1++[y],ys,us++[v'],rfl,hlt,I11,abT,abU,?_,IK,cG,((r4.kp (.of s79)).append (aO.cons r9 aO.nil)).kp kp,by simp;omega,e5,by simpa using ho⟩)
     have Hg:∀ (j:Nat) c,ρ0[j]?=some (some c)->uD c=false:=fun j c e=>by
      rw[<-hρ0] at e
      by_cases hj:j < is.length
      ·rw[List.getElem?_append_left (by simp[gR];omega)] at e
       unfold gR at e
       rw[List.getElem?_map] at e
       cases q:is[j]? with
       |none=>rw[q] at e;cases e
       |some i=>rw[q] at e;exact vV (by simpa using e)
      ·rw[List.getElem?_append_right (by simp[gR];omega),List.getElem?_replicate] at e
       split at e<;>cases e
     have EH2:∀ (j:Nat) b,ρ0[j]?=some (some b)->∀ v,σ7[j]?=some (some v)->bN X.K H9 b v->bN X.K (upd H9 s2.heap.objs.size (.lst (us++[v']))) b v:=fun j b e v ev rb=>by
      cases b with
      |z d=>exact Rep.kp kp rb
      |o dz=>have:=Hg j _ e;cases this
      |m dz _=>have:=Hg j _ e;cases this
      |n dz=>
       obtain⟨a,vs,rfl,q,rr⟩:=rb
       refine⟨a,vs,rfl,?_,rr.kp kp⟩
       by_cases ha:a=s2.heap.objs.size
       ·subst ha;exact absurd hD (IK j _ _ e rfl ev)
       ·rcases q with q|⟨o,q⟩
        ·exact .inl (by rw[aU ha];exact q)
        ·exact .inr ⟨o,by rw[aU ha];exact q⟩
      |l dz=>
       obtain⟨a,vs,rfl,q,rr⟩:=rb
       refine⟨a,vs,rfl,?_,rr.kp kp⟩
       by_cases ha:a=s2.heap.objs.size
       ·subst ha;exact absurd hD (IK j _ _ e rfl ev)
       ·rcases q with q|⟨o,q⟩
        ·exact .inl (by rw[aU ha];exact q)
        ·exact .inr ⟨o,by rw[aU ha];exact q⟩
     refine⟨E9.len,fun j b e=>?_,fun j k c a b e ec=>absurd ec (by rw[Hg j c e];exact Bool.false_ne_true),fun c o e=>?_,fun j c a e ec=>absurd ec (by rw[Hg j c e];exact Bool.false_ne_true)⟩
     ·obtain⟨v,ev,rb⟩:=E9.val j b e
      exact⟨v,ev,EH2 j b e v ev rb⟩
     ·rw[aU (d9 e hD)];exact E9.base c o e
    |l _=>cases e4
    |o _=>cases e4
    |n _=>cases e4
    |m _ _=>cases e4
  ·have hge:ds.length<=i:=by omega
   rw[List.drop_eq_nil_of_le hge] at e4
   cases e4
   refine wpAny_bind (wpAny_standAt (wpAny_bind ?_))
   have T4:=T.done X' Ni Nj Iz hXc i [] s4 σ4 H4 (notedBy (model X.prog X.w) X.A (compEnvC scope cl s3.heap.objs.size X.env) fun e s'=>RR (.ref s2.heap.objs.size) s3.heap.objs.size (.error e) s') I4 (hfC fr4) st4 (y2 hge)
   rw[Ry] at T4
   refine j6 T4 fun r s5 ⟨hr,I5⟩=>?_
   subst hr
   refine wpAny_pure ?_
   have IB:L2.Inv X pins σ H4 s5:=I3.call' (ch:=fp) (by have:=I5.os;rw[<-hX'] at this;exact this) (by have:=I5.base;rw[<-hX'] at this;exact this) (by have:=I5.hok;rw[Ni,Nj] at this;exact this) I5.bare fun b hb=>by
    obtain⟨f0,f1,f2,f3,f4,f5⟩:=Yi b hb
    exact⟨f3,f1,f4,f5⟩
   have hC:H4 s3.heap.objs.size=none:=by have:=I5.free;rw[Nh] at this;exact this
   refine hRR _ _ s5 H4 us hD IB (I3.Q9 (Nat.le_refl _) hC) ?_ E4.base hD4 (by rw[List.append_nil] at ho;rw[<-ho];exact r4)
   obtain⟨m,hn,_⟩:=I5.loc
   rw[Nh] at hn
   exact⟨m,hn⟩
 exact codeAny_compStart_list (loop _ rfl) (T.self _ 0 _ _ _ st1 (loop _ rfl))
end
def iC (K:PySem.W.Frag) (f:Ev->Option (List Dt)):TI:=fun σ H R=>∃ H0 ρ ds,cQ K H0 H σ ρ/\f ρ=some ds/\∀ J H',Same H H'->Yields K J ds H'->R J H'
def PIC (X:Cx) (tg iter:Expr) (f:Ev->Option (List Dt)):Prop:=PI X tg iter (iC X.K f)
def UG:Bx->Option (List Dt)
 |.z (.lst ds)=>some ds
 |.z (.tup ds)=>some ds
 |.z (.str x)=>some (signs x)
 |.o ds=>some ds
 |.l ds=>some ds
 |_=>none
section
variable {X:Cx} {e elt tgt iter:Expr} {es ifs:List Expr} {f:Ev->Option Bx} {fs:Ev->Option (List Bx)} {scope:Scope} {cl:List (Str×Addr)} {pos:Pos} {xs ts:List Str} {is:List Nat} {gt:Dt->Ev->Option Ev} {p:Ev->Option Bool} {fe:Ev->Option Bx} {fi:Ev->Option (List Dt)}
theorem abV (h:PIF X tgt iter fi):PIC X tgt iter fi:=fun pins s σ H R I q=>by
 obtain⟨H0,ρ,ds,E,e,q⟩:=q
 exact h pins s σ H R I ⟨H0,ρ,ds,E,e,fun J H' s' y=>q J H' s' (y H' (Same.refl H') (fun _ _=>rfl) (fun _ _ _ _=>rfl) fun _ _ _=>rfl)⟩
theorem Yk (h:PV X e f):PIC X tgt e (fun ρ=>(f ρ).bind UG):=fun pins s σ H R I q=>by
 refine NT h pins s σ H R I ?_
 obtain⟨H0,ρ,ds,E,e,q⟩:=q
 obtain⟨b,eb,e⟩:=bind_some e
 refine⟨H0,ρ,b,E,eb,fun v H1 s1 n1 r1=>?_⟩
 cases b with
 |z d=>
  cases d with
  |tup ds'=>
   cases e
   simp only[bN,Rep] at r1
   obtain⟨a,vs,rfl,hq,rs⟩:=r1
   exact .inr (.inl ⟨a,rfl,⟨vs,hq⟩,q _ _ s1 (.tup hq rs)⟩)
  |lst ds'=>
   cases e
   obtain⟨a,vs,rfl,hq,rs⟩:=r1.Hf rfl
   exact .inl ⟨a,rfl,⟨vs,hq⟩,q _ _ s1 (.list hq rs)⟩
  |str x=>
   cases e
   simp only[bN,Rep] at r1
   obtain⟨rfl,_⟩:=r1
   exact .inr (.inr ⟨x,rfl,q _ _ s1 (.str x)⟩)
  |_=>cases e
 |l ds'=>
  cases e
  obtain⟨a,vs,rfl,hq,rs⟩:=r1.Hf rfl
  exact .inl ⟨a,rfl,⟨vs,hq⟩,q _ _ s1 (.list hq rs)⟩
 |o ds'=>
  cases e
  obtain⟨a,vs,rfl,hq,rs⟩:=r1.Hf rfl
  exact .inl ⟨a,rfl,⟨vs,hq⟩,q _ _ s1 (.list hq rs)⟩
 |n _=>cases e
 |m _ _=>cases e
def dU (fi:Ev->Option (List Dt)) (gt:Dt->Ev->Option Ev) (p:Ev->Option Bool) (fe:Ev->Option Bx) (is:List Nat) (n:Nat):Ev->Option Bx:=fun ρ=>(fi ρ).bind fun ds=>
 if ds.length<=100000 then (oh gt p fe (gR is ρ++List.replicate n none) ds).bind fun out=>some (.o out) else none
structure wV (X:Cx) (scope:Scope) (cl:List (Str×Addr)) (xs:List Str) (is:List Nat):Prop where
 clos:closureFor scope X.env=pure cl
 kind:scope.kind=.function
 cell:∀ y∈scope.names,y.2≠.cell
 names:∀ y∈scope.names,y.2=.local->scope.names.lookup y.1=some .local
 sub:SubL X.env.cells cl
 has:∀ x,((relabel scope X.env).names.lookup x=some .cell\/(relabel scope X.env).names.lookup x=some .free)->∃ c,cl.lookup x=some c
 cap:Ar X scope cl xs is
theorem Yl (ts:List Str) (O:wV X scope cl xs is) (hcalm:X.calm=true) (hi:PIC X tgt iter fi)
  (Kq:∀ C s₀ H₀ fp,Rx (wU X (xs++ts) scope cl C s₀ H₀ fp) tgt gt) (hif:∀ C s₀ H₀ fp,Tests (wU X (xs++ts) scope cl C s₀ H₀ fp) ifs p) (helt:∀ C s₀ H₀ fp,PV (wU X (xs++ts) scope cl C s₀ H₀ fp) elt fe) (htk:Uw is.length gt)
  (hs:∀ x,foldedSetIterable iter X.env x=pure x:=by intro _;rfl):PV X (.ListComp elt [⟨tgt,iter,ifs,0⟩] scope pos) (dU fi gt p fe is ts.length):=fun pins s σ H Q I h=>by
 obtain⟨H0,ρ,b,E,e,q⟩:=h
 obtain⟨ds,ed,e⟩:=bind_some e
 split at e
 ·rename_i hlen
  obtain⟨out,eo,e⟩:=bind_some e
  cases e
  rw[eval_ListComp]
  refine wpAny_comprehension_free (use:=none) rfl hs O.clos O.kind O.names ?_
  refine j6 (hi pins s σ H (fun J H'=>Same H H'/\Yields X.K J ds H') I ⟨H0,ρ,ds,E,ed,fun J H' s' y=>⟨s',y⟩⟩) fun v s1 h1=>j6 h1 fun itv s2 h2=>?_
  obtain⟨it,fp,tn,J,H2,rfl,I2,T,st,hf,s12,Y⟩:=h2
  refine xZ (RR:=fun acc C=>compPost (model X.prog X.w) X.A X.xe none (EP X pins σ Q) acc C) (ts:=ts) (xs:=xs) (H:=H) O.kind O.cell hcalm O.sub O.has O.cap Kq hif helt htk I2 ((E.grow s12).caps is ts.length) T st hf Y hlen eo ?_
  intro D C s' H' us hD I' fC ⟨m,hn⟩ s2' hD' r'
  refine⟨m,hn,fun h' sb=>⟨.ref D,H',?_,rfl,q _ _ (s12.trans s2') (fun a ea=>by cases ea;exact s12.free hD) ⟨D,us,rfl,hD',r'⟩⟩⟩
  obtain⟨f0,f1,f2,f3,f4,f5⟩:=fC
  exact I'.turned (t':=s'.toks) (fun b o hb e=>(sb.2 b hb).trans e) f0 f1 f3 f4 f5
 ·cases e
theorem Ym (i:Nat) {y:Str} {py spos:Pos} (ts:List Str) (O:wV X scope cl xs is) (hcalm:X.calm=true) (hN:X.N.Nodup) (hi:PIC X tgt iter fi)
  (Kq:∀ C s₀ H₀ fp,Rx (wU X (xs++ts) scope cl C s₀ H₀ fp) tgt gt) (hif:∀ C s₀ H₀ fp,Tests (wU X (xs++ts) scope cl C s₀ H₀ fp) ifs p) (helt:∀ C s₀ H₀ fp,PV (wU X (xs++ts) scope cl C s₀ H₀ fp) elt fe) (htk:Uw is.length gt)
  (hsw:swapsWith (.ListComp elt [⟨tgt,iter,ifs,0⟩] scope pos) (some (.Name y py)) spos.line X.env=pure true:=by with_unfolding_all rfl)
  (hy:X.N[i]?=some y:=by rfl) (hx:Loc X.env.scope y:=by first|exact Or.inl rfl|exact Or.inr rfl)
  (hf:X.fn y=true\/X.env.scope.names.lookup y=some .local:=by first|exact .inl rfl|exact .inr rfl)
  (hs:∀ x,foldedSetIterable iter X.env x=pure x:=by intro _;rfl):Rv X (.Assign [.Name y py] (.ListComp elt [⟨tgt,iter,ifs,0⟩] scope pos) spos) (fun ρ=>(dU fi gt p fe is ts.length ρ).bind fun b=>(NQ ρ i b).bind fun ρ'=>some (.nx ρ')):=fun pins s σ H D I h=>by
 obtain⟨H0,ρ,r,E,e,q⟩:=h
 obtain⟨b,eb,e⟩:=bind_some e
 obtain⟨ds,ed,eb⟩:=bind_some eb
 split at eb
 ·rename_i hlen
  obtain⟨out,eo,eb⟩:=bind_some eb
  cases eb
  cases e
  rw[exec_Assign_Name_used _ _ _ _ hsw]
  refine wpAny_bind (wpAny_standAt (wpAny_bind ?_))
  show wpAny _ X.A (do let _ <-comprehension (.ListComp elt [⟨tgt,iter,ifs,0⟩] scope pos) scope X.env _ (newList []) false (eval iter X.env) (some (assign (.Name y py) X.env))) _ _ s
  refine wpAny_bind (wpAny_mono (wpAny_comprehension_free (use:=some (assign (.Name y py) X.env)) (Q:=fun _ s'=>SP X pins D .next s') rfl hs O.clos O.kind O.names ?_) (fun _ s' hq=>wpAny_pure (wpAny_pure hq)) fun _ _ e=>e)
  refine j6 (hi pins s σ H (fun J H'=>Same H H'/\Yields X.K J ds H') I ⟨H0,ρ,ds,E,ed,fun J H' s' y=>⟨s',y⟩⟩) fun v s1 h1=>j6 h1 fun itv s2 h2=>?_
  obtain⟨it,fp,tn,J,H2,rfl,I2,T,st,hf',s12,Y⟩:=h2
  refine xZ (RR:=fun acc C=>compPost (model X.prog X.w) X.A X.xe (some (assign (.Name y py) X.env)) (fun _ s'=>SP X pins D .next s') acc C) (ts:=ts) (xs:=xs) (H:=H) O.kind O.cell hcalm O.sub O.has O.cap Kq hif helt htk I2 ((E.grow s12).caps is ts.length) T st hf' Y hlen eo ?_
  intro Da C s' H' us hD I' fC ⟨m,hn⟩ s2' hD' r'
  show wpAny _ X.A (assign (.Name y py) X.env (.ref Da)) _ _ s'
  obtain⟨f0,f1,f2,f3,f4,f5⟩:=fC
  obtain⟨oC,es',ep,hoC,hdC,hrest⟩:=id hn
  have I'':L2.Inv X (pins++[(C,oC)]) σ H' s':=I'.Ih fun pp hp=>by
   rcases List.mem_append.mp hp with z|z
   ·exact I'.pin pp (List.mem_append_right _ z)
   ·have:pp=(C,oC):=by simpa using z
    subst this
    exact⟨hoC,f0,f1,f2,fun v z=>by rw[hdC] at z;cases z⟩
  refine j6 (L2.Pz hN hy hx hf (pins++[(C,oC)]) s' σ H' (.ref Da) (.ref Da) (fun σ' H''=>σ'=σ.set i (some (.ref Da))/\H''=H') I'' rfl ⟨rfl,rfl⟩) fun _ s'' ⟨σ',H'',J',e1,e2⟩=>?_
  subst e1 e2
  have hC':=(J'.pin (C,oC) (by simp)).1
  refine⟨m,⟨oC,es',ep,hC',hdC,hrest⟩,fun h' sb=>?_⟩
  refine⟨σ.set i (some (.ref Da)),H'',J'.qm.turned (t':=s''.toks) (fun b o hb e=>(sb.2 b hb).trans e) f0 f1 f3 f4 f5,q _ _ ?_⟩
  exact E.set (s12.trans s2') (b:=.o out) ⟨Da,us,rfl,hD',r'⟩ (.inl rfl) fun a ea=>by cases ea;exact s12.free hD
 ·cases eb
def lend:Bx->Bx
 |.o ds=>.l ds
 |.m ds _=>.n ds
 |b=>b
def isO:Bx->Bool
 |.o _=>true
 |.m _ _=>true
 |_=>false
def qx (K:PySem.W.Frag) (n:Nat) (F:List Bx->Option Bx):Sp:=fun vs H Q _=>vs.length=n/\∃ bs r,n8 K H bs vs/\bs.all (fun b=>!isO b)=true/\F bs=some r/\∀ v H',Same H H'->Nw H r v->bN K H' r v->Q v H'
def kO (n:Nat) (g:Ev->Option Out):List Bx->Option Bx:=fun bs=>(g (bs.map some++List.replicate (n - bs.length) none)).bind fun r=>match r with
 |.rt b=>some b
 |.nx _=>some (.z .non)
 |_=>none
theorem cQ.start {K:PySem.W.Frag} {H:Hp} {N:List Str} {bs:List Bx} {vs:List V} (r:n8 K H bs vs) (ho:bs.all (fun b=>!isO b)=true):cQ K H H (L2.start N vs) (bs.map some++List.replicate (N.length - bs.length) none):=by
 have hl:bs.length=vs.length:=Paired.length r
 have get:∀ (i:Nat) b,(bs.map some++List.replicate (N.length - bs.length) none)[i]?=some (some b)->bs[i]?=some b:=fun i b e=>by
  by_cases hi:i < bs.length
  ·rw[List.getElem?_append_left (by simpa using hi),List.getElem?_map] at e
   cases q:bs[i]? with
   |none=>rw[q] at e;cases e
   |some b'=>rw[q] at e;simpa using e
  ·rw[List.getElem?_append_right (by simp;omega),List.getElem?_replicate] at e
   split at e<;>cases e
 have Hg:∀ (i:Nat) c,(bs.map some++List.replicate (N.length - bs.length) none)[i]?=some (some c)->uD c=true->False:=fun i c e ec=>by
  have:=List.all_eq_true.mp ho _ (List.mem_of_getElem? (get i _ e))
  cases c with
  |o ds=>cases this
  |m ds _=>cases this
  |_=>cases ec
 refine⟨?_,fun i b e=>?_,fun i j c a b e ec=>(Hg i c e ec).elim,Same.refl H,fun i c a e ec=>(Hg i c e ec).elim⟩
 ·unfold L2.start
  simp[hl]
 ·have e':=get i b e
  have hi:i < bs.length:=(List.getElem?_eq_some_iff.mp e').1
  have:∀ {bs:List Bx} {vs:List V} {i:Nat} {b:Bx},Paired (bN K H) bs vs->bs[i]?=some b->∃ v,vs[i]?=some v/\bN K H b v:=by
   intro bs vs i b r
   induction r generalizing i with
   |nil=>intro e;simp at e
   |cons p t ih=>
    intro e
    cases i with
    |zero=>simp at e;subst e;exact⟨_,rfl,p⟩
    |succ i=>obtain⟨v,e1,e2⟩:=ih (i:=i) (by simpa using e);exact⟨v,by simpa using e1,e2⟩
  obtain⟨v,e1,e2⟩:=this r e'
  refine⟨v,?_,e2⟩
  unfold L2.start
  rw[List.getElem?_append_left (by simp;omega),List.getElem?_map,e1]
  rfl
end
section
variable {P:Program} {w:World} {K:PySem.W.Frag} {mg:Str->Option Value} {base:Heap}
theorem af4 {x qual:Str} {st:Stmt} {f:Addr} {fd:FuncData} {N ps:List Str} {k:Nat} {g:Ev->Option Out} (F:Bw K x qual st f fd) (S:fB N ps (aW st))
  (hbody:∀ (cdv:Value) (A:Around) (outer:List Env) (s:Shared) (H:Hp) (E:XK),kJ k (A.deeper (envOfC qual (aW st) s.heap.objs.size f cdv))->GQ (Fz nC P w K mg base N qual (aW st) f cdv A outer s H E).Te (dO st) g) :
  fG P w K mg base nC (k+1) f fd ps (qx K ps.length (kO N.length g)):=by
 refine F.ok S (fun vs H Q E h=>h.1) fun cdv A outer s H vs Q E hr h=>?_
 obtain⟨hl,bs,r,rb,ho,e,q⟩:=h
 refine⟨_,hbody cdv A outer s H E hr,?_⟩
 obtain⟨r',er,e⟩:=bind_some e
 refine⟨H,_,r',cQ.start rb ho,er,?_⟩
 cases r' with
 |rt b=>cases e;exact fun v H' s' n' r'=>q v H' s' n' r'
 |nx ρ=>cases e;exact fun σ H' E'=>q _ H' E'.base trivial (by unfold bN Rep;rfl)
 |bk ρ=>cases e
 |ct ρ=>cases e
end
section
variable {X:Cx} {k:Nat} {f:Addr} {fd:FuncData} {ps:List Str} {F:List Bx->Option Bx} {x:Str} {p pos:Pos} {e:Expr} {es:List Expr} {fs:Ev->Option (List Bx)} {n:Nat}
theorem K3 {K:PySem.W.Frag} {H:Hp}:∀ {bs:List Bx} {vs:List V},n8 K H bs vs->n8 K H (bs.map lend) vs
 |_,_,.nil=>.nil
 |b::bs,_,.cons h t=>by
  refine .cons ?_ (K3 t)
  cases b with
  |z d=>exact h
  |l ds=>exact h
  |o ds=>obtain⟨a,vs,e,q,r⟩:=h;exact⟨a,vs,e,.inl q,r⟩
  |n ds=>exact h
  |m ds _=>obtain⟨a,vs,e,q,r⟩:=h;exact⟨a,vs,e,.inl q,r.1⟩
theorem Qa:∀ bs:List Bx,(bs.map lend).all (fun b=>!isO b)=true
 |[]=>rfl
 |b::bs=>by
  rw[List.map_cons,List.all_cons,Qa bs]
  cases b<;>rfl
def fL (n:Nat) (F:List Bx->Option Bx) (fs:Ev->Option (List Bx)):Ev->Option Bx:=fun ρ=>(fs ρ).bind fun bs=>if bs.length=n then F (bs.map lend) else none
theorem Yn (G:fG X.prog X.w X.K X.mg X.base nC k f fd ps (qx X.K n F)) (hr:kJ k X.A) (hg:Gl X x) (hm:X.mg x=some (.ref f)) (hk:PySem.W.keepIn X.K (.ref f)=true) (hb:Binds X.K fd ps [])
  (ha:Ud X (e::es) fs) (hdb:(x==("__debug__" : Str))=false:=by decide) (he:starEach (e::es) X.env=(false,eval e X.env)::starEach es X.env:=by rfl) (hpl:(backTo pos (starEach es X.env)).any (·.1)=false:=by rfl) :
  PV X (.Call (.Name x p) (e::es) [] pos) (fL n F fs):=Ng (PL G hr hg hm hk hb .nil (Z7) ha hdb he hpl) fun σ H Q h=>by
 obtain⟨H0,ρ,r,E,e,q⟩:=h
 obtain⟨bs,eb,e⟩:=bind_some e
 refine⟨H0,ρ,bs,E,eb,fun vs H1 s1 r1=>?_⟩
 split at e
 ·rename_i hn
  rw[List.append_nil]
  exact⟨by rw[<-Paired.length r1];exact hn,_,r,K3 r1,Qa bs,e,fun v H2 s2 n2 r2=>q v H2 (s1.trans s2) (n2.old s1) r2⟩
 ·cases e
end
end P1
end
section
namespace P1
open PySem PySem.Spec PyProof.Rows L2 SeqAt
mutual
def sO:Dt->Nat
 |.tup xs=>uI xs+1
 |.lst xs=>uI xs+1
 |_=>1
def uI:List Dt->Nat
 |[]=>0
 |d::ds=>max (sO d) (uI ds)
end
mutual
def bY:Dt->Dt->Option Bool
 |.non,.non=>some true
 |.non,.bl _=>some false|.non,.int _=>some false|.non,.str _=>some false|.non,.tup _=>some false|.non,.lst _=>some false
 |.bl a,.bl b=>some (a==b)
 |.bl a,.int b=>some ((if a then 1 else 0)==b)
 |.bl _,.non=>some false|.bl _,.str _=>some false|.bl _,.tup _=>some false|.bl _,.lst _=>some false
 |.int a,.int b=>some (a==b)
 |.int a,.bl b=>some (a==(if b then 1 else 0))
 |.int _,.non=>some false|.int _,.str _=>some false|.int _,.tup _=>some false|.int _,.lst _=>some false
 |.str a,.str b=>some (a==b)
 |.str _,.non=>some false|.str _,.bl _=>some false|.str _,.int _=>some false|.str _,.tup _=>some false|.str _,.lst _=>some false
 |.tup xs,.tup ys=>pF xs ys
 |.tup _,.non=>some false|.tup _,.bl _=>some false|.tup _,.int _=>some false|.tup _,.str _=>some false|.tup _,.lst _=>some false
 |.lst xs,.lst ys=>pF xs ys
 |.lst _,.non=>some false|.lst _,.bl _=>some false|.lst _,.int _=>some false|.lst _,.str _=>some false|.lst _,.tup _=>some false
 |_,_=>none
def pF:List Dt->List Dt->Option Bool
 |[],[]=>some true
 |[],_::_=>some false
 |_::_,[]=>some false
 |x::xs,y::ys=>match bY x y with
  |some b=>match pF xs ys with
   |some c=>some (b&&c)
   |none=>none
  |none=>none
end
mutual
theorem K4:∀ {d:Dt} {k:Bool},bY d d=some k->k=true
 |.non,_,e=>by simp only[bY] at e;cases e;rfl
 |.bl b,_,e=>by simp only[bY] at e;cases e;simp
 |.int b,_,e=>by simp only[bY] at e;cases e;simp
 |.str b,_,e=>by simp only[bY] at e;cases e;simp
 |.tup xs,_,e=>by simp only[bY] at e;exact zj e
 |.lst xs,_,e=>by simp only[bY] at e;exact zj e
 |.emp,_,e=>by simp only[bY] at e;cases e
theorem zj:∀ {ds:List Dt} {k:Bool},pF ds ds=some k->k=true
 |[],_,e=>by simp only[pF] at e;cases e;rfl
 |d::ds,_,e=>by
  simp only[pF] at e
  cases h:bY d d with
  |none=>rw[h] at e;cases e
  |some b=>
   rw[h] at e
   simp only at e
   cases h2:pF ds ds with
   |none=>rw[h2] at e;cases e
   |some c=>
    rw[h2] at e
    cases e
    rw[K4 h,zj h2]
    rfl
end
theorem oX:∀ {xs ys:List Dt} {k:Bool},pF xs ys=some k->∃ e:Nat->Bool,(∀ (j:Nat) x y,xs[j]?=some x->ys[j]?=some y->bY x y=some (e j))/\k=((List.range (min xs.length ys.length)).all e&&xs.length==ys.length)
 |[],[],k,h=>by simp only[pF] at h;cases h;exact⟨fun _=>true,fun j x y e=>by simp at e,by simp⟩
 |[],y::ys,k,h=>by simp only[pF] at h;cases h;exact⟨fun _=>true,fun j x y e=>by simp at e,by simp⟩
 |x::xs,[],k,h=>by simp only[pF] at h;cases h;exact⟨fun _=>true,fun j x y _ e=>by simp at e,by simp⟩
 |x::xs,y::ys,k,h=>by
  simp only[pF] at h
  cases h1:bY x y with
  |none=>rw[h1] at h;cases h
  |some b=>
   rw[h1] at h
   simp only at h
   cases h2:pF xs ys with
   |none=>rw[h2] at h;cases h
   |some c=>
    rw[h2] at h
    cases h
    obtain⟨e,g,hc⟩:=oX h2
    refine⟨fun j=>match j with|0=>b|j+1=>e j,fun j u v eu ev=>?_,?_⟩
    ·cases j with
     |zero=>simp at eu ev;subst eu ev;exact h1
     |succ j=>exact g j u v (by simpa using eu) (by simpa using ev)
    ·have:min (x::xs).length (y::ys).length=min xs.length ys.length+1:=by simp only[List.length_cons];omega
     rw[this,List.range_succ_eq_map,List.all_cons,List.all_map,hc]
     have hb:((x::xs).length==(y::ys).length)=(xs.length==ys.length):=by
      rw[Bool.eq_iff_iff];simp
     rw[hb,Bool.and_assoc]
     rfl
theorem uJ:∀ {ds:List Dt} {j:Nat} {d:Dt},ds[j]?=some d->sO d<=uI ds
 |[],_,_,e=>by simp at e
 |d::ds,0,_,e=>by simp at e;subst e;simp only[uI];exact Nat.le_max_left _ _
 |d::ds,j+1,_,e=>by
  simp only[uI]
  exact Nat.le_trans (uJ (ds:=ds) (j:=j) (by simpa using e)) (Nat.le_max_right _ _)
section
variable {X:Cx} {pins:List (Addr×Obj)} {σ:L2.St} {H:Hp} {s:Shared}
theorem BJ (I:L2.Inv X pins σ H s) {a:Addr} {vs:List V} (h:wD X.K H a vs):∃ ob,s.heap.get? a=some ob/\ob.cls=.type "tuple" := by
 obtain⟨its,_,⟨ob,e,c,_⟩,_⟩:=I.tuple h
 exact⟨ob,e,c⟩
theorem BK (I:L2.Inv X pins σ H s) {a:Addr} {vs:List V} (h:uz X.K H a vs):∃ ob,s.heap.get? a=some ob/\ob.cls=.type "list" := by
 obtain⟨its,_,⟨ob,n,e,c,_⟩,_⟩:=I.list h
 exact⟨ob,e,c⟩
theorem BL (I:L2.Inv X pins σ H s) {a:Addr} {o:Obj} (h:H a=some (.q9 o (.dK []))):∃ ob,s.heap.get? a=some ob/\ob.cls=.type "dict" := by
 obtain⟨e,_,_,vs,_,ob,es,ep,e2,ex,_⟩:=I.hok a _ h
 exact⟨ob,e2,ex.1⟩
theorem zm {a:Addr} {n m:String} (h:∃ ob,s.heap.get? a=some ob/\ob.cls=.type n) (q:∃ ob,s.heap.get? a=some ob/\ob.cls=.type m) (hn:n≠m):False:=by
 obtain⟨o,e,c⟩:=h
 obtain⟨o',e',c'⟩:=q
 rw[e] at e';cases e'
 rw[c] at c'
 exact hn (by injection c')
mutual
theorem Rep.inj (I:L2.Inv X pins σ H s):∀ {d e:Dt} {v:V},Rep X.K H d v->Rep X.K H e v->d=e
 |.non,e,v,h,q=>by
  simp only[Rep] at h;subst h
  cases e<;>simp only[Rep] at q<;>first|rfl|(cases q;done)|(obtain⟨a,b,z,_⟩:=q;cases z;done)|(obtain⟨z,_⟩:=q;cases z;done)
 |.bl _,e,v,h,q=>by
  simp only[Rep] at h;subst h
  cases e<;>simp only[Rep] at q<;>first|(cases q;rfl)|(cases q;done)|(obtain⟨a,b,z,_⟩:=q;cases z;done)|(obtain⟨z,_⟩:=q;cases z;done)
 |.int _,e,v,h,q=>by
  simp only[Rep] at h;subst h
  cases e<;>simp only[Rep] at q<;>first|(cases q;rfl)|(cases q;done)|(obtain⟨a,b,z,_⟩:=q;cases z;done)|(obtain⟨z,_⟩:=q;cases z;done)
 |.str x,e,v,h,q=>by
  simp only[Rep] at h
  have hv:v=.str x:=h.1
  subst hv
  cases e with
  |str y=>
   simp only[Rep] at q
   have z:V.str x=V.str y:=q.1
   injection z with z
   rw[z]
  |tup es=>simp only[Rep] at q;obtain⟨a,b,z,_⟩:=q;cases z
  |lst es=>simp only[Rep] at q;obtain⟨a,b,z,_⟩:=q;cases z
  |emp=>simp only[Rep] at q;obtain⟨a,b,z,_⟩:=q;cases z
  |_=>simp only[Rep] at q;cases q
 |.tup ds,e,v,h,q=>by
  simp only[Rep] at h
  obtain⟨a,vs,rfl,sq,r⟩:=h
  cases e with
  |tup es=>
   simp only[Rep] at q
   obtain⟨b,us,z,NZ,r'⟩:=q
   cases z
   have:=I.GP sq NZ
   subst this
   rw[aO.inj I r r']
  |lst es=>
   simp only[Rep] at q
   obtain⟨b,us,z,NZ,r'⟩:=q
   cases z
   exact (zm (BJ I sq) (BK I NZ.sq) (by decide)).elim
  |emp=>
   simp only[Rep] at q
   obtain⟨b,o,z,NZ⟩:=q
   cases z
   exact (zm (BJ I sq) (BL I NZ) (by decide)).elim
  |str x=>simp only[Rep] at q;have z:=q.1;cases z
  |_=>simp only[Rep] at q;cases q
 |.lst ds,e,v,h,q=>by
  simp only[Rep] at h
  obtain⟨a,vs,rfl,sq,r⟩:=h
  cases e with
  |lst es=>
   simp only[Rep] at q
   obtain⟨b,us,z,NZ,r'⟩:=q
   cases z
   have:=I.Kw sq.sq NZ.sq
   subst this
   rw[aO.inj I r r']
  |tup es=>
   simp only[Rep] at q
   obtain⟨b,us,z,NZ,r'⟩:=q
   cases z
   exact (zm (BK I sq.sq) (BJ I NZ) (by decide)).elim
  |emp=>
   simp only[Rep] at q
   obtain⟨b,o,z,NZ⟩:=q
   cases z
   exact (zm (BK I sq.sq) (BL I NZ) (by decide)).elim
  |str x=>simp only[Rep] at q;have z:=q.1;cases z
  |_=>simp only[Rep] at q;cases q
 |.emp,e,v,h,q=>by
  simp only[Rep] at h
  obtain⟨a,o,rfl,sq⟩:=h
  cases e with
  |emp=>rfl
  |tup es=>
   simp only[Rep] at q
   obtain⟨b,us,z,NZ,r'⟩:=q
   cases z
   exact (zm (BL I sq) (BJ I NZ) (by decide)).elim
  |lst es=>
   simp only[Rep] at q
   obtain⟨b,us,z,NZ,r'⟩:=q
   cases z
   exact (zm (BL I sq) (BK I NZ.sq) (by decide)).elim
  |str x=>simp only[Rep] at q;have z:=q.1;cases z
  |_=>simp only[Rep] at q;cases q
theorem aO.inj (I:L2.Inv X pins σ H s):∀ {ds es:List Dt} {vs:List V},aO X.K H ds vs->aO X.K H es vs->ds=es
 |[],es,vs,h,q=>by
  simp only[aO] at h;subst h
  cases es with
  |nil=>rfl
  |cons e es=>simp only[aO] at q;obtain⟨_,_,z,_⟩:=q;cases z
 |d::ds,es,vs,h,q=>by
  simp only[aO] at h
  obtain⟨v,r,rfl,h1,h2⟩:=h
  cases es with
  |nil=>simp only[aO] at q;cases q
  |cons e es=>
   simp only[aO] at q
   obtain⟨v',r',z,q1,q2⟩:=q
   cases z
   rw[Rep.inj I h1 q1,aO.inj I h2 q2]
end
theorem UJ (I:L2.Inv X pins σ H s):∀ (n:Nat) {A:Around} {d e:Dt} {x y:V} {u v:Value} {k:Bool},min (sO d) (sO e)<=n->A.units+n < cLine->Rep X.K H d x->Rep X.K H e y->RelV x u->RelV y v->bY d e=some k->EqAt A s u v k:=by
 intro n
 induction n with
 |zero=>
  intro A d e x y u v k hn
  have h1:1<=sO d:=by cases d<;>simp only[sO]<;>omega
  have h2:1<=sO e:=by cases e<;>simp only[sO]<;>omega
  omega
 |succ n ih=>
  intro A d e x y u v k hn hA rd re ru rv ek
  have hu:A.units < cLine:=by omega
  by_cases hxy:u=v/\∃ a,u=.ref a
  ·obtain⟨rfl,a,rfl⟩:=hxy
   have hx:x=.ref a:=by have:=ru.abs;simpa [aaO] using this.symm
   have hy:y=.ref a:=by have:=rv.abs;simpa [aaO] using this.symm
   subst hx hy
   have:=Rep.inj I rd re
   subst this
   rw[K4 ek]
   exact EqAt.same _
  ·have items:∀ {ds es:List Dt} {vs us:List V} {its its2:List Value} {f:Nat->Bool},min (uI ds) (uI es)<=n->aO X.K H ds vs->aO X.K H es us->Vals vs its->Vals us its2->(∀ (j:Nat) x y,ds[j]?=some x->es[j]?=some y->bY x y=some (f j)) →
     ∀ j (h1:j < its.toArray.size) (h2:j < its2.toArray.size),EqAt A.in1 s its.toArray[j] its2.toArray[j] (f j):=by
    intro ds es vs us its its2 f hm r1 r2 w1 w2 hf j h1 h2
    have l1:=w1.length
    have l2:=w2.length
    have l3:=r1.length
    have l4:=r2.length
    have j1:j < its.length:=by simpa using h1
    have j2:j < its2.length:=by simpa using h2
    have d1:ds[j]?=some ds[j]:=by simp
    have d2:es[j]?=some es[j]:=by simp
    obtain⟨a,ea,ra⟩:=r1.get d1
    obtain⟨b,eb,rb⟩:=r2.get d2
    obtain⟨p,ep,rp⟩:=w1.get ea
    obtain⟨q,eq,rq⟩:=w2.get eb
    have e1:its.toArray[j]=p:=by simpa [j1] using ep
    have e2:its2.toArray[j]=q:=by simpa [j2] using eq
    rw[e1,e2]
    have m1:=uJ d1
    have m2:=uJ d2
    exact ih (by omega) (by rw[units_in1];omega) ra rb rp rq (hf j _ _ d1 d2)
   cases d with
   |non=>
    simp only[Rep] at rd;subst rd;cases ru
    cases e with
    |non=>simp only[Rep] at re;subst re;cases rv;simp only[bY] at ek;cases ek;exact EqAt.same _
    |bl b=>simp only[Rep] at re;subst re;cases rv;simp only[bY] at ek;cases ek;exact EqAt.none_bool b
    |int b=>simp only[Rep] at re;subst re;obtain⟨t,rfl⟩:=rv;simp only[bY] at ek;cases ek;exact EqAt.none_int b t
    |str b=>simp only[Rep] at re;obtain⟨rfl,_⟩:=re;obtain⟨t,rfl⟩:=rv;simp only[bY] at ek;cases ek;exact EqAt.none_str b t
    |tup es=>simp only[Rep] at re;obtain⟨b,us,rfl,sq,_⟩:=re;cases rv;simp only[bY] at ek;cases ek;obtain⟨_,_,p,_⟩:=I.tuple sq;exact EqAt.none_tuple p hu
    |lst es=>simp only[Rep] at re;obtain⟨b,us,rfl,sq,_⟩:=re;cases rv;simp only[bY] at ek;cases ek;obtain⟨_,_,p,_⟩:=I.list sq.sq;exact EqAt.none_list p.isList hu
    |emp=>simp only[bY] at ek;cases ek
   |bl a=>
    simp only[Rep] at rd;subst rd;cases ru
    cases e with
    |non=>simp only[Rep] at re;subst re;cases rv;simp only[bY] at ek;cases ek;exact EqAt.bool_none a
    |bl b=>simp only[Rep] at re;subst re;cases rv;simp only[bY] at ek;cases ek;exact EqAt.bool_bool a b
    |int b=>simp only[Rep] at re;subst re;obtain⟨t,rfl⟩:=rv;simp only[bY] at ek;cases ek;exact EqAt.bool_int a b t
    |str b=>simp only[Rep] at re;obtain⟨rfl,_⟩:=re;obtain⟨t,rfl⟩:=rv;simp only[bY] at ek;cases ek;exact EqAt.bool_str a b t
    |tup es=>simp only[Rep] at re;obtain⟨b,us,rfl,sq,_⟩:=re;cases rv;simp only[bY] at ek;cases ek;obtain⟨_,_,p,_⟩:=I.tuple sq;exact EqAt.bool_tuple a p hu
    |lst es=>simp only[Rep] at re;obtain⟨b,us,rfl,sq,_⟩:=re;cases rv;simp only[bY] at ek;cases ek;obtain⟨_,_,p,_⟩:=I.list sq.sq;exact EqAt.bool_list a p.isList hu
    |emp=>simp only[bY] at ek;cases ek
   |int a=>
    simp only[Rep] at rd;subst rd;obtain⟨t',rfl⟩:=ru
    cases e with
    |non=>simp only[Rep] at re;subst re;cases rv;simp only[bY] at ek;cases ek;exact EqAt.int_none a t'
    |bl b=>simp only[Rep] at re;subst re;cases rv;simp only[bY] at ek;cases ek;exact EqAt.int_bool a t' b
    |int b=>simp only[Rep] at re;subst re;obtain⟨t,rfl⟩:=rv;simp only[bY] at ek;cases ek;exact EqAt.int_int a t' b t
    |str b=>simp only[Rep] at re;obtain⟨rfl,_⟩:=re;obtain⟨t,rfl⟩:=rv;simp only[bY] at ek;cases ek;exact EqAt.int_str a t' b t
    |tup es=>simp only[Rep] at re;obtain⟨b,us,rfl,sq,_⟩:=re;cases rv;simp only[bY] at ek;cases ek;obtain⟨_,_,p,_⟩:=I.tuple sq;exact EqAt.int_tuple a t' p hu
    |lst es=>simp only[Rep] at re;obtain⟨b,us,rfl,sq,_⟩:=re;cases rv;simp only[bY] at ek;cases ek;obtain⟨_,_,p,_⟩:=I.list sq.sq;exact EqAt.int_list a t' p.isList hu
    |emp=>simp only[bY] at ek;cases ek
   |str a=>
    simp only[Rep] at rd;obtain⟨rfl,_⟩:=rd;obtain⟨t',rfl⟩:=ru
    cases e with
    |non=>simp only[Rep] at re;subst re;cases rv;simp only[bY] at ek;cases ek;exact EqAt.str_none a t'
    |bl b=>simp only[Rep] at re;subst re;cases rv;simp only[bY] at ek;cases ek;exact EqAt.str_bool a t' b
    |int b=>simp only[Rep] at re;subst re;obtain⟨t,rfl⟩:=rv;simp only[bY] at ek;cases ek;exact EqAt.str_int a t' b t
    |str b=>simp only[Rep] at re;obtain⟨rfl,_⟩:=re;obtain⟨t,rfl⟩:=rv;simp only[bY] at ek;cases ek;exact EqAt.str_str a t' b t
    |tup es=>simp only[Rep] at re;obtain⟨b,us,rfl,sq,_⟩:=re;cases rv;simp only[bY] at ek;cases ek;obtain⟨_,_,p,_⟩:=I.tuple sq;exact EqAt.str_tuple a t' p hu
    |lst es=>simp only[Rep] at re;obtain⟨b,us,rfl,sq,_⟩:=re;cases rv;simp only[bY] at ek;cases ek;obtain⟨_,_,p,_⟩:=I.list sq.sq;exact EqAt.str_list a t' p.isList hu
    |emp=>simp only[bY] at ek;cases ek
   |tup ds=>
    simp only[Rep] at rd;obtain⟨a,vs,rfl,sa,ra⟩:=rd;cases ru
    obtain⟨its,wv,p,_⟩:=I.tuple sa
    cases e with
    |non=>simp only[Rep] at re;subst re;cases rv;simp only[bY] at ek;cases ek;exact EqAt.tuple_none p hu
    |bl b=>simp only[Rep] at re;subst re;cases rv;simp only[bY] at ek;cases ek;exact EqAt.tuple_bool b p hu
    |int b=>simp only[Rep] at re;subst re;obtain⟨t,rfl⟩:=rv;simp only[bY] at ek;cases ek;exact EqAt.tuple_int b t p hu
    |str b=>simp only[Rep] at re;obtain⟨rfl,_⟩:=re;obtain⟨t,rfl⟩:=rv;simp only[bY] at ek;cases ek;exact EqAt.tuple_str b t p hu
    |lst es=>simp only[Rep] at re;obtain⟨b,us,rfl,sq,_⟩:=re;cases rv;simp only[bY] at ek;cases ek;obtain⟨_,_,p2,_⟩:=I.list sq.sq;exact EqAt.tuple_list p p2.isList hu
    |tup es=>
     simp only[Rep] at re;obtain⟨b,us,rfl,sb,rb⟩:=re;cases rv
     obtain⟨its2,wu,p2,_⟩:=I.tuple sb
     simp only[bY] at ek
     obtain⟨f,hf,rfl⟩:=oX ek
     have hne:a≠b:=fun z=>hxy ⟨by rw[z],a,rfl⟩
     have z:=EqAt.of_refs hne (RcAt.tuples (A:=A) (e:=f) p p2 hu (items (by simp only[sO] at hn;omega) ra rb wv wu hf))
     have q1:its.toArray.size=ds.length:=by rw[List.size_toArray,<-wv.length,ra.length]
     have q2:its2.toArray.size=es.length:=by rw[List.size_toArray,<-wu.length,rb.length]
     rw[q1,q2] at z
     exact z
    |emp=>simp only[bY] at ek;cases ek
   |lst ds=>
    simp only[Rep] at rd;obtain⟨a,vs,rfl,sa,ra⟩:=rd;cases ru
    obtain⟨its,wv,p,_⟩:=I.list sa.sq
    cases e with
    |non=>simp only[Rep] at re;subst re;cases rv;simp only[bY] at ek;cases ek;exact EqAt.list_none p.isList hu
    |bl b=>simp only[Rep] at re;subst re;cases rv;simp only[bY] at ek;cases ek;exact EqAt.list_bool b p.isList hu
    |int b=>simp only[Rep] at re;subst re;obtain⟨t,rfl⟩:=rv;simp only[bY] at ek;cases ek;exact EqAt.list_int b t p.isList hu
    |str b=>simp only[Rep] at re;obtain⟨rfl,_⟩:=re;obtain⟨t,rfl⟩:=rv;simp only[bY] at ek;cases ek;exact EqAt.list_str b t p.isList hu
    |tup es=>simp only[Rep] at re;obtain⟨b,us,rfl,sq,_⟩:=re;cases rv;simp only[bY] at ek;cases ek;obtain⟨_,_,p2,_⟩:=I.tuple sq;exact EqAt.list_tuple p.isList p2 hu
    |lst es=>
     simp only[Rep] at re;obtain⟨b,us,rfl,sb,rb⟩:=re;cases rv
     obtain⟨its2,wu,p2,_⟩:=I.list sb.sq
     simp only[bY] at ek
     obtain⟨f,hf,rfl⟩:=oX ek
     have hne:a≠b:=fun z=>hxy ⟨by rw[z],a,rfl⟩
     have q1:its.toArray.size=ds.length:=by rw[List.size_toArray,<-wv.length,ra.length]
     have q2:its2.toArray.size=es.length:=by rw[List.size_toArray,<-wu.length,rb.length]
     by_cases hsz:its.toArray.size=its2.toArray.size
     ·have z:=EqAt.of_refs hne (RcAt.lists (A:=A) (e:=f) p.isList p2.isList hsz hu (items (by simp only[sO] at hn;omega) ra rb wv wu hf))
      have hl:ds.length=es.length:=by omega
      rw[q1] at z
      rw[hl,Nat.min_self,beq_self_eq_true,Bool.and_true,<-hl]
      exact z
     ·have hl:(ds.length==es.length)=false:=by rw[beq_eq_false_iff_ne];omega
      rw[hl,Bool.and_false]
      exact EqAt.of_refs hne (RcAt.lists_lengths p.isList p2.isList (by simpa using hsz) hu)
    |emp=>simp only[bY] at ek;cases ek
   |emp=>simp only[bY] at ek;cases e<;>cases ek
theorem yc (I:L2.Inv X pins σ H s) {n:Nat} {A:Around} {ds es:List Dt} {vs us:List V} {its its2:List Value} {f:Nat->Bool} (hm:min (uI ds) (uI es)<=n) (hA:A.units+n+1 < cLine) (r1:aO X.K H ds vs) (r2:aO X.K H es us) (w1:Vals vs its) (w2:Vals us its2)
  (hf:∀ (j:Nat) x y,ds[j]?=some x->es[j]?=some y->bY x y=some (f j)):∀ j (h1:j < its.toArray.size) (h2:j < its2.toArray.size),EqAt A.in1 s its.toArray[j] its2.toArray[j] (f j):=by
 intro j h1 h2
 have l1:=w1.length
 have l2:=w2.length
 have l3:=r1.length
 have l4:=r2.length
 have j1:j < its.length:=by simpa using h1
 have j2:j < its2.length:=by simpa using h2
 have d1:ds[j]?=some (ds[j]'(by omega)):=by simp
 have d2:es[j]?=some (es[j]'(by omega)):=by simp
 obtain⟨a,ea,ra⟩:=r1.get d1
 obtain⟨b,eb,rb⟩:=r2.get d2
 obtain⟨p,ep,rp⟩:=w1.get ea
 obtain⟨q,eq,rq⟩:=w2.get eb
 have e1:its.toArray[j]=p:=by simpa [j1] using ep
 have e2:its2.toArray[j]=q:=by simpa [j2] using eq
 rw[e1,e2]
 have m1:=uJ d1
 have m2:=uJ d2
 exact UJ I n (by omega) (by rw[units_in1];omega) ra rb rp rq (hf j _ _ d1 d2)
end
def cL (K:PySem.W.Frag) (H:Hp):Dt->V->Prop
 |.lst ds,v=>∃ a vs,v=.ref a/\uz K H a vs/\aO K H ds vs
 |d,v=>Rep K H d v
def wj:Bx->Bool
 |.n _=>true
 |.m _ _=>true
 |_=>false
def toD:Bx->Dt
 |.z d=>d
 |.l ds=>.lst ds
 |.o ds=>.lst ds
 |.n _=>.non
 |.m _ _=>.non
theorem bN.toD {K:PySem.W.Frag} {H:Hp} {b:Bx} {v:V} (h:bN K H b v) (hm:wj b=false):cL K H (toD b) v:=by
 cases b with
 |z d=>
  cases d with
  |lst ds=>exact h.Hf rfl
  |_=>exact h
 |l ds=>exact h.Hf rfl
 |o ds=>exact h.Hf rfl
 |n _=>cases hm
 |m _ _=>cases hm
section
variable {X:Cx} {pins:List (Addr×Obj)} {σ:L2.St} {H:Hp} {s:Shared}
theorem aee (I:L2.Inv X pins σ H s) {d e:Dt} {x y:V} {u v:Value} {k:Bool} {Q:Value->Shared->Prop} (hm:min (sO d) (sO e)<=100) (hA:X.A.units+100 < cLine) (rd:cL X.K H d x) (re:cL X.K H e y) (ru:RelV x u) (rv:RelV y v) (ek:bY d e=some k) (q:Q (.bool k) s) :
  wpAny (model X.prog X.w) X.A (compareOp .Eq u v) Q X.xe s:=by
 have hu:X.A.units < cLine:=by omega
 cases d with
 |non=>
  simp only[cL,Rep] at rd;subst rd;cases ru
  cases e with
  |non=>
   simp only[cL,Rep] at re;subst re;cases rv
   simp only[bY] at ek;cases ek
   exact RcAt.none_none X.prog X.w X.xe _ q
  |bl x2=>
   simp only[cL,Rep] at re;subst re;cases rv
   simp only[bY] at ek;cases ek
   exact RcAt.none_bool x2 X.prog X.w X.xe _ q
  |int x2=>
   simp only[cL,Rep] at re;subst re;obtain⟨t2,rfl⟩:=rv
   simp only[bY] at ek;cases ek
   exact RcAt.none_int x2 t2 X.prog X.w X.xe _ q
  |str x2=>
   simp only[cL,Rep] at re;obtain⟨rfl,_⟩:=re;obtain⟨t2,rfl⟩:=rv
   simp only[bY] at ek;cases ek
   exact RcAt.none_str x2 t2 X.prog X.w X.xe _ q
  |tup x2=>
   simp only[cL,Rep] at re;obtain⟨a2,vs2,rfl,oA,wW⟩:=re;cases rv;obtain⟨its2,w2,p2,_⟩:=I.tuple oA
   simp only[bY] at ek;cases ek
   exact RcAt.none_tuple p2 hu X.prog X.w X.xe _ q
  |lst x2=>
   simp only[cL] at re;obtain⟨a2,vs2,rfl,oA,wW⟩:=re;cases rv;obtain⟨its2,w2,p2,_⟩:=I.list oA
   simp only[bY] at ek;cases ek
   exact RcAt.none_list p2.isList hu X.prog X.w X.xe _ q
  |emp=>simp only[bY] at ek;cases ek
 |bl x1=>
  simp only[cL,Rep] at rd;subst rd;cases ru
  cases e with
  |non=>
   simp only[cL,Rep] at re;subst re;cases rv
   simp only[bY] at ek;cases ek
   exact RcAt.bool_none x1 X.prog X.w X.xe _ q
  |bl x2=>
   simp only[cL,Rep] at re;subst re;cases rv
   simp only[bY] at ek;cases ek
   exact RcAt.bool_bool x1 x2 X.prog X.w X.xe _ q
  |int x2=>
   simp only[cL,Rep] at re;subst re;obtain⟨t2,rfl⟩:=rv
   simp only[bY] at ek;cases ek
   exact RcAt.bool_int x1 x2 t2 X.prog X.w X.xe _ q
  |str x2=>
   simp only[cL,Rep] at re;obtain⟨rfl,_⟩:=re;obtain⟨t2,rfl⟩:=rv
   simp only[bY] at ek;cases ek
   exact RcAt.bool_str x1 x2 t2 X.prog X.w X.xe _ q
  |tup x2=>
   simp only[cL,Rep] at re;obtain⟨a2,vs2,rfl,oA,wW⟩:=re;cases rv;obtain⟨its2,w2,p2,_⟩:=I.tuple oA
   simp only[bY] at ek;cases ek
   exact RcAt.bool_tuple x1 p2 hu X.prog X.w X.xe _ q
  |lst x2=>
   simp only[cL] at re;obtain⟨a2,vs2,rfl,oA,wW⟩:=re;cases rv;obtain⟨its2,w2,p2,_⟩:=I.list oA
   simp only[bY] at ek;cases ek
   exact RcAt.bool_list x1 p2.isList hu X.prog X.w X.xe _ q
  |emp=>simp only[bY] at ek;cases ek
 |int x1=>
  simp only[cL,Rep] at rd;subst rd;obtain⟨t1,rfl⟩:=ru
  cases e with
  |non=>
   simp only[cL,Rep] at re;subst re;cases rv
   simp only[bY] at ek;cases ek
   exact RcAt.int_none x1 t1 X.prog X.w X.xe _ q
  |bl x2=>
   simp only[cL,Rep] at re;subst re;cases rv
   simp only[bY] at ek;cases ek
   exact RcAt.int_bool x1 t1 x2 X.prog X.w X.xe _ q
  |int x2=>
   simp only[cL,Rep] at re;subst re;obtain⟨t2,rfl⟩:=rv
   simp only[bY] at ek;cases ek
   exact RcAt.int_int x1 t1 x2 t2 X.prog X.w X.xe _ q
  |str x2=>
   simp only[cL,Rep] at re;obtain⟨rfl,_⟩:=re;obtain⟨t2,rfl⟩:=rv
   simp only[bY] at ek;cases ek
   exact RcAt.int_str x1 t1 x2 t2 X.prog X.w X.xe _ q
  |tup x2=>
   simp only[cL,Rep] at re;obtain⟨a2,vs2,rfl,oA,wW⟩:=re;cases rv;obtain⟨its2,w2,p2,_⟩:=I.tuple oA
   simp only[bY] at ek;cases ek
   exact RcAt.int_tuple x1 t1 p2 hu X.prog X.w X.xe _ q
  |lst x2=>
   simp only[cL] at re;obtain⟨a2,vs2,rfl,oA,wW⟩:=re;cases rv;obtain⟨its2,w2,p2,_⟩:=I.list oA
   simp only[bY] at ek;cases ek
   exact RcAt.int_list x1 t1 p2.isList hu X.prog X.w X.xe _ q
  |emp=>simp only[bY] at ek;cases ek
 |str x1=>
  simp only[cL,Rep] at rd;obtain⟨rfl,_⟩:=rd;obtain⟨t1,rfl⟩:=ru
  cases e with
  |non=>
   simp only[cL,Rep] at re;subst re;cases rv
   simp only[bY] at ek;cases ek
   exact RcAt.str_none x1 t1 X.prog X.w X.xe _ q
  |bl x2=>
   simp only[cL,Rep] at re;subst re;cases rv
   simp only[bY] at ek;cases ek
   exact RcAt.str_bool x1 t1 x2 X.prog X.w X.xe _ q
  |int x2=>
   simp only[cL,Rep] at re;subst re;obtain⟨t2,rfl⟩:=rv
   simp only[bY] at ek;cases ek
   exact RcAt.str_int x1 t1 x2 t2 X.prog X.w X.xe _ q
  |str x2=>
   simp only[cL,Rep] at re;obtain⟨rfl,_⟩:=re;obtain⟨t2,rfl⟩:=rv
   simp only[bY] at ek;cases ek
   exact RcAt.str_str x1 t1 x2 t2 X.prog X.w X.xe _ q
  |tup x2=>
   simp only[cL,Rep] at re;obtain⟨a2,vs2,rfl,oA,wW⟩:=re;cases rv;obtain⟨its2,w2,p2,_⟩:=I.tuple oA
   simp only[bY] at ek;cases ek
   exact RcAt.str_tuple x1 t1 p2 hu X.prog X.w X.xe _ q
  |lst x2=>
   simp only[cL] at re;obtain⟨a2,vs2,rfl,oA,wW⟩:=re;cases rv;obtain⟨its2,w2,p2,_⟩:=I.list oA
   simp only[bY] at ek;cases ek
   exact RcAt.str_list x1 t1 p2.isList hu X.prog X.w X.xe _ q
  |emp=>simp only[bY] at ek;cases ek
 |tup x1=>
  simp only[cL,Rep] at rd;obtain⟨a1,vs1,rfl,sq1,UL⟩:=rd;cases ru;obtain⟨IV,w1,p1,_⟩:=I.tuple sq1
  cases e with
  |non=>
   simp only[cL,Rep] at re;subst re;cases rv
   simp only[bY] at ek;cases ek
   exact RcAt.tuple_none p1 hu X.prog X.w X.xe _ q
  |bl x2=>
   simp only[cL,Rep] at re;subst re;cases rv
   simp only[bY] at ek;cases ek
   exact RcAt.tuple_bool x2 p1 hu X.prog X.w X.xe _ q
  |int x2=>
   simp only[cL,Rep] at re;subst re;obtain⟨t2,rfl⟩:=rv
   simp only[bY] at ek;cases ek
   exact RcAt.tuple_int x2 t2 p1 hu X.prog X.w X.xe _ q
  |str x2=>
   simp only[cL,Rep] at re;obtain⟨rfl,_⟩:=re;obtain⟨t2,rfl⟩:=rv
   simp only[bY] at ek;cases ek
   exact RcAt.tuple_str x2 t2 p1 hu X.prog X.w X.xe _ q
  |tup x2=>
   simp only[cL,Rep] at re;obtain⟨a2,vs2,rfl,oA,wW⟩:=re;cases rv;obtain⟨its2,w2,p2,_⟩:=I.tuple oA
   simp only[bY] at ek
   obtain⟨f,hf,rfl⟩:=oX ek
   have q1:IV.toArray.size=x1.length:=by rw[List.size_toArray,<-w1.length,UL.length]
   have q2:its2.toArray.size=x2.length:=by rw[List.size_toArray,<-w2.length,wW.length]
   have it:=yc I (n:=99) (A:=X.A) (by simp only[sO] at hm;omega) (by omega) UL wW w1 w2 hf
   refine RcAt.tuples (e:=f) p1 p2 hu it X.prog X.w X.xe _ ?_
   rw[q1,q2]
   exact q
  |lst x2=>
   simp only[cL] at re;obtain⟨a2,vs2,rfl,oA,wW⟩:=re;cases rv;obtain⟨its2,w2,p2,_⟩:=I.list oA
   simp only[bY] at ek;cases ek
   exact RcAt.tuple_list p1 p2.isList hu X.prog X.w X.xe _ q
  |emp=>simp only[bY] at ek;cases ek
 |lst x1=>
  simp only[cL] at rd;obtain⟨a1,vs1,rfl,sq1,UL⟩:=rd;cases ru;obtain⟨IV,w1,p1,_⟩:=I.list sq1
  cases e with
  |non=>
   simp only[cL,Rep] at re;subst re;cases rv
   simp only[bY] at ek;cases ek
   exact RcAt.list_none p1.isList hu X.prog X.w X.xe _ q
  |bl x2=>
   simp only[cL,Rep] at re;subst re;cases rv
   simp only[bY] at ek;cases ek
   exact RcAt.list_bool x2 p1.isList hu X.prog X.w X.xe _ q
  |int x2=>
   simp only[cL,Rep] at re;subst re;obtain⟨t2,rfl⟩:=rv
   simp only[bY] at ek;cases ek
   exact RcAt.list_int x2 t2 p1.isList hu X.prog X.w X.xe _ q
  |str x2=>
   simp only[cL,Rep] at re;obtain⟨rfl,_⟩:=re;obtain⟨t2,rfl⟩:=rv
   simp only[bY] at ek;cases ek
   exact RcAt.list_str x2 t2 p1.isList hu X.prog X.w X.xe _ q
  |tup x2=>
   simp only[cL,Rep] at re;obtain⟨a2,vs2,rfl,oA,wW⟩:=re;cases rv;obtain⟨its2,w2,p2,_⟩:=I.tuple oA
   simp only[bY] at ek;cases ek
   exact RcAt.list_tuple p1.isList p2 hu X.prog X.w X.xe _ q
  |lst x2=>
   simp only[cL] at re;obtain⟨a2,vs2,rfl,oA,wW⟩:=re;cases rv;obtain⟨its2,w2,p2,_⟩:=I.list oA
   simp only[bY] at ek
   obtain⟨f,hf,rfl⟩:=oX ek
   have q1:IV.toArray.size=x1.length:=by rw[List.size_toArray,<-w1.length,UL.length]
   have q2:its2.toArray.size=x2.length:=by rw[List.size_toArray,<-w2.length,wW.length]
   have it:=yc I (n:=99) (A:=X.A) (by simp only[sO] at hm;omega) (by omega) UL wW w1 w2 hf
   by_cases hsz:IV.toArray.size=its2.toArray.size
   ·refine RcAt.lists (e:=f) p1.isList p2.isList hsz hu it X.prog X.w X.xe _ ?_
    have hl:x1.length=x2.length:=by omega
    rw[q1]
    rw[hl,Nat.min_self,beq_self_eq_true,Bool.and_true,<-hl] at q
    exact q
   ·have hl:(x1.length==x2.length)=false:=by rw[beq_eq_false_iff_ne];omega
    rw[hl,Bool.and_false] at q
    exact RcAt.lists_lengths p1.isList p2.isList (by simpa using hsz) hu X.prog X.w X.xe _ q
  |emp=>simp only[bY] at ek;cases ek
 |emp=>simp only[bY] at ek;cases e<;>cases ek
theorem aef (I:L2.Inv X pins σ H s) {d e:Dt} {x y:V} {u v:Value} {k:Bool} {Q:Value->Shared->Prop} (hm:min (sO d) (sO e)<=100) (hA:X.A.units+100 < cLine) (rd:cL X.K H d x) (re:cL X.K H e y) (ru:RelV x u) (rv:RelV y v) (ek:bY d e=some k) (q:Q (.bool (!k)) s) :
  wpAny (model X.prog X.w) X.A (compareOp .NotEq u v) Q X.xe s:=by
 have hu:X.A.units < cLine:=by omega
 cases d with
 |non=>
  simp only[cL,Rep] at rd;subst rd;cases ru
  cases e with
  |non=>
   simp only[cL,Rep] at re;subst re;cases rv
   simp only[bY] at ek;cases ek
   exact RcNeAt.none_none X.prog X.w X.xe _ q
  |bl x2=>
   simp only[cL,Rep] at re;subst re;cases rv
   simp only[bY] at ek;cases ek
   exact RcNeAt.none_bool x2 X.prog X.w X.xe _ q
  |int x2=>
   simp only[cL,Rep] at re;subst re;obtain⟨t2,rfl⟩:=rv
   simp only[bY] at ek;cases ek
   exact RcNeAt.none_int x2 t2 X.prog X.w X.xe _ q
  |str x2=>
   simp only[cL,Rep] at re;obtain⟨rfl,_⟩:=re;obtain⟨t2,rfl⟩:=rv
   simp only[bY] at ek;cases ek
   exact RcNeAt.none_str x2 t2 X.prog X.w X.xe _ q
  |tup x2=>
   simp only[cL,Rep] at re;obtain⟨a2,vs2,rfl,oA,wW⟩:=re;cases rv;obtain⟨its2,w2,p2,_⟩:=I.tuple oA
   simp only[bY] at ek;cases ek
   exact RcNeAt.none_tuple p2 hu X.prog X.w X.xe _ q
  |lst x2=>
   simp only[cL] at re;obtain⟨a2,vs2,rfl,oA,wW⟩:=re;cases rv;obtain⟨its2,w2,p2,_⟩:=I.list oA
   simp only[bY] at ek;cases ek
   exact RcNeAt.none_list p2.isList hu X.prog X.w X.xe _ q
  |emp=>simp only[bY] at ek;cases ek
 |bl x1=>
  simp only[cL,Rep] at rd;subst rd;cases ru
  cases e with
  |non=>
   simp only[cL,Rep] at re;subst re;cases rv
   simp only[bY] at ek;cases ek
   exact RcNeAt.bool_none x1 X.prog X.w X.xe _ q
  |bl x2=>
   simp only[cL,Rep] at re;subst re;cases rv
   simp only[bY] at ek;cases ek
   exact RcNeAt.bool_bool x1 x2 X.prog X.w X.xe _ q
  |int x2=>
   simp only[cL,Rep] at re;subst re;obtain⟨t2,rfl⟩:=rv
   simp only[bY] at ek;cases ek
   exact RcNeAt.bool_int x1 x2 t2 X.prog X.w X.xe _ q
  |str x2=>
   simp only[cL,Rep] at re;obtain⟨rfl,_⟩:=re;obtain⟨t2,rfl⟩:=rv
   simp only[bY] at ek;cases ek
   exact RcNeAt.bool_str x1 x2 t2 X.prog X.w X.xe _ q
  |tup x2=>
   simp only[cL,Rep] at re;obtain⟨a2,vs2,rfl,oA,wW⟩:=re;cases rv;obtain⟨its2,w2,p2,_⟩:=I.tuple oA
   simp only[bY] at ek;cases ek
   exact RcNeAt.bool_tuple x1 p2 hu X.prog X.w X.xe _ q
  |lst x2=>
   simp only[cL] at re;obtain⟨a2,vs2,rfl,oA,wW⟩:=re;cases rv;obtain⟨its2,w2,p2,_⟩:=I.list oA
   simp only[bY] at ek;cases ek
   exact RcNeAt.bool_list x1 p2.isList hu X.prog X.w X.xe _ q
  |emp=>simp only[bY] at ek;cases ek
 |int x1=>
  simp only[cL,Rep] at rd;subst rd;obtain⟨t1,rfl⟩:=ru
  cases e with
  |non=>
   simp only[cL,Rep] at re;subst re;cases rv
   simp only[bY] at ek;cases ek
   exact RcNeAt.int_none x1 t1 X.prog X.w X.xe _ q
  |bl x2=>
   simp only[cL,Rep] at re;subst re;cases rv
   simp only[bY] at ek;cases ek
   exact RcNeAt.int_bool x1 t1 x2 X.prog X.w X.xe _ q
  |int x2=>
   simp only[cL,Rep] at re;subst re;obtain⟨t2,rfl⟩:=rv
   simp only[bY] at ek;cases ek
   exact RcNeAt.int_int x1 t1 x2 t2 X.prog X.w X.xe _ q
  |str x2=>
   simp only[cL,Rep] at re;obtain⟨rfl,_⟩:=re;obtain⟨t2,rfl⟩:=rv
   simp only[bY] at ek;cases ek
   exact RcNeAt.int_str x1 t1 x2 t2 X.prog X.w X.xe _ q
  |tup x2=>
   simp only[cL,Rep] at re;obtain⟨a2,vs2,rfl,oA,wW⟩:=re;cases rv;obtain⟨its2,w2,p2,_⟩:=I.tuple oA
   simp only[bY] at ek;cases ek
   exact RcNeAt.int_tuple x1 t1 p2 hu X.prog X.w X.xe _ q
  |lst x2=>
   simp only[cL] at re;obtain⟨a2,vs2,rfl,oA,wW⟩:=re;cases rv;obtain⟨its2,w2,p2,_⟩:=I.list oA
   simp only[bY] at ek;cases ek
   exact RcNeAt.int_list x1 t1 p2.isList hu X.prog X.w X.xe _ q
  |emp=>simp only[bY] at ek;cases ek
 |str x1=>
  simp only[cL,Rep] at rd;obtain⟨rfl,_⟩:=rd;obtain⟨t1,rfl⟩:=ru
  cases e with
  |non=>
   simp only[cL,Rep] at re;subst re;cases rv
   simp only[bY] at ek;cases ek
   exact RcNeAt.str_none x1 t1 X.prog X.w X.xe _ q
  |bl x2=>
   simp only[cL,Rep] at re;subst re;cases rv
   simp only[bY] at ek;cases ek
   exact RcNeAt.str_bool x1 t1 x2 X.prog X.w X.xe _ q
  |int x2=>
   simp only[cL,Rep] at re;subst re;obtain⟨t2,rfl⟩:=rv
   simp only[bY] at ek;cases ek
   exact RcNeAt.str_int x1 t1 x2 t2 X.prog X.w X.xe _ q
  |str x2=>
   simp only[cL,Rep] at re;obtain⟨rfl,_⟩:=re;obtain⟨t2,rfl⟩:=rv
   simp only[bY] at ek;cases ek
   exact RcNeAt.str_str x1 t1 x2 t2 X.prog X.w X.xe _ q
  |tup x2=>
   simp only[cL,Rep] at re;obtain⟨a2,vs2,rfl,oA,wW⟩:=re;cases rv;obtain⟨its2,w2,p2,_⟩:=I.tuple oA
   simp only[bY] at ek;cases ek
   exact RcNeAt.str_tuple x1 t1 p2 hu X.prog X.w X.xe _ q
  |lst x2=>
   simp only[cL] at re;obtain⟨a2,vs2,rfl,oA,wW⟩:=re;cases rv;obtain⟨its2,w2,p2,_⟩:=I.list oA
   simp only[bY] at ek;cases ek
   exact RcNeAt.str_list x1 t1 p2.isList hu X.prog X.w X.xe _ q
  |emp=>simp only[bY] at ek;cases ek
 |tup x1=>
  simp only[cL,Rep] at rd;obtain⟨a1,vs1,rfl,sq1,UL⟩:=rd;cases ru;obtain⟨IV,w1,p1,_⟩:=I.tuple sq1
  cases e with
  |non=>
   simp only[cL,Rep] at re;subst re;cases rv
   simp only[bY] at ek;cases ek
   exact RcNeAt.tuple_none p1 hu X.prog X.w X.xe _ q
  |bl x2=>
   simp only[cL,Rep] at re;subst re;cases rv
   simp only[bY] at ek;cases ek
   exact RcNeAt.tuple_bool x2 p1 hu X.prog X.w X.xe _ q
  |int x2=>
   simp only[cL,Rep] at re;subst re;obtain⟨t2,rfl⟩:=rv
   simp only[bY] at ek;cases ek
   exact RcNeAt.tuple_int x2 t2 p1 hu X.prog X.w X.xe _ q
  |str x2=>
   simp only[cL,Rep] at re;obtain⟨rfl,_⟩:=re;obtain⟨t2,rfl⟩:=rv
   simp only[bY] at ek;cases ek
   exact RcNeAt.tuple_str x2 t2 p1 hu X.prog X.w X.xe _ q
  |tup x2=>
   simp only[cL,Rep] at re;obtain⟨a2,vs2,rfl,oA,wW⟩:=re;cases rv;obtain⟨its2,w2,p2,_⟩:=I.tuple oA
   simp only[bY] at ek
   obtain⟨f,hf,rfl⟩:=oX ek
   have q1:IV.toArray.size=x1.length:=by rw[List.size_toArray,<-w1.length,UL.length]
   have q2:its2.toArray.size=x2.length:=by rw[List.size_toArray,<-w2.length,wW.length]
   have it:=yc I (n:=99) (A:=X.A) (by simp only[sO] at hm;omega) (by omega) UL wW w1 w2 hf
   refine RcNeAt.tuples (e:=f) p1 p2 hu it X.prog X.w X.xe _ ?_
   rw[q1,q2]
   exact q
  |lst x2=>
   simp only[cL] at re;obtain⟨a2,vs2,rfl,oA,wW⟩:=re;cases rv;obtain⟨its2,w2,p2,_⟩:=I.list oA
   simp only[bY] at ek;cases ek
   exact RcNeAt.tuple_list p1 p2.isList hu X.prog X.w X.xe _ q
  |emp=>simp only[bY] at ek;cases ek
 |lst x1=>
  simp only[cL] at rd;obtain⟨a1,vs1,rfl,sq1,UL⟩:=rd;cases ru;obtain⟨IV,w1,p1,_⟩:=I.list sq1
  cases e with
  |non=>
   simp only[cL,Rep] at re;subst re;cases rv
   simp only[bY] at ek;cases ek
   exact RcNeAt.list_none p1.isList hu X.prog X.w X.xe _ q
  |bl x2=>
   simp only[cL,Rep] at re;subst re;cases rv
   simp only[bY] at ek;cases ek
   exact RcNeAt.list_bool x2 p1.isList hu X.prog X.w X.xe _ q
  |int x2=>
   simp only[cL,Rep] at re;subst re;obtain⟨t2,rfl⟩:=rv
   simp only[bY] at ek;cases ek
   exact RcNeAt.list_int x2 t2 p1.isList hu X.prog X.w X.xe _ q
  |str x2=>
   simp only[cL,Rep] at re;obtain⟨rfl,_⟩:=re;obtain⟨t2,rfl⟩:=rv
   simp only[bY] at ek;cases ek
   exact RcNeAt.list_str x2 t2 p1.isList hu X.prog X.w X.xe _ q
  |tup x2=>
   simp only[cL,Rep] at re;obtain⟨a2,vs2,rfl,oA,wW⟩:=re;cases rv;obtain⟨its2,w2,p2,_⟩:=I.tuple oA
   simp only[bY] at ek;cases ek
   exact RcNeAt.list_tuple p1.isList p2 hu X.prog X.w X.xe _ q
  |lst x2=>
   simp only[cL] at re;obtain⟨a2,vs2,rfl,oA,wW⟩:=re;cases rv;obtain⟨its2,w2,p2,_⟩:=I.list oA
   simp only[bY] at ek
   obtain⟨f,hf,rfl⟩:=oX ek
   have q1:IV.toArray.size=x1.length:=by rw[List.size_toArray,<-w1.length,UL.length]
   have q2:its2.toArray.size=x2.length:=by rw[List.size_toArray,<-w2.length,wW.length]
   have it:=yc I (n:=99) (A:=X.A) (by simp only[sO] at hm;omega) (by omega) UL wW w1 w2 hf
   by_cases hsz:IV.toArray.size=its2.toArray.size
   ·refine RcNeAt.lists (e:=f) p1.isList p2.isList hsz hu it X.prog X.w X.xe _ ?_
    have hl:x1.length=x2.length:=by omega
    rw[q1]
    rw[hl,Nat.min_self,beq_self_eq_true,Bool.and_true,<-hl] at q
    exact q
   ·have hl:(x1.length==x2.length)=false:=by rw[beq_eq_false_iff_ne];omega
    rw[hl,Bool.and_false] at q
    exact RcNeAt.lists_lengths p1.isList p2.isList (by simpa using hsz) hu X.prog X.w X.xe _ q
  |emp=>simp only[bY] at ek;cases ek
 |emp=>simp only[bY] at ek;cases e<;>cases ek
def eqB (a b:Bx):Option Bx:=if wj a=true\/wj b=true then none else if min (sO (toD a)) (sO (toD b))<=100 then (bY (toD a) (toD b)).bind fun k=>some (.z (.bl k)) else none
def N5 (a b:Bx):Option Bx:=if wj a=true\/wj b=true then none else if min (sO (toD a)) (sO (toD b))<=100 then (bY (toD a) (toD b)).bind fun k=>some (.z (.bl (!k))) else none
theorem of_eq (hu:X.A.units+100 < cLine):Fx X (compareOp .Eq) eqB:=by
 intro pins s σ H x y v u Q I rx ry h
 obtain⟨a,b,c,ra,rb,e,q⟩:=h
 unfold eqB at e
 split at e
 ·cases e
 rename_i hz
 have ha:wj a=false:=by cases h:wj a with|false=>rfl|true=>exact absurd (.inl h) hz
 have hb:wj b=false:=by cases h:wj b with|false=>rfl|true=>exact absurd (.inr h) hz
 split at e
 ·rename_i hm
  obtain⟨k,ek,e⟩:=bind_some e
  cases e
  exact aee I hm hu (ra.toD ha) (rb.toD hb) rx ry ek ⟨.bl k,H,I,rfl,q _ H (Same.refl H) trivial (by unfold bN Rep;rfl)⟩
 ·cases e
theorem Cz (hu:X.A.units+100 < cLine):Fx X (compareOp .NotEq) N5:=by
 intro pins s σ H x y v u Q I rx ry h
 obtain⟨a,b,c,ra,rb,e,q⟩:=h
 unfold N5 at e
 split at e
 ·cases e
 rename_i hz
 have ha:wj a=false:=by cases h:wj a with|false=>rfl|true=>exact absurd (.inl h) hz
 have hb:wj b=false:=by cases h:wj b with|false=>rfl|true=>exact absurd (.inr h) hz
 split at e
 ·rename_i hm
  obtain⟨k,ek,e⟩:=bind_some e
  cases e
  exact aef I hm hu (ra.toD ha) (rb.toD hb) rx ry ek ⟨.bl (!k),H,I,rfl,q _ H (Same.refl H) trivial (by unfold bN Rep;rfl)⟩
 ·cases e
end
section
variable {X:Cx} {pins:List (Addr×Obj)} {σ:L2.St} {H:Hp} {s:Shared}
theorem Av {K:PySem.W.Frag} {H:Hp} {i:Int}:bN K H (.z (.int i)) (.int i):=by unfold bN Rep;rfl
theorem Yo {K:PySem.W.Frag} {H:Hp} {b:Bool}:bN K H (.z (.bl b)) (.bl b):=by unfold bN Rep;rfl
theorem Yp {K:PySem.W.Frag} {H:Hp} {x:Str} (h:x.length<=sizeLine):bN K H (.z (.str x)) (.str x):=by unfold bN Rep;exact⟨rfl,h⟩
theorem IW {K:PySem.W.Frag} {H:Hp} {i:Int} {v:V} (h:bN K H (.z (.int i)) v):v=.int i:=by simpa only[bN,Rep] using h
theorem Rz {K:PySem.W.Frag} {H:Hp} {x:Str} {v:V} (h:bN K H (.z (.str x)) v):v=.str x/\x.length<=sizeLine:=by simpa only[bN,Rep] using h
theorem inT {K:PySem.W.Frag} {H:Hp} {ds:List Dt} {v:V} (h:bN K H (.z (.tup ds)) v):∃ a vs,v=.ref a/\wD K H a vs/\aO K H ds vs:=by simpa only[bN,Rep] using h
def i2 (g:Int->Int->Option Dt):Bx->Bx->Option Bx
 |.z (.int i),.z (.int j)=>(g i j).bind fun d=>some (.z d)
 |_,_=>none
theorem Hh {f:Value->Value->Sem Value} {r:R2} {g:Int->Int->Option Dt} (ho:wR X f r) (h:∀ i j d H Q,g i j=some d->(∀ v,Rep X.K H d v->Q v H)->r (.int i) (.int j) H Q):Fx X f (i2 g):=wR.imp ho fun x y H Q q=>by
 obtain⟨a,b,c,ra,rb,e,q⟩:=q
 unfold i2 at e
 split at e
 ·rename_i i j
  obtain⟨d,ed,e⟩:=bind_some e
  cases e
  rw[IW ra,IW rb]
  exact h i j d H Q ed fun v rv=>q v H (Same.refl H) trivial rv
 ·cases e
theorem okI {K:PySem.W.Frag} {H:Hp} {i:Int}:Rep K H (.int i) (.int i):=by unfold Rep;rfl
theorem okT {K:PySem.W.Frag} {H:Hp} {b:Bool}:Rep K H (.bl b) (.bl b):=by unfold Rep;rfl
abbrev subB:=i2 fun i j=>some (.int (i - j))
abbrev gtB:=i2 fun i j=>some (.bl (decide (j < i)))
abbrev geB:=i2 fun i j=>some (.bl (decide (j<=i)))
abbrev Hi:=i2 fun i j=>if 0 < j/\j < 1073741824 then some (.int (i / j)) else none
abbrev jg:=i2 fun i j=>if 0 < j then some (.int (i % j)) else none
abbrev Yq:=i2 fun i j=>if 0<=j/\j<=1000/\i.natAbs < 2 ^ 64 then some (.int (i ^ j.toNat)) else none
theorem UW:Fx X (binaryOp .Sub) subB:=Hh aaY fun i j d H Q e q=>by cases e;exact⟨i,j,rfl,rfl,q _ okI⟩
theorem aeg:Fx X (compareOp .Gt) gtB:=Hh adF fun i j d H Q e q=>by cases e;exact⟨i,j,rfl,rfl,q _ okT⟩
theorem aeh:Fx X (compareOp .GtE) geB:=Hh adG fun i j d H Q e q=>by cases e;exact⟨i,j,rfl,rfl,q _ okT⟩
theorem Ja:Fx X (binaryOp .FloorDiv) Hi:=Hh Xh fun i j d H Q e q=>by
 split at e
 ·rename_i h;cases e;exact⟨i,j,rfl,rfl,h,q _ okI⟩
 ·cases e
theorem fM:Fx X (binaryOp .Mod) jg:=Hh aa0 fun i j d H Q e q=>by
 split at e
 ·rename_i h;cases e;exact⟨i,j,rfl,rfl,h,q _ okI⟩
 ·cases e
theorem abX:Fx X (binaryOp .Pow) Yq:=Hh aa1 fun i j d H Q e q=>by
 split at e
 ·rename_i h;cases e;exact⟨i,j,rfl,rfl,⟨h.1,by omega,h.2.2⟩,q _ okI⟩
 ·cases e
def RB:Bx->Option Bx
 |.z (.int i)=>some (.z (.int (-i)))
 |_=>none
theorem abY:UnF X (unaryOp .USub) RB:=ZX.imp aa2 fun x H Q q=>by
 obtain⟨a,c,ra,e,q⟩:=q
 unfold RB at e
 split at e
 ·rename_i i;cases e;exact⟨i,IW ra,q _ H (Same.refl H) trivial Av⟩
 ·cases e
def RD:Nat:=1000000
theorem Yr:RD<=sizeLine:=by decide
theorem abZ {l b:Addr} {vs us:List V} {Q:VK} (I:L2.Inv X pins σ H s) (hl:uz X.K H l vs) (hb:uz X.K H b us) (hz:vs.length+us.length<=sizeLine) (q:∀ p,H p=none->Q (.ref p) (upd H p (.lst (vs++us)))) :
  wpAny (model X.prog X.w) X.A (binaryOp .Add (.ref l) (.ref b)) (EP X pins σ Q) X.xe s:=by
 obtain⟨its,r1,⟨⟨cls,dd,data,sl⟩,n1,e1,c1,d1,dd1⟩,z1⟩:=I.list hl
 obtain⟨its2,r2,⟨⟨cls2,dd2,data2,sl2⟩,n2,e2,c2,d2,U0⟩,z2⟩:=I.list hb
 simp only at c1 d1 dd1 c2 d2 U0
 subst c1 d1 dd1 c2 d2 U0
 have l1:=r1.length
 have l2:=r2.length
 have e:its.toArray++its2.toArray=(its++its2).toArray:=by simp
 refine concat_meets ⟨_,e1,rfl⟩ ⟨_,e2,rfl⟩ noFill_list_add seq_list_add PySem.F.slot_list_add PySem.F.entry_list_add (PySem.F.args_list_add_2 _ _) (list_addW l b its.toArray its2.toArray n1 n2 none none sl sl2 (by rw[List.size_toArray,List.size_toArray];omega)) ⟨e1,e2,?_⟩
 rw[e]
 exact⟨.ref s.heap.objs.size,_,I.laid (t':=s.toks) (o:=.lst (vs++us)) (fun b ob q=>Heap.get?_push_of_some _ q) (Nat.le_refl _) ⟨by rw[List.length_append];exact hz,_,0,r1.append r2,Heap.get?_push_size _ rfl⟩,rfl,q _ (I.hok.fresh (Nat.le_refl _))⟩
theorem ab0 {l b:Addr} {vs us:List V} {Q:VK} (I:L2.Inv X pins σ H s) (hl:wD X.K H l vs) (hb:wD X.K H b us) (hz:vs.length+us.length<=sizeLine) (q0:vs=[]->Q (.ref b) H) (q1:us=[]->Q (.ref l) H) (q2:∀ p,H p=none->Q (.ref p) (upd H p (.tup (vs++us)))) :
  wpAny (model X.prog X.w) X.A (binaryOp .Add (.ref l) (.ref b)) (EP X pins σ Q) X.xe s:=by
 by_cases hv:vs=[]
 ·obtain⟨its,r1,⟨⟨cls,dd,data,sl⟩,e1,c1,n1,dd1⟩,z1⟩:=I.tuple hl
  obtain⟨its2,r2,⟨⟨cls2,dd2,data2,sl2⟩,e2,c2,n2,U0⟩,z2⟩:=I.tuple hb
  simp only at c1 dd1 c2 U0
  subst c1 dd1 c2 U0
  have:its=[]:=r1.Bv.mpr hv
  exact concat_meets ⟨_,e1,rfl⟩ ⟨_,e2,rfl⟩ noFill_tuple_add seq_tuple_add PySem.F.slot_tuple_add PySem.F.entry_tuple_add (PySem.F.args_tuple_add_2 _ _)
   (tuple_addW0 l b its.toArray its2.toArray n1 n2 dd dd2 sl sl2 (by simp[this])) ⟨e1,e2,⟨.ref b,H,I,rfl,q0 hv⟩⟩
 ·exact Xp pins s σ H (.ref l) (.ref b) (.ref l) (.ref b) Q I rfl rfl ⟨l,b,vs,us,rfl,rfl,hl,hb,hv,hz,q1,fun _=>q2⟩
def jt:Bx->Bx->Option Bx
 |.z (.int i),.z (.int j)=>some (.z (.int (i+j)))
 |.z (.str i),.z (.str j)=>if i.length+j.length<=RD then some (.z (.str (i++j))) else none
 |.z (.tup xs),.z (.tup ys)=>if xs.length+ys.length<=RD then some (.z (.tup (xs++ys))) else none
 |a,b=>(qt a).bind fun xs=>(qt b).bind fun ys=>if xs.length+ys.length<=RD then some (.o (xs++ys)) else none
theorem str_len (i j:Str):(i++j).length=i.length+j.length:=by
 show (i.cps++j.cps).size=_
 rw[Array.size_append];rfl
theorem gJ:Fx X (binaryOp .Add) jt:=by
 intro pins s σ H x y v u Q I rx ry h
 obtain⟨a,b,c,ra,rb,e,q⟩:=h
 have hbig:=Yr
 unfold jt at e
 split at e
 ·rename_i i j
  cases e
  exact aaX pins s σ H x y v u Q I rx ry ⟨i,j,IW ra,IW rb,q _ H (Same.refl H) trivial Av⟩
 ·rename_i i j
  split at e
  ·rename_i hl
   cases e
   exact Nt pins s σ H x y v u Q I rx ry ⟨i,j,(Rz ra).1,(Rz rb).1,by omega,q _ H (Same.refl H) trivial (Yp (by rw[str_len];omega))⟩
  ·cases e
 ·rename_i xs ys
  split at e
  ·rename_i hl
   cases e
   obtain⟨l,vs,rfl,sl,rl⟩:=inT ra
   obtain⟨m,us,rfl,sm,rm⟩:=inT rb
   cases rx
   cases ry
   have h1:=rl.length
   have h2:=rm.length
   refine ab0 I sl sm (by omega) (fun z=>q _ H (Same.refl H) trivial ?_) (fun z=>q _ H (Same.refl H) trivial ?_) fun p hp=>q _ _ (cV hp) trivial ?_
   ·unfold bN Rep
    refine⟨m,us,rfl,sm,?_⟩
    have:xs=[]:=by subst z;exact List.eq_nil_of_length_eq_zero (by simpa using h1.symm)
    rw[this,List.nil_append];exact rm
   ·unfold bN Rep
    refine⟨l,vs,rfl,sl,?_⟩
    have:ys=[]:=by subst z;exact List.eq_nil_of_length_eq_zero (by simpa using h2.symm)
    rw[this,List.append_nil];exact rl
   ·unfold bN Rep
    exact⟨p,_,rfl,.inl (.inl cG),(rl.append rm).kp (.of (cV hp))⟩
  ·cases e
 ·obtain⟨xs,ea,e⟩:=bind_some e
  obtain⟨ys,eb,e⟩:=bind_some e
  split at e
  ·rename_i hl
   cases e
   obtain⟨l,vs,rfl,sl,rl⟩:=ra.Hf ea
   obtain⟨m,us,rfl,sm,rm⟩:=rb.Hf eb
   cases rx
   cases ry
   have h1:=rl.length
   have h2:=rm.length
   refine abZ I sl sm (by omega) fun p hp=>q _ _ (cV hp) (fun a ea=>by cases ea;exact hp) ⟨p,_,rfl,cG,(rl.append rm).kp (.of (cV hp))⟩
  ·cases e
def wX:Bx->Bx->Option Bx
 |.z (.int i),.z (.int j)=>if (-(2 ^ 64) < i/\i < 2 ^ 64)\/(-(2 ^ 64) < j/\j < 2 ^ 64) then some (.z (.int (i * j))) else none
 |.z (.str x),.z (.int n)=>if n<=1000 ∧ -1000<=n/\x.length<=1000 then some (.z (.str (Txt.mul x n))) else none
 |_,_=>none
theorem wG (x:Array Nat):∀ (n:Nat) (acc:Array Nat),((List.replicate n x).foldl (·++·) acc).size=acc.size+n * x.size
 |0,acc=>by simp
 |n+1,acc=>by
  rw[List.replicate_succ,List.foldl_cons,wG x n,Array.size_append,Nat.succ_mul]
  omega
theorem Jb (x:Str) (n:Int):(Txt.mul x n).length<=n.toNat * x.length+x.length:=by
 unfold Txt.mul
 split
 ·exact Nat.zero_le _
 ·split
  ·exact Nat.le_add_left _ _
  ·show ((List.replicate n.toNat x.cps).foldl (·++·) #[]).size<=_
   rw[wG]
   show (#[]:Array Nat).size+n.toNat * x.cps.size<=n.toNat * x.cps.size+x.cps.size
   simp
theorem uK:Fx X (binaryOp .Mult) wX:=by
 intro pins s σ H x y v u Q I rx ry h
 obtain⟨a,b,c,ra,rb,e,q⟩:=h
 unfold wX at e
 split at e
 ·rename_i i j
  split at e
  ·rename_i hl
   cases e
   exact aaZ pins s σ H x y v u Q I rx ry ⟨i,j,IW ra,IW rb,hl,q _ H (Same.refl H) trivial Av⟩
  ·cases e
 ·rename_i x' n
  split at e
  ·rename_i hl
   cases e
   obtain⟨rfl,hx⟩:=Rz ra
   have hy:=IW rb
   subst hy
   obtain⟨t,rfl⟩:=rx
   obtain⟨t',rfl⟩:=ry
   have hs:sizeLine=16777216:=sizeLine_eq
   have hm:n.toNat * x'.length<=1000 * 1000:=Nat.mul_le_mul (by omega) hl.2.2
   refine SB.mul ⟨?_,fun h1 h2=>?_,fun h1 h2=>?_⟩ fun t' k=>⟨.str _,H,I.tok _,⟨_,rfl⟩,q _ H (Same.refl H) trivial (Yp (Nat.le_trans (Jb x' n) (by omega)))⟩
   ·have e1:decide (n < -(2 ^ 63:Int))=false:=decide_eq_false (by omega)
    have e2:decide (n>=2 ^ 63)=false:=decide_eq_false (by omega)
    rw[e1,e2];rfl
   ·have hn:0 < n:=by omega
    have:(1000:Int)<=(2 ^ 63 - 1) / n:=(Int.le_ediv_iff_mul_le hn).mpr (by omega)
    omega
   ·show decide (x'.length * n.toNat > sizeLine)=false
    rw[Nat.mul_comm]
    exact decide_eq_false (by omega)
  ·cases e
 ·cases e
def aac (i j:Str):Bool:=!(Builtin.Str.occurrences j i 0 j.length 1).isEmpty
def yd:Dt->Bool
 |.non=>true
 |.bl _=>true
 |.int _=>true
 |.str _=>true
 |_=>false
def memD (x:Dt) (ys:List Dt):Option Bool:=if yd x=true/\ys.all yd=true then some (ys.any fun y=>match bY y x with|some true=>true|_=>false) else none
def wY:Bx->Option (List Dt)
 |.z (.lst ds)=>some ds
 |.z (.tup ds)=>some ds
 |.l ds=>some ds
 |.o ds=>some ds
 |_=>none
def inB:Bx->Bx->Option Bool
 |.z (.str i),.z (.str j)=>some (aac i j)
 |.z d,b=>(wY b).bind fun ys=>memD d ys
 |_,_=>none
def inF (a b:Bx):Option Bx:=(inB a b).bind fun k=>some (.z (.bl k))
theorem K5 {K:PySem.W.Frag} {H:Hp} {d:Dt} {v:V} (r:Rep K H d v) (f:yd d=true):sI v=true:=by
 cases d<;>first|(cases f;done)|skip
 all_goals simp only[Rep] at r
 ·subst r;rfl
 ·subst r;rfl
 ·subst r;rfl
 ·obtain⟨rfl,_⟩:=r;rfl
theorem Hj {K:PySem.W.Frag} {H:Hp}:∀ {ds:List Dt} {vs:List V},aO K H ds vs->ds.all yd=true->vs.all sI=true
 |[],_,h,_=>by simp only[aO] at h;subst h;rfl
 |d::ds,_,h,f=>by
  simp only[aO] at h
  obtain⟨v,r,rfl,h1,h2⟩:=h
  rw[List.all_cons,Bool.and_eq_true] at f
  rw[List.all_cons,K5 h1 f.1,Hj h2 f.2];rfl
theorem Jc (b:Bool):(match some b with|some true=>true|_=>false)=b:=by cases b<;>rfl
theorem Ys {K:PySem.W.Frag} {H:Hp} {d e:Dt} {x y:V} (rd:Rep K H d x) (re:Rep K H e y) (fd:yd d=true) (fe:yd e=true):Rk x y=(match bY d e with|some true=>true|_=>false):=by
 cases d<;>first|(cases fd;done)|skip
 all_goals (cases e<;>first|(cases fe;done)|skip)
 all_goals simp only[Rep] at rd re
 all_goals first
  |(subst rd;subst re;simp only[Rk,bY,Jc])
  |(obtain⟨rfl,_⟩:=rd;subst re;simp only[Rk,bY,Jc])
  |(subst rd;obtain⟨rfl,_⟩:=re;simp only[Rk,bY,Jc])
  |(obtain⟨rfl,_⟩:=rd;obtain⟨rfl,_⟩:=re;simp only[Rk,bY,Jc])
theorem Qc {K:PySem.W.Frag} {H:Hp} {d:Dt} {x:V} (rd:Rep K H d x) (fd:yd d=true):∀ {ds:List Dt} {vs:List V},aO K H ds vs->ds.all yd=true->inV x vs=ds.any fun y=>match bY y d with|some true=>true|_=>false
 |[],_,h,_=>by simp only[aO] at h;subst h;rfl
 |e::ds,_,h,f=>by
  simp only[aO] at h
  obtain⟨v,r,rfl,h1,h2⟩:=h
  rw[List.all_cons,Bool.and_eq_true] at f
  have:=Qc rd fd h2 f.2
  unfold inV at this ⊢
  rw[List.any_cons,List.any_cons,Ys h1 rd f.1 fd,this]
theorem yg {K:PySem.W.Frag} {H:Hp} {b:Bx} {v:V} {ds:List Dt} (h:bN K H b v) (e:wY b=some ds):∃ a vs,v=.ref a/\(uz K H a vs\/wD K H a vs)/\aO K H ds vs:=by
 cases b with
 |z d=>
  cases d<;>first|(cases e;done)|skip
  ·cases e
   obtain⟨a,vs,e,q,r⟩:=inT h
   exact⟨a,vs,e,.inr q,r⟩
  ·cases e
   obtain⟨a,vs,e,q,r⟩:=h.Hf rfl
   exact⟨a,vs,e,.inl q,r⟩
 |l ds'=>
  cases e
  obtain⟨a,vs,e,q,r⟩:=h.Hf rfl
  exact⟨a,vs,e,.inl q,r⟩
 |o ds'=>
  cases e
  obtain⟨a,vs,e,q,r⟩:=h.Hf rfl
  exact⟨a,vs,e,.inl q,r⟩
 |n _=>cases e
 |m _ _=>cases e
theorem RG {H:Hp} {a b:Bx} {x y:V} {k:Bool} (ra:bN X.K H a x) (rb:bN X.K H b y) (e:inB a b=some k) :
  (∃ i j,x=.str i/\y=.str j/\k=aac i j)\/(∃ p xs,y=.ref p/\(uz X.K H p xs\/wD X.K H p xs)/\sI x=true/\xs.all sI=true/\k=inV x xs):=by
 unfold inB at e
 split at e
 ·rename_i i j
  cases e
  exact .inl ⟨i,j,(Rz ra).1,(Rz rb).1,rfl⟩
 ·rename_i d _
  obtain⟨ys,ey,e⟩:=bind_some e
  unfold memD at e
  split at e
  ·rename_i hf
   cases e
   obtain⟨p,vs,rfl,sq,rs⟩:=yg rb ey
   have ra':Rep X.K H d x:=ra
   exact .inr ⟨p,vs,rfl,sq,K5 ra' hf.1,Hj rs hf.2,(Qc ra' hf.1 rs hf.2).symm⟩
  ·cases e
 ·cases e
theorem aad:Fx X (compareOp .In) inF:=by
 intro pins s σ H x y v u Q I rx ry h
 obtain⟨a,b,c,ra,rb,e,q⟩:=h
 obtain⟨k,ek,e⟩:=bind_some e
 cases e
 rcases RG ra rb ek with⟨i,j,rfl,rfl,rfl⟩|⟨p,xs,rfl,sq,f1,f2,rfl⟩
 ·exact Rf pins s σ H _ _ v u Q I rx ry ⟨i,j,rfl,rfl,q _ H (Same.refl H) trivial Yo⟩
 ·exact Rm pins s σ H _ _ v u Q I rx ry ⟨p,xs,rfl,sq,f1,f2,q _ H (Same.refl H) trivial Yo⟩
def N6:Bx->Bool
 |.z .non=>true
 |_=>false
theorem RJ {K:PySem.W.Frag} {H:Hp} {b:Bx} {v:V} (h:bN K H b v):decide (v=.non)=N6 b:=by
 cases b with
 |z d=>
  cases d<;>simp only[bN,Rep] at h
  ·subst h;rfl
  ·subst h;rfl
  ·subst h;rfl
  ·obtain⟨rfl,_⟩:=h;rfl
  ·obtain⟨_,_,rfl,_⟩:=h;rfl
  ·obtain⟨_,_,rfl,_⟩:=h;rfl
  ·obtain⟨_,_,rfl,_⟩:=h;rfl
 |l ds=>obtain⟨_,_,rfl,_⟩:=h;rfl
 |o ds=>obtain⟨_,_,rfl,_⟩:=h;rfl
 |n ds=>obtain⟨_,_,rfl,_⟩:=h;rfl
 |m ds _=>obtain⟨_,_,rfl,_⟩:=h;rfl
def isB (a:Bx):Bx->Option Bx
 |.z .non=>some (.z (.bl (N6 a)))
 |_=>none
theorem of_is:Fx X (compareOp .Is) isB:=wR.imp aa3 fun x y H Q q=>by
 obtain⟨a,b,c,ra,rb,e,q⟩:=q
 unfold isB at e
 split at e
 ·cases e
  simp only[bN,Rep] at rb
  exact⟨rb,by rw[RJ ra];exact q _ H (Same.refl H) trivial Yo⟩
 ·cases e
def iD:Bx->Bx->Option Bx
 |.z (.str x),.z (.int i)=>(G6 x.cps.toList i).bind fun c=>some (.z (.str ⟨#[c]⟩))
 |b,.z (.int i)=>(wY b).bind fun ds=>(G6 ds i).bind fun d=>some (.z d)
 |_,_=>none
theorem Yt {K:PySem.W.Frag} {H:Hp} {ds:List Dt} {vs:List V} {i:Int} {d:Dt} (r:aO K H ds vs) (e:G6 ds i=some d):∃ v,G6 vs i=some v/\Rep K H d v:=by
 unfold G6 at e ⊢
 rw[r.length]
 obtain⟨j,ej,e⟩:=bind_some e
 rw[ej]
 exact r.get e
theorem aek {a b:Expr} {fa fb:Ev->Option Bx} {pos:Pos} (ha:PV X a fa) (hb:PV X b fb) (hs:Ik b:=by intro _ _;with_unfolding_all rfl):PV X (.Subscript a b pos) (b2 iD fa fb):=Ng (adP abh ha hb hs) fun σ H Q h=>by
 obtain⟨H0,ρ,c,E,e,q⟩:=h
 obtain⟨a,ea,e⟩:=bind_some e
 obtain⟨b,eb,e⟩:=bind_some e
 refine⟨H0,ρ,a,E,ea,fun v H1 s1 n1 r1=>⟨H0,ρ,b,E.grow s1,eb,fun u H2 s2 n2 r2=>?_⟩⟩
 have r1':=r1.same s2
 unfold iD at e
 split at e
 ·rename_i x i
  obtain⟨c',ec,e⟩:=bind_some e
  cases e
  exact .inr (.inr ⟨_,_,c',(Rz r1').1,IW r2,(Rz r1').2,ec,q _ _ (s1.trans s2) trivial (Yp (by show (1:Nat)<=sizeLine;decide))⟩)
 ·obtain⟨ds,ed,e⟩:=bind_some e
  obtain⟨d,ei,e⟩:=bind_some e
  cases e
  obtain⟨p,vs,rfl,sq,rs⟩:=yg r1' ed
  obtain⟨w,ew,PJ⟩:=Yt rs ei
  have hi:=IW r2
  rcases sq with sq|sq
  ·exact .inl ⟨p,vs,_,w,rfl,hi,sq,ew,q _ _ (s1.trans s2) trivial PJ⟩
  ·exact .inr (.inl ⟨p,vs,_,w,rfl,hi,sq,ew,q _ _ (s1.trans s2) trivial PJ⟩)
 ·cases e
end
theorem ab1:bootBuiltins "int" = some (.type "int"):=by decide +kernel
theorem oY:bootBuiltins "tuple" = some (.type "tuple"):=by decide +kernel
theorem Yu:bootBuiltins "list" = some (.type "list"):=by decide +kernel
theorem N7:bootBuiltins "len" = some (.builtin "len"):=by decide +kernel
theorem ab2:bootBuiltins "abs" = some (.builtin "abs"):=by decide +kernel
theorem U3:bootBuiltins "all" = some (.builtin "all"):=by decide +kernel
theorem N8:bootBuiltins "min" = some (.builtin "min"):=by decide +kernel
theorem zp:bootBuiltins "max" = some (.builtin "max"):=by decide +kernel
theorem zq:bootBuiltins "sorted" = some (.builtin "sorted"):=by decide +kernel
section
variable {X:Cx} {pins:List (Addr×Obj)} {σ:L2.St} {H:Hp} {s:Shared}
def tFO (K:PySem.W.Frag) (f:Ev->Option (Option Int)):TO:=fun σ H Q=>∃ H0 ρ o,cQ K H0 H σ ρ/\f ρ=some o/\∀ H',Same H H'->Q o H'
def PVo (X:Cx) (e:Option Expr) (f:Ev->Option (Option Int)):Prop:=PO X e (tFO X.K f)
theorem poM {e:Option Expr} {t t':TO} (h:PO X e t) (m:∀ σ H Q,t' σ H Q->t σ H Q):PO X e t':=fun pins s σ H Q I q=>h pins s σ H Q I (m σ H Q q)
def ju:Ev->Option (Option Int):=fun _=>some none
theorem U4:PVo X none ju:=poM Xn fun σ H Q h=>by
 obtain⟨H0,ρ,o,E,e,q⟩:=h
 cases e
 exact q H (Same.refl H)
def ab3:Bx->Option (Option Int)
 |.z (.int i)=>some (some i)
 |_=>none
def lQ (f:Ev->Option Bx):Ev->Option (Option Int):=fun ρ=>(f ρ).bind ab3
theorem U5 {e:Expr} {f:Ev->Option Bx} (h:PV X e f):PVo X (some e) (lQ f):=poM (Xo h) fun σ H Q q=>by
 obtain⟨H0,ρ,o,E,e,q⟩:=q
 obtain⟨b,eb,e⟩:=bind_some e
 refine⟨H0,ρ,b,E,eb,fun v H1 s1 n1 r1=>?_⟩
 unfold ab3 at e
 split at e
 ·rename_i i
  cases e
  exact⟨i,IW r1,q H1 s1⟩
 ·cases e
def cutD (xs:List Dt) (lo hi:Option Int):List Dt:=(xs.drop (HT.jr xs.length 0 lo)).take (HT.jr xs.length xs.length hi - HT.jr xs.length 0 lo)
theorem K6 {K:PySem.W.Frag} {H:Hp} {ds:List Dt} {vs:List V} (r:aO K H ds vs) (lo hi:Option Int):aO K H (cutD ds lo hi) (KC vs lo hi):=by
 unfold cutD KC
 rw[r.length]
 exact (r.drop _).take _
theorem U6 (ds:List Dt) {lo hi:Option Int} (h1:HT.jr ds.length 0 lo=0) (h2:HT.jr ds.length ds.length hi=ds.length):cutD ds lo hi=ds:=by
 unfold cutD
 rw[h1,h2]
 simp
theorem yh {t sl:Addr} {items:Array Value} {vl vu:Value} {lo hi:Option Int} {Q:Value->Shared->Prop} {prog:Program} {w:World} {A:Around} {E:Value->Shared->Prop} {s:Shared} (ht:IsTup s.heap t items) (hs:s.heap.IsSliceOf sl vl vu .none) (pl:IsPart vl lo) (pu:IsPart vu hi)
  (h1:HT.jr items.size 0 lo=0) (h2:HT.jr items.size items.size hi=items.size)
  (h:Q (.ref t) s):wpAny (model prog w) A (getItem (.ref t) (.ref sl)) Q E s:=by
 obtain⟨os,hos,hcs,hds⟩:=id hs
 have hTs:s.TypeIs (.ref sl) "slice" := ⟨os,hos,hcs⟩
 unfold getItem
 try with_reducible refine wpAny_holding ?_
 first|refine wpAny_bind (wpAny_pure ?_)|skip
 refine wpAny_bind (wpAny_sequenceKey ht.typeIs (by decide) ?_)
 refine wpAny_bind (wpAny_callSpecial?_slot (name:=Str.ofString "__getitem__") ht.typeIs PyProof.Rows.slot_tuple_getitem
  (wpAny_call_entry PyProof.Rows.slot_tuple_getitem ht.typeIs entry_tuple_getitem ?_ (args_tuple_getitem _ _)))
 show wpAny _ _ (Builtin.Tuple.tupleItemsOf (.ref t) >>= _) _ _ s
 refine wpAny_bind (tupleItemsOf_ ht ?_)
 refine wpAny_bind (wpAny_typeOf hTs ?_)
 rw[if_pos (by decide)]
 refine wpAny_bind (HT.qp hs pl pu ?_)
 have hyes:(((HT.jr items.size 0 lo:Nat):Int)==0&&(1:Int)==1&&(HT.jr items.size items.size hi - HT.jr items.size 0 lo)==items.size)=true:=by
  rw[h1,h2];simp
 show wpAny _ _ (if (((HT.jr items.size 0 lo:Nat):Int)==0&&(1:Int)==1&&(HT.jr items.size items.size hi - HT.jr items.size 0 lo)==items.size)=true then _ else _) _ _ s
 rw[if_pos hyes]
 first
  |refine wpAny_bind (wpAny_bind (wpAny_typeOf ht.typeIs (wpAny_pure ?_)))
  |refine wpAny_bind (wpAny_typeOf ht.typeIs (wpAny_bind (wpAny_pure ?_)))
  |refine wpAny_bind (wpAny_typeOf ht.typeIs ?_)
 rw[if_pos (by decide)]
 first
  |exact wpAny_bind (wpAny_rule (wpAny_pure ⟨_,rfl,wpAny_pure h⟩))
  |exact wpAny_bind (wpAny_rule (wpAny_bind (wpAny_pure (wpAny_pure ⟨_,rfl,wpAny_pure h⟩))))
def slB (b:Bx) (lo hi:Option Int):Option Bx:=match b with
 |.z (.str x)=>some (.z (.str (Txt.slice x lo hi)))
 |.z (.tup ds)=>some (.z (.tup (cutD ds lo hi)))
 |b=>(qt b).bind fun ds=>some (.o (cutD ds lo hi))
def rSl (K:PySem.W.Frag):V->Option Int->Option Int->Hp->VK->Prop:=fun x lo hi H Q=>∃ b c,bN K H b x/\slB b lo hi=some c/\∀ w H',Same H H'->Nw H c w->bN K H' c w->Q w H'
theorem ab5:Z1 X (rSl X.K):=by
 intro pins s σ H x v vl vu lo hi sl Q I rx hs pl pu h
 obtain⟨b,c,rb,e,q⟩:=h
 unfold slB at e
 split at e
 ·rename_i y
  cases e
  obtain⟨rfl,hy⟩:=Rz rb
  obtain⟨t,rfl⟩:=rx
  refine⟨"str", _,F.slot_str_getitem.lookup,typeIs_str _ _ _,?_⟩
  obtain⟨o,e1,e2,e3⟩:=hs
  have fin:∀ t' k,EP X pins σ Q (.str (Txt.slice y lo hi) t') { s with toks:=k }:=fun t' k=>⟨.str _,H,I.tok _,⟨_,rfl⟩,q _ H (Same.refl H) trivial (Yp (Nat.le_trans (Txt.slice_le y _ _) hy))⟩
  cases pl with
  |none=>
   cases pu with
   |none=>exact wpAny_getItem_str_slice (l:=none) (u:=none) (st:=none) ⟨o,e1,e2,e3⟩ rfl (post_val_or_str ⟨Nat.le_trans (Txt.slice_le y _ _) hy,fin⟩)
   |int j uj=>exact wpAny_getItem_str_slice (l:=none) (u:=some (j,uj)) (st:=none) ⟨o,e1,e2,e3⟩ rfl (post_val_or_str ⟨Nat.le_trans (Txt.slice_le y _ _) hy,fin⟩)
  |int i ui=>
   cases pu with
   |none=>exact wpAny_getItem_str_slice (l:=some (i,ui)) (u:=none) (st:=none) ⟨o,e1,e2,e3⟩ rfl (post_val_or_str ⟨Nat.le_trans (Txt.slice_le y _ _) hy,fin⟩)
   |int j uj=>exact wpAny_getItem_str_slice (l:=some (i,ui)) (u:=some (j,uj)) (st:=none) ⟨o,e1,e2,e3⟩ rfl (post_val_or_str ⟨Nat.le_trans (Txt.slice_le y _ _) hy,fin⟩)
 ·rename_i ds
  cases e
  obtain⟨a,vs,rfl,sq,rs⟩:=inT rb
  by_cases hw:HT.jr vs.length 0 lo=0/\HT.jr vs.length vs.length hi=vs.length
  ·cases rx
   obtain⟨its,r,ht,hz⟩:=I.tuple sq
   have hlen:its.toArray.size=vs.length:=by rw[List.size_toArray];exact r.length.symm
   refine⟨"tuple", _,PyProof.Rows.slot_tuple_getitem.lookup,ht.typeIs,yh ht hs pl pu (by rw[hlen];exact hw.1) (by rw[hlen];exact hw.2) ⟨.ref a,H,I,rfl,q _ H (Same.refl H) trivial ?_⟩⟩
   rw[U6 ds (by rw[<-rs.length];exact hw.1) (by rw[<-rs.length];exact hw.2)]
   exact rb
  ·refine abe pins s σ H _ v vl vu lo hi sl Q I rx hs pl pu ⟨a,vs,rfl,sq,hw,fun p hp=>q _ _ (cV hp) trivial ?_⟩
   unfold bN Rep
   exact⟨p,_,rfl,.inl (.inl cG),(K6 rs lo hi).kp (.of (cV hp))⟩
 ·obtain⟨ds,ed,e⟩:=bind_some e
  cases e
  obtain⟨a,vs,rfl,sq,rs⟩:=rb.Hf ed
  exact Xv pins s σ H _ v vl vu lo hi sl Q I rx hs pl pu ⟨a,vs,rfl,sq,fun p hp=>q _ _ (cV hp) (fun a ea=>by cases ea;exact hp) ⟨p,_,rfl,cG,(K6 rs lo hi).kp (.of (cV hp))⟩⟩
def BP (f:Ev->Option Bx) (fl fh:Ev->Option (Option Int)):Ev->Option Bx:=fun ρ=>(f ρ).bind fun b=>(fl ρ).bind fun lo=>(fh ρ).bind fun hi=>slB b lo hi
theorem aem {e:Expr} {lo hi:Option Expr} {f:Ev->Option Bx} {fl fh:Ev->Option (Option Int)} {p2 pos:Pos} (he:PV X e f) (hl:PVo X lo fl) (hh:PVo X hi fh):PV X (.Subscript e (.Slice lo hi none p2) pos) (BP f fl fh):=Ng (T6 ab5 he hl hh) fun σ H Q h=>by
 obtain⟨H0,ρ,c,E,e,q⟩:=h
 obtain⟨b,eb,e⟩:=bind_some e
 obtain⟨lo,el,e⟩:=bind_some e
 obtain⟨hi,eh,e⟩:=bind_some e
 refine⟨H0,ρ,b,E,eb,fun v H1 s1 n1 r1=>⟨H0,ρ,lo,E.grow s1,el,fun H2 s2=>⟨H0,ρ,hi,E.grow (s1.trans s2),eh,fun H3 s3=>?_⟩⟩⟩
 have s13:=(s1.trans s2).trans s3
 exact⟨b,c,(r1.same s2).same s3,e,fun w H4 s4 n4 r4=>q w H4 (s13.trans s4) (n4.old s13) r4⟩
def zu:List Bx->Option Bx
 |[.z (.str x)]=>some (.z (.int x.length))
 |[b]=>(wY b).bind fun ds=>some (.z (.int ds.length))
 |_=>none
theorem rep1 {K:PySem.W.Frag} {H:Hp} {b:Bx} {vs:List V} (r:n8 K H [b] vs):∃ v,vs=[v]/\bN K H b v:=by
 cases r with
 |cons p t=>cases t;exact⟨_,rfl,p⟩
theorem Oa:oW X (.builtin "len") zu:=jq.imp (Io.or Ip) fun xs H Q q=>by
 obtain⟨bs,c,rb,e,q⟩:=q
 unfold zu at e
 split at e
 ·rename_i x
  cases e
  obtain⟨v,rfl,r1⟩:=rep1 rb
  obtain⟨rfl,hx⟩:=Rz r1
  exact .inr ⟨x,rfl,hx,q _ H (Same.refl H) trivial Av⟩
 ·obtain⟨ds,ed,e⟩:=bind_some e
  cases e
  obtain⟨v,rfl,r1⟩:=rep1 rb
  obtain⟨p,vs,rfl,sq,rs⟩:=yg r1 ed
  exact .inl ⟨p,vs,rfl,sq,by rw[rs.length];exact q _ H (Same.refl H) trivial Av⟩
 ·cases e
def RK:List Bx->Option Bx
 |[.z (.int i)]=>some (.z (.int (if i < 0 then -i else i)))
 |_=>none
theorem ab6:oW X (.builtin "abs") RK:=jq.imp TY fun xs H Q q=>by
 obtain⟨bs,c,rb,e,q⟩:=q
 unfold RK at e
 split at e
 ·rename_i i
  cases e
  obtain⟨v,rfl,r1⟩:=rep1 rb
  have:=IW r1
  subst this
  exact⟨i,rfl,q _ H (Same.refl H) trivial Av⟩
 ·cases e
def U7:List Bx->Option Bx
 |[.z (.int i)]=>some (.z (.int i))
 |[.z (.bl k)]=>some (.z (.int (if k then 1 else 0)))
 |_=>none
theorem ab7:oW X (.type "int") U7:=jq.imp Rh fun xs H Q q=>by
 obtain⟨bs,c,rb,e,q⟩:=q
 unfold U7 at e
 split at e
 ·rename_i i
  cases e
  obtain⟨v,rfl,r1⟩:=rep1 rb
  have:=IW r1
  subst this
  exact .inl ⟨i,rfl,q _ H (Same.refl H) trivial Av⟩
 ·rename_i k
  cases e
  obtain⟨v,rfl,r1⟩:=rep1 rb
  simp only[bN,Rep] at r1
  subst r1
  exact .inr ⟨k,rfl,q _ H (Same.refl H) trivial Av⟩
 ·cases e
def kW:List Bx->Option Bx
 |[b]=>(wY b).bind fun ds=>some (.z (.tup ds))
 |_=>none
theorem oZ:oW X (.type "tuple") kW:=jq.imp FN fun xs H Q q=>by
 obtain⟨bs,c,rb,e,q⟩:=q
 unfold kW at e
 split at e
 ·obtain⟨ds,ed,e⟩:=bind_some e
  cases e
  obtain⟨v,rfl,r1⟩:=rep1 rb
  obtain⟨p,vs,rfl,sq,rs⟩:=yg r1 ed
  refine⟨p,vs,rfl,?_⟩
  rcases sq with sq|sq
  ·refine .inl ⟨sq,fun l hl=>q _ _ (cV hl) trivial ?_⟩
   unfold bN Rep
   exact⟨l,vs,rfl,.inl (.inl cG),rs.kp (.of (cV hl))⟩
  ·refine .inr ⟨sq,q _ H (Same.refl H) trivial ?_⟩
   unfold bN Rep
   exact⟨p,vs,rfl,sq,rs⟩
 ·cases e
def Hl:List Dt->Option (List Bool)
 |[]=>some []
 |.bl b::ds=>(Hl ds).bind fun bs=>some (b::bs)
 |_=>none
theorem CG {K:PySem.W.Frag} {H:Hp}:∀ {ds:List Dt} {bs:List Bool} {vs:List V} {us:List Value},Hl ds=some bs->aO K H ds vs->Vals vs us->us=bs.map Value.bool
 |[],_,_,_,e,r,w=>by
  cases e
  simp only[aO] at r;subst r;cases w;rfl
 |d::ds,_,_,_,e,r,w=>by
  simp only[aO] at r
  obtain⟨v,r',rfl,h1,h2⟩:=r
  cases d<;>first|(cases e;done)|skip
  simp only[Hl] at e
  obtain⟨bs,e1,e⟩:=bind_some e
  cases e
  simp only[Rep] at h1
  subst h1
  cases w with
  |cons p t=>
   cases p
   rw[CG e1 h2 t]
   rfl
theorem all_range (bs:List Bool):((List.range bs.length).all fun i=>bs.getD i false)=bs.all id:=by
 rw[Bool.eq_iff_iff,List.all_eq_true,List.all_eq_true]
 constructor
 ·intro h b hb
  obtain⟨i,hi,rfl⟩:=List.mem_iff_getElem.mp hb
  have:=h i (by simpa using hi)
  simpa [List.getD,hi] using this
 ·intro h i hi
  have hi:i < bs.length:=by simpa using hi
  have:=h bs[i] (List.getElem_mem hi)
  simpa [List.getD,hi] using this
def allB:List Bx->Option Bx
 |[b]=>(qt b).bind fun ds=>(Hl ds).bind fun bs=>some (.z (.bl (bs.all id)))
 |_=>none
theorem K7 {prog:Program} {w:World} {A:Around} (bs:List Bool):TruthOf prog w A (fun i v=>(bs.map Value.bool).toArray[i]?=some v) fun i=>bs.getD i false:=fun i v s Q E h q=>by
 have h':(bs.map Value.bool)[i]?=some v:=by simpa using h
 rw[List.getElem?_map] at h'
 cases e:bs[i]? with
 |none=>rw[e] at h';cases h'
 |some b=>
  rw[e] at h'
  cases h'
  have:bs.getD i false=b:=by simp[List.getD,e]
  have q':Q b s:=by rw[<-this];exact q
  exact wpAny_truthy_bool q'
theorem U8 (hc:X.calm=true):oW X (.builtin "all") allB:=by
 intro pins s σ H xs us Q I r h
 obtain⟨bs,c,rb,e,q⟩:=h
 unfold allB at e
 split at e
 ·obtain⟨ds,ed,e⟩:=bind_some e
  obtain⟨ks,ek,e⟩:=bind_some e
  cases e
  obtain⟨v,rfl,r1⟩:=rep1 rb
  obtain⟨a,vs,rfl,sq,rs⟩:=r1.Hf ed
  obtain⟨u,rfl,ru⟩:=vals1 r
  cases ru
  obtain⟨its,w,pl,hz⟩:=I.list sq
  have hv:=CG ek rs w
  have hlt:a < s.heap.objs.size:=by obtain⟨o,n,e,_⟩:=pl;exact Heap.lt_size e
  refine call_all_walk (wpAny_pyIter_list pl.isList ?_)
  refine⟨s.heap.objs.size,_,_,_,_,_,fun i=>ks.getD i false,rfl,Walks.list (by show X.A.handled=none;exact I.ok.hd hc) s.heap.objs.size a (Nat.ne_of_lt hlt) its.toArray,⟨⟨_,Heap.get?_push_size _ rfl,rfl,rfl⟩,pl.isList.push _⟩,?_,fun h' tk k=>?_⟩
  ·rw[hv];exact K7 ks
  ·have hn:its.toArray.size=ks.length:=by rw[hv];simp
   rw[hn,all_range]
   have I1:L2.Inv X pins σ H { s with heap:=s.heap.push { cls:=.type "list_iterator", data:=.fields #[.ref a,.int 0 0] } }:=I.kept (t':=s.toks) fun b o e=>Heap.get?_push_of_some _ e
   refine⟨.bl _,H,?_,rfl,q _ H (Same.refl H) trivial Yo⟩
   obtain⟨f0,f1,f2,f3,f4,f5⟩:=I.Q9 (b:=s.heap.objs.size) (H':=H) (Nat.le_refl _) (I.hok.fresh (Nat.le_refl _))
   exact I1.turned (it:=s.heap.objs.size) (fun b o hb e=>k b o (by simpa using hb) e) f0 f1 f3 f4 f5
 ·cases e
end
end P1
end
section
namespace P1
open PySem PySem.Spec PyProof.Rows L2
def gv (i:Nat):Ev->Option Bx:=fun ρ=>xW ρ i
def qy (g:Bx->Bx->Option Bx) (fa fb:Ev->Option Bx):Ev->Option Bool:=fun ρ=>(b2 g fa fb ρ).bind Rt
def tV (f:Ev->Option Bx):Ev->Option Bool:=fun ρ=>(f ρ).bind Uj
def aR:Ev->Option (List Bx):=fun _=>some []
def jD:Ev->Option Out:=fun ρ=>some (.nx ρ)
def kY (f:Ev->Option Bx):Ev->Option Out:=fun ρ=>(f ρ).bind Rw
def setG (i:Nat) (f:Ev->Option Bx):Ev->Option Out:=fun ρ=>(f ρ).bind fun b=>(NQ ρ i b).bind fun ρ'=>some (.nx ρ')
def RM (gt:Dt->Ev->Option Ev) (f:Ev->Option Bx):Ev->Option Out:=fun ρ=>(f ρ).bind fun b=>match b with|.z d=>(gt d ρ).bind fun ρ'=>some (.nx ρ')|_=>none
def Yv (i j:Nat) (fs:Ev->Option (List Bx)):Ev->Option Out:=fun ρ=>(fs ρ).bind (Ur i j ρ)
def K8 (i:Nat) (f:Ev->Option Bx):Ev->Option Out:=fun ρ=>(f ρ).bind (Us ρ i)
def qz (fi:Ev->Option (List Dt)) (gt:Dt->Ev->Option Ev) (gb:Ev->Option Out):Ev->Option Out:=fun ρ=>(fi ρ).bind fun ds=>pD gt gb ds ρ
def itF (f:Ev->Option Bx):Ev->Option (List Dt):=fun ρ=>(f ρ).bind Ut
def Ab (f:Ev->Option Bx):Ev->Option (List Dt):=fun ρ=>(f ρ).bind UG
def Qd (fs:Ev->Option (List Bx)):Ev->Option (List Dt):=fun ρ=>(fs ρ).bind Yd
def jX (i:Nat):Dt->Ev->Option Ev:=fun d ρ=>some (ρ.set i (some (.z d)))
def rD:Ev->Option Bool:=fun _=>some true
theorem RN {X:Cx}:Tests X [] rD:=.inl ⟨rfl,rfl⟩
theorem RP {X:Cx} {c:Expr} {p:Ev->Option Bool} (h:PB X c p):Tests X [c] p:=.inr ⟨c,rfl,h⟩
theorem iG {X:Cx} {scope:Scope} {cl:List (Str×Addr)}:Ar X scope cl [] []:=trivial
theorem fK {X:Cx} {scope:Scope} {cl:List (Str×Addr)} {x:Str} {i:Nat} {xs:List Str} {is:List Nat} (n:X.N[i]?=some x) (k:X.env.kindOf x=some .cell\/X.env.kindOf x=some .free)
  (k':(relabel scope X.env).names.lookup x=some .cell\/(relabel scope X.env).names.lookup x=some .free) (c:∃ c,cl.lookup x=some c) (r:Ar X scope cl xs is):Ar X scope cl (x::xs) (i::is):=⟨⟨n,k,k',c⟩,r⟩
theorem mem_of_lookup {names:List (Str×NameKind)} {x:Str} {k:NameKind}:names.lookup x=some k->(x,k)∈names:=PySem.mem_of_lookup
theorem iH {X:Cx} {scope:Scope} {cl:List (Str×Addr)} {xs:List Str} {is:List Nat} (clos:closureFor scope X.env=pure cl) (kind:scope.kind=.function) (cell:scope.names.all (fun y=>decide (y.2≠.cell))=true)
  (names:scope.names.all (fun y=>decide (y.2=.local->scope.names.lookup y.1=some .local))=true) (sub:SubL X.env.cells cl)
  (has:(relabel scope X.env).names.all (fun y=>!(y.2==.cell||y.2==.free)||(cl.lookup y.1).isSome)=true) (cap:Ar X scope cl xs is):wV X scope cl xs is where
 clos:=clos
 kind:=kind
 cell:=fun y hy=>of_decide_eq_true (List.all_eq_true.mp cell y hy)
 names:=fun y hy=>of_decide_eq_true (List.all_eq_true.mp names y hy)
 sub:=sub
 has:=fun x hx=>by
  have h:∃ k,(relabel scope X.env).names.lookup x=some k/\(k==NameKind.cell||k==NameKind.free)=true:=by
   rcases hx with hx|hx
   ·exact⟨_,hx,rfl⟩
   ·exact⟨_,hx,rfl⟩
  obtain⟨k,e,hk⟩:=h
  have:=List.all_eq_true.mp has _ (mem_of_lookup e)
  simp only[hk,Bool.not_true,Bool.false_or] at this
  exact Option.isSome_iff_exists.mp this
 cap:=cap
theorem iU {k:Nat} {A:Around} (r:kJ k A):A.units+100 < cLine:=by have:=r.un;omega
theorem ab8 {F:List Bx->Option Bx} (h:∀ ns:List Int,ns.length<=63->F [.z (.lst (ns.map .int))]=some (.z (.bl true))) (hl:∀ ns:List Int,ns.length<=63->F [.l (ns.map .int)]=some (.z (.bl true))) (K:PySem.W.Frag) (H:Hp) (a:Addr) (ns:List Int) (hn:ns.length<=63) (_:Only H) (hS:uz K H a (ns.map V.int)) :
  qx K 1 F [.ref a] H (fun v _=>v=.bl true) fun _ _ _=>False:=by
 have rs:∀ ms:List Int,aO K H (ms.map Dt.int) (ms.map V.int):=fun ms=>by
  induction ms with
  |nil=>exact aO.nil
  |cons m ms ih=>exact aO.cons (by unfold Rep;rfl) ih
 have fin:∀ v (H':Hp),Same H H'->Nw H (.z (.bl true)) v->bN K H' (.z (.bl true)) v->v=.bl true:=fun v H' _ _ r=>by simpa only[bN,Rep] using r
 rcases hS with hS|hS
 ·exact⟨rfl,[.l (ns.map .int)],_,.cons ⟨a,_,rfl,hS,rs ns⟩ .nil,rfl,hl ns hn,fin⟩
 ·refine⟨rfl,[.z (.lst (ns.map .int))],_,.cons ?_ .nil,rfl,h ns hn,fin⟩
  unfold bN Rep
  exact⟨a,_,rfl,.inr hS,rs ns⟩
theorem af5 {P:Program} {w:World} {K:PySem.W.Frag} {mg:Str->Option Value} {base:Heap} {x qual:Str} {st:Stmt} {f:Addr} {fd:FuncData} {N ps:List Str} {k n m:Nat} {g:Ev->Option Out} (F:Bw K x qual st f fd) (S:fB N ps (aW st)) (hn:N.length=n) (hm:ps.length=m)
  (hbody:∀ (cdv:Value) (A:Around) (outer:List Env) (s:Shared) (H:Hp) (E:XK),kJ k (A.deeper (envOfC qual (aW st) s.heap.objs.size f cdv))->GQ (Fz nC P w K mg base N qual (aW st) f cdv A outer s H E).Te (dO st) g) :
  fG P w K mg base nC (k+1) f fd ps (qx K m (kO n g)):=by
 subst hn hm
 exact af4 F S hbody
section
variable {X:Cx} {e st:Expr} {f fs:Ev->Option Bx} {pos p2:Pos}
section
variable {prog:Program} {w:World} {A:Around} {E:Value->Shared->Prop} {s:Shared}
theorem Jd {α β:Type} {f:α->Option β} {g:α->β}:∀ l:List α,(∀ a∈l,f a=some (g a))->l.filterMap f=l.map g
 |[],_=>rfl
 |a::l,h=>by
  rw[List.filterMap_cons,h a (List.mem_cons_self ..),List.map_cons,Jd l fun b hb=>h b (List.mem_cons_of_mem _ hb)]
end
end
section
variable {X:Cx} {e:Expr} {f:Ev->Option Bx}
def ltA:Bx->Bx->Option Bx
 |.z (.int i),.z (.int j)=>some (.z (.bl (decide (i < j))))
 |.z (.str x),.z (.str y)=>some (.z (.bl (decide (x.cps.toList < y.cps.toList))))
 |_,_=>none
theorem U9:Fx X (compareOp .Lt) ltA:=by
 intro pins s σ H x y v u Q I rx ry h
 obtain⟨a,b,c,ra,rb,e,q⟩:=h
 unfold ltA at e
 split at e
 ·rename_i i j
  cases e
  exact adE pins s σ H x y v u Q I rx ry ⟨i,j,IW ra,IW rb,q _ H (Same.refl H) trivial (by unfold bN;exact okT)⟩
 ·rename_i i j
  cases e
  obtain⟨rfl,_⟩:=Rz ra
  obtain⟨rfl,_⟩:=Rz rb
  obtain⟨t,rfl⟩:=rx
  obtain⟨t',rfl⟩:=ry
  exact PySem.P.lt_str ⟨.bl _,H,I,rfl,q _ H (Same.refl H) trivial (by unfold bN;exact okT)⟩
 ·cases e
def CJ:List Dt->Option (List Str)
 |[]=>some []
 |.str x::r=>(CJ r).bind fun ys=>some (x::ys)
 |_=>none
theorem zx {K:PySem.W.Frag} {H:Hp}:∀ {ds:List Dt} {vs:List V} {ys:List Str},aO K H ds vs->CJ ds=some ys->vs=ys.map V.str/\∀ y∈ys,y.length<=sizeLine
 |[],_,_,h,e=>by cases e;simp only[aO] at h;subst h;exact⟨rfl,fun y hy=>by cases hy⟩
 |.str x::ds,_,_,h,e=>by
  simp only[CJ] at e
  obtain⟨ys,e1,e2⟩:=bind_some e
  cases e2
  simp only[aO] at h
  obtain⟨v,r,rfl,hd,hr⟩:=h
  obtain⟨rfl,hx⟩:v=.str x/\x.length<=sizeLine:=by simpa only[Rep] using hd
  obtain⟨rfl,h2⟩:=zx hr e1
  refine⟨rfl,fun y hy=>?_⟩
  rcases List.mem_cons.mp hy with rfl|hy
  ·exact hx
  ·exact h2 y hy
 |.non::_,_,_,_,e=>by cases e
 |.bl _::_,_,_,_,e=>by cases e
 |.int _::_,_,_,_,e=>by cases e
 |.tup _::_,_,_,_,e=>by cases e
 |.lst _::_,_,_,_,e=>by cases e
 |.emp::_,_,_,_,e=>by cases e
theorem CK {K:PySem.W.Frag} {H:Hp}:∀ {ys:List Str},(∀ y∈ys,y.length<=sizeLine)->aO K H (ys.map Dt.str) (ys.map V.str)
 |[],_=>aO.nil
 |y::ys,h=>aO.cons (by unfold Rep;exact⟨rfl,h y (List.mem_cons_self ..)⟩) (CK fun z hz=>h z (List.mem_cons_of_mem _ hz))
theorem wZ:∀ {ys:List Str} {its:List Value},Vals (ys.map V.str) its->StrsAre its ys
 |[],_,h=>by cases h;exact .nil
 |y::ys,_,h=>by
  cases h with
  |cons r t=>
   obtain⟨tk,rfl⟩:=r
   exact .cons y tk (wZ t)
theorem zy:∀ {its:List Value} {ys:List Str},StrsAre its ys->Vals (ys.map V.str) its
 |_,_,.nil=>.nil
 |_,_,.cons y t h=>.cons ⟨t,rfl⟩ (zy h)
theorem Je:jq X (.builtin "sorted") (fun xs H Q=>∃ p ys,xs=[.ref p]/\uz X.K H p (ys.map V.str)/\ys.length < 64/\∀ l zs,H l=none->zs.Perm ys->sortedS zs=true->Q (.ref l) (upd H l (.lst (zs.map V.str)))):=by
 intro pins s σ H xs us Q I r h
 obtain⟨p,ys,rfl,hq,h64,q⟩:=h
 obtain⟨u,rfl,rx⟩:=vals1 r
 cases rx
 obtain⟨its,r',pl,hz⟩:=I.list hq
 have hlen:=r'.length
 rw[List.length_map] at hlen hz
 refine sorted_strs pl.isList (wZ r') (by omega) fun out zs hs hp aen=>?_
 obtain⟨n,en⟩:=sortedAll_at s.heap its out
 refine⟨.ref (s.heap.objs.size+1),_,I.laid (t':=s.toks) (a:=s.heap.objs.size+1) (o:=.lst (zs.map V.str)) (fun b o e=>sortedAll_old e) (Nat.le_succ _) ?_,rfl,q _ zs (I.hok.fresh (Nat.le_succ _)) hp aen⟩
 refine⟨by rw[List.length_map,hp.length_eq];exact hz,out.toList,n,zy hs,?_⟩
 rw[en]
def sS (a b:Str):Prop:=ltCps b.cps.toList a.cps.toList=false
theorem yj:∀ (p:Str) (l:List Str),risingS p l=true->(p::l).Pairwise sS
 |p,[],_=>by simp
 |p,x::r,h=>by
  have h':(!ltCps x.cps.toList p.cps.toList&&risingS x r)=true:=h
  rw[Bool.and_eq_true] at h'
  have ih:=yj x r h'.2
  have hx:sS p x:=by simpa [sS] using h'.1
  refine List.pairwise_cons.mpr ⟨fun y hy=>?_,ih⟩
  rcases List.mem_cons.mp hy with rfl|hy
  ·exact hx
  ·have hxy:sS x y:=List.rel_of_pairwise_cons ih hy
   unfold sS at hx hxy ⊢
   rw[ltCps_eq] at hx hxy ⊢
   simp only[decide_eq_false_iff_not] at hx hxy ⊢
   exact List.le_trans (α:=Nat) hx hxy
theorem Jf {l:List Str} (h:sortedS l=true):l.Pairwise sS:=by
 cases l with
 |nil=>exact .nil
 |cons p l=>exact yj p l h
theorem CN {a b:Str} (h:sS a b) (h':sS b a):a=b:=by
 unfold sS at h h'
 rw[ltCps_eq] at h h'
 simp only[decide_eq_false_iff_not] at h h'
 have:=List.le_antisymm (as:=a.cps.toList) (bs:=b.cps.toList) h h'
 cases a;cases b
 simp only[Str.mk.injEq]
 exact Array.toList_inj.mp this
theorem Jg:∀ {l l':List Str},l.Perm l'->l.Pairwise sS->l'.Pairwise sS->l=l'
 |[],l',h,_,_=>by rw[List.nil_perm.mp h]
 |a::l,[],h,_,_=>by cases List.perm_nil.mp h
 |a::l,b::l',h,p,p'=>by
  have e:a=b:=by
   have ha:a∈b::l':=h.mem_iff.mp (List.mem_cons_self ..)
   have hb:b∈a::l:=h.mem_iff.mpr (List.mem_cons_self ..)
   rcases List.mem_cons.mp ha with h1|h1
   ·exact h1
   ·rcases List.mem_cons.mp hb with h2|h2
    ·exact h2.symm
    ·exact CN (List.rel_of_pairwise_cons p h2) (List.rel_of_pairwise_cons p' h1)
  subst e
  rw[Jg ((List.perm_cons a).mp h) (List.pairwise_cons.mp p).2 (List.pairwise_cons.mp p').2]
def RQ (a b:Str):Bool:=!ltCps b.cps.toList a.cps.toList
def mX (ys:List Str):List Str:=ys.mergeSort RQ
theorem j8 (ys:List Str):(mX ys).Perm ys:=List.mergeSort_perm ys RQ
theorem w5 (ys:List Str):(mX ys).Pairwise sS:=by
 have h:=List.pairwise_mergeSort (le:=RQ) (fun a b c h1 h2=>by
  unfold RQ at *
  rw[ltCps_eq] at *
  simp only[Bool.not_eq_true',decide_eq_false_iff_not] at *
  exact List.le_trans (α:=Nat) h1 h2) (fun a b=>by
  unfold RQ
  rw[ltCps_eq,ltCps_eq]
  simp only[Bool.or_eq_true,Bool.not_eq_true',decide_eq_false_iff_not]
  exact List.le_total a.cps.toList b.cps.toList) ys
 exact h.imp fun {a b} hh=>by simpa [RQ,sS] using hh
theorem Va {ys zs:List Str} (hp:zs.Perm ys) (hs:sortedS zs=true):zs=mX ys:=Jg (hp.trans (j8 ys).symm) (Jf hs) (w5 ys)
def CP:List Bx->Option Bx
 |[b]=>(qt b).bind fun ds=>(CJ ds).bind fun ys=>if ys.length < 64 then some (.o ((mX ys).map Dt.str)) else none
 |_=>none
theorem Ho:oW X (.builtin "sorted") CP:=jq.imp Je fun xs H Q q=>by
 obtain⟨bs,c,rb,e,q⟩:=q
 unfold CP at e
 split at e
 ·rename_i b
  obtain⟨ds,ed,e⟩:=bind_some e
  obtain⟨ys,ey,e⟩:=bind_some e
  split at e
  ·rename_i h64
   cases e
   obtain⟨v,rfl,r1⟩:=rep1 rb
   obtain⟨p,vs,rfl,sq,rs⟩:=r1.Hf ed
   obtain⟨rfl,hy⟩:=zx rs ey
   refine⟨p,ys,rfl,sq,h64,fun l zs hl hp hs=>?_⟩
   rw[Va hp hs]
   refine q _ _ (cV hl) (fun a ea=>by cases ea;exact hl) ⟨l,_,rfl,cG,CK fun y h=>hy y ((j8 ys).mem_iff.mp h)⟩
  ·cases e
 ·cases e
def CQ (x:Str) (b:Bx):Option Bx:=(qt b).bind fun ds=>(CJ ds).bind fun ys=>if (ys.map (·.length)).sum+ys.length * x.length<=100000 then some (.z (.str (Txt.join x ys))) else none
theorem Yw:MtR X "str.join" (fun x xs H Q=>∃ y p ys,x=.str y/\xs=[.ref p]/\uz X.K H p (ys.map V.str)/\(ys.map (·.length)).sum+ys.length * y.length<=100000/\Q (.str (Txt.join y ys)) H):=by
 intro pins s σ H x xs v us Q I rx rs h
 obtain⟨y,p,ys,rfl,rfl,sq,hb,q⟩:=h
 obtain⟨t,rfl⟩:=rx
 obtain⟨u,rfl,ru⟩:=vals1 rs
 cases ru
 obtain⟨its,r',pl,hz⟩:=I.list sq
 exact join_list pl.isList (wZ r') (by omega) fun t' k=>⟨.str _,H,I.tok _,⟨_,rfl⟩,q⟩
theorem Yx {x:Str} {j:Nat} {p1 apos cpos:Pos} (h:PV X e f) (hx:x.length<=sizeLine:=by decide) (hbase:attributeBase (.Constant (.str x) j p1) "join" X.env (eval (.Constant (.str x) j p1) X.env)=eval (.Constant (.str x) j p1) X.env:=by rfl)
  (hfew:((backTo cpos (starEach [e] X.env)).all (fun x=>!x.1)&&(backToKw cpos (keywordEach [] X.env)).all (fun x=>x.1.isSome)&&decide ([e].length+([]:List Keyword).length+(if ([]:List Keyword).isEmpty then 0 else 1) < 30))=true:=by rfl)
  (hline:(apos.endLine==cpos.line)=true:=by rfl) (hs:starEach [e] X.env=(false,eval e X.env)::starEach [] X.env:=by rfl):PV X (.Call (.Attribute (.Constant (.str x) j p1) "join" apos) [e] [] cpos) (b1 (CQ x) f):=
 Ng (Z2 (T := "str") F.plainAttrs_str F.slot_str_join F.type_str_join Yw (Ui (hx:=hx)) (Cp h Iv hs) hbase hfew hline hs rfl) fun σ H Q q=>by
  obtain⟨H0,ρ,c,E,e,q⟩:=q
  obtain⟨a,ea,e⟩:=bind_some e
  refine⟨H0,ρ,_,E,rfl,fun v H1 s1 n1 r1=>?_⟩
  obtain⟨rfl,hx'⟩:v=.str x/\x.length<=sizeLine:=by simpa only[bN,Rep] using r1
  refine⟨rfl,H0,ρ,[a],E.grow s1,by simp only[ao,ea,Option.bind_some],fun vs H2 s2 r2=>?_⟩
  obtain⟨w,rfl,rw1⟩:=rep1 r2
  unfold CQ at e
  obtain⟨ds,ed,e⟩:=bind_some e
  obtain⟨ys,ey,e⟩:=bind_some e
  split at e
  ·rename_i hb
   cases e
   obtain⟨p,ws,rfl,sq,rs⟩:=rw1.Hf ed
   obtain⟨rfl,hy⟩:=zx rs ey
   refine⟨x,p,ys,rfl,rfl,sq,hb,q _ _ (s1.trans s2) trivial ?_⟩
   unfold bN Rep
   exact⟨rfl,joinOk_length (joinOk_of (by omega))⟩
  ·cases e
end
section
variable {X:Cx}
def FQ:List Bx->Option Bx
 |[.z (.int a),.z (.int b)]=>some (.z (.int (if b > a then b else a)))
 |_=>none
def RT:List Bx->Option Bx
 |[.z (.int a),.z (.int b)]=>some (.z (.int (if b < a then b else a)))
 |_=>none
theorem Vb {K:PySem.W.Frag} {H:Hp} {a b:Bx} {vs:List V} (h:n8 K H [a,b] vs):∃ v w,vs=[v,w]/\bN K H a v/\bN K H b w:=by
 cases h with
 |cons p t=>
  cases t with
  |cons p' t'=>cases t';exact⟨_,_,rfl,p,p'⟩
theorem zA (hc:X.calm=true):oW X (.builtin "max") FQ:=by
 intro pins s σ H xs us Q I r h
 obtain⟨bs,c,rb,e,q⟩:=h
 unfold FQ at e
 split at e
 ·rename_i a b
  cases e
  obtain⟨v,w,rfl,r1,r2⟩:=Vb rb
  have hv:=IW r1
  have hw:=IW r2
  subst hv hw
  obtain⟨u,u',rfl,ru,ru'⟩:=Vals.two r
  obtain⟨t,rfl⟩:=ru
  obtain⟨t',rfl⟩:=ru'
  refine max_two_ints (I.ok.hd hc) fun h' tk kp=>?_
  by_cases hb:b > a
  ·rw[if_pos hb] at q ⊢
   exact⟨.int b,H,I.kept kp,⟨_,rfl⟩,q _ H (Same.refl H) trivial Av⟩
  ·rw[if_neg hb] at q ⊢
   exact⟨.int a,H,I.kept kp,⟨_,rfl⟩,q _ H (Same.refl H) trivial Av⟩
 ·cases e
theorem Vc (hc:X.calm=true):oW X (.builtin "min") RT:=by
 intro pins s σ H xs us Q I r h
 obtain⟨bs,c,rb,e,q⟩:=h
 unfold RT at e
 split at e
 ·rename_i a b
  cases e
  obtain⟨v,w,rfl,r1,r2⟩:=Vb rb
  have hv:=IW r1
  have hw:=IW r2
  subst hv hw
  obtain⟨u,u',rfl,ru,ru'⟩:=Vals.two r
  obtain⟨t,rfl⟩:=ru
  obtain⟨t',rfl⟩:=ru'
  refine min_two_ints (I.ok.hd hc) fun h' tk kp=>?_
  by_cases hb:b < a
  ·rw[if_pos hb] at q ⊢
   exact⟨.int b,H,I.kept kp,⟨_,rfl⟩,q _ H (Same.refl H) trivial Av⟩
  ·rw[if_neg hb] at q ⊢
   exact⟨.int a,H,I.kept kp,⟨_,rfl⟩,q _ H (Same.refl H) trivial Av⟩
 ·cases e
end
def CT (kvs:List (Str×Dt)) (x:Str):Option Dt:=(kvs.find? fun kv=>decide (kv.1=x)).map (·.2)
def Jh (kvs:List (Str×Dt)) (x:Str) (d:Dt):List (Str×Dt):=
 if (kvs.any fun kv=>decide (kv.1=x))=true then kvs.map (fun kv=>if kv.1=x then (kv.1,d) else kv) else kvs++[(x,d)]
section
variable {K:PySem.W.Frag} {H:Hp}
theorem g8.nil:g8 K H [] []:=⟨rfl,aO.nil,fun p hp=>by cases hp⟩
theorem g8.inv {p:Str×Dt} {kvs:List (Str×Dt)} {ks:List (Key×V)} (h:g8 K H (p::kvs) ks):∃ v r,ks=(Sum.inr p.1,v)::r/\Rep K H p.2 v/\p.1.length<=sizeLine/\g8 K H kvs r:=by
 obtain⟨h1,h2,h3⟩:=h
 cases ks with
 |nil=>simp at h1
 |cons q r=>
  simp only[List.map_cons,List.cons.injEq] at h1
  obtain⟨e,h1⟩:=h1
  simp only[List.map_cons,aO] at h2
  obtain⟨v,r',e2,hv,hr⟩:=h2
  simp only[List.cons.injEq] at e2
  obtain⟨rfl,rfl⟩:=e2
  exact⟨q.2,r,by rw[<-e],hv,h3 p (List.mem_cons_self ..),h1,hr,fun x hx=>h3 x (List.mem_cons_of_mem _ hx)⟩
theorem g8.cons {p:Str×Dt} {kvs:List (Str×Dt)} {v:V} {r:List (Key×V)} (hv:Rep K H p.2 v) (hp:p.1.length<=sizeLine) (h:g8 K H kvs r):g8 K H (p::kvs) ((Sum.inr p.1,v)::r):=
 ⟨by simp[h.1],aO.cons hv h.2.1,fun x hx=>by
  rcases List.mem_cons.mp hx with rfl|hx
  ·exact hp
  ·exact h.2.2 x hx⟩
theorem g8.append {kvs:List (Str×Dt)} {ks:List (Key×V)} {x:Str} {d:Dt} {v:V} (h:g8 K H kvs ks) (hv:Rep K H d v) (hx:x.length<=sizeLine):g8 K H (kvs++[(x,d)]) (ks++[(Sum.inr x,v)]):=
 ⟨by simp[h.1],by rw[List.map_append,List.map_append];exact aO.append h.2.1 (aO.cons hv aO.nil),fun p hp=>by
  rcases List.mem_append.mp hp with hp|hp
  ·exact h.2.2 p hp
  ·cases List.mem_singleton.mp hp;exact hx⟩
theorem g8.len {kvs:List (Str×Dt)} {ks:List (Key×V)} (h:g8 K H kvs ks):ks.length=kvs.length:=by
 have:=congrArg List.length h.1
 simpa using this
theorem g8.look:∀ {kvs:List (Str×Dt)} {ks:List (Key×V)} {x:Str} {d:Dt},g8 K H kvs ks->CT kvs x=some d->∃ v,zf ks (Sum.inr x)=some v/\Rep K H d v
 |[],_,_,_,_,e=>by cases e
 |p::kvs,_,x,d,h,e=>by
  obtain⟨v,r,rfl,hv,hpl,hr⟩:=h.inv
  unfold CT at e
  by_cases hp:p.1=x
  ·rw[List.find?_cons_of_pos (by simpa using hp)] at e
   cases e
   exact⟨v,xU (by rw[hp]),hv⟩
  ·rw[List.find?_cons_of_neg (by simpa using hp)] at e
   obtain⟨w,e1,e2⟩:=g8.look hr e
   exact⟨w,(xV (by simpa using hp)).trans e1,e2⟩
theorem g8.any:∀ {kvs:List (Str×Dt)} {ks:List (Key×V)} {x:Str},g8 K H kvs ks->(ks.any fun kv=>decide (kv.1=(Sum.inr x:Key)))=kvs.any fun kv=>decide (kv.1=x)
 |[],ks,_,h=>by
  have:=h.len
  cases ks with
  |nil=>rfl
  |cons _ _=>simp at this
 |p::kvs,_,x,h=>by
  obtain⟨v,r,rfl,hv,hpl,hr⟩:=h.inv
  rw[List.any_cons,List.any_cons,g8.any hr]
  simp
theorem g8.Vd:∀ {kvs:List (Str×Dt)} {ks:List (Key×V)} {x:Str} {d:Dt} {v:V},g8 K H kvs ks->Rep K H d v->g8 K H (kvs.map fun kv=>if kv.1=x then (kv.1,d) else kv) (ks.map fun kv=>if kv.1=(Sum.inr x:Key) then (kv.1,v) else kv)
 |[],ks,_,_,_,h,_=>by
  have:=h.len
  cases ks with
  |nil=>exact g8.nil
  |cons _ _=>simp at this
 |p::kvs,_,x,d,v,h,hd=>by
  obtain⟨w,r,rfl,hw,hpl,hr⟩:=h.inv
  rw[List.map_cons,List.map_cons]
  have ih:=g8.Vd (x:=x) hr hd
  by_cases hp:p.1=x
  ·rw[if_pos hp,if_pos (by simp[hp])]
   exact g8.cons (p:=(p.1,d)) hd hpl ih
  ·rw[if_neg hp,if_neg (by simpa using hp)]
   exact g8.cons hw hpl ih
theorem g8.put {kvs:List (Str×Dt)} {ks:List (Key×V)} {x:Str} {d:Dt} {v:V} (h:g8 K H kvs ks) (hv:Rep K H d v) (hx:x.length<=sizeLine):g8 K H (Jh kvs x d) (putK ks (Sum.inr x) v):=by
 unfold Jh putK
 rw[h.any]
 split
 ·exact h.Vd hv
 ·exact h.append hv hx
end
section
variable {X:Cx} {e ek o:Expr} {f fk fo:Ev->Option Bx} {pos pos':Pos}
def ou:Bx->Bx->Option Bx
 |.n kvs,.z (.str x)=>(CT kvs x).bind fun d=>some (.z d)
 |_,_=>none
theorem Ob {a b c:Bx} (h:ou a b=some c):∃ kvs x d,a=.n kvs/\b=.z (.str x)/\CT kvs x=some d/\c=.z d:=by
 unfold ou at h
 split at h
 ·obtain⟨d,ed,h⟩:=bind_some h
  cases h
  exact⟨_,_,d,rfl,rfl,ed,rfl⟩
 ·cases h
theorem Yy (hu:X.A.units+100 < cLine) (ho:PV X o fo) (hk:PV X ek fk) (hs:Xy ek:=by intro _ _;rfl):PV X (.Subscript o ek pos) (b2 ou fo fk):=Ng (XC (by omega) ho hk hs) fun σ H Q h=>by
 obtain⟨H0,ρ,c,E,e,q⟩:=h
 obtain⟨a,ea,e⟩:=bind_some e
 obtain⟨b,eb,e⟩:=bind_some e
 refine⟨H0,ρ,a,E,ea,fun v H1 s1 n1 r1=>⟨H0,ρ,b,E.grow s1,eb,fun w H2 s2 n2 r2=>?_⟩⟩
 obtain⟨kvs,x,d,rfl,rfl,ed,rfl⟩:=Ob e
 obtain⟨p,ks,rfl,rd,rm⟩:=r1.same s2
 obtain⟨v',ev,rv⟩:=rm.look ed
 obtain⟨rfl,_⟩:w=.str x/\x.length<=sizeLine:=by simpa only[bN,Rep] using r2
 exact⟨p,v',rfl,.inl ⟨ks,Sum.inr x,rd,rfl,ev.symm⟩,q _ _ (s1.trans s2) trivial rv⟩
def Hq (ρ:Ev) (i:Nat):Bx->Bx->Option Out
 |.z d,.z (.str x)=>match ρ[i]? with
  |some (some (.m kvs w))=>if kvs.length < 1000 then some (.nx (ρ.set i (some (.m (Jh kvs x d) w)))) else none
  |_=>none
 |_,_=>none
def Ve (i:Nat) (f fk:Ev->Option Bx):Ev->Option Out:=fun ρ=>(f ρ).bind fun b=>(fk ρ).bind fun k=>Hq ρ i b k
theorem Oc {ρ:Ev} {i:Nat} {b k:Bx} {r:Out} (h:Hq ρ i b k=some r):∃ d y kvs w,b=.z d/\k=.z (.str y)/\ρ[i]?=some (some (.m kvs w))/\kvs.length < 1000/\r=.nx (ρ.set i (some (.m (Jh kvs y d) w))):=by
 unfold Hq at h
 split at h
 ·split at h
  ·rename_i hρ
   split at h
   ·rename_i hl
    cases h
    exact⟨_,_,_,_,rfl,rfl,hρ,hl,rfl⟩
   ·cases h
  ·cases h
 ·cases h
theorem Yz (i:Nat) {x:Str} {p:Pos} (hu:X.A.units+100 < cLine) (he:PV X e f) (hk:PV X ek fk) (hN:X.N[i]?=some x:=by rfl) (hv:Nk X.env.scope x:=by first|exact Or.inl rfl|exact Or.inr (Or.inl rfl)|exact Or.inr (Or.inr rfl)) (hd:(x==("__debug__" : Str))=false:=by decide)
  (hcd:(x==("__classdict__" : Str))=false:=by decide) (hs:swapsWith e (some (.Subscript (.Name x p) ek pos')) pos.line X.env=pure false:=by rfl) :
  Rv X (.Assign [.Subscript (.Name x p) ek pos'] e pos) (fun ρ=>(f ρ).bind fun b=>(fk ρ).bind fun k=>Hq ρ i b k):=
 Ue (XD (by omega) (wQ (i:=i) hN hv hd hcd) hk he hs) fun D σ H h=>by
  obtain⟨H0,ρ,r,E,e,q⟩:=h
  obtain⟨b,eb,e⟩:=bind_some e
  obtain⟨k,ek,e⟩:=bind_some e
  refine⟨H0,ρ,b,E,eb,fun v H1 s1 n1 r1=>?_⟩
  obtain⟨d,y,kvs,w0,rfl,rfl,hρ,hl,rfl⟩:=Oc e
  have E1:=E.grow s1
  obtain⟨w,e1,a,ks,rfl,ha,rm,tie⟩:=E1.val i _ hρ
  refine⟨_,e1,H0,ρ,_,E1,ek,fun u H2 s2 n2 r2=>?_⟩
  obtain⟨rfl,hyl⟩:u=.str y/\y.length<=sizeLine:=by simpa only[bN,Rep] using r2
  have E2:=E1.grow s2
  have ha2:=s2 _ _ ha
  have kp:Kp H2 (upd H2 a (.dK (putK ks (Sum.inr y) v))):=.dk ha2
  refine⟨a,_,rfl,NK.k (k:=Sum.inr y) ha2 (by rw[rm.len];exact Nat.lt_trans hl (by decide)),q _ _ ?_⟩
  exact E2.abG hρ rfl e1 kp ⟨a,_,rfl,cG,((rm.kp (.of s2)).put (x:=y) (bN.same s2 r1) hyl).kp kp,tie⟩
end
structure QV (X:Cx) (e:Expr) (f:Ev->Option Bx):Prop where
 run:PV X e f
structure Vf (X:Cx) (es:List Expr) (f:Ev->Option (List Bx)):Prop where
 run:Ud X es f
structure QB (X:Cx) (e:Expr) (f:Ev->Option Bool):Prop where
 run:PB X e f
structure QBW (X:Cx) (e:Expr) (f:Ev->Option Bool):Prop where
 run:Z8 X e f
structure RV (X:Cx) (st:Stmt) (g:Ev->Option Out):Prop where
 run:Rv X st g
structure RW (X:Cx) (st:List Stmt) (g:Ev->Option Out):Prop where
 run:P1.GQ X st g
structure W7 (X:Cx) (t:Expr) (g:Dt->Ev->Option Ev):Prop where
 run:Rx X t g
structure YB (X:Cx) (t:List Expr) (g:List Dt->Ev->Option Ev):Prop where
 run:Uo X t g
structure QIF (X:Cx) (tg iter:Expr) (f:Ev->Option (List Dt)):Prop where
 run:PIF X tg iter f
structure QIC (X:Cx) (tg iter:Expr) (f:Ev->Option (List Dt)):Prop where
 run:PIC X tg iter f
structure QVo (X:Cx) (e:Option Expr) (f:Ev->Option (Option Int)):Prop where
 run:PVo X e f
structure zB (X:Cx) (ifs:List Expr) (p:Ev->Option Bool):Prop where
 run:Tests X ifs p
section
variable {X:Cx} {a b c e:Expr} {es:List Expr} {fa fb fc f:Ev->Option Bx} {fs:Ev->Option (List Bx)} {pos:Pos}
end
section
variable {X:Cx} {a b c e:Expr} {es:List Expr} {fa fb fc f:Ev->Option Bx} {fs:Ev->Option (List Bx)} {pos:Pos}
theorem dW {op:CmpOp} {g:Bx->Bx->Option Bx} (ho:Fx X (compareOp op) g) (ha:QV X a fa) (hb:QV X b fb) (hm:behindInMarks op b=false):QB X (.Compare a [op] [b] pos) (fun ρ=>(b2 g fa fb ρ).bind Rt):=⟨P1.abp (ho:=ho) (ha:=ha.run) (hb:=hb.run) (hm:=hm)⟩
end
section
variable {X:Cx} {a b c e:Expr} {es:List Expr} {fa fb fc f:Ev->Option Bx} {fs:Ev->Option (List Bx)} {pos:Pos}
variable {p q:Ev->Option Bool} {rest:List Expr}
theorem Vg (ha:QB X a p):QB X (.UnaryOp .Not a pos) (NP p):=⟨P1.abx (ha:=ha.run)⟩
end
section
variable {X:Cx} {a b c e:Expr} {es:List Expr} {fa fb fc f:Ev->Option Bx} {fs:Ev->Option (List Bx)} {pos:Pos}
theorem Vh (h:QV X e f) (he:∀ whole,isTrue e X.env whole=(do let v <-whole;standAt e.pos;holding [v] (truthy v)):=by intro _;rfl):QB X e (fun ρ=>(f ρ).bind Uj):=⟨P1.abu (h:=h.run) (he:=he)⟩
end
section
variable {X:Cx} {a b c e:Expr} {es:List Expr} {fa fb fc f:Ev->Option Bx} {fs:Ev->Option (List Bx)} {pos:Pos}
variable {p q:Ev->Option Bool} {rest:List Expr}
theorem RX (h:QBW X e p):QB X e p:=⟨P1.afO (h:=h.run)⟩
end
section
variable {X:Cx} {a b c e:Expr} {es:List Expr} {fa fb fc f:Ev->Option Bx} {fs:Ev->Option (List Bx)} {pos:Pos}
variable {p q:Ev->Option Bool} {rest:List Expr}
theorem Ji (ha:QB X a p) (hb:QBW X (.BoolOp .And (b::rest) pos) q):QBW X (.BoolOp .And (a::b::rest) pos) (Iu p q):=⟨P1.X3 (ha:=ha.run) (hb:=hb.run)⟩
end
section
variable {X:Cx} {a b c e:Expr} {es:List Expr} {fa fb fc f:Ev->Option Bx} {fs:Ev->Option (List Bx)} {pos:Pos}
variable {p q:Ev->Option Bool} {rest:List Expr}
theorem CV (ha:QB X a p):QBW X (.BoolOp .And [a] pos) p:=⟨P1.Uk (ha:=ha.run)⟩
end
section
variable {X:Cx} {a b c e:Expr} {es:List Expr} {fa fb fc f:Ev->Option Bx} {fs:Ev->Option (List Bx)} {pos:Pos}
variable {p q:Ev->Option Bool} {rest:List Expr}
theorem Od (ha:QB X a p) (hb:QBW X (.BoolOp .Or (b::rest) pos) q):QBW X (.BoolOp .Or (a::b::rest) pos) (XQ p q):=⟨P1.abw (ha:=ha.run) (hb:=hb.run)⟩
end
section
variable {X:Cx} {a b c e:Expr} {es:List Expr} {fa fb fc f:Ev->Option Bx} {fs:Ev->Option (List Bx)} {pos:Pos}
variable {p q:Ev->Option Bool} {rest:List Expr}
theorem Jj (ha:QB X a p):QBW X (.BoolOp .Or [a] pos) p:=⟨P1.XR (ha:=ha.run)⟩
end
section
variable {X:Cx} {a b c e:Expr} {es:List Expr} {fa fb fc f:Ev->Option Bx} {fs:Ev->Option (List Bx)} {pos:Pos} {st:Stmt} {rest:List Stmt} {g g1 g2:Ev->Option Out}
theorem zF (i:Nat) {x:Str} {p apos cpos:Pos} (he:QV X e f) (hN:X.N[i]?=some x:=by rfl) (hv:Nk X.env.scope x:=by first|exact Or.inl rfl|exact Or.inr (Or.inl rfl)|exact Or.inr (Or.inr rfl)) (hd:(x==("__debug__" : Str))=false:=by decide) (hcd:(x==("__classdict__" : Str))=false:=by decide) (hst:starEach [e] X.env=[(false,eval e X.env)]:=by rfl) (hbase:attributeBase (.Name x p) "append" X.env (eval (.Name x p) X.env)=eval (.Name x p) X.env:=by rfl) (hfew:((backTo cpos (starEach [e] X.env)).all (fun x=>!x.1)&&(backToKw cpos (keywordEach [] X.env)).all (fun x=>x.1.isSome)&&decide ([e].length+([]:List Keyword).length+(if ([]:List Keyword).isEmpty then 0 else 1) < 30))=true:=by rfl) (hline:(apos.endLine==cpos.line)=true:=by rfl) (hs:swapsWith (.Call (.Attribute (.Name x p) "append" apos) [e] [] cpos) none pos.line X.env=pure false:=by rfl):RV X (.Expr (.Call (.Attribute (.Name x p) "append" apos) [e] [] cpos) pos) (fun ρ=>(f ρ).bind (Us ρ i)):=⟨P1.abH (i:=i) (he:=he.run) (hN:=hN) (hv:=hv) (hd:=hd) (hcd:=hcd) (hst:=hst) (hbase:=hbase) (hfew:=hfew) (hline:=hline) (hs:=hs)⟩
end
section
variable {X:Cx} {a b c e:Expr} {es:List Expr} {fa fb fc f:Ev->Option Bx} {fs:Ev->Option (List Bx)} {pos:Pos} {st:Stmt} {rest:List Stmt} {g g1 g2:Ev->Option Out}
theorem Jk {tg:Expr} {gt:Dt->Ev->Option Ev} (he:QV X e f) (hg:W7 X tg gt) (hs:swapsWithSole [tg] e pos.line X.env=pure false:=by rfl) (hw:swappedStores [tg] e X.env=pure none:=by rfl) (h1:(assignEach [tg] X.env).map (·.2)=[assign tg X.env]:=by rfl):RV X (.Assign [tg] e pos) (fun ρ=>(f ρ).bind fun b=>match b with|.z d=>(gt d ρ).bind fun ρ'=>some (.nx ρ')|_=>none):=⟨P1.abE (he:=he.run) (hg:=hg.run) (hs:=hs) (hw:=hw) (h1:=h1)⟩
end
section
variable {X:Cx} {a b c e:Expr} {es:List Expr} {fa fb fc f:Ev->Option Bx} {fs:Ev->Option (List Bx)} {pos:Pos} {st:Stmt} {rest:List Stmt} {g g1 g2:Ev->Option Out}
end
section
variable {X:Cx} {e elt tgt iter:Expr} {es ifs:List Expr} {f:Ev->Option Bx} {fs:Ev->Option (List Bx)} {scope:Scope} {cl:List (Str×Addr)} {pos:Pos} {xs ts:List Str} {is:List Nat} {gt:Dt->Ev->Option Ev} {p:Ev->Option Bool} {fe:Ev->Option Bx} {fi:Ev->Option (List Dt)}
theorem Jl (i:Nat) {y:Str} {py spos:Pos} (ts:List Str) (O:wV X scope cl xs is) (hcalm:X.calm=true) (hN:X.N.Nodup) (hi:QIC X tgt iter fi) (Kq:∀ C s₀ H₀ fp,W7 (wU X (xs++ts) scope cl C s₀ H₀ fp) tgt gt) (hif:∀ C s₀ H₀ fp,zB (wU X (xs++ts) scope cl C s₀ H₀ fp) ifs p) (helt:∀ C s₀ H₀ fp,QV (wU X (xs++ts) scope cl C s₀ H₀ fp) elt fe) (htk:Uw is.length gt) (hsw:swapsWith (.ListComp elt [⟨tgt,iter,ifs,0⟩] scope pos) (some (.Name y py)) spos.line X.env=pure true:=by with_unfolding_all rfl) (hy:X.N[i]?=some y:=by rfl) (hx:Loc X.env.scope y:=by first|exact Or.inl rfl|exact Or.inr rfl) (hf:X.fn y=true\/X.env.scope.names.lookup y=some .local:=by first|exact .inl rfl|exact .inr rfl) (hs:∀ x,foldedSetIterable iter X.env x=pure x:=by intro _;rfl):RV X (.Assign [.Name y py] (.ListComp elt [⟨tgt,iter,ifs,0⟩] scope pos) spos) (fun ρ=>(dU fi gt p fe is ts.length ρ).bind fun b=>(NQ ρ i b).bind fun ρ'=>some (.nx ρ')):=⟨P1.Ym (i:=i) (ts:=ts) (O:=O) (hcalm:=hcalm) (hN:=hN) (hi:=hi.run) (Kq:=fun C s₀ H₀ fp=>(Kq C s₀ H₀ fp).run) (hif:=fun C s₀ H₀ fp=>(hif C s₀ H₀ fp).run) (helt:=fun C s₀ H₀ fp=>(helt C s₀ H₀ fp).run) (htk:=htk) (hsw:=hsw) (hy:=hy) (hx:=hx) (hf:=hf) (hs:=hs)⟩
end
section
variable {X:Cx} {a b c e:Expr} {es:List Expr} {fa fb fc f:Ev->Option Bx} {fs:Ev->Option (List Bx)} {pos:Pos} {st:Stmt} {rest:List Stmt} {g g1 g2:Ev->Option Out}
theorem aA (h1:RV X st g1) (h2:RW X rest g2):RW X (st::rest) (aD g1 g2):=⟨P1.X4 (h1:=h1.run) (h2:=h2.run)⟩
end
section
variable {X:Cx} {a b c e:Expr} {es:List Expr} {fa fb fc f:Ev->Option Bx} {fs:Ev->Option (List Bx)} {pos:Pos} {st:Stmt} {rest:List Stmt} {g g1 g2:Ev->Option Out}
end
section
variable {X:Cx} {a b c e:Expr} {es:List Expr} {fa fb fc f:Ev->Option Bx} {fs:Ev->Option (List Bx)} {pos:Pos} {st:Stmt} {rest:List Stmt} {g g1 g2:Ev->Option Out}
end
section
variable {X:Cx} {e ek o:Expr} {f fk fo:Ev->Option Bx} {pos pos':Pos}
theorem YC (i:Nat) {x:Str} {p:Pos} (hu:X.A.units+100 < cLine) (he:QV X e f) (hk:QV X ek fk) (hN:X.N[i]?=some x:=by rfl) (hv:Nk X.env.scope x:=by first|exact Or.inl rfl|exact Or.inr (Or.inl rfl)|exact Or.inr (Or.inr rfl)) (hd:(x==("__debug__" : Str))=false:=by decide) (hcd:(x==("__classdict__" : Str))=false:=by decide) (hs:swapsWith e (some (.Subscript (.Name x p) ek pos')) pos.line X.env=pure false:=by rfl):RV X (.Assign [.Subscript (.Name x p) ek pos'] e pos) (fun ρ=>(f ρ).bind fun b=>(fk ρ).bind fun k=>Hq ρ i b k):=⟨P1.Yz (i:=i) (hu:=hu) (he:=he.run) (hk:=hk.run) (hN:=hN) (hv:=hv) (hd:=hd) (hcd:=hcd) (hs:=hs)⟩
end
section
variable {X:Cx} {tg e:Expr} {es:List Expr} {f:Ev->Option Bx} {fs:Ev->Option (List Bx)}
theorem w6 {iter:Expr} {body:List Stmt} {fi:Ev->Option (List Dt)} {gt:Dt->Ev->Option Ev} {gb:Ev->Option Out} {pos:Pos} (hp:PassesOwn (model X.prog X.w) X.A X.env X.xe) (hc:X.calm=true) (hi:QIF X tg iter fi) (hg:W7 X tg gt) (hb:RW X body gb) (hs:∀ x,foldedSetIterable iter X.env x=pure x:=by intro _;rfl):RV X (.For tg iter body [] pos) (fun ρ=>(fi ρ).bind fun ds=>pD gt gb ds ρ):=⟨P1.abI (hp:=hp) (hc:=hc) (hi:=hi.run) (hg:=hg.run) (hb:=hb.run) (hs:=hs)⟩
end
section
variable {X:Cx} {tg e:Expr} {es:List Expr} {f:Ev->Option Bx} {fs:Ev->Option (List Bx)}
theorem Jm (i:Nat) {x:Str} {p:Pos} {body:List Stmt} {gt:Dt->Ev->Option Ev} {gb:Ev->Option Out} {pos:Pos} (hp:PassesOwn (model X.prog X.w) X.A X.env X.xe) (hc:X.calm=true) (hg:W7 X tg gt) (hb:RW X body gb) (hN:X.N[i]?=some x:=by rfl) (hv:Nk X.env.scope x:=by first|exact Or.inl rfl|exact Or.inr (Or.inl rfl)|exact Or.inr (Or.inr rfl)) (hd:(x==("__debug__" : Str))=false:=by decide) (hcd:(x==("__classdict__" : Str))=false:=by decide) (hs:∀ y,foldedSetIterable (.Name x p) X.env y=pure y:=by intro _;rfl):RV X (.For tg (.Name x p) body [] pos) (qw i gt gb):=⟨P1.Ye (i:=i) (hp:=hp) (hc:=hc) (hg:=hg.run) (hb:=hb.run) (hN:=hN) (hv:=hv) (hd:=hd) (hcd:=hcd) (hs:=hs)⟩
end
section
variable {X:Cx} {a b c e:Expr} {es:List Expr} {fa fb fc f:Ev->Option Bx} {fs:Ev->Option (List Bx)} {pos:Pos} {st:Stmt} {rest:List Stmt} {g g1 g2:Ev->Option Out}
theorem o7 {p:Ev->Option Bool} {u v:List Stmt} (hc:QB X c p) (ha:RW X u g1) (hb:RW X v g2):RV X (.If c u v pos) (Aa p g1 g2):=⟨P1.ad5 (hc:=hc.run) (ha:=ha.run) (hb:=hb.run)⟩
end
section
variable {X:Cx} {a b c e:Expr} {es:List Expr} {fa fb fc f:Ev->Option Bx} {fs:Ev->Option (List Bx)} {pos:Pos} {st:Stmt} {rest:List Stmt} {g g1 g2:Ev->Option Out}
theorem bM  : RW X [] (fun ρ=>some (.nx ρ)):=⟨P1.abA ⟩
end
section
variable {X:Cx} {a b c e:Expr} {es:List Expr} {fa fb fc f:Ev->Option Bx} {fs:Ev->Option (List Bx)} {pos:Pos} {st:Stmt} {rest:List Stmt} {g g1 g2:Ev->Option Out}
end
section
variable {X:Cx} {a b c e:Expr} {es:List Expr} {fa fb fc f:Ev->Option Bx} {fs:Ev->Option (List Bx)} {pos:Pos} {st:Stmt} {rest:List Stmt} {g g1 g2:Ev->Option Out}
theorem Vi (i j:Nat) {x y:Str} {px py pt:Pos} {kt k2 TF} (hc:X.calm=true) (hN:X.N.Nodup) (ha:Vf X [a,b] fs) (hi:X.N[i]?=some x:=by rfl) (hj:X.N[j]?=some y:=by rfl) (hij:i≠j:=by decide) (hx:X.env.scope.names.lookup x=some .local:=by rfl) (hy:X.env.scope.names.lookup y=some .local:=by rfl) (hw:swappedStores [.Tuple [.Name x px,.Name y py] kt pt] (.Tuple [a,b] k2 TF) X.env=pure (some [x,y]):=by rfl) (hs:swapsWithSole [.Tuple [.Name x px,.Name y py] kt pt] (.Tuple [a,b] k2 TF) pos.line X.env=pure false:=by rfl):RV X (.Assign [.Tuple [.Name x px,.Name y py] kt pt] (.Tuple [a,b] k2 TF) pos) (fun ρ=>(fs ρ).bind (Ur i j ρ)):=⟨P1.abF (i:=i) (j:=j) (hc:=hc) (hN:=hN) (ha:=ha.run) (hi:=hi) (hj:=hj) (hij:=hij) (hx:=hx) (hy:=hy) (hw:=hw) (hs:=hs)⟩
end
section
variable {X:Cx} {a b c e:Expr} {es:List Expr} {fa fb fc f:Ev->Option Bx} {fs:Ev->Option (List Bx)} {pos:Pos} {st:Stmt} {rest:List Stmt} {g g1 g2:Ev->Option Out}
end
section
variable {X:Cx} {a b c e:Expr} {es:List Expr} {fa fb fc f:Ev->Option Bx} {fs:Ev->Option (List Bx)} {pos:Pos} {st:Stmt} {rest:List Stmt} {g g1 g2:Ev->Option Out}
theorem iV (h:QV X e f):RV X (.Return (some e) pos) (fun ρ=>(f ρ).bind Rw):=⟨P1.abB (h:=h.run)⟩
end
section
variable {X:Cx} {a b c e:Expr} {es:List Expr} {fa fb fc f:Ev->Option Bx} {fs:Ev->Option (List Bx)} {pos:Pos} {st:Stmt} {rest:List Stmt} {g g1 g2:Ev->Option Out}
end
section
variable {X:Cx} {a b c e:Expr} {es:List Expr} {fa fb fc f:Ev->Option Bx} {fs:Ev->Option (List Bx)} {pos:Pos} {st:Stmt} {rest:List Stmt} {g g1 g2:Ev->Option Out}
theorem Qe (i:Nat) {x:Str} {p:Pos} (hN:X.N[i]?=some x:=by rfl) (hv:Nk X.env.scope x:=by first|exact Or.inl rfl|exact Or.inr (Or.inl rfl)|exact Or.inr (Or.inr rfl)) (hd:(x==("__debug__" : Str))=false:=by decide) (hcd:(x==("__classdict__" : Str))=false:=by decide):RV X (.Return (some (.Name x p)) pos) (FP i):=⟨P1.X5 (i:=i) (hN:=hN) (hv:=hv) (hd:=hd) (hcd:=hcd)⟩
end
section
variable {X:Cx} {a b c e:Expr} {es:List Expr} {fa fb fc f:Ev->Option Bx} {fs:Ev->Option (List Bx)} {pos:Pos} {st:Stmt} {rest:List Stmt} {g g1 g2:Ev->Option Out}
theorem cN (i:Nat) {x:Str} {p:Pos} (hN:X.N.Nodup) (he:QV X e f) (hi:X.N[i]?=some x:=by rfl) (hx:Loc X.env.scope x:=by first|exact Or.inl rfl|exact Or.inr rfl) (hs:swapsWith e (some (.Name x p)) pos.line X.env=pure false:=by rfl) (hf:X.fn x=true\/X.env.scope.names.lookup x=some .local:=by first|exact .inl rfl|exact .inr rfl):RV X (.Assign [.Name x p] e pos) (fun ρ=>(f ρ).bind fun b=>(NQ ρ i b).bind fun ρ'=>some (.nx ρ')):=⟨P1.abC (i:=i) (hN:=hN) (he:=he.run) (hi:=hi) (hx:=hx) (hs:=hs) (hf:=hf)⟩
end
section
variable {X:Cx} {e elt tgt iter:Expr} {es ifs:List Expr} {f:Ev->Option Bx} {fs:Ev->Option (List Bx)} {scope:Scope} {cl:List (Str×Addr)} {pos:Pos} {xs ts:List Str} {is:List Nat} {gt:Dt->Ev->Option Ev} {p:Ev->Option Bool} {fe:Ev->Option Bx} {fi:Ev->Option (List Dt)}
theorem Vj (h:QIF X tgt iter fi):QIC X tgt iter fi:=⟨P1.abV (h:=h.run)⟩
end
section
variable {X:Cx} {e elt tgt iter:Expr} {es ifs:List Expr} {f:Ev->Option Bx} {fs:Ev->Option (List Bx)} {scope:Scope} {cl:List (Str×Addr)} {pos:Pos} {xs ts:List Str} {is:List Nat} {gt:Dt->Ev->Option Ev} {p:Ev->Option Bool} {fe:Ev->Option Bx} {fi:Ev->Option (List Dt)}
theorem iz (h:QV X e f):QIC X tgt e (fun ρ=>(f ρ).bind UG):=⟨P1.Yk (h:=h.run)⟩
end
section
variable {X:Cx} {tg e:Expr} {es:List Expr} {f:Ev->Option Bx} {fs:Ev->Option (List Bx)}
theorem qC {p pos:Pos} (hg:Gl X "range") (hm:X.mg "range" = none) (ha:Vf X [e] fs) (hs:starEach [e] X.env=[(false,eval e X.env)]:=by rfl):QIF X tg (.Call (.Name "range" p) [e] [] pos) (fun ρ=>(fs ρ).bind Yd):=⟨P1.Uu (hg:=hg) (hm:=hm) (ha:=ha.run) (hs:=hs)⟩
end
section
variable {X:Cx} {tg e:Expr} {es:List Expr} {f:Ev->Option Bx} {fs:Ev->Option (List Bx)}
end
section
variable {X:Cx} {tg e:Expr} {es:List Expr} {f:Ev->Option Bx} {fs:Ev->Option (List Bx)}
theorem Jo (h:QV X e f):QIF X tg e (fun ρ=>(f ρ).bind Ut):=⟨P1.Yc (h:=h.run)⟩
end
section
variable {X:Cx} {a b c e:Expr} {es:List Expr} {fa fb fc f:Ev->Option Bx} {fs:Ev->Option (List Bx)} {pos:Pos} {st:Stmt} {rest:List Stmt} {g g1 g2:Ev->Option Out}
theorem bF (i:Nat) {x:Str} (hN:X.N.Nodup) (hi:X.N[i]?=some x:=by rfl) (hx:Loc X.env.scope x:=by first|exact Or.inl rfl|exact Or.inr rfl) (hf:X.fn x=true\/X.env.scope.names.lookup x=some .local:=by first|exact .inl rfl|exact .inr rfl):W7 X (.Name x pos) (fun d ρ=>some (ρ.set i (some (.z d)))):=⟨P1.X8 (i:=i) (hN:=hN) (hi:=hi) (hx:=hx) (hf:=hf)⟩
end
section
variable {X:Cx} {a b c e:Expr} {es:List Expr} {fa fb fc f:Ev->Option Bx} {fs:Ev->Option (List Bx)} {pos:Pos} {st:Stmt} {rest:List Stmt} {g g1 g2:Ev->Option Out}
theorem zG {ts:List Expr} {k n:Nat} {gs:List Dt->Ev->Option Ev} (hc:X.calm=true) (h:YB X ts gs) (hn:(assignEach ts X.env).length=n:=by rfl) (hst:(assignEach ts X.env).findIdx? (·.1)=none:=by rfl):W7 X (.Tuple ts k pos) (sJ n gs):=⟨P1.abD (hc:=hc) (h:=h.run) (hn:=hn) (hst:=hst)⟩
end
section
variable {X:Cx} {a b c e:Expr} {es:List Expr} {fa fb fc f:Ev->Option Bx} {fs:Ev->Option (List Bx)} {pos:Pos} {st:Stmt} {rest:List Stmt} {g g1 g2:Ev->Option Out}
theorem dX {t:Expr} {ts:List Expr} {gt:Dt->Ev->Option Ev} {gs:List Dt->Ev->Option Ev} (h1:W7 X t gt) (h2:YB X ts gs) (hs:(assignEach (t::ts) X.env).map (·.2)=assign t X.env::(assignEach ts X.env).map (·.2):=by rfl):YB X (t::ts) (eE gt gs):=⟨P1.Uq (h1:=h1.run) (h2:=h2.run) (hs:=hs)⟩
end
section
variable {X:Cx} {a b c e:Expr} {es:List Expr} {fa fb fc f:Ev->Option Bx} {fs:Ev->Option (List Bx)} {pos:Pos} {st:Stmt} {rest:List Stmt} {g g1 g2:Ev->Option Out}
theorem vW  : YB X [] wF:=⟨P1.Yb ⟩
end
section
variable {X:Cx} {a b c e:Expr} {es:List Expr} {fa fb fc f:Ev->Option Bx} {fs:Ev->Option (List Bx)} {pos:Pos}
variable {p q:Ev->Option Bool} {rest:List Expr}
end
section
variable {X:Cx} {a b c e:Expr} {es:List Expr} {fa fb fc f:Ev->Option Bx} {fs:Ev->Option (List Bx)} {pos:Pos}
theorem Qf {i j}:QV X (.Constant (.bool i) j pos) (cB (.bl i)):=⟨P1.ad2 ⟩
end
section
variable {X:Cx} {k:Nat} {f:Addr} {fd:FuncData} {ps:List Str} {F:List Bx->Option Bx} {x:Str} {p pos:Pos} {e:Expr} {es:List Expr} {fs:Ev->Option (List Bx)} {n:Nat}
theorem fD (G:fG X.prog X.w X.K X.mg X.base nC k f fd ps (qx X.K n F)) (hr:kJ k X.A) (hg:Gl X x) (hm:X.mg x=some (.ref f)) (hk:PySem.W.keepIn X.K (.ref f)=true) (hb:Binds X.K fd ps []) (ha:Vf X (e::es) fs) (hdb:(x==("__debug__" : Str))=false:=by decide) (he:starEach (e::es) X.env=(false,eval e X.env)::starEach es X.env:=by rfl) (hpl:(backTo pos (starEach es X.env)).any (·.1)=false:=by rfl):QV X (.Call (.Name x p) (e::es) [] pos) (fL n F fs):=⟨P1.Yn (G:=G) (hr:=hr) (hg:=hg) (hm:=hm) (hk:=hk) (hb:=hb) (ha:=ha.run) (hdb:=hdb) (he:=he) (hpl:=hpl)⟩
end
section
variable {X:Cx} {a b c e:Expr} {es:List Expr} {fa fb fc f:Ev->Option Bx} {fs:Ev->Option (List Bx)} {pos:Pos}
variable {p q:Ev->Option Bool} {rest:List Expr}
theorem fH {x:Str} {id:String} {g:List Bx->Option Bx} {p:Pos} (hc:oW X (.builtin id) g) (hg:Gl X x) (hm:X.mg x=none) (hv:bootBuiltins x=some (.builtin id)) (ha:Vf X (e::es) fs) (hn:x ≠ "__name__" := by decide) (hdb:(x==("__debug__" : Str))=false:=by decide) (he:starEach (e::es) X.env=(false,eval e X.env)::starEach es X.env:=by rfl) (hpl:(backTo pos (starEach es X.env)).any (·.1)=false:=by rfl):QV X (.Call (.Name x p) (e::es) [] pos) (fJ g fs):=⟨P1.Ul (hc:=hc) (hg:=hg) (hm:=hm) (hv:=hv) (ha:=ha.run) (hn:=hn) (hdb:=hdb) (he:=he) (hpl:=hpl)⟩
end
section
variable {X:Cx} {a b c e:Expr} {es:List Expr} {fa fb fc f:Ev->Option Bx} {fs:Ev->Option (List Bx)} {pos:Pos}
variable {p q:Ev->Option Bool} {rest:List Expr}
theorem jF {x:Str} {T:String} {g:List Bx->Option Bx} {p:Pos} (hc:oW X (.type T) g) (hg:Gl X x) (hm:X.mg x=none) (hv:bootBuiltins x=some (.type T)) (ha:Vf X (e::es) fs) (hn:x ≠ "__name__" := by decide) (hdb:(x==("__debug__" : Str))=false:=by decide) (he:starEach (e::es) X.env=(false,eval e X.env)::starEach es X.env:=by rfl) (hpl:(backTo pos (starEach es X.env)).any (·.1)=false:=by rfl):QV X (.Call (.Name x p) (e::es) [] pos) (fJ g fs):=⟨P1.Ru (hc:=hc) (hg:=hg) (hm:=hm) (hv:=hv) (ha:=ha.run) (hn:=hn) (hdb:=hdb) (he:=he) (hpl:=hpl)⟩
end
section
variable {X:Cx} {a b c e:Expr} {es:List Expr} {fa fb fc f:Ev->Option Bx} {fs:Ev->Option (List Bx)} {pos:Pos}
end
section
variable {X:Cx} {a b c e:Expr} {es:List Expr} {fa fb fc f:Ev->Option Bx} {fs:Ev->Option (List Bx)} {pos:Pos}
theorem CW {op:CmpOp} {g:Bx->Bx->Option Bx} (ho:Fx X (compareOp op) g) (ha:QV X a fa) (hb:QV X b fb) (hm:behindInMarks op b=false):QV X (.Compare a [op] [b] pos) (b2 g fa fb):=⟨P1.abo (ho:=ho) (ha:=ha.run) (hb:=hb.run) (hm:=hm)⟩
end
section
variable {X:Cx} {e elt tgt iter:Expr} {es ifs:List Expr} {f:Ev->Option Bx} {fs:Ev->Option (List Bx)} {scope:Scope} {cl:List (Str×Addr)} {pos:Pos} {xs ts:List Str} {is:List Nat} {gt:Dt->Ev->Option Ev} {p:Ev->Option Bool} {fe:Ev->Option Bx} {fi:Ev->Option (List Dt)}
theorem jk (ts:List Str) (O:wV X scope cl xs is) (hcalm:X.calm=true) (hi:QIC X tgt iter fi) (Kq:∀ C s₀ H₀ fp,W7 (wU X (xs++ts) scope cl C s₀ H₀ fp) tgt gt) (hif:∀ C s₀ H₀ fp,zB (wU X (xs++ts) scope cl C s₀ H₀ fp) ifs p) (helt:∀ C s₀ H₀ fp,QV (wU X (xs++ts) scope cl C s₀ H₀ fp) elt fe) (htk:Uw is.length gt) (hs:∀ x,foldedSetIterable iter X.env x=pure x:=by intro _;rfl):QV X (.ListComp elt [⟨tgt,iter,ifs,0⟩] scope pos) (dU fi gt p fe is ts.length):=⟨P1.Yl (ts:=ts) (O:=O) (hcalm:=hcalm) (hi:=hi.run) (Kq:=fun C s₀ H₀ fp=>(Kq C s₀ H₀ fp).run) (hif:=fun C s₀ H₀ fp=>(hif C s₀ H₀ fp).run) (helt:=fun C s₀ H₀ fp=>(helt C s₀ H₀ fp).run) (htk:=htk) (hs:=hs)⟩
end
section
variable {X:Cx} {e ek o:Expr} {f fk fo:Ev->Option Bx} {pos pos':Pos}
theorem mG (hu:X.A.units+100 < cLine) (ho:QV X o fo) (hk:QV X ek fk) (hs:Xy ek:=by intro _ _;rfl):QV X (.Subscript o ek pos) (b2 ou fo fk):=⟨P1.Yy (hu:=hu) (ho:=ho.run) (hk:=hk.run) (hs:=hs)⟩
end
section
variable {X:Cx} {e ek o:Expr} {f fk fo:Ev->Option Bx} {pos pos':Pos}
end
section
variable {X:Cx} {e st:Expr} {f fs:Ev->Option Bx} {pos p2:Pos}
end
section
variable {X:Cx} {a b c e:Expr} {es:List Expr} {fa fb fc f:Ev->Option Bx} {fs:Ev->Option (List Bx)} {pos:Pos}
variable {p q:Ev->Option Bool} {rest:List Expr}
theorem jl (h:QV X e f):QV X e (b1 rB f):=⟨P1.ad4 (h:=h.run)⟩
end
section
variable {X:Cx} {a b c e:Expr} {es:List Expr} {fa fb fc f:Ev->Option Bx} {fs:Ev->Option (List Bx)} {pos:Pos}
end
section
variable {X:Cx} {a b c e:Expr} {es:List Expr} {fa fb fc f:Ev->Option Bx} {fs:Ev->Option (List Bx)} {pos:Pos}
end
section
variable {X:Cx} {a b c e:Expr} {es:List Expr} {fa fb fc f:Ev->Option Bx} {fs:Ev->Option (List Bx)} {pos:Pos}
variable {p q:Ev->Option Bool} {rest:List Expr}
end
section
variable {X:Cx} {a b c e:Expr} {es:List Expr} {fa fb fc f:Ev->Option Bx} {fs:Ev->Option (List Bx)} {pos:Pos}
theorem aB {i j}:QV X (.Constant (.int i) j pos) (cB (.int i)):=⟨P1.abr ⟩
end
section
variable {X:Cx} {pins:List (Addr×Obj)} {σ:L2.St} {H:Hp} {s:Shared}
end
section
variable {X:Cx} {pins:List (Addr×Obj)} {σ:L2.St} {H:Hp} {s:Shared}
end
section
variable {X:Cx} {pins:List (Addr×Obj)} {σ:L2.St} {H:Hp} {s:Shared}
end
section
variable {X:Cx} {pins:List (Addr×Obj)} {σ:L2.St} {H:Hp} {s:Shared}
end
section
variable {X:Cx} {pins:List (Addr×Obj)} {σ:L2.St} {H:Hp} {s:Shared}
end
section
variable {X:Cx} {pins:List (Addr×Obj)} {σ:L2.St} {H:Hp} {s:Shared}
end
section
variable {X:Cx} {pins:List (Addr×Obj)} {σ:L2.St} {H:Hp} {s:Shared}
theorem cR {a b:Expr} {fa fb:Ev->Option Bx} {pos:Pos} (ha:QV X a fa) (hb:QV X b fb) (hs:Ik b:=by intro _ _;with_unfolding_all rfl):QV X (.Subscript a b pos) (b2 iD fa fb):=⟨P1.aek (ha:=ha.run) (hb:=hb.run) (hs:=hs)⟩
end
section
variable {X:Cx} {e:Expr} {f:Ev->Option Bx}
theorem YD {x:Str} {j:Nat} {p1 apos cpos:Pos} (h:QV X e f) (hx:x.length<=sizeLine:=by decide) (hbase:attributeBase (.Constant (.str x) j p1) "join" X.env (eval (.Constant (.str x) j p1) X.env)=eval (.Constant (.str x) j p1) X.env:=by rfl) (hfew:((backTo cpos (starEach [e] X.env)).all (fun x=>!x.1)&&(backToKw cpos (keywordEach [] X.env)).all (fun x=>x.1.isSome)&&decide ([e].length+([]:List Keyword).length+(if ([]:List Keyword).isEmpty then 0 else 1) < 30))=true:=by rfl) (hline:(apos.endLine==cpos.line)=true:=by rfl) (hs:starEach [e] X.env=(false,eval e X.env)::starEach [] X.env:=by rfl):QV X (.Call (.Attribute (.Constant (.str x) j p1) "join" apos) [e] [] cpos) (b1 (CQ x) f):=⟨P1.Yx (h:=h.run) (hx:=hx) (hbase:=hbase) (hfew:=hfew) (hline:=hline) (hs:=hs)⟩
end
section
variable {X:Cx} {a b c e:Expr} {es:List Expr} {fa fb fc f:Ev->Option Bx} {fs:Ev->Option (List Bx)} {pos:Pos}
variable {p q:Ev->Option Bool} {rest:List Expr}
theorem kZ (h:Vf X es fs):QV X (.List es pos) (fJ nD fs):=⟨P1.abz (h:=h.run)⟩
end
section
variable {X:Cx} {a b c e:Expr} {es:List Expr} {fa fb fc f:Ev->Option Bx} {fs:Ev->Option (List Bx)} {pos:Pos}
theorem Vk {j}:QV X (.Constant .none j pos) (cB .non):=⟨P1.abt ⟩
end
section
variable {X:Cx} {a b c e:Expr} {es:List Expr} {fa fb fc f:Ev->Option Bx} {fs:Ev->Option (List Bx)} {pos:Pos}
variable {p q:Ev->Option Bool} {rest:List Expr}
end
section
variable {X:Cx} {a b c e:Expr} {es:List Expr} {fa fb fc f:Ev->Option Bx} {fs:Ev->Option (List Bx)} {pos:Pos}
variable {p q:Ev->Option Bool} {rest:List Expr}
end
section
variable {X:Cx} {a b c e:Expr} {es:List Expr} {fa fb fc f:Ev->Option Bx} {fs:Ev->Option (List Bx)} {pos:Pos}
theorem cD {op:Operator} {g:Bx->Bx->Option Bx} (ho:Fx X (binaryOp op) g) (ha:QV X a fa) (hb:QV X b fb):QV X (.BinOp a op b pos) (b2 g fa fb):=⟨P1.adZ (ho:=ho) (ha:=ha.run) (hb:=hb.run)⟩
end
section
variable {X:Cx} {a b c e:Expr} {es:List Expr} {fa fb fc f:Ev->Option Bx} {fs:Ev->Option (List Bx)} {pos:Pos}
variable {p q:Ev->Option Bool} {rest:List Expr}
end
section
variable {X:Cx} {e st:Expr} {f fs:Ev->Option Bx} {pos p2:Pos}
end
section
variable {X:Cx} {pins:List (Addr×Obj)} {σ:L2.St} {H:Hp} {s:Shared}
theorem uL {e:Expr} {lo hi:Option Expr} {f:Ev->Option Bx} {fl fh:Ev->Option (Option Int)} {p2 pos:Pos} (he:QV X e f) (hl:QVo X lo fl) (hh:QVo X hi fh):QV X (.Subscript e (.Slice lo hi none p2) pos) (BP f fl fh):=⟨P1.aem (he:=he.run) (hl:=hl.run) (hh:=hh.run)⟩
end
section
variable {X:Cx} {a b c e:Expr} {es:List Expr} {fa fb fc f:Ev->Option Bx} {fs:Ev->Option (List Bx)} {pos:Pos}
theorem ace {x:Str} {j} (hx:x.length<=sizeLine:=by decide):QV X (.Constant (.str x) j pos) (cB (.str x)):=⟨P1.Ui (hx:=hx)⟩
end
section
variable {X:Cx} {a b c e:Expr} {es:List Expr} {fa fb fc f:Ev->Option Bx} {fs:Ev->Option (List Bx)} {pos:Pos}
variable {p q:Ev->Option Bool} {rest:List Expr}
theorem rE {x1} (h:Vf X es fs):QV X (.Tuple es x1 pos) (fJ rC fs):=⟨P1.aby (h:=h.run)⟩
end
section
variable {X:Cx} {a b c e:Expr} {es:List Expr} {fa fb fc f:Ev->Option Bx} {fs:Ev->Option (List Bx)} {pos:Pos}
theorem aer {op:UnaryOp} {g:Bx->Option Bx} (ho:UnF X (unaryOp op) g) (ha:QV X a fa):QV X (.UnaryOp op a pos) (b1 g fa):=⟨P1.ad0 (ho:=ho) (ha:=ha.run)⟩
end
section
variable {X:Cx} {e st:Expr} {f fs:Ev->Option Bx} {pos p2:Pos}
end
section
variable {X:Cx} {a b c e:Expr} {es:List Expr} {fa fb fc f:Ev->Option Bx} {fs:Ev->Option (List Bx)} {pos:Pos}
theorem aj (i:Nat) {x:Str} (hN:X.N[i]?=some x:=by rfl) (hv:Nk X.env.scope x:=by first|exact Or.inl rfl|exact Or.inr (Or.inl rfl)|exact Or.inr (Or.inr rfl)) (hd:(x==("__debug__" : Str))=false:=by decide) (hcd:(x==("__classdict__" : Str))=false:=by decide):QV X (.Name x pos) (fun ρ=>xW ρ i):=⟨P1.abq (i:=i) (hN:=hN) (hv:=hv) (hd:=hd) (hcd:=hcd)⟩
end
section
variable {X:Cx} {pins:List (Addr×Obj)} {σ:L2.St} {H:Hp} {s:Shared}
theorem jw  : QVo X none ju:=⟨P1.U4 ⟩
end
section
variable {X:Cx} {pins:List (Addr×Obj)} {σ:L2.St} {H:Hp} {s:Shared}
theorem jx {e:Expr} {f:Ev->Option Bx} (h:QV X e f):QVo X (some e) (lQ f):=⟨P1.U5 (h:=h.run)⟩
end
section
variable {X:Cx} {a b c e:Expr} {es:List Expr} {fa fb fc f:Ev->Option Bx} {fs:Ev->Option (List Bx)} {pos:Pos}
variable {p q:Ev->Option Bool} {rest:List Expr}
theorem ak (h1:QV X e f) (h2:Vf X es fs) (hs:starEach (e::es) X.env=(false,eval e X.env)::starEach es X.env:=by rfl):Vf X (e::es) (ao f fs):=⟨P1.Cp (h1:=h1.run) (h2:=h2.run) (hs:=hs)⟩
end
section
variable {X:Cx} {a b c e:Expr} {es:List Expr} {fa fb fc f:Ev->Option Bx} {fs:Ev->Option (List Bx)} {pos:Pos}
variable {p q:Ev->Option Bool} {rest:List Expr}
theorem aF  : Vf X [] (fun _=>some []):=⟨P1.Iv ⟩
end
section
theorem jy {X:Cx}:zB X [] rD:=⟨P1.RN ⟩
end
section
theorem fZ {X:Cx} {c:Expr} {p:Ev->Option Bool} (h:QB X c p):zB X [c] p:=⟨P1.RP (h:=h.run)⟩
end
theorem yp {P:Program} {w:World} {K:PySem.W.Frag} {mg:Str->Option Value} {base:Heap} {x qual:Str} {st:Stmt} {f:Addr} {fd:FuncData} {N ps:List Str} {k n m:Nat} {g:Ev->Option Out} (F:Bw K x qual st f fd) (S:fB N ps (aW st)) (hn:N.length=n) (hm:ps.length=m)
  (hbody:∀ (cdv:Value) (A:Around) (outer:List Env) (s:Shared) (H:Hp) (E:XK),kJ k (A.deeper (envOfC qual (aW st) s.heap.objs.size f cdv))->RW (Fz nC P w K mg base N qual (aW st) f cdv A outer s H E).Te (dO st) g) :
  fG P w K mg base nC (k+1) f fd ps (qx K m (kO n g)):=af5 F S hn hm fun cdv A outer s H E hr=>(hbody cdv A outer s H E hr).run
section
variable {prog:Program} {w:World} {A:Around} {E:Value->Shared->Prop} {s:Shared}
theorem Ac:∀ (vs:List Value) (ys:List Str),vs.length=ys.length->(∀ (j:Nat) v,vs[j]?=some v->∃ y t,ys[j]?=some y/\v=.str y t)->StrsAre vs ys
 |[],[],_,_=>.nil
 |v::vs,y::ys,hl,h=>by
  obtain⟨y',t,e,rfl⟩:=h 0 v rfl
  cases e
  exact .cons y t (Ac vs ys (by simpa using hl) fun j v hv=>h (j+1) v (by simpa using hv))
theorem Oe {kvs:List (Key×Value)} {ys:List Str} (hk:kvs.map (·.1)=ys.map Sum.inr) {acc:Array Value} (h:ItemsOf (fun i v=>∃ k x,kvs[i]?=some (k,x)/\(bU prog w).is k v=true) acc kvs.length):StrsAre acc.toList ys:=by
 have hl:kvs.length=ys.length:=by have:=congrArg List.length hk;simpa using this
 refine Ac _ _ (by rw[Array.length_toList,h.1,hl]) fun j v hv=>?_
 obtain⟨k,x,e,hi⟩:=h.2 j v (by simpa using hv)
 have e1:(kvs.map (·.1))[j]?=some k:=by rw[List.getElem?_map,e];rfl
 rw[hk,List.getElem?_map] at e1
 cases hy:ys[j]? with
 |none=>rw[hy] at e1;cases e1
 |some y=>
  rw[hy] at e1
  cases e1
  have hi':kI (Sum.inr y) v=true:=hi
  rcases cJ hi' with⟨i,t,e2,e3⟩|⟨z,t,e2,e3⟩
  ·cases e2
  ·cases e2
   exact⟨_,t,rfl,e3⟩
end
section
variable {X:Cx}
theorem Qg:∀ {ks:List (Key×V)} {vs:List (Key×Value)},KV ks vs->vs.map (·.1)=ks.map (·.1)
 |_,_,.nil=>rfl
 |_,_,.cons h t=>by rw[List.map_cons,List.map_cons,Qg t,h.1]
end
theorem cQ.aes {K:PySem.W.Frag} {H0 H:Hp} {σ:L2.St} {ρ:Ev} (E:cQ K H0 H σ ρ) (i:Nat):cQ K H0 H σ (ρ.set i none):=by
 have back:∀ (j:Nat) (b:Bx),(ρ.set i none)[j]?=some (some b)->ρ[j]?=some (some b):=fun j b e=>by
  rw[List.getElem?_set] at e
  split at e
  ·split at e<;>cases e
  ·exact e
 refine⟨by rw[List.length_set];exact E.len,fun j b e=>E.val j b (back j b e),fun j k c a b e1 ec e2 e3 e4 e5=>E.own j k c a b (back _ _ e1) ec e2 (back _ _ e3) e4 e5,E.base,fun j c a e1 ec e2=>E.new j c a (back _ _ e1) ec e2⟩
def kill (is:List Nat) (ρ:Ev):Ev:=is.foldl (fun ρ i=>ρ.set i none) ρ
theorem cQ.kill {K:PySem.W.Frag} {H0 H:Hp} {σ:L2.St}:∀ (is:List Nat) {ρ:Ev},cQ K H0 H σ ρ->cQ K H0 H σ (P1.kill is ρ)
 |[],_,E=>E
 |i::is,_,E=>cQ.kill is (E.aes i)
def gw (is:List Nat):Ev->Option Out:=fun ρ=>some (.nx (kill is ρ))
theorem Vl {X:Cx} {ss:List Stmt} {g:Ev->Option Out} (is:List Nat) (h:GQ X ss g):GQ X ss (aD g (gw is)):=abn h fun D σ H q=>by
 obtain⟨H0,ρ,r,E,e,q⟩:=q
 obtain⟨r1,e1,e⟩:=bind_some e
 refine⟨H0,ρ,r1,E,e1,?_⟩
 cases r1 with
 |nx ρ1=>cases e;exact fun σ' H' E'=>q σ' H' (E'.kill is)
 |rt b=>cases e;exact q
 |bk b=>cases e;exact q
 |ct b=>cases e;exact q
theorem cP {X:Cx} {ss:List Stmt} {g:Ev->Option Out} (is:List Nat) (h:RW X ss g):RW X ss (aD g (gw is)):=⟨Vl is h.run⟩
end P1
end
section
namespace S1
open PySem PySem.Spec PyProof.Rows
section
variable (rk:Value->Nat)
def at_ (xs:Array Keyed) (i:Nat):Nat:=match xs[i]? with
 |some p=>rk p.1
 |none=>0
def Up (xs:Array Keyed) (k:Nat):Prop:=∀ i j,i<=j->j < k->at_ rk xs i<=at_ rk xs j
def Down (xs:Array Keyed) (k:Nat):Prop:=∀ i j,i<=j->j < k->at_ rk xs j<=at_ rk xs i
structure Bs (kd:SortKind) (b:Array Keyed) (st:SortSt):Prop where
 pm:(arrOf st).Perm b
 kd:kindOf st=kd
 fl:failedOf st=none
 pd:pendingOf st=#[]
variable {rk} {kd:SortKind} {b:Array Keyed}
theorem Bs.sz {st:SortSt} (h:Bs kd b st):(arrOf st).size=b.size:=h.pm.size_eq
theorem Bs.arr {st:SortSt} {xs:Array Keyed} (h:Bs kd b st) (hp:xs.Perm (arrOf st)):Bs kd b (PyProof.Rows.setArr st xs):=⟨hp.trans h.pm,h.kd,h.fl,h.pd⟩
theorem uM {xs ys:Array Keyed} {i j:Nat} (h:xs[i]?=ys[j]?):at_ rk xs i=at_ rk ys j:=by unfold at_;rw[h]
theorem Vm {xs:Array Keyed} {p d:Nat} (hs:p < xs.size) (hd:d<=p) (k:Nat):at_ rk (bubble xs p d) k=if k=p - d then at_ rk xs p else if p - d < k/\k<=p then at_ rk xs (k - 1) else at_ rk xs k:=by
 have e:=getElem?_bubble hs d hd k
 by_cases q:k=p - d
 ·simp only[if_pos q] at e ⊢;exact uM e
 ·simp only[if_neg q] at e ⊢
  by_cases q2:p - d < k/\k<=p
  ·simp only[if_pos q2] at e ⊢;exact uM e
  ·simp only[if_neg q2] at e ⊢;exact uM e
theorem Og {xs:Array Keyed} {i j:Nat} (hj:j<=xs.size) (k:Nat):at_ rk (mirror xs i j ((j - i) / 2)) k=if i<=k/\k < j then at_ rk xs (i+j - 1 - k) else at_ rk xs k:=by
 have e:=getElem?_mirror_all (i:=i) hj k
 by_cases q:i<=k/\k < j
 ·simp only[if_pos q] at e ⊢;exact uM e
 ·simp only[if_neg q] at e ⊢;exact uM e
theorem yq {xs:Array Keyed} {i j:Nat} (hj:j<=xs.size) (he:∀ k,i<=k->k < j->at_ rk xs k=at_ rk xs (j - 1)) (k:Nat):at_ rk (mirror xs i j ((j - i) / 2)) k=at_ rk xs k:=by
 rw[Og hj]
 by_cases q:i<=k/\k < j
 ·rw[if_pos q,he (i+j - 1 - k) (by omega) (by omega),he k q.1 q.2]
 ·rw[if_neg q]
end
section
variable {prog:Program} {w:World} {A:Around} {E:Value->Shared->Prop} {s:Shared} {b:Array Keyed} {kd:SortKind} {rk:Value->Nat}
def Tg (prog:Program) (w:World) (A:Around) (s:Shared) (kd:SortKind) (rk:Value->Nat) (b:Array Keyed):Prop:=
 ∀ (E:Value->Shared->Prop) (p q:Keyed) (Q:Bool->Shared->Prop),p∈b.toList->q∈b.toList->Q (decide (rk p.1 < rk q.1)) s->wpAny (model prog w) A (keyLt' kd p.1 q.1) Q E s
theorem K9 {st:SortSt} {i j:Nat} {Q:Option Bool->SortSt->Prop} (hC:Tg prog w A s kd rk b) (B:Bs kd b st) (hi:i < b.size) (hj:j < b.size)
  (h:Q (some (decide (at_ rk (arrOf st) i < at_ rk (arrOf st) j))) st):wpS (model prog w) A E s (ltAt' i j) Q st:=by
 have get:∀ k,k < b.size->∃ p,(arrOf st)[k]?=some p/\p∈b.toList:=fun k hk=>by
  have hk':k < (arrOf st).size:=by rw[B.sz];exact hk
  exact⟨(arrOf st)[k],getElem?_pos _ k hk',(Array.perm_iff_toList_perm.mp B.pm).mem_iff.mp (by simp)⟩
 obtain⟨p,e1,m1⟩:=get i hi
 obtain⟨q,e2,m2⟩:=get j hj
 have h:Q (some (decide (rk p.1 < rk q.1))) st:=by unfold at_ at h;rw[e1,e2] at h;exact h
 rw[ltAt'_eq]
 refine wpS_bind (wpS_get ?_)
 show wpS _ _ _ _ (elem' (arrOf st) i >>= fun x=>elem' (arrOf st) j >>= fun y=>lt' x y) Q st
 rw[elem'_eq,elem'_eq,e1,e2]
 refine wpS_bind (wpS_pure ?_)
 refine wpS_bind (wpS_pure ?_)
 rw[lt'_eq]
 refine wpS_bind (wpS_get ?_)
 rw[B.kd]
 exact wpS_bind (wpS_lift (wpAny_attempt (hC _ p q _ m1 m2 ⟨rfl,wpS_pure h⟩)))
theorem asc {st:SortSt} {a n:Nat} {Q:AscSt->SortSt->Prop} (hC:Tg prog w A s kd rk b) (hn:n<=b.size) (ha:1<=a) (han:a<=n) (B:Bs kd b st) (hs:Up rk (arrOf st) a)
  (h:∀ m,a<=m->m<=n->Up rk (arrOf st) m->(m=n\/at_ rk (arrOf st) m < at_ rk (arrOf st) (m - 1))->Q (none,m) st):wpS (model prog w) A E s (ascLoop a n) Q st:=by
 unfold ascLoop
 refine wpS_forRange (I:=fun x c t=>t=st/\c=(none,x)/\Up rk (arrOf st) x) ?_ ?_ ⟨rfl,rfl,hs⟩
 ·rintro x c t hax hxn ⟨rfl,rfl,up⟩
  refine wpS_bind (K9 hC B (by omega) (by omega) ?_)
  by_cases q:at_ rk (arrOf t) x < at_ rk (arrOf t) (x - 1)
  ·simp only[q,decide_true,if_true]
   exact wpS_pure (h x hax (by omega) up (.inr q))
  ·simp only[q,decide_false,Bool.false_eq_true,if_false]
   refine wpS_pure ⟨rfl,rfl,fun i j hij hj=>?_⟩
   by_cases hx:j < x
   ·exact up i j hij hx
   ·have e:j=x:=by omega
    subst e
    by_cases hi:i=j
    ·rw[hi];exact Nat.le_refl _
    ·have:=up i (j - 1) (by omega) (by omega);omega
 ·rintro c t ⟨rfl,rfl,up⟩
  rw[show max a n=n by omega] at up ⊢
  exact h n han (Nat.le_refl _) up (.inl rfl)
theorem t3 {st:SortSt} {m n:Nat} {Q:Option Nat->SortSt->Prop} (hC:Tg prog w A s kd rk b) (hn:n<=b.size) (h1:1<=m) (hmn:m<=n) (B:Bs kd b st) (hs:Down rk (arrOf st) m)
  (h:∀ k t,Bs kd b t->1<=k->k<=n->Up rk (arrOf t) k->Q (some k) t):wpS (model prog w) A E s (tail3 m n) Q st:=by
 unfold tail3
 have hz:m<=(arrOf st).size:=by rw[B.sz];omega
 refine wpS_bind (wpS_reverse ?_)
 have B':Bs kd b (PyProof.Rows.setArr st (mirror (arrOf st) 0 m ((m - 0) / 2))):=B.arr (mirror_perm _ _ _ _)
 refine wpS_bind (asc hC hn h1 hmn B' (fun i j hij hj=>?_) fun k k1 k2 up _=>wpS_pure (h k _ B' (by omega) k2 up))
 show at_ rk (mirror (arrOf st) 0 m ((m - 0) / 2)) i<=at_ rk (mirror (arrOf st) 0 m ((m - 0) / 2)) j
 rw[Og hz,Og hz,if_pos ⟨by omega,by omega⟩,if_pos ⟨by omega,by omega⟩]
 exact hs _ _ (by omega) (by omega)
theorem dsc {st:SortSt} {m n:Nat} {Q:DescSt->SortSt->Prop} (hC:Tg prog w A s kd rk b) (hn:n<=b.size) (h1:1<=m) (hmn:m<=n) (B:Bs kd b st) (hs:Down rk (arrOf st) m)
  (h:∀ k e t,Bs kd b t->m<=k->k<=n->Down rk (arrOf t) k->e+1<=k->(∀ i,k - (e+1)<=i->i < k->at_ rk (arrOf t) i=at_ rk (arrOf t) (k - 1))->Q (none,k,e) t):wpS (model prog w) A E s (descLoop m n) Q st:=by
 unfold descLoop
 refine wpS_forRange (I:=fun x c t=>∃ e,c=(none,x,e)/\Bs kd b t/\Down rk (arrOf t) x/\e+1<=x/\∀ i,x - (e+1)<=i->i < x->at_ rk (arrOf t) i=at_ rk (arrOf t) (x - 1)) ?_ ?_ ⟨0,rfl,B,hs,by omega,fun i q1 q2=>by rw[show i=m - 1 by omega]⟩
 ·rintro x c t hax hxn ⟨e,rfl,B',dn,he,eq⟩
  have hz:x<=(arrOf t).size:=by rw[B'.sz];omega
  have grow:∀ xs:Array Keyed,(∀ k,at_ rk xs k=at_ rk (arrOf t) k)->at_ rk (arrOf t) x<=at_ rk (arrOf t) (x - 1)->Down rk xs (x+1):=fun xs hk hl i j hij hj=>by
   rw[hk,hk]
   by_cases hx:j < x
   ·exact dn i j hij hx
   ·have ej:j=x:=by omega
    subst ej
    by_cases hi:i=j
    ·rw[hi];exact Nat.le_refl _
    ·have:=dn i (j - 1) (by omega) (by omega);omega
  dsimp only
  refine wpS_bind (K9 hC B' (by omega) (by omega) ?_)
  by_cases q:at_ rk (arrOf t) x < at_ rk (arrOf t) (x - 1)
  ·simp only[q,decide_true,if_true]
   by_cases h0:e > 0
   ·rw[if_pos h0]
    exact wpS_bind (wpS_reverse (wpS_pure ⟨0,rfl,B'.arr (mirror_perm _ _ _ _),grow _ (yq hz eq) (by omega),by omega,fun i q1 q2=>by rw[show i=x by omega];rfl⟩))
   ·rw[if_neg h0]
    exact wpS_pure ⟨0,rfl,B',grow _ (fun _=>rfl) (by omega),by omega,fun i q1 q2=>by rw[show i=x by omega];rfl⟩
  ·simp only[q,decide_false,Bool.false_eq_true,if_false]
   refine wpS_bind (K9 hC B' (by omega) (by omega) ?_)
   by_cases q2:at_ rk (arrOf t) (x - 1) < at_ rk (arrOf t) x
   ·simp only[q2,decide_true,if_true]
    exact wpS_pure (h x e t B' hax (by omega) dn he eq)
   ·simp only[q2,decide_false,Bool.false_eq_true,if_false]
    refine wpS_pure ⟨e+1,rfl,B',grow _ (fun _=>rfl) (by omega),by omega,fun i q3 q4=>?_⟩
    rw[show x+1 - 1=x by omega]
    by_cases hi:i=x
    ·rw[hi]
    ·rw[eq i (by omega) (by omega)];omega
 ·rintro c t ⟨e,rfl,B',dn,he,eq⟩
  rw[show max m n=n by omega] at dn he eq ⊢
  exact h n e t B' hmn (Nat.le_refl _) dn he eq
theorem aae {st:SortSt} {m n:Nat} {Q:Option Nat->SortSt->Prop} (hC:Tg prog w A s kd rk b) (hn:n<=b.size) (hmn:m+1<=n) (B:Bs kd b st) (hs:Down rk (arrOf st) (m+1))
  (h:∀ k t,Bs kd b t->1<=k->k<=n->Up rk (arrOf t) k->Q (some k) t):wpS (model prog w) A E s (descPart m n) Q st:=by
 unfold descPart
 refine wpS_bind (wpS_lift (wpAny_rule ⟨rfl,?_⟩))
 refine wpS_bind (dsc hC hn (by omega) hmn B hs fun k e t B' k1 k2 dn he eq=>?_)
 have hz:k<=(arrOf t).size:=by rw[B'.sz];omega
 by_cases h0:e > 0
 ·simp only[if_pos h0]
  refine wpS_bind (wpS_reverse (t3 hC hn (by omega) k2 (B'.arr (mirror_perm _ _ _ _)) (fun i j hij hj=>?_) h))
  show at_ rk (mirror (arrOf t) _ _ _) j<=at_ rk (mirror (arrOf t) _ _ _) i
  rw[yq hz eq,yq hz eq]
  exact dn i j hij hj
 ·simp only[if_neg h0]
  exact t3 hC hn (by omega) k2 B' dn h
theorem af7 {st:SortSt} {n:Nat} {Q:Option Nat->SortSt->Prop} (hC:Tg prog w A s kd rk b) (hn:n<=b.size) (h1:1<=n) (B:Bs kd b st)
  (h:∀ k t,Bs kd b t->1<=k->k<=n->Up rk (arrOf t) k->Q (some k) t):wpS (model prog w) A E s (countRun' 0 n) Q st:=by
 rw[countRun0_eq]
 refine wpS_bind (asc hC hn (Nat.le_refl 1) h1 B (fun i j hij hj=>by rw[show i=j by omega];exact Nat.le_refl _) fun m m1 m2 up or=>?_)
 by_cases hm:m=n
 ·simp only[if_pos (show (m==n)=true by simpa using hm)]
  exact wpS_pure (h m st B m1 m2 up)
 ·simp only[if_neg (show ¬ (m==n)=true by simpa using hm)]
  have lt:=or.resolve_left hm
  have hz:m<=(arrOf st).size:=by rw[B.sz];omega
  by_cases g1:m > 1
  ·rw[if_pos g1]
   refine wpS_bind (K9 hC B (by omega) (by omega) ?_)
   by_cases q:at_ rk (arrOf st) 0 < at_ rk (arrOf st) (m - 1)
   ·simp only[q,decide_true,if_true]
    exact wpS_pure (h m st B m1 m2 up)
   ·simp only[q,decide_false,Bool.false_eq_true,if_false]
    have all:∀ k,0<=k->k < m->at_ rk (arrOf st) k=at_ rk (arrOf st) (m - 1):=fun k _ hk=>by
     have a1:=up 0 k (by omega) hk
     have a2:=up k (m - 1) (by omega) (by omega)
     omega
    refine wpS_bind (wpS_reverse (aae hC hn (by omega) (B.arr (mirror_perm _ _ _ _)) (fun i j hij hj=>?_) h))
    show at_ rk (mirror (arrOf st) _ _ _) j<=at_ rk (mirror (arrOf st) _ _ _) i
    rw[yq hz all,yq hz all]
    by_cases hj':j < m
    ·rw[all i (by omega) (by omega),all j (by omega) hj'];exact Nat.le_refl _
    ·have ej:j=m:=by omega
     subst ej
     by_cases hi:i=j
     ·rw[hi];exact Nat.le_refl _
     ·rw[all i (by omega) (by omega)];omega
  ·rw[if_neg g1]
   have e1:m=1:=by omega
   subst e1
   refine aae hC hn (by omega) B (fun i j hij hj=>?_) h
   by_cases hi:i=j
   ·rw[hi];exact Nat.le_refl _
   ·rw[show i=0 by omega,show j=1 by omega];exact Nat.le_of_lt lt
theorem bins {st:SortSt} {n k0:Nat} {Q:Bool->SortSt->Prop} (hC:Tg prog w A s kd rk b) (hn:n<=b.size) (hk0:k0<=n) (B:Bs kd b st) (hs:Up rk (arrOf st) k0)
  (h:∀ t,Bs kd b t->Up rk (arrOf t) n->Q true t):wpS (model prog w) A E s (binarySort' 0 n k0) Q st:=by
 rw[binarySort'_eq]
 simp only[Nat.zero_add]
 refine wpS_bind (wpS_mono (wpS_forRange (I:=fun k c t=>c=(none,())/\Bs kd b t/\Up rk (arrOf t) (min k n)) (Q:=fun c t=>c=(none,())/\Bs kd b t/\Up rk (arrOf t) n) ?_ ?_ ?_) ?_)
 ·rintro k c t hak hkn ⟨rfl,B',up⟩
  rw[show min k n=k by omega] at up
  have hk:k < b.size:=by omega
  refine wpS_bind (wpS_mono (wpS_forRange (I:=fun x c t'=>t'=t/\∃ l r,c=(none,l,r)/\l<=r/\r<=k/\r - l<=k - x/\(∀ i,i < l->at_ rk (arrOf t) i<=at_ rk (arrOf t) k)/\(∀ i,r<=i->i < k->at_ rk (arrOf t) k < at_ rk (arrOf t) i))
   (Q:=fun c t'=>t'=t/\∃ l r,c=(none,l,r)/\l<=k/\(∀ i,i < l->at_ rk (arrOf t) i<=at_ rk (arrOf t) k)/\(∀ i,l<=i->i < k->at_ rk (arrOf t) k < at_ rk (arrOf t) i)) ?_ ?_ ?_) ?_)
  ·rintro x c t' _ hx ⟨rfl,l,r,rfl,lr,rk',mm,lo,hi⟩
   dsimp only
   by_cases ge:l>=r
   ·rw[if_pos ge]
    have e:l=r:=by omega
    subst e
    exact wpS_pure ⟨rfl,l,l,rfl,rk',lo,hi⟩
   ·rw[if_neg ge]
    refine wpS_bind (K9 hC B' hk (by omega) ?_)
    by_cases q:at_ rk (arrOf t') k < at_ rk (arrOf t') ((l+r) / 2)
    ·simp only[q,decide_true,if_true]
     refine wpS_pure ⟨rfl,l,(l+r) / 2,rfl,by omega,by omega,by omega,lo,fun i q1 q2=>?_⟩
     have:=up ((l+r) / 2) i q1 q2
     omega
    ·simp only[q,decide_false,Bool.false_eq_true,if_false]
     refine wpS_pure ⟨rfl,(l+r) / 2+1,r,rfl,by omega,by omega,by omega,fun i q1=>?_,hi⟩
     have:=up i ((l+r) / 2) (by omega) (by omega)
     omega
  ·rintro c t' ⟨rfl,l,r,rfl,lr,rk',mm,lo,hi⟩
   have e:l=r:=by omega
   subst e
   exact⟨rfl,l,l,rfl,rk',lo,hi⟩
  ·exact⟨rfl,0,k,rfl,by omega,by omega,by omega,fun i hi=>by omega,fun i q1 q2=>by omega⟩
  ·rintro c t' ⟨rfl,l,r,rfl,lk,lo,hi⟩
   show wpS _ _ _ _ (moveDown' k l >>= fun _=>pure (ForInStep.yield (none,()))) _ _
   rw[moveDown'_eq]
   refine wpS_bind (wpS_modify (wpS_pure ⟨rfl,B'.arr (bubble_perm _ _ _),?_⟩))
   rw[show min (k+1) n=k+1 by omega]
   have hz:k < (arrOf t').size:=by rw[B'.sz];exact hk
   intro i j hij hj
   show at_ rk (bubble (arrOf t') k (k - l)) i<=at_ rk (bubble (arrOf t') k (k - l)) j
   rw[Vm hz (by omega),Vm hz (by omega),show k - (k - l)=l by omega]
   repeat' split
   all_goals first
    |(exfalso;omega)
    |exact Nat.le_refl _
    |exact lo _ (by omega)
    |exact Nat.le_of_lt (hi _ (by omega) (by omega))
    |exact up _ _ (by omega) (by omega)
 ·rintro c t ⟨hc,B',up⟩
  refine⟨hc,B',?_⟩
  rwa [show min (max (max k0 1) n) n=n by omega] at up
 ·refine⟨rfl,B,fun i j hij hj=>?_⟩
  by_cases z:k0=0
  ·rw[show i=j by omega];exact Nat.le_refl _
  ·exact hs i j hij (by omega)
 ·rintro c t ⟨rfl,B',up⟩
  exact wpS_pure (h t B' up)
end
section
variable {prog:Program} {w:World} {A:Around} {E:Value->Shared->Prop} {s:Shared} {b:Array Keyed} {kd:SortKind} {rk:Value->Nat}
def Dn (kd:SortKind) (rk:Value->Nat) (b:Array Keyed) (st:SortSt):Prop:=(arrOf st).Perm b/\failedOf st=none/\pendingOf st=#[(0,b.size,0)]/\Up rk (arrOf st) b.size
theorem Bs.dn {st:SortSt} (B:Bs kd b st) (up:Up rk (arrOf st) b.size):Dn kd rk b (setPending st ((pendingOf st).push (0,b.size,0))):=⟨B.pm,B.fl,(by show (pendingOf st).push _=_;rw[B.pd];rfl),up⟩
theorem runs {st:SortSt} {Q:Unit->SortSt->Prop} (hC:Tg prog w A s kd rk b) (B:Bs kd b st) (h2:2<=b.size) (h64:b.size < 64)
  (h:∀ t,(arrOf t).Perm b->failedOf t=none->Up rk (arrOf t) b.size->Q () t):wpS (model prog w) A E s sortRuns' Q st:=by
 rw[sortRuns'_eq]
 refine wpS_bind (wpS_get ?_)
 have mr:minRun' b.size b.size 0=b.size:=by
  obtain⟨f,hf⟩:∃ f,b.size=f+1:=⟨b.size - 1,by omega⟩
  have q:minRun' (f+1) b.size 0=b.size:=(minRun'_succ f b.size 0).trans (if_pos h64)
  rwa [<-hf] at q
 simp only[B.sz,mr]
 have back:∀ {t:SortSt},Bs kd b t->(pendingOf t).back?=none:=fun B=>by rw[B.pd];rfl
 refine wpS_bind (wpS_mono (wpS_forRange (I:=fun x c t=>(x=0/\c=(none,0)/\Bs kd b t)\/(1<=x/\c=(none,b.size)/\Dn kd rk b t)) (Q:=fun c t=>c=(none,b.size)/\Dn kd rk b t) ?_ ?_ (.inl ⟨rfl,rfl,B⟩)) ?_)
 ·rintro x c t _ hx (⟨rfl,rfl,B'⟩|⟨hx1,rfl,D⟩)
  ·dsimp only
   rw[if_neg (by omega)]
   simp only[Nat.sub_zero,Nat.min_self,Nat.zero_add]
   refine wpS_bind (af7 hC (Nat.le_refl _) (by omega) B' fun m t2 B2 m1 m2 up2=>?_)
   dsimp only
   by_cases lt:m < b.size
   ·rw[if_pos lt]
    refine wpS_bind (wpS_lift (wpAny_rule ⟨rfl,wpS_bind (bins hC (Nat.le_refl _) m2 B2 up2 fun t3 B3 up3=>?_)⟩))
    simp only[Bool.not_true,Bool.false_eq_true,if_false]
    refine wpS_bind (wpS_get ?_)
    rw[back B3]
    exact wpS_bind (wpS_modify (wpS_pure (.inr ⟨by omega,rfl,B3.dn up3⟩)))
   ·rw[if_neg lt]
    have e:m=b.size:=by omega
    subst e
    refine wpS_bind (wpS_get ?_)
    rw[back B2]
    exact wpS_bind (wpS_modify (wpS_pure (.inr ⟨by omega,rfl,B2.dn up2⟩)))
  ·dsimp only
   rw[if_pos (Nat.le_refl _)]
   exact wpS_pure ⟨rfl,D⟩
 ·rintro c t (⟨hx,_,_⟩|⟨_,hc,D⟩)
  ·omega
  ·exact⟨hc,D⟩
 ·rintro c t ⟨rfl,D⟩
  dsimp only
  refine wpS_bind (wpS_mono (wpS_forRange (I:=fun _ c u=>u=t/\c=(none,())) (Q:=fun c u=>u=t/\c=(none,())) ?_ (fun _ _ q=>q) ⟨rfl,rfl⟩) ?_)
  ·rintro x c u _ _ ⟨rfl,rfl⟩
   refine wpS_bind (wpS_get ?_)
   rw[if_pos (by rw[D.2.2.1];exact Nat.le_refl 1)]
   exact wpS_pure ⟨rfl,rfl⟩
  ·rintro c u ⟨rfl,rfl⟩
   exact wpS_pure (h _ D.1 D.2.1 D.2.2.2)
def Old (a:Addr) (s s':Shared):Prop:=∀ c o,c≠a->s.heap.get? c=some o->s'.heap.get? c=some o
theorem aaf {a:Addr} {vs:List Value} {n:Nat} {P:Fin->Shared->Prop} (ho:s.heap.get? a=some (seqObj "list" vs.toArray n))
  (hK:2<=vs.length->∀ s',Old a s s'->∀ Q:SortKind->Shared->Prop,Q kd s'->wpAny (model prog w) A (keyKind' vs.toArray) Q E s') (hC:∀ s',Old a s s'->Tg prog w A s' kd rk (pairsOf vs)) (h64:vs.length < 64)
  (h:∀ st:SortSt,(arrOf st).Perm (pairsOf vs)->Up rk (arrOf st) (pairsOf vs).size->P (.done (.ret .none)) { s with heap:=sortedHeap s.heap a vs ((arrOf st).map (·.2)) }) :
  wpAny (model prog w) A (Builtin.«list.sort» ⟨[.ref a],[]⟩) P E s:=by
 rw[list_sort_plain]
 have ha:=Heap.lt_size ho
 refine wpAny_bind (listItems_at ho rfl (wpAny_bind (listUpdate_at ho rfl ?_)))
 obtain⟨e1,g1⟩:∃ e1,(s.heap.update a (Obj.mapSeq fun _=>#[])).get? a=some (seqObj "list" #[] e1):=⟨_,get?_update_seq ho fun _=>#[]⟩
 refine wpAny_bind (seqEpoch_at g1 rfl (wpAny_bind (wpAny_newTuple (wpAny_bind (wpAny_newList (wpAny_holding ?_))))))
 have z1:(s.heap.update a (Obj.mapSeq fun _=>#[])).objs.size=s.heap.objs.size:=Heap.size_update ..
 have keep:∀ c,c < s.heap.objs.size->(((s.heap.update a (Obj.mapSeq fun _=>#[])).push (seqObj "tuple" vs.toArray 0)).push (seqObj "list" #[] 0)).get? c=(s.heap.update a (Obj.mapSeq fun _=>#[])).get? c:=fun c hc=>by
  rw[Heap.get?_push_ne _ _ _ (by rw[size_push',z1];exact Nat.ne_of_lt (Nat.lt_succ_of_lt hc)),Heap.get?_push_ne _ _ _ (by rw[z1];exact Nat.ne_of_lt hc)]
 have g6:=(keep a ha).trans g1
 have old:Old a s { s with heap:=((s.heap.update a (Obj.mapSeq fun _=>#[])).push (seqObj "tuple" vs.toArray 0)).push (seqObj "list" #[] 0) }:=fun c o hc e=>by
  show (((s.heap.update a (Obj.mapSeq fun _=>#[])).push (seqObj "tuple" vs.toArray 0)).push (seqObj "list" #[] 0)).get? c=some o
  rw[keep c (Heap.lt_size e),Heap.get?_update_ne _ _ _ _ hc]
  exact e
 show wpAny _ _ _ _ _ { s with heap:=((s.heap.update a (Obj.mapSeq fun _=>#[])).push (seqObj "tuple" vs.toArray 0)).push (seqObj "list" #[] 0) }
 have hz:vs.toArray.size=vs.length:=by simp
 have lz:∀ st:SortSt,(arrOf st).Perm (pairsOf vs)->((arrOf st).map (·.2)).size<=sizeLine+1:=fun st hp=>by
  have q:((arrOf st).map (·.2)).size=vs.length:=(Array.size_map ..).trans (hp.size_eq.trans (pairsOf_size _))
  rw[q,sizeLine_eq];omega
 by_cases h2:vs.toArray.size < 2
 ·simp only[if_pos h2]
  refine wpAny_bind (wpAny_pure ?_)
  rw[StateT.run_pure]
  refine wpAny_bind (wpAny_pure (wpAny_bind (seqEpoch_at g6 rfl (wpAny_bind (listUpdate_at g6 rfl ?_ (hsz2:=lz (SortSt.mk' general' (pairsOf vs) #[] 7 none) (Array.Perm.refl _)))))))
  simp only[bne_self_eq_false,Bool.false_eq_true,if_false]
  refine wpAny_pure (h (SortSt.mk' general' (pairsOf vs) #[] 7 none) (Array.Perm.refl _) fun i j hij hj=>?_)
  rw[pairsOf_size] at hj
  rw[show i=j by omega]
  exact Nat.le_refl _
 ·simp only[if_neg h2]
  refine wpAny_bind (hK (by omega) _ old _ ?_)
  refine wpAny_bind (wpAny_mono (runs (hC _ old) (st:=SortSt.mk' kd (pairsOf vs) #[] 7 none) (Q:=fun _ t=>(arrOf t).Perm (pairsOf vs)/\failedOf t=none/\Up rk (arrOf t) (pairsOf vs).size) ⟨Array.Perm.refl _,rfl,rfl,rfl⟩ (by rw[pairsOf_size];omega) (by rw[pairsOf_size];exact h64) fun t q1 q2 q3=>⟨q1,q2,q3⟩) ?_ fun _ _ q=>q)
  rintro⟨⟨⟩,t⟩ s' ⟨rfl,hp,hf,up⟩
  dsimp only
  refine wpAny_bind (seqEpoch_at g6 rfl (wpAny_bind (listUpdate_at g6 rfl ?_ (hsz2:=lz t hp))))
  rw[hf]
  simp only[bne_self_eq_false,Bool.false_eq_true,if_false]
  exact wpAny_pure (h t hp up)
theorem RZ {x:Value} {vs:List Value} {Q:Value->Shared->Prop} (acf:∀ (E':Value->Shared->Prop) (Q':List Value->Shared->Prop),(∀ h' tk,s.heap.objs.size<=h'.objs.size->(∀ c o,s.heap.get? c=some o->h'.get? c=some o)->Q' vs { s with heap:=h',toks:=tk })->wpAny (model prog w) A.in1 (collect x) Q' E' s)
  (hK:2<=vs.length->∀ (E':Value->Shared->Prop) (A':Around) (s':Shared),(∀ c o,s.heap.get? c=some o->s'.heap.get? c=some o)->∀ Q:SortKind->Shared->Prop,Q kd s'->wpAny (model prog w) A' (keyKind' vs.toArray) Q E' s') (hC:∀ (A':Around) (s':Shared),(∀ c o,s.heap.get? c=some o->s'.heap.get? c=some o)->Tg prog w A' s' kd rk (pairsOf vs)) (h64:vs.length < 64)
  (h:∀ (l:Addr) (h':Heap) (tk n:Nat) (st:SortSt),(arrOf st).Perm (pairsOf vs)->Up rk (arrOf st) (pairsOf vs).size->s.heap.objs.size<=l->(∀ c o,s.heap.get? c=some o->h'.get? c=some o)->h'.get? l=some (seqObj "list" ((arrOf st).map (·.2)) n)->Q (.ref l) { s with heap:=h',toks:=tk }) :
  wpAny (model prog w) A (call (.builtin "sorted") [x]) Q E s:=by
 refine Calls.call_function_entry kind_sorted plain_sorted entry_sorted (args_sorted1 _) ?_;unfold Builtin.«sorted»
 refine wpAny_bind (m:=checkCount "sorted" 1 1 _) (wpAny_pure (wpAny_bind (acf _ _ fun h1 tk hle ext=>wpAny_bind (wpAny_newList ?_))))
 have hoL:(h1.push (seqObj "list" vs.toArray 0)).get? h1.objs.size=some (seqObj "list" vs.toArray 0):=Heap.get?_push_size _ rfl
 have old:∀ s':Shared,Old h1.objs.size { s with heap:=h1.push (seqObj "list" vs.toArray 0),toks:=tk } s'->∀ c o,s.heap.get? c=some o->s'.heap.get? c=some o:=fun s' q c o e=>
  q c o (Nat.ne_of_lt (Heap.lt_size (ext c o e))) (Heap.get?_push_of_some _ (ext c o e))
 refine wpAny_bind (wpAny_holding (wpAny_call_entry slot_list_sort ⟨_,hoL,rfl⟩ entry_list_sort (aaf hoL (fun q s' o=>hK q _ _ s' (old s' o)) (fun s' o=>hC _ s' (old s' o)) h64 fun st q1 q2=>⟨_,rfl,wpAny_pure ⟨_,rfl,?_⟩⟩) (args_list_sort _)))
 obtain⟨n,en⟩:=sortedHeap_at (out:=(arrOf st).map (·.2)) hoL
 refine h h1.objs.size _ tk n st q1 q2 hle (fun c o e=>?_) en
 have hb:=Heap.lt_size (ext c o e)
 rw[sortedHeap_old (Nat.ne_of_lt hb) (by rw[Heap.size_push];exact Nat.lt_succ_of_lt hb)]
 exact Heap.get?_push_of_some _ (ext c o e)
end
end S1
end
section
namespace S1
open PySem PySem.Spec PyProof.Rows L2
theorem R0 (fb:Bool) (x y:Value):keyLt' (tuples' fb) x y=(do
  let xs <-Builtin.List.listItems x
  let ys <-Builtin.List.listItems y
  for ((p,q),i) in (xs.toList.zip ys.toList).zipIdx do
   if !(<-eqBool p q) then return <-oneLt' (fb&&i==0) p q
  return decide (xs.size < ys.size)):=rfl
def Qh:Key->Key->Bool
 |.inl a,.inl b=>decide (a < b)
 |.inr x,.inr y=>decide (x.cps.toList < y.cps.toList)
 |.inl _,.inr _=>true
 |.inr _,.inl _=>false
def Qi:Key->Key->Bool
 |.inl _,.inl _=>true
 |.inr _,.inr _=>true
 |_,_=>false
def nF:List Key->List Key->Bool
 |[],[]=>false
 |[],_::_=>true
 |_::_,[]=>false
 |x::xs,y::ys=>if x=y then nF xs ys else Qh x y
def YF:List Key->List Key->Prop
 |x::xs,y::ys=>Qi x y=true/\YF xs ys
 |_,_=>True
section
variable {prog:Program} {w:World} {A:Around} {E:Value->Shared->Prop} {s:Shared}
theorem key_eq {x y:Key} {p q:Value} {Q:Bool->Shared->Prop} (hp:kI x p=true) (hq:kI y q=true) (h:Q (decide (x=y)) s):wpAny (model prog w) A (eqBool p q) Q E s:=
 (bU prog w).eqBool (a:=x) (b:=y) hp hq h
theorem acg {fb:Bool} {x y:Key} {p q:Value} {Q:Bool->Shared->Prop} (hs:Qi x y=true) (hp:kI x p=true) (hq:kI y q=true) (h:Q (Qh x y) s):wpAny (model prog w) A (oneLt' fb p q) Q E s:=by
 rcases cJ hp with⟨i,t,rfl,rfl⟩|⟨z,t,rfl,rfl⟩
 ·rcases cJ hq with⟨j,u,rfl,rfl⟩|⟨z,u,rfl,rfl⟩
  ·cases fb with
   |true=>exact oneLt_int h
   |false=>
    rw[oneLt'_eq]
    simp only[Bool.false_eq_true,if_false]
    refine wpAny_bind (show wpAny _ _ (compareOp .Lt (.int i t) (.int j u)) _ _ _ from lt_int ?_)
    exact wpAny_truthy_bool h
  ·cases hs
 ·rcases cJ hq with⟨j,u,rfl,rfl⟩|⟨z',u,rfl,rfl⟩
  ·cases hs
  ·cases fb with
   |true=>exact oneLt_str h
   |false=>
    rw[oneLt'_eq]
    simp only[Bool.false_eq_true,if_false]
    refine wpAny_bind (show wpAny _ _ (compareOp .Lt (.str z t) (.str z' u)) _ _ _ from PySem.P.lt_str ?_)
    exact wpAny_truthy_bool h
def Ks (ks:List Key) (its:List Value):Prop:=Paired (fun k v=>kI k v=true) ks its
def dif:List Key->List Key->Option Bool
 |x::xs,y::ys=>if x=y then dif xs ys else some (Qh x y)
 |_,_=>none
theorem Vn:∀ ks ls:List Key,nF ks ls=match dif ks ls with|some r=>r|none=>decide (ks.length < ls.length)
 |[],[]=>rfl
 |[],_::_=>by simp[nF,dif]
 |_::_,[]=>rfl
 |x::xs,y::ys=>by
  simp only[nF,dif]
  by_cases e:x=y
  ·rw[if_pos e,if_pos e,Vn xs ys]
   simp only[List.length_cons,Nat.add_lt_add_iff_right]
  ·rw[if_neg e,if_neg e]
def turn (fb:Bool):(Value×Value)×Nat->Option Bool×Unit->Sem (ForInStep (Option Bool×Unit)):=fun x _=>match x with
 |((p,q),i)=>do
  let e <-eqBool p q
  if (!e)=true then do
    let r <-oneLt' (fb&&i==0) p q
    pure (ForInStep.done (some r,()))
   else pure (ForInStep.yield (none,()))
theorem walk (fb:Bool):∀ (ks ls:List Key) (its jts:List Value) (i:Nat) (R:Option Bool×Unit->Shared->Prop),Ks ks its->Ks ls jts->YF ks ls->R (dif ks ls,()) s->wpAny (model prog w) A (forIn ((its.zip jts).zipIdx i) ((none,()):Option Bool×Unit) (turn fb)) R E s
 |[],_,_,_,_,R,.nil,_,_,h=>wpAny_pure h
 |_::_,[],_::_,_,_,R,_,.nil,_,h=>wpAny_pure h
 |x::xs,y::ys,p::its,q::jts,i,R,.cons hp hk,.cons hq hl,hs,h=>by
  rw[List.zip_cons_cons,List.zipIdx_cons,List.forIn_cons]
  refine wpAny_bind ?_
  show wpAny _ _ (eqBool p q >>= _) _ _ _
  refine wpAny_bind (key_eq hp hq ?_)
  by_cases e:x=y
  ·simp only[e,decide_true,Bool.not_true,Bool.false_eq_true,if_false]
   refine wpAny_pure (walk fb xs ys its jts (i+1) R hk hl hs.2 ?_)
   simp only[dif,if_pos e] at h
   exact h
  ·simp only[e,decide_false,Bool.not_false,if_true]
   refine wpAny_bind (acg hs.1 hp hq (wpAny_pure (wpAny_pure ?_)))
   simp only[dif,if_neg e] at h
   exact h
theorem ach {fb:Bool} {a c:Addr} {oa oc:Obj} {its jts:List Value} {n m:Nat} {ks ls:List Key} {Q:Bool->Shared->Prop} (ha:s.heap.get? a=some oa) (da:oa.data=.seq its.toArray n) (hc:s.heap.get? c=some oc) (dc:oc.data=.seq jts.toArray m)
  (hk:Ks ks its) (hl:Ks ls jts) (hs:YF ks ls) (h:Q (nF ks ls) s):wpAny (model prog w) A (keyLt' (tuples' fb) (.ref a) (.ref c)) Q E s:=by
 rw[R0]
 refine wpAny_bind (listItems_at ha da (wpAny_bind (listItems_at hc dc ?_)))
 have hl1:its.length=ks.length:=(Paired.length hk).symm
 have hl2:jts.length=ls.length:=(Paired.length hl).symm
 refine wpAny_bind (walk fb ks ls its jts 0 _ hk hl hs ?_)
 rw[Vn] at h
 cases e:dif ks ls with
 |some r=>rw[e] at h;exact wpAny_pure h
 |none=>
  rw[e] at h
  refine wpAny_pure ?_
  simpa [hl1,hl2] using h
end
theorem YG (x:Key):Qh x x=false:=by
 cases x with
 |inl a=>simp[Qh]
 |inr a=>simp[Qh]
theorem R3 {x y z:Key} (h:Qh x y=true) (h':Qh y z=true):Qh x z=true:=by
 cases x<;>cases y<;>cases z<;>simp only[Qh,decide_eq_true_eq,Bool.false_eq_true,reduceCtorEq] at h h' ⊢
 ·omega
 ·exact List.lt_trans h h'
theorem YH {x y:Key} (h:Qh x y=false) (h':Qh y x=false):x=y:=by
 cases x<;>cases y<;>simp only[Qh,decide_eq_false_iff_not,Bool.true_eq_false,reduceCtorEq] at h h'
 ·congr 1;omega
 ·rename_i a b
  have:=List.le_antisymm (as:=a.cps.toList) (bs:=b.cps.toList) h' h
  cases a;cases b
  simp only at this
  rw[Array.toList_inj.mp this]
theorem CZ:∀ xs:List Key,nF xs xs=false
 |[]=>rfl
 |x::xs=>by simp only[nF,if_true];exact CZ xs
theorem o8:∀ {xs ys zs:List Key},nF xs ys=true->nF ys zs=true->nF xs zs=true
 |[],[],_,h,_=>by cases h
 |[],_::_,[],_,h'=>by cases h'
 |[],_::_,_::_,_,_=>rfl
 |_::_,[],_,h,_=>by cases h
 |_::_,_::_,[],_,h'=>by cases h'
 |x::xs,y::ys,z::zs,h,h'=>by
  simp only[nF] at h h' ⊢
  by_cases e1:x=y
  ·subst e1
   rw[if_pos rfl] at h
   by_cases e2:x=z
   ·subst e2
    rw[if_pos rfl] at h' ⊢
    exact o8 h h'
   ·rw[if_neg e2] at h' ⊢;exact h'
  ·rw[if_neg e1] at h
   by_cases e2:y=z
   ·subst e2
    rw[if_neg e1];exact h
   ·rw[if_neg e2] at h'
    have:=R3 h h'
    rw[if_neg (fun e=>by subst e;rw[YG] at this;cases this)]
    exact this
theorem yr:∀ {xs ys:List Key},nF xs ys=false->nF ys xs=false->xs=ys
 |[],[],_,_=>rfl
 |[],_::_,h,_=>by cases h
 |_::_,[],_,h'=>by cases h'
 |x::xs,y::ys,h,h'=>by
  simp only[nF] at h h'
  by_cases e:x=y
  ·subst e
   rw[if_pos rfl] at h h'
   rw[yr h h']
  ·rw[if_neg e] at h
   rw[if_neg (Ne.symm e)] at h'
   exact absurd (YH h h') e
def uN (xs ys:List Key):Bool:=!nF ys xs
theorem xg (a b c:List Key) (h:uN a b=true) (h':uN b c=true):uN a c=true:=by
 unfold uN at *
 simp only[Bool.not_eq_true'] at *
 cases hc:nF c a with
 |false=>rfl
 |true=>
  cases hab:nF a b with
  |true=>rw[o8 hc hab] at h';cases h'
  |false=>
   have e:=yr hab h
   subst e
   rw[hc] at h';cases h'
theorem xr (a b:List Key):(uN a b||uN b a)=true:=by
 unfold uN
 cases h:nF b a with
 |false=>rfl
 |true=>
  cases h':nF a b with
  |false=>rfl
  |true=>have:=o8 h h';rw[CZ] at this;cases this
theorem Hr {a b:List Key} (h:uN a b=true) (h':uN b a=true):a=b:=by
 unfold uN at *
 simp only[Bool.not_eq_true'] at *
 exact yr h' h
theorem uO {α:Type} {le:α->α->Prop} (anti:∀ a b,le a b->le b a->a=b):∀ {l l':List α},l.Perm l'->l.Pairwise le->l'.Pairwise le->l=l'
 |[],l',h,_,_=>by rw[List.nil_perm.mp h]
 |a::l,[],h,_,_=>by cases List.perm_nil.mp h
 |a::l,b::l',h,p,p'=>by
  have e:a=b:=by
   have ha:a∈b::l':=h.mem_iff.mp (List.mem_cons_self ..)
   have hb:b∈a::l:=h.mem_iff.mpr (List.mem_cons_self ..)
   rcases List.mem_cons.mp ha with h1|h1
   ·exact h1
   ·rcases List.mem_cons.mp hb with h2|h2
    ·exact h2.symm
    ·exact anti a b (List.rel_of_pairwise_cons p h2) (List.rel_of_pairwise_cons p' h1)
  subst e
  rw[uO anti ((List.perm_cons a).mp h) (List.pairwise_cons.mp p).2 (List.pairwise_cons.mp p').2]
def lg (dB:List (List Key)):List (List Key):=dB.mergeSort uN
theorem mY (dB:List (List Key)):(lg dB).Perm dB:=List.mergeSort_perm ..
theorem uP (dB:List (List Key)):(lg dB).Pairwise (fun a b=>uN a b=true):=List.pairwise_mergeSort xg xr dB
theorem qD {dB out:List (List Key)} (hp:out.Perm dB) (hs:out.Pairwise (fun a b=>uN a b=true)):out=lg dB:=uO (fun _ _=>Hr) (hp.trans (mY dB).symm) hs (uP dB)
def rank (dB:List (List Key)) (k:List Key):Nat:=dB.countP fun u=>nF u k
theorem Ht {α:Type} {p q:α->Bool}:∀ {l:List α},(∀ x∈l,p x=true->q x=true)->(∃ x∈l,p x=false/\q x=true)->l.countP p < l.countP q
 |[],_,⟨x,hx,_⟩=>by cases hx
 |a::l,h,⟨x,hx,h1,h2⟩=>by
  have le:l.countP p<=l.countP q:=List.countP_mono_left fun y hy=>h y (List.mem_cons_of_mem _ hy)
  rw[List.countP_cons,List.countP_cons]
  rcases List.mem_cons.mp hx with rfl|hx
  ·rw[h1,h2];simp;omega
  ·have:=Ht (fun y hy=>h y (List.mem_cons_of_mem _ hy)) ⟨x,hx,h1,h2⟩
   have ha:=h a (List.mem_cons_self ..)
   cases hp:p a with
   |true=>rw[ha hp];simp;omega
   |false=>simp;omega
theorem Qj {dB:List (List Key)} {a b:List Key} (ha:a∈dB):decide (rank dB a < rank dB b)=nF a b:=by
 cases h:nF a b with
 |true=>
  refine decide_eq_true (Ht (fun u _ hu=>o8 hu h) ⟨a,ha,CZ a,h⟩)
 |false=>
  refine decide_eq_false (Nat.not_lt.mpr (List.countP_mono_left fun u _ hu=>?_))
  cases hb:nF b a with
  |true=>exact o8 hu hb
  |false=>rw[yr h hb];exact hu
def jY (h:Heap) (ks:List Key) (v:Value):Prop:=∃ (a:Addr) (o:Obj) (its:List Value) (n:Nat),v=.ref a/\h.get? a=some o/\o.cls=.type "tuple" ∧ o.data=.seq its.toArray n/\Ks ks its
theorem jY.keep {h h':Heap} {ks:List Key} {v:Value} (q:jY h ks v) (k:∀ c o,h.get? c=some o->h'.get? c=some o):jY h' ks v:=by
 obtain⟨a,o,its,n,e,g,c,d,p⟩:=q
 exact⟨a,o,its,n,e,k _ _ g,c,d,p⟩
theorem YJ {k l:Key} {v:Value} (h:kI k v=true) (h':kI l v=true):k=l:=by
 rcases cJ h with⟨i,t,rfl,rfl⟩|⟨x,t,rfl,rfl⟩
 ·rcases cJ h' with⟨j,u,rfl,e⟩|⟨y,u,rfl,e⟩
  ·cases e;rfl
  ·cases e
 ·rcases cJ h' with⟨j,u,rfl,e⟩|⟨y,u,rfl,e⟩
  ·cases e
  ·cases e;rfl
theorem Ks.inj:∀ {ks ls:List Key} {its:List Value},Ks ks its->Ks ls its->ks=ls
 |_,_,[],h,h'=>by cases h;cases h';rfl
 |_,_,v::its,h,h'=>by
  cases h with
  |cons p t=>cases h' with
   |cons p' t'=>rw[YJ p p',Ks.inj t t']
theorem jY.inj {h:Heap} {ks ls:List Key} {v:Value} (q:jY h ks v) (q':jY h ls v):ks=ls:=by
 obtain⟨a,o,its,n,rfl,g,c,d,p⟩:=q
 obtain⟨a',o',its',n',e,g',c',d',p'⟩:=q'
 cases e
 rw[g] at g'
 cases g'
 rw[d] at d'
 injection d' with e1 e2
 have e3:its=its':=by simpa using congrArg Array.toList e1
 subst e3
 exact p.inj p'
section
variable {prog:Program} {w:World} {A:Around} {E:Value->Shared->Prop} {s:Shared}
theorem Jp {α β:Type} {f:α->Sem β}:∀ (xs:List α) (ys:List β) (Q:List β->Shared->Prop),Paired (fun x y=>∀ (E':Value->Shared->Prop) (Q':β->Shared->Prop),Q' y s->wpAny (model prog w) A (f x) Q' E' s) xs ys->Q ys s->wpAny (model prog w) A (xs.mapM f) Q E s
 |[],_,Q,.nil,h=>by rw[List.mapM_nil];exact wpAny_pure h
 |x::xs,y::ys,Q,.cons h t,q=>by
  rw[List.mapM_cons]
  exact wpAny_bind (h _ _ (wpAny_bind (Jp xs ys _ t (wpAny_pure q))))
theorem Vo (v:Value):firstOfTuple' v=(do
  if (<-typeOf v) != .type "tuple" then return none
  return (<-Builtin.List.listItems v)[0]?):=rfl
theorem R4 {k:Key} {ks:List Key} {v:Value} (q:jY s.heap (k::ks) v):∃ u,kI k u=true/\∀ (E':Value->Shared->Prop) (Q':Option Value->Shared->Prop),Q' (some u) s->wpAny (model prog w) A (firstOfTuple' v) Q' E' s:=by
 obtain⟨a,o,its,n,rfl,g,c,d,p⟩:=q
 cases p with
 |@cons _ u _ its hp t=>
  refine⟨u,hp,fun E' Q' h=>?_⟩
  rw[Vo]
  refine wpAny_bind (wpAny_typeOf (T := "tuple") ⟨o,g,c⟩ ?_)
  rw[if_neg (by decide)]
  exact wpAny_bind (listItems_at g d (wpAny_pure h))
theorem Vp {k:Key} {u:Value} (h:kI k u=true) (E':Value->Shared->Prop) (Q':Value->Shared->Prop) (q:Q' (.type (if k.isLeft then "int" else "str")) s):wpAny (model prog w) A (typeOf u) Q' E' s:=by
 rcases cJ h with⟨i,t,rfl,rfl⟩|⟨x,t,rfl,rfl⟩
 ·exact wpAny_typeOf (typeIs_int s i t) q
 ·exact wpAny_typeOf (typeIs_str s x t) q
theorem Hu {vs:List Value} {dB:List (List Key)} {Q:SortKind->Shared->Prop} (hv:Paired (jY s.heap) dB vs) (hne:∀ k∈dB,k≠[]) (hsh:∀ k∈dB,∀ l∈dB,YF k l) (h2:1<=vs.length) (h:Q (tuples' true) s):wpAny (model prog w) A (keyKind' vs.toArray) Q E s:=by
 have step:∀ (dB:List (List Key)) (vs:List Value),Paired (jY s.heap) dB vs->(∀ k∈dB,k≠[])->∃ us:List Value,Paired (fun v u=>∀ (E':Value->Shared->Prop) (Q':Option Value->Shared->Prop),Q' (some u) s->wpAny (model prog w) A (firstOfTuple' v) Q' E' s) vs us/\Paired (fun (k:List Key) u=>∃ x r,k=x::r/\kI x u=true) dB us:=by
  intro dB vs hv
  induction hv with
  |nil=>intro _;exact⟨[],.nil,.nil⟩
  |@cons k v dB vs q t ih=>
   intro hne
   obtain⟨us,p1,p2⟩:=ih fun k hk=>hne k (List.mem_cons_of_mem _ hk)
   cases k with
   |nil=>exact absurd rfl (hne _ (List.mem_cons_self ..))
   |cons x r=>
    obtain⟨u,hu,hw⟩:=R4 (prog:=prog) (w:=w) (A:=A) q
    exact⟨u::us,.cons hw p1,.cons ⟨x,r,rfl,hu⟩ p2⟩
 obtain⟨us,p1,p2⟩:=step dB vs hv hne
 have hlen:us.length=vs.length:=(Paired.length p1).symm
 have lift:∀ {l:List Value} {ws:List Value},Paired (fun v u=>∀ (E':Value->Shared->Prop) (Q':Option Value->Shared->Prop),Q' (some u) s->wpAny (model prog w) A (firstOfTuple' v) Q' E' s) l ws->Paired (fun v u=>∀ (E':Value->Shared->Prop) (Q':Option Value->Shared->Prop),Q' u s->wpAny (model prog w) A (firstOfTuple' v) Q' E' s) l (ws.map some):=fun h=>by
  induction h with
  |nil=>exact .nil
  |cons q t ih=>exact .cons q ih
 rw[keyKind'_eq,List.mapM_toArray,map_eq_pure_bind]
 refine wpAny_bind (wpAny_bind (Jp vs (us.map some) _ (lift p1) (wpAny_pure ?_)))
 have hall:(us.map some).toArray.all (·.isSome)=true:=by simp
 rw[if_pos hall]
 refine wpAny_bind (wpAny_rule ?_)
 have hf:(us.map some).toArray.filterMap id=us.toArray:=by simp
 rw[hf,oneTypeOnly'_eq,List.mapM_toArray,map_eq_pure_bind]
 have ty:∀ (dB:List (List Key)) (us:List Value),Paired (fun (k:List Key) u=>∃ x r,k=x::r/\kI x u=true) dB us->∃ ts:List Value,Paired (fun u t=>∀ (E':Value->Shared->Prop) (Q':Value->Shared->Prop),Q' t s->wpAny (model prog w) A (typeOf u) Q' E' s) us ts/\Paired (fun (k:List Key) t=>∃ x r,k=x::r/\t=.type (if x.isLeft then "int" else "str")) dB ts:=by
  intro dB us hp
  induction hp with
  |nil=>exact⟨[],.nil,.nil⟩
  |@cons k u dB us q t ih=>
   obtain⟨ts,q1,q2⟩:=ih
   obtain⟨x,r,rfl,hx⟩:=q
   exact⟨_::ts,.cons (fun E' Q' h=>Vp hx E' Q' h) q1,.cons ⟨x,r,rfl,rfl⟩ q2⟩
 obtain⟨ts,q1,q2⟩:=ty dB us p2
 refine wpAny_bind (wpAny_bind (wpAny_bind (Jp us ts _ q1 (wpAny_pure ?_))))
 have lt:ts.length=vs.length:=by rw[<-Paired.length q1,hlen]
 cases q2 with
 |nil=>simp at lt;omega
 |@cons k0 t0 ait ts' h0 r0=>
  obtain⟨x0,r,rfl,rfl⟩:=h0
  have same:∀ t∈ts',t=Value.type (if x0.isLeft then "int" else "str"):=by
   have aux:∀ (dB:List (List Key)) (ts:List Value),Paired (fun (k:List Key) t=>∃ x r,k=x::r/\t=Value.type (if x.isLeft then "int" else "str")) dB ts->(∀ k∈dB,YF (x0::r) k)->∀ t∈ts,t=Value.type (if x0.isLeft then "int" else "str"):=by
    intro dB ts hp
    induction hp with
    |nil=>intro _ t ht;cases ht
    |@cons k t dB ts q _ ih=>
     intro hs u hu
     rcases List.mem_cons.mp hu with rfl|hu
     ·obtain⟨x,r',rfl,rfl⟩:=q
      have:=(hs _ (List.mem_cons_self ..)).1
      cases x0<;>cases x<;>first|rfl|cases this
     ·exact ih (fun k hk=>hs k (List.mem_cons_of_mem _ hk)) u hu
   exact aux _ _ r0 fun k hk=>hsh _ (List.mem_cons_self ..) k (List.mem_cons_of_mem _ hk)
  have e0:(Value.type (if x0.isLeft then "int" else "str")::ts').toArray[0]?=some (Value.type (if x0.isLeft then "int" else "str")):=by simp
  have e1:((Value.type (if x0.isLeft then "int" else "str")::ts').toArray.all fun x=>x==Value.type (if x0.isLeft then "int" else "str"))=true:=by
   simp only[List.all_toArray,List.all_eq_true]
   intro t ht
   rcases List.mem_cons.mp ht with rfl|ht
   ·simp
   ·rw[same t ht];simp
  rw[e0]
  simp only[e1,if_true]
  refine wpAny_pure (wpAny_pure ?_)
  have e2:((some (Value.type (if x0.isLeft then "int" else "str"))).any fun x=>x != Value.type "tuple")=true:=by
   cases x0 with
   |inl _=>exact (by decide:((some (Value.type "int")).any fun x=>x != Value.type "tuple")=true)
   |inr _=>exact (by decide:((some (Value.type "str")).any fun x=>x != Value.type "tuple")=true)
  rw[e2]
  exact h
def keyOf (dB:List (List Key)) (vs:List Value) (v:Value):List Key:=match (vs.zip dB).find? (fun p=>p.1==v) with
 |some p=>p.2
 |none=>[]
theorem lX {h:Heap}:∀ {dB:List (List Key)} {vs:List Value},Paired (jY h) dB vs->∀ v∈vs,keyOf dB vs v∈dB/\jY h (keyOf dB vs v) v
 |_,_,.nil,v,hv=>by cases hv
 |k::dB,u::vs,.cons q t,v,hv=>by
  unfold keyOf
  rw[List.zip_cons_cons,List.find?_cons]
  by_cases e:u=v
  ·subst e
   simp only[beq_self_eq_true]
   exact⟨List.mem_cons_self ..,q⟩
  ·have e':(u==v)=false:=by simpa using e
   simp only[e']
   have hv':v∈vs:=by
    rcases List.mem_cons.mp hv with h|h
    ·exact absurd h.symm e
    ·exact h
   have ih:=lX t v hv'
   exact⟨List.mem_cons_of_mem _ ih.1,ih.2⟩
theorem Ad {h:Heap}:∀ {dB:List (List Key)} {vs:List Value},Paired (jY h) dB vs->∀ (K:Value->List Key),(∀ v∈vs,jY h (K v) v)->vs.map K=dB
 |_,_,.nil,_,_=>rfl
 |k::dB,v::vs,.cons q t,K,hK=>by
  rw[List.map_cons,(hK v (List.mem_cons_self ..)).inj q,Ad t K fun u hu=>hK u (List.mem_cons_of_mem _ hu)]
theorem xu {h:Heap}:∀ {vs:List Value} {K:Value->List Key},(∀ v∈vs,jY h (K v) v)->Paired (jY h) (vs.map K) vs
 |[],_,_=>.nil
 |v::vs,K,hK=>.cons (hK v (List.mem_cons_self ..)) (xu fun u hu=>hK u (List.mem_cons_of_mem _ hu))
theorem La {vs:List Value} {dB:List (List Key)} (hv:Paired (jY s.heap) dB vs) (hsh:∀ k∈dB,∀ l∈dB,YF k l):Tg prog w A s (tuples' true) (fun v=>rank dB (keyOf dB vs v)) (pairsOf vs):=by
 intro E p q Q hp hq h
 rw[pairsOf_toList] at hp hq
 obtain⟨m1,t1⟩:=lX hv p.1 (mem_zip_self hp).2
 obtain⟨m2,t2⟩:=lX hv q.1 (mem_zip_self hq).2
 rw[Qj m1] at h
 have sh:=hsh _ m1 _ m2
 obtain⟨a,o,its,n,e,g,c,d,k⟩:=t1
 obtain⟨a',o',its',n',e',g',c',d',k'⟩:=t2
 rw[e,e']
 exact ach g d g' d' k k' sh h
theorem Lb {h:Heap} {vs:List Value} {dB:List (List Key)} (hv:Paired (jY h) dB vs) {xs:Array Keyed} (hp:xs.Perm (pairsOf vs)) (up:Up (fun v=>rank dB (keyOf dB vs v)) xs (pairsOf vs).size):Paired (jY h) (lg dB) (xs.map (·.2)).toList:=by
 have hl:xs.toList.Perm (vs.zip vs):=by rw[<-pairsOf_toList];exact Array.perm_iff_toList_perm.mp hp
 have hm:∀ p∈xs.toList,p.1=p.2/\p.1∈vs:=fun p q=>mem_zip_self (hl.mem_iff.mp q)
 have e:(xs.map (·.2)).toList=xs.toList.map (·.1):=by
  rw[Array.toList_map];exact List.map_congr_left fun p q=>(hm p q).1.symm
 have pv:(xs.toList.map (·.1)).Perm vs:=by
  have:=hl.map Prod.fst
  rwa [List.map_fst_zip (Nat.le_refl _)] at this
 have key:lg dB=(xs.toList.map (·.1)).map (keyOf dB vs):=by
  refine (qD ?_ ?_).symm
  ·have:=pv.map (keyOf dB vs)
   rwa [Ad hv _ fun v q=>(lX hv v q).2] at this
  ·rw[List.pairwise_iff_getElem]
   intro i j hi hj hij
   have hi':i < xs.size:=by simpa using hi
   have hj':j < xs.size:=by simpa using hj
   have u:=up i j (Nat.le_of_lt hij) (by rw[<-hp.size_eq];exact hj')
   unfold at_ at u
   rw[getElem?_pos xs i hi',getElem?_pos xs j hj'] at u
   have m2:=(lX hv xs[j].1 (hm xs[j] (by simp)).2).1
   simp only[List.getElem_map,Array.getElem_toList]
   unfold uN
   rw[<-Qj m2,decide_eq_false (Nat.not_lt.mpr u)]
   rfl
 rw[key,e]
 refine xu fun v q=>(lX hv v ?_).2
 exact pv.mem_iff.mp q
end
end S1
end
section
namespace P1
open PySem PySem.Spec PyProof.Rows L2 S1
section
variable {prog:Program} {w:World} {A:Around} {E:Value->Shared->Prop} {s:Shared}
theorem Oh {l:Addr} {o:Obj} {T:String} {vs:List Value} {n:Nat} {Q:List Value->Shared->Prop} (ho:s.heap.get? l=some o) (hc:o.cls=.type T) (hT:T = "list" ∨ T = "tuple") (hd:o.data=.seq vs.toArray n) (hz:vs.length<=sizeLine)
  (h:∀ h' tk,s.heap.objs.size<=h'.objs.size->(∀ c o,s.heap.get? c=some o->h'.get? c=some o)->Q vs { s with heap:=h',toks:=tk }):wpAny (model prog w) A (collect (.ref l)) Q E s:=by
 unfold collect
 refine wpAny_bind (wpAny_runValue (codeAny_builtin entry_proto_collect' ?_))
 show wpAny _ _ (newList [] >>= fun q=>again (.builtin "list.__iadd__" ⟨[q,.ref l],[]⟩)) _ _ s
 refine wpAny_bind (wpAny_newList (wpAny_pure ⟨Code.quiet_builtin _ (by decide +kernel),codeAny_builtin entry_list_iadd' ?_⟩))
 show wpAny _ _ (Builtin.List.listExtendWith (.ref s.heap.objs.size) (.ref l) (.ref s.heap.objs.size)) _ _ _
 unfold Builtin.List.listExtendWith
 have g1:(s.heap.push (seqObj "list" #[] 0)).get? l=some o:=Heap.get?_push_of_some _ ho
 refine wpAny_bind (wpAny_typeOf (T:=T) ⟨o,g1,hc⟩ ?_)
 have ht:(Value.type T==Value.type "list" || Value.type T==Value.type "tuple")=true:=by rcases hT with rfl|rfl<;>decide
 rw[if_pos (by rw[Bool.or_assoc,ht];simp)]
 refine wpAny_bind (listItems_at g1 hd (wpAny_bind (listItems_at (xs:=#[]) (n:=0) (Heap.get?_push_size _ rfl) rfl ?_)))
 rw[if_neg (by simp)]
 have g2:(s.heap.push (seqObj "list" #[] 0)).get? s.heap.objs.size=some (seqObj "list" #[] 0):=Heap.get?_push_size _ rfl
 refine wpAny_bind (listUpdate_at (xs:=#[]) (n:=0) g2 rfl (wpAny_pure ?_) (Nat.zero_le _) (by show (#[]++vs.toArray).size<=sizeLine+1;simp only[Array.size_append,List.size_toArray,List.length_nil];omega))
 show wpAny (model prog w) A (load s.heap.objs.size >>= _) Q E _
 refine wpAny_bind (wpAny_load (get?_update_seq g2 _) ?_)
 show wpAny _ _ (pure ((#[]:Array Value)++vs.toArray).toList) Q E _
 rw[show ((#[]:Array Value)++vs.toArray).toList=vs by simp]
 refine wpAny_pure (h _ s.toks ?_ fun c oc e=>?_)
 ·rw[Heap.size_update,size_push'];exact Nat.le_succ _
 ·rw[Heap.get?_update_ne _ _ _ _ (Nat.ne_of_lt (Heap.lt_size e))]
  exact Heap.get?_push_of_some _ e
end
def YK:Dt->Option Key
 |.int i=>some (.inl i)
 |.str x=>some (.inr x)
 |_=>none
def Ae:List Dt->Option (List Key)
 |[]=>some []
 |d::ds=>(YK d).bind fun k=>(Ae ds).bind fun ks=>some (k::ks)
def Dc:Dt->Option (List Key)
 |.tup ds=>Ae ds
 |_=>none
def rG:List Dt->Option (List (List Key))
 |[]=>some []
 |d::ds=>(Dc d).bind fun k=>(rG ds).bind fun ks=>some (k::ks)
def dK:Key->Dt
 |.inl i=>.int i
 |.inr x=>.str x
def tupK (ks:List Key):Dt:=.tup (ks.map dK)
theorem YL {d:Dt} {k:Key} (h:YK d=some k):d=dK k:=by
 cases d<;>cases h<;>rfl
theorem Ld:∀ {ds:List Dt} {ks:List Key},Ae ds=some ks->ds=ks.map dK
 |[],_,h=>by cases h;rfl
 |d::ds,_,h=>by
  obtain⟨k,e1,h⟩:=bind_some h
  obtain⟨ks,e2,h⟩:=bind_some h
  cases h
  rw[List.map_cons,YL e1,Ld e2]
theorem Le {d:Dt} {ks:List Key} (h:Dc d=some ks):d=tupK ks:=by
 cases d with
 |tup ds=>exact congrArg Dt.tup (Ld h)
 |_=>cases h
theorem zH:∀ {ds:List Dt} {dB:List (List Key)},rG ds=some dB->ds=dB.map tupK
 |[],_,h=>by cases h;rfl
 |d::ds,_,h=>by
  obtain⟨k,e1,h⟩:=bind_some h
  obtain⟨ks,e2,h⟩:=bind_some h
  cases h
  rw[List.map_cons,Le e1,zH e2]
section
variable {X:Cx}
theorem YM {K:PySem.W.Frag} {H:Hp} {k:Key} {v:V} (h:Rep K H (dK k) v):v=kV k:=by
 cases k with
 |inl i=>exact (show v=.int i by simpa only[dK,Rep] using h)
 |inr x=>exact (show v=.str x/\x.length<=sizeLine by simpa only[dK,Rep] using h).1
theorem Hv {K:PySem.W.Frag} {H:Hp}:∀ {ks:List Key} {vs:List V},aO K H (ks.map dK) vs->vs=ks.map kV
 |[],_,h=>by simp only[List.map_nil,aO] at h;exact h
 |k::ks,_,h=>by
  simp only[List.map_cons,aO] at h
  obtain⟨v,r,rfl,h1,h2⟩:=h
  rw[YM h1,Hv h2,List.map_cons]
theorem aeu (X:Cx) {ks:List Key}:∀ {us:List Value},Vals (ks.map kV) us->Ks ks us:=by
 induction ks with
 |nil=>intro us h;cases h;exact .nil
 |cons k ks ih=>
  intro us h
  cases h with
  |cons r t=>exact .cons (KH (P:=X.prog) (w:=X.w) r) (ih t)
theorem pN {pins:List (Addr×Obj)} {σ:L2.St} {H:Hp} {s:Shared} (I:Inv X pins σ H s):∀ {dB:List (List Key)} {vs:List V} {its:List Value},aO X.K H (dB.map tupK) vs->Vals vs its->Paired (jY s.heap) dB its
 |[],_,_,h,r=>by
  simp only[List.map_nil,aO] at h
  subst h;cases r;exact .nil
 |k::dB,_,_,h,r=>by
  simp only[List.map_cons,aO] at h
  obtain⟨v,vs,rfl,h1,h2⟩:=h
  cases r with
  |cons r1 r2=>
   refine .cons ?_ (pN I h2 r2)
   simp only[tupK,Rep] at h1
   obtain⟨a,ws,rfl,sq,rs⟩:=h1
   obtain⟨its,rv,⟨o,g,c,n,d⟩,_⟩:=I.tuple sq
   cases r1
   rw[Hv rs] at rv
   exact⟨a,o,its,n,rfl,g,c,d,aeu X rv⟩
theorem zJ {pins:List (Addr×Obj)} {σ:L2.St} {H:Hp} {s:Shared} (I:Inv X pins σ H s) {dB:List (List Key)} {vs:List V} {its:List Value} (h:aO X.K H (dB.map tupK) vs) (r:Vals vs its):∀ {Ti:List (List Key)} {out:List Value},Paired (jY s.heap) Ti out->(∀ u∈out,u∈its)->∃ zs,Vals zs out/\aO X.K H (Ti.map tupK) zs
 |_,_,.nil,_=>⟨[],.nil,aO.nil⟩
 |l::Ti,u::out,.cons q t,hm=>by
  obtain⟨zs,z1,z2⟩:=zJ I h r t fun x hx=>hm x (List.mem_cons_of_mem _ hx)
  have aux:∀ (dB:List (List Key)) (vs:List V) (its:List Value),aO X.K H (dB.map tupK) vs->Vals vs its->u∈its->∃ v,RelV v u/\Rep X.K H (tupK l) v:=by
   intro dB
   induction dB with
   |nil=>
    intro vs its h r hu
    simp only[List.map_nil,aO] at h
    subst h;cases r;cases hu
   |cons k dB ih=>
    intro vs its h r hu
    simp only[List.map_cons,aO] at h
    obtain⟨v,vs,rfl,h1,h2⟩:=h
    cases r with
    |@cons _ u' _ _ r1 r2=>
     rcases List.mem_cons.mp hu with rfl|hu
     ·have e:k=l:=by
       have:=pN I (dB:=[k]) (vs:=[v]) (its:=[u]) (by simp only[List.map_cons,List.map_nil];exact aO.cons h1 aO.nil) (.cons r1 .nil)
       cases this with
       |cons q' _=>exact q'.inj q
      subst e
      exact⟨v,r1,h1⟩
     ·exact ih vs _ h2 r2 hu
  obtain⟨v,r1,h1⟩:=aux dB vs its h r (hm u (List.mem_cons_self ..))
  exact⟨v::zs,.cons r1 z1,by rw[List.map_cons];exact aO.cons h1 z2⟩
def Jq (k l:List Key):Bool:=((k.zip l).all fun p=>Qi p.1 p.2)
theorem Dd:∀ {k l:List Key},Jq k l=true->YF k l
 |[],_,_=>by simp[YF]
 |_::_,[],_=>by simp[YF]
 |x::k,y::l,h=>by
  unfold Jq at h
  rw[List.zip_cons_cons,List.all_cons,Bool.and_eq_true] at h
  exact⟨h.1,Dd h.2⟩
def Aw (dB:List (List Key)):Bool:=decide (dB.length < 64)&&(dB.all (fun k=>!k.isEmpty)&&dB.all fun k=>dB.all fun l=>Jq k l)
def Dg:List Bx->Option Bx
 |[b]=>(wY b).bind fun ds=>(rG ds).bind fun dB=>if Aw dB=true then some (.o ((lg dB).map tupK)) else none
 |_=>none
theorem BR {K:PySem.W.Frag} {H:Hp} {b:Bx} {v:V} {ds:List Dt} (h:bN K H b v) (e:wY b=some ds):∃ a vs,v=.ref a/\(uz K H a vs\/wD K H a vs)/\aO K H ds vs:=by
 cases b with
 |z d=>
  cases d<;>first|(cases e;done)|skip
  ·cases e
   simp only[bN,Rep] at h
   obtain⟨a,vs,e,q,r⟩:=h
   exact⟨a,vs,e,.inr q,r⟩
  ·cases e
   simp only[bN,Rep] at h
   obtain⟨a,vs,e,q,r⟩:=h
   exact⟨a,vs,e,.inl q.sq,r⟩
 |l ds'=>cases e;obtain⟨a,vs,e,q,r⟩:=h;exact⟨a,vs,e,.inl (.inl q),r⟩
 |o ds'=>cases e;obtain⟨a,vs,e,q,r⟩:=h;exact⟨a,vs,e,.inl (.inl (.inl q)),r⟩
 |n _=>cases e
 |m _ _=>cases e
theorem Vq:oW X (.builtin "sorted") Dg:=by
 intro pins s σ H xs us Q I rx h
 obtain⟨bs,c,rb,e,q⟩:=h
 unfold Dg at e
 split at e
 ·rename_i b
  obtain⟨ds,ed,e⟩:=bind_some e
  obtain⟨dB,ek,e⟩:=bind_some e
  split at e
  ·rename_i hs
   cases e
   simp only[Aw,Bool.and_eq_true,decide_eq_true_eq,List.all_eq_true,Bool.not_eq_true'] at hs
   obtain⟨h64,hne,hsh⟩:=hs
   obtain⟨v,rfl,r1⟩:=rep1 rb
   obtain⟨p,vs,rfl,sq,rs⟩:=BR r1 ed
   obtain⟨u,rfl,ru⟩:=vals1 rx
   cases ru
   have eds:=zH ek
   subst eds
   have got:∃ (its:List Value) (o:Obj) (T:String) (n:Nat),Vals vs its/\s.heap.get? p=some o/\o.cls=.type T/\(T = "list" ∨ T = "tuple")/\o.data=.seq its.toArray n/\vs.length<=sizeLine:=by
    rcases sq with sq|sq
    ·obtain⟨its,r',pl,hz⟩:=I.list sq
     obtain⟨o,g,c,n,d⟩:=pl.isList
     exact⟨its,o,_,n,r',g,c,.inl rfl,d,hz⟩
    ·obtain⟨its,r',⟨o,g,c,n,d⟩,hz⟩:=I.tuple sq
     exact⟨its,o,_,n,r',g,c,.inr rfl,d,hz⟩
   obtain⟨its,o,T,n,r',g,hc,hT,hd,hz⟩:=got
   have hlen:its.length=dB.length:=by rw[<-r'.length,rs.length,List.length_map]
   have tv:=pN I rs r'
   refine RZ (kd:=tuples' true) (rk:=fun v=>rank dB (keyOf dB its v)) (vs:=its) (fun E' Q' hq=>Oh g hc hT hd (by rw[<-r'.length];exact hz) hq)
    (fun h2 E' A' s' k Q' hq=>Hu (Paired.imp' (fun _ _ z=>jY.keep z k) tv) (fun k hk=>by have:=hne k hk;cases k with|nil=>cases this|cons _ _=>exact List.cons_ne_nil _ _) (fun k hk l hl=>Dd (hsh k hk l hl)) (by omega) hq)
    (fun A' s' k=>La (Paired.imp' (fun _ _ z=>jY.keep z k) tv) fun k hk l hl=>Dd (hsh k hk l hl)) (by omega) fun l h' tk m st hp up hl ext hL=>?_
   have out:=Lb tv hp up
   have mem:∀ u∈((arrOf st).map (·.2)).toList,u∈its:=fun u hu=>by
    rw[Array.toList_map] at hu
    obtain⟨pr,hpr,rfl⟩:=List.mem_map.mp hu
    have aci:pr∈its.zip its:=by rw[<-pairsOf_toList];exact (Array.perm_iff_toList_perm.mp hp).mem_iff.mp hpr
    have:=mem_zip_self aci
    rw[<-this.1];exact this.2
   obtain⟨zs,z1,z2⟩:=zJ I rs r' out mem
   have hzl:zs.length=dB.length:=by rw[z2.length,List.length_map,(mY dB).length_eq]
   have hH:H l=none:=I.hok.fresh hl
   refine⟨.ref l,_,I.laid (t':=tk) (a:=l) (o:=.lst zs) ext hl ⟨by rw[hzl];exact Nat.le_of_lt (Nat.lt_of_lt_of_le h64 (by decide)),_,m,z1,?_⟩,rfl,q _ _ (cV hH) (fun a ea=>by cases ea;exact hH) ⟨l,zs,rfl,cG,z2.kp (.of (cV hH))⟩⟩
   rw[hL]
  ·cases e
 ·cases e
end
end P1
end
section
namespace S6
open PySem PySem.Spec PyProof.Rows
theorem R5 {M:Model} {A:Around} {E:Value->Shared->Prop} {s:Shared} {src:Source} {n:Nat} {Q:Nat->Shared->Prop} (hn:n≠0) (h:∀ i d,i < n->Q i { s with drawn:=d }):wpAny M A (choose src n) Q E s:=
 fun Γ p hΓ=>⟨hn,h _ _ (Nat.mod_lt _ (Nat.pos_of_ne_zero hn))⟩
theorem Jr {α:Type}:∀ {xs:List α} {i:Nat} (hi:i < xs.length),(xs[i]::xs.eraseIdx i).Perm xs
 |x::xs,0,_=>List.Perm.refl _
 |x::xs,i+1,h=>by
  rw[List.eraseIdx_cons_succ,List.getElem_cons_succ]
  exact (List.Perm.swap _ _ _).trans ((Jr (xs:=xs) (i:=i) (by simpa using h)).cons x)
theorem YQ {M:Model} {A:Around} {E:Value->Shared->Prop} {α:Type}:∀ (n:Nat) (xs:List α) (s:Shared) (Q:List α->Shared->Prop),xs.length=n->(∀ ys d,ys.Perm xs->Q ys { s with drawn:=d })->wpAny M A (drawOrder n xs) Q E s:=by
 intro n
 induction n with
 |zero=>
  intro xs s Q hl h
  cases xs with
  |nil=>
   unfold drawOrder
   exact wpAny_pure (h [] s.drawn (List.Perm.refl _))
  |cons x xs=>simp at hl
 |succ n ih=>
  intro xs s Q hl h
  cases xs with
  |nil=>simp at hl
  |cons x xs=>
   unfold drawOrder
   refine wpAny_bind (R5 (by simp) fun i d hi=>?_)
   have e:(x::xs)[i]?=some (x::xs)[i]:=by simp[hi]
   rw[e]
   dsimp only
   refine wpAny_bind (ih ((x::xs).eraseIdx i) _ _ (by rw[List.length_eraseIdx,if_pos hi];simp at hl ⊢;omega) fun ys d' hp=>wpAny_pure ?_)
   exact h _ d' ((List.Perm.cons _ hp).trans (Jr hi))
theorem Qk {α:Type} (next:Nat->Nat):∀ (n k:Nat) (xs:List α) (out:Array α),xs.length=n->(pickOrder.go next n k xs out).toList.Perm (out.toList++xs)
 |0,k,[],out,_=>by unfold pickOrder.go;simp
 |n+1,k,x::xs,out,hl=>by
  unfold pickOrder.go
  have hi:next k % (x::xs).length < (x::xs).length:=Nat.mod_lt _ (by simp)
  have e:(x::xs)[next k % (x::xs).length]?=some (x::xs)[next k % (x::xs).length]:=by rw[List.getElem?_eq_getElem hi]
  rw[e]
  dsimp only
  refine (Qk next n (k+1) _ _ (by rw[List.length_eraseIdx,if_pos hi];simp at hl ⊢;omega)).trans ?_
  rw[Array.toList_push,List.append_assoc]
  exact (List.Perm.refl _).append (Jr hi)
theorem R6 {α:Type} (next:Nat->Nat) (xs:Array α):(pickOrder next xs).toList.Perm xs.toList:=by
 have:=Qk next xs.size 0 xs.toList #[] (by simp)
 simpa [pickOrder] using this
structure Wk (w:World) (h:Heap) (a:Addr) (es:Array (Int×Value)) (ep:Nat) (t:SetTable):Prop where
 at_:∃ o,h.get? a=some o/\o.cls=.type "set" ∧ o.data=.set es ep t
 fit:t.fits es.size=true
 led:w.params.followText "set-order" = false->t.led=true
 non:1 < es.size->t.plain=false
theorem Wk.keep {w:World} {h h':Heap} {a:Addr} {es:Array (Int×Value)} {ep:Nat} {t:SetTable} (x:Wk w h a es ep t) (k:∀ o,h.get? a=some o->h'.get? a=some o):Wk w h' a es ep t:=
 ⟨let ⟨o,e,r⟩:=x.at_;⟨o,k o e,r⟩,x.fit,x.led,x.non⟩
def It (h:Heap) (it a:Addr) (first:Value) (i n ep:Nat):Prop:=∃ o,h.get? it=some o/\o.cls=.type "set_iterator" ∧ o.data=.fields #[first,.int (i:Int) 0,.ref a,.int (n:Int) 0,.int (ep:Int) 0]
theorem It.keep {h h':Heap} {it a:Addr} {f:Value} {i n ep:Nat} (x:It h it a f i n ep) (k:∀ o,h.get? it=some o->h'.get? it=some o):It h' it a f i n ep:=
 let ⟨o,e,r⟩:=x;⟨o,k o e,r⟩
theorem It.ty {s:Shared} {it a:Addr} {f:Value} {i n ep:Nat} (x:It s.heap it a f i n ep):s.TypeIs (.ref it) "set_iterator" := let ⟨o,e,c,_⟩:=x;⟨o,e,c⟩
theorem jG:Slot "set_iterator" "__next__" "set_iterator.__next__" :=
 .of (owner := "set_iterator") (n := "__next__") (by rw[typeLookup_type,builtinLookup_eq_fast];kernel_rfl) (by decide +kernel) (by decide +kernel) (by decide +kernel)
  (by first|exact .inl (by decide +kernel)|exact .inr (by decide +kernel)) (by rw[isSubtype_type];kernel_rfl)
theorem yt:Slot "set_iterator" "__iter__" "set_iterator.__iter__" :=
 .of (owner := "set_iterator") (n := "__iter__") (by rw[typeLookup_type,builtinLookup_eq_fast];kernel_rfl) (by decide +kernel) (by decide +kernel) (by decide +kernel)
  (by first|exact .inl (by decide +kernel)|exact .inr (by decide +kernel)) (by rw[isSubtype_type];kernel_rfl)
theorem FT:entryFor table "set_iterator.__next__" = some Builtin.«set_iterator.__next__»:=entryFor_of_tree (by kernel_rfl)
theorem Ax:entryFor table "set.__iter__" = some Builtin.«frozenset.__iter__»:=entryFor_alias (id' := "frozenset.__iter__") (by kernel_rfl) rfl (by decide +kernel) (by kernel_rfl)
theorem FW:entryFor table "set_iterator.__iter__" = some Builtin.«dict_keyiterator.__iter__»:=entryFor_alias (id' := "dict_keyiterator.__iter__") (by kernel_rfl) rfl (by decide +kernel) (by kernel_rfl)
theorem Vr:Manifest.owners.lookup (String.ofList "rotareti_tes".toList.reverse)=some Manifest.sig_set_iterator:=by kernel_rfl
theorem Js (a:Value):argsOk "set_iterator.__next__" ⟨[a],[]⟩:=by
 unfold argsOk;rw[signature?_of (id := "set_iterator.__next__") (n := "__txen__".toList) (o := "rotareti_tes".toList) (by kernel_rfl) Vr];kernel_rfl
theorem Jt (a:Value):argsOk "set_iterator.__iter__" ⟨[a],[]⟩:=by
 unfold argsOk;rw[signature?_of (id := "set_iterator.__iter__") (n := "__reti__".toList) (o := "rotareti_tes".toList) (by kernel_rfl) Vr];kernel_rfl
section
variable {prog:Program} {w:World} {A:Around} {E:Value->Shared->Prop} {s:Shared} {it a:Addr} {i ep:Nat} {es:Array (Int×Value)} {t:SetTable}
theorem BW {first:Value} {Q:Option Value->Shared->Prop} (hit:It s.heap it a first i es.size ep) (hw:Wk w s.heap a es ep t)
  (h:wpAny (model prog w) A.in1 (if let .int slot _:=first then (do
    match <-setNext a slot.toNat (i:Int).toNat (ep:Int).toNat with
    |some (x,next)=>
     setField (.ref it) 0 (rawInt next)
     setField (.ref it) 1 (rawInt ((i:Int)+1))
     ret x
    |none=>setField (.ref it) 2 .none;raiseNew (<-newExc (.type "StopIteration") []))
   else (do
    let some places <-seqItems? first|unsupported "internal:set_iterator"
    match places[(i:Int).toNat]? with
    |some (.int place _)=>
     let x <-setNextDrawn a place.toNat (ep:Int).toNat
     setField (.ref it) 1 (rawInt ((i:Int)+1))
     ret x
    |some _=>unsupported "internal:set_iterator"
    |none=>setField (.ref it) 0 (rawInt 0);setField (.ref it) 2 .none;raiseNew (<-newExc (.type "StopIteration") []))) (fun fin s'=>∃ v,fin=.done (.ret v)/\Q (some v) s') (fun e s'=>s'.TypeIs e "StopIteration" ∧ Q none s') s):wpAny (model prog w) A (pyNext (.ref it)) Q E s:=by
 obtain⟨o,ho,hc,hd⟩:=id hit
 obtain⟨oa,hoa,hca,hda⟩:=hw.at_
 unfold pyNext
 refine wpAny_bind (wpAny_attempt (wpAny_callSpecial?_slot (name:=Str.ofString "__next__") hit.ty jG (wpAny_call_entry jG hit.ty FT ?_ (Js _))))
 unfold Builtin.«set_iterator.__next__»
 refine wpAny_bind (wpAny_pure ?_)
 refine wpAny_bind (wpAny_fieldsOf ho hd ?_)
 show wpAny _ _ (setEntries a >>= _) _ _ s
 refine wpAny_bind (wpAny_setEntries_of hoa hda hw.fit ?_)
 rw[if_neg (by simp)]
 refine wpAny_mono h (fun fin s' hq=>?_) fun e s' hq=>?_
 ·obtain⟨v,rfl,hv⟩:=hq
  exact⟨v,rfl,wpAny_pure hv⟩
 ·refine wpAny_bind (wpAny_isInstance (T := "StopIteration") (b:=true) hq.1 isSubtype_stop ?_)
  exact wpAny_pure hq.2
theorem Ql {hp:Heap} {Q:Option Value->Shared->Prop} (hh:A.handled=none) (h:∀ h',(∀ b o,hp.get? b=some o->h'.get? b=some o)->Q none { s with heap:=h' }) :
  wpAny (model prog w) A.in1 (do raiseNew (<-newExc (.type "StopIteration") [])) (fun (fin:Fin) s'=>∃ v,fin=.done (.ret v)/\Q (some v) s') (fun e s'=>s'.TypeIs e "StopIteration" ∧ Q none s') { s with heap:=hp }:=by
 refine wpAny_bind ?_
 simp only[newExc,newTuple]
 refine wpAny_bind (wpAny_newObj_type ?_ (by size_fits))
 refine wpAny_bind (m:=firstArgMember _ _) (wpAny_of_eq (a:=Value.none) (by first|rfl|(simp only[firstArgMember];rfl)) ?_)
 refine wpAny_newObj_type ?_ (by size_fits)
 simp only[raiseNew]
 refine wpAny_bind (wpAny_handled ?_)
 rw[show A.in1.handled=none from hh]
 refine wpAny_bind (wpAny_pure (wpAny_throw ⟨⟨_,Heap.get?_push_size _ rfl,rfl⟩,?_⟩))
 exact h _ fun b o e=>Heap.get?_push_of_some _ (Heap.get?_push_of_some _ e)
theorem It.put {h:Heap} {f:Value} {n:Nat} (hit:It h it a f i n ep) (x:Value):It (h.update it (Obj.mapFields (·.setIfInBounds 0 x))) it a x i n ep:=by
 obtain⟨o,ho,hc,hd⟩:=hit
 exact⟨_,Heap.get?_update_self _ ho (Obj.isFreed_of_fields (Obj.data_mapFields hd _)),(Obj.cls_mapFields ..).trans hc,by rw[Obj.data_mapFields hd];simp⟩
theorem It.step {h:Heap} {f:Value} {n:Nat} (hit:It h it a f i n ep):It (h.update it (Obj.mapFields (·.setIfInBounds 1 (rawInt ((i:Int)+1))))) it a f (i+1) n ep:=by
 obtain⟨o,ho,hc,hd⟩:=hit
 exact⟨_,Heap.get?_update_self _ ho (Obj.isFreed_of_fields (Obj.data_mapFields hd _)),(Obj.cls_mapFields ..).trans hc,by rw[Obj.data_mapFields hd];simp[rawInt]⟩
theorem It.field {f:Value} {n k:Nat} {x:Value} {A:Around} {Q:Unit->Shared->Prop} {E:Value->Shared->Prop} (hit:It s.heap it a f i n ep) (hk:k < 5) (h:Q () { s with heap:=s.heap.update it (Obj.mapFields (·.setIfInBounds k x)) }):wpAny (model prog w) A (setField (.ref it) k x) Q E s:=by
 obtain⟨o,ho,hc,hd⟩:=hit
 exact wpAny_setField ho hd (by simpa using hk) h
theorem qF {h:Heap} {f:Obj->Obj} {b:Addr} {o:Obj} (hb:b≠it) (e:h.get? b=some o):(h.update it f).get? b=some o:=by rw[Heap.get?_update_ne _ _ _ _ hb];exact e
theorem Vs {slot next:Nat} {x:Value} {Q:Option Value->Shared->Prop} (hit:It s.heap it a (.int (slot:Int) 0) i es.size ep) (hw:Wk w s.heap a es ep t)
  (hS:∀ {A':Around} {E':Value->Shared->Prop} {Q':Option (Value×Nat)->Shared->Prop},Q' (some (x,next)) s->wpAny (model prog w) A' (setNext a slot i ep) Q' E' s)
  (h:∀ h',It h' it a (.int (next:Int) 0) (i+1) es.size ep->(∀ b o,b≠it->s.heap.get? b=some o->h'.get? b=some o)->Q (some x) { s with heap:=h' }):wpAny (model prog w) A (pyNext (.ref it)) Q E s:=by
 refine BW hit hw ?_
 show wpAny _ _ (setNext a slot i ep >>= _) _ _ s
 refine wpAny_bind (hS ?_)
 refine wpAny_bind (hit.field (by decide) ?_)
 refine wpAny_bind ((hit.put _).field (s:={ s with heap:=_ }) (by decide) ?_)
 exact wpAny_pure ⟨x,rfl,h _ ((hit.put _).step) fun b o hb e=>qF hb (qF hb e)⟩
theorem Dh {slot:Nat} {Q:Option Value->Shared->Prop} (hh:A.handled=none) (hit:It s.heap it a (.int (slot:Int) 0) i es.size ep) (hw:Wk w s.heap a es ep t)
  (hS:∀ {A':Around} {E':Value->Shared->Prop} {Q':Option (Value×Nat)->Shared->Prop},Q' none s->wpAny (model prog w) A' (setNext a slot i ep) Q' E' s)
  (h:∀ h',(∀ b o,b≠it->s.heap.get? b=some o->h'.get? b=some o)->Q none { s with heap:=h' }):wpAny (model prog w) A (pyNext (.ref it)) Q E s:=by
 refine BW hit hw ?_
 show wpAny _ _ (setNext a slot i ep >>= _) _ _ s
 refine wpAny_bind (hS ?_)
 refine wpAny_bind (hit.field (by decide) (Ql hh fun h' k=>h h' fun b o hb e=>k b o (qF hb e)))
theorem YS {tp:Addr} {pl:List Nat} {ot:Obj} {c:Nat} {j:Nat} {x:Int×Value} {Q:Option Value->Shared->Prop} (hit:It s.heap it a (.ref tp) i es.size ep) (hw:Wk w s.heap a es ep t)
  (ht:s.heap.get? tp=some ot) (hd:ot.data=.seq (pl.map fun (k:Nat)=>rawInt (k:Int)).toArray c) (hj:pl[i]?=some j) (hx:es[j]?=some x)
  (h:∀ h',It h' it a (.ref tp) (i+1) es.size ep->(∀ b o,b≠it->s.heap.get? b=some o->h'.get? b=some o)->Q (some x.2) { s with heap:=h' }):wpAny (model prog w) A (pyNext (.ref it)) Q E s:=by
 refine BW hit hw ?_
 show wpAny _ _ (seqItems? (.ref tp) >>= _) _ _ s
 refine wpAny_bind (m:=seqItems? (.ref tp)) ?_
 unfold seqItems?
 refine wpAny_bind (wpAny_load ht ?_)
 rw[hd]
 refine wpAny_pure ?_
 dsimp only
 rw[Int.toNat_natCast,show ((pl.map fun (k:Nat)=>rawInt (k:Int)).toArray)[i]?=some (rawInt (j:Int)) by simp[hj]]
 show wpAny _ _ (setNextDrawn a j ep >>= _) _ _ s
 obtain⟨oa,hoa,hca,hda⟩:=hw.at_
 refine wpAny_bind (m:=setNextDrawn a j ep) ?_
 unfold setNextDrawn
 refine wpAny_bind (wpAny_setState_of hoa hda hw.fit ?_)
 dsimp only
 rw[if_neg (by simp),hx]
 refine wpAny_pure ?_
 refine wpAny_bind (hit.field (by decide) ?_)
 exact wpAny_pure ⟨x.2,rfl,h _ hit.step fun b o hb e=>qF hb e⟩
theorem Lf {tp:Addr} {pl:List Nat} {ot:Obj} {c:Nat} {Q:Option Value->Shared->Prop} (hh:A.handled=none) (hit:It s.heap it a (.ref tp) i es.size ep) (hw:Wk w s.heap a es ep t)
  (ht:s.heap.get? tp=some ot) (hd:ot.data=.seq (pl.map fun (k:Nat)=>rawInt (k:Int)).toArray c) (hj:pl[i]?=none)
  (h:∀ h',(∀ b o,b≠it->s.heap.get? b=some o->h'.get? b=some o)->Q none { s with heap:=h' }):wpAny (model prog w) A (pyNext (.ref it)) Q E s:=by
 refine BW hit hw ?_
 show wpAny _ _ (seqItems? (.ref tp) >>= _) _ _ s
 refine wpAny_bind (m:=seqItems? (.ref tp)) ?_
 unfold seqItems?
 refine wpAny_bind (wpAny_load ht ?_)
 rw[hd]
 refine wpAny_pure ?_
 dsimp only
 rw[Int.toNat_natCast,show ((pl.map fun (k:Nat)=>rawInt (k:Int)).toArray)[i]?=none by simpa using hj]
 refine wpAny_bind (hit.field (by decide) ?_)
 refine wpAny_bind ((hit.put _).field (s:={ s with heap:=_ }) (by decide) (Ql hh fun h' k=>h h' fun b o hb e=>k b o (qF hb (qF hb e))))
end
section
variable {prog:Program} {w:World} {A:Around} {E:Value->Shared->Prop} {s:Shared} {it a:Addr} {i ep:Nat} {es:Array (Int×Value)} {t:SetTable}
theorem vX {Q:Bool->Shared->Prop} (h:Q (w.params.followText "set-order") s):wpAny (model prog w) A setsByText Q E s:=by
 unfold setsByText
 exact wpAny_bind (wpAny_askSetting (wpAny_pure h))
theorem Ju {f:Value} {n:Nat} {Q:Value->Shared->Prop} (hit:It s.heap it a f i n ep) (h:Q (.ref it) s):wpAny (model prog w) A (pyIter (.ref it)) Q E s:=by
 refine wpAny_pyIter_slot hit.ty yt (wpAny_call_entry yt hit.ty FW ?_ (Jt _))
 show wpAny _ _ (ret (.ref it)) _ _ s
 exact wpAny_pure ⟨_,rfl, "set_iterator", _,hit.ty,jG.lookup,h⟩
def Jv (w:World) (a:Addr) (ep:Nat) (es:Array (Int×Value)):List Value:=(pickOrder (w.params.setOrder a ep) es).toList.map (·.2)
theorem zK:(Jv w a ep es).Perm (es.toList.map (·.2)):=(R6 _ _).map _
theorem Hw {slot:Nat} {Q:Option (Value×Nat)->Shared->Prop} (hf:w.params.followText "set-order" = true) (hw:Wk w s.heap a es ep t) (h:Q (((Jv w a ep es)[i]?).map fun v=>(v,slot)) s):wpAny (model prog w) A (setNext a slot i ep) Q E s:=by
 obtain⟨oa,hoa,hca,hda⟩:=hw.at_
 unfold setNext
 refine wpAny_bind (wpAny_setState_of hoa hda hw.fit (wpAny_bind (vX ?_)))
 rw[hf]
 simp only[↓reduceIte,bne_self_eq_false,Bool.false_eq_true]
 refine wpAny_bind (m:=setWalk a) ?_
 unfold setWalk
 refine wpAny_bind (wpAny_setState_of hoa hda hw.fit (wpAny_bind (vX ?_)))
 rw[hf]
 simp only[↓reduceIte]
 refine wpAny_bind (wpAny_askSetting (wpAny_pure (wpAny_pure ?_)))
 have e:(pickOrder (w.params.setOrder a ep) es)[i]?.map (fun e=>(e.2,slot))=((Jv w a ep es)[i]?).map fun v=>(v,slot):=by
  unfold Jv
  rw[List.getElem?_map,Option.map_map,Array.getElem?_toList]
  rfl
 rw[<-e] at h
 exact h
theorem Oi (hh:A.handled=none) (hf:w.params.followText "set-order" = true) (hne:a≠it) (c:es.size<=sizeLine):Walks prog w A it [it,a] [it] es.size (fun i v=>(Jv w a ep es)[i]?=some v) (fun i h=>It h it a (.int 0 0) i es.size ep/\Wk w h a es ep t) where
 sub:=fun b hb=>by simp at hb;simp[hb]
 frame:=fun _ _ _ st hk=>⟨st.1.keep fun o e=>hk it (by simp) o e,st.2.keep fun o e=>hk a (by simp) o e⟩
 item:=fun i s Q E hi st hQ=>by
  have hl:(Jv w a ep es).length=es.size:=by rw[zK.length_eq];simp
  obtain⟨v,hv⟩:∃ v,(Jv w a ep es)[i]?=some v:=⟨(Jv w a ep es)[i]'(by omega),by rw[List.getElem?_eq_getElem]⟩
  refine Vs (slot:=0) (next:=0) (x:=v) st.1 st.2 (fun {A' E' Q'} hq=>Hw hf st.2 (by rw[hv];exact hq)) fun h' hi' k=>?_
  exact hQ v h' s.toks hv ⟨hi',st.2.keep fun o e=>k a o hne e⟩ fun b o hb e=>k b o (fun x=>hb (by simp[x])) e
 done:=fun s Q E st hQ=>by
  have hl:(Jv w a ep es).length=es.size:=by rw[zK.length_eq];simp
  refine Dh (slot:=0) hh st.1 st.2 (fun {A' E' Q'} hq=>Hw hf st.2 (by rw[List.getElem?_eq_none (by omega)];exact hq)) fun h' k=>?_
  exact hQ h' s.toks fun b o hb e=>k b o (fun x=>hb (by simp[x])) e
 self:=fun _ _ _ _ st hQ=>Ju st.1 hQ
def R7 (pl:List Nat) (es:Array (Int×Value)):List Value:=pl.filterMap fun j=>es[j]?.map (·.2)
theorem R8 {pl:List Nat} (h:pl.Perm (List.range es.size)):(R7 pl es).Perm (es.toList.map (·.2)):=by
 refine (h.filterMap _).trans ?_
 rw[show (List.range es.size).filterMap (fun j=>es[j]?.map (·.2))=((List.range es.size).filterMap fun j=>es[j]?).map (·.2) by rw[List.map_filterMap],filterMap_getElem?_range]
theorem Lg:∀ {pl:List Nat},(∀ j∈pl,j < es.size)->∀ (i:Nat) (j:Nat),pl[i]?=some j->(R7 pl es)[i]?=es[j]?.map (·.2)
 |[],_,_,_,h=>by simp at h
 |k::pl,hb,i,j,h=>by
  have hk:=hb k (List.mem_cons_self ..)
  have e:R7 (k::pl) es=es[k].2::R7 pl es:=by simp[R7,hk]
  rw[e]
  cases i with
  |zero=>cases (show k=j by simpa using h);simp[hk]
  |succ i=>rw[List.getElem?_cons_succ];exact Lg (fun j hj=>hb j (List.mem_cons_of_mem _ hj)) i j (by simpa using h)
theorem Oj {tp:Addr} {pl:List Nat} (hh:A.handled=none) (hne:a≠it) (htp:tp≠it) (hp:pl.Perm (List.range es.size)):Walks prog w A it [it,a,tp] [it] es.size (fun i v=>(R7 pl es)[i]?=some v)
  (fun i h=>It h it a (.ref tp) i es.size ep/\Wk w h a es ep t/\∃ ot c,h.get? tp=some ot/\ot.data=.seq (pl.map fun (k:Nat)=>rawInt (k:Int)).toArray c) where
 sub:=fun b hb=>by simp at hb;simp[hb]
 frame:=fun _ _ _ st hk=>⟨st.1.keep fun o e=>hk it (by simp) o e,st.2.1.keep fun o e=>hk a (by simp) o e,let ⟨ot,c,e,r⟩:=st.2.2;⟨ot,c,hk tp (by simp) ot e,r⟩⟩
 item:=fun i s Q E hi st hQ=>by
  obtain⟨ot,c,e1,e2⟩:=st.2.2
  have hl:pl.length=es.size:=by rw[hp.length_eq];simp
  have hb:∀ j∈pl,j < es.size:=fun j hj=>List.mem_range.mp (hp.mem_iff.mp hj)
  have hj:pl[i]?=some (pl[i]'(by omega)):=by rw[List.getElem?_eq_getElem]
  have hx:es[pl[i]'(by omega)]?=some (es[pl[i]'(by omega)]'(hb _ (List.getElem_mem _))):=by rw[Array.getElem?_eq_getElem]
  refine YS st.1 st.2.1 e1 e2 hj hx fun h' hi' k=>?_
  exact hQ _ h' s.toks (by rw[Lg hb i _ hj,hx];rfl) ⟨hi',st.2.1.keep fun o e=>k a o hne e,ot,c,k tp ot htp e1,e2⟩ fun b o hb e=>k b o (fun x=>hb (by simp[x])) e
 done:=fun s Q E st hQ=>by
  obtain⟨ot,c,e1,e2⟩:=st.2.2
  have hl:pl.length=es.size:=by rw[hp.length_eq];simp
  refine Lf hh st.1 st.2.1 e1 e2 (by rw[List.getElem?_eq_none (by omega)]) fun h' k=>?_
  exact hQ h' s.toks fun b o hb e=>k b o (fun x=>hb (by simp[x])) e
 self:=fun _ _ _ _ st hQ=>Ju st.1 hQ
end
section
variable {prog:Program} {w:World} {A:Around} {E:Value->Shared->Prop} {s:Shared} {it a:Addr} {i ep:Nat} {es:Array (Int×Value)} {t:SetTable}
def uQ (t:SetTable) (i:Nat):Nat:=if i=0 then 0 else t.place.getD 0 0+1
theorem YT (j:Nat):SetTable.below #[j] 0=0:=by
 show SetTable.below.go #[j] 0 1 0 1=0
 unfold SetTable.below.go
 rw[if_pos (by decide)]
 show (if #[j].getD 0 0 < 0 then _ else SetTable.below.go #[j] 0 0 0 0)=0
 rw[if_neg (Nat.not_lt_zero _)]
 rfl
theorem YW (j:Nat):SetTable.below #[j] (j+1)=1:=by
 show SetTable.below.go #[j] (j+1) 1 0 1=1
 unfold SetTable.below.go
 rw[if_pos (by decide)]
 show (if j < j+1 then SetTable.below.go #[j] (j+1) 0 1 1 else _)=1
 rw[if_pos (Nat.lt_succ_self _)]
 rfl
theorem R9 {P:Option (Value×Nat)->Prop} {r:Option (Value×Nat)} (hp:t.place.size=es.size) (hn:es.size<=1) (hi:i<=es.size)
  (hr:r=match es[SetTable.below t.place (uQ t i)]?,t.place[SetTable.below t.place (uQ t i)]? with
   |some (_,x),some j=>some (x,j+1)
   |_,_=>none) (h:P (((es.toList.map (·.2))[i]?).map fun v=>(v,uQ t (i+1)))):P r:=by
 subst hr
 by_cases h0:es.size=0
 ·have e:es=#[]:=Array.eq_empty_of_size_eq_zero h0
  subst e
  simpa using h
 ·have h1:es.size=1:=by omega
  obtain⟨x,rfl⟩:=Array.size_eq_one_iff.mp h1
  obtain⟨j,hj⟩:=Array.size_eq_one_iff.mp (hp.trans h1)
  have hi:i=0\/i=1:=by omega
  rcases hi with rfl|rfl
  ·have e1:uQ t 0=0:=rfl
   have e2:uQ t (0+1)=j+1:=by unfold uQ;rw[hj];rfl
   rw[e2] at h
   rw[e1,hj,YT]
   exact h
  ·have e2:uQ t 1=j+1:=by unfold uQ;rw[hj];rfl
   rw[e2,hj,YW]
   exact h
theorem Di {Q:Option (Value×Nat)->Shared->Prop} (hf:w.params.followText "set-order" = false) (hw:Wk w s.heap a es ep t) (hn:es.size<=1) (hi:i<=es.size) (h:Q (((es.toList.map (·.2))[i]?).map fun v=>(v,uQ t (i+1))) s):wpAny (model prog w) A (setNext a (uQ t i) i ep) Q E s:=by
 obtain⟨oa,hoa,hca,hda⟩:=hw.at_
 have hp:t.place.size=es.size:=by
  have:=hw.fit
  simp only[SetTable.fits,Bool.and_eq_true,beq_iff_eq] at this
  exact this.1
 unfold setNext
 refine wpAny_bind (wpAny_setState_of hoa hda hw.fit (wpAny_bind (vX ?_)))
 rw[hf]
 simp only[Bool.false_eq_true,↓reduceIte]
 split
 ·rename_i hc
  have hc:(!t.plain&&decide (es.size > 1))=true:=hc
  simp at hc
  omega
 ·have hl:wpAny (model prog w) A (if (!t.led&&!es.isEmpty)=true then unsupported "set:maker-not-led" else pure PUnit.unit) (fun _ s'=>s'=s) E s:=by
   rw[hw.led hf]
   exact wpAny_pure rfl
  refine wpAny_bind (wpAny_mono hl (fun _ s' e=>?_) fun _ _ x=>x)
  subst e
  refine wpAny_pure ?_
  exact R9 (P:=fun r=>Q r s') hp hn hi rfl h
theorem Lh (hh:A.handled=none) (hf:w.params.followText "set-order" = false) (hn:es.size<=1) (hne:a≠it):Walks prog w A it [it,a] [it] es.size (fun i v=>(es.toList.map (·.2))[i]?=some v) (fun i h=>It h it a (.int (uQ t i:Nat) 0) i es.size ep/\Wk w h a es ep t) where
 sub:=fun b hb=>by simp at hb;simp[hb]
 frame:=fun _ _ _ st hk=>⟨st.1.keep fun o e=>hk it (by simp) o e,st.2.keep fun o e=>hk a (by simp) o e⟩
 item:=fun i s Q E hi st hQ=>by
  obtain⟨v,hv⟩:∃ v,(es.toList.map (·.2))[i]?=some v:=⟨(es.toList.map (·.2))[i]'(by simpa using hi),by rw[List.getElem?_eq_getElem]⟩
  refine Vs (x:=v) st.1 st.2 (fun {A' E' Q'} hq=>Di hf st.2 hn (Nat.le_of_lt hi) (by rw[hv];exact hq)) fun h' hi' k=>?_
  exact hQ v h' s.toks hv ⟨hi',st.2.keep fun o e=>k a o hne e⟩ fun b o hb e=>k b o (fun x=>hb (by simp[x])) e
 done:=fun s Q E st hQ=>by
  refine Dh hh st.1 st.2 (fun {A' E' Q'} hq=>Di hf st.2 hn (Nat.le_refl _) (by rw[List.getElem?_eq_none (by simp)];exact hq)) fun h' k=>?_
  exact hQ h' s.toks fun b o hb e=>k b o (fun x=>hb (by simp[x])) e
 self:=fun _ _ _ _ st hQ=>Ju st.1 hQ
end
section
variable {prog:Program} {w:World} {A:Around} {E:Value->Shared->Prop} {s:Shared} {it a:Addr} {i ep:Nat} {es:Array (Int×Value)} {t:SetTable}
theorem Vt (hw:Wk w s.heap a es ep t) (hc:es.size<=sizeLine) {Q:Value->Shared->Prop}
  (h:∀ (it:Addr) (h':Heap) (d:Drawn) (fp:List Addr) (St:Nat->Heap->Prop) (ord:List Value),ord.Perm (es.toList.map (·.2))->(∀ A':Around,A'.handled=none->Walks prog w A' it fp [it] es.size (fun i v=>ord[i]?=some v) St)->St 0 h'->s.heap.objs.size<=it->it < h'.objs.size →
   (∀ b∈fp,b=a\/s.heap.objs.size<=b)->(∀ b∈fp,b < h'.objs.size)->(∀ b o,s.heap.get? b=some o->h'.get? b=some o)->Q (.ref it) { s with heap:=h',drawn:=d }):wpAny (model prog w) A (pyIter (.ref a)) Q E s:=by
 obtain⟨oa,hoa,hca,hda⟩:=id hw.at_
 have hT:s.TypeIs (.ref a) "set" := ⟨oa,hoa,hca⟩
 have hlt:a < s.heap.objs.size:=Heap.lt_size hoa
 refine wpAny_pyIter_slot hT F.slot_set_iter (wpAny_call_entry F.slot_set_iter hT Ax ?_ (F.args_set_iter_1 _))
 show wpAny _ _ (Builtin.Frozenset.sizeOf a >>= _) _ _ s
 refine wpAny_bind (m:=Builtin.Frozenset.sizeOf a) (wpAny_bind (wpAny_setEntries_of hoa hda hw.fit (wpAny_pure ?_)))
 have hd:wpAny (model prog w) A.in1 (setDrawn a) (fun b s'=>s'=s/\b=(!(w.params.followText "set-order")&&(!t.plain&&decide (es.size > 1)))) E s:=by
  unfold setDrawn
  exact wpAny_bind (wpAny_setState_of hoa hda hw.fit (wpAny_bind (vX (wpAny_pure ⟨rfl,rfl⟩))))
 refine wpAny_bind (wpAny_mono hd (fun b s' e=>?_) fun _ _ x=>x)
 obtain⟨rfl,rfl⟩:=e
 dsimp only
 by_cases hf:w.params.followText "set-order" = true
 ·rw[hf]
  simp only[Bool.not_true,Bool.false_and,Bool.false_eq_true,if_false]
  refine wpAny_bind (wpAny_pure ?_)
  refine wpAny_bind (m:=setEpoch a) (wpAny_setEpoch_of hoa hda hw.fit ?_)
  refine wpAny_bind (wpAny_newObj_type (wpAny_pure ⟨_,rfl, "set_iterator", _,⟨_,Heap.get?_push_size _ rfl,rfl⟩,jG.lookup,?_⟩))
  have:=h s'.heap.objs.size (s'.heap.push { cls:=.type "set_iterator", data:=.fields #[.int 0 0,.int 0 0,.ref a,.int es.size 0,.int ep 0] }) s'.drawn [s'.heap.objs.size,a] _ _ zK (fun A' hh=>Oi hh hf (t:=t) (ep:=ep) (Nat.ne_of_lt hlt) hc)
   ⟨⟨_,Heap.get?_push_size _ rfl,rfl,rfl⟩,hw.keep fun o e=>Heap.get?_push_of_some _ e⟩ (Nat.le_refl _) (by rw[Heap.size_push];exact Nat.lt_succ_self _) (fun b hb=>by simp at hb;rcases hb with rfl|rfl;exact .inr (Nat.le_refl _);exact .inl rfl)
   (fun b hb=>by simp at hb;rw[Heap.size_push];rcases hb with rfl|rfl;exact Nat.lt_succ_self _;exact Nat.lt_succ_of_lt hlt) fun b o e=>Heap.get?_push_of_some _ e
  exact this
 ·have hf:w.params.followText "set-order" = false:=by simpa using hf
  rw[hf]
  simp only[Bool.not_false,Bool.true_and]
  by_cases hn:es.size<=1
  ·rw[if_neg (by simp;omega)]
   refine wpAny_bind (wpAny_pure ?_)
   refine wpAny_bind (m:=setEpoch a) (wpAny_setEpoch_of hoa hda hw.fit ?_)
   refine wpAny_bind (wpAny_newObj_type (wpAny_pure ⟨_,rfl, "set_iterator", _,⟨_,Heap.get?_push_size _ rfl,rfl⟩,jG.lookup,?_⟩))
   have:=h s'.heap.objs.size (s'.heap.push { cls:=.type "set_iterator", data:=.fields #[.int 0 0,.int 0 0,.ref a,.int es.size 0,.int ep 0] }) s'.drawn [s'.heap.objs.size,a] _ _ (List.Perm.refl _) (fun A' hh=>Lh hh hf hn (t:=t) (ep:=ep) (Nat.ne_of_lt hlt))
    ⟨⟨_,Heap.get?_push_size _ rfl,rfl,rfl⟩,hw.keep fun o e=>Heap.get?_push_of_some _ e⟩ (Nat.le_refl _) (by rw[Heap.size_push];exact Nat.lt_succ_self _) (fun b hb=>by simp at hb;rcases hb with rfl|rfl;exact .inr (Nat.le_refl _);exact .inl rfl)
    (fun b hb=>by simp at hb;rw[Heap.size_push];rcases hb with rfl|rfl;exact Nat.lt_succ_self _;exact Nat.lt_succ_of_lt hlt) fun b o e=>Heap.get?_push_of_some _ e
   exact this
  ·rw[if_pos (by rw[hw.non (by omega)];simp;omega)]
   refine wpAny_bind (YQ _ _ _ _ (by simp) fun pl d hp=>?_)
   refine wpAny_bind (wpAny_newTuple ?_ (by rw[List.length_map,hp.length_eq,List.length_range];exact hc))
   refine wpAny_bind (m:=setEpoch a) (wpAny_setEpoch_of (Heap.get?_push_of_some _ hoa) hda hw.fit ?_)
   refine wpAny_bind (wpAny_newObj_type (wpAny_pure ⟨_,rfl, "set_iterator", _,⟨_,Heap.get?_push_size _ rfl,rfl⟩,jG.lookup,?_⟩))
   generalize hG:s'.heap.push { cls:=.type "tuple", data:=.seq (pl.map fun (k:Nat)=>rawInt (k:Int)).toArray }=G
   have sG:G.objs.size=s'.heap.objs.size+1:=by rw[<-hG,Heap.size_push]
   have gG:G.get? s'.heap.objs.size=some { cls:=.type "tuple", data:=.seq (pl.map fun (k:Nat)=>rawInt (k:Int)).toArray }:=by rw[<-hG];exact Heap.get?_push_size _ rfl
   have kG:∀ b o,s'.heap.get? b=some o->G.get? b=some o:=fun b o e=>by rw[<-hG];exact Heap.get?_push_of_some _ e
   have ltG:a < G.objs.size:=by rw[sG];exact Nat.lt_succ_of_lt hlt
   have:=h G.objs.size (G.push { cls:=.type "set_iterator", data:=.fields #[.ref s'.heap.objs.size,.int 0 0,.ref a,.int es.size 0,.int ep 0] }) d [G.objs.size,a,s'.heap.objs.size] _ _ (R8 hp) (fun A' hh=>Oj hh (t:=t) (ep:=ep) (tp:=s'.heap.objs.size) (Nat.ne_of_lt ltG) (by rw[sG];exact Nat.ne_of_lt (Nat.lt_succ_self _)) hp)
    ⟨⟨_,Heap.get?_push_size _ rfl,rfl,rfl⟩,hw.keep fun o e=>Heap.get?_push_of_some _ (kG _ _ e),_,0,Heap.get?_push_of_some _ gG,rfl⟩ (by rw[sG];exact Nat.le_succ _) (by rw[Heap.size_push];exact Nat.lt_succ_self _)
    (fun b hb=>by simp at hb;rcases hb with rfl|rfl|rfl;exact .inr (by rw[sG];exact Nat.le_succ _);exact .inl rfl;exact .inr (Nat.le_refl _))
    (fun b hb=>by
     simp at hb
     rw[Heap.size_push]
     rcases hb with rfl|rfl|rfl
     ·exact Nat.lt_succ_self _
     ·exact Nat.lt_succ_of_lt ltG
     ·exact Nat.lt_succ_of_lt (by rw[sG];exact Nat.lt_succ_self _)) fun b o e=>Heap.get?_push_of_some _ (kG _ _ e)
   exact this
end
end S6
end
section
namespace S6
open PySem PySem.Spec PyProof.Rows P1
section
variable {prog:Program} {w:World} {A:Around} {E:Value->Shared->Prop} {s:Shared} {it a:Addr} {i ep:Nat} {es:Array (Int×Value)} {t:SetTable}
theorem Sd {ord:List Value} {acc:Array Value} {n:Nat} (hn:ord.length=n) (h:ItemsOf (fun i v=>ord[i]?=some v) acc n):acc.toList=ord:=by
 apply List.ext_getElem?
 intro j
 by_cases hj:j < n
 ·have hl:j < acc.size:=by rw[h.1];exact hj
  have e:acc.toList[j]?=some acc[j]:=by simp[hl]
  rw[e,h.2 j acc[j] (by simp[hl])]
 ·rw[List.getElem?_eq_none (by rw[Array.length_toList,h.1];omega),List.getElem?_eq_none (by omega)]
theorem Li {Q:List Value->Shared->Prop} (hh:A.handled=none) (hw:Wk w s.heap a es ep t) (hc:es.size<=sizeLine)
  (hQ:∀ ord h' d tk,ord.Perm (es.toList.map (·.2))->s.heap.objs.size<=h'.objs.size->(∀ b o,s.heap.get? b=some o->h'.get? b=some o)->Q ord { s with heap:=h',drawn:=d,toks:=tk }) :
  wpAny (model prog w) A (collect (.ref a)) Q E s:=by
 obtain⟨oa,hoa,hca,hda⟩:=id hw.at_
 have hT:s.TypeIs (.ref a) "set" := ⟨oa,hoa,hca⟩
 have hlt:a < s.heap.objs.size:=Heap.lt_size hoa
 unfold collect
 refine wpAny_bind (wpAny_runValue (codeAny_builtin F.entry_proto_collect ?_))
 rw[Around.under_plainId F.plain_proto_collect _]
 show wpAny _ A.in1 (newList [] >>= fun q=>again (.builtin "list.__iadd__" ⟨[q,.ref a],[]⟩)) _ _ s
 refine wpAny_bind (wpAny_newObj_type (wpAny_pure ⟨plainId_quiet F.plain_list_iadd _,codeAny_builtin F.entry_list_iadd ?_⟩))
 rw[Around.under_plainId F.plain_list_iadd _]
 show wpAny _ A.in1 (Builtin.List.listExtendWith (.ref s.heap.objs.size) (.ref a) (.ref s.heap.objs.size)) _ _ _
 unfold Builtin.List.listExtendWith
 generalize hH:(s.heap.push { cls:=.type "list", data:=.seq ([]:List Value).toArray })=H
 have kH:∀ b o,s.heap.get? b=some o->H.get? b=some o:=fun b o e=>by rw[<-hH];exact Heap.get?_push_of_some _ e
 have sH:H.objs.size=s.heap.objs.size+1:=by rw[<-hH,Heap.size_push]
 have gH:H.get? s.heap.objs.size=some (seqObj "list" #[] 0):=by rw[<-hH];exact Heap.get?_push_size _ rfl
 have hw1:Wk w H a es ep t:=hw.keep fun o e=>kH a o e
 refine wpAny_bind (wpAny_typeOf (T := "set") ⟨oa,kH _ _ hoa,hca⟩ ?_)
 have h1:Builtin.List.listSameRef (.ref s.heap.objs.size) (.ref a)=false:=by simp[Builtin.List.listSameRef];exact Nat.ne_of_gt hlt
 simp only[h1,show (Value.type "set" == Value.type "list")=false by decide,show (Value.type "set" == Value.type "tuple")=false by decide,Bool.or_false,Bool.false_eq_true,if_false]
 refine wpAny_bind (Vt (s:={ s with heap:=H }) hw1 hc fun it G d fp St ord hp W st0 hit hit2 hfp aiu kG=>?_)
 refine wpAny_bind (wpAny_holding ?_)
 unfold Builtin.List.listLengthHint
 have hT2:Shared.TypeIs { s with heap:=G,drawn:=d } (.ref a) "set" := ⟨oa,kG _ _ (kH _ _ hoa),hca⟩
 refine wpAny_bind (wpAny_specialOf (T := "set") hT2 F.slot_set_len.lookup ?_)
 wp_delta
 refine wpAny_bind (wpAny_isInstance (T := "set") (b:=true) hT2 (by rw[isSubtype_type];kernel_rfl) ?_)
 show wpAny _ A.in1 (typeOf (Value.ref a) >>= _) _ _ _
 refine wpAny_bind (wpAny_typeOf (T := "set") hT2 (wpAny_pure ?_))
 rw[if_pos (by decide)]
 show wpAny _ A.in1 (Builtin.List.listTouch (Value.ref s.heap.objs.size) >>= fun _=>again (Code.builtin "list.extend.loop" ⟨[Value.ref s.heap.objs.size,Value.ref it,Value.ref s.heap.objs.size],[]⟩)) _ _ _
 have hS:G.get? s.heap.objs.size=some (seqObj "list" #[] 0):=kG _ _ gH
 unfold Builtin.List.listTouch
 refine wpAny_bind (wpAny_bind (listUpdate_at hS rfl (listUpdate_at (get?_update_seq hS _) rfl ?_ (by show _<=_;decide) (by show _<=_;decide)) (by show _<=_;decide) (by show _<=_;decide)))
 have hSf:s.heap.objs.size∉fp:=fun hm=>by
  rcases hfp _ hm with e|e
  ·exact Nat.ne_of_gt hlt e
  ·have e:H.objs.size<=s.heap.objs.size:=e
   rw[sH] at e
   exact absurd e (Nat.not_succ_le_self _)
 have hS3:=get?_update_seq (get?_update_seq hS (fun x=>x.push Value.none)) (fun x=>x.pop)
 generalize hU:(G.update s.heap.objs.size (Obj.mapSeq fun x=>x.push Value.none)).update s.heap.objs.size (Obj.mapSeq fun x=>x.pop)=U at hS3
 have keep:∀ b,b≠s.heap.objs.size->U.get? b=G.get? b:=fun b hb=>by rw[<-hU,Heap.get?_update_ne _ _ _ _ hb,Heap.get?_update_ne _ _ _ _ hb]
 have st1:St 0 U:=(W A hh).frame 0 G U st0 fun b hb o e=>by rw[keep b fun x=>hSf (x▸hb)];exact e
 show wpAny _ A.in1 (again _) _ _ { s with heap:=U,drawn:=d }
 have ho:ord.length=es.size:=by rw[hp.length_eq];simp
 refine wpAny_pure ⟨plainId_quiet F.plain_extend_loop _,codeAny_extend_loopS (W A.in1 hh).toS hc s.heap.objs.size hSf _ es.size 0 { s with heap:=U,drawn:=d } #[] _ rfl (Nat.zero_le _) st1 hS3 (ItemsOf.nil _) fun s' acc' c' mv hS' hacc=>?_⟩
 show wpAny _ A (load s.heap.objs.size >>= _) _ _ s'
 refine wpAny_bind (wpAny_load hS' (wpAny_pure ?_))
 show Q acc'.toList s'
 rw[Sd ho hacc]
 have key:=hQ ord s'.heap s'.drawn s'.toks hp (Nat.le_of_lt (Heap.lt_size hS')) fun b ob e=>by
  have hb:=Heap.lt_size e
  refine mv.heap b ob (fun hm=>?_) ((keep b (Nat.ne_of_lt hb)).trans (kG _ _ (kH _ _ e)))
  simp only[List.mem_cons,List.not_mem_nil,or_false] at hm
  rcases hm with hm|hm
  ·exact Nat.ne_of_lt hb hm
  ·have:H.objs.size<=it:=hit
   rw[sH,<-hm] at this
   exact absurd hb (Nat.not_lt.mpr (Nat.le_of_succ_le this))
 have e1:s'.gens=s.gens:=mv.gens
 have e2:s'.os=s.os:=mv.os
 rw[<-e1,<-e2] at key
 exact key
end
theorem BX {α:Type} [DecidableEq α]:∀ {xs ys:List α},xs.Nodup->ys.Nodup->(∀ z,z∈xs↔z∈ys)->xs.Perm ys
 |[],ys,_,_,h=>by
  have:ys=[]:=List.eq_nil_iff_forall_not_mem.mpr fun z hz=>by simpa using (h z).mpr hz
  subst this;exact .refl _
 |x::xs,ys,hx,hy,h=>by
  have hm:x∈ys:=(h x).mp (List.mem_cons_self ..)
  have hc:=List.nodup_cons.mp hx
  refine ((BX hc.2 (hy.erase x) fun z=>?_).cons x).trans (List.perm_cons_erase hm).symm
  rw[hy.mem_erase_iff]
  constructor
  ·intro hz
   exact⟨fun e=>hc.1 (e▸hz),(h z).mp (List.mem_cons_of_mem _ hz)⟩
  ·intro ⟨hn,hz⟩
   rcases List.mem_cons.mp ((h z).mpr hz) with e|e
   ·exact absurd e hn
   ·exact e
theorem Af {α β:Type} {R:α->β->Prop}:∀ {l l':List β},l'.Perm l->∀ {ys:List α},Paired R ys l->∃ ys',ys'.Perm ys/\Paired R ys' l':=by
 intro l l' hp
 replace hp:=hp.symm
 induction hp with
 |nil=>intro ys h;exact⟨ys,.refl _,h⟩
 |cons x _ ih=>intro ys h;cases h with|cons r t=>obtain⟨zs,z1,z2⟩:=ih t;exact⟨_::zs,z1.cons _,.cons r z2⟩
 |swap x y l=>intro ys h;cases h with|cons r t=>cases t with|cons r' t'=>exact⟨_,List.Perm.swap _ _ _,.cons r' (.cons r t')⟩
 |trans _ _ ih1 ih2=>intro ys h;obtain⟨zs,z1,z2⟩:=ih1 h;obtain⟨us,u1,u2⟩:=ih2 z2;exact⟨us,u1.trans z1,u2⟩
theorem Ol {α β:Type} {R:α->β->Prop} {xs:List α} {us:List β} {ys:List α} {vs:List β} (h:Paired R xs us) (k:Paired R ys vs):Paired R (xs++ys) (us++vs):=by
 induction h with
 |nil=>exact k
 |cons r _ ih=>exact .cons r ih
section
variable {prog:Program} {w:World} {A:Around} {E:Value->Shared->Prop} {s:Shared} {a:Addr}
def aga (prog:Program) (w:World) (y:Str) (e:Int×Value):Prop:=∃ tk,e=((strKind prog w).hash y,.str y tk)
structure acj (prog:Program) (w:World) (ys:List Str) (es:Array (Int×Value)) (t:SetTable):Prop where
 rel:Paired (aga prog w) ys es.toList
 nd:ys.Nodup
 fit:t.fits es.size=true
 led:w.params.followText "set-order" = false->t.led=true
 non:0 < es.size->t.plain=false
def Tx (prog:Program) (w:World) (h:Heap) (a:Addr) (ys:List Str):Prop:=∃ o es ep t,h.get? a=some o/\o.ExactSet/\o.data=.set es ep t/\acj prog w ys es t
theorem Tx.keep {h h':Heap} {ys:List Str} (x:Tx prog w h a ys) (k:∀ o,h.get? a=some o->h'.get? a=some o):Tx prog w h' a ys:=
 let ⟨o,es,ep,t,e,r⟩:=x;⟨o,es,ep,t,k o e,r⟩
theorem acj.size {ys:List Str} {es:Array (Int×Value)} {t:SetTable} (x:acj prog w ys es t):es.size=ys.length:=by rw[x.rel.length];simp
end
def blank (w:World):Obj:={ cls:=.type "set", dict:=none,data:=.set #[] 0 (.fresh 0 0 (!w.params.followText "set-order")) }
structure Adds (prog:Program) (w:World) (S:Addr) (wr:List Addr) {κ:Type} (C:Heap->List κ->Prop) (P:Nat->Value->Prop) (val:Nat->κ) (n:Nat):Prop where
 keep:∀ h h' ys,C h ys->(∀ b o,b∉wr->h.get? b=some o->h'.get? b=some o)->C h' ys
 add:∀ (A:Around) (E:Value->Shared->Prop) (s:Shared) (i:Nat) (v:Value) (ys:List κ) (Q:Bool->Shared->Prop),A.units < cLine->i < n->P i v->C s.heap ys->ys.length<=i →
  (∀ b h' tk ys',Heap.SameBut S s.heap h'->C h' ys'->(∀ z,z∈ys'↔z∈ys\/z=val i)->ys'.length<=i+1->s.toks<=tk->Q b { s with heap:=h',toks:=tk })->wpAny (model prog w) A (setAdd S v) Q E s
section
variable {prog:Program} {w:World} {A:Around} {R:Result->Shared->Prop} {I:Addr} {fp wr:List Addr} {n:Nat} {P:Nat->Value->Prop} {St:Nat->Shared->Prop} {κ:Type} {C:Heap->List κ->Prop} {val:Nat->κ}
theorem Vu (W:WalksS prog w A.in1 I fp wr (fun a b=>b=a) n P St) (S:Addr) (hSf:S∉fp) (ad:Adds prog w S wr C P val n) (hU:A.units+1 < cLine) :
  ∀ (k i:Nat) (s:Shared) (ys:List κ),n - i=k->i<=n->St i s->C s.heap ys->(∀ z,z∈ys↔∃ j,j < i/\z=val j)->ys.length<=i →
   (∀ s' ys',Moved (S::wr) (fun a b=>b=a) s s'->C s'.heap ys'->(∀ z,z∈ys'↔∃ j,j < n/\z=val j)->R (.ok (.ret .none)) s') →
   codeAny (model prog w) A (.builtin "set.update.loop" ⟨[.ref S,.ref I],[]⟩) R s:=by
 have sub:∀ b,b∈wr->b∈S::wr:=fun b q=>List.mem_cons_of_mem _ q
 intro k
 induction k with
 |zero=>
  intro i s ys hk hi st hc hm hl hR
  have:i=n:=by omega
  subst this
  refine codeAny_builtin F.entry_set_update_loop ?_
  rw[Around.under_plainId F.plain_set_update_loop _]
  show wpAny _ A.in1 (pyNext (.ref I) >>= _) _ _ s
  refine wpAny_bind (W.done s _ _ st fun s' mv=>?_)
  show wpAny _ A.in1 (ret Value.none) _ _ s'
  exact wpAny_pure (hR s' ys (mv.mono sub) (ad.keep _ _ _ hc mv.heap) hm)
 |succ k ih=>
  intro i s ys hk hi st hc hm hl hR
  have hlt:i < n:=by omega
  refine codeAny_builtin F.entry_set_update_loop ?_
  rw[Around.under_plainId F.plain_set_update_loop _]
  show wpAny _ A.in1 (pyNext (.ref I) >>= _) _ _ s
  refine wpAny_bind (W.item i s _ _ hlt st fun v s' hP st' mv=>?_)
  show wpAny _ A.in1 (holding [v] (setAdd S v) >>= _) _ _ s'
  refine wpAny_bind (wpAny_holding (ad.add _ _ s' i v ys _ hU hlt hP (ad.keep _ _ _ hc mv.heap) hl fun b h' tk ys' sb hc' hm' hl' htk=>?_))
  refine wpAny_pure ⟨plainId_quiet F.plain_set_update_loop _,ih (i+1) _ ys' (by omega) hlt (W.frame _ s' _ _ st' htk fun b hb o e=>?_) hc' (fun z=>?_) hl' fun s'' ys'' agb hc'' hm''=>?_⟩
  ·rw[sb.2 b fun q=>hSf (q▸hb)];exact e
  ·rw[hm' z,hm z]
   constructor
   ·rintro (⟨j,hj,e⟩|e)
    ·exact⟨j,by omega,e⟩
    ·exact⟨i,by omega,e⟩
   ·rintro⟨j,hj,e⟩
    by_cases q:j=i
    ·exact .inr (q▸e)
    ·exact .inl ⟨j,by omega,e⟩
  ·refine hR s'' ys'' (Moved.trans W.gtrans ((mv.mono sub).then_heap htk fun b o hb e=>?_) agb) hc'' hm''
   rw[sb.2 b fun q=>hb (by rw[q];exact List.mem_cons_self)];exact e
end
section
variable {prog:Program} {w:World} {A:Around} {E:Value->Shared->Prop} {s:Shared}
theorem Om (x:Value) {Q₁:Value->Shared->Prop} (h:Q₁ (.ref s.heap.objs.size) { s with heap:=s.heap.push (blank w) }) :
  codeAny (model prog w) A (.call (.builtin "set.__new__") ⟨[.type "set", x],[]⟩) (wants Q₁ E) s:=by
 refine codeAny_of_tree ?_
 show wpAny _ A.in1 (do checkBuiltinCall "set.__new__" ⟨[.type "set", x],[]⟩;again (.builtin "set.__new__" ⟨[.type "set", x],[]⟩)) _ _ s
 refine wpAny_bind (wpAny_of_eq (F.newCall_set_1 x) (wpAny_pure ⟨plainId_quiet F.plain_set_new _,codeAny_builtin F.entry_set_new ?_⟩))
 rw[Around.under_plainId F.plain_set_new _]
 unfold Builtin.«set.__new__» Builtin.Frozenset.newClass
 have hsub:=sub_set_self
 obtain⟨hp,g,d,tk,os⟩:=s
 dsimp only
 wp_walk
 refine wpAny_askSetting (wpAny_pure ?_)
 dsimp only
 simp only[newObj]
 refine wpAny_bind (wpAny_alloc (wpAny_pure ?_))
 exact wpAny_pure h
theorem sub_tuple_set:isSubtype (.type "tuple") (.type "set")=pure false:=by rw[isSubtype_type];kernel_rfl
theorem sub_tuple_frozenset:isSubtype (.type "tuple") (.type "frozenset")=pure false:=by rw[isSubtype_type];kernel_rfl
theorem Vv (hU:A.units+60 < cLine) {T:String} {l:Addr} {o:Obj} {κ:Type} {C:Heap->List κ->Prop} {P:Nat->Value->Prop} {val:Nat->κ} {n:Nat} {Q:Value->Shared->Prop} (hh:A.handled=none) (ho:s.heap.get? l=some o) (hcl:o.cls=.type T) (hT:T = "list" ∨ T = "tuple")
  (hit:∀ (A':Around) (E':Value->Shared->Prop) (Q':Value->Shared->Prop) (h0:Heap),A'.handled=none->(∀ b ob,s.heap.get? b=some ob->h0.get? b=some ob) →
   (∀ (h':Heap) (St:Nat->Heap->Prop),(∀ A',A'.handled=none->Walks prog w A' h0.objs.size [h0.objs.size,l] [h0.objs.size] n P St)->St 0 h'->(∀ b ob,h0.get? b=some ob->h'.get? b=some ob)->Q' (.ref h0.objs.size) { s with heap:=h' })->wpAny (model prog w) A' (pyIter (.ref l)) Q' E' { s with heap:=h0 })
  (ad:Adds prog w s.heap.objs.size [s.heap.objs.size+1] C P val n) (hc0:∀ h',h'.get? s.heap.objs.size=some (blank w)->(∀ b ob,s.heap.get? b=some ob->h'.get? b=some ob)->C h' [])
  (h:∀ (h':Heap) (tk:Nat) (ys:List κ),C h' ys->(∀ z,z∈ys↔∃ j,j < n/\z=val j)->(∀ b ob,s.heap.get? b=some ob->h'.get? b=some ob)->Q (.ref s.heap.objs.size) { s with heap:=h',toks:=tk }) :
  wpAny (model prog w) A (call (.type "set") [.ref l]) Q E s:=by
 obtain⟨c,tl,hmro⟩:=F.called_set.mro
 have hmade:=F.called_set.made
 have hsub:=F.called_set.sub
 have hlS:l < s.heap.objs.size:=Heap.lt_size ho
 refine wpAny_call (codeAny_of_tree ?_)
 show wpAny _ _ (callAny (.type "set") _) _ _ _
 refine wpAny_pure ⟨Code.quiet_builtin _ (by decide +kernel),codeAny_builtin F.entry_type_call ?_⟩
 rw[Around.under_plain (weight_type_call_type "set" [.ref l] []) rfl]
 have h1:=F.called_set.notType
 have h2:=F.called_set.canCreate
 have hct:=F.typeCall_set_1 (.ref l)
 repeat (any_goals (first|assumption|wp_step))
 refine codeAny_mono (Om (.ref l) (E:=E) (Q₁:=fun obj s₁=>obj=.ref s.heap.objs.size/\s₁={ s with heap:=s.heap.push (blank w) }) ⟨rfl,rfl⟩) fun r s₁ hr=>?_
 cases r with
 |error e=>exact hr
 |ok fl=>
  cases fl with
  |ret obj=>
   obtain⟨rfl,rfl⟩:=hr
   generalize hH:s.heap.push (blank w)=H
   have sH:H.objs.size=s.heap.objs.size+1:=by rw[<-hH,Heap.size_push]
   have hS:H.get? s.heap.objs.size=some (blank w):=by rw[<-hH];exact Heap.get?_push_size _ rfl
   have kH:∀ b ob,s.heap.get? b=some ob->H.get? b=some ob:=fun b ob e=>by rw[<-hH];exact Heap.get?_push_of_some _ e
   have hTS:Shared.TypeIs { s with heap:=H } (.ref s.heap.objs.size) "set" := ⟨_,hS,rfl⟩
   have hli:=F.called_set.init.lookup
   have hbi:=F.called_set.init.bind (.ref s.heap.objs.size)
   repeat (any_goals (first|assumption|wp_step))
   refine codeAny_mono (codeAny_call_builtin (R:=wants (fun r s₂=>r=.none/\∃ h' tk ys,s₂={ s with heap:=h',toks:=tk }/\C h' ys/\(∀ z,z∈ys↔∃ j,j < n/\z=val j)/\(∀ b ob,s.heap.get? b=some ob->h'.get? b=some ob)) E) F.called_set.init.plain F.entry_set_init (check_set_init_1 hTS ?_)) fun r₂ s₂ hr₂=>?_
   ·have hT2:Shared.TypeIs { s with heap:=H } (.ref l) T:=⟨o,kH _ _ ho,hcl⟩
    have i1:isSubtype (.type T) (.type "set")=pure false:=by rcases hT with rfl|rfl;exact F.sub_list_set;exact sub_tuple_set
    have i2:isSubtype (.type T) (.type "frozenset")=pure false:=by rcases hT with rfl|rfl;exact F.sub_list_frozenset;exact sub_tuple_frozenset
    have i3:(Value.type T==Value.type "dict")=false:=by rcases hT with rfl|rfl<;>decide
    show wpAny _ _ (Builtin.«set.__init__» ⟨[.ref s.heap.objs.size,.ref l],[]⟩) _ _ _
    have hup:∀ A':Around,A'.handled=none->A'.units+4 < cLine->wpAny (model prog w) A' (Builtin.Frozenset.updateFrom "set.__init__" s.heap.objs.size (.ref l)) (fun _ s₂=>∃ h' tk ys,s₂={ s with heap:=h',toks:=tk }/\C h' ys/\(∀ z,z∈ys↔∃ j,j < n/\z=val j)/\(∀ b ob,s.heap.get? b=some ob->h'.get? b=some ob)) E { s with heap:=H }:=by
     intro A' hA hA4
     unfold Builtin.Frozenset.updateFrom Builtin.Frozenset.isAnySet
     refine wpAny_bind (wpAny_bind (wpAny_isInstance hT2 i1 ?_))
     refine wpAny_isInstance hT2 i2 ?_
     simp only[Bool.false_eq_true,if_false]
     refine wpAny_bind (wpAny_typeOf hT2 ?_)
     simp only[i3,Bool.false_eq_true,if_false]
     refine wpAny_bind (hit A' _ _ H hA kH fun G St W st0 kG=>?_)
     rw[sH] at W
     rw[sH]
     have hSf:s.heap.objs.size∉[s.heap.objs.size+1,l]:=fun q=>by
      simp only[List.mem_cons,List.not_mem_nil,or_false] at q
      rcases q with q|q
      ·exact Nat.ne_of_lt (Nat.lt_succ_self _) q
      ·exact Nat.ne_of_gt hlS q
     refine wpAny_bind (wpAny_runValue (Vu (W A'.in1 hA).toS s.heap.objs.size hSf ad (by omega) (n - 0) 0 _ [] rfl (Nat.zero_le _) st0 (hc0 G (kG _ _ hS) fun b ob e=>kG _ _ (kH _ _ e)) (fun z=>⟨fun q=>(by cases q),fun ⟨j,q,_⟩=>absurd q (Nat.not_lt_zero _)⟩) (Nat.le_refl _) fun s' ys mv c1 c2=>?_))
     refine wpAny_pure ⟨s'.heap,s'.toks,ys,?_,c1,c2,fun b ob e=>?_⟩
     ·have e1:s'.gens=s.gens:=mv.gens
      have e2:s'.os=s.os:=mv.os
      have e3:s'.drawn=s.drawn:=mv.drawn
      rw[<-e1,<-e2,<-e3]
     ·have hb:=Heap.lt_size e
      refine mv.heap b ob (fun q=>?_) (kG _ _ (kH _ _ e))
      simp only[List.mem_cons,List.not_mem_nil,or_false] at q
      rcases q with q|q
      ·exact Nat.ne_of_lt hb q
      ·exact Nat.ne_of_lt (Nat.lt_succ_of_lt hb) q
    have hb:(blank w).data=.set #[] 0 (.fresh 0 0 (!w.params.followText "set-order")):=rfl
    unfold Builtin.«set.__init__» noKeywords
    generalize hUF:Builtin.Frozenset.updateFrom=UF at hup ⊢
    unfold blank at hS
    wp_walk
    refine wpAny_mono (hup _ (by simp[hh]) (by simp;omega)) (fun u s₂ q=>?_) fun _ _ q=>q
    obtain⟨h',tk,ys,rfl,q⟩:=q
    show wpAny _ _ (ret Value.none) _ _ _
    exact wpAny_pure ⟨rfl,h',tk,ys,rfl,q⟩
   ·cases r₂ with
    |error e=>exact hr₂
    |ok fl₂=>
     cases fl₂ with
     |ret r=>
      obtain⟨rfl,h',tk,ys,rfl,c1,c2,c3⟩:=hr₂
      repeat (any_goals (first|assumption|wp_step))
      exact h _ _ _ c1 c2 c3
     |_=>exact False.elim hr₂
  |_=>exact False.elim hr
end
end S6
end
section
namespace S6
open PySem
def Oo (xs:Array Nat):Prop:=∀ i j,i < j->j < xs.size->xs.getD i 0 < xs.getD j 0
theorem getD_in {xs:Array Nat} {k a b:Nat} (h:k < xs.size):xs.getD k a=xs.getD k b:=by simp[Array.getD,h]
theorem YX {xs:Array Nat} {k a j:Nat} (h:xs[k]?=some j):k < xs.size/\xs.getD k a=j:=by
 have hk:k < xs.size:=by
  by_cases q:k < xs.size
  ·exact q
  ·rw[Array.getElem?_eq_none (by omega)] at h;cases h
 refine⟨hk,?_⟩
 rw[Array.getElem?_eq_getElem hk] at h
 cases h
 simp[Array.getD,hk]
theorem YZ {xs:Array Nat} {k a j:Nat} (hk:k < xs.size) (h:xs.getD k a=j):xs[k]?=some j:=by
 rw[Array.getElem?_eq_getElem hk]
 simp[Array.getD,hk] at h
 rw[h]
theorem Dj (xs:Array Nat) (j:Nat) (hr:Oo xs):∀ (fuel lo hi:Nat),lo<=hi->hi<=xs.size->hi - lo<=fuel->(∀ k,k < lo->xs.getD k 0 < j)->(∀ k,hi<=k->k < xs.size->j<=xs.getD k 0) →
  SetTable.below.go xs j fuel lo hi<=xs.size/\(∀ k,k < SetTable.below.go xs j fuel lo hi->xs.getD k 0 < j)/\∀ k,SetTable.below.go xs j fuel lo hi<=k->k < xs.size->j<=xs.getD k 0
 |0,lo,hi,h1,h2,h3,h4,h5=>by
  have e:lo=hi:=by omega
  subst e
  unfold SetTable.below.go
  exact⟨h2,h4,h5⟩
 |fuel+1,lo,hi,h1,h2,h3,h4,h5=>by
  unfold SetTable.below.go
  by_cases hl:lo < hi
  ·rw[if_pos hl]
   dsimp only
   have hm:(lo+hi) / 2 < xs.size:=by omega
   rw[getD_in (b:=0) hm]
   by_cases q:xs.getD ((lo+hi) / 2) 0 < j
   ·rw[if_pos q]
    refine Dj xs j hr fuel _ hi (by omega) h2 (by omega) (fun k hk=>?_) h5
    by_cases e:k=(lo+hi) / 2
    ·rw[e];exact q
    ·exact Nat.lt_trans (hr k _ (by omega) hm) q
   ·rw[if_neg q]
    refine Dj xs j hr fuel lo _ (by omega) (by omega) (by omega) h4 fun k hk hs=>?_
    by_cases e:k=(lo+hi) / 2
    ·rw[e];omega
    ·have:=hr _ k (by omega:(lo+hi) / 2 < k) hs;omega
  ·rw[if_neg hl]
   have e:lo=hi:=by omega
   subst e
   exact⟨h2,h4,h5⟩
theorem below_at {xs:Array Nat} (hr:Oo xs) (j:Nat):SetTable.below xs j<=xs.size/\(∀ k,k < SetTable.below xs j->xs.getD k 0 < j)/\∀ k,SetTable.below xs j<=k->k < xs.size->j<=xs.getD k 0:=
 Dj xs j hr xs.size 0 xs.size (Nat.zero_le _) (Nat.le_refl _) (by omega) (fun k h=>absurd h (Nat.not_lt_zero _)) fun k h h'=>absurd h' (by omega)
theorem Dk {xs:Array Nat} (hr:Oo xs) {i j:Nat} (h:xs[i]?=some j):SetTable.below xs j=i:=by
 obtain⟨h1,h2,h3⟩:=below_at hr j
 obtain⟨hi,e⟩:=YX (a:=0) h
 rcases Nat.lt_trichotomy (SetTable.below xs j) i with q|q|q
 ·have:=h3 _ (Nat.le_refl _) (by omega)
  have:=hr _ _ q hi
  omega
 ·exact q
 ·have:=h2 _ q;omega
theorem Qm (j:Nat):SetTable.has #[] j=false:=by
 unfold SetTable.has
 simp
structure Tb (t:SetTable):Prop where
 mask:t.mask=7\/t.mask=31\/t.mask=127
 Y0:t.dummies=#[]
 rise:Oo t.place
 bd:∀ j:Nat,j∈t.place->j<=t.mask
 full:t.place.size<=t.mask
theorem zL {t:SetTable} (h:Tb t) {i j:Nat} (e:t.place[i]?=some j):t.slot j=.live i:=by
 unfold SetTable.slot
 simp only[Dk h.rise e,e,beq_self_eq_true,if_true]
theorem Sg {t:SetTable} (h:Tb t) {j:Nat} (e:j∉t.place):t.slot j=.empty:=by
 unfold SetTable.slot
 have:(t.place[SetTable.below t.place j]?==some j)=false:=by
  cases q:t.place[SetTable.below t.place j]? with
  |none=>rfl
  |some x=>
   by_cases hx:x=j
   ·subst hx;exact absurd (Array.mem_of_getElem? q) e
   ·simp[hx]
 simp only[this,Bool.false_eq_true,if_false,h.Y0,Qm]
def FZ (mask:Nat) (p:SetTable.Probe):SetTable.Probe:=
 if p.more > 0 then { p with j:=p.j+1,more:=p.more - 1 } else
 { p with j:=(SetTable.leap mask p.i p.perturb).1,more:=SetTable.runEnd mask (SetTable.leap mask p.i p.perturb).1 - (SetTable.leap mask p.i p.perturb).1,i:=(SetTable.leap mask p.i p.perturb).1,perturb:=(SetTable.leap mask p.i p.perturb).2 }
theorem Vw (t:SetTable) (p:SetTable.Probe):t.advance p=FZ t.mask p:=rfl
def at0 (mask i perturb:Nat):SetTable.Probe:={ j:=i,more:=SetTable.runEnd mask i - i,i,perturb,dummy:=none }
def iQ (mask:Nat) (h:Int):Nat->SetTable.Probe
 |0=>at0 mask (SetTable.bits h % (mask+1)) (SetTable.bits h)
 |n+1=>FZ mask (iQ mask h n)
theorem Qn (mask:Nat) (h:Int):∀ n,(iQ mask h n).dummy=none
 |0=>rfl
 |n+1=>by
  have:=Qn mask h n
  unfold iQ FZ
  split<;>exact this
theorem Lj {t:SetTable} (ht:Tb t) (hashAt:Nat->Int) (h:Int):∀ (d fuel n:Nat),d < fuel->(∀ m,n<=m->m < n+d->∃ i,t.place[i]?=some (iQ t.mask h m).j/\hashAt i≠h) →
  ((iQ t.mask h (n+d)).j∉t.place->SetTable.probe.go t hashAt h fuel (iQ t.mask h n)=some (.empty (iQ t.mask h (n+d)).j none)) ∧
  ∀ i,t.place[i]?=some (iQ t.mask h (n+d)).j->hashAt i=h->SetTable.probe.go t hashAt h fuel (iQ t.mask h n)=some (.candidate (iQ t.mask h (n+d)).j i (iQ t.mask h (n+d+1)))
 |0,fuel+1,n,_,_=>by
  refine⟨fun e=>?_,fun i e1 e2=>?_⟩
  ·unfold SetTable.probe.go
   rw[Nat.add_zero] at e ⊢
   rw[Sg ht e]
   simp only[Qn]
  ·unfold SetTable.probe.go
   rw[Nat.add_zero] at e1 ⊢
   rw[zL ht e1]
   simp only[e2,beq_self_eq_true,if_true,Vw]
   rfl
 |d+1,fuel+1,n,hd,hp=>by
  obtain⟨i,e1,e2⟩:=hp n (Nat.le_refl _) (by omega)
  have ih:=Lj ht hashAt h d fuel (n+1) (by omega) fun m h1 h2=>hp m (by omega) (by omega)
  have e:SetTable.probe.go t hashAt h (fuel+1) (iQ t.mask h n)=SetTable.probe.go t hashAt h fuel (iQ t.mask h (n+1)):=by
   conv=>lhs;unfold SetTable.probe.go
   rw[zL ht e1]
   simp only[beq_iff_eq,e2,if_false,Vw]
   rfl
  rw[e,show n+(d+1)=n+1+d by omega]
  exact ih
theorem Oq:∀ (xs ys:List Nat),xs.Nodup->(∀ x,x∈xs->x∈ys)->xs.length<=ys.length
 |[],_,_,_=>Nat.zero_le _
 |x::xs,ys,hn,hs=>by
  have hc:=List.nodup_cons.mp hn
  have hm:=hs x (List.mem_cons_self ..)
  have:=Oq xs (ys.erase x) hc.2 fun z hz=>(List.mem_erase_of_ne (fun e:z=x=>hc.1 (by rw[<-e];exact hz))).mpr (hs z (List.mem_cons_of_mem _ hz))
  have:=List.length_erase_of_mem hm
  have:0 < ys.length:=List.length_pos_of_mem hm
  simp only[List.length_cons]
  omega
def nx (M i:Nat):Nat:=(i * 5+1) % M
def Lk (M:Nat):Nat->Nat->Nat
 |0,i=>i
 |k+1,i=>Lk M k (nx M i)
theorem BZ (M:Nat):∀ (a b i:Nat),Lk M (a+b) i=Lk M b (Lk M a i)
 |0,b,i=>by rw[Nat.zero_add];rfl
 |a+1,b,i=>by rw[Nat.succ_add];exact BZ M a b _
theorem agc:(∀ r,r < 8->∃ k,k < 8/\Lk 8 k 0=r)/\Lk 8 8 0=0:=by decide +kernel
theorem aew:(∀ r,r < 32->∃ k,k < 32/\Lk 32 k 0=r)/\Lk 32 32 0=0:=by decide +kernel
theorem acn:(∀ r,r < 128->∃ k,k < 128/\Lk 128 k 0=r)/\Lk 128 128 0=0:=by decide +kernel
theorem cyc {M:Nat} (h:(∀ r,r < M->∃ k,k < M/\Lk M k 0=r)/\Lk M M 0=0) {i r:Nat} (hi:i < M) (hr:r < M):∃ k,k < M/\Lk M k i=r:=by
 obtain⟨a,ha,rfl⟩:=h.1 i hi
 obtain⟨b,hb,rfl⟩:=h.1 r hr
 by_cases q:a<=b
 ·exact⟨b - a,by omega,by rw[<-BZ,show a+(b - a)=b by omega]⟩
 ·exact⟨M - a+b,by omega,by rw[<-BZ,show a+(M - a+b)=M+b by omega,BZ,h.2]⟩
theorem agf {mask:Nat} (h:mask=7\/mask=31\/mask=127) {i r:Nat} (hi:i < mask+1) (hr:r < mask+1):∃ k,k < mask+1/\Lk (mask+1) k i=r:=by
 rcases h with rfl|rfl|rfl
 ·exact cyc agc hi hr
 ·exact cyc aew hi hr
 ·exact cyc acn hi hr
def lp (mask:Nat) (h:Int):Nat->Nat×Nat
 |0=>(SetTable.bits h % (mask+1),SetTable.bits h)
 |l+1=>SetTable.leap mask (lp mask h l).1 (lp mask h l).2
theorem Dl (mask i:Nat):i<=SetTable.runEnd mask i/\SetTable.runEnd mask i<=i+9:=by unfold SetTable.runEnd;split<;>omega
theorem Vx {mask i:Nat} (h:i<=mask):SetTable.runEnd mask i<=mask:=by unfold SetTable.runEnd;split<;>omega
theorem yu {mask:Nat} {h:Int} {s i p:Nat} (e:iQ mask h s=at0 mask i p):∀ k,k<=SetTable.runEnd mask i - i->iQ mask h (s+k)={ at0 mask i p with j:=i+k,more:=SetTable.runEnd mask i - i - k }
 |0,_=>by rw[Nat.add_zero,e];rfl
 |k+1,hk=>by
  have ih:=yu e k (by omega)
  show FZ mask (iQ mask h (s+k))=_
  rw[ih]
  unfold FZ
  rw[if_pos (by dsimp only;omega)]
  rfl
theorem Ln {mask:Nat} {h:Int} {s i p:Nat} (e:iQ mask h s=at0 mask i p):iQ mask h (s+(SetTable.runEnd mask i - i)+1)=at0 mask (SetTable.leap mask i p).1 (SetTable.leap mask i p).2:=by
 show FZ mask (iQ mask h (s+(SetTable.runEnd mask i - i)))=_
 rw[yu e _ (Nat.le_refl _)]
 unfold FZ
 rw[if_neg (by dsimp only;omega)]
 rfl
theorem Vy (mask:Nat) (h:Int):∀ l,∃ s,s<=10 * l/\iQ mask h s=at0 mask (lp mask h l).1 (lp mask h l).2
 |0=>⟨0,by omega,rfl⟩
 |l+1=>by
  obtain⟨s,hs,e⟩:=Vy mask h l
  have:=Dl mask (lp mask h l).1
  exact⟨_,by omega,Ln e⟩
theorem aex (mask:Nat) (h:Int):∀ l,(lp mask h l).1 < mask+1
 |0=>Nat.mod_lt _ (Nat.succ_pos _)
 |l+1=>Nat.mod_lt _ (Nat.succ_pos _)
theorem Lq (mask:Nat) (h:Int):∀ l,(lp mask h l).2 * 32 ^ l<=SetTable.bits h
 |0=>by simp[lp]
 |l+1=>by
  have ih:=Lq mask h l
  show (lp mask h l).2 / 32 * 32 ^ (l+1)<=_
  have h1:(lp mask h l).2 / 32 * 32<=(lp mask h l).2:=Nat.div_mul_le_self _ _
  have h2:=Nat.mul_le_mul_right (32 ^ l) h1
  rw[Nat.pow_succ,Nat.mul_comm (32 ^ l) 32,<-Nat.mul_assoc]
  exact Nat.le_trans h2 ih
theorem Y4 (h:Int):SetTable.bits h < 18446744073709551616:=by
 unfold SetTable.bits
 have h1:h % 18446744073709551616 < 18446744073709551616:=Int.emod_lt_of_pos _ (by decide)
 have h2:0<=h % 18446744073709551616:=Int.emod_nonneg _ (by decide)
 show (h % 18446744073709551616).toNat < _
 omega
theorem Qo (mask:Nat) (h:Int):∀ k,(lp mask h (12+k)).2 < 32
 |0=>by
  have h1:=Lq mask h 12
  have h2:=Y4 h
  rw[show (32:Nat) ^ 12=1152921504606846976 from rfl] at h1
  show (lp mask h 12).2 < 32
  omega
 |k+1=>by
  have:=Qo mask h k
  show (lp mask h (12+k)).2 / 32 < 32
  omega
theorem aey (mask:Nat) (h:Int):∀ k,(lp mask h (12+k)).1=Lk (mask+1) k (lp mask h 12).1:=by
 have step:∀ k,(lp mask h (12+k+1)).1=nx (mask+1) (lp mask h (12+k)).1:=fun k=>by
  have:=Qo mask h k
  show ((lp mask h (12+k)).1 * 5+1+(lp mask h (12+k)).2 / 32) % (mask+1)=_
  rw[show (lp mask h (12+k)).2 / 32=0 by omega]
  rfl
 have comm:∀ k i,Lk (mask+1) k (nx (mask+1) i)=nx (mask+1) (Lk (mask+1) k i):=fun k=>by
  induction k with
  |zero=>intro i;rfl
  |succ k ih=>intro i;exact ih _
 intro k
 induction k with
 |zero=>rfl
 |succ k ih=>
  rw[show 12+(k+1)=12+k+1 by omega,step,ih]
  exact (comm k _).symm
theorem Vz {mask:Nat} (hm:mask=7\/mask=31\/mask=127) (h:Int) {r:Nat} (hr:r < mask+1):∃ l,l < mask+13/\(lp mask h l).1=r:=by
 obtain⟨k,hk,e⟩:=agf hm (aex mask h 12) hr
 exact⟨12+k,by omega,by rw[aey,e]⟩
theorem gap {t:SetTable} (h:Tb t):∃ r,r < t.mask+1/\r∉t.place:=by
 by_cases q:∃ r,r < t.mask+1/\r∉t.place
 ·exact q
 ·exfalso
  have:=Oq (List.range (t.mask+1)) t.place.toList List.nodup_range fun x hx=>by
   rw[List.mem_range] at hx
   by_cases q':x∈t.place
   ·exact Array.mem_toList_iff.mpr q'
   ·exact absurd ⟨x,hx,q'⟩ q
  rw[List.length_range,Array.length_toList] at this
  have:=h.full
  omega
theorem VB {t:SetTable} (ht:Tb t) (h:Int):∃ n,n < 10 * SetTable.turns t.mask/\(iQ t.mask h n).j∉t.place:=by
 obtain⟨r,hr,hn⟩:=gap ht
 obtain⟨l,hl,e⟩:=Vz ht.mask h hr
 obtain⟨s,hs,e'⟩:=Vy t.mask h l
 refine⟨s,by unfold SetTable.turns;omega,?_⟩
 rw[e']
 show (lp t.mask h l).1∉_
 rw[e];exact hn
theorem Ot {t:SetTable} (ht:Tb t) (h:Int):∃ n,n < 10 * SetTable.turns t.mask/\(iQ t.mask h n).j∉t.place/\∀ m,m < n->(iQ t.mask h m).j∈t.place:=by
 obtain⟨n,hn,hf⟩:=VB ht h
 have:∀ k,(∃ n,n<=k/\(iQ t.mask h n).j∉t.place/\∀ m,m < n->(iQ t.mask h m).j∈t.place)\/∀ m,m<=k->(iQ t.mask h m).j∈t.place:=fun k=>by
  induction k with
  |zero=>
   by_cases q:(iQ t.mask h 0).j∈t.place
   ·exact .inr fun m hm=>by rw[show m=0 by omega];exact q
   ·exact .inl ⟨0,Nat.le_refl _,q,fun m hm=>absurd hm (Nat.not_lt_zero _)⟩
  |succ k ih=>
   rcases ih with⟨n,h1,h2⟩|ih
   ·exact .inl ⟨n,by omega,h2⟩
   ·by_cases q:(iQ t.mask h (k+1)).j∈t.place
    ·exact .inr fun m hm=>by
      by_cases e:m=k+1
      ·rw[e];exact q
      ·exact ih m (by omega)
    ·exact .inl ⟨k+1,Nat.le_refl _,q,fun m hm=>ih m (by omega)⟩
 rcases this n with⟨m,h1,h2,h3⟩|q
 ·exact⟨m,by omega,h2,h3⟩
 ·exact absurd (q n (Nat.le_refl _)) hf
theorem gD {α:Type} (xs:Array α) (k:Nat) (a:α):xs.getD k a=xs[k]?.getD a:=by
 by_cases h:k < xs.size
 ·rw[Array.getElem?_eq_getElem h];simp[Array.getD,h]
 ·rw[Array.getElem?_eq_none (by omega)];simp[Array.getD,h]
structure Tok (t:SetTable) (es:Array (Int×Value)):Prop extends Tb t where
 size:t.place.size=es.size
 reach:∀ (i j:Nat) e,t.place[i]?=some j->es[i]?=some e->∃ n,n < 10 * SetTable.turns t.mask/\(iQ t.mask e.1 n).j=j/\∀ m,m < n->(iQ t.mask e.1 m).j∈t.place
theorem yw {α:Type} (xs:Array α) (p:Nat) (x:α):(SetTable.insertAt xs p x).toList=xs.toList.take p++x::xs.toList.drop p:=by
 unfold SetTable.insertAt
 simp[Array.toList_extract,List.take_of_length_le]
theorem Bu {α:Type} {xs:Array α} {p:Nat} (hp:p<=xs.size) (x:α) (i:Nat):(SetTable.insertAt xs p x)[i]?=if i < p then xs[i]? else if i=p then some x else xs[i - 1]?:=by
 rw[<-Array.getElem?_toList,yw,List.getElem?_append]
 have hl:(xs.toList.take p).length=p:=by rw[List.length_take,Array.length_toList];omega
 rw[hl]
 by_cases h1:i < p
 ·rw[if_pos h1,if_pos h1,List.getElem?_take,if_pos h1,Array.getElem?_toList]
 ·rw[if_neg h1,if_neg h1]
  by_cases h2:i=p
  ·rw[if_pos h2,h2,Nat.sub_self];rfl
  ·rw[if_neg h2,show i - p=(i - p - 1)+1 by omega,List.getElem?_cons_succ,List.getElem?_drop,Array.getElem?_toList,show p+(i - p - 1)=i - 1 by omega]
theorem uR {α:Type} (xs:Array α) (p:Nat) (x:α):(SetTable.insertAt xs p x).size=xs.size+1:=by
 rw[<-Array.length_toList,yw,List.length_append,List.length_cons,List.length_take,List.length_drop,Array.length_toList]
 omega
theorem Qp {α:Type} {xs:Array α} {p:Nat} {x y:α}:y∈SetTable.insertAt xs p x↔y∈xs\/y=x:=by
 rw[<-Array.mem_toList_iff,yw,List.mem_append,List.mem_cons,<-Array.mem_toList_iff]
 constructor
 ·rintro (h|h|h)
  ·exact .inl (List.mem_of_mem_take h)
  ·exact .inr h
  ·exact .inl (List.mem_of_mem_drop h)
 ·rintro (h|h)
  ·rw[<-List.take_append_drop p xs.toList,List.mem_append] at h
   rcases h with h|h
   ·exact .inl h
   ·exact .inr (.inr h)
  ·exact .inr (.inl h)
theorem VD {xs:Array Nat} (hr:Oo xs) {j:Nat} (hj:j∉xs):Oo (SetTable.insertAt xs (SetTable.below xs j) j):=by
 obtain⟨h1,h2,h3⟩:=below_at hr j
 intro a b hab hb
 rw[uR] at hb
 have ga:∀ i,i < xs.size+1->(SetTable.insertAt xs (SetTable.below xs j) j).getD i 0=if i < SetTable.below xs j then xs.getD i 0 else if i=SetTable.below xs j then j else xs.getD (i - 1) 0:=fun i hi=>by
  rw[gD,Bu h1]
  by_cases q1:i < SetTable.below xs j
  ·rw[if_pos q1,if_pos q1,<-gD]
  ·rw[if_neg q1,if_neg q1]
   by_cases q2:i=SetTable.below xs j
   ·rw[if_pos q2,if_pos q2];rfl
   ·rw[if_neg q2,if_neg q2,<-gD]
 have gt:∀ k,SetTable.below xs j<=k->k < xs.size->j < xs.getD k 0:=fun k hk hs=>by
  have q:=h3 k hk hs
  rcases Nat.lt_or_eq_of_le q with q|q
  ·exact q
  ·exact absurd (Array.mem_of_getElem? (YZ hs q.symm)) hj
 rw[ga a (by omega),ga b hb]
 by_cases a1:a < SetTable.below xs j
 ·rw[if_pos a1]
  by_cases b1:b < SetTable.below xs j
  ·rw[if_pos b1];exact hr a b hab (by omega)
  ·rw[if_neg b1]
   have:=h2 a a1
   by_cases b2:b=SetTable.below xs j
   ·rw[if_pos b2];exact this
   ·rw[if_neg b2];exact Nat.lt_trans this (gt _ (by omega) (by omega))
 ·rw[if_neg a1]
  by_cases a2:a=SetTable.below xs j
  ·rw[if_pos a2,if_neg (by omega),if_neg (by omega)]
   exact gt _ (by omega) (by omega)
  ·rw[if_neg a2,if_neg (by omega),if_neg (by omega)]
   exact hr _ _ (by omega) (by omega)
theorem Y5 {t:SetTable} {es:Array (Int×Value)} (h:Tok t es) {hh:Int} {x:Value} {n:Nat} (hn:n < 10 * SetTable.turns t.mask) (hf:(iQ t.mask hh n).j∉t.place) (hp:∀ m,m < n->(iQ t.mask hh m).j∈t.place) (hj:(iQ t.mask hh n).j<=t.mask) (hs:es.size+1<=t.mask) :
  Tok (t.put (iQ t.mask hh n).j).1 (SetTable.insertAt es (t.put (iQ t.mask hh n).j).2 (hh,x))/\(t.put (iQ t.mask hh n).j).1.led=t.led/\(t.put (iQ t.mask hh n).j).1.plain=t.plain/\(t.put (iQ t.mask hh n).j).1.mask=t.mask:=by
 have hd:=h.Y0
 have he:t.put (iQ t.mask hh n).j=({ t with place:=SetTable.insertAt t.place (SetTable.below t.place (iQ t.mask hh n).j) (iQ t.mask hh n).j,dummies:=#[] },SetTable.below t.place (iQ t.mask hh n).j):=by
  unfold SetTable.put
  rw[hd]
  simp only[Qm,Bool.false_eq_true,if_false]
 rw[he]
 have hz:=h.size
 have hb:=(below_at h.rise (iQ t.mask hh n).j).1
 refine⟨{ mask:=h.mask,Y0:=rfl,rise:=VD h.rise hf,bd:=fun j hj'=>?_,full:=?_,size:=?_,reach:=fun i j e h1 h2=>?_ },rfl,rfl,rfl⟩
 ·rcases Qp.mp hj' with q|q
  ·exact h.bd j q
  ·rw[q];exact hj
 ·show (SetTable.insertAt _ _ _).size<=t.mask
  rw[uR];omega
 ·show (SetTable.insertAt _ _ _).size=_
  rw[uR,uR,hz]
 ·have h1:(SetTable.insertAt t.place (SetTable.below t.place (iQ t.mask hh n).j) (iQ t.mask hh n).j)[i]?=some j:=h1
  rw[Bu hb] at h1
  rw[Bu (by rw[<-hz];exact hb)] at h2
  have up:∀ e':Int×Value,(∃ n,n < 10 * SetTable.turns t.mask/\(iQ t.mask e'.1 n).j=j/\∀ m,m < n->(iQ t.mask e'.1 m).j∈t.place)->∃ n',n' < 10 * SetTable.turns t.mask/\(iQ t.mask e'.1 n').j=j/\∀ m,m < n'->(iQ t.mask e'.1 m).j∈SetTable.insertAt t.place (SetTable.below t.place (iQ t.mask hh n).j) (iQ t.mask hh n).j:=
   fun e' ⟨n,a,b,c⟩=>⟨n,a,b,fun m hm=>Qp.mpr (.inl (c m hm))⟩
  by_cases q1:i < SetTable.below t.place (iQ t.mask hh n).j
  ·rw[if_pos q1] at h1 h2
   exact up e (h.reach i j e h1 h2)
  ·rw[if_neg q1] at h1 h2
   by_cases q2:i=SetTable.below t.place (iQ t.mask hh n).j
   ·rw[if_pos q2] at h1 h2
    cases h1;cases h2
    exact up (hh,x) ⟨n,hn,rfl,hp⟩
   ·rw[if_neg q2] at h1 h2
    exact up e (h.reach (i - 1) j e h1 h2)
theorem VF {mask:Nat} (h:Int):∀ n,(iQ mask h n).j+(iQ mask h n).more<=mask
 |0=>by
  have h1:SetTable.bits h % (mask+1) < mask+1:=Nat.mod_lt _ (Nat.succ_pos _)
  have:=Vx (mask:=mask) (i:=SetTable.bits h % (mask+1)) (by omega)
  have:=Dl mask (SetTable.bits h % (mask+1))
  show SetTable.bits h % (mask+1)+(SetTable.runEnd mask (SetTable.bits h % (mask+1)) - SetTable.bits h % (mask+1))<=mask
  omega
 |n+1=>by
  have ih:=VF (mask:=mask) h n
  show (FZ mask (iQ mask h n)).j+(FZ mask (iQ mask h n)).more<=mask
  unfold FZ
  split
  ·dsimp only;omega
  ·dsimp only
   generalize hl:(SetTable.leap mask (iQ mask h n).i (iQ mask h n).perturb).1=i
   have h1:i < mask+1:=by rw[<-hl];exact Nat.mod_lt _ (Nat.succ_pos _)
   have:=Vx (mask:=mask) (i:=i) (by omega)
   have:=Dl mask i
   omega
theorem Ou {mask:Nat} (h:Int) (n:Nat):(iQ mask h n).j<=mask:=by have:=VF (mask:=mask) h n;omega
def Ov (owner:Array (Option Nat)) (j:Nat):Prop:=(owner.getD j (some 0)).isNone=false
theorem Hx {mask:Nat} {h:Int} {owner:Array (Option Nat)}:∀ (fuel l s j:Nat),iQ mask h s=at0 mask (lp mask h l).1 (lp mask h l).2->s<=10 * l->(∀ m,m < s->Ov owner (iQ mask h m).j) →
  SetTable.layClean.free mask owner fuel (lp mask h l).1 (lp mask h l).2=some j->∃ n,n < 10 * (l+fuel)/\(iQ mask h n).j=j/\(owner.getD j (some 0)).isNone=true/\∀ m,m < n->Ov owner (iQ mask h m).j
 |0,l,s,j,_,_,_,e=>by unfold SetTable.layClean.free at e;cases e
 |fuel+1,l,s,j,hs,hl,ho,e=>by
  have hr:=Dl mask (lp mask h l).1
  unfold SetTable.layClean.free at e
  cases hf:(List.range (SetTable.runEnd mask (lp mask h l).1+1 - (lp mask h l).1)).find? fun k=>(owner.getD ((lp mask h l).1+k) (some 0)).isNone with
  |some k=>
   rw[hf] at e
   cases e
   obtain⟨h1,h2,h3⟩:=List.find?_range_eq_some.mp hf
   rw[List.mem_range] at h2
   refine⟨s+k,by omega,?_,h1,fun m hm=>?_⟩
   ·rw[yu hs k (by omega)]
   ·by_cases q:m < s
    ·exact ho m q
    ·have h4:=h3 (m - s) (by omega)
     rw[show m=s+(m - s) by omega,yu hs (m - s) (by omega)]
     simpa [Ov] using h4
  |none=>
   rw[hf] at e
   have h3:=List.find?_range_eq_none.mp hf
   obtain⟨n,a,b⟩:=Hx fuel (l+1) _ j (Ln hs) (by omega) (fun m hm=>by
    by_cases q:m < s
    ·exact ho m q
    ·have h4:=h3 (m - s) (by omega)
     rw[show m=s+(m - s) by omega,yu hs (m - s) (by omega)]
     simpa [Ov] using h4) e
   exact⟨n,by omega,b⟩
theorem Hy {mask:Nat} {h:Int} {owner:Array (Option Nat)}:∀ (fuel l:Nat),SetTable.layClean.free mask owner fuel (lp mask h l).1 (lp mask h l).2=none->∀ l',l<=l'->l' < l+fuel->Ov owner (lp mask h l').1
 |0,l,_,l',h1,h2=>by omega
 |fuel+1,l,e,l',h1,h2=>by
  have hr:=Dl mask (lp mask h l).1
  unfold SetTable.layClean.free at e
  cases hf:(List.range (SetTable.runEnd mask (lp mask h l).1+1 - (lp mask h l).1)).find? fun k=>(owner.getD ((lp mask h l).1+k) (some 0)).isNone with
  |some k=>rw[hf] at e;cases e
  |none=>
   rw[hf] at e
   have h3:=List.find?_range_eq_none.mp hf
   by_cases q:l'=l
   ·subst q
    have h4:=h3 0 (by omega)
    simpa [Ov] using h4
   ·exact Hy fuel (l+1) e l' (by omega) (by omega)
structure Ow (mask:Nat) (hs:List Int) (owner:Array (Option Nat)):Prop where
 size:owner.size=mask+1
 lt:∀ (j idx:Nat),owner[j]?=some (some idx)->idx < hs.length
 all:∀ (idx:Nat) h,hs[idx]?=some h->∃ j,owner[j]?=some (some idx)/\∃ n,n < 10 * SetTable.turns mask/\(iQ mask h n).j=j/\∀ m,m < n->Ov owner (iQ mask h m).j
 inj:∀ (j j' idx:Nat),owner[j]?=some (some idx)->owner[j']?=some (some idx)->j=j'
theorem VG {mask:Nat} {hs:List Int} {owner:Array (Option Nat)} (o:Ow mask hs owner) {j:Nat} (hj:j<=mask):Ov owner j↔∃ idx,owner[j]?=some (some idx):=by
 unfold Ov
 have hlt:j < owner.size:=by rw[o.size];omega
 rw[gD,Array.getElem?_eq_getElem hlt]
 cases owner[j] with
 |none=>simp
 |some i=>simp
theorem Sh {f:Nat->Nat}:∀ {xs:List Nat},xs.Nodup->(∀ x∈xs,∀ y∈xs,f x=f y->x=y)->(xs.map f).Nodup:=fun {xs} hn hi=>
 List.pairwise_map.mpr (List.Pairwise.imp_of_mem (fun ha hb hne e=>hne (hi _ ha _ hb e)) hn)
theorem Y6 {mask:Nat} {hs:List Int} {owner:Array (Option Nat)} (o:Ow mask hs owner) (hl:hs.length<=mask):∃ r,r < mask+1/\¬ Ov owner r:=by
 by_cases q:∃ r,r < mask+1/\¬ Ov owner r
 ·exact q
 ·exfalso
  have all:∀ r,r < mask+1->∃ idx,owner[r]?=some (some idx):=fun r hr=>by
   by_cases q':Ov owner r
   ·exact (VG o (by omega)).mp q'
   ·exact absurd ⟨r,hr,q'⟩ q
  have f:∀ r,r < mask+1->owner[r]?=some (some ((owner[r]?.getD none).getD 0)):=fun r hr=>by
   obtain⟨idx,e⟩:=all r hr
   rw[e];rfl
  have:=Oq ((List.range (mask+1)).map fun r=>(owner[r]?.getD none).getD 0) (List.range hs.length) (Sh List.nodup_range fun x hx y hy e=>by
   rw[List.mem_range] at hx hy
   have e1:=f x hx
   have e2:=f y hy
   rw[e] at e1
   exact o.inj x y _ e1 e2) fun x hx=>by
    obtain⟨r,hr,rfl⟩:=List.mem_map.mp hx
    rw[List.mem_range] at hr
    exact List.mem_range.mpr (o.lt r _ (f r hr))
  rw[List.length_map,List.length_range,List.length_range] at this
  omega
theorem Y7 {mask:Nat} (hm:mask=7\/mask=31\/mask=127) {hs:List Int} {owner:Array (Option Nat)} (o:Ow mask hs owner) (hl:hs.length<=mask) (h:Int) :
  ∃ j,SetTable.layClean.free mask owner (SetTable.turns mask) (SetTable.bits h % (mask+1)) (SetTable.bits h)=some j/\Ow mask (hs++[h]) (owner.setIfInBounds j (some hs.length)):=by
 obtain⟨r,hr,hn⟩:=Y6 o hl
 cases hf:SetTable.layClean.free mask owner (SetTable.turns mask) (SetTable.bits h % (mask+1)) (SetTable.bits h) with
 |none=>
  obtain⟨l,hl',e⟩:=Vz hm h hr
  have:=Hy (h:=h) (owner:=owner) (SetTable.turns mask) 0 hf l (Nat.zero_le _) (by unfold SetTable.turns;omega)
  rw[e] at this
  exact absurd this hn
 |some j=>
  obtain⟨n,h1,h2,h3,h4⟩:=Hx (h:=h) (owner:=owner) (SetTable.turns mask) 0 0 j rfl (Nat.le_refl _) (fun m hm=>absurd hm (Nat.not_lt_zero _)) hf
  rw[Nat.zero_add] at h1
  have hj:j<=mask:=by rw[<-h2];exact Ou h n
  have hjs:j < owner.size:=by rw[o.size];omega
  have get:∀ k:Nat,(owner.setIfInBounds j (some hs.length))[k]?=if k=j then some (some hs.length) else owner[k]?:=fun k=>by
   rw[Array.getElem?_setIfInBounds]
   by_cases q:k=j
   ·rw[if_pos q,if_pos q.symm,if_pos hjs]
   ·rw[if_neg q,if_neg (fun e=>q e.symm)]
  have old:∀ k idx:Nat,owner[k]?=some (some idx)->k≠j:=fun k idx e q=>by
   subst q
   rw[gD,e] at h3
   cases h3
  have up:∀ k,Ov owner k->Ov (owner.setIfInBounds j (some hs.length)) k:=fun k q=>by
   unfold Ov at q ⊢
   rw[gD] at q ⊢
   rw[get]
   by_cases e:k=j
   ·rw[if_pos e];rfl
   ·rw[if_neg e];exact q
  refine⟨j,rfl,⟨by rw[Array.size_setIfInBounds];exact o.size,fun k idx e=>?_,fun idx g e=>?_,fun a b idx e1 e2=>?_⟩⟩
  ·rw[get] at e
   rw[List.length_append]
   by_cases q:k=j
   ·rw[if_pos q] at e;cases e;simp
   ·rw[if_neg q] at e;have:=o.lt k idx e;simp;omega
  ·by_cases q:idx < hs.length
   ·rw[List.getElem?_append_left q] at e
    obtain⟨k,e1,n',a,b,c⟩:=o.all idx g e
    exact⟨k,by rw[get,if_neg (old k idx e1)];exact e1,n',a,b,fun m hm=>up _ (c m hm)⟩
   ·rw[List.getElem?_append_right (by omega)] at e
    have:idx - hs.length=0:=by
     by_cases q':idx - hs.length=0
     ·exact q'
     ·rw[List.getElem?_eq_none (by simp;omega)] at e;cases e
    rw[this] at e
    cases e
    have:idx=hs.length:=by omega
    subst this
    exact⟨j,by rw[get,if_pos rfl],n,h1,h2,fun m hm=>up _ (h4 m hm)⟩
  ·rw[get] at e1 e2
   by_cases q1:a=j
   ·by_cases q2:b=j
    ·rw[q1,q2]
    ·rw[if_pos q1] at e1;rw[if_neg q2] at e2
     cases e1
     have:=o.lt b _ e2;omega
   ·by_cases q2:b=j
    ·rw[if_neg q1] at e1;rw[if_pos q2] at e2
     cases e2
     have:=o.lt a _ e1;omega
    ·rw[if_neg q1] at e1;rw[if_neg q2] at e2
     exact o.inj a b idx e1 e2
theorem aco (mask:Nat):Ow mask [] (Array.replicate (mask+1) none):=by
 have no:∀ (j idx:Nat),(Array.replicate (mask+1) (none:Option Nat))[j]?≠some (some idx):=fun j idx e=>by
  rw[Array.getElem?_replicate] at e
  split at e<;>cases e
 exact⟨Array.size_replicate,fun j idx e=>absurd e (no j idx),fun idx h e=>by simp at e,fun j j' idx e=>absurd e (no j idx)⟩
theorem acp {mask:Nat} (hm:mask=7\/mask=31\/mask=127) (hs:List Int) (hl:hs.length<=mask):∃ owner,SetTable.layClean mask hs.toArray=some owner/\Ow mask hs owner:=by
 have key:∀ (ys xs:List Int) (owner:Array (Option Nat)),Ow mask xs owner->xs.length+ys.length<=mask->∃ VH,ys.foldl (fun (acc:Option (Array (Option Nat)×Nat)) h=>do
   let (owner,k) <-acc
   let j <-SetTable.layClean.free mask owner (SetTable.turns mask) (SetTable.bits h % (mask+1)) (SetTable.bits h)
   pure (owner.setIfInBounds j (some k),k+1)) (some (owner,xs.length))=some (VH,xs.length+ys.length)/\Ow mask (xs++ys) VH:=by
  intro ys
  induction ys with
  |nil=>intro xs owner o _;exact⟨owner,rfl,by rw[List.append_nil];exact o⟩
  |cons y ys ih=>
   intro xs owner o hl
   rw[List.length_cons] at hl
   obtain⟨j,e,o'⟩:=Y7 hm o (by omega) y
   obtain⟨ow,e2,o2⟩:=ih (xs++[y]) _ o' (by simp;omega)
   refine⟨ow,?_,by rw[List.append_assoc] at o2;exact o2⟩
   rw[List.foldl_cons]
   simp only[Option.bind_eq_bind,Option.bind_some,e,pure]
   rw[show (xs++[y]).length=xs.length+1 by simp] at e2
   rw[List.length_cons,show xs.length+(ys.length+1)=xs.length+1+ys.length by omega]
   exact e2
 obtain⟨ow,e,o⟩:=key hs [] _ (aco mask) (by simpa using hl)
 refine⟨ow,?_,by simpa using o⟩
 unfold SetTable.layClean
 rw[List.foldl_toArray]
 exact congrArg (Option.map (·.1)) e
theorem Jd {α β:Type} {f:α->Option β} {g:α->β}:∀ {xs:List α},(∀ x∈xs,f x=some (g x))->xs.filterMap f=xs.map g
 |[],_=>rfl
 |x::xs,h=>by
  rw[List.filterMap_cons,h x (List.mem_cons_self ..),List.map_cons,Jd fun y hy=>h y (List.mem_cons_of_mem _ hy)]
theorem Y8 {xs:List Nat} (h:xs.Pairwise (· < ·)):Oo xs.toArray:=by
 intro i j hij hj
 have hj':j < xs.length:=by simpa using hj
 rw[gD,gD,List.getElem?_toArray,List.getElem?_toArray,List.getElem?_eq_getElem hj',List.getElem?_eq_getElem (by omega)]
 exact List.pairwise_iff_getElem.mp h i j (by omega) hj' hij
theorem Sq {t:SetTable} {es:Array (Int×Value)} {wanted:Nat} (hm:SetTable.sizeAbove wanted - 1=7\/SetTable.sizeAbove wanted - 1=31\/SetTable.sizeAbove wanted - 1=127) (hl:es.size<=SetTable.sizeAbove wanted - 1) :
  ∃ t' order,t.relaid (es.map (·.1)) wanted=some (t',order)/\(order.filterMap (es[·]?)).toList.Perm es.toList/\Tok t' (order.filterMap (es[·]?))/\t'.led=t.led/\t'.plain=t.plain/\t'.mask=SetTable.sizeAbove wanted - 1:=by
 generalize hM:SetTable.sizeAbove wanted - 1=mask at hm hl ⊢
 have hs:(es.toList.map (·.1)).length=es.size:=by simp
 obtain⟨ow,e,o⟩:=acp hm (es.toList.map (·.1)) (by omega)
 have ea:es.map (·.1)=(es.toList.map (·.1)).toArray:=by
  apply Array.ext'
  simp
 let L:List (Nat×Nat):=(List.range (mask+1)).filterMap fun j=>(ow.getD j none).map fun k=>(j,k)
 have hL:∀ j k,(j,k)∈L↔ow[j]?=some (some k):=fun j k=>by
  show (j,k)∈List.filterMap _ _↔_
  rw[List.mem_filterMap]
  constructor
  ·rintro⟨a,ha,q⟩
   rw[gD] at q
   cases h1:ow[a]? with
   |none=>rw[h1] at q;cases q
   |some x=>
    rw[h1] at q
    cases x with
    |none=>cases q
    |some y=>cases q;exact h1
  ·intro q
   refine⟨j,List.mem_range.mpr ?_,?_⟩
   ·by_cases h:j < ow.size
    ·rw[<-o.size];exact h
    ·rw[Array.getElem?_eq_none (by omega)] at q;cases q
   ·rw[gD,q];rfl
 have pL:L.Pairwise fun a b=>a.1 < b.1:=by
  refine List.pairwise_filterMap.mpr (List.pairwise_lt_range.imp fun {a b} hab x hx y hy=>?_)
  cases h1:ow.getD a none with
  |none=>rw[h1] at hx;cases hx
  |some u=>
   cases h2:ow.getD b none with
   |none=>rw[h2] at hy;cases hy
   |some v=>rw[h1] at hx;rw[h2] at hy;cases hx;cases hy;exact hab
 have ndO:(L.map (·.2)).Nodup:=by
  refine List.pairwise_map.mpr (List.Pairwise.imp_of_mem (fun {a b} ha hb hab e=>?_) pL)
  have h1:=(hL a.1 a.2).mp ha
  have h2:=(hL b.1 b.2).mp hb
  rw[e] at h1
  have:=o.inj _ _ _ h1 h2
  omega
 have pO:(L.map (·.2)).Perm (List.range es.size):=BX ndO List.nodup_range fun z=>by
  rw[List.mem_map,List.mem_range]
  constructor
  ·rintro⟨a,ha,rfl⟩
   have:=o.lt _ _ ((hL a.1 a.2).mp ha)
   omega
  ·intro hz
   obtain⟨j,h1,_⟩:=o.all z ((es.toList.map (·.1))[z]'(by omega)) (List.getElem?_eq_getElem (by omega))
   exact⟨(j,z),(hL j z).mpr h1,rfl⟩
 let g:Nat->Int×Value:=fun k=>es.getD k (0,.none)
 have hg:∀ k,k < es.size->es[k]?=some (g k):=fun k hk=>by
  show _=some (es.getD k _)
  rw[gD,Array.getElem?_eq_getElem hk];rfl
 have fO:(L.map (·.2)).filterMap (fun k=>es[k]?)=(L.map (·.2)).map g:=Jd fun k hk=>hg k (List.mem_range.mp (pO.mem_iff.mp hk))
 have eL:((L.map (·.2)).toArray.filterMap (fun k=>es[k]?)).toList=L.map fun p=>g p.2:=by
  rw[Array.toList_filterMap,fO,List.map_map];rfl
 refine⟨{ mask:=mask,place:=(L.map (·.1)).toArray,dummies:=#[],finger:=t.finger,led:=t.led,moves:=t.movedTo mask,plain:=t.plain },(L.map (·.2)).toArray,?_,?_,?_,rfl,rfl,rfl⟩
 ·unfold SetTable.relaid SetTable.laid
  rw[hM,ea,e]
  rfl
 ·rw[Array.toList_filterMap,fO]
  refine (pO.map g).trans ?_
  have:(List.range es.size).map g=es.toList:=by
   apply List.ext_getElem?
   intro i
   rw[List.getElem?_map]
   by_cases h:i < es.size
   ·rw[List.getElem?_range h,Array.getElem?_toList,hg i h];rfl
   ·rw[List.getElem?_eq_none (by simp;omega),List.getElem?_eq_none (by simp;omega)];rfl
  rw[this]
 ·have sz:L.length=es.size:=by
   have:=pO.length_eq
   rw[List.length_map,List.length_range] at this
   exact this
  refine { mask:=hm,Y0:=rfl,rise:=Y8 (List.pairwise_map.mpr pL),bd:=fun j hj=>?_,full:=?_,size:=?_,reach:=fun i j x h1 h2=>?_ }
  ·have hj:j∈L.map (·.1):=by simpa using hj
   obtain⟨a,ha,rfl⟩:=List.mem_map.mp hj
   have q:=(hL a.1 a.2).mp ha
   have:a.1 < ow.size:=by
    by_cases h:a.1 < ow.size
    ·exact h
    ·rw[Array.getElem?_eq_none (by omega)] at q;cases q
   have:=o.size
   show a.1<=mask
   omega
  ·show (L.map (·.1)).toArray.size<=mask
   simp only[List.size_toArray,List.length_map]
   omega
  ·rw[<-Array.length_toList (xs:=Array.filterMap _ _),eL]
   simp
  ·have h1:(L.map (·.1)).toArray[i]?=some j:=h1
   rw[List.getElem?_toArray,List.getElem?_map] at h1
   rw[<-Array.getElem?_toList,eL,List.getElem?_map] at h2
   cases hi:L[i]? with
   |none=>rw[hi] at h1;cases h1
   |some p=>
    rw[hi] at h1 h2
    cases h1;cases h2
    have hp:(p.1,p.2)∈L:=List.mem_of_getElem? hi
    have q:=(hL p.1 p.2).mp hp
    have hk:p.2 < es.size:=List.mem_range.mp (pO.mem_iff.mp (List.mem_map.mpr ⟨p,hp,rfl⟩))
    have hh:(es.toList.map (·.1))[p.2]?=some (g p.2).1:=by
     rw[List.getElem?_map,Array.getElem?_toList,hg _ hk];rfl
    obtain⟨j',q1,n,a,b,c⟩:=o.all _ _ hh
    have:j'=p.1:=o.inj _ _ _ q1 q
    subst this
    refine⟨n,a,b,fun m hm'=>?_⟩
    obtain⟨k,q2⟩:=(VG o (Ou _ _)).mp (c m hm')
    show _∈(L.map (·.1)).toArray
    rw[List.mem_toArray]
    exact List.mem_map.mpr ⟨(_,k),(hL _ _).mpr q2,rfl⟩
end S6
end
section
namespace S6
open PySem PySem.Spec PyProof.Rows P1 L2
section
variable {prog:Program} {w:World} {A:Around} {E:Value->Shared->Prop} {s:Shared} {a:Addr}
abbrev cW (prog:Program) (w:World) (ks:List Key):Int:=tupleKeyHash (bU prog w) ks
def TE (prog:Program) (w:World) (h:Heap) (z:List Key×Addr) (e:Int×Value):Prop:=e=(cW prog w z.1,.ref z.2)/\IsTupleKey (bU prog w) h z.1 z.2
structure Y9 (prog:Program) (w:World) (h:Heap) (zs:List (List Key×Addr)) (es:Array (Int×Value)) (t:SetTable):Prop where
 rel:Paired (TE prog w h) zs es.toList
 nd:(zs.map (·.1)).Nodup
 tok:Tok t es
 load:es.size * 5 < t.mask * 3
 led:w.params.followText "set-order" = false->t.led=true
 non:0 < es.size->t.plain=false
def Tu (prog:Program) (w:World) (h:Heap) (a:Addr) (zs:List (List Key×Addr)):Prop:=∃ o es ep t,h.get? a=some o/\o.ExactSet/\o.data=.set es ep t/\Y9 prog w h zs es t
theorem Qq {h h':Heap} {ks:List Key} {b:Addr} (x:IsTupleKey (bU prog w) h ks b) (k:∀ o,h.get? b=some o->o.cls=.type "tuple" → h'.get? b=some o):IsTupleKey (bU prog w) h' ks b:=
 let ⟨o,its,n,e,c,r⟩:=x;⟨o,its,n,k o e c,c,r⟩
theorem Dm {h h':Heap} {zs:List (List Key×Addr)} {l:List (Int×Value)} (k:∀ b o,h.get? b=some o->o.cls=.type "tuple" → h'.get? b=some o) (r:Paired (TE prog w h) zs l):Paired (TE prog w h') zs l:=by
 induction r with
 |nil=>exact .nil
 |cons q _ ih=>exact .cons ⟨q.1,Qq q.2 fun o e c=>k _ o e c⟩ ih
theorem Tu.keep {h h':Heap} {zs:List (List Key×Addr)} (x:Tu prog w h a zs) (k:∀ b o,h.get? b=some o->h'.get? b=some o):Tu prog w h' a zs:=
 let ⟨o,es,ep,t,e,r,d,q⟩:=x;⟨o,es,ep,t,k a o e,r,d,⟨Dm (fun b o e _=>k b o e) q.rel,q.nd,q.tok,q.load,q.led,q.non⟩⟩
theorem Y9.size {h:Heap} {zs:List (List Key×Addr)} {es:Array (Int×Value)} {t:SetTable} (x:Y9 prog w h zs es t):es.size=zs.length:=by rw[x.rel.length];simp
theorem Tok.fits {t:SetTable} {es:Array (Int×Value)} (h:Tok t es):t.fits es.size=true:=by
 unfold SetTable.fits SetTable.fill
 have h1:=h.full
 have h2:=h.size
 rw[h.Y0]
 simp[h2]
 omega
theorem Tok.odd {t:SetTable} {es:Array (Int×Value)} (h:Tok t es):t.gaveWay=false:=by
 unfold SetTable.gaveWay
 rcases h.mask with e|e|e<;>rw[e]<;>rfl
theorem Hz {d:Nat} {ks:List Key} {b:Addr} {Q:Bool->Shared->Prop} (hk:IsTupleKey (bU prog w) s.heap ks b) (h:Q false s):wpAny (model prog w) A (ofAClassStatement (d+1) (.ref b)) Q E s:=by
 have hT:=hk.typeIs
 obtain⟨o,items,n,ho,_,hd,hi⟩:=hk
 unfold ofAClassStatement
 refine wpAny_bind (wpAny_typeOf hT ?_)
 dsimp only
 refine wpAny_bind (wpAny_pure ?_)
 simp only[Bool.not_true,Bool.false_eq_true,if_false]
 refine wpAny_bind (wpAny_seqItems ho hd ?_)
 dsimp only
 refine wpAny_bind ?_
 rw[<-Array.forIn_toList]
 refine wpAny_forIn_list _ (fun rest r s'=>r.1=none/\s'=s/\∀ v∈rest,carriedByValue v=true) _ ?_ ?_ _ _ ⟨rfl,rfl,hi.byValue⟩
 ·rintro v rest r s' ⟨hr,rfl,hall⟩
  have hv:ofAClassStatement d v=pure false:=by
   have:=hall v List.mem_cons_self
   cases v with
   |ref a=>simp[carriedByValue] at this
   |_=>unfold ofAClassStatement;rfl
  rw[hv]
  refine wpAny_bind (wpAny_pure ?_)
  simp only[Bool.false_eq_true,if_false]
  exact wpAny_pure ⟨rfl,rfl,fun u hu'=>hall u (List.mem_cons_of_mem _ hu')⟩
 ·rintro⟨r1,r2⟩ s' ⟨hr,rfl,_⟩
  simp only at hr
  subst hr
  exact wpAny_pure h
theorem acq {ks:List Key} {b:Addr} {Q:Bool->Shared->Prop} (hk:IsTupleKey (bU prog w) s.heap ks b) (vs:List Value) (hv:∀ v∈vs,∃ c ls,v=.ref c/\IsTupleKey (bU prog w) s.heap ls c) (h:Q false s):wpAny (model prog w) A (searchCouldBeSeen (.ref b) vs) Q E s:=by
 unfold searchCouldBeSeen
 refine wpAny_bind ?_
 refine wpAny_forIn_list _ (fun rest r s'=>r.1=none/\s'=s/\∀ v∈rest,∃ c ls,v=.ref c/\IsTupleKey (bU prog w) s.heap ls c) _ ?_ ?_ _ _ ⟨rfl,rfl,hv⟩
 ·rintro v rest r s' ⟨hr,rfl,hall⟩
  obtain⟨c,ls,rfl,hc⟩:=hall v List.mem_cons_self
  have rest':∀ v∈rest,∃ c ls,v=.ref c/\IsTupleKey (bU prog w) s'.heap ls c:=fun u hu=>hall u (List.mem_cons_of_mem _ hu)
  dsimp only
  split
  ·exact wpAny_pure ⟨rfl,rfl,rest'⟩
  ·refine wpAny_bind (wpAny_eqIsQuiet_tuple hk ?_)
   simp only[Bool.not_true,Bool.false_eq_true,if_false]
   refine wpAny_bind (wpAny_eqIsQuiet_tuple hc ?_)
   simp only[Bool.not_true,Bool.false_eq_true,if_false]
   refine wpAny_bind (Hz hk ?_)
   simp only[Bool.false_eq_true,if_false]
   refine wpAny_bind (Hz hc ?_)
   simp only[Bool.false_eq_true,if_false]
   exact wpAny_pure ⟨rfl,rfl,rest'⟩
 ·rintro⟨r1,r2⟩ s' ⟨hr,rfl,_⟩
  simp only at hr
  subst hr
  exact wpAny_pure h
theorem Jw {h:Heap}:∀ {zs:List (List Key×Addr)} {l:List (Int×Value)},Paired (TE prog w h) zs l->∀ {i:Nat} {e},l[i]?=some e->∃ z,zs[i]?=some z/\TE prog w h z e
 |_,_,.nil,i,e,q=>by simp at q
 |_,_,.cons r _,0,e,q=>by simp at q;subst q;exact⟨_,rfl,r⟩
 |_,_,.cons _ t,i+1,e,q=>by
  rw[List.getElem?_cons_succ] at q
  obtain⟨z,z1,z2⟩:=Jw t q
  exact⟨z,by rw[List.getElem?_cons_succ];exact z1,z2⟩
theorem yx {h:Heap}:∀ {zs:List (List Key×Addr)} {l:List (Int×Value)},Paired (TE prog w h) zs l->∀ {i:Nat} {z},zs[i]?=some z->∃ e,l[i]?=some e/\TE prog w h z e
 |_,_,.nil,i,e,q=>by simp at q
 |_,_,.cons r _,0,e,q=>by simp at q;subst q;exact⟨_,rfl,r⟩
 |_,_,.cons _ t,i+1,e,q=>by
  rw[List.getElem?_cons_succ] at q
  obtain⟨z,z1,z2⟩:=yx t q
  exact⟨z,by rw[List.getElem?_cons_succ];exact z1,z2⟩
theorem least (p:Nat->Prop):∀ (k n:Nat),p (n+k)->∃ d,d<=k/\p (n+d)/\∀ m,n<=m->m < n+d->¬ p m
 |0,n,h=>⟨0,Nat.le_refl _,h,fun m h1 h2=>absurd h2 (by omega)⟩
 |k+1,n,h=>by
  by_cases q:p n
  ·exact⟨0,Nat.zero_le _,q,fun m h1 h2=>absurd h2 (by omega)⟩
  ·obtain⟨d,h1,h2,h3⟩:=least p k (n+1) (by rw[show n+1+k=n+(k+1) by omega];exact h)
   refine⟨d+1,by omega,by rw[show n+(d+1)=n+1+d by omega];exact h2,fun m a b=>?_⟩
   by_cases e:m=n
   ·rw[e];exact q
   ·exact h3 m (by omega) (by omega)
theorem search {o:Obj} {es:Array (Int×Value)} {ep:Nat} {t:SetTable} {zs:List (List Key×Addr)} {ks:List Key} {b:Addr} (hu:A.units < cLine) (ho:s.heap.get? a=some o) (hd:o.data=.set es ep t) (x:Y9 prog w s.heap zs es t) (hk:IsTupleKey (bU prog w) s.heap ks b)
  {N:Nat} (hN:N < 10 * SetTable.turns t.mask) (hf:(iQ t.mask (cW prog w ks) N).j∉t.place) (hp:∀ m,m < N->(iQ t.mask (cW prog w ks) m).j∈t.place) {Q:SetFound->Shared->Prop}
  (h1:ks∈zs.map (·.1)->Q (.there none) s) (h2:ks∉zs.map (·.1)->Q (.free (iQ t.mask (cW prog w ks) N).j false) s) :
  ∀ (k n fuel:Nat) (stand:Option SetTable.Probe),n+k=N->k < fuel->stand.getD (t.probeStart (cW prog w ks))=iQ t.mask (cW prog w ks) n->(∀ m,m < n->∀ i:Nat,t.place[i]?=some (iQ t.mask (cW prog w ks) m).j->∀ z:List Key×Addr,zs[i]?=some z->z.1≠ks) →
   wpAny (model prog w) A (setSearchFrom a (.ref b) (cW prog w ks) true fuel stand) Q E s:=by
 have get:∀ {i:Nat} {e},es[i]?=some e->∃ z,zs[i]?=some z/\TE prog w s.heap z e:=fun {i e} q=>Jw x.rel (by rw[Array.getElem?_toList];exact q)
 have fit:=x.tok.fits
 intro k
 induction k using Nat.strongRecOn with
 |ind k ih=>
  intro n fuel stand hn hfu hst hb
  cases fuel with
  |zero=>omega
  |succ fuel=>
  unfold setSearchFrom
  refine wpAny_bind (wpAny_setState_of ho hd fit ?_)
  dsimp only
  rw[if_neg (by rw[x.tok.odd];decide)]
  refine wpAny_bind (wpAny_pure ?_)
  rw[hst]
  obtain⟨d,d1,d2,d3⟩:=least (fun m=>m=N\/∃ i:Nat,t.place[i]?=some (iQ t.mask (cW prog w ks) m).j/\∃ e:Int×Value,es[i]?=some e/\e.1=cW prog w ks) k n (.inl hn)
  have live:∀ m,m < N->∃ i:Nat,t.place[i]?=some (iQ t.mask (cW prog w ks) m).j/\∃ e,es[i]?=some e:=fun m hm=>by
   obtain⟨i,hi,e⟩:=Array.getElem_of_mem (hp m hm)
   have hi':i < es.size:=by rw[<-x.tok.size];exact hi
   exact⟨i,by rw[Array.getElem?_eq_getElem hi,e],es[i],Array.getElem?_eq_getElem hi'⟩
  have pr:=Lj x.tok.toTb (fun i=>(es[i]?.map (·.1)).getD 0) (cW prog w ks) d (10 * SetTable.turns t.mask) n (by omega) fun m a1 a2=>by
   have q:=d3 m a1 a2
   obtain⟨i,e1,e,e2⟩:=live m (by omega)
   refine⟨i,e1,fun q'=>q (.inr ⟨i,e1,e,e2,?_⟩)⟩
   simpa [e2] using q'
  have prb:t.probe (fun i=>(es[i]?.map (·.1)).getD 0) (cW prog w ks) (iQ t.mask (cW prog w ks) n)=SetTable.probe.go t (fun i=>(es[i]?.map (·.1)).getD 0) (cW prog w ks) (10 * SetTable.turns t.mask) (iQ t.mask (cW prog w ks) n):=rfl
  by_cases hE:n+d=N
  ·have p1:=pr.1 (by rw[hE];exact hf)
   rw[hE] at p1
   show wpAny _ _ (match t.probe (fun i=>(es[i]?.map (·.1)).getD 0) (cW prog w ks) (iQ t.mask (cW prog w ks) n) with|some met=>_|_=>_) _ _ _
   rw[prb,p1]
   dsimp only
   refine wpAny_pure (h2 fun hm=>?_)
   obtain⟨z,hz,ez⟩:=List.mem_map.mp hm
   obtain⟨i,hi,e⟩:=List.getElem_of_mem hz
   obtain⟨ee,e1,e2⟩:=yx x.rel (show zs[i]?=some z by rw[List.getElem?_eq_getElem hi,e])
   rw[Array.getElem?_toList] at e1
   have hi':i < t.place.size:=by rw[x.tok.size,x.size];exact hi
   obtain⟨n0,b1,b2,b3⟩:=x.tok.reach i _ ee (Array.getElem?_eq_getElem hi') e1
   rw[e2.1,ez] at b2 b3
   have lt:n0 < N:=by
    rcases Nat.lt_trichotomy n0 N with q|q|q
    ·exact q
    ·exfalso;rw[<-q] at hf;rw[b2] at hf;exact hf (Array.getElem_mem hi')
    ·exact absurd (b3 N q) hf
   by_cases q:n0 < n
   ·exact hb n0 q i (by rw[b2];exact Array.getElem?_eq_getElem hi') z (by rw[List.getElem?_eq_getElem hi,e]) ez
   ·exact d3 n0 (by omega) (by omega) (.inr ⟨i,by rw[b2];exact Array.getElem?_eq_getElem hi',ee,e1,by rw[e2.1,ez]⟩)
  ·rcases d2 with q|⟨i,i1,e,i2,i3⟩
   ·exact absurd q hE
   ·have p2:=pr.2 i i1 (by simpa [i2] using i3)
    show wpAny _ _ (match t.probe (fun i=>(es[i]?.map (·.1)).getD 0) (cW prog w ks) (iQ t.mask (cW prog w ks) n) with|some met=>_|_=>_) _ _ _
    rw[prb,p2]
    dsimp only
    obtain⟨z,z1,z2⟩:=get i2
    have hv:∀ v∈((es.filter (·.1==cW prog w ks)).toList.map (·.2)),∃ c ls,v=.ref c/\IsTupleKey (bU prog w) s.heap ls c:=fun v hv=>by
     obtain⟨u,hu',rfl⟩:=List.mem_map.mp hv
     rw[Array.toList_filter,List.mem_filter] at hu'
     obtain⟨jj,hj,ej⟩:=List.getElem_of_mem hu'.1
     obtain⟨y,y1,y2⟩:=Jw x.rel (show es.toList[jj]?=some u by rw[List.getElem?_eq_getElem hj,ej])
     exact⟨y.2,y.1,by rw[y2.1],y2.2⟩
    have go:wpAny (model prog w) A (do
      let some (_,y):=es[i]?|unsupported "internal:set-entry"
      let equal <-holding [y] (eqBool y (.ref b))
      let (es',_,t') <-setState a
      if (true&&equal)=true then return SetFound.there none
      let some same:=t'.sameMemory t.moves t.mask|unsupported "set.changed-during-lookup:is-the-new-block-at-the-old-address"
      let still <-match (if same then t'.slot (iQ t.mask (cW prog w ks) (n+d)).j else .empty) with
       |.live i'=>match es'[i']? with
        |some (_,y')=>do pure (if <-isSame y' y then some i' else none)
        |none=>pure none
       |_=>pure none
      match still with
      |none=>rule "set.search.anew"; setSearchFrom a (.ref b) (cW prog w ks) true fuel none
      |some i'=>if equal then return .there (some i') else setSearchFrom a (.ref b) (cW prog w ks) true fuel (some (iQ t.mask (cW prog w ks) (n+d+1)))) Q E s:=by
     rw[i2,z2.1]
     dsimp only
     refine wpAny_bind (wpAny_holding (wpAny_eqBool_tuple hu z2.2 hk ?_))
     refine wpAny_bind (wpAny_setState_of ho hd fit ?_)
     dsimp only
     by_cases hq:z.1=ks
     ·rw[decide_eq_true hq]
      simp only[Bool.and_self,if_true]
      exact wpAny_pure (h1 (List.mem_map.mpr ⟨z,List.mem_of_getElem? z1,hq⟩))
     ·rw[decide_eq_false hq]
      simp only[Bool.and_false,Bool.false_eq_true,if_false]
      have sm:t.sameMemory t.moves t.mask=some true:=by unfold SetTable.sameMemory;simp
      rw[sm]
      dsimp only
      simp only[if_true]
      rw[zL x.tok.toTb i1]
      dsimp only
      rw[i2,z2.1]
      dsimp only
      refine wpAny_bind (wpAny_isSame_ref_self (wpAny_bind (wpAny_pure ?_)))
      simp only[if_true]
      refine ih (N - (n+d+1)) (by omega) (n+d+1) fuel _ (by omega) (by omega) rfl fun m hm i' j1 y y1=>?_
      by_cases c1:m < n
      ·exact hb m c1 i' j1 y y1
      ·by_cases c2:m=n+d
       ·subst c2
        have:i'=i:=by
         have s1:=Dk x.tok.rise j1
         have s2:=Dk x.tok.rise i1
         omega
        subst this
        rw[z1] at y1
        cases y1
        exact hq
       ·have q:=d3 m (by omega) (by omega)
        intro e'
        obtain⟨ee,e1,e2⟩:=yx x.rel y1
        rw[Array.getElem?_toList] at e1
        exact q (.inr ⟨i',j1,ee,e1,by rw[e2.1,e']⟩)
    split
    ·refine wpAny_bind (acq hk _ hv ?_)
     simp only[Bool.false_eq_true,if_false]
     exact go
    ·exact go
end
section
variable {prog:Program} {w:World} {A:Around} {E:Value->Shared->Prop} {s:Shared} {a:Addr}
def Txs (ks:List Key):Prop:=∃ x:Str,(Sum.inr x:Key)∈ks
theorem VJ {ks:List Key} {b:Addr} {Q:Bool->Shared->Prop} (hk:IsTupleKey (bU prog w) s.heap ks b) (hx:Txs ks) (h:Q false s):wpAny (model prog w) A (hashByValue 8 (.ref b)) Q E s:=by
 have hT:=hk.typeIs
 obtain⟨o,items,n,ho,_,hd,hi⟩:=hk
 unfold hashByValue
 refine wpAny_bind (wpAny_specialOf hT F.slot_tuple_hash.lookup ?_)
 dsimp only
 refine wpAny_bind (wpAny_seqItems ho hd ?_)
 show wpAny _ _ (forIn items _ _ >>= _) _ _ s
 refine wpAny_bind ?_
 rw[<-Array.forIn_toList]
 refine wpAny_forIn_list _ (fun rest r s'=>r.1=none/\s'=s/\∃ left,ItemsAre (bU prog w) left rest/\Txs left) _ ?_ ?_ _ _ ⟨rfl,rfl,ks,hi,hx⟩
 ·rintro v rest r s' ⟨hr,rfl,left,hl,x,hx⟩
  cases hl with
  |@cons k _ ks' _ h1 hl'=>
   rcases cJ h1 with⟨i,t,rfl,rfl⟩|⟨y,t,rfl,rfl⟩
   ·have e:hashByValue 7 (.int i t)=pure true:=by unfold hashByValue;rfl
    rw[e]
    refine wpAny_bind (wpAny_pure ?_)
    simp only[Bool.not_true,Bool.false_eq_true,if_false]
    refine wpAny_pure ⟨rfl,rfl,ks',hl',x,?_⟩
    rcases List.mem_cons.mp hx with q|q
    ·cases q
    ·exact q
   ·have e:hashByValue 7 (.str y t)=pure false:=by unfold hashByValue;rfl
    rw[e]
    refine wpAny_bind (wpAny_pure ?_)
    simp only[Bool.not_false,if_true]
    exact wpAny_pure (wpAny_pure h)
 ·rintro⟨r1,r2⟩ s' ⟨hr,rfl,left,hl,x,hx⟩
  cases hl
  cases hx
theorem Ss {t:SetTable} {es:Array (Int×Value)} (h:Tok t es):Tok { t with plain:=false } es:={ mask:=h.mask,Y0:=h.Y0,rise:=h.rise,bd:=h.bd,full:=h.full,size:=h.size,reach:=h.reach }
theorem Za {zs:List (List Key×Addr)} {ks:List Key} {b:Addr} {Q:Bool->Shared->Prop} (hu:A.units < cLine) (hS:Tu prog w s.heap a zs) (hk:IsTupleKey (bU prog w) s.heap ks b) (hx:Txs ks) (hroom:zs.length+1<=70)
  (h:∀ r h' zs',Heap.SameBut a s.heap h'->Tu prog w h' a zs'->(∀ z,z∈zs'↔z∈zs\/(z=(ks,b)/\ks∉zs.map (·.1)))->zs'.length<=zs.length+1->Q r { s with heap:=h' }):wpAny (model prog w) A (setAddHashed a (.ref b) (cW prog w ks)) Q E s:=by
 obtain⟨o,es,ep,t,ho,hex,hd,x⟩:=id hS
 have hsz:=x.size
 have fit:=x.tok.fits
 have hld:=x.load
 have hcl:o.cls≠.type "tuple" := by rw[hex.1];decide
 obtain⟨N,n1,n2,n3⟩:=Ot x.tok.toTb (cW prog w ks)
 have hturn:10 * SetTable.turns t.mask < 100000:=by
  unfold SetTable.turns
  rcases x.tok.mask with e|e|e<;>rw[e]<;>decide
 unfold setAddHashed setAddHashedIn
 refine wpAny_holding (wpAny_bind (wpAny_setState_of ho hd fit ?_))
 dsimp only
 have hb:byScan (.ref b) es=false:=by unfold byScan;rfl
 rw[hb]
 simp only[Bool.false_eq_true,if_false]
 unfold setSearch
 refine wpAny_bind (search hu ho hd x hk n1 n2 n3 (fun hm=>?_) (fun hm=>?_) N 0 100000 none (by omega) (by omega) rfl fun m hm=>absurd hm (Nat.not_lt_zero _))
 ·dsimp only
  exact wpAny_pure (h _ s.heap zs (Heap.SameBut.refl a s.heap) hS (fun z=>⟨.inl,fun q=>q.elim id fun q=>absurd hm q.2⟩) (Nat.le_succ _))
 ·dsimp only
  refine wpAny_bind (wpAny_setState_of ho hd fit ?_)
  dsimp only
  have hj:=Ou (mask:=t.mask) (cW prog w ks) N
  have hm7:es.size+1<=t.mask:=by rcases x.tok.mask with e|e|e<;>rw[e] at hld ⊢<;>omega
  obtain⟨pt,pl,pp,pm⟩:=Y5 (x:=.ref b) x.tok n1 n2 n3 hj hm7
  generalize hP:t.put (iQ t.mask (cW prog w ks) N).j=P at pt pl pp pm ⊢
  obtain⟨t1,p⟩:=P
  dsimp only at pt pl pp pm ⊢
  have hil:(SetTable.insertAt es p (cW prog w ks,.ref b)).toList.Perm (es.toList++[(cW prog w ks,.ref b)]):=by
   rw[yw]
   refine (List.perm_middle).trans ?_
   rw[List.take_append_drop]
   exact (List.perm_append_singleton _ _).symm
  have r0:Paired (TE prog w s.heap) (zs++[(ks,b)]) (es.toList++[(cW prog w ks,.ref b)]):=Ol x.rel (.cons ⟨rfl,hk⟩ .nil)
  obtain⟨zs1,q1,r1⟩:=Af hil r0
  have nd1:(zs1.map (·.1)).Nodup:=(q1.map (·.1)).nodup_iff.mpr (by
   rw[List.map_append]
   exact List.nodup_append.mpr ⟨x.nd,by simp,fun u hu' v hv=>by simp at hv;subst hv;exact fun e=>hm (e▸hu')⟩)
  have m1:∀ z,z∈zs1↔z∈zs\/(z=(ks,b)/\ks∉zs.map (·.1)):=fun z=>by
   rw[q1.mem_iff,List.mem_append,List.mem_singleton]
   exact⟨fun q=>q.imp id fun e=>⟨e,hm⟩,fun q=>q.imp id fun e=>e.1⟩
  have l1:zs1.length=zs.length+1:=by rw[q1.length_eq];simp
  have s1:(SetTable.insertAt es p (cW prog w ks,Value.ref b)).size=es.size+1:=uR _ _ _
  have up:∀ (hp:Heap) (ob:Obj) (e1 e2:Array (Int×Value)) (n1:Nat) (u1 u2:SetTable),hp.get? a=some ob->ob.data=.set e1 n1 u1->(hp.update a (Obj.putSet e2 u2)).get? a=some { ob with data:=.set e2 (n1+1) u2 }:=fun hp ob e1 e2 n1 u1 u2 g q=>by
   have:=Heap.get?_update_self (Obj.putSet e2 u2) g (by rw[putSet_of e2 u2 q];rfl)
   rw[putSet_of e2 u2 q] at this;exact this
  have kp:∀ {h':Heap},Heap.SameBut a s.heap h'->∀ c oc,s.heap.get? c=some oc->oc.cls=.type "tuple" → h'.get? c=some oc:=fun sb c oc e ec=>by
   rw[sb.2 c fun q=>by subst q;rw[ho] at e;cases e;exact hcl ec];exact e
  have fin:∀ t2:SetTable,Tok t2 (SetTable.insertAt es p (cW prog w ks,.ref b))->t2.led=t1.led->t2.plain=false->t2.mask=t1.mask->wpAny (model prog w) A (do
    storeSet a (SetTable.insertAt es p (cW prog w ks,.ref b)) t2
    if (!false&&t2.tooFull)=true then setRelay a (SetTable.grown (es.size+1))
    pure true) Q E s:=by
   intro t2 k2 l2 p2 m2
   have g1:=up s.heap o es (SetTable.insertAt es p (cW prog w ks,.ref b)) ep t t2 ho hd
   refine wpAny_bind (wpAny_storeSet_of ho hd ?_ (fits_of_scanBound (by rw[s1];have:scanBound=4096:=rfl;omega)))
   have sb1:Heap.SameBut a s.heap (s.heap.update a (Obj.putSet (SetTable.insertAt es p (cW prog w ks,.ref b)) t2)):=Heap.SameBut.update ..
   have hfill:t2.fill=es.size+1:=by unfold SetTable.fill;rw[k2.Y0,k2.size,s1];rfl
   have aez:w.params.followText "set-order" = false->t2.led=true:=fun q=>l2.trans (pl.trans (x.led q))
   by_cases yC:t2.tooFull=true
   ·rw[yC]
    simp only[Bool.not_false,Bool.and_self,if_true]
    have hf:t2.fill * 5>=t2.mask * 3:=by unfold SetTable.tooFull at yC;simpa using yC
    rw[hfill,m2,pm] at hf
    have hg:SetTable.grown (es.size+1)=(es.size+1) * 4:=by unfold SetTable.grown;rw[if_neg (by omega)]
    have cas:(es.size=4/\t.mask=7)\/(es.size=18/\t.mask=31):=by
     rcases x.tok.mask with e|e|e<;>rw[e] at hf hld
     ·exact .inl ⟨by omega,e⟩
     ·exact .inr ⟨by omega,e⟩
     ·omega
    have hsa:(es.size=4->SetTable.sizeAbove (SetTable.grown (es.size+1))=32)/\(es.size=18->SetTable.sizeAbove (SetTable.grown (es.size+1))=128):=by
     rw[hg]
     exact⟨fun e=>by rw[e];decide,fun e=>by rw[e];decide⟩
    have hms:SetTable.sizeAbove (SetTable.grown (es.size+1)) - 1=31/\es.size=4\/SetTable.sizeAbove (SetTable.grown (es.size+1)) - 1=127/\es.size=18:=by
     rcases cas with⟨e,_⟩|⟨e,_⟩
     ·exact .inl ⟨by rw[hsa.1 e],e⟩
     ·exact .inr ⟨by rw[hsa.2 e],e⟩
    obtain⟨t3,order,e3,pr3,k3,l3,p3,m3⟩:=Sq (t:=t2) (es:=SetTable.insertAt es p (cW prog w ks,.ref b)) (wanted:=SetTable.grown (es.size+1)) (by rcases hms with⟨e,_⟩|⟨e,_⟩<;>rw[e]<;>simp) (by rw[s1];rcases hms with⟨e,e'⟩|⟨e,e'⟩<;>rw[e,e']<;>decide)
    unfold setRelay
    refine wpAny_bind (wpAny_bind (wpAny_setState_of g1 rfl k2.fits ?_))
    dsimp only
    have hsl:¬ (SetTable.sizeAbove (SetTable.grown (es.size+1)) > sizeLine):=by
     rcases cas with⟨e,_⟩|⟨e,_⟩
     ·rw[hsa.1 e];decide
     ·rw[hsa.2 e];decide
    rw[if_neg hsl]
    have sz3:(order.filterMap (fun i=>(SetTable.insertAt es p (cW prog w ks,Value.ref b))[i]?)).size=(SetTable.insertAt es p (cW prog w ks,Value.ref b)).size:=by
     rw[<-Array.length_toList,pr3.length_eq,Array.length_toList]
    rw[e3]
    refine wpAny_bind ?_
    show wpAny _ _ (if ((order.filterMap (fun i=>(SetTable.insertAt es p (cW prog w ks,Value.ref b))[i]?)).size != (SetTable.insertAt es p (cW prog w ks,Value.ref b)).size)=true then _ else pure (order.filterMap (fun i=>(SetTable.insertAt es p (cW prog w ks,Value.ref b))[i]?),t3)) _ _ _
    rw[if_neg (by rw[sz3];simp)]
    refine wpAny_pure ?_
    dsimp only
    refine wpAny_storeSet_of g1 rfl ?_ (fits_of_scanBound (by rw[sz3,s1];have:scanBound=4096:=rfl;omega))
    have g2:=up _ _ (SetTable.insertAt es p (cW prog w ks,.ref b)) (order.filterMap (fun i=>(SetTable.insertAt es p (cW prog w ks,Value.ref b))[i]?)) _ t2 t3 g1 rfl
    have sb2:Heap.SameBut a s.heap ((s.heap.update a (Obj.putSet (SetTable.insertAt es p (cW prog w ks,.ref b)) t2)).update a (Obj.putSet (order.filterMap (fun i=>(SetTable.insertAt es p (cW prog w ks,Value.ref b))[i]?)) t3)):=sb1.trans (Heap.SameBut.update ..)
    obtain⟨zs2,q2,r2⟩:=Af pr3 r1
    refine wpAny_pure (h _ _ zs2 sb2 ⟨_,_,_,t3,g2,hex,rfl,⟨Dm (kp sb2) r2,(q2.map (·.1)).nodup_iff.mpr nd1,k3,?_,fun q=>l3.trans (aez q),fun _=>p3.trans p2⟩⟩ (fun z=>by rw[q2.mem_iff];exact m1 z) (by rw[q2.length_eq];omega))
    rw[sz3,s1,m3]
    rcases hms with⟨e,e'⟩|⟨e,e'⟩<;>rw[e,e']<;>decide
   ·have yC:t2.tooFull=false:=by simpa using yC
    rw[yC]
    simp only[Bool.and_false,Bool.false_eq_true,if_false]
    refine wpAny_bind (wpAny_pure ?_)
    refine wpAny_pure (h _ _ zs1 sb1 ⟨_,_,_,t2,g1,hex,rfl,⟨Dm (kp sb1) r1,nd1,k2,?_,aez,fun _=>p2⟩⟩ m1 (by omega))
    unfold SetTable.tooFull at yC
    rw[hfill] at yC
    rw[s1]
    simpa using yC
  split
  ·refine wpAny_bind (VJ hk hx ?_)
   simp only[Bool.false_eq_true,if_false]
   exact fin { t1 with plain:=false } (Ss pt) rfl rfl rfl
  ·rename_i hp
   refine wpAny_bind (wpAny_pure ?_)
   simp only[if_true]
   exact fin t1 pt rfl (by simpa using hp) rfl
end
end S6
end
section
namespace S1
open PySem PySem.Spec PyProof.Rows L2
section
variable {prog:Program} {w:World} {A:Around} {E:Value->Shared->Prop} {s:Shared}
theorem Ox {x:Value} (G:List Value->Prop) (kd:SortKind) (rk:List Value->Value->Nat) {Q:Value->Shared->Prop} (acf:∀ (E':Value->Shared->Prop) (Q':List Value->Shared->Prop),(∀ vs h' d tk,G vs->s.heap.objs.size<=h'.objs.size->(∀ c o,s.heap.get? c=some o->h'.get? c=some o)->Q' vs { s with heap:=h',drawn:=d,toks:=tk })->wpAny (model prog w) A.in1 (collect x) Q' E' s)
  (hK:∀ vs,G vs->2<=vs.length->∀ (E':Value->Shared->Prop) (A':Around) (s':Shared),(∀ c o,s.heap.get? c=some o->s'.heap.get? c=some o)->∀ Q:SortKind->Shared->Prop,Q kd s'->wpAny (model prog w) A' (keyKind' vs.toArray) Q E' s') (hC:∀ vs,G vs->∀ (A':Around) (s':Shared),(∀ c o,s.heap.get? c=some o->s'.heap.get? c=some o)->Tg prog w A' s' kd (rk vs) (pairsOf vs)) (h64:∀ vs,G vs->vs.length < 64)
  (h:∀ vs,G vs->∀ (l:Addr) (h':Heap) (d:Drawn) (tk n:Nat) (st:SortSt),(arrOf st).Perm (pairsOf vs)->Up (rk vs) (arrOf st) (pairsOf vs).size->s.heap.objs.size<=l->(∀ c o,s.heap.get? c=some o->h'.get? c=some o)->h'.get? l=some (seqObj "list" ((arrOf st).map (·.2)) n)->Q (.ref l) { s with heap:=h',drawn:=d,toks:=tk }) :
  wpAny (model prog w) A (call (.builtin "sorted") [x]) Q E s:=by
 refine Calls.call_function_entry kind_sorted plain_sorted entry_sorted (args_sorted1 _) ?_;unfold Builtin.«sorted»
 refine wpAny_bind (m:=checkCount "sorted" 1 1 _) (wpAny_pure (wpAny_bind (acf _ _ fun vs h1 d tk hG hle ext=>?_)))
 have aiy:=h64 vs hG
 refine wpAny_bind (wpAny_newList ?_)
 have hoL:(h1.push (seqObj "list" vs.toArray 0)).get? h1.objs.size=some (seqObj "list" vs.toArray 0):=Heap.get?_push_size _ rfl
 have old:∀ s':Shared,Old h1.objs.size { s with heap:=h1.push (seqObj "list" vs.toArray 0),drawn:=d,toks:=tk } s'->∀ c o,s.heap.get? c=some o->s'.heap.get? c=some o:=fun s' q c o e=>
  q c o (Nat.ne_of_lt (Heap.lt_size (ext c o e))) (Heap.get?_push_of_some _ (ext c o e))
 refine wpAny_bind (wpAny_holding (wpAny_call_entry slot_list_sort ⟨_,hoL,rfl⟩ entry_list_sort (aaf hoL (fun q s' o=>hK vs hG q _ _ s' (old s' o)) (fun s' o=>hC vs hG _ s' (old s' o)) (h64 vs hG) fun st q1 q2=>⟨_,rfl,wpAny_pure ⟨_,rfl,?_⟩⟩) (args_list_sort _)))
 obtain⟨n,en⟩:=sortedHeap_at (out:=(arrOf st).map (·.2)) hoL
 refine h vs hG h1.objs.size _ d tk n st q1 q2 hle (fun c o e=>?_) en
 have hb:=Heap.lt_size (ext c o e)
 rw[sortedHeap_old (Nat.ne_of_lt hb) (by rw[Heap.size_push];exact Nat.lt_succ_of_lt hb)]
 exact Heap.get?_push_of_some _ (ext c o e)
end
end S1
end
section
namespace P1
open PySem PySem.Spec PyProof.Rows L2 S6
section
variable {X:Cx}
theorem Sv {pins:List (Addr×Obj)} {σ:L2.St} {H:Hp} {s:Shared} {d:Drawn} (I:Inv X pins σ H s):Inv X pins σ H { s with drawn:=d }:=⟨I.ok,I.os,I.bare,I.base,I.loc,I.cell,I.free,I.oV,I.pin,I.hok,I.len⟩
variable {x:Str} {e:Expr} {f:Ev->Option Bx} {fs:Ev->Option (List Str)} {p pos:Pos}
end
section
variable {X:Cx}
end
section
variable {X:Cx} {elt tgt iter:Expr} {ifs:List Expr} {scope:Scope} {cl:List (Str×Addr)} {pos:Pos} {xs ts:List Str} {is:List Nat} {gt:Dt->Ev->Option Ev} {p:Ev->Option Bool} {fe:Ev->Option Bx} {fi:Ev->Option (List Dt)}
end
section
variable {X:Cx} {elt tgt iter:Expr} {ifs:List Expr} {scope:Scope} {cl:List (Str×Addr)} {pos:Pos} {xs:List Str} {is:List Nat} {gt:Dt->Ev->Option Ev} {p:Ev->Option Bool} {fe:Ev->Option Bx} {fi:Ev->Option (List Dt)}
variable {e:Expr} {f:Ev->Option Bx} {fs:Ev->Option (List Str)} {p':Pos}
end
end P1
end
section
namespace P1
open PySem PySem.Spec PyProof.Rows L2 S1 S6
section
variable {X:Cx}
def Ts (prog:Program) (w:World) (h:Heap) (a:Addr) (zs:List (List Key×Addr)):Prop:=∃ o es ep t,h.get? a=some o/\o.ExactSet/\o.data=.set es ep t/\es.toList=zs.map (fun z=>(cW prog w z.1,(.ref z.2:Value)))/\t.fits es.size=true/\(w.params.followText "set-order" = false->t.led=true)/\(0 < es.size->t.plain=false)
theorem Lr {prog:Program} {w:World} {h:Heap}:∀ {zs:List (List Key×Addr)} {l:List (Int×Value)},Paired (TE prog w h) zs l->l=zs.map (fun z=>(cW prog w z.1,(.ref z.2:Value)))
 |_,_,.nil=>rfl
 |_,_,.cons r t=>by rw[List.map_cons,<-Lr t,r.1]
theorem Ts.of {prog:Program} {w:World} {h:Heap} {a:Addr} {zs:List (List Key×Addr)} (x:Tu prog w h a zs):Ts prog w h a zs:=
 let ⟨o,es,ep,t,e,r,d,q⟩:=x;⟨o,es,ep,t,e,r,d,Lr q.rel,q.tok.fits,q.led,q.non⟩
theorem Ts.keep {prog:Program} {w:World} {h h':Heap} {a:Addr} {zs:List (List Key×Addr)} (x:Ts prog w h a zs) (k:∀ o,h.get? a=some o->h'.get? a=some o):Ts prog w h' a zs:=
 let ⟨o,es,ep,t,e,r⟩:=x;⟨o,es,ep,t,k o e,r⟩
def hoU (X:Cx) (a:Addr) (zs:List (List Key×Addr)):HO:=.ext fun h=>Ts X.prog X.w h a zs
theorem VL (X:Cx) {ks:List Key} {us:List Value} (h:Ks ks us):ItemsAre (bU X.prog X.w) ks us:=by
 induction h with
 |nil=>exact .nil
 |cons r _ ih=>exact .cons r ih
theorem VN (X:Cx) {ks:List Key} {us:List Value} (h:ItemsAre (bU X.prog X.w) ks us):Ks ks us:=by
 induction h with
 |nil=>exact .nil
 |cons r _ ih=>exact .cons r ih
theorem Ls (X:Cx) {h:Heap} {ks:List Key} {v:Value} (q:jY h ks v):∃ b,v=.ref b/\IsTupleKey (bU X.prog X.w) h ks b:=by
 obtain⟨a,o,its,n,e,g,c,d,p⟩:=q
 exact⟨a,e,o,its.toArray,n,g,c,d,by simpa using VL X p⟩
theorem VP (X:Cx) {h:Heap} {ks:List Key} {b:Addr} (q:IsTupleKey (bU X.prog X.w) h ks b):jY h ks (.ref b):=by
 obtain⟨o,its,n,g,c,d,p⟩:=q
 exact⟨b,o,its.toList,n,rfl,g,c,by simpa using d,VN X p⟩
def aeB (X:Cx):List V->Hp->VK->Prop:=fun xs H Q=>∃ v b ds dB,xs=[v]/\bN X.K H b v/\wY b=some ds/\rG ds=some dB/\dB.length<=64/\(∀ k∈dB,Txs k) ∧
 ∀ a zs H',Same H H'->H' a=some (hoU X a zs)->(∀ k,k∈zs.map (·.1)↔k∈dB)->(zs.map (·.1)).Nodup->(∀ z∈zs,Rep X.K H' (tupK z.1) (.ref z.2))->Q (.ref a) H'
def CU (X:Cx) (S:Addr) (its:List Value) (h:Heap) (ys:List (List Key)):Prop:=∃ zs,zs.map (·.1)=ys/\Tu X.prog X.w h S zs/\∀ z∈zs,(.ref z.2:Value)∈its
theorem yD {h:Heap}:∀ {dB:List (List Key)} {vs:List Value},Paired (jY h) dB vs->∀ {i:Nat} {v:Value},vs[i]?=some v->∃ k,dB[i]?=some k/\jY h k v
 |_,_,.nil,i,v,q=>by simp at q
 |_,_,.cons r _,0,v,q=>by simp at q;subst q;exact⟨_,rfl,r⟩
 |_,_,.cons _ t,i+1,v,q=>by
  rw[List.getElem?_cons_succ] at q
  obtain⟨z,z1,z2⟩:=yD t q
  exact⟨z,by rw[List.getElem?_cons_succ];exact z1,z2⟩
theorem Lw {h0:Heap} {S:Addr} {dB:List (List Key)} {its:List Value} (hs:Paired (jY h0) dB its) (hl:dB.length<=64) (hx:∀ k∈dB,Txs k) (hS:h0.objs.size=S):Adds X.prog X.w S [S+1] (fun h zs=>(∀ b o,h0.get? b=some o->h.get? b=some o)/\CU X S its h zs) (fun i v=>its.toArray[i]?=some v) (fun i=>dB.getD i []) its.length where
 keep:=fun h h' ys t k=>by
  obtain⟨t0,zs,e,t,m⟩:=t
  have k':∀ b o,(b=S\/b < S)->h.get? b=some o->h'.get? b=some o:=fun b o hb e=>k b o (by
   simp only[List.mem_cons,List.not_mem_nil,or_false]
   rcases hb with rfl|hb
   ·exact Nat.ne_of_lt (Nat.lt_succ_self _)
   ·exact Nat.ne_of_lt (Nat.lt_succ_of_lt hb)) e
  have old:∀ b o,h0.get? b=some o->h'.get? b=some o:=fun b o e=>k' b o (.inr (by rw[<-hS];exact Heap.lt_size e)) (t0 b o e)
  refine⟨old,zs,e,?_,m⟩
  obtain⟨o,es,ep,tt,g,r,d,q⟩:=t
  refine⟨o,es,ep,tt,k' S o (.inl rfl) g,r,d,⟨?_,q.nd,q.tok,q.load,q.led,q.non⟩⟩
  have key:∀ {zs:List (List Key×Addr)} {l:List (Int×Value)},Paired (TE X.prog X.w h) zs l->(∀ z∈zs,(.ref z.2:Value)∈its)->Paired (TE X.prog X.w h') zs l:=by
   intro zs l r
   induction r with
   |nil=>intro _;exact .nil
   |cons q _ ih=>
    intro m
    refine .cons ⟨q.1,Qq q.2 fun o e c=>?_⟩ (ih fun z hz=>m z (List.mem_cons_of_mem _ hz))
    obtain⟨i,hi,ei⟩:=List.getElem_of_mem (m _ (List.mem_cons_self ..))
    obtain⟨kk,_,tv⟩:=yD hs (show its[i]?=some _ by rw[List.getElem?_eq_getElem hi,ei])
    obtain⟨b,eb,⟨ob,_,_,gb,_⟩⟩:=Ls X tv
    cases eb
    exact k' _ o (.inr (by rw[<-hS];exact Heap.lt_size gb)) e
  exact key q.rel m
 add:=fun A E s i v ys Q hu hi hP hC hz h=>by
  obtain⟨t0,zs,e,t,m⟩:=hC
  have hP:its[i]?=some v:=by simpa using hP
  obtain⟨ks,e1,tv⟩:=yD hs hP
  have tv':=tv.keep t0
  obtain⟨b,rfl,hk⟩:=Ls X tv'
  have hv:dB.getD i []=ks:=by simp[List.getD,e1]
  have hlen:its.length=dB.length:=hs.length.symm
  have hyl:zs.length=ys.length:=by rw[<-e,List.length_map]
  unfold setAdd
  refine wpAny_holding (wpAny_bind (wpAny_pyHash_tuple hu hk ?_))
  refine Za (s:={ s with toks:=s.toks+(ks.length+1) }) hu t hk (hx ks (List.mem_of_getElem? e1)) (by omega) fun r h' zs' sb t' mm l=>?_
  refine h r h' _ (zs'.map (·.1)) sb ⟨fun c o g=>?_,zs',rfl,t',fun z hz=>?_⟩ (fun z=>?_) (by rw[List.length_map];omega) (Nat.le_add_right _ _)
  ·rw[sb.2 c fun q=>by subst q;have:=Heap.lt_size g;rw[hS] at this;exact Nat.lt_irrefl _ this];exact t0 c o g
  ·rcases (mm z).mp hz with q|⟨q,_⟩
   ·exact m z q
   ·subst q;exact List.mem_of_getElem? hP
  ·rw[hv,<-e,List.mem_map,List.mem_map]
   constructor
   ·rintro⟨y,hy,rfl⟩
    rcases (mm y).mp hy with q|⟨q,_⟩
    ·exact .inl ⟨y,q,rfl⟩
    ·exact .inr (congrArg Prod.fst q)
   ·rintro (⟨y,hy,ey⟩|ez)
    ·exact⟨y,(mm y).mpr (.inl hy),ey⟩
    ·rw[ez]
     by_cases q:ks∈zs.map (·.1)
     ·obtain⟨y,hy,ey⟩:=List.mem_map.mp q
      exact⟨y,(mm y).mpr (.inl hy),ey⟩
     ·exact⟨(ks,b),(mm _).mpr (.inr ⟨rfl,q⟩),rfl⟩
theorem Zb (hc:X.calm=true) (hu:X.A.units+100 < cLine):jq X (.type "set") (aeB X):=by
 intro pins s σ H xs us Q I r h
 obtain⟨v,b,ds,dB,rfl,rb,ed,ek,hl,hx,q⟩:=h
 obtain⟨u,rfl,ru⟩:=vals1 r
 obtain⟨p,vs,rfl,sq,rs⟩:=BR rb ed
 have eds:=zH ek
 subst eds
 cases ru
 have hh:=I.ok.hd hc
 have fin:∀ (h':Heap) (tk:Nat) (ys:List (List Key)) (its:List Value),Vals vs its->((∀ b o,s.heap.get? b=some o->h'.get? b=some o)/\CU X s.heap.objs.size its h' ys)->(∀ z,z∈ys↔∃ j,j < its.length/\z=dB.getD j [])->(∀ b ob,s.heap.get? b=some ob->h'.get? b=some ob)->EP X pins σ Q (.ref s.heap.objs.size) { s with heap:=h',toks:=tk }:=by
  intro h' tk ys its rv cu hm k
  obtain⟨_,zs,e,t,m⟩:=cu
  have hfr:=I.hok.fresh (Nat.le_refl s.heap.objs.size)
  have hlen:its.length=dB.length:=by rw[<-rv.length,rs.length,List.length_map]
  have tv:=pN I rs rv
  refine⟨.ref s.heap.objs.size,_,I.laid (t':=tk) (a:=s.heap.objs.size) (o:=hoU X s.heap.objs.size zs) k (Nat.le_refl _) ?_,rfl,q _ zs _ (cV hfr) cG (fun z=>?_) ?_ fun z hz=>?_⟩
  ·obtain⟨o,es,ep,t',ho,_⟩:=id t
   exact⟨Ts.of t,⟨o,ho⟩,fun h1 h2 t1 k1=>Ts.keep t1 k1⟩
  ·rw[e,hm z]
   constructor
   ·rintro⟨j,hj,rfl⟩
    rw[hlen] at hj
    simp[List.getD,hj]
   ·intro hz
    obtain⟨j,hj,e⟩:=List.getElem_of_mem hz
    exact⟨j,by rw[hlen];exact hj,by simp[List.getD,hj,e]⟩
  ·obtain⟨o,es,ep,t',ho,_,_,x⟩:=t
   exact x.nd
  ·obtain⟨o,es,ep,t',ho,_,_,x⟩:=t
   obtain⟨i,hi,ei⟩:=List.getElem_of_mem hz
   obtain⟨ee,_,te⟩:=yx x.rel (show zs[i]?=some z by rw[List.getElem?_eq_getElem hi,ei])
   have tz:=VP X te.2
   have hz':=m z hz
   obtain⟨j,hj,ej⟩:=List.getElem_of_mem hz'
   obtain⟨kk,_,tv1⟩:=yD tv (show its[j]?=some (.ref z.2) by rw[List.getElem?_eq_getElem hj,ej])
   have ek:kk=z.1:=(tv1.keep k).inj tz
   obtain⟨w1,r1,r2⟩:=zJ I rs rv (Ti:=[kk]) (out:=[.ref z.2]) (.cons tv1 .nil) (fun u hu=>by cases List.mem_singleton.mp hu;exact hz')
   cases r1 with
   |@cons w0 _ _ _ r0 r1=>
    cases r1
    simp only[List.map_cons,List.map_nil,aO] at r2
    obtain⟨v0,r',ev,q0,_⟩:=r2
    simp only[List.cons.injEq] at ev
    rw[<-ev.1] at q0
    have hw:w0=V.ref z.2:=by
     have q1:=q0
     simp only[tupK,Rep] at q1
     obtain⟨a0,ws,e0,_⟩:=q1
     subst e0
     cases r0;rfl
    rw[<-ek,<-hw]
    exact q0.kp (.of (cV hfr))
 have VR:∀ h':Heap,h'.get? s.heap.objs.size=some (blank X.w)->∀ its:List Value,CU X s.heap.objs.size its h' []:=fun h' e its=>
  ⟨[],rfl,⟨_,#[],0,_,e,⟨rfl,rfl,rfl⟩,rfl,⟨.nil,List.nodup_nil,{ mask:=.inl rfl,Y0:=rfl,rise:=fun i j _ hj=>absurd hj (Nat.not_lt_zero _),bd:=fun j hj=>by simp[SetTable.fresh] at hj,full:=Nat.zero_le _,size:=rfl,reach:=fun i j e h1=>by simp[SetTable.fresh] at h1 },(show 0 * 5 < 7 * 3 by decide),fun q=>by simp[SetTable.fresh,q],fun q=>absurd q (Nat.lt_irrefl _)⟩⟩,fun z hz=>by cases hz⟩
 rcases sq with sq|sq
 ·obtain⟨its,r',pl,hz⟩:=I.list sq
  obtain⟨o,g,c,n,d⟩:=pl.isList
  refine Vv (by omega) (T := "list") hh g c (.inl rfl) (P:=fun i v=>its.toArray[i]?=some v) (n:=its.length) (fun A' E' Q' h0 hA k0 hq=>?_) (Lw (pN I rs r') hl hx rfl) (fun h' e k=>⟨k,VR h' e its⟩) fun h' tk zs tx hm k=>fin h' tk zs its r' tx hm k
  refine wpAny_pyIter_list (items:=its.toArray) ⟨o,k0 _ _ g,c,n,d⟩ ?_
  have hne:p≠h0.objs.size:=Nat.ne_of_lt (Heap.lt_size (k0 _ _ g))
  refine hq _ (fun i h=>h.IsListIter h0.objs.size p i/\h.IsList p its.toArray) (fun A' hA=>by have:=Walks.list (prog:=X.prog) (w:=X.w) hA h0.objs.size p hne its.toArray;rw[List.size_toArray] at this;exact this) ⟨⟨_,Heap.get?_push_size _ rfl,rfl,rfl⟩,⟨o,Heap.get?_push_of_some _ (k0 _ _ g),c,n,d⟩⟩ fun b ob e=>Heap.get?_push_of_some _ e
 ·obtain⟨its,r',pl,hz⟩:=I.tuple sq
  obtain⟨o,g,c,n,d⟩:=id pl
  refine Vv (by omega) (T := "tuple") hh g c (.inr rfl) (P:=fun i v=>its.toArray[i]?=some v) (n:=its.length) (fun A' E' Q' h0 hA k0 hq=>?_) (Lw (pN I rs r') hl hx rfl) (fun h' e k=>⟨k,VR h' e its⟩) fun h' tk zs tx hm k=>fin h' tk zs its r' tx hm k
  refine wpAny_pyIter_tuple (items:=its.toArray) ⟨o,k0 _ _ g,c,n,d⟩ ?_
  have hne:p≠h0.objs.size:=Nat.ne_of_lt (Heap.lt_size (k0 _ _ g))
  refine hq _ (fun i h=>h.IsTupleIter h0.objs.size p i/\h.IsTuple p its.toArray) (fun A' hA=>by have:=Walks.tuple (prog:=X.prog) (w:=X.w) hA h0.objs.size p hne its.toArray;rw[List.size_toArray] at this;exact this) ⟨⟨_,Heap.get?_push_size _ rfl,rfl,rfl⟩,⟨o,Heap.get?_push_of_some _ (k0 _ _ g),c,n,d⟩⟩ fun b ob e=>Heap.get?_push_of_some _ e
theorem acr {pins:List (Addr×Obj)} {σ:L2.St} {H:Hp} {s:Shared} (I:Inv X pins σ H s) {a:Addr} {zs:List (List Key×Addr)} (h:H a=some (hoU X a zs)):Ts X.prog X.w s.heap a zs:=(I.hok _ _ h).1
def aeC (X:Cx):List V->Hp->VK->Prop:=fun xs H Q=>∃ a zs,xs=[.ref a]/\H a=some (hoU X a zs)/\Aw (zs.map (·.1))=true/\(∀ z∈zs,Rep X.K H (tupK z.1) (.ref z.2))/\∀ l H' us,Same H H'->H l=none->H' l=some (.lst us)->aO X.K H' ((lg (zs.map (·.1))).map tupK) us->Q (.ref l) H'
theorem Zc (hc:X.calm=true):jq X (.builtin "sorted") (aeC X):=by
 intro pins s σ H xs us Q I r h
 obtain⟨a,zs,rfl,ha,hs,hrep,q⟩:=h
 obtain⟨u,rfl,ru⟩:=vals1 r
 cases ru
 simp only[Aw,Bool.and_eq_true,decide_eq_true_eq,List.all_eq_true,Bool.not_eq_true'] at hs
 obtain⟨h64,hne,hsh⟩:=hs
 rw[List.length_map] at h64
 obtain⟨o,es,ep,t,ho,hex,hd,hl',ft,agi,aeD⟩:=acr I ha
 have hz:es.size=zs.length:=by rw[<-Array.length_toList,hl',List.length_map]
 have wk:Wk X.w s.heap a es ep t:=⟨⟨o,ho,hex.1,hd⟩,ft,agi,fun q=>aeD (by omega)⟩
 have rs0:aO X.K H ((zs.map (·.1)).map tupK) (zs.map fun z=>(V.ref z.2))/\Vals (zs.map fun z=>(V.ref z.2)) (zs.map fun z=>(.ref z.2:Value)):=by
  clear hl' ha q h64 hne hsh hz wk aeD
  induction zs with
  |nil=>exact⟨aO.nil,.nil⟩
  |cons z zs ih=>
   obtain⟨i1,i2⟩:=ih fun y hy=>hrep y (List.mem_cons_of_mem _ hy)
   exact⟨aO.cons (hrep z (List.mem_cons_self ..)) i1,.cons rfl i2⟩
 have tv0:=pN I rs0.1 rs0.2
 have tz:∀ z∈zs,jY s.heap z.1 (.ref z.2):=fun z hz'=>by
  have:=pN I (dB:=[z.1]) (vs:=[V.ref z.2]) (its:=[.ref z.2]) (aO.cons (hrep z hz') aO.nil) (.cons rfl .nil)
  cases this with
  |cons q' _=>exact q'
 refine Ox (fun vs=>∃ ys:List (List Key×Addr),ys.Perm zs/\vs=ys.map fun z=>(.ref z.2:Value)) (tuples' true) (fun vs v=>rank (vs.map fun u=>keyOf (zs.map (·.1)) (zs.map fun z=>(.ref z.2:Value)) u) (keyOf (vs.map fun u=>keyOf (zs.map (·.1)) (zs.map fun z=>(.ref z.2:Value)) u) vs v))
  (fun E' Q' hq=>Li (by exact I.ok.hd hc) wk (by rw[hz,sizeLine_eq];omega) fun ord h1 d tk hp hle ext=>hq ord h1 d tk ?_ hle ext) ?_ ?_ ?_ ?_
 ·rw[hl',List.map_map] at hp
  have:∀ {ord vs:List Value},ord.Perm vs->∀ zs:List (List Key×Addr),vs=zs.map (fun z=>(.ref z.2:Value))->∃ ys:List (List Key×Addr),ys.Perm zs/\ord=ys.map fun z=>(.ref z.2:Value):=by
   intro ord vs hp
   induction hp with
   |nil=>intro zs e;cases zs with|nil=>exact⟨[],.refl _,rfl⟩|cons _ _=>cases e
   |cons y _ ih=>
    intro zs e
    cases zs with
    |nil=>cases e
    |cons z zs=>
     rw[List.map_cons] at e
     injection e with e1 e2
     obtain⟨ys,p1,p2⟩:=ih zs e2
     exact⟨z::ys,p1.cons _,by rw[List.map_cons,e1,p2]⟩
   |swap y1 y2 l=>
    intro zs e
    match zs,e with
    |z1::z2::zs,e=>
     simp only[List.map_cons,List.cons.injEq] at e
     exact⟨z2::z1::zs,List.Perm.swap _ _ _,by simp only[List.map_cons];rw[e.1,e.2.1,e.2.2]⟩
    |[_],e=>simp at e
    |[],e=>cases e
   |trans _ _ ih1 ih2=>
    intro zs e
    obtain⟨ys,p1,p2⟩:=ih2 zs e
    obtain⟨us,q1,q2⟩:=ih1 ys p2
    exact⟨us,q1.trans p1,q2⟩
  exact this hp zs rfl
 all_goals
  intro vs hG
  obtain⟨ys,py,rfl⟩:=hG
  have hm:∀ v∈(ys.map fun z=>(.ref z.2:Value)),v∈(zs.map fun z=>(.ref z.2:Value)):=fun v hv=>((py.map _).mem_iff).mp hv
  have tvK:∀ v∈(ys.map fun z=>(.ref z.2:Value)),jY s.heap (keyOf (zs.map (·.1)) (zs.map fun z=>(.ref z.2:Value)) v) v:=fun v hv=>(lX tv0 v (hm v hv)).2
  have tv:=xu tvK
  have eks:(ys.map fun z=>(.ref z.2:Value)).map (fun u=>keyOf (zs.map (·.1)) (zs.map fun z=>(.ref z.2:Value)) u)=ys.map (·.1):=by
   rw[List.map_map]
   refine List.map_congr_left fun z hz=>?_
   have hz':=py.mem_iff.mp hz
   exact (tvK (.ref z.2) (List.mem_map.mpr ⟨z,hz,rfl⟩)).inj (tz z hz')
  have mk:∀ k∈(ys.map fun z=>(.ref z.2:Value)).map (fun u=>keyOf (zs.map (·.1)) (zs.map fun z=>(.ref z.2:Value)) u),k∈zs.map (·.1):=fun k hk=>by
   rw[eks] at hk;exact ((py.map _).mem_iff).mp hk
 ·intro h2 E' A' s' k Q' hq
  exact Hu (Paired.imp' (fun _ _ z=>jY.keep z k) tv) (fun k hk=>by have:=hne k (mk k hk);cases k with|nil=>cases this|cons _ _=>exact List.cons_ne_nil _ _) (fun k hk l hl=>Dd (hsh k (mk k hk) l (mk l hl))) (by omega) hq
 ·intro A' s' k
  exact La (Paired.imp' (fun _ _ z=>jY.keep z k) tv) fun k hk l hl=>Dd (hsh k (mk k hk) l (mk l hl))
 ·rw[List.length_map,py.length_eq];exact h64
 ·intro l h' d tk n st hp up hl ext hL
  have out:=Lb tv hp up
  have mem:∀ u∈((arrOf st).map (·.2)).toList,u∈(ys.map fun z=>(.ref z.2:Value)):=fun u hu=>by
   rw[Array.toList_map] at hu
   obtain⟨pr,hpr,rfl⟩:=List.mem_map.mp hu
   have aci:pr∈(ys.map fun z=>(.ref z.2:Value)).zip (ys.map fun z=>(.ref z.2:Value)):=by rw[<-pairsOf_toList];exact (Array.perm_iff_toList_perm.mp hp).mem_iff.mp hpr
   have:=mem_zip_self aci
   rw[<-this.1];exact this.2
  have hH:H l=none:=I.hok.fresh hl
  have back:∀ {Ti:List (List Key)} {out:List Value},Paired (jY s.heap) Ti out->(∀ u∈out,u∈(ys.map fun z=>(.ref z.2:Value)))->∃ ws,Vals ws out/\aO X.K H (Ti.map tupK) ws:=by
   intro Ti out pr
   induction pr with
   |nil=>intro _;exact⟨[],.nil,aO.nil⟩
   |cons q0 _ ih=>
    intro hm'
    obtain⟨ws,w1,w2⟩:=ih fun u hu=>hm' u (List.mem_cons_of_mem _ hu)
    obtain⟨z,hz,ez⟩:=List.mem_map.mp (hm' _ (List.mem_cons_self ..))
    subst ez
    have hz':=py.mem_iff.mp hz
    have ek:=q0.inj (tz z hz')
    refine⟨.ref z.2::ws,.cons rfl w1,?_⟩
    rw[List.map_cons,ek]
    exact aO.cons (hrep z hz') w2
  obtain⟨ws,w1,w2⟩:=back out mem
  rw[eks] at w2
  have es:lg (ys.map (·.1))=lg (zs.map (·.1)):=qD ((mY _).trans (py.map _)) (uP _)
  rw[es] at w2
  have hzl:ws.length=zs.length:=by rw[w2.length,List.length_map,(mY _).length_eq,List.length_map]
  refine⟨.ref l,_,Sv (d:=d) (I.laid (t':=tk) (a:=l) (o:=.lst ws) ext hl ⟨by rw[hzl,sizeLine_eq];omega,_,n,w1,?_⟩),rfl,q _ _ ws (cV hH) hH cG (w2.kp (.of (cV hH)))⟩
  rw[hL]
end
def Ca {α:Type} [DecidableEq α]:List α->List α
 |[]=>[]
 |y::ys=>if y∈ys then Ca ys else y::Ca ys
section
variable {α:Type} [DecidableEq α]
theorem rH:∀ {ys:List α} {z:α},z∈Ca ys↔z∈ys
 |[],z=>by simp[Ca]
 |y::ys,z=>by
  unfold Ca
  split
  ·rename_i h
   rw[rH,List.mem_cons]
   exact⟨.inr,fun q=>q.elim (fun e=>e▸h) id⟩
  ·rw[List.mem_cons,List.mem_cons,rH]
theorem Dp:∀ (ys:List α),(Ca ys).Nodup
 |[]=>List.nodup_nil
 |y::ys=>by
  unfold Ca
  split
  ·exact Dp ys
  ·rename_i h
   exact List.nodup_cons.mpr ⟨fun q=>h (rH.mp q),Dp ys⟩
theorem Cd:∀ (ys:List α),(Ca ys).length<=ys.length
 |[]=>Nat.le_refl _
 |y::ys=>by
  have:=Cd ys
  unfold Ca
  split<;>simp<;>omega
theorem Jx {β:Type} [DecidableEq β] {f:α->β} (hi:∀ a b,f a=f b->a=b):∀ (ys:List α),Ca (ys.map f)=(Ca ys).map f
 |[]=>rfl
 |y::ys=>by
  have hm:f y∈ys.map f↔y∈ys:=⟨fun q=>by obtain⟨z,hz,e⟩:=List.mem_map.mp q;rw[<-hi _ _ e];exact hz,fun q=>List.mem_map.mpr ⟨y,q,rfl⟩⟩
  rw[List.map_cons]
  unfold Ca
  by_cases q:y∈ys
  ·rw[if_pos q,if_pos (hm.mpr q),Jx hi ys]
  ·rw[if_neg q,if_neg fun h=>q (hm.mp h),List.map_cons,Jx hi ys]
end
section
variable {X:Cx}
def Lx (ks:List Key):Bool:=ks.any fun k=>k.isRight
theorem acs {ks:List Key} (h:Lx ks=true):Txs ks:=by
 unfold Lx at h
 rw[List.any_eq_true] at h
 obtain⟨k,hk,e⟩:=h
 cases k with
 |inl i=>cases e
 |inr x=>exact⟨x,hk⟩
def tU (X:Cx) (f:Ev->Option (List (List Key))):L2.TE:=fun σ H Q=>∃ H0 ρ dB,cQ X.K H0 H σ ρ/\f ρ=some dB/\∀ a zs H',Same H H'->H' a=some (hoU X a zs)->(∀ k,k∈zs.map (·.1)↔k∈dB)->(zs.map (·.1)).Nodup->(∀ z∈zs,Rep X.K H' (tupK z.1) (.ref z.2))->Q (.ref a) H'
def PVU (X:Cx) (e:Expr) (f:Ev->Option (List (List Key))):Prop:=PE X e (tU X f)
structure QVU (X:Cx) (e:Expr) (f:Ev->Option (List (List Key))):Prop where
 run:PVU X e f
def aag (b:Bx):Option (List (List Key)):=(wY b).bind fun ds=>(rG ds).bind fun dB=>if dB.length<=64/\dB.all Lx=true then some dB else none
def Oz (f:Ev->Option Bx):Ev->Option (List (List Key)):=fun ρ=>(f ρ).bind aag
def Dq (fs:Ev->Option (List (List Key))):Ev->Option Bx:=fun ρ=>(fs ρ).bind fun dB=>if Aw dB=true then some (.o ((lg (Ca dB)).map tupK)) else none
variable {e:Expr} {f:Ev->Option Bx} {fs:Ev->Option (List (List Key))} {p pos:Pos}
theorem Qs (hc:X.calm=true) (hu:X.A.units+100 < cLine) (hg:Gl X "set") (hm:X.mg "set" = none) (ha:QV X e f) (he:starEach (e::[]) X.env=(false,eval e X.env)::starEach [] X.env:=by rfl):QVU X (.Call (.Name "set" p) [e] [] pos) (Oz f):=by
 refine⟨Ng (G5 (T := "set") (Zb hc hu) hg hm rfl (xR ha.run Ii he) (he:=he)) fun σ H Q h=>?_⟩
 obtain⟨H0,ρ,dB,E,ef,q⟩:=h
 obtain⟨b,eb,ef⟩:=bind_some ef
 obtain⟨ds,ed,ef⟩:=bind_some ef
 obtain⟨ks',ek,ef⟩:=bind_some ef
 split at ef
 ·rename_i hl
  cases ef
  rw[List.all_eq_true] at hl
  exact⟨H0,ρ,b,E,eb,fun v H1 s1 n1 r1=>⟨v,b,ds,dB,rfl,r1,ed,ek,hl.1,fun k hk=>acs (hl.2 k hk),fun a zs H2 s2 e2 m nd hz=>q a zs H2 (s1.trans s2) e2 m nd hz⟩⟩
 ·cases ef
theorem V0 {dB Ti:List (List Key)} (h:Aw dB=true) (hl:Ti.length<=dB.length) (hm:∀ k∈Ti,k∈dB):Aw Ti=true:=by
 simp only[Aw,Bool.and_eq_true,decide_eq_true_eq,List.all_eq_true,Bool.not_eq_true'] at h ⊢
 exact⟨by omega,fun k hk=>h.2.1 k (hm k hk),fun k hk l hl'=>h.2.2 k (hm k hk) l (hm l hl')⟩
theorem Qt (hc:X.calm=true) (hg:Gl X "sorted") (hm:X.mg "sorted" = none) (ha:QVU X e fs) (he:starEach (e::[]) X.env=(false,eval e X.env)::starEach [] X.env:=by rfl):QV X (.Call (.Name "sorted" p) [e] [] pos) (Dq fs):=by
 refine⟨Ng (Kz (id := "sorted") (Zc hc) hg hm rfl (xR ha.run Ii he) (he:=he)) fun σ H Q h=>?_⟩
 obtain⟨H0,ρ,b,E,ef,q⟩:=h
 obtain⟨dB,ey,ef⟩:=bind_some ef
 split at ef
 ·rename_i hl
  cases ef
  refine⟨H0,ρ,dB,E,ey,fun a zs H1 s1 e1 m nd hy=>⟨a,zs,rfl,e1,?_,hy,fun l H2 us s2 hfr e2 rp=>?_⟩⟩
  ·have e3:=(BX nd (Dp dB) fun z=>by rw[m z,rH]).length_eq
   have:=Cd dB
   exact V0 hl (by omega) fun k hk=>(m k).mp hk
  ·have pm:=BX nd (Dp dB) fun z=>by rw[m z,rH]
   have es:lg (zs.map (·.1))=lg (Ca dB):=qD ((mY _).trans pm) (uP _)
   rw[es] at rp
   exact q _ H2 (s1.trans s2) (fun a ea=>by cases ea;exact s1.free hfr) ⟨l,us,rfl,e2,rp⟩
 ·cases ef
end
end P1
end
section
namespace P1
open PySem PySem.Spec PyProof.Rows L2
def Ag:Bx->Bx->Option Bx
 |.z (.str k),.z d=>some (.z (.tup [.str k,d]))
 |_,_=>none
theorem OD {a b:Bx} {y:Dt} (h:Ag a b=some (.z y)):∃ k d,a=.z (.str k)/\b=.z d/\y=.tup [.str k,d]:=by
 unfold Ag at h
 split at h
 ·cases h;exact⟨_,_,rfl,rfl,rfl⟩
 ·cases h
def acu (kvs:List (Str×Dt)):Dt->List (Str×Dt)
 |.tup [.str k,d]=>Jh kvs k d
 |_=>kvs
def dictOf (out:List Dt):List (Str×Dt):=out.foldl acu []
theorem Ly (out:List Dt) (k:Str) (d:Dt):dictOf (out++[.tup [.str k,d]])=Jh (dictOf out) k d:=by
 unfold dictOf
 rw[List.foldl_append]
 rfl
section
variable {X:Cx} {pins:List (Addr×Obj)} {σ:L2.St} {H:Hp} {s:Shared} {a:Addr} {A:Around} {E:Value->Shared->Prop}
theorem Sw {kvs:List (Key×V)} {k:Key} {v:V} {u r:Value} {Q:Unit->Shared->Prop} (I:L2.Inv X pins σ H s) (e:H a=some (.dK kvs)) (l:kvs.length < sizeLine) (ry:RelV (kV k) u) (rv:RelV v r) (h:∀ s',L2.Inv X pins σ (upd H a (.dK (putK kvs k v))) s'->Q () s') :
  wpAny (model X.prog X.w) A (dictSet a u r) Q E s:=by
 obtain⟨z,hd,vs,rel,dd⟩:=Z6 I.hok e
 have hz:vs.length<=sizeLine:=by rw[<-rel.length];exact z
 have hl:(putK kvs k v).length<=sizeLine:=by have:=pK kvs k v;omega
 refine wpAny_dictSet_pairs (hsz:=hz) (KH ry) dd fun h' dd' hs=>h _ ?_
 have he:∃ q,h'.get? a=some q:=let ⟨q,_,_,hq,_⟩:=dd';⟨q,hq⟩
 exact Ir I (by rw[e];exact True.intro) hs he (T9 hl hd (rel.put k rv) dd')
end
section
variable {X:Cx} {kx vx tgt iter:Expr} {ifs:List Expr} {scope:Scope} {cl:List (Str×Addr)} {pos:Pos} {xs ts:List Str} {is:List Nat} {gt:Dt->Ev->Option Ev} {p:Ev->Option Bool} {fk fv:Ev->Option Bx} {fi:Ev->Option (List Dt)}
theorem Sx (hu:X.A.units+100 < cLine) {pins:List (Addr×Obj)} {σ:L2.St} {H H2:Hp} {s2:Shared} {it:Addr} {fp:List Addr} {tn:Nat->Heap->Prop} {J:It} {ds out:List Dt} {ρ:Ev} {RR:Value->Addr->Result->Shared->Prop} {E:Value->Shared->Prop}
  (hkind:scope.kind=.function) (hcell:∀ y∈scope.names,y.2≠.cell) (hcalm:X.calm=true)
  (hsub:SubL X.env.cells cl) (hhas:∀ x,((relabel scope X.env).names.lookup x=some .cell\/(relabel scope X.env).names.lookup x=some .free)->∃ c,cl.lookup x=some c) (hcap:Ar X scope cl xs is)
  (Kq:∀ C s₀ H₀ fp,Rx (wU X (xs++ts) scope cl C s₀ H₀ fp) tgt gt) (hif:∀ C s₀ H₀ fp,Tests (wU X (xs++ts) scope cl C s₀ H₀ fp) ifs p) (hkx:∀ C s₀ H₀ fp,PV (wU X (xs++ts) scope cl C s₀ H₀ fp) kx fk) (hvx:∀ C s₀ H₀ fp,PV (wU X (xs++ts) scope cl C s₀ H₀ fp) vx fv) (htk:Uw is.length gt)
  (I2:L2.Inv X pins σ H2 s2) (Ec:cQ X.K H2 H2 (uF is σ++List.replicate ts.length none) (gR is ρ++List.replicate ts.length none)) (T:Turn X.prog X.w X.K tgt J fp it tn) (st:tn 0 s2.heap) (hf:∀ b∈fp,uH X pins H2 b) (Y:Yields X.K J ds H2)
  (hlen:ds.length < 1000) (hout:oh gt p (b2 Ag fk fv) (gR is ρ++List.replicate ts.length none) ds=some out)
  (hRR:∀ (D C:Addr) (s':Shared) (H':Hp) (us:List (Key×V)),H2 D=none->L2.Inv X pins σ H' s'->uH X pins H' C->(∃ m,s'.heap.Ns C m)->Same H2 H'->H' D=some (.dK us)->g8 X.K H' (dictOf out) us->RR (.ref D) C (.ok .next) s') :
  wpAny (model X.prog X.w) X.A newDict (fun acc s₃=>wpAny (model X.prog X.w) X.A (newFunctionEnv scope X.env.globals cl [] X.env.qual none .none (some X.env)) (fun cenv s₄=>
   codeAny (model X.prog X.w) X.A (.compStart (.DictComp kx vx [⟨tgt,iter,ifs,0⟩] scope pos) 0 (.ref it) acc { cenv with scope:=relabel scope X.env }) (RR acc cenv.locals) s₄) E s₃) E s2:=by
 refine wpAny_newObj_type (wpAny_newFunctionEnv hcell (by intro y hy;simp at hy) (fun h₁ hns₁ hsb₁=>?_) hkind)
 have hD:H2 s2.heap.objs.size=none:=I2.hok.fresh (Nat.le_refl _)
 have I3:L2.Inv X pins σ (upd H2 s2.heap.objs.size (.dK [])) { s2 with heap:=s2.heap.push { cls:=.type "dict", data:=.dict #[] 0 } }:=
  I2.laid (t':=s2.toks) (fun b o e=>Heap.get?_push_of_some _ e) (Nat.le_refl _) (Ua s2.heap I2.big)
 have sD:Same H2 (upd H2 s2.heap.objs.size (.dK [])):=cV hD
 have Ux:∀ b∈fp,b < s2.heap.objs.size:=fun b hb=>let ⟨o,e,_⟩:=T.obj 0 _ st b hb;Heap.lt_size e
 have Yi:∀ b∈fp,uH X pins (upd H2 s2.heap.objs.size (.dK [])) b:=fun b hb=>⟨by rw[aU (Nat.ne_of_lt (Ux b hb))];exact (hf b hb).1,(hf b hb).2⟩
 generalize hs3:({ s2 with heap:=s2.heap.push { cls:=.type "dict", data:=.dict #[] 0 } }:Shared)=s3 at *
 have Uy:s3.heap=s2.heap.push { cls:=.type "dict", data:=.dict #[] 0 }:=by rw[<-hs3]
 have Uz:∀ b∈fp,b < s3.heap.objs.size:=fun b hb=>by rw[Uy,Heap.size_push];exact Nat.lt_succ_of_lt (Ux b hb)
 have hk:∀ b o,s3.heap.get? b=some o->h₁.get? b=some o:=fun b o e=>hsb₁.extBut b o (Nat.ne_of_lt (Heap.lt_size e)) (Heap.get?_push_of_some _ e)
 have IC:=K1 (ts:=ts) (tk:=s3.toks+([]:List (Str×Value)).length) I3 hkind hcell hsub hhas hcap Yi Uz hns₁ hk
 have st1:tn 0 h₁:=T.keep 0 _ _ st fun b hb o e=>hk b o (by rw[Uy];exact Heap.get?_push_of_some _ e)
 generalize hX':wU X (xs++ts) scope cl s3.heap.objs.size s3 (upd H2 s2.heap.objs.size (.dK [])) fp=X' at *
 have Nh:X'.env=compEnvC scope cl s3.heap.objs.size X.env:=by rw[<-hX'];rfl
 have Iz:X'.K=X.K:=by rw[<-hX'];rfl
 have Ry:X'.A=X.A:=by rw[<-hX'];rfl
 have Ni:X'.prog=X.prog:=by rw[<-hX'];rfl
 have Nj:X'.w=X.w:=by rw[<-hX'];rfl
 have hXc:X'.calm=true:=by rw[<-hX'];exact hcalm
 have Yj:X'.xe=fun _ _=>False:=by rw[<-hX'];rfl
 have abK:cQ X.K H2 (upd H2 s2.heap.objs.size (.dK [])) (uF is σ++List.replicate ts.length none) (gR is ρ++List.replicate ts.length none):=Ec.grow sD
 have hl0:(gR is ρ++List.replicate ts.length (none:Option Bx)).length=is.length+ts.length:=by simp[gR]
 have hb0:∀ (j:Nat) b,(gR is ρ++List.replicate ts.length (none:Option Bx))[j]?=some (some b)->j < is.length:=fun j b e=>by
  by_cases hj:j < is.length
  ·exact hj
  ·rw[List.getElem?_append_right (by simp[gR];omega),List.getElem?_replicate] at e
   split at e<;>cases e
 have abL:Rx X' tgt gt:=by rw[<-hX'];exact Kq _ _ _ _
 have abM:Tests X' ifs p:=by rw[<-hX'];exact hif _ _ _ _
 have agk:PV X' kx fk:=by rw[<-hX'];exact hkx _ _ _ _
 have agl:PV X' vx fv:=by rw[<-hX'];exact hvx _ _ _ _
 have hfC:∀ {H':Hp},(∀ b∈fp,H' b=none)->∀ b∈fp,uH X' [] H' b:=fun {H'} hn b hb=>by
  obtain⟨f0,f1,f2,f3,f4,f5⟩:=Yi b hb
  refine⟨hn b hb,?_,?_,.inl (by rw[<-hX'];exact hb),?_,?_⟩
  ·rw[Nh];exact Nat.ne_of_lt (Uz b hb)
  ·intro z
   have z:b∈frs X.stack:=by rw[<-hX'] at z;exact z
   rcases List.mem_cons.mp (I3.Ci b z) with q|q
   ·exact f1 q
   ·exact f2 q
  ·intro x c e
   rw[Nh] at e
   exact f4 x c (hsub.get e)
  ·intro q hq
   have:q∈([]:List (Addr×Obj)):=by rw[<-hX'] at hq;simpa [wU] using hq
   cases this
 have abO:∀ (j:Nat) c a,(gR is ρ++List.replicate ts.length (none:Option Bx))[j]?=some (some c)->loose c=true->(uF is σ++List.replicate ts.length none)[j]?=some (some (.ref a))->H2 a≠none:=fun j c a e hl ea z=>by
  obtain⟨v,e1,rc⟩:=Ec.val j _ e
  rw[ea] at e1;cases e1
  cases c with
  |z d=>cases hl
  |l dz=>
   obtain⟨a',vs,e2,q,_⟩:=rc
   cases e2
   rcases q with q|⟨o,q⟩<;>(rw[z] at q;cases q)
  |n dz=>
   obtain⟨a',vs,e2,q,_⟩:=rc
   cases e2
   rcases q with q|⟨o,q⟩<;>(rw[z] at q;cases q)
  |o dz=>
   obtain⟨a',vs,e2,q,_⟩:=rc
   cases e2
   rw[z] at q;cases q
  |m dz _=>
   obtain⟨a',vs,e2,q,_⟩:=rc
   cases e2
   rw[z] at q;cases q
 generalize hρ0:gR is ρ++List.replicate ts.length (none:Option Bx)=ρ0 at *
 have loop:∀ s₃:Shared,s₃={ s3 with heap:=h₁,toks:=s3.toks+([]:List (Str×Value)).length } →
   codeAny (model X.prog X.w) X.A (.compLoop (.DictComp kx vx [⟨tgt,iter,ifs,0⟩] scope pos) 0 (.ref it) (.ref s2.heap.objs.size) (compEnvC scope cl s3.heap.objs.size X.env)) (RR (.ref s2.heap.objs.size) s3.heap.objs.size) s₃:=by
  rintro s₃ rfl
  refine codeAny_loop rfl (fun n s'=>∃ (i:Nat) (σ':L2.St) (H':Hp) (o1 o2:List Dt) (us:List (Key×V)),n=ds.length - i/\i<=ds.length/\L2.Inv X' [] σ' H' s'/\tn i s'.heap/\(∀ b∈fp,H' b=none)/\cQ X.K H2 H' σ' ρ0/\(∀ (j:Nat) c a,ρ0[j]?=some (some c)->loose c=true->σ'[j]?=some (some (.ref a))->H2 a≠none)/\H' s2.heap.objs.size=some (.dK us)/\g8 X.K H' (dictOf o1) us/\us.length<=i/\oh gt p (b2 Ag fk fv) ρ0 (ds.drop i)=some o2/\o1++o2=out) ?_ ds.length
   ⟨0,_,_,[],out,[],by simp,Nat.zero_le _,IC,st1,fun b hb=>(Yi b hb).1,abK,abO,cG,g8.nil,Nat.le_refl _,by simpa using hout,rfl⟩
  rintro n s4 ⟨i,σ4,H4,o1,o2,us,rfl,hi,I4,st4,fr4,E4,abP,hD4,r4,hl4,e4,ho⟩
  show wpAny _ X.A ((compTurn (.DictComp kx vx [⟨tgt,iter,ifs,0⟩] scope pos) 0 (.ref it) (.ref s2.heap.objs.size) (compEnvC scope cl s3.heap.objs.size X.env)).onRaise (fun x=>do noteFrame x (compEnvC scope cl s3.heap.objs.size X.env);theTreesLotGoes x)) _ _ s4
  refine wpAny_noted ?_
  rw[compTurn_dict]
  obtain⟨y1,y2⟩:=Y i H4 E4.base
  by_cases hlt:i < ds.length
  ·have hd:ds[i]?=some ds[i]:=by simp[hlt]
   obtain⟨go,yl⟩:=y1 _ hd
   rw[List.drop_eq_getElem_cons hlt] at e4
   simp only[oh] at e4
   obtain⟨ρ1,e1,e4⟩:=bind_some e4
   obtain⟨k,ek,e4⟩:=bind_some e4
   obtain⟨hl1,hk1⟩:=htk _ _ _ e1
   have back:∀ {σ5:L2.St} {H5:Hp},cQ X.K H2 H5 σ5 ρ1->cQ X.K H2 H5 σ5 ρ0:=fun E5=>E5.forget hl1 fun j b e=>by rw[hk1 j (hb0 j b e)];exact e
   refine wpAny_bind (wpAny_standAt (wpAny_bind ?_))
   have T4:=T.item X' Ni Nj Iz hXc i [] s4 σ4 H4 (notedBy (model X.prog X.w) X.A (compEnvC scope cl s3.heap.objs.size X.env) fun e s'=>RR (.ref s2.heap.objs.size) s3.heap.objs.size (.error e) s') I4 (hfC fr4) st4 go
   rw[Ry] at T4
   refine j6 T4 fun r s5 ⟨u,hr,h5⟩=>?_
   subst hr
   refine wpAny_bind (j6 h5 fun _ s6 ⟨x,H6,I6,r6,y6,st6,fr6⟩=>?_)
   obtain⟨rfl,rx⟩:=yl x H6 y6
   have I6':=I6.pinned (hfC fr6) (T.obj _ _ st6)
   have ha:=abL _ s6 σ4 H6 x u (fun σ' H'=>H'=H6/\cQ X.K H2 H6 σ' ρ1/\Lo σ4 ρ0 σ' ρ1) I6' r6 ⟨H2,ρ0,ds[i],ρ1,by rw[Iz];exact E4,by rw[Iz];exact rx,e1,fun σ' E' L'=>⟨rfl,by rw[Iz] at E';exact E',L'⟩⟩
   rw[Ry,Nh,Yj] at ha
   simp only[Ni,Nj] at ha
   refine wpAny_bind (wpAny_mono ha (fun _ s7 h7=>?_) fun _ _ z=>z.elim)
   obtain⟨σ7,H7,I7,rfl,E7,L7⟩:=h7
   have IK:∀ (j:Nat) c a,ρ0[j]?=some (some c)->loose c=true->σ7[j]?=some (some (.ref a))->H2 a≠none:=fun j c a e hl ea=>by
    have e':ρ1[j]?=some (some c):=by rw[hk1 j (hb0 j _ e)];exact e
    exact abP j c a e hl (by rw[<-(L7 j _ hl e').2];exact ea)
   have ht:wpAny (model X.prog X.w) X.A (forIn ifs true fun c r=>if r=true then do let ok <-isTrue c (compEnvC scope cl s3.heap.objs.size X.env) (eval c (compEnvC scope cl s3.heap.objs.size X.env));pure (ForInStep.yield ok) else pure (ForInStep.yield r))
     (fun ok s8=>ok=k/\∃ H8,L2.Inv X' ([]++rA fp s6.heap) σ7 H8 s8/\Same H7 H8) (notedBy (model X.prog X.w) X.A (compEnvC scope cl s3.heap.objs.size X.env) fun e s'=>RR (.ref s2.heap.objs.size) s3.heap.objs.size (.error e) s') s7:=by
    rcases abM with⟨rfl,rfl⟩|⟨c,rfl,hc⟩
    ·cases ek
     exact wpAny_tests_nil ⟨rfl,H7,I7,Same.refl H7⟩
    ·refine wpAny_tests_one ?_
     have:=hc _ s7 σ7 H7 (fun b H8=>b=k/\Same H7 H8) I7 ⟨H2,ρ1,k,by rw[Iz];exact E7,ek,fun H8 s8=>⟨rfl,s8⟩⟩
     rw[Ry,Nh,Yj] at this
     simp only[Ni,Nj] at this
     exact wpAny_mono this (fun b s8 ⟨H8,I8,eb,s8'⟩=>⟨eb,H8,I8,s8'⟩) fun _ _ z=>z.elim
   refine wpAny_bind (wpAny_mono ht (fun ok s8 h8=>?_) fun _ _ z=>z)
   obtain⟨rfl,H8,I8,Tf⟩:=h8
   have Cy:∀ {σ9:L2.St} {H9:Hp} {s9:Shared},L2.Inv X' ([]++rA fp s6.heap) σ9 H9 s9->L2.Inv X' [] σ9 H9 s9/\tn (i+1) s9.heap/\∀ b∈fp,H9 b=none:=fun {σ9 H9 s9} I9=>by
    refine⟨I9.qm,T.keep _ _ _ st6 fun b hb o e=>(I9.pin (b,o) (List.mem_append_right _ (List.mem_append_right _ (lW hb e)))).1,fun b hb=>?_⟩
    obtain⟨o,e,d⟩:=T.obj _ _ st6 b hb
    exact (I9.pin (b,o) (List.mem_append_right _ (List.mem_append_right _ (lW hb e)))).2.1
   cases ok with
   |false=>
    rw[if_neg Bool.false_ne_true] at e4
    obtain⟨I9,st9,fr9⟩:=Cy I8
    exact wpAny_pure ⟨rfl,ds.length - (i+1),by omega,i+1,σ7,H8,o1,o2,us,rfl,hlt,I9,st9,fr9,back (E7.grow Tf),IK,Tf _ _ hD4,r4.kp (.of Tf),by omega,e4,ho⟩
   |true=>
    rw[if_pos rfl] at e4
    obtain⟨b,eb,e4⟩:=bind_some e4
    cases b with
    |z y=>
     obtain⟨ys,e5,e4⟩:=bind_some e4
     cases e4
     obtain⟨bk,ebk,eb⟩:=bind_some eb
     obtain⟨bv,ebv,eb⟩:=bind_some eb
     obtain⟨kt,dv,rfl,rfl,rfl⟩:=OD eb
     have he:=agk _ s8 σ7 H8 (fun v H9=>Same H8 H9/\bN X.K H9 (.z (.str kt)) v) I8 ⟨H2,ρ1,_,by rw[Iz];exact E7.grow Tf,ebk,fun v H9 s9 _ r9=>⟨s9,by rw[Iz] at r9;exact r9⟩⟩
     rw[Ry,Nh,Yj] at he
     simp only[Ni,Nj] at he
     refine wpAny_bind (wpAny_bind (wpAny_mono he (fun kv s9a h9=>?_) fun _ _ z=>z.elim))
     obtain⟨k',H9a,I9a,rk,aeE,r9a⟩:=h9
     have he2:=agl _ s9a σ7 H9a (fun v H9=>Same H9a H9/\Rep X.K H9 dv v) I9a ⟨H2,ρ1,_,by rw[Iz];exact E7.grow (Tf.trans aeE),ebv,fun v H9 s9 _ r9=>⟨s9,by rw[Iz] at r9;exact r9⟩⟩
     rw[Ry,Nh,Yj] at he2
     simp only[Ni,Nj] at he2
     refine wpAny_bind (wpAny_holding (wpAny_mono he2 (fun v s9 h9=>?_) fun _ _ z=>z.elim))
     obtain⟨v',H9,I9,rv,s9b,r9⟩:=h9
     have s89:=aeE.trans s9b
     have s79:=Tf.trans s89
     have hD9:H9 s2.heap.objs.size=some (.dK us):=s79 _ _ hD4
     obtain⟨rfl,hkl⟩:k'=.str kt/\kt.length<=sizeLine:=by simpa only[bN,Rep] using r9a
     have kp:Kp H9 (upd H9 s2.heap.objs.size (.dK (putK us (Sum.inr kt) v'))):=.dk hD9
     have E9:=back (E7.grow s79)
     refine wpAny_bind (wpAny_standAt (wpAny_holding ?_))
     have hap:=Sw (A:=X.A) (E:=notedBy (model X.prog X.w) X.A (compEnvC scope cl s3.heap.objs.size X.env) fun e s'=>RR (.ref s2.heap.objs.size) s3.heap.objs.size (.error e) s') (Q:=fun _ s10=>L2.Inv X' ([]++rA fp s6.heap) σ7 (upd H9 s2.heap.objs.size (.dK (putK us (Sum.inr kt) v'))) s10) I9 hD9 (by have:(1000:Nat) < sizeLine:=(by decide);omega) (k:=Sum.inr kt) rk rv fun s10 I10=>I10
     simp only[Ni,Nj] at hap
     refine wpAny_mono hap (fun w s10 I10=>?_) fun _ _ z=>z
     obtain⟨I11,abT,abU⟩:=Cy I10
     have r5:=((r4.kp (.of s79)).put (x:=kt) r9 hkl).kp kp
     refine wpAny_pure ⟨rfl,ds.length - (i+1),by omega,i+1,σ7,_,o1++[.tup [.str kt,dv]],ys,putK us (Sum.inr kt) v',rfl,hlt,I11,abT,abU,?_,IK,cG,by rw[Ly];exact r5,by have:=pK us (Sum.inr kt) v';omega,e5,by simpa using ho⟩
     have Hg:∀ (j:Nat) c,ρ0[j]?=some (some c)->uD c=false:=fun j c e=>by
      rw[<-hρ0] at e
      by_cases hj:j < is.length
      ·rw[List.getElem?_append_left (by simp[gR];omega)] at e
       unfold gR at e
       rw[List.getElem?_map] at e
       cases q:is[j]? with
       |none=>rw[q] at e;cases e
       |some i=>rw[q] at e;exact vV (by simpa using e)
      ·rw[List.getElem?_append_right (by simp[gR];omega),List.getElem?_replicate] at e
       split at e<;>cases e
     have EH2:∀ (j:Nat) b,ρ0[j]?=some (some b)->∀ v,σ7[j]?=some (some v)->bN X.K H9 b v->bN X.K (upd H9 s2.heap.objs.size (.dK (putK us (Sum.inr kt) v'))) b v:=fun j b e v ev rb=>by
      cases b with
      |z d=>exact Rep.kp kp rb
      |o dz=>have:=Hg j _ e;cases this
      |m dz _=>have:=Hg j _ e;cases this
      |n dz=>
       obtain⟨a,vs,rfl,q,rr⟩:=rb
       refine⟨a,vs,rfl,?_,rr.kp kp⟩
       by_cases ha:a=s2.heap.objs.size
       ·subst ha;exact absurd hD (IK j _ _ e rfl ev)
       ·rcases q with q|⟨o,q⟩
        ·exact .inl (by rw[aU ha];exact q)
        ·exact .inr ⟨o,by rw[aU ha];exact q⟩
      |l dz=>
       obtain⟨a,vs,rfl,q,rr⟩:=rb
       refine⟨a,vs,rfl,?_,rr.kp kp⟩
       by_cases ha:a=s2.heap.objs.size
       ·subst ha;exact absurd hD (IK j _ _ e rfl ev)
       ·rcases q with q|⟨o,q⟩
        ·exact .inl (by rw[aU ha];exact q)
        ·exact .inr ⟨o,by rw[aU ha];exact q⟩
     refine⟨E9.len,fun j b e=>?_,fun j k c a b e ec=>absurd ec (by rw[Hg j c e];exact Bool.false_ne_true),fun c o e=>?_,fun j c a e ec=>absurd ec (by rw[Hg j c e];exact Bool.false_ne_true)⟩
     ·obtain⟨v,ev,rb⟩:=E9.val j b e
      exact⟨v,ev,EH2 j b e v ev rb⟩
     ·rw[aU (d9 e hD)];exact E9.base c o e
    |l _=>cases e4
    |o _=>cases e4
    |n _=>cases e4
    |m _ _=>cases e4
  ·have hge:ds.length<=i:=by omega
   rw[List.drop_eq_nil_of_le hge] at e4
   cases e4
   refine wpAny_bind (wpAny_standAt (wpAny_bind ?_))
   have T4:=T.done X' Ni Nj Iz hXc i [] s4 σ4 H4 (notedBy (model X.prog X.w) X.A (compEnvC scope cl s3.heap.objs.size X.env) fun e s'=>RR (.ref s2.heap.objs.size) s3.heap.objs.size (.error e) s') I4 (hfC fr4) st4 (y2 hge)
   rw[Ry] at T4
   refine j6 T4 fun r s5 ⟨hr,I5⟩=>?_
   subst hr
   refine wpAny_pure ?_
   have IB:L2.Inv X pins σ H4 s5:=I3.call' (ch:=fp) (by have:=I5.os;rw[<-hX'] at this;exact this) (by have:=I5.base;rw[<-hX'] at this;exact this) (by have:=I5.hok;rw[Ni,Nj] at this;exact this) I5.bare fun b hb=>by
    obtain⟨f0,f1,f2,f3,f4,f5⟩:=Yi b hb
    exact⟨f3,f1,f4,f5⟩
   have hC:H4 s3.heap.objs.size=none:=by have:=I5.free;rw[Nh] at this;exact this
   refine hRR _ _ s5 H4 us hD IB (I3.Q9 (Nat.le_refl _) hC) ?_ E4.base hD4 (by rw[List.append_nil] at ho;rw[<-ho];exact r4)
   obtain⟨m,hn,_⟩:=I5.loc
   rw[Nh] at hn
   exact⟨m,hn⟩
 exact codeAny_compStart_dict (loop _ rfl) (T.self _ 0 _ _ _ st1 (loop _ rfl))
def Qu (fi:Ev->Option (List Dt)) (gt:Dt->Ev->Option Ev) (p:Ev->Option Bool) (fk fv:Ev->Option Bx) (is:List Nat) (n:Nat):Ev->Option Bx:=fun ρ=>(fi ρ).bind fun ds=>
 if ds.length < 1000 then (oh gt p (b2 Ag fk fv) (gR is ρ++List.replicate n none) ds).bind fun out=>some (.m (dictOf out) none) else none
theorem V1 (hu:X.A.units+100 < cLine) (ts:List Str) (O:wV X scope cl xs is) (hcalm:X.calm=true) (hi:QIC X tgt iter fi)
  (Kq:∀ C s₀ H₀ fp,W7 (wU X (xs++ts) scope cl C s₀ H₀ fp) tgt gt) (hif:∀ C s₀ H₀ fp,zB (wU X (xs++ts) scope cl C s₀ H₀ fp) ifs p) (hkx:∀ C s₀ H₀ fp,QV (wU X (xs++ts) scope cl C s₀ H₀ fp) kx fk) (hvx:∀ C s₀ H₀ fp,QV (wU X (xs++ts) scope cl C s₀ H₀ fp) vx fv) (htk:Uw is.length gt)
  (hs:∀ x,foldedSetIterable iter X.env x=pure x:=by intro _;rfl):QV X (.DictComp kx vx [⟨tgt,iter,ifs,0⟩] scope pos) (Qu fi gt p fk fv is ts.length):=⟨fun pins s σ H Q I h=>by
 obtain⟨H0,ρ,b,E,e,q⟩:=h
 obtain⟨ds,ed,e⟩:=bind_some e
 split at e
 ·rename_i hlen
  obtain⟨out,eo,e⟩:=bind_some e
  cases e
  rw[arm_eval_DictComp]
  refine wpAny_comprehension_free (use:=none) rfl hs O.clos O.kind O.names ?_
  refine j6 (hi.run pins s σ H (fun J H'=>Same H H'/\Yields X.K J ds H') I ⟨H0,ρ,ds,E,ed,fun J H' s' y=>⟨s',y⟩⟩) fun v s1 h1=>j6 h1 fun itv s2 h2=>?_
  obtain⟨it,fp,tn,J,H2,rfl,I2,T,st,hf,s12,Y⟩:=h2
  refine Sx hu (RR:=fun acc C=>compPost (model X.prog X.w) X.A X.xe none (EP X pins σ Q) acc C) (ts:=ts) (xs:=xs) (H:=H) O.kind O.cell hcalm O.sub O.has O.cap (fun C s₀ H₀ fp=>(Kq C s₀ H₀ fp).run) (fun C s₀ H₀ fp=>(hif C s₀ H₀ fp).run) (fun C s₀ H₀ fp=>(hkx C s₀ H₀ fp).run) (fun C s₀ H₀ fp=>(hvx C s₀ H₀ fp).run) htk I2 ((E.grow s12).caps is ts.length) T st hf Y hlen eo ?_
  intro D C s' H' us hD I' fC ⟨m,hn⟩ s2' hD' rm
  refine⟨m,hn,fun h' sb=>⟨.ref D,H',?_,rfl,q (.ref D) H' (s12.trans s2') (fun a ea=>by cases ea;exact s12.free hD) ⟨D,us,rfl,hD',rm,fun b hb=>by cases hb⟩⟩⟩
  obtain⟨f0,f1,f2,f3,f4,f5⟩:=fC
  exact I'.turned (t':=s'.toks) (fun b o hb e=>(sb.2 b hb).trans e) f0 f1 f3 f4 f5
 ·cases e⟩
end
section
variable {X:Cx} {pins:List (Addr×Obj)} {σ:L2.St} {H:Hp} {s:Shared} {a:Addr} {ks:List (Key×V)} {o:Obj}
theorem Lz (hb:∀ ob u,X.H₀ a≠some (.q9 ob u)) (I:L2.Inv X pins σ H s) (e:H a=some (.q9 o (.dK ks))):L2.Inv X pins σ (upd H a (.dK ks)) s:=by
 have ne:∀ {b:Addr} {u:HO},H b=some u->u≠.q9 o (.dK ks)->b≠a:=fun q n z=>by subst z;rw[e] at q;cases q;exact n rfl
 have nn:∀ {b:Addr},H b=none->b≠a:=fun q z=>by subst z;rw[e] at q;cases q
 refine⟨I.ok,I.os,I.bare,⟨I.base.keep,I.base.slot,fun b ob q n hx=>?_,I.base.there,fun b xs q=>?_,fun b ob u q=>?_,fun b ps q=>?_⟩,I.loc,I.cell,?_,fun x c q=>?_,fun p hp=>?_,fun b ob q=>?_,I.len⟩
 ·have:=I.base.free b ob q n hx
  rw[aU (nn this)];exact this
 ·have:=I.base.tups b xs q
  rw[aU (ne this fun z=>by cases z)];exact this
 ·have:=I.base.wg b ob u q
  rw[aU (fun z=>by subst z;exact hb _ _ q)];exact this
 ·obtain⟨m,this⟩:=I.base.xP b ps q
  exact⟨m,by rw[aU (ne this fun z=>by cases z)];exact this⟩
 ·have:=I.free
  rw[aU (nn this)];exact this
 ·have:=I.oV x c q
  rw[aU (nn this)];exact this
 ·obtain⟨p1,p2,p3⟩:=I.pin p hp
  exact⟨p1,by rw[aU (nn p2)];exact p2,p3⟩
 ·have st:∀ {c:Addr} {w:HO},ji X.prog X.w H s.heap c w->ji X.prog X.w (upd H a (.dK ks)) s.heap c w:=fun x=>
   x.stay (fun _ _ _ r=>r) (fun d r=>by rw[aU (ne r fun z=>by cases z)];exact r) fun d xs r=>by rw[aU (ne r fun z=>by cases z)];exact r
  by_cases hba:b=a
  ·subst hba
   rw[cG] at q
   cases q
   exact st (I.hok _ _ e).2
  ·rw[aU hba] at q
   exact st (I.hok _ _ q)
theorem aeF (I:L2.Inv X pins σ H s) (e:H a=some (.dK ks)) (ho:s.heap.get? a=some o):L2.Inv X pins σ (upd H a (.q9 o (.dK ks))) s:=by
 have:=I.write (t':=s.toks) (h':=s.heap) (x:=a) (e:=a) (o:=.q9 o (.dK ks)) (by rw[e];exact True.intro) (.inl rfl) (fun _ _ _ z=>z) ⟨o,ho⟩ ⟨ho,(I.hok _ _ e).stay (fun _ _ _ r=>r) (fun d r=>by rw[aU (n6 r e (by intro z;cases z))];exact r) fun d xs r=>by rw[aU (n6 r e (by intro z;cases z))];exact r⟩
 exact this
theorem Zd (I:L2.Inv X pins σ H s) (e:H a=some (.dK ks)):∀ ob u,X.H₀ a≠some (.q9 ob u):=fun ob u q=>by
 have:=I.base.wg a ob u q
 rw[e] at this;cases this
mutual
theorem Rep.Lz {K:PySem.W.Frag} (e:H a=some (.q9 o (.dK ks))) (hk:ks≠[]):∀ {d:Dt} {v:V},Rep K H d v->Rep K (upd H a (.dK ks)) d v
 |.non,_,h=>by simpa only[Rep] using h
 |.bl _,_,h=>by simpa only[Rep] using h
 |.int _,_,h=>by simpa only[Rep] using h
 |.str _,_,h=>by simpa only[Rep] using h
 |.tup ds,_,h=>by
  simp only[Rep] at h ⊢
  obtain⟨b,vs,e1,q,r⟩:=h
  refine⟨b,vs,e1,?_,aO.Lz e hk r⟩
  rcases q with (q|⟨ob,q⟩)|q
  ·exact .inl (.inl (by rw[aU (fun z=>by subst z;rw[e] at q;cases q)];exact q))
  ·exact .inl (.inr ⟨ob,by rw[aU (fun z=>by subst z;rw[e] at q;cases q)];exact q⟩)
  ·exact .inr q
 |.lst ds,_,h=>by
  simp only[Rep] at h ⊢
  obtain⟨b,vs,e1,q,r⟩:=h
  refine⟨b,vs,e1,?_,aO.Lz e hk r⟩
  rcases q with⟨ob,q⟩|q
  ·exact .inl ⟨ob,by rw[aU (fun z=>by subst z;rw[e] at q;cases q)];exact q⟩
  ·exact .inr q
 |.emp,_,h=>by
  simp only[Rep] at h ⊢
  obtain⟨b,ob,e1,q⟩:=h
  exact⟨b,ob,e1,by rw[aU (fun z=>by subst z;rw[e] at q;cases q;exact hk rfl)];exact q⟩
theorem aO.Lz {K:PySem.W.Frag} (e:H a=some (.q9 o (.dK ks))) (hk:ks≠[]):∀ {ds:List Dt} {vs:List V},aO K H ds vs->aO K (upd H a (.dK ks)) ds vs
 |[],_,h=>by simpa only[aO] using h
 |d::ds,_,h=>by
  simp only[aO] at h ⊢
  obtain⟨v,r,e1,q,t⟩:=h
  exact⟨v,r,e1,Rep.Lz e hk q,aO.Lz e hk t⟩
end
def Itd (a:Addr) (o:Obj) (ks:List (Key×V)):It:=
 ⟨fun i H=>H a=some (.q9 o (.dK ks))/\i < ks.length,fun i H x H'=>H'=H/\(ks.map fun k=>kV k.1)[i]?=some x,fun i H=>H a=some (.q9 o (.dK ks))/\ks.length<=i⟩
theorem Qv {P:Program} {w:World} {h:Heap} (x:ji P w H h a (.q9 o (.dK ks))) {es:Array DictEntry} {ep:Nat} (hd:o.data=.dict es ep):∃ vs,KV ks vs/\h.DictAt (bU P w) a vs ep:=by
 obtain⟨e,_,_,vs,kv,ob,es',ep',e2,c,d,r⟩:=x
 rw[e] at e2
 cases e2
 rw[hd] at d
 cases d
 exact⟨vs,kv,o,es,e,c,hd,r⟩
theorem V2:∀ {ks:List (Key×V)} {vs:List (Key×Value)},KV ks vs->∀ {i:Nat} {p},ks[i]?=some p->∃ x,vs[i]?=some (p.1,x)
 |_,_,.nil,i,p,q=>by simp at q
 |_,_,.cons h _,0,p,q=>by simp at q;subst q;exact⟨_,by rw[List.getElem?_cons_zero,h.1]⟩
 |_,_,.cons _ t,i+1,p,q=>by
  rw[List.getElem?_cons_succ] at q
  obtain⟨x,hx⟩:=V2 t q
  exact⟨x,by rw[List.getElem?_cons_succ];exact hx⟩
theorem HB {P:Program} {w:World} {K:PySem.W.Frag} {tg:Expr} (it:Addr) {es:Array DictEntry} {ep:Nat} (hd:o.data=.dict es ep) (hne:a≠it):Turn P w K tg (Itd a o ks) [it] it (fun i h=>h.IsKeyIter it a i ks.length ep) where
 mem:=by simp
 obj:=fun i h st b hb=>by
  have e:b=it:=by simpa using hb
  subst e
  obtain⟨ob,e,c,d⟩:=st
  exact⟨ob,e,fun v z=>by rw[d] at z;cases z⟩
 keep:=fun i h h' st k=>st.at fun ob e=>k it (by simp) ob e
 item:=by
  intro X hP hw hK hc i pins s σ H E I hf st hg
  subst hP hw hK
  obtain⟨ha,hi⟩:=hg
  obtain⟨vs,kv,dd⟩:=Qv (I.hok _ _ ha) hd
  have hl:ks.length=vs.length:=kv.length
  obtain⟨x,hx⟩:=V2 kv (show ks[i]?=some ks[i] by simp[hi])
  obtain⟨f0,f1,f2,f3,f4,f5⟩:=hf it (by simp)
  rw[hl] at st
  refine wpAny_pyNext_dict_item st dd hx fun key h' hkey st' sb=>?_
  rw[<-hl] at st'
  have I1:L2.Inv X pins σ H { s with heap:=h' }:=I.turned (t':=s.toks) (fun b ob hb e=>(sb.2 b hb).trans e) f0 f1 f3 f4 f5
  obtain⟨ob,e,c,d⟩:=id st'
  refine⟨key,rfl,GR (s:={ s with heap:=h' }) e c d (by decide) ⟨kV (ks[i]).1,H,I1,?_,⟨rfl,by rw[List.getElem?_map,List.getElem?_eq_getElem hi];rfl⟩,st',fun b hb=>(hf b hb).1⟩⟩
  have hk':kI (ks[i]).1 key=true:=hkey
  rcases cJ hk' with⟨j,t,e2,e3⟩|⟨z,t,e2,e3⟩
  ·rw[e2,e3];exact⟨t,rfl⟩
  ·rw[e2,e3];exact⟨t,rfl⟩
 done:=by
  intro X hP hw hK hc i pins s σ H E I hf st hg
  subst hP hw hK
  obtain⟨ha,hi⟩:=hg
  obtain⟨vs,kv,dd⟩:=Qv (I.hok _ _ ha) hd
  have hl:ks.length=vs.length:=kv.length
  obtain⟨f0,f1,f2,f3,f4,f5⟩:=hf it (by simp)
  rw[hl] at st
  exact wpAny_pyNext_dict_end (I.ok.hd hc) st dd (List.getElem?_eq_none (by omega)) fun h' eb=>⟨rfl,I.turned (t':=s.toks) (fun b ob hb e=>eb b ob hb e) f0 f1 f3 f4 f5⟩
 self:=fun _ _ _ _ _ st h=>wpAny_pyIter_keyiter st h
def keyB:Bx->Option (List Dt)
 |.n kvs=>some (kvs.map fun p=>.str p.1)
 |_=>none
theorem Sy {b:Bx} {ds:List Dt} (h:keyB b=some ds):∃ kvs,b=.n kvs/\ds=kvs.map fun p=>.str p.1:=by
 unfold keyB at h
 split at h
 ·cases h;exact⟨_,rfl,rfl⟩
 ·cases h
theorem Ah {K:PySem.W.Frag} {Hs:Hp} {kvs:List (Str×Dt)} (ha:Hs a=some (.q9 o (.dK ks))) (rm:g8 K Hs kvs ks):Yields K (Itd a o ks) (kvs.map fun p=>.str p.1) Hs:=fun i H s=>by
 have hl:=rm.len
 refine⟨fun d e=>?_,fun e=>⟨s _ _ ha,by rw[List.length_map] at e;omega⟩⟩
 rw[List.getElem?_map] at e
 cases hp:kvs[i]? with
 |none=>rw[hp] at e;cases e
 |some p=>
  rw[hp] at e
  cases e
  have hi:i < kvs.length:=(List.getElem?_eq_some_iff.mp hp).1
  refine⟨⟨s _ _ ha,by omega⟩,fun x H' y=>?_⟩
  obtain⟨y1,y2⟩:=y
  refine⟨y1,?_⟩
  have h1:(ks.map (·.1))[i]?=some (Sum.inr p.1):=by rw[rm.1,List.getElem?_map,hp];rfl
  rw[List.getElem?_map] at h1 y2
  cases hk:ks[i]? with
  |none=>rw[hk] at h1;cases h1
  |some q=>
   rw[hk] at h1 y2
   cases y2
   have:q.1=Sum.inr p.1:=by simpa using h1
   show Rep K H (.str p.1) (kV q.1)
   rw[this]
   unfold Rep
   exact⟨rfl,rm.2.2 p (List.mem_of_getElem? hp)⟩
theorem OJ {K:PySem.W.Frag} {H1:Hp} {σ:L2.St} {ρ:Ev} {is:List Nat} {n:Nat} (e:H1 a=some (.dK ks)) (E:cQ K H1 H1 (uF is σ++List.replicate n none) (gR is ρ++List.replicate n none)):cQ K (upd H1 a (.q9 o (.dK ks))) (upd H1 a (.q9 o (.dK ks))) (uF is σ++List.replicate n none) (gR is ρ++List.replicate n none):=by
 have kp:Kp H1 (upd H1 a (.q9 o (.dK ks))):=.dk e
 have Hg:∀ (j:Nat) c,(gR is ρ++List.replicate n none)[j]?=some (some c)->uD c=false:=fun j c e=>by
  by_cases hj:j < is.length
  ·rw[List.getElem?_append_left (by simp[gR];omega)] at e
   unfold gR at e
   rw[List.getElem?_map] at e
   cases q:is[j]? with
   |none=>rw[q] at e;cases e
   |some i=>
    rw[q] at e
    have:xW ρ i=some c:=by simpa using e
    exact vV this
  ·rw[List.getElem?_append_right (by simp[gR];omega),List.getElem?_replicate] at e
   split at e<;>cases e
 refine⟨E.len,fun j b eb=>?_,fun j k c a b e ec=>absurd ec (by rw[Hg j c e];exact Bool.false_ne_true),Same.refl _,fun j c a e ec=>absurd ec (by rw[Hg j c e];exact Bool.false_ne_true)⟩
 obtain⟨v,ev,r⟩:=E.val j b eb
 refine⟨v,ev,?_⟩
 cases b with
 |z d=>exact Rep.kp kp r
 |o ds=>have:=Hg j _ eb;cases this
 |m ds _=>have:=Hg j _ eb;cases this
 |l ds=>
  obtain⟨b,vs,e1,q,r⟩:=r
  refine⟨b,vs,e1,?_,r.kp kp⟩
  rcases q with q|⟨ob,q⟩
  ·exact .inl (by rw[aU (n6 q e (by intro z;cases z))];exact q)
  ·exact .inr ⟨ob,by rw[aU (n6 q e (by intro z;cases z))];exact q⟩
 |n ds=>
  obtain⟨b,vs,e1,q,r⟩:=r
  refine⟨b,vs,e1,?_,r.kp kp⟩
  by_cases hb:b=a
  ·subst hb
   rcases q with q|⟨ob,q⟩
   ·rw[e] at q;cases q
    exact .inr ⟨o,cG⟩
   ·rw[e] at q;cases q
  ·rcases q with q|⟨ob,q⟩
   ·exact .inl (by rw[aU hb];exact q)
   ·exact .inr ⟨ob,by rw[aU hb];exact q⟩
end
section
variable {X:Cx} {e elt tgt iter:Expr} {ifs:List Expr} {fd:Ev->Option Bx} {scope:Scope} {cl:List (Str×Addr)} {pos:Pos} {xs ts:List Str} {is:List Nat} {gt:Dt->Ev->Option Ev} {p:Ev->Option Bool} {fe:Ev->Option Bx}
def LC (fd:Ev->Option Bx):Ev->Option (List Dt):=fun ρ=>(fd ρ).bind keyB
theorem SJ (ρ:Ev):oh gt p fe ρ []=some []:=rfl
theorem LK (ts:List Str) (O:wV X scope cl xs is) (hcalm:X.calm=true) (hi:QV X iter fd)
  (Kq:∀ C s₀ H₀ fp,W7 (wU X (xs++ts) scope cl C s₀ H₀ fp) tgt gt) (hif:∀ C s₀ H₀ fp,zB (wU X (xs++ts) scope cl C s₀ H₀ fp) ifs p) (helt:∀ C s₀ H₀ fp,QV (wU X (xs++ts) scope cl C s₀ H₀ fp) elt fe) (htk:Uw is.length gt)
  (hs:∀ x,foldedSetIterable iter X.env x=pure x:=by intro _;rfl):QV X (.ListComp elt [⟨tgt,iter,ifs,0⟩] scope pos) (dU (LC fd) gt p fe is ts.length):=⟨fun pins s σ H Q I h=>by
 obtain⟨H0,ρ,b,E,e,q⟩:=h
 obtain⟨ds,ed,e⟩:=bind_some e
 split at e
 ·rename_i hlen
  obtain⟨out,eo,e⟩:=bind_some e
  cases e
  obtain⟨bd,ebd,ed⟩:=bind_some ed
  obtain⟨kvs,rfl,rfl⟩:=Sy ed
  rw[eval_ListComp]
  refine wpAny_comprehension_free (use:=none) rfl hs O.clos O.kind O.names ?_
  refine j6 (hi.run pins s σ H (fun v H1=>Same H H1/\bN X.K H1 (.n kvs) v) I ⟨H0,ρ,_,E,ebd,fun v H1 s1 _ r1=>⟨s1,r1⟩⟩) fun v s1 ⟨v',H1,I1,rv,s01,r1⟩=>?_
  obtain⟨a,ks,rfl,rd,rm⟩:=r1
  cases rv
  obtain⟨_,hsys,vs,kv,ob,es,ep,dd⟩:=KJ I1.hok rd
  have hob:=dd.1
  have hdat:=dd.2.2.1
  refine wpAny_pyIter_dict hsys (⟨ob,es,dd⟩:s1.heap.DictAt (bU X.prog X.w) a vs ep) ?_
  have hlt:a < s1.heap.objs.size:=Heap.lt_size hob
  have hl:ks.length=vs.length:=kv.length
  have aeG:∀ {H':Hp},L2.Inv X pins σ H' s1->∀ b∈[s1.heap.objs.size],uH X pins H' b:=fun I' b hb=>by
   have e:b=s1.heap.objs.size:=by simpa using hb
   subst e
   exact I'.Q9 (Nat.le_refl _) (I'.hok.fresh (Nat.le_refl _))
  have st0:Heap.IsKeyIter (s1.heap.push { cls:=.type "dict_keyiterator", data:=.fields #[.ref a,.int 0 0,.int vs.length 0,.int ep 0] }) s1.heap.objs.size a 0 ks.length ep:=⟨_,Heap.get?_push_size _ rfl,rfl,by rw[hl];rfl⟩
  rcases rd with rd|⟨o',rd⟩
  ·
   have I2:=aeF I1 rd hob
   have I3:L2.Inv X pins σ (upd H1 a (.q9 ob (.dK ks))) { s1 with heap:=s1.heap.push { cls:=.type "dict_keyiterator", data:=.fields #[.ref a,.int 0 0,.int vs.length 0,.int ep 0] } }:=I2.kept (t':=s1.toks) fun b o e=>Heap.get?_push_of_some _ e
   have rm2:g8 X.K (upd H1 a (.q9 ob (.dK ks))) kvs ks:=rm.kp (.dk rd)
   refine xZ (RR:=fun acc C=>compPost (model X.prog X.w) X.A X.xe none (EP X pins σ Q) acc C) (ts:=ts) (xs:=xs) (H:=H) O.kind O.cell hcalm O.sub O.has O.cap (fun C s₀ H₀ fp=>(Kq C s₀ H₀ fp).run) (fun C s₀ H₀ fp=>(hif C s₀ H₀ fp).run) (fun C s₀ H₀ fp=>(helt C s₀ H₀ fp).run) htk I3 (OJ rd ((E.grow s01).caps is ts.length)) (HB s1.heap.objs.size hdat (Nat.ne_of_lt hlt)) st0 (aeG I2) (Ah cG rm2) hlen eo ?_
   intro D C s' H' us hD I' fC ⟨m,hn⟩ s2' hD' r'
   have ha':H' a=some (.q9 ob (.dK ks)):=s2' _ _ cG
   have hDa:D≠a:=fun z=>by subst z;rw[cG] at hD;cases hD
   have hD1:H1 D=none:=by rw[aU hDa] at hD;exact hD
   have sm:Same H1 (upd H' a (.dK ks)):=fun b u e=>by
    by_cases hb:b=a
    ·subst hb;rw[rd] at e;cases e;exact cG
    ·rw[aU hb];exact s2' b u (by rw[aU hb];exact e)
   have rr:aO X.K (upd H' a (.dK ks)) out us:=by
    by_cases hk:ks=[]
    ·have:kvs=[]:=by have:=rm.len;rw[hk] at this;exact List.length_eq_zero_iff.mp (by simpa using this.symm)
     subst this
     simp only[List.map_nil] at eo
     rw[SJ] at eo
     cases eo
     simpa only[aO] using r'
    ·exact aO.Lz ha' hk r'
   refine⟨m,hn,fun h' sb=>⟨.ref D,upd H' a (.dK ks),?_,rfl,q _ _ (s01.trans sm) (fun a ea=>by cases ea;exact s01.free hD1) ⟨D,us,rfl,by rw[aU hDa];exact hD',rr⟩⟩⟩
   obtain⟨f0,f1,f2,f3,f4,f5⟩:=fC
   have hCa:C≠a:=fun z=>by subst z;rw[ha'] at f0;cases f0
   exact (Lz (Zd I1 rd) I' ha').turned (t':=s'.toks) (fun b o hb e=>(sb.2 b hb).trans e) (by rw[aU hCa];exact f0) f1 f3 f4 f5
  ·have hoo:o'=ob:=by
    have:=(I1.hok _ _ rd).1
    rw[hob] at this;cases this;rfl
   subst hoo
   have I3:L2.Inv X pins σ H1 { s1 with heap:=s1.heap.push { cls:=.type "dict_keyiterator", data:=.fields #[.ref a,.int 0 0,.int vs.length 0,.int ep 0] } }:=I1.kept (t':=s1.toks) fun b o e=>Heap.get?_push_of_some _ e
   refine xZ (RR:=fun acc C=>compPost (model X.prog X.w) X.A X.xe none (EP X pins σ Q) acc C) (ts:=ts) (xs:=xs) (H:=H) O.kind O.cell hcalm O.sub O.has O.cap (fun C s₀ H₀ fp=>(Kq C s₀ H₀ fp).run) (fun C s₀ H₀ fp=>(hif C s₀ H₀ fp).run) (fun C s₀ H₀ fp=>(helt C s₀ H₀ fp).run) htk I3 ((E.grow s01).caps is ts.length) (HB s1.heap.objs.size hdat (Nat.ne_of_lt hlt)) st0 (aeG I1) (Ah rd rm) hlen eo ?_
   intro D C s' H' us hD I' fC ⟨m,hn⟩ s2' hD' r'
   refine⟨m,hn,fun h' sb=>⟨.ref D,H',?_,rfl,q _ _ (s01.trans s2') (fun a ea=>by cases ea;exact s01.free hD) ⟨D,us,rfl,hD',r'⟩⟩⟩
   obtain⟨f0,f1,f2,f3,f4,f5⟩:=fC
   exact I'.turned (t':=s'.toks) (fun b o hb e=>(sb.2 b hb).trans e) f0 f1 f3 f4 f5
 ·cases e⟩
end
section
variable {prog:Program} {w:World} {A:Around} {E:Value->Shared->Prop} {s:Shared}
theorem LQ {R:Result->Shared->Prop} {d:Addr} {kvs:List (Key×Value)} {ep:Nat} (hh:A.handled=none) (hd:(d==sysModules)=false) (hm:s.heap.DictAt (bU prog w) d kvs ep) (hn:kvs.length<=sizeLine) (S:Addr) (hdS:d≠S) (res:Value) (c₀:Nat) (hS0:s.heap.get? S=some { cls:=.type "list", data:=.seq #[] c₀ })
  (hR:∀ h' tk acc' c',(∀ b o,b≠S->s.heap.get? b=some o->h'.get? b=some o)->h'.get? S=some { cls:=.type "list", dict:=none,data:=.seq acc' c',slots:=#[] } →
   ItemsOf (fun i v=>∃ k x,kvs[i]?=some (k,x)/\(bU prog w).is k v=true) acc' kvs.length->R (.ok (.ret res)) { s with heap:=h',toks:=tk }) :
  wpAny (model prog w) A.in1 (Builtin.List.listExtendWith (.ref S) (.ref d) res)
   (fun fin s'=>match fin with|.done f=>R (.ok f) s'|.again c'=>c'.quiet=true/\codeAny (model prog w) A c' R s') (fun e s'=>R (.error e) s') s:=by
 have hlt:d < s.heap.objs.size:=by obtain⟨o,_,ho,_⟩:=hm;exact Heap.lt_size ho
 have hSlt:S < s.heap.objs.size:=Heap.lt_size hS0
 unfold Builtin.List.listExtendWith
 refine wpAny_bind (wpAny_typeOf (T := "dict") hm.dictOf.typeIs ?_)
 have h1:Builtin.List.listSameRef (.ref S) (.ref d)=false:=by simp[Builtin.List.listSameRef];exact fun e=>hdS e.symm
 simp only[h1,show (Value.type "dict" == Value.type "list")=false by decide,show (Value.type "dict" == Value.type "tuple")=false by decide,Bool.or_false,Bool.false_eq_true,if_false]
 refine wpAny_bind (wpAny_pyIter_dict hd hm ?_)
 refine wpAny_bind (wpAny_holding ?_)
 have hm2:=hm.at' (h':=s.heap.push { cls:=.type "dict_keyiterator", data:=.fields #[.ref d,.int 0 0,.int kvs.length 0,.int ep 0] }) fun o e=>Heap.get?_push_of_some _ e
 unfold Builtin.List.listLengthHint
 refine wpAny_bind (wpAny_specialOf (T := "dict") hm2.dictOf.typeIs F.slot_dict_len.lookup ?_)
 wp_delta
 refine wpAny_bind (wpAny_isInstance (T := "dict") (b:=true) hm2.dictOf.typeIs (by rw[isSubtype_type];kernel_rfl) ?_)
 show wpAny _ A.in1 (typeOf (Value.ref d) >>= _) _ _ _
 refine wpAny_bind (wpAny_typeOf (T := "dict") hm2.dictOf.typeIs (wpAny_pure ?_))
 rw[if_pos (by decide)]
 show wpAny _ A.in1 (Builtin.List.listTouch (Value.ref S) >>= fun _=>again (Code.builtin "list.extend.loop" ⟨[Value.ref S,Value.ref s.heap.objs.size,res],[]⟩)) _ _ _
 generalize hG:s.heap.push { cls:=.type "dict_keyiterator", data:=.fields #[.ref d,.int 0 0,.int kvs.length 0,.int ep 0] }=G at hm2 ⊢
 have hS:G.get? S=some { cls:=.type "list", data:=.seq #[] c₀ }:=by
  rw[<-hG]
  exact Heap.get?_push_of_some _ hS0
 have hI:G.get? s.heap.objs.size=some { cls:=.type "dict_keyiterator", data:=.fields #[.ref d,.int 0 0,.int kvs.length 0,.int ep 0] }:=by
  rw[<-hG]
  exact Heap.get?_push_size _ rfl
 unfold Builtin.List.listTouch
 refine wpAny_bind (wpAny_bind (listUpdate_at hS rfl (listUpdate_at (get?_update_seq hS _) rfl ?_ (by show _<=_;decide) (by show _<=_;decide)) (by show _<=_;decide) (by show _<=_;decide)))
 have hIS:s.heap.objs.size≠S:=Nat.ne_of_gt hSlt
 have hS3:=get?_update_seq (get?_update_seq hS (fun x=>x.push Value.none)) (fun x=>x.pop)
 generalize hU:(G.update S (Obj.mapSeq fun x=>x.push Value.none)).update S (Obj.mapSeq fun x=>x.pop)=U at hS3
 have keep:∀ b,b≠S->U.get? b=G.get? b:=fun b hb=>by rw[<-hU,Heap.get?_update_ne _ _ _ _ hb,Heap.get?_update_ne _ _ _ _ hb]
 have st0:U.IsKeyIter s.heap.objs.size d 0 kvs.length ep/\U.DictAt (bU prog w) d kvs ep:=⟨⟨_,(keep _ hIS).trans hI,rfl,rfl⟩,hm2.at' fun o e=>(keep d hdS).trans e⟩
 show wpAny _ A.in1 (again _) _ _ { s with heap:=U }
 have hSf:S∉[s.heap.objs.size,d]:=fun h=>by
  simp only[List.mem_cons,List.not_mem_nil,or_false] at h
  rcases h with h|h
  ·exact hIS h.symm
  ·exact hdS h.symm
 refine wpAny_pure ⟨plainId_quiet F.plain_extend_loop _,codeAny_extend_loopS (Walks.dictKeys (A:=A.in1) hh s.heap.objs.size d (Nat.ne_of_lt hlt) kvs ep).toS hn S hSf _ kvs.length 0 { s with heap:=U } #[] _ rfl (Nat.zero_le _) st0 hS3 (ItemsOf.nil _) fun s' acc' c' mv hS' hacc=>?_⟩
 rw[Moved.eq_with mv]
 refine hR s'.heap s'.toks acc' c' (fun b ob hb e=>?_) hS' hacc
 have hb':=Heap.lt_size e
 refine mv.heap b ob (fun h=>?_) ((keep b hb).trans ?_)
 ·simp only[List.mem_cons,List.not_mem_nil,or_false] at h
  rcases h with h|h
  ·exact hb h
  ·exact Nat.ne_of_lt hb' h
 ·rw[<-hG]
  exact Heap.get?_push_of_some _ e
theorem Dr {Q:Value->Shared->Prop} {d:Addr} {kvs:List (Key×Value)} {ep:Nat} (hh:A.handled=none) (hd:(d==sysModules)=false) (hm:s.heap.DictAt (bU prog w) d kvs ep) (hn:kvs.length<=sizeLine)
  (hQ:∀ h' tk acc' c',(∀ b o,s.heap.get? b=some o->h'.get? b=some o) →
   h'.get? s.heap.objs.size=some { cls:=.type "list", dict:=none,data:=.seq acc' c',slots:=#[] }->ItemsOf (fun i v=>∃ k x,kvs[i]?=some (k,x)/\(bU prog w).is k v=true) acc' kvs.length->Q (.ref s.heap.objs.size) { s with heap:=h',toks:=tk }) :
  wpAny (model prog w) A (call (.type "list") [.ref d]) Q E s:=by
 have hlt:d < s.heap.objs.size:=by obtain⟨o,_,ho,_⟩:=hm;exact Heap.lt_size ho
 refine callType_codes (Q₁:=fun obj s₁=>obj=.ref s.heap.objs.size/\s₁={ s with heap:=s.heap.push { cls:=.type "list", data:=.seq #[] } }) F.called_list (F.typeCall_list_1 _) F.entry_list_init
  (code_list_new _ ⟨rfl,rfl⟩) fun obj s₁ h₁=>?_
 obtain⟨rfl,rfl⟩:=h₁
 have hS:(s.heap.push { cls:=.type "list", data:=.seq #[] }).get? s.heap.objs.size=some { cls:=.type "list", data:=.seq #[] }:=Heap.get?_push_size _ rfl
 have hm1:=hm.at' (h':=s.heap.push { cls:=.type "list", data:=.seq #[] }) fun o e=>Heap.get?_push_of_some _ e
 refine⟨⟨_,hS,rfl⟩,F.args_list_init_2 _ _,?_⟩
 generalize hH:s.heap.push { cls:=.type "list", data:=.seq #[] }=H at hS hm1 ⊢
 show wpAny _ _ (do let old <-Builtin.List.listItems (.ref s.heap.objs.size);Builtin.List.listUpdate (.ref s.heap.objs.size) (fun _=>#[]);letGo old.toList.reverse;Builtin.List.listExtendWith (.ref s.heap.objs.size) (.ref d) .none) _ _ { s with heap:=H }
 refine wpAny_bind ?_
 unfold Builtin.List.listItems
 refine wpAny_bind (wpAny_seqItems hS rfl (wpAny_pure ?_))
 show wpAny _ _ (updateSeq s.heap.objs.size (fun _=>#[]) >>= fun _=>letGo (#[]:Array Value).toList.reverse >>= fun _=>Builtin.List.listExtendWith (.ref s.heap.objs.size) (.ref d) .none) _ _ _
 refine wpAny_bind (wpAny_updateSeq hS rfl ?_)
 have hS₂:=Heap.get?_update_self (Obj.mapSeq (fun _=>(#[]:Array Value))) hS rfl
 have oth:∀ b o,b≠s.heap.objs.size->H.get? b=some o->(H.update s.heap.objs.size (Obj.mapSeq (fun _=>(#[]:Array Value)))).get? b=some o:=
  fun b o hb e=>(Heap.get?_update_other _ _ (Ne.symm hb)).trans e
 refine wpAny_bind (wpAny_letGo ?_)
 refine LQ (A:=A.in1) hh hd (hm1.at' fun o e=>oth d o (Nat.ne_of_lt hlt) e) hn s.heap.objs.size (Nat.ne_of_lt hlt) .none _ hS₂ fun h' tk acc' c' hk hS' hacc=>?_
 exact⟨rfl,hQ h' tk acc' c' (fun b o e=>hk b o (Nat.ne_of_lt (Heap.lt_size e)) (oth b o (Nat.ne_of_lt (Heap.lt_size e)) (by rw[<-hH];exact Heap.get?_push_of_some _ e))) hS' hacc⟩
theorem acv {P:Nat->Value->Prop} (val:Nat->Str) (hval:∀ i v,P i v->∃ t,v=.str (val i) t):CmpOf prog w A .Lt P (fun i j=>decide ((val i).cps.toList < (val j).cps.toList)):=fun i j vi vj s Q E hi hj h=>by
 obtain⟨t,rfl⟩:=hval i vi hi
 obtain⟨u,rfl⟩:=hval j vj hj
 exact richCompare_gives (op:=.Lt) (typeIs_str s _ t) (typeIs_str s _ u) F.slot_str_lt F.entry_str_lt (F.args_str_lt_2 _ _) (gives_str_lt _ _ t u) (fun x=>nomatch x) h
def two (a b:Str) (i:Nat):Str:=if i=0 then a else b
theorem acw {a b:Str} {t u:Tok} (i:Nat) (v:Value) (h:(#[Value.str a t,Value.str b u])[i]?=some v):∃ t',v=.str (two a b i) t':=by
 match i,h with
 |0,h=>cases h;exact⟨t,rfl⟩
 |1,h=>cases h;exact⟨u,rfl⟩
 |_+2,h=>simp at h
theorem V3 {a b:Str} {t u:Tok} {op:CmpOp} {Q:Value->Shared->Prop} {bt:Nat->Nat->Bool} (hh:A.handled=none) (hc:CmpOf prog w A.in1 op (fun i v=>(#[Value.str a t,Value.str b u])[i]?=some v) bt)
  (h:∀ h' tk,(∀ c o,s.heap.get? c=some o->h'.get? c=some o)->Q (if bt 1 0=true then .str b u else .str a t) { s with heap:=h',toks:=tk }) :
  wpAny (model prog w) A.in1 (pyIter (.ref s.heap.objs.size)) (fun it s₂=>∃ I fp wr n P St bt,it=.ref I/\Walks prog w A.in1 I fp wr n P St/\St 0 s₂.heap/\(∀ b∈fp,b < s₂.heap.objs.size)/\0 < n/\CmpOf prog w A.in1 op P bt ∧
   ∀ v h' tk,P (argBest bt (n - 1)) v->(∀ b o,b∉wr->s₂.heap.get? b=some o->h'.get? b=some o)->Q v { s₂ with heap:=h',toks:=tk }) E
   { s with heap:=s.heap.push { cls:=.type "tuple", data:=.seq #[.str a t,.str b u] } }:=by
 have hT:(s.heap.push { cls:=.type "tuple", data:=.seq #[.str a t,.str b u] }).IsTuple s.heap.objs.size #[.str a t,.str b u]:=⟨_,Heap.get?_push_size _ rfl,rfl,0,rfl⟩
 refine wpAny_pyIter_tuple hT ?_
 have hsz:(s.heap.push { cls:=.type "tuple", data:=.seq #[.str a t,.str b u] }).objs.size=s.heap.objs.size+1:=Heap.size_push ..
 refine⟨_,[_,s.heap.objs.size],[_],_,_,_,bt,rfl,Walks.tuple (A:=A.in1) hh _ s.heap.objs.size (by rw[hsz];exact Nat.ne_of_lt (Nat.lt_succ_self _)) #[.str a t,.str b u],
  ⟨⟨_,Heap.get?_push_size _ rfl,rfl,rfl⟩,hT.push _⟩,fun c hc=>?_,by simp,hc,fun v h' tk hP hk=>?_⟩
 ·show c < ((s.heap.push _).push _).objs.size
  rw[Heap.size_push,hsz]
  rcases List.mem_cons.mp hc with rfl|hc
  ·rw[hsz];exact Nat.lt_succ_self _
  ·rcases List.mem_cons.mp hc with rfl|hc
   ·exact Nat.lt_succ_of_lt (Nat.lt_succ_self _)
   ·cases hc
 ·have hold:∀ c o,s.heap.get? c=some o->h'.get? c=some o:=fun c o e=>by
   refine hk c o (fun hm=>?_) (Heap.get?_push_of_some _ (Heap.get?_push_of_some _ e))
   rcases List.mem_cons.mp hm with e1|hm
   ·have:=Heap.lt_size e;rw[e1,hsz] at this;exact Nat.lt_irrefl _ (Nat.lt_of_succ_lt this)
   ·cases hm
  have:=h h' tk hold
  have hv:v=if bt 1 0=true then Value.str b u else Value.str a t:=by
   have hP':(#[Value.str a t,Value.str b u])[argBest bt 1]?=some v:=hP
   unfold argBest argBest at hP'
   by_cases hba:bt 1 0=true
   ·rw[if_pos hba] at hP' ⊢
    exact (by simpa using hP'.symm)
   ·rw[if_neg hba] at hP' ⊢
    exact (by simpa using hP'.symm)
  rw[hv];exact this
end
section
variable {X:Cx}
def Ds:List Bx->Option Bx
 |[.z (.str a),.z (.str b)]=>some (.z (.str (if acy b a=true then b else a)))
 |_=>none
where acy (x y:Str):Bool:=decide (x.cps.toList < y.cps.toList)
theorem Ze (hc:X.calm=true):oW X (.builtin "min") Ds:=by
 intro pins s σ H xs us Q I r h
 obtain⟨bs,c,rb,e,q⟩:=h
 unfold Ds at e
 split at e
 ·rename_i a b
  cases e
  obtain⟨v,w,rfl,r1,r2⟩:=Vb rb
  obtain⟨rfl,h1⟩:=Rz r1
  obtain⟨rfl,h2⟩:=Rz r2
  obtain⟨u,u',rfl,ru,ru'⟩:=Vals.two r
  obtain⟨t,rfl⟩:=ru
  obtain⟨t',rfl⟩:=ru'
  refine call_min_two (V3 (I.ok.hd hc) (acv (two a b) acw) fun h' tk kp=>?_)
  show EP X pins σ Q (if Ds.acy b a=true then _ else _) _
  by_cases hb:Ds.acy b a=true
  ·rw[if_pos hb] at q ⊢
   exact⟨.str b,H,I.kept kp,⟨_,rfl⟩,q _ H (Same.refl H) trivial r2⟩
  ·rw[if_neg hb] at q ⊢
   exact⟨.str a,H,I.kept kp,⟨_,rfl⟩,q _ H (Same.refl H) trivial r1⟩
 ·cases e
def Du:List Bx->Option Bx
 |[.n kvs]=>some (.o (kvs.map fun p=>Dt.str p.1))
 |_=>none
theorem V4 (hc:X.calm=true):oW X (.type "list") Du:=by
 intro pins s σ H xs us Q I r h
 obtain⟨bs,c,rb,e,q⟩:=h
 unfold Du at e
 split at e
 ·rename_i kvs
  cases e
  obtain⟨v,rfl,r1⟩:=rep1 rb
  obtain⟨a,ks,rfl,rd,rm⟩:=r1
  obtain⟨u,rfl,ru⟩:=vals1 r
  cases ru
  obtain⟨hz,hsys,vs,kv,o,es,ep,dd⟩:=KJ I.hok rd
  have hk:vs.map (·.1)=(kvs.map (·.1)).map Sum.inr:=by rw[Qg kv,rm.1,List.map_map];rfl
  have hl:ks.length=vs.length:=kv.length
  refine Dr (I.ok.hd hc) hsys ⟨o,es,dd⟩ (by omega) fun h' tk acc c' ext en hit=>?_
  have z1:=Oe hk hit
  have hy:∀ y∈kvs.map (·.1),y.length<=sizeLine:=fun y hy=>by
   obtain⟨p,hp,rfl⟩:=List.mem_map.mp hy
   exact rm.2.2 p hp
  have hfr:=I.hok.fresh (Nat.le_refl s.heap.objs.size)
  have e2:(kvs.map fun p=>Dt.str p.1)=(kvs.map (·.1)).map Dt.str:=by rw[List.map_map];rfl
  refine⟨.ref s.heap.objs.size,_,I.laid (t':=tk) (a:=s.heap.objs.size) (o:=.lst ((kvs.map (·.1)).map V.str)) ext (Nat.le_refl _) ?_,rfl,q _ _ (cV hfr) (fun a ea=>by cases ea;exact hfr) ⟨_,_,rfl,cG,by rw[e2];exact CK hy⟩⟩
  refine⟨by rw[List.length_map,List.length_map,<-rm.len];exact hz,acc.toList,c',zy z1,?_⟩
  rw[en]
 ·cases e
end
def hole (H:Hp) (a:Addr):Hp:=fun b=>if b=a then none else H b
theorem Qw {H:Hp} {a b:Addr} (h:b≠a):hole H a b=H b:=if_neg h
theorem Qx {H:Hp} {a:Addr}:hole H a a=none:=if_pos rfl
def isZ:Bx->Bool
 |.z _=>true
 |_=>false
def spM (K:PySem.W.Frag) (n:Nat) (G:Addr->List (Str×Dt)->List Bx->Option (List (Str×Dt))):Sp:=fun vs H Q _=>vs.length=n+1/\∃ a ks kvs rest bs kvs',vs=.ref a::rest/\H a=some (.dK ks)/\g8 K H kvs ks/\n8 K H bs rest/\bs.all isZ=true/\G a kvs bs=some kvs'/\∀ H' ks',Same (hole H a) H'->H' a=some (.dK ks')->g8 K H' kvs' ks'->Q .non H'
def LR (n:Nat) (g:Ev->Option Out):Addr->List (Str×Dt)->List Bx->Option (List (Str×Dt)):=fun a kvs bs=>(g ((Bx.m kvs (some a)::bs).map some++List.replicate (n - (bs.length+1)) none)).bind fun r=>match r with
 |.nx ρ=>match ρ[0]? with
  |some (some (Bx.m kvs' (some b)))=>if b=a then some kvs' else none
  |_=>none
 |_=>none
theorem O1 {n:Nat} {g:Ev->Option Out} {a:Addr} {kvs kvs':List (Str×Dt)} {bs:List Bx} (h:LR n g a kvs bs=some kvs'):∃ ρ,g ((Bx.m kvs (some a)::bs).map some++List.replicate (n - (bs.length+1)) none)=some (.nx ρ)/\ρ[0]?=some (some (.m kvs' (some a))):=by
 obtain⟨r,er,h⟩:=bind_some h
 cases r with
 |nx ρ=>
  dsimp only at h
  split at h
  ·rename_i k b e
   split at h
   ·rename_i hb
    cases h
    subst hb
    exact⟨ρ,er,e⟩
   ·cases h
  ·cases h
 |rt _=>cases h
 |bk _=>cases h
 |ct _=>cases h
theorem Dv {α β:Type} {R:α->β->Prop}:∀ {xs:List α} {ys:List β},Paired R xs ys->∀ {i:Nat} {x:α},xs[i]?=some x->∃ y,ys[i]?=some y/\R x y
 |_,_,.nil,i,x,q=>by simp at q
 |_,_,.cons r _,0,x,q=>by simp at q;subst q;exact⟨_,rfl,r⟩
 |_,_,.cons _ t,i+1,x,q=>by
  rw[List.getElem?_cons_succ] at q
  obtain⟨y,y1,y2⟩:=Dv t q
  exact⟨y,by rw[List.getElem?_cons_succ];exact y1,y2⟩
theorem cQ.startM {K:PySem.W.Frag} {H:Hp} {N:List Str} {bs:List Bx} {rest:List V} {a:Addr} {ks:List (Key×V)} {kvs:List (Str×Dt)} (ha:H a=some (.dK ks)) (rm:g8 K H kvs ks) (r:n8 K H bs rest) (hz:bs.all isZ=true):cQ K (hole H a) H (L2.start N (.ref a::rest)) ((Bx.m kvs (some a)::bs).map some++List.replicate (N.length - (bs.length+1)) none):=by
 have hl:bs.length=rest.length:=Paired.length r
 have r2:n8 K H (.m kvs (some a)::bs) (.ref a::rest):=.cons ⟨a,ks,rfl,ha,rm,fun b h=>by cases h;rfl⟩ r
 have get:∀ (i:Nat) b,((Bx.m kvs (some a)::bs).map some++List.replicate (N.length - (bs.length+1)) none)[i]?=some (some b)->(Bx.m kvs (some a)::bs)[i]?=some b:=fun i b e=>by
  by_cases hi:i < (Bx.m kvs (some a)::bs).length
  ·rw[List.getElem?_append_left (by simpa using hi),List.getElem?_map] at e
   cases q:(Bx.m kvs (some a)::bs)[i]? with
   |none=>rw[q] at e;cases e
   |some b'=>rw[q] at e;simpa using e
  ·rw[List.getElem?_append_right (by simp at hi ⊢;omega),List.getElem?_replicate] at e
   split at e<;>cases e
 have noz:∀ (i:Nat) b,((Bx.m kvs (some a)::bs).map some++List.replicate (N.length - (bs.length+1)) none)[i]?=some (some b)->i≠0->loose b=false:=fun i b e hi=>by
  have e2:=get i b e
  cases i with
  |zero=>exact absurd rfl hi
  |succ j=>
   rw[List.getElem?_cons_succ] at e2
   have:=List.all_eq_true.mp hz b (List.mem_of_getElem? e2)
   cases b<;>first|rfl|cases this
 have ol:∀ c,uD c=true->loose c=true:=fun c hc=>by cases c<;>first|rfl|cases hc
 have zero:∀ (i:Nat) c,((Bx.m kvs (some a)::bs).map some++List.replicate (N.length - (bs.length+1)) none)[i]?=some (some c)->loose c=true->i=0:=fun i c e hc=>by
  by_cases hi:i=0
  ·exact hi
  ·rw[noz i c e hi] at hc;cases hc
 have st:∀ i v,(Value.ref a=Value.ref a)->(V.ref a::rest)[i]?=some v->(L2.start N (.ref a::rest))[i]?=some (some v):=fun i v _ e=>by
  have hi:i < (V.ref a::rest).length:=(List.getElem?_eq_some_iff.mp e).1
  unfold L2.start
  rw[List.getElem?_append_left (by simpa using hi),List.getElem?_map,e];rfl
 refine⟨by unfold L2.start;simp[hl],fun i b e=>?_,fun i j c x b e1 ec _ e3 hb _=>?_,fun b o e=>?_,fun i c x e ec e2=>?_⟩
 ·obtain⟨v,e1,r1⟩:=Dv r2 (get i b e)
  exact⟨v,st i v rfl e1,r1⟩
 ·rw[zero i c e1 (ol c ec),zero j b e3 hb]
 ·by_cases hb:b=a
  ·subst hb;rw[Qx] at e;cases e
  ·rw[Qw hb] at e;exact e
 ·have hi:=zero i c e (ol c ec)
  subst hi
  rw[st 0 (.ref a) rfl rfl] at e2
  cases e2
  exact Qx
theorem agm {P:Program} {w:World} {K:PySem.W.Frag} {mg:Str->Option Value} {base:Heap} {x qual:Str} {st:Stmt} {f:Addr} {fd:FuncData} {N ps:List Str} {k n m:Nat} {g:Ev->Option Out} (F:Bw K x qual st f fd) (S:fB N ps (aW st)) (hn:N.length=n) (hm:ps.length=m+1)
  (hbody:∀ (cdv:Value) (A:Around) (outer:List Env) (s:Shared) (H:Hp) (E:XK),kJ k (A.deeper (envOfC qual (aW st) s.heap.objs.size f cdv))->RW (Fz nC P w K mg base N qual (aW st) f cdv A outer s H E).Te (dO st) g) :
  fG P w K mg base nC (k+1) f fd ps (spM K m (LR n g)):=by
 subst hn
 refine F.ok S (fun vs H Q E h=>by rw[hm];exact h.1) fun cdv A outer s H vs Q E hr h=>?_
 obtain⟨hl,a,ks,kvs,rest,bs,kvs',rfl,ha,rm,rb,hz,e,q⟩:=h
 refine⟨_,(hbody cdv A outer s H E hr).run,?_⟩
 obtain⟨ρ,er,e0⟩:=O1 e
 refine⟨hole H a,_,_,cQ.startM ha rm rb hz,er,?_⟩
 intro σ' H' E'
 obtain⟨v,ev,b,ks',rfl,hb,rm',tie⟩:=E'.val 0 _ e0
 have:=tie a rfl
 subst this
 exact q H' ks' E'.base hb rm'
open Classical in
noncomputable def Dw (i n:Nat) (G:Addr->List (Str×Dt)->List Bx->Option (List (Str×Dt))) (fs:Ev->Option (List Bx)):Ev->Option Out:=fun ρ=>match ρ[i]? with
 |some (some (.m kvs w))=>(fs ρ).bind fun bs=>if h:bs.length=n/\bs.all isZ=true/\∃ kvs',∀ a,G a kvs bs=some kvs' then some (.nx (ρ.set i (some (.m (Classical.choose h.2.2) w)))) else none
 |_=>none
theorem O2 {i n:Nat} {G:Addr->List (Str×Dt)->List Bx->Option (List (Str×Dt))} {fs:Ev->Option (List Bx)} {ρ:Ev} {r:Out} (h:Dw i n G fs ρ=some r):∃ kvs w bs kvs',ρ[i]?=some (some (.m kvs w))/\fs ρ=some bs/\bs.length=n/\bs.all isZ=true/\(∀ a,G a kvs bs=some kvs')/\r=.nx (ρ.set i (some (.m kvs' w))):=by
 unfold Dw at h
 split at h
 ·rename_i kvs w e
  obtain⟨bs,eb,h⟩:=bind_some h
  split at h
  ·rename_i hh
   cases h
   exact⟨kvs,w,bs,_,e,eb,hh.1,hh.2.1,Classical.choose_spec hh.2.2,rfl⟩
  ·cases h
 ·cases h
theorem V5 {i n:Nat} {G:Addr->List (Str×Dt)->List Bx->Option (List (Str×Dt))} {fs:Ev->Option (List Bx)} {ρ:Ev} {kvs kvs':List (Str×Dt)} {w:Option Addr} {bs:List Bx} (e:ρ[i]?=some (some (.m kvs w))) (eb:fs ρ=some bs) (hl:bs.length=n) (hz:bs.all isZ=true) (hG:∀ a,G a kvs bs=some kvs'):Dw i n G fs ρ=some (.nx (ρ.set i (some (.m kvs' w)))):=by
 unfold Dw
 rw[e]
 simp only[eb,ago]
 have hh:bs.length=n/\bs.all isZ=true/\∃ kvs',∀ a,G a kvs bs=some kvs':=⟨hl,hz,kvs',hG⟩
 rw[dif_pos hh]
 have:=Classical.choose_spec hh.2.2 0
 rw[hG 0] at this
 injection this with this
 rw[<-this]
where ago {α β:Type} (a:α) (f:α->Option β):(some a).bind f=f a:=rfl
theorem cQ.aeH {K:PySem.W.Frag} {H0 H H':Hp} {σ:L2.St} {ρ:Ev} {i:Nat} {a:Addr} {kvs kvs':List (Str×Dt)} {w:Option Addr} {ks ks':List (Key×V)} (E:cQ K H0 H σ ρ) (h:ρ[i]?=some (some (.m kvs w))) (hs:σ[i]?=some (some (.ref a))) (ha:H a=some (.dK ks)) (sm:Same (hole H a) H') (ha':H' a=some (.dK ks')) (rm:g8 K H' kvs' ks') (tie:∀ b,w=some b->b=a) :
  cQ K H0 H' σ (ρ.set i (some (.m kvs' w))):=by
 have hi:i < ρ.length:=(List.getElem?_eq_some_iff.mp h).1
 have hb:H0 a=none:=E.new i _ a h rfl hs
 have sn:∀ b u,b≠a->H b=some u->H' b=some u:=fun b u hne e=>sm b u (by rw[Qw hne];exact e)
 have kp:Kp H H':=⟨fun b xs e=>sn b _ (n6 e ha (by intro z;cases z)) e,fun b ob u e=>sn b _ (n6 e ha (by intro z;cases z)) e⟩
 refine⟨by rw[List.length_set];exact E.len,fun j b' e=>?_,fun j k' c a' b' e1 ec e2 e3 e4 e5=>?_,fun c o e=>?_,fun j c a' e1 ec e2=>?_⟩
 ·rcases getset e with⟨rfl,e',_⟩|⟨hne,e'⟩
  ·cases e'
   exact⟨_,hs,a,ks',rfl,ha',rm,tie⟩
  ·obtain⟨v,e1,r'⟩:=E.val j b' e'
   refine⟨v,e1,?_⟩
   have away:∀ a',v=.ref a'->loose b'=true->a'≠a:=fun a' ev hl z=>by
    subst z
    exact hne (E.own i j _ _ _ h rfl hs e' hl (by rw[e1,ev])).symm
   cases b' with
   |z d=>exact Rep.kp kp r'
   |l ds'=>
    obtain⟨a',vs',rfl,q,rr⟩:=r'
    have hn:=away a' rfl rfl
    exact⟨a',vs',rfl,q.imp (sn _ _ hn) fun ⟨o,q⟩=>⟨o,sn _ _ hn q⟩,rr.kp kp⟩
   |o ds'=>
    obtain⟨a',vs',rfl,q,rr⟩:=r'
    exact⟨a',vs',rfl,sn _ _ (away a' rfl rfl) q,rr.kp kp⟩
   |n ds'=>
    obtain⟨a',vs',rfl,q,rr⟩:=r'
    have hn:=away a' rfl rfl
    exact⟨a',vs',rfl,q.imp (sn _ _ hn) fun ⟨o,q⟩=>⟨o,sn _ _ hn q⟩,rr.kp kp⟩
   |m ds' _=>
    obtain⟨a',vs',rfl,q,rr,tt⟩:=r'
    exact⟨a',vs',rfl,sn _ _ (away a' rfl rfl) q,rr.kp kp,tt⟩
 ·have back:∀ {j:Nat} {c:Bx},(ρ.set i (some (.m kvs' w)))[j]?=some (some c)->∃ c',ρ[j]?=some (some c')/\(uD c=true->uD c'=true)/\(loose c=true->loose c'=true):=fun {j c} e=>by
   rcases getset e with⟨rfl,e',_⟩|⟨_,e'⟩
   ·exact⟨_,h,fun _=>rfl,fun _=>rfl⟩
   ·exact⟨c,e',id,id⟩
  obtain⟨c',p1,p2,_⟩:=back e1
  obtain⟨b2,q1,_,q3⟩:=back e3
  exact E.own j k' c' a' b2 p1 (p2 ec) e2 q1 (q3 e4) e5
 ·have e2:=E.base c o e
  exact sn c o (fun z=>by subst z;rw[hb] at e;cases e) e2
 ·rcases getset e1 with⟨rfl,e',_⟩|⟨_,e'⟩
  ·exact E.new _ _ a' h rfl e2
  ·exact E.new j c a' e' ec e2
section
variable {X:Cx} {e:Expr} {es:List Expr} {fs:Ev->Option (List Bx)} {p px pos spos:Pos} {x y:Str} {k n:Nat} {f:Addr} {fd:FuncData} {ps:List Str} {G:Addr->List (Str×Dt)->List Bx->Option (List (Str×Dt))}
theorem Zf (i:Nat) (F:fG X.prog X.w X.K X.mg X.base nC k f fd ps (spM X.K n G)) (hr:kJ k X.A) (hg:Gl X x) (hm:X.mg x=some (.ref f)) (hk:PySem.W.keepIn X.K (.ref f)=true) (hb:Binds X.K fd ps [])
  (ha:Vf X es fs) (hN:X.N[i]?=some y:=by rfl) (hv:Nk X.env.scope y:=by first|exact Or.inl rfl|exact Or.inr (Or.inl rfl)|exact Or.inr (Or.inr rfl)) (hd:(y==("__debug__" : Str))=false:=by decide)
  (hcd:(y==("__classdict__" : Str))=false:=by decide) (hdb:(x==("__debug__" : Str))=false:=by decide) (he:starEach (.Name y px::es) X.env=(false,eval (.Name y px) X.env)::starEach es X.env:=by rfl) (hpl:(backTo pos (starEach es X.env)).any (·.1)=false:=by rfl) (hs:swapsWith (.Call (.Name x p) (.Name y px::es) [] pos) none spos.line X.env=pure false:=by rfl) :
  RV X (.Expr (.Call (.Name x p) (.Name y px::es) [] pos) spos) (Dw i n G fs):=⟨Ue (Py (PL F hr hg hm hk hb .nil Z7 (xR (wQ (i:=i) hN hv hd hcd) ha.run he) hdb he hpl) hs) fun D σ H h=>by
 obtain⟨H0,ρ,r,E,e,q⟩:=h
 obtain⟨kvs,w,bs,kvs',hρ,eb,hl,hz,hG,rfl⟩:=O2 e
 obtain⟨v,e1,a,ks,rfl,haa,rm,tie⟩:=E.val i _ hρ
 refine⟨_,e1,H0,ρ,bs,E,eb,fun vs H1 s1 r1=>?_⟩
 have ha1:=s1 _ _ haa
 refine⟨by simp only[List.append_nil,List.length_cons];rw[<-Paired.length r1,hl],a,ks,kvs,vs,bs,kvs',by simp,ha1,rm.kp (.of s1),r1,hz,hG a,fun H' ks' sm hk' rm'=>?_⟩
 exact q σ H' ((E.grow s1).aeH hρ e1 ha1 sm hk' rm' tie)⟩
end
def Tj:Option Bool->Bool
 |some true=>true
 |_=>false
def SM (x:Dt) (ys:List Dt):Option Bool:=if (ys.all fun y=>(bY y x).isSome&&decide (min (sO y) (sO x)<=60))=true then some (ys.any fun y=>Tj (bY y x)) else none
def inX (a b:Bx):Option Bx:=match a with
 |.z d=>(wY b).bind fun ys=>(SM d ys).bind fun k=>some (.z (.bl k))
 |_=>none
def Dy (a b:Bx):Option Bx:=match a with
 |.z d=>(wY b).bind fun ys=>(SM d ys).bind fun k=>some (.z (.bl (!k)))
 |_=>none
section
variable {X:Cx} {pins:List (Addr×Obj)} {σ:L2.St} {H:Hp} {s:Shared}
theorem Jy (I:L2.Inv X pins σ H s) (hu:X.A.units+100 < cLine) {d:Dt} {x:V} {u:Value} (rx:Rep X.K H d x) (ru:RelV x u) {ys:List Dt} {vs:List V} {its:List Value} (rs:aO X.K H ys vs) (rv:Vals vs its) {k:Bool} (hk:SM d ys=some k) :
  ∃ e:Value->Bool,(∀ y,y∈its->SeqAt.EqAt X.A.in1 s y u (e y))/\its.any e=k:=by
 unfold SM at hk
 split at hk
 ·rename_i hall
  injection hk with hk
  rw[List.all_eq_true] at hall
  have at_:∀ (i:Nat) y,its[i]?=some y->∃ c,ys[i]?=some c/\SeqAt.EqAt X.A.in1 s y u (Tj (bY c d)):=fun i y hy=>by
   have hl:=rv.length
   have hl2:=rs.length
   have hi:i < its.length:=(List.getElem?_eq_some_iff.mp hy).1
   have hi':i < ys.length:=by omega
   obtain⟨v,ev,r1⟩:=rs.get (show ys[i]?=some ys[i] by simp[hi'])
   obtain⟨y',ey,r2⟩:=rv.get ev
   rw[hy] at ey
   cases ey
   refine⟨ys[i],by simp[hi'],?_⟩
   have hc:=hall ys[i] (List.getElem_mem hi')
   rw[Bool.and_eq_true] at hc
   obtain⟨b,hb⟩:=Option.isSome_iff_exists.mp hc.1
   have:=UJ I 60 (A:=X.A.in1) (of_decide_eq_true hc.2) (by rw[units_in1];omega) r1 rx r2 ru hb
   rw[hb]
   cases b<;>exact this
  classical
  refine⟨fun y=>decide (∃ (i:Nat) (c:Dt),its[i]?=some y/\ys[i]?=some c/\Tj (bY c d)=true),fun y hy=>?_,?_⟩
  ·dsimp only
   by_cases q:∃ (i:Nat) (c:Dt),its[i]?=some y/\ys[i]?=some c/\Tj (bY c d)=true
   ·rw[decide_eq_true q]
    obtain⟨i,c,h1,h2,h3⟩:=q
    obtain⟨c',e1,e2⟩:=at_ i y h1
    rw[h2] at e1
    cases e1
    rw[h3] at e2
    exact e2
   ·rw[decide_eq_false q]
    obtain⟨i,hi,ei⟩:=List.getElem_of_mem hy
    have h1:its[i]?=some y:=by rw[List.getElem?_eq_getElem hi,ei]
    obtain⟨c,e1,e2⟩:=at_ i y h1
    have:Tj (bY c d)=false:=by
     cases hq:Tj (bY c d) with
     |false=>rfl
     |true=>exact absurd ⟨i,c,h1,e1,hq⟩ q
    rw[this] at e2
    exact e2
  ·rw[<-hk,Bool.eq_iff_iff,List.any_eq_true,List.any_eq_true]
   constructor
   ·rintro⟨y,hy,h⟩
    obtain⟨i,c,h1,h2,h3⟩:=of_decide_eq_true h
    exact⟨c,List.mem_of_getElem? h2,h3⟩
   ·rintro⟨c,hc,h3⟩
    obtain⟨i,hi,ei⟩:=List.getElem_of_mem hc
    have hl:=rv.length
    have hl2:=rs.length
    have hi':i < its.length:=by omega
    exact⟨its[i],List.getElem_mem hi',decide_eq_true ⟨i,c,by simp[hi'],by rw[List.getElem?_eq_getElem hi,ei],h3⟩⟩
 ·cases hk
theorem Jz (hu:X.A.units+100 < cLine):Fx X (compareOp .In) inX:=by
 intro pins s σ H x y v u Q I rx ry h
 obtain⟨a,b,c,ra,rb,e,q⟩:=h
 unfold inX at e
 split at e
 ·rename_i d
  obtain⟨ys,ey,e⟩:=bind_some e
  obtain⟨k,ek,e⟩:=bind_some e
  cases e
  obtain⟨p,vs,rfl,sq,rs⟩:=BR rb ey
  cases ry
  rcases sq with sq|sq
  ·obtain⟨its,r',pl,hz⟩:=I.list sq
   obtain⟨f,f1,f2⟩:=Jy I hu ra rx rs r' ek
   refine SeqAt.in_listAt f pl.isList (fun w hw=>f1 w (by simpa using hw)) ⟨.bl k,H,I,by rw[show its.toArray.any f=its.any f by simp,f2];rfl,q _ H (Same.refl H) trivial (by simp only[bN,Rep])⟩
  ·obtain⟨its,r',pl,hz⟩:=I.tuple sq
   obtain⟨f,f1,f2⟩:=Jy I hu ra rx rs r' ek
   refine SeqAt.in_tupleAt f pl (fun w hw=>f1 w (by simpa using hw)) ⟨.bl k,H,I,by rw[show its.toArray.any f=its.any f by simp,f2];rfl,q _ H (Same.refl H) trivial (by simp only[bN,Rep])⟩
 ·cases e
theorem yE (hu:X.A.units+100 < cLine):Fx X (compareOp .NotIn) Dy:=by
 intro pins s σ H x y v u Q I rx ry h
 obtain⟨a,b,c,ra,rb,e,q⟩:=h
 unfold Dy at e
 split at e
 ·rename_i d
  obtain⟨ys,ey,e⟩:=bind_some e
  obtain⟨k,ek,e⟩:=bind_some e
  cases e
  obtain⟨p,vs,rfl,sq,rs⟩:=BR rb ey
  cases ry
  rcases sq with sq|sq
  ·obtain⟨its,r',pl,hz⟩:=I.list sq
   obtain⟨f,f1,f2⟩:=Jy I hu ra rx rs r' ek
   refine SeqAt.notIn_listAt f pl.isList (fun w hw=>f1 w (by simpa using hw)) ⟨.bl (!k),H,I,by rw[show its.toArray.any f=its.any f by simp,f2];rfl,q _ H (Same.refl H) trivial (by simp only[bN,Rep])⟩
  ·obtain⟨its,r',pl,hz⟩:=I.tuple sq
   obtain⟨f,f1,f2⟩:=Jy I hu ra rx rs r' ek
   refine SeqAt.notIn_tupleAt f pl (fun w hw=>f1 w (by simpa using hw)) ⟨.bl (!k),H,I,by rw[show its.toArray.any f=its.any f by simp,f2];rfl,q _ H (Same.refl H) trivial (by simp only[bN,Rep])⟩
 ·cases e
end
section
variable {X:Cx} {g:Ev->Option Out} {st:List Stmt} {i:Nat}
def acz (i:Nat) (ρ:Ev):Option Ev:=match ρ[i]? with
 |some (some (.o ds))=>some (ρ.set i (some (.z (.lst ds))))
 |_=>none
def Tn (i:Nat) (g:Ev->Option Out):Ev->Option Out:=fun ρ=>(acz i ρ).bind g
theorem acA (h:GQ X st g):GQ X st (Tn i g):=by
 intro pins s σ H D I q
 obtain⟨H0,ρ,r,E,e,f⟩:=q
 obtain⟨ρ',e1,e2⟩:=bind_some e
 unfold acz at e1
 split at e1
 ·rename_i ds hr
  cases e1
  obtain⟨v,hv,a,vs,rfl,ha,rs⟩:=E.val i _ hr
  obtain⟨o,I2⟩:=Cq I ha
  have kp:Kp H (upd H a (.q9 o (.lst vs))):=.lst ha
  refine h pins s σ _ D I2 ⟨H0,_,r,E.abG hr rfl hv kp ?_,e2,f⟩
  simp only[bN,Rep]
  exact⟨a,vs,rfl,.inl ⟨o,cG⟩,rs.kp kp⟩
 ·cases e1
theorem JB (h:RW X st g):RW X st (Tn i g):=⟨acA h.run⟩
end
open AutoSeq1 (wpAny_loadPart')
open SeqAt
theorem O4 {M:Model} {A:Around} {E:Value->Shared->Prop} {s:Shared} {β:Type} {n:Nat} (f:Nat->β->Sem (ForInStep β)) (I:Nat->β->Shared->Prop) (Q:β->Shared->Prop)
  (go:∀ i b s,i < n->I i b s->wpAny M A (f i b) (fun r s'=>match r with|.yield b'=>I (i+1) b' s'|.done b'=>Q b' s') E s) (nd:∀ b s,I n b s->Q b s) (b:β) (h0:I 0 b s):wpAny M A (forIn [0:n] b f) Q E s:=by
 rw[Std.Legacy.Range.forIn_eq_forIn_range']
 refine wpAny_forIn_list f (fun rest b s=>∃ i,i<=n/\rest=List.range' i (n - i) 1/\I i b s) Q ?_ ?_ _ b ?_
 ·rintro x rest b s ⟨i,hi,e,h⟩
  have hlt:i < n:=by
   apply Decidable.byContradiction
   intro hge
   have:n - i=0:=by omega
   rw[this] at e
   cases e
  rw[show n - i=(n - (i+1))+1 by omega,List.range'_succ] at e
  injection e with e1 e2
  subst e1
  refine wpAny_mono (go x b s hlt h) (fun r s' q=>?_) fun _ _ z=>z
  cases r with
  |yield b'=>exact⟨x+1,by omega,e2,q⟩
  |done b'=>exact q
 ·rintro b s ⟨i,hi,e,h⟩
  have:i=n:=by
   apply Decidable.byContradiction
   intro hne
   rw[show n - i=(n - (i+1))+1 by omega,List.range'_succ] at e
   cases e
  subst this
  exact nd b s h
 ·refine⟨0,Nat.zero_le _,?_,h0⟩
  simp[Std.Legacy.Range.size]
theorem Ga (l:Addr) (its:Array Value) (n:Nat) (dd:Option Addr) (sl:Array (Option Value)) (x:Value) (e:Nat->Bool) (j:Nat) (hj:j < its.size) (hit:e j=true) (hno:∀ m,m < j->e m=false) :
  Meets (Builtin.«tuple.index» ⟨[.ref l,x],[]⟩) (fun A R s=>s.heap.get? l=some { cls:=.type "tuple", dict:=dd,data:=.seq its n,slots:=sl }/\(∀ i (h:i < its.size),EqAt A.in1 s its[i] x (e i))/\R (.ok (.ret (.int j s.toks))) { s with toks:=s.toks+1 }):=
 .of_wp fun prog w A R s h=>by
  obtain⟨hp,g,d,tk,os⟩:=s;obtain⟨hl,he,h⟩:=h
  wp_walk using wpAny_loadPart' hl,O4 _ (fun i b s'=>i<=j/\b.1=none/\s'=⟨hp,g,d,tk,os⟩) _
  case go=>
   rintro i ⟨b1,b2⟩ s' hi ⟨hij,hb,rfl⟩
   have hi:i < its.size:=by omega
   have hget:its[i]?=some its[i]:=by simp[hi]
   rw[hget]
   refine wpAny_bind (he i hi prog w _ _ ?_)
   by_cases hq:i=j
   ·subst hq
    rw[hit]
    wp_walk
    exact⟨_,rfl,h⟩
   ·rw[hno i (by omega)]
    wp_walk
    exact⟨by omega,rfl,rfl⟩
  case nd=>
   rintro⟨b1,b2⟩ s' ⟨hij,_,_⟩
   omega
  case h0=>exact⟨Nat.zero_le _,rfl,rfl⟩
section
variable {X:Cx} {pins:List (Addr×Obj)} {σ:L2.St} {H:Hp} {s:Shared}
theorem aeI (I:L2.Inv X pins σ H s) {a:Addr} {xs:List V} (h:wD X.K H a xs):∃ its:List Value,Vals xs its/\rz s.heap a its.toArray:=by
 rcases h with h|⟨o,its,n,hk,hc,hs,hz,r⟩
 ·obtain⟨z,its,r,p⟩:=h.ok I.hok
  exact⟨its,r,p⟩
 ·exact⟨its.toList,r,o,I.kIn a o hk,hc.1,⟨n,by simpa using hs⟩,hc.2⟩
def V6 (d:Dt) (ys:List Dt):Option Nat:=if (ys.all fun y=>(bY y d).isSome&&decide (min (sO y) (sO d)<=60))=true then ys.findIdx? (fun y=>Tj (bY y d)) else none
def SN:Bx->Bx->Option Bx
 |.z (.tup ys),.z d=>(V6 d ys).bind fun j=>some (.z (.int j))
 |_,_=>none
theorem Zg (I:L2.Inv X pins σ H s) (hu:X.A.units+100 < cLine) {d:Dt} {x:V} {u:Value} (rx:Rep X.K H d x) (ru:RelV x u) {ys:List Dt} {vs:List V} {its:List Value} (rs:aO X.K H ys vs) (rv:Vals vs its) {j:Nat} (hk:V6 d ys=some j) :
  ∃ e:Nat->Bool,(∀ i (h:i < its.length),SeqAt.EqAt X.A.in1 s its[i] u (e i))/\j < its.length/\e j=true/\∀ m,m < j->e m=false:=by
 have hl:=rv.length
 have hl2:=rs.length
 unfold V6 at hk
 split at hk
 ·rename_i hall
  rw[List.all_eq_true] at hall
  refine⟨fun i=>match ys[i]? with|some c=>Tj (bY c d)|none=>false,fun i hi=>?_,?_⟩
  ·have hi':i < ys.length:=by omega
   obtain⟨v,ev,r1⟩:=rs.get (show ys[i]?=some ys[i] by simp[hi'])
   obtain⟨y',ey,r2⟩:=rv.get ev
   rw[List.getElem?_eq_getElem hi] at ey
   cases ey
   have hc:=hall ys[i] (List.getElem_mem hi')
   rw[Bool.and_eq_true] at hc
   obtain⟨b,hb⟩:=Option.isSome_iff_exists.mp hc.1
   have:=UJ I 60 (A:=X.A.in1) (of_decide_eq_true hc.2) (by rw[units_in1];omega) r1 rx r2 ru hb
   dsimp only
   rw[List.getElem?_eq_getElem hi']
   dsimp only
   rw[hb]
   cases b<;>exact this
  ·rw[List.findIdx?_eq_some_iff_getElem] at hk
   obtain⟨h1,h2,h3⟩:=hk
   refine⟨by omega,?_,fun m hm=>?_⟩
   ·dsimp only;rw[List.getElem?_eq_getElem h1];exact h2
   ·have hm':m < ys.length:=by omega
    dsimp only
    rw[List.getElem?_eq_getElem hm']
    have:=h3 m hm
    simpa using this
 ·cases hk
end
section
variable {X:Cx} {o e:Expr} {fo fx:Ev->Option Bx}
theorem V7 {apos cpos:Pos} (hu:X.A.units+100 < cLine) (ho:PV X o fo) (hx:PV X e fx) (hbase:attributeBase o "index" X.env (eval o X.env)=eval o X.env:=by rfl)
  (hfew:((backTo cpos (starEach [e] X.env)).all (fun x=>!x.1)&&(backToKw cpos (keywordEach [] X.env)).all (fun x=>x.1.isSome)&&decide ([e].length+([]:List Keyword).length+(if ([]:List Keyword).isEmpty then 0 else 1) < 30))=true:=by rfl)
  (hline:(apos.endLine==cpos.line)=true:=by rfl) (hs:starEach [e] X.env=(false,eval e X.env)::starEach [] X.env:=by rfl) (hplain:(backTo cpos (starEach [] X.env)).any (·.1)=false:=by rfl):PV X (.Call (.Attribute o "index" apos) [e] [] cpos) (b2 SN fo fx):=by
 intro pins s σ H Q I q
 obtain⟨H0,ρ,b,E,eq,q⟩:=q
 obtain⟨bo,eo,eq⟩:=bind_some eq
 obtain⟨bx,ex,eq⟩:=bind_some eq
 unfold SN at eq
 split at eq
 ·rename_i ys d _
  obtain⟨j,ej,eq⟩:=bind_some eq
  cases eq
  refine wpAny_Call_method_late hbase hfew hline rfl (j6 (ho pins s σ H (fun v H1=>Same H H1/\bN X.K H1 (.z (.tup ys)) v) I ⟨H0,ρ,_,E,eo,fun v H' s' n' r'=>⟨s',r'⟩⟩) fun v s1 hq=>?_)
  obtain⟨x,H1,I1,r1,sm,rb⟩:=hq
  simp only[bN,Rep] at rb
  obtain⟨a,vs,rfl,sq,rs⟩:=rb
  cases r1
  obtain⟨aiM,_,o1,g1,c1,_,d1⟩:=aeI I1 sq
  refine⟨"tuple", "tuple.index", F.plainAttrs_tuple,F.slot_tuple_index,F.type_tuple_index,⟨o1,g1,c1⟩,fun a' z=>?_,?_⟩
  ·cases z
   exact⟨o1,g1,d1⟩
  have hA:=Cp hx Iv hs cpos pins s1 σ H1 (fun xs H2=>Same H1 H2/\n8 X.K H2 [.z d] xs) I1 ⟨H0,ρ,[.z d],E.grow sm,by simp only[ao,ex,Option.bind_some,aR],fun vs H2 s2 r2=>⟨s2,r2⟩⟩
  rw[hs] at hA ⊢
  refine Calls.callWith_builtin (by show (false||(backTo cpos (starEach [] X.env)).any (·.1))=false;rw[hplain]<;>rfl) (Calls.evalArgs_plain ?_)
  refine j6 hA fun us s2 hq=>?_
  obtain⟨xs,H2,I2,r2,s2',rbs⟩:=hq
  obtain⟨w,rfl,rw1⟩:=rep1 rbs
  obtain⟨u,rfl,ru⟩:=vals1 r2
  have oA:wD X.K H2 a vs:=Kp.sqT (.of s2') sq
  obtain⟨its,r',⟨cls,dd,data,sl⟩,g2,c2,⟨n,dt⟩,_⟩:=aeI I2 oA
  simp only at c2 dt
  subst c2 dt
  obtain⟨f,f1,f2,f3,f4⟩:=Zg I2 hu (by simpa only[bN] using rw1) ru (rs.kp (.of s2')) r' ej
  exact call_meets F.slot_tuple_index ⟨_,g2,rfl⟩ F.entry_tuple_index (F.args_tuple_index_2 _ _) (Ga a its.toArray n dd sl u f j (by simpa using f2) f3 f4) ⟨g2,fun i h=>by simpa using f1 i (by simpa using h),⟨.int j,H2,I2.tok _,⟨_,rfl⟩,q _ H2 (sm.trans s2') trivial (by simp only[bN,Rep])⟩⟩
 ·cases eq
theorem V8 {apos cpos:Pos} (hu:X.A.units+100 < cLine) (ho:QV X o fo) (hx:QV X e fx) (hbase:attributeBase o "index" X.env (eval o X.env)=eval o X.env:=by rfl)
  (hfew:((backTo cpos (starEach [e] X.env)).all (fun x=>!x.1)&&(backToKw cpos (keywordEach [] X.env)).all (fun x=>x.1.isSome)&&decide ([e].length+([]:List Keyword).length+(if ([]:List Keyword).isEmpty then 0 else 1) < 30))=true:=by rfl)
  (hline:(apos.endLine==cpos.line)=true:=by rfl) (hs:starEach [e] X.env=(false,eval e X.env)::starEach [] X.env:=by rfl) (hplain:(backTo cpos (starEach [] X.env)).any (·.1)=false:=by rfl):QV X (.Call (.Attribute o "index" apos) [e] [] cpos) (b2 SN fo fx):=
 ⟨V7 (hu:=hu) (ho:=ho.run) (hx:=hx.run) (hbase:=hbase) (hfew:=hfew) (hline:=hline) (hs:=hs) (hplain:=hplain)⟩
end
instance:Inhabited Dt:=⟨.non⟩
theorem bnd {α β:Type} (a:α) (f:α->Option β):(some a).bind f=f a:=(Option.bind_some a f).trans (Eq.refl _)
def hold:Option Prop->Prop
 |none=>True
 |some p=>p
def cF:Option Prop->Option Prop->Option Prop
 |none,q=>q
 |some p,none=>some p
 |some p,some q=>some (p/\q)
def JC (c:Prop):Option Prop->Option Prop
 |none=>none
 |some p=>some (c->p)
theorem au {p q:Option Prop} (h:hold (cF p q)):hold p/\hold q:=by
 cases p with
 |none=>exact⟨trivial,h⟩
 |some p=>cases q with
  |none=>exact⟨h,trivial⟩
  |some q=>exact h
theorem o9 {c:Prop} {p:Option Prop} (h:hold (JC c p)) (hc:c):hold p:=by
 cases p with
 |none=>trivial
 |some p=>exact h hc
structure R {α β:Type} (f:Ev->Option β) (ρ:Ev) (c:α->β) where
 v:α
 D:Option Prop
 ok:hold D->f ρ=some (c v)
abbrev zE {α:Type} (e:α->Dt):α->Bx:=fun a=>.z (e a)
abbrev oE {α:Type} (e:α->Dt):List α->Bx:=fun xs=>.o (xs.map e)
abbrev lE {α:Type} (e:α->Dt):List α->Bx:=fun xs=>.l (xs.map e)
abbrev tE:Bool->Bool:=fun b=>b
abbrev iE {α:Type} (e:α->Dt):List α->List Dt:=fun xs=>xs.map e
abbrev eI:Int->Dt:=Dt.int
abbrev eB:Bool->Dt:=Dt.bl
abbrev eS:Str->Dt:=Dt.str
abbrev eL {α:Type} (e:α->Dt):List α->Dt:=fun xs=>.lst (xs.map e)
abbrev eT {α:Type} (e:α->Dt):List α->Dt:=fun xs=>.tup (xs.map e)
abbrev eO {α:Type} (e:α->Dt):Option α->Dt:=fun o=>match o with|none=>.non|some a=>e a
abbrev eP1 {α:Type} (a:α->Dt):α->Dt:=fun x=>.tup [a x]
abbrev Tp {α β:Type} (a:α->Dt) (b:β->Dt):α×β->Dt:=fun x=>.tup [a x.1,b x.2]
abbrev eP3 {α β γ:Type} (a:α->Dt) (b:β->Dt) (c:γ->Dt):α×β×γ->Dt:=fun x=>.tup [a x.1,b x.2.1,c x.2.2]
abbrev eP4 {α β γ δ:Type} (a:α->Dt) (b:β->Dt) (c:γ->Dt) (d:δ->Dt):α×β×γ×δ->Dt:=fun x=>.tup [a x.1,b x.2.1,c x.2.2.1,d x.2.2.2]
structure RL {α:Type} (f:Ev->Option Bx) (ρ:Ev) (e:α->Dt) where
 v:List α
 D:Option Prop
 b:Bx
 lk:qt b=some (v.map e)
 ok:hold D->f ρ=some b
section
variable {α β γ δ:Type} {ρ:Ev} {f fa fb fc:Ev->Option Bx} {fs:Ev->Option (List Bx)} {e:α->Dt} {e':β->Dt}
def nG (a:R f ρ (oE e)):RL f ρ e:=⟨a.v,a.D,_,rfl,a.ok⟩
def lY (a:R f ρ (lE e)):RL f ρ e:=⟨a.v,a.D,_,rfl,a.ok⟩
def pq (a:R f ρ (zE (eL e))):RL f ρ e:=⟨a.v,a.D,_,rfl,a.ok⟩
def Lp (b:Bx) (ds:List Dt):Prop:=b=.z (.lst ds)\/b=.l ds
theorem Lp.Hf {b:Bx} {ds:List Dt} (h:Lp b ds):qt b=some ds:=by rcases h with rfl|rfl<;>rfl
theorem Lp.get {b:Bx} {ds:List Dt} {i:Nat} (h:Lp b ds) (hi:ρ[i]?=some (some b)):xW ρ i=some b:=by
 rcases h with rfl|rfl<;>(unfold xW;rw[hi])
theorem Lp.lend {b:Bx} {ds:List Dt} (h:Lp b ds):P1.lend b=b:=by rcases h with rfl|rfl<;>rfl
theorem lR {b:Bx} {ds:List Dt} (h:qt b=some ds):Lp (P1.lend b) ds:=by
 cases b with
 |z d=>cases d<;>cases h;exact .inl rfl
 |l d=>cases h;exact .inr rfl
 |o d=>cases h;exact .inr rfl
 |n d=>cases h
 |m d _=>cases h
def aq (i:Nat) (c:α->Bx) (a:α) (h:xW ρ i=some (c a)):R (gv i) ρ c:=⟨a,none,fun _=>h⟩
def pP (i:Nat) (e:α->Dt) (a:List α) {b:Bx} (h:Lp b (a.map e)) (hi:ρ[i]?=some (some b)):RL (gv i) ρ e:=⟨a,none,b,h.Hf,fun _=>h.get hi⟩
def cI (d:Dt) (e:α->Dt) (a:α) (h:d=e a):R (cB d) ρ (zE e):=⟨a,none,fun _=>by rw[h];rfl⟩
def acB (a:R f ρ (zE e)):R f ρ (zE (eO e)):=⟨some a.v,a.D,a.ok⟩
def acC {e:α->Dt}:R (cB .non) ρ (zE (eO e)):=⟨none,none,fun _=>rfl⟩
def SQ (a:R f ρ (oE e)):R (b1 rB f) ρ (zE (eL e)):=⟨a.v,a.D,fun h=>by simp only[b1,a.ok h,bnd,rB]⟩
def lU (a:R f ρ (zE e)):R (b1 rB f) ρ (zE e):=⟨a.v,a.D,fun h=>by simp only[b1,a.ok h,bnd,rB]⟩
def aeJ (a:R f ρ (zE eI)):R (b1 RB f) ρ (zE eI):=⟨-a.v,a.D,fun h=>by simp only[b1,a.ok h,bnd,RB]⟩
def lV (a:R fa ρ (zE eI)) (b:R fb ρ (zE eI)):R (b2 jt fa fb) ρ (zE eI):=⟨a.v+b.v,cF a.D b.D,fun h=>by
 obtain⟨h1,h2⟩:=au h
 simp only[b2,a.ok h1,b.ok h2,bnd,jt]⟩
def aak (a:R fa ρ (zE eI)) (b:R fb ρ (zE eI)):R (b2 subB fa fb) ρ (zE eI):=⟨a.v - b.v,cF a.D b.D,fun h=>by
 obtain⟨h1,h2⟩:=au h
 simp only[b2,a.ok h1,b.ok h2,bnd,i2]⟩
def Mul (a b:Int):Prop:=(-18446744073709551616 < a/\a < 18446744073709551616)\/(-18446744073709551616 < b/\b < 18446744073709551616)
def aal (a:R fa ρ (zE eI)) (b:R fb ρ (zE eI)):R (b2 wX fa fb) ρ (zE eI):=⟨a.v * b.v,cF (cF a.D b.D) (some (Mul a.v b.v)),fun h=>by
 obtain⟨h,h3⟩:=au h
 obtain⟨h1,h2⟩:=au h
 simp only[b2,a.ok h1,b.ok h2,bnd]
 exact if_pos h3⟩
def O5 (n:Int) (hn : -18446744073709551616 < n/\n < 18446744073709551616) (b:R fb ρ (zE eI)):R (b2 wX (cB (.int n)) fb) ρ (zE eI):=⟨n * b.v,b.D,fun h=>by
 simp only[b2,b.ok h,bnd,cB]
 exact if_pos (.inl hn)⟩
def Qy (a:R fa ρ (zE eI)) (n:Int) (hn : -18446744073709551616 < n/\n < 18446744073709551616):R (b2 wX fa (cB (.int n))) ρ (zE eI):=⟨a.v * n,a.D,fun h=>by
 simp only[b2,a.ok h,bnd,cB]
 exact if_pos (.inr hn)⟩
def JD (a:R fa ρ (zE eI)) (n:Int) (hn:0 < n/\n < 1073741824):R (b2 Hi fa (cB (.int n))) ρ (zE eI):=⟨a.v / n,a.D,fun h=>by
 simp only[b2,a.ok h,bnd,i2,cB,if_pos hn]⟩
def Ma (a:R fa ρ (zE eI)) (b:R fb ρ (zE eI)):R (b2 jg fa fb) ρ (zE eI):=⟨a.v % b.v,cF (cF a.D b.D) (some (0 < b.v)),fun h=>by
 obtain⟨h,h3⟩:=au h
 obtain⟨h1,h2⟩:=au h
 have h3:0 < b.v:=h3
 simp only[b2,a.ok h1,b.ok h2,bnd,i2,if_pos h3]⟩
def ig (a:R fa ρ (zE eI)) (n:Int) (hn:0 < n):R (b2 jg fa (cB (.int n))) ρ (zE eI):=⟨a.v % n,a.D,fun h=>by
 simp only[b2,a.ok h,bnd,i2,cB,if_pos hn]⟩
def acD (a b:Int) (n:Nat) (h:0<=b/\b<=1000/\a.natAbs < 18446744073709551616) (hb:b.toNat=n):R (b2 Yq (cB (.int a)) (cB (.int b))) ρ (zE eI):=⟨a ^ n,none,fun _=>by
 simp only[b2,bnd,cB]
 show ((if 0<=b/\b<=1000/\a.natAbs < 2 ^ 64 then some (Dt.int (a ^ b.toNat)) else none).bind fun d=>some (Bx.z d))=_
 rw[if_pos h,hb]
 rfl⟩
def agp (a:R fa ρ (zE eI)) (b:R fb ρ (zE eI)):R (b2 gtB fa fb) ρ (zE eB):=⟨decide (b.v < a.v),cF a.D b.D,fun h=>by
 obtain⟨h1,h2⟩:=au h
 simp only[b2,a.ok h1,b.ok h2,bnd,i2]⟩
def x_ge (a:R fa ρ (zE eI)) (b:R fb ρ (zE eI)):R (b2 geB fa fb) ρ (zE eB):=⟨decide (b.v<=a.v),cF a.D b.D,fun h=>by
 obtain⟨h1,h2⟩:=au h
 simp only[b2,a.ok h1,b.ok h2,bnd,i2]⟩
def aam (a:R fa ρ (zE eI)) (b:R fb ρ (zE eI)):R (b2 ltA fa fb) ρ (zE eB):=⟨decide (a.v < b.v),cF a.D b.D,fun h=>by
 obtain⟨h1,h2⟩:=au h
 simp only[b2,a.ok h1,b.ok h2,bnd,ltA]⟩
def Tq (x y:Str):Bool:=decide (x.cps.toList < y.cps.toList)
end
class Eqs {α:Type} [DecidableEq α] (e:α->Dt) (n:outParam Nat):Prop where
 eq:∀ a b,bY (e a) (e b)=some (decide (a=b))
 dp:∀ a,sO (e a)<=n
class Non {α:Type} (e:α->Dt):Prop where
 l:∀ a,bY .non (e a)=some false
 r:∀ a,bY (e a) .non=some false
instance:Eqs eI 1:=⟨fun a b=>by simp only[bY];congr 1,fun a=>by simp[sO]⟩
instance:Eqs eB 1:=⟨fun a b=>by simp only[bY];congr 1,fun a=>by simp[sO]⟩
instance:Eqs eS 1:=⟨fun a b=>by simp only[bY];congr 1,fun a=>by simp[sO]⟩
instance:Non eI:=⟨fun a=>by simp only[bY],fun a=>by simp only[bY]⟩
instance:Non eB:=⟨fun a=>by simp only[bY],fun a=>by simp only[bY]⟩
instance:Non eS:=⟨fun a=>by simp only[bY],fun a=>by simp only[bY]⟩
section
variable {α β γ δ:Type} [DecidableEq α] [DecidableEq β] [DecidableEq γ] [DecidableEq δ] {e:α->Dt} {e':β->Dt} {e'':γ->Dt} {e3:δ->Dt} {n m k l:Nat}
theorem Dz [Eqs e n]:∀ xs ys:List α,pF (xs.map e) (ys.map e)=some (decide (xs=ys))
 |[],[]=>by simp[pF]
 |[],y::ys=>by simp[pF]
 |x::xs,[]=>by simp[pF]
 |x::xs,y::ys=>by
  simp only[List.map_cons,pF,Eqs.eq,Dz xs ys]
  congr 1
  by_cases h:x=y<;>by_cases h':xs=ys<;>simp[h,h']
theorem DG [Eqs e n]:∀ xs:List α,uI (xs.map e)<=n
 |[]=>by simp[uI]
 |x::xs=>by
  have:=Eqs.dp (e:=e) x
  have:=DG xs
  simp only[List.map_cons,uI]
  omega
instance [Eqs e n]:Eqs (eL e) (n+1):=⟨fun a b=>by simp only[bY];exact Dz a b,fun a=>by simp only[sO];have:=DG (e:=e) a;omega⟩
instance [Eqs e n]:Eqs (eT e) (n+1):=⟨fun a b=>by simp only[bY];exact Dz a b,fun a=>by simp only[sO];have:=DG (e:=e) a;omega⟩
instance:Non (eL e):=⟨fun a=>by simp only[bY],fun a=>by simp only[bY]⟩
instance:Non (eT e):=⟨fun a=>by simp only[bY],fun a=>by simp only[bY]⟩
instance:Non (eP1 e):=⟨fun a=>by simp only[bY],fun a=>by simp only[bY]⟩
instance:Non (Tp e e'):=⟨fun a=>by simp only[bY],fun a=>by simp only[bY]⟩
instance:Non (eP3 e e' e''):=⟨fun a=>by simp only[bY],fun a=>by simp only[bY]⟩
instance:Non (eP4 e e' e'' e3):=⟨fun a=>by simp only[bY],fun a=>by simp only[bY]⟩
instance [Eqs e n]:Eqs (eP1 e) (n+1):=⟨fun a b=>by
 simp only[bY,pF,Eqs.eq,Bool.and_true],fun a=>by
 have:=Eqs.dp (e:=e) a
 simp only[sO,uI];omega⟩
instance [Eqs e n] [Eqs e' m]:Eqs (Tp e e') (max n m+1):=⟨fun a b=>by
 obtain⟨a,a'⟩:=a;obtain⟨b,b'⟩:=b
 simp only[bY,pF,Eqs.eq]
 congr 1
 by_cases h:a=b<;>by_cases h':a'=b'<;>simp[h,h'],fun a=>by
 have:=Eqs.dp (e:=e) a.1;have:=Eqs.dp (e:=e') a.2
 simp only[sO,uI];omega⟩
instance [Eqs e n] [Eqs e' m] [Eqs e'' k]:Eqs (eP3 e e' e'') (max n (max m k)+1):=⟨fun a b=>by
 obtain⟨a,a',a2⟩:=a;obtain⟨b,b',b2⟩:=b
 simp only[bY,pF,Eqs.eq]
 congr 1
 by_cases h:a=b<;>by_cases h':a'=b'<;>by_cases h2:a2=b2<;>simp[h,h',h2],fun a=>by
 have:=Eqs.dp (e:=e) a.1;have:=Eqs.dp (e:=e') a.2.1;have:=Eqs.dp (e:=e'') a.2.2
 simp only[sO,uI];omega⟩
instance [Eqs e n] [Eqs e' m] [Eqs e'' k] [Eqs e3 l]:Eqs (eP4 e e' e'' e3) (max n (max m (max k l))+1):=⟨fun a b=>by
 obtain⟨a,a',a2,a3⟩:=a;obtain⟨b,b',b2,b3⟩:=b
 simp only[bY,pF,Eqs.eq]
 congr 1
 by_cases h:a=b<;>by_cases h':a'=b'<;>by_cases h2:a2=b2<;>by_cases h3:a3=b3<;>simp[h,h',h2,h3],fun a=>by
 have:=Eqs.dp (e:=e) a.1;have:=Eqs.dp (e:=e') a.2.1;have:=Eqs.dp (e:=e'') a.2.2.1;have:=Eqs.dp (e:=e3) a.2.2.2
 simp only[sO,uI];omega⟩
instance [Eqs e n] [Non e]:Eqs (eO e) (n+1):=⟨fun a b=>by
 cases a with
 |none=>cases b with
  |none=>simp[bY]
  |some b=>exact (Non.l (e:=e) b).trans (by simp)
 |some a=>cases b with
  |none=>exact (Non.r (e:=e) a).trans (by simp)
  |some b=>exact (Eqs.eq (e:=e) a b).trans (by simp),fun a=>by
 cases a with
 |none=>show sO .non<=n+1;simp[sO]
 |some a=>exact Nat.le_succ_of_le (Eqs.dp (e:=e) a)⟩
end
section
variable {α β γ δ:Type} {ρ:Ev} {f fa fb fc:Ev->Option Bx} {p q:Ev->Option Bool} {fs:Ev->Option (List Bx)} {e:α->Dt} {e':β->Dt}
def x_eq [DecidableEq α] {n:Nat} [Eqs e n] (hn:n<=100) (a:R fa ρ (zE e)) (b:R fb ρ (zE e)):R (b2 eqB fa fb) ρ (zE eB):=⟨decide (a.v=b.v),cF a.D b.D,fun h=>by
 obtain⟨h1,h2⟩:=au h
 have:=Eqs.dp (e:=e) a.v
 simp only[b2,a.ok h1,b.ok h2,bnd,eqB,wj,toD,Bool.false_eq_true,or_self,if_false,Eqs.eq]
 rw[if_pos (by omega)]⟩
def Zh [DecidableEq α] {n:Nat} [Eqs e n] (hn:n<=100) (a:R fa ρ (zE e)) (b:R fb ρ (zE e)):R (b2 N5 fa fb) ρ (zE eB):=⟨!decide (a.v=b.v),cF a.D b.D,fun h=>by
 obtain⟨h1,h2⟩:=au h
 have:=Eqs.dp (e:=e) a.v
 simp only[b2,a.ok h1,b.ok h2,bnd,N5,wj,toD,Bool.false_eq_true,or_self,if_false,Eqs.eq]
 rw[if_pos (by omega)]⟩
theorem pQ {b:Bx} {ds:List Dt} (h:qt b=some ds):toD b=.lst ds/\wj b=false:=by
 cases b with
 |z d=>cases d<;>cases h;exact⟨rfl,rfl⟩
 |l d=>cases h;exact⟨rfl,rfl⟩
 |o d=>cases h;exact⟨rfl,rfl⟩
 |n d=>cases h
 |m d _=>cases h
def aan [DecidableEq α] {n:Nat} [Eqs e n] (hn:n+1<=100) (a:RL fa ρ e) (b:RL fb ρ e):R (b2 eqB fa fb) ρ (zE eB):=⟨decide (a.v=b.v),cF a.D b.D,fun h=>by
 obtain⟨h1,h2⟩:=au h
 have:=Eqs.dp (e:=eL e) a.v
 simp only[b2,a.ok h1,b.ok h2,bnd,eqB,(pQ a.lk).1,(pQ a.lk).2,(pQ b.lk).1,(pQ b.lk).2,Bool.false_eq_true,or_self,if_false]
 have e1:=Eqs.eq (e:=eL e) a.v b.v
 rw[if_pos (Nat.le_trans (Nat.min_le_left _ _) (Nat.le_trans (Eqs.dp (e:=eL e) a.v) hn)),e1,bnd]⟩
def V9 [DecidableEq α] {n:Nat} [Eqs e n] (hn:n+1<=100) (a:RL fa ρ e) (b:RL fb ρ e):R (b2 N5 fa fb) ρ (zE eB):=⟨!decide (a.v=b.v),cF a.D b.D,fun h=>by
 obtain⟨h1,h2⟩:=au h
 simp only[b2,a.ok h1,b.ok h2,bnd,N5,(pQ a.lk).1,(pQ a.lk).2,(pQ b.lk).1,(pQ b.lk).2,Bool.false_eq_true,or_self,if_false]
 have e1:=Eqs.eq (e:=eL e) a.v b.v
 rw[if_pos (Nat.le_trans (Nat.min_le_left _ _) (Nat.le_trans (Eqs.dp (e:=eL e) a.v) hn)),e1,bnd]⟩
def aeK (a:R fa ρ (zE (eO e))) (hn:∀ x,N6 (.z (e x))=false):R (b2 isB fa (cB .non)) ρ (zE eB):=⟨a.v.isNone,a.D,fun h=>by
 simp only[b2,a.ok h,bnd,cB,isB]
 cases hv:a.v with
 |none=>rfl
 |some x=>simp only[Option.isNone_some,hn]⟩
def aeL (a:R fa ρ (zE eB)):R (tV fa) ρ tE:=⟨a.v,a.D,fun h=>by simp only[tV,a.ok h,bnd,Uj]⟩
def gK {g:Bx->Bx->Option Bx} (a:R (b2 g fa fb) ρ (zE eB)):R (qy g fa fb) ρ tE:=⟨a.v,a.D,fun h=>by simp only[qy,a.ok h,bnd,Rt]⟩
def Wa (a:R p ρ tE) (b:R q ρ tE):R (Iu p q) ρ tE:=⟨a.v&&b.v,cF a.D (JC (a.v=true) b.D),fun h=>by
 obtain⟨h1,h2⟩:=au h
 simp only[Iu,a.ok h1,bnd]
 cases hv:a.v with
 |true=>simp only[if_true,Bool.true_and];exact b.ok (o9 h2 hv)
 |false=>simp only[Bool.false_eq_true,if_false,Bool.false_and]⟩
def acE (a:R p ρ tE) (b:R q ρ tE):R (XQ p q) ρ tE:=⟨a.v||b.v,cF a.D (JC (a.v=false) b.D),fun h=>by
 obtain⟨h1,h2⟩:=au h
 simp only[XQ,a.ok h1,bnd]
 cases hv:a.v with
 |true=>simp only[if_true,Bool.true_or]
 |false=>simp only[Bool.false_eq_true,if_false,Bool.false_or];exact b.ok (o9 h2 hv)⟩
def aao (a:R p ρ tE):R (NP p) ρ tE:=⟨!a.v,a.D,fun h=>by simp only[NP,a.ok h,bnd]⟩
end
section
variable {α β γ δ ε:Type} {ρ:Ev} {f fa fb fc fd:Ev->Option Bx} {p q:Ev->Option Bool} {fs:Ev->Option (List Bx)} {e:α->Dt} {e':β->Dt} {e'':γ->Dt} {e3:δ->Dt}
def acF (a:R fa ρ (zE e)) (b:R fb ρ (zE e')):R (fJ rC (ao fa (ao fb aR))) ρ (zE (Tp e e')):=⟨(a.v,b.v),cF a.D b.D,fun h=>by
 obtain⟨h1,h2⟩:=au h
 simp only[fJ,ao,aR,a.ok h1,b.ok h2,bnd];rfl⟩
def zM (a:R fa ρ (zE e)) (b:R fb ρ (zE e')) (c:R fc ρ (zE e'')):R (fJ rC (ao fa (ao fb (ao fc aR)))) ρ (zE (eP3 e e' e'')):=⟨(a.v,b.v,c.v),cF a.D (cF b.D c.D),fun h=>by
 obtain⟨h1,h⟩:=au h
 obtain⟨h2,h3⟩:=au h
 simp only[fJ,ao,aR,a.ok h1,b.ok h2,c.ok h3,bnd];rfl⟩
def Wb (a:R fa ρ (zE e)) (b:R fb ρ (zE e')) (c:R fc ρ (zE e'')) (d:R fd ρ (zE e3)):R (fJ rC (ao fa (ao fb (ao fc (ao fd aR))))) ρ (zE (eP4 e e' e'' e3)):=⟨(a.v,b.v,c.v,d.v),cF a.D (cF b.D (cF c.D d.D)),fun h=>by
 obtain⟨h1,h⟩:=au h
 obtain⟨h2,h⟩:=au h
 obtain⟨h3,h4⟩:=au h
 simp only[fJ,ao,aR,a.ok h1,b.ok h2,c.ok h3,d.ok h4,bnd];rfl⟩
def lq (e:α->Dt):R aR ρ (fun xs:List α=>xs.map (zE e)):=⟨[],none,fun _=>rfl⟩
def gk (a:R fa ρ (zE e)) (t:R fs ρ (fun xs:List α=>xs.map (zE e))):R (ao fa fs) ρ (fun xs:List α=>xs.map (zE e)):=⟨a.v::t.v,cF a.D t.D,fun h=>by
 obtain⟨h1,h2⟩:=au h
 simp only[ao,a.ok h1,t.ok h2,bnd,List.map_cons]⟩
theorem Mf:∀ xs:List α,Iw (xs.map (zE e))=some (xs.map e)
 |[]=>rfl
 |x::xs=>by simp only[List.map_cons,Iw,Mf xs,bnd]
def pR (t:R fs ρ (fun xs:List α=>xs.map (zE e))) (hl:t.v.length<=1000):R (fJ nD fs) ρ (oE e):=⟨t.v,t.D,fun h=>by
 simp only[fJ,t.ok h,bnd,nD,List.length_map,if_pos hl,Mf]⟩
def at' [Inhabited α] (xs:List α) (i:Int):α:=(G6 xs i).getD default
def In (n:Nat) (i:Int):Prop:=-(n:Int)<=i/\i < n
theorem JF {xs:List α} {i:Int} (h:In xs.length i):∃ x,G6 xs i=some x:=by
 obtain⟨h1,h2⟩:=h
 unfold G6 ixN
 by_cases h0:0<=i
 ·rw[if_pos h0,if_pos h2]
  exact⟨xs[i.toNat]'(by omega),List.getElem?_eq_getElem (by omega)⟩
 ·rw[if_neg h0,if_pos h1]
  exact⟨xs[(i+xs.length).toNat]'(by omega),List.getElem?_eq_getElem (by omega)⟩
theorem acG {xs:List α} {i:Int} {x:α} (h:G6 xs i=some x):G6 (xs.map e) i=some (e x):=by
 unfold G6 at h ⊢
 rw[List.length_map]
 obtain⟨j,ej,h⟩:=bind_some h
 rw[ej,bnd,List.getElem?_map,h]
 rfl
theorem acH [Inhabited α] {xs:List α} {i:Int} (h:In xs.length i):G6 (xs.map e) i=some (e (at' xs i)):=by
 obtain⟨x,hx⟩:=JF h
 rw[acG hx]
 unfold at'
 rw[hx]
 rfl
theorem Zi {b:Bx} {ds:List Dt} {i:Int} (h:qt b=some ds):iD b (.z (.int i))=(G6 ds i).bind fun d=>some (.z d):=by
 cases b with
 |z d=>cases d<;>cases h;rfl
 |l d=>cases h;rfl
 |o d=>cases h;rfl
 |n d=>cases h
 |m d _=>cases h
def lu [Inhabited α] (a:RL fa ρ e) (b:R fb ρ (zE eI)):R (b2 iD fa fb) ρ (zE e):=⟨at' a.v b.v,cF (cF a.D b.D) (some (In a.v.length b.v)),fun h=>by
 obtain⟨h,h3⟩:=au h
 obtain⟨h1,h2⟩:=au h
 simp only[b2,a.ok h1,b.ok h2,bnd,Zi a.lk,acH (show In a.v.length b.v from h3)]⟩
def ch (x:Str) (i:Int):Str:=⟨#[(G6 x.cps.toList i).getD 0]⟩
def Wc (a:R fa ρ (zE eS)) (b:R fb ρ (zE eI)):R (b2 iD fa fb) ρ (zE eS):=⟨ch a.v b.v,cF (cF a.D b.D) (some (In a.v.length b.v)),fun h=>by
 obtain⟨h,h3⟩:=au h
 obtain⟨h1,h2⟩:=au h
 obtain⟨x,hx⟩:=JF (xs:=a.v.cps.toList) (i:=b.v) (show In a.v.length b.v from h3)
 simp only[b2,a.ok h1,b.ok h2,bnd,iD,hx,ch,Option.getD_some]⟩
def jU (a:R fa ρ (zE e)) (g:α->β) (e':β->Dt) (i:Int) (h:∀ x,iD (.z (e x)) (.z (.int i))=some (.z (e' (g x)))):R (b2 iD fa (cB (.int i))) ρ (zE e'):=⟨g a.v,a.D,fun hd=>by
 simp only[b2,a.ok hd,bnd,cB,h]⟩
def cut (xs:List α) (lo hi:Option Int):List α:=(xs.drop (HT.jr xs.length 0 lo)).take (HT.jr xs.length xs.length hi - HT.jr xs.length 0 lo)
theorem Qz (xs:List α) (lo hi:Option Int):cutD (xs.map e) lo hi=(cut xs lo hi).map e:=by
 unfold cutD cut
 rw[List.length_map,List.map_take,List.map_drop]
abbrev pE:Option Int->Option Int:=fun o=>o
def O6:R ju ρ pE:=⟨none,none,fun _=>rfl⟩
def O7 (a:R fa ρ (zE eI)):R (lQ fa) ρ pE:=⟨some a.v,a.D,fun h=>by simp only[lQ,a.ok h,bnd,ab3]⟩
variable {fl fh:Ev->Option (Option Int)}
theorem Zj {b:Bx} {ds:List Dt} {lo hi:Option Int} (h:qt b=some ds):slB b lo hi=some (.o (cutD ds lo hi)):=by
 cases b with
 |z d=>cases d<;>cases h;rfl
 |l d=>cases h;rfl
 |o d=>cases h;rfl
 |n d=>cases h
 |m d _=>cases h
def acI (a:RL fa ρ e) (l:R fl ρ pE) (u:R fh ρ pE):R (BP fa fl fh) ρ (oE e):=⟨cut a.v l.v u.v,cF a.D (cF l.D u.D),fun h=>by
 obtain⟨h1,h⟩:=au h
 obtain⟨h2,h3⟩:=au h
 simp only[BP,a.ok h1,l.ok h2,u.ok h3,bnd,Zj a.lk,Qz]⟩
def aap (a:R fa ρ (zE (eT e))) (l:R fl ρ pE) (u:R fh ρ pE):R (BP fa fl fh) ρ (zE (eT e)):=⟨cut a.v l.v u.v,cF a.D (cF l.D u.D),fun h=>by
 obtain⟨h1,h⟩:=au h
 obtain⟨h2,h3⟩:=au h
 simp only[BP,a.ok h1,l.ok h2,u.ok h3,bnd,slB,Qz]⟩
def aaq (a:R fa ρ (zE eS)) (l:R fl ρ pE) (u:R fh ρ pE):R (BP fa fl fh) ρ (zE eS):=⟨Txt.slice a.v l.v u.v,cF a.D (cF l.D u.D),fun h=>by
 obtain⟨h1,h⟩:=au h
 obtain⟨h2,h3⟩:=au h
 simp only[BP,a.ok h1,l.ok h2,u.ok h3,bnd,slB]⟩
def HD (n:Nat):Prop:=n<=1000000
def Wd (a:R fa ρ (zE eS)) (b:R fb ρ (zE eS)):R (b2 jt fa fb) ρ (zE eS):=⟨a.v++b.v,cF (cF a.D b.D) (some (HD (a.v.length+b.v.length))),fun h=>by
 obtain⟨h,h3⟩:=au h
 obtain⟨h1,h2⟩:=au h
 simp only[b2,a.ok h1,b.ok h2,bnd,jt,if_pos (show a.v.length+b.v.length<=RD from h3)]⟩
theorem Wf {b b':Bx} {ds ds':List Dt} (h:qt b=some ds) (h':qt b'=some ds') (hl:ds.length+ds'.length<=RD):jt b b'=some (.o (ds++ds')):=by
 cases b with
 |z d=>
  cases d<;>cases h
  cases b' with
  |z d'=>cases d'<;>cases h';exact if_pos hl
  |l d'=>cases h';exact if_pos hl
  |o d'=>cases h';exact if_pos hl
  |n d'=>cases h'
  |m d'=>cases h'
 |l d=>
  cases h
  cases b' with
  |z d'=>cases d'<;>cases h';exact if_pos hl
  |l d'=>cases h';exact if_pos hl
  |o d'=>cases h';exact if_pos hl
  |n d'=>cases h'
  |m d'=>cases h'
 |o d=>
  cases h
  cases b' with
  |z d'=>cases d'<;>cases h';exact if_pos hl
  |l d'=>cases h';exact if_pos hl
  |o d'=>cases h';exact if_pos hl
  |n d'=>cases h'
  |m d'=>cases h'
 |n d=>cases h
 |m d _=>cases h
def O8 (a:RL fa ρ e) (b:RL fb ρ e):R (b2 jt fa fb) ρ (oE e):=⟨a.v++b.v,cF (cF a.D b.D) (some (HD (a.v.length+b.v.length))),fun h=>by
 obtain⟨h,h3⟩:=au h
 obtain⟨h1,h2⟩:=au h
 simp only[b2,a.ok h1,b.ok h2,bnd]
 rw[Wf a.lk b.lk (by rw[List.length_map,List.length_map];exact h3)]
 simp only[oE,List.map_append]⟩
def acJ (a:R fa ρ (zE eS)) (b:R fb ρ (zE eI)):R (b2 wX fa fb) ρ (zE eS):=⟨Txt.mul a.v b.v,cF (cF a.D b.D) (some (b.v<=1000 ∧ -1000<=b.v/\a.v.length<=1000)),fun h=>by
 obtain⟨h,h3⟩:=au h
 obtain⟨h1,h2⟩:=au h
 simp only[b2,a.ok h1,b.ok h2,bnd]
 exact if_pos h3⟩
theorem Wg {b:Bx} {ds:List Dt} (h:qt b=some ds):zu [b]=some (.z (.int ds.length)):=by
 cases b with
 |z d=>cases d<;>cases h;rfl
 |l d=>cases h;rfl
 |o d=>cases h;rfl
 |n d=>cases h
 |m d _=>cases h
theorem Wh {b:Bx} {ds:List Dt} (h:qt b=some ds):wY b=some ds:=by
 cases b with
 |z d=>cases d<;>cases h;rfl
 |l d=>cases h;rfl
 |o d=>cases h;rfl
 |n d=>cases h
 |m d _=>cases h
def x_len (a:RL fa ρ e):R (fJ zu (ao fa aR)) ρ (zE eI):=⟨(a.v.length:Int),a.D,fun h=>by
 simp only[fJ,ao,aR,a.ok h,bnd,Wg a.lk,List.length_map]⟩
def acK (a:R fa ρ (zE (eT e))):R (fJ zu (ao fa aR)) ρ (zE eI):=⟨(a.v.length:Int),a.D,fun h=>by
 simp only[fJ,ao,aR,a.ok h,bnd,zu,wY,List.length_map]⟩
def acL (a:R fa ρ (zE eS)):R (fJ zu (ao fa aR)) ρ (zE eI):=⟨(a.v.length:Int),a.D,fun h=>by
 simp only[fJ,ao,aR,a.ok h,bnd,zu]⟩
def rJ (a:RL fa ρ e):R (fJ kW (ao fa aR)) ρ (zE (eT e)):=⟨a.v,a.D,fun h=>by
 simp only[fJ,ao,aR,a.ok h,bnd,kW,Wh a.lk]⟩
def aeM (a:R fa ρ (zE eI)):R (fJ RK (ao fa aR)) ρ (zE eI):=⟨if a.v < 0 then -a.v else a.v,a.D,fun h=>by
 simp only[fJ,ao,aR,a.ok h,bnd,RK]⟩
def acM (a:R fa ρ (zE eB)):R (fJ U7 (ao fa aR)) ρ (zE eI):=⟨if a.v=true then 1 else 0,a.D,fun h=>by
 simp only[fJ,ao,aR,a.ok h,bnd,U7]⟩
theorem HF:∀ l:List Bool,Hl (l.map eB)=some l
 |[]=>rfl
 |a::l=>by simp only[List.map_cons,Hl,HF l,bnd]
def aar (a:RL fa ρ eB):R (fJ allB (ao fa aR)) ρ (zE eB):=⟨a.v.all id,a.D,fun h=>by
 simp only[fJ,ao,aR,a.ok h,bnd,allB,a.lk,HF]⟩
def HJ (a:R fa ρ (zE eI)) (b:R fb ρ (zE eI)):R (fJ FQ (ao fa (ao fb aR))) ρ (zE eI):=⟨if b.v > a.v then b.v else a.v,cF a.D b.D,fun h=>by
 obtain⟨h1,h2⟩:=au h
 simp only[fJ,ao,aR,a.ok h1,b.ok h2,bnd,FQ]⟩
def aas (a:R fa ρ (zE eI)) (b:R fb ρ (zE eI)):R (fJ RT (ao fa (ao fb aR))) ρ (zE eI):=⟨if b.v < a.v then b.v else a.v,cF a.D b.D,fun h=>by
 obtain⟨h1,h2⟩:=au h
 simp only[fJ,ao,aR,a.ok h1,b.ok h2,bnd,RT]⟩
theorem strs_map:∀ l:List Str,CJ (l.map eS)=some l
 |[]=>rfl
 |a::l=>by simp only[List.map_cons,CJ,strs_map l,bnd]
def acN (s:Str) (a:RL fa ρ eS):R (b1 (CQ s) fa) ρ (zE eS):=⟨Txt.join s a.v,cF a.D (some ((a.v.map (·.length)).sum+a.v.length * s.length<=100000)),fun h=>by
 obtain⟨h,h4⟩:=au h
 simp only[b1,a.ok h,bnd,CQ,a.lk,strs_map]
 exact if_pos h4⟩
def QC (a:RL fa ρ eS):R (fJ CP (ao fa aR)) ρ (oE eS):=⟨mX a.v,cF a.D (some (a.v.length < 64)),fun h=>by
 obtain⟨h,h4⟩:=au h
 simp only[fJ,ao,aR,a.ok h,bnd,CP,a.lk,strs_map]
 exact if_pos h4⟩
def QD (a:R fa ρ (zE e)) (g:α->β) (e':β->Dt) (lo hi:Option Int) (hl:fl ρ=some lo) (hh:fh ρ=some hi) (h:∀ x,slB (.z (e x)) lo hi=some (.z (e' (g x)))):R (BP fa fl fh) ρ (zE e'):=⟨g a.v,a.D,fun hd=>by
 simp only[BP,a.ok hd,hl,hh,bnd,h]⟩
class Flat {α:Type} (e:α->Dt):Prop where
 f:∀ a,yd (e a)=true
instance:Flat eI:=⟨fun _=>rfl⟩
instance:Flat eB:=⟨fun _=>rfl⟩
instance:Flat eS:=⟨fun _=>rfl⟩
theorem Wi [DecidableEq α] {n:Nat} [Eqs e n] [Flat e] (x:α) (ys:List α):memD (e x) (ys.map e)=some (decide (x∈ys)):=by
 unfold memD
 rw[if_pos ⟨Flat.f x,by rw[List.all_map];exact List.all_eq_true.mpr fun y _=>Flat.f y⟩,List.any_map]
 congr 1
 rw[Bool.eq_iff_iff,List.any_eq_true,decide_eq_true_iff]
 constructor
 ·rintro⟨y,hy,h⟩
  simp only[Function.comp,Eqs.eq] at h
  by_cases e1:y=x
  ·rw[<-e1];exact hy
  ·simp only[e1,decide_false] at h
   cases h
 ·intro h
  exact⟨x,h,by simp only[Function.comp,Eqs.eq,decide_true]⟩
theorem Zk {b:Bx} {d:Dt} {ds:List Dt} (h:qt b=some ds):inB (.z d) b=memD d ds:=by
 cases b with
 |z d'=>cases d'<;>cases h;cases d<;>rfl
 |l d'=>cases h;cases d<;>rfl
 |o d'=>cases h;cases d<;>rfl
 |n d'=>cases h
 |m d'=>cases h
def aeN [DecidableEq α] {n:Nat} [Eqs e n] [Flat e] (a:R fa ρ (zE e)) (b:RL fb ρ e):R (b2 inF fa fb) ρ (zE eB):=⟨decide (a.v∈b.v),cF a.D b.D,fun h=>by
 obtain⟨h1,h2⟩:=au h
 simp only[b2,a.ok h1,b.ok h2,bnd,inF,Zk b.lk,Wi]⟩
end
structure AR {γ:Type} (cA:γ->List Bx->Prop) (fs:Ev->Option (List Bx)) (ρ:Ev) where
 v:γ
 D:Option Prop
 bs:List Bx
 h:cA v bs
 ok:hold D->fs ρ=some bs
section
variable {α β γ δ ε σ:Type} {ρ:Ev} {f fa fb fc fd:Ev->Option Bx} {p q:Ev->Option Bool} {fs:Ev->Option (List Bx)} {e:α->Dt} {e':β->Dt} {e'':γ->Dt} {e3:δ->Dt}
def aN:Unit->List Bx->Prop:=fun _ bs=>bs=[]
def aZ (e:α->Dt) (t:γ->List Bx->Prop):α×γ->List Bx->Prop:=fun x bs=>∃ r,bs=.z (e x.1)::r/\t x.2 r
def aL (e:α->Dt) (t:γ->List Bx->Prop):List α×γ->List Bx->Prop:=fun x bs=>∃ b r,bs=b::r/\qt b=some (x.1.map e)/\t x.2 r
def gM:AR aN aR ρ:=⟨(),none,[],rfl,fun _=>rfl⟩
def jh {t:γ->List Bx->Prop} (a:R fa ρ (zE e)) (r:AR t fs ρ):AR (aZ e t) (ao fa fs) ρ:=⟨(a.v,r.v),cF a.D r.D,_,⟨_,rfl,r.h⟩,fun h=>by
 obtain⟨h1,h2⟩:=au h
 simp only[ao,a.ok h1,r.ok h2,bnd]⟩
def Mg {t:γ->List Bx->Prop} (a:RL fa ρ e) (r:AR t fs ρ):AR (aL e t) (ao fa fs) ρ:=⟨(a.v,r.v),cF a.D r.D,_,⟨_,_,rfl,a.lk,r.h⟩,fun h=>by
 obtain⟨h1,h2⟩:=au h
 simp only[ao,a.ok h1,r.ok h2,bnd]⟩
def x_call {cA:γ->List Bx->Prop} {F:List Bx->Option Bx} {n:Nat} {c:α->Bx} {T:γ->α} {Df:γ->Option Prop} (S:∀ v bs,cA v bs->bs.length=n/\(hold (Df v)->F (bs.map lend)=some (c (T v)))) (a:AR cA fs ρ):R (fL n F fs) ρ c:=⟨T a.v,cF a.D (Df a.v),fun h=>by
 obtain⟨h1,h2⟩:=au h
 obtain⟨h3,h4⟩:=S a.v a.bs a.h
 simp only[fL,a.ok h1,bnd,if_pos h3,h4 h2]⟩
theorem lA {g:Ev->Option Out} {n:Nat} {bs:List Bx} {c:α->Bx} (x:R g (bs.map some++List.replicate (n - bs.length) none) (fun r=>Out.rt (c r))) (h:hold x.D):kO n g bs=some (c x.v):=by
 unfold kO
 rw[x.ok h]
 rfl
variable {fi:Ev->Option (List Dt)} {gt:Dt->Ev->Option Ev} {fe:Ev->Option Bx} {is:List Nat} {n:Nat}
def aeO (xs:List α) (P:α->Option Prop):Option Prop:=some (∀ x∈xs,hold (P x))
theorem comp_map {ρ1:Ev} {g:α->β}:∀ xs:List α,(∀ x∈xs,∃ ρ2,gt (e x) ρ1=some ρ2/\fe ρ2=some (.z (e' (g x))))->oh gt rD fe ρ1 (xs.map e)=some ((xs.map g).map e')
 |[],_=>rfl
 |x::xs,h=>by
  obtain⟨ρ2,h1,h2⟩:=h x (List.mem_cons_self ..)
  simp only[List.map_cons,oh,h1,bnd,rD,if_true,h2,comp_map xs fun y hy=>h y (List.mem_cons_of_mem _ hy)]
theorem DK {ρ1:Ev} {g:α->β} {π:α->Bool}:∀ xs:List α,(∀ x∈xs,∃ ρ2,gt (e x) ρ1=some ρ2/\p ρ2=some (π x)/\(π x=true->fe ρ2=some (.z (e' (g x)))))->oh gt p fe ρ1 (xs.map e)=some (((xs.filter π).map g).map e')
 |[],_=>rfl
 |x::xs,h=>by
  obtain⟨ρ2,h1,h2,h3⟩:=h x (List.mem_cons_self ..)
  have ih:=DK (g:=g) (π:=π) xs fun y hy=>h y (List.mem_cons_of_mem _ hy)
  cases hp:π x with
  |true=>simp only[List.map_cons,oh,h1,bnd,h2,hp,if_true,h3 hp,ih,List.filter_cons]
  |false=>simp only[List.map_cons,oh,h1,bnd,h2,hp,ih,List.filter_cons,Bool.false_eq_true,if_false]
def O9 (it:R fi ρ (iE e)) (ρ2:α->Ev) (hg:∀ x,gt (e x) (gR is ρ++List.replicate n none)=some (ρ2 x)) (b:∀ x,R fe (ρ2 x) (zE e')):R (dU fi gt rD fe is n) ρ (oE e'):=⟨it.v.map fun x=>(b x).v,cF (cF it.D (some (it.v.length<=100000))) (aeO it.v fun x=>(b x).D),fun h=>by
 obtain⟨h,h3⟩:=au h
 obtain⟨h1,h2⟩:=au h
 have h3:∀ x∈it.v,hold (b x).D:=h3
 simp only[dU,it.ok h1,bnd,List.length_map,if_pos (show it.v.length<=100000 from h2),comp_map it.v fun x hx=>⟨ρ2 x,hg x,(b x).ok (h3 x hx)⟩]⟩
def yF (it:R fi ρ (iE e)) (ρ2:α->Ev) (hg:∀ x,gt (e x) (gR is ρ++List.replicate n none)=some (ρ2 x)) (b:∀ x,R fe (ρ2 x) (zE e')) (hb:∀ x,(b x).D=none):R (dU fi gt rD fe is n) ρ (oE e'):=⟨it.v.map fun x=>(b x).v,cF it.D (some (it.v.length<=100000)),fun h=>by
 obtain⟨h1,h2⟩:=au h
 simp only[dU,it.ok h1,bnd,List.length_map,if_pos (show it.v.length<=100000 from h2),comp_map it.v fun x hx=>⟨ρ2 x,hg x,(b x).ok (by rw[hb x];trivial)⟩]⟩
def QF (it:R fi ρ (iE e)) (ρ2:α->Ev) (hg:∀ x,gt (e x) (gR is ρ++List.replicate n none)=some (ρ2 x)) (t:∀ x,R p (ρ2 x) tE) (b:∀ x,R fe (ρ2 x) (zE e')):R (dU fi gt p fe is n) ρ (oE e'):=⟨(it.v.filter fun x=>(t x).v).map fun x=>(b x).v,cF (cF it.D (some (it.v.length<=100000))) (aeO it.v fun x=>cF (t x).D (JC ((t x).v=true) (b x).D)),fun h=>by
 obtain⟨h,h3⟩:=au h
 obtain⟨h1,h2⟩:=au h
 have h3:∀ x∈it.v,hold (cF (t x).D (JC ((t x).v=true) (b x).D)):=h3
 simp only[dU,it.ok h1,bnd,List.length_map,if_pos (show it.v.length<=100000 from h2),DK it.v fun x hx=>⟨ρ2 x,hg x,(t x).ok (au (h3 x hx)).1,fun ht=>(b x).ok (o9 (au (h3 x hx)).2 ht)⟩]⟩
def jZ (it:R fi ρ (iE e)) (ρ2:α->Ev) (hg:∀ x,gt (e x) (gR is ρ++List.replicate n none)=some (ρ2 x)) (t:∀ x,R p (ρ2 x) tE) (b:∀ x,R fe (ρ2 x) (zE e')) (ht:∀ x,(t x).D=none) (hb:∀ x,(b x).D=none):R (dU fi gt p fe is n) ρ (oE e'):=⟨(it.v.filter fun x=>(t x).v).map fun x=>(b x).v,cF it.D (some (it.v.length<=100000)),fun h=>by
 obtain⟨h1,h2⟩:=au h
 simp only[dU,it.ok h1,bnd,List.length_map,if_pos (show it.v.length<=100000 from h2),DK it.v fun x hx=>⟨ρ2 x,hg x,(t x).ok (by rw[ht x];trivial),fun _=>(b x).ok (by rw[hb x];trivial)⟩]⟩
def Gb (a:RL fa ρ e):R (Ab fa) ρ (iE e):=⟨a.v,a.D,fun h=>by
 have:UG a.b=some (a.v.map e):=by
  have:=a.lk
  revert this
  generalize a.b=b
  generalize a.v.map e=ds
  intro this
  cases b with
  |z d=>cases d<;>cases this;rfl
  |l d=>cases this;rfl
  |o d=>cases this;rfl
  |n d=>cases this
  |m d _=>cases this
 simp only[Ab,a.ok h,bnd,this]⟩
def Pa (a:R fa ρ (zE (eT e))):R (Ab fa) ρ (iE e):=⟨a.v,a.D,fun h=>by simp only[Ab,a.ok h,bnd,UG]⟩
def acO (a:R fa ρ (oE e)):R (itF fa) ρ (iE e):=⟨a.v,a.D,fun h=>by simp only[itF,a.ok h,bnd,Ut]⟩
def rng (i:Int) (n:Nat):List Int:=(List.range n).map fun k:Nat=>i+(k:Int)
theorem Zm (i:Int) (n:Nat):KZ i n=(rng i n).map eI:=by
 unfold KZ rng
 rw[List.map_map]
 rfl
def Rg (j:Int):Prop:=-4611686018427387904<=j/\j < 4611686018427387904
def HN (a:R fa ρ (zE eI)):R (Qd (ao fa aR)) ρ (iE eI):=⟨rng 0 a.v.toNat,cF a.D (some (Rg a.v)),fun h=>by
 obtain⟨h,h4⟩:=au h
 simp only[Qd,ao,aR,a.ok h,bnd]
 show (if -(2 ^ 62)<=a.v/\a.v < 2 ^ 62 then some (KZ 0 a.v.toNat) else none)=_
 exact (if_pos h4).trans (by rw[Zm])⟩
end
section
variable {α β γ δ ε σ τ:Type} {ρ:Ev} {f fa fb fc fd:Ev->Option Bx} {p q:Ev->Option Bool} {fs:Ev->Option (List Bx)} {e:α->Dt} {e':β->Dt} {g g1 g2 k:Ev->Option Out} {cO:γ->Out} {gt:Dt->Ev->Option Ev}
theorem nH {ρ':Ev} (h:g1 ρ=some (.nx ρ')):aD g1 k ρ=k ρ':=by
 unfold aD
 rw[h]
 rfl
def dG (x:R (aD g (aD g1 k)) ρ cO):R (aD (aD g g1) k) ρ cO:=⟨x.v,x.D,fun h=>by
 rw[<-x.ok h]
 unfold aD
 cases g ρ with
 |none=>rfl
 |some o=>cases o<;>rfl⟩
def fV (x:R k ρ cO):R (aD jD k) ρ cO:=⟨x.v,x.D,fun h=>x.ok h⟩
def dh {is:List Nat} (x:γ) (h:cO x=.nx (kill is ρ)):R (gw is) ρ cO:=⟨x,none,fun _=>by rw[h];rfl⟩
def lB {c:α->Bx} (inj:α->γ) (a:R f ρ c) (h:∀ x,cO (inj x)=.rt (c x)) (hc:∀ x,Rw (c x)=some (.rt (c x))):R (aD (kY f) k) ρ cO:=⟨inj a.v,a.D,fun hd=>by
 have:kY f ρ=some (.rt (c a.v)):=by unfold kY;rw[a.ok hd,bnd,hc]
 unfold aD
 rw[this,h]
 rfl⟩
def Wj {c:α->Bx} (i:Nat) (inj:α->γ) (a:α) (hi:ρ[i]?=some (some (c a))) (h:∀ x,cO (inj x)=.rt (c x)) (hc:∀ x,Rw (c x)=some (.rt (c x))):R (aD (FP i) k) ρ cO:=⟨inj a,none,fun hd=>by
 have:FP i ρ=some (.rt (c a)):=by unfold FP;rw[hi];exact hc a
 unfold aD
 rw[this,h]
 rfl⟩
def dH {c:α->Bx} (i:Nat) (a:R f ρ c) (hc:∀ x,NQ ρ i (c x)=some (ρ.set i (some (c x)))) (K:∀ x,R k (ρ.set i (some (c x))) cO):R (aD (setG i f) k) ρ cO:=⟨(K a.v).v,cF a.D (K a.v).D,fun hd=>by
 obtain⟨h1,h2⟩:=au hd
 rw[nH (ρ':=ρ.set i (some (c a.v))) (by unfold setG;rw[a.ok h1,bnd,hc,bnd])]
 exact (K a.v).ok h2⟩
def QG (a:R f ρ (zE e)) (ρ2:α->Ev) (hg:∀ x,gt (e x) ρ=some (ρ2 x)) (K:∀ x,R k (ρ2 x) cO):R (aD (RM gt f) k) ρ cO:=⟨(K a.v).v,cF a.D (K a.v).D,fun hd=>by
 obtain⟨h1,h2⟩:=au hd
 rw[nH (ρ':=ρ2 a.v) (by unfold RM;rw[a.ok h1,bnd];simp only[hg,bnd])]
 exact (K a.v).ok h2⟩
def aat (i j:Nat) (a:R fa ρ (zE e)) (b:R fb ρ (zE e')) (K:∀ x y,R k ((ρ.set i (some (.z (e x)))).set j (some (.z (e' y)))) cO):R (aD (Yv i j (ao fa (ao fb aR))) k) ρ cO:=⟨(K a.v b.v).v,cF (cF a.D b.D) (K a.v b.v).D,fun hd=>by
 obtain⟨h1,h3⟩:=au hd
 obtain⟨h1,h2⟩:=au h1
 rw[nH (ρ':=(ρ.set i (some (.z (e a.v)))).set j (some (.z (e' b.v)))) (by unfold Yv;simp only[ao,aR,a.ok h1,b.ok h2,bnd,Ur])]
 exact (K a.v b.v).ok h3⟩
def HS (i:Nat) (xs:List α) (hi:ρ[i]?=some (some (.o (xs.map e)))) (a:R f ρ (zE e)) (K:∀ ys:List α,R k (ρ.set i (some (.o (ys.map e)))) cO):R (aD (K8 i f) k) ρ cO:=⟨(K (xs++[a.v])).v,cF (cF a.D (some (HD xs.length))) (K (xs++[a.v])).D,fun hd=>by
 obtain⟨h1,h3⟩:=au hd
 obtain⟨h1,h2⟩:=au h1
 have h2:xs.length<=1000000:=h2
 rw[nH (ρ':=ρ.set i (some (.o ((xs++[a.v]).map e)))) (by
  unfold K8
  rw[a.ok h1,bnd]
  simp only[Us,hi,List.length_map,List.map_append,List.map_cons,List.map_nil]
  rw[if_pos (Nat.lt_of_le_of_lt h2 (by decide))])]
 exact (K _).ok h3⟩
def DN (t:R p ρ tE) (a:R (aD g1 k) ρ cO) (b:R (aD g2 k) ρ cO):R (aD (Aa p g1 g2) k) ρ cO:=⟨if t.v=true then a.v else b.v,cF t.D (cF (JC (t.v=true) a.D) (JC (t.v=false) b.D)),fun hd=>by
 obtain⟨h1,h2⟩:=au hd
 obtain⟨h2,h3⟩:=au h2
 have e1:∀ c,t.v=c->aD (Aa p g1 g2) k ρ=aD (if c=true then g1 else g2) k ρ:=fun c hc=>by
  unfold aD Aa
  rw[t.ok h1,bnd,hc]
  cases c<;>rfl
 cases hv:t.v with
 |true=>rw[e1 true hv];simp only[if_true];exact a.ok (o9 h2 hv)
 |false=>rw[e1 false hv];simp only[Bool.false_eq_true,if_false];exact b.ok (o9 h3 hv)⟩
def Ai (E:σ->Ev) (t:R p ρ tE) (a:R g1 ρ (fun s=>Out.nx (E s))) (b:R g2 ρ (fun s=>Out.nx (E s))) (K:∀ s,R k (E s) cO):R (aD (Aa p g1 g2) k) ρ cO:=⟨(K (if t.v=true then a.v else b.v)).v,cF (cF t.D (cF (JC (t.v=true) a.D) (JC (t.v=false) b.D))) (K (if t.v=true then a.v else b.v)).D,fun hd=>by
 obtain⟨h,h4⟩:=au hd
 obtain⟨h1,h2⟩:=au h
 obtain⟨h2,h3⟩:=au h2
 rw[nH (ρ':=E (if t.v=true then a.v else b.v)) (by
  unfold Aa
  rw[t.ok h1,bnd]
  cases hv:t.v with
  |true=>simp only[if_true];exact a.ok (o9 h2 hv)
  |false=>simp only[Bool.false_eq_true,if_false];exact b.ok (o9 h3 hv))]
 exact (K _).ok h4⟩
def uT (step:σ->α->σ) (P:σ->α->Option Prop):List α->σ->Prop
 |[],_=>True
 |x::xs,s=>hold (P s x)/\uT step P xs (step s x)
theorem yG {gb:Ev->Option Out} (E:σ->Ev) (ρ2:σ->α->Ev) (hg:∀ s x,gt (e x) (E s)=some (ρ2 s x)) (body:∀ s x,R gb (ρ2 s x) (fun s=>Out.nx (E s))):∀ (xs:List α) (s:σ),uT (fun s x=>(body s x).v) (fun s x=>(body s x).D) xs s->pD gt gb (xs.map e) (E s)=some (.nx (E (xs.foldl (fun s x=>(body s x).v) s)))
 |[],s,_=>rfl
 |x::xs,s,h=>by
  simp only[List.map_cons,pD,hg,bnd,(body s x).ok h.1,List.foldl_cons]
  exact yG E ρ2 hg body xs _ h.2
variable {fi:Ev->Option (List Dt)} {gb:Ev->Option Out}
def Mh (E:σ->Ev) (s0:σ) (hE:ρ=E s0) (it:R fi ρ (iE e)) (ρ2:σ->α->Ev) (hg:∀ s x,gt (e x) (E s)=some (ρ2 s x)) (body:∀ s x,R gb (ρ2 s x) (fun s=>Out.nx (E s))) (K:∀ s,R k (E s) cO):R (aD (qz fi gt gb) k) ρ cO:=⟨(K (it.v.foldl (fun s x=>(body s x).v) s0)).v,cF (cF it.D (some (uT (fun s x=>(body s x).v) (fun s x=>(body s x).D) it.v s0))) (K (it.v.foldl (fun s x=>(body s x).v) s0)).D,fun hd=>by
 obtain⟨h,h4⟩:=au hd
 obtain⟨h1,h2⟩:=au h
 rw[nH (ρ':=E (it.v.foldl (fun s x=>(body s x).v) s0)) (by
  unfold qz
  rw[it.ok h1,bnd]
  subst hE
  exact yG E ρ2 hg body it.v s0 h2)]
 exact (K _).ok h4⟩
def acP (E:σ->Ev) (s0:σ) (hE:ρ=E s0) (it:R fi ρ (iE e)) (ρ2:σ->α->Ev) (hg:∀ s x,gt (e x) (E s)=some (ρ2 s x)) (body:∀ s x,R gb (ρ2 s x) (fun s=>Out.nx (E s))) (hb:∀ s x,(body s x).D=none) (K:∀ s,R k (E s) cO):R (aD (qz fi gt gb) k) ρ cO:=⟨(K (it.v.foldl (fun s x=>(body s x).v) s0)).v,cF it.D (K (it.v.foldl (fun s x=>(body s x).v) s0)).D,fun hd=>by
 obtain⟨h1,h4⟩:=au hd
 have h2:∀ (xs:List α) (s:σ),uT (fun s x=>(body s x).v) (fun s x=>(body s x).D) xs s:=fun xs=>by
  induction xs with
  |nil=>intro s;trivial
  |cons x xs ih=>intro s;exact⟨by show hold (body s x).D;rw[hb s x];trivial,ih _⟩
 rw[nH (ρ':=E (it.v.foldl (fun s x=>(body s x).v) s0)) (by
  unfold qz
  rw[it.ok h1,bnd]
  subst hE
  exact yG E ρ2 hg body it.v s0 (h2 _ _))]
 exact (K _).ok h4⟩
inductive Fy (σ τ:Type) where
 |nx (s:σ)|rt (r:τ)|bk (s:σ)|ct (s:σ)
def cC (E:σ->Ev) (c:τ->Bx):Fy σ τ->Out
 |.nx s=>.nx (E s)
 |.rt r=>.rt (c r)
 |.bk s=>.bk (E s)
 |.ct s=>.ct (E s)
def pG (step:σ->α->Fy σ τ):List α->σ->Fy σ τ
 |[],s=>.nx s
 |x::xs,s=>match step s x with
  |.nx s'=>pG step xs s'
  |.ct s'=>pG step xs s'
  |.bk s'=>.nx s'
  |.rt r=>.rt r
def yH (step:σ->α->Fy σ τ) (P:σ->α->Option Prop):List α->σ->Prop
 |[],_=>True
 |x::xs,s=>hold (P s x)/\match step s x with
  |.nx s'=>yH step P xs s'
  |.ct s'=>yH step P xs s'
  |.bk _=>True
  |.rt _=>True
theorem Ce {c:τ->Bx} (E:σ->Ev) (ρ2:σ->α->Ev) (hg:∀ s x,gt (e x) (E s)=some (ρ2 s x)) (body:∀ s x,R gb (ρ2 s x) (cC E c)):∀ (xs:List α) (s:σ),yH (fun s x=>(body s x).v) (fun s x=>(body s x).D) xs s->pD gt gb (xs.map e) (E s)=some (cC E c (pG (fun s x=>(body s x).v) xs s))
 |[],s,_=>rfl
 |x::xs,s,h=>by
  obtain⟨h1,h2⟩:=h
  dsimp only at h2
  simp only[List.map_cons,pD,hg,bnd,(body s x).ok h1,pG]
  revert h2
  cases (body s x).v with
  |nx s'=>intro h2;exact Ce E ρ2 hg body xs s' h2
  |ct s'=>intro h2;exact Ce E ρ2 hg body xs s' h2
  |bk s'=>intro _;rfl
  |rt r=>intro _;rfl
theorem yI (step:σ->α->Fy σ τ):∀ (xs:List α) (s:σ),(∃ s',pG step xs s=.nx s')\/∃ r,pG step xs s=.rt r
 |[],s=>.inl ⟨s,rfl⟩
 |x::xs,s=>by
  unfold pG
  cases step s x with
  |nx s'=>exact yI step xs s'
  |ct s'=>exact yI step xs s'
  |bk s'=>exact .inl ⟨s',rfl⟩
  |rt r=>exact .inr ⟨r,rfl⟩
def behind (r:Fy σ τ) (inj:τ->γ) (K:σ->γ):γ:=match r with
 |.rt r=>inj r
 |.nx s=>K s
 |.bk s=>K s
 |.ct s=>K s
def yJ (r:Fy σ τ) (K:σ->Prop):Prop:=match r with
 |.rt _=>True
 |.nx s=>K s
 |.bk s=>K s
 |.ct s=>K s
def QH (r:Fy σ τ) (K:σ->Option Prop):Option Prop:=some (yJ r fun s=>hold (K s))
def R.to {α β:Type} {f:Ev->Option β} {ρ:Ev} {c:α->β} (x:R f ρ c) (v':α) (D':Option Prop) (hv:x.v=v':=by kernel_rfl) (hD:x.D=D':=by kernel_rfl):R f ρ c:=⟨v',D',fun h=>by
 subst hv hD
 exact x.ok h⟩
def acQ {c:τ->Bx} (E:σ->Ev) (s0:σ) (hE:ρ=E s0) (it:R fi ρ (iE e)) (ρ2:σ->α->Ev) (hg:∀ s x,gt (e x) (E s)=some (ρ2 s x)) (body:∀ s x,R gb (ρ2 s x) (cC E c)) (inj:τ->γ) (hj:∀ r,cO (inj r)=.rt (c r)) (K:∀ s,R k (E s) cO):R (aD (qz fi gt gb) k) ρ cO:=⟨behind (pG (fun s x=>(body s x).v) it.v s0) inj fun s=>(K s).v,cF (cF it.D (some (yH (fun s x=>(body s x).v) (fun s x=>(body s x).D) it.v s0))) (QH (pG (fun s x=>(body s x).v) it.v s0) fun s=>(K s).D),fun hd=>by
 obtain⟨h,h4⟩:=au hd
 obtain⟨h1,h2⟩:=au h
 have e1:qz fi gt gb ρ=some (cC E c (pG (fun s x=>(body s x).v) it.v s0)):=by
  unfold qz
  rw[it.ok h1,bnd]
  subst hE
  exact Ce E ρ2 hg body it.v s0 h2
 rcases yI (fun s x=>(body s x).v) it.v s0 with⟨s',es⟩|⟨r,es⟩
 ·rw[es] at e1 h4 ⊢
  rw[nH e1]
  exact (K s').ok h4
 ·rw[es] at e1 ⊢
  show aD (qz fi gt gb) k ρ=some (cO (inj r))
  unfold aD
  rw[e1,hj]
  rfl⟩
theorem acR {i:Nat} {ds:List Dt} (h:ρ[i]?=some (some (.l ds))):qw i gt gb ρ=pD gt gb ds ρ:=by unfold qw;rw[h]
theorem Wm {i:Nat} {ds:List Dt} (h:ρ[i]?=some (some (.z (.tup ds)))):qw i gt gb ρ=pD gt gb ds ρ:=by unfold qw;rw[h];rfl
theorem acS {i:Nat} {ds:List Dt} (h:ρ[i]?=some (some (.z (.lst ds)))):qw i gt gb ρ=pD gt gb ds ρ:=by unfold qw;rw[h];rfl
theorem acT {i:Nat} {ds:List Dt} {b:Bx} (hp:Lp b ds) (h:ρ[i]?=some (some b)):qw i gt gb ρ=pD gt gb ds ρ:=by
 rcases hp with rfl|rfl
 ·exact acS h
 ·exact acR h
def Wn (i:Nat) {ρ':Ev} (xs:List α) (hv:qw i gt gb ρ=pD gt gb (xs.map e) ρ') (E:σ->Ev) (s0:σ) (hE:ρ'=E s0) (ρ2:σ->α->Ev) (hg:∀ s x,gt (e x) (E s)=some (ρ2 s x)) (body:∀ s x,R gb (ρ2 s x) (fun s=>Out.nx (E s))) (K:∀ s,R k (E s) cO):R (aD (qw i gt gb) k) ρ cO:=⟨(K (xs.foldl (fun s x=>(body s x).v) s0)).v,cF (some (uT (fun s x=>(body s x).v) (fun s x=>(body s x).D) xs s0)) (K (xs.foldl (fun s x=>(body s x).v) s0)).D,fun hd=>by
 obtain⟨h2,h4⟩:=au hd
 rw[nH (ρ':=E (xs.foldl (fun s x=>(body s x).v) s0)) (by
  rw[hv,hE]
  exact yG E ρ2 hg body xs s0 h2)]
 exact (K _).ok h4⟩
def Zn {c:τ->Bx} (i:Nat) {ρ':Ev} (xs:List α) (hv:qw i gt gb ρ=pD gt gb (xs.map e) ρ') (E:σ->Ev) (s0:σ) (hE:ρ'=E s0) (ρ2:σ->α->Ev) (hg:∀ s x,gt (e x) (E s)=some (ρ2 s x)) (body:∀ s x,R gb (ρ2 s x) (cC E c)) (inj:τ->γ) (hj:∀ r,cO (inj r)=.rt (c r)) (K:∀ s,R k (E s) cO):R (aD (qw i gt gb) k) ρ cO:=⟨behind (pG (fun s x=>(body s x).v) xs s0) inj fun s=>(K s).v,cF (some (yH (fun s x=>(body s x).v) (fun s x=>(body s x).D) xs s0)) (QH (pG (fun s x=>(body s x).v) xs s0) fun s=>(K s).D),fun hd=>by
 obtain⟨h2,h4⟩:=au hd
 have e1:qw i gt gb ρ=some (cC E c (pG (fun s x=>(body s x).v) xs s0)):=by
  rw[hv,hE]
  exact Ce E ρ2 hg body xs s0 h2
 rcases yI (fun s x=>(body s x).v) xs s0 with⟨s',es⟩|⟨r,es⟩
 ·rw[es] at e1 h4 ⊢
  rw[nH e1]
  exact (K s').ok h4
 ·rw[es] at e1 ⊢
  show aD (qw i gt gb) k ρ=some (cO (inj r))
  unfold aD
  rw[e1,hj]
  rfl⟩
abbrev mE (e:α->Dt):List (Str×α)->Bx:=fun m=>.m (m.map fun q=>(q.1,e q.2)) none
abbrev nE (e:α->Dt):List (Str×α)->Bx:=fun m=>.n (m.map fun q=>(q.1,e q.2))
def look [Inhabited α] (m:List (Str×α)) (x:Str):α:=((m.find? fun q=>decide (q.1=x)).map (·.2)).getD default
def has (m:List (Str×α)) (x:Str):Bool:=m.any fun q=>decide (q.1=x)
def put (m:List (Str×α)) (x:Str) (a:α):List (Str×α):=if has m x=true then m.map (fun q=>if q.1=x then (q.1,a) else q) else m++[(x,a)]
theorem Wo (m:List (Str×α)) (x:Str):CT (m.map fun q=>(q.1,e q.2)) x=((m.find? fun q=>decide (q.1=x)).map (·.2)).map e:=by
 unfold CT
 rw[List.find?_map]
 simp only[Option.map_map]
 rfl
theorem Wq [Inhabited α] {m:List (Str×α)} {x:Str} (h:has m x=true):CT (m.map fun q=>(q.1,e q.2)) x=some (e (look m x)):=by
 rw[Wo]
 unfold look
 unfold has at h
 rw[List.any_eq_true] at h
 obtain⟨q,hq,hx⟩:=h
 cases hf:m.find? fun q=>decide (q.1=x) with
 |none=>exact absurd hx (by simpa using List.find?_eq_none.mp hf q hq)
 |some q=>rfl
def p8 [Inhabited α] (a:R fa ρ (nE e)) (b:R fb ρ (zE eS)):R (b2 ou fa fb) ρ (zE e):=⟨look a.v b.v,cF (cF a.D b.D) (some (has a.v b.v=true)),fun h=>by
 obtain⟨h,h3⟩:=au h
 obtain⟨h1,h2⟩:=au h
 simp only[b2,a.ok h1,b.ok h2,bnd,ou,Wq (show has a.v b.v=true from h3)]⟩
theorem QJ (m:List (Str×α)) (x:Str) (a:α):Jh (m.map fun q=>(q.1,e q.2)) x (e a)=(put m x a).map fun q=>(q.1,e q.2):=by
 unfold Jh put has
 rw[List.any_map]
 by_cases h:(m.any fun q=>decide (q.1=x))=true
 ·rw[if_pos h,if_pos (by exact h)]
  rw[List.map_map,List.map_map]
  refine List.map_congr_left fun q _=>?_
  simp only[Function.comp]
  by_cases hq:q.1=x<;>simp[hq]
 ·rw[if_neg h,if_neg (by exact h)]
  simp
end
section
variable {α β:Type} {ρ:Ev} {fa f:Ev->Option Bx} {fs:Ev->Option (List Str)} {fi:Ev->Option (List Dt)} {e:α->Dt}
theorem JG {b:Bx} {ds:List Dt} (h:qt b=some ds):wY b=some ds:=by
 cases b with
 |z d=>cases d<;>first|exact h|(cases h;done)
 |l _=>exact h
 |o _=>exact h
 |n _=>cases h
 |m _ _=>cases h
end
end P1
end
section
namespace P1
open PySem PySem.Spec PyProof.Rows L2 S1 S6
class pU {α:Type} (e:α->Dt) where
 k:α->Key
 ok:∀ a,YK (e a)=some (k a)
 inj:∀ a b,k a=k b->a=b
 same:∀ a b,Qi (k a) (k b)=true
instance:pU eI:=⟨fun i=>.inl i,fun _=>rfl,fun a b h=>by cases h;rfl,fun _ _=>rfl⟩
instance:pU eS:=⟨fun i=>.inr i,fun _=>rfl,fun a b h=>by cases h;rfl,fun _ _=>rfl⟩
class sU {α:Type} (e:α->Dt) where
 k:α->List Key
 ok:∀ a,Dc (e a)=some (k a)
 inj:∀ a b,k a=k b->a=b
 shp:∀ a b,Jq (k a) (k b)=true
 ne:∀ a,(k a).isEmpty=false
class Wr {α:Type} (e:α->Dt) [sU e]:Prop where
 tx:∀ a,Lx (sU.k e a)=true
section
variable {α β γ δ:Type} {e:α->Dt} {e':β->Dt} {e'':γ->Dt} {e3:δ->Dt}
instance [pU e] [pU e']:sU (Tp e e'):=⟨fun q=>[pU.k e q.1,pU.k e' q.2],fun q=>by simp only[Dc,Ae,pU.ok,bnd],fun a b h=>by
 simp only[List.cons.injEq,and_true] at h
 exact Prod.ext (pU.inj _ _ h.1) (pU.inj _ _ h.2),fun a b=>by simp[Jq,pU.same],fun _=>rfl⟩
instance [pU e] [pU e'] [pU e'']:sU (eP3 e e' e''):=⟨fun q=>[pU.k e q.1,pU.k e' q.2.1,pU.k e'' q.2.2],fun q=>by simp only[Dc,Ae,pU.ok,bnd],fun a b h=>by
 simp only[List.cons.injEq,and_true] at h
 exact Prod.ext (pU.inj _ _ h.1) (Prod.ext (pU.inj _ _ h.2.1) (pU.inj _ _ h.2.2)),fun a b=>by simp[Jq,pU.same],fun _=>rfl⟩
instance [pU e] [pU e'] [pU e''] [pU e3]:sU (eP4 e e' e'' e3):=⟨fun q=>[pU.k e q.1,pU.k e' q.2.1,pU.k e'' q.2.2.1,pU.k e3 q.2.2.2],fun q=>by simp only[Dc,Ae,pU.ok,bnd],fun a b h=>by
 simp only[List.cons.injEq,and_true] at h
 exact Prod.ext (pU.inj _ _ h.1) (Prod.ext (pU.inj _ _ h.2.1) (Prod.ext (pU.inj _ _ h.2.2.1) (pU.inj _ _ h.2.2.2))),fun a b=>by simp[Jq,pU.same],fun _=>rfl⟩
instance [pU e]:Wr (Tp e eS):=⟨fun a=>by simp[sU.k,Lx,pU.k]⟩
instance [pU e] [pU e']:Wr (eP3 e eS e'):=⟨fun a=>by simp[sU.k,Lx,pU.k]⟩
instance [pU e] [pU e'] [pU e'']:Wr (eP4 e eS e' e''):=⟨fun a=>by simp[sU.k,Lx,pU.k]⟩
variable {ρ:Ev} {fa f:Ev->Option Bx} {fs:Ev->Option (List (List Key))}
theorem DP [sU e]:∀ xs:List α,rG (xs.map e)=some (xs.map (sU.k e))
 |[]=>rfl
 |x::xs=>by simp only[List.map_cons,rG,sU.ok,bnd,DP xs]
def leT (e:α->Dt) [sU e] (a b:α):Bool:=uN (sU.k e a) (sU.k e b)
def sV (e:α->Dt) [sU e] (xs:List α):List α:=xs.mergeSort (leT e)
theorem lZ [sU e] (xs:List α):(sV e xs).Perm xs:=List.mergeSort_perm ..
theorem Pb [sU e] (xs:List α):(sV e xs).Pairwise (fun a b=>leT e a b=true):=List.pairwise_mergeSort (le:=leT e) (fun a b c=>xg (sU.k e a) (sU.k e b) (sU.k e c)) (fun a b=>xr (sU.k e a) (sU.k e b)) xs
theorem SX [sU e] (xs:List α):lg (xs.map (sU.k e))=(sV e xs).map (sU.k e):=by
 refine (qD ((lZ xs).map _) (List.pairwise_map.mpr (Pb xs))).symm
theorem acU [sU e] (xs:List α):(xs.map (sU.k e)).map tupK=xs.map e:=by
 rw[List.map_map]
 exact List.map_congr_left fun a _=>(Le (sU.ok a)).symm
theorem Ws [sU e] (xs:List α) (h:xs.length < 64):Aw (xs.map (sU.k e))=true:=by
 simp only[Aw,Bool.and_eq_true,decide_eq_true_eq,List.all_eq_true,Bool.not_eq_true',List.length_map,List.mem_map,forall_exists_index,and_imp,forall_apply_eq_imp_iff₂]
 exact⟨h,fun a _=>sU.ne a,fun a _ b _=>sU.shp a b⟩
abbrev uE (e:α->Dt) [sU e]:List α->List (List Key):=fun xs=>xs.map (sU.k e)
def Wt [sU e] [Wr e] (a:RL fa ρ e):R (Oz fa) ρ (uE e):=⟨a.v,cF a.D (some (a.v.length<=64)),fun h=>by
 obtain⟨h,h4⟩:=au h
 have h4:a.v.length<=64:=h4
 have ht:(a.v.map (sU.k e)).all Lx=true:=by
  rw[List.all_map,List.all_eq_true];exact fun x _=>Wr.tx x
 simp only[Oz,a.ok h,bnd,aag,JG a.lk,DP]
 rw[if_pos ⟨by rw[List.length_map];exact h4,ht⟩]⟩
def Wu [DecidableEq α] [sU e] (a:R fs ρ (uE e)):R (Dq fs) ρ (oE e):=⟨sV e (Ca a.v),cF a.D (some (a.v.length < 64)),fun h=>by
 obtain⟨h,h4⟩:=au h
 simp only[Dq,a.ok h,bnd,Ws a.v h4,if_true,Jx sU.inj,SX,acU]⟩
end
end P1
end
section
namespace P1
open PySem PySem.Spec PyProof.Rows L2
section
variable {α β γ:Type} {ρ:Ev} {fa fb fd f fk fv:Ev->Option Bx} {fs:Ev->Option (List Bx)} {fi:Ev->Option (List Dt)} {e:α->Dt} {e':β->Dt} {g k:Ev->Option Out} {cO:γ->Out} {gt:Dt->Ev->Option Ev} {p:Ev->Option Bool} {is:List Nat} {n:Nat}
abbrev mW (w:Option Addr) (e:α->Dt):List (Str×α)->Bx:=fun m=>.m (m.map fun q=>(q.1,e q.2)) w
def aM (e:α->Dt) (t:γ->List Bx->Prop):List (Str×α)×γ->List Bx->Prop:=fun x bs=>∃ b r,bs=b::r/\(b=nE e x.1\/b=mE e x.1)/\t x.2 r
def acV {t:γ->List Bx->Prop} (a:R fa ρ (nE e)) (r:AR t fs ρ):AR (aM e t) (ao fa fs) ρ:=⟨(a.v,r.v),cF a.D r.D,_,⟨_,_,rfl,.inl rfl,r.h⟩,fun h=>by
 obtain⟨h1,h2⟩:=au h
 simp only[ao,a.ok h1,r.ok h2,bnd]⟩
def Zo (w:Option Addr) (i:Nat) (m:List (Str×α)) (hi:ρ[i]?=some (some (mW w e m))) (a:R fa ρ (zE e)) (b:R fb ρ (zE eS)) (K:∀ m':List (Str×α),R k (ρ.set i (some (mW w e m'))) cO):R (aD (Ve i fa fb) k) ρ cO:=⟨(K (put m b.v a.v)).v,cF (cF (cF a.D b.D) (some (m.length < 1000))) (K (put m b.v a.v)).D,fun hd=>by
 obtain⟨h,h4⟩:=au hd
 obtain⟨h,h3⟩:=au h
 obtain⟨h1,h2⟩:=au h
 rw[nH (ρ':=ρ.set i (some (mW w e (put m b.v a.v)))) (by
  unfold Ve
  rw[a.ok h1,bnd,b.ok h2,bnd]
  simp only[Hq,hi,mW,List.length_map,if_pos (show m.length < 1000 from h3),QJ])]
 exact (K _).ok h4⟩
def mkD (qs:List (Str×β)):List (Str×β):=qs.foldl (fun m q=>put m q.1 q.2) []
theorem Pg (qs:List (Str×β)):dictOf (qs.map (Tp eS e'))=(mkD qs).map fun q=>(q.1,e' q.2):=by
 unfold dictOf mkD
 have:∀ (qs:List (Str×β)) (m:List (Str×β)),(qs.map (Tp eS e')).foldl acu (m.map fun q=>(q.1,e' q.2))=(qs.foldl (fun m q=>put m q.1 q.2) m).map fun q=>(q.1,e' q.2):=by
  intro qs
  induction qs with
  |nil=>intro m;rfl
  |cons q qs ih=>
   intro m
   rw[List.map_cons,List.foldl_cons,List.foldl_cons]
   show (qs.map (Tp eS e')).foldl acu (Jh (m.map fun q=>(q.1,e' q.2)) q.1 (e' q.2))=_
   rw[QJ]
   exact ih _
 exact this qs []
def Zq (a:R fk ρ (zE eS)) (b:R fv ρ (zE e)):R (b2 Ag fk fv) ρ (zE (Tp eS e)):=⟨(a.v,b.v),cF a.D b.D,fun h=>by
 obtain⟨h1,h2⟩:=au h
 simp only[b2,a.ok h1,b.ok h2,bnd,Ag]⟩
def Zr (i:R fi ρ (iE e)) (a:R (dU fi gt p (b2 Ag fk fv) is n) ρ (oE (Tp eS e'))):R (Qu fi gt p fk fv is n) ρ (mE e'):=⟨mkD a.v,cF (cF i.D (some (i.v.length < 1000))) a.D,fun h=>by
 obtain⟨h,h3⟩:=au h
 obtain⟨h1,h2⟩:=au h
 have h2:i.v.length < 1000:=h2
 have ha:=a.ok h3
 unfold dU at ha
 unfold Qu
 rw[i.ok h1,bnd] at ha ⊢
 rw[if_pos (by rw[List.length_map];omega)] at ha
 rw[if_pos (by rw[List.length_map];exact h2)]
 obtain⟨out,eo,ha⟩:=bind_some ha
 rw[eo,bnd]
 injection ha with ha
 injection ha with ha
 rw[ha,Pg]⟩
def aeP (a:R fd ρ (nE e)):R (LC fd) ρ (iE eS):=⟨a.v.map (·.1),a.D,fun h=>by
 simp only[LC,a.ok h,bnd,keyB,List.map_map]
 rfl⟩
def Zt (a:R fa ρ (nE e)):R (fJ Du (ao fa aR)) ρ (oE eS):=⟨a.v.map (·.1),a.D,fun h=>by
 simp only[fJ,ao,aR,a.ok h,bnd,Du,List.map_map]
 show _=some (Bx.o ((a.v.map (·.1)).map eS))
 rw[List.map_map]
 rfl⟩
def acW (a:R fa ρ (zE eS)) (b:R fb ρ (zE eS)):R (fJ Ds (ao fa (ao fb aR))) ρ (zE eS):=⟨if Tq b.v a.v=true then b.v else a.v,cF a.D b.D,fun h=>by
 obtain⟨h1,h2⟩:=au h
 simp only[fJ,ao,aR,a.ok h1,b.ok h2,bnd,Ds]
 rfl⟩
theorem Zu {n:Nat} {bs:List Bx} {a:Addr} {m:List (Str×α)} {ρ2:List (Str×α)->Ev} (x:R g ((mW (some a) e m::bs).map some++List.replicate (n - (bs.length+1)) none) (fun m'=>Out.nx (ρ2 m'))) (h:hold x.D) (h0:∀ m',(ρ2 m')[0]?=some (some (mW (some a) e m'))):LR n g a (m.map fun q=>(q.1,e q.2)) bs=some (x.v.map fun q=>(q.1,e q.2)):=by
 unfold LR
 rw[x.ok h,bnd]
 simp only[h0,if_true]
def acX {cA:γ->List Bx->Prop} {δ:Type} {cO:δ->Out} {G:Addr->List (Str×Dt)->List Bx->Option (List (Str×Dt))} {n:Nat} {T:List (Str×α)->γ->List (Str×α)} {Df:List (Str×α)->γ->Option Prop} (w:Option Addr) (i:Nat) (m:List (Str×α)) (hi:ρ[i]?=some (some (mW w e m)))
  (S:∀ m v bs,cA v bs->bs.length=n/\bs.all isZ=true/\(hold (Df m v)->∀ a,G a (m.map fun q=>(q.1,e q.2)) bs=some ((T m v).map fun q=>(q.1,e q.2)))) (a:AR cA fs ρ) (K:∀ m':List (Str×α),R k (ρ.set i (some (mW w e m'))) cO):R (aD (Dw i n G fs) k) ρ cO:=⟨(K (T m a.v)).v,cF (cF a.D (Df m a.v)) (K (T m a.v)).D,fun hd=>by
 obtain⟨h,h4⟩:=au hd
 obtain⟨h1,h2⟩:=au h
 obtain⟨s1,s2,s3⟩:=S m a.v a.bs a.h
 rw[nH (V5 hi (a.ok h1) s1 s2 (s3 h2))]
 exact (K _).ok h4⟩
end
section
variable {α:Type} {ρ:Ev} {fa fb:Ev->Option Bx} {e:α->Dt}
def fP [DecidableEq α] (x:α) (ys:List α):Bool:=decide (x∈ys)
theorem j4 [DecidableEq α] {x:α} {ys:List α}:fP x ys=true↔x∈ys:=by unfold fP;rw[decide_eq_true_eq]
theorem Mi [DecidableEq α] {n:Nat} [Eqs e n] (hn:n<=60) (x:α) (ys:List α):SM (e x) (ys.map e)=some (decide (x∈ys)):=by
 unfold SM
 rw[if_pos]
 ·congr 1
  rw[List.any_map,Bool.eq_iff_iff,List.any_eq_true,decide_eq_true_eq]
  constructor
  ·rintro⟨y,hy,h⟩
   simp only[Function.comp,Eqs.eq] at h
   by_cases q:y=x
   ·exact q▸hy
   ·simp[q,Tj] at h
  ·intro h
   exact⟨x,h,by simp[Function.comp,Eqs.eq,Tj]⟩
 ·rw[List.all_map,List.all_eq_true]
  intro y _
  have:=Eqs.dp (e:=e) y
  simp only[Function.comp,Eqs.eq,Option.isSome_some,Bool.true_and,decide_eq_true_eq]
  omega
def DQ [DecidableEq α] {n:Nat} [Eqs e n] (hn:n<=60) (a:R fa ρ (zE e)) (b:RL fb ρ e):R (b2 Dy fa fb) ρ (zE eB):=⟨!fP a.v b.v,cF a.D b.D,fun h=>by
 obtain⟨h1,h2⟩:=au h
 simp only[b2,a.ok h1,b.ok h2,bnd,Dy,JG b.lk,Mi hn,fP]⟩
def JH [DecidableEq α] {n:Nat} [Eqs e n] (hn:n<=60) (a:R fa ρ (zE e)) (b:R fb ρ (zE (eT e))):R (b2 inX fa fb) ρ (zE eB):=⟨fP a.v b.v,cF a.D b.D,fun h=>by
 obtain⟨h1,h2⟩:=au h
 simp only[b2,a.ok h1,b.ok h2,bnd,inX,wY,eT,Mi hn,fP]⟩
end
end P1
end
section
namespace P1
open PySem PySem.Spec PyProof.Rows L2 S1 S6
section
variable {ρ:Ev} {fa:Ev->Option Bx}
def kT (xs:List Str):List Key:=xs.map Sum.inr
theorem acY {a b:List Str} (h:kT a=kT b):a=b:=by
 unfold kT at h
 induction a generalizing b with
 |nil=>cases b with|nil=>rfl|cons _ _=>simp at h
 |cons x a ih=>cases b with
  |nil=>simp at h
  |cons y b=>
   simp only[List.map_cons,List.cons.injEq] at h
   rw[Sum.inr.inj h.1,ih h.2]
theorem Mj:∀ (xs:List Str),Ae (xs.map eS)=some (kT xs)
 |[]=>rfl
 |x::xs=>by simp only[List.map_cons,Ae,YK,bnd,Mj xs];rfl
theorem HW:∀ (xss:List (List Str)),rG (xss.map (eT eS))=some (xss.map kT)
 |[]=>rfl
 |x::xss=>by simp only[List.map_cons,rG,Dc,eT,Mj,bnd,HW xss]
def Ml (a b:List Str):Bool:=uN (kT a) (kT b)
def qb (xss:List (List Str)):List (List Str):=xss.mergeSort Ml
theorem Aj (xs:List (List Str)):(qb xs).Perm xs:=List.mergeSort_perm ..
theorem Ak (xs:List (List Str)):(qb xs).Pairwise (fun a b=>Ml a b=true):=List.pairwise_mergeSort (le:=Ml) (fun a b c=>xg (kT a) (kT b) (kT c)) (fun a b=>xr (kT a) (kT b)) xs
theorem S5 {a b:List Str} (h:Ml a b=true) (h':Ml b a=true):a=b:=acY (Hr h h')
theorem S7 {xs out:List (List Str)} (hp:out.Perm xs) (hs:out.Pairwise (fun a b=>Ml a b=true)):out=qb xs:=uO (fun _ _=>S5) (hp.trans (Aj xs).symm) hs (Ak xs)
theorem Ph (xs:List (List Str)):lg (xs.map kT)=(qb xs).map kT:=(qD ((Aj xs).map _) (List.pairwise_map.mpr (Ak xs))).symm
theorem Zv (xs:List (List Str)):(xs.map kT).map tupK=xs.map (eT eS):=by
 rw[List.map_map]
 refine List.map_congr_left fun a _=>?_
 show Dt.tup ((kT a).map dK)=Dt.tup (a.map eS)
 unfold kT
 rw[List.map_map]
 rfl
theorem acZ (a b:List Str):Jq (kT a) (kT b)=true:=by
 unfold Jq kT
 rw[List.all_eq_true]
 rintro⟨x,y⟩ h
 obtain⟨h1,h2⟩:=List.of_mem_zip h
 obtain⟨p,_,rfl⟩:=List.mem_map.mp h1
 obtain⟨q,_,rfl⟩:=List.mem_map.mp h2
 rfl
theorem Zw (xs:List (List Str)) (h:xs.length < 64) (hn:∀ x∈xs,x.isEmpty=false):Aw (xs.map kT)=true:=by
 simp only[Aw,Bool.and_eq_true,decide_eq_true_eq,List.all_eq_true,Bool.not_eq_true',List.length_map,List.mem_map,forall_exists_index,and_imp,forall_apply_eq_imp_iff₂]
 refine⟨h,fun a ha=>?_,fun a _ b _=>acZ a b⟩
 have:=hn a ha
 cases a with
 |nil=>cases this
 |cons _ _=>rfl
def Zx (a:RL fa ρ (eT eS)):R (fJ Dg (ao fa aR)) ρ (oE (eT eS)):=⟨qb a.v,cF a.D (some (a.v.length < 64/\∀ x∈a.v,x.isEmpty=false)),fun h=>by
 obtain⟨h,h4⟩:=au h
 obtain⟨h4,h5⟩:a.v.length < 64/\∀ x∈a.v,x.isEmpty=false:=h4
 simp only[fJ,ao,aR,a.ok h,bnd,Dg,JG a.lk,HW,Zw a.v h4 h5,if_true,Ph,Zv]⟩
end
section
variable {α:Type} {ρ:Ev} {f:Ev->Option Bx} {e:α->Dt}
theorem map_some (e:α->Dt) (xs:List α):(xs.map some).map (eO e)=xs.map e:=by rw[List.map_map];rfl
end
end P1
end
section
namespace P1
open PySem PySem.Spec PyProof.Rows L2
section
variable {α:Type} {k g:Ev->Option Out} {ρ:Ev} {cO:α->Out}
def Zy (i:Nat) (E:Ev) (hE:acz i ρ=some E) (K:R k E cO):R (Tn i k) ρ cO:=⟨K.v,K.D,fun h=>by
 unfold Tn;rw[hE];exact K.ok h⟩
end
section
variable {α:Type} {e:α->Dt} {ρ:Ev} {fa fb:Ev->Option Bx}
def Wv [DecidableEq α] (x:α) (ys:List α):Nat:=ys.findIdx fun y=>decide (y=x)
theorem Ww [DecidableEq α] {n:Nat} [Eqs e n] (hn:n<=60) {x:α} {ys:List α} (h:x∈ys):V6 (e x) (ys.map e)=some (Wv x ys):=by
 unfold V6
 rw[if_pos]
 ·rw[List.findIdx?_map]
  have:((fun y=>Tj (bY y (e x))) ∘ e)=fun y=>decide (y=x):=by
   funext y
   simp only[Function.comp,Eqs.eq]
   by_cases q:y=x<;>simp[q,Tj]
  rw[this]
  exact List.findIdx?_eq_some_of_exists ⟨x,h,decide_eq_true rfl⟩
 ·rw[List.all_eq_true]
  intro y hy
  obtain⟨z,_,rfl⟩:=List.mem_map.mp hy
  rw[Eqs.eq,Bool.and_eq_true,decide_eq_true_eq]
  have:=Eqs.dp (e:=e) z
  exact⟨rfl,by omega⟩
def Zz [DecidableEq α] {n:Nat} [Eqs e n] (hn:n<=60) (b:R fb ρ (zE (eT e))) (a:R fa ρ (zE e)):R (b2 SN fb fa) ρ (zE eI):=⟨(Wv a.v b.v:Int),cF (cF b.D a.D) (some (a.v∈b.v)),fun h=>by
 obtain⟨h,h3⟩:=au h
 obtain⟨h1,h2⟩:=au h
 have h3:a.v∈b.v:=h3
 simp only[b2,a.ok h2,b.ok h1,bnd,SN,eT,Ww hn h3]⟩
end
section
variable {α β σ τ:Type}
theorem JK {step:σ->α->σ} {P:σ->α->Option Prop} (I:Nat->σ->Prop):∀ (xs:List α) (m:Nat) (s0:σ),I m s0->(∀ k x s,xs[k]?=some x->I (m+k) s->hold (P s x)/\I (m+k+1) (step s x))->uT step P xs s0/\I (m+xs.length) (xs.foldl step s0)
 |[],m,s0,h0,_=>⟨trivial,h0⟩
 |x::xs,m,s0,h0,hs=>by
  obtain⟨h1,h2⟩:=hs 0 x s0 rfl h0
  have:=JK I xs (m+1) (step s0 x) h2 fun k y s e h=>by
   have:=hs (k+1) y s (by simpa using e) (by rw[show m+(k+1)=m+1+k by omega];exact h)
   rw[show m+(k+1)+1=m+1+k+1 by omega] at this
   exact this
  refine⟨⟨h1,this.1⟩,?_⟩
  rw[List.length_cons,show m+(xs.length+1)=m+1+xs.length by omega]
  exact this.2
theorem ZC {i:Int} {n k:Nat} {x:Int} (h:(rng i n)[k]?=some x):x=i+k/\k < n:=by
 unfold rng at h
 rw[List.getElem?_map] at h
 cases hk:(List.range n)[k]? with
 |none=>rw[hk] at h;cases h
 |some j=>
  rw[hk] at h
  have hl:k < n:=by simpa using (List.getElem?_eq_some_iff.mp hk).1
  have:j=k:=by
   rw[List.getElem?_range hl] at hk
   cases hk;rfl
  subst this
  cases h
  exact⟨rfl,hl⟩
theorem yK (i:Int) (n:Nat):(rng i n).length=n:=by unfold rng;simp
theorem yL {step:σ->Int->σ} {P:σ->Int->Option Prop} (I:Nat->σ->Prop) (n:Nat) (s0:σ) (h0:I 0 s0) (hs:∀ (k:Nat) s,k < n->I k s->hold (P s k)/\I (k+1) (step s k)):uT step P (rng 0 n) s0/\I n ((rng 0 n).foldl step s0):=by
 have:=JK (P:=P) I (rng 0 n) 0 s0 h0 fun k x s e h=>by
  obtain⟨rfl,hk⟩:=ZC e
  rw[Nat.zero_add] at h ⊢
  rw[Int.zero_add]
  exact hs k s hk h
 rw[yK,Nat.zero_add] at this
 exact this
theorem Mp {step:Unit->α->Fy Unit Bool} {P:Unit->α->Option Prop}:∀ xs:List α,(∀ x∈xs,hold (P () x)/\(step () x=.nx ()\/step () x=.ct ()))->pG step xs ()=.nx ()/\yH step P xs ()
 |[],_=>⟨rfl,trivial⟩
 |x::xs,h=>by
  obtain⟨h1,h2⟩:=h x (List.mem_cons_self ..)
  have ih:=Mp (P:=P) xs fun y hy=>h y (List.mem_cons_of_mem _ hy)
  rcases h2 with h2|h2
  ·exact⟨by unfold pG;rw[h2];exact ih.1,h1,by rw[h2];exact ih.2⟩
  ·exact⟨by unfold pG;rw[h2];exact ih.1,h1,by rw[h2];exact ih.2⟩
theorem zN [Inhabited α] {xs:List α} {i:Int} (h:In xs.length i):at' xs i∈xs:=by
 obtain⟨x,hx⟩:=JF h
 unfold at'
 rw[hx]
 unfold G6 at hx
 obtain⟨j,_,hx⟩:=bind_some hx
 exact List.mem_of_getElem? hx
theorem in_of {n:Nat} {i:Int} (h0:0<=i) (h1:i < n):In n i:=⟨by omega,h1⟩
theorem JL {n k:Nat} (h:k < n):In n (k:Int):=⟨by omega,by omega⟩
theorem DR {n:Nat} {x m:Int} (hm:0 < m) (h:m<=n):In n (x % m):=in_of (Int.emod_nonneg _ (by omega)) (Int.lt_of_lt_of_le (Int.emod_lt_of_pos _ hm) h)
theorem qG (x:Int) {m:Int} (hm:0 < m):0<=x % m/\x % m < m:=⟨Int.emod_nonneg _ (by omega),Int.emod_lt_of_pos _ hm⟩
theorem HX {j:Int} (h0:0<=j) (h1:j<=1000000):Rg j:=⟨by omega,by omega⟩
theorem aau {a b:Int} (h0:0<=a) (h1:a < 18446744073709551616):Mul a b:=.inl ⟨by omega,h1⟩
theorem QK {xs:List α} {lo hi:Option Int} {x:α} (h:x∈cut xs lo hi):x∈xs:=List.mem_of_mem_drop (List.mem_of_mem_take h)
theorem Wx {xs:List α} {k:Nat} (h:k<=xs.length):cut xs none (some (k:Int))=xs.take k:=by
 unfold cut
 rw[HT.Xl,HT.T3,Nat.min_eq_left h,Nat.sub_zero,List.drop_zero]
theorem uU (x y:Str):(x++y).length=x.length+y.length:=by
 show (x.cps++y.cps).size=_
 rw[Array.size_append]
 rfl
theorem JM (x:Str) (i:Int):(ch x i).length=1:=rfl
theorem slice_le (x:Str) (l u:Option Int):(Txt.slice x l u).length<=x.length:=PyProof.Txt.length_slice_le x l u
end
theorem lt_iff (a b:Str):Tq a b=true↔sS a b/\a≠b:=by
 unfold Tq sS
 rw[ltCps_eq]
 simp only[decide_eq_true_eq,decide_eq_false_iff_not]
 constructor
 ·intro h
  exact⟨List.lt_asymm h,fun e=>by subst e;exact List.lt_irrefl _ h⟩
 ·intro ⟨h,hn⟩
  by_cases q:a.cps.toList < b.cps.toList
  ·exact q
  ·exact absurd (CN (a:=a) (b:=b) (by unfold sS;rw[ltCps_eq];simpa using h) (by unfold sS;rw[ltCps_eq];simpa using q)) hn
theorem QL {n:Nat} {i:Int} (h:i∈rng 0 n):∃ k:Nat,k < n/\i=(k:Int):=by
 unfold rng at h
 obtain⟨k,hk,rfl⟩:=List.mem_map.mp h
 exact⟨k,List.mem_range.mp hk,by omega⟩
end P1
end
section
namespace G27
open PySem PySem.Spec PyProof.Rows L2 P1
noncomputable section
abbrev aC:Type:=Int×Str×Str×Int
abbrev aX:aC->Dt:=eP4 eI eS eS eI
abbrev cX:Type:=Str×Str×Int
abbrev fQ:cX->Dt:=eP3 eS eS eI
abbrev cY:Type:=(List Str)×(List aC)×(List cX)
abbrev eG:cY->Dt:=eP3 (eT eS) (eT aX) (eT fQ)
abbrev iK:Type:=aC×(Option cX)
abbrev uG:iK->Dt:=Tp aX (eO fQ)
abbrev gn:Type:=(List (List Str))×(List aC)×(List iK)
abbrev gq:gn->Dt:=eP3 (eL (eT eS)) (eL aX) (eL uG)
abbrev agr:Type:=(List (List Str))×(List aC)
abbrev ZD:agr->Dt:=Tp (eL (eT eS)) (eL aX)
def top (i:Nat):Stmt:=PySem.Challenge.pw_onefolk_k27_whole_joinings_by_and_by.main.body.getD i (.Pass ⟨0,0,0,0⟩)
abbrev mj:Stmt:=top 9
abbrev jd:Stmt:=top 10
abbrev j9:Stmt:=top 11
abbrev jH:Stmt:=top 12
abbrev jJ:Stmt:=top 1
abbrev je:Stmt:=top 7
abbrev jK:Stmt:=top 2
abbrev jf:Stmt:=top 4
abbrev jL:Stmt:=top 3
abbrev jM:Stmt:=top 6
abbrev kh:Stmt:=top 13
abbrev fW:Stmt:=top 14
abbrev eX:Stmt:=top 15
abbrev gB:Stmt:=top 16
abbrev yM:Stmt:=top 17
def fuel:Nat:=4
def wH:Ev->Option Out:=(aD (aD (setG 2 (b2 jg (b2 jt (b2 wX (gv 2) (cB (.int 69621))) (gv 3)) (cB (.int 2147483647)))) jD) (gw [3]))
def rK:Ev->Option Out:=(aD (Aa (qy ltA (gv 1) (fJ zu (ao (gv 0) aR))) (aD (kY (b2 iD (gv 0) (gv 1))) jD) jD) (aD (setG 2 (b2 jg (b2 wX (cB (.int 48271)) (b2 jt (b2 jt (b2 wX (gv 1) (gv 1)) (b2 wX (cB (.int 7)) (gv 1))) (cB (.int 11)))) (cB (.int 2147483647)))) (aD (qz (itF (BP (gv 0) ju (lQ (cB (.int 3))))) (jX 3) wH) (aD (kY (gv 2)) jD))))
def gO:List Bx->Option Bx:=kO 4 rK
def mz:Ev->Option Out:=(aD (aD (setG 3 (b2 jg (b2 jt (b2 jt (b2 wX (gv 3) (b2 jt (b2 jg (gv 3) (cB (.int 65521))) (cB (.int 40487)))) (b2 wX (cB (.int 7)) (gv 5))) (cB (.int 5))) (cB (.int 1999999973)))) (aD (K8 2 (b2 iD (fJ nD (ao (gv 3) (ao (b2 jg (gv 4) (cB (.int 1000000))) aR))) (fJ U7 (ao (b2 gtB (gv 4) (cB (.int 0))) aR)))) (aD (setG 4 (b2 Hi (gv 4) (cB (.int 1000000)))) jD))) (gw [5]))
def mH:Ev->Option Out:=(aD (setG 2 (fJ nD aR)) (aD (setG 3 (b2 jg (b2 wX (b2 jt (b2 jg (gv 0) (cB (.int 1999999973))) (cB (.int 31))) (cB (.int 765432101))) (cB (.int 1999999973)))) (aD (setG 4 (cB (.int 0))) (aD (Aa (XQ (qy ltA (gv 0) (cB (.int 0))) (qy geB (gv 0) (b2 Yq (cB (.int 10)) (cB (.int 18))))) (aD (aD (setG 4 (fJ RK (ao (gv 0) aR))) jD) (gw [])) (aD jD (gw []))) (aD (qz (Qd (ao (gv 1) aR)) (jX 5) mz) (aD (FP 2) jD))))))
def dM:List Bx->Option Bx:=kO 6 mH
def pA:Ev->Option Out:=(aD (aD (setG 7 (b2 iD (gv 2) (b2 jg (b2 jt (gv 6) (b2 iD (gv 0) (cB (.int 2)))) (cB (.int 15))))) (aD (setG 8 (b2 jt (b2 jt (BP (gv 3) ju (lQ (gv 4))) (gv 7)) (BP (gv 3) (lQ (gv 4)) ju))) (aD (Aa (qy eqB (b2 jg (b2 iD (gv 0) (cB (.int 3))) (cB (.int 3))) (cB (.int 1))) (aD (aD (setG 8 (b2 wX (b2 iD (gv 2) (b2 Hi (gv 6) (cB (.int 8)))) (b2 jt (cB (.int 1)) (b2 jg (gv 6) (cB (.int 8)))))) jD) (gw [])) (aD jD (gw []))) (aD (K8 5 (gv 8)) jD)))) (gw [6,7,8]))
def pW:Ev->Option Out:=(aD (setG 2 (cB (.str "abcdefghijklmnopqrstuvwxyz"))) (aD (setG 3 (b1 (CQ "") (dU (Qd (ao (b2 jg (b2 iD (gv 0) (cB (.int 0))) (cB (.int 6))) aR)) (jX 2) rD (b2 iD (gv 0) (b2 jg (b2 Hi (b2 iD (gv 1) (gv 2)) (cB (.int 40))) (cB (.int 26)))) [2,0] 1))) (aD (setG 4 (b2 jg (b2 iD (gv 0) (cB (.int 1))) (b2 jt (fJ zu (ao (gv 3) aR)) (cB (.int 1))))) (aD (setG 5 (fJ nD aR)) (aD (qz (Qd (ao (gv 1) aR)) (jX 6) pA) (aD (FP 5) jD))))))
def iR:List Bx->Option Bx:=kO 9 pW
def nJ:Ev->Option Out:=(aD (aD (setG 9 (fL 2 dM (ao (b1 rB (fL 2 gO (ao (gv 0) (ao (b1 rB (b2 jt (b2 jt (gv 1) (cB (.int 1))) (gv 8))) aR)))) (ao (cB (.int 4)) aR)))) (aD (Yv 10 11 (ao (b2 jg (b2 iD (gv 9) (cB (.int 0))) (fJ FQ (ao (cB (.int 1)) (ao (gv 2) aR)))) (ao (b2 jg (b2 iD (gv 9) (cB (.int 1))) (fJ FQ (ao (cB (.int 1)) (ao (gv 2) aR)))) aR))) (aD (setG 12 (b2 iD (fJ nD (ao (b1 rB (b2 jt (cB (.int 1)) (b2 jg (b2 iD (gv 9) (cB (.int 2))) (cB (.int 3))))) (ao (b1 rB (b2 jt (cB (.int 1)) (b2 jg (b2 iD (gv 9) (cB (.int 2))) (cB (.int 9))))) (ao (b1 rB (b2 jt (cB (.int 1)) (b2 jg (b2 iD (gv 9) (cB (.int 2))) (cB (.int 1000))))) aR)))) (b2 jg (b2 iD (gv 5) (cB (.int 4))) (cB (.int 3))))) (aD (Aa (qy N5 (gv 10) (gv 11)) (aD (aD (K8 7 (fJ rC (ao (b2 subB (cB (.int 0)) (gv 12)) (ao (b2 iD (gv 6) (fJ RT (ao (gv 10) (ao (gv 11) aR)))) (ao (b2 iD (gv 6) (fJ FQ (ao (gv 10) (ao (gv 11) aR)))) (ao (b2 iD (fJ nD (ao (cB (.int 0)) (ao (cB (.int 2)) (ao (cB (.int 10)) aR)))) (b2 jg (b2 iD (gv 9) (cB (.int 3))) (cB (.int 3)))) aR)))))) jD) (gw [])) (aD jD (gw []))) jD)))) (gw [8,9,10,11,12]))
def nM:Ev->Option Out:=(aD (aD (setG 9 (fL 2 dM (ao (b1 rB (fL 2 gO (ao (gv 0) (ao (b1 rB (b2 jt (b2 jt (gv 1) (cB (.int 1))) (gv 8))) aR)))) (ao (cB (.int 8)) aR)))) (aD (Yv 10 11 (ao (b2 jg (b2 iD (gv 9) (cB (.int 5))) (fJ FQ (ao (cB (.int 1)) (ao (gv 2) aR)))) (ao (b2 jg (b2 iD (gv 9) (cB (.int 6))) (fJ FQ (ao (cB (.int 1)) (ao (gv 2) aR)))) aR))) (aD (Aa (qy N5 (gv 10) (gv 11)) (aD (aD (K8 14 (fJ rC (ao (b2 iD (gv 6) (fJ RT (ao (gv 10) (ao (gv 11) aR)))) (ao (b2 iD (gv 6) (fJ FQ (ao (gv 10) (ao (gv 11) aR)))) (ao (b2 iD (fJ nD (ao (cB (.int 2)) (ao (cB (.int 10)) aR))) (b2 jg (b2 iD (gv 9) (cB (.int 7))) (cB (.int 2)))) aR))))) jD) (gw [])) (aD jD (gw []))) jD))) (gw [8,9,10,11]))
def oF:Ev->Option Out:=(aD (setG 5 (fL 2 dM (ao (b1 rB (fL 2 gO (ao (gv 0) (ao (gv 1) aR)))) (ao (cB (.int 6)) aR)))) (aD (setG 6 (fJ CP (ao (fL 2 iR (ao (gv 5) (ao (gv 2) aR))) aR))) (aD (setG 7 (fJ nD aR)) (aD (qz (Qd (ao (gv 3) aR)) (jX 8) nJ) (aD (setG 13 (dU (Ab (Dq (Oz (gv 7)))) (sJ 4 (eE (jX 0) (eE (jX 1) (eE (jX 2) (eE (jX 3) wF))))) rD (fJ rC (ao (b2 subB (cB (.int 0)) (gv 0)) (ao (gv 1) (ao (gv 2) (ao (gv 3) aR))))) [] 4)) (aD (setG 14 (fJ nD aR)) (aD (qz (Qd (ao (gv 4) aR)) (jX 8) nM) (aD (kY (fJ rC (ao (b1 rB (fJ kW (ao (gv 6) aR))) (ao (b1 rB (fJ kW (ao (gv 13) aR))) (ao (b1 rB (fJ kW (ao (Dq (Oz (gv 14))) aR))) aR))))) jD))))))))
def gU:List Bx->Option Bx:=kO 15 oF
def oG:Ev->Option Out:=(aD (kY (Qu (Ab (gv 0)) (jX 0) rD (gv 0) (gv 0) [] 1)) jD)
def gW:List Bx->Option Bx:=kO 1 oG
def qH:Ev->Option Out:=(aD (aD (Aa (XQ (Iu (qy eqB (b2 ou (gv 1) (b2 iD (gv 4) (cB (.int 0)))) (gv 2)) (qy eqB (b2 ou (gv 1) (b2 iD (gv 4) (cB (.int 1)))) (gv 3))) (Iu (qy eqB (b2 ou (gv 1) (b2 iD (gv 4) (cB (.int 0)))) (gv 3)) (qy eqB (b2 ou (gv 1) (b2 iD (gv 4) (cB (.int 1)))) (gv 2)))) (aD (kY (gv 4)) jD) jD) jD) (gw [4]))
def mJ:Ev->Option Out:=(aD (qw 0 (jX 4) qH) (aD (kY (cB .non)) jD))
def iu:List Bx->Option Bx:=kO 5 mJ
def sW:Ev->Option Out:=(aD (aD (Aa (XQ (qy eqB (b2 ou (gv 0) (gv 4)) (gv 1)) (qy eqB (b2 ou (gv 0) (gv 4)) (gv 2))) (aD (aD (Ve 0 (gv 3) (gv 4)) jD) (gw [])) (aD jD (gw []))) jD) (gw [4]))
def oH:Ev->Option Out:=(aD (aD (setG 3 (fJ Ds (ao (gv 1) (ao (gv 2) aR)))) (aD (qz (itF (fJ Du (ao (gv 0) aR))) (jX 4) sW) jD)) (gw [3,4]))
def iW:Addr->List (Str×Dt)->List Bx->Option (List (Str×Dt)):=LR 5 oH
def mK:Ev->Option Out:=(aD (kY (fJ kW (ao (dU (LC (gv 0)) (jX 2) (qy eqB (b2 ou (gv 1) (gv 2)) (gv 0)) (gv 2) [1,0] 1) aR))) jD)
def iw:List Bx->Option Bx:=kO 2 mK
def oJ:Ev->Option Out:=(aD (kY (dU (LC (gv 0)) (jX 1) (qy eqB (b2 ou (gv 0) (gv 1)) (gv 1)) (b1 rB (fL 2 iw (ao (gv 0) (ao (gv 1) aR)))) [0] 1)) jD)
def gY:List Bx->Option Bx:=kO 1 oJ
def nO:Ev->Option Out:=(aD (aD (setG 8 (b2 ou (gv 4) (b2 iD (gv 7) (cB (.int 1))))) (aD (setG 9 (b2 ou (gv 4) (b2 iD (gv 7) (cB (.int 2))))) (aD (Aa (qy N5 (gv 8) (gv 9)) (aD (aD (setG 10 (fL 4 iu (ao (gv 3) (ao (gv 4) (ao (gv 8) (ao (gv 9) aR)))))) (aD (Aa (qy isB (gv 10) (cB .non)) (aD (aD (Dw 4 2 iW (ao (gv 8) (ao (gv 9) aR))) (aD (K8 5 (gv 7)) jD)) (gw [])) (aD (aD (K8 6 (fJ rC (ao (gv 7) (ao (gv 10) aR)))) jD) (gw []))) jD)) (gw [10])) (aD jD (gw [10]))) jD))) (gw [7,8,9,10]))
def oK:Ev->Option Out:=(aD (RM (sJ 3 (eE (jX 1) (eE (jX 2) (eE (jX 3) wF)))) (gv 0)) (aD (setG 4 (fL 1 gW (ao (gv 1) aR))) (aD (setG 5 (fJ nD aR)) (aD (setG 6 (fJ nD aR)) (aD (qw 2 (jX 7) nO) (Tn 5 (Tn 6 (aD (kY (fJ rC (ao (b1 rB (fL 1 gY (ao (gv 4) aR))) (ao (gv 5) (ao (gv 6) aR))))) jD))))))))
def cU:List Bx->Option Bx:=kO 11 oK
def uV:Ev->Option Out:=(aD (aD (setG 7 (b2 iD (dU (Ab (gv 2)) (jX 1) (qy inF (gv 0) (gv 1)) (gv 1) [4] 1) (cB (.int 0)))) (aD (setG 8 (b2 iD (dU (Ab (gv 2)) (jX 1) (qy inF (gv 0) (gv 1)) (gv 1) [5] 1) (cB (.int 0)))) (aD (Aa (qy N5 (gv 7) (gv 8)) (aD (aD (setG 2 (b2 jt (dU (Ab (gv 2)) (jX 2) (qy Dy (gv 2) (fJ nD (ao (gv 0) (ao (gv 1) aR)))) (gv 2) [7,8] 1) (fJ nD (ao (b1 rB (fJ CP (ao (b2 jt (gv 7) (gv 8)) aR))) aR)))) jD) (gw [])) (aD jD (gw []))) jD))) (gw [3,4,5,6,7,8]))
def pX:Ev->Option Out:=(aD (setG 2 (dU (Ab (gv 0)) (jX 0) rD (b1 rB (fJ nD (ao (gv 0) aR))) [] 1)) (aD (qw 1 (sJ 4 (eE (jX 3) (eE (jX 4) (eE (jX 5) (eE (jX 6) wF))))) uV) (aD (kY (fJ Dg (ao (dU (Ab (gv 2)) (jX 0) rD (b1 rB (fJ kW (ao (gv 0) aR))) [] 1) aR))) jD)))
def iT:List Bx->Option Bx:=kO 9 pX
def jo:Ev->Option Out:=(aD (RM (sJ 3 (eE (jX 3) (eE (jX 4) (eE (jX 5) wF)))) (gv 0)) (aD (setG 6 (BP (gv 4) ju (lQ (gv 2)))) (aD (setG 7 (fL 1 cU (ao (fJ rC (ao (gv 3) (ao (gv 6) (ao (gv 5) aR)))) aR))) (aD (Aa (qy N5 (b2 iD (gv 7) (cB (.int 1))) (dU (Ab (b2 iD (gv 1) (cB (.int 1)))) (jX 1) (qy inX (gv 1) (gv 0)) (gv 1) [6] 1)) (aD (kY (cB (.bl false))) jD) jD) (aD (Aa (qy N5 (b2 iD (gv 7) (cB (.int 2))) (dU (Ab (b2 iD (gv 1) (cB (.int 2)))) (jX 1) (qy inX (b2 iD (gv 1) (cB (.int 0))) (gv 0)) (gv 1) [6] 1)) (aD (kY (cB (.bl false))) jD) jD) (aD (kY (b2 eqB (b2 iD (gv 7) (cB (.int 0))) (fL 2 iT (ao (gv 3) (ao (b2 iD (gv 7) (cB (.int 1))) aR))))) jD))))))
def dI:List Bx->Option Bx:=kO 8 jo
def iB:Ev->Option Out:=(aD (RM (sJ 3 (eE (jX 3) (eE (jX 4) (eE (jX 5) wF)))) (gv 0)) (aD (setG 6 (fL 1 cU (ao (fJ rC (ao (gv 3) (ao (b1 rB (fJ kW (ao (dU (Ab (gv 4)) (jX 1) (qy Dy (gv 1) (gv 0)) (gv 1) [2] 1) aR))) (ao (gv 5) aR)))) aR))) (aD (kY (b2 eqB (BP (gv 6) ju (lQ (cB (.int 2)))) (BP (gv 1) ju (lQ (cB (.int 2)))))) jD)))
def dD:List Bx->Option Bx:=kO 7 iB
def jN:Ev->Option Out:=(aD (RM (sJ 3 (eE (jX 3) (eE (jX 4) (eE (jX 5) wF)))) (gv 0)) (aD (setG 6 (fL 1 cU (ao (fJ rC (ao (gv 3) (ao (b1 rB (fJ kW (ao (dU (Ab (gv 4)) (jX 1) (qy N5 (gv 1) (gv 0)) (gv 1) [2] 1) aR))) (ao (gv 5) aR)))) aR))) (aD (Aa (qy Dy (gv 2) (b2 iD (gv 1) (cB (.int 1)))) (aD (kY (b2 eqB (BP (gv 6) ju (lQ (cB (.int 2)))) (BP (gv 1) ju (lQ (cB (.int 2)))))) jD) jD) (aD (setG 7 (BP (gv 4) ju (lQ (b2 SN (gv 4) (gv 2))))) (aD (kY (b2 eqB (dU (Ab (b2 iD (gv 6) (cB (.int 1)))) (jX 1) (qy inX (gv 1) (gv 0)) (gv 1) [7] 1) (dU (Ab (b2 iD (gv 1) (cB (.int 1)))) (jX 1) (qy inX (gv 1) (gv 0)) (gv 1) [7] 1))) jD)))))
def dY:List Bx->Option Bx:=kO 8 jN
def DW:Ev->Option Out:=(aD (aD (Aa (NP (tV (fL 3 dD (ao (gv 2) (ao (gv 3) (ao (gv 6) aR)))))) (aD (kY (cB (.bl false))) jD) jD) jD) (gw [6]))
def QM:Ev->Option Out:=(aD (setG 1 (fL 2 dM (ao (b1 rB (fL 2 gO (ao (gv 0) (ao (cB (.int 0)) aR)))) (ao (cB (.int 12)) aR)))) (aD (setG 2 (fL 5 gU (ao (gv 0) (ao (cB (.int 0)) (ao (b2 jg (b2 iD (gv 1) (cB (.int 6))) (cB (.int 10))) (ao (b2 jg (b2 iD (gv 1) (cB (.int 7))) (cB (.int 15))) (ao (b2 jg (b2 iD (gv 1) (cB (.int 8))) (cB (.int 7))) aR))))))) (aD (setG 3 (fL 1 cU (ao (gv 2) aR))) (aD (Aa (NP (tV (fJ allB (ao (dU (Qd (ao (b2 jt (fJ zu (ao (b2 iD (gv 2) (cB (.int 1))) aR)) (cB (.int 1))) aR)) (jX 2) rD (b1 rB (fL 3 dI (ao (gv 0) (ao (gv 1) (ao (gv 2) aR))))) [2,3] 1) aR)))) (aD (kY (cB (.bl false))) jD) jD) (aD (setG 4 (dU (Ab (b2 iD (gv 3) (cB (.int 2)))) (jX 0) rD (b2 iD (gv 0) (cB (.int 0))) [] 1)) (aD (setG 5 (dU (Ab (b2 iD (gv 2) (cB (.int 1)))) (jX 2) (Iu (qy Dy (gv 2) (b2 iD (gv 1) (cB (.int 1)))) (qy Dy (gv 2) (gv 0))) (gv 2) [4,3] 1)) (Tn 4 (Tn 5 (aD (qz (itF (fJ nD (ao (gv 4) (ao (gv 5) (ao (b1 rB (b2 jt (gv 4) (gv 5))) (ao (b1 rB (BP (gv 5) ju (lQ (cB (.int 1))))) (ao (b1 rB (BP (gv 4) (lQ (b1 RB (cB (.int 1)))) ju)) aR))))))) (jX 6) DW) (aD (kY (fJ allB (ao (dU (Ab (b2 iD (gv 2) (cB (.int 1)))) (jX 2) rD (b1 rB (fL 3 dY (ao (gv 0) (ao (gv 1) (ao (gv 2) aR))))) [2,3] 1) aR))) jD))))))))))
def pY:List Bx->Option Bx:=kO 7 QM
end
structure T (K:PySem.W.Frag) (mg:Str->Option Value) (cH:Addr) (bZ:FuncData) (bw:Addr) (bf:FuncData) (cg:Addr) (bV:FuncData) (bO:Addr) (bI:FuncData) (bQ:Addr) (bJ:FuncData) (bG:Addr) (bB:FuncData) (bR:Addr) (bK:FuncData) (bH:Addr) (bC:FuncData) (bT:Addr) (bL:FuncData) (bD:Addr) (bh:FuncData) (cj:Addr) (bW:FuncData) (aP:Addr) (aK:FuncData) (aJ:Addr) (aH:FuncData) (aV:Addr) (aQ:FuncData) (kj:Addr) (iY:FuncData):Prop where
 gO:Bw K "_law_cell" "_law_cell" mj cH bZ
 rM:Binds K bZ ["_law_script", "_law_k"] []
 rN:mg "_law_cell" = some (.ref cH)
 rO:PySem.W.keepIn K (.ref cH)=true
 dM:Bw K "_law_numbers" "_law_numbers" jd bw bf
 mL:Binds K bf ["_law_cell_here", "_law_many"] []
 mO:mg "_law_numbers" = some (.ref bw)
 mQ:PySem.W.keepIn K (.ref bw)=true
 iR:Bw K "_law_names" "_law_names" j9 cg bV
 Mq:Binds K bV ["_law_xs", "_law_many"] []
 Mr:mg "_law_names" = some (.ref cg)
 Ms:PySem.W.keepIn K (.ref cg)=true
 gU:Bw K "_law_ground" "_law_ground" jH bO bI
 JN:Binds K bI ["_law_script", "_law_at", "_law_many", "_law_reasons", "_law_bars"] []
 JQ:mg "_law_ground" = some (.ref bO)
 JR:PySem.W.keepIn K (.ref bO)=true
 gW:Bw K "lone_heads" "lone_heads" jJ bQ bJ
 JT:Binds K bJ ["names"] []
 JV:mg "lone_heads" = some (.ref bQ)
 JW:PySem.W.keepIn K (.ref bQ)=true
 iu:Bw K "bar_between" "bar_between" je bG bB
 Gd:Binds K bB ["bars", "heads", "one", "other"] []
 Ge:mg "bar_between" = some (.ref bG)
 Gf:PySem.W.keepIn K (.ref bG)=true
 iW:Bw K "join_heads" "join_heads" jK bR bK
 JX:Binds K bK ["heads", "one", "other"] []
 JZ:mg "join_heads" = some (.ref bR)
 J0:PySem.W.keepIn K (.ref bR)=true
 iw:Bw K "names_under" "names_under" jf bH bC
 Gg:Binds K bC ["heads", "head"] []
 Gh:mg "names_under" = some (.ref bH)
 Gi:PySem.W.keepIn K (.ref bH)=true
 gY:Bw K "sets_under" "sets_under" jL bT bL
 J1:Binds K bL ["heads"] []
 J2:mg "sets_under" = some (.ref bT)
 J3:PySem.W.keepIn K (.ref bT)=true
 cU:Bw K "joining_of" "joining_of" jM bD bh
 oM:Binds K bh ["ground"] []
 oN:mg "joining_of" = some (.ref bD)
 oO:PySem.W.keepIn K (.ref bD)=true
 iT:Bw K "_law_parts" "_law_parts" kh cj bW
 Mt:Binds K bW ["_law_names_here", "_law_reasons"] []
 Mu:mg "_law_parts" = some (.ref cj)
 Mv:PySem.W.keepIn K (.ref cj)=true
 dI:Bw K "_law_first_right" "_law_first_right" fW aP aK
 yN:Binds K aK ["_law_ground_here", "_law_told", "_law_many"] []
 yO:mg "_law_first_right" = some (.ref aP)
 yP:PySem.W.keepIn K (.ref aP)=true
 dD:Bw K "_law_without_right" "_law_without_right" eX aJ aH
 wz:Binds K aH ["_law_ground_here", "_law_told", "_law_left_out"] []
 wA:mg "_law_without_right" = some (.ref aJ)
 wB:PySem.W.keepIn K (.ref aJ)=true
 dY:Bw K "_law_less_right" "_law_less_right" gB aV aQ
 zO:Binds K aQ ["_law_ground_here", "_law_told", "_law_reason"] []
 zP:mg "_law_less_right" = some (.ref aV)
 zQ:PySem.W.keepIn K (.ref aV)=true
 pY:Bw K "law" "law" yM kj iY
 ahU:Binds K iY ["_law_script"] []
 ahV:mg "law" = some (.ref kj)
 ahW:PySem.W.keepIn K (.ref kj)=true
 Mw:mg "abs" = none
 HY:mg "all" = none
 Mx:mg "int" = none
 DX:mg "len" = none
 DY:mg "list" = none
 wI:mg "max" = none
 Ea:mg "min" = none
 mR:mg "range" = none
 Ia:mg "set" = none
 lC:mg "sorted" = none
 lD:mg "tuple" = none
section
variable {P:Program} {w:World} {K:PySem.W.Frag} {mg:Str->Option Value} {base:Heap} {cH:Addr} {bZ:FuncData} {bw:Addr} {bf:FuncData} {cg:Addr} {bV:FuncData} {bO:Addr} {bI:FuncData} {bQ:Addr} {bJ:FuncData} {bG:Addr} {bB:FuncData} {bR:Addr} {bK:FuncData} {bH:Addr} {bC:FuncData} {bT:Addr} {bL:FuncData} {bD:Addr} {bh:FuncData} {cj:Addr} {bW:FuncData} {aP:Addr} {aK:FuncData} {aJ:Addr} {aH:FuncData} {aV:Addr} {aQ:FuncData} {kj:Addr} {iY:FuncData}
theorem Al:fB ["_law_script", "_law_k", "_law_state", "_law_cell_here"] ["_law_script", "_law_k"] (aW mj):=⟨rfl,rfl,rfl,by decide +kernel,rfl,by decide +kernel,by decide +kernel⟩
theorem Mz (t:T K mg cH bZ bw bf cg bV bO bI bQ bJ bG bB bR bK bH bC bT bL bD bh cj bW aP aK aJ aH aV aQ kj iY):fG P w K mg base nC 1 cH bZ ["_law_script", "_law_k"] (qx K 2 gO):=by
 unfold gO
 refine yp (k:=0) (g:=rK) t.gO Al rfl rfl fun cdv A outer s H E hr=>?_
 have hu:=iU hr
 have nd:=Al.nd
 exact (aA (o7 (dW U9 (aj 1) (fH Oa rfl t.DX N7 (ak (aj 0) aF)) (fY _)) (aA (iV (cR (aj 0) (aj 1))) bM) bM) (aA (cN 2 nd (cD fM (cD uK aB (cD gJ (cD gJ (cD uK (aj 1) (aj 1)) (cD uK aB (aj 1))) aB)) aB)) (aA (w6 PassesOwn.never rfl (Jo (uL (aj 0) jw (jx aB))) (bF 3 nd) (cP [3] (aA (cN 2 nd (cD fM (cD gJ (cD uK (aj 2) aB) (aj 3)) aB)) bM))) (aA (iV (aj 2)) bM))))
theorem uW:fB ["_law_cell_here", "_law_many", "_law_found", "_law_state", "_law_digits", "_law_k"] ["_law_cell_here", "_law_many"] (aW jd):=⟨rfl,rfl,rfl,by decide +kernel,rfl,by decide +kernel,by decide +kernel⟩
theorem Eb (t:T K mg cH bZ bw bf cg bV bO bI bQ bJ bG bB bR bK bH bC bT bL bD bh cj bW aP aK aJ aH aV aQ kj iY):fG P w K mg base nC 1 bw bf ["_law_cell_here", "_law_many"] (qx K 2 dM):=by
 unfold dM
 refine yp (k:=0) (g:=mH) t.dM uW rfl rfl fun cdv A outer s H E hr=>?_
 have hu:=iU hr
 have nd:=uW.nd
 exact (aA (cN 2 nd (kZ aF)) (aA (cN 3 nd (cD fM (cD uK (cD gJ (cD fM (aj 0) aB) aB) aB) aB)) (aA (cN 4 nd aB) (aA (o7 (RX (Od (dW U9 (aj 0) aB (fY _)) (Jj (dW aeh (aj 0) (cD abX aB aB) (fY _))))) (cP [] (aA (cN 4 nd (fH ab6 rfl t.Mw ab2 (ak (aj 0) aF))) bM)) (cP [] bM)) (aA (w6 PassesOwn.never rfl (qC rfl t.mR (ak (aj 1) aF)) (bF 5 nd) (cP [5] (aA (cN 3 nd (cD fM (cD gJ (cD gJ (cD uK (aj 3) (cD gJ (cD fM (aj 3) aB) aB)) (cD uK aB (aj 5))) aB) aB)) (aA (zF 2 (cR (kZ (ak (aj 3) (ak (cD fM (aj 4) aB) aF))) (jF ab7 rfl t.Mx ab1 (ak (CW aeg (aj 4) aB (fY _)) aF)))) (aA (cN 4 nd (cD Ja (aj 4) aB)) bM))))) (aA (Qe 2) bM))))))
theorem yQ:fB ["_law_xs", "_law_many", "_law_letters", "_law_stem", "_law_at", "_law_found", "_law_k", "_law_mark", "_law_name"] ["_law_xs", "_law_many"] (aW j9):=⟨rfl,rfl,rfl,by decide +kernel,rfl,by decide +kernel,by decide +kernel⟩
theorem J4 (t:T K mg cH bZ bw bf cg bV bO bI bQ bJ bG bB bR bK bH bC bT bL bD bh cj bW aP aK aJ aH aV aQ kj iY):fG P w K mg base nC 1 cg bV ["_law_xs", "_law_many"] (qx K 2 iR):=by
 unfold iR
 refine yp (k:=0) (g:=pW) t.iR yQ rfl rfl fun cdv A outer s H E hr=>?_
 have hu:=iU hr
 have nd:=yQ.nd
 exact (aA (cN 2 nd ace) (aA (cN 3 nd (YD (jk ["_law_k"] (iH (xs:=["_law_letters", "_law_xs"]) (is:=[2,0]) (by with_unfolding_all rfl) rfl (by decide +kernel) (by decide +kernel) (by exact⟨rfl,⟨rfl,trivial⟩⟩) (by rfl) (by exact (fK rfl (by first|exact .inl rfl|exact .inr rfl) (by first|exact .inl rfl|exact .inr rfl) ⟨_,rfl⟩ (fK rfl (by first|exact .inl rfl|exact .inr rfl) (by first|exact .inl rfl|exact .inr rfl) ⟨_,rfl⟩ iG)))) rfl (Vj (qC rfl t.mR (ak (cD fM (cR (aj 0) aB) aB) aF))) (fun _ _ _ _=>(bF 2 (show List.Nodup ((["_law_letters", "_law_xs"]:List Str)++(["_law_k"]:List Str)) by decide +kernel))) (fun _ _ _ _=>jy) (fun _ _ _ _=>(cR (aj 0) (cD fM (cD Ja (cR (aj 1) (aj 2)) aB) aB))) (eF)))) (aA (cN 4 nd (cD fM (cR (aj 0) aB) (cD gJ (fH Oa rfl t.DX N7 (ak (aj 3) aF)) aB))) (aA (cN 5 nd (kZ aF)) (aA (w6 PassesOwn.never rfl (qC rfl t.mR (ak (aj 1) aF)) (bF 6 nd) (cP [6,7,8] (aA (cN 7 nd (cR (aj 2) (cD fM (cD gJ (aj 6) (cR (aj 0) aB)) aB))) (aA (cN 8 nd (cD gJ (cD gJ (uL (aj 3) jw (jx (aj 4))) (aj 7)) (uL (aj 3) (jx (aj 4)) jw))) (aA (o7 (dW (of_eq hu) (cD fM (cR (aj 0) aB) aB) aB (fY _)) (cP [] (aA (cN 8 nd (cD uK (cR (aj 2) (cD Ja (aj 6) aB)) (cD gJ aB (cD fM (aj 6) aB)))) bM)) (cP [] bM)) (aA (zF 5 (aj 8)) bM)))))) (aA (Qe 5) bM))))))
theorem wJ:fB ["_law_script", "_law_at", "_law_many", "_law_reasons", "_law_bars", "_law_head", "_law_names_here", "_law_told", "_law_k", "_law_xs", "_law_a", "_law_b", "_law_weight", "_law_found", "_law_shut"] ["_law_script", "_law_at", "_law_many", "_law_reasons", "_law_bars"] (aW jH):=⟨rfl,rfl,rfl,by decide +kernel,rfl,by decide +kernel,by decide +kernel⟩
theorem Gj (t:T K mg cH bZ bw bf cg bV bO bI bQ bJ bG bB bR bK bH bC bT bL bD bh cj bW aP aK aJ aH aV aQ kj iY) (jz:fG P w K mg base nC 1 cH bZ ["_law_script", "_law_k"] (qx K 2 gO)) (uX:fG P w K mg base nC 1 cg bV ["_law_xs", "_law_many"] (qx K 2 iR)) (gA:fG P w K mg base nC 1 bw bf ["_law_cell_here", "_law_many"] (qx K 2 dM)):fG P w K mg base nC 2 bO bI ["_law_script", "_law_at", "_law_many", "_law_reasons", "_law_bars"] (qx K 5 gU):=by
 unfold gU
 refine yp (k:=1) (g:=oF) t.gU wJ rfl rfl fun cdv A outer s H E hr=>?_
 have hu:=iU hr
 have nd:=wJ.nd
 exact (aA (cN 5 nd (fD gA (hr.mono (by decide)) rfl t.mO t.mQ t.mL (ak (jl (fD jz (hr.mono (by decide)) rfl t.rN t.rO t.rM (ak (aj 0) (ak (aj 1) aF)))) (ak aB aF)))) (aA (cN 6 nd (fH Ho rfl t.lC zq (ak (fD uX (hr.mono (by decide)) rfl t.Mr t.Ms t.Mq (ak (aj 5) (ak (aj 2) aF))) aF))) (aA (cN 7 nd (kZ aF)) (aA (w6 PassesOwn.never rfl (qC rfl t.mR (ak (aj 3) aF)) (bF 8 nd) (cP [8,9,10,11,12] (aA (cN 9 nd (fD gA (hr.mono (by decide)) rfl t.mO t.mQ t.mL (ak (jl (fD jz (hr.mono (by decide)) rfl t.rN t.rO t.rM (ak (aj 0) (ak (jl (cD gJ (cD gJ (aj 1) aB) (aj 8))) aF)))) (ak aB aF)))) (aA (Vi 10 11 rfl nd (ak (cD fM (cR (aj 9) aB) (fH (zA rfl) rfl t.wI zp (ak aB (ak (aj 2) aF)))) (ak (cD fM (cR (aj 9) aB) (fH (zA rfl) rfl t.wI zp (ak aB (ak (aj 2) aF)))) aF))) (aA (cN 12 nd (cR (kZ (ak (jl (cD gJ aB (cD fM (cR (aj 9) aB) aB))) (ak (jl (cD gJ aB (cD fM (cR (aj 9) aB) aB))) (ak (jl (cD gJ aB (cD fM (cR (aj 9) aB) aB))) aF)))) (cD fM (cR (aj 5) aB) aB))) (aA (o7 (dW (Cz hu) (aj 10) (aj 11) (fY _)) (cP [] (aA (zF 7 (rE (ak (cD UW aB (aj 12)) (ak (cR (aj 6) (fH (Vc rfl) rfl t.Ea N8 (ak (aj 10) (ak (aj 11) aF)))) (ak (cR (aj 6) (fH (zA rfl) rfl t.wI zp (ak (aj 10) (ak (aj 11) aF)))) (ak (cR (kZ (ak aB (ak aB (ak aB aF)))) (cD fM (cR (aj 9) aB) aB)) aF)))))) bM)) (cP [] bM)) bM)))))) (aA (Jl 13 ["_law_weight", "_law_a", "_law_b", "_law_k"] (iH (xs:=[]) (is:=[]) (by with_unfolding_all rfl) rfl (by decide +kernel) (by decide +kernel) (by exact trivial) (by rfl) (by exact iG)) rfl nd (iz (Qt rfl rfl t.lC (Qs rfl hu rfl t.Ia (aj 7)))) (fun _ _ _ _=>(zG rfl (dX (bF 0 (show List.Nodup (([]:List Str)++(["_law_weight", "_law_a", "_law_b", "_law_k"]:List Str)) by decide +kernel)) (dX (bF 1 (show List.Nodup (([]:List Str)++(["_law_weight", "_law_a", "_law_b", "_law_k"]:List Str)) by decide +kernel)) (dX (bF 2 (show List.Nodup (([]:List Str)++(["_law_weight", "_law_a", "_law_b", "_law_k"]:List Str)) by decide +kernel)) (dX (bF 3 (show List.Nodup (([]:List Str)++(["_law_weight", "_law_a", "_law_b", "_law_k"]:List Str)) by decide +kernel)) vW)))))) (fun _ _ _ _=>jy) (fun _ _ _ _=>(rE (ak (cD UW aB (aj 0)) (ak (aj 1) (ak (aj 2) (ak (aj 3) aF)))))) (abJ (xY (eF) (xY (eF) (xY (eF) (xY (eF) Yh)))))) (aA (cN 14 nd (kZ aF)) (aA (w6 PassesOwn.never rfl (qC rfl t.mR (ak (aj 4) aF)) (bF 8 nd) (cP [8,9,10,11] (aA (cN 9 nd (fD gA (hr.mono (by decide)) rfl t.mO t.mQ t.mL (ak (jl (fD jz (hr.mono (by decide)) rfl t.rN t.rO t.rM (ak (aj 0) (ak (jl (cD gJ (cD gJ (aj 1) aB) (aj 8))) aF)))) (ak aB aF)))) (aA (Vi 10 11 rfl nd (ak (cD fM (cR (aj 9) aB) (fH (zA rfl) rfl t.wI zp (ak aB (ak (aj 2) aF)))) (ak (cD fM (cR (aj 9) aB) (fH (zA rfl) rfl t.wI zp (ak aB (ak (aj 2) aF)))) aF))) (aA (o7 (dW (Cz hu) (aj 10) (aj 11) (fY _)) (cP [] (aA (zF 14 (rE (ak (cR (aj 6) (fH (Vc rfl) rfl t.Ea N8 (ak (aj 10) (ak (aj 11) aF)))) (ak (cR (aj 6) (fH (zA rfl) rfl t.wI zp (ak (aj 10) (ak (aj 11) aF)))) (ak (cR (kZ (ak aB (ak aB aF))) (cD fM (cR (aj 9) aB) aB)) aF))))) bM)) (cP [] bM)) bM))))) (aA (iV (rE (ak (jl (jF oZ rfl t.lD oY (ak (aj 6) aF))) (ak (jl (jF oZ rfl t.lD oY (ak (aj 13) aF))) (ak (jl (jF oZ rfl t.lD oY (ak (Qt rfl rfl t.lC (Qs rfl hu rfl t.Ia (aj 14))) aF))) aF))))) bM))))))))
theorem wK:fB ["names"] ["names"] (aW jJ):=⟨rfl,rfl,rfl,by decide +kernel,rfl,by decide +kernel,by decide +kernel⟩
theorem Gk (t:T K mg cH bZ bw bf cg bV bO bI bQ bJ bG bB bR bK bH bC bT bL bD bh cj bW aP aK aJ aH aV aQ kj iY):fG P w K mg base nC 1 bQ bJ ["names"] (qx K 1 gW):=by
 unfold gW
 refine yp (k:=0) (g:=oG) t.gW wK rfl rfl fun cdv A outer s H E hr=>?_
 have hu:=iU hr
 have nd:=wK.nd
 exact (aA (iV (V1 hu ["name"] (iH (xs:=[]) (is:=[]) (by with_unfolding_all rfl) rfl (by decide +kernel) (by decide +kernel) (by exact trivial) (by rfl) (by exact iG)) rfl (iz (aj 0)) (fun _ _ _ _=>(bF 0 (show List.Nodup (([]:List Str)++(["name"]:List Str)) by decide +kernel))) (fun _ _ _ _=>jy) (fun _ _ _ _=>(aj 0)) (fun _ _ _ _=>(aj 0)) (eF))) bM)
theorem uY:fB ["bars", "heads", "one", "other", "bar"] ["bars", "heads", "one", "other"] (aW je):=⟨rfl,rfl,rfl,by decide +kernel,rfl,by decide +kernel,by decide +kernel⟩
theorem Ed (t:T K mg cH bZ bw bf cg bV bO bI bQ bJ bG bB bR bK bH bC bT bL bD bh cj bW aP aK aJ aH aV aQ kj iY):fG P w K mg base nC 1 bG bB ["bars", "heads", "one", "other"] (qx K 4 iu):=by
 unfold iu
 refine yp (k:=0) (g:=mJ) t.iu uY rfl rfl fun cdv A outer s H E hr=>?_
 have hu:=iU hr
 have nd:=uY.nd
 exact (aA (Jm 0 PassesOwn.never rfl (bF 4 nd) (cP [4] (aA (o7 (RX (Od (RX (Ji (dW (of_eq hu) (mG hu (aj 1) (cR (aj 4) aB)) (aj 2) (fY _)) (CV (dW (of_eq hu) (mG hu (aj 1) (cR (aj 4) aB)) (aj 3) (fY _))))) (Jj (RX (Ji (dW (of_eq hu) (mG hu (aj 1) (cR (aj 4) aB)) (aj 3) (fY _)) (CV (dW (of_eq hu) (mG hu (aj 1) (cR (aj 4) aB)) (aj 2) (fY _)))))))) (aA (iV (aj 4)) bM) bM) bM))) (aA (iV Vk) bM))
theorem wL:fB ["heads", "one", "other", "head", "name"] ["heads", "one", "other"] (aW jK):=⟨rfl,rfl,rfl,by decide +kernel,rfl,by decide +kernel,by decide +kernel⟩
theorem Gm (t:T K mg cH bZ bw bf cg bV bO bI bQ bJ bG bB bR bK bH bC bT bL bD bh cj bW aP aK aJ aH aV aQ kj iY):fG P w K mg base nC 1 bR bK ["heads", "one", "other"] (spM K 2 iW):=by
 unfold iW
 refine agm (k:=0) (g:=oH) t.iW wL rfl rfl fun cdv A outer s H E hr=>?_
 have hu:=iU hr
 have nd:=wL.nd
 exact (cP [3,4] (aA (cN 3 nd (fH (Ze rfl) rfl t.Ea N8 (ak (aj 1) (ak (aj 2) aF)))) (aA (w6 PassesOwn.never rfl (Jo (jF (V4 rfl) rfl t.DY Yu (ak (aj 0) aF))) (bF 4 nd) (cP [4] (aA (o7 (RX (Od (dW (of_eq hu) (mG hu (aj 0) (aj 4)) (aj 1) (fY _)) (Jj (dW (of_eq hu) (mG hu (aj 0) (aj 4)) (aj 2) (fY _))))) (cP [] (aA (YC 0 hu (aj 3) (aj 4)) bM)) (cP [] bM)) bM))) bM)))
theorem uZ:fB ["heads", "head"] ["heads", "head"] (aW jf):=⟨rfl,rfl,rfl,by decide +kernel,rfl,by decide +kernel,by decide +kernel⟩
theorem Ef (t:T K mg cH bZ bw bf cg bV bO bI bQ bJ bG bB bR bK bH bC bT bL bD bh cj bW aP aK aJ aH aV aQ kj iY):fG P w K mg base nC 1 bH bC ["heads", "head"] (qx K 2 iw):=by
 unfold iw
 refine yp (k:=0) (g:=mK) t.iw uZ rfl rfl fun cdv A outer s H E hr=>?_
 have hu:=iU hr
 have nd:=uZ.nd
 exact (aA (iV (jF oZ rfl t.lD oY (ak (LK ["name"] (iH (xs:=["head", "heads"]) (is:=[1,0]) (by with_unfolding_all rfl) rfl (by decide +kernel) (by decide +kernel) (by exact⟨rfl,⟨rfl,trivial⟩⟩) (by rfl) (by exact (fK rfl (by first|exact .inl rfl|exact .inr rfl) (by first|exact .inl rfl|exact .inr rfl) ⟨_,rfl⟩ (fK rfl (by first|exact .inl rfl|exact .inr rfl) (by first|exact .inl rfl|exact .inr rfl) ⟨_,rfl⟩ iG)))) rfl (aj 0) (fun _ _ _ _=>(bF 2 (show List.Nodup ((["head", "heads"]:List Str)++(["name"]:List Str)) by decide +kernel))) (fun _ _ _ _=>(fZ (dW (of_eq hu) (mG hu (aj 1) (aj 2)) (aj 0) (fY _)))) (fun _ _ _ _=>(aj 2)) (eF)) aF))) bM)
theorem wM:fB ["heads"] ["heads"] (aW jL):=⟨rfl,rfl,rfl,by decide +kernel,rfl,by decide +kernel,by decide +kernel⟩
theorem Gn (t:T K mg cH bZ bw bf cg bV bO bI bQ bJ bG bB bR bK bH bC bT bL bD bh cj bW aP aK aJ aH aV aQ kj iY) (qd:fG P w K mg base nC 1 bH bC ["heads", "head"] (qx K 2 iw)):fG P w K mg base nC 2 bT bL ["heads"] (qx K 1 gY):=by
 unfold gY
 refine yp (k:=1) (g:=oJ) t.gY wM rfl rfl fun cdv A outer s H E hr=>?_
 have hu:=iU hr
 have nd:=wM.nd
 exact (aA (iV (LK ["name"] (iH (xs:=["heads"]) (is:=[0]) (by with_unfolding_all rfl) rfl (by decide +kernel) (by decide +kernel) (by exact⟨rfl,trivial⟩) (by rfl) (by exact (fK rfl (by first|exact .inl rfl|exact .inr rfl) (by first|exact .inl rfl|exact .inr rfl) ⟨_,rfl⟩ iG))) rfl (aj 0) (fun _ _ _ _=>(bF 1 (show List.Nodup ((["heads"]:List Str)++(["name"]:List Str)) by decide +kernel))) (fun _ _ _ _=>(fZ (dW (of_eq hu) (mG hu (aj 0) (aj 1)) (aj 1) (fY _)))) (fun _ _ _ _=>(jl (fD qd (hr.mono (by decide)) rfl t.Gh t.Gi t.Gg (ak (aj 0) (ak (aj 1) aF))))) (eF))) bM)
theorem wN:fB ["ground", "names", "reasons", "bars", "heads", "kept", "barred", "reason", "one", "other", "bar"] ["ground"] (aW jM):=⟨rfl,rfl,rfl,by decide +kernel,rfl,by decide +kernel,by decide +kernel⟩
theorem Gp (t:T K mg cH bZ bw bf cg bV bO bI bQ bJ bG bB bR bK bH bC bT bL bD bh cj bW aP aK aJ aH aV aQ kj iY) (qe:fG P w K mg base nC 1 bG bB ["bars", "heads", "one", "other"] (qx K 4 iu)) (rP:fG P w K mg base nC 1 bR bK ["heads", "one", "other"] (spM K 2 iW)) (rQ:fG P w K mg base nC 1 bQ bJ ["names"] (qx K 1 gW)) (rR:fG P w K mg base nC 2 bT bL ["heads"] (qx K 1 gY)):fG P w K mg base nC 3 bD bh ["ground"] (qx K 1 cU):=by
 unfold cU
 refine yp (k:=2) (g:=oK) t.cU wN rfl rfl fun cdv A outer s H E hr=>?_
 have hu:=iU hr
 have nd:=wN.nd
 exact (aA (Jk (aj 0) (zG rfl (dX (bF 1 nd) (dX (bF 2 nd) (dX (bF 3 nd) vW))))) (aA (cN 4 nd (fD rQ (hr.mono (by decide)) rfl t.JV t.JW t.JT (ak (aj 1) aF))) (aA (cN 5 nd (kZ aF)) (aA (cN 6 nd (kZ aF)) (aA (Jm 2 PassesOwn.never rfl (bF 7 nd) (cP [7,8,9,10] (aA (cN 8 nd (mG hu (aj 4) (cR (aj 7) aB))) (aA (cN 9 nd (mG hu (aj 4) (cR (aj 7) aB))) (aA (o7 (dW (Cz hu) (aj 8) (aj 9) (fY _)) (cP [10] (aA (cN 10 nd (fD qe (hr.mono (by decide)) rfl t.Ge t.Gf t.Gd (ak (aj 3) (ak (aj 4) (ak (aj 8) (ak (aj 9) aF)))))) (aA (o7 (dW of_is (aj 10) Vk (fY _)) (cP [] (aA (Zf 4 rP (hr.mono (by decide)) rfl t.JZ t.J0 t.JX (ak (aj 8) (ak (aj 9) aF))) (aA (zF 5 (aj 7)) bM))) (cP [] (aA (zF 6 (rE (ak (aj 7) (ak (aj 10) aF)))) bM))) bM))) (cP [10] bM)) bM))))) (JB (i:=5) (JB (i:=6) (aA (iV (rE (ak (jl (fD rR (hr.mono (by decide)) rfl t.J2 t.J3 t.J1 (ak (aj 4) aF))) (ak (aj 5) (ak (aj 6) aF))))) bM))))))))
theorem yR:fB ["_law_names_here", "_law_reasons", "_law_found", "_law_weight", "_law_a", "_law_b", "_law_k", "_law_one", "_law_other"] ["_law_names_here", "_law_reasons"] (aW kh):=⟨rfl,rfl,rfl,by decide +kernel,rfl,by decide +kernel,by decide +kernel⟩
theorem J5 (t:T K mg cH bZ bw bf cg bV bO bI bQ bJ bG bB bR bK bH bC bT bL bD bh cj bW aP aK aJ aH aV aQ kj iY):fG P w K mg base nC 1 cj bW ["_law_names_here", "_law_reasons"] (qx K 2 iT):=by
 unfold iT
 refine yp (k:=0) (g:=pX) t.iT yR rfl rfl fun cdv A outer s H E hr=>?_
 have hu:=iU hr
 have nd:=yR.nd
 exact (aA (Jl 2 ["_law_name"] (iH (xs:=[]) (is:=[]) (by with_unfolding_all rfl) rfl (by decide +kernel) (by decide +kernel) (by exact trivial) (by rfl) (by exact iG)) rfl nd (iz (aj 0)) (fun _ _ _ _=>(bF 0 (show List.Nodup (([]:List Str)++(["_law_name"]:List Str)) by decide +kernel))) (fun _ _ _ _=>jy) (fun _ _ _ _=>(jl (kZ (ak (aj 0) aF)))) (eF)) (aA (Jm 1 PassesOwn.never rfl (zG rfl (dX (bF 3 nd) (dX (bF 4 nd) (dX (bF 5 nd) (dX (bF 6 nd) vW))))) (cP [3,4,5,6,7,8] (aA (cN 7 nd (cR (jk ["_law_part"] (iH (xs:=["_law_a"]) (is:=[4]) (by with_unfolding_all rfl) rfl (by decide +kernel) (by decide +kernel) (by exact⟨rfl,trivial⟩) (by rfl) (by exact (fK rfl (by first|exact .inl rfl|exact .inr rfl) (by first|exact .inl rfl|exact .inr rfl) ⟨_,rfl⟩ iG))) rfl (iz (aj 2)) (fun _ _ _ _=>(bF 1 (show List.Nodup ((["_law_a"]:List Str)++(["_law_part"]:List Str)) by decide +kernel))) (fun _ _ _ _=>(fZ (dW aad (aj 0) (aj 1) (by with_unfolding_all rfl)))) (fun _ _ _ _=>(aj 1)) (eF)) aB)) (aA (cN 8 nd (cR (jk ["_law_part"] (iH (xs:=["_law_b"]) (is:=[5]) (by with_unfolding_all rfl) rfl (by decide +kernel) (by decide +kernel) (by exact⟨rfl,trivial⟩) (by rfl) (by exact (fK rfl (by first|exact .inl rfl|exact .inr rfl) (by first|exact .inl rfl|exact .inr rfl) ⟨_,rfl⟩ iG))) rfl (iz (aj 2)) (fun _ _ _ _=>(bF 1 (show List.Nodup ((["_law_b"]:List Str)++(["_law_part"]:List Str)) by decide +kernel))) (fun _ _ _ _=>(fZ (dW aad (aj 0) (aj 1) (by with_unfolding_all rfl)))) (fun _ _ _ _=>(aj 1)) (eF)) aB)) (aA (o7 (dW (Cz hu) (aj 7) (aj 8) (fY _)) (cP [] (aA (cN 2 nd (cD gJ (jk ["_law_part"] (iH (xs:=["_law_one", "_law_other"]) (is:=[7,8]) (by with_unfolding_all rfl) rfl (by decide +kernel) (by decide +kernel) (by exact⟨rfl,⟨rfl,trivial⟩⟩) (by rfl) (by exact (fK rfl (by first|exact .inl rfl|exact .inr rfl) (by first|exact .inl rfl|exact .inr rfl) ⟨_,rfl⟩ (fK rfl (by first|exact .inl rfl|exact .inr rfl) (by first|exact .inl rfl|exact .inr rfl) ⟨_,rfl⟩ iG)))) rfl (iz (aj 2)) (fun _ _ _ _=>(bF 2 (show List.Nodup ((["_law_one", "_law_other"]:List Str)++(["_law_part"]:List Str)) by decide +kernel))) (fun _ _ _ _=>(fZ (dW (yE hu) (aj 2) (kZ (ak (aj 0) (ak (aj 1) aF))) (by with_unfolding_all rfl)))) (fun _ _ _ _=>(aj 2)) (eF)) (kZ (ak (jl (fH Ho rfl t.lC zq (ak (cD gJ (aj 7) (aj 8)) aF))) aF)))) bM)) (cP [] bM)) bM))))) (aA (iV (fH Vq rfl t.lC zq (ak (jk ["_law_part"] (iH (xs:=[]) (is:=[]) (by with_unfolding_all rfl) rfl (by decide +kernel) (by decide +kernel) (by exact trivial) (by rfl) (by exact iG)) rfl (iz (aj 2)) (fun _ _ _ _=>(bF 0 (show List.Nodup (([]:List Str)++(["_law_part"]:List Str)) by decide +kernel))) (fun _ _ _ _=>jy) (fun _ _ _ _=>(jl (jF oZ rfl t.lD oY (ak (aj 0) aF)))) (eF)) aF))) bM)))
theorem pB:fB ["_law_ground_here", "_law_told", "_law_many", "_law_names_here", "_law_reasons", "_law_bars", "_law_some", "_law_found"] ["_law_ground_here", "_law_told", "_law_many"] (aW fW):=⟨rfl,rfl,rfl,by decide +kernel,rfl,by decide +kernel,by decide +kernel⟩
theorem xG (t:T K mg cH bZ bw bf cg bV bO bI bQ bJ bG bB bR bK bH bC bT bL bD bh cj bW aP aK aJ aH aV aQ kj iY) (u0:fG P w K mg base nC 1 cj bW ["_law_names_here", "_law_reasons"] (qx K 2 iT)) (dR:fG P w K mg base nC 3 bD bh ["ground"] (qx K 1 cU)):fG P w K mg base nC 4 aP aK ["_law_ground_here", "_law_told", "_law_many"] (qx K 3 dI):=by
 unfold dI
 refine yp (k:=3) (g:=jo) t.dI pB rfl rfl fun cdv A outer s H E hr=>?_
 have hu:=iU hr
 have nd:=pB.nd
 exact (aA (Jk (aj 0) (zG rfl (dX (bF 3 nd) (dX (bF 4 nd) (dX (bF 5 nd) vW))))) (aA (cN 6 nd (uL (aj 4) jw (jx (aj 2)))) (aA (cN 7 nd (fD dR (hr.mono (by decide)) rfl t.oN t.oO t.oM (ak (rE (ak (aj 3) (ak (aj 6) (ak (aj 5) aF)))) aF))) (aA (o7 (dW (Cz hu) (cR (aj 7) aB) (jk ["_law_reason"] (iH (xs:=["_law_some"]) (is:=[6]) (by with_unfolding_all rfl) rfl (by decide +kernel) (by decide +kernel) (by exact⟨rfl,trivial⟩) (by rfl) (by exact (fK rfl (by first|exact .inl rfl|exact .inr rfl) (by first|exact .inl rfl|exact .inr rfl) ⟨_,rfl⟩ iG))) rfl (iz (cR (aj 1) aB)) (fun _ _ _ _=>(bF 1 (show List.Nodup ((["_law_some"]:List Str)++(["_law_reason"]:List Str)) by decide +kernel))) (fun _ _ _ _=>(fZ (dW (Jz hu) (aj 1) (aj 0) (by with_unfolding_all rfl)))) (fun _ _ _ _=>(aj 1)) (eF)) (fY _)) (aA (iV Qf) bM) bM) (aA (o7 (dW (Cz hu) (cR (aj 7) aB) (jk ["_law_row"] (iH (xs:=["_law_some"]) (is:=[6]) (by with_unfolding_all rfl) rfl (by decide +kernel) (by decide +kernel) (by exact⟨rfl,trivial⟩) (by rfl) (by exact (fK rfl (by first|exact .inl rfl|exact .inr rfl) (by first|exact .inl rfl|exact .inr rfl) ⟨_,rfl⟩ iG))) rfl (iz (cR (aj 1) aB)) (fun _ _ _ _=>(bF 1 (show List.Nodup ((["_law_some"]:List Str)++(["_law_row"]:List Str)) by decide +kernel))) (fun _ _ _ _=>(fZ (dW (Jz hu) (cR (aj 1) aB) (aj 0) (by with_unfolding_all rfl)))) (fun _ _ _ _=>(aj 1)) (eF)) (fY _)) (aA (iV Qf) bM) bM) (aA (iV (CW (of_eq hu) (cR (aj 7) aB) (fD u0 (hr.mono (by decide)) rfl t.Mu t.Mv t.Mt (ak (aj 3) (ak (cR (aj 7) aB) aF))) (fY _))) bM))))))
theorem mZ:fB ["_law_ground_here", "_law_told", "_law_left_out", "_law_names_here", "_law_reasons", "_law_bars", "_law_found"] ["_law_ground_here", "_law_told", "_law_left_out"] (aW eX):=⟨rfl,rfl,rfl,by decide +kernel,rfl,by decide +kernel,by decide +kernel⟩
theorem u5 (t:T K mg cH bZ bw bf cg bV bO bI bQ bJ bG bB bR bK bH bC bT bL bD bh cj bW aP aK aJ aH aV aQ kj iY) (dR:fG P w K mg base nC 3 bD bh ["ground"] (qx K 1 cU)):fG P w K mg base nC 4 aJ aH ["_law_ground_here", "_law_told", "_law_left_out"] (qx K 3 dD):=by
 unfold dD
 refine yp (k:=3) (g:=iB) t.dD mZ rfl rfl fun cdv A outer s H E hr=>?_
 have hu:=iU hr
 have nd:=mZ.nd
 exact (aA (Jk (aj 0) (zG rfl (dX (bF 3 nd) (dX (bF 4 nd) (dX (bF 5 nd) vW))))) (aA (cN 6 nd (fD dR (hr.mono (by decide)) rfl t.oN t.oO t.oM (ak (rE (ak (aj 3) (ak (jl (jF oZ rfl t.lD oY (ak (jk ["_law_reason"] (iH (xs:=["_law_left_out"]) (is:=[2]) (by with_unfolding_all rfl) rfl (by decide +kernel) (by decide +kernel) (by exact⟨rfl,trivial⟩) (by rfl) (by exact (fK rfl (by first|exact .inl rfl|exact .inr rfl) (by first|exact .inl rfl|exact .inr rfl) ⟨_,rfl⟩ iG))) rfl (iz (aj 4)) (fun _ _ _ _=>(bF 1 (show List.Nodup ((["_law_left_out"]:List Str)++(["_law_reason"]:List Str)) by decide +kernel))) (fun _ _ _ _=>(fZ (dW (yE hu) (aj 1) (aj 0) (by with_unfolding_all rfl)))) (fun _ _ _ _=>(aj 1)) (eF)) aF))) (ak (aj 5) aF)))) aF))) (aA (iV (CW (of_eq hu) (uL (aj 6) jw (jx aB)) (uL (aj 1) jw (jx aB)) (fY _))) bM)))
theorem pZ:fB ["_law_ground_here", "_law_told", "_law_reason", "_law_names_here", "_law_reasons", "_law_bars", "_law_found", "_law_ahead"] ["_law_ground_here", "_law_told", "_law_reason"] (aW gB):=⟨rfl,rfl,rfl,by decide +kernel,rfl,by decide +kernel,by decide +kernel⟩
theorem yS (t:T K mg cH bZ bw bf cg bV bO bI bQ bJ bG bB bR bK bH bC bT bL bD bh cj bW aP aK aJ aH aV aQ kj iY) (dR:fG P w K mg base nC 3 bD bh ["ground"] (qx K 1 cU)):fG P w K mg base nC 4 aV aQ ["_law_ground_here", "_law_told", "_law_reason"] (qx K 3 dY):=by
 unfold dY
 refine yp (k:=3) (g:=jN) t.dY pZ rfl rfl fun cdv A outer s H E hr=>?_
 have hu:=iU hr
 have nd:=pZ.nd
 exact (aA (Jk (aj 0) (zG rfl (dX (bF 3 nd) (dX (bF 4 nd) (dX (bF 5 nd) vW))))) (aA (cN 6 nd (fD dR (hr.mono (by decide)) rfl t.oN t.oO t.oM (ak (rE (ak (aj 3) (ak (jl (jF oZ rfl t.lD oY (ak (jk ["_law_other"] (iH (xs:=["_law_reason"]) (is:=[2]) (by with_unfolding_all rfl) rfl (by decide +kernel) (by decide +kernel) (by exact⟨rfl,trivial⟩) (by rfl) (by exact (fK rfl (by first|exact .inl rfl|exact .inr rfl) (by first|exact .inl rfl|exact .inr rfl) ⟨_,rfl⟩ iG))) rfl (iz (aj 4)) (fun _ _ _ _=>(bF 1 (show List.Nodup ((["_law_reason"]:List Str)++(["_law_other"]:List Str)) by decide +kernel))) (fun _ _ _ _=>(fZ (dW (Cz hu) (aj 1) (aj 0) (fY _)))) (fun _ _ _ _=>(aj 1)) (eF)) aF))) (ak (aj 5) aF)))) aF))) (aA (o7 (dW (yE hu) (aj 2) (cR (aj 1) aB) (by with_unfolding_all rfl)) (aA (iV (CW (of_eq hu) (uL (aj 6) jw (jx aB)) (uL (aj 1) jw (jx aB)) (fY _))) bM) bM) (aA (cN 7 nd (uL (aj 4) jw (jx (V8 hu (aj 4) (aj 2))))) (aA (iV (CW (of_eq hu) (jk ["_law_one"] (iH (xs:=["_law_ahead"]) (is:=[7]) (by with_unfolding_all rfl) rfl (by decide +kernel) (by decide +kernel) (by exact⟨rfl,trivial⟩) (by rfl) (by exact (fK rfl (by first|exact .inl rfl|exact .inr rfl) (by first|exact .inl rfl|exact .inr rfl) ⟨_,rfl⟩ iG))) rfl (iz (cR (aj 6) aB)) (fun _ _ _ _=>(bF 1 (show List.Nodup ((["_law_ahead"]:List Str)++(["_law_one"]:List Str)) by decide +kernel))) (fun _ _ _ _=>(fZ (dW (Jz hu) (aj 1) (aj 0) (by with_unfolding_all rfl)))) (fun _ _ _ _=>(aj 1)) (eF)) (jk ["_law_one"] (iH (xs:=["_law_ahead"]) (is:=[7]) (by with_unfolding_all rfl) rfl (by decide +kernel) (by decide +kernel) (by exact⟨rfl,trivial⟩) (by rfl) (by exact (fK rfl (by first|exact .inl rfl|exact .inr rfl) (by first|exact .inl rfl|exact .inr rfl) ⟨_,rfl⟩ iG))) rfl (iz (cR (aj 1) aB)) (fun _ _ _ _=>(bF 1 (show List.Nodup ((["_law_ahead"]:List Str)++(["_law_one"]:List Str)) by decide +kernel))) (fun _ _ _ _=>(fZ (dW (Jz hu) (aj 1) (aj 0) (by with_unfolding_all rfl)))) (fun _ _ _ _=>(aj 1)) (eF)) (fY _))) bM)))))
theorem Wy:fB ["_law_script", "_law_xs", "_law_ground_here", "_law_told", "_law_barred", "_law_beside", "_law_left_out"] ["_law_script"] (aW yM):=⟨rfl,rfl,rfl,by decide +kernel,rfl,by decide +kernel,by decide +kernel⟩
theorem ac0 (t:T K mg cH bZ bw bf cg bV bO bI bQ bJ bG bB bR bK bH bC bT bL bD bh cj bW aP aK aJ aH aV aQ kj iY) (jz:fG P w K mg base nC 1 cH bZ ["_law_script", "_law_k"] (qx K 2 gO)) (lF:fG P w K mg base nC 4 aP aK ["_law_ground_here", "_law_told", "_law_many"] (qx K 3 dI)) (rT:fG P w K mg base nC 2 bO bI ["_law_script", "_law_at", "_law_many", "_law_reasons", "_law_bars"] (qx K 5 gU)) (mC:fG P w K mg base nC 4 aV aQ ["_law_ground_here", "_law_told", "_law_reason"] (qx K 3 dY)) (gA:fG P w K mg base nC 1 bw bf ["_law_cell_here", "_law_many"] (qx K 2 dM)) (jV:fG P w K mg base nC 4 aJ aH ["_law_ground_here", "_law_told", "_law_left_out"] (qx K 3 dD)) (dR:fG P w K mg base nC 3 bD bh ["ground"] (qx K 1 cU)):fG P w K mg base nC 5 kj iY ["_law_script"] (qx K 1 pY):=by
 unfold pY
 refine yp (k:=4) (g:=QM) t.pY Wy rfl rfl fun cdv A outer s H E hr=>?_
 have hu:=iU hr
 have nd:=Wy.nd
 exact (aA (cN 1 nd (fD gA (hr.mono (by decide)) rfl t.mO t.mQ t.mL (ak (jl (fD jz (hr.mono (by decide)) rfl t.rN t.rO t.rM (ak (aj 0) (ak aB aF)))) (ak aB aF)))) (aA (cN 2 nd (fD rT (hr.mono (by decide)) rfl t.JQ t.JR t.JN (ak (aj 0) (ak aB (ak (cD fM (cR (aj 1) aB) aB) (ak (cD fM (cR (aj 1) aB) aB) (ak (cD fM (cR (aj 1) aB) aB) aF))))))) (aA (cN 3 nd (fD dR (hr.mono (by decide)) rfl t.oN t.oO t.oM (ak (aj 2) aF))) (aA (o7 (Vg (Vh (fH (U8 rfl) rfl t.HY U3 (ak (jk ["_law_many"] (iH (xs:=["_law_ground_here", "_law_told"]) (is:=[2,3]) (by with_unfolding_all rfl) rfl (by decide +kernel) (by decide +kernel) (by exact⟨rfl,⟨rfl,trivial⟩⟩) (by rfl) (by exact (fK rfl (by first|exact .inl rfl|exact .inr rfl) (by first|exact .inl rfl|exact .inr rfl) ⟨_,rfl⟩ (fK rfl (by first|exact .inl rfl|exact .inr rfl) (by first|exact .inl rfl|exact .inr rfl) ⟨_,rfl⟩ iG)))) rfl (Vj (qC rfl t.mR (ak (cD gJ (fH Oa rfl t.DX N7 (ak (cR (aj 2) aB) aF)) aB) aF))) (fun _ _ _ _=>(bF 2 (show List.Nodup ((["_law_ground_here", "_law_told"]:List Str)++(["_law_many"]:List Str)) by decide +kernel))) (fun _ _ _ _=>jy) (fun _ _ _ _=>(jl (fD lF (hr.mono (by decide)) rfl t.yO t.yP t.yN (ak (aj 0) (ak (aj 1) (ak (aj 2) aF)))))) (eF)) aF)))) (aA (iV Qf) bM) bM) (aA (cN 4 nd (jk ["_law_row"] (iH (xs:=[]) (is:=[]) (by with_unfolding_all rfl) rfl (by decide +kernel) (by decide +kernel) (by exact trivial) (by rfl) (by exact iG)) rfl (iz (cR (aj 3) aB)) (fun _ _ _ _=>(bF 0 (show List.Nodup (([]:List Str)++(["_law_row"]:List Str)) by decide +kernel))) (fun _ _ _ _=>jy) (fun _ _ _ _=>(cR (aj 0) aB)) (eF))) (aA (Jl 5 ["_law_reason"] (iH (xs:=["_law_barred", "_law_told"]) (is:=[4,3]) (by with_unfolding_all rfl) rfl (by decide +kernel) (by decide +kernel) (by exact⟨rfl,⟨rfl,trivial⟩⟩) (by rfl) (by exact (fK rfl (by first|exact .inl rfl|exact .inr rfl) (by first|exact .inl rfl|exact .inr rfl) ⟨_,rfl⟩ (fK rfl (by first|exact .inl rfl|exact .inr rfl) (by first|exact .inl rfl|exact .inr rfl) ⟨_,rfl⟩ iG)))) rfl nd (iz (cR (aj 2) aB)) (fun _ _ _ _=>(bF 2 (show List.Nodup ((["_law_barred", "_law_told"]:List Str)++(["_law_reason"]:List Str)) by decide +kernel))) (fun _ _ _ _=>(fZ (RX (Ji (dW (yE hu) (aj 2) (cR (aj 1) aB) (by with_unfolding_all rfl)) (CV (dW (yE hu) (aj 2) (aj 0) (by with_unfolding_all rfl))))))) (fun _ _ _ _=>(aj 2)) (eF)) (JB (i:=4) (JB (i:=5) (aA (w6 PassesOwn.never rfl (Jo (kZ (ak (aj 4) (ak (aj 5) (ak (jl (cD gJ (aj 4) (aj 5))) (ak (jl (uL (aj 5) jw (jx aB))) (ak (jl (uL (aj 4) (jx (aer abY aB)) jw)) aF))))))) (bF 6 nd) (cP [6] (aA (o7 (Vg (Vh (fD jV (hr.mono (by decide)) rfl t.wA t.wB t.wz (ak (aj 2) (ak (aj 3) (ak (aj 6) aF)))))) (aA (iV Qf) bM) bM) bM))) (aA (iV (fH (U8 rfl) rfl t.HY U3 (ak (jk ["_law_reason"] (iH (xs:=["_law_ground_here", "_law_told"]) (is:=[2,3]) (by with_unfolding_all rfl) rfl (by decide +kernel) (by decide +kernel) (by exact⟨rfl,⟨rfl,trivial⟩⟩) (by rfl) (by exact (fK rfl (by first|exact .inl rfl|exact .inr rfl) (by first|exact .inl rfl|exact .inr rfl) ⟨_,rfl⟩ (fK rfl (by first|exact .inl rfl|exact .inr rfl) (by first|exact .inl rfl|exact .inr rfl) ⟨_,rfl⟩ iG)))) rfl (iz (cR (aj 2) aB)) (fun _ _ _ _=>(bF 2 (show List.Nodup ((["_law_ground_here", "_law_told"]:List Str)++(["_law_reason"]:List Str)) by decide +kernel))) (fun _ _ _ _=>jy) (fun _ _ _ _=>(jl (fD mC (hr.mono (by decide)) rfl t.zP t.zQ t.zO (ak (aj 0) (ak (aj 1) (ak (aj 2) aF)))))) (eF)) aF))) bM))))))))))
end
theorem all_mk {l:PySem.W.OpenLaw} {w:World} {K:PySem.W.Frag} {h:Heap} {mg:Str->Option Value} {fa:Addr} {f0:Addr} {od0 an0:Option Addr} {sl0:Array (Option Value)} {oc0 kV0 dc0 pm0 cd0 ct0:Value} {f1:Addr} {od1 an1:Option Addr} {sl1:Array (Option Value)} {oc1 kV1 dc1 pm1 cd1 ct1:Value} {f2:Addr} {od2 an2:Option Addr} {sl2:Array (Option Value)} {oc2 kV2 dc2 pm2 cd2 ct2:Value} {f3:Addr} {od3 an3:Option Addr} {sl3:Array (Option Value)} {oc3 kV3 dc3 pm3 cd3 ct3:Value} {f4:Addr} {od4 an4:Option Addr} {sl4:Array (Option Value)} {oc4 kV4 dc4 pm4 cd4 ct4:Value} {f5:Addr} {od5 an5:Option Addr} {sl5:Array (Option Value)} {oc5 kV5 dc5 pm5 cd5 ct5:Value} {f6:Addr} {od6 an6:Option Addr} {sl6:Array (Option Value)} {oc6 kV6 dc6 pm6 cd6 ct6:Value} {f7:Addr} {od7 an7:Option Addr} {sl7:Array (Option Value)} {oc7 kV7 dc7 pm7 cd7 ct7:Value} {f8:Addr} {od8 an8:Option Addr} {sl8:Array (Option Value)} {oc8 kV8 dc8 pm8 cd8 ct8:Value} {f9:Addr} {od9 an9:Option Addr} {sl9:Array (Option Value)} {oc9 kV9 dc9 pm9 cd9 ct9:Value} {f10:Addr} {agt agu:Option Addr} {agv:Array (Option Value)} {agw agx agy agz aeQ agA:Value} {f11:Addr} {agB agC:Option Addr} {agD:Array (Option Value)} {agE agF agG agH aeR agI:Value} {f12:Addr} {agK agL:Option Addr} {agM:Array (Option Value)} {agN agO agP agQ aeS agR:Value} {f13:Addr} {agT agU:Option Addr} {agV:Array (Option Value)} {agW agX agY agZ aeT ag0:Value} {f14:Addr} {ag2 aeU:Option Addr} {ag3:Array (Option Value)} {ag4 aeV aeW aeX ac1 aeY:Value} (X:K.In h) (G:h.Ns mainGlobals mg) (hfa:mg "law" = some (.ref fa))
  (a0:PySem.W.nsIn K mainGlobals "_law_cell" = some (some (.ref f0))) (l0:K.lookup f0=some ⟨oc0,od0,.func (PySem.W.fnOf "_law_cell" "_law_cell" (fU mj) (dO mj) (aW mj) .none kV0 dc0 pm0 an0 cd0 ct0),sl0⟩) (c0:PySem.W.codeIn K cd0 "_law_cell" = true) (k0:PySem.W.keepIn K (.ref f0)=true)
  (a1:PySem.W.nsIn K mainGlobals "_law_numbers" = some (some (.ref f1))) (l1:K.lookup f1=some ⟨oc1,od1,.func (PySem.W.fnOf "_law_numbers" "_law_numbers" (fU jd) (dO jd) (aW jd) .none kV1 dc1 pm1 an1 cd1 ct1),sl1⟩) (c1:PySem.W.codeIn K cd1 "_law_numbers" = true) (k1:PySem.W.keepIn K (.ref f1)=true)
  (a2:PySem.W.nsIn K mainGlobals "_law_names" = some (some (.ref f2))) (l2:K.lookup f2=some ⟨oc2,od2,.func (PySem.W.fnOf "_law_names" "_law_names" (fU j9) (dO j9) (aW j9) .none kV2 dc2 pm2 an2 cd2 ct2),sl2⟩) (c2:PySem.W.codeIn K cd2 "_law_names" = true) (k2:PySem.W.keepIn K (.ref f2)=true)
  (a3:PySem.W.nsIn K mainGlobals "_law_ground" = some (some (.ref f3))) (l3:K.lookup f3=some ⟨oc3,od3,.func (PySem.W.fnOf "_law_ground" "_law_ground" (fU jH) (dO jH) (aW jH) .none kV3 dc3 pm3 an3 cd3 ct3),sl3⟩) (c3:PySem.W.codeIn K cd3 "_law_ground" = true) (k3:PySem.W.keepIn K (.ref f3)=true)
  (a4:PySem.W.nsIn K mainGlobals "lone_heads" = some (some (.ref f4))) (l4:K.lookup f4=some ⟨oc4,od4,.func (PySem.W.fnOf "lone_heads" "lone_heads" (fU jJ) (dO jJ) (aW jJ) .none kV4 dc4 pm4 an4 cd4 ct4),sl4⟩) (c4:PySem.W.codeIn K cd4 "lone_heads" = true) (k4:PySem.W.keepIn K (.ref f4)=true)
  (a5:PySem.W.nsIn K mainGlobals "bar_between" = some (some (.ref f5))) (l5:K.lookup f5=some ⟨oc5,od5,.func (PySem.W.fnOf "bar_between" "bar_between" (fU je) (dO je) (aW je) .none kV5 dc5 pm5 an5 cd5 ct5),sl5⟩) (c5:PySem.W.codeIn K cd5 "bar_between" = true) (k5:PySem.W.keepIn K (.ref f5)=true)
  (a6:PySem.W.nsIn K mainGlobals "join_heads" = some (some (.ref f6))) (l6:K.lookup f6=some ⟨oc6,od6,.func (PySem.W.fnOf "join_heads" "join_heads" (fU jK) (dO jK) (aW jK) .none kV6 dc6 pm6 an6 cd6 ct6),sl6⟩) (c6:PySem.W.codeIn K cd6 "join_heads" = true) (k6:PySem.W.keepIn K (.ref f6)=true)
  (a7:PySem.W.nsIn K mainGlobals "names_under" = some (some (.ref f7))) (l7:K.lookup f7=some ⟨oc7,od7,.func (PySem.W.fnOf "names_under" "names_under" (fU jf) (dO jf) (aW jf) .none kV7 dc7 pm7 an7 cd7 ct7),sl7⟩) (c7:PySem.W.codeIn K cd7 "names_under" = true) (k7:PySem.W.keepIn K (.ref f7)=true)
  (a8:PySem.W.nsIn K mainGlobals "sets_under" = some (some (.ref f8))) (l8:K.lookup f8=some ⟨oc8,od8,.func (PySem.W.fnOf "sets_under" "sets_under" (fU jL) (dO jL) (aW jL) .none kV8 dc8 pm8 an8 cd8 ct8),sl8⟩) (c8:PySem.W.codeIn K cd8 "sets_under" = true) (k8:PySem.W.keepIn K (.ref f8)=true)
  (a9:PySem.W.nsIn K mainGlobals "joining_of" = some (some (.ref f9))) (l9:K.lookup f9=some ⟨oc9,od9,.func (PySem.W.fnOf "joining_of" "joining_of" (fU jM) (dO jM) (aW jM) .none kV9 dc9 pm9 an9 cd9 ct9),sl9⟩) (c9:PySem.W.codeIn K cd9 "joining_of" = true) (k9:PySem.W.keepIn K (.ref f9)=true)
  (a10:PySem.W.nsIn K mainGlobals "_law_parts" = some (some (.ref f10))) (l10:K.lookup f10=some ⟨agw,agt,.func (PySem.W.fnOf "_law_parts" "_law_parts" (fU kh) (dO kh) (aW kh) .none agx agy agz agu aeQ agA),agv⟩) (c10:PySem.W.codeIn K aeQ "_law_parts" = true) (k10:PySem.W.keepIn K (.ref f10)=true)
  (a11:PySem.W.nsIn K mainGlobals "_law_first_right" = some (some (.ref f11))) (l11:K.lookup f11=some ⟨agE,agB,.func (PySem.W.fnOf "_law_first_right" "_law_first_right" (fU fW) (dO fW) (aW fW) .none agF agG agH agC aeR agI),agD⟩) (c11:PySem.W.codeIn K aeR "_law_first_right" = true) (k11:PySem.W.keepIn K (.ref f11)=true)
  (a12:PySem.W.nsIn K mainGlobals "_law_without_right" = some (some (.ref f12))) (l12:K.lookup f12=some ⟨agN,agK,.func (PySem.W.fnOf "_law_without_right" "_law_without_right" (fU eX) (dO eX) (aW eX) .none agO agP agQ agL aeS agR),agM⟩) (c12:PySem.W.codeIn K aeS "_law_without_right" = true) (k12:PySem.W.keepIn K (.ref f12)=true)
  (a13:PySem.W.nsIn K mainGlobals "_law_less_right" = some (some (.ref f13))) (l13:K.lookup f13=some ⟨agW,agT,.func (PySem.W.fnOf "_law_less_right" "_law_less_right" (fU gB) (dO gB) (aW gB) .none agX agY agZ agU aeT ag0),agV⟩) (c13:PySem.W.codeIn K aeT "_law_less_right" = true) (k13:PySem.W.keepIn K (.ref f13)=true)
  (a14:PySem.W.nsIn K mainGlobals "law" = some (some (.ref f14))) (l14:K.lookup f14=some ⟨ag4,ag2,.func (PySem.W.fnOf "law" "law" (fU yM) (dO yM) (aW yM) .none aeV aeW aeX aeU ac1 aeY),ag3⟩) (c14:PySem.W.codeIn K ac1 "law" = true) (k14:PySem.W.keepIn K (.ref f14)=true)
  (Mw:PySem.W.nsIn K mainGlobals "abs" = some none)
  (HY:PySem.W.nsIn K mainGlobals "all" = some none)
  (Mx:PySem.W.nsIn K mainGlobals "int" = some none)
  (DX:PySem.W.nsIn K mainGlobals "len" = some none)
  (DY:PySem.W.nsIn K mainGlobals "list" = some none)
  (wI:PySem.W.nsIn K mainGlobals "max" = some none)
  (Ea:PySem.W.nsIn K mainGlobals "min" = some none)
  (mR:PySem.W.nsIn K mainGlobals "range" = some none)
  (Ia:PySem.W.nsIn K mainGlobals "set" = some none)
  (lC:PySem.W.nsIn K mainGlobals "sorted" = some none)
  (lD:PySem.W.nsIn K mainGlobals "tuple" = some none) :
  ∃ fd:FuncData,(∀ (s:Shared) (v:Value),BindsTo s fd ⟨[v],[]⟩ [("_law_script", v)])/\∀ base:Heap,K.In base->base.Ns mainGlobals mg->fG l.prog w K mg base nC 5 fa fd ["_law_script"] (qx K 1 pY):=by
 have e:=hfa.symm.trans (PySem.W.mg_of X G a14)
 cases e
 have F0:=j7 (st:=mj) l0 c0 k0
 have b0:=F0.binds (ps:=["_law_script", "_law_k"]) fun _ _ _ _ _ _ us hl=>match us,hl with|[_,_],_=>rfl
 have F1:=j7 (st:=jd) l1 c1 k1
 have b1:=F1.binds (ps:=["_law_cell_here", "_law_many"]) fun _ _ _ _ _ _ us hl=>match us,hl with|[_,_],_=>rfl
 have F2:=j7 (st:=j9) l2 c2 k2
 have b2:=F2.binds (ps:=["_law_xs", "_law_many"]) fun _ _ _ _ _ _ us hl=>match us,hl with|[_,_],_=>rfl
 have F3:=j7 (st:=jH) l3 c3 k3
 have b3:=F3.binds (ps:=["_law_script", "_law_at", "_law_many", "_law_reasons", "_law_bars"]) fun _ _ _ _ _ _ us hl=>match us,hl with|[_,_,_,_,_],_=>rfl
 have F4:=j7 (st:=jJ) l4 c4 k4
 have b4:=F4.binds (ps:=["names"]) fun _ _ _ _ _ _ us hl=>match us,hl with|[_],_=>rfl
 have F5:=j7 (st:=je) l5 c5 k5
 have b5:=F5.binds (ps:=["bars", "heads", "one", "other"]) fun _ _ _ _ _ _ us hl=>match us,hl with|[_,_,_,_],_=>rfl
 have F6:=j7 (st:=jK) l6 c6 k6
 have b6:=F6.binds (ps:=["heads", "one", "other"]) fun _ _ _ _ _ _ us hl=>match us,hl with|[_,_,_],_=>rfl
 have F7:=j7 (st:=jf) l7 c7 k7
 have b7:=F7.binds (ps:=["heads", "head"]) fun _ _ _ _ _ _ us hl=>match us,hl with|[_,_],_=>rfl
 have F8:=j7 (st:=jL) l8 c8 k8
 have b8:=F8.binds (ps:=["heads"]) fun _ _ _ _ _ _ us hl=>match us,hl with|[_],_=>rfl
 have F9:=j7 (st:=jM) l9 c9 k9
 have b9:=F9.binds (ps:=["ground"]) fun _ _ _ _ _ _ us hl=>match us,hl with|[_],_=>rfl
 have F10:=j7 (st:=kh) l10 c10 k10
 have b10:=F10.binds (ps:=["_law_names_here", "_law_reasons"]) fun _ _ _ _ _ _ us hl=>match us,hl with|[_,_],_=>rfl
 have F11:=j7 (st:=fW) l11 c11 k11
 have b11:=F11.binds (ps:=["_law_ground_here", "_law_told", "_law_many"]) fun _ _ _ _ _ _ us hl=>match us,hl with|[_,_,_],_=>rfl
 have F12:=j7 (st:=eX) l12 c12 k12
 have b12:=F12.binds (ps:=["_law_ground_here", "_law_told", "_law_left_out"]) fun _ _ _ _ _ _ us hl=>match us,hl with|[_,_,_],_=>rfl
 have F13:=j7 (st:=gB) l13 c13 k13
 have b13:=F13.binds (ps:=["_law_ground_here", "_law_told", "_law_reason"]) fun _ _ _ _ _ _ us hl=>match us,hl with|[_,_,_],_=>rfl
 have F14:=j7 (st:=yM) l14 c14 k14
 have b14:=F14.binds (ps:=["_law_script"]) fun _ _ _ _ _ _ us hl=>match us,hl with|[_],_=>rfl
 have t:T K mg _ _ _ _ _ _ _ _ _ _ _ _ _ _ _ _ _ _ _ _ _ _ _ _ _ _ _ _ _ _:=⟨F0,b0,PySem.W.mg_of X G a0,k0,F1,b1,PySem.W.mg_of X G a1,k1,F2,b2,PySem.W.mg_of X G a2,k2,F3,b3,PySem.W.mg_of X G a3,k3,F4,b4,PySem.W.mg_of X G a4,k4,F5,b5,PySem.W.mg_of X G a5,k5,F6,b6,PySem.W.mg_of X G a6,k6,F7,b7,PySem.W.mg_of X G a7,k7,F8,b8,PySem.W.mg_of X G a8,k8,F9,b9,PySem.W.mg_of X G a9,k9,F10,b10,PySem.W.mg_of X G a10,k10,F11,b11,PySem.W.mg_of X G a11,k11,F12,b12,PySem.W.mg_of X G a12,k12,F13,b13,PySem.W.mg_of X G a13,k13,F14,b14,PySem.W.mg_of X G a14,k14,PySem.W.mg_none_of X G Mw,PySem.W.mg_none_of X G HY,PySem.W.mg_none_of X G Mx,PySem.W.mg_none_of X G DX,PySem.W.mg_none_of X G DY,PySem.W.mg_none_of X G wI,PySem.W.mg_none_of X G Ea,PySem.W.mg_none_of X G mR,PySem.W.mg_none_of X G Ia,PySem.W.mg_none_of X G lC,PySem.W.mg_none_of X G lD⟩
 refine⟨PySem.W.fnOf "law" "law" (fU yM) (dO yM) (aW yM) .none aeV aeW aeX aeU ac1 aeY,fun s v=>.of_eq rfl,fun base _ _=>?_⟩
 have jz:=Mz (P:=l.prog) (w:=w) (base:=base) t
 have gA:=Eb (P:=l.prog) (w:=w) (base:=base) t
 have uX:=J4 (P:=l.prog) (w:=w) (base:=base) t
 have rT:=Gj (P:=l.prog) (w:=w) (base:=base) t jz uX gA
 have rQ:=Gk (P:=l.prog) (w:=w) (base:=base) t
 have qe:=Ed (P:=l.prog) (w:=w) (base:=base) t
 have rP:=Gm (P:=l.prog) (w:=w) (base:=base) t
 have qd:=Ef (P:=l.prog) (w:=w) (base:=base) t
 have rR:=Gn (P:=l.prog) (w:=w) (base:=base) t qd
 have dR:=Gp (P:=l.prog) (w:=w) (base:=base) t qe rP rQ rR
 have u0:=J5 (P:=l.prog) (w:=w) (base:=base) t
 have lF:=xG (P:=l.prog) (w:=w) (base:=base) t u0 dR
 have jV:=u5 (P:=l.prog) (w:=w) (base:=base) t dR
 have mC:=yS (P:=l.prog) (w:=w) (base:=base) t dR
 have aeZ:=ac0 (P:=l.prog) (w:=w) (base:=base) t jz lF rT mC gA jV dR
 exact aeZ
theorem walk {l:PySem.W.OpenLaw} {q:Program} {loose:List Str} {XP:(Str->Option Value)->Heap->Prop} {YP:World->Heap->Prop} {d:DefRec} {K:Params->PySem.W.Frag} (hn:l.most=some 63) (hdf:d.params.defaults=[])
  (h1:∀ ns:List Int,ns.length<=63->pY [.z (.lst (ns.map .int))]=some (.z (.bl true))) (h2:∀ ns:List Int,ns.length<=63->pY [.l (ns.map .int)]=some (.z (.bl true)))
  (hY:∀ (w:World) (h:Heap),YP w h->(K w.params).In h)
  (F:∀ (w:World) (mg:Str->Option Value) (fa:Addr) (h:Heap),(K w.params).In h->h.Ns mainGlobals mg->mg d.name=some (.ref fa) →
   ∃ fd:FuncData,(∀ (s:Shared) (u:Value),BindsTo s fd ⟨[u],[]⟩ [("_law_script", u)])/\∀ base:Heap,(K w.params).In base->base.Ns mainGlobals mg->fG l.prog w (K w.params) mg base nC 5 fa fd ["_law_script"] (qx (K w.params) 1 pY)) :
  PySem.W.WalkO q loose XP YP l.row.toRowW d [] (fun f vs=>PySem.call f vs):=
 L2.Uc (n:=63) (k:=5) (x := "_law_script") (CX:=nC) (sp:=fun K=>qx K 1 pY) hn (by decide) hdf ⟨rfl,by decide,by decide⟩ hY F (fun K H a ns hl hO hS=>ab8 h1 h2 K H a ns hl hO hS) fun _ _ _ _ z=>z
noncomputable section
def wO  (v3:Int) (v4:Int):Int:=(let v3:=(((v3 * (69621:Int))+v4) % (2147483647:Int));v3)
def Gq (v0:(List Int)) {d7:Bx} (gP:Lp d7 (v0.map eI)) (v2:Int) (v3:Int) (v4:Int):R wH [some d7,some ((zE eI) v2),some ((zE eI) v3),some ((zE eI) v4)] (fun s=>Out.nx ((fun v3:Int=>[some d7,some ((zE eI) v2),some ((zE eI) v3),none]) s)):=R.to (dG (dH 2 (R.to (ig (lV (Qy (aq 2 (zE eI) v3 rfl) 69621 (by decide)) (aq 3 (zE eI) v4 rfl)) 2147483647 (by decide)) ((((v3 * (69621:Int))+v4) % (2147483647:Int))) none) (fun _=>rfl) fun v3=>(fV (dh v3 rfl)))) (wO  v3 v4) (none)
def aY (v0:(List Int)) (v2:Int):Int:=(if (decide (v2 < (v0.length:Int)))=true then (at' v0 v2) else (let v3:=(((48271:Int) * (((v2 * v2)+((7:Int) * v2))+(11:Int))) % (2147483647:Int));(let v3:Int:=((cut v0 none (some (3:Int))).foldl (fun (v3:Int) (v4:Int)=>(wO  v3 v4)) v3);v3)))
def dF (v0:(List Int)) (v2:Int):Prop:=(((decide (v2 < (v0.length:Int)))=true->In v0.length v2)/\((decide (v2 < (v0.length:Int)))=false->Mul v2 v2))
def xH (v0:(List Int)) {d7:Bx} (gP:Lp d7 (v0.map eI)) (v2:Int):R rK [some d7,some ((zE eI) v2),none,none] (fun r=>Out.rt ((zE eI) r)):=(DN (R.to (gK (aam (aq 1 (zE eI) v2 rfl) (x_len (pP 0 eI v0 gP rfl)))) ((decide (v2 < (v0.length:Int)))) none) (dG (lB (fun r=>r) (R.to (lu (pP 0 eI v0 gP rfl) (aq 1 (zE eI) v2 rfl)) ((at' v0 v2)) (some (In v0.length v2))) (fun _=>rfl) fun _=>rfl)) (fV (dH 2 (R.to (ig (O5 48271 (by decide) (lV (lV (aal (aq 1 (zE eI) v2 rfl) (aq 1 (zE eI) v2 rfl)) (O5 7 (by decide) (aq 1 (zE eI) v2 rfl))) (cI (.int 11) eI (11:Int) rfl))) 2147483647 (by decide)) ((((48271:Int) * (((v2 * v2)+((7:Int) * v2))+(11:Int))) % (2147483647:Int))) (some (Mul v2 v2))) (fun _=>rfl) fun v3=>(acP (fun v3:Int=>[some d7,some ((zE eI) v2),some ((zE eI) v3),none]) v3 rfl (R.to (acO (acI (pP 0 eI v0 gP rfl) O6 (O7 (cI (.int 3) eI (3:Int) rfl)))) ((cut v0 none (some (3:Int)))) none) _ (fun _ _=>rfl) (fun (v3:Int) (v4:Int)=>(Gq v0 gP v2 v3 v4)) (fun _ _=>rfl) fun v3=>(lB (fun r=>r) (aq 2 (zE eI) v3 rfl) (fun _=>rfl) fun _=>rfl)))))
theorem MF (v0:(List Int)) {d7:Bx} (gP:Lp d7 (v0.map eI)) (v2:Int):(xH v0 gP v2).v=aY v0 v2:=by kernel_rfl
theorem MJ (v0:(List Int)) {d7:Bx} (gP:Lp d7 (v0.map eI)) (v2:Int):(xH v0 gP v2).D=some (dF v0 v2):=by kernel_rfl
theorem rW:∀ v bs,(aL eI (aZ eI aN)) v bs->bs.length=2/\(hold (some (dF v.1 v.2.1))->gO (bs.map lend)=some ((zE eI) (aY v.1 v.2.1))):=by
 rintro⟨v0,v2,_⟩ _ ⟨d7,_,rfl,gP,⟨_,rfl,rfl⟩⟩
 exact⟨rfl,fun h=>(lA (g:=rK) (n:=4) (bs:=[lend d7,.z (eI v2)]) (xH v0 (lR gP) v2) ((congrArg hold (MJ v0 (lR gP) v2)).mpr h)).trans (congrArg (fun r=>some ((zE eI) r)) (MF v0 (lR gP) v2))⟩
def dj  (s1:Int×(List Int)×Int) (v2:Int):Int×(List Int)×Int:=(let v3:=((((s1.1 * ((s1.1 % (65521:Int))+(40487:Int)))+((7:Int) * v2))+(5:Int)) % (1999999973:Int));(let v6:=s1.2.1++[(at' [v3,(s1.2.2 % (1000000:Int))] (if (decide ((0:Int) < s1.2.2))=true then (1:Int) else 0))];(let v7:=(s1.2.2 / (1000000:Int));(v3,v6,v7))))
def jO  (s1:Int×(List Int)×Int) (v2:Int):Prop:=(Mul s1.1 ((s1.1 % (65521:Int))+(40487:Int))/\(let v3:=((((s1.1 * ((s1.1 % (65521:Int))+(40487:Int)))+((7:Int) * v2))+(5:Int)) % (1999999973:Int));(In [v3,(s1.2.2 % (1000000:Int))].length (if (decide ((0:Int) < s1.2.2))=true then (1:Int) else 0)/\HD s1.2.1.length)))
def zR (v4:Int) (v5:Int) (s1:Int×(List Int)×Int) (v2:Int):R mz [some ((zE eI) v4),some ((zE eI) v5),some ((oE eI) s1.2.1),some ((zE eI) s1.1),some ((zE eI) s1.2.2),some ((zE eI) v2)] (fun s=>Out.nx ((fun s1:Int×(List Int)×Int=>[some ((zE eI) v4),some ((zE eI) v5),some ((oE eI) s1.2.1),some ((zE eI) s1.1),some ((zE eI) s1.2.2),none]) s)):=R.to (dG (dH 3 (R.to (ig (lV (lV (aal (aq 3 (zE eI) s1.1 rfl) (lV (ig (aq 3 (zE eI) s1.1 rfl) 65521 (by decide)) (cI (.int 40487) eI (40487:Int) rfl))) (O5 7 (by decide) (aq 5 (zE eI) v2 rfl))) (cI (.int 5) eI (5:Int) rfl)) 1999999973 (by decide)) (((((s1.1 * ((s1.1 % (65521:Int))+(40487:Int)))+((7:Int) * v2))+(5:Int)) % (1999999973:Int))) (some (Mul s1.1 ((s1.1 % (65521:Int))+(40487:Int))))) (fun _=>rfl) fun v3=>(dG (HS 2 s1.2.1 rfl (R.to (lu (nG (pR (gk (aq 3 (zE eI) v3 rfl) (gk (ig (aq 4 (zE eI) s1.2.2 rfl) 1000000 (by decide)) (lq eI))) (Nat.le_of_ble_eq_true rfl))) (acM (agp (aq 4 (zE eI) s1.2.2 rfl) (cI (.int 0) eI (0:Int) rfl)))) ((at' [v3,(s1.2.2 % (1000000:Int))] (if (decide ((0:Int) < s1.2.2))=true then (1:Int) else 0))) (some (In [v3,(s1.2.2 % (1000000:Int))].length (if (decide ((0:Int) < s1.2.2))=true then (1:Int) else 0)))) fun v6=>(dG (dH 4 (R.to (JD (aq 4 (zE eI) s1.2.2 rfl) 1000000 (by decide)) ((s1.2.2 / (1000000:Int))) none) (fun _=>rfl) fun v7=>(fV (dh (v3,v6,v7) rfl)))))))) (dj  s1 v2) (some (jO  s1 v2))
def qI (v4:Int) (v5:Int) (v6:(List Int)) (v3:Int) (v7:Int):(List Int):=v6
def qJ:Ev->Option Out:=(aD (FP 2) jD)
def zT (v4:Int) (v5:Int) (v6:(List Int)) (v3:Int) (v7:Int):R qJ [some ((zE eI) v4),some ((zE eI) v5),some ((oE eI) v6),some ((zE eI) v3),some ((zE eI) v7),none] (fun r=>Out.rt ((oE eI) r)):=R.to (Wj 2 (fun r=>r) v6 rfl (fun _=>rfl) fun _=>rfl) (qI v4 v5 v6 v3 v7) (none)
def jP (v4:Int) (v5:Int) (v6:(List Int)) (v3:Int) (v7:Int):(List Int):=(let s1:Int×(List Int)×Int:=((rng 0 v5.toNat).foldl (fun (s1:Int×(List Int)×Int) (v2:Int)=>(dj  s1 v2)) (v3,v6,v7));(qI v4 v5 s1.2.1 s1.1 s1.2.2))
def mD (v4:Int) (v5:Int) (v6:(List Int)) (v3:Int) (v7:Int):Prop:=(Rg v5/\uT (fun (s1:Int×(List Int)×Int) (v2:Int)=>(dj  s1 v2)) (fun (s1:Int×(List Int)×Int) (v2:Int)=>some (jO  s1 v2)) (rng 0 v5.toNat) (v3,v6,v7))
def qK:Ev->Option Out:=(aD (qz (Qd (ao (gv 1) aR)) (jX 5) mz) qJ)
def zU (v4:Int) (v5:Int) (v6:(List Int)) (v3:Int) (v7:Int):R qK [some ((zE eI) v4),some ((zE eI) v5),some ((oE eI) v6),some ((zE eI) v3),some ((zE eI) v7),none] (fun r=>Out.rt ((oE eI) r)):=R.to (Mh (fun s1:Int×(List Int)×Int=>[some ((zE eI) v4),some ((zE eI) v5),some ((oE eI) s1.2.1),some ((zE eI) s1.1),some ((zE eI) s1.2.2),none]) (v3,v6,v7) rfl (R.to (HN (aq 1 (zE eI) v5 rfl)) ((rng 0 v5.toNat)) (some (Rg v5))) _ (fun _ _=>rfl) (fun (s1:Int×(List Int)×Int) (v2:Int)=>(zR v4 v5 s1 v2)) fun s1=>(zT v4 v5 s1.2.1 s1.1 s1.2.2)) (jP v4 v5 v6 v3 v7) (some (mD v4 v5 v6 v3 v7))
def qL (v4:Int) (v5:Int) (v6:(List Int)) (v3:Int) (v7:Int):(List Int):=(let v7:Int:=(if ((decide (v4 < (0:Int)))||(decide (((10:Int) ^ 18)<=v4)))=true then (let v7:=(if v4 < 0 then -v4 else v4);v7) else v7);(jP v4 v5 v6 v3 v7))
def qM (v4:Int) (v5:Int) (v6:(List Int)) (v3:Int) (v7:Int):Prop:=(let v7:Int:=(if ((decide (v4 < (0:Int)))||(decide (((10:Int) ^ 18)<=v4)))=true then (let v7:=(if v4 < 0 then -v4 else v4);v7) else v7);(mD v4 v5 v6 v3 v7))
def qN:Ev->Option Out:=(aD (Aa (XQ (qy ltA (gv 0) (cB (.int 0))) (qy geB (gv 0) (b2 Yq (cB (.int 10)) (cB (.int 18))))) (aD (aD (setG 4 (fJ RK (ao (gv 0) aR))) jD) (gw [])) (aD jD (gw []))) qK)
def zV (v4:Int) (v5:Int) (v6:(List Int)) (v3:Int) (v7:Int):R qN [some ((zE eI) v4),some ((zE eI) v5),some ((oE eI) v6),some ((zE eI) v3),some ((zE eI) v7),none] (fun r=>Out.rt ((oE eI) r)):=R.to (Ai (fun v7:Int=>[some ((zE eI) v4),some ((zE eI) v5),some ((oE eI) v6),some ((zE eI) v3),some ((zE eI) v7),none]) (R.to (acE (gK (aam (aq 0 (zE eI) v4 rfl) (cI (.int 0) eI (0:Int) rfl))) (gK (x_ge (aq 0 (zE eI) v4 rfl) (acD 10 18 18 (by decide) rfl)))) (((decide (v4 < (0:Int)))||(decide (((10:Int) ^ 18)<=v4)))) none) (dG (dH 4 (R.to (aeM (aq 0 (zE eI) v4 rfl)) ((if v4 < 0 then -v4 else v4)) none) (fun _=>rfl) fun v7=>(fV (dh v7 rfl)))) (fV (dh v7 rfl)) fun v7=>(zU v4 v5 v6 v3 v7)) (qL v4 v5 v6 v3 v7) (some (qM v4 v5 v6 v3 v7))
def qO (v4:Int) (v5:Int) (v6:(List Int)) (v3:Int):(List Int):=(let v7:=(0:Int);(qL v4 v5 v6 v3 v7))
def qP (v4:Int) (v5:Int) (v6:(List Int)) (v3:Int):Prop:=(let v7:=(0:Int);(qM v4 v5 v6 v3 v7))
def qQ:Ev->Option Out:=(aD (setG 4 (cB (.int 0))) qN)
def zW (v4:Int) (v5:Int) (v6:(List Int)) (v3:Int):R qQ [some ((zE eI) v4),some ((zE eI) v5),some ((oE eI) v6),some ((zE eI) v3),none,none] (fun r=>Out.rt ((oE eI) r)):=R.to (dH 4 (R.to (cI (.int 0) eI (0:Int) rfl) ((0:Int)) none) (fun _=>rfl) fun v7=>(zV v4 v5 v6 v3 v7)) (qO v4 v5 v6 v3) (some (qP v4 v5 v6 v3))
def qR (v4:Int) (v5:Int) (v6:(List Int)):(List Int):=(let v3:=((((v4 % (1999999973:Int))+(31:Int)) * (765432101:Int)) % (1999999973:Int));(qO v4 v5 v6 v3))
def qT (v4:Int) (v5:Int) (v6:(List Int)):Prop:=(let v3:=((((v4 % (1999999973:Int))+(31:Int)) * (765432101:Int)) % (1999999973:Int));(qP v4 v5 v6 v3))
def zX:Ev->Option Out:=(aD (setG 3 (b2 jg (b2 wX (b2 jt (b2 jg (gv 0) (cB (.int 1999999973))) (cB (.int 31))) (cB (.int 765432101))) (cB (.int 1999999973)))) qQ)
def zY (v4:Int) (v5:Int) (v6:(List Int)):R zX [some ((zE eI) v4),some ((zE eI) v5),some ((oE eI) v6),none,none,none] (fun r=>Out.rt ((oE eI) r)):=R.to (dH 3 (R.to (ig (Qy (lV (ig (aq 0 (zE eI) v4 rfl) 1999999973 (by decide)) (cI (.int 31) eI (31:Int) rfl)) 765432101 (by decide)) 1999999973 (by decide)) (((((v4 % (1999999973:Int))+(31:Int)) * (765432101:Int)) % (1999999973:Int))) none) (fun _=>rfl) fun v3=>(zW v4 v5 v6 v3)) (qR v4 v5 v6) (some (qT v4 v5 v6))
def bA (v4:Int) (v5:Int):(List Int):=(let v6:=([]:List Int);(qR v4 v5 v6))
def dN (v4:Int) (v5:Int):Prop:=(let v6:=([]:List Int);(qT v4 v5 v6))
def qg (v4:Int) (v5:Int):R mH [some ((zE eI) v4),some ((zE eI) v5),none,none,none,none] (fun r=>Out.rt ((oE eI) r)):=(dH 2 (R.to (pR (lq eI) (Nat.le_of_ble_eq_true rfl)) (([]:List Int)) none) (fun _=>rfl) fun v6=>(zY v4 v5 v6))
theorem Eh (v4:Int) (v5:Int):(qg v4 v5).v=bA v4 v5:=by kernel_rfl
theorem Ei (v4:Int) (v5:Int):(qg v4 v5).D=some (dN v4 v5):=by kernel_rfl
theorem mU:∀ v bs,(aZ eI (aZ eI aN)) v bs->bs.length=2/\(hold (some (dN v.1 v.2.1))->dM (bs.map lend)=some ((oE eI) (bA v.1 v.2.1))):=by
 rintro⟨v4,v5,_⟩ _ ⟨_,rfl,⟨_,rfl,rfl⟩⟩
 exact⟨rfl,fun h=>(lA (g:=mH) (n:=6) (bs:=[.z (eI v4),.z (eI v5)]) (qg v4 v5) ((congrArg hold (Ei v4 v5)).mpr h)).trans (congrArg (fun r=>some ((oE eI) r)) (Eh v4 v5))⟩
def gQ (v1:(List Int)) (ve:Str) (vf:Str) (v9:Int) (v6:(List Str)) (v2:Int):(List Str):=(let vg:=(ch ve ((v2+(at' v1 (2:Int))) % (15:Int)));(let vh:=(((Txt.slice vf none (some v9))++vg)++(Txt.slice vf (some v9) none));(let vh:Str:=(if (decide (((at' v1 (3:Int)) % (3:Int))=(1:Int)))=true then (let vh:=(Txt.mul (ch ve (v2 / (8:Int))) ((1:Int)+(v2 % (8:Int))));vh) else vh);(let v6:=v6++[vh];v6))))
def lG (v1:(List Int)) (ve:Str) (vf:Str) (v9:Int) (v6:(List Str)) (v2:Int):Prop:=((In v1.length (2:Int)/\In ve.length ((v2+(at' v1 (2:Int))) % (15:Int)))/\(let vg:=(ch ve ((v2+(at' v1 (2:Int))) % (15:Int)));((HD ((Txt.slice vf none (some v9)).length+vg.length)/\HD (((Txt.slice vf none (some v9))++vg).length+(Txt.slice vf (some v9) none).length))/\(let vh:=(((Txt.slice vf none (some v9))++vg)++(Txt.slice vf (some v9) none));((In v1.length (3:Int)/\((decide (((at' v1 (3:Int)) % (3:Int))=(1:Int)))=true->(In ve.length (v2 / (8:Int))/\(((1:Int)+(v2 % (8:Int)))<=1000 ∧ -1000<=((1:Int)+(v2 % (8:Int)))/\(ch ve (v2 / (8:Int))).length<=1000))))/\(let vh:Str:=(if (decide (((at' v1 (3:Int)) % (3:Int))=(1:Int)))=true then (let vh:=(Txt.mul (ch ve (v2 / (8:Int))) ((1:Int)+(v2 % (8:Int))));vh) else vh);HD v6.length))))))
def Ej (v1:(List Int)) {d7:Bx} (gP:Lp d7 (v1.map eI)) (v5:Int) (ve:Str) (vf:Str) (v9:Int) (v6:(List Str)) (v2:Int):R pA [some d7,some ((zE eI) v5),some ((zE eS) ve),some ((zE eS) vf),some ((zE eI) v9),some ((oE eS) v6),some ((zE eI) v2),none,none] (fun s=>Out.nx ((fun v6:(List Str)=>[some d7,some ((zE eI) v5),some ((zE eS) ve),some ((zE eS) vf),some ((zE eI) v9),some ((oE eS) v6),none,none,none]) s)):=R.to (dG (dH 7 (R.to (Wc (aq 2 (zE eS) ve rfl) (ig (lV (aq 6 (zE eI) v2 rfl) (lu (pP 0 eI v1 gP rfl) (cI (.int 2) eI (2:Int) rfl))) 15 (by decide))) ((ch ve ((v2+(at' v1 (2:Int))) % (15:Int)))) (some ((In v1.length (2:Int)/\In ve.length ((v2+(at' v1 (2:Int))) % (15:Int)))))) (fun _=>rfl) fun vg=>(dG (dH 8 (R.to (Wd (Wd (aaq (aq 3 (zE eS) vf rfl) O6 (O7 (aq 4 (zE eI) v9 rfl))) (aq 7 (zE eS) vg rfl)) (aaq (aq 3 (zE eS) vf rfl) (O7 (aq 4 (zE eI) v9 rfl)) O6)) ((((Txt.slice vf none (some v9))++vg)++(Txt.slice vf (some v9) none))) (some ((HD ((Txt.slice vf none (some v9)).length+vg.length)/\HD (((Txt.slice vf none (some v9))++vg).length+(Txt.slice vf (some v9) none).length))))) (fun _=>rfl) fun vh=>(dG (Ai (fun vh:Str=>[some d7,some ((zE eI) v5),some ((zE eS) ve),some ((zE eS) vf),some ((zE eI) v9),some ((oE eS) v6),some ((zE eI) v2),some ((zE eS) vg),some ((zE eS) vh)]) (R.to (gK (x_eq (by decide) (ig (lu (pP 0 eI v1 gP rfl) (cI (.int 3) eI (3:Int) rfl)) 3 (by decide)) (cI (.int 1) eI (1:Int) rfl))) ((decide (((at' v1 (3:Int)) % (3:Int))=(1:Int)))) (some (In v1.length (3:Int)))) (dG (dH 8 (R.to (acJ (Wc (aq 2 (zE eS) ve rfl) (JD (aq 6 (zE eI) v2 rfl) 8 (by decide))) (lV (cI (.int 1) eI (1:Int) rfl) (ig (aq 6 (zE eI) v2 rfl) 8 (by decide)))) ((Txt.mul (ch ve (v2 / (8:Int))) ((1:Int)+(v2 % (8:Int))))) (some ((In ve.length (v2 / (8:Int))/\(((1:Int)+(v2 % (8:Int)))<=1000 ∧ -1000<=((1:Int)+(v2 % (8:Int)))/\(ch ve (v2 / (8:Int))).length<=1000))))) (fun _=>rfl) fun vh=>(fV (dh vh rfl)))) (fV (dh vh rfl)) fun vh=>(dG (HS 5 v6 rfl (aq 8 (zE eS) vh rfl) fun v6=>(fV (dh v6 rfl)))))))))) (gQ v1 ve vf v9 v6 v2) (some (lG v1 ve vf v9 v6 v2))
def u6 (v1:(List Int)) (v5:Int) (ve:Str) (vf:Str) (v9:Int) (v6:(List Str)):(List Str):=v6
def u9:Ev->Option Out:=(aD (FP 5) jD)
def Ek (v1:(List Int)) {d7:Bx} (gP:Lp d7 (v1.map eI)) (v5:Int) (ve:Str) (vf:Str) (v9:Int) (v6:(List Str)):R u9 [some d7,some ((zE eI) v5),some ((zE eS) ve),some ((zE eS) vf),some ((zE eI) v9),some ((oE eS) v6),none,none,none] (fun r=>Out.rt ((oE eS) r)):=R.to (Wj 5 (fun r=>r) v6 rfl (fun _=>rfl) fun _=>rfl) (u6 v1 v5 ve vf v9 v6) (none)
def vA (v1:(List Int)) (v5:Int) (ve:Str) (vf:Str) (v9:Int) (v6:(List Str)):(List Str):=(let v6:(List Str):=((rng 0 v5.toNat).foldl (fun (v6:(List Str)) (v2:Int)=>(gQ v1 ve vf v9 v6 v2)) v6);(u6 v1 v5 ve vf v9 v6))
def vB (v1:(List Int)) (v5:Int) (ve:Str) (vf:Str) (v9:Int) (v6:(List Str)):Prop:=(Rg v5/\uT (fun (v6:(List Str)) (v2:Int)=>(gQ v1 ve vf v9 v6 v2)) (fun (v6:(List Str)) (v2:Int)=>some (lG v1 ve vf v9 v6 v2)) (rng 0 v5.toNat) v6)
def vC:Ev->Option Out:=(aD (qz (Qd (ao (gv 1) aR)) (jX 6) pA) u9)
def El (v1:(List Int)) {d7:Bx} (gP:Lp d7 (v1.map eI)) (v5:Int) (ve:Str) (vf:Str) (v9:Int) (v6:(List Str)):R vC [some d7,some ((zE eI) v5),some ((zE eS) ve),some ((zE eS) vf),some ((zE eI) v9),some ((oE eS) v6),none,none,none] (fun r=>Out.rt ((oE eS) r)):=R.to (Mh (fun v6:(List Str)=>[some d7,some ((zE eI) v5),some ((zE eS) ve),some ((zE eS) vf),some ((zE eI) v9),some ((oE eS) v6),none,none,none]) v6 rfl (R.to (HN (aq 1 (zE eI) v5 rfl)) ((rng 0 v5.toNat)) (some (Rg v5))) _ (fun _ _=>rfl) (fun (v6:(List Str)) (v2:Int)=>(Ej v1 gP v5 ve vf v9 v6 v2)) fun v6=>(Ek v1 gP v5 ve vf v9 v6)) (vA v1 v5 ve vf v9 v6) (some (vB v1 v5 ve vf v9 v6))
def vD (v1:(List Int)) (v5:Int) (ve:Str) (vf:Str) (v9:Int):(List Str):=(let v6:=([]:List Str);(vA v1 v5 ve vf v9 v6))
def vG (v1:(List Int)) (v5:Int) (ve:Str) (vf:Str) (v9:Int):Prop:=(let v6:=([]:List Str);(vB v1 v5 ve vf v9 v6))
def vH:Ev->Option Out:=(aD (setG 5 (fJ nD aR)) vC)
def Em (v1:(List Int)) {d7:Bx} (gP:Lp d7 (v1.map eI)) (v5:Int) (ve:Str) (vf:Str) (v9:Int):R vH [some d7,some ((zE eI) v5),some ((zE eS) ve),some ((zE eS) vf),some ((zE eI) v9),none,none,none,none] (fun r=>Out.rt ((oE eS) r)):=R.to (dH 5 (R.to (pR (lq eS) (Nat.le_of_ble_eq_true rfl)) (([]:List Str)) none) (fun _=>rfl) fun v6=>(El v1 gP v5 ve vf v9 v6)) (vD v1 v5 ve vf v9) (some (vG v1 v5 ve vf v9))
def lH (v1:(List Int)) (v5:Int) (ve:Str) (vf:Str):(List Str):=(let v9:=((at' v1 (1:Int)) % ((vf.length:Int)+(1:Int)));(vD v1 v5 ve vf v9))
def pC (v1:(List Int)) (v5:Int) (ve:Str) (vf:Str):Prop:=((In v1.length (1:Int)/\0 < ((vf.length:Int)+(1:Int)))/\(let v9:=((at' v1 (1:Int)) % ((vf.length:Int)+(1:Int)));(vG v1 v5 ve vf v9)))
def vI:Ev->Option Out:=(aD (setG 4 (b2 jg (b2 iD (gv 0) (cB (.int 1))) (b2 jt (fJ zu (ao (gv 3) aR)) (cB (.int 1))))) vH)
def En (v1:(List Int)) {d7:Bx} (gP:Lp d7 (v1.map eI)) (v5:Int) (ve:Str) (vf:Str):R vI [some d7,some ((zE eI) v5),some ((zE eS) ve),some ((zE eS) vf),none,none,none,none,none] (fun r=>Out.rt ((oE eS) r)):=R.to (dH 4 (R.to (Ma (lu (pP 0 eI v1 gP rfl) (cI (.int 1) eI (1:Int) rfl)) (lV (acL (aq 3 (zE eS) vf rfl)) (cI (.int 1) eI (1:Int) rfl))) (((at' v1 (1:Int)) % ((vf.length:Int)+(1:Int)))) (some ((In v1.length (1:Int)/\0 < ((vf.length:Int)+(1:Int)))))) (fun _=>rfl) fun v9=>(Em v1 gP v5 ve vf v9)) (lH v1 v5 ve vf) (some (pC v1 v5 ve vf))
def vJ (v1:(List Int)) (v5:Int) (ve:Str):(List Str):=(let vf:=(Txt.join "" ((rng 0 ((at' v1 (0:Int)) % (6:Int)).toNat).map fun v2:Int=>(ch ve (((at' v1 v2) / (40:Int)) % (26:Int)))));(lH v1 v5 ve vf))
def vK (v1:(List Int)) (v5:Int) (ve:Str):Prop:=(((((In v1.length (0:Int)/\Rg ((at' v1 (0:Int)) % (6:Int)))/\(rng 0 ((at' v1 (0:Int)) % (6:Int)).toNat).length<=100000)/\(∀ v2∈(rng 0 ((at' v1 (0:Int)) % (6:Int)).toNat),(In v1.length v2/\In ve.length (((at' v1 v2) / (40:Int)) % (26:Int)))))/\(((rng 0 ((at' v1 (0:Int)) % (6:Int)).toNat).map fun v2:Int=>(ch ve (((at' v1 v2) / (40:Int)) % (26:Int)))).map (·.length)).sum+((rng 0 ((at' v1 (0:Int)) % (6:Int)).toNat).map fun v2:Int=>(ch ve (((at' v1 v2) / (40:Int)) % (26:Int)))).length * ("" : Str).length<=100000)/\(let vf:=(Txt.join "" ((rng 0 ((at' v1 (0:Int)) % (6:Int)).toNat).map fun v2:Int=>(ch ve (((at' v1 v2) / (40:Int)) % (26:Int)))));(pC v1 v5 ve vf)))
def Eo:Ev->Option Out:=(aD (setG 3 (b1 (CQ "") (dU (Qd (ao (b2 jg (b2 iD (gv 0) (cB (.int 0))) (cB (.int 6))) aR)) (jX 2) rD (b2 iD (gv 0) (b2 jg (b2 Hi (b2 iD (gv 1) (gv 2)) (cB (.int 40))) (cB (.int 26)))) [2,0] 1))) vI)
def Ep (v1:(List Int)) {d7:Bx} (gP:Lp d7 (v1.map eI)) (v5:Int) (ve:Str):R Eo [some d7,some ((zE eI) v5),some ((zE eS) ve),none,none,none,none,none,none] (fun r=>Out.rt ((oE eS) r)):=R.to (dH 3 (R.to (acN "" (nG (O9 (HN (ig (lu (pP 0 eI v1 gP rfl) (cI (.int 0) eI (0:Int) rfl)) 6 (by decide))) _ (fun _=>rfl) (fun v2:Int=>(Wc (aq 0 (zE eS) ve rfl) (ig (JD (lu (pP 1 eI v1 gP (congrArg some (gP.get rfl))) (aq 2 (zE eI) v2 rfl)) 40 (by decide)) 26 (by decide))))))) ((Txt.join "" ((rng 0 ((at' v1 (0:Int)) % (6:Int)).toNat).map fun v2:Int=>(ch ve (((at' v1 v2) / (40:Int)) % (26:Int)))))) (some (((((In v1.length (0:Int)/\Rg ((at' v1 (0:Int)) % (6:Int)))/\(rng 0 ((at' v1 (0:Int)) % (6:Int)).toNat).length<=100000)/\(∀ v2∈(rng 0 ((at' v1 (0:Int)) % (6:Int)).toNat),(In v1.length v2/\In ve.length (((at' v1 v2) / (40:Int)) % (26:Int)))))/\(((rng 0 ((at' v1 (0:Int)) % (6:Int)).toNat).map fun v2:Int=>(ch ve (((at' v1 v2) / (40:Int)) % (26:Int)))).map (·.length)).sum+((rng 0 ((at' v1 (0:Int)) % (6:Int)).toNat).map fun v2:Int=>(ch ve (((at' v1 v2) / (40:Int)) % (26:Int)))).length * ("" : Str).length<=100000)))) (fun _=>rfl) fun vf=>(En v1 gP v5 ve vf)) (vJ v1 v5 ve) (some (vK v1 v5 ve))
def dZ (v1:(List Int)) (v5:Int):(List Str):=(let ve:=("abcdefghijklmnopqrstuvwxyz" : Str);(vJ v1 v5 ve))
def m5 (v1:(List Int)) (v5:Int):Prop:=(let ve:=("abcdefghijklmnopqrstuvwxyz" : Str);(vK v1 v5 ve))
def vL (v1:(List Int)) {d7:Bx} (gP:Lp d7 (v1.map eI)) (v5:Int):R pW [some d7,some ((zE eI) v5),none,none,none,none,none,none,none] (fun r=>Out.rt ((oE eS) r)):=(dH 2 (R.to (cI (.str "abcdefghijklmnopqrstuvwxyz") eS ("abcdefghijklmnopqrstuvwxyz" : Str) rfl) (("abcdefghijklmnopqrstuvwxyz" : Str)) none) (fun _=>rfl) fun ve=>(Ep v1 gP v5 ve))
theorem J6 (v1:(List Int)) {d7:Bx} (gP:Lp d7 (v1.map eI)) (v5:Int):(vL v1 gP v5).v=dZ v1 v5:=by kernel_rfl
theorem J7 (v1:(List Int)) {d7:Bx} (gP:Lp d7 (v1.map eI)) (v5:Int):(vL v1 gP v5).D=some (m5 v1 v5):=by kernel_rfl
theorem MK:∀ v bs,(aL eI (aZ eI aN)) v bs->bs.length=2/\(hold (some (m5 v.1 v.2.1))->iR (bs.map lend)=some ((oE eS) (dZ v.1 v.2.1))):=by
 rintro⟨v1,v5,_⟩ _ ⟨d7,_,rfl,gP,⟨_,rfl,rfl⟩⟩
 exact⟨rfl,fun h=>(lA (g:=pW) (n:=9) (bs:=[lend d7,.z (eI v5)]) (vL v1 (lR gP) v5) ((congrArg hold (J7 v1 (lR gP) v5)).mpr h)).trans (congrArg (fun r=>some ((oE eS) r)) (J6 v1 (lR gP) v5))⟩
def eZ (v0:(List Int)) (v9:Int) (v5:Int) (vc:(List Int)) (vd:(List Str)) (vi:(List aC)) (v2:Int):(List aC):=(let v1:=(bA (aY v0 ((v9+(1:Int))+v2)) (4:Int));(let y1:=((at' v1 (0:Int)) % (if v5 > (1:Int) then v5 else (1:Int)));let y2:=((at' v1 (1:Int)) % (if v5 > (1:Int) then v5 else (1:Int)));let vj:=y1;let vk:=y2;(let vl:=(at' [((1:Int)+((at' v1 (2:Int)) % (3:Int))),((1:Int)+((at' v1 (2:Int)) % (9:Int))),((1:Int)+((at' v1 (2:Int)) % (1000:Int)))] ((at' vc (4:Int)) % (3:Int)));(let vi:(List aC):=(if (!decide (vj=vk))=true then (let vi:=vi++[(((0:Int) - vl),(at' vd (if vk < vj then vk else vj)),(at' vd (if vk > vj then vk else vj)),(at' [(0:Int),(2:Int),(10:Int)] ((at' v1 (3:Int)) % (3:Int))))];vi) else vi);vi))))
def iZ (v0:(List Int)) (v9:Int) (v5:Int) (vc:(List Int)) (vd:(List Str)) (vi:(List aC)) (v2:Int):Prop:=(((dF v0 ((v9+(1:Int))+v2))/\(dN (aY v0 ((v9+(1:Int))+v2)) (4:Int)))/\(let v1:=(bA (aY v0 ((v9+(1:Int))+v2)) (4:Int));(((In v1.length (0:Int)/\0 < (if v5 > (1:Int) then v5 else (1:Int)))/\(In v1.length (1:Int)/\0 < (if v5 > (1:Int) then v5 else (1:Int))))/\(let y1:=((at' v1 (0:Int)) % (if v5 > (1:Int) then v5 else (1:Int)));let y2:=((at' v1 (1:Int)) % (if v5 > (1:Int) then v5 else (1:Int)));let vj:=y1;let vk:=y2;((((In v1.length (2:Int)/\(In v1.length (2:Int)/\In v1.length (2:Int)))/\In vc.length (4:Int))/\In [((1:Int)+((at' v1 (2:Int)) % (3:Int))),((1:Int)+((at' v1 (2:Int)) % (9:Int))),((1:Int)+((at' v1 (2:Int)) % (1000:Int)))].length ((at' vc (4:Int)) % (3:Int)))/\(let vl:=(at' [((1:Int)+((at' v1 (2:Int)) % (3:Int))),((1:Int)+((at' v1 (2:Int)) % (9:Int))),((1:Int)+((at' v1 (2:Int)) % (1000:Int)))] ((at' vc (4:Int)) % (3:Int)));((!decide (vj=vk))=true->((In vd.length (if vk < vj then vk else vj)/\(In vd.length (if vk > vj then vk else vj)/\(In v1.length (3:Int)/\In [(0:Int),(2:Int),(10:Int)].length ((at' v1 (3:Int)) % (3:Int)))))/\HD vi.length))))))))
def Ay (v0:(List Int)) {d7:Bx} (gP:Lp d7 (v0.map eI)) (v9:Int) (v5:Int) (va:Int) (vb:Int) (vc:(List Int)) (vd:(List Str)) (vi:(List aC)) (v2:Int):R nJ [some d7,some ((zE eI) v9),some ((zE eI) v5),some ((zE eI) va),some ((zE eI) vb),some ((oE eI) vc),some ((oE eS) vd),some ((oE aX) vi),some ((zE eI) v2),none,none,none,none,none,none] (fun s=>Out.nx ((fun vi:(List aC)=>[some d7,some ((zE eI) v9),some ((zE eI) v5),some ((zE eI) va),some ((zE eI) vb),some ((oE eI) vc),some ((oE eS) vd),some ((oE aX) vi),none,none,none,none,none,none,none]) s)):=R.to (dG (dH 9 (R.to (x_call mU (jh (R.to (lU (x_call rW (Mg (pP 0 eI v0 gP rfl) (jh (lU (lV (lV (aq 1 (zE eI) v9 rfl) (cI (.int 1) eI (1:Int) rfl)) (aq 8 (zE eI) v2 rfl))) gM)))) ((aY v0 ((v9+(1:Int))+v2))) (some ((dF v0 ((v9+(1:Int))+v2))))) (jh (cI (.int 4) eI (4:Int) rfl) gM))) ((bA (aY v0 ((v9+(1:Int))+v2)) (4:Int))) (some (((dF v0 ((v9+(1:Int))+v2))/\(dN (aY v0 ((v9+(1:Int))+v2)) (4:Int)))))) (fun _=>rfl) fun v1=>(dG (aat 10 11 (R.to (Ma (lu (lY (aq 9 (lE eI) v1 rfl)) (cI (.int 0) eI (0:Int) rfl)) (HJ (cI (.int 1) eI (1:Int) rfl) (aq 2 (zE eI) v5 rfl))) (((at' v1 (0:Int)) % (if v5 > (1:Int) then v5 else (1:Int)))) (some ((In v1.length (0:Int)/\0 < (if v5 > (1:Int) then v5 else (1:Int)))))) (R.to (Ma (lu (lY (aq 9 (lE eI) v1 rfl)) (cI (.int 1) eI (1:Int) rfl)) (HJ (cI (.int 1) eI (1:Int) rfl) (aq 2 (zE eI) v5 rfl))) (((at' v1 (1:Int)) % (if v5 > (1:Int) then v5 else (1:Int)))) (some ((In v1.length (1:Int)/\0 < (if v5 > (1:Int) then v5 else (1:Int)))))) fun vj vk=>(dG (dH 12 (R.to (lu (nG (pR (gk (lU (lV (cI (.int 1) eI (1:Int) rfl) (ig (lu (lY (aq 9 (lE eI) v1 rfl)) (cI (.int 2) eI (2:Int) rfl)) 3 (by decide)))) (gk (lU (lV (cI (.int 1) eI (1:Int) rfl) (ig (lu (lY (aq 9 (lE eI) v1 rfl)) (cI (.int 2) eI (2:Int) rfl)) 9 (by decide)))) (gk (lU (lV (cI (.int 1) eI (1:Int) rfl) (ig (lu (lY (aq 9 (lE eI) v1 rfl)) (cI (.int 2) eI (2:Int) rfl)) 1000 (by decide)))) (lq eI)))) (Nat.le_of_ble_eq_true rfl))) (ig (lu (lY (aq 5 (lE eI) vc rfl)) (cI (.int 4) eI (4:Int) rfl)) 3 (by decide))) ((at' [((1:Int)+((at' v1 (2:Int)) % (3:Int))),((1:Int)+((at' v1 (2:Int)) % (9:Int))),((1:Int)+((at' v1 (2:Int)) % (1000:Int)))] ((at' vc (4:Int)) % (3:Int)))) (some ((((In v1.length (2:Int)/\(In v1.length (2:Int)/\In v1.length (2:Int)))/\In vc.length (4:Int))/\In [((1:Int)+((at' v1 (2:Int)) % (3:Int))),((1:Int)+((at' v1 (2:Int)) % (9:Int))),((1:Int)+((at' v1 (2:Int)) % (1000:Int)))].length ((at' vc (4:Int)) % (3:Int)))))) (fun _=>rfl) fun vl=>(dG (Ai (fun vi:(List aC)=>[some d7,some ((zE eI) v9),some ((zE eI) v5),some ((zE eI) va),some ((zE eI) vb),some ((oE eI) vc),some ((oE eS) vd),some ((oE aX) vi),some ((zE eI) v2),some ((oE eI) v1),some ((zE eI) vj),some ((zE eI) vk),some ((zE eI) vl),none,none]) (R.to (gK (Zh (by decide) (aq 10 (zE eI) vj rfl) (aq 11 (zE eI) vk rfl))) ((!decide (vj=vk))) none) (dG (HS 7 vi rfl (R.to (Wb (aak (cI (.int 0) eI (0:Int) rfl) (aq 12 (zE eI) vl rfl)) (lu (lY (aq 6 (lE eS) vd rfl)) (aas (aq 10 (zE eI) vj rfl) (aq 11 (zE eI) vk rfl))) (lu (lY (aq 6 (lE eS) vd rfl)) (HJ (aq 10 (zE eI) vj rfl) (aq 11 (zE eI) vk rfl))) (lu (nG (pR (gk (cI (.int 0) eI (0:Int) rfl) (gk (cI (.int 2) eI (2:Int) rfl) (gk (cI (.int 10) eI (10:Int) rfl) (lq eI)))) (Nat.le_of_ble_eq_true rfl))) (ig (lu (lY (aq 9 (lE eI) v1 rfl)) (cI (.int 3) eI (3:Int) rfl)) 3 (by decide)))) ((((0:Int) - vl),(at' vd (if vk < vj then vk else vj)),(at' vd (if vk > vj then vk else vj)),(at' [(0:Int),(2:Int),(10:Int)] ((at' v1 (3:Int)) % (3:Int))))) (some ((In vd.length (if vk < vj then vk else vj)/\(In vd.length (if vk > vj then vk else vj)/\(In v1.length (3:Int)/\In [(0:Int),(2:Int),(10:Int)].length ((at' v1 (3:Int)) % (3:Int)))))))) fun vi=>(fV (dh vi rfl)))) (fV (dh vi rfl)) fun vi=>(fV (dh vi rfl)))))))))) (eZ v0 v9 v5 vc vd vi v2) (some (iZ v0 v9 v5 vc vd vi v2))
def fj (v0:(List Int)) (v9:Int) (v5:Int) (vd:(List Str)) (vm:(List cX)) (v2:Int):(List cX):=(let v1:=(bA (aY v0 ((v9+(1:Int))+v2)) (8:Int));(let y4:=((at' v1 (5:Int)) % (if v5 > (1:Int) then v5 else (1:Int)));let y5:=((at' v1 (6:Int)) % (if v5 > (1:Int) then v5 else (1:Int)));let vj:=y4;let vk:=y5;(let vm:(List cX):=(if (!decide (vj=vk))=true then (let vm:=vm++[((at' vd (if vk < vj then vk else vj)),(at' vd (if vk > vj then vk else vj)),(at' [(2:Int),(10:Int)] ((at' v1 (7:Int)) % (2:Int))))];vm) else vm);vm)))
def jc (v0:(List Int)) (v9:Int) (v5:Int) (vd:(List Str)) (vm:(List cX)) (v2:Int):Prop:=(((dF v0 ((v9+(1:Int))+v2))/\(dN (aY v0 ((v9+(1:Int))+v2)) (8:Int)))/\(let v1:=(bA (aY v0 ((v9+(1:Int))+v2)) (8:Int));(((In v1.length (5:Int)/\0 < (if v5 > (1:Int) then v5 else (1:Int)))/\(In v1.length (6:Int)/\0 < (if v5 > (1:Int) then v5 else (1:Int))))/\(let y4:=((at' v1 (5:Int)) % (if v5 > (1:Int) then v5 else (1:Int)));let y5:=((at' v1 (6:Int)) % (if v5 > (1:Int) then v5 else (1:Int)));let vj:=y4;let vk:=y5;((!decide (vj=vk))=true->((In vd.length (if vk < vj then vk else vj)/\(In vd.length (if vk > vj then vk else vj)/\(In v1.length (7:Int)/\In [(2:Int),(10:Int)].length ((at' v1 (7:Int)) % (2:Int)))))/\HD vm.length))))))
def Az (v0:(List Int)) {d7:Bx} (gP:Lp d7 (v0.map eI)) (v9:Int) (v5:Int) (va:Int) (vb:Int) (vc:(List Int)) (vd:(List Str)) (vi:(List aC)) (v6:(List aC)) (vm:(List cX)) (v2:Int):R nM [some d7,some ((zE eI) v9),some ((zE eI) v5),some ((zE eI) va),some ((zE eI) vb),some ((oE eI) vc),some ((oE eS) vd),some ((oE aX) vi),some ((zE eI) v2),none,none,none,none,some ((oE aX) v6),some ((oE fQ) vm)] (fun s=>Out.nx ((fun vm:(List cX)=>[some d7,some ((zE eI) v9),some ((zE eI) v5),some ((zE eI) va),some ((zE eI) vb),some ((oE eI) vc),some ((oE eS) vd),some ((oE aX) vi),none,none,none,none,none,some ((oE aX) v6),some ((oE fQ) vm)]) s)):=R.to (dG (dH 9 (R.to (x_call mU (jh (R.to (lU (x_call rW (Mg (pP 0 eI v0 gP rfl) (jh (lU (lV (lV (aq 1 (zE eI) v9 rfl) (cI (.int 1) eI (1:Int) rfl)) (aq 8 (zE eI) v2 rfl))) gM)))) ((aY v0 ((v9+(1:Int))+v2))) (some ((dF v0 ((v9+(1:Int))+v2))))) (jh (cI (.int 8) eI (8:Int) rfl) gM))) ((bA (aY v0 ((v9+(1:Int))+v2)) (8:Int))) (some (((dF v0 ((v9+(1:Int))+v2))/\(dN (aY v0 ((v9+(1:Int))+v2)) (8:Int)))))) (fun _=>rfl) fun v1=>(dG (aat 10 11 (R.to (Ma (lu (lY (aq 9 (lE eI) v1 rfl)) (cI (.int 5) eI (5:Int) rfl)) (HJ (cI (.int 1) eI (1:Int) rfl) (aq 2 (zE eI) v5 rfl))) (((at' v1 (5:Int)) % (if v5 > (1:Int) then v5 else (1:Int)))) (some ((In v1.length (5:Int)/\0 < (if v5 > (1:Int) then v5 else (1:Int)))))) (R.to (Ma (lu (lY (aq 9 (lE eI) v1 rfl)) (cI (.int 6) eI (6:Int) rfl)) (HJ (cI (.int 1) eI (1:Int) rfl) (aq 2 (zE eI) v5 rfl))) (((at' v1 (6:Int)) % (if v5 > (1:Int) then v5 else (1:Int)))) (some ((In v1.length (6:Int)/\0 < (if v5 > (1:Int) then v5 else (1:Int)))))) fun vj vk=>(dG (Ai (fun vm:(List cX)=>[some d7,some ((zE eI) v9),some ((zE eI) v5),some ((zE eI) va),some ((zE eI) vb),some ((oE eI) vc),some ((oE eS) vd),some ((oE aX) vi),some ((zE eI) v2),some ((oE eI) v1),some ((zE eI) vj),some ((zE eI) vk),none,some ((oE aX) v6),some ((oE fQ) vm)]) (R.to (gK (Zh (by decide) (aq 10 (zE eI) vj rfl) (aq 11 (zE eI) vk rfl))) ((!decide (vj=vk))) none) (dG (HS 14 vm rfl (R.to (zM (lu (lY (aq 6 (lE eS) vd rfl)) (aas (aq 10 (zE eI) vj rfl) (aq 11 (zE eI) vk rfl))) (lu (lY (aq 6 (lE eS) vd rfl)) (HJ (aq 10 (zE eI) vj rfl) (aq 11 (zE eI) vk rfl))) (lu (nG (pR (gk (cI (.int 2) eI (2:Int) rfl) (gk (cI (.int 10) eI (10:Int) rfl) (lq eI))) (Nat.le_of_ble_eq_true rfl))) (ig (lu (lY (aq 9 (lE eI) v1 rfl)) (cI (.int 7) eI (7:Int) rfl)) 2 (by decide)))) (((at' vd (if vk < vj then vk else vj)),(at' vd (if vk > vj then vk else vj)),(at' [(2:Int),(10:Int)] ((at' v1 (7:Int)) % (2:Int))))) (some ((In vd.length (if vk < vj then vk else vj)/\(In vd.length (if vk > vj then vk else vj)/\(In v1.length (7:Int)/\In [(2:Int),(10:Int)].length ((at' v1 (7:Int)) % (2:Int)))))))) fun vm=>(fV (dh vm rfl)))) (fV (dh vm rfl)) fun vm=>(fV (dh vm rfl)))))))) (fj v0 v9 v5 vd vm v2) (some (jc v0 v9 v5 vd vm v2))
def sX (v0:(List Int)) (v9:Int) (v5:Int) (va:Int) (vb:Int) (vc:(List Int)) (vd:(List Str)) (vi:(List aC)) (v6:(List aC)) (vm:(List cX)):cY:=(vd,v6,(sV fQ (Ca vm)))
def sY (v0:(List Int)) (v9:Int) (v5:Int) (va:Int) (vb:Int) (vc:(List Int)) (vd:(List Str)) (vi:(List aC)) (v6:(List aC)) (vm:(List cX)):Prop:=(vm.length<=64/\vm.length < 64)
def sZ:Ev->Option Out:=(aD (kY (fJ rC (ao (b1 rB (fJ kW (ao (gv 6) aR))) (ao (b1 rB (fJ kW (ao (gv 13) aR))) (ao (b1 rB (fJ kW (ao (Dq (Oz (gv 14))) aR))) aR))))) jD)
def Ba (v0:(List Int)) {d7:Bx} (gP:Lp d7 (v0.map eI)) (v9:Int) (v5:Int) (va:Int) (vb:Int) (vc:(List Int)) (vd:(List Str)) (vi:(List aC)) (v6:(List aC)) (vm:(List cX)):R sZ [some d7,some ((zE eI) v9),some ((zE eI) v5),some ((zE eI) va),some ((zE eI) vb),some ((oE eI) vc),some ((oE eS) vd),some ((oE aX) vi),none,none,none,none,none,some ((oE aX) v6),some ((oE fQ) vm)] (fun r=>Out.rt ((zE eG) r)):=R.to (lB (fun r=>r) (R.to (zM (lU (rJ (lY (aq 6 (lE eS) vd rfl)))) (lU (rJ (lY (aq 13 (lE aX) v6 rfl)))) (lU (rJ (nG (Wu (Wt (lY (aq 14 (lE fQ) vm rfl)))))))) ((vd,v6,(sV fQ (Ca vm)))) (some ((vm.length<=64/\vm.length < 64)))) (fun _=>rfl) fun _=>rfl) (sX v0 v9 v5 va vb vc vd vi v6 vm) (some (sY v0 v9 v5 va vb vc vd vi v6 vm))
def tu (v0:(List Int)) (v9:Int) (v5:Int) (va:Int) (vb:Int) (vc:(List Int)) (vd:(List Str)) (vi:(List aC)) (v6:(List aC)) (vm:(List cX)):cY:=(let vm:(List cX):=((rng 0 vb.toNat).foldl (fun (vm:(List cX)) (v2:Int)=>(fj v0 v9 v5 vd vm v2)) vm);(sX v0 v9 v5 va vb vc vd vi v6 vm))
def tB (v0:(List Int)) (v9:Int) (v5:Int) (va:Int) (vb:Int) (vc:(List Int)) (vd:(List Str)) (vi:(List aC)) (v6:(List aC)) (vm:(List cX)):Prop:=((Rg vb/\uT (fun (vm:(List cX)) (v2:Int)=>(fj v0 v9 v5 vd vm v2)) (fun (vm:(List cX)) (v2:Int)=>some (jc v0 v9 v5 vd vm v2)) (rng 0 vb.toNat) vm)/\(let vm:(List cX):=((rng 0 vb.toNat).foldl (fun (vm:(List cX)) (v2:Int)=>(fj v0 v9 v5 vd vm v2)) vm);(sY v0 v9 v5 va vb vc vd vi v6 vm)))
def tD:Ev->Option Out:=(aD (qz (Qd (ao (gv 4) aR)) (jX 8) nM) sZ)
def Bb (v0:(List Int)) {d7:Bx} (gP:Lp d7 (v0.map eI)) (v9:Int) (v5:Int) (va:Int) (vb:Int) (vc:(List Int)) (vd:(List Str)) (vi:(List aC)) (v6:(List aC)) (vm:(List cX)):R tD [some d7,some ((zE eI) v9),some ((zE eI) v5),some ((zE eI) va),some ((zE eI) vb),some ((oE eI) vc),some ((oE eS) vd),some ((oE aX) vi),none,none,none,none,none,some ((oE aX) v6),some ((oE fQ) vm)] (fun r=>Out.rt ((zE eG) r)):=R.to (Mh (fun vm:(List cX)=>[some d7,some ((zE eI) v9),some ((zE eI) v5),some ((zE eI) va),some ((zE eI) vb),some ((oE eI) vc),some ((oE eS) vd),some ((oE aX) vi),none,none,none,none,none,some ((oE aX) v6),some ((oE fQ) vm)]) vm rfl (R.to (HN (aq 4 (zE eI) vb rfl)) ((rng 0 vb.toNat)) (some (Rg vb))) _ (fun _ _=>rfl) (fun (vm:(List cX)) (v2:Int)=>(Az v0 gP v9 v5 va vb vc vd vi v6 vm v2)) fun vm=>(Ba v0 gP v9 v5 va vb vc vd vi v6 vm)) (tu v0 v9 v5 va vb vc vd vi v6 vm) (some (tB v0 v9 v5 va vb vc vd vi v6 vm))
def tH (v0:(List Int)) (v9:Int) (v5:Int) (va:Int) (vb:Int) (vc:(List Int)) (vd:(List Str)) (vi:(List aC)) (v6:(List aC)):cY:=(let vm:=([]:List cX);(tu v0 v9 v5 va vb vc vd vi v6 vm))
def tK (v0:(List Int)) (v9:Int) (v5:Int) (va:Int) (vb:Int) (vc:(List Int)) (vd:(List Str)) (vi:(List aC)) (v6:(List aC)):Prop:=(let vm:=([]:List cX);(tB v0 v9 v5 va vb vc vd vi v6 vm))
def tL:Ev->Option Out:=(aD (setG 14 (fJ nD aR)) tD)
def Bc (v0:(List Int)) {d7:Bx} (gP:Lp d7 (v0.map eI)) (v9:Int) (v5:Int) (va:Int) (vb:Int) (vc:(List Int)) (vd:(List Str)) (vi:(List aC)) (v6:(List aC)):R tL [some d7,some ((zE eI) v9),some ((zE eI) v5),some ((zE eI) va),some ((zE eI) vb),some ((oE eI) vc),some ((oE eS) vd),some ((oE aX) vi),none,none,none,none,none,some ((oE aX) v6),none] (fun r=>Out.rt ((zE eG) r)):=R.to (dH 14 (R.to (pR (lq fQ) (Nat.le_of_ble_eq_true rfl)) (([]:List cX)) none) (fun _=>rfl) fun vm=>(Bb v0 gP v9 v5 va vb vc vd vi v6 vm)) (tH v0 v9 v5 va vb vc vd vi v6) (some (tK v0 v9 v5 va vb vc vd vi v6))
def nP (v0:(List Int)) (v9:Int) (v5:Int) (va:Int) (vb:Int) (vc:(List Int)) (vd:(List Str)) (vi:(List aC)):cY:=(let v6:=((sV aX (Ca vi)).map fun q3:aC=>(((0:Int) - q3.1),q3.2.1,q3.2.2.1,q3.2.2.2));(tH v0 v9 v5 va vb vc vd vi v6))
def nQ (v0:(List Int)) (v9:Int) (v5:Int) (va:Int) (vb:Int) (vc:(List Int)) (vd:(List Str)) (vi:(List aC)):Prop:=(((vi.length<=64/\vi.length < 64)/\(sV aX (Ca vi)).length<=100000)/\(let v6:=((sV aX (Ca vi)).map fun q3:aC=>(((0:Int) - q3.1),q3.2.1,q3.2.2.1,q3.2.2.2));(tK v0 v9 v5 va vb vc vd vi v6)))
def tM:Ev->Option Out:=(aD (setG 13 (dU (Ab (Dq (Oz (gv 7)))) (sJ 4 (eE (jX 0) (eE (jX 1) (eE (jX 2) (eE (jX 3) wF))))) rD (fJ rC (ao (b2 subB (cB (.int 0)) (gv 0)) (ao (gv 1) (ao (gv 2) (ao (gv 3) aR))))) [] 4)) tL)
def Bd (v0:(List Int)) {d7:Bx} (gP:Lp d7 (v0.map eI)) (v9:Int) (v5:Int) (va:Int) (vb:Int) (vc:(List Int)) (vd:(List Str)) (vi:(List aC)):R tM [some d7,some ((zE eI) v9),some ((zE eI) v5),some ((zE eI) va),some ((zE eI) vb),some ((oE eI) vc),some ((oE eS) vd),some ((oE aX) vi),none,none,none,none,none,none,none] (fun r=>Out.rt ((zE eG) r)):=R.to (dH 13 (R.to (yF (Gb (nG (Wu (Wt (lY (aq 7 (lE aX) vi rfl)))))) _ (fun _=>rfl) (fun q3:aC=>(Wb (aak (cI (.int 0) eI (0:Int) rfl) (aq 0 (zE eI) q3.1 rfl)) (aq 1 (zE eS) q3.2.1 rfl) (aq 2 (zE eS) q3.2.2.1 rfl) (aq 3 (zE eI) q3.2.2.2 rfl))) fun _=>rfl) (((sV aX (Ca vi)).map fun q3:aC=>(((0:Int) - q3.1),q3.2.1,q3.2.2.1,q3.2.2.2))) (some (((vi.length<=64/\vi.length < 64)/\(sV aX (Ca vi)).length<=100000)))) (fun _=>rfl) fun v6=>(Bc v0 gP v9 v5 va vb vc vd vi v6)) (nP v0 v9 v5 va vb vc vd vi) (some (nQ v0 v9 v5 va vb vc vd vi))
def tO (v0:(List Int)) (v9:Int) (v5:Int) (va:Int) (vb:Int) (vc:(List Int)) (vd:(List Str)) (vi:(List aC)):cY:=(let vi:(List aC):=((rng 0 va.toNat).foldl (fun (vi:(List aC)) (v2:Int)=>(eZ v0 v9 v5 vc vd vi v2)) vi);(nP v0 v9 v5 va vb vc vd vi))
def tQ (v0:(List Int)) (v9:Int) (v5:Int) (va:Int) (vb:Int) (vc:(List Int)) (vd:(List Str)) (vi:(List aC)):Prop:=((Rg va/\uT (fun (vi:(List aC)) (v2:Int)=>(eZ v0 v9 v5 vc vd vi v2)) (fun (vi:(List aC)) (v2:Int)=>some (iZ v0 v9 v5 vc vd vi v2)) (rng 0 va.toNat) vi)/\(let vi:(List aC):=((rng 0 va.toNat).foldl (fun (vi:(List aC)) (v2:Int)=>(eZ v0 v9 v5 vc vd vi v2)) vi);(nQ v0 v9 v5 va vb vc vd vi)))
def tR:Ev->Option Out:=(aD (qz (Qd (ao (gv 3) aR)) (jX 8) nJ) tM)
def Bf (v0:(List Int)) {d7:Bx} (gP:Lp d7 (v0.map eI)) (v9:Int) (v5:Int) (va:Int) (vb:Int) (vc:(List Int)) (vd:(List Str)) (vi:(List aC)):R tR [some d7,some ((zE eI) v9),some ((zE eI) v5),some ((zE eI) va),some ((zE eI) vb),some ((oE eI) vc),some ((oE eS) vd),some ((oE aX) vi),none,none,none,none,none,none,none] (fun r=>Out.rt ((zE eG) r)):=R.to (Mh (fun vi:(List aC)=>[some d7,some ((zE eI) v9),some ((zE eI) v5),some ((zE eI) va),some ((zE eI) vb),some ((oE eI) vc),some ((oE eS) vd),some ((oE aX) vi),none,none,none,none,none,none,none]) vi rfl (R.to (HN (aq 3 (zE eI) va rfl)) ((rng 0 va.toNat)) (some (Rg va))) _ (fun _ _=>rfl) (fun (vi:(List aC)) (v2:Int)=>(Ay v0 gP v9 v5 va vb vc vd vi v2)) fun vi=>(Bd v0 gP v9 v5 va vb vc vd vi)) (tO v0 v9 v5 va vb vc vd vi) (some (tQ v0 v9 v5 va vb vc vd vi))
def nR (v0:(List Int)) (v9:Int) (v5:Int) (va:Int) (vb:Int) (vc:(List Int)) (vd:(List Str)):cY:=(let vi:=([]:List aC);(tO v0 v9 v5 va vb vc vd vi))
def nT (v0:(List Int)) (v9:Int) (v5:Int) (va:Int) (vb:Int) (vc:(List Int)) (vd:(List Str)):Prop:=(let vi:=([]:List aC);(tQ v0 v9 v5 va vb vc vd vi))
def tW:Ev->Option Out:=(aD (setG 7 (fJ nD aR)) tR)
def Bg (v0:(List Int)) {d7:Bx} (gP:Lp d7 (v0.map eI)) (v9:Int) (v5:Int) (va:Int) (vb:Int) (vc:(List Int)) (vd:(List Str)):R tW [some d7,some ((zE eI) v9),some ((zE eI) v5),some ((zE eI) va),some ((zE eI) vb),some ((oE eI) vc),some ((oE eS) vd),none,none,none,none,none,none,none,none] (fun r=>Out.rt ((zE eG) r)):=R.to (dH 7 (R.to (pR (lq aX) (Nat.le_of_ble_eq_true rfl)) (([]:List aC)) none) (fun _=>rfl) fun vi=>(Bf v0 gP v9 v5 va vb vc vd vi)) (nR v0 v9 v5 va vb vc vd) (some (nT v0 v9 v5 va vb vc vd))
def nU (v0:(List Int)) (v9:Int) (v5:Int) (va:Int) (vb:Int) (vc:(List Int)):cY:=(let vd:=(mX (dZ vc v5));(nR v0 v9 v5 va vb vc vd))
def nW (v0:(List Int)) (v9:Int) (v5:Int) (va:Int) (vb:Int) (vc:(List Int)):Prop:=(((m5 vc v5)/\(dZ vc v5).length < 64)/\(let vd:=(mX (dZ vc v5));(nT v0 v9 v5 va vb vc vd)))
def Bh:Ev->Option Out:=(aD (setG 6 (fJ CP (ao (fL 2 iR (ao (gv 5) (ao (gv 2) aR))) aR))) tW)
def Bj (v0:(List Int)) {d7:Bx} (gP:Lp d7 (v0.map eI)) (v9:Int) (v5:Int) (va:Int) (vb:Int) (vc:(List Int)):R Bh [some d7,some ((zE eI) v9),some ((zE eI) v5),some ((zE eI) va),some ((zE eI) vb),some ((oE eI) vc),none,none,none,none,none,none,none,none,none] (fun r=>Out.rt ((zE eG) r)):=R.to (dH 6 (R.to (QC (nG (x_call MK (Mg (lY (aq 5 (lE eI) vc rfl)) (jh (aq 2 (zE eI) v5 rfl) gM))))) ((mX (dZ vc v5))) (some (((m5 vc v5)/\(dZ vc v5).length < 64)))) (fun _=>rfl) fun vd=>(Bg v0 gP v9 v5 va vb vc vd)) (nU v0 v9 v5 va vb vc) (some (nW v0 v9 v5 va vb vc))
def jQ (v0:(List Int)) (v9:Int) (v5:Int) (va:Int) (vb:Int):cY:=(let vc:=(bA (aY v0 v9) (6:Int));(nU v0 v9 v5 va vb vc))
def lJ (v0:(List Int)) (v9:Int) (v5:Int) (va:Int) (vb:Int):Prop:=(((dF v0 v9)/\(dN (aY v0 v9) (6:Int)))/\(let vc:=(bA (aY v0 v9) (6:Int));(nW v0 v9 v5 va vb vc)))
def rY (v0:(List Int)) {d7:Bx} (gP:Lp d7 (v0.map eI)) (v9:Int) (v5:Int) (va:Int) (vb:Int):R oF [some d7,some ((zE eI) v9),some ((zE eI) v5),some ((zE eI) va),some ((zE eI) vb),none,none,none,none,none,none,none,none,none,none] (fun r=>Out.rt ((zE eG) r)):=(dH 5 (R.to (x_call mU (jh (R.to (lU (x_call rW (Mg (pP 0 eI v0 gP rfl) (jh (aq 1 (zE eI) v9 rfl) gM)))) ((aY v0 v9)) (some ((dF v0 v9)))) (jh (cI (.int 6) eI (6:Int) rfl) gM))) ((bA (aY v0 v9) (6:Int))) (some (((dF v0 v9)/\(dN (aY v0 v9) (6:Int)))))) (fun _=>rfl) fun vc=>(Bj v0 gP v9 v5 va vb vc))
theorem Gs (v0:(List Int)) {d7:Bx} (gP:Lp d7 (v0.map eI)) (v9:Int) (v5:Int) (va:Int) (vb:Int):(rY v0 gP v9 v5 va vb).v=jQ v0 v9 v5 va vb:=by kernel_rfl
theorem Gu (v0:(List Int)) {d7:Bx} (gP:Lp d7 (v0.map eI)) (v9:Int) (v5:Int) (va:Int) (vb:Int):(rY v0 gP v9 v5 va vb).D=some (lJ v0 v9 v5 va vb):=by kernel_rfl
theorem J8:∀ v bs,(aL eI (aZ eI (aZ eI (aZ eI (aZ eI aN))))) v bs->bs.length=5/\(hold (some (lJ v.1 v.2.1 v.2.2.1 v.2.2.2.1 v.2.2.2.2.1))->gU (bs.map lend)=some ((zE eG) (jQ v.1 v.2.1 v.2.2.1 v.2.2.2.1 v.2.2.2.2.1))):=by
 rintro⟨v0,v9,v5,va,vb,_⟩ _ ⟨d7,_,rfl,gP,⟨_,rfl,⟨_,rfl,⟨_,rfl,⟨_,rfl,rfl⟩⟩⟩⟩⟩
 exact⟨rfl,fun h=>(lA (g:=oF) (n:=15) (bs:=[lend d7,.z (eI v9),.z (eI v5),.z (eI va),.z (eI vb)]) (rY v0 (lR gP) v9 v5 va vb) ((congrArg hold (Gu v0 (lR gP) v9 v5 va vb)).mpr h)).trans (congrArg (fun r=>some ((zE eG) r)) (Gs v0 (lR gP) v9 v5 va vb))⟩
def cM (vo:(List Str)):(List (Str×Str)):=(mkD (vo.map fun vs:Str=>(vs,vs)))
def lK (vo:(List Str)):Prop:=(vo.length < 1000/\vo.length<=100000)
def rZ (vo:(List Str)):R oG [some ((zE (eT eS)) vo)] (fun r=>Out.rt ((mE eS) r)):=(lB (fun r=>r) (R.to (Zr (Pa (aq 0 (zE (eT eS)) vo rfl)) (yF (Pa (aq 0 (zE (eT eS)) vo rfl)) _ (fun _=>rfl) (fun vs:Str=>(Zq (aq 0 (zE eS) vs rfl) (aq 0 (zE eS) vs rfl))) fun _=>rfl)) ((mkD (vo.map fun vs:Str=>(vs,vs)))) (some ((vo.length < 1000/\vo.length<=100000)))) (fun _=>rfl) fun _=>rfl)
theorem Gv (vo:(List Str)):(rZ vo).v=cM vo:=by kernel_rfl
theorem Gw (vo:(List Str)):(rZ vo).D=some (lK vo):=by kernel_rfl
theorem J9:∀ v bs,(aZ (eT eS) aN) v bs->bs.length=1/\(hold (some (lK v.1))->gW (bs.map lend)=some ((mE eS) (cM v.1))):=by
 rintro⟨vo,_⟩ _ ⟨_,rfl,rfl⟩
 exact⟨rfl,fun h=>(lA (g:=oG) (n:=1) (bs:=[.z ((eT eS) vo)]) (rZ vo) ((congrArg hold (Gw vo)).mpr h)).trans (congrArg (fun r=>some ((mE eS) r)) (Gv vo))⟩
def jR (vr:(List (Str×Str))) (vw:Str) (vx:Str) (s1:Unit) (vy:cX):Fy (Unit) (Option cX):=(if (((decide ((look vr vy.1)=vw))&&(decide ((look vr vy.2.1)=vx)))||((decide ((look vr vy.1)=vx))&&(decide ((look vr vy.2.1)=vw))))=true then (Fy.rt (some vy)) else (Fy.nx ()))
def qU (vr:(List (Str×Str))) (vw:Str) (vx:Str) (s1:Unit) (vy:cX):Prop:=((has vr vy.1=true/\((decide ((look vr vy.1)=vw))=true->has vr vy.2.1=true))/\(((decide ((look vr vy.1)=vw))&&(decide ((look vr vy.2.1)=vx)))=false->(has vr vy.1=true/\((decide ((look vr vy.1)=vx))=true->has vr vy.2.1=true))))
def zZ (vq:(List cX)) (vr:(List (Str×Str))) (vw:Str) (vx:Str) (s1:Unit) (vy:cX):R qH [some ((zE (eT fQ)) vq),some ((nE eS) vr),some ((zE eS) vw),some ((zE eS) vx),some ((zE fQ) vy)] (cC (fun s1:Unit=>[some ((zE (eT fQ)) vq),some ((nE eS) vr),some ((zE eS) vw),some ((zE eS) vx),none]) (zE (eO fQ))):=R.to (dG (DN (R.to (acE (Wa (gK (x_eq (by decide) (p8 (aq 1 (nE eS) vr rfl) (jU (aq 4 (zE fQ) vy rfl) (fun q=>q.1) eS 0 fun _=>rfl)) (aq 2 (zE eS) vw rfl))) (gK (x_eq (by decide) (p8 (aq 1 (nE eS) vr rfl) (jU (aq 4 (zE fQ) vy rfl) (fun q=>q.2.1) eS 1 fun _=>rfl)) (aq 3 (zE eS) vx rfl)))) (Wa (gK (x_eq (by decide) (p8 (aq 1 (nE eS) vr rfl) (jU (aq 4 (zE fQ) vy rfl) (fun q=>q.1) eS 0 fun _=>rfl)) (aq 3 (zE eS) vx rfl))) (gK (x_eq (by decide) (p8 (aq 1 (nE eS) vr rfl) (jU (aq 4 (zE fQ) vy rfl) (fun q=>q.2.1) eS 1 fun _=>rfl)) (aq 2 (zE eS) vw rfl))))) ((((decide ((look vr vy.1)=vw))&&(decide ((look vr vy.2.1)=vx)))||((decide ((look vr vy.1)=vx))&&(decide ((look vr vy.2.1)=vw))))) (some (((has vr vy.1=true/\((decide ((look vr vy.1)=vw))=true->has vr vy.2.1=true))/\(((decide ((look vr vy.1)=vw))&&(decide ((look vr vy.2.1)=vx)))=false->(has vr vy.1=true/\((decide ((look vr vy.1)=vx))=true->has vr vy.2.1=true))))))) (dG (lB .rt (R.to (acB (aq 4 (zE fQ) vy rfl)) ((some vy)) none) (fun _=>rfl) fun _=>rfl)) (fV (fV (dh (.nx ()) rfl))))) (jR vr vw vx s1 vy) (some (qU vr vw vx s1 vy))
def d8 (vq:(List cX)) (vr:(List (Str×Str))) (vw:Str) (vx:Str):(Option cX):=(behind (pG (fun (s1:Unit) (vy:cX)=>((jR vr vw vx s1 vy):Fy (Unit) (Option cX))) vq ()) (fun r=>r) fun s1:Unit=>none)
def j5 (vq:(List cX)) (vr:(List (Str×Str))) (vw:Str) (vx:Str):Prop:=(yH (fun (s1:Unit) (vy:cX)=>((jR vr vw vx s1 vy):Fy (Unit) (Option cX))) (fun (s1:Unit) (vy:cX)=>some (qU vr vw vx s1 vy)) vq ()/\(yJ (pG (fun (s1:Unit) (vy:cX)=>((jR vr vw vx s1 vy):Fy (Unit) (Option cX))) vq ()) fun s1:Unit=>True))
def qj (vq:(List cX)) (vr:(List (Str×Str))) (vw:Str) (vx:Str):R mJ [some ((zE (eT fQ)) vq),some ((nE eS) vr),some ((zE eS) vw),some ((zE eS) vx),none] (fun r=>Out.rt ((zE (eO fQ)) r)):=(Zn 0 vq (Wm rfl) (fun s1:Unit=>[some ((zE (eT fQ)) vq),some ((nE eS) vr),some ((zE eS) vw),some ((zE eS) vx),none]) () rfl _ (fun _ _=>rfl) (fun (s1:Unit) (vy:cX)=>((zZ vq vr vw vx s1 vy):R _ _ (cC (fun s1:Unit=>[some ((zE (eT fQ)) vq),some ((nE eS) vr),some ((zE eS) vw),some ((zE eS) vx),none]) (zE (eO fQ))))) (fun r=>r) (fun _=>rfl) fun s1=>(lB (fun r=>r) (R.to acC (none) none) (fun _=>rfl) fun _=>rfl))
theorem Er (vq:(List cX)) (vr:(List (Str×Str))) (vw:Str) (vx:Str):(qj vq vr vw vx).v=d8 vq vr vw vx:=by kernel_rfl
theorem Es (vq:(List cX)) (vr:(List (Str×Str))) (vw:Str) (vx:Str):(qj vq vr vw vx).D=some (j5 vq vr vw vx):=by kernel_rfl
theorem Gx:∀ v bs,(aZ (eT fQ) (aM eS (aZ eS (aZ eS aN)))) v bs->bs.length=4/\(hold (some (j5 v.1 v.2.1 v.2.2.1 v.2.2.2.1))->iu (bs.map lend)=some ((zE (eO fQ)) (d8 v.1 v.2.1 v.2.2.1 v.2.2.2.1))):=by
 rintro⟨vq,vr,vw,vx,_⟩ _ ⟨_,rfl,⟨_,_,rfl,(rfl|rfl),⟨_,rfl,⟨_,rfl,rfl⟩⟩⟩⟩
 all_goals exact⟨rfl,fun h=>(lA (g:=mJ) (n:=5) (bs:=[.z ((eT fQ) vq),nE eS vr,.z (eS vw),.z (eS vx)]) (qj vq vr vw vx) ((congrArg hold (Es vq vr vw vx)).mpr h)).trans (congrArg (fun r=>some ((zE (eO fQ)) r)) (Er vq vr vw vx))⟩
def fu (vw:Str) (vx:Str) (vz:Str) (vr:(List (Str×Str))) (vs:Str):(List (Str×Str)):=(let vr:(List (Str×Str)):=(if ((decide ((look vr vs)=vw))||(decide ((look vr vs)=vx)))=true then (let vr:=put vr vs vz;vr) else vr);vr)
def nY (vw:Str) (vx:Str) (vz:Str) (vr:(List (Str×Str))) (vs:Str):Prop:=((has vr vs=true/\((decide ((look vr vs)=vw))=false->has vr vs=true))/\(((decide ((look vr vs)=vw))||(decide ((look vr vs)=vx)))=true->vr.length < 1000))
def Bk {a_:Addr} (vw:Str) (vx:Str) (vz:Str) (vr:(List (Str×Str))) (vs:Str):R sW [some ((mW (some a_) eS) vr),some ((zE eS) vw),some ((zE eS) vx),some ((zE eS) vz),some ((zE eS) vs)] (fun s=>Out.nx ((fun vr:(List (Str×Str))=>[some ((mW (some a_) eS) vr),some ((zE eS) vw),some ((zE eS) vx),some ((zE eS) vz),none]) s)):=R.to (dG (Ai (fun vr:(List (Str×Str))=>[some ((mW (some a_) eS) vr),some ((zE eS) vw),some ((zE eS) vx),some ((zE eS) vz),some ((zE eS) vs)]) (R.to (acE (gK (x_eq (by decide) (p8 (aq 0 (nE eS) vr rfl) (aq 4 (zE eS) vs rfl)) (aq 1 (zE eS) vw rfl))) (gK (x_eq (by decide) (p8 (aq 0 (nE eS) vr rfl) (aq 4 (zE eS) vs rfl)) (aq 2 (zE eS) vx rfl)))) (((decide ((look vr vs)=vw))||(decide ((look vr vs)=vx)))) (some ((has vr vs=true/\((decide ((look vr vs)=vw))=false->has vr vs=true))))) (dG (Zo (some a_) 0 vr rfl (aq 3 (zE eS) vz rfl) (aq 4 (zE eS) vs rfl) fun vr=>(fV (dh vr rfl)))) (fV (dh vr rfl)) fun vr=>(fV (dh vr rfl)))) (fu vw vx vz vr vs) (some (nY vw vx vz vr vs))
def jT (vr:(List (Str×Str))) (vw:Str) (vx:Str):(List (Str×Str)):=(let vz:=(if Tq vx vw=true then vx else vw);(let vr:(List (Str×Str)):=((vr.map (·.1)).foldl (fun (vr:(List (Str×Str))) (vs:Str)=>(fu vw vx vz vr vs)) vr);vr))
def oR (vr:(List (Str×Str))) (vw:Str) (vx:Str):Prop:=(let vz:=(if Tq vx vw=true then vx else vw);uT (fun (vr:(List (Str×Str))) (vs:Str)=>(fu vw vx vz vr vs)) (fun (vr:(List (Str×Str))) (vs:Str)=>some (nY vw vx vz vr vs)) (vr.map (·.1)) vr)
def su {a_:Addr} (vr:(List (Str×Str))) (vw:Str) (vx:Str):R oH [some ((mW (some a_) eS) vr),some ((zE eS) vw),some ((zE eS) vx),none,none] (fun m'=>Out.nx [some ((mW (some a_) eS) m'),some ((zE eS) vw),some ((zE eS) vx),none,none]):=(dG (dH 3 (R.to (acW (aq 1 (zE eS) vw rfl) (aq 2 (zE eS) vx rfl)) ((if Tq vx vw=true then vx else vw)) none) (fun _=>rfl) fun vz=>(dG (Mh (fun vr:(List (Str×Str))=>[some ((mW (some a_) eS) vr),some ((zE eS) vw),some ((zE eS) vx),some ((zE eS) vz),none]) vr rfl (R.to (acO (Zt (aq 0 (nE eS) vr rfl))) ((vr.map (·.1))) none) _ (fun _ _=>rfl) (fun (vr:(List (Str×Str))) (vs:Str)=>(Bk vw vx vz vr vs)) fun vr=>(fV (dh vr rfl))))))
theorem Gy {a_:Addr} (vr:(List (Str×Str))) (vw:Str) (vx:Str):(su (a_:=a_) vr vw vx).v=jT vr vw vx:=by kernel_rfl
theorem Gz {a_:Addr} (vr:(List (Str×Str))) (vw:Str) (vx:Str):(su (a_:=a_) vr vw vx).D=some (oR vr vw vx):=by kernel_rfl
theorem Ka:∀ (vr:(List (Str×Str))) v bs,(aZ eS (aZ eS aN)) v bs->bs.length=2/\bs.all isZ=true/\(hold (some (oR vr v.1 v.2.1))->∀ a,iW a (vr.map fun q=>(q.1,eS q.2)) bs=some ((jT vr v.1 v.2.1).map fun q=>(q.1,eS q.2))):=by
 rintro vr ⟨vw,vx,_⟩ _ ⟨_,rfl,⟨_,rfl,rfl⟩⟩
 exact⟨rfl,rfl,fun h a=>(Zu (g:=oH) (n:=5) (bs:=[.z (eS vw),.z (eS vx)]) (su (a_:=a) vr vw vx) ((congrArg hold (Gz (a_:=a) vr vw vx)).mpr h) (fun _=>rfl)).trans (congrArg (fun r:(List (Str×Str))=>some (r.map fun q=>(q.1,eS q.2))) (Gy (a_:=a) vr vw vx))⟩
def cT (vr:(List (Str×Str))) (vz:Str):(List Str):=(((vr.map (·.1)).filter fun vs:Str=>(decide ((look vr vs)=vz))).map fun vs:Str=>vs)
def mV (vr:(List (Str×Str))) (vz:Str):Prop:=((vr.map (·.1)).length<=100000/\(∀ vs∈(vr.map (·.1)),has vr vs=true))
def ql (vr:(List (Str×Str))) (vz:Str):R mK [some ((nE eS) vr),some ((zE eS) vz)] (fun r=>Out.rt ((zE (eT eS)) r)):=(lB (fun r=>r) (R.to (rJ (nG (QF (aeP (aq 0 (nE eS) vr rfl)) _ (fun _=>rfl) (fun vs:Str=>(gK (x_eq (by decide) (p8 (aq 1 (nE eS) vr rfl) (aq 2 (zE eS) vs rfl)) (aq 0 (zE eS) vz rfl)))) (fun vs:Str=>(aq 2 (zE eS) vs rfl))))) ((((vr.map (·.1)).filter fun vs:Str=>(decide ((look vr vs)=vz))).map fun vs:Str=>vs)) (some (((vr.map (·.1)).length<=100000/\(∀ vs∈(vr.map (·.1)),has vr vs=true))))) (fun _=>rfl) fun _=>rfl)
theorem Et (vr:(List (Str×Str))) (vz:Str):(ql vr vz).v=cT vr vz:=by kernel_rfl
theorem Eu (vr:(List (Str×Str))) (vz:Str):(ql vr vz).D=some (mV vr vz):=by kernel_rfl
theorem GC:∀ v bs,(aM eS (aZ eS aN)) v bs->bs.length=2/\(hold (some (mV v.1 v.2.1))->iw (bs.map lend)=some ((zE (eT eS)) (cT v.1 v.2.1))):=by
 rintro⟨vr,vz,_⟩ _ ⟨_,_,rfl,(rfl|rfl),⟨_,rfl,rfl⟩⟩
 all_goals exact⟨rfl,fun h=>(lA (g:=mK) (n:=2) (bs:=[nE eS vr,.z (eS vz)]) (ql vr vz) ((congrArg hold (Eu vr vz)).mpr h)).trans (congrArg (fun r=>some ((zE (eT eS)) r)) (Et vr vz))⟩
def eN (vr:(List (Str×Str))):(List (List Str)):=(((vr.map (·.1)).filter fun vs:Str=>(decide ((look vr vs)=vs))).map fun vs:Str=>(cT vr vs))
def lM (vr:(List (Str×Str))):Prop:=((vr.map (·.1)).length<=100000/\(∀ vs∈(vr.map (·.1)),(has vr vs=true/\((decide ((look vr vs)=vs))=true->(mV vr vs)))))
def sy (vr:(List (Str×Str))):R oJ [some ((nE eS) vr)] (fun r=>Out.rt ((oE (eT eS)) r)):=(lB (fun r=>r) (R.to (QF (aeP (aq 0 (nE eS) vr rfl)) _ (fun _=>rfl) (fun vs:Str=>(gK (x_eq (by decide) (p8 (aq 0 (nE eS) vr rfl) (aq 1 (zE eS) vs rfl)) (aq 1 (zE eS) vs rfl)))) (fun vs:Str=>(lU (x_call GC (acV (aq 0 (nE eS) vr rfl) (jh (aq 1 (zE eS) vs rfl) gM)))))) ((((vr.map (·.1)).filter fun vs:Str=>(decide ((look vr vs)=vs))).map fun vs:Str=>(cT vr vs))) (some (((vr.map (·.1)).length<=100000/\(∀ vs∈(vr.map (·.1)),(has vr vs=true/\((decide ((look vr vs)=vs))=true->(mV vr vs)))))))) (fun _=>rfl) fun _=>rfl)
theorem GD (vr:(List (Str×Str))):(sy vr).v=eN vr:=by kernel_rfl
theorem GF (vr:(List (Str×Str))):(sy vr).D=some (lM vr):=by kernel_rfl
theorem Kc:∀ v bs,(aM eS aN) v bs->bs.length=1/\(hold (some (lM v.1))->gY (bs.map lend)=some ((oE (eT eS)) (eN v.1))):=by
 rintro⟨vr,_⟩ _ ⟨_,_,rfl,(rfl|rfl),rfl⟩
 all_goals exact⟨rfl,fun h=>(lA (g:=oJ) (n:=1) (bs:=[nE eS vr]) (sy vr) ((congrArg hold (GF vr)).mpr h)).trans (congrArg (fun r=>some ((oE (eT eS)) r)) (GD vr))⟩
def cZ (vq:(List cX)) (s2:(List (Str×Str))×(List aC)×(List iK)) (vv:aC):(List (Str×Str))×(List aC)×(List iK):=(let vw:=(look s2.1 vv.2.1);(let vx:=(look s2.1 vv.2.2.1);(let s4:(List (Str×Str))×(List aC)×(List iK):=(if (!decide (vw=vx))=true then (let vy:=(d8 vq s2.1 vw vx);(let s3:(List (Str×Str))×(List aC)×(List iK):=(if vy.isNone=true then (let vr:=(jT s2.1 vw vx);(let vt:=s2.2.1++[vv];(vr,vt,s2.2.2))) else (let vu:=s2.2.2++[(vv,vy)];(s2.1,s2.2.1,vu)));(s3.1,s3.2.1,s3.2.2))) else (s2.1,s2.2.1,s2.2.2));(s4.1,s4.2.1,s4.2.2))))
def nZ (vq:(List cX)) (s2:(List (Str×Str))×(List aC)×(List iK)) (vv:aC):Prop:=(has s2.1 vv.2.1=true/\(let vw:=(look s2.1 vv.2.1);(has s2.1 vv.2.2.1=true/\(let vx:=(look s2.1 vv.2.2.1);((!decide (vw=vx))=true->((j5 vq s2.1 vw vx)/\(let vy:=(d8 vq s2.1 vw vx);((vy.isNone=true->((oR s2.1 vw vx)/\(let vr:=(jT s2.1 vw vx);HD s2.2.1.length)))/\(vy.isNone=false->HD s2.2.2.length)))))))))
def Bl (vn:cY) (vo:(List Str)) (vp:(List aC)) (vq:(List cX)) (s2:(List (Str×Str))×(List aC)×(List iK)) (vv:aC):R nO [some ((zE eG) vn),some ((zE (eT eS)) vo),some ((zE (eT aX)) vp),some ((zE (eT fQ)) vq),some ((mE eS) s2.1),some ((oE aX) s2.2.1),some ((oE uG) s2.2.2),some ((zE aX) vv),none,none,none] (fun s=>Out.nx ((fun s2:(List (Str×Str))×(List aC)×(List iK)=>[some ((zE eG) vn),some ((zE (eT eS)) vo),some ((zE (eT aX)) vp),some ((zE (eT fQ)) vq),some ((mE eS) s2.1),some ((oE aX) s2.2.1),some ((oE uG) s2.2.2),none,none,none,none]) s)):=R.to (dG (dH 8 (R.to (p8 (aq 4 (nE eS) s2.1 rfl) (jU (aq 7 (zE aX) vv rfl) (fun q=>q.2.1) eS 1 fun _=>rfl)) ((look s2.1 vv.2.1)) (some (has s2.1 vv.2.1=true))) (fun _=>rfl) fun vw=>(dG (dH 9 (R.to (p8 (aq 4 (nE eS) s2.1 rfl) (jU (aq 7 (zE aX) vv rfl) (fun q=>q.2.2.1) eS 2 fun _=>rfl)) ((look s2.1 vv.2.2.1)) (some (has s2.1 vv.2.2.1=true))) (fun _=>rfl) fun vx=>(dG (Ai (fun s4:(List (Str×Str))×(List aC)×(List iK)=>[some ((zE eG) vn),some ((zE (eT eS)) vo),some ((zE (eT aX)) vp),some ((zE (eT fQ)) vq),some ((mE eS) s4.1),some ((oE aX) s4.2.1),some ((oE uG) s4.2.2),some ((zE aX) vv),some ((zE eS) vw),some ((zE eS) vx),none]) (R.to (gK (Zh (by decide) (aq 8 (zE eS) vw rfl) (aq 9 (zE eS) vx rfl))) ((!decide (vw=vx))) none) (dG (dH 10 (R.to (x_call Gx (jh (aq 3 (zE (eT fQ)) vq rfl) (acV (aq 4 (nE eS) s2.1 rfl) (jh (aq 8 (zE eS) vw rfl) (jh (aq 9 (zE eS) vx rfl) gM))))) ((d8 vq s2.1 vw vx)) (some ((j5 vq s2.1 vw vx)))) (fun _=>rfl) fun vy=>(dG (Ai (fun s3:(List (Str×Str))×(List aC)×(List iK)=>[some ((zE eG) vn),some ((zE (eT eS)) vo),some ((zE (eT aX)) vp),some ((zE (eT fQ)) vq),some ((mE eS) s3.1),some ((oE aX) s3.2.1),some ((oE uG) s3.2.2),some ((zE aX) vv),some ((zE eS) vw),some ((zE eS) vx),some ((zE (eO fQ)) vy)]) (R.to (gK (aeK (aq 10 (zE (eO fQ)) vy rfl) fun _=>rfl)) (vy.isNone) none) (dG (acX none 4 s2.1 rfl Ka (jh (aq 8 (zE eS) vw rfl) (jh (aq 9 (zE eS) vx rfl) gM)) fun vr=>(dG (HS 5 s2.2.1 rfl (aq 7 (zE aX) vv rfl) fun vt=>(fV (dh (vr,vt,s2.2.2) rfl)))))) (dG (HS 6 s2.2.2 rfl (R.to (acF (aq 7 (zE aX) vv rfl) (aq 10 (zE (eO fQ)) vy rfl)) ((vv,vy)) none) fun vu=>(fV (dh (s2.1,s2.2.1,vu) rfl)))) fun s3=>(fV (dh (s3.1,s3.2.1,s3.2.2) rfl)))))) (fV (dh (s2.1,s2.2.1,s2.2.2) rfl)) fun s4=>(fV (dh (s4.1,s4.2.1,s4.2.2) rfl)))))))) (cZ vq s2 vv) (some (nZ vq s2 vv))
def tX (vn:cY) (vo:(List Str)) (vp:(List aC)) (vq:(List cX)) (vr:(List (Str×Str))) (vt:(List aC)) (vu:(List iK)):gn:=((eN vr),vt,vu)
def tY (vn:cY) (vo:(List Str)) (vp:(List aC)) (vq:(List cX)) (vr:(List (Str×Str))) (vt:(List aC)) (vu:(List iK)):Prop:=(lM vr)
def tZ:Ev->Option Out:=(Tn 5 (Tn 6 (aD (kY (fJ rC (ao (b1 rB (fL 1 gY (ao (gv 4) aR))) (ao (gv 5) (ao (gv 6) aR))))) jD)))
def Bm (vn:cY) (vo:(List Str)) (vp:(List aC)) (vq:(List cX)) (vr:(List (Str×Str))) (vt:(List aC)) (vu:(List iK)):R tZ [some ((zE eG) vn),some ((zE (eT eS)) vo),some ((zE (eT aX)) vp),some ((zE (eT fQ)) vq),some ((mE eS) vr),some ((oE aX) vt),some ((oE uG) vu),none,none,none,none] (fun r=>Out.rt ((zE gq) r)):=R.to (Zy 5 [some ((zE eG) vn),some ((zE (eT eS)) vo),some ((zE (eT aX)) vp),some ((zE (eT fQ)) vq),some ((mE eS) vr),some ((zE (eL aX)) vt),some ((oE uG) vu),none,none,none,none] rfl (Zy 6 [some ((zE eG) vn),some ((zE (eT eS)) vo),some ((zE (eT aX)) vp),some ((zE (eT fQ)) vq),some ((mE eS) vr),some ((zE (eL aX)) vt),some ((zE (eL uG)) vu),none,none,none,none] rfl (lB (fun r=>r) (R.to (zM (SQ (x_call Kc (acV (aq 4 (nE eS) vr rfl) gM))) (aq 5 (zE (eL aX)) vt rfl) (aq 6 (zE (eL uG)) vu rfl)) (((eN vr),vt,vu)) (some ((lM vr)))) (fun _=>rfl) fun _=>rfl))) (tX vn vo vp vq vr vt vu) (some (tY vn vo vp vq vr vt vu))
def uc (vn:cY) (vo:(List Str)) (vp:(List aC)) (vq:(List cX)) (vr:(List (Str×Str))) (vt:(List aC)) (vu:(List iK)):gn:=(let s2:(List (Str×Str))×(List aC)×(List iK):=(vp.foldl (fun (s2:(List (Str×Str))×(List aC)×(List iK)) (vv:aC)=>(cZ vq s2 vv)) (vr,vt,vu));(tX vn vo vp vq s2.1 s2.2.1 s2.2.2))
def ud (vn:cY) (vo:(List Str)) (vp:(List aC)) (vq:(List cX)) (vr:(List (Str×Str))) (vt:(List aC)) (vu:(List iK)):Prop:=(uT (fun (s2:(List (Str×Str))×(List aC)×(List iK)) (vv:aC)=>(cZ vq s2 vv)) (fun (s2:(List (Str×Str))×(List aC)×(List iK)) (vv:aC)=>some (nZ vq s2 vv)) vp (vr,vt,vu)/\(let s2:(List (Str×Str))×(List aC)×(List iK):=(vp.foldl (fun (s2:(List (Str×Str))×(List aC)×(List iK)) (vv:aC)=>(cZ vq s2 vv)) (vr,vt,vu));(tY vn vo vp vq s2.1 s2.2.1 s2.2.2)))
def uf:Ev->Option Out:=(aD (qw 2 (jX 7) nO) tZ)
def Bo (vn:cY) (vo:(List Str)) (vp:(List aC)) (vq:(List cX)) (vr:(List (Str×Str))) (vt:(List aC)) (vu:(List iK)):R uf [some ((zE eG) vn),some ((zE (eT eS)) vo),some ((zE (eT aX)) vp),some ((zE (eT fQ)) vq),some ((mE eS) vr),some ((oE aX) vt),some ((oE uG) vu),none,none,none,none] (fun r=>Out.rt ((zE gq) r)):=R.to (Wn 2 vp (Wm rfl) (fun s2:(List (Str×Str))×(List aC)×(List iK)=>[some ((zE eG) vn),some ((zE (eT eS)) vo),some ((zE (eT aX)) vp),some ((zE (eT fQ)) vq),some ((mE eS) s2.1),some ((oE aX) s2.2.1),some ((oE uG) s2.2.2),none,none,none,none]) (vr,vt,vu) rfl _ (fun _ _=>rfl) (fun (s2:(List (Str×Str))×(List aC)×(List iK)) (vv:aC)=>(Bl vn vo vp vq s2 vv)) fun s2=>(Bm vn vo vp vq s2.1 s2.2.1 s2.2.2)) (uc vn vo vp vq vr vt vu) (some (ud vn vo vp vq vr vt vu))
def ug (vn:cY) (vo:(List Str)) (vp:(List aC)) (vq:(List cX)) (vr:(List (Str×Str))) (vt:(List aC)):gn:=(let vu:=([]:List iK);(uc vn vo vp vq vr vt vu))
def uh (vn:cY) (vo:(List Str)) (vp:(List aC)) (vq:(List cX)) (vr:(List (Str×Str))) (vt:(List aC)):Prop:=(let vu:=([]:List iK);(ud vn vo vp vq vr vt vu))
def um:Ev->Option Out:=(aD (setG 6 (fJ nD aR)) uf)
def Bp (vn:cY) (vo:(List Str)) (vp:(List aC)) (vq:(List cX)) (vr:(List (Str×Str))) (vt:(List aC)):R um [some ((zE eG) vn),some ((zE (eT eS)) vo),some ((zE (eT aX)) vp),some ((zE (eT fQ)) vq),some ((mE eS) vr),some ((oE aX) vt),none,none,none,none,none] (fun r=>Out.rt ((zE gq) r)):=R.to (dH 6 (R.to (pR (lq uG) (Nat.le_of_ble_eq_true rfl)) (([]:List iK)) none) (fun _=>rfl) fun vu=>(Bo vn vo vp vq vr vt vu)) (ug vn vo vp vq vr vt) (some (uh vn vo vp vq vr vt))
def uo (vn:cY) (vo:(List Str)) (vp:(List aC)) (vq:(List cX)) (vr:(List (Str×Str))):gn:=(let vt:=([]:List aC);(ug vn vo vp vq vr vt))
def uq (vn:cY) (vo:(List Str)) (vp:(List aC)) (vq:(List cX)) (vr:(List (Str×Str))):Prop:=(let vt:=([]:List aC);(uh vn vo vp vq vr vt))
def ur:Ev->Option Out:=(aD (setG 5 (fJ nD aR)) um)
def Bq (vn:cY) (vo:(List Str)) (vp:(List aC)) (vq:(List cX)) (vr:(List (Str×Str))):R ur [some ((zE eG) vn),some ((zE (eT eS)) vo),some ((zE (eT aX)) vp),some ((zE (eT fQ)) vq),some ((mE eS) vr),none,none,none,none,none,none] (fun r=>Out.rt ((zE gq) r)):=R.to (dH 5 (R.to (pR (lq aX) (Nat.le_of_ble_eq_true rfl)) (([]:List aC)) none) (fun _=>rfl) fun vt=>(Bp vn vo vp vq vr vt)) (uo vn vo vp vq vr) (some (uq vn vo vp vq vr))
def uw (vn:cY) (vo:(List Str)) (vp:(List aC)) (vq:(List cX)):gn:=(let vr:=(cM vo);(uo vn vo vp vq vr))
def ux (vn:cY) (vo:(List Str)) (vp:(List aC)) (vq:(List cX)):Prop:=((lK vo)/\(let vr:=(cM vo);(uq vn vo vp vq vr)))
def Br:Ev->Option Out:=(aD (setG 4 (fL 1 gW (ao (gv 1) aR))) ur)
def Bt (vn:cY) (vo:(List Str)) (vp:(List aC)) (vq:(List cX)):R Br [some ((zE eG) vn),some ((zE (eT eS)) vo),some ((zE (eT aX)) vp),some ((zE (eT fQ)) vq),none,none,none,none,none,none,none] (fun r=>Out.rt ((zE gq) r)):=R.to (dH 4 (R.to (x_call J9 (jh (aq 1 (zE (eT eS)) vo rfl) gM)) ((cM vo)) (some ((lK vo)))) (fun _=>rfl) fun vr=>(Bq vn vo vp vq vr)) (uw vn vo vp vq) (some (ux vn vo vp vq))
def aG (vn:cY):gn:=(let q1:=vn;(uw vn q1.1 q1.2.1 q1.2.2))
def dw (vn:cY):Prop:=(let q1:=vn;(ux vn q1.1 q1.2.1 q1.2.2))
def sE (vn:cY):R oK [some ((zE eG) vn),none,none,none,none,none,none,none,none,none,none] (fun r=>Out.rt ((zE gq) r)):=(QG (aq 0 (zE eG) vn rfl) _ (fun _=>rfl) fun q1=>(Bt vn q1.1 q1.2.1 q1.2.2))
theorem GJ (vn:cY):(sE vn).v=aG vn:=by kernel_rfl
theorem GK (vn:cY):(sE vn).D=some (dw vn):=by kernel_rfl
theorem oU:∀ v bs,(aZ eG aN) v bs->bs.length=1/\(hold (some (dw v.1))->cU (bs.map lend)=some ((zE gq) (aG v.1))):=by
 rintro⟨vn,_⟩ _ ⟨_,rfl,rfl⟩
 exact⟨rfl,fun h=>(lA (g:=oK) (n:=11) (bs:=[.z (eG vn)]) (sE vn) ((congrArg hold (GK vn)).mpr h)).trans (congrArg (fun r=>some ((zE gq) r)) (GJ vn))⟩
def eU  (v6:(List (List Str))) (q1:aC):(List (List Str)):=(let pH:=(at' ((v6.filter fun iM:(List Str)=>(decide (q1.2.1∈iM))).map fun iM:(List Str)=>iM) (0:Int));(let pI:=(at' ((v6.filter fun iM:(List Str)=>(decide (q1.2.2.1∈iM))).map fun iM:(List Str)=>iM) (0:Int));(let v6:(List (List Str)):=(if (!decide (pH=pI))=true then (let v6:=(((v6.filter fun iM:(List Str)=>(!fP iM [pH,pI])).map fun iM:(List Str)=>iM)++[(mX (pH++pI))]);v6) else v6);v6)))
def jA  (v6:(List (List Str))) (q1:aC):Prop:=((v6.length<=100000/\In ((v6.filter fun iM:(List Str)=>(decide (q1.2.1∈iM))).map fun iM:(List Str)=>iM).length (0:Int))/\(let pH:=(at' ((v6.filter fun iM:(List Str)=>(decide (q1.2.1∈iM))).map fun iM:(List Str)=>iM) (0:Int));((v6.length<=100000/\In ((v6.filter fun iM:(List Str)=>(decide (q1.2.2.1∈iM))).map fun iM:(List Str)=>iM).length (0:Int))/\(let pI:=(at' ((v6.filter fun iM:(List Str)=>(decide (q1.2.2.1∈iM))).map fun iM:(List Str)=>iM) (0:Int));((!decide (pH=pI))=true->((v6.length<=100000/\(HD (pH.length+pI.length)/\(pH++pI).length < 64))/\HD (((v6.filter fun iM:(List Str)=>(!fP iM [pH,pI])).map fun iM:(List Str)=>iM).length+[(mX (pH++pI))].length)))))))
def Ew (vd:(List Str)) (va:(List aC)) {b_1:Bx} (h_1:Lp b_1 (va.map aX)) (v6:(List (List Str))) (q1:aC):R uV [some ((zE (eT eS)) vd),some b_1,some ((oE (eL eS)) v6),some ((zE eI) q1.1),some ((zE eS) q1.2.1),some ((zE eS) q1.2.2.1),some ((zE eI) q1.2.2.2),none,none] (fun s=>Out.nx ((fun v6:(List (List Str))=>[some ((zE (eT eS)) vd),some b_1,some ((oE (eL eS)) v6),none,none,none,none,none,none]) s)):=R.to (dG (dH 7 (R.to (lu (nG (jZ (Gb (lY (aq 2 (lE (eL eS)) v6 rfl))) _ (fun _=>rfl) (fun iM:(List Str)=>(gK (aeN (aq 0 (zE eS) q1.2.1 rfl) (pq (aq 1 (zE (eL eS)) iM rfl))))) (fun iM:(List Str)=>(aq 1 (zE (eL eS)) iM rfl)) (fun _=>rfl) fun _=>rfl)) (cI (.int 0) eI (0:Int) rfl)) ((at' ((v6.filter fun iM:(List Str)=>(decide (q1.2.1∈iM))).map fun iM:(List Str)=>iM) (0:Int))) (some ((v6.length<=100000/\In ((v6.filter fun iM:(List Str)=>(decide (q1.2.1∈iM))).map fun iM:(List Str)=>iM).length (0:Int))))) (fun _=>rfl) fun pH=>(dG (dH 8 (R.to (lu (nG (jZ (Gb (lY (aq 2 (lE (eL eS)) v6 rfl))) _ (fun _=>rfl) (fun iM:(List Str)=>(gK (aeN (aq 0 (zE eS) q1.2.2.1 rfl) (pq (aq 1 (zE (eL eS)) iM rfl))))) (fun iM:(List Str)=>(aq 1 (zE (eL eS)) iM rfl)) (fun _=>rfl) fun _=>rfl)) (cI (.int 0) eI (0:Int) rfl)) ((at' ((v6.filter fun iM:(List Str)=>(decide (q1.2.2.1∈iM))).map fun iM:(List Str)=>iM) (0:Int))) (some ((v6.length<=100000/\In ((v6.filter fun iM:(List Str)=>(decide (q1.2.2.1∈iM))).map fun iM:(List Str)=>iM).length (0:Int))))) (fun _=>rfl) fun pI=>(dG (Ai (fun v6:(List (List Str))=>[some ((zE (eT eS)) vd),some b_1,some ((oE (eL eS)) v6),some ((zE eI) q1.1),some ((zE eS) q1.2.1),some ((zE eS) q1.2.2.1),some ((zE eI) q1.2.2.2),some ((zE (eL eS)) pH),some ((zE (eL eS)) pI)]) (R.to (gK (V9 (by decide) (pq (aq 7 (zE (eL eS)) pH rfl)) (pq (aq 8 (zE (eL eS)) pI rfl)))) ((!decide (pH=pI))) none) (dG (dH 2 (R.to (O8 (nG (jZ (Gb (lY (aq 2 (lE (eL eS)) v6 rfl))) _ (fun _=>rfl) (fun iM:(List Str)=>(gK (DQ (by decide) (aq 2 (zE (eL eS)) iM rfl) (nG (pR (gk (aq 0 (zE (eL eS)) pH rfl) (gk (aq 1 (zE (eL eS)) pI rfl) (lq (eL eS)))) (Nat.le_of_ble_eq_true rfl)))))) (fun iM:(List Str)=>(aq 2 (zE (eL eS)) iM rfl)) (fun _=>rfl) fun _=>rfl)) (nG (pR (gk (SQ (QC (nG (O8 (pq (aq 7 (zE (eL eS)) pH rfl)) (pq (aq 8 (zE (eL eS)) pI rfl)))))) (lq (eL eS))) (Nat.le_of_ble_eq_true rfl)))) ((((v6.filter fun iM:(List Str)=>(!fP iM [pH,pI])).map fun iM:(List Str)=>iM)++[(mX (pH++pI))])) (some (((v6.length<=100000/\(HD (pH.length+pI.length)/\(pH++pI).length < 64))/\HD (((v6.filter fun iM:(List Str)=>(!fP iM [pH,pI])).map fun iM:(List Str)=>iM).length+[(mX (pH++pI))].length))))) (fun _=>rfl) fun v6=>(fV (dh v6 rfl)))) (fV (dh v6 rfl)) fun v6=>(fV (dh v6 rfl)))))))) (eU  v6 q1) (some (jA  v6 q1))
def m7 (vd:(List Str)) (va:(List aC)):(List (List Str)):=(let v6:=(vd.map fun vh:Str=>[vh]);(let v6:(List (List Str)):=(va.foldl (fun (v6:(List (List Str))) (q1:aC)=>(eU  v6 q1)) v6);(qb (v6.map fun iM:(List Str)=>iM))))
def m9 (vd:(List Str)) (va:(List aC)):Prop:=(vd.length<=100000/\(let v6:=(vd.map fun vh:Str=>[vh]);(uT (fun (v6:(List (List Str))) (q1:aC)=>(eU  v6 q1)) (fun (v6:(List (List Str))) (q1:aC)=>some (jA  v6 q1)) va v6/\(let v6:(List (List Str)):=(va.foldl (fun (v6:(List (List Str))) (q1:aC)=>(eU  v6 q1)) v6);(v6.length<=100000/\((v6.map fun iM:(List Str)=>iM).length < 64/\∀ x∈(v6.map fun iM:(List Str)=>iM),x.isEmpty=false))))))
def vM (vd:(List Str)) (va:(List aC)) {b_1:Bx} (h_1:Lp b_1 (va.map aX)):R pX [some ((zE (eT eS)) vd),some b_1,none,none,none,none,none,none,none] (fun r=>Out.rt ((oE (eT eS)) r)):=(dH 2 (R.to (yF (Pa (aq 0 (zE (eT eS)) vd rfl)) _ (fun _=>rfl) (fun vh:Str=>(SQ (pR (gk (aq 0 (zE eS) vh rfl) (lq eS)) (Nat.le_of_ble_eq_true rfl)))) fun _=>rfl) ((vd.map fun vh:Str=>[vh])) (some (vd.length<=100000))) (fun _=>rfl) fun v6=>(Wn 1 va (acT h_1 rfl) (fun v6:(List (List Str))=>[some ((zE (eT eS)) vd),some b_1,some ((oE (eL eS)) v6),none,none,none,none,none,none]) v6 rfl _ (fun _ _=>rfl) (fun (v6:(List (List Str))) (q1:aC)=>(Ew vd va h_1 v6 q1)) fun v6=>(lB (fun r=>r) (R.to (Zx (nG (yF (Gb (lY (aq 2 (lE (eL eS)) v6 rfl))) _ (fun _=>rfl) (fun iM:(List Str)=>(lU (rJ (pq (aq 0 (zE (eL eS)) iM rfl))))) fun _=>rfl))) ((qb (v6.map fun iM:(List Str)=>iM))) (some ((v6.length<=100000/\((v6.map fun iM:(List Str)=>iM).length < 64/\∀ x∈(v6.map fun iM:(List Str)=>iM),x.isEmpty=false))))) (fun _=>rfl) fun _=>rfl)))
theorem Kd (vd:(List Str)) (va:(List aC)) {b_1:Bx} (h_1:Lp b_1 (va.map aX)):(vM vd va h_1).v=m7 vd va:=by kernel_rfl
theorem Ke (vd:(List Str)) (va:(List aC)) {b_1:Bx} (h_1:Lp b_1 (va.map aX)):(vM vd va h_1).D=some (m9 vd va):=by kernel_rfl
theorem MN:∀ v bs,(aZ (eT eS) (aL aX aN)) v bs->bs.length=2/\(hold (some (m9 v.1 v.2.1))->iT (bs.map lend)=some ((oE (eT eS)) (m7 v.1 v.2.1))):=by
 rintro⟨vd,va,_⟩ _ ⟨_,rfl,⟨b_1,_,rfl,h_1,rfl⟩⟩
 exact⟨rfl,fun h=>(lA (g:=pX) (n:=9) (bs:=[.z ((eT eS) vd),lend b_1]) (vM vd va (lR h_1)) ((congrArg hold (Ke vd va (lR h_1))).mpr h)).trans (congrArg (fun r=>some ((oE (eT eS)) r)) (Kd vd va (lR h_1)))⟩
def gZ (v8:cY) (vi:gn) (v5:Int) (vd:(List Str)) (va:(List aC)) (vb:(List cX)) (vY:(List aC)) (v6:gn):Bool:=(if (!decide (v6.2.1=((vi.2.1.filter fun gF:aC=>(fP gF vY)).map fun gF:aC=>gF)))=true then false else (if (!decide (v6.2.2=((vi.2.2.filter fun Ey:iK=>(fP Ey.1 vY)).map fun Ey:iK=>Ey)))=true then false else (decide (v6.1=(m7 vd v6.2.1)))))
def ni (v8:cY) (vi:gn) (v5:Int) (vd:(List Str)) (va:(List aC)) (vb:(List cX)) (vY:(List aC)) (v6:gn):Prop:=(vi.2.1.length<=100000/\((!decide (v6.2.1=((vi.2.1.filter fun gF:aC=>(fP gF vY)).map fun gF:aC=>gF)))=false->(vi.2.2.length<=100000/\((!decide (v6.2.2=((vi.2.2.filter fun Ey:iK=>(fP Ey.1 vY)).map fun Ey:iK=>Ey)))=false->(m9 vd v6.2.1)))))
def nj:Ev->Option Out:=(aD (Aa (qy N5 (b2 iD (gv 7) (cB (.int 1))) (dU (Ab (b2 iD (gv 1) (cB (.int 1)))) (jX 1) (qy inX (gv 1) (gv 0)) (gv 1) [6] 1)) (aD (kY (cB (.bl false))) jD) jD) (aD (Aa (qy N5 (b2 iD (gv 7) (cB (.int 2))) (dU (Ab (b2 iD (gv 1) (cB (.int 2)))) (jX 1) (qy inX (b2 iD (gv 1) (cB (.int 0))) (gv 0)) (gv 1) [6] 1)) (aD (kY (cB (.bl false))) jD) jD) (aD (kY (b2 eqB (b2 iD (gv 7) (cB (.int 0))) (fL 2 iT (ao (gv 3) (ao (b2 iD (gv 7) (cB (.int 1))) aR))))) jD)))
def vN (v8:cY) (vi:gn) (v5:Int) (vd:(List Str)) (va:(List aC)) (vb:(List cX)) (vY:(List aC)) (v6:gn):R nj [some ((zE eG) v8),some ((zE gq) vi),some ((zE eI) v5),some ((zE (eT eS)) vd),some ((zE (eT aX)) va),some ((zE (eT fQ)) vb),some ((zE (eT aX)) vY),some ((zE gq) v6)] (fun r=>Out.rt ((zE eB) r)):=R.to (DN (R.to (gK (V9 (by decide) (pq (jU (aq 7 (zE gq) v6 rfl) (fun q=>q.2.1) (eL aX) 1 fun _=>rfl)) (nG (jZ (Gb (pq (jU (aq 1 (zE gq) vi rfl) (fun q=>q.2.1) (eL aX) 1 fun _=>rfl))) _ (fun _=>rfl) (fun gF:aC=>(gK (JH (by decide) (aq 1 (zE aX) gF rfl) (aq 0 (zE (eT aX)) vY rfl)))) (fun gF:aC=>(aq 1 (zE aX) gF rfl)) (fun _=>rfl) fun _=>rfl)))) ((!decide (v6.2.1=((vi.2.1.filter fun gF:aC=>(fP gF vY)).map fun gF:aC=>gF)))) (some (vi.2.1.length<=100000))) (dG (lB (fun r=>r) (cI (.bl false) eB false rfl) (fun _=>rfl) fun _=>rfl)) (fV (DN (R.to (gK (V9 (by decide) (pq (jU (aq 7 (zE gq) v6 rfl) (fun q=>q.2.2) (eL uG) 2 fun _=>rfl)) (nG (jZ (Gb (pq (jU (aq 1 (zE gq) vi rfl) (fun q=>q.2.2) (eL uG) 2 fun _=>rfl))) _ (fun _=>rfl) (fun Ey:iK=>(gK (JH (by decide) (jU (aq 1 (zE uG) Ey rfl) (fun q=>q.1) aX 0 fun _=>rfl) (aq 0 (zE (eT aX)) vY rfl)))) (fun Ey:iK=>(aq 1 (zE uG) Ey rfl)) (fun _=>rfl) fun _=>rfl)))) ((!decide (v6.2.2=((vi.2.2.filter fun Ey:iK=>(fP Ey.1 vY)).map fun Ey:iK=>Ey)))) (some (vi.2.2.length<=100000))) (dG (lB (fun r=>r) (cI (.bl false) eB false rfl) (fun _=>rfl) fun _=>rfl)) (fV (lB (fun r=>r) (R.to (aan (by decide) (pq (jU (aq 7 (zE gq) v6 rfl) (fun q=>q.1) (eL (eT eS)) 0 fun _=>rfl)) (nG (x_call MN (jh (aq 3 (zE (eT eS)) vd rfl) (Mg (pq (jU (aq 7 (zE gq) v6 rfl) (fun q=>q.2.1) (eL aX) 1 fun _=>rfl)) gM))))) ((decide (v6.1=(m7 vd v6.2.1)))) (some ((m9 vd v6.2.1)))) (fun _=>rfl) fun _=>rfl))))) (gZ v8 vi v5 vd va vb vY v6) (some (ni v8 vi v5 vd va vb vY v6))
def jB (v8:cY) (vi:gn) (v5:Int) (vd:(List Str)) (va:(List aC)) (vb:(List cX)) (vY:(List aC)):Bool:=(let v6:=(aG (vd,vY,vb));(gZ v8 vi v5 vd va vb vY v6))
def jC (v8:cY) (vi:gn) (v5:Int) (vd:(List Str)) (va:(List aC)) (vb:(List cX)) (vY:(List aC)):Prop:=((dw (vd,vY,vb))/\(let v6:=(aG (vd,vY,vb));(ni v8 vi v5 vd va vb vY v6)))
def nq:Ev->Option Out:=(aD (setG 7 (fL 1 cU (ao (fJ rC (ao (gv 3) (ao (gv 6) (ao (gv 5) aR)))) aR))) nj)
def vO (v8:cY) (vi:gn) (v5:Int) (vd:(List Str)) (va:(List aC)) (vb:(List cX)) (vY:(List aC)):R nq [some ((zE eG) v8),some ((zE gq) vi),some ((zE eI) v5),some ((zE (eT eS)) vd),some ((zE (eT aX)) va),some ((zE (eT fQ)) vb),some ((zE (eT aX)) vY),none] (fun r=>Out.rt ((zE eB) r)):=R.to (dH 7 (R.to (x_call oU (jh (zM (aq 3 (zE (eT eS)) vd rfl) (aq 6 (zE (eT aX)) vY rfl) (aq 5 (zE (eT fQ)) vb rfl)) gM)) ((aG (vd,vY,vb))) (some ((dw (vd,vY,vb))))) (fun _=>rfl) fun v6=>(vN v8 vi v5 vd va vb vY v6)) (jB v8 vi v5 vd va vb vY) (some (jC v8 vi v5 vd va vb vY))
def nu (v8:cY) (vi:gn) (v5:Int) (vd:(List Str)) (va:(List aC)) (vb:(List cX)):Bool:=(let vY:=(cut va none (some v5));(jB v8 vi v5 vd va vb vY))
def nA (v8:cY) (vi:gn) (v5:Int) (vd:(List Str)) (va:(List aC)) (vb:(List cX)):Prop:=(let vY:=(cut va none (some v5));(jC v8 vi v5 vd va vb vY))
def vP:Ev->Option Out:=(aD (setG 6 (BP (gv 4) ju (lQ (gv 2)))) nq)
def vQ (v8:cY) (vi:gn) (v5:Int) (vd:(List Str)) (va:(List aC)) (vb:(List cX)):R vP [some ((zE eG) v8),some ((zE gq) vi),some ((zE eI) v5),some ((zE (eT eS)) vd),some ((zE (eT aX)) va),some ((zE (eT fQ)) vb),none,none] (fun r=>Out.rt ((zE eB) r)):=R.to (dH 6 (R.to (aap (aq 4 (zE (eT aX)) va rfl) O6 (O7 (aq 2 (zE eI) v5 rfl))) ((cut va none (some v5))) none) (fun _=>rfl) fun vY=>(vO v8 vi v5 vd va vb vY)) (nu v8 vi v5 vd va vb) (some (nA v8 vi v5 vd va vb))
def dJ (v8:cY) (vi:gn) (v5:Int):Bool:=(let q1:=v8;(nu v8 vi v5 q1.1 q1.2.1 q1.2.2))
def fX (v8:cY) (vi:gn) (v5:Int):Prop:=(let q1:=v8;(nA v8 vi v5 q1.1 q1.2.1 q1.2.2))
def lN (v8:cY) (vi:gn) (v5:Int):R jo [some ((zE eG) v8),some ((zE gq) vi),some ((zE eI) v5),none,none,none,none,none] (fun r=>Out.rt ((zE eB) r)):=(QG (aq 0 (zE eG) v8 rfl) _ (fun _=>rfl) fun q1=>(vQ v8 vi v5 q1.1 q1.2.1 q1.2.2))
theorem xJ (v8:cY) (vi:gn) (v5:Int):(lN v8 vi v5).v=dJ v8 vi v5:=by kernel_rfl
theorem xK (v8:cY) (vi:gn) (v5:Int):(lN v8 vi v5).D=some (fX v8 vi v5):=by kernel_rfl
theorem yU:∀ v bs,(aZ eG (aZ gq (aZ eI aN))) v bs->bs.length=3/\(hold (some (fX v.1 v.2.1 v.2.2.1))->dI (bs.map lend)=some ((zE eB) (dJ v.1 v.2.1 v.2.2.1))):=by
 rintro⟨v8,vi,v5,_⟩ _ ⟨_,rfl,⟨_,rfl,⟨_,rfl,rfl⟩⟩⟩
 exact⟨rfl,fun h=>(lA (g:=jo) (n:=8) (bs:=[.z (eG v8),.z (gq vi),.z (eI v5)]) (lN v8 vi v5) ((congrArg hold (xK v8 vi v5)).mpr h)).trans (congrArg (fun r=>some ((zE eB) r)) (xJ v8 vi v5))⟩
def eY (v8:cY) (vi:gn) (qW:(List aC)):Bool:=(let q1:=v8;(let v6:=(aG (q1.1,((q1.2.1.filter fun gF:aC=>(!fP gF qW)).map fun gF:aC=>gF),q1.2.2));(decide ((v6.1,v6.2.1)=(vi.1,vi.2.1)))))
def gj (v8:cY) (vi:gn) (qW:(List aC)):Prop:=(let q1:=v8;(q1.2.1.length<=100000/\(dw (q1.1,((q1.2.1.filter fun gF:aC=>(!fP gF qW)).map fun gF:aC=>gF),q1.2.2))))
def jW (v8:cY) (vi:gn) (qW:(List aC)) {b_2:Bx} (h_2:Lp b_2 (qW.map aX)):R iB [some ((zE eG) v8),some ((zE gq) vi),some b_2,none,none,none,none] (fun r=>Out.rt ((zE eB) r)):=(QG (aq 0 (zE eG) v8 rfl) _ (fun _=>rfl) fun q1=>(dH 6 (R.to (x_call oU (jh (zM (aq 3 (zE (eT eS)) q1.1 rfl) (lU (rJ (nG (jZ (Pa (aq 4 (zE (eT aX)) q1.2.1 rfl)) _ (fun _=>rfl) (fun gF:aC=>(gK (DQ (by decide) (aq 1 (zE aX) gF rfl) (pP 0 aX qW h_2 (congrArg some (h_2.get rfl)))))) (fun gF:aC=>(aq 1 (zE aX) gF rfl)) (fun _=>rfl) fun _=>rfl)))) (aq 5 (zE (eT fQ)) q1.2.2 rfl)) gM)) ((aG (q1.1,((q1.2.1.filter fun gF:aC=>(!fP gF qW)).map fun gF:aC=>gF),q1.2.2))) (some ((q1.2.1.length<=100000/\(dw (q1.1,((q1.2.1.filter fun gF:aC=>(!fP gF qW)).map fun gF:aC=>gF),q1.2.2)))))) (fun _=>rfl) fun v6=>(lB (fun r=>r) (R.to (x_eq (by decide) (QD (aq 6 (zE gq) v6 rfl) (fun q=>(q.1,q.2.1)) ZD none (some (2:Int)) rfl rfl fun _=>rfl) (QD (aq 1 (zE gq) vi rfl) (fun q=>(q.1,q.2.1)) ZD none (some (2:Int)) rfl rfl fun _=>rfl)) ((decide ((v6.1,v6.2.1)=(vi.1,vi.2.1)))) none) (fun _=>rfl) fun _=>rfl)))
theorem vR (v8:cY) (vi:gn) (qW:(List aC)) {b_2:Bx} (h_2:Lp b_2 (qW.map aX)):(jW v8 vi qW h_2).v=eY v8 vi qW:=by kernel_rfl
theorem vU (v8:cY) (vi:gn) (qW:(List aC)) {b_2:Bx} (h_2:Lp b_2 (qW.map aX)):(jW v8 vi qW h_2).D=some (gj v8 vi qW):=by kernel_rfl
theorem wC:∀ v bs,(aZ eG (aZ gq (aL aX aN))) v bs->bs.length=3/\(hold (some (gj v.1 v.2.1 v.2.2.1))->dD (bs.map lend)=some ((zE eB) (eY v.1 v.2.1 v.2.2.1))):=by
 rintro⟨v8,vi,qW,_⟩ _ ⟨_,rfl,⟨_,rfl,⟨b_2,_,rfl,h_2,rfl⟩⟩⟩
 exact⟨rfl,fun h=>(lA (g:=iB) (n:=7) (bs:=[.z (eG v8),.z (gq vi),lend b_2]) (jW v8 vi qW (lR h_2)) ((congrArg hold (vU v8 vi qW (lR h_2))).mpr h)).trans (congrArg (fun r=>some ((zE eB) r)) (vR v8 vi qW (lR h_2)))⟩
def gC (v8:cY) (vi:gn) (gF:aC):Bool:=(let q1:=v8;(let v6:=(aG (q1.1,((q1.2.1.filter fun pI:aC=>(!decide (pI=gF))).map fun pI:aC=>pI),q1.2.2));(if (!fP gF vi.2.1)=true then (decide ((v6.1,v6.2.1)=(vi.1,vi.2.1))) else (let va9:=(cut q1.2.1 none (some (Wv gF q1.2.1:Int)));(decide (((v6.2.1.filter fun pH:aC=>(fP pH va9)).map fun pH:aC=>pH)=((vi.2.1.filter fun pH:aC=>(fP pH va9)).map fun pH:aC=>pH)))))))
def iI (v8:cY) (vi:gn) (gF:aC):Prop:=(let q1:=v8;((q1.2.1.length<=100000/\(dw (q1.1,((q1.2.1.filter fun pI:aC=>(!decide (pI=gF))).map fun pI:aC=>pI),q1.2.2)))/\(let v6:=(aG (q1.1,((q1.2.1.filter fun pI:aC=>(!decide (pI=gF))).map fun pI:aC=>pI),q1.2.2));((!fP gF vi.2.1)=false->(gF∈q1.2.1/\(let va9:=(cut q1.2.1 none (some (Wv gF q1.2.1:Int)));(v6.2.1.length<=100000/\vi.2.1.length<=100000)))))))
def mF (v8:cY) (vi:gn) (gF:aC):R jN [some ((zE eG) v8),some ((zE gq) vi),some ((zE aX) gF),none,none,none,none,none] (fun r=>Out.rt ((zE eB) r)):=(QG (aq 0 (zE eG) v8 rfl) _ (fun _=>rfl) fun q1=>(dH 6 (R.to (x_call oU (jh (zM (aq 3 (zE (eT eS)) q1.1 rfl) (lU (rJ (nG (jZ (Pa (aq 4 (zE (eT aX)) q1.2.1 rfl)) _ (fun _=>rfl) (fun pI:aC=>(gK (Zh (by decide) (aq 1 (zE aX) pI rfl) (aq 0 (zE aX) gF rfl)))) (fun pI:aC=>(aq 1 (zE aX) pI rfl)) (fun _=>rfl) fun _=>rfl)))) (aq 5 (zE (eT fQ)) q1.2.2 rfl)) gM)) ((aG (q1.1,((q1.2.1.filter fun pI:aC=>(!decide (pI=gF))).map fun pI:aC=>pI),q1.2.2))) (some ((q1.2.1.length<=100000/\(dw (q1.1,((q1.2.1.filter fun pI:aC=>(!decide (pI=gF))).map fun pI:aC=>pI),q1.2.2)))))) (fun _=>rfl) fun v6=>(DN (R.to (gK (DQ (by decide) (aq 2 (zE aX) gF rfl) (pq (jU (aq 1 (zE gq) vi rfl) (fun q=>q.2.1) (eL aX) 1 fun _=>rfl)))) ((!fP gF vi.2.1)) none) (dG (lB (fun r=>r) (R.to (x_eq (by decide) (QD (aq 6 (zE gq) v6 rfl) (fun q=>(q.1,q.2.1)) ZD none (some (2:Int)) rfl rfl fun _=>rfl) (QD (aq 1 (zE gq) vi rfl) (fun q=>(q.1,q.2.1)) ZD none (some (2:Int)) rfl rfl fun _=>rfl)) ((decide ((v6.1,v6.2.1)=(vi.1,vi.2.1)))) none) (fun _=>rfl) fun _=>rfl)) (fV (dH 7 (R.to (aap (aq 4 (zE (eT aX)) q1.2.1 rfl) O6 (O7 (Zz (by decide) (aq 4 (zE (eT aX)) q1.2.1 rfl) (aq 2 (zE aX) gF rfl)))) ((cut q1.2.1 none (some (Wv gF q1.2.1:Int)))) (some (gF∈q1.2.1))) (fun _=>rfl) fun va9=>(lB (fun r=>r) (R.to (aan (by decide) (nG (jZ (Gb (pq (jU (aq 6 (zE gq) v6 rfl) (fun q=>q.2.1) (eL aX) 1 fun _=>rfl))) _ (fun _=>rfl) (fun pH:aC=>(gK (JH (by decide) (aq 1 (zE aX) pH rfl) (aq 0 (zE (eT aX)) va9 rfl)))) (fun pH:aC=>(aq 1 (zE aX) pH rfl)) (fun _=>rfl) fun _=>rfl)) (nG (jZ (Gb (pq (jU (aq 1 (zE gq) vi rfl) (fun q=>q.2.1) (eL aX) 1 fun _=>rfl))) _ (fun _=>rfl) (fun pH:aC=>(gK (JH (by decide) (aq 1 (zE aX) pH rfl) (aq 0 (zE (eT aX)) va9 rfl)))) (fun pH:aC=>(aq 1 (zE aX) pH rfl)) (fun _=>rfl) fun _=>rfl))) ((decide (((v6.2.1.filter fun pH:aC=>(fP pH va9)).map fun pH:aC=>pH)=((vi.2.1.filter fun pH:aC=>(fP pH va9)).map fun pH:aC=>pH)))) (some ((v6.2.1.length<=100000/\vi.2.1.length<=100000)))) (fun _=>rfl) fun _=>rfl))))))
theorem yV (v8:cY) (vi:gn) (gF:aC):(mF v8 vi gF).v=gC v8 vi gF:=by kernel_rfl
theorem yW (v8:cY) (vi:gn) (gF:aC):(mF v8 vi gF).D=some (iI v8 vi gF):=by kernel_rfl
theorem z6:∀ v bs,(aZ eG (aZ gq (aZ aX aN))) v bs->bs.length=3/\(hold (some (iI v.1 v.2.1 v.2.2.1))->dY (bs.map lend)=some ((zE eB) (gC v.1 v.2.1 v.2.2.1))):=by
 rintro⟨v8,vi,gF,_⟩ _ ⟨_,rfl,⟨_,rfl,⟨_,rfl,rfl⟩⟩⟩
 exact⟨rfl,fun h=>(lA (g:=jN) (n:=8) (bs:=[.z (eG v8),.z (gq vi),.z (aX gF)]) (mF v8 vi gF) ((congrArg hold (yW v8 vi gF)).mpr h)).trans (congrArg (fun r=>some ((zE eB) r)) (yV v8 vi gF))⟩
def qX (v8:cY) (vi:gn) (s1:Unit) (qW:(List aC)):Fy (Unit) Bool:=(if (!(eY v8 vi qW))=true then (Fy.rt false) else (Fy.nx ()))
def Ez (v8:cY) (vi:gn) (s1:Unit) (qW:(List aC)):Prop:=(gj v8 vi qW)
def Wz (v0:(List Int)) {d7:Bx} (gP:Lp d7 (v0.map eI)) (v1:(List Int)) (v8:cY) (vi:gn) (lO:(List aC)) (pJ:(List aC)) (s1:Unit) (qW:(List aC)):R DW [some d7,some ((oE eI) v1),some ((zE eG) v8),some ((zE gq) vi),some ((zE (eL aX)) lO),some ((zE (eL aX)) pJ),some ((zE (eL aX)) qW)] (cC (fun s1:Unit=>[some d7,some ((oE eI) v1),some ((zE eG) v8),some ((zE gq) vi),some ((zE (eL aX)) lO),some ((zE (eL aX)) pJ),none]) (zE eB)):=R.to (dG (DN (R.to (aao (aeL (x_call wC (jh (aq 2 (zE eG) v8 rfl) (jh (aq 3 (zE gq) vi rfl) (Mg (pq (aq 6 (zE (eL aX)) qW rfl)) gM)))))) ((!(eY v8 vi qW))) (some ((gj v8 vi qW)))) (dG (lB .rt (cI (.bl false) eB false rfl) (fun _=>rfl) fun _=>rfl)) (fV (fV (dh (.nx ()) rfl))))) (qX v8 vi s1 qW) (some (Ez v8 vi s1 qW))
def yX (v0:(List Int)) (v1:(List Int)) (v8:cY) (vi:gn) (lO:(List aC)) (pJ:(List aC)):Bool:=((v8.2.1.map fun gF:aC=>(gC v8 vi gF)).all id)
def EY (v0:(List Int)) (v1:(List Int)) (v8:cY) (vi:gn) (lO:(List aC)) (pJ:(List aC)):Prop:=(v8.2.1.length<=100000/\(∀ gF∈v8.2.1,(iI v8 vi gF)))
def MP:Ev->Option Out:=(aD (kY (fJ allB (ao (dU (Ab (b2 iD (gv 2) (cB (.int 1)))) (jX 2) rD (b1 rB (fL 3 dY (ao (gv 0) (ao (gv 1) (ao (gv 2) aR))))) [2,3] 1) aR))) jD)
def WD (v0:(List Int)) {d7:Bx} (gP:Lp d7 (v0.map eI)) (v1:(List Int)) (v8:cY) (vi:gn) (lO:(List aC)) (pJ:(List aC)):R MP [some d7,some ((oE eI) v1),some ((zE eG) v8),some ((zE gq) vi),some ((zE (eL aX)) lO),some ((zE (eL aX)) pJ),none] (fun r=>Out.rt ((zE eB) r)):=R.to (lB (fun r=>r) (R.to (aar (nG (O9 (Pa (jU (aq 2 (zE eG) v8 rfl) (fun q=>q.2.1) (eT aX) 1 fun _=>rfl)) _ (fun _=>rfl) (fun gF:aC=>(lU (x_call z6 (jh (aq 0 (zE eG) v8 rfl) (jh (aq 1 (zE gq) vi rfl) (jh (aq 2 (zE aX) gF rfl) gM))))))))) (((v8.2.1.map fun gF:aC=>(gC v8 vi gF)).all id)) (some ((v8.2.1.length<=100000/\(∀ gF∈v8.2.1,(iI v8 vi gF)))))) (fun _=>rfl) fun _=>rfl) (yX v0 v1 v8 vi lO pJ) (some (EY v0 v1 v8 vi lO pJ))
def Fb (v0:(List Int)) (v1:(List Int)) (v8:cY) (vi:gn) (lO:(List aC)) (pJ:(List aC)):Bool:=(behind (pG (fun (s1:Unit) (qW:(List aC))=>((qX v8 vi s1 qW):Fy (Unit) Bool)) [lO,pJ,(lO++pJ),(cut pJ none (some (1:Int))),(cut lO (some (-(1:Int))) none)] ()) (fun r=>r) fun s1:Unit=>(yX v0 v1 v8 vi lO pJ))
def Fd (v0:(List Int)) (v1:(List Int)) (v8:cY) (vi:gn) (lO:(List aC)) (pJ:(List aC)):Prop:=((HD (lO.length+pJ.length)/\yH (fun (s1:Unit) (qW:(List aC))=>((qX v8 vi s1 qW):Fy (Unit) Bool)) (fun (s1:Unit) (qW:(List aC))=>some (Ez v8 vi s1 qW)) [lO,pJ,(lO++pJ),(cut pJ none (some (1:Int))),(cut lO (some (-(1:Int))) none)] ())/\(yJ (pG (fun (s1:Unit) (qW:(List aC))=>((qX v8 vi s1 qW):Fy (Unit) Bool)) [lO,pJ,(lO++pJ),(cut pJ none (some (1:Int))),(cut lO (some (-(1:Int))) none)] ()) fun s1:Unit=>(EY v0 v1 v8 vi lO pJ)))
def M4:Ev->Option Out:=(Tn 4 (Tn 5 (aD (qz (itF (fJ nD (ao (gv 4) (ao (gv 5) (ao (b1 rB (b2 jt (gv 4) (gv 5))) (ao (b1 rB (BP (gv 5) ju (lQ (cB (.int 1))))) (ao (b1 rB (BP (gv 4) (lQ (b1 RB (cB (.int 1)))) ju)) aR))))))) (jX 6) DW) MP)))
def WK (v0:(List Int)) {d7:Bx} (gP:Lp d7 (v0.map eI)) (v1:(List Int)) (v8:cY) (vi:gn) (lO:(List aC)) (pJ:(List aC)):R M4 [some d7,some ((oE eI) v1),some ((zE eG) v8),some ((zE gq) vi),some ((oE aX) lO),some ((oE aX) pJ),none] (fun r=>Out.rt ((zE eB) r)):=R.to (Zy 4 [some d7,some ((oE eI) v1),some ((zE eG) v8),some ((zE gq) vi),some ((zE (eL aX)) lO),some ((oE aX) pJ),none] rfl (Zy 5 [some d7,some ((oE eI) v1),some ((zE eG) v8),some ((zE gq) vi),some ((zE (eL aX)) lO),some ((zE (eL aX)) pJ),none] rfl (acQ (fun s1:Unit=>[some d7,some ((oE eI) v1),some ((zE eG) v8),some ((zE gq) vi),some ((zE (eL aX)) lO),some ((zE (eL aX)) pJ),none]) () rfl (R.to (acO (pR (gk (aq 4 (zE (eL aX)) lO rfl) (gk (aq 5 (zE (eL aX)) pJ rfl) (gk (SQ (O8 (pq (aq 4 (zE (eL aX)) lO rfl)) (pq (aq 5 (zE (eL aX)) pJ rfl)))) (gk (SQ (acI (pq (aq 5 (zE (eL aX)) pJ rfl)) O6 (O7 (cI (.int 1) eI (1:Int) rfl)))) (gk (SQ (acI (pq (aq 4 (zE (eL aX)) lO rfl)) (O7 (aeJ (cI (.int 1) eI (1:Int) rfl))) O6)) (lq (eL aX))))))) (Nat.le_of_ble_eq_true rfl))) ([lO,pJ,(lO++pJ),(cut pJ none (some (1:Int))),(cut lO (some (-(1:Int))) none)]) (some (HD (lO.length+pJ.length)))) _ (fun _ _=>rfl) (fun (s1:Unit) (qW:(List aC))=>((Wz v0 gP v1 v8 vi lO pJ s1 qW):R _ _ (cC (fun s1:Unit=>[some d7,some ((oE eI) v1),some ((zE eG) v8),some ((zE gq) vi),some ((zE (eL aX)) lO),some ((zE (eL aX)) pJ),none]) (zE eB)))) (fun r=>r) (fun _=>rfl) fun s1=>(WD v0 gP v1 v8 vi lO pJ)))) (Fb v0 v1 v8 vi lO pJ) (some (Fd v0 v1 v8 vi lO pJ))
def Fe (v0:(List Int)) (v1:(List Int)) (v8:cY) (vi:gn) (lO:(List aC)):Bool:=(let pJ:=((v8.2.1.filter fun gF:aC=>((!fP gF vi.2.1)&&(!fP gF lO))).map fun gF:aC=>gF);(Fb v0 v1 v8 vi lO pJ))
def Fg (v0:(List Int)) (v1:(List Int)) (v8:cY) (vi:gn) (lO:(List aC)):Prop:=(v8.2.1.length<=100000/\(let pJ:=((v8.2.1.filter fun gF:aC=>((!fP gF vi.2.1)&&(!fP gF lO))).map fun gF:aC=>gF);(Fd v0 v1 v8 vi lO pJ)))
def M5:Ev->Option Out:=(aD (setG 5 (dU (Ab (b2 iD (gv 2) (cB (.int 1)))) (jX 2) (Iu (qy Dy (gv 2) (b2 iD (gv 1) (cB (.int 1)))) (qy Dy (gv 2) (gv 0))) (gv 2) [4,3] 1)) M4)
def WL (v0:(List Int)) {d7:Bx} (gP:Lp d7 (v0.map eI)) (v1:(List Int)) (v8:cY) (vi:gn) (lO:(List aC)):R M5 [some d7,some ((oE eI) v1),some ((zE eG) v8),some ((zE gq) vi),some ((oE aX) lO),none,none] (fun r=>Out.rt ((zE eB) r)):=R.to (dH 5 (R.to (jZ (Pa (jU (aq 2 (zE eG) v8 rfl) (fun q=>q.2.1) (eT aX) 1 fun _=>rfl)) _ (fun _=>rfl) (fun gF:aC=>(Wa (gK (DQ (by decide) (aq 2 (zE aX) gF rfl) (pq (jU (aq 1 (zE gq) vi rfl) (fun q=>q.2.1) (eL aX) 1 fun _=>rfl)))) (gK (DQ (by decide) (aq 2 (zE aX) gF rfl) (lY (aq 0 (lE aX) lO rfl)))))) (fun gF:aC=>(aq 2 (zE aX) gF rfl)) (fun _=>rfl) fun _=>rfl) (((v8.2.1.filter fun gF:aC=>((!fP gF vi.2.1)&&(!fP gF lO))).map fun gF:aC=>gF)) (some (v8.2.1.length<=100000))) (fun _=>rfl) fun pJ=>(WK v0 gP v1 v8 vi lO pJ)) (Fe v0 v1 v8 vi lO) (some (Fg v0 v1 v8 vi lO))
def yZ (v0:(List Int)) (v1:(List Int)) (v8:cY) (vi:gn):Bool:=(if (!(((rng 0 ((v8.2.1.length:Int)+(1:Int)).toNat).map fun v5:Int=>(dJ v8 vi v5)).all id))=true then false else (let lO:=(vi.2.2.map fun Ey:iK=>Ey.1);(Fe v0 v1 v8 vi lO)))
def M6 (v0:(List Int)) (v1:(List Int)) (v8:cY) (vi:gn):Prop:=(((Rg ((v8.2.1.length:Int)+(1:Int))/\(rng 0 ((v8.2.1.length:Int)+(1:Int)).toNat).length<=100000)/\(∀ v5∈(rng 0 ((v8.2.1.length:Int)+(1:Int)).toNat),(fX v8 vi v5)))/\((!(((rng 0 ((v8.2.1.length:Int)+(1:Int)).toNat).map fun v5:Int=>(dJ v8 vi v5)).all id))=false->(vi.2.2.length<=100000/\(let lO:=(vi.2.2.map fun Ey:iK=>Ey.1);(Fg v0 v1 v8 vi lO)))))
def M7:Ev->Option Out:=(aD (Aa (NP (tV (fJ allB (ao (dU (Qd (ao (b2 jt (fJ zu (ao (b2 iD (gv 2) (cB (.int 1))) aR)) (cB (.int 1))) aR)) (jX 2) rD (b1 rB (fL 3 dI (ao (gv 0) (ao (gv 1) (ao (gv 2) aR))))) [2,3] 1) aR)))) (aD (kY (cB (.bl false))) jD) jD) (aD (setG 4 (dU (Ab (b2 iD (gv 3) (cB (.int 2)))) (jX 0) rD (b2 iD (gv 0) (cB (.int 0))) [] 1)) M5))
def WM (v0:(List Int)) {d7:Bx} (gP:Lp d7 (v0.map eI)) (v1:(List Int)) (v8:cY) (vi:gn):R M7 [some d7,some ((oE eI) v1),some ((zE eG) v8),some ((zE gq) vi),none,none,none] (fun r=>Out.rt ((zE eB) r)):=R.to (DN (R.to (aao (aeL (aar (nG (O9 (HN (lV (acK (jU (aq 2 (zE eG) v8 rfl) (fun q=>q.2.1) (eT aX) 1 fun _=>rfl)) (cI (.int 1) eI (1:Int) rfl))) _ (fun _=>rfl) (fun v5:Int=>(lU (x_call yU (jh (aq 0 (zE eG) v8 rfl) (jh (aq 1 (zE gq) vi rfl) (jh (aq 2 (zE eI) v5 rfl) gM))))))))))) ((!(((rng 0 ((v8.2.1.length:Int)+(1:Int)).toNat).map fun v5:Int=>(dJ v8 vi v5)).all id))) (some (((Rg ((v8.2.1.length:Int)+(1:Int))/\(rng 0 ((v8.2.1.length:Int)+(1:Int)).toNat).length<=100000)/\(∀ v5∈(rng 0 ((v8.2.1.length:Int)+(1:Int)).toNat),(fX v8 vi v5)))))) (dG (lB (fun r=>r) (cI (.bl false) eB false rfl) (fun _=>rfl) fun _=>rfl)) (fV (dH 4 (R.to (yF (Gb (pq (jU (aq 3 (zE gq) vi rfl) (fun q=>q.2.2) (eL uG) 2 fun _=>rfl))) _ (fun _=>rfl) (fun Ey:iK=>(jU (aq 0 (zE uG) Ey rfl) (fun q=>q.1) aX 0 fun _=>rfl)) fun _=>rfl) ((vi.2.2.map fun Ey:iK=>Ey.1)) (some (vi.2.2.length<=100000))) (fun _=>rfl) fun lO=>(WL v0 gP v1 v8 vi lO)))) (yZ v0 v1 v8 vi) (some (M6 v0 v1 v8 vi))
def Fi (v0:(List Int)) (v1:(List Int)) (v8:cY):Bool:=(let vi:=(aG v8);(yZ v0 v1 v8 vi))
def Fj (v0:(List Int)) (v1:(List Int)) (v8:cY):Prop:=((dw v8)/\(let vi:=(aG v8);(M6 v0 v1 v8 vi)))
def M8:Ev->Option Out:=(aD (setG 3 (fL 1 cU (ao (gv 2) aR))) M7)
def WQ (v0:(List Int)) {d7:Bx} (gP:Lp d7 (v0.map eI)) (v1:(List Int)) (v8:cY):R M8 [some d7,some ((oE eI) v1),some ((zE eG) v8),none,none,none,none] (fun r=>Out.rt ((zE eB) r)):=R.to (dH 3 (R.to (x_call oU (jh (aq 2 (zE eG) v8 rfl) gM)) ((aG v8)) (some ((dw v8)))) (fun _=>rfl) fun vi=>(WM v0 gP v1 v8 vi)) (Fi v0 v1 v8) (some (Fj v0 v1 v8))
def Fl (v0:(List Int)) (v1:(List Int)):Bool:=(let v8:=(jQ v0 (0:Int) ((at' v1 (6:Int)) % (10:Int)) ((at' v1 (7:Int)) % (15:Int)) ((at' v1 (8:Int)) % (7:Int)));(Fi v0 v1 v8))
def Fo (v0:(List Int)) (v1:(List Int)):Prop:=(((In v1.length (6:Int)/\(In v1.length (7:Int)/\In v1.length (8:Int)))/\(lJ v0 (0:Int) ((at' v1 (6:Int)) % (10:Int)) ((at' v1 (7:Int)) % (15:Int)) ((at' v1 (8:Int)) % (7:Int))))/\(let v8:=(jQ v0 (0:Int) ((at' v1 (6:Int)) % (10:Int)) ((at' v1 (7:Int)) % (15:Int)) ((at' v1 (8:Int)) % (7:Int)));(Fj v0 v1 v8)))
def WR:Ev->Option Out:=(aD (setG 2 (fL 5 gU (ao (gv 0) (ao (cB (.int 0)) (ao (b2 jg (b2 iD (gv 1) (cB (.int 6))) (cB (.int 10))) (ao (b2 jg (b2 iD (gv 1) (cB (.int 7))) (cB (.int 15))) (ao (b2 jg (b2 iD (gv 1) (cB (.int 8))) (cB (.int 7))) aR))))))) M8)
def WT (v0:(List Int)) {d7:Bx} (gP:Lp d7 (v0.map eI)) (v1:(List Int)):R WR [some d7,some ((oE eI) v1),none,none,none,none,none] (fun r=>Out.rt ((zE eB) r)):=R.to (dH 2 (R.to (x_call J8 (Mg (pP 0 eI v0 gP rfl) (jh (cI (.int 0) eI (0:Int) rfl) (jh (ig (lu (lY (aq 1 (lE eI) v1 rfl)) (cI (.int 6) eI (6:Int) rfl)) 10 (by decide)) (jh (ig (lu (lY (aq 1 (lE eI) v1 rfl)) (cI (.int 7) eI (7:Int) rfl)) 15 (by decide)) (jh (ig (lu (lY (aq 1 (lE eI) v1 rfl)) (cI (.int 8) eI (8:Int) rfl)) 7 (by decide)) gM)))))) ((jQ v0 (0:Int) ((at' v1 (6:Int)) % (10:Int)) ((at' v1 (7:Int)) % (15:Int)) ((at' v1 (8:Int)) % (7:Int)))) (some (((In v1.length (6:Int)/\(In v1.length (7:Int)/\In v1.length (8:Int)))/\(lJ v0 (0:Int) ((at' v1 (6:Int)) % (10:Int)) ((at' v1 (7:Int)) % (15:Int)) ((at' v1 (8:Int)) % (7:Int))))))) (fun _=>rfl) fun v8=>(WQ v0 gP v1 v8)) (Fl v0 v1) (some (Fo v0 v1))
def QS (v0:(List Int)):Bool:=(let v1:=(bA (aY v0 (0:Int)) (12:Int));(Fl v0 v1))
def QT (v0:(List Int)):Prop:=(((dF v0 (0:Int))/\(dN (aY v0 (0:Int)) (12:Int)))/\(let v1:=(bA (aY v0 (0:Int)) (12:Int));(Fo v0 v1)))
def WW (v0:(List Int)) {d7:Bx} (gP:Lp d7 (v0.map eI)):R QM [some d7,none,none,none,none,none,none] (fun r=>Out.rt ((zE eB) r)):=(dH 1 (R.to (x_call mU (jh (R.to (lU (x_call rW (Mg (pP 0 eI v0 gP rfl) (jh (cI (.int 0) eI (0:Int) rfl) gM)))) ((aY v0 (0:Int))) (some ((dF v0 (0:Int))))) (jh (cI (.int 12) eI (12:Int) rfl) gM))) ((bA (aY v0 (0:Int)) (12:Int))) (some (((dF v0 (0:Int))/\(dN (aY v0 (0:Int)) (12:Int)))))) (fun _=>rfl) fun v1=>(WT v0 gP v1))
theorem ac2 (v0:(List Int)) {d7:Bx} (gP:Lp d7 (v0.map eI)):(WW v0 gP).v=QS v0:=by kernel_rfl
theorem ac3 (v0:(List Int)) {d7:Bx} (gP:Lp d7 (v0.map eI)):(WW v0 gP).D=some (QT v0):=by kernel_rfl
theorem aax:∀ v bs,(aL eI aN) v bs->bs.length=1/\(hold (some (QT v.1))->pY (bs.map lend)=some ((zE eB) (QS v.1))):=by
 rintro⟨v0,_⟩ _ ⟨d7,_,rfl,gP,rfl⟩
 exact⟨rfl,fun h=>(lA (g:=QM) (n:=7) (bs:=[lend d7]) (WW v0 (lR gP)) ((congrArg hold (ac3 v0 (lR gP))).mpr h)).trans (congrArg (fun r=>some ((zE eB) r)) (ac2 v0 (lR gP)))⟩
theorem aay (h:∀ ns:List Int,ns.length<=63->QT ns/\QS ns=true):(∀ ns:List Int,ns.length<=63->pY [.z (.lst (ns.map .int))]=some (.z (.bl true)))/\∀ ns:List Int,ns.length<=63->pY [.l (ns.map .int)]=some (.z (.bl true)):=
 ⟨fun ns hn=>((aax (ns,()) [.z (.lst (ns.map .int))] ⟨_,_,rfl,rfl,rfl⟩).2 (h ns hn).1).trans (by rw[(h ns hn).2]),fun ns hn=>((aax (ns,()) [.l (ns.map .int)] ⟨_,_,rfl,rfl,rfl⟩).2 (h ns hn).1).trans (by rw[(h ns hn).2])⟩
end
theorem Kf (script:List Int) (k:Int) (h0:0<=k) (h1:k<=1000):dF script k:=by
 unfold dF
 exact⟨fun h=>in_of h0 (by simpa using h),fun _=>aau h0 (by omega)⟩
theorem WX (k:Nat) (s:Int×List Int×Int) (hk:k < 1000) (h:(0<=s.1/\s.1 < 1999999973)/\s.2.1.length=k/\(∀ x∈s.2.1,0<=x)/\0<=s.2.2):jO s k/\(0<=(dj s k).1/\(dj s k).1 < 1999999973)/\(dj s k).2.1.length=k+1/\(∀ x∈(dj s k).2.1,0<=x)/\0<=(dj s k).2.2:=by
 obtain⟨h1,h2,h3,h4⟩:=h
 have hin:In 2 (if (decide ((0:Int) < s.2.2))=true then (1:Int) else 0):=by split<;>exact in_of (by omega) (by omega)
 refine⟨⟨aau h1.1 (by omega),hin,?_⟩,qG _ (by decide),?_,?_,Int.ediv_nonneg h4 (by decide)⟩
 ·show s.2.1.length<=1000000
  omega
 ·show (s.2.1++[_]).length=k+1
  rw[List.length_append,h2];rfl
 ·intro x hx
  rcases List.mem_append.mp hx with hx|hx
  ·exact h3 x hx
  ·cases List.mem_singleton.mp hx
   have:=zN (xs:=[((((s.1 * ((s.1 % (65521:Int))+(40487:Int)))+((7:Int) * k))+(5:Int)) % (1999999973:Int)),(s.2.2 % (1000000:Int))]) hin
   simp only[List.mem_cons,List.not_mem_nil,or_false] at this
   rcases this with e|e<;>rw[e]
   ·exact (qG _ (by decide)).1
   ·exact (qG _ (by decide)).1
theorem Kg (c m:Int) (h0:0<=m) (h1:m<=1000):dN c m/\(bA c m).length=m.toNat/\∀ x∈bA c m,0<=x:=by
 have key:∀ st dg:Int,(0<=st/\st < 1999999973)->0<=dg->mD c m [] st dg/\(jP c m [] st dg).length=m.toNat/\∀ x∈jP c m [] st dg,0<=x:=fun st dg hs hd=>by
  have:=yL (P:=fun s k=>some (jO s k)) (fun k s=>(0<=s.1/\s.1 < 1999999973)/\s.2.1.length=k/\(∀ x∈s.2.1,0<=x)/\0<=s.2.2) (step:=fun s k=>dj s k) m.toNat (st,[],dg) ⟨hs,rfl,fun x h=>(by cases h),hd⟩ fun k s hk h=>WX k s (by omega) h
  exact⟨⟨HX h0 (by omega),this.1⟩,this.2.2.1,this.2.2.2.1⟩
 refine key _ _ (qG _ (by decide)) ?_
 dsimp only
 split<;>(try split)<;>omega
theorem vZ {α:Type} {m:List (Str×α)} {x:Str}:has m x=true↔x∈m.map (·.1):=by
 unfold has
 rw[List.any_eq_true,List.mem_map]
 constructor
 ·rintro⟨q,hq,h⟩;exact⟨q,hq,of_decide_eq_true h⟩
 ·rintro⟨q,hq,h⟩;exact⟨q,hq,decide_eq_true h⟩
theorem M9 {α:Type} [Inhabited α] {pre rest:List (Str×α)} {n:Str} {h:α} (hn:n∉pre.map (·.1)):look (pre++(n,h)::rest) n=h:=by
 unfold look
 have:pre.find? (fun q=>decide (q.1=n))=none:=List.find?_eq_none.mpr fun q hq e=>hn (List.mem_map.mpr ⟨q,hq,of_decide_eq_true e⟩)
 rw[List.find?_append,this]
 simp
theorem ZF {α:Type} {pre rest:List (Str×α)} {n:Str} {h v:α} (hn:n∉pre.map (·.1)) (hr:n∉rest.map (·.1)):put (pre++(n,h)::rest) n v=pre++(n,v)::rest:=by
 unfold put
 rw[if_pos (vZ.mpr (by simp))]
 have fix:∀ l:List (Str×α),n∉l.map (·.1)->l.map (fun q=>if q.1=n then (q.1,v) else q)=l:=fun l hl=>by
  conv=>rhs;rw[<-List.map_id l]
  refine List.map_congr_left fun q hq=>?_
  rw[if_neg fun e=>hl (List.mem_map.mpr ⟨q,hq,e⟩)]
  rfl
 rw[List.map_append,List.map_cons,fix pre hn,fix rest hr]
 simp
theorem S8 {α:Type} [Inhabited α] {m:List (Str×α)} {x:Str} (h:x∈m.map (·.1)):(x,look m x)∈m:=by
 unfold look
 cases hf:m.find? fun q=>decide (q.1=x) with
 |none=>
  obtain⟨q,hq,rfl⟩:=List.mem_map.mp h
  have:=List.find?_eq_none.mp hf q hq
  simp at this
 |some q=>
  have h1:=List.mem_of_find?_eq_some hf
  have h2:q.1=x:=by simpa using List.find?_some hf
  show (x,q.2)∈m
  rw[<-h2];exact h1
theorem Kh {α:Type} [Inhabited α] {m:List (Str×α)} (nd:(m.map (·.1)).Nodup) {q:Str×α} (h:q∈m):look m q.1=q.2:=by
 obtain⟨pre,rest,rfl⟩:=List.append_of_mem h
 have:q.1∉pre.map (·.1):=fun e=>by
  rw[List.map_append,List.map_cons,List.nodup_append] at nd
  exact nd.2.2 _ e _ (List.mem_cons_self ..) rfl
 exact M9 this
def mn (one other:Str):Str:=if Tq other one=true then other else one
def jn (one other h:Str):Str:=if h=one\/h=other then mn one other else h
theorem Nb (a b:Str):mn a b=a\/mn a b=b:=by unfold mn;split;exact .inr rfl;exact .inl rfl
def jm (m:List (Str×Str)) (one other:Str):List (Str×Str):=m.map fun q=>(q.1,jn one other q.2)
theorem QW (m:List (Str×Str)) (one other:Str):(jm m one other).map (·.1)=m.map (·.1):=by unfold jm;rw[List.map_map];rfl
theorem ZG {m:List (Str×Str)} {one other x:Str} (nd:(m.map (·.1)).Nodup) (h:x∈m.map (·.1)):look (jm m one other) x=jn one other (look m x):=by
 have h1:=S8 h
 have:(x,jn one other (look m x))∈jm m one other:=List.mem_map.mpr ⟨_,h1,rfl⟩
 exact Kh (by rw[QW];exact nd) this
theorem join_loop (one other:Str):∀ (post pre:List (Str×Str)),((pre++post).map (·.1)).Nodup->(pre++post).length < 1000 →
  uT (fun (heads:(List (Str×Str))) (name:Str)=>(fu one other (mn one other) heads name)) (fun (heads:(List (Str×Str))) (name:Str)=>some (nY one other (mn one other) heads name)) (post.map (·.1)) (pre++post) ∧
  (post.map (·.1)).foldl (fun (heads:(List (Str×Str))) (name:Str)=>(fu one other (mn one other) heads name)) (pre++post)=pre++jm post one other
 |[],pre,_,_=>⟨trivial,rfl⟩
 |(n,h)::rest,pre,nd,hl=>by
  have hn:n∉pre.map (·.1):=fun e=>by
   rw[List.map_append,List.map_cons,List.nodup_append] at nd
   exact nd.2.2 _ e _ (List.mem_cons_self ..) rfl
  have hr:n∉rest.map (·.1):=by
   rw[List.map_append,List.map_cons,List.nodup_append,List.nodup_cons] at nd
   exact nd.2.1.1
  have hh:has (pre++(n,h)::rest) n=true:=vZ.mpr (by simp)
  have e:fu one other (mn one other) (pre++(n,h)::rest) n=pre++(n,jn one other h)::rest:=by
   unfold fu
   dsimp only
   rw[M9 hn]
   unfold jn
   by_cases q:h=one\/h=other
   ·rw[if_pos q,if_pos (by simpa using q),ZF hn hr]
   ·rw[if_neg q,if_neg (by simpa using q)]
  have ih:=join_loop one other rest (pre++[(n,jn one other h)]) (by simpa using nd) (by simpa using hl)
  rw[List.append_assoc] at ih
  refine⟨⟨⟨⟨hh,fun _=>hh⟩,fun _=>hl⟩,?_⟩,?_⟩
  ·show uT _ _ _ (fu one other (mn one other) (pre++(n,h)::rest) n)
   rw[e];exact ih.1
  ·rw[List.map_cons,List.foldl_cons,e]
   rw[show pre++(n,jn one other h)::rest=pre++([(n,jn one other h)]++rest) by simp,ih.2]
   unfold jm
   simp
theorem ZJ {m:List (Str×Str)} (one other:Str) (nd:(m.map (·.1)).Nodup) (hl:m.length < 1000):oR m one other/\jT m one other=jm m one other:=join_loop one other m [] nd hl
theorem QX:∀ (qs m:List (Str×Str)),((m++qs).map (·.1)).Nodup->qs.foldl (fun m q=>put m q.1 q.2) m=m++qs
 |[],m,_=>by simp
 |q::qs,m,nd=>by
  rw[List.foldl_cons]
  have:put m q.1 q.2=m++[q]:=by
   unfold put
   rw[if_neg]
   intro e
   have e:=vZ.mp e
   rw[List.map_append,List.map_cons,List.nodup_append] at nd
   exact nd.2.2 _ e _ (List.mem_cons_self ..) rfl
  rw[this,QX qs (m++[q]) (by simpa using nd)]
  simp
theorem Cg (names:List Str) (nd:names.Nodup) (hl:names.length < 1000):lK names/\cM names=names.map fun n=>(n,n):=by
 refine⟨⟨hl,by omega⟩,?_⟩
 unfold cM mkD
 rw[QX _ [] (by rw[List.nil_append,List.map_map];show (names.map id).Nodup;rw[List.map_id];exact nd)]
 rfl
structure Hd (names:List Str) (m:List (Str×Str)):Prop where
 keys:m.map (·.1)=names
 nd:names.Nodup
 len:names.length < 1000
 mem:∀ x∈names,look m x∈names
 idem:∀ x∈names,look m (look m x)=look m x
theorem Hd.kn {names:List Str} {m:List (Str×Str)} (h:Hd names m):(m.map (·.1)).Nodup:=by rw[h.keys];exact h.nd
theorem Hd.ml {names:List Str} {m:List (Str×Str)} (h:Hd names m):m.length < 1000:=by rw[<-List.length_map (f:=(·.1)),h.keys];exact h.len
theorem Hd.has {names:List Str} {m:List (Str×Str)} (h:Hd names m) {x:Str} (hx:x∈names):has m x=true:=vZ.mpr (by rw[h.keys];exact hx)
theorem Hd.lone {names:List Str} (nd:names.Nodup) (hl:names.length < 1000):Hd names (names.map fun n=>(n,n)):=by
 have k:(names.map fun n=>(n,n)).map (·.1)=names:=by rw[List.map_map];show names.map id=names;rw[List.map_id]
 have lk:∀ x∈names,look (names.map fun n=>(n,n)) x=x:=fun x hx=>Kh (q:=(x,x)) (by rw[k];exact nd) (List.mem_map.mpr ⟨x,hx,rfl⟩)
 exact⟨k,nd,hl,fun x hx=>by rw[lk x hx];exact hx,fun x hx=>by rw[lk x hx,lk x hx]⟩
theorem z7 {names:List Str} (nd:names.Nodup) {x:Str} (hx:x∈names):look (names.map fun n=>(n,n)) x=x:=
 Kh (q:=(x,x)) (by rw[List.map_map];show (names.map id).Nodup;rw[List.map_id];exact nd) (List.mem_map.mpr ⟨x,hx,rfl⟩)
theorem Hd.Am {names:List Str} {m:List (Str×Str)} (h:Hd names m) {one other x:Str} (hx:x∈names):look (jm m one other) x=jn one other (look m x):=ZG h.kn (by rw[h.keys];exact hx)
theorem Hd.join {names:List Str} {m:List (Str×Str)} (h:Hd names m) {a b:Str} (ha:a∈names) (hb:b∈names):Hd names (jm m (look m a) (look m b)):=by
 have m1:=h.mem a ha
 have m2:=h.mem b hb
 refine⟨(QW _ _ _).trans h.keys,h.nd,h.len,fun x hx=>?_,fun x hx=>?_⟩
 ·rw[h.Am hx]
  unfold jn
  split
  ·rcases Nb (look m a) (look m b) with e|e<;>rw[e]<;>assumption
  ·exact h.mem x hx
 ·have hx':jn (look m a) (look m b) (look m x)∈names:=by
   unfold jn
   split
   ·rcases Nb (look m a) (look m b) with e|e<;>rw[e]<;>assumption
   ·exact h.mem x hx
  rw[h.Am hx,h.Am hx']
  unfold jn
  by_cases q:look m x=look m a\/look m x=look m b
  ·rw[if_pos q]
   rcases Nb (look m a) (look m b) with e|e
   ·rw[e,h.idem a ha,if_pos (.inl rfl)]
   ·rw[e,h.idem b hb,if_pos (.inr rfl)]
  ·rw[if_neg q,h.idem x hx,if_neg q]
theorem ZK {m:List (Str×Str)} (a:Str):jm m a a=m:=by
 unfold jm
 conv=>rhs;rw[<-List.map_id m]
 refine List.map_congr_left fun q _=>?_
 unfold jn mn
 have:Tq a a=false:=by simp[Tq]
 rw[this]
 by_cases e:q.2=a
 ·rw[if_pos (.inl e),if_neg (by decide),<-e];rfl
 ·rw[if_neg (by simp[e])];rfl
def ae0 (names:List Str) (m:List (Str×Str)):List Str:=names.filter fun x=>decide (look m x=x)
theorem ZL {names:List Str} {m:List (Str×Str)} (h:Hd names m):lM m/\(eN m).length=(ae0 names m).length:=by
 have hl:=h.len
 refine⟨⟨by rw[h.keys];omega,fun x hx=>⟨vZ.mpr hx,fun _=>⟨by rw[h.keys];omega,fun y hy=>vZ.mpr hy⟩⟩⟩,?_⟩
 unfold eN ae0
 rw[List.length_map,h.keys]
abbrev kE:=Int×Str×Str×Int
def Rs (names:List Str) (rs:List kE):Prop:=∀ r∈rs,r.2.1∈names/\r.2.2.1∈names
def jb (m:List (Str×Str)) (r:kE):List (Str×Str):=jm m (look m r.2.1) (look m r.2.2.1)
def hb (names:List Str) (rs:List kE):List (Str×Str):=rs.foldl jb (cM names)
theorem hd0 {names:List Str} (nd:names.Nodup) (hl:names.length < 1000):Hd names (cM names):=by rw[(Cg names nd hl).2];exact Hd.lone nd hl
theorem ZM (names:List Str) (rs:List kE) (r:kE):hb names (rs++[r])=jb (hb names rs) r:=List.foldl_append (l:=rs) (l':=[r])
theorem pig:∀ {xs ys:List Str},xs.Nodup->(∀ x∈xs,x∈ys)->xs.length<=ys.length
 |[],_,_,_=>Nat.zero_le _
 |x::xs,ys,nd,h=>by
  obtain⟨n1,n2⟩:=List.nodup_cons.mp nd
  have hx:=h x (List.mem_cons_self ..)
  have:=pig (ys:=ys.erase x) n2 fun z hz=>(List.mem_erase_of_ne (fun e:z=x=>n1 (e▸hz))).mpr (h z (List.mem_cons_of_mem _ hz))
  rw[List.length_erase_of_mem hx] at this
  have:=List.length_pos_of_mem hx
  rw[List.length_cons]
  omega
structure PH (names:List Str) (P:List (List Str)) (m:List (Str×Str)):Prop where
 sub:∀ p∈P,∀ y∈p,y∈names
 cov:∀ x∈names,∃ p∈P,x∈p
 cls:∀ p∈P,∀ x∈p,∀ y∈names,(y∈p↔look m x=look m y)
 ne:∀ p∈P,p≠[]
 nd:∀ p∈P,p.Nodup
 uni:∀ p∈P,∀ q∈P,∀ x,x∈p->x∈q->p=q
 len:P.length<=names.length
 pn:P.Nodup
 srt:∀ p∈P,p.Pairwise sS
theorem ph0 {names:List Str} (nd:names.Nodup) (hl:names.length < 1000):PH names (names.map fun name:Str=>[name]) (cM names):=by
 rw[(Cg names nd hl).2]
 have inv:∀ p,p∈(names.map fun name:Str=>[name])->∃ n∈names,p=[n]:=fun p hp=>by
  obtain⟨n,hn,e⟩:=List.mem_map.mp hp
  exact⟨n,hn,e.symm⟩
 refine⟨fun p hp y hy=>?_,fun x hx=>⟨[x],List.mem_map.mpr ⟨x,hx,rfl⟩,List.mem_singleton.mpr rfl⟩,fun p hp x hx y hy=>?_,fun p hp e=>?_,fun p hp=>?_,fun p hp q hq x h1 h2=>?_,by rw[List.length_map];exact Nat.le_refl _,?_,fun p hp=>?_⟩
 ·obtain⟨n,hn,rfl⟩:=inv p hp
  cases List.mem_singleton.mp hy;exact hn
 ·obtain⟨n,hn,rfl⟩:=inv p hp
  cases List.mem_singleton.mp hx
  rw[z7 nd hn,z7 nd hy,List.mem_singleton]
  exact⟨fun e=>e.symm,fun e=>e.symm⟩
 ·obtain⟨n,hn,rfl⟩:=inv p hp
  cases e
 ·obtain⟨n,hn,rfl⟩:=inv p hp
  exact List.nodup_cons.mpr ⟨fun z=>(by cases z),List.nodup_nil⟩
 ·obtain⟨n,hn,rfl⟩:=inv p hp
  obtain⟨n',hn',rfl⟩:=inv q hq
  cases List.mem_singleton.mp h1
  cases List.mem_singleton.mp h2
  rfl
 ·unfold List.Nodup
  rw[List.pairwise_map]
  exact nd.imp fun h e=>h (by injection e)
 ·obtain⟨n,hn,rfl⟩:=inv p hp
  exact List.pairwise_singleton _ _
theorem pick {P:List (List Str)} {a:Str} (h:∃ p∈P,a∈p):In ((P.filter fun part:(List Str)=>(decide (a∈part))).map fun part:(List Str)=>part).length (0:Int)/\at' ((P.filter fun part:(List Str)=>(decide (a∈part))).map fun part:(List Str)=>part) (0:Int)∈P/\a∈at' ((P.filter fun part:(List Str)=>(decide (a∈part))).map fun part:(List Str)=>part) (0:Int):=by
 obtain⟨p,hp,ha⟩:=h
 have m:p∈((P.filter fun part:(List Str)=>(decide (a∈part))).map fun part:(List Str)=>part):=List.mem_map.mpr ⟨p,List.mem_filter.mpr ⟨hp,decide_eq_true ha⟩,rfl⟩
 have i:In ((P.filter fun part:(List Str)=>(decide (a∈part))).map fun part:(List Str)=>part).length (0:Int):=JL (k:=0) (List.length_pos_of_mem m)
 refine⟨i,?_⟩
 obtain⟨q,hq,e⟩:=List.mem_map.mp (zN i)
 rw[<-e]
 exact⟨(List.mem_filter.mp hq).1,of_decide_eq_true (List.mem_filter.mp hq).2⟩
theorem comb {names:List Str} {P:List (List Str)} {m:List (Str×Str)} (h:Hd names m) (p:PH names P m) {one other:List Str} {a b:Str} (h1:one∈P) (h2:other∈P) (ha:a∈one) (hb:b∈other) (hne:one≠other) :
  (one++other).length<=names.length/\PH names (((P.filter fun part:(List Str)=>(!fP part [one,other])).map fun part:(List Str)=>part)++[(mX (one++other))]) (jm m (look m a) (look m b)):=by
 have an:=p.sub _ h1 _ ha
 have bn:=p.sub _ h2 _ hb
 have ndq:(one++other).Nodup:=List.nodup_append.mpr ⟨p.nd _ h1,p.nd _ h2,fun x hx y hy e=>hne (p.uni _ h1 _ h2 x hx (e▸hy))⟩
 have ac4:∀ x∈one++other,x∈names:=fun x hx=>(List.mem_append.mp hx).elim (p.sub _ h1 _) (p.sub _ h2 _)
 have c1:∀ y∈names,(y∈one↔look m y=look m a):=fun y hy=>(p.cls _ h1 _ ha y hy).trans ⟨Eq.symm,Eq.symm⟩
 have c2:∀ y∈names,(y∈other↔look m y=look m b):=fun y hy=>(p.cls _ h2 _ hb y hy).trans ⟨Eq.symm,Eq.symm⟩
 have old:∀ q,q∈((P.filter fun part:(List Str)=>(!fP part [one,other])).map fun part:(List Str)=>part)↔q∈P/\q≠one/\q≠other:=fun q=>by
  rw[List.map_id',List.mem_filter,Bool.not_eq_true',<-Bool.not_eq_true,j4]
  simp
 have mq:∀ y,y∈mX (one++other)↔y∈one\/y∈other:=fun y=>(j8 _).mem_iff.trans List.mem_append
 have far:∀ q,q∈P->q≠one->q≠other->∀ x∈q,look m x≠look m a/\look m x≠look m b:=fun q hq n1 n2 x hx=>by
  have xn:=p.sub _ hq _ hx
  exact⟨fun e=>n1 (p.uni _ hq _ h1 x hx ((c1 x xn).mpr e)),fun e=>n2 (p.uni _ hq _ h2 x hx ((c2 x xn).mpr e))⟩
 refine⟨pig ndq ac4,⟨fun q hq y hy=>?_,fun x hx=>?_,fun q hq x hx y hy=>?_,fun q hq=>?_,fun q hq=>?_,fun q hq q' hq' x hx hx'=>?_,?_,?_,fun q hq=>?_⟩⟩
 ·rcases List.mem_append.mp hq with hq|hq
  ·exact p.sub _ ((old q).mp hq).1 _ hy
  ·cases List.mem_singleton.mp hq
   exact ac4 y ((j8 _).mem_iff.mp hy)
 ·obtain⟨q,hq,hx'⟩:=p.cov x hx
  by_cases e:q=one\/q=other
  ·refine⟨_,List.mem_append.mpr (.inr (List.mem_singleton.mpr rfl)),(mq x).mpr ?_⟩
   rcases e with rfl|rfl
   ·exact .inl hx'
   ·exact .inr hx'
  ·exact⟨q,List.mem_append.mpr (.inl ((old q).mpr ⟨hq,fun z=>e (.inl z),fun z=>e (.inr z)⟩)),hx'⟩
 ·rcases List.mem_append.mp hq with hq|hq
  ·obtain⟨hq,n1,n2⟩:=(old q).mp hq
   have xn:=p.sub _ hq _ hx
   have f:=far q hq n1 n2 x hx
   rw[h.Am xn,h.Am hy,p.cls _ hq _ hx y hy]
   unfold jn
   rw[if_neg (fun z=>z.elim f.1 f.2)]
   by_cases e:look m y=look m a\/look m y=look m b
   ·rw[if_pos e]
    constructor
    ·intro z;rw[z] at f;exact absurd e (fun w=>w.elim f.1 f.2)
    ·intro z
     rcases Nb (look m a) (look m b) with w|w<;>rw[w] at z
     ·exact absurd z f.1
     ·exact absurd z f.2
   ·rw[if_neg e]
  ·cases List.mem_singleton.mp hq
   have xq:=(mq x).mp hx
   have xn:=ac4 x (List.mem_append.mpr xq)
   rw[mq,h.Am xn,h.Am hy,c1 y hy,c2 y hy]
   unfold jn
   rw[if_pos (xq.elim (fun z=>.inl ((c1 x xn).mp z)) (fun z=>.inr ((c2 x xn).mp z)))]
   by_cases e:look m y=look m a\/look m y=look m b
   ·rw[if_pos e];exact⟨fun _=>rfl,fun _=>e⟩
   ·rw[if_neg e]
    refine⟨fun z=>absurd z e,fun z=>?_⟩
    rcases Nb (look m a) (look m b) with w|w<;>rw[w] at z
    ·exact .inl z.symm
    ·exact .inr z.symm
 ·rcases List.mem_append.mp hq with hq|hq
  ·exact p.ne _ ((old q).mp hq).1
  ·cases List.mem_singleton.mp hq
   intro e
   have:=(mq a).mpr (.inl ha)
   rw[e] at this
   cases this
 ·rcases List.mem_append.mp hq with hq|hq
  ·exact p.nd _ ((old q).mp hq).1
  ·cases List.mem_singleton.mp hq
   exact (j8 _).nodup_iff.mpr ndq
 ·have key:∀ q,q∈P->q≠one->q≠other->x∈q->x∈mX (one++other)->False:=fun q hq n1 n2 e1 e2=>
   ((mq x).mp e2).elim (fun z=>n1 (p.uni _ hq _ h1 x e1 z)) (fun z=>n2 (p.uni _ hq _ h2 x e1 z))
  rcases List.mem_append.mp hq with hq|hq<;>rcases List.mem_append.mp hq' with hq'|hq'
  ·exact p.uni _ ((old q).mp hq).1 _ ((old q').mp hq').1 x hx hx'
  ·cases List.mem_singleton.mp hq'
   obtain⟨z,n1,n2⟩:=(old q).mp hq
   exact (key q z n1 n2 hx hx').elim
  ·cases List.mem_singleton.mp hq
   obtain⟨z,n1,n2⟩:=(old q').mp hq'
   exact (key q' z n1 n2 hx' hx).elim
  ·exact (List.mem_singleton.mp hq).trans (List.mem_singleton.mp hq').symm
 ·rw[List.length_append,List.map_id']
  have:(P.filter fun part:(List Str)=>(!fP part [one,other])).length < P.length:=by
   rw[List.length_filter_lt_length_iff_exists]
   refine⟨one,h1,?_⟩
   rw[Bool.not_eq_true',Bool.not_eq_false]
   exact j4.mpr (List.mem_cons_self ..)
  have:=p.len
  show _+1<=_
  omega
 ·rw[List.nodup_append]
  refine⟨by rw[List.map_id'];exact p.pn.filter _,List.nodup_cons.mpr ⟨fun z=>(by cases z),List.nodup_nil⟩,fun x hx y hy e=>?_⟩
  cases List.mem_singleton.mp hy
  obtain⟨z,n1,n2⟩:=(old x).mp hx
  have:a∈x:=by rw[e];exact (mq a).mpr (.inl ha)
  exact n1 (p.uni _ z _ h1 a this ha)
 ·rcases List.mem_append.mp hq with hq|hq
  ·exact p.srt _ ((old q).mp hq).1
  ·cases List.mem_singleton.mp hq
   exact w5 _
theorem Pj {names:List Str} {P:List (List Str)} {m:List (Str×Str)} (h:Hd names m) (hl:names.length < 64) (p:PH names P m) {r:kE} (ha:r.2.1∈names) (hb:r.2.2.1∈names) :
  jA P r/\PH names (eU P r) (jm m (look m r.2.1) (look m r.2.2.1)):=by
 obtain⟨i1,o1,a1⟩:=pick (p.cov _ ha)
 obtain⟨i2,o2,a2⟩:=pick (p.cov _ hb)
 have pl:=p.len
 unfold jA eU
 dsimp only
 generalize at' ((P.filter fun part:(List Str)=>(decide (r.2.1∈part))).map fun part:(List Str)=>part) (0:Int)=one at *
 generalize at' ((P.filter fun part:(List Str)=>(decide (r.2.2.1∈part))).map fun part:(List Str)=>part) (0:Int)=other at *
 by_cases e:one=other
 ·subst e
  refine⟨⟨⟨by omega,i1⟩,⟨by omega,i2⟩,fun z=>by simp at z⟩,?_⟩
  rw[if_neg (by simp),(p.cls _ o1 _ a1 _ hb).mp a2,ZK]
  exact p
 ·obtain⟨c1,c2⟩:=comb h p o1 o2 a1 a2 e
  rw[List.length_append] at c1
  refine⟨⟨⟨by omega,i1⟩,⟨by omega,i2⟩,fun _=>⟨⟨by omega,?_,?_⟩,?_⟩⟩,?_⟩
  ·show _<=1000000
   omega
  ·rw[List.length_append];omega
  ·have:=c2.len
   rw[List.length_append] at this
   show _<=1000000
   omega
  ·rw[if_pos (by simp[e])]
   exact c2
theorem Fp {names:List Str} (hl:names.length < 64):∀ (rs:List kE) (P:List (List Str)) (m:List (Str×Str)),Rs names rs->Hd names m->PH names P m →
  uT (fun (found:(List (List Str))) (q1:kE)=>(eU found q1)) (fun (found:(List (List Str))) (q1:kE)=>some (jA found q1)) rs P/\PH names (rs.foldl (fun (found:(List (List Str))) (q1:kE)=>(eU found q1)) P) (rs.foldl jb m)
 |[],_,_,_,_,p=>⟨trivial,p⟩
 |r::rs,P,m,hr,h,p=>by
  obtain⟨ha,hb⟩:=hr r (List.mem_cons_self ..)
  obtain⟨d,q⟩:=Pj h hl p ha hb
  have ih:=Fp hl rs (eU P r) (jb m r) (fun x hx=>hr x (List.mem_cons_of_mem _ hx)) (h.join ha hb) q
  exact⟨⟨d,ih.1⟩,ih.2⟩
theorem WY {names:List Str} (nd:names.Nodup) (hl:names.length < 64) {rs:List kE} (hr:Rs names rs):m9 names rs/\∃ P,m7 names rs=qb P/\PH names P (hb names rs):=by
 obtain⟨d,p⟩:=Fp hl rs _ _ hr (hd0 nd (by omega)) (ph0 nd (by omega))
 have pl:=p.len
 refine⟨⟨by omega,d,by show List.length _<=100000;exact Nat.le_trans pl (by omega),by show (List.map _ _).length < 64;rw[List.length_map];exact Nat.lt_of_le_of_lt pl hl,fun x hx=>?_⟩,_,congrArg qb (List.map_id' _),p⟩
 obtain⟨y,hy,rfl⟩:=List.mem_map.mp hx
 have:=p.ne _ hy
 cases y
 ·exact absurd rfl this
 ·rfl
theorem Fq (a:Str):sS a a:=by unfold sS;rw[ltCps_eq];simp
theorem Ib {a b c:Str} (h:sS a b) (h':sS b c):sS a c:=by
 unfold sS at *
 rw[ltCps_eq] at *
 simp only[decide_eq_false_iff_not] at *
 exact List.le_trans (α:=Nat) h h'
theorem aaz (a b:Str):sS (mn a b) a/\sS (mn a b) b:=by
 unfold mn
 by_cases h:Tq b a=true
 ·rw[if_pos h]
  exact⟨((lt_iff b a).mp h).1,Fq b⟩
 ·rw[if_neg h]
  refine⟨Fq a,?_⟩
  have h:Tq b a=false:=by simpa using h
  unfold Tq at h
  unfold sS
  rw[ltCps_eq]
  exact h
def Lst (names:List Str) (m:List (Str×Str)):Prop:=∀ x∈names,sS (look m x) x
theorem ahd {names:List Str} (nd:names.Nodup) (hl:names.length < 1000):Lst names (cM names):=fun x hx=>by
 rw[(Cg names nd hl).2,z7 nd hx];exact Fq x
theorem Lst.jb {names:List Str} {m:List (Str×Str)} (l:Lst names m) (h:Hd names m) (r:kE):Lst names (jb m r):=fun x hx=>by
 show sS (look (jm m (look m r.2.1) (look m r.2.2.1)) x) x
 rw[h.Am hx]
 unfold jn
 split
 ·rename_i e
  rcases e with e|e
  ·exact Ib (aaz _ _).1 (e▸l x hx)
  ·exact Ib (aaz _ _).2 (e▸l x hx)
 ·exact l x hx
theorem Kl {α:Type} [DecidableEq α]:∀ {xs ys:List α},xs.Nodup->ys.Nodup->(∀ x,x∈xs↔x∈ys)->xs.Perm ys
 |[],ys,_,_,h=>by
  cases ys with
  |nil=>exact .refl _
  |cons y ys=>exact absurd ((h y).mpr (List.mem_cons_self ..)) (by simp)
 |x::xs,ys,nx,ny,h=>by
  obtain⟨n1,n2⟩:=List.nodup_cons.mp nx
  have hx:=(h x).mp (List.mem_cons_self ..)
  refine (List.Perm.cons x (Kl (ys:=ys.erase x) n2 (ny.erase x) fun z=>?_)).trans (List.perm_cons_erase hx).symm
  constructor
  ·intro hz
   have:z≠x:=fun e=>n1 (e▸hz)
   exact (List.mem_erase_of_ne this).mpr ((h z).mp (List.mem_cons_of_mem _ hz))
  ·intro hz
   have hne:z≠x:=fun e=>by subst e;exact (List.Nodup.not_mem_erase ny) hz
   have:=(h z).mpr (List.mem_of_mem_erase hz)
   rcases List.mem_cons.mp this with e|e
   ·exact absurd e hne
   ·exact e
theorem ZP {a b:Str} {xs ys:List Str} (h:sS a b) (hne:a≠b):Ml (a::xs) (b::ys)=true:=by
 unfold Ml S1.uN
 show (!S1.nF (Sum.inr b::kT ys) (Sum.inr a::kT xs))=true
 unfold S1.nF
 rw[if_neg (fun e=>hne (Sum.inr.inj e).symm)]
 unfold S1.Qh
 unfold sS at h
 rw[ltCps_eq] at h
 simpa using h
theorem ZQ {names:List Str} (so:names.Pairwise sS) {m:List (Str×Str)} (h:Hd names m) (l:Lst names m) {P:List (List Str)} (p:PH names P m):eN m=qb P:=by
 have ks:=h.keys
 have under:∀ q∈P,∀ x∈q,cT m (look m x)=q:=fun q hq x hx=>by
  unfold cT
  rw[List.map_id',ks]
  refine Jg (Kl (h.nd.filter _) (p.nd _ hq) fun z=>?_) (so.filter _) (p.srt _ hq)
  rw[List.mem_filter,decide_eq_true_eq]
  constructor
  ·rintro⟨hz,e⟩;exact (p.cls q hq x hx z hz).mpr e.symm
  ·intro hz
   have zn:=p.sub _ hq _ hz
   exact⟨zn,((p.cls q hq x hx z zn).mp hz).symm⟩
 have first:∀ n∈names,look m n=n->∃ t,cT m n=n::t:=fun n hn e=>by
  have hmem:n∈cT m n:=by
   unfold cT
   rw[List.map_id',ks,List.mem_filter,decide_eq_true_eq]
   exact⟨hn,e⟩
  have hso:(cT m n).Pairwise sS:=by
   unfold cT
   rw[List.map_id',ks]
   exact so.filter _
  cases hc:cT m n with
  |nil=>rw[hc] at hmem;cases hmem
  |cons y t=>
   have hy:y∈cT m n:=by rw[hc];exact List.mem_cons_self ..
   unfold cT at hy
   rw[List.map_id',ks,List.mem_filter,decide_eq_true_eq] at hy
   have h1:sS n y:=by have:=l y hy.1;rw[hy.2] at this;exact this
   rw[hc] at hmem hso
   rcases List.mem_cons.mp hmem with e2|e2
   ·exact⟨t,by rw[e2]⟩
   ·have:=CN h1 ((List.pairwise_cons.mp hso).1 n e2)
    exact⟨t,by rw[this]⟩
 refine S7 (Kl ?_ p.pn fun q=>?_) ?_
 ·unfold eN List.Nodup
  rw[ks,List.pairwise_map]
  refine List.Pairwise.imp_of_mem ?_ (h.nd.filter _)
  intro a b ha hb hne e
  rw[List.mem_filter,decide_eq_true_eq] at ha hb
  obtain⟨t1,e1⟩:=first a ha.1 ha.2
  obtain⟨t2,e2⟩:=first b hb.1 hb.2
  rw[e1,e2] at e
  exact hne (by injection e)
 ·unfold eN
  rw[ks,List.mem_map]
  constructor
  ·rintro⟨n,hn,rfl⟩
   rw[List.mem_filter,decide_eq_true_eq] at hn
   obtain⟨q,hq,hx⟩:=p.cov n hn.1
   have:=under q hq n hx
   rw[hn.2] at this
   rw[this];exact hq
  ·intro hq
   cases hc:q with
   |nil=>exact absurd hc (p.ne _ hq)
   |cons x t=>
    have hx:x∈q:=by rw[hc];exact List.mem_cons_self ..
    have xn:=p.sub _ hq _ hx
    refine⟨look m x,List.mem_filter.mpr ⟨h.mem x xn,decide_eq_true (h.idem x xn)⟩,?_⟩
    rw[under q hq x hx,hc]
 ·unfold eN
  rw[ks,List.pairwise_map]
  have both:(names.filter fun name:Str=>decide (look m name=name)).Pairwise fun a b=>sS a b/\a≠b:=(so.filter _).and (h.nd.filter _)
  refine List.Pairwise.imp_of_mem ?_ both
  intro a b ha hb hab
  rw[List.mem_filter,decide_eq_true_eq] at ha hb
  obtain⟨t1,e1⟩:=first a ha.1 ha.2
  obtain⟨t2,e2⟩:=first b hb.1 hb.2
  rw[e1,e2]
  exact ZP hab.1 hab.2
abbrev Bar:=Str×Str×Int
abbrev JS:=(List (Str×Str))×(List kE)×(List (kE×Option Bar))
abbrev uy (bars:List Bar):JS->kE->JS:=fun s2 reason=>cZ bars s2 reason
def iJ (bars:List Bar) (names:List Str) (rs:List kE):JS:=rs.foldl (uy bars) (cM names,[],[])
theorem eV (names:List Str) (rs:List kE) (bars:List Bar):aG (names,rs,bars)=(eN (iJ bars names rs).1,(iJ bars names rs).2.1,(iJ bars names rs).2.2):=rfl
theorem Ie (bars:List Bar) (s:JS) (r:kE):(uy bars s r=s)\/(∃ m',(∀ b,uy bars (s.1,s.2.1,b) r=(m',s.2.1++[r],b))/\uy bars s r=(m',s.2.1++[r],s.2.2))\/∃ q,(∀ b,uy bars (s.1,s.2.1,b) r=(s.1,s.2.1,b++[(r,q)]))/\uy bars s r=(s.1,s.2.1,s.2.2++[(r,q)]):=by
 obtain⟨m,k,b⟩:=s
 unfold uy cZ
 dsimp only
 by_cases e:look m r.2.1=look m r.2.2.1
 ·left;simp[e]
 ·right
  by_cases q:(d8 bars m (look m r.2.1) (look m r.2.2.1)).isNone=true
  ·left;exact⟨jT m (look m r.2.1) (look m r.2.2.1),fun b=>by simp[e,q],by simp[e,q]⟩
  ·right;exact⟨d8 bars m (look m r.2.1) (look m r.2.2.1),fun b=>by simp[e,q],by simp[e,q]⟩
theorem W0 (bars:List Bar) (m:List (Str×Str)) (k:List kE) (b b':List (kE×Option Bar)) (r:kE):(uy bars (m,k,b) r).1=(uy bars (m,k,b') r).1/\(uy bars (m,k,b) r).2.1=(uy bars (m,k,b') r).2.1:=by
 unfold uy cZ
 dsimp only
 by_cases e:look m r.2.1=look m r.2.2.1
 ·simp[e]
 ·by_cases q:(d8 bars m (look m r.2.1) (look m r.2.2.1)).isNone=true<;>simp[e,q]
theorem qY (bars:List Bar):∀ (post:List kE) (s:JS),∃ K B,(post.foldl (uy bars) s).2.1=s.2.1++K/\(post.foldl (uy bars) s).2.2=s.2.2++B/\(∀ r∈K,r∈post)/\(∀ q∈B,q.1∈post)/\(post.Nodup->∀ q∈B,q.1∉K)
 |[],s=>⟨[],[],by simp,by simp,fun r h=>(by cases h),fun r h=>(by cases h),fun _ r h=>(by cases h)⟩
 |r::post,s=>by
  obtain⟨K,B,h1,h2,h3,h4,h5⟩:=qY bars post (uy bars s r)
  rw[List.foldl_cons]
  rcases Ie bars s r with e|⟨m',_,e⟩|⟨q,_,e⟩
  ·rw[e] at h1 h2 ⊢
   exact⟨K,B,h1,h2,fun x hx=>List.mem_cons_of_mem _ (h3 x hx),fun x hx=>List.mem_cons_of_mem _ (h4 x hx),fun nd=>h5 (List.nodup_cons.mp nd).2⟩
  ·rw[e] at h1 h2 ⊢
   refine⟨r::K,B,by rw[h1];simp,h2,fun x hx=>?_,fun x hx=>List.mem_cons_of_mem _ (h4 x hx),fun nd x hx hm=>?_⟩
   ·rcases List.mem_cons.mp hx with rfl|hx
    ·exact List.mem_cons_self ..
    ·exact List.mem_cons_of_mem _ (h3 x hx)
   ·obtain⟨n1,n2⟩:=List.nodup_cons.mp nd
    rcases List.mem_cons.mp hm with z|z
    ·exact n1 (z▸h4 x hx)
    ·exact h5 n2 x hx z
  ·rw[e] at h1 h2 ⊢
   refine⟨K,(r,q)::B,h1,by rw[h2];simp,fun x hx=>List.mem_cons_of_mem _ (h3 x hx),fun x hx=>?_,fun nd x hx hm=>?_⟩
   ·rcases List.mem_cons.mp hx with rfl|hx
    ·exact List.mem_cons_self ..
    ·exact List.mem_cons_of_mem _ (h4 x hx)
   ·obtain⟨n1,n2⟩:=List.nodup_cons.mp nd
    rcases List.mem_cons.mp hx with rfl|hx
    ·exact n1 (h3 _ hm)
    ·exact h5 n2 x hx hm
theorem qZ (bars:List Bar) (drop:kE->Bool):∀ (post:List kE) (m:List (Str×Str)) (k:List kE) (b b':List (kE×Option Bar)),(∀ r∈post,drop r=true->r∉(post.foldl (uy bars) (m,k,b)).2.1) →
  ((post.filter fun r=>!drop r).foldl (uy bars) (m,k,b')).1=(post.foldl (uy bars) (m,k,b)).1/\((post.filter fun r=>!drop r).foldl (uy bars) (m,k,b')).2.1=(post.foldl (uy bars) (m,k,b)).2.1
 |[],m,k,b,b',_=>⟨rfl,rfl⟩
 |r::post,m,k,b,b',h=>by
  rw[List.foldl_cons] at h ⊢
  have hr:=h r (List.mem_cons_self ..)
  have ht:∀ x∈post,drop x=true->x∉(post.foldl (uy bars) (uy bars (m,k,b) r)).2.1:=fun x hx=>h x (List.mem_cons_of_mem _ hx)
  cases hd:drop r with
  |true=>
   rw[List.filter_cons_of_neg (by simp[hd])]
   have hr:=hr hd
   rcases Ie bars (m,k,b) r with e|⟨m',_,e⟩|⟨q,_,e⟩
   ·rw[e] at ht ⊢
    exact qZ bars drop post m k b b' ht
   ·exfalso
    apply hr
    rw[e]
    obtain⟨K,B,h1,_⟩:=qY bars post (m',k++[r],b)
    rw[h1]
    simp
   ·rw[e] at ht ⊢
    exact qZ bars drop post m k _ b' ht
  |false=>
   rw[List.filter_cons_of_pos (by simp[hd]),List.foldl_cons]
   obtain⟨f1,f2⟩:=W0 bars m k b' b r
   have:=qZ bars drop post (uy bars (m,k,b) r).1 (uy bars (m,k,b) r).2.1 (uy bars (m,k,b) r).2.2 (uy bars (m,k,b') r).2.2 ht
   rw[show uy bars (m,k,b') r=((uy bars (m,k,b) r).1,(uy bars (m,k,b) r).2.1,(uy bars (m,k,b') r).2.2) from by rw[<-f1,<-f2]]
   exact this
theorem Ft {α:Type} {p:α->Bool} {xs ys:List α} (h1:∀ x∈xs,p x=true) (h2:∀ y∈ys,p y=false):(xs++ys).filter p=xs:=by
 rw[List.filter_append,List.filter_eq_self.mpr h1,List.filter_eq_nil_iff.mpr (fun y hy=>by rw[h2 y hy];exact Bool.false_ne_true),List.append_nil]
theorem xM (bars:List Bar) (names:List Str) {pre post:List kE} (dis:∀ r∈post,r∉pre):(iJ bars names (pre++post)).2.1.filter (fun r=>fP r pre)=(iJ bars names pre).2.1/\(iJ bars names (pre++post)).2.2.filter (fun q=>fP q.1 pre)=(iJ bars names pre).2.2:=by
 obtain⟨K0,B0,a1,a2,a3,a4,_⟩:=qY bars pre (cM names,[],[])
 obtain⟨K,B,h1,h2,h3,h4,_⟩:=qY bars post (iJ bars names pre)
 have e:iJ bars names (pre++post)=post.foldl (uy bars) (iJ bars names pre):=List.foldl_append ..
 have k0:(iJ bars names pre).2.1=K0:=a1
 have b0:(iJ bars names pre).2.2=B0:=a2
 rw[e,h1,h2]
 constructor
 ·refine Ft (fun x hx=>j4.mpr (a3 x (k0▸hx))) fun y hy=>?_
  cases hq:fP y pre with
  |false=>rfl
  |true=>exact absurd (j4.mp hq) (dis y (h3 y hy))
 ·refine Ft (fun x hx=>j4.mpr (a4 x (b0▸hx))) fun y hy=>?_
  cases hq:fP y.1 pre with
  |false=>rfl
  |true=>exact absurd (j4.mp hq) (dis y.1 (h4 y hy))
theorem z8 {α σ τ:Type} {step:σ->α->Fy σ τ} {P:σ->α->Option Prop}:∀ (xs:List α) (s:σ),(∀ s x,x∈xs->hold (P s x))->yH step P xs s
 |[],_,_=>trivial
 |x::xs,s,h=>by
  refine⟨h s x (List.mem_cons_self ..),?_⟩
  cases step s x with
  |nx s'=>exact z8 xs s' fun s y hy=>h s y (List.mem_cons_of_mem _ hy)
  |ct s'=>exact z8 xs s' fun s y hy=>h s y (List.mem_cons_of_mem _ hy)
  |bk s'=>trivial
  |rt s'=>trivial
theorem ac5 {names:List Str} {m:List (Str×Str)} (h:Hd names m) {bars:List Bar} (hbs:∀ b∈bars,b.1∈names/\b.2.1∈names) (one other:Str):j5 bars m one other:=by
 refine⟨z8 _ _ fun s x hx=>?_,?_⟩
 ·have h1:=h.has (hbs x hx).1
  have h2:=h.has (hbs x hx).2
  exact⟨⟨h1,fun _=>h2⟩,fun _=>⟨h1,fun _=>h2⟩⟩
 ·unfold yJ
  split<;>trivial
structure JI (names:List Str) (n:Nat) (s:JS):Prop where
 h:Hd names s.1
 l:Lst names s.1
 e:s.1=hb names s.2.1
 rs:Rs names s.2.1
 kl:s.2.1.length<=n
 bl:s.2.2.length<=n
theorem q8 {names:List Str} (nd:names.Nodup) (hl:names.length < 64) {bars:List Bar} (hbs:∀ b∈bars,b.1∈names/\b.2.1∈names) {rs:List kE} (hr:Rs names rs) (rl:rs.length < 64):dw (names,rs,bars)/\JI names rs.length (iJ bars names rs):=by
 have:=JK (P:=fun s2 reason=>some (nZ bars s2 reason)) (step:=uy bars) (fun k s=>JI names k s) rs 0 (cM names,[],[]) ⟨hd0 nd (by omega),ahd nd (by omega),rfl,fun r h=>(by cases h),Nat.le_refl _,Nat.le_refl _⟩ fun k r s hk i=>by
  obtain⟨m,kp,ba⟩:=s
  have hm:r∈rs:=List.mem_of_getElem? hk
  have hkl:k < rs.length:=(List.getElem?_eq_some_iff.mp hk).1
  obtain⟨ha,hb'⟩:=hr r hm
  rw[Nat.zero_add] at i
  have ih:Hd names m:=i.h
  have ikl:kp.length<=k:=i.kl
  have ibl:ba.length<=k:=i.bl
  have j:=ZJ (look m r.2.1) (look m r.2.2.1) ih.kn ih.ml
  refine⟨⟨ih.has ha,ih.has hb',fun _=>⟨ac5 ih hbs _ _,fun _=>⟨j.1,?_⟩,fun _=>?_⟩⟩,?_⟩
  ·show kp.length<=1000000
   omega
  ·show ba.length<=1000000
   omega
  rw[Nat.zero_add]
  by_cases e:look m r.2.1=look m r.2.2.1
  ·have:uy bars (m,kp,ba) r=(m,kp,ba):=by unfold uy cZ;simp[e]
   rw[this]
   exact⟨ih,i.l,i.e,i.rs,by show kp.length<=_;omega,by show ba.length<=_;omega⟩
  ·by_cases q:(d8 bars m (look m r.2.1) (look m r.2.2.1)).isNone=true
   ·have:uy bars (m,kp,ba) r=(jb m r,kp++[r],ba):=by unfold uy cZ;simp only[j.2];simp[e,q];rfl
    rw[this]
    refine⟨ih.join ha hb',i.l.jb ih r,?_,?_,by rw[List.length_append];show kp.length+1<=_;omega,by show ba.length<=_;omega⟩
    ·show jb m r=hb names (kp++[r])
     rw[ZM,<-i.e]
    ·intro x hx
     rcases List.mem_append.mp hx with hx|hx
     ·exact i.rs x hx
     ·cases List.mem_singleton.mp hx;exact⟨ha,hb'⟩
   ·have:uy bars (m,kp,ba) r=(m,kp,ba++[(r,d8 bars m (look m r.2.1) (look m r.2.2.1))]):=by unfold uy cZ;simp[e,q]
    rw[this]
    exact⟨ih,i.l,i.e,i.rs,by show kp.length<=_;omega,by rw[List.length_append];show ba.length+1<=_;omega⟩
 rw[Nat.zero_add] at this
 exact⟨⟨(Cg names nd (by omega)).1,this.1,(ZL this.2.h).1⟩,this.2⟩
theorem foldl_size {α:Type} (c:Array α):∀ (n:Nat) (a:Array α),((List.replicate n c).foldl (·++·) a).size=a.size+n * c.size
 |0,a=>by simp
 |n+1,a=>by
  rw[List.replicate_succ,List.foldl_cons,foldl_size c n,Array.size_append,Nat.succ_mul]
  omega
theorem Jb (x:Str) (k:Int):(Txt.mul x k).length<=x.length * k.toNat:=by
 unfold Txt.mul
 split
 ·exact Nat.zero_le _
 split
 ·rename_i h0 h
  simp only[Bool.or_eq_true,beq_iff_eq] at h
  rcases h with h|h
  ·subst h;simp
  ·rw[h];simp
 ·show (Array.size _)<=_
  rw[foldl_size]
  have:x.cps.size=x.length:=rfl
  rw[this,Nat.mul_comm]
  simp
def LT:Str:=("abcdefghijklmnopqrstuvwxyz" : Str)
theorem Pk:LT.length=26:=by decide +kernel
theorem Fv {n:Nat} (h:n<=1000):HD n:=Nat.le_trans h (by decide)
theorem Pn (xs:List Int) (hl:6<=xs.length) (stem:Str) (hs:stem.length<=5) (at_:Int) (k:Nat) (found:List Str) (hk:k < 200) (h:found.length=k/\∀ n∈found,n.length<=12):lG xs LT stem at_ found k/\(gQ xs LT stem at_ found k).length=k+1/\∀ n∈gQ xs LT stem at_ found k,n.length<=12:=by
 have s1:=Nat.le_trans (slice_le stem none (some at_)) hs
 have s2:=Nat.le_trans (slice_le stem (some at_) none) hs
 have c1:=JM LT ((↑k+at' xs 2) % 15)
 have m8:=qG (k:Int) (m:=8) (by decide)
 have hd:(0:Int)<=(k:Int) / 8/\(k:Int) / 8 < 26:=by omega
 refine⟨⟨⟨in_of (by decide) (by omega),DR (by decide) (by rw[Pk];decide)⟩,⟨Fv (by omega),Fv (by rw[uU];omega)⟩,⟨in_of (by decide) (by omega),fun _=>⟨in_of hd.1 (by rw[Pk];exact hd.2),by omega,by omega,by rw[JM];decide⟩⟩,Fv (by omega)⟩,?_⟩
 have key:∀ n:Str,n.length<=12->(found++[n]).length=k+1/\∀ m∈found++[n],m.length<=12:=fun n hn=>⟨by simp[h.1],fun m hm=>by
  rcases List.mem_append.mp hm with hm|hm
  ·exact h.2 m hm
  ·cases List.mem_singleton.mp hm;exact hn⟩
 unfold gQ
 dsimp only
 split
 ·exact key _ (by have:=Jb (ch LT ((k:Int) / 8)) (1+(k:Int) % 8);rw[JM] at this;exact Nat.le_trans this (by omega))
 ·exact key _ (by rw[uU,uU,c1];omega)
theorem ac6 (xs:List Str) (n:Nat) (h:∀ x∈xs,x.length<=n):(Txt.join "" xs).length<=xs.length * n:=by
 have h1:=StrLaws.join_length_le ("" : Str) xs
 rw[<-StrLaws.glued_eq_join] at h1
 have h2:(xs.map (·.length)).sum<=xs.length * n:=by
  clear h1
  induction xs with
  |nil=>simp
  |cons a l ih=>
   have:=ih fun x hx=>h x (List.mem_cons_of_mem _ hx)
   have:=h a (List.mem_cons_self ..)
   simp only[List.map_cons,List.sum_cons,List.length_cons,Nat.succ_mul]
   omega
 have h3:("" : Str).length=0:=rfl
 rw[h3,Nat.mul_zero] at h1
 exact Nat.le_trans h1 (by omega)
theorem ahe (xs:List Str) (h:∀ x∈xs,x.length=1):(xs.map (·.length)).sum=xs.length:=by
 induction xs with
 |nil=>rfl
 |cons a l ih=>
  have:=ih fun x hx=>h x (List.mem_cons_of_mem _ hx)
  have:=h a (List.mem_cons_self ..)
  simp only[List.map_cons,List.sum_cons,List.length_cons]
  omega
theorem W2 (xs:List Int) (hl:6<=xs.length) (many:Int) (h0:0<=many) (h1:many<=200):m5 xs many/\(dZ xs many).length=many.toNat/\∀ n∈dZ xs many,n.length<=12:=by
 have m6:=qG (at' xs 0) (m:=6) (by decide)
 have st:∀ stem:Str,stem.length<=5->pC xs many LT stem/\(lH xs many LT stem).length=many.toNat/\∀ n∈lH xs many LT stem,n.length<=12:=fun stem hs=>by
  have:=yL (P:=fun f k=>some (lG xs LT stem (at' xs 1 % ((stem.length:Int)+1)) f k)) (step:=fun f k=>gQ xs LT stem (at' xs 1 % ((stem.length:Int)+1)) f k) (fun k s=>s.length=k/\∀ n∈s,n.length<=12) many.toNat [] ⟨rfl,fun n h=>(by cases h)⟩ fun k s hk h=>Pn xs hl stem hs _ k s (by omega) h
  exact⟨⟨⟨in_of (by decide) (by omega),by omega⟩,HX h0 (by omega),this.1⟩,this.2⟩
 have c1:∀ x∈((rng 0 (at' xs 0 % 6).toNat).map fun k_:Int=>ch LT (at' xs k_ / 40 % 26)),x.length=1:=fun x hx=>by
  obtain⟨k,_,rfl⟩:=List.mem_map.mp hx
  exact JM _ _
 have:=st (Txt.join "" ((rng 0 (at' xs 0 % 6).toNat).map fun k_:Int=>ch LT (at' xs k_ / 40 % 26))) (by
  have:=ac6 _ 1 fun x hx=>Nat.le_of_eq (c1 x hx)
  rw[List.length_map,yK] at this
  omega)
 refine⟨⟨⟨⟨⟨⟨in_of (by decide) (by omega),HX m6.1 (by omega)⟩,by rw[yK];omega⟩,fun k hk=>?_⟩,?_⟩,this.1⟩,this.2⟩
 ·obtain⟨j,hj,rfl⟩:=QL hk
  exact⟨in_of (by omega) (by omega),DR (by decide) (by rw[show ("abcdefghijklmnopqrstuvwxyz" : Str)=LT from rfl,Pk];decide)⟩
 ·rw[show ("abcdefghijklmnopqrstuvwxyz" : Str)=LT from rfl,ahe _ c1,List.length_map,yK]
  have h3:("" : Str).length=0:=rfl
  rw[h3]
  omega
def nmF (xs:List Int) (stem:Str) (at_:Int) (k:Int):Str:=if (decide (((at' xs (3:Int)) % (3:Int))=(1:Int)))=true then (Txt.mul (ch LT (k / (8:Int))) ((1:Int)+(k % (8:Int)))) else (((Txt.slice stem none (some at_))++(ch LT ((k+(at' xs (2:Int))) % (15:Int))))++(Txt.slice stem (some at_) none))
theorem Fw {α β:Type} (g:β->α):∀ (l:List β) (f:List α),l.foldl (fun f k=>f++[g k]) f=f++l.map g
 |[],f=>by simp
 |k::l,f=>by rw[List.foldl_cons,Fw g l];simp
theorem W3 (xs:List Int) (many:Int):∃ stem at_,dZ xs many=(rng 0 many.toNat).map (nmF xs stem at_):=by
 refine⟨_,_,(Fw (nmF xs _ _) _ []).trans (List.nil_append _)⟩
theorem Pq {a b m m':Str} (h:(a++m)++b=(a++m')++b):m=m':=by
 have h:=congrArg (fun s:Str=>s.cps.toList) h
 have h:((a.cps++m.cps)++b.cps).toList=((a.cps++m'.cps)++b.cps).toList:=h
 simp only[Array.toList_append] at h
 have:=List.append_cancel_left (List.append_cancel_right h)
 cases m;cases m'
 congr 1
 exact Array.ext' this
theorem ac7:∀ i:Fin 30,∀ j:Fin 30,Txt.mul (ch LT ((i.val:Int) / 8)) (1+(i.val:Int) % 8)=Txt.mul (ch LT ((j.val:Int) / 8)) (1+(j.val:Int) % 8)->i=j:=by decide +kernel
theorem ae2:∀ i:Fin 15,∀ j:Fin 15,ch LT (i.val:Int)=ch LT (j.val:Int)->i=j:=by decide +kernel
theorem ac8 {x y:Int} (hx:0<=x/\x < 15) (hy:0<=y/\y < 15) (h:ch LT x=ch LT y):x=y:=by
 have:=ae2 ⟨x.toNat,by omega⟩ ⟨y.toNat,by omega⟩ (by
  show ch LT ((x.toNat:Nat):Int)=ch LT ((y.toNat:Nat):Int)
  rw[Int.toNat_of_nonneg hx.1,Int.toNat_of_nonneg hy.1];exact h)
 have:=congrArg Fin.val this
 have:x.toNat=y.toNat:=this
 omega
theorem ac9 {xs:List Int} {stem:Str} {at_:Int} {i j:Nat} (hi:i < 15) (hj:j < 15) (h:nmF xs stem at_ i=nmF xs stem at_ j):i=j:=by
 unfold nmF at h
 by_cases e:(decide (((at' xs (3:Int)) % (3:Int))=(1:Int)))=true
 ·rw[if_pos e,if_pos e] at h
  exact congrArg Fin.val (ac7 ⟨i,by omega⟩ ⟨j,by omega⟩ h)
 ·rw[if_neg e,if_neg e] at h
  have:=ac8 (qG _ (by decide)) (qG _ (by decide)) (Pq h)
  omega
theorem ada {n:Nat} {g:Int->Str} (h:∀ i j:Nat,i < n->j < n->g i=g j->i=j):((rng 0 n).map g).Nodup:=by
 unfold rng
 rw[List.map_map]
 unfold List.Nodup
 rw[List.pairwise_map]
 refine List.Pairwise.imp_of_mem ?_ (List.nodup_range (n:=n))
 intro a b ha hb hne e
 refine hne (h a b (List.mem_range.mp ha) (List.mem_range.mp hb) ?_)
 have e:g (0+(a:Int))=g (0+(b:Int)):=e
 rwa [Int.zero_add,Int.zero_add] at e
theorem W4 (xs:List Int) (many:Int) (h:many<=15):(dZ xs many).Nodup:=by
 obtain⟨stem,at_,e⟩:=W3 xs many
 rw[e]
 exact ada fun i j hi hj=>ac9 (by omega) (by omega)
theorem Km {n:Nat} {a b:Int} (ha:0<=a/\a < n) (hb:0<=b/\b < n):In n (if b < a then b else a):=by split<;>exact in_of (by omega) (by omega)
theorem Ko {n:Nat} {a b:Int} (ha:0<=a/\a < n) (hb:0<=b/\b < n):In n (if b > a then b else a):=by split<;>exact in_of (by omega) (by omega)
theorem QZ {many:Int} {n:Nat} (hn:n=many.toNat) {x y:Int} (h:(!decide (x % (if many > (1:Int) then many else (1:Int))=y % (if many > (1:Int) then many else (1:Int))))=true):(0<=x % (if many > (1:Int) then many else (1:Int))/\x % (if many > (1:Int) then many else (1:Int)) < n)/\(0<=y % (if many > (1:Int) then many else (1:Int))/\y % (if many > (1:Int) then many else (1:Int)) < n):=by
 by_cases e:many > 1
 ·rw[if_pos e] at h ⊢
  have h1:=qG x (m:=many) (by omega)
  have h2:=qG y (m:=many) (by omega)
  omega
 ·rw[if_neg e] at h
  simp at h
theorem Nf {many:Int}:0 < (if many > (1:Int) then many else (1:Int)):=by split<;>omega
theorem S9 (script:List Int) (at_ many:Int) (a0:0<=at_) (a1:at_<=500) (head:List Int) (hh:6<=head.length) (names:List Str) (hn:names.length=many.toNat) (k:Nat) (hk:k < 60) (told:List kE) (h:told.length<=k/\Rs names told) :
  iZ script at_ many head names told k/\(eZ script at_ many head names told k).length<=k+1/\Rs names (eZ script at_ many head names told k):=by
 obtain⟨n1,n2,n3⟩:=Kg (aY script ((at_+(1:Int))+k)) 4 (by decide) (by decide)
 have n2:(bA (aY script ((at_+(1:Int))+k)) 4).length=4:=n2
 unfold iZ eZ
 dsimp only
 generalize bA (aY script ((at_+(1:Int))+k)) 4=xs at *
 have en:=fun x y=>QZ (x:=x) (y:=y) hn
 have pm:=@Nf many
 generalize (if many > (1:Int) then many else (1:Int))=mm at *
 have ix:∀ i:Nat,i < 4->In xs.length (i:Int):=fun i hi=>JL (by omega)
 refine⟨⟨⟨Kf _ _ (by omega) (by omega),n1⟩,⟨⟨ix 0 (by decide),pm⟩,ix 1 (by decide),pm⟩,⟨⟨⟨ix 2 (by decide),ix 2 (by decide),ix 2 (by decide)⟩,in_of (by decide) (by omega)⟩,DR (by decide) (Int.le_refl 3)⟩,fun hne=>?_⟩,?_⟩
 ·have:=en _ _ hne
  exact⟨⟨Km this.1 this.2,Ko this.1 this.2,ix 3 (by decide),DR (by decide) (by decide)⟩,Fv (by omega)⟩
 ·split
  ·rename_i hne
   have:=en _ _ hne
   refine⟨by rw[List.length_append];show _+1<=_;omega,fun r hr=>?_⟩
   rcases List.mem_append.mp hr with hr|hr
   ·exact h.2 r hr
   ·cases List.mem_singleton.mp hr
    exact⟨zN (Km this.1 this.2),zN (Ko this.1 this.2)⟩
  ·exact⟨by omega,h.2⟩
theorem Tc (script:List Int) (at_ many:Int) (a0:0<=at_) (a1:at_<=500) (names:List Str) (hn:names.length=many.toNat) (k:Nat) (hk:k < 60) (shut:List (Str×Str×Int)) (h:shut.length<=k/\∀ b∈shut,b.1∈names/\b.2.1∈names) :
  jc script at_ many names shut k/\(fj script at_ many names shut k).length<=k+1/\∀ b∈fj script at_ many names shut k,b.1∈names/\b.2.1∈names:=by
 obtain⟨n1,n2,n3⟩:=Kg (aY script ((at_+(1:Int))+k)) 8 (by decide) (by decide)
 have n2:(bA (aY script ((at_+(1:Int))+k)) 8).length=8:=n2
 unfold jc fj
 dsimp only
 generalize bA (aY script ((at_+(1:Int))+k)) 8=xs at *
 have en:=fun x y=>QZ (x:=x) (y:=y) hn
 have pm:=@Nf many
 generalize (if many > (1:Int) then many else (1:Int))=mm at *
 have ix:∀ i:Nat,i < 8->In xs.length (i:Int):=fun i hi=>JL (by omega)
 refine⟨⟨⟨Kf _ _ (by omega) (by omega),n1⟩,⟨⟨ix 5 (by decide),pm⟩,ix 6 (by decide),pm⟩,fun hne=>?_⟩,?_⟩
 ·have:=en _ _ hne
  exact⟨⟨Km this.1 this.2,Ko this.1 this.2,ix 7 (by decide),DR (by decide) (by decide)⟩,Fv (by omega)⟩
 ·split
  ·rename_i hne
   have:=en _ _ hne
   refine⟨by rw[List.length_append];show _+1<=_;omega,fun r hr=>?_⟩
   rcases List.mem_append.mp hr with hr|hr
   ·exact h.2 r hr
   ·cases List.mem_singleton.mp hr
    exact⟨zN (Km this.1 this.2),zN (Ko this.1 this.2)⟩
  ·exact⟨by omega,h.2⟩
structure Gr (g:(List Str)×(List kE)×(List (Str×Str×Int))):Prop where
 nd:g.1.Nodup
 len:g.1.length < 64
 rs:Rs g.1 g.2.1
 bs:∀ b∈g.2.2,b.1∈g.1/\b.2.1∈g.1
 rl:g.2.1.length < 64
 bl:g.2.2.length < 64
 so:g.1.Pairwise sS
 rn:g.2.1.Nodup
theorem Rs.turn {names:List Str} {rs:List kE} (h:Rs names rs):Rs names (rs.map fun q3:(Int×Str×Str×Int)=>(((0:Int) - q3.1),q3.2.1,q3.2.2.1,q3.2.2.2)):=fun r hr=>by
 obtain⟨q,hq,rfl⟩:=List.mem_map.mp hr
 exact h q hq
theorem Td (script:List Int) (at_ many reasons bars:Int) (a0:0<=at_) (a1:at_<=500) (m0:0<=many) (m1:many<=15) (r0:0<=reasons) (r1:reasons < 60) (b0:0<=bars) (b1:bars < 60):lJ script at_ many reasons bars/\Gr (jQ script at_ many reasons bars):=by
 obtain⟨n1,n2,n3⟩:=Kg (aY script at_) 6 (by decide) (by decide)
 have n2:(bA (aY script at_) 6).length=6:=n2
 have key:∀ head:List Int,6<=head.length->nW script at_ many reasons bars head/\Gr (nU script at_ many reasons bars head):=fun head hh=>by
  obtain⟨k1,k2,k3⟩:=W2 head hh many m0 (by omega)
  have knd:=W4 head many m1
  have hn:(mX (dZ head many)).length=many.toNat:=by rw[(j8 _).length_eq,k2]
  have nd:(mX (dZ head many)).Nodup:=(j8 _).nodup_iff.mpr knd
  have c8:∀ names:List Str,names.length=many.toNat->names.Nodup->names.Pairwise sS->nT script at_ many reasons bars head names/\Gr (nR script at_ many reasons bars head names):=fun names hn nd so=>by
   obtain⟨t1,t2,t3⟩:=yL (P:=fun f k=>some (iZ script at_ many head names f k)) (step:=fun f k=>eZ script at_ many head names f k) (fun k s=>s.length<=k/\Rs names s) reasons.toNat [] ⟨Nat.le_refl 0,fun r h=>(by cases h)⟩ fun k s hk h=>S9 script at_ many a0 a1 head hh names hn k (by omega) s h
   obtain⟨s1,s2,s3⟩:=yL (P:=fun f k=>some (jc script at_ many names f k)) (step:=fun f k=>fj script at_ many names f k) (fun k s=>s.length<=k/\∀ b∈s,b.1∈names/\b.2.1∈names) bars.toNat [] ⟨Nat.le_refl 0,fun r h=>(by cases h)⟩ fun k s hk h=>Tc script at_ many a0 a1 names hn k (by omega) s h
   have sl:=Nat.lt_of_le_of_lt s2 (show bars.toNat < 64 by omega)
   have c6:∀ told:List kE,told.length<=reasons.toNat->Rs names told->nQ script at_ many reasons bars head names told/\Gr (nP script at_ many reasons bars head names told):=fun told tl tr=>by
    have dl:=Cd told
    have sp:=(lZ (e:=eP4 eI eS eS eI) (Ca told)).length_eq
    refine⟨⟨⟨⟨by omega,by omega⟩,by rw[sp];omega⟩,⟨HX b0 (by omega),s1⟩,Nat.le_of_lt sl,sl⟩,nd,?_,?_,?_,?_,?_,so,?_⟩
    ·show names.length < 64
     omega
    ·exact Rs.turn fun r hr=>tr r (rH.mp ((lZ _).mem_iff.mp hr))
    ·exact fun b hb=>s3 b (rH.mp ((lZ _).mem_iff.mp hb))
    ·show (List.map _ _).length < 64
     rw[List.length_map,sp];omega
    ·show (sV _ _).length < 64
     rw[(lZ _).length_eq]
     exact Nat.lt_of_le_of_lt (Cd _) sl
    ·show (List.map _ _).Nodup
     unfold List.Nodup
     rw[List.pairwise_map]
     refine ((lZ (e:=eP4 eI eS eS eI) (Ca told)).nodup_iff.mpr (Dp told)).imp ?_
     intro a b hne e
     apply hne
     obtain⟨a1,a2,a3,a4⟩:=a
     obtain⟨b1,b2,b3,b4⟩:=b
     simp only[Prod.mk.injEq] at e ⊢
     exact⟨by omega,e.2⟩
   have:=c6 _ t2 t3
   exact⟨⟨⟨HX r0 (by omega),t1⟩,this.1⟩,this.2⟩
  have:=c8 _ hn nd (w5 _)
  exact⟨⟨⟨k1,by rw[k2];omega⟩,this.1⟩,this.2⟩
 have:=key _ (Nat.le_of_eq n2.symm)
 exact⟨⟨⟨Kf _ _ a0 (by omega),n1⟩,this.1⟩,this.2⟩
theorem ZR (bars:List Bar) (names:List Str) (rs:List kE):(∀ r∈(iJ bars names rs).2.1,r∈rs)/\(∀ q∈(iJ bars names rs).2.2,q.1∈rs)/\(rs.Nodup->∀ q∈(iJ bars names rs).2.2,q.1∉(iJ bars names rs).2.1):=by
 obtain⟨K,B,h1,h2,h3,h4,h5⟩:=qY bars rs (cM names,[],[])
 have h1:(iJ bars names rs).2.1=K:=h1
 have h2:(iJ bars names rs).2.2=B:=h2
 rw[h1,h2]
 exact⟨h3,h4,h5⟩
theorem Rs.sub {names:List Str} {rs rs':List kE} (h:Rs names rs) (hs:∀ r∈rs',r∈rs):Rs names rs':=fun r hr=>h r (hs r hr)
section
variable {names:List Str} {rs:List kE} {bars:List Bar} (s:Gr (names,rs,bars))
include s
theorem W5 (k:Nat) (hk:k<=rs.length):fX (names,rs,bars) (aG (names,rs,bars)) (k:Int)/\dJ (names,rs,bars) (aG (names,rs,bars)) (k:Int)=true:=by
 obtain⟨nd,hl,hr,hbs,rl,bl,so,rn⟩:=s
 have hbs:∀ b∈bars,b.1∈names/\b.2.1∈names:=hbs
 have nd:names.Nodup:=nd
 have hl:names.length < 64:=hl
 have hr:Rs names rs:=hr
 have rl:rs.length < 64:=rl
 have so:names.Pairwise sS:=so
 have rn:rs.Nodup:=rn
 have hc:cut rs none (some (k:Int))=rs.take k:=Wx hk
 have sub:Rs names (rs.take k):=hr.sub fun r h=>List.mem_of_mem_take h
 obtain⟨d0,i0⟩:=q8 nd hl hbs hr rl
 obtain⟨d1,i1⟩:=q8 nd hl hbs sub (by rw[List.length_take];omega)
 obtain⟨pd,P,pe,ph⟩:=WY nd hl i1.rs
 rw[<-i1.e] at ph
 have se:=ZQ so i1.h i1.l ph
 have dis:∀ r∈rs.drop k,r∉rs.take k:=fun r h1 h2=>by
  have:=rn
  rw[<-List.take_append_drop k rs,List.nodup_append] at this
  exact this.2.2 r h2 r h1 rfl
 obtain⟨f1,f2⟩:=xM bars names dis
 rw[List.take_append_drop] at f1 f2
 have kl:(iJ bars names rs).2.1.length<=rs.length:=i0.kl
 have bl:(iJ bars names rs).2.2.length<=rs.length:=i0.bl
 refine⟨?_,?_⟩
 ·show jC (names,rs,bars) (aG (names,rs,bars)) (k:Int) names rs bars (cut rs none (some (k:Int)))
  rw[hc]
  refine⟨d1,?_⟩
  rw[eV,eV]
  exact⟨Nat.le_trans kl (by omega),fun _=>⟨Nat.le_trans bl (by omega),fun _=>pd⟩⟩
 ·show jB (names,rs,bars) (aG (names,rs,bars)) (k:Int) names rs bars (cut rs none (some (k:Int)))=true
  rw[hc]
  show gZ (names,rs,bars) (aG (names,rs,bars)) (k:Int) names rs bars (rs.take k) (aG (names,rs.take k,bars))=true
  rw[eV,eV]
  unfold gZ
  dsimp only
  rw[List.map_id',List.map_id',f1,f2,pe,se]
  simp
theorem Pr (out:List kE) (ho:∀ r∈out,r∉(iJ bars names rs).2.1):gj (names,rs,bars) (aG (names,rs,bars)) out/\eY (names,rs,bars) (aG (names,rs,bars)) out=true:=by
 obtain⟨nd,hl,hr,hbs,rl,bl,so,rn⟩:=s
 have hbs:∀ b∈bars,b.1∈names/\b.2.1∈names:=hbs
 have rl:rs.length < 64:=rl
 have hl:names.length < 64:=hl
 have hr:Rs names rs:=hr
 have e1:((rs.filter fun reason:kE=>(!fP reason out)).map fun reason:kE=>reason)=rs.filter fun reason:kE=>(!fP reason out):=List.map_id' _
 have fl:=List.length_filter_le (fun reason:kE=>(!fP reason out)) rs
 obtain⟨d1,i1⟩:=q8 (names:=names) nd hl hbs (hr.sub fun r h=>(List.mem_filter.mp h).1) (rs:=rs.filter fun reason:kE=>(!fP reason out)) (by omega)
 obtain⟨w1,w2⟩:=qZ bars (fun r=>fP r out) rs (cM names) [] [] [] fun r _ hd=>ho r (j4.mp hd)
 have w1:(iJ bars names (rs.filter fun reason:kE=>(!fP reason out))).1=(iJ bars names rs).1:=w1
 have w2:(iJ bars names (rs.filter fun reason:kE=>(!fP reason out))).2.1=(iJ bars names rs).2.1:=w2
 refine⟨⟨by show rs.length<=_;omega,?_⟩,?_⟩
 ·show dw (names,((rs.filter fun reason:kE=>(!fP reason out)).map fun reason:kE=>reason),bars)
  rw[e1];exact d1
 ·unfold eY
  dsimp only
  rw[e1,eV,eV,w1,w2]
  simp
theorem Q0 (r:kE) (hm:r∈rs):iI (names,rs,bars) (aG (names,rs,bars)) r/\gC (names,rs,bars) (aG (names,rs,bars)) r=true:=by
 obtain⟨nd,hl,hr,hbs,rl,bl,so,rn⟩:=s
 have hbs:∀ b∈bars,b.1∈names/\b.2.1∈names:=hbs
 have rl:rs.length < 64:=rl
 have hl:names.length < 64:=hl
 have hr:Rs names rs:=hr
 have rn:rs.Nodup:=rn
 have e1:((rs.filter fun other:kE=>(!decide (other=r))).map fun other:kE=>other)=rs.filter fun other:kE=>(!decide (other=r)):=List.map_id' _
 have fl:=List.length_filter_le (fun other:kE=>(!decide (other=r))) rs
 obtain⟨d0,i0⟩:=q8 (names:=names) nd hl hbs hr rl
 obtain⟨d1,i1⟩:=q8 (names:=names) nd hl hbs (hr.sub fun r h=>(List.mem_filter.mp h).1) (rs:=rs.filter fun other:kE=>(!decide (other=r))) (by omega)
 have k0:(iJ bars names rs).2.1.length<=rs.length:=i0.kl
 have k1:(iJ bars names (rs.filter fun other:kE=>(!decide (other=r)))).2.1.length<=(rs.filter fun other:kE=>(!decide (other=r))).length:=i1.kl
 refine⟨⟨⟨by show rs.length<=_;omega,?_⟩,?_⟩,?_⟩
 ·show dw (names,((rs.filter fun other:kE=>(!decide (other=r))).map fun other:kE=>other),bars)
  rw[e1];exact d1
 ·dsimp only
  rw[e1,eV,eV]
  exact fun _=>⟨hm,Nat.le_trans k1 (by omega),Nat.le_trans k0 (by omega)⟩
 ·unfold gC
  dsimp only
  rw[e1,eV,eV]
  dsimp only
  by_cases hk:r∈(iJ bars names rs).2.1
  ·rw[j4.mpr hk,if_neg (by decide)]
   rw[List.map_id',List.map_id',decide_eq_true_eq]
   obtain⟨pre,post,hsp,hix⟩:∃ pre post,rs=pre++r::post/\Wv r rs=pre.length:=by
    have hlt:Wv r rs < rs.length:=List.findIdx_lt_length.mpr ⟨r,hm,decide_eq_true rfl⟩
    have hat:rs[Wv r rs]=r:=of_decide_eq_true (List.findIdx_getElem (w:=hlt))
    refine⟨rs.take (Wv r rs),rs.drop (Wv r rs+1),?_,by rw[List.length_take];omega⟩
    have:=List.drop_eq_getElem_cons hlt
    rw[hat] at this
    rw[<-this,List.take_append_drop]
   have hc:cut rs none (some (Wv r rs:Int))=pre:=by
    rw[hix,Wx (by rw[hsp,List.length_append];omega),hsp,List.take_left']
    rfl
   rw[hc]
   rw[hsp] at rn
   obtain⟨n1,n2,n3⟩:=List.nodup_append.mp rn
   obtain⟨n4,n5⟩:=List.nodup_cons.mp n2
   have hf:(rs.filter fun other:kE=>(!decide (other=r)))=pre++post:=by
    rw[hsp,List.filter_append,List.filter_cons_of_neg (by simp)]
    rw[List.filter_eq_self.mpr fun x hx=>?_,List.filter_eq_self.mpr fun x hx=>?_]
    ·have:x≠r:=fun e=>n4 (e▸hx)
     simp[this]
    ·have:x≠r:=n3 x hx r (List.mem_cons_self ..)
     simp[this]
   rw[hf,hsp]
   have g1:=(xM bars names (pre:=pre) (post:=post) fun x h1 h2=>n3 x h2 x (List.mem_cons_of_mem _ h1) rfl).1
   have g2:=(xM bars names (pre:=pre) (post:=r::post) fun x h1 h2=>n3 x h2 x h1 rfl).1
   exact g1.trans g2.symm
  ·have hq:fP r (iJ bars names rs).2.1=false:=by
    cases hq:fP r (iJ bars names rs).2.1 with
    |false=>rfl
    |true=>exact absurd (j4.mp hq) hk
   rw[hq,if_pos (by decide)]
   obtain⟨w1,w2⟩:=qZ bars (fun x=>decide (x=r)) rs (cM names) [] [] [] fun x _ hd=>by rw[of_decide_eq_true hd];exact hk
   have w1:(iJ bars names (rs.filter fun other:kE=>(!decide (other=r)))).1=(iJ bars names rs).1:=w1
   have w2:(iJ bars names (rs.filter fun other:kE=>(!decide (other=r)))).2.1=(iJ bars names rs).2.1:=w2
   rw[w1,w2]
   simp
theorem ae3 (script xs:List Int):Fj script xs (names,rs,bars)/\Fi script xs (names,rs,bars)=true:=by
 have rl:rs.length < 64:=s.rl
 have rn:rs.Nodup:=s.rn
 obtain⟨d0,i0⟩:=q8 (names:=names) s.nd s.len s.bs s.rs s.rl
 obtain⟨q1,q2,q3⟩:=ZR bars names rs
 have k0:(iJ bars names rs).2.1.length<=rs.length:=i0.kl
 have b0:(iJ bars names rs).2.2.length<=rs.length:=i0.bl
 have fo:∀ many∈rng 0 ((rs.length:Int)+1).toNat,fX (names,rs,bars) (aG (names,rs,bars)) many/\dJ (names,rs,bars) (aG (names,rs,bars)) many=true:=fun many hm=>by
  obtain⟨k,hk,rfl⟩:=QL hm
  exact W5 s k (by omega)
 have fa:((rng 0 ((rs.length:Int)+1).toNat).map fun many:Int=>dJ (names,rs,bars) (aG (names,rs,bars)) many).all id=true:=by
  rw[List.all_eq_true]
  intro x hx
  obtain⟨many,hm,rfl⟩:=List.mem_map.mp hx
  exact (fo many hm).2
 have c2:∀ ba be,EY script xs (names,rs,bars) (aG (names,rs,bars)) ba be/\yX script xs (names,rs,bars) (aG (names,rs,bars)) ba be=true:=fun ba be=>by
  refine⟨⟨by show rs.length<=_;omega,fun r hr=>(Q0 s r hr).1⟩,?_⟩
  unfold yX
  rw[List.all_eq_true]
  intro x hx
  obtain⟨r,hr,rfl⟩:=List.mem_map.mp hx
  exact (Q0 s r hr).2
 have c3:∀ ba be:List kE,ba.length < 64->be.length < 64->(∀ r∈ba,r∉(iJ bars names rs).2.1)->(∀ r∈be,r∉(iJ bars names rs).2.1)->Fd script xs (names,rs,bars) (aG (names,rs,bars)) ba be/\Fb script xs (names,rs,bars) (aG (names,rs,bars)) ba be=true:=fun ba be l1 l2 h1 h2=>by
  have all:∀ out∈[ba,be,(ba++be),(cut be none (some (1:Int))),(cut ba (some (-(1:Int))) none)],∀ r∈out,r∉(iJ bars names rs).2.1:=fun out ho r hr=>by
   simp only[List.mem_cons,List.not_mem_nil,or_false] at ho
   rcases ho with rfl|rfl|rfl|rfl|rfl
   ·exact h1 r hr
   ·exact h2 r hr
   ·exact (List.mem_append.mp hr).elim (h1 r) (h2 r)
   ·exact h2 r (QK hr)
   ·exact h1 r (QK hr)
  obtain⟨f1,f2⟩:=Mp (P:=fun s1 out=>some (Ez (names,rs,bars) (aG (names,rs,bars)) s1 out)) (step:=fun s1 out=>qX (names,rs,bars) (aG (names,rs,bars)) s1 out) [ba,be,(ba++be),(cut be none (some (1:Int))),(cut ba (some (-(1:Int))) none)] fun out ho=>by
   obtain⟨w1,w2⟩:=Pr s out (all out ho)
   refine⟨w1,.inl ?_⟩
   unfold qX
   rw[w2]
   rfl
  refine⟨⟨⟨by show _<=1000000;omega,f2⟩,?_⟩,?_⟩
  ·show yJ (pG _ _ _) _
   rw[f1]
   exact (c2 ba be).1
  ·show behind (pG _ _ _) _ _=true
   rw[f1]
   exact (c2 ba be).2
 have c4:∀ ba:List kE,ba.length < 64->(∀ r∈ba,r∉(iJ bars names rs).2.1)->Fg script xs (names,rs,bars) (aG (names,rs,bars)) ba/\Fe script xs (names,rs,bars) (aG (names,rs,bars)) ba=true:=fun ba l1 h1=>by
  have:=c3 ba ((rs.filter fun reason:kE=>((!fP reason (aG (names,rs,bars)).2.1)&&(!fP reason ba))).map fun reason:kE=>reason) l1 (by
   rw[List.map_id']
   exact Nat.lt_of_le_of_lt (List.length_filter_le _ _) rl) h1 (fun r hr hk=>by
   rw[List.map_id',List.mem_filter,Bool.and_eq_true] at hr
   have:=hr.2.1
   rw[eV] at this
   rw[j4.mpr hk] at this
   cases this)
  exact⟨⟨by show rs.length<=_;omega,this.1⟩,this.2⟩
 have c5:=c4 ((aG (names,rs,bars)).2.2.map fun row=>row.1) (by
  rw[List.length_map,eV]
  exact Nat.lt_of_le_of_lt b0 rl) fun r hr=>by
   obtain⟨q,hq,rfl⟩:=List.mem_map.mp hr
   rw[eV] at hq
   exact q3 rn q hq
 refine⟨⟨d0,⟨⟨HX (by show (0:Int)<=(rs.length:Int)+1;omega) (by show (rs.length:Int)+1<=_;omega),by rw[yK];show ((rs.length:Int)+1).toNat<=_;omega⟩,fun many hm=>(fo many hm).1⟩,fun _=>⟨by rw[eV];exact Nat.le_trans b0 (by omega),c5.1⟩⟩,?_⟩
 show yZ script xs (names,rs,bars) (aG (names,rs,bars))=true
 unfold yZ
 dsimp only
 rw[fa,if_neg (by decide)]
 exact c5.2
end
theorem W6 (ns:List Int) (_:ns.length<=63):QT ns/\QS ns=true:=by
 obtain⟨n1,n2,n3⟩:=Kg (aY ns 0) 12 (by decide) (by decide)
 have n2:(bA (aY ns 0) 12).length=12:=n2
 have c7:∀ xs:List Int,xs.length=12->Fo ns xs/\Fl ns xs=true:=fun xs hx=>by
  have m1:=qG (at' xs 6) (m:=10) (by decide)
  have m2:=qG (at' xs 7) (m:=15) (by decide)
  have m3:=qG (at' xs 8) (m:=7) (by decide)
  obtain⟨gd,gg⟩:=Td ns 0 (at' xs 6 % 10) (at' xs 7 % 15) (at' xs 8 % 7) (by decide) (by decide) m1.1 (by omega) m2.1 (by omega) m3.1 (by omega)
  have ix:∀ i:Nat,i < 12->In xs.length (i:Int):=fun i hi=>JL (by omega)
  have:=ae3 gg ns xs
  exact⟨⟨⟨⟨ix 6 (by decide),ix 7 (by decide),ix 8 (by decide)⟩,gd⟩,this.1⟩,this.2⟩
 have:=c7 _ n2
 exact⟨⟨⟨Kf _ _ (by decide) (by decide),n1⟩,this.1⟩,this.2⟩
theorem H1:∀ ns:List Int,ns.length<=63->pY [.z (.lst (ns.map .int))]=some (.z (.bl true)):=(aay W6).1
theorem H2:∀ ns:List Int,ns.length<=63->pY [.l (ns.map .int)]=some (.z (.bl true)):=(aay W6).2
end G27
end
open PySem PySem.W PyProof.Rows
set_option maxRecDepth 100000 in
set_option maxHeartbeats 0 in
theorem PySem.Challenge.cw_onefolk_k27_whole_joinings_by_and_by_holds : PySem.Challenge.rw_onefolk_k27_whole_joinings_by_and_by.Holds := by
 w_on;o_law;k_head;(case hw=>w_witness2)
 k_fill
 refine G27.walk (l:=PySem.Challenge.rw_onefolk_k27_whole_joinings_by_and_by) rfl rfl G27.H1 G27.H2 (fun w h Y=>PySem.W.kIn_of Y) ?F
 case F=>
  intro w mg fa h KX G hmg
  refine' G27.all_mk KX G hmg ?a0 ?l0 ?c0 ?k0 ?a1 ?l1 ?c1 ?k1 ?a2 ?l2 ?c2 ?k2 ?a3 ?l3 ?c3 ?k3 ?a4 ?l4 ?c4 ?k4 ?a5 ?l5 ?c5 ?k5 ?a6 ?l6 ?c6 ?k6 ?a7 ?l7 ?c7 ?k7 ?a8 ?l8 ?c8 ?k8 ?a9 ?l9 ?c9 ?k9 ?a10 ?l10 ?c10 ?k10 ?a11 ?l11 ?c11 ?k11 ?a12 ?l12 ?c12 ?k12 ?a13 ?l13 ?c13 ?k13 ?a14 ?l14 ?c14 ?k14 ?Mw ?HY ?Mx ?DX ?DY ?wI ?Ea ?mR ?Ia ?lC ?lD
  (case a0=>k_is);(case l0=>k_is);(case c0=>k_is);(case k0=>k_is)
  (case a1=>k_is);(case l1=>k_is);(case c1=>k_is);(case k1=>k_is)
  (case a2=>k_is);(case l2=>k_is);(case c2=>k_is);(case k2=>k_is)
  (case a3=>k_is);(case l3=>k_is);(case c3=>k_is);(case k3=>k_is)
  (case a4=>k_is);(case l4=>k_is);(case c4=>k_is);(case k4=>k_is)
  (case a5=>k_is);(case l5=>k_is);(case c5=>k_is);(case k5=>k_is)
  (case a6=>k_is);(case l6=>k_is);(case c6=>k_is);(case k6=>k_is)
  (case a7=>k_is);(case l7=>k_is);(case c7=>k_is);(case k7=>k_is)
  (case a8=>k_is);(case l8=>k_is);(case c8=>k_is);(case k8=>k_is)
  (case a9=>k_is);(case l9=>k_is);(case c9=>k_is);(case k9=>k_is)
  (case a10=>k_is);(case l10=>k_is);(case c10=>k_is);(case k10=>k_is)
  (case a11=>k_is);(case l11=>k_is);(case c11=>k_is);(case k11=>k_is)
  (case a12=>k_is);(case l12=>k_is);(case c12=>k_is);(case k12=>k_is)
  (case a13=>k_is);(case l13=>k_is);(case c13=>k_is);(case k13=>k_is)
  (case a14=>k_is);(case l14=>k_is);(case c14=>k_is);(case k14=>k_is)
  (case Mw=>k_is)
  (case HY=>k_is)
  (case Mx=>k_is)
  (case DX=>k_is)
  (case DY=>k_is)
  (case wI=>k_is)
  (case Ea=>k_is)
  (case mR=>k_is)
  (case Ia=>k_is)
  (case lC=>k_is)
  (case lD=>k_is)
