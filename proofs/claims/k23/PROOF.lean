import PyProof.Rows.All
import Wide.All
import OpenK.AllK
import Wide.FinOn
import PyProof.EqAt
import PyProof.EqKinds
import PyProof.TupleCall
import PyProof.StrWalks
import PyProof.StrLawsTight
import PyProof.StrLawsIn
import PyProof.StrLawsIdx
import PyProof.ConsumeWalk
import PyProof.StrBlockG
import PyProof.MeetsStr2
import PyProof.ZipIter
import PyProof.Rows.ZipGen
import PyProof.NeKinds
import OpenK.KOwn
import PyProof.NsDelKeeps
import PyProof.ExcClass3
import PyProof.StationsW
import KE.KIsAll
import OpenK.KDescr
import KE.KIntText
import PyProof.FString
import PyProof.ReprStr
import PyProof.StrLawsRepr
import PyProof.DictItems
import PyProof.Rows.DictItemsRows
import KE.KPairComp
import KE.KMinKey
import PyProof.Rows.MinMaxN
import PyProof.Rows.CallKwBuiltin
import PyProof.AutoListH
import PyProof.Rows.TupIter
import PyProof.Rows.StrWeight2
import PyProof.EnumFor
import PyProof.EnumMake
import PyProof.Rows.EnumRows
import PyProof.Rows.SeqGen
import KE.KRevSl
import OpenK.KCls
import PyProof.Rows.SetFrom
import PyProof.SetRoads
import PyProof.DictKinds
import PyProof.Rows.Range3
import KE.KTupSum
import KE.KDictList
import PyProof.DictValues
import KE.KEqDict
import PyProof.DictWalks
import PyProof.Rows.SortShellK
import PyProof.Rows.SortStr
import KE.KSort
import PyProof.Rows.StrMeet
import KE.KDictLaws
import PyProof.ListRange
import PyProof.RangeFor
import PyProof.TupleOfSeq
import PyProof.P3In
import KE.KEqDeep
import PyProof.TupleOps
import PySem.Challenge.RW_curdcellar_k23_recall_of_a_book
set_option Elab.async false
set_option linter.all false
set_option maxRecDepth 100000
namespace L2
open PySem PySem.Spec PyProof.Rows
abbrev Key:=Sum Int Str
def q7n:Key->Value->Bool
 | .inl k,v=>Value.isInt k v
 | .inr x,v=>Value.isStrOf x v
def keyH (w:World):Key->Int
 | .inl k=>hashInt k
 | .inr x=>hashStr w x
theorem q2k:∀ {k:Key} {v:Value},q7n k v=true->(∃ i t,k=Sum.inl i/\v=Value.int i t)\/(∃ x t,k=Sum.inr x/\v=Value.str x t)
 | .inl i,v,h=>by
  obtain ⟨t,e⟩:=Value.isInt_shape (k:=i) (v:=v) h
  exact .inl ⟨i,t,rfl,e⟩
 | .inr x,v,h=>by
  obtain ⟨t,e⟩:=Value.isStrOf_shape (x:=x) (v:=v) h
  exact .inr ⟨x,t,rfl,e⟩
theorem qk0 (i:Int) (t:Tok):q7n (.inl i) (.int i t)=true:=by simp [q7n,Value.isInt]
theorem qk4 (x:Str) (t:Tok):q7n (.inr x) (.str x t)=true:=by simp [q7n,Value.isStrOf]
theorem key_ll (a b:Int):decide ((Sum.inl a:Key)=Sum.inl b)=(a == b):=by
 by_cases e:a=b
 ·subst e;simp
 ·have h:¬ (Sum.inl a:Key)=Sum.inl b:=fun q=>e (Sum.inl.inj q)
  rw [decide_eq_false h]
  exact (beq_eq_false_iff_ne.mpr e).symm
theorem key_rr (a b:Str):decide ((Sum.inr a:Key)=Sum.inr b)=decide (a=b):=by
 by_cases e:a=b
 ·subst e;simp
 ·have h:¬ (Sum.inr a:Key)=Sum.inr b:=fun q=>e (Sum.inr.inj q)
  rw [decide_eq_false h,decide_eq_false e]
theorem key_lr (a:Int) (b:Str):decide ((Sum.inl a:Key)=Sum.inr b)=false:=decide_eq_false (fun q=>nomatch q)
theorem key_rl (a:Str) (b:Int):decide ((Sum.inr a:Key)=Sum.inl b)=false:=decide_eq_false (fun q=>nomatch q)
def q20 (prog:Program) (w:World):PySem.KeyKind prog w Key where
 is:=q7n
 hash:=keyH w
 inj:=fun v a b ha hb=>by
  rcases q2k ha with ⟨i,t,rfl,rfl⟩ | ⟨x,t,rfl,rfl⟩
  ·rcases q2k hb with ⟨j,u,rfl,e⟩ | ⟨y,u,rfl,e⟩
   ·injection e with e1 _;rw [e1]
   ·exact nomatch e
  ·rcases q2k hb with ⟨j,u,rfl,e⟩ | ⟨y,u,rfl,e⟩
   ·exact nomatch e
   ·injection e with e1 _;rw [e1]
 byValue:=fun k v h=>by
  rcases q2k h with ⟨i,t,rfl,rfl⟩ | ⟨x,t,rfl,rfl⟩ <;> rfl
 pyHash:=fun hv h=>by
  rcases q2k hv with ⟨i,t,rfl,rfl⟩ | ⟨x,t,rfl,rfl⟩
  ·exact wpAny_pyHash_int h
  ·exact wpAny_pyHash_str h
 eqBool:=fun hu hv h=>by
  rcases q2k hu with ⟨i,t,rfl,rfl⟩ | ⟨x,t,rfl,rfl⟩
  ·rcases q2k hv with ⟨j,u,rfl,rfl⟩ | ⟨y,u,rfl,rfl⟩
   ·rw [key_ll] at h;exact wpAny_eqBool_int h
   ·rw [key_lr] at h;exact SeqAt.EqAt.int_str i t y u _ _ _ _ h
  ·rcases q2k hv with ⟨j,u,rfl,rfl⟩ | ⟨y,u,rfl,rfl⟩
   ·rw [key_rl] at h;exact SeqAt.EqAt.str_int x t j u _ _ _ _ h
   ·rw [key_rr] at h;exact wpAny_eqBool_str h
 «strs»:=fun k x t v h=>by
  rcases q2k h with ⟨i,u,rfl,e⟩ | ⟨y,u,rfl,e⟩
  ·exact nomatch e
  ·injection e with e1 _
   subst e1
   cases v <;> rfl
theorem qff (prog:Program) (w:World) (i:Int) (t:Tok):(q20 prog w).is (.inl i) (.int i t)=true:=qk0 i t
theorem qf8 (prog:Program) (w:World) (x:Str) (t:Tok):(q20 prog w).is (.inr x) (.str x t)=true:=qk4 x t
end L2
namespace L2
open PySem PySem.Spec PyProof.Rows
inductive V where
 | non | bl (b:Bool) | int (i:Int) | str (x:Str) | byt (b:Array UInt8) | flt (b:UInt64) | ref (a:Addr) | ty (n:String)
 deriving DecidableEq
def RelV:V->Value->Prop
 | .non,u=>u=Value.none
 | .bl b,u=>u=Value.bool b
 | .int i,u=>∃ t,u=Value.int i t
 | .str x,u=>∃ t,u=Value.str x t
 | .byt b,u=>∃ t,u=Value.bytes b t
 | .flt b,u=>∃ t,u=Value.float b t
 | .ref a,u=>u=Value.ref a
 | .ty n,u=>u=Value.type n
abbrev Vals:List V->List Value->Prop:=Paired RelV
theorem Vals.length {xs:List V} {us:List Value} (r:Vals xs us):xs.length=us.length:=Paired.length r
theorem Vals.get:∀ {xs:List V} {us:List Value} {i:Nat} {x:V},Vals xs us->xs[i]?=some x->∃ u,us[i]?=some u/\RelV x u
 | _,_,_,_, .nil,e=>by simp at e
 | _,_,0,_, .cons r _,e=>by simp at e;subst e;exact ⟨_,rfl,r⟩
 | _,_,i+1,x, .cons _ t,e=>by
  obtain ⟨u,h1,h2⟩:=Vals.get (i:=i) (x:=x) t (by simpa using e)
  exact ⟨u,by simpa using h1,h2⟩
theorem Vals.append:∀ {xs ys:List V} {us ws:List Value},Vals xs us->Vals ys ws->Vals (xs++ys) (us++ws)
 | _,_,_,_, .nil,s=>s
 | _,_,_,_, .cons r t,s=>.cons r (Vals.append t s)
theorem Vals.take:∀ {xs:List V} {us:List Value} (n:Nat),Vals xs us->Vals (xs.take n) (us.take n)
 | _,_,0,_=>.nil
 | _,_,_+1, .nil=>.nil
 | _,_,n+1, .cons r t=>.cons r (Vals.take n t)
theorem Vals.drop:∀ {xs:List V} {us:List Value} (n:Nat),Vals xs us->Vals (xs.drop n) (us.drop n)
 | _,_,0,r=>r
 | _,_,_+1, .nil=>.nil
 | _,_,n+1, .cons _ t=>Vals.drop n t
def RelO:Option V->Option Value->Prop
 | some v,some u=>RelV v u
 | none,none=>True
 | _,_=>False
def KV {κ:Type}:List (κ×V)->List (κ×Value)->Prop:=Paired fun (p:κ×V) (q:κ×Value)=>p.1=q.1/\RelV p.2 q.2
def kV:Key->V
 | .inl i=>.int i
 | .inr x=>.str x
inductive HO where
 | lst (xs:List V)
 | tup (xs:List V)
 | dK (kvs:List (Key×V)) | dT (kvs:List (List Key×V))
 | set (S:Int->Bool) (n:Nat)
 | ins (C dx:Addr) (fs:List (Str×V))
 | own (x:Addr)
 | xd (fs:List (Str×V))
 | met (f x:Addr)
 | rng (lo hi:Int)
 | frz (o:Obj) (u:HO)
 | tbl (ps:Array Value)
 | ext (φ:Heap->Prop)
abbrev Hp:=Addr->Option HO
def upd (H:Hp) (a:Addr) (o:HO):Hp:=fun b=>if b=a then some o else H b
theorem q24 {H:Hp} {a:Addr} {o:HO}:upd H a o a=some o:=by unfold upd;rw [if_pos rfl]
theorem q0p {H:Hp} {a b:Addr} {o:HO} (h:b≠a):upd H a o b=H b:=by unfold upd;rw [if_neg h]
theorem qhb {H:Hp} {a b:Addr} {o u:HO} (h:H a=some o) (h':H b=some u) (d:o≠u):a≠b:=by
 intro e;subst e;rw [h] at h';exact d (Option.some.inj h')
theorem q2l {H:Hp} {a b:Addr} {o:HO} (h:H a=some o) (h':H b=none):a≠b:=by
 intro e;subst e;rw [h] at h';cases h'
section
variable (P:Program) (w:World)
def q1s (H:Hp) (h:Heap) (a:Addr):HO->Prop
 | .lst xs=>xs.length<=sizeLine/\∃ (its:List Value) (n:Nat),Vals xs its/\h.get? a=some {cls:=.type "list",data:=.seq its.toArray n}
 | .tup xs=>xs.length<=sizeLine/\∃ its:List Value,Vals xs its/\IsTup h a its.toArray
 | .dK kvs=>kvs.length<=sizeLine/\(a == sysModules)=false/\∃ vs,KV kvs vs/\h.DictOf (q20 P w) a vs
 | .dT kvs=>kvs.length<=sizeLine/\(a == sysModules)=false/\∃ xs:List (List Key×Addr×Value),
   Paired (fun (p:List Key×V) (q:List Key×Addr×Value)=>p.1=q.1/\H q.2.1=some (.tup (p.1.map kV))/\RelV p.2 q.2.2) kvs xs /\
   ∃ o es ep,h.get? a=some o/\o.ExactDict/\o.data=.dict es ep/\es.toList=xs.map (entryOfKey (tupleKind (q20 P w)))/\(xs.map (·.1)).Nodup
 | .set S n=>h.SetOf (intKind P w) a S n
 | .ins C dx fs=>H dx=some (.own a)/\fs.length<=1000/\dx≠a/\h.get? a=some (PySem.W.instObj C dx) /\
   ∃ mA,h.Ns1 dx mA/\(∀ f,RelO (fs.lookup f) (mA f))/\PySem.Within mA (fs.map (·.1))
 | .own _=>∃ o,h.get? a=some o
 | .xd fs=>∃ mA,h.Ns1 a mA/\∀ f,RelO (fs.lookup f) (mA f)
 | .rng lo hi=>∃ t u v,h.get? a=some {cls:=.type "range",data:=.fields #[.int lo t, .int hi u, .int 1 v]}
 | .frz o u=>h.get? a=some o/\q1s H h a u
 | .tbl ps=>h.get? a=some {cls:=.none,data:=.fields ps}
 | .met f x=>h.get? a=some (PySem.W.methodObj (.ref f) (.ref x))
 | .ext φ=>φ h/\(∃ o,h.get? a=some o)/\∀ h1 h2:Heap, φ h1->(∀ o,h1.get? a=some o->h2.get? a=some o)->φ h2
def HOk (H:Hp) (h:Heap):Prop:=∀ a o,H a=some o->q1s P w H h a o
end
section
variable {P:Program} {w:World} {H H':Hp} {h h':Heap} {a:Addr} {o:HO}
theorem q1s.lt (x:q1s P w H h a o):a<h.objs.size:=by
 cases o with
 | lst xs=>obtain ⟨_,_,_,_,e⟩:=x;exact Heap.lt_size e
 | tup xs=>obtain ⟨_,_,_,p⟩:=x;exact p.lt
 | dK kvs=>obtain ⟨_,_,_,_,o,_,_,e,_⟩:=x;exact Heap.lt_size e
 | dT kvs=>obtain ⟨_,_,_,_,o,_,_,e,_⟩:=x;exact Heap.lt_size e
 | set S n=>obtain ⟨o,_,_,_,e,_⟩:=x;exact Heap.lt_size e
 | ins C dx fs=>obtain ⟨_,_,_,e,_⟩:=x;exact Heap.lt_size e
 | own y=>obtain ⟨_,e⟩:=x;exact Heap.lt_size e
 | xd fs=>obtain ⟨_,⟨_,_,_,e,_⟩,_⟩:=x;exact Heap.lt_size e
 | rng lo hi=>obtain ⟨_,_,_,e⟩:=x;exact Heap.lt_size e
 | frz ob u=>obtain ⟨e,_⟩:=x;exact Heap.lt_size e
 | tbl ps=>exact Heap.lt_size (show h.get? a=some _ from x)
 | met f y=>exact Heap.lt_size (show h.get? a=some _ from x)
 | ext φ=>obtain ⟨_,⟨_,e⟩,_⟩:=x;exact Heap.lt_size e
theorem Paired.mapP {α β:Type} {F G:α->β->Prop}:∀ {l₁:List α} {l₂:List β},Paired F l₁ l₂->(∀ a b,F a b->G a b)->Paired G l₁ l₂
 | _,_, .nil,_=>.nil
 | _,_, .cons r t,f=>.cons (f _ _ r) (Paired.mapP t f)
theorem q1s.stay (x:q1s P w H h a o) (k:∀ b u,(b=a\/H b=some (.own a))->h.get? b=some u->h'.get? b=some u)
  (ho:∀ b,H b=some (.own a)->H' b=some (.own a)) (ht:∀ b xs,H b=some (.tup xs)->H' b=some (.tup xs)):q1s P w H' h' a o:=by
 induction o with
 | lst xs=>obtain ⟨z,its,n,r,e⟩:=x;exact ⟨z,its,n,r,k _ _ (.inl rfl) e⟩
 | tup xs=>obtain ⟨z,its,r,ob,e,c⟩:=x;exact ⟨z,its,r,ob,k _ _ (.inl rfl) e,c⟩
 | dK kvs=>obtain ⟨z,y,vs,r,ob,es,ep,e,c⟩:=x;exact ⟨z,y,vs,r,ob,es,ep,k _ _ (.inl rfl) e,c⟩
 | dT kvs =>
  obtain ⟨z,y,xs,r,ob,es,ep,e,c⟩:=x
  exact ⟨z,y,xs,Paired.mapP r fun p q z=>⟨z.1,ht _ _ z.2.1,z.2.2⟩,ob,es,ep,k _ _ (.inl rfl) e,c⟩
 | set S n=>obtain ⟨ob,es,ep,t,e,c⟩:=x;exact ⟨ob,es,ep,t,k _ _ (.inl rfl) e,c⟩
 | ins C dx fs =>
  obtain ⟨d,z,ne,e,mA,⟨od,es,ep,e2,c⟩,r⟩:=x
  exact ⟨ho _ d,z,ne,k _ _ (.inl rfl) e,mA,⟨od,es,ep,k _ _ (.inr d) e2,c⟩,r⟩
 | own y=>obtain ⟨ob,e⟩:=x;exact ⟨ob,k _ _ (.inl rfl) e⟩
 | xd fs=>obtain ⟨mA,⟨od,es,ep,e,c⟩,r⟩:=x;exact ⟨mA,⟨od,es,ep,k _ _ (.inl rfl) e,c⟩,r⟩
 | rng lo hi=>obtain ⟨t,u,v,e⟩:=x;exact ⟨t,u,v,k _ _ (.inl rfl) e⟩
 | frz ob u ih=>obtain ⟨e,q⟩:=x;exact ⟨k _ _ (.inl rfl) e,ih q⟩
 | tbl ps =>
  have e:h.get? a=some {cls:=.none,data:=.fields ps}:=x
  show h'.get? a=some {cls:=.none,data:=.fields ps}
  exact k a _ (.inl rfl) e
 | met f y =>
  have e:h.get? a=some (PySem.W.methodObj (.ref f) (.ref y)):=x
  show h'.get? a=some (PySem.W.methodObj (.ref f) (.ref y))
  exact k a _ (.inl rfl) e
 | ext φ=>obtain ⟨p,⟨o,e⟩,st⟩:=x;exact ⟨st _ _ p fun o q=>k _ _ (.inl rfl) q,⟨o,k _ _ (.inl rfl) e⟩,st⟩
theorem HOk.lt (x:HOk P w H h) (e:H a=some o):a<h.objs.size:=(x a o e).lt
theorem HOk.fresh (x:HOk P w H h) (e:h.objs.size<=a):H a=none:=by
 cases q:H a with
 | none=>rfl
 | some u=>exact absurd (Nat.lt_of_lt_of_le (x.lt q) e) (Nat.lt_irrefl _)
theorem HOk.kept (x:HOk P w H h) (k:∀ b u,h.get? b=some u->h'.get? b=some u):HOk P w H h':=fun a o e =>
 (x a o e).stay (fun b u _ q=>k b u q) (fun _ q=>q) fun _ _ q=>q
theorem HOk.laid (x:HOk P w H h) (k:∀ b u,h.get? b=some u->h'.get? b=some u) (hp:h.objs.size<=a) (new:q1s P w (upd H a o) h' a o):HOk P w (upd H a o) h':=fun b u e=>by
 have hn:=x.fresh hp
 by_cases hb:b=a
 ·subst hb;rw [q24] at e;cases e;exact new
 ·rw [q0p hb] at e
  exact (x b u e).stay (fun c v _ q=>k c v q) (fun c q=>by rw [q0p (q2l q hn)];exact q) fun c xs q=>by rw [q0p (q2l q hn)];exact q
end
def Rd (H:Hp) (a:Addr) (u:HO):Prop:=H a=some u\/∃ o,H a=some (.frz o u)
theorem Rd.ok {P:Program} {w:World} {H:Hp} {h:Heap} {a:Addr} {u:HO} (r:Rd H a u) (x:HOk P w H h):q1s P w H h a u:=by
 rcases r with r | ⟨o,r⟩
 ·exact x a u r
 ·obtain ⟨_,q⟩:=x a _ r
  exact q
def Mut:Option HO->Prop
 | some (.lst _)=>True
 | some (.dK _)=>True
 | some (.dT _)=>True
 | some (.set _ _)=>True
 | some (.ins _ _ _)=>True
 | some (.ext _)=>True
 | _=>False
section
variable {P:Program} {w:World} {H:Hp} {h h':Heap} {x e:Addr} {o':HO}
theorem HOk.write (ok:HOk P w H h) (mu:Mut (H x)) (he:e=x\/H e=some (.own x)) (k:∀ b u,b≠e->h.get? b=some u->h'.get? b=some u) (heo:∃ u,h'.get? e=some u)
  (new:q1s P w (upd H x o') h' x o'):HOk P w (upd H x o') h':=fun b u q=>by
 have nown:∀ c y,H c=some (.own y)->c≠x:=fun c y r z=>by subst z;rw [r] at mu;exact mu
 have ntup:∀ c xs,H c=some (.tup xs)->c≠x:=fun c xs r z=>by subst z;rw [r] at mu;exact mu
 by_cases hb:b=x
 ·subst hb;rw [q24] at q;cases q;exact new
 ·rw [q0p hb] at q
  by_cases hbe:b=e
  ·have q':H b=some (.own x):=by
    rcases he with z | z
    ·exact absurd (hbe.trans z) hb
    ·rw [hbe];exact z
   rw [q] at q';cases q'
   obtain ⟨v,hv⟩:=heo
   exact ⟨v,by rw [hbe];exact hv⟩
  ·refine (ok b u q).stay (fun c v hc r=>k c v ?_ r) (fun c r=>by rw [q0p (nown c b r)];exact r) fun c xs r=>by rw [q0p (ntup c xs r)];exact r
   rcases hc with rfl | hc
   ·exact hbe
   ·rintro rfl
    rcases he with z | z
    ·exact nown c b hc z
    ·rw [hc] at z;cases z;exact hb rfl
end
structure Un (fs ex:List Addr) (H H':Hp) (h h':Heap):Prop where
 keep:∀ b o,h.get? b=some o->H b=none->b∉fs->b∉ex->h'.get? b=some o
 slot:∀ b o,h.get? b=some o->H b=none->b∈fs->b∉ex->∃ sl,h'.get? b=some {o with slots:=sl}
 free:∀ b o,h.get? b=some o->H b=none->b∉ex->H' b=none
 there:∀ b o,h.get? b=some o->b∉ex->∃ o',h'.get? b=some o'
 tups:∀ b xs,H b=some (.tup xs)->H' b=some (.tup xs)
 frzs:∀ b o u,H b=some (.frz o u)->H' b=some (.frz o u)
 tbls:∀ b ps,H b=some (.tbl ps)->∃ more,H' b=some (.tbl (ps++more))
section
variable {fs fs' ex ex':List Addr} {H H1 H2:Hp} {h h1 h2 h':Heap} {a x e:Addr} {o:HO}
theorem Un.any (u:Un fs ex H H1 h h1) {b:Addr} {ob:Obj} (q:h.get? b=some ob) (n:H b=none) (hx:b∉ex):∃ sl,h1.get? b=some {ob with slots:=sl}:=by
 by_cases hb:b∈fs
 ·exact u.slot b ob q n hb hx
 ·exact ⟨ob.slots,u.keep b ob q n hb hx⟩
theorem Un.kept (k:∀ b u,h.get? b=some u->h'.get? b=some u):Un fs ex H H h h':=
 ⟨fun b ob q _ _ _=>k b ob q,fun b ob q _ _ _=>⟨ob.slots,k b ob q⟩,fun _ _ _ n _=>n,fun b ob q _=>⟨ob,k b ob q⟩,fun _ _ q=>q,fun _ _ _ q=>q,fun _ ps q=>⟨#[],by rw [q];simp⟩⟩
theorem Un.refl:Un fs ex H H h h:=Un.kept fun _ _ q=>q
theorem Un.laid (k:∀ b u,h.get? b=some u->h'.get? b=some u) (hp:h.objs.size<=a) (hn:H a=none):Un fs ex H (upd H a o) h h' where
 keep:=fun b u q _ _ _=>k b u q
 slot:=fun b u q _ _ _=>⟨u.slots,k b u q⟩
 free:=fun b u q n _=>by rw [q0p (Nat.ne_of_lt (Nat.lt_of_lt_of_le (Heap.lt_size q) hp))];exact n
 there:=fun b u q _=>⟨u,k b u q⟩
 tups:=fun b xs q=>by rw [q0p (q2l q hn)];exact q
 frzs:=fun b u xs q=>by rw [q0p (q2l q hn)];exact q
 tbls:=fun b ps q=>⟨#[],by rw [q0p (q2l q hn),q];simp⟩
theorem Un.write (mu:Mut (H x)) (he:e=x\/H e=some (.own x)) (k:∀ b u,b≠e->h.get? b=some u->h'.get? b=some u) (heo:∃ u,h'.get? e=some u):Un fs ex H (upd H x o) h h':=by
 have hx:∀ b,H b=none->b≠x:=fun b n z=>by subst z;rw [n] at mu;exact mu
 have hb:∀ b,H b=none->b≠e:=fun b n z=>by
  subst z
  rcases he with r | r
  ·exact hx b n r
  ·rw [n] at r;cases r
 have hm:∀ b u,H b=some u->¬ Mut (some u)->b≠x:=fun b u q nm z=>by subst z;rw [q] at mu;exact nm mu
 refine ⟨fun b u q n _ _=>k b u (hb b n) q,fun b u q n _ _=>⟨u.slots,k b u (hb b n) q⟩,fun b u q n _=>by rw [q0p (hx b n)];exact n,fun b u q _=>?_,
  fun b xs q=>by rw [q0p (hm b _ q fun z=>z)];exact q,fun b u xs q=>by rw [q0p (hm b _ q fun z=>z)];exact q,fun b ps q=>⟨#[],by rw [q0p (hm b _ q fun z=>z),q];simp⟩⟩
 by_cases hbe:b=e
 ·subst hbe;exact heo
 ·exact ⟨u,k b u hbe q⟩
end
def trk (h:Heap) (H:Hp):List Addr:=(List.range h.objs.size).filter fun a=>(H a).isSome
def hidT (h:Heap) (H:Hp):Heap:=PySem.W.hideAll h (trk h H)
theorem qi8 (h:Heap) (H:Hp):(hidT h H).objs.size=h.objs.size:=PySem.W.hideAll_size _ _
theorem qkl {h:Heap} {H:Hp} {b:Addr} {o:Obj} (e:h.get? b=some o) (n:H b=none):(hidT h H).get? b=some o:=
 PySem.W.hideAll_get _ e fun hm=>by
  have q:(H b).isSome=true:=(List.mem_filter.mp hm).2
  rw [n] at q;simp at q
theorem qmt {h:Heap} {H:Hp} {b:Addr} {o:Obj} (e:(hidT h H).get? b=some o):h.get? b=some o/\H b=none:=by
 have e':h.get? b=some o:=PySem.W.of_hideAll (trk h H) e
 refine ⟨e',?_⟩
 cases q:H b with
 | none=>rfl
 | some x =>
  have hm:b∈trk h H:=List.mem_filter.mpr ⟨List.mem_range.mpr (Heap.lt_size e'),by simp [q]⟩
  have z:(hidT h H).get? b=none:=PySem.W.hideAll_none (trk h H) hm
  rw [z] at e;cases e
end L2
namespace L2
open PySem PySem.Spec PyProof.Rows
structure Mod (K:PySem.W.Frag) (mg:Str->Option Value) (base:Heap):Prop where
 kin:K.In base
 glob:base.Ns mainGlobals mg
 blt:∃ mb,base.Ns builtinsNs mb/\∀ x:Str,x ≠ "__name__"->mb x=bootBuiltins x
 nolimit:base.NoLimit
structure Cx where
 prog:Program
 w:World
 K:PySem.W.Frag
 mg:Str->Option Value
 base:Heap
 A:Around
 N:List Str
 s₀:Shared
 H₀:Hp
 env:Env
 outer:List Env
 stack:List Env
 ex:List Addr
 fn:Str->Bool
 calm:Bool
 pn:List (Addr×Obj)
 xe:Value->Shared->Prop
def frs (l:List Env):List Addr:=l.filterMap (·.frame)
abbrev Cx.fs (X:Cx):List Addr:=frs X.outer
def Vis (sc:Scope) (x:Str):Prop:=sc.names.lookup x=some .local\/sc.names.lookup x=some .cell\/sc.names.lookup x=some .free
def Loc (sc:Scope) (x:Str):Prop:=sc.names.lookup x=some .local\/sc.names.lookup x=some .cell
def Look (env:Env) (h:Heap) (m:Str->Option Value) (x:Str) (u:Value):Prop:=
 (env.kindOf x=some .local/\m x=some u)\/((env.kindOf x=some .cell\/env.kindOf x=some .free)/\∃ c,env.cells.lookup x=some c/\h.IsCell c (some u))
structure Cx.Ok (X:Cx):Prop where
 mod:Mod X.K X.mg X.base
 kind:X.env.scope.kind=.function
 glob:X.env.globals=mainGlobals
 blt:X.env.builtins=builtinsNs
 above:X.s₀.heap.objs.size<=X.env.locals
 inj:∀ x y c,X.env.cells.lookup x=some c->X.env.cells.lookup y=some c->x=y
 has:∀ x,(X.env.kindOf x=some .cell\/X.env.kindOf x=some .free)->∃ c,X.env.cells.lookup x=some c
 cab:∀ x c,X.fn x=true->X.env.cells.lookup x=some c->X.s₀.heap.objs.size<=c
 hd:X.calm=true->X.A.handled=none
 frames:X.A.frames=some X.stack
 stk:X.stack=X.outer\/(X.stack=X.env::X.outer/\X.env.frame=some X.env.locals)
 exf:∀ b∈X.ex,b≠X.env.locals/\∀ x c,X.env.cells.lookup x=some c->c≠b
 bs:∀ b o,X.base.get? b=some o->X.s₀.heap.get? b=some o/\X.H₀ b=none
 bsz:X.base.objs.size<=X.s₀.heap.objs.size
 noex:∀ b o,X.base.get? b=some o->b∉X.ex
 exfs:∀ b∈X.ex,b∉X.fs
 funs:X.s₀.heap.FunFrames X.base X.outer
 frf:∀ b∈X.fs,X.H₀ b=none
structure Inv (X:Cx) (pins:List (Addr×Obj)) (σ:List (Option V)) (H:Hp) (s:Shared):Prop where
 ok:X.Ok
 os:s.os=X.s₀.os
 bare:AllBare s.gens
 base:Un X.fs X.ex X.H₀ H X.s₀.heap s.heap
 loc:∃ m,s.heap.Ns X.env.locals m/\∀ (i:Nat) (x:Str) (v:V),X.N[i]?=some x->σ[i]?=some (some v)->Vis X.env.scope x->∃ u,RelV v u/\Look X.env s.heap m x u
 cell:∀ x c,X.env.cells.lookup x=some c->∃ v,s.heap.IsCell c v
 free:H X.env.locals=none
 freeC:∀ x c,X.env.cells.lookup x=some c->H c=none
 pin:∀ p∈X.pn++pins,s.heap.get? p.1=some p.2/\H p.1=none/\p.1≠X.env.locals/\p.1∉X.fs/\∀ v,p.2.data≠.cell v
 hok:HOk X.prog X.w H s.heap
 len:σ.length=X.N.length
section
variable {X:Cx} {pins:List (Addr×Obj)} {σ:List (Option V)} {H H':Hp} {s:Shared} {h':Heap}
theorem Cx.Ok.nofr (ok:X.Ok) {b:Addr} {o:Obj} (e:X.base.get? b=some o):b∉X.fs:=fun hb=>by
 have:=(ok.funs.mem hb).1
 rw [e] at this;cases this
theorem Inv.bs (I:Inv X pins σ H s):∀ b o,X.base.get? b=some o->s.heap.get? b=some o/\H b=none:=fun b o e =>
 ⟨I.base.keep b o (I.ok.bs b o e).1 (I.ok.bs b o e).2 (I.ok.nofr e) (I.ok.noex b o e),I.base.free b o (I.ok.bs b o e).1 (I.ok.bs b o e).2 (I.ok.noex b o e)⟩
theorem Inv.bk (I:Inv X pins σ H s):∀ b o,X.base.get? b=some o->s.heap.get? b=some o:=fun b o e=>(I.bs b o e).1
theorem Inv.mod (I:Inv X pins σ H s):Mod X.K X.mg X.base:=I.ok.mod
theorem Inv.kIn (I:Inv X pins σ H s):X.K.In s.heap:=I.ok.mod.kin.keeps I.bk
theorem Inv.lt (I:Inv X pins σ H s):X.env.locals<s.heap.objs.size:=let ⟨_,hn,_⟩:=I.loc;hn.lt
theorem Inv.sz (I:Inv X pins σ H s):X.s₀.heap.objs.size<=s.heap.objs.size:=Nat.le_trans I.ok.above (Nat.le_of_lt I.lt)
theorem Inv.nofs (I:Inv X pins σ H s) {a:Addr} (h:s.heap.objs.size<=a):a∉X.fs:=fun hb=>by
 obtain ⟨_,o,ho,_⟩:=I.ok.funs.mem hb
 exact absurd (Nat.lt_of_lt_of_le (Heap.lt_size ho) (Nat.le_trans I.sz h)) (Nat.lt_irrefl _)
theorem Inv.cne (I:Inv X pins σ H s):∀ x c,X.env.cells.lookup x=some c->c≠X.env.locals:=fun x c e z=>by
 obtain ⟨v,o,ho,hd⟩:=I.cell x c e
 obtain ⟨m,⟨o',es,ep,ho',hd',_⟩,_⟩:=I.loc
 rw [z,ho'] at ho;cases ho;rw [hd'] at hd;cases hd
theorem Inv.funs (I:Inv X pins σ H s):s.heap.FunFrames X.base X.outer:=by
 have all:∀ (l:List Env),(∀ b∈frs l,b∈X.fs)->X.s₀.heap.FunFrames X.base l->s.heap.FunFrames X.base l:=by
  intro l
  induction l with
  | nil=>intro _ _;trivial
  | cons env r ih =>
   intro hs hl
   obtain ⟨hk,⟨L,o,hf,hn,ho,hd⟩,hr⟩:=hl
   have hL:L∈X.fs:=hs L (by unfold frs;rw [List.filterMap_cons,hf];exact List.mem_cons_self)
   obtain ⟨sl,e⟩:=I.base.slot L o ho (I.ok.frf L hL) hL fun z=>I.ok.exfs L z hL
   exact ⟨hk,⟨L,_,hf,hn,e,hd⟩,ih (fun b hb=>hs b (by unfold frs;rw [List.filterMap_cons,hf];exact List.mem_cons_of_mem _ hb)) hr⟩
 exact all X.outer (fun _ hb=>hb) I.ok.funs
theorem Inv.stack (I:Inv X pins σ H s):s.heap.FunFrames X.base X.stack:=by
 rcases I.ok.stk with e | ⟨e,hf⟩
 ·rw [e];exact I.funs
 ·rw [e]
  obtain ⟨m,hn,_⟩:=I.loc
  refine .cons (by rw [I.ok.kind];decide) hf hn ?_ I.funs
  exact Heap.get?_none_of_le (Nat.le_trans I.ok.bsz I.ok.above)
theorem Inv.q8e (I:Inv X pins σ H s):∀ b∈frs X.stack,b∈X.env.locals::X.fs:=fun b hb=>by
 rcases I.ok.stk with e | ⟨e,hf⟩
 ·rw [e] at hb;exact List.mem_cons_of_mem _ hb
 ·rw [e] at hb
  unfold frs at hb
  rw [List.filterMap_cons,hf] at hb
  exact hb
theorem Inv.qgn (I:Inv X pins σ H s):∀ b∈frs X.stack,H b=none:=fun b hb=>by
 rcases List.mem_cons.mp (I.q8e b hb) with e | hb
 ·rw [e];exact I.free
 ·obtain ⟨_,o,ho,_⟩:=I.ok.funs.mem hb
  exact I.base.free b o ho (I.ok.frf b hb) fun z=>I.ok.exfs b z hb
theorem Inv.step {g':Array GenState} {t':Nat} {d':Drawn} {ch:List Addr} (I:Inv X pins σ H s)
  (hch:∀ b∈ch,(b∈X.ex\/X.s₀.heap.objs.size<=b)/\b≠X.env.locals/\(∀ x c,X.env.cells.lookup x=some c->c≠b)/\∀ p∈X.pn++pins,p.1≠b)
  (keep:∀ b o,b≠X.env.locals->b∉X.fs->b∉ch->s.heap.get? b=some o->H b=none->h'.get? b=some o)
  (slot:∀ b o,b≠X.env.locals->b∈X.fs->b∉ch->s.heap.get? b=some o->H b=none->∃ sl,h'.get? b=some {o with slots:=sl}) (free:∀ b o,b∉ch->s.heap.get? b=some o->H b=none->H' b=none)
  (there:∀ b o,b∉ch->s.heap.get? b=some o->∃ o',h'.get? b=some o')
  (tups:∀ b xs,H b=some (.tup xs)->H' b=some (.tup xs)) (frzs:∀ b o u,H b=some (.frz o u)->H' b=some (.frz o u)) (tbls:∀ b ps,H b=some (.tbl ps)->∃ more,H' b=some (.tbl (ps++more)))
  (ns:∀ m,s.heap.Ns X.env.locals m->h'.Ns X.env.locals m) (hok:HOk X.prog X.w H' h') (hg:AllBare g') :
  Inv X pins σ H' {s with heap:=h',gens:=g',drawn:=d',toks:=t'}:=by
 have neL:∀ b o,X.s₀.heap.get? b=some o->b≠X.env.locals:=fun b o e=>Nat.ne_of_lt (Nat.lt_of_lt_of_le (Heap.lt_size e) I.ok.above)
 have neC:∀ b o,X.s₀.heap.get? b=some o->b∉X.ex->b∉ch:=fun b o e hx hb=>by
  rcases (hch b hb).1 with z | z
  ·exact hx z
  ·exact absurd (Nat.lt_of_lt_of_le (Heap.lt_size e) z) (Nat.lt_irrefl _)
 have cellK:∀ x c,X.env.cells.lookup x=some c->∀ v,s.heap.IsCell c v->h'.IsCell c v:=fun x c e v ⟨o,ho,hd⟩=>by
  have nch:c∉ch:=fun z=>(hch c z).2.2.1 x c e rfl
  by_cases hc:c∈X.fs
  ·obtain ⟨sl,q⟩:=slot c o (I.cne x c e) hc nch ho (I.freeC x c e)
   exact ⟨_,q,hd⟩
  ·exact ⟨o,keep c o (I.cne x c e) hc nch ho (I.freeC x c e),hd⟩
 refine ⟨I.ok,I.os,hg,⟨fun b o e n hb hx=>?_,fun b o e n hb hx=>?_,fun b o e n hx=>?_,fun b o e hx=>?_,fun b xs e=>tups b xs (I.base.tups b xs e),fun b o xs e=>frzs b o xs (I.base.frzs b o xs e),fun b ps e=>?_⟩,?_,fun x c e=>?_,?_,fun x c e=>?_,fun p hp=>?_,hok,I.len⟩
 ·exact keep b o (neL b o e) hb (neC b o e hx) (I.base.keep b o e n hb hx) (I.base.free b o e n hx)
 ·obtain ⟨sl,e1⟩:=I.base.slot b o e n hb hx
  obtain ⟨sl',e2⟩:=slot b _ (neL b o e) hb (neC b o e hx) e1 (I.base.free b o e n hx)
  exact ⟨sl',e2⟩
 ·obtain ⟨o',e1⟩:=I.base.there b o e hx
  exact free b o' (neC b o e hx) e1 (I.base.free b o e n hx)
 ·obtain ⟨o',e1⟩:=I.base.there b o e hx
  exact there b o' (neC b o e hx) e1
 ·obtain ⟨m1,e1⟩:=I.base.tbls b ps e
  obtain ⟨m2,e2⟩:=tbls b _ e1
  exact ⟨m1++m2,by rw [e2,Array.append_assoc]⟩
 ·obtain ⟨m,hn,hl⟩:=I.loc
  refine ⟨m,ns m hn,fun i x v e1 e2 e3=>?_⟩
  obtain ⟨u,r,l⟩:=hl i x v e1 e2 e3
  refine ⟨u,r,?_⟩
  rcases l with l | ⟨k,c,e,z⟩
  ·exact .inl l
  ·exact .inr ⟨k,c,e,cellK x c e _ z⟩
 ·obtain ⟨v,z⟩:=I.cell x c e
  exact ⟨v,cellK x c e v z⟩
 ·obtain ⟨m,⟨o,_,_,ho,_⟩,_⟩:=I.loc
  exact free _ o (fun z=>(hch _ z).2.1 rfl) ho I.free
 ·obtain ⟨v,o,ho,hd⟩:=I.cell x c e
  exact free c o (fun z=>(hch c z).2.2.1 x c e rfl) ho (I.freeC x c e)
 ·obtain ⟨e,n,ne,nf,d⟩:=I.pin p hp
  have nch:p.1∉ch:=fun z=>(hch p.1 z).2.2.2 p hp rfl
  exact ⟨keep p.1 p.2 ne nf nch e n,free p.1 p.2 nch e n,ne,nf,d⟩
theorem Inv.un {t':Nat} (I:Inv X pins σ H s) (u:Un X.fs [] H H' s.heap h') (hok:HOk X.prog X.w H' h'):Inv X pins σ H' {s with heap:=h',toks:=t'}:=by
 obtain ⟨m,⟨o,es,ep,ho,r⟩,_⟩:=id I.loc
 obtain ⟨sl,hL⟩:=u.any ho I.free (by simp)
 exact I.step (g':=s.gens) (d':=s.drawn) (ch:=[]) (fun _ z=>nomatch z) (fun b o _ hb _ e n=>u.keep b o e n hb (by simp)) (fun b o _ hb _ e n=>u.slot b o e n hb (by simp)) (fun b o _ e n=>u.free b o e n (by simp)) (fun b o _ e=>u.there b o e (by simp)) u.tups u.frzs u.tbls (fun m' hm=>by
  obtain ⟨o',es',ep',ho',r'⟩:=hm
  rw [ho] at ho';cases ho'
  exact ⟨_,es',ep',hL,r'⟩) hok I.bare
theorem Inv.call {g':Array GenState} {t':Nat} {d':Drawn} {ch:List Addr} (I:Inv X pins σ H s) (u:Un (frs X.stack) ch H H' s.heap h') (hok:HOk X.prog X.w H' h') (hg:AllBare g')
  (hch:∀ b∈ch,(b∈X.ex\/X.s₀.heap.objs.size<=b)/\b≠X.env.locals/\(∀ x c,X.env.cells.lookup x=some c->c≠b)/\∀ p∈X.pn++pins,p.1≠b) :
  Inv X pins σ H' {s with heap:=h',gens:=g',drawn:=d',toks:=t'}:=by
 obtain ⟨m,⟨o,es,ep,ho,r⟩,_⟩:=id I.loc
 obtain ⟨sl,hL⟩:=u.any ho I.free fun z=>(hch _ z).2.1 rfl
 exact I.step (ch:=ch) hch (fun b o hL hb hc e n=>u.keep b o e n (fun z=>(List.mem_cons.mp (I.q8e b z)).elim hL hb) hc) (fun b o _ _ hc e n=>u.any e n hc) (fun b o hc e n=>u.free b o e n hc) (fun b o hc e=>u.there b o e hc) u.tups u.frzs u.tbls (fun m' hm=>by
  obtain ⟨o',es',ep',ho',r'⟩:=hm
  rw [ho] at ho';cases ho'
  exact ⟨_,es',ep',hL,r'⟩) hok hg
theorem Inv.turned {t':Nat} {it:Addr} (I:Inv X pins σ H s) (k:∀ b o,b≠it->s.heap.get? b=some o->h'.get? b=some o) (hn:H it=none) (hL:it≠X.env.locals)
  (h1:it∈X.ex\/X.s₀.heap.objs.size<=it) (h2:∀ x c,X.env.cells.lookup x=some c->c≠it) (h3:∀ p∈X.pn++pins,p.1≠it):Inv X pins σ H {s with heap:=h',toks:=t'}:=by
 have nit:∀ b u,H b=some u->b≠it:=fun b u e z=>by rw [z,hn] at e;cases e
 refine I.step (g':=s.gens) (d':=s.drawn) (ch:=[it]) (fun b hb=>?_) (fun b o _ _ hc e _=>k b o (fun z=>hc (by simp [z])) e) (fun b o _ _ hc e _=>⟨o.slots,k b o (fun z=>hc (by simp [z])) e⟩) (fun _ _ _ _ n=>n)
  (fun b o hc e=>⟨o,k b o (fun z=>hc (by simp [z])) e⟩) (fun _ _ e=>e) (fun _ _ _ e=>e) (fun b ps e=>⟨#[],by rw [e];simp⟩) (fun m hm=>?_) (fun b u e=>?_) I.bare
 ·have e:b=it:=by simpa using hb
  subst e
  exact ⟨h1,hL,h2,h3⟩
 ·obtain ⟨o,es,ep,ho,r⟩:=hm
  exact ⟨o,es,ep,k _ o (Ne.symm hL) ho,r⟩
 ·refine (I.hok b u e).stay (fun c v hc q=>k c v ?_ q) (fun _ q=>q) fun _ _ q=>q
  rcases hc with z | z
  ·rw [z];exact nit b u e
  ·exact nit c _ z
theorem Inv.tok (I:Inv X pins σ H s) (t:Nat):Inv X pins σ H {s with toks:=t}:=I.un (h':=s.heap) (t':=t) Un.refl I.hok
theorem Inv.kept {t':Nat} (I:Inv X pins σ H s) (k:∀ b u,s.heap.get? b=some u->h'.get? b=some u):Inv X pins σ H {s with heap:=h',toks:=t'}:=I.un (Un.kept k) (I.hok.kept k)
theorem Inv.laid {a:Addr} {o:HO} {t':Nat} (I:Inv X pins σ H s) (k:∀ b u,s.heap.get? b=some u->h'.get? b=some u) (hp:s.heap.objs.size<=a) (new:q1s X.prog X.w (upd H a o) h' a o) :
  Inv X pins σ (upd H a o) {s with heap:=h',toks:=t'}:=I.un (Un.laid k hp (I.hok.fresh hp)) (I.hok.laid k hp new)
theorem Inv.write {x e:Addr} {o:HO} {t':Nat} (I:Inv X pins σ H s) (mu:Mut (H x)) (he:e=x\/H e=some (.own x)) (k:∀ b u,b≠e->s.heap.get? b=some u->h'.get? b=some u) (heo:∃ u,h'.get? e=some u)
  (new:q1s X.prog X.w (upd H x o) h' x o):Inv X pins σ (upd H x o) {s with heap:=h',toks:=t'}:=I.un (Un.write mu he k heo) (I.hok.write mu he k heo new)
theorem Inv.weak {σ':List (Option V)} (I:Inv X pins σ H s) (hl:σ'.length=σ.length) (w:∀ (i:Nat) v, σ'[i]?=some (some v)->σ[i]?=some (some v)):Inv X pins σ' H s:=
 ⟨I.ok,I.os,I.bare,I.base,let ⟨m,hn,hl'⟩:=I.loc;⟨m,hn,fun i x v e1 e2 e3=>hl' i x v e1 (w i v e2) e3⟩,I.cell,I.free,I.freeC,I.pin,I.hok,hl.trans I.len⟩
theorem Inv.qg0 {pins':List (Addr×Obj)} (I:Inv X pins σ H s) (h:∀ p∈pins',s.heap.get? p.1=some p.2/\H p.1=none/\p.1≠X.env.locals/\p.1∉X.fs/\∀ v,p.2.data≠.cell v):Inv X pins' σ H s:=
 ⟨I.ok,I.os,I.bare,I.base,I.loc,I.cell,I.free,I.freeC,fun p hp=>(List.mem_append.mp hp).elim (fun z=>I.pin p (List.mem_append_left _ z)) (h p),I.hok,I.len⟩
theorem qdb {N:List Str} (hN:N.Nodup) {i j:Nat} {x:Str} (a:N[i]?=some x) (b:N[j]?=some x):i=j:=by
 obtain ⟨h1,e1⟩:=List.getElem?_eq_some_iff.mp a
 obtain ⟨h2,e2⟩:=List.getElem?_eq_some_iff.mp b
 exact (List.getElem_inj hN).mp (e1.trans e2.symm)
theorem qbt {M:Model} {A:Around} {E:Value->Shared->Prop} {i:Nat} {x:Str} {v:V} {u:Value} {Q:Unit->Shared->Prop} (I:Inv X pins σ H s) (hN:X.N.Nodup) (hi:X.N[i]?=some x) (hx:Loc X.env.scope x) (r:RelV v u)
  (h:∀ s',Inv X pins (σ.set i (some v)) H s'->(∃ a,Heap.SameBut a s.heap s'.heap/\(a=X.env.locals\/X.env.cells.lookup x=some a))->Q () s') (hf:X.fn x=true\/X.env.scope.names.lookup x=some .local:=by first | exact .inl rfl | exact .inr rfl | assumption):wpAny M A (storeName X.env x u) Q E s:=by
 obtain ⟨m,hn,hl⟩:=id I.loc
 have hcls:(X.env.scope.kind == .class || (X.env.scope.kind == .module && X.env.locals != X.env.globals))=false:=by rw [I.ok.kind];rfl
 have hiσ:i<σ.length:=by rw [I.len];exact (List.getElem?_eq_some_iff.mp hi).1
 have cne:=I.cne
 have tracked:∀ {a:Addr} {h':Heap},(∃ o,s.heap.get? a=some o/\H a=none)->Heap.SameBut a s.heap h'->HOk X.prog X.w H h':=fun {a h'} ha hs b ob e=>by
  obtain ⟨_,_,hfree⟩:=ha
  refine (I.hok b ob e).stay (fun c w' hc q=>(hs.2 c ?_).trans q) (fun _ q=>q) fun _ _ q=>q
  rintro rfl
  rcases hc with rfl | hc
  ·rw [hfree] at e;cases e
  ·rw [hfree] at hc;cases hc
 rcases hx with hk | hk
 ·refine wpAny_storeName_local hk hn (fun h' hn' hs=>?_) hcls
  obtain ⟨oL,_,_,hoL,_⟩:=id hn
  refine h _ ⟨I.ok,I.os,I.bare,⟨fun b o e n hb hx=>?_,fun b o e n hb hx=>?_,I.base.free,fun b o e hx=>?_,I.base.tups,I.base.frzs,I.base.tbls⟩,⟨_,hn',fun j y v' e1 e2 e3=>?_⟩,fun y c e=>?_,I.free,I.freeC,fun p hp=>?_,tracked ⟨oL,hoL,I.free⟩ hs,by simpa using I.len⟩ ⟨_,hs, .inl rfl⟩
  ·exact (hs.2 b (Nat.ne_of_lt (Nat.lt_of_lt_of_le (Heap.lt_size e) I.ok.above))).trans (I.base.keep b o e n hb hx)
  ·obtain ⟨sl,e1⟩:=I.base.slot b o e n hb hx
   exact ⟨sl,(hs.2 b (Nat.ne_of_lt (Nat.lt_of_lt_of_le (Heap.lt_size e) I.ok.above))).trans e1⟩
  ·obtain ⟨o',e1⟩:=I.base.there b o e hx
   exact ⟨o',(hs.2 b (Nat.ne_of_lt (Nat.lt_of_lt_of_le (Heap.lt_size e) I.ok.above))).trans e1⟩
  ·by_cases hj:j=i
   ·subst hj
    rw [hi] at e1;cases e1
    rw [List.getElem?_set_self hiσ] at e2
    cases e2
    exact ⟨u,r, .inl ⟨hk,by simp⟩⟩
   ·rw [List.getElem?_set_ne (Ne.symm hj)] at e2
    obtain ⟨u',r',q⟩:=hl j y v' e1 e2 e3
    refine ⟨u',r',?_⟩
    rcases q with ⟨k,e⟩ | ⟨k,c,e,z⟩
    ·refine .inl ⟨k,?_⟩
     have:y≠x:=fun e=>hj (qdb hN e1 (e ▸ hi))
     simp [this,e]
    ·exact .inr ⟨k,c,e,z.sameBut hs (cne y c e)⟩
  ·obtain ⟨w',z⟩:=I.cell y c e
   exact ⟨w',z.sameBut hs (cne y c e)⟩
  ·obtain ⟨e,n,ne,nf,d⟩:=I.pin p hp
   exact ⟨(hs.2 p.1 ne).trans e,n,ne,nf,d⟩
 ·have hfn:X.fn x=true:=by
   rcases hf with z | z
   ·exact z
   ·rw [z] at hk;cases hk
  obtain ⟨c,hc⟩:=I.ok.has x (.inl hk)
  obtain ⟨w',z⟩:=I.cell x c hc
  refine wpAny_storeName_cell I.ok.kind hk hc z (fun h' hc' hs=>?_)
  obtain ⟨oc,hoc,hocd⟩:=id z
  refine h {s with heap:=h'} ⟨I.ok,I.os,I.bare,⟨fun b o e n hb hx=>?_,fun b o e n hb hx=>?_,I.base.free,fun b o e hx=>?_,I.base.tups,I.base.frzs,I.base.tbls⟩,⟨m,hn.sameBut hs (Ne.symm (cne x c hc)),fun j y v' e1 e2 e3=>?_⟩,fun y c' e=>?_,I.free,I.freeC,fun p hp=>?_,tracked ⟨oc,hoc,I.freeC x c hc⟩ hs,by simpa using I.len⟩ ⟨c,hs, .inr hc⟩
  ·exact (hs.2 b (Nat.ne_of_lt (Nat.lt_of_lt_of_le (Heap.lt_size e) (I.ok.cab x c hfn hc)))).trans (I.base.keep b o e n hb hx)
  ·obtain ⟨sl,e1⟩:=I.base.slot b o e n hb hx
   exact ⟨sl,(hs.2 b (Nat.ne_of_lt (Nat.lt_of_lt_of_le (Heap.lt_size e) (I.ok.cab x c hfn hc)))).trans e1⟩
  ·obtain ⟨o',e1⟩:=I.base.there b o e hx
   exact ⟨o',(hs.2 b (Nat.ne_of_lt (Nat.lt_of_lt_of_le (Heap.lt_size e) (I.ok.cab x c hfn hc)))).trans e1⟩
  ·by_cases hj:j=i
   ·subst hj
    rw [hi] at e1;cases e1
    rw [List.getElem?_set_self hiσ] at e2
    cases e2
    exact ⟨u,r, .inr ⟨.inl hk,c,hc,hc'⟩⟩
   ·rw [List.getElem?_set_ne (Ne.symm hj)] at e2
    obtain ⟨u',r',q⟩:=hl j y v' e1 e2 e3
    refine ⟨u',r',?_⟩
    rcases q with q | ⟨k,c',e,z'⟩
    ·exact .inl q
    ·refine .inr ⟨k,c',e,z'.sameBut hs ?_⟩
     rintro rfl
     exact hj (qdb hN e1 (I.ok.inj _ _ _ e hc ▸ hi))
  ·by_cases hcc:c'=c
   ·subst hcc;exact ⟨_,hc'⟩
   ·obtain ⟨w2,z2⟩:=I.cell y c' e
    exact ⟨w2,z2.sameBut hs hcc⟩
  ·obtain ⟨e,n,ne,nf,d⟩:=I.pin p hp
   refine ⟨(hs.2 p.1 ?_).trans e,n,ne,nf,d⟩
   intro q
   rw [q,hoc] at e
   have q':oc=p.2:=Option.some.inj e
   exact d w' (by rw [<- q'];exact hocd)
theorem qeo {M:Model} {A:Around} {E:Value->Shared->Prop} {i:Nat} {x:Str} {v:V} {u:Value} {Q:Unit->Shared->Prop} (I:Inv X pins σ H s) (hN:X.N.Nodup) (hi:X.N[i]?=some x) (hx:Loc X.env.scope x) (r:RelV v u)
  (h:∀ s',Inv X pins (σ.set i (some v)) H s'->Q () s') (hf:X.fn x=true\/X.env.scope.names.lookup x=some .local:=by first | exact .inl rfl | exact .inr rfl | assumption):wpAny M A (storeName X.env x u) Q E s:=
 qbt I hN hi hx r (fun s' I' _=>h s' I') hf
theorem Inv.call' {s':Shared} {ch:List Addr} (I:Inv X pins σ H s) (ho:s'.os=s.os) (u:Un (frs X.stack) ch H H' s.heap s'.heap) (hok:HOk X.prog X.w H' s'.heap) (hg:AllBare s'.gens)
  (hch:∀ b∈ch,(b∈X.ex\/X.s₀.heap.objs.size<=b)/\b≠X.env.locals/\(∀ x c,X.env.cells.lookup x=some c->c≠b)/\∀ p∈X.pn++pins,p.1≠b):Inv X pins σ H' s':=by
 obtain ⟨h',g',d',t',o'⟩:=s'
 have e:o'=s.os:=ho
 subst e
 exact I.call (g':=g') (t':=t') (d':=d') u hok hg hch
end
abbrev XK:=Value->Option Addr->Hp->Prop
abbrev St:=List (Option V)
abbrev VK:=V->Hp->Prop
abbrev TE:=St->Hp->VK->Prop
abbrev TT:=St->Hp->(Bool->Hp->Prop)->Prop
abbrev TA:=St->Hp->(List V->Hp->Prop)->Prop
structure Ends where
 nx:St->Hp->Prop
 rt:VK
 bk:St->Hp->Prop:=fun _ _=>False
 ct:St->Hp->Prop:=fun _ _=>False
abbrev TS:=Ends->St->Hp->Prop
def EP (X:Cx) (pins:List (Addr×Obj)) (σ:St) (Q:VK) (u:Value) (s':Shared):Prop:=∃ v H',Inv X pins σ H' s'/\RelV v u/\Q v H'
def TP (X:Cx) (pins:List (Addr×Obj)) (σ:St) (Q:Bool->Hp->Prop) (b:Bool) (s':Shared):Prop:=∃ H',Inv X pins σ H' s'/\Q b H'
def AP (X:Cx) (pins:List (Addr×Obj)) (σ:St) (Q:List V->Hp->Prop) (us:List Value) (s':Shared):Prop:=∃ vs H',Inv X pins σ H' s'/\Vals vs us/\Q vs H'
def SP (X:Cx) (pins:List (Addr×Obj)) (D:Ends) (f:Flow) (s':Shared):Prop:=
 match f with
 | .next=>∃ σ' H',Inv X pins σ' H' s'/\D.nx σ' H'
 | .brk=>∃ σ' H',Inv X pins σ' H' s'/\D.bk σ' H'
 | .cont=>∃ σ' H',Inv X pins σ' H' s'/\D.ct σ' H'
 | .ret u=>∃ v σ' H',Inv X pins σ' H' s'/\RelV v u/\D.rt v H'
def PE (X:Cx) (e:Expr) (t:TE):Prop:=
 ∀ (pins:List (Addr×Obj)) (s:Shared) (σ:St) (H:Hp) (Q:VK),Inv X pins σ H s->t σ H Q->wpAny (model X.prog X.w) X.A (eval e X.env) (EP X pins σ Q) X.xe s
def PT (X:Cx) (e:Expr) (t:TT):Prop:=
 ∀ (pins:List (Addr×Obj)) (s:Shared) (σ:St) (H:Hp) (Q:Bool->Hp->Prop),Inv X pins σ H s->t σ H Q->wpAny (model X.prog X.w) X.A (isTrue e X.env (eval e X.env)) (TP X pins σ Q) X.xe s
def PW (X:Cx) (e:Expr) (t:TT):Prop:=
 ∀ (whole:Sem Value) (pins:List (Addr×Obj)) (s:Shared) (σ:St) (H:Hp) (Q:Bool->Hp->Prop),Inv X pins σ H s->t σ H Q->wpAny (model X.prog X.w) X.A (isTrue e X.env whole) (TP X pins σ Q) X.xe s
theorem PW.pt {X:Cx} {e:Expr} {t:TT} (h:PW X e t):PT X e t:=h _
def PA (X:Cx) (es:List Expr) (t:TA):Prop:=
 ∀ (pos:Pos) (pins:List (Addr×Obj)) (s:Shared) (σ:St) (H:Hp) (Q:List V->Hp->Prop),Inv X pins σ H s->t σ H Q->wpAny (model X.prog X.w) X.A (spliced (backTo pos (starEach es X.env))) (AP X pins σ Q) X.xe s
def PS (X:Cx) (st:Stmt) (t:TS):Prop:=
 ∀ (pins:List (Addr×Obj)) (s:Shared) (σ:St) (H:Hp) (D:Ends),Inv X pins σ H s->t D σ H->wpAny (model X.prog X.w) X.A (exec st X.env) (SP X pins D) X.xe s
def PSs (X:Cx) (st:List Stmt) (t:TS):Prop:=
 ∀ (pins:List (Addr×Obj)) (s:Shared) (σ:St) (H:Hp) (D:Ends),Inv X pins σ H s->t D σ H->wpAny (model X.prog X.w) X.A (execs st X.env) (SP X pins D) X.xe s
theorem thn {α:Type} {t:Sem α} {Q Q':α->Shared->Prop} {M:Model} {A:Around} {E:Value->Shared->Prop} {s:Shared} (h:wpAny M A t Q E s) (hQ:∀ a s,Q a s->Q' a s):wpAny M A t Q' E s:=wpAny_mono h hQ fun _ _ x=>x
end L2
namespace L2
open PySem PySem.Spec PyProof.Rows
section
variable {X:Cx}
def tVar (i:Nat):TE:=fun σ H Q=>∃ v, σ[i]?=some (some v)/\Q v H
def tC (v:V):TE:=fun _ H Q=>Q v H
theorem pe_var {i:Nat} {x:Str} {pos:Pos} (hN:X.N[i]?=some x) (hv:Vis X.env.scope x) (hd:(x == ("__debug__" : Str))=false:=by decide) (hcd:(x == ("__classdict__" : Str))=false:=by decide):PE X (.Name x pos) (tVar i):=by
 intro pins s σ H Q I h
 obtain ⟨v,e,h⟩:=h
 obtain ⟨m,hn,hl⟩:=I.loc
 obtain ⟨u,r,l⟩:=hl i x v hN e hv
 have fin:EP X pins σ Q u s:=⟨v,H,I,r,h⟩
 rcases l with ⟨hk,hm⟩ | ⟨hk,c,hc,hcell⟩
 ·exact wpAny_Name (wpAny_loadName_local I.ok.kind hk hn hm fin) hd
 ·rcases hk with hk | hk
  ·exact wpAny_Name (wpAny_loadName_cell I.ok.kind hk hc hcell fin) hd
  ·exact wpAny_Name (wpAny_loadName_free I.ok.kind hk hc hcell fin hcd) hd
theorem q09 {i j pos}:PE X (.Constant (.int i) j pos) (tC (.int i)):=fun _ _ _ H _ I h=>wpAny_Constant_int ⟨.int i,H,I.tok _,⟨_,rfl⟩,h⟩
theorem q5k {b j pos}:PE X (.Constant (.bool b) j pos) (tC (.bl b)):=fun _ _ _ H _ I h=>Constant_bool ⟨.bl b,H,I,rfl,h⟩
theorem pe_non {j pos}:PE X (.Constant .none j pos) (tC .non):=fun _ _ _ H _ I h=>Constant_none ⟨.non,H,I,rfl,h⟩
theorem q0e {x j pos}:PE X (.Constant (.str x) j pos) (tC (.str x)):=fun _ _ _ H _ I h=>Calls.Constant_str ⟨.str x,H,I.tok _,⟨_,rfl⟩,h⟩
def Gl (X:Cx) (x:Str):Prop:=X.env.kindOf x=some .globalImplicit
theorem qmj {E:Value->Shared->Prop} {pins:List (Addr×Obj)} {s:Shared} {σ:St} {H:Hp} {x:Str} {u:Value} {pos:Pos} {Q:Value->Shared->Prop} (I:Inv X pins σ H s) (hg:Gl X x) (hm:X.mg x=some u) (h:Q u s)
  (hd:(x == ("__debug__" : Str))=false:=by decide):wpAny (model X.prog X.w) X.A (eval (.Name x pos) X.env) Q E s:=
 Calls.Name_function_global I.ok.kind hg (Calls.loadGlobal_global (by rw [I.ok.glob];exact I.mod.glob.keeps I.bk) hm h) hd
theorem q71 {E:Value->Shared->Prop} {pins:List (Addr×Obj)} {s:Shared} {σ:St} {H:Hp} {x:Str} {u:Value} {pos:Pos} {Q:Value->Shared->Prop} (I:Inv X pins σ H s) (hg:Gl X x) (hm:X.mg x=none) (hv:bootBuiltins x=some u) (h:Q u s)
  (hn:x ≠ "__name__":=by decide) (hd:(x == ("__debug__" : Str))=false:=by decide):wpAny (model X.prog X.w) X.A (eval (.Name x pos) X.env) Q E s:=by
 obtain ⟨mb,h1,h2⟩:=I.mod.blt
 exact Calls.Name_function_global I.ok.kind hg (Calls.loadGlobal_builtin (by rw [I.ok.glob];exact I.mod.glob.keeps I.bk) hm (by rw [I.ok.blt];exact h1.keeps I.bk) ((h2 x hn).trans hv) h) hd
theorem q2g {x:Str} {v:V} {u:Value} {pos:Pos} (hg:Gl X x) (hm:X.mg x=none) (hv:bootBuiltins x=some u) (r:RelV v u) (hn:x ≠ "__name__":=by decide) (hd:(x == ("__debug__" : Str))=false:=by decide):PE X (.Name x pos) (tC v):=
 fun _ _ _ H _ I h=>q71 I hg hm hv ⟨v,H,I,r,h⟩ hn hd
variable {a b:Expr} {ta tb:TE} {pos:Pos}
def PC (X:Cx) (op:CmpOp) (a b:Expr) (t:TE):Prop:=
 ∀ (pins:List (Addr×Obj)) (s:Shared) (σ:St) (H:Hp) (Q:VK),Inv X pins σ H s->t σ H Q ->
  wpAny (model X.prog X.w) X.A (eval a X.env) (fun v s₁=>wpAny (model X.prog X.w) X.A (eval b X.env) (fun u s₂=>wpAny (model X.prog X.w) X.A (compareOp op v u) (EP X pins σ Q) X.xe s₂) X.xe s₁) X.xe s
def tB (t:TE):TT:=fun σ H Q=>t σ H fun x H1=>∃ c,x=.bl c/\Q c H1
theorem qb0 {op:CmpOp} {t:TE} (h:PC X op a b t) (h1:behindInMarks op b=false:=by first | exact nobehind _ (by decide) (by decide) | rfl):PT X (.Compare a [op] [b] pos) (tB t):=by
 intro pins s σ H Q I hw
 refine wpAny_isTrue_Compare1 (thn (h pins s σ H _ I hw) fun v s1 h1=>thn h1 fun u s2 h2=>thn h2 fun c s3 ⟨x,H1,I1,r1,q1⟩=>?_) h1
 obtain ⟨d,rfl,q⟩:=q1
 cases r1
 exact wpAny_truthy_bool ⟨H1,I1,q⟩
theorem q54 {e:Expr} {t:TE} (h:PE X e t) (he:∀ whole,isTrue e X.env whole=(do let v <- whole;standAt e.pos;holding [v] (truthy v)):=by intro _;rfl):PT X e (tB t):=by
 intro pins s σ H Q I hw
 refine isTrue_plain (thn (h pins s σ H _ I hw) fun v s1 ⟨x,H1,I1,r1,q1⟩=>?_) (he _)
 obtain ⟨d,rfl,q⟩:=q1
 cases r1
 exact wpAny_truthy_bool ⟨H1,I1,q⟩
variable {tA tB':TT} {rest:List Expr}
def tAnd (t u:TT):TT:=fun σ H Q=>t σ H fun c H1=>if c=true then u σ H1 Q else Q false H1
def tOr (t u:TT):TT:=fun σ H Q=>t σ H fun c H1=>if c=true then Q true H1 else u σ H1 Q
def tNot (t:TT):TT:=fun σ H Q=>t σ H fun c H1=>Q (!c) H1
theorem qgl (ha:PT X a tA):PW X (.BoolOp .And [a] pos) tA:=by
 intro wh pins s σ H Q I h
 refine isTrue_and (thn (ha pins s σ H Q I h) fun c s1 e=>?_)
 cases c with
 | true=>exact isTrue_and_nil e
 | false=>exact e
theorem q6c (ha:PT X a tA):PW X (.BoolOp .Or [a] pos) tA:=by
 intro wh pins s σ H Q I h
 refine isTrue_or (thn (ha pins s σ H Q I h) fun c s1 e=>?_)
 cases c with
 | false=>exact isTrue_or_nil e
 | true=>exact e
theorem qk8 (ha:PT X a tA) (hb:PW X (.BoolOp .And (b::rest) pos) tB'):PW X (.BoolOp .And (a::b::rest) pos) (tAnd tA tB'):=by
 intro wh pins s σ H Q I h
 refine isTrue_and (thn (ha pins s σ H _ I h) fun c s1 ⟨H1,I1,q1⟩=>?_)
 cases c with
 | true=>exact hb wh pins s1 σ H1 Q I1 q1
 | false=>exact ⟨H1,I1,q1⟩
theorem q6l (ha:PT X a tA) (hb:PW X (.BoolOp .Or (b::rest) pos) tB'):PW X (.BoolOp .Or (a::b::rest) pos) (tOr tA tB'):=by
 intro wh pins s σ H Q I h
 refine isTrue_or (thn (ha pins s σ H _ I h) fun c s1 ⟨H1,I1,q1⟩=>?_)
 cases c with
 | true=>exact ⟨H1,I1,q1⟩
 | false=>exact hb wh pins s1 σ H1 Q I1 q1
theorem q6w (ha:PT X a tA):PT X (.UnaryOp .Not a pos) (tNot tA):=by
 intro pins s σ H Q I h
 exact isTrue_not (ha pins s σ H (fun c H1=>Q (!c) H1) I h)
def tAndV (ta tb:TE):TE:=fun σ H Q=>ta σ H fun x H1=>∃ c,x=.bl c/\if c=true then tb σ H1 Q else Q (.bl false) H1
theorem q5p {op} {t:TE} (h:PE X a t):PE X (.BoolOp op [a] pos) t:=fun pins s σ H Q I hw=>BoolOp_one (h pins s σ H Q I hw)
theorem q4z (ha:PE X a ta) (hb:PE X (.BoolOp .And (b::rest) pos) tb):PE X (.BoolOp .And (a::b::rest) pos) (tAndV ta tb):=by
 intro pins s σ H Q I h
 refine BoolOp_and (thn (ha pins s σ H _ I h) fun v s1 ⟨x,H1,I1,r1,q1⟩=>?_)
 obtain ⟨c,rfl,q1⟩:=q1
 cases r1
 refine wpAny_truthy_bool ?_
 cases c with
 | true=>exact hb pins s1 σ H1 Q I1 q1
 | false=>exact ⟨.bl false,H1,I1,rfl,q1⟩
end
end L2
namespace L2
open PySem PySem.Spec PyProof.Rows
def SqL (K:PySem.W.Frag) (H:Hp) (a:Addr) (xs:List V):Prop:=
 Rd H a (.lst xs) \/
  ∃ (o:Obj) (its:Array Value) (n:Nat),K.lookup a=some o/\o.cls=.type "list" /\ o.dict=none/\o.data=.seq its n/\its.size<=sizeLine/\Vals xs its.toList
def SqT (K:PySem.W.Frag) (H:Hp) (a:Addr) (xs:List V):Prop:=
 Rd H a (.tup xs) \/
  ∃ (o:Obj) (its:Array Value) (n:Nat),K.lookup a=some o/\o.cls=.type "tuple" /\ o.data=.seq its n/\its.size<=sizeLine/\Vals xs its.toList
def absV:Value->Option V
 | .none=>some .non
 | .bool b=>some (.bl b)
 | .int i _=>some (.int i)
 | .str x _=>some (.str x)
 | .bytes b _=>some (.byt b)
 | .float b _=>some (.flt b)
 | .ref a=>some (.ref a)
 | .type n=>some (.ty n)
 | _=>none
theorem RelV.abs {x:V} {u:Value} (r:RelV x u):absV u=some x:=by
 cases x with
 | non=>cases r;rfl
 | bl _=>cases r;rfl
 | int _=>obtain ⟨t,rfl⟩:=r;rfl
 | str _=>obtain ⟨t,rfl⟩:=r;rfl
 | byt _=>obtain ⟨t,rfl⟩:=r;rfl
 | flt _=>obtain ⟨t,rfl⟩:=r;rfl
 | ref _=>cases r;rfl
 | ty _=>cases r;rfl
theorem RelV.inj {x y:V} {u:Value} (r:RelV x u) (q:RelV y u):x=y:=Option.some.inj (r.abs.symm.trans q.abs)
theorem Vals.inj:∀ {xs ys:List V} {us:List Value},Vals xs us->Vals ys us->xs=ys
 | _,_,_, .nil, .nil=>rfl
 | _,_,_, .cons r t, .cons r' t' => by rw [r.inj r',Vals.inj t t']
section
variable {X:Cx} {pins:List (Addr×Obj)} {σ:St} {H:Hp} {s:Shared} {a:Addr} {xs ys:List V}
theorem SqT.of {K:PySem.W.Frag} (h:H a=some (.tup xs)):SqT K H a xs:=.inl (.inl h)
theorem Inv.list (I:Inv X pins σ H s) (h:SqL X.K H a xs):∃ its:List Value,Vals xs its/\PlainL s.heap a its.toArray/\xs.length<=sizeLine:=by
 rcases h with h | ⟨o,its,n,hk,hc,hd,hs,hz,r⟩
 ·obtain ⟨z,its,n,r,e⟩:=h.ok I.hok
  exact ⟨its,r,⟨_,n,e,rfl,rfl,rfl⟩,z⟩
 ·refine ⟨its.toList,r,⟨o,n,I.kIn a o hk,hc,hd,by simpa using hs⟩,?_⟩
  have e:=r.length
  simp only [Array.length_toList] at e
  omega
theorem Inv.tuple (I:Inv X pins σ H s) (h:SqT X.K H a xs):∃ its:List Value,Vals xs its/\IsTup s.heap a its.toArray/\xs.length<=sizeLine:=by
 rcases h with h | ⟨o,its,n,hk,hc,hs,hz,r⟩
 ·obtain ⟨z,its,r,p⟩:=h.ok I.hok
  exact ⟨its,r,p,z⟩
 ·refine ⟨its.toList,r,⟨o,I.kIn a o hk,hc,n,by simpa using hs⟩,?_⟩
  have e:=r.length
  simp only [Array.length_toList] at e
  omega
theorem Inv.qe8 (I:Inv X pins σ H s) (h:SqL X.K H a xs) (h':SqL X.K H a ys):xs=ys:=by
 obtain ⟨its,r,⟨o,n,e,_,_,d⟩,_⟩:=I.list h
 obtain ⟨its',r',⟨o',n',e',_,_,d'⟩,_⟩:=I.list h'
 rw [e] at e';cases e'
 rw [d] at d'
 injection d' with d1 _
 have:its=its':=by simpa using congrArg Array.toList d1
 subst this
 exact r.inj r'
theorem Inv.qie (I:Inv X pins σ H s) (h:SqT X.K H a xs) (h':SqT X.K H a ys):xs=ys:=by
 obtain ⟨its,r,⟨o,e,_,n,d⟩,_⟩:=I.tuple h
 obtain ⟨its',r',⟨o',e',_,n',d'⟩,_⟩:=I.tuple h'
 rw [e] at e';cases e'
 rw [d] at d'
 injection d' with d1 _
 have:its=its':=by simpa using congrArg Array.toList d1
 subst this
 exact r.inj r'
end
abbrev Cx.wish (X:Cx) (E:Value->Shared->Prop):Cx:={X with xe:=E}
abbrev Cx.nox (X:Cx):Cx:=X.wish fun _ _=>False
theorem Cx.Ok.wish {X:Cx} (ok:X.Ok) (E:Value->Shared->Prop):(X.wish E).Ok:=
 ⟨ok.mod,ok.kind,ok.glob,ok.blt,ok.above,ok.inj,ok.has,ok.cab,ok.hd,ok.frames,ok.stk,ok.exf,ok.bs,ok.bsz,ok.noex,ok.exfs,ok.funs,ok.frf⟩
theorem Cx.Ok.q5v {X:Cx} {E:Value->Shared->Prop} (ok:(X.wish E).Ok):X.Ok:=
 ⟨ok.mod,ok.kind,ok.glob,ok.blt,ok.above,ok.inj,ok.has,ok.cab,ok.hd,ok.frames,ok.stk,ok.exf,ok.bs,ok.bsz,ok.noex,ok.exfs,ok.funs,ok.frf⟩
section
variable {X:Cx} {pins:List (Addr×Obj)} {σ:St} {H:Hp} {s:Shared} {E:Value->Shared->Prop}
theorem Inv.wish (I:Inv X pins σ H s) (E:Value->Shared->Prop):Inv (X.wish E) pins σ H s:=⟨I.ok.wish E,I.os,I.bare,I.base,I.loc,I.cell,I.free,I.freeC,I.pin,I.hok,I.len⟩
theorem Inv.q5v (I:Inv (X.wish E) pins σ H s):Inv X pins σ H s:=⟨I.ok.q5v,I.os,I.bare,I.base,I.loc,I.cell,I.free,I.freeC,I.pin,I.hok,I.len⟩
theorem SP.q5v {D:Ends} {f:Flow} {s':Shared} (h:SP (X.wish E) pins D f s'):SP X pins D f s':=by
 cases f with
 | next=>obtain ⟨σ',H',I,q⟩:=h;exact ⟨σ',H',I.q5v,q⟩
 | brk=>obtain ⟨σ',H',I,q⟩:=h;exact ⟨σ',H',I.q5v,q⟩
 | cont=>obtain ⟨σ',H',I,q⟩:=h;exact ⟨σ',H',I.q5v,q⟩
 | ret u=>obtain ⟨v, σ',H',I,r,q⟩:=h;exact ⟨v, σ',H',I.q5v,r,q⟩
theorem PSs.nox {st:List Stmt} {t:TS} (h:PSs X.nox st t):PSs X st t:=fun pins s σ H D I hw =>
 wpAny_mono (h pins s σ H D (I.wish _) hw) (fun _ _ q=>q.q5v) fun _ _ z=>False.elim z
end
section
variable {X:Cx} {st:Stmt} {rest:List Stmt} {t u:TS} {e:Expr} {te:TE} {pos:Pos}
def tNext:TS:=fun D σ H=>D.nx σ H
def tSeq (t u:TS):TS:=fun D σ H=>t {D with nx:=u D} σ H
theorem q18:PSs X [] tNext:=fun _ _ σ H _ I h=>wpAny_execs_nil ⟨σ,H,I,h⟩
theorem q0d (h1:PS X st t) (h2:PSs X rest u):PSs X (st::rest) (tSeq t u):=by
 intro pins s σ H D I h
 refine wpAny_execs_cons (thn (h1 pins s σ H {D with nx:=u D} I h) fun f s1 q=>?_)
 cases f with
 | next =>
  obtain ⟨σ',H',I',q⟩:=q
  exact h2 pins s1 σ' H' D I' q
 | ret v=>exact q
 | brk=>exact q
 | cont=>exact q
theorem q0g (h1:PS X st t):PSs X [st] t:=by
 intro pins s σ H D I h
 refine wpAny_execs_cons (thn (h1 pins s σ H D I h) fun f s1 q=>?_)
 cases f with
 | next=>exact wpAny_execs_nil q
 | ret v=>exact q
 | brk=>exact q
 | cont=>exact q
def tCont:TS:=fun D σ H=>D.ct σ H
theorem qf7:PS X (.Continue pos) tCont:=fun _ _ σ H _ I h=>wpAny_Continue ⟨σ,H,I,h⟩
theorem Inv.quiet {pins:List (Addr×Obj)} {σ:St} {H:Hp} {s:Shared} (I:Inv X pins σ H s):interactive X.env=false:=by simp [interactive,I.ok.kind]
def tDrop (te:TE):TS:=fun D σ H=>te σ H fun _ H1=>D.nx σ H1
theorem q1m (he:PE X e te) (hs:swapsWith e none pos.line X.env=pure false:=by rfl):PS X (.Expr e pos) (tDrop te):=by
 intro pins s σ H D I h
 exact wpAny_Expr_any (thn (he pins s σ H _ I h) fun v s1 ⟨x,H1,I1,r1,q1⟩=>⟨σ,H1,I1,q1⟩) I.quiet hs
def tRet (te:TE):TS:=fun D σ H=>te σ H D.rt
theorem q14 (he:PE X e te):PS X (.Return (some e) pos) (tRet te):=by
 intro pins s σ H D I h
 exact wpAny_Return_some (thn (he pins s σ H _ I h) fun v s1 ⟨x,H1,I1,r1,q1⟩=>⟨x, σ,H1,I1,r1,q1⟩)
def tRetN:TS:=fun D _ H=>D.rt .non H
theorem qnl:PS X (.Return none pos) tRetN:=fun _ _ σ H _ I h=>wpAny_Return_none ⟨.non, σ,H,I,rfl,h⟩
def tIfS (c:TT) (t u:TS):TS:=fun D σ H=>c σ H fun b H1=>if b=true then t D σ H1 else u D σ H1
theorem q1j {c:Expr} {a b:List Stmt} {tc:TT} (hc:PT X c tc) (ha:PSs X a t) (hb:PSs X b u):PS X (.If c a b pos) (tIfS tc t u):=by
 intro pins s σ H D I h
 refine wpAny_If (thn (hc pins s σ H _ I h) fun d s1 ⟨H1,I1,q1⟩=>?_)
 cases d with
 | true=>exact ha pins s1 σ H1 D I1 q1
 | false=>exact hb pins s1 σ H1 D I1 q1
end
abbrev TG:=V->St->Hp->(St->Hp->Prop)->Prop
abbrev TGs:=List V->St->Hp->(St->Hp->Prop)->Prop
def PG (X:Cx) (target:Expr) (t:TG):Prop:=
 ∀ (pins:List (Addr×Obj)) (s:Shared) (σ:St) (H:Hp) (v:V) (u:Value) (Q:St->Hp->Prop),Inv X pins σ H s->RelV v u->t v σ H Q ->
  wpAny (model X.prog X.w) X.A (assign target X.env u) (fun _ s' => ∃ σ' H',Inv X pins σ' H' s'/\Q σ' H') X.xe s
def PGs (X:Cx) (ts:List Expr) (t:TGs):Prop:=
 ∀ (pins:List (Addr×Obj)) (s:Shared) (σ:St) (H:Hp) (vs:List V) (us:List Value) (Q:St->Hp->Prop),Inv X pins σ H s->Vals vs us->t vs σ H Q ->
  wpAny (model X.prog X.w) X.A (assignInOrder ((assignEach ts X.env).map (·.2)) us) (fun _ s' => ∃ σ' H',Inv X pins σ' H' s'/\Q σ' H') X.xe s
section
variable {X:Cx} {pos:Pos}
def q7p (i:Nat):TG:=fun v σ H Q=>Q (σ.set i (some v)) H
theorem q0v {i:Nat} {x:Str} (hN:X.N.Nodup) (hi:X.N[i]?=some x) (hx:Loc X.env.scope x) (hf:X.fn x=true\/X.env.scope.names.lookup x=some .local:=by first | exact .inl rfl | exact .inr rfl | assumption):PG X (.Name x pos) (q7p i):=by
 intro pins s σ H v u Q I r h
 exact wpAny_assign_Name (qeo I hN hi hx r (fun s' I' => ⟨_,H,I',h⟩) hf)
def gNil:TGs:=fun vs σ H Q=>vs=[]/\Q σ H
def qgw (t:TG) (u:TGs):TGs:=fun vs σ H Q=>∃ v r,vs=v::r/\t v σ H fun σ' H' => u r σ' H' Q
theorem q7c:PGs X [] gNil:=by
 intro pins s σ H vs us Q I r h
 obtain ⟨e,h⟩:=h
 subst e
 cases r
 exact assignInOrder_nil ⟨σ,H,I,h⟩
theorem q32 {e:Expr} {es:List Expr} {t:TG} {u:TGs} (h1:PG X e t) (h2:PGs X es u)
  (hs:(assignEach (e::es) X.env).map (·.2)=assign e X.env::(assignEach es X.env).map (·.2):=by rfl):PGs X (e::es) (qgw t u):=by
 intro pins s σ H vs us Q I r h
 obtain ⟨v,vr,e1,h⟩:=h
 subst e1
 cases r with
 | cons r rr =>
  rw [hs]
  refine assignInOrder_cons (thn (h1 pins s σ H _ _ _ I r h) fun _ s1 ⟨σ1,H1,I1,q1⟩=>?_)
  exact h2 pins s1 σ1 H1 _ _ Q I1 rr q1
def gTup (K:PySem.W.Frag) (n:Nat) (t:TGs):TG:=fun v σ H Q=>∃ a xs,v=.ref a/\SqT K H a xs/\xs.length=n/\t xs σ H Q
theorem qaf {es:List Expr} {k:Nat} {t:TGs} {n:Nat} (hc:X.calm=true) (h:PGs X es t)
  (hn:(assignEach es X.env).length=n:=by rfl) (hst:(assignEach es X.env).findIdx? (·.1)=none:=by rfl):PG X (.Tuple es k pos) (gTup X.K n t):=by
 intro pins s σ H v u Q I r hw
 obtain ⟨a,xs,e1,hq,hl,hw⟩:=hw
 subst e1
 cases r
 obtain ⟨its,rv,ht,hz⟩:=I.tuple hq
 refine assign_Tuple_tuple (I.ok.hd hc) ht (by simp [hn, <- hl,rv.length]) hst fun h' hx=>?_
 have I1:Inv X pins σ H {s with heap:=h'}:=I.kept (t':=s.toks) fun b o e=>hx b o (Nat.ne_of_lt (Heap.lt_size e)) e
 exact h pins _ σ H xs _ Q I1 (by simpa using rv) hw
def tAsg (te:TE) (g:TG):TS:=fun D σ H=>te σ H fun x H1=>g x σ H1 D.nx
theorem q1c {i:Nat} {x:Str} {e:Expr} {te:TE} {pos':Pos} (hN:X.N.Nodup) (hi:X.N[i]?=some x) (hx:Loc X.env.scope x) (he:PE X e te) (hs:swapsWith e (some (.Name x pos')) pos.line X.env=pure false:=by rfl) (hf:X.fn x=true\/X.env.scope.names.lookup x=some .local:=by first | exact .inl rfl | exact .inr rfl | assumption) :
  PS X (.Assign [.Name x pos'] e pos) (tAsg te (q7p i)):=by
 intro pins s σ H D I h
 refine wpAny_Assign_Name (thn (he pins s σ H _ I h) fun v s1 ⟨y,H1,I1,r1,q1⟩=>?_) hs
 exact qeo I1 hN hi hx r1 (fun s2 I2=>⟨_,H1,I2,q1⟩) hf
end
structure It where
 go:Nat->Hp->Prop
 yld:Nat->Hp->V->Hp->Prop
 stop:Nat->Hp->Prop
def FpOk (X:Cx) (pins:List (Addr×Obj)) (H:Hp) (b:Addr):Prop:=
 H b=none/\b≠X.env.locals/\b∉X.fs/\(b∈X.ex\/X.s₀.heap.objs.size<=b)/\(∀ x c,X.env.cells.lookup x=some c->c≠b)/\∀ p∈X.pn++pins,p.1≠b
theorem Inv.fpOk {X:Cx} {pins:List (Addr×Obj)} {σ:St} {H H':Hp} {s:Shared} {b:Addr} (I:Inv X pins σ H s) (hb:s.heap.objs.size<=b) (hn:H' b=none):FpOk X pins H' b:=by
 refine ⟨hn,Nat.ne_of_gt (Nat.lt_of_lt_of_le I.lt hb),I.nofs hb, .inr (Nat.le_trans I.sz hb),fun x c e z=>?_,fun p hp z=>?_⟩
 ·obtain ⟨v,q⟩:=I.cell x c e
  exact absurd (Nat.lt_of_lt_of_le q.lt (by rw [z];exact hb)) (Nat.lt_irrefl _)
 ·exact absurd (Nat.lt_of_lt_of_le (Heap.lt_size (I.pin p hp).1) (by rw [z];exact hb)) (Nat.lt_irrefl _)
structure Turn (P:Program) (w:World) (K:PySem.W.Frag) (tg:Expr) (J:It) (fp:List Addr) (it:Addr) (tn:Nat->Heap->Prop):Prop where
 mem:it∈fp
 obj:∀ i h,tn i h->∀ b∈fp, ∃ o,h.get? b=some o/\∀ v,o.data≠.cell v
 keep:∀ i h h',tn i h->(∀ b∈fp, ∀ o,h.get? b=some o->h'.get? b=some o)->tn i h'
 item:∀ (X:Cx),X.prog=P->X.w=w->X.K=K->X.calm=true->∀ (i:Nat) (pins:List (Addr×Obj)) (s:Shared) (σ:St) (H:Hp) (E:Value->Shared->Prop),Inv X pins σ H s->(∀ b∈fp,FpOk X pins H b)->tn i s.heap->J.go i H ->
  wpAny (model P w) X.A (pyNext (.ref it)) (fun r s1=>∃ u,r=some u /\
   wpAny (model P w) X.A (letOwnedTupleGo tg (.ref it) u) (fun _ s2=>∃ x H',Inv X pins σ H' s2/\RelV x u/\J.yld i H x H'/\tn (i+1) s2.heap/\∀ b∈fp,H' b=none) E s1) E s
 done:∀ (X:Cx),X.prog=P->X.w=w->X.K=K->X.calm=true->∀ (i:Nat) (pins:List (Addr×Obj)) (s:Shared) (σ:St) (H:Hp) (E:Value->Shared->Prop),Inv X pins σ H s->(∀ b∈fp,FpOk X pins H b)->tn i s.heap->J.stop i H ->
  wpAny (model P w) X.A (pyNext (.ref it)) (fun r s1=>r=none/\Inv X pins σ H s1) E s
 self:∀ (A:Around) (i:Nat) (s:Shared) (Q:Value->Shared->Prop) (E:Value->Shared->Prop),tn i s.heap->Q (.ref it) s->wpAny (model P w) A (pyIter (.ref it)) Q E s
abbrev TI:=St->Hp->(It->Hp->Prop)->Prop
def PIE (X:Cx) (pins:List (Addr×Obj)) (σ:St) (tg:Expr) (R:It->Hp->Prop) (itv:Value) (s2:Shared):Prop:=
 ∃ (it:Addr) (fp:List Addr) (tn:Nat->Heap->Prop) (J:It) (H':Hp),itv=.ref it/\Inv X pins σ H' s2/\Turn X.prog X.w X.K tg J fp it tn/\tn 0 s2.heap/\(∀ b∈fp,FpOk X pins H' b)/\R J H'
def PI (X:Cx) (tg iter:Expr) (wi:TI):Prop:=
 ∀ (pins:List (Addr×Obj)) (s:Shared) (σ:St) (H:Hp) (R:It->Hp->Prop),Inv X pins σ H s->wi σ H R ->
  wpAny (model X.prog X.w) X.A (eval iter X.env) (fun v s1=>wpAny (model X.prog X.w) X.A (pyIter v) (PIE X pins σ tg R) X.xe s1) X.xe s
theorem qhx {M:Model} {A:Around} {E:Value->Shared->Prop} {s:Shared} {tg:Expr} {it:Addr} {u:Value} {o:Obj} {n:String} {vs:Array Value} {Q:Unit->Shared->Prop} (ho:s.heap.get? it=some o) (hc:o.cls=.type n) (hd:o.data=.fields vs)
  (hn:["enumerate", "zip", "dict_itemiterator", "dict_reverseitemiterator", "odict_iterator", "itertools.zip_longest", "itertools.pairwise"].contains n=false) (hQ:Q () s):wpAny M A (letOwnedTupleGo tg (.ref it) u) Q E s:=by
 unfold letOwnedTupleGo
 cases tg <;> first
  | exact wpAny_pure hQ
  | (cases u <;> first
    | exact wpAny_pure hQ
    | (refine wpAny_bind (wpAny_load ho ?_)
       rw [hc,hd]
       show wpAny M A (if (["enumerate", "zip", "dict_itemiterator", "dict_reverseitemiterator", "odict_iterator", "itertools.zip_longest", "itertools.pairwise"].contains n && vs[0]? == some (rawInt _))=true then _ else _) Q E s
       rw [if_neg (by intro h;rw [hn,Bool.false_and] at h;cases h)]
       exact wpAny_pure hQ))
def Itl (K:PySem.W.Frag) (a:Addr):It:=
 ⟨fun i H=>∃ xs x,SqL K H a xs/\xs[i]?=some x,fun i H x H' => H'=H/\∀ xs,SqL K H a xs->xs[i]?=some x,fun i H=>∃ xs,SqL K H a xs/\xs.length<=i⟩
def Itt (K:PySem.W.Frag) (a:Addr):It:=
 ⟨fun i H=>∃ xs x,SqT K H a xs/\xs[i]?=some x,fun i H x H' => H'=H/\∀ xs,SqT K H a xs->xs[i]?=some x,fun i H=>∃ xs,SqT K H a xs/\xs.length<=i⟩
def Itr (lo:Int) (n:Nat):It:=⟨fun i _=>i<n,fun i H x H' => H'=H/\x=.int (lo+i),fun i _=>n<=i⟩
theorem qi9 {P:Program} {w:World} {K:PySem.W.Frag} {tg:Expr} (a it:Addr):Turn P w K tg (Itl K a) [it] it (fun i h=>h.IsListIter it a i) where
 mem:=by simp
 obj:=fun i h st b hb=>by
  have e:b=it:=by simpa using hb
  subst e
  obtain ⟨o,e,c,d⟩:=st
  exact ⟨o,e,fun v z=>by rw [d] at z;cases z⟩
 keep:=fun i h h' st k=>st.at fun o e=>k it (by simp) o e
 item:=by
  intro X hP hw hK hc i pins s σ H E I hf st hg
  subst hP hw hK
  obtain ⟨xs,x,hq,hx⟩:=hg
  obtain ⟨its,rv,p,hz⟩:=I.list hq
  obtain ⟨u,hu,ru⟩:=rv.get hx
  obtain ⟨f0,f1,f2,f3,f4,f5⟩:=hf it (by simp)
  refine wpAny_pyNext_list_item st p.isList (x:=u) (by simpa using hu) fun h' st' sb=>?_
  have I1:Inv X pins σ H {s with heap:=h'}:=I.turned (t':=s.toks) (fun b o hb e=>(sb.2 b hb).trans e) f0 f1 f3 f4 f5
  obtain ⟨o,e,c,d⟩:=id st'
  exact ⟨u,rfl,qhx (s:={s with heap:=h'}) e c d (by decide) ⟨x,H,I1,ru,⟨rfl,fun ys hy=>by rw [I.qe8 hy hq];exact hx⟩,st',fun b hb=>(hf b hb).1⟩⟩
 done:=by
  intro X hP hw hK hc i pins s σ H E I hf st hg
  subst hP hw hK
  obtain ⟨xs,hq,hx⟩:=hg
  obtain ⟨its,rv,p,hz⟩:=I.list hq
  obtain ⟨f0,f1,f2,f3,f4,f5⟩:=hf it (by simp)
  have hl:=rv.length
  exact wpAny_pyNext_list_end (I.ok.hd hc) st p.isList (by simp;omega) fun h' eb=>⟨rfl,I.turned (t':=s.toks) (fun b o hb e=>eb b o hb e) f0 f1 f3 f4 f5⟩
 self:=fun _ _ _ _ _ st h=>wpAny_pyIter_listiter st h
theorem qi2 {P:Program} {w:World} {K:PySem.W.Frag} {tg:Expr} (a it:Addr):Turn P w K tg (Itt K a) [it] it (fun i h=>h.IsTupleIter it a i) where
 mem:=by simp
 obj:=fun i h st b hb=>by
  have e:b=it:=by simpa using hb
  subst e
  obtain ⟨o,e,c,d⟩:=st
  exact ⟨o,e,fun v z=>by rw [d] at z;cases z⟩
 keep:=fun i h h' st k=>st.at fun o e=>k it (by simp) o e
 item:=by
  intro X hP hw hK hc i pins s σ H E I hf st hg
  subst hP hw hK
  obtain ⟨xs,x,hq,hx⟩:=hg
  obtain ⟨its,rv,p,hz⟩:=I.tuple hq
  obtain ⟨u,hu,ru⟩:=rv.get hx
  obtain ⟨f0,f1,f2,f3,f4,f5⟩:=hf it (by simp)
  refine wpAny_pyNext_tuple_item st (show s.heap.IsTuple a its.toArray from p) (x:=u) (by simpa using hu) fun h' st' sb=>?_
  have I1:Inv X pins σ H {s with heap:=h'}:=I.turned (t':=s.toks) (fun b o hb e=>(sb.2 b hb).trans e) f0 f1 f3 f4 f5
  obtain ⟨o,e,c,d⟩:=id st'
  exact ⟨u,rfl,qhx (s:={s with heap:=h'}) e c d (by decide) ⟨x,H,I1,ru,⟨rfl,fun ys hy=>by rw [I.qie hy hq];exact hx⟩,st',fun b hb=>(hf b hb).1⟩⟩
 done:=by
  intro X hP hw hK hc i pins s σ H E I hf st hg
  subst hP hw hK
  obtain ⟨xs,hq,hx⟩:=hg
  obtain ⟨its,rv,p,hz⟩:=I.tuple hq
  obtain ⟨f0,f1,f2,f3,f4,f5⟩:=hf it (by simp)
  have hl:=rv.length
  exact wpAny_pyNext_tuple_end (I.ok.hd hc) st (show s.heap.IsTuple a its.toArray from p) (by simp;omega) fun h' eb=>⟨rfl,I.turned (t':=s.toks) (fun b o hb e=>eb b o hb e) f0 f1 f3 f4 f5⟩
 self:=fun _ _ _ _ _ st h=>wpAny_pyIter_tupleiter st h
theorem qi6 {P:Program} {w:World} {K:PySem.W.Frag} {tg:Expr} (it:Addr) (lo:Int) (n:Nat):Turn P w K tg (Itr lo n) [it] it (fun i h=>IsRangeIter h it (lo+(i:Nat) * 1) ((n:Int) - (i:Nat)) 1) where
 mem:=by simp
 obj:=fun i h st b hb=>by
  have e:b=it:=by simpa using hb
  subst e
  exact ⟨_,st,fun v z=>by
   have z':Data.fields _=Data.cell v:=z
   cases z'⟩
 keep:=fun i h h' st k=>k it (by simp) _ st
 item:=by
  intro X hP hw hK hc i pins s σ H E I hf st hg
  subst hP hw hK
  obtain ⟨f0,f1,f2,f3,f4,f5⟩:=hf it (by simp)
  have W:=Walks.range (prog:=X.prog) (w:=X.w) (I.ok.hd hc) it lo 1 n
  refine W.item i s _ _ hg st fun v h' tk hv st' kk=>?_
  obtain ⟨t,rfl⟩:=hv
  have I1:Inv X pins σ H {s with heap:=h',toks:=tk}:=I.turned (fun b o hb e=>kk b o (by simpa using hb) e) f0 f1 f3 f4 f5
  refine ⟨_,rfl,qhx (s:={s with heap:=h',toks:=tk}) (n:="range_iterator") st' rfl rfl (by decide) ⟨.int (lo+i),H,I1,⟨t,?_⟩,⟨rfl,rfl⟩,st',fun b hb=>(hf b hb).1⟩⟩
  rw [Int.mul_one]
 done:=by
  intro X hP hw hK hc i pins s σ H E I hf st hg
  subst hP hw hK
  obtain ⟨f0,f1,f2,f3,f4,f5⟩:=hf it (by simp)
  exact wpAny_pyNext_range_end (I.ok.hd hc) st (by have:n<=i:=hg;omega) fun h' eb=>⟨rfl,I.turned (t':=s.toks) (fun b o hb e=>eb b o hb e) f0 f1 f3 f4 f5⟩
 self:=fun _ _ _ _ _ st h=>wpAny_pyIter_rangeiter st h
end L2
namespace L2
open PySem PySem.Spec PyProof.Rows
section
variable {X:Cx} {tg:Expr}
def iList (K:PySem.W.Frag) (tl:TE):TI:=fun σ H R=>tl σ H fun x H1=>∃ a,x=.ref a/\(∃ xs,SqL K H1 a xs)/\R (Itl K a) H1
def iTup (K:PySem.W.Frag) (tl:TE):TI:=fun σ H R=>tl σ H fun x H1=>∃ a,x=.ref a/\(∃ xs,SqT K H1 a xs)/\R (Itt K a) H1
theorem q2t {l:Expr} {tl:TE} (hl:PE X l tl):PI X tg l (iList X.K tl):=by
 intro pins s σ H R I h
 refine thn (hl pins s σ H _ I h) fun v s1 ⟨x,H1,I1,r1,q1⟩=>?_
 obtain ⟨a,e,⟨xs,hq⟩,q⟩:=q1
 subst e
 cases r1
 obtain ⟨its,rv,p,hz⟩:=I1.list hq
 refine wpAny_pyIter_list p.isList ?_
 refine ⟨s1.heap.objs.size,[s1.heap.objs.size],_,_,H1,rfl,I1.kept (t':=s1.toks) fun b o e=>Heap.get?_push_of_some _ e,qi9 a _,⟨_,Heap.get?_push_size _ rfl,rfl,rfl⟩,fun b hb=>?_,q⟩
 have e:b=s1.heap.objs.size:=by simpa using hb
 subst e
 exact I1.fpOk (Nat.le_refl _) (I1.hok.fresh (Nat.le_refl _))
theorem q5t {l:Expr} {tl:TE} (hl:PE X l tl):PI X tg l (iTup X.K tl):=by
 intro pins s σ H R I h
 refine thn (hl pins s σ H _ I h) fun v s1 ⟨x,H1,I1,r1,q1⟩=>?_
 obtain ⟨a,e,⟨xs,hq⟩,q⟩:=q1
 subst e
 cases r1
 obtain ⟨its,rv,p,hz⟩:=I1.tuple hq
 refine wpAny_pyIter_tuple (show s1.heap.IsTuple a its.toArray from p) ?_
 refine ⟨s1.heap.objs.size,[s1.heap.objs.size],_,_,H1,rfl,I1.kept (t':=s1.toks) fun b o e=>Heap.get?_push_of_some _ e,qi2 a _,⟨_,Heap.get?_push_size _ rfl,rfl,rfl⟩,fun b hb=>?_,q⟩
 have e:b=s1.heap.objs.size:=by simpa using hb
 subst e
 exact I1.fpOk (Nat.le_refl _) (I1.hok.fresh (Nat.le_refl _))
theorem qdo {pins:List (Addr×Obj)} {σ:St} {H:Hp} {s:Shared} {R:It->Hp->Prop} {E:Value->Shared->Prop} {lo hi:Int} {t u v:Tok} {tk:Nat} (I:Inv X pins σ H s) (h1:-(2 ^ 62)<=lo) (h2:lo<2 ^ 62) (h3:-(2 ^ 62)<=hi) (h4:hi<2 ^ 62)
  (q:R (Itr lo (hi - lo).toNat) H):wpAny (model X.prog X.w) X.A (pyIter (.ref s.heap.objs.size)) (PIE X pins σ tg R) E {s with heap:=s.heap.push {cls:=.type "range",data:=.fields #[.int lo t, .int hi u, .int 1 v]},toks:=tk}:=by
 refine wpAny_pyIter_range (IsRange.new ..) (small_one h1 h2 h3 h4) ?_
 have I1:Inv X pins σ H {s with heap:=s.heap.push {cls:=.type "range",data:=.fields #[.int lo t, .int hi u, .int 1 v]},toks:=tk}:=I.kept fun b o e=>Heap.get?_push_of_some _ e
 refine ⟨(s.heap.push {cls:=.type "range",data:=.fields #[.int lo t, .int hi u, .int 1 v]}).objs.size,[(s.heap.push {cls:=.type "range",data:=.fields #[.int lo t, .int hi u, .int 1 v]}).objs.size],_,_,H,rfl,
  I1.kept (t':=tk) fun b o e=>Heap.get?_push_of_some _ e,qi6 _ lo (hi - lo).toNat,?_,fun b hb=>?_,q⟩
 ·have e1:lo+((0:Nat):Int) * 1=lo:=by simp
  have e2:(((hi - lo).toNat:Nat):Int) - ((0:Nat):Int)=Builtin.Range.rangeSize lo hi 1:=by rw [rangeSize_one];split <;> omega
  show IsRangeIter _ _ (lo+((0:Nat):Int) * 1) ((((hi - lo).toNat:Nat):Int) - ((0:Nat):Int)) 1
  rw [e1,e2]
  exact Heap.get?_push_size _ rfl
 ·have e:b=(s.heap.push {cls:=.type "range",data:=.fields #[.int lo t, .int hi u, .int 1 v]}).objs.size:=by simpa using hb
  subst e
  exact I1.fpOk (Nat.le_refl _) (I1.hok.fresh (Nat.le_refl _))
def iRng1 (ta:TA):TI:=fun σ H R=>ta σ H fun vs H1=>∃ j:Int,vs=[.int j]/\-(2 ^ 62)<=j/\j<2 ^ 62/\R (Itr 0 j.toNat) H1
def iRng2 (ta:TA):TI:=fun σ H R=>ta σ H fun vs H1=>∃ i j:Int,vs=[.int i, .int j]/\(-(2 ^ 62)<=i/\i<2 ^ 62/\-(2 ^ 62)<=j/\j<2 ^ 62)/\R (Itr i (j - i).toNat) H1
theorem q4p {a:Expr} {ta:TA} {p pos:Pos} (hg:Gl X "range") (hm:X.mg "range" = none) (ha:PA X [a] ta) (hs:starEach [a] X.env=[(false,eval a X.env)]:=by rfl):PI X tg (.Call (.Name "range" p) [a] [] pos) (iRng1 ta):=by
 intro pins s σ H R I h
 refine Call_ (q71 I hg hm boot_range (PyProof.Rows.callWith_type1 (thn (ha pos pins s σ H _ I h) fun us s1 ⟨vs,H1,I1,r1,q1⟩=>?_) hs rfl))
 obtain ⟨j,e,q1,q2,q⟩:=q1
 subst e
 cases r1 with
 | cons r rr =>
  cases rr
  obtain ⟨t,rfl⟩:=r
  exact call_range_1 (qdo I1 (by omega) (by omega) q1 q2 (by simpa using q))
theorem qcb {a b:Expr} {ta:TA} {p pos:Pos} (hg:Gl X "range") (hm:X.mg "range" = none) (ha:PA X [a,b] ta) (hs:starEach [a,b] X.env=[(false,eval a X.env),(false,eval b X.env)]:=by rfl) (hs2:starEach [b] X.env=[(false,eval b X.env)]:=by rfl) :
  PI X tg (.Call (.Name "range" p) [a,b] [] pos) (iRng2 ta):=by
 intro pins s σ H R I h
 refine Call_ (q71 I hg hm boot_range (PyProof.Rows.callWith_type1 (thn (ha pos pins s σ H _ I h) fun us s1 ⟨vs,H1,I1,r1,q1⟩=>?_) (by rw [hs,hs2]) (by rw [hs2];rfl)))
 obtain ⟨i,j,e,⟨q1,q2,q3,q4⟩,q⟩:=q1
 subst e
 cases r1 with
 | cons r rr =>
  cases rr with
  | cons r' rr =>
   cases rr
   obtain ⟨t,rfl⟩:=r
   obtain ⟨t',rfl⟩:=r'
   exact call_range_2 (qdo I1 q1 q2 q3 q4 q)
def tFor (wi:TI) (g:TG) (tb:TS):TS:=fun D σ H=>wi σ H fun J H1=>∃ W:Nat->Nat->St->Hp->Prop,(∃ m,W 0 m σ H1)/\∀ i m σ H,W i m σ H ->
 (J.stop i H/\D.nx σ H)\/(J.go i H/\∃ N:St->Hp->Prop,(∀ σ' H',N σ' H'->∃ m',m' < m/\W (i+1) m' σ' H')/\∀ x H',J.yld i H x H'->g x σ H' fun σ2 H2=>tb {D with nx:=N,ct:=N,bk:=D.nx} σ2 H2)
def q82 (fp:List Addr) (h:Heap):List (Addr×Obj):=fp.filterMap fun b=>(h.get? b).map fun o=>(b,o)
theorem q5x {fp:List Addr} {h:Heap} {b:Addr} {o:Obj} (hb:b∈fp) (e:h.get? b=some o):(b,o)∈q82 fp h:=List.mem_filterMap.mpr ⟨b,hb,by rw [e];rfl⟩
theorem qkd {fp:List Addr} {h:Heap} {p:Addr×Obj} (hp:p∈q82 fp h):p.1∈fp/\h.get? p.1=some p.2:=by
 obtain ⟨b,hb,e⟩:=List.mem_filterMap.mp hp
 cases q:h.get? b with
 | none=>rw [q] at e;cases e
 | some o =>
  rw [q] at e
  have e':(b,o)=p:=Option.some.inj e
  subst e'
  exact ⟨hb,q⟩
theorem Inv.pinned {pins:List (Addr×Obj)} {σ:St} {H:Hp} {s:Shared} {fp:List Addr} (I:Inv X pins σ H s) (hf:∀ b∈fp,FpOk X pins H b) (ho:∀ b∈fp, ∃ o,s.heap.get? b=some o/\∀ v,o.data≠.cell v):Inv X (pins++q82 fp s.heap) σ H s:=
 I.qg0 fun p hp=>(List.mem_append.mp hp).elim (fun z=>I.pin p (List.mem_append_right _ z)) fun z=>by
  obtain ⟨hb,e⟩:=qkd z
  obtain ⟨f0,f1,f2,_⟩:=hf p.1 hb
  obtain ⟨o,e',d⟩:=ho p.1 hb
  rw [e] at e';cases e'
  exact ⟨e,f0,f1,f2,d⟩
theorem Inv.q7r {pins pl:List (Addr×Obj)} {σ:St} {H:Hp} {s:Shared} (I:Inv X (pins++pl) σ H s):Inv X pins σ H s:=I.qg0 fun p hp=>I.pin p (List.mem_append_right _ (List.mem_append_left _ hp))
theorem q3b {iter:Expr} {body:List Stmt} {wi:TI} {g:TG} {tb:TS} {pos:Pos} (hp:PassesOwn (model X.prog X.w) X.A X.env X.xe) (hc:X.calm=true) (hi:PI X tg iter wi) (hg:PG X tg g) (hb:PSs X body tb)
  (hs:∀ x,foldedSetIterable iter X.env x=pure x:=by intro _;rfl):PS X (.For tg iter body [] pos) (tFor wi g tb):=by
 intro pins s σ H D I h
 refine wpAny_For (thn (hi pins s σ H _ I h) fun v s1 h1=>thn h1 fun itv s2 h2=>?_) hs
 obtain ⟨it,fp,tn,J,H2,e,I2,T,st2,f2,W,⟨m0,w0⟩,turn⟩:=h2
 subst e
 have stat:∀ {H':Hp},(∀ b∈fp,H' b=none)->∀ b∈fp,FpOk X pins H' b:=fun hn b hb=>⟨hn b hb,(f2 b hb).2⟩
 refine codeAny_forLoop_any (fun n s' => ∃ i σ' H',Inv X pins σ' H' s'/\tn i s'.heap/\(∀ b∈fp,H' b=none)/\W i n σ' H') ?_ m0 ⟨0, σ,H2,I2,st2,fun b hb=>(f2 b hb).1,w0⟩
 rintro n s3 ⟨i, σ3,H3,I3,st3,fr3,w3⟩
 rcases turn i n σ3 H3 w3 with ⟨stop,qn⟩ | ⟨go,N,hN,step⟩
 ·refine wpAny_passesOwn hp (thn (T.done X rfl rfl rfl hc i pins s3 σ3 H3 X.xe I3 (stat fr3) st3 stop) fun r s4 ⟨hr,I4⟩=>?_)
  subst hr
  exact wpAny_execs_nil ⟨σ3,H3,I4,qn⟩
 ·refine wpAny_passesOwn hp (thn (T.item X rfl rfl rfl hc i pins s3 σ3 H3 X.xe I3 (stat fr3) st3 go) fun r s4 ⟨u,hr,h4⟩=>?_)
  subst hr
  refine wpAny_passesOwn hp (thn h4 fun _ s5 ⟨x,H5,I5,r5,y5,st5,fr5⟩=>?_)
  have I5':=I5.pinned (stat fr5) (T.obj _ _ st5)
  refine wpAny_passesOwn hp (thn (hg _ s5 σ3 H5 x u _ I5' r5 (step x H5 y5)) fun _ s6 ⟨σ6,H6,I6,q6⟩=>?_)
  refine wpAny_passesOwn hp (thn (hb _ s6 σ6 H6 _ I6 q6) fun f s7 q7=>?_)
  have again:∀ {σ7:St} {H7:Hp},Inv X (pins++q82 fp s5.heap) σ7 H7 s7->N σ7 H7->∃ m,m<n/\∃ i σ' H',Inv X pins σ' H' s7/\tn i s7.heap/\(∀ b∈fp,H' b=none)/\W i m σ' H':=fun {σ7 H7} I7 n7=>by
   obtain ⟨m',hm,w7⟩:=hN σ7 H7 n7
   refine ⟨m',hm,i+1, σ7,H7,I7.q7r,T.keep _ _ _ st5 fun b hb o e=>(I7.pin (b,o) (List.mem_append_right _ (List.mem_append_right _ (q5x hb e)))).1,fun b hb=>?_,w7⟩
   obtain ⟨o,e,d⟩:=T.obj _ _ st5 b hb
   exact (I7.pin (b,o) (List.mem_append_right _ (List.mem_append_right _ (q5x hb e)))).2.1
  cases f with
  | next=>obtain ⟨σ7,H7,I7,n7⟩:=q7;exact again I7 n7
  | cont=>obtain ⟨σ7,H7,I7,n7⟩:=q7;exact again I7 n7
  | brk=>obtain ⟨σ7,H7,I7,q7⟩:=q7;exact ⟨σ7,H7,I7.q7r,q7⟩
  | ret v=>obtain ⟨x7, σ7,H7,I7,r7,q7⟩:=q7;exact ⟨x7, σ7,H7,I7.q7r,r7,q7⟩
end
end L2
namespace L2
open PySem PySem.Spec PyProof.Rows
abbrev R2:=V->V->Hp->VK->Prop
def OpR (X:Cx) (f:Value->Value->Sem Value) (r:R2):Prop:=
 ∀ (pins:List (Addr×Obj)) (s:Shared) (σ:St) (H:Hp) (x y:V) (v u:Value) (Q:VK),Inv X pins σ H s->RelV x v->RelV y u->r x y H Q ->
  wpAny (model X.prog X.w) X.A (f v u) (EP X pins σ Q) X.xe s
def q2a (X:Cx) (f:Value) (r:List V->Hp->VK->Prop):Prop:=
 ∀ (pins:List (Addr×Obj)) (s:Shared) (σ:St) (H:Hp) (xs:List V) (us:List Value) (Q:VK),Inv X pins σ H s->Vals xs us->r xs H Q ->
  wpAny (model X.prog X.w) X.A (call f us) (EP X pins σ Q) X.xe s
def TruR (X:Cx) (r:V->Hp->(Bool->Hp->Prop)->Prop):Prop:=
 ∀ (pins:List (Addr×Obj)) (s:Shared) (σ:St) (H:Hp) (x:V) (v:Value) (Q:Bool->Hp->Prop),Inv X pins σ H s->RelV x v->r x H Q ->
  wpAny (model X.prog X.w) X.A (truthy v) (TP X pins σ Q) X.xe s
def tOp (r:R2) (ta tb:TE):TE:=fun σ H Q=>ta σ H fun x H1=>tb σ H1 fun y H2=>r x y H2 Q
def rI (C:Int->Int->Prop) (g:Int->Int->V):R2:=fun x y H Q=>∃ i j,x=.int i/\y=.int j/\C i j/\Q (g i j) H
def rI0 (g:Int->Int->V):R2:=fun x y H Q=>∃ i j,x=.int i/\y=.int j/\Q (g i j) H
section
variable {X:Cx} {a b c:Expr} {ta tb tc:TE} {pos:Pos}
theorem binT (ha:PE X a ta) (hb:PE X b tb) {pins:List (Addr×Obj)} {s:Shared} {σ:St} {H:Hp} {R:V->V->Hp->Prop} (I:Inv X pins σ H s)
  (h:ta σ H fun x H1=>tb σ H1 fun y H2=>R x y H2) {Q:Value->Shared->Prop} {f:Value->Value->Sem Value}
  (hf:∀ v u s2 x y H2,Inv X pins σ H2 s2->RelV x v->RelV y u->R x y H2->wpAny (model X.prog X.w) X.A (f v u) Q X.xe s2) :
  wpAny (model X.prog X.w) X.A (eval a X.env) (fun v s₁=>wpAny (model X.prog X.w) X.A (eval b X.env) (fun u s₂=>wpAny (model X.prog X.w) X.A (f v u) Q X.xe s₂) X.xe s₁) X.xe s:=by
 refine thn (ha pins s σ H _ I h) fun v s1 ⟨x,H1,I1,r1,q1⟩=>?_
 refine thn (hb pins s1 σ H1 _ I1 q1) fun u s2 ⟨y,H2,I2,r2,q2⟩=>?_
 exact hf v u s2 x y H2 I2 r1 r2 q2
theorem q0r {op:Operator} {r:R2} (ho:OpR X (binaryOp op) r) (ha:PE X a ta) (hb:PE X b tb):PE X (.BinOp a op b pos) (tOp r ta tb):=by
 intro pins s σ H Q I h
 exact wpAny_BinOp (binT ha hb I h fun v u s2 x y H2 I2 rx ry q=>ho pins s2 σ H2 x y v u Q I2 rx ry q)
theorem opI {f:Value->Value->Sem Value} {C:Int->Int->Prop} {g:Int->Int->Int}
  (rule:∀ (i j:Int) (t u:Tok) (s:Shared) (Q:Value->Shared->Prop) (E:Value->Shared->Prop),C i j->Q (.int (g i j) s.toks) {s with toks:=s.toks+1}->wpAny (model X.prog X.w) X.A (f (.int i t) (.int j u)) Q E s) :
  OpR X f (rI C fun i j=>.int (g i j)):=by
 intro pins s σ H x y v u Q I rx ry h
 obtain ⟨i,j,rfl,rfl,hc,q⟩:=h
 obtain ⟨t,rfl⟩:=rx
 obtain ⟨t',rfl⟩:=ry
 exact rule i j t t' s _ _ hc ⟨.int (g i j),H,I.tok _,⟨_,rfl⟩,q⟩
theorem opI0 {f:Value->Value->Sem Value} {g:Int->Int->Int}
  (rule:∀ (i j:Int) (t u:Tok) (s:Shared) (Q:Value->Shared->Prop) (E:Value->Shared->Prop),Q (.int (g i j) s.toks) {s with toks:=s.toks+1}->wpAny (model X.prog X.w) X.A (f (.int i t) (.int j u)) Q E s) :
  OpR X f (rI0 fun i j=>.int (g i j)):=by
 intro pins s σ H x y v u Q I rx ry h
 obtain ⟨i,j,rfl,rfl,q⟩:=h
 obtain ⟨t,rfl⟩:=rx
 obtain ⟨t',rfl⟩:=ry
 exact rule i j t t' s _ _ ⟨.int (g i j),H,I.tok _,⟨_,rfl⟩,q⟩
theorem opB0 {f:Value->Value->Sem Value} {g:Int->Int->Bool}
  (rule:∀ (i j:Int) (t u:Tok) (s:Shared) (Q:Value->Shared->Prop) (E:Value->Shared->Prop),Q (.bool (g i j)) s->wpAny (model X.prog X.w) X.A (f (.int i t) (.int j u)) Q E s) :
  OpR X f (rI0 fun i j=>.bl (g i j)):=by
 intro pins s σ H x y v u Q I rx ry h
 obtain ⟨i,j,rfl,rfl,q⟩:=h
 obtain ⟨t,rfl⟩:=rx
 obtain ⟨t',rfl⟩:=ry
 exact rule i j t t' s _ _ ⟨.bl (g i j),H,I,rfl,q⟩
def CDiv (i j:Int):Prop:=0<j/\j<1073741824
def CMul (i j:Int):Prop:=(-(2 ^ 64)<i/\i<2 ^ 64)\/(-(2 ^ 64)<j/\j<2 ^ 64)
theorem CMul.ok {i j:Int} (h:CMul i j):IntMulOk i j:=by
 rcases h with ⟨h1,h2⟩ | ⟨h1,h2⟩
 ·exact .of_left (intBits_le_64 h1 h2)
 ·exact .of_right (intBits_le_64 h1 h2)
theorem q51:OpR X (binaryOp .Add) (rI0 fun i j=>.int (i+j)):=opI0 fun _ _ _ _ _ _ _ q=>add_int q
theorem qb4:OpR X (binaryOp .Sub) (rI0 fun i j=>.int (i - j)):=opI0 fun _ _ _ _ _ _ _ q=>sub_int q
theorem op_mul:OpR X (binaryOp .Mult) (rI CMul fun i j=>.int (i * j)):=opI fun _ _ _ _ _ _ _ hc q=>mul_int q hc.ok
theorem q39:OpR X (binaryOp .FloorDiv) (rI CDiv fun i j=>.int (i / j)):=opI fun i j _ _ _ _ _ hc q=>by
 have h1:(0:Int)<j:=hc.1
 have h2:j<1073741824:=hc.2
 exact floordiv_int (by omega) (by rw [Int.fdiv_eq_ediv_of_nonneg i (by omega)];exact q) (.inl (PyProof.noPylong_small (by omega)))
theorem q26:OpR X (binaryOp .Mod) (rI (fun _ j=>0<j) fun i j=>.int (i % j)):=opI fun i j _ _ _ _ _ hc q=>by
 have h1:(0:Int)<j:=hc
 exact mod_int' (by omega) (by rw [Int.fmod_eq_emod_of_nonneg i (by omega)];exact q)
end
def scal:V->V->Bool
 | .non, .non=>true | .non, .int _=>true | .int _, .non=>true | .non, .bl _=>true | .bl _, .non=>true | .non, .str _=>true | .str _, .non=>true
 | .int _, .int _=>true | .bl _, .bl _=>true | .str _, .str _=>true | .byt _, .byt _=>true
 | .int _, .str _=>true | .str _, .int _=>true | .bl _, .str _=>true | .str _, .bl _=>true
 | _,_=>false
def rEq:R2:=fun x y H Q=>scal x y=true/\Q (.bl (decide (x=y))) H
def rNe:R2:=fun x y H Q=>scal x y=true/\Q (.bl (!decide (x=y))) H
theorem qgb {i j:Int}:decide (V.int i=V.int j)=(i == j):=by
 rw [Bool.eq_iff_iff]
 simp
theorem qjy {i j:Bool}:decide (V.bl i=V.bl j)=(i == j):=by
 rw [Bool.eq_iff_iff]
 simp
theorem qge {i j:Str}:decide (V.str i=V.str j)=(i == j):=by
 rw [Bool.eq_iff_iff]
 simp
theorem qgi {i j:Array UInt8}:decide (V.byt i=V.byt j)=(i.toList == j.toList):=by
 rw [Bool.eq_iff_iff]
 cases i
 cases j
 simp
section
variable {X:Cx} {a b c:Expr} {ta tb tc:TE} {pos:Pos}
theorem q1k {pins:List (Addr×Obj)} {σ:St} {H:Hp} {s:Shared} {Q:VK} {k k':Bool} (I:Inv X pins σ H s) (q:Q (.bl k) H) (e:k=k'):EP X pins σ Q (.bool k') s:=by
 subst e
 exact ⟨.bl k,H,I,rfl,q⟩
theorem q1v:OpR X (compareOp .Eq) rEq:=by
 intro pins s σ H x y v u Q I rx ry h
 obtain ⟨hs,q⟩:=h
 cases x with
 | non =>
  cases rx
  cases y with
  | non=>cases ry;exact PySem.EqNone.eq_none_none (q1k I q (by simp))
  | bl j=>cases ry;exact PySem.EqNone.eq_none_bool (q1k I q (by simp))
  | int j=>obtain ⟨t',rfl⟩:=ry;exact PySem.EqNone.eq_none_int (q1k I q (by simp))
  | str j=>obtain ⟨t',rfl⟩:=ry;exact PySem.EqNone.eq_none_str (q1k I q (by simp))
  | _=>exact absurd (show false=true from hs) Bool.false_ne_true
 | bl i =>
  cases rx
  cases y with
  | non=>cases ry;exact PySem.EqNone.eq_bool_none (q1k I q (by simp))
  | bl j=>cases ry;exact eq_bool (q1k I q qjy)
  | str j=>obtain ⟨t',rfl⟩:=ry;exact PySem.EqMixed.eq_bool_str (q1k I q (by simp))
  | _=>exact absurd (show false=true from hs) Bool.false_ne_true
 | int i =>
  obtain ⟨t,rfl⟩:=rx
  cases y with
  | non=>cases ry;exact PySem.EqNone.eq_int_none (q1k I q (by simp))
  | int j=>obtain ⟨t',rfl⟩:=ry;exact eq_int (q1k I q qgb)
  | str j=>obtain ⟨t',rfl⟩:=ry;exact PySem.EqMixed.eq_int_str (q1k I q (by simp))
  | _=>exact absurd (show false=true from hs) Bool.false_ne_true
 | str i =>
  obtain ⟨t,rfl⟩:=rx
  cases y with
  | non=>cases ry;exact PySem.EqNone.eq_str_none (q1k I q (by simp))
  | bl j=>cases ry;exact PySem.EqMixed.eq_str_bool (q1k I q (by simp))
  | int j=>obtain ⟨t',rfl⟩:=ry;exact PySem.EqMixed.eq_str_int (q1k I q (by simp))
  | str j=>obtain ⟨t',rfl⟩:=ry;exact eq_str (q1k I q qge)
  | _=>exact absurd (show false=true from hs) Bool.false_ne_true
 | byt i =>
  obtain ⟨t,rfl⟩:=rx
  cases y with
  | byt j=>obtain ⟨t',rfl⟩:=ry;exact PySem.W.eq_bytes (q1k I q qgi)
  | _=>exact absurd (show false=true from hs) Bool.false_ne_true
 | _=>cases y <;> exact absurd (show false=true from hs) Bool.false_ne_true
theorem q6m:OpR X (compareOp .NotEq) rNe:=by
 intro pins s σ H x y v u Q I rx ry h
 obtain ⟨hs,q⟩:=h
 cases x with
 | non =>
  cases rx
  cases y with
  | non=>cases ry;exact PySem.EqNone.ne_none_none (q1k I q (by simp))
  | bl j=>cases ry;exact PySem.EqNone.ne_none_bool (q1k I q (by simp))
  | int j=>obtain ⟨t',rfl⟩:=ry;exact PySem.EqNone.ne_none_int (q1k I q (by simp))
  | str j=>obtain ⟨t',rfl⟩:=ry;exact PySem.EqNone.ne_none_str (q1k I q (by simp))
  | _=>exact absurd (show false=true from hs) Bool.false_ne_true
 | bl i =>
  cases rx
  cases y with
  | non=>cases ry;exact PySem.EqNone.ne_bool_none (q1k I q (by simp))
  | bl j=>cases ry;exact ne_bool (q1k I q (congrArg not qjy))
  | str j=>obtain ⟨t',rfl⟩:=ry;exact PySem.EqMixed.ne_bool_str (q1k I q (by simp))
  | _=>exact absurd (show false=true from hs) Bool.false_ne_true
 | int i =>
  obtain ⟨t,rfl⟩:=rx
  cases y with
  | non=>cases ry;exact PySem.EqNone.ne_int_none (q1k I q (by simp))
  | int j=>obtain ⟨t',rfl⟩:=ry;exact ne_int (q1k I q (congrArg not qgb))
  | str j=>obtain ⟨t',rfl⟩:=ry;exact PySem.EqMixed.ne_int_str (q1k I q (by simp))
  | _=>exact absurd (show false=true from hs) Bool.false_ne_true
 | str i =>
  obtain ⟨t,rfl⟩:=rx
  cases y with
  | non=>cases ry;exact PySem.EqNone.ne_str_none (q1k I q (by simp))
  | bl j=>cases ry;exact PySem.EqMixed.ne_str_bool (q1k I q (by simp))
  | int j=>obtain ⟨t',rfl⟩:=ry;exact PySem.EqMixed.ne_str_int (q1k I q (by simp))
  | str j=>obtain ⟨t',rfl⟩:=ry;exact ne_str (q1k I q (congrArg not qge))
  | _=>exact absurd (show false=true from hs) Bool.false_ne_true
 | byt i =>
  obtain ⟨t,rfl⟩:=rx
  cases y with
  | byt j=>obtain ⟨t',rfl⟩:=ry;exact PySem.W.ne_bytes (q1k I q (congrArg not qgi))
  | _=>exact absurd (show false=true from hs) Bool.false_ne_true
 | _=>cases y <;> exact absurd (show false=true from hs) Bool.false_ne_true
theorem qap:OpR X (compareOp .Lt) (rI0 fun i j=>.bl (decide (i<j))):=opB0 fun _ _ _ _ _ _ _ q=>lt_int q
theorem op_ge:OpR X (compareOp .GtE) (rI0 fun i j=>.bl (decide (j<=i))):=opB0 fun _ _ _ _ _ _ _ q=>ge_int q
theorem q0u (b:Expr) {op:CmpOp} (h:op≠.In:=by decide) (h2:op≠.NotIn:=by decide):behindInMarks op b=false:=by
 have e1:(op == CmpOp.In)=false:=by cases op <;> first | rfl | exact absurd rfl h
 have e2:(op == CmpOp.NotIn)=false:=by cases op <;> first | rfl | exact absurd rfl h2
 cases b <;> simp [behindInMarks,e1,e2]
theorem q2q {op:CmpOp} {r:R2} (ho:OpR X (compareOp op) r) (ha:PE X a ta) (hb:PE X b tb) (hm:behindInMarks op b=false):PE X (.Compare a [op] [b] pos) (tOp r ta tb):=by
 intro pins s σ H Q I h
 exact wpAny_Compare1 (binT ha hb I h fun v u s2 x y H2 I2 rx ry q=>ho pins s2 σ H2 x y v u Q I2 rx ry q) hm
def tTest (t:TE):TT:=fun σ H Q=>t σ H fun x H' => ∃ k,x=.bl k/\Q k H'
theorem q0z {op:CmpOp} {r:R2} (ho:OpR X (compareOp op) r) (ha:PE X a ta) (hb:PE X b tb) (hm:behindInMarks op b=false):PT X (.Compare a [op] [b] pos) (tTest (tOp r ta tb)):=by
 intro pins s σ H Q I h
 refine wpAny_isTrue_Compare1 (thn (ha pins s σ H _ I h) fun v s1 ⟨x,H1,I1,r1,q1⟩=>thn (hb pins s1 σ H1 _ I1 q1) fun u s2 ⟨y,H2,I2,r2,q2⟩ =>
  thn (ho pins s2 σ H2 x y v u _ I2 r1 r2 q2) fun c s3 ⟨z,H3,I3,r3,k,e,q3⟩=>?_) hm
 subst e
 cases r3
 exact wpAny_truthy_bool ⟨H3,I3,q3⟩
def TruV (K:PySem.W.Frag) (x:V) (H:Hp) (k:Bool):Prop:=
 match x with
 | .non=>k=false
 | .bl b=>k=b
 | .int i=>k=(i != 0)
 | .str y=>y.length<=sizeLine/\k=((y.length:Int) != 0)
 | .byt y=>y.size<=sizeLine/\k=((y.size:Int) != 0)
 | .ref p=>(∃ xs,SqL K H p xs/\k = !xs.isEmpty)\/(∃ xs,SqT K H p xs/\k = !xs.isEmpty)\/∃ kvs,H p=some (.dK kvs)/\k = !kvs.isEmpty
 | _=>False
theorem qh1 {κ:Type} {kvs:List (κ×V)} {vs:List (κ×Value)} (r:KV kvs vs):(!vs.isEmpty) = !kvs.isEmpty:=by
 cases r <;> rfl
theorem qar {xs:List V} {its:List Value} (r:Vals xs its):(!its.toArray.isEmpty) = !xs.isEmpty:=by
 cases r <;> simp
theorem q77:(sizeLine:Nat)<2 ^ 63:=by rw [sizeLine_eq];decide
theorem tru_ok:TruR X (fun x H Q=>∃ k,TruV X.K x H k/\Q k H):=by
 intro pins s σ H x v Q I rx h
 obtain ⟨k,e,q⟩:=h
 have hl:=q77
 have hs:sizeLine=16777216:=sizeLine_eq
 cases x with
 | non =>
  cases rx
  have e':k=false:=e
  subst e'
  exact truthy_none ⟨H,I,q⟩
 | bl b =>
  cases rx
  have e':k=b:=e
  subst e'
  exact wpAny_truthy_bool ⟨H,I,q⟩
 | int i =>
  obtain ⟨t,rfl⟩:=rx
  have e':k=(i != 0):=e
  subst e'
  exact PySem.P.truthy_int ⟨H,I,q⟩
 | str y =>
  obtain ⟨t,rfl⟩:=rx
  obtain ⟨hy,e'⟩:y.length<=sizeLine/\k=((y.length:Int) != 0):=e
  subst e'
  exact PySem.P.truthy_str (by omega) ⟨H,I.tok _,q⟩
 | byt y =>
  obtain ⟨t,rfl⟩:=rx
  obtain ⟨hy,e'⟩:y.size<=sizeLine/\k=((y.size:Int) != 0):=e
  subst e'
  exact PySem.W.truthy_bytes (by omega) ⟨H,I.tok _,q⟩
 | ref p =>
  cases rx
  have e':(∃ xs,SqL X.K H p xs/\k = !xs.isEmpty)\/(∃ xs,SqT X.K H p xs/\k = !xs.isEmpty)\/∃ kvs,H p=some (.dK kvs)/\k = !kvs.isEmpty:=e
  rcases e' with ⟨xs,hx,e'⟩ | ⟨xs,hx,e'⟩ | ⟨kvs,hx,e'⟩
  ·subst e'
   obtain ⟨its,r,pl,hz⟩:=I.list hx
   have hlen:=r.length
   exact wpAny_truthy_list pl.isList (by simp only [List.size_toArray];omega) ⟨H,I.tok _,by rw [qar r];exact q⟩
  ·subst e'
   obtain ⟨its,r,pl,hz⟩:=I.tuple hx
   have hlen:=r.length
   exact truthy_tuple pl (by simp only [List.size_toArray];omega) ⟨H,I.tok _,by rw [qar r];exact q⟩
  ·subst e'
   obtain ⟨hz,hS,vs,r,m⟩:kvs.length<=sizeLine/\(p == sysModules)=false/\∃ vs,KV kvs vs/\s.heap.DictOf (q20 X.prog X.w) p vs:=I.hok p _ hx
   have hlen:kvs.length=vs.length:=Paired.length r
   exact wpAny_truthy_dict hS m (by omega) ⟨H,I.tok _,by rw [qh1 r];exact q⟩
 | _=>exact (show False from e).elim
theorem qke (ha:PE X a ta) (he:∀ whole,isTrue a X.env whole=(do let v <- whole;standAt a.pos;holding [v] (truthy v))) :
  PT X a (fun σ H Q=>ta σ H fun x H' => ∃ k,TruV X.K x H' k/\Q k H'):=by
 intro pins s σ H Q I h
 exact isTrue_plain (thn (ha pins s σ H _ I h) fun v s1 ⟨x,H1,I1,r1,q1⟩=>tru_ok pins s1 σ H1 x v Q I1 r1 q1) (he _)
theorem q3x:OpR X (binaryOp .Add) (fun x y H Q=>∃ i j,x=.str i/\y=.str j/\i.length+j.length<=sizeLine/\Q (.str (i++j)) H):=by
 intro pins s σ H x y v u Q I rx ry h
 obtain ⟨i,j,rfl,rfl,hz,q⟩:=h
 obtain ⟨t,rfl⟩:=rx
 obtain ⟨t',rfl⟩:=ry
 exact add_str (fun t' tk=>⟨.str (i++j),H,I.tok _,⟨_,rfl⟩,q⟩) hz
theorem vals1 {x:V} {us:List Value} (r:Vals [x] us):∃ u,us=[u]/\RelV x u:=by
 cases r with
 | cons r1 r2=>cases r2;exact ⟨_,rfl,r1⟩
theorem vals2 {x y:V} {us:List Value} (r:Vals [x,y] us):∃ u w',us=[u,w']/\RelV x u/\RelV y w':=by
 cases r with
 | cons r1 r2 =>
  cases r2 with
  | cons r3 r4=>cases r4;exact ⟨_,_,rfl,r1,r3⟩
theorem qiz (hc:X.calm=true):q2a X (.builtin "min") (fun xs H Q=>∃ i j,xs=[.int i, .int j]/\Q (.int (if j<i then j else i)) H):=by
 intro pins s σ H xs us Q I r h
 obtain ⟨i,j,rfl,q⟩:=h
 obtain ⟨u,w',rfl,⟨t,rfl⟩,⟨t',rfl⟩⟩:=vals2 r
 refine min_two_ints (I.ok.hd hc) fun h' tk k=>⟨_,H,I.kept k,?_,q⟩
 by_cases hj:j<i
 ·rw [if_pos hj,if_pos hj];exact ⟨_,rfl⟩
 ·rw [if_neg hj,if_neg hj];exact ⟨_,rfl⟩
theorem qeh:q2a X (.type "str") (fun xs H Q=>∃ i,xs=[.int i]/\i.natAbs.log2<1920/\Q (.str (toString i)) H):=by
 intro pins s σ H xs us Q I r h
 obtain ⟨i,rfl,hz,q⟩:=h
 obtain ⟨u,rfl,t,rfl⟩:=vals1 r
 exact PySem.P.str_of_int hz ⟨.str _,H,I.tok _,⟨_,rfl⟩,q⟩
end
end L2
namespace L2
open PySem PySem.Spec PyProof.Rows
structure ObjM (h:Heap) (x dx C:Addr) (mA:Str->Option Value):Prop where
 obj:h.get? x=some (PySem.W.instObj C dx)
 ns:h.Ns1 dx mA
 ne:dx≠x
theorem qi7 {h:Heap} {dx:Addr} {mA:Str->Option Value} (n:h.Ns1 dx mA):∃ od,h.get? dx=some od/\∀ name,PySem.W.lookIn name od=some (mA name):=by
 obtain ⟨o,es,ep,ho,hd,hk,_,hm⟩:=n
 refine ⟨o,ho,fun name=>?_⟩
 have e:=hm name
 unfold nsFind findBy at e
 rw [<- Array.find?_toList] at e
 unfold PySem.W.lookIn
 rw [hd]
 dsimp only
 split
 ·rename_i y q
  rw [q] at e
  exact congrArg some e
 ·rename_i q
  rw [q] at e
  have a:es.toList.any (·.refKey)=false:=by
   rw [List.any_eq_false]
   intro y hy
   obtain ⟨z,t,hkey⟩:=hk y (Array.mem_toList_iff.mp hy)
   simp [DictEntry.refKey,hkey]
  have a':¬ es.toList.any (·.refKey)=true:=by rw [a];exact Bool.false_ne_true
  rw [if_neg a']
  exact congrArg some e
theorem ObjM.look {h:Heap} {x dx C:Addr} {mA:Str->Option Value} (I:ObjM h x dx C mA):∃ od,PySem.W.InstAt h x (PySem.W.instObj C dx) C (some od)/\∀ name,PySem.W.lookIn name od=some (mA name):=
 let ⟨od,ho,hl⟩:=qi7 I.ns
 ⟨od,⟨I.obj,rfl,rfl,ho⟩,hl⟩
theorem RelO.some_of {v:V} {o:Option Value} (r:RelO (some v) o):∃ u,o=some u/\RelV v u:=by
 cases o with
 | none=>exact (show False from r).elim
 | some u=>exact ⟨u,rfl,r⟩
theorem RelO.none_of {o:Option Value} (r:RelO none o):o=none:=by
 cases o with
 | none=>rfl
 | some u=>exact (show False from r).elim
section
variable {P:Program} {w:World} {H H':Hp} {h h':Heap} {a C dx:Addr} {fs fs':List (Str×V)}
theorem qnk (hok:HOk P w H h) (e:H a=some (.ins C dx fs)):∃ mA,ObjM h a dx C mA/\(∀ f,RelO (fs.lookup f) (mA f))/\PySem.Within mA (fs.map (·.1))/\fs.length<=1000/\H dx=some (.own a):=by
 obtain ⟨d,z,ne,ob,mA,n,r,q⟩:=(show q1s P w H h a (.ins C dx fs) from hok a _ e)
 exact ⟨mA,⟨ob,n,ne⟩,r,q,z,d⟩
end
structure Cls (K:PySem.W.Frag) (C:Addr):Prop where
 pg:PySem.W.plainGet K C Str.empty=true
 hd:PySem.W.hasDictIn K C=true
 po:PySem.W.plainOver K C=true
 sa:PySem.W.findIn K (.ref C) "__setattr__" = some (some (.builtin "object.__setattr__"))
theorem Cls.get {K:PySem.W.Frag} {C:Addr} (c:Cls K C) (f:Str):PySem.W.plainGet K C f=true:=c.pg
def qib (K:PySem.W.Frag) (C:Addr) (f:Str):Prop:=PySem.W.findIn K (.ref C) f=some none
section
variable {X:Cx} {pins:List (Addr×Obj)} {σ:St} {H:Hp} {s:Shared} {A:Around} {E:Value->Shared->Prop} {Q:Value->Shared->Prop} {c:Value} {b:Bool}
inductive TyOf (K:PySem.W.Frag) (H:Hp):V->Value->Prop where
 | non:TyOf K H .non (.type "NoneType")
 | bl (x:Bool):TyOf K H (.bl x) (.type "bool")
 | int (i:Int):TyOf K H (.int i) (.type "int")
 | str (x:Str):TyOf K H (.str x) (.type "str")
 | flt (x:UInt64):TyOf K H (.flt x) (.type "float")
 | lst {a:Addr} {xs:List V} (e:H a=some (.lst xs)):TyOf K H (.ref a) (.type "list")
 | frz {a:Addr} {o:Obj} {xs:List V} (e:H a=some (.frz o (.lst xs))):TyOf K H (.ref a) (.type "list")
 | tup {a:Addr} {xs:List V} (e:H a=some (.tup xs)):TyOf K H (.ref a) (.type "tuple")
 | dK {a:Addr} {kvs:List (Key×V)} (e:H a=some (.dK kvs)):TyOf K H (.ref a) (.type "dict")
 | dT {a:Addr} {kvs:List (List Key×V)} (e:H a=some (.dT kvs)):TyOf K H (.ref a) (.type "dict")
 | ins {a C dx:Addr} {fs:List (Str×V)} (e:H a=some (.ins C dx fs)) (cl:Cls K C) (ha:PySem.W.findIn K (.ref C) "__class__" = some (some (.builtin "object.__class__")))
   (hn:PySem.W.specialIn K (.builtin "object.__class__") "__get__" = some (some (.builtin "getset_descriptor.__get__"))) (htk:PySem.W.takesIn K (.builtin "object.__class__")=some true)
   (hm:PySem.W.mroIn K C (.type "object")=some true):TyOf K H (.ref a) (.ref C)
end
end L2
namespace L2
open PySem PySem.Spec PyProof.Rows
structure Room (k:Nat) (A:Around):Prop where
 hd:A.handled=none
 dp:A.depth+3 * k+5<recursionLimit
 un:A.units+16 * k+200<cLine
theorem Room.mono {j k:Nat} {A:Around} (r:Room k A) (h:j<=k):Room j A:=⟨r.hd,by have:=r.dp;omega,by have:=r.un;omega⟩
theorem Room.q9 {j k:Nat} {A:Around} (r:Room k A) (h:j<=k:=by decide):Room j A:=r.mono h
theorem Room.deeper {k:Nat} {A:Around} (r:Room (k+1) A) (env:Env):Room k (A.deeper env):=
 ⟨r.hd,by have:=r.dp;show A.depth+1+3 * k+5<_;omega,by have:=r.un;show A.units+3+16 * k+200<_;omega⟩
theorem Room.depth {k:Nat} {A:Around} (r:Room k A):A.depth<recursionLimit:=by have:=r.dp;omega
theorem Room.units {k:Nat} {A:Around} (r:Room k A):A.units+64<cLine:=by have:=r.un;omega
def tNil:TA:=fun _ H Q=>Q [] H
def q3q (ta:TE) (tr:TA):TA:=fun σ H Q=>ta σ H fun x H1=>tr σ H1 fun xs H2=>Q (x::xs) H2
section
variable {X:Cx} {e:Expr} {es:List Expr} {te:TE} {t:TA} {pos:Pos}
theorem q07:PA X [] tNil:=fun _ _ _ _ H Q I h=>Calls.spliced_nil ⟨[],H,I, .nil,h⟩
theorem q04 (ha:PE X e te) (hr:PA X es t) (hs:starEach (e::es) X.env=(false,eval e X.env)::starEach es X.env:=by rfl):PA X (e::es) (q3q te t):=by
 intro pos pins s σ H Q I h
 rw [hs]
 show wpAny _ _ (spliced ((false,eval e X.env)::backTo pos (starEach es X.env))) _ _ s
 refine Calls.spliced_cons (thn (ha pins s σ H _ I h) fun u s1 ⟨x,H1,I1,r1,q1⟩=>?_)
 exact thn (hr pos pins s1 σ H1 _ I1 q1) fun us s2 ⟨xs,H2,I2,r2,q2⟩=>⟨x::xs,H2,I2, .cons r1 r2,q2⟩
def tTup (t:TA):TE:=fun σ H Q=>t σ H fun xs H1=>xs.length<=sizeLine/\∀ p,H1 p=none->Q (.ref p) (upd H1 p (.tup xs))
def tLst (t:TA):TE:=fun σ H Q=>t σ H fun xs H1=>xs.length<=sizeLine/\∀ p,H1 p=none->Q (.ref p) (upd H1 p (.lst xs))
theorem q1l {x1} (h:PA X es t):PE X (.Tuple es x1 pos) (tTup t):=by
 intro pins s σ H Q I hq
 refine wpAny_Tuple_spliced (thn (h pos pins s σ H _ I hq) fun us s1 ⟨xs,H1,I1,r,z,q⟩=>⟨by rw [<- r.length];exact z,?_⟩)
 have hf:H1 s1.heap.objs.size=none:=I1.hok.fresh (Nat.le_refl _)
 refine ⟨.ref s1.heap.objs.size,upd H1 s1.heap.objs.size (.tup xs),I1.laid (t':=s1.toks) (fun b u e=>Heap.get?_push_of_some _ e) (Nat.le_refl _) ?_,rfl,q _ hf⟩
 exact ⟨z,us,r,⟨_,Heap.get?_push_size _ rfl,rfl,_,rfl⟩⟩
theorem q2d (h:PA X es t):PE X (.List es pos) (tLst t):=by
 intro pins s σ H Q I hq
 refine wpAny_List_spliced (thn (h pos pins s σ H _ I hq) fun us s1 ⟨xs,H1,I1,r,z,q⟩=>⟨by rw [<- r.length];exact z,?_⟩)
 have hf:H1 s1.heap.objs.size=none:=I1.hok.fresh (Nat.le_refl _)
 refine ⟨.ref s1.heap.objs.size,upd H1 s1.heap.objs.size (.lst xs),I1.laid (t':=s1.toks) (fun b u e=>Heap.get?_push_of_some _ e) (Nat.le_refl _) ?_,rfl,q _ hf⟩
 exact ⟨z,us,0,r,Heap.get?_push_size _ rfl⟩
end
abbrev Sp:=List V->Hp->VK->XK->Prop
abbrev CXT:=List Env->Hp->Shared->XK->Value->Shared->Prop
structure Env0 (P:Program) (w:World) (K:PySem.W.Frag) (mg:Str->Option Value) (base:Heap) (A:Around) (outer:List Env) (s:Shared) (H:Hp):Prop where
 frames:A.frames=some outer
 mod:Mod K mg base
 bs:∀ b o,base.get? b=some o->s.heap.get? b=some o/\H b=none
 bsz:base.objs.size<=s.heap.objs.size
 funs:s.heap.FunFrames base outer
 frf:∀ b∈frs outer,H b=none
 hok:HOk P w H s.heap
 bare:AllBare s.gens
def CE (outer:List Env) (P:Program) (w:World) (H:Hp) (s:Shared) (Q:VK) (u:Value) (s':Shared):Prop:=
 ∃ v H',s'.os=s.os/\AllBare s'.gens/\Un (frs outer) [] H H' s.heap s'.heap/\HOk P w H' s'.heap/\RelV v u/\Q v H'
def CR (CX:CXT) (outer:List Env) (P:Program) (w:World) (H:Hp) (s:Shared) (Q:VK) (E:XK) (r:Result) (s':Shared):Prop:=
 match r with
 | .ok (.ret u)=>CE outer P w H s Q u s'
 | .ok _=>False
 | .error e=>CX outer H s E e s'
structure FnOk (P:Program) (w:World) (K:PySem.W.Frag) (mg:Str->Option Value) (base:Heap) (CX:CXT) (k:Nat) (f:Addr) (fd:FuncData) (ps:List Str) (sp:Sp):Prop where
 len:∀ vs H Q E,sp vs H Q E->vs.length=ps.length
 run:∀ (A:Around) (outer:List Env) (s:Shared) (H:Hp) (args:Args) (us:List Value) (vs:List V) (Q:VK) (E:XK),Room k A->Env0 P w K mg base A outer s H->BindsTo s fd args (ps.zip us)->Vals vs us->sp vs H Q E ->
  codeAny (model P w) A (.call (.ref f) args) (CR CX outer P w H s Q E) s
theorem FnOk.imp {P:Program} {w:World} {K:PySem.W.Frag} {mg:Str->Option Value} {base:Heap} {CX:CXT} {k:Nat} {f:Addr} {fd:FuncData} {ps:List Str} {sp sp':Sp} (F:FnOk P w K mg base CX k f fd ps sp)
  (h:∀ vs H Q E,sp' vs H Q E->sp vs H Q E):FnOk P w K mg base CX k f fd ps sp':=
 ⟨fun vs H Q E q=>F.len vs H Q E (h _ _ _ _ q),fun A outer s H args us vs Q E hr he hb hv hs=>F.run A outer s H args us vs Q E hr he hb hv (h _ _ _ _ hs)⟩
section
variable {X:Cx} {pins:List (Addr×Obj)} {σ:St} {H:Hp} {s s':Shared}
theorem Inv.env0 (I:Inv X pins σ H s):Env0 X.prog X.w X.K X.mg X.base X.A X.stack s H:=
 ⟨I.ok.frames,I.ok.mod,I.bs,Nat.le_trans I.ok.bsz I.sz,I.stack,I.qgn,I.hok,I.bare⟩
theorem Inv.after {Q:VK} {u:Value} (I:Inv X pins σ H s) (h:CE X.stack X.prog X.w H s Q u s'):EP X pins σ Q u s':=by
 obtain ⟨v,H',os,bare,un,hok,r,q⟩:=h
 obtain ⟨hh,g,d,t,os'⟩:=s'
 obtain rfl:os'=s.os:=os
 exact ⟨v,H',I.call (h':=hh) (g':=g) (d':=d) (t':=t) (ch:=[]) un hok bare (fun b z=>absurd z (by simp)),r,q⟩
end
def tCall (sp:Sp) (dvs:List V) (E:XK) (t:TA):TE:=fun σ H Q=>t σ H fun vs H1=>sp (vs++dvs) H1 Q E
def Binds (K:PySem.W.Frag) (fd:FuncData) (ps:List Str) (ds:List Value):Prop:=
 ∀ (s:Shared) (us:List Value),K.In s.heap->(us++ds).length=ps.length->BindsTo s fd ⟨us,[]⟩ (ps.zip (us++ds))
theorem Binds.all {K:PySem.W.Frag} {fd:FuncData} {ps:List Str} (h:∀ us:List Value,us.length=ps.length->bindArgs fd ⟨us,[]⟩=pure (ps.zip us)):Binds K fd ps []:=fun s us _ hl=>by
 rw [List.append_nil] at hl ⊢
 exact .of_eq (h us hl)
def Passes (CX:CXT) (X:Cx) (E:XK):Prop:=∀ (pins:List (Addr×Obj)) (σ:St) (H:Hp) (s:Shared) (e:Value) (s':Shared),Inv X pins σ H s->CX X.stack H s E e s'->X.xe e s'
section
variable {X:Cx} {CX:CXT} {k:Nat} {f C:Addr} {fd:FuncData} {ps:List Str} {sp:Sp} {dvs:List V} {ds:List Value} {E:XK} {x m:Str} {p pos apos:Pos} {e o:Expr} {es:List Expr} {ta:TE} {t:TA}
theorem run_fn {pins:List (Addr×Obj)} {σ:St} {H:Hp} {s:Shared} {Q:VK} {us:List Value} {vs:List V} (F:FnOk X.prog X.w X.K X.mg X.base CX k f fd ps sp) (hr:Room k X.A) (hb:Binds X.K fd ps ds) (hd:Vals dvs ds) (hx:Passes CX X E)
  (I:Inv X pins σ H s) (r:Vals vs us) (h:sp (vs++dvs) H Q E):wpAny (model X.prog X.w) X.A (call (.ref f) us) (EP X pins σ Q) X.xe s:=by
 have r2:Vals (vs++dvs) (us++ds):=r.append hd
 have hl:(us++ds).length=ps.length:=by rw [<- r2.length];exact F.len _ _ _ _ h
 refine wpAny_call (codeAny_mono (F.run X.A X.stack s H ⟨us,[]⟩ (us++ds) (vs++dvs) Q E hr I.env0 (hb s us I.kIn hl) r2 h) fun r s' hq=>?_)
 cases r with
 | error e=>exact hx pins σ H s e s' I hq
 | ok fl =>
  cases fl with
  | ret u=>exact I.after hq
  | next=>exact False.elim hq
  | brk=>exact False.elim hq
  | cont=>exact False.elim hq
theorem q1a (F:FnOk X.prog X.w X.K X.mg X.base CX k f fd ps sp) (hr:Room k X.A) (hg:Gl X x) (hm:X.mg x=some (.ref f)) (hk:PySem.W.keepIn X.K (.ref f)=true) (hb:Binds X.K fd ps ds) (hd:Vals dvs ds) (hx:Passes CX X E)
  (ha:PA X (e::es) t) (hdb:(x == ("__debug__" : Str))=false:=by decide) (he:starEach (e::es) X.env=(false,eval e X.env)::starEach es X.env:=by rfl) (hpl:(backTo pos (starEach es X.env)).any (·.1)=false:=by rfl) :
  PE X (.Call (.Name x p) (e::es) [] pos) (tCall sp dvs E t):=by
 intro pins s σ H Q I h
 refine wpAny_Call_Name_kw (qmj I hg hm ?_ hdb)
 refine PySem.W.callWith_K (h₀:=X.base) I.ok.mod.kin hk (thn (ha pos pins s σ H _ I h) fun us s1 ⟨vs,H1,I1,r,q⟩=>⟨I1.kIn,?_⟩) he hpl
 exact run_fn F hr hb hd hx I1 r q
end
structure q1r (N P:List Str) (sc:Scope):Prop where
 kind:sc.kind=.function
 co:sc.isCoroutine=false
 gen:sc.isGenerator=false
 nd:N.Nodup
 pre:N.take P.length=P
 par:∀ x∈P,sc.names.lookup x=some .local\/sc.names.lookup x=some .cell
 nofree:∀ y∈sc.names,y.2≠.free
theorem qcq {kindOf:Str->Option NameKind} {x:Str}:∀ {binds:List (Str×Value)} {m:Str->Option Value},(∀ v,(x,v)∉binds)->bindL kindOf binds m x=m x
 | [],_,_=>rfl
 | (n,v)::r,m,h=>by
  unfold bindL
  rw [qcq fun w hw=>h w (List.mem_cons_of_mem _ hw)]
  split
  ·have:x≠n:=by rintro rfl;exact h v List.mem_cons_self
   simp [this]
  ·rfl
theorem qce {kindOf:Str->Option NameKind} {x:Str}:∀ {binds:List (Str×Value)} {m:Str->Option Value},(∀ v,(x,v)∉binds)->bindC kindOf binds m x=m x
 | [],_,_=>rfl
 | (n,v)::r,m,h=>by
  unfold bindC
  rw [qce fun w hw=>h w (List.mem_cons_of_mem _ hw)]
  split
  ·rfl
  ·have:x≠n:=by rintro rfl;exact h v List.mem_cons_self
   simp [this]
theorem qbw {kindOf:Str->Option NameKind} {x:Str} {v:Value}:∀ {P:List Str} {vs:List Value} {i:Nat} {m:Str->Option Value},P.Nodup->P[i]?=some x->vs[i]?=some v->kindOf x=some .local ->
  bindL kindOf (P.zip vs) m x=some v
 | [],_,_,_,_,h,_,_=>by simp at h
 | _::_,[],_,_,_,_,h,_=>by simp at h
 | p::P,w::vs,0,m,nd,h1,h2,hk=>by
  simp at h1 h2;subst h1;subst h2
  show bindL kindOf ((p,w)::P.zip vs) m p=_
  unfold bindL
  rw [qcq fun v hv=>(List.nodup_cons.mp nd).1 (List.of_mem_zip hv).1,if_pos hk]
  simp
 | p::P,w::vs,i+1,m,nd,h1,h2,hk=>by
  show bindL kindOf ((p,w)::P.zip vs) m x=_
  unfold bindL
  exact qbw (i:=i) (List.nodup_cons.mp nd).2 (by simpa using h1) (by simpa using h2) hk
theorem qc3 {kindOf:Str->Option NameKind} {x:Str} {v:Value}:∀ {P:List Str} {vs:List Value} {i:Nat} {m:Str->Option Value},P.Nodup->P[i]?=some x->vs[i]?=some v->kindOf x≠some .local ->
  bindC kindOf (P.zip vs) m x=some v
 | [],_,_,_,_,h,_,_=>by simp at h
 | _::_,[],_,_,_,_,h,_=>by simp at h
 | p::P,w::vs,0,m,nd,h1,h2,hk=>by
  simp at h1 h2;subst h1;subst h2
  show bindC kindOf ((p,w)::P.zip vs) m p=_
  unfold bindC
  rw [qce fun v hv=>(List.nodup_cons.mp nd).1 (List.of_mem_zip hv).1,if_neg hk]
  simp
 | p::P,w::vs,i+1,m,nd,h1,h2,hk=>by
  show bindC kindOf ((p,w)::P.zip vs) m x=_
  unfold bindC
  exact qc3 (i:=i) (List.nodup_cons.mp nd).2 (by simpa using h1) (by simpa using h2) hk
def start (N:List Str) (vs:List V):St:=vs.map some++List.replicate (N.length - vs.length) none
def cxOf (CX:CXT) (P:Program) (w:World) (K:PySem.W.Frag) (mg:Str->Option Value) (base:Heap) (N:List Str) (qual:Str) (scope:Scope) (f:Addr) (cd:Value) (A:Around) (outer:List Env) (s:Shared) (H:Hp) (E:XK):Cx where
 prog:=P
 w:=w
 K:=K
 mg:=mg
 base:=base
 A:=A.deeper (envOfC qual scope s.heap.objs.size f cd)
 N:=N
 s₀:=s
 H₀:=H
 env:=envOfC qual scope s.heap.objs.size f cd
 outer:=outer
 stack:=envOfC qual scope s.heap.objs.size f cd::outer
 ex:=[]
 calm:=true
 fn:=fun _=>true
 pn:=[]
 xe:=fun e s' => wpAny (model P w) (A.deeper (envOfC qual scope s.heap.objs.size f cd)) (leaving (envOfC qual scope s.heap.objs.size f cd) e) (fun _ s'' => CX outer H s E e s'') (fun e' s'' => CX outer H s E e' s'') s'
theorem qdi {sc:Scope} {n:Nat} {x:Str} (h:sc.names.lookup x=some .cell):∃ c,(cellsFrom n sc.names []).lookup x=some c:=by
 have q:=PySem.W.cellsFrom_some sc.names n [] (.inl h)
 exact Option.isSome_iff_exists.mp q
theorem qj0 {CX:CXT} {P:Program} {w:World} {K:PySem.W.Frag} {mg:Str->Option Value} {base:Heap} {N ps:List Str} {qual:Str} {scope:Scope} {f:Addr} {cd:Value} {A:Around} {outer:List Env} {s s1:Shared} {H:Hp} {E:XK} {us:List Value} {vs:List V}
  (S:q1r N ps scope) (hd:A.handled=none) (e0:Env0 P w K mg base A outer s H) (hl:vs.length=ps.length) (r:Vals vs us)
  (x:InCallC s s.heap.objs.size (bindL (envOfC qual scope s.heap.objs.size f cd).kindOf (ps.zip us) fun _=>none) (cellsFrom (s.heap.objs.size+1) scope.names []) (bindC (envOfC qual scope s.heap.objs.size f cd).kindOf (ps.zip us) fun _=>none) s1) :
  Inv (cxOf CX P w K mg base N qual scope f cd A outer s H E) [] (start N vs) H s1:=by
 have hpl:ps.length<=N.length:=by have:=congrArg List.length S.pre;rw [List.length_take] at this;omega
 obtain ⟨h1,tk,rfl,hk⟩:=x.done
 have noA:∀ b:Addr,b∉(cxOf CX P w K mg base N qual scope f cd A outer s H E).ex:=fun b z=>absurd (show b∈([]:List Addr) from z) (by simp)
 refine ⟨⟨e0.mod,S.kind,rfl,rfl,Nat.le_refl _,fun y z c h1 h2=>?_,fun y hy=>?_,fun y c _ h=>?_,fun _=>hd,Around.frames_deeper e0.frames, .inr ⟨rfl,rfl⟩,fun b z=>absurd z (noA b),e0.bs,e0.bsz,fun b _ _=>noA b,fun b z=>absurd z (noA b),e0.funs,e0.frf⟩,
  rfl,e0.bare,Un.kept hk,⟨_,x.toInCall.ns,fun i y v h1 h2 h3=>?_⟩,fun y c h=>⟨_,x.cell y c h⟩,e0.hok.fresh (Nat.le_refl _),fun y c h=>?_,fun p hp=>absurd (show p∈([]:List (Addr×Obj)) from hp) (by simp),e0.hok.kept hk,?_⟩
 ·exact name_of_addr x.apart (PySem.mem_of_lookup h1) (PySem.mem_of_lookup h2)
 ·have hy:scope.names.lookup y=some .cell\/scope.names.lookup y=some .free:=hy
  rcases hy with hy | hy
  ·exact qdi hy
  ·exact absurd rfl (S.nofree _ (PySem.mem_of_lookup hy))
 ·exact Nat.le_of_lt (x.above y c (PySem.mem_of_lookup h))
 ·have hi:i<vs.length:=by
   unfold start at h2
   by_cases hi:i<vs.length
   ·exact hi
   ·rw [List.getElem?_append_right (by simpa using hi)] at h2
    rw [List.getElem?_replicate] at h2
    split at h2 <;> cases h2
  have ha:vs[i]?=some v:=by
   unfold start at h2
   rw [List.getElem?_append_left (by simpa using hi),List.getElem?_map] at h2
   cases e:vs[i]? with
   | none=>rw [e] at h2;cases h2
   | some a=>rw [e] at h2;cases h2;rfl
  obtain ⟨u,hu,rv⟩:=r.get ha
  have hp:ps[i]?=some y:=by
   rw [<- S.pre,List.getElem?_take_of_lt (by omega)];exact h1
  have ndP:ps.Nodup:=by rw [<- S.pre];exact S.nd.sublist (List.take_sublist _ _)
  refine ⟨u,rv,?_⟩
  rcases S.par y (List.mem_of_getElem? hp) with k | k
  ·exact .inl ⟨k,qbw ndP hp hu k⟩
  ·obtain ⟨c,e⟩:=qdi (n:=s.heap.objs.size+1) k
   refine .inr ⟨.inl k,c,e,?_⟩
   have q:=x.cell y c e
   rw [qc3 ndP hp hu (by show scope.names.lookup y≠_;rw [k];decide)] at q
   exact q
 ·exact e0.hok.fresh (Nat.le_of_lt (x.above y c (PySem.mem_of_lookup h)))
 ·unfold start
  show _=N.length
  rw [List.length_append,List.length_map,List.length_replicate]
  omega
theorem fn_of {CX:CXT} {P:Program} {w:World} {K:PySem.W.Frag} {mg:Str->Option Value} {base:Heap} {k:Nat} {f:Addr} {name qual:Str} {params:Arguments} {body:List Stmt} {scope:Scope} {dV kV doc pm cdv ct oc:Value} {an od:Option Addr}
  {osl:Array (Option Value)} {N ps:List Str} {sp:Sp} (lk:K.lookup f=some ⟨oc,od, .func (PySem.W.fnOf name qual params body scope dV kV doc pm an cdv ct),osl⟩) (hcd:PySem.W.codeIn K cdv qual=true) (S:q1r N ps scope)
  (len:∀ vs H Q E,sp vs H Q E->vs.length=ps.length)
  (hbody:∀ (A:Around) (outer:List Env) (s:Shared) (H:Hp) (vs:List V) (Q:VK) (E:XK),Room k (A.deeper (envOfC qual scope s.heap.objs.size f cdv))->sp vs H Q E ->
   ∃ t,PSs (cxOf CX P w K mg base N qual scope f cdv A outer s H E) body t/\t {nx:=fun _ H' => Q .non H',rt:=Q} (start N vs) H) :
  FnOk P w K mg base CX (k+1) f (PySem.W.fnOf name qual params body scope dV kV doc pm an cdv ct) ps sp:=by
 refine ⟨len,fun A outer s H args us vs Q E hr e0 hb r hsp=>?_⟩
 have hl:=len _ _ _ _ hsp
 have KX:K.In s.heap:=e0.mod.kin.keeps fun b o e=>(e0.bs b o e).1
 have lim:s.heap.NoLimit:=e0.mod.nolimit.keeps fun b o e=>(e0.bs b o e).1
 have hkind:∀ y∈ps.zip us,scope.names.lookup y.1=some .local\/(scope.names.lookup y.1=some .cell/\((cellsFrom (s.heap.objs.size+1) scope.names []).lookup y.1).isSome=true):=fun ⟨n,v⟩ hy=>by
  rcases S.par n (List.of_mem_zip hy).1 with q | q
  ·exact .inl q
  ·exact .inr ⟨q,PySem.W.cellsFrom_some _ _ _ (.inl q)⟩
 refine codeAny_call_function hr.depth (KX _ _ lk) rfl S.co S.gen rfl (PySem.W.codeRec_of KX hcd) (hb _ _ _ _ ?_)
 refine wpAny_newFunctionEnv_cells S.kind hkind fun env he s1 x=>?_
 subst he
 refine ⟨lim.keeps x.toInCall.keep,codeAny_func ?_⟩
 obtain ⟨t,ht,hq⟩:=hbody A outer s H vs Q E (hr.deeper _) hsp
 have I:Inv (cxOf CX P w K mg base N qual scope f cdv A outer s H E) [] (start N vs) H s1:=qj0 S hr.hd e0 hl r x
 refine wpAny_mono (ht [] s1 (start N vs) H _ I hq) (fun fl s' hs=>?_) fun e s' hs=>hs
 have fin:∀ {σ':St} {H':Hp} {v:V} {u:Value},Inv (cxOf CX P w K mg base N qual scope f cdv A outer s H E) [] σ' H' s'->RelV v u->Q v H'->CE outer P w H s Q u s':=
  fun {σ' H' v u} J rv q=>⟨v,H',J.os,J.bare,J.base,J.hok,rv,q⟩
 cases fl with
 | ret u =>
  obtain ⟨v, σ',H',J,rv,q⟩:=hs
  exact fin J rv q
 | next =>
  obtain ⟨σ',H',J,q⟩:=hs
  exact fin (v:=V.non) (u:=Value.none) J rfl q
 | brk =>
  obtain ⟨_,_,_,q⟩:=hs
  exact False.elim q
 | cont =>
  obtain ⟨_,_,_,q⟩:=hs
  exact False.elim q
end L2
namespace L2
open PySem PySem.Spec PyProof.Rows
section
variable {X:Cx} {x:Str} {p pos:Pos} {e:Expr} {es:List Expr} {t:TA} {id T:String} {r:List V->Hp->VK->Prop}
def tCB (r:List V->Hp->VK->Prop) (t:TA):TE:=fun σ H Q=>t σ H fun vs H1=>r vs H1 Q
theorem q0s (hc:q2a X (.builtin id) r) (hg:Gl X x) (hm:X.mg x=none) (hv:bootBuiltins x=some (.builtin id)) (ha:PA X (e::es) t) (hn:x ≠ "__name__":=by decide) (hdb:(x == ("__debug__" : Str))=false:=by decide)
  (he:starEach (e::es) X.env=(false,eval e X.env)::starEach es X.env:=by rfl) (hpl:(backTo pos (starEach es X.env)).any (·.1)=false:=by rfl):PE X (.Call (.Name x p) (e::es) [] pos) (tCB r t):=by
 intro pins s σ H Q I h
 refine wpAny_Call_Name_kw (q71 I hg hm hv ?_ hn hdb)
 exact PyProof.Rows.callWith_builtin1 (thn (ha pos pins s σ H _ I h) fun us s1 ⟨vs,H1,I1,r1,q1⟩=>hc pins s1 σ H1 vs us Q I1 r1 q1) he hpl
theorem q38 (hc:q2a X (.type T) r) (hg:Gl X x) (hm:X.mg x=none) (hv:bootBuiltins x=some (.type T)) (ha:PA X (e::es) t) (hn:x ≠ "__name__":=by decide) (hdb:(x == ("__debug__" : Str))=false:=by decide)
  (he:starEach (e::es) X.env=(false,eval e X.env)::starEach es X.env:=by rfl) (hpl:(backTo pos (starEach es X.env)).any (·.1)=false:=by rfl):PE X (.Call (.Name x p) (e::es) [] pos) (tCB r t):=by
 intro pins s σ H Q I h
 refine wpAny_Call_Name_kw (q71 I hg hm hv ?_ hn hdb)
 exact PyProof.Rows.callWith_type1 (thn (ha pos pins s σ H _ I h) fun us s1 ⟨vs,H1,I1,r1,q1⟩=>hc pins s1 σ H1 vs us Q I1 r1 q1) he hpl
end
end L2
namespace HT
open PySem PyProof.Rows
section
variable {prog:Program} {w:World} {A:Around} {E:Value->Shared->Prop} {s:Shared}
def sIx (n d:Nat):Option Int->Nat
 | none=>d
 | some v=>if v<0 then (v+(n:Int)).toNat else min v.toNat n
theorem qbl (n d k:Nat):sIx n d (some (k:Int))=min k n:=by
 show (if (k:Int)<0 then ((k:Int)+(n:Int)).toNat else min (k:Int).toNat n)=min k n
 rw [if_neg (by omega),Int.toNat_natCast]
theorem sIx_le (n d:Nat) (hd:d<=n) (o:Option Int):sIx n d o<=n:=by
 cases o with
 | none=>exact hd
 | some v =>
  show (if v<0 then (v+(n:Int)).toNat else min v.toNat n)<=n
  by_cases hv:v<0
  ·rw [if_pos hv];omega
  ·rw [if_neg hv];exact Nat.min_le_right _ _
theorem qfq (v:Int) (n d:Nat):(if v<0 then max (v+(n:Int)) 0 else min v (n:Int))=((sIx n d (some v):Nat):Int):=by
 show (if v<0 then max (v+(n:Int)) 0 else min v (n:Int))=(((if v<0 then (v+(n:Int)).toNat else min v.toNat n):Nat):Int)
 by_cases hv:v<0
 ·simp only [if_pos hv];omega
 ·simp only [if_neg hv];omega
theorem qh7 (lo hi:Option Int) (n:Nat):Builtin.Slice.sliceAdjust lo hi 1 (n:Int)=(((sIx n 0 lo:Nat):Int),((sIx n n hi:Nat):Int)):=by
 have h1:¬ ((1:Int)<0):=by omega
 unfold Builtin.Slice.sliceAdjust
 simp only [h1,if_false]
 refine Prod.ext ?_ ?_
 ·cases lo with
  | none=>rfl
  | some v=>exact qfq v n 0
 ·cases hi with
  | none=>rfl
  | some v=>exact qfq v n n
theorem qhe (i j:Nat):Builtin.Slice.slicePlaces (i:Int) (j:Int) 1=j - i:=by
 unfold Builtin.Slice.slicePlaces
 have h1:(1:Int) > 0:=by omega
 simp only [h1,if_true,Int.ediv_one]
 split <;> omega
theorem qay {v:Value} {o:Option Int} {Q:Option Int->Shared->Prop} (p:IsPart v o) (h:Q o s):wpAny (model prog w) A (Builtin.Slice.slicePartIndex v) Q E s:=by
 cases p with
 | none=>exact slicePart_none h
 | int i t=>exact slicePart_int h
theorem q9b {sl:Addr} {vl vu:Value} {lo hi:Option Int} {n:Nat} {Q:Int×Int×Nat->Shared->Prop} (hs:s.heap.IsSliceOf sl vl vu .none) (pl:IsPart vl lo) (pu:IsPart vu hi)
  (h:Q (((sIx n 0 lo:Nat):Int),1,sIx n n hi - sIx n 0 lo) s):wpAny (model prog w) A (Builtin.Slice.sliceApplied (.ref sl) (pure (n:Int))) Q E s:=by
 obtain ⟨os,hos,hcs,hds⟩:=id hs
 unfold Builtin.Slice.sliceApplied Builtin.Slice.sliceFields
 refine wpAny_bind (wpAny_bind (wpAny_field hos hds (x:=vl) rfl (wpAny_bind (wpAny_field hos hds (x:=vu) rfl (wpAny_bind (wpAny_field hos hds (x:=.none) rfl (wpAny_pure ?_)))))))
 refine wpAny_bind (slicePart_none ?_)
 show wpAny _ _ (if ((1:Int) == 0)=true then _ else _) _ _ s
 rw [if_neg (by decide)]
 refine wpAny_bind (qay pl (wpAny_bind (qay pu (wpAny_bind (wpAny_pure ?_)))))
 show wpAny _ _ (match Builtin.Slice.sliceAdjust lo hi 1 (n:Int) with | (lo,hi)=>pure (lo,(1:Int),Builtin.Slice.slicePlaces lo hi 1)) _ _ s
 rw [qh7 lo hi n]
 show wpAny _ _ (pure (((sIx n 0 lo:Nat):Int),(1:Int),Builtin.Slice.slicePlaces ((sIx n 0 lo:Nat):Int) ((sIx n n hi:Nat):Int) 1)) _ _ s
 rw [qhe]
 exact wpAny_pure h
theorem qkk (xs:Array Value) (i k:Nat):((List.range k).filterMap fun (m:Nat)=>xs[((i:Int)+(m:Int) * 1).toNat]?).toArray=((xs.toList.drop i).take k).toArray:=by
 have e:(fun (m:Nat)=>xs[((i:Int)+(m:Int) * 1).toNat]?)=fun m=>xs[i+m]?:=by
  funext m
  have:((i:Int)+(m:Int) * 1).toNat=i+m:=by omega
  rw [this]
 rw [e]
 have:=pick_run xs i k
 rw [List.filterMap_map] at this
 have e2:((fun x=>xs[x]?) ∘ fun x=>i+x)=fun m=>xs[i+m]?:=rfl
 rw [e2] at this
 rw [this]
theorem q8x {t sl:Addr} {items:Array Value} {vl vu:Value} {lo hi:Option Int} {Q:Value->Shared->Prop} (ht:IsTup s.heap t items) (hs:s.heap.IsSliceOf sl vl vu .none) (pl:IsPart vl lo) (pu:IsPart vu hi)
  (hw:¬ (sIx items.size 0 lo=0/\sIx items.size items.size hi=items.size))
  (h:Q (.ref s.heap.objs.size) {s with heap:=s.heap.push {cls:=.type "tuple",data:=.seq ((items.toList.drop (sIx items.size 0 lo)).take (sIx items.size items.size hi - sIx items.size 0 lo)).toArray}})
  (hsz:items.size<=sizeLine):wpAny (model prog w) A (getItem (.ref t) (.ref sl)) Q E s:=by
 have htake:sizeOk (.seq ((items.toList.drop (sIx items.size 0 lo)).take (sIx items.size items.size hi - sIx items.size 0 lo)).toArray):=by
  show ((items.toList.drop (sIx items.size 0 lo)).take (sIx items.size items.size hi - sIx items.size 0 lo)).toArray.size<=sizeLine
  rw [List.size_toArray,List.length_take,List.length_drop,Array.length_toList]
  omega
 have hj:sIx items.size items.size hi<=items.size:=sIx_le _ _ (Nat.le_refl _) hi
 obtain ⟨os,hos,hcs,hds⟩:=id hs
 have hTs:s.TypeIs (.ref sl) "slice":=⟨os,hos,hcs⟩
 unfold getItem
 try with_reducible refine wpAny_holding ?_
 first | refine wpAny_bind (wpAny_pure ?_) | skip
 refine wpAny_bind (wpAny_sequenceKey ht.typeIs (by decide) ?_)
 refine wpAny_bind (wpAny_callSpecial?_slot (name:=Str.ofString "__getitem__") ht.typeIs PyProof.Rows.slot_tuple_getitem
  (wpAny_call_entry PyProof.Rows.slot_tuple_getitem ht.typeIs entry_tuple_getitem ?_ (args_tuple_getitem _ _)))
 show wpAny _ _ (Builtin.Tuple.tupleItemsOf (.ref t) >>= _) _ _ s
 refine wpAny_bind (tupleItemsOf_ ht ?_)
 refine wpAny_bind (wpAny_typeOf hTs ?_)
 rw [if_pos (by decide)]
 refine wpAny_bind (q9b hs pl pu ?_)
 have hno:¬ ((((sIx items.size 0 lo:Nat):Int) == 0 && (1:Int) == 1 && (sIx items.size items.size hi - sIx items.size 0 lo) == items.size)=true):=by
  intro q
  rw [Bool.and_eq_true,Bool.and_eq_true] at q
  have q1:((sIx items.size 0 lo:Nat):Int)=0:=eq_of_beq q.1.1
  have q2:sIx items.size items.size hi - sIx items.size 0 lo=items.size:=eq_of_beq q.2
  exact hw ⟨by omega,by omega⟩
 show wpAny _ _ (if (((sIx items.size 0 lo:Nat):Int) == 0 && (1:Int) == 1 && (sIx items.size items.size hi - sIx items.size 0 lo) == items.size)=true then _ else _) _ _ s
 rw [if_neg hno,qkk]
 first
  | exact wpAny_bind (m:=Builtin.Tuple.tupleExact _) (wpAny_newObj_type (wpAny_pure ⟨_,rfl,wpAny_pure h⟩) htake)
  | exact wpAny_bind (m:=Builtin.Tuple.tupleExact _) (wpAny_newObj_type (wpAny_bind (wpAny_pure (wpAny_pure ⟨_,rfl,wpAny_pure h⟩))) htake)
  | exact wpAny_bind (wpAny_bind (m:=Builtin.Tuple.tupleExact _) (wpAny_newObj_type (wpAny_pure (wpAny_pure ⟨_,rfl,wpAny_pure h⟩)) htake))
  | exact wpAny_bind (wpAny_bind (m:=Builtin.Tuple.tupleExact _) (wpAny_newObj_type (wpAny_pure ⟨_,rfl,wpAny_pure h⟩) htake))
end
end HT
namespace L2
open PySem PySem.Spec PyProof.Rows
abbrev TO:=St->Hp->(Option Int->Hp->Prop)->Prop
def PO (X:Cx) (e:Option Expr) (t:TO):Prop:=
 ∀ (pins:List (Addr×Obj)) (s:Shared) (σ:St) (H:Hp) (Q:Option Int->Hp->Prop),Inv X pins σ H s->t σ H Q ->
  wpAny (model X.prog X.w) X.A (evalPart e X.env) (fun u s' => ∃ o H',Inv X pins σ H' s'/\IsPart u o/\Q o H') X.xe s
def qg6:TO:=fun _ H Q=>Q none H
def tPart (t:TE):TO:=fun σ H Q=>t σ H fun x H1=>∃ i,x=.int i/\Q (some i) H1
section
variable {X:Cx} {e:Expr} {te:TE} {lo hi:Option Expr} {tl th:TO} {pos p2:Pos}
theorem q6v:PO X none qg6:=by
 intro pins s σ H Q I h
 rw [evalPart_none]
 exact wpAny_pure ⟨none,H,I, .none,h⟩
theorem q5e (h:PE X e te):PO X (some e) (tPart te):=by
 intro pins s σ H Q I hw
 rw [evalPart_some]
 refine thn (h pins s σ H _ I hw) fun u s1 ⟨x,H1,I1,r1,q1⟩=>?_
 obtain ⟨i,rfl,q⟩:=q1
 obtain ⟨t,rfl⟩:=r1
 exact ⟨some i,H1,I1, .int i t,q⟩
def SlR (X:Cx) (r:V->Option Int->Option Int->Hp->VK->Prop):Prop:=
 ∀ (pins:List (Addr×Obj)) (s:Shared) (σ:St) (H:Hp) (x:V) (v vl vu:Value) (lo hi:Option Int) (sl:Addr) (Q:VK),Inv X pins σ H s->RelV x v->s.heap.IsSliceOf sl vl vu .none->IsPart vl lo->IsPart vu hi->r x lo hi H Q ->
  ∃ T id,typeLookup (.type T) "__getitem__" = pure (some (.builtin id))/\s.TypeIs v T/\wpAny (model X.prog X.w) X.A (getItem v (.ref sl)) (EP X pins σ Q) X.xe s
def tSl (r:V->Option Int->Option Int->Hp->VK->Prop) (te:TE) (tl th:TO):TE:=fun σ H Q=>te σ H fun x H1=>tl σ H1 fun l H2=>th σ H2 fun u H3=>r x l u H3 Q
theorem q5a {r:V->Option Int->Option Int->Hp->VK->Prop} (hr:SlR X r) (he:PE X e te) (hl:PO X lo tl) (hu:PO X hi th):PE X (.Subscript e (.Slice lo hi none p2) pos) (tSl r te tl th):=by
 intro pins s σ H Q I h
 refine Subscript_ (thn (he pins s σ H _ I h) fun v s1 ⟨x,H1,I1,r1,q1⟩=>?_)
 refine wpAny_Slice (thn (hl pins s1 σ H1 _ I1 q1) fun vl s2 ⟨l,H2,I2,pl,q2⟩=>thn (hu pins s2 σ H2 _ I2 q2) fun vu s3 ⟨u,H3,I3,pu,q3⟩=>?_)
 rw [evalPart_none]
 refine wpAny_pure ?_
 have I4:Inv X pins σ H3 {s3 with heap:=s3.heap.push {cls:=.type "slice",data:=.fields #[vl,vu, .none]}}:=I3.kept (t':=s3.toks) fun b ob q=>Heap.get?_push_of_some _ q
 obtain ⟨T,id,hT,ht,hg⟩:=hr pins {s3 with heap:=s3.heap.push {cls:=.type "slice",data:=.fields #[vl,vu, .none]}} σ H3 x v vl vu l u s3.heap.objs.size Q I4 r1 (Heap.IsSliceOf.new ..) pl pu q3
 show wpAny (model X.prog X.w) X.A (subscriptTail e (.Slice lo hi none p2) v (.ref s3.heap.objs.size)) (EP X pins σ Q) X.xe {s3 with heap:=s3.heap.push {cls:=.type "slice",data:=.fields #[vl,vu, .none]}}
 exact tail_any (ops:=[.ref s3.heap.objs.size,v]) ht hT hg (by with_unfolding_all rfl)
def cutV (xs:List V) (lo hi:Option Int):List V:=(xs.drop (HT.sIx xs.length 0 lo)).take (HT.sIx xs.length xs.length hi - HT.sIx xs.length 0 lo)
theorem qfl (xs:List V) (lo hi:Option Int):(cutV xs lo hi).length<=xs.length:=by
 unfold cutV
 rw [List.length_take,List.length_drop]
 omega
def rSlT (K:PySem.W.Frag):V->Option Int->Option Int->Hp->VK->Prop:=fun x lo hi H Q=>∃ a xs,x=.ref a/\SqT K H a xs /\
 ¬ (HT.sIx xs.length 0 lo=0/\HT.sIx xs.length xs.length hi=xs.length)/\∀ p,H p=none->Q (.ref p) (upd H p (.tup (cutV xs lo hi)))
theorem sl_tup:SlR X (rSlT X.K):=by
 intro pins s σ H x v vl vu lo hi sl Q I rx hs pl pu h
 obtain ⟨a,xs,rfl,hx,hw,q⟩:=h
 cases rx
 obtain ⟨its,r,ht,hz⟩:=I.tuple hx
 have hlen:its.toArray.size=xs.length:=by rw [List.size_toArray];exact r.length.symm
 refine ⟨"tuple",_,PyProof.Rows.slot_tuple_getitem.lookup,ht.typeIs,?_⟩
 refine HT.q8x ht hs pl pu (by rw [hlen];exact hw) ?_ (by rw [hlen];exact hz)
 rw [hlen]
 refine ⟨.ref s.heap.objs.size,_,I.laid (t':=s.toks) (o:=.tup (cutV xs lo hi)) (fun b ob q=>Heap.get?_push_of_some _ q) (Nat.le_refl _) ?_,rfl,q _ (I.hok.fresh (Nat.le_refl _))⟩
 exact ⟨Nat.le_trans (qfl xs lo hi) hz,_,(r.drop (HT.sIx xs.length 0 lo)).take (HT.sIx xs.length xs.length hi - HT.sIx xs.length 0 lo),IsTup.new _ _⟩
theorem Vals.q8j {xs:List V} {us:List Value} (r:Vals xs us):us=[]↔xs=[]:=by
 cases r with
 | nil=>simp
 | cons _ _=>simp
end
end L2
namespace L2
open PySem PySem.Spec PyProof.Rows
def ixN (n:Nat) (i:Int):Option Nat:=if 0<=i then (if i<n then some i.toNat else none) else if -(n:Int)<=i then some (i+n).toNat else none
def atI {α:Type} (xs:List α) (i:Int):Option α:=(ixN xs.length i).bind fun j=>xs[j]?
theorem qfp {n:Nat} {i:Int} {j:Nat} (h:ixN n i=some j):seqIndex? i n=some j/\j<n/\-(n:Int)<=i/\i<n:=by
 unfold ixN at h
 by_cases h0:0<=i
 ·rw [if_pos h0] at h
  by_cases h1:i<n
  ·rw [if_pos h1] at h
   have e:i.toNat=j:=Option.some.inj h
   exact ⟨by rw [seqIndex_of h0 h1,e],by omega,by omega,h1⟩
  ·rw [if_neg h1] at h;cases h
 ·rw [if_neg h0] at h
  by_cases h1:-(n:Int)<=i
  ·rw [if_pos h1] at h
   have e:(i+n).toNat=j:=Option.some.inj h
   exact ⟨by rw [seqIndex_neg (by omega) h1,e],by omega,h1,by omega⟩
  ·rw [if_neg h1] at h;cases h
theorem qbf {α:Type} {xs:List α} {i:Int} {v:α} (h:atI xs i=some v):∃ j,seqIndex? i xs.length=some j/\xs[j]?=some v/\j<xs.length/\-(xs.length:Int)<=i/\i<xs.length:=by
 unfold atI at h
 cases e:ixN xs.length i with
 | none=>rw [e] at h;cases h
 | some j =>
  rw [e] at h
  obtain ⟨h1,h2,h3,h4⟩:=qfp e
  exact ⟨j,h1,h,h2,h3,h4⟩
theorem q0w {α:Type} {xs:List α} {j:Nat} {v:α} (h:xs[j]?=some v):atI xs (j:Int)=some v:=by
 have hj:j<xs.length:=(List.getElem?_eq_some_iff.mp h).1
 have e:ixN xs.length (j:Int)=some j:=by
  unfold ixN
  rw [if_pos (by omega),if_pos (by omega)];simp
 unfold atI;rw [e];exact h
def qne (b:Expr):Prop:=∀ o i,subscripted b false o i=operate [o,i] (getItem o i)
def IxR (X:Cx) (r:R2):Prop:=
 ∀ (value slice:Expr) (pins:List (Addr×Obj)) (s:Shared) (σ:St) (H:Hp) (x y:V) (v u:Value) (Q:VK),Inv X pins σ H s->RelV x v->RelV y u->r x y H Q ->
  subscripted slice false v u=operate [v,u] (getItem v u)->wpAny (model X.prog X.w) X.A (subscriptTail value slice v u) (EP X pins σ Q) X.xe s
def MtR (X:Cx) (id:String) (r:V->List V->Hp->VK->Prop):Prop:=
 ∀ (pins:List (Addr×Obj)) (s:Shared) (σ:St) (H:Hp) (x:V) (xs:List V) (v:Value) (us:List Value) (Q:VK),Inv X pins σ H s->RelV x v->Vals xs us->r x xs H Q ->
  wpAny (model X.prog X.w) X.A (call (.builtin id) (v::us)) (EP X pins σ Q) X.xe s
section
variable {X:Cx} {a b:Expr} {ta tb:TE} {pos:Pos}
theorem IxR.or {r r':R2} (h:IxR X r) (h':IxR X r'):IxR X (fun x y H Q=>r x y H Q\/r' x y H Q):=by
 intro value slice pins s σ H x y v u Q I rx ry q hs
 rcases q with q | q
 ·exact h value slice pins s σ H x y v u Q I rx ry q hs
 ·exact h' value slice pins s σ H x y v u Q I rx ry q hs
theorem q0l {r:R2} (hr:IxR X r) (ha:PE X a ta) (hb:PE X b tb) (hs:qne b):PE X (.Subscript a b pos) (tOp r ta tb):=by
 intro pins s σ H Q I h
 exact Subscript_ (binT ha hb I h fun v u s2 x y H2 I2 rx ry q=>hr a b pins s2 σ H2 x y v u Q I2 rx ry q (hs _ _))
def rIxL (K:PySem.W.Frag):R2:=fun x y H Q=>∃ p xs i v,x=.ref p/\y=.int i/\SqL K H p xs/\atI xs i=some v/\Q v H
def rIxT (K:PySem.W.Frag):R2:=fun x y H Q=>∃ p xs i v,x=.ref p/\y=.int i/\SqT K H p xs/\atI xs i=some v/\Q v H
def rIxS:R2:=fun x y H Q=>∃ z i c,x=.str z/\y=.int i/\z.length<=sizeLine/\atI z.cps.toList i=some c/\Q (.str ⟨#[c]⟩) H
theorem qn7:IxR X (rIxL X.K):=by
 intro value slice pins s σ H x y v u Q I rx ry h hs
 obtain ⟨p,xs,i,z,rfl,rfl,hq,he,q⟩:=h
 cases rx
 obtain ⟨t,rfl⟩:=ry
 obtain ⟨its,r,pl,hz⟩:=I.list hq
 obtain ⟨j,h1,h2,h3,h4,h5⟩:=qbf he
 obtain ⟨w,ew,rw'⟩:=r.get h2
 have hl:=r.length
 have hn:=q77
 have fin:EP X pins σ Q w s:=⟨z,H,I,rw',q⟩
 by_cases h0:0<=i
 ·have hj:i.toNat=j:=by
   rw [seqIndex_of h0 h5] at h1
   exact Option.some.inj h1
  exact item_listR pl.isList h0 (by omega) (by rw [hj];simpa using ew) fin hs
 ·have hj:(i+(its.toArray.size:Int)).toNat=j:=by
   rw [seqIndex_neg (by omega) h4] at h1
   rw [List.size_toArray, <- hl]
   exact Option.some.inj h1
  exact subscriptTail_builtinR (x:=w) pl.isList.typeIs slot_list_getitem.lookup
   (wpAny_getItem_list_neg (Q:=fun r s' => r=w/\EP X pins σ Q r s') pl.isList (by omega) (by rw [List.size_toArray] <;> omega) (by omega) (by rw [hj];simpa using ew) ⟨rfl,fin⟩) hs
theorem ix_tup:IxR X (rIxT X.K):=by
 intro value slice pins s σ H x y v u Q I rx ry h hs
 obtain ⟨p,xs,i,z,rfl,rfl,hq,he,q⟩:=h
 cases rx
 obtain ⟨t,rfl⟩:=ry
 obtain ⟨its,r,pl,hz⟩:=I.tuple hq
 obtain ⟨j,h1,h2,h3,h4,h5⟩:=qbf he
 obtain ⟨w,ew,rw'⟩:=r.get h2
 have hl:=r.length
 have hn:=q77
 have fin:EP X pins σ Q w s:=⟨z,H,I,rw',q⟩
 exact subscriptTail_builtinR (x:=w) pl.typeIs slot_tuple_getitem.lookup
  (getItem_tuple (j:=j) (Q:=fun r s' => r=w/\EP X pins σ Q r s') pl (by omega) (by omega) (by rw [List.size_toArray, <- hl];exact h1) (by simpa using ew) ⟨rfl,fin⟩) hs
theorem q52:IxR X rIxS:=by
 intro value slice pins s σ H x y v u Q I rx ry h hs
 obtain ⟨z,i,c,rfl,rfl,hz,he,q⟩:=h
 obtain ⟨t,rfl⟩:=rx
 obtain ⟨t',rfl⟩:=ry
 obtain ⟨j,h1,h2,h3,h4,h5⟩:=qbf he
 have hl:z.cps.toList.length=z.length:=by simp [Str.length]
 rw [hl] at h1 h4 h5
 have hn:=q77
 exact tail_any (typeIs_str s z t) slot_str_getitem.lookup (getItem_str (c:=c) (by
  have e1:decide (i < -(2 ^ 63:Int))=false:=decide_eq_false (by omega)
  have e2:decide (i ≥ 2 ^ 63)=false:=decide_eq_false (by omega)
  rw [e1,e2,Bool.or_false]) (by rw [h1];simpa using h2) ⟨.str ⟨#[c]⟩,H,I.tok _,⟨_,rfl⟩,q⟩) hs
def rIx (K:PySem.W.Frag):R2:=fun x y H Q=>rIxL K x y H Q\/rIxT K x y H Q\/rIxS x y H Q
theorem q0n:IxR X (rIx X.K):=qn7.or (ix_tup.or q52)
def q5i:V->Bool
 | .non=>true
 | .bl _=>true
 | .int _=>true
 | .str _=>true
 | _=>false
def eqV:V->V->Bool
 | .non, .non=>true
 | .bl a, .bl b=>a == b
 | .bl a, .int b=>(if a then 1 else 0) == b
 | .int a, .bl b=>a == (if b then 1 else 0)
 | .int a, .int b=>a == b
 | .str a, .str b=>a == b
 | _,_=>false
theorem eqAt_V {A:Around} {s:Shared} {y x:V} {u v:Value} (ry:RelV y u) (rx:RelV x v) (fy:q5i y=true) (fx:q5i x=true):SeqAt.EqAt A s u v (eqV y x):=by
 cases y with
 | non =>
  cases ry
  cases x with
  | non=>cases rx;exact SeqAt.EqAt.same _
  | bl b=>cases rx;exact SeqAt.EqAt.none_bool b
  | int b=>obtain ⟨t,rfl⟩:=rx;exact SeqAt.EqAt.none_int b t
  | str b=>obtain ⟨t,rfl⟩:=rx;exact SeqAt.EqAt.none_str b t
  | _=>exact absurd (show false=true from fx) Bool.false_ne_true
 | bl a =>
  cases ry
  cases x with
  | non=>cases rx;exact SeqAt.EqAt.bool_none a
  | bl b=>cases rx;exact SeqAt.EqAt.bool_bool a b
  | int b=>obtain ⟨t,rfl⟩:=rx;exact SeqAt.EqAt.bool_int a b t
  | str b=>obtain ⟨t,rfl⟩:=rx;exact SeqAt.EqAt.bool_str a b t
  | _=>exact absurd (show false=true from fx) Bool.false_ne_true
 | int a =>
  obtain ⟨t',rfl⟩:=ry
  cases x with
  | non=>cases rx;exact SeqAt.EqAt.int_none a t'
  | bl b=>cases rx;exact SeqAt.EqAt.int_bool a t' b
  | int b=>obtain ⟨t,rfl⟩:=rx;exact SeqAt.EqAt.int_int a t' b t
  | str b=>obtain ⟨t,rfl⟩:=rx;exact SeqAt.EqAt.int_str a t' b t
  | _=>exact absurd (show false=true from fx) Bool.false_ne_true
 | str a =>
  obtain ⟨t',rfl⟩:=ry
  cases x with
  | non=>cases rx;exact SeqAt.EqAt.str_none a t'
  | bl b=>cases rx;exact SeqAt.EqAt.str_bool a t' b
  | int b=>obtain ⟨t,rfl⟩:=rx;exact SeqAt.EqAt.str_int a t' b t
  | str b=>obtain ⟨t,rfl⟩:=rx;exact SeqAt.EqAt.str_str a t' b t
  | _=>exact absurd (show false=true from fx) Bool.false_ne_true
 | _=>exact absurd (show false=true from fy) Bool.false_ne_true
def eqU (x:V) (u:Value):Bool:=match u with
 | .none=>eqV .non x
 | .bool b=>eqV (.bl b) x
 | .int i _=>eqV (.int i) x
 | .str z _=>eqV (.str z) x
 | _=>false
theorem qj7 {x y:V} {u:Value} (r:RelV y u) (f:q5i y=true):eqU x u=eqV y x:=by
 cases y with
 | non=>cases r;rfl
 | bl b=>cases r;rfl
 | int i=>obtain ⟨t,rfl⟩:=r;rfl
 | str z=>obtain ⟨t,rfl⟩:=r;rfl
 | _=>exact absurd (show false=true from f) Bool.false_ne_true
theorem qbs {x:V}:∀ {xs:List V} {us:List Value},Vals xs us->xs.all q5i=true->us.any (eqU x)=xs.any fun y=>eqV y x
 | _,_, .nil,_=>rfl
 | y::xs,u::us, .cons r t,f=>by
  rw [List.all_cons,Bool.and_eq_true] at f
  rw [List.any_cons,List.any_cons,qj7 r f.1,qbs t f.2]
theorem q93 {A:Around} {s:Shared} {x:V} {v:Value} (rx:RelV x v) (fx:q5i x=true):∀ {xs:List V} {us:List Value},Vals xs us->xs.all q5i=true->∀ u∈us,SeqAt.EqAt A s u v (eqU x u)
 | _,_, .nil,_=>fun u hu=>by cases hu
 | y::xs,u::us, .cons r t,f=>fun u' hu=>by
  rw [List.all_cons,Bool.and_eq_true] at f
  rcases List.mem_cons.mp hu with rfl | hu
  ·rw [qj7 r f.1];exact eqAt_V r rx f.1 fx
  ·exact q93 rx fx t f.2 u' hu
def inV (x:V) (xs:List V):Bool:=xs.any fun y=>eqV y x
def rIn (K:PySem.W.Frag) (neg:Bool):R2:=fun x y H Q=>∃ p xs,y=.ref p/\(SqL K H p xs\/SqT K H p xs)/\q5i x=true/\xs.all q5i=true/\Q (.bl (if neg then !inV x xs else inV x xs)) H
theorem qj1:OpR X (compareOp .In) (rIn X.K false):=by
 intro pins s σ H x y v u Q I rx ry h
 obtain ⟨p,xs,rfl,hq,fx,fs,q⟩:=h
 cases ry
 rcases hq with hq | hq
 ·obtain ⟨its,r,pl,hz⟩:=I.list hq
  refine SeqAt.in_listAt (eqU x) pl.isList (fun w hw=>q93 rx fx r fs w (by simpa using hw)) ⟨.bl _,H,I,rfl,?_⟩
  rw [show its.toArray.any (eqU x)=its.any (eqU x) by simp,qbs r fs]
  exact q
 ·obtain ⟨its,r,pl,hz⟩:=I.tuple hq
  refine SeqAt.in_tupleAt (eqU x) pl (fun w hw=>q93 rx fx r fs w (by simpa using hw)) ⟨.bl _,H,I,rfl,?_⟩
  rw [show its.toArray.any (eqU x)=its.any (eqU x) by simp,qbs r fs]
  exact q
theorem qec:q2a X (.builtin "len") (fun xs H Q=>∃ p ys,xs=[.ref p]/\(SqL X.K H p ys\/SqT X.K H p ys)/\Q (.int ys.length) H):=by
 intro pins s σ H xs us Q I r h
 obtain ⟨p,ys,rfl,hq,q⟩:=h
 obtain ⟨u,rfl,rx⟩:=vals1 r
 cases rx
 have hn:=q77
 rcases hq with hq | hq
 ·obtain ⟨its,r',pl,hz⟩:=I.list hq
  have hlen:=r'.length
  exact Calls.call_len_list pl.isList (by simp only [List.size_toArray] <;> omega) ⟨.int ys.length,H,I.tok _,⟨s.toks+1,by rw [List.size_toArray,hlen]⟩,q⟩
 ·obtain ⟨its,r',pl,hz⟩:=I.tuple hq
  have hlen:=r'.length
  exact len_tuple pl (by simp only [List.size_toArray] <;> omega) ⟨.int ys.length,H,I.tok _,⟨s.toks+1,by rw [List.size_toArray,hlen]⟩,q⟩
theorem qey:q2a X (.builtin "len") (fun xs H Q=>∃ z,xs=[.str z]/\z.length<=sizeLine/\Q (.int z.length) H):=by
 intro pins s σ H xs us Q I r h
 obtain ⟨z,rfl,hz,q⟩:=h
 obtain ⟨u,rfl,t,rfl⟩:=vals1 r
 have hn:=q77
 exact len_str (by omega) ⟨.int z.length,H,I.tok _,⟨_,rfl⟩,q⟩
theorem q2a.or {f:Value} {r r':List V->Hp->VK->Prop} (h:q2a X f r) (h':q2a X f r'):q2a X f (fun xs H Q=>r xs H Q\/r' xs H Q):=by
 intro pins s σ H xs us Q I rs q
 rcases q with q | q
 ·exact h pins s σ H xs us Q I rs q
 ·exact h' pins s σ H xs us Q I rs q
theorem qd8:q2a X (.type "list") (fun xs H Q=>∃ p ys,xs=[.ref p]/\(SqL X.K H p ys\/SqT X.K H p ys)/\∀ l,H l=none->Q (.ref l) (upd H l (.lst ys))):=by
 intro pins s σ H xs us Q I r h
 obtain ⟨p,ys,rfl,hq,q⟩:=h
 obtain ⟨u,rfl,rx⟩:=vals1 r
 cases rx
 have fin:∀ (its:List Value),Vals ys its->ys.length<=sizeLine->∀ (h':Heap) (c':Nat),(∀ b o',s.heap.get? b=some o'->h'.get? b=some o') ->
   h'.get? s.heap.objs.size=some {cls:=.type "list",dict:=none,data:=.seq its.toArray c',slots:=#[]}->EP X pins σ Q (.ref s.heap.objs.size) {s with heap:=h'}:=fun its r' hz h' c' kp e =>
  ⟨.ref s.heap.objs.size,_,I.laid (t':=s.toks) kp (Nat.le_refl _) (show q1s X.prog X.w _ h' _ (.lst ys) from ⟨hz,its,c',r',e⟩),rfl,q _ (I.hok.fresh (Nat.le_refl _))⟩
 rcases hq with hq | hq
 ·obtain ⟨its,r',pl,hz⟩:=I.list hq
  have hlen:=r'.length
  obtain ⟨o,ho,hc,n,hd⟩:=pl.isList
  exact call_list_seq p (.inl rfl) ho hc hd (fun h' c' kp e=>fin its r' hz h' c' kp e) (by simp only [List.size_toArray] <;> omega)
 ·obtain ⟨its,r',pl,hz⟩:=I.tuple hq
  have hlen:=r'.length
  obtain ⟨o,ho,hc,n,hd⟩:=pl
  exact call_list_seq p (.inr rfl) ho hc hd (fun h' c' kp e=>fin its r' hz h' c' kp e) (by simp only [List.size_toArray] <;> omega)
theorem qcw:q2a X (.type "tuple") (fun xs H Q=>∃ p ys,xs=[.ref p]/\((SqL X.K H p ys/\∀ l,H l=none->Q (.ref l) (upd H l (.tup ys)))\/(SqT X.K H p ys/\Q (.ref p) H))):=by
 intro pins s σ H xs us Q I r h
 obtain ⟨p,ys,rfl,h⟩:=h
 obtain ⟨u,rfl,rx⟩:=vals1 r
 cases rx
 rcases h with ⟨hq,q⟩ | ⟨hq,q⟩
 ·obtain ⟨its,r',pl,hz⟩:=I.list hq
  have hlen:=r'.length
  refine call_tuple_list pl.isList (fun h' kp=>?_) (by simp only [List.size_toArray] <;> omega)
  have I1:Inv X pins σ H {s with heap:=h'}:=I.kept (t':=s.toks) kp
  have I2:Inv X pins σ (upd H h'.objs.size (.tup ys)) {s with heap:=h'.push {cls:=.type "tuple",data:=.seq its.toArray}}:=
   I1.laid (t':=s.toks) (fun b o e=>Heap.get?_push_of_some _ e) (Nat.le_refl _) (show q1s X.prog X.w _ _ _ (.tup ys) from ⟨hz,its,r',IsTup.new _ _⟩)
  exact ⟨.ref h'.objs.size,_,I2,rfl,q _ (I1.hok.fresh (Nat.le_refl _))⟩
 ·obtain ⟨its,r',pl,hz⟩:=I.tuple hq
  exact call_tuple_same pl ⟨.ref p,H,I,rfl,q⟩
def tyV (K:PySem.W.Frag) (T:String) (x:V) (H:Hp):Prop:=match x with
 | .str _=>T = "str"
 | .int _=>T = "int"
 | .ref p=>(T = "list" /\ ∃ xs,SqL K H p xs)\/(T = "tuple" /\ ∃ o,K.lookup p=some o/\o.cls=.type "tuple" /\ o.dict=none) \/
   (T = "dict" /\ ((∃ kvs,H p=some (.dK kvs))\/∃ kvs,H p=some (.dT kvs)))\/(T = "set" /\ ∃ S n,H p=some (.set S n))
 | _=>False
theorem tyV_is {pins:List (Addr×Obj)} {σ:St} {H:Hp} {s:Shared} {T:String} {x:V} {v:Value} (I:Inv X pins σ H s) (r:RelV x v) (ty:tyV X.K T x H) :
  s.TypeIs v T/\∀ a,v=.ref a->∃ ob,s.heap.get? a=some ob/\ob.dict=none:=by
 cases x with
 | str z =>
  obtain ⟨t,rfl⟩:=r
  cases (show T = "str" from ty)
  exact ⟨typeIs_str s z t,fun _ e=>nomatch e⟩
 | int i =>
  obtain ⟨t,rfl⟩:=r
  cases (show T = "int" from ty)
  exact ⟨typeIs_int s i t,fun _ e=>nomatch e⟩
 | ref p =>
  cases r
  rcases ty with ⟨rfl,xs,hq⟩ | ⟨rfl,o,hk,hc,hd⟩ | ⟨rfl,hk⟩ | ⟨rfl,S,n,hk⟩
  ·obtain ⟨its,_,pl,_⟩:=I.list hq
   refine ⟨pl.isList.typeIs,fun a e=>?_⟩
   cases e
   obtain ⟨o,n,e,c,hd,_⟩:=pl
   exact ⟨o,e,hd⟩
  ·refine ⟨⟨o,I.kIn p o hk,hc⟩,fun a e=>?_⟩
   cases e
   exact ⟨o,I.kIn _ o hk,hd⟩
  ·have z:∃ o,s.heap.get? p=some o/\o.ExactDict:=by
    rcases hk with ⟨kvs,hk⟩ | ⟨kvs,hk⟩
    ·obtain ⟨_,_,_,_,o,_,_,e,ex,_⟩:=I.hok p _ hk
     exact ⟨o,e,ex⟩
    ·obtain ⟨_,_,_,_,o,_,_,e,ex,_⟩:=I.hok p _ hk
     exact ⟨o,e,ex⟩
   obtain ⟨o,e,ex⟩:=z
   refine ⟨⟨o,e,ex.1⟩,fun a e2=>?_⟩
   cases e2
   exact ⟨o,e,ex.2.1⟩
  ·obtain ⟨o,_,_,_,e,ex,_⟩:=I.hok p _ hk
   refine ⟨⟨o,e,ex.1⟩,fun a e2=>?_⟩
   cases e2
   exact ⟨o,e,ex.2.1⟩
 | _=>exact False.elim ty
def tBM (K:PySem.W.Frag) (T:String) (r:V->List V->Hp->VK->Prop) (to:TE) (t:TA):TE:=fun σ H Q=>to σ H fun x H1=>tyV K T x H1/\t σ H1 fun xs H2=>r x xs H2 Q
variable {o e:Expr} {es:List Expr} {to:TE} {t:TA} {name:Str} {apos cpos:Pos} {T id:String} {r:V->List V->Hp->VK->Prop}
theorem q36 (pa:PlainAttrs T) (slot:Slot T name id) (hty:typeOf (.builtin id)=pure (.type "method_descriptor")) (hm:MtR X id r) (ho:PE X o to) (ha:PA X (e::es) t)
  (hbase:attributeBase o name X.env (eval o X.env)=eval o X.env:=by rfl)
  (hfew:((backTo cpos (starEach (e::es) X.env)).all (fun x=>!x.1) && (backToKw cpos (keywordEach [] X.env)).all (fun x=>x.1.isSome)
   && decide ((e::es).length+([]:List Keyword).length+(if ([]:List Keyword).isEmpty then 0 else 1)<30))=true:=by rfl)
  (hline:(apos.endLine == cpos.line)=true:=by rfl) (hs:starEach (e::es) X.env=(false,eval e X.env)::starEach es X.env:=by rfl) (hplain:(backTo cpos (starEach es X.env)).any (·.1)=false:=by rfl) :
  PE X (.Call (.Attribute o name apos) (e::es) [] cpos) (tBM X.K T r to t):=by
 intro pins s σ H Q I h
 refine wpAny_Call_method_late hbase hfew hline rfl (thn (ho pins s σ H _ I h) fun v s1 ⟨x,H1,I1,r1,ty,q1⟩=>?_)
 obtain ⟨h1,h2⟩:=tyV_is I1 r1 ty
 refine ⟨T,id,pa,slot,hty,h1,h2,?_⟩
 have hA:=ha cpos pins s1 σ H1 _ I1 q1
 rw [hs] at hA ⊢
 refine Calls.callWith_builtin (by show (false || (backTo cpos (starEach es X.env)).any (·.1))=false;rw [hplain] <;> rfl) (Calls.evalArgs_plain ?_)
 exact thn hA fun us s2 ⟨vs,H2,I2,r2,q2⟩=>hm pins s2 σ H2 x vs v us Q I2 r1 r2 q2
end
end L2
namespace L2
open PySem PySem.Spec PyProof.Rows
def MtM (X:Cx) (id:String) (r:V->List V->Hp->VK->Prop):Prop:=
 ∀ (pins:List (Addr×Obj)) (s:Shared) (σ:St) (H:Hp) (x:V) (xs:List V) (v:Value) (us:List Value) (Q:VK),Inv X pins σ H s->RelV x v->Vals xs us->r x xs H Q ->
  wpAny (model X.prog X.w) X.A (call (.builtin id) (v::us)) (EP X pins σ Q) X.xe s
theorem Vals.one:∀ {x:V} {us:List Value},Vals [x] us->∃ u,us=[u]/\RelV x u
 | _,_, .cons r .nil=>⟨_,rfl,r⟩
theorem Vals.zero:∀ {us:List Value},Vals [] us->us=[]
 | _, .nil=>rfl
theorem Vals.dropLast {xs:List V} {us:List Value} (h:Vals xs us):Vals xs.dropLast us.dropLast:=by
 induction h with
 | nil=>exact .nil
 | cons r t ih =>
  cases t with
  | nil=>exact .nil
  | cons q t' => exact .cons r ih
theorem Vals.eraseIdx:∀ {xs:List V} {us:List Value} (i:Nat),Vals xs us->Vals (xs.eraseIdx i) (us.eraseIdx i)
 | _,_,_, .nil=>.nil
 | _,_,0, .cons _ t=>t
 | _,_,i+1, .cons r t=>.cons r (Vals.eraseIdx i t)
theorem Vals.rep {xs:List V} {us:List Value} (h:Vals xs us):∀ k:Nat,Vals (List.replicate k xs).flatten (List.replicate k us).flatten
 | 0=>.nil
 | k+1=>by
  rw [List.replicate_succ,List.replicate_succ,List.flatten_cons,List.flatten_cons]
  exact Vals.append h (Vals.rep h k)
theorem qhw {α:Type} (l:List α):l.eraseIdx (l.length - 1)=l.dropLast:=by
 induction l with
 | nil=>rfl
 | cons a r ih =>
  cases r with
  | nil=>rfl
  | cons b r =>
   have e:(a::b::r).length - 1=((b::r).length - 1)+1:=by
    have h1:(a::b::r).length=r.length+2:=rfl
    have h2:(b::r).length=r.length+1:=rfl
    omega
   rw [e,List.eraseIdx_cons_succ,ih]
   all_goals rfl
theorem qc9 {α:Type}:∀ (l:List α) (i:Nat),(l.eraseIdx i).length<=l.length
 | [],_=>Nat.le_refl _
 | _::_,0=>Nat.le_succ _
 | _::r,i+1=>Nat.succ_le_succ (qc9 r i)
theorem foldl_rep (its:List Value):∀ (k:Nat) (acc:List Value),
  List.foldl (fun x1 x2=>x1++x2) acc.toArray (List.replicate k its.toArray)=(acc++(List.replicate k its).flatten).toArray
 | 0,acc=>by simp
 | k+1,acc=>by
  have e:acc.toArray++its.toArray=(acc++its).toArray:=by simp
  have e2:(acc++its)++(List.replicate k its).flatten=acc++(List.replicate (k+1) its).flatten:=by
   rw [List.replicate_succ,List.flatten_cons,List.append_assoc]
  rw [<- e2, <- foldl_rep its k (acc++its), <- e,List.replicate_succ,List.foldl_cons]
section
variable {X:Cx} {pins:List (Addr×Obj)} {σ:St} {H:Hp} {s:Shared} {l b:Addr} {xs ys zs:List V}
theorem Inv.lset {its its':List Value} {n:Nat} {f:Array Value->Array Value} {t':Nat} (I:Inv X pins σ H s) (hH:H l=some (.lst xs))
  (e:s.heap.get? l=some {cls:=.type "list",data:=.seq its.toArray n}) (hf:f its.toArray=its'.toArray) (hv:Vals ys its') (hz:ys.length<=sizeLine) :
  Inv X pins σ (upd H l (.lst ys)) {s with heap:=s.heap.update l (Obj.mapSeq f),toks:=t'}:=by
 have q:=PySem.IsL.update e f
 rw [hf] at q
 refine I.write (x:=l) (e:=l) (by rw [hH];exact trivial) (.inl rfl) (fun b' u hb hu=>(Heap.get?_update_other s.heap (Obj.mapSeq f) (Ne.symm hb)).trans hu) ⟨_,q⟩ ?_
 exact ⟨hz,its',_,hv,q⟩
theorem Inv.lnew {its:List Value} {t':Nat} (I:Inv X pins σ H s) (hv:Vals ys its) (hz:ys.length<=sizeLine) :
  Inv X pins σ (upd H s.heap.objs.size (.lst ys)) {s with heap:=s.heap.push {cls:=.type "list",data:=.seq its.toArray},toks:=t'}:=
 I.laid (fun _ _ q=>Heap.get?_push_of_some _ q) (Nat.le_refl _) ⟨hz,its,0,hv,Heap.get?_push_size _ rfl⟩
theorem Inv.fresh (I:Inv X pins σ H s):H s.heap.objs.size=none:=I.hok.fresh (Nat.le_refl _)
theorem Inv.lstM (I:Inv X pins σ H s) (hH:H l=some (.lst xs)):xs.length<=sizeLine/\∃ (its:List Value) (n:Nat),Vals xs its/\xs.length=its.length/\s.heap.get? l=some {cls:=.type "list",data:=.seq its.toArray n}:=by
 obtain ⟨z,its,n,r,e⟩:=I.hok l _ hH
 exact ⟨z,its,n,r,r.length,e⟩
theorem qm2 {n:Nat} (h:n<=sizeLine):Builtin.List.listTooLong n=false:=by
 unfold Builtin.List.listTooLong
 exact decide_eq_false (by omega)
end
section
variable {X:Cx}
def qgt:V->List V->Hp->VK->Prop:=fun x vs H Q=>∃ l xs y,x=.ref l/\vs=[y]/\H l=some (.lst xs)/\xs.length<sizeLine/\Q .non (upd H l (.lst (xs++[y])))
theorem q1w:MtM X "list.append" qgt:=by
 intro pins s σ H x vs v us Q I rx rv h
 obtain ⟨l,xs,y,rfl,rfl,hH,hz,q⟩:=h
 cases rx
 obtain ⟨u,rfl,ru⟩:=rv.one
 obtain ⟨z,its,n,r,hl,e⟩:=I.lstM hH
 refine call_meets F.slot_list_append ⟨_,e,rfl⟩ F.entry_list_append (F.args_list_append_2 _ _) (PySem.list_append l its.toArray n u (by rw [List.size_toArray];omega)) ⟨e,?_⟩
 refine ⟨.non,_,I.lset (its':=its++[u]) hH e (by simp) (r.append (.cons ru .nil)) ?_,rfl,q⟩
 rw [List.length_append,List.length_singleton]
 omega
def rPop:V->List V->Hp->VK->Prop:=fun x vs H Q=>∃ l xs y,x=.ref l/\vs=[]/\H l=some (.lst xs)/\xs[xs.length - 1]?=some y/\Q y (upd H l (.lst xs.dropLast))
theorem mt_pop:MtM X "list.pop" rPop:=by
 intro pins s σ H x vs v us Q I rx rv h
 obtain ⟨l,xs,y,rfl,rfl,hH,hy,q⟩:=h
 cases rx
 have hus:=rv.zero
 subst hus
 obtain ⟨z,its,n,r,hl,e⟩:=I.lstM hH
 obtain ⟨u,hu,ru⟩:=r.get hy
 have hy':its.toArray[its.toArray.size - 1]?=some u:=by
  show its.toArray[its.length - 1]?=some u
  rw [<- Array.getElem?_toList, <- hl]
  exact hu
 refine call_meets F.slot_list_pop ⟨_,e,rfl⟩ F.entry_list_pop (F.args_list_pop_1 _) (MeetsSeq.list_pop_last l its.toArray n u hy' (by rw [List.size_toArray];omega)) ⟨e,?_⟩
 refine ⟨y,_,I.lset (its':=its.dropLast) hH e ?_ r.dropLast ?_,ru,q⟩
 ·show its.toArray.eraseIdxIfInBounds (its.toArray.size - 1)=its.dropLast.toArray
  rw [List.size_toArray,List.eraseIdxIfInBounds_toArray,qhw]
 ·rw [List.length_dropLast]
  omega
def qj5:V->List V->Hp->VK->Prop:=fun x vs H Q=>∃ l xs i k y,x=.ref l/\vs=[.int i]/\H l=some (.lst xs)/\-(2 ^ 63)<=i/\i<2 ^ 63/\seqIndex? i xs.length=some k/\xs[k]?=some y/\Q y (upd H l (.lst (xs.eraseIdx k)))
theorem qkg:MtM X "list.pop" qj5:=by
 intro pins s σ H x vs v us Q I rx rv h
 obtain ⟨l,xs,i,k,y,rfl,rfl,hH,h1,h2,hk,hy,q⟩:=h
 cases rx
 obtain ⟨u,rfl,ru⟩:=rv.one
 obtain ⟨t,rfl⟩:=ru
 obtain ⟨z,its,n,r,hl,e⟩:=I.lstM hH
 obtain ⟨w,hw,rw'⟩:=r.get hy
 refine call_meets F.slot_list_pop ⟨_,e,rfl⟩ F.entry_list_pop (F.args_list_pop_2 _ _)
  (MeetsSeq.list_pop_at l its.toArray n i t k w (fitsIndex_both h1 h2) (by rw [List.size_toArray, <- hl];exact hk) (by rw [<- Array.getElem?_toList];exact hw) (by rw [List.size_toArray];omega)) ⟨e,?_⟩
 refine ⟨y,_,I.lset (its':=its.eraseIdx k) hH e ?_ (r.eraseIdx k) ?_,rw',q⟩
 ·show its.toArray.eraseIdxIfInBounds k=(its.eraseIdx k).toArray
  rw [List.eraseIdxIfInBounds_toArray]
 ·have:=qc9 xs k
  omega
theorem len_rep {α:Type} (xs:List α) (k:Nat):(List.replicate k xs).flatten.length=k * xs.length:=by
 induction k with
 | zero=>simp
 | succ k ih=>rw [List.replicate_succ,List.flatten_cons,List.length_append,ih,Nat.succ_mul,Nat.add_comm]
end
end L2
namespace Att
open PySem PySem.W PySem.Calls PyProof.Rows
theorem qb3 {P:Params} {h:Heap}:∀ (ns:List Int) (vs:List Value),WellAll P h vs (ns.map WData.int)->IntsAre vs ns:=by
 intro ns
 induction ns with
 | nil =>
  intro vs w
  rw [List.map_nil] at w
  cases w
  exact .nil
 | cons n ns ih =>
  intro vs w
  rw [List.map_cons] at w
  cases w with
  | cons a b =>
   cases a
   exact .cons _ _ (ih _ b)
theorem qju {l:OpenLaw} {n:Nat} (hn:l.most=some n) {P:Params} {h:Heap} {args:List WData} {vals:List Value}
  (hpre:l.row.toRowW.claim.pre args=true) (hwl:WellAll P h vals args) :
  ∃ a vs ns,vals=[Value.ref a]/\args=[WData.list (ns.map WData.int)]/\h.get? a=some {cls:=.type "list",data:=.seq vs.toArray}/\IntsAre vs ns/\ns.length<=n:=by
 have hsh:WShape.hasAll [] args [.list .int]=true:=(pre_splitW hpre).1
 have hc:l.pre.holds [] {args:=args}=true:=(pre_splitW hpre).2
 obtain ⟨d,r,rfl,h1,h2⟩:=hasAllW_cons hsh
 obtain rfl:=hasAllW_nil h2
 obtain ⟨xs,rfl,h3⟩:=hasW_list h1
 obtain ⟨ns,rfl⟩:=items_int h3
 have hlen:ns.length<=n:=by
  unfold OpenLaw.pre at hc
  have h4:(WTm.not (.lt (.lit (.int (n:Int))) (.len (.arg 0)))).holds [] {args:=[.list (ns.map .int)]}=true:=by
   have h4:=(holds_andW hc).1
   rw [hn] at h4
   exact h4
  have h5:=condW_of h4 (w_not (w_lt w_lit (w_len_list (w_arg rfl))))
  rw [List.length_map] at h5
  refine Nat.le_of_not_lt fun q=>?_
  have q':(n:Int)<((ns.length:Nat):Int):=by omega
  first
   | (rw [decide_eq_true q'] at h5;exact absurd h5 (by decide))
   | (simp at h5;omega)
 cases hwl with
 | cons w1 w2 =>
  cases w2
  cases w1 with
  | list ho hall=>exact ⟨_,_,ns,rfl,rfl,ho,qb3 ns _ hall,hlen⟩
theorem qih (l:OpenLaw) (args:List WData):l.row.toRowW.claim.post args (.bool true) args=true:=
 postW_of (r:=l.row.toRowW) (X:=(true == true))
  (show WShape.has [] (.bool true) .bool=true by first | rfl | decide | simp [WShape.has,WShape.arms,WShape.armsAll])
  (show (WTm.eq .res (.lit (.bool true))).value [] {args:=args,res:=some (.bool true),after:=args}=some (.bool (true == true)) from w_eq_bool (w_res rfl) w_lit) rfl
theorem qfj {l:OpenLaw} {n:Nat} {q:Program} {loose:List Str} {XP:(Str->Option Value)->Heap->Prop} {YP:World->Heap->Prop} {d:DefRec}
  (hn:l.most=some n) (hdf:d.params.defaults=[])
  (call:∀ (w:World) (s₀ s₁:Shared) (mg mb:Str->Option Value) (fa:Addr) (o:Obj) (pm cd doc:Value) (a:Addr) (vs:List Value) (ns:List Int),
   Ground q loose [] XP w s₀ mg mb s₁.heap->YP w s₁.heap ->
   s₁.heap.get? fa=some o->o.data=.func (docDef d.name d.params d.body d.scope pm cd doc)->s₁.heap.CodeRec cd d.name->mg d.name=some (.ref fa) ->
   s₁.heap.get? a=some {cls:=.type "list",data:=.seq vs.toArray}->IntsAre vs ns->ns.length<=n->s₁.gens = #[] ->
   codeAny (model l.prog w) callerA (.call (.ref fa) ⟨[.ref a],[]⟩) (fun r s' => r=.ok (.ret (.bool true))/\OldK s₁.heap s'.heap/\s'.os=s₁.os/\AllBare s'.gens) s₁) :
  WalkO q loose XP YP l.row.toRowW d [] (fun f vs=>PySem.call f vs):=by
 intro w s₀ s₁ mg mb G Y fa o pm cd doc dV kV ho hd hcd hD hmg hg args vals as hpre hlay hrd hwl hlo
 obtain rfl:dV=.none:=Dflts.none hD hdf
 obtain rfl:kV=.none:=Dflts.noKw hD
 obtain ⟨a,vs,ns,rfl,rfl,hobj,hints,hlen⟩:=qju hn hpre hwl
 refine enter_call (codeAny_mono (call w s₀ s₁ mg mb fa o pm cd doc a vs ns G Y ho (fd_plain hd) hcd hmg hobj hints hlen hg) fun r s' hq=>?_)
 obtain ⟨rfl,h2,h3,h4⟩:=hq
 exact ⟨.inl ⟨.bool true, .bool true,[],rfl,fun _=>rfl, .bool true,qih l _,fun _=>⟨List.Pairwise.nil,fun _ hm=>(nomatch hm)⟩⟩,h2,h3,h4⟩
end Att
namespace L2
open PySem PySem.Spec PyProof.Rows
theorem qch:∀ {vs:List Value} {ns:List Int},IntsAre vs ns->Vals (ns.map V.int) vs
 | _,_, .nil=>.nil
 | _,_, .cons n t h=>.cons ⟨t,rfl⟩ (qch h)
def Only (H:Hp):Prop:=∀ b,H b=none\/∃ o xs,H b=some (.frz o (.lst xs))
theorem qlu {P:Program} {w:World} {K:PySem.W.Frag} {mg mb:Str->Option Value} {CX:CXT} {k:Nat} {fa a:Addr} {fd:FuncData} {x:Str} {sp:Sp} {s₁:Shared} {vs:List Value} {ns:List Int}
  (KX:K.In s₁.heap) (hns:s₁.heap.Ns mainGlobals mg) (hb:s₁.heap.Ns builtinsNs mb) (hbb:∀ x:Str,x ≠ "__name__"->mb x=bootBuiltins x) (hlim:s₁.heap.NoLimit) (hg:s₁.gens = #[])
  (ha:s₁.heap.get? a=some {cls:=.type "list",data:=.seq vs.toArray}) (hi:IntsAre vs ns) (hl:ns.length<=sizeLine) (hr:Room k callerA)
  (F:∀ base:Heap,K.In base->base.Ns mainGlobals mg->FnOk P w K mg base CX k fa fd [x] sp) (hbind:∀ (s:Shared) (u:Value),BindsTo s fd ⟨[u],[]⟩ [(x,u)])
  (hsp:∀ H:Hp,Only H->SqL K H a (ns.map V.int)->sp [.ref a] H (fun v _=>v=.bl true) fun _ _ _=>False)
  (hCX:∀ H e s',CX [] H s₁ (fun _ _ _=>False) e s'->False) :
  codeAny (model P w) callerA (.call (.ref fa) ⟨[.ref a],[]⟩) (fun r s' => r=.ok (.ret (.bool true))/\OldK s₁.heap s'.heap/\s'.os=s₁.os/\AllBare s'.gens) s₁:=by
 have rv:=qch hi
 have lenV:=hi.length
 have core:∀ H:Hp,Only H->SqL K H a (ns.map V.int)->HOk P w H s₁.heap->(∀ b,H b≠none->b=a)->(H a≠none->K.lookup a=none) ->
   codeAny (model P w) callerA (.call (.ref fa) ⟨[.ref a],[]⟩) (fun r s' => r=.ok (.ret (.bool true))/\OldK s₁.heap s'.heap/\s'.os=s₁.os/\AllBare s'.gens) s₁:=by
  intro H hO hS hok hA hK
  have base_of:∀ {b:Addr} {o:Obj},s₁.heap.get? b=some o->H b=none->(hidT s₁.heap H).get? b=some o:=fun e n=>qkl e n
  have noA:∀ {b:Addr} {o:Obj} {es:Array DictEntry} {ep:Nat},s₁.heap.get? b=some o->o.data=.dict es ep->H b=none:=fun {b o es ep} e d=>by
   cases q:H b with
   | none=>rfl
   | some u =>
    have e':b=a:=hA b (by rw [q];simp)
    subst e'
    rw [ha] at e;cases e
    have d':Data.seq vs.toArray _=Data.dict es ep:=d
    cases d'
  have nsK:∀ {b:Addr} {m:Str->Option Value},s₁.heap.Ns b m->(hidT s₁.heap H).Ns b m:=fun {b m} ⟨o,es,ep,e,d,r⟩=>⟨o,es,ep,base_of e (noA e d),d,r⟩
  have hKb:K.In (hidT s₁.heap H):=fun b o e=>base_of (KX b o e) (by
   cases q:H b with
   | none=>rfl
   | some u =>
    have e':b=a:=hA b (by rw [q];simp)
    subst e'
    rw [hK (by rw [q];simp)] at e;cases e)
  have hM:Mod K mg (hidT s₁.heap H):=⟨hKb,nsK hns,⟨mb,nsK hb,hbb⟩,let ⟨mc,h1,h2⟩:=hlim;⟨mc,nsK h1,h2⟩⟩
  have e0:Env0 P w K mg (hidT s₁.heap H) callerA [] s₁ H:=⟨rfl,hM,fun b o e=>qmt e,Nat.le_of_eq (qi8 _ _),trivial,fun b hb=>absurd (show b∈([]:List Addr) from hb) (by simp),hok, .of_eq hg⟩
  refine codeAny_mono ((F _ hKb (nsK hns)).run callerA [] s₁ H ⟨[.ref a],[]⟩ [.ref a] [.ref a] _ _ hr e0 (hbind s₁ (.ref a)) (.cons rfl .nil) (hsp H hO hS)) fun r s' h=>?_
  cases r with
  | error e=>exact (hCX H e s' h).elim
  | ok fl =>
   cases fl with
   | next=>exact False.elim h
   | brk=>exact False.elim h
   | cont=>exact False.elim h
   | ret u =>
    obtain ⟨v,H',os,bare,un,hok',r',q⟩:=h
    have q':v=.bl true:=q
    subst q'
    obtain rfl:u=Value.bool true:=r'
    refine ⟨rfl,OldK.of_keep fun b o e=>?_,os,bare⟩
    cases q:H b with
    | none=>exact un.keep b o e q (by intro z;exact absurd (show b∈([]:List Addr) from z) (by simp)) (by simp)
    | some u =>
     rcases hO b with z | ⟨ob,xs,z⟩
     ·rw [q] at z;cases z
     ·have z2:=un.frzs b ob _ z
      obtain ⟨e1,_⟩:=hok b _ z
      obtain ⟨e2,_⟩:=hok' b _ z2
      rw [e] at e1;cases e1
      exact e2
 cases hk:K.lookup a with
 | some o =>
  have e:=KX a o hk
  rw [ha] at e
  cases e
  refine core (fun _=>none) (fun _=>.inl rfl) (.inr ⟨_,vs.toArray,_,hk,rfl,rfl,rfl,by rw [List.size_toArray,lenV];exact hl,by simpa using rv⟩) (fun b u z=>by have z':(none:Option HO)=some u:=z;cases z') (fun b z=>absurd rfl z) fun z=>absurd rfl z
 | none =>
  refine core (fun b=>if b=a then some (.frz {cls:=.type "list",data:=.seq vs.toArray} (.lst (ns.map V.int))) else none) (fun b=>?_) (.inl (.inr ⟨{cls:=.type "list",data:=.seq vs.toArray},if_pos rfl⟩)) (fun b u z=>?_) (fun b z=>?_) fun _=>hk
  ·by_cases hb:b=a
   ·exact .inr ⟨_,_,if_pos hb⟩
   ·exact .inl (if_neg hb)
  ·by_cases hb:b=a
   ·have z':=(if_pos hb).symm.trans z
    cases z'
    subst hb
    exact ⟨ha,by rw [List.length_map];exact hl,vs,_,rv,ha⟩
   ·have z':=(if_neg hb).symm.trans z
    cases z'
  ·by_cases hb:b=a
   ·exact hb
   ·exact absurd (if_neg hb) z
end L2
namespace L2
open PySem PySem.Spec PyProof.Rows
theorem qmu {l:PySem.W.OpenLaw} {n k:Nat} {q:Program} {loose:List Str} {XP:(Str->Option Value)->Heap->Prop} {YP:World->Heap->Prop} {d:DefRec} {K:Params->PySem.W.Frag} {CX:World->CXT} {sp:World->Sp} {x:Str}
  (hn:l.most=some n) (hn2:n<=sizeLine) (hdf:d.params.defaults=[]) (hr:Room k callerA)
  (hY:∀ (w:World) (h:Heap),YP w h->(K w.params).In h)
  (F:∀ (w:World) (mg:Str->Option Value) (fa:Addr) (h:Heap),(K w.params).In h->h.Ns mainGlobals mg->mg d.name=some (.ref fa) ->
   ∃ fd:FuncData,(∀ (s:Shared) (u:Value),BindsTo s fd ⟨[u],[]⟩ [(x,u)]) /\
    ∀ base:Heap,(K w.params).In base->base.Ns mainGlobals mg->FnOk l.prog w (K w.params) mg base (CX w) k fa fd [x] (sp w))
  (hsp:∀ (w:World) (H:Hp) (a:Addr) (ns:List Int),ns.length<=n->Only H->SqL (K w.params) H a (ns.map V.int)->sp w [.ref a] H (fun v _=>v=.bl true) fun _ _ _=>False)
  (hCX:∀ (w:World) (H:Hp) (s:Shared) (e:Value) (s':Shared),CX w [] H s (fun _ _ _=>False) e s'->False) :
  PySem.W.WalkO q loose XP YP l.row.toRowW d [] (fun f vs=>PySem.call f vs):=by
 refine Att.qfj hn hdf fun w s₀ s₁ mg mb fa o pm cd doc a vs ns G Y ho hd hcd hmg hobj hints hlen hg=>?_
 have KX:=hY w _ Y
 obtain ⟨fd,hb,hF⟩:=F w mg fa _ KX G.T.g hmg
 exact qlu KX G.T.g G.T.b G.T.builtins G.T.nolimit hg hobj hints (Nat.le_trans hlen hn2) hr hF hb (fun H hO hS=>hsp w H a ns hlen hO hS) fun H e s' => hCX w H s₁ e s'
end L2
namespace L2
open PySem PySem.Spec PyProof.Rows
def q1n (s:Stmt):Arguments:=match s with
 | .FunctionDef _ a _ _ _ _ _ _ _ _=>a
 | _=>{posonlyargs:=[],args:=[],vararg:=none,kwonlyargs:=[],kw_defaults:=[],kwarg:=none,defaults:=[]}
def q1g (s:Stmt):List Stmt:=match s with
 | .FunctionDef _ _ b _ _ _ _ _ _ _=>b
 | _=>[]
def q0f (s:Stmt):Scope:=match s with
 | .FunctionDef _ _ _ _ _ _ sc _ _ _=>sc
 | _=>{kind:=.function,names:=[],isGenerator:=false,isCoroutine:=false}
abbrev CX0:CXT:=fun _ _ _ _ _ _=>False
abbrev E0:XK:=fun _ _ _=>False
structure Fun (K:PySem.W.Frag) (x qual:Str) (st:Stmt) (f:Addr) (fd:FuncData):Prop where
 ex:∃ (oc:Value) (od:Option Addr) (kV doc pm:Value) (an:Option Addr) (cdv ct:Value) (osl:Array (Option Value)),
  fd=PySem.W.fnOf x qual (q1n st) (q1g st) (q0f st) .none kV doc pm an cdv ct/\K.lookup f=some ⟨oc,od, .func fd,osl⟩/\PySem.W.codeIn K cdv qual=true
 kp:PySem.W.keepIn K (.ref f)=true
section
variable {P:Program} {w:World} {K:PySem.W.Frag} {mg:Str->Option Value} {base:Heap}
theorem Fun.ok {x qual:Str} {st:Stmt} {f:Addr} {fd:FuncData} {N ps:List Str} {k:Nat} {sp:Sp} (F:Fun K x qual st f fd) (S:q1r N ps (q0f st)) (len:∀ vs H Q E,sp vs H Q E->vs.length=ps.length)
  (hbody:∀ (cdv:Value) (A:Around) (outer:List Env) (s:Shared) (H:Hp) (vs:List V) (Q:VK) (E:XK),Room k (A.deeper (envOfC qual (q0f st) s.heap.objs.size f cdv))->sp vs H Q E ->
   ∃ t,PSs (cxOf CX0 P w K mg base N qual (q0f st) f cdv A outer s H E).nox (q1g st) t/\t {nx:=fun _ H' => Q .non H',rt:=Q} (start N vs) H):FnOk P w K mg base CX0 (k+1) f fd ps sp:=by
 obtain ⟨oc,od,kV,doc,pm,an,cdv,ct,osl,rfl,lk,hcd⟩:=F.ex
 refine fn_of lk hcd S len fun A outer s H vs Q E hr hsp=>?_
 obtain ⟨t,h,q⟩:=hbody cdv A outer s H vs Q E hr hsp
 exact ⟨t,h.nox,q⟩
theorem Fun.binds {x qual:Str} {st:Stmt} {f:Addr} {fd:FuncData} {ps:List Str} (F:Fun K x qual st f fd)
  (h:∀ (kV doc pm:Value) (an:Option Addr) (cdv ct:Value) (us:List Value),us.length=ps.length->bindArgs (PySem.W.fnOf x qual (q1n st) (q1g st) (q0f st) .none kV doc pm an cdv ct) ⟨us,[]⟩=pure (ps.zip us)):Binds K fd ps []:=by
 obtain ⟨oc,od,kV,doc,pm,an,cdv,ct,osl,rfl,lk,hcd⟩:=F.ex
 exact .all (h kV doc pm an cdv ct)
theorem q2h {x qual:Str} {st:Stmt} {f:Addr} {oc:Value} {od an:Option Addr} {osl:Array (Option Value)} {kV doc pm cdv ct:Value} (l:K.lookup f=some ⟨oc,od, .func (PySem.W.fnOf x qual (q1n st) (q1g st) (q0f st) .none kV doc pm an cdv ct),osl⟩)
  (c:PySem.W.codeIn K cdv qual=true) (k:PySem.W.keepIn K (.ref f)=true):Fun K x qual st f (PySem.W.fnOf x qual (q1n st) (q1g st) (q0f st) .none kV doc pm an cdv ct):=⟨⟨oc,od,kV,doc,pm,an,cdv,ct,osl,rfl,l,c⟩,k⟩
end
theorem q2p {A:Around} {k:Nat} (hr:Room k A):A.units+1<cLine:=Nat.lt_of_le_of_lt (Nat.add_le_add_left (by decide:1<=64) _) hr.units
section
variable {X:Cx}
theorem pv (i:Nat) {x:Str} {pos:Pos} (hN:X.N[i]?=some x:=by rfl) (hv:Vis X.env.scope x:=by first | exact Or.inl rfl | exact Or.inr (Or.inl rfl) | exact Or.inr (Or.inr rfl)) (hd:(x == ("__debug__" : Str))=false:=by decide)
  (hcd:(x == ("__classdict__" : Str))=false:=by decide):PE X (.Name x pos) (tVar i):=pe_var hN hv hd hcd
end
theorem iteF {A B:Prop} (h:B):if false=true then A else B:=by
 rw [if_neg Bool.false_ne_true]
 exact h
theorem iteT {A B:Prop} (h:A):if true=true then A else B:=by
 rw [if_pos rfl]
 exact h
end L2
namespace L2
open PySem PySem.Spec PyProof.Rows
section
variable {κ:Type} [DecidableEq κ]
def valV (kvs:List (κ×V)) (k:κ):Option V:=(kvs.find? fun kv=>decide (kv.1=k)).map (·.2)
def putK (kvs:List (κ×V)) (k:κ) (v:V):List (κ×V):=
 if (kvs.any fun kv=>decide (kv.1=k))=true then kvs.map (fun kv=>if kv.1=k then (kv.1,v) else kv) else kvs++[(k,v)]
def q50 (kvs:List (κ×V)) (k:κ):List (κ×V):=kvs.filter fun kv=>decide (kv.1≠k)
theorem q7q {p:κ×V} {r:List (κ×V)} {k:κ} (e:p.1=k):valV (p::r) k=some p.2:=by simp [valV,List.find?_cons,e]
theorem q7t {p:κ×V} {r:List (κ×V)} {k:κ} (e:¬ p.1=k):valV (p::r) k=valV r k:=by simp [valV,List.find?_cons,e]
theorem qdv (k:κ):∀ kvs:List (κ×V),(kvs.any fun kv=>decide (kv.1=k))=(valV kvs k).isSome
 | []=>rfl
 | p::r=>by
  rw [List.any_cons]
  by_cases e:p.1=k
  ·simp only [q7q e,decide_eq_true e,Bool.true_or,Option.isSome_some]
  ·rw [q7t e,decide_eq_false e,Bool.false_or];exact qdv k r
theorem q5n (kvs:List (κ×V)) (k:κ) (v:V):(putK kvs k v).length<=kvs.length+1:=by
 unfold putK
 split
 ·rw [List.length_map];omega
 ·rw [List.length_append,List.length_cons,List.length_nil];omega
theorem RelO.q5q {o:Option V} {u:Option Value} (r:RelO o u):o.isSome=u.isSome:=by
 cases o with
 | none=>cases u with
  | none=>rfl
  | some _=>exact (show False from r).elim
 | some _=>cases u with
  | none=>exact (show False from r).elim
  | some _=>rfl
theorem KV.val {kvs:List (κ×V)} {vs:List (κ×Value)} (r:KV kvs vs) (k:κ):RelO (valV kvs k) (valueAt vs k):=by
 unfold KV at r
 induction r with
 | nil=>exact True.intro
 | @cons p q ps qs h t ih =>
  obtain ⟨h1,h2⟩:=h
  by_cases e:p.1=k
  ·have e':q.1=k:=h1.symm.trans e
   have b:valueAt (q::qs) k=some q.2:=by simp [valueAt,List.find?_cons,e']
   rw [q7q e,b];exact h2
  ·have e':¬ q.1=k:=fun z=>e (h1.trans z)
   have b:valueAt (q::qs) k=valueAt qs k:=by simp [valueAt,List.find?_cons,e']
   rw [q7t e,b];exact ih
theorem KV.any {kvs:List (κ×V)} {vs:List (κ×Value)} (r:KV kvs vs) (k:κ):(kvs.any fun kv=>decide (kv.1=k))=vs.any fun kv=>decide (kv.1=k):=by
 unfold KV at r
 induction r with
 | nil=>rfl
 | cons h t ih=>rw [List.any_cons,List.any_cons,ih,h.1]
theorem KV.repl {kvs:List (κ×V)} {vs:List (κ×Value)} (r:KV kvs vs) (k:κ) {y:V} {u:Value} (ry:RelV y u) :
  KV (kvs.map fun kv=>if kv.1=k then (kv.1,y) else kv) (vs.map fun kv=>if kv.1=k then (kv.1,u) else kv):=by
 unfold KV at r ⊢
 induction r with
 | nil=>exact .nil
 | @cons p q ps qs h t ih =>
  rw [List.map_cons,List.map_cons]
  refine .cons ?_ ih
  obtain ⟨h1,h2⟩:=h
  by_cases e:p.1=k
  ·rw [if_pos e,if_pos (h1.symm.trans e)];exact ⟨h1,ry⟩
  ·rw [if_neg e,if_neg (fun z=>e (h1.trans z))];exact ⟨h1,h2⟩
theorem KV.put {kvs:List (κ×V)} {vs:List (κ×Value)} (r:KV kvs vs) (k:κ) {y:V} {u:Value} (ry:RelV y u):KV (putK kvs k y) (stored vs k u):=by
 unfold putK stored
 rw [r.any k]
 by_cases e:(vs.any fun kv=>decide (kv.1=k))=true
 ·rw [if_pos e,if_pos e];exact r.repl k ry
 ·rw [if_neg e,if_neg e];exact Paired.snoc r ⟨rfl,ry⟩
theorem KV.drop {kvs:List (κ×V)} {vs:List (κ×Value)} (r:KV kvs vs) (k:κ):KV (q50 kvs k) (without vs k):=by
 unfold KV at r ⊢
 unfold q50 without
 induction r with
 | nil=>exact .nil
 | @cons p q ps qs h t ih =>
  obtain ⟨h1,h2⟩:=h
  rw [List.filter_cons,List.filter_cons]
  by_cases e:p.1=k
  ·have a:¬ decide (p.1≠k)=true:=by simp [e]
   have b:¬ decide (q.1≠k)=true:=by simp [h1.symm.trans e]
   rw [if_neg a,if_neg b];exact ih
  ·have e':¬ q.1=k:=fun z=>e (h1.trans z)
   have a:decide (p.1≠k)=true:=by simp [e]
   have b:decide (q.1≠k)=true:=by simp [e']
   rw [if_pos a,if_pos b];exact .cons ⟨h1,h2⟩ ih
theorem KV.length {kvs:List (κ×V)} {vs:List (κ×Value)} (r:KV kvs vs):kvs.length=vs.length:=Paired.length r
theorem qlr (kvs:List (κ×V)) (k:κ):(q50 kvs k).length<=kvs.length:=List.length_filter_le _ _
end
theorem q61 {P:Program} {w:World} {k:Key} {u:Value} (r:RelV (kV k) u):(q20 P w).is k u=true:=by
 cases k with
 | inl i=>obtain ⟨t,e⟩:=(show ∃ t,u=Value.int i t from r);subst e;exact qff P w i t
 | inr x=>obtain ⟨t,e⟩:=(show ∃ t,u=Value.str x t from r);subst e;exact qf8 P w x t
theorem qci {P:Program} {w:World}:∀ {ks:List Key} {us:List Value},Vals (ks.map kV) us->ItemsAre (q20 P w) ks us
 | [],_,r=>by rw [List.map_nil] at r;cases r;exact .nil
 | k::ks,_,r=>by
  rw [List.map_cons] at r
  cases r with
  | cons h t=>exact .cons (q61 h) (qci t)
abbrev KT (H:Hp):List (List Key×V)->List (List Key×Addr×Value)->Prop:=Paired fun p q=>p.1=q.1/\H q.2.1=some (.tup (p.1.map kV))/\RelV p.2 q.2.2
theorem KT.val {H:Hp} {kvs:List (List Key×V)} {xs:List (List Key×Addr×Value)} (r:KT H kvs xs) (k:List Key):RelO (valV kvs k) ((atKey xs k).map (·.2)):=by
 induction r with
 | nil=>exact True.intro
 | @cons p q ps qs h t ih =>
  obtain ⟨h1,_,h2⟩:=h
  by_cases e:p.1=k
  ·have e':q.1=k:=h1.symm.trans e
   have b:atKey (q::qs) k=some q.2:=by simp [atKey,List.find?_cons,e']
   rw [q7q e,b];exact h2
  ·have e':¬ q.1=k:=fun z=>e (h1.trans z)
   have b:atKey (q::qs) k=atKey qs k:=by simp [atKey,List.find?_cons,e']
   rw [q7t e,b];exact ih
theorem KT.repl {H:Hp} {kvs:List (List Key×V)} {xs:List (List Key×Addr×Value)} (r:KT H kvs xs) (k:List Key) {y:V} {u:Value} (ry:RelV y u) :
  KT H (kvs.map fun kv=>if kv.1=k then (kv.1,y) else kv) (xs.map (putAt k u)):=by
 induction r with
 | nil=>exact .nil
 | @cons p q ps qs h t ih =>
  rw [List.map_cons,List.map_cons]
  refine .cons ?_ ih
  obtain ⟨h1,h2,h3⟩:=h
  unfold putAt
  by_cases e:p.1=k
  ·rw [if_pos e,if_pos (h1.symm.trans e)];exact ⟨h1,h2,ry⟩
  ·rw [if_neg e,if_neg (fun z=>e (h1.trans z))];exact ⟨h1,h2,h3⟩
theorem KT.put {H:Hp} {kvs:List (List Key×V)} {xs:List (List Key×Addr×Value)} (r:KT H kvs xs) (k:List Key) {b:Addr} {y:V} {u:Value} (hb:H b=some (.tup (k.map kV))) (ry:RelV y u) :
  KT H (putK kvs k y) (storedH xs k b u):=by
 have e:(kvs.any fun kv=>decide (kv.1=k))=(atKey xs k).isSome:=by
  rw [qdv,(r.val k).q5q,Option.isSome_map]
 unfold putK storedH
 rw [e]
 by_cases q:(atKey xs k).isSome=true
 ·rw [if_pos q,if_pos q];exact r.repl k ry
 ·rw [if_neg q,if_neg q];exact Paired.snoc r ⟨rfl,hb,ry⟩
theorem KT.keeps {H H':Hp} {kvs:List (List Key×V)} {xs:List (List Key×Addr×Value)} (r:KT H kvs xs) (ht:∀ b ys,H b=some (.tup ys)->H' b=some (.tup ys)):KT H' kvs xs:=
 Paired.mapP r fun _ _ z=>⟨z.1,ht _ _ z.2.1,z.2.2⟩
section
variable {P:Program} {w:World} {H:Hp} {h:Heap} {a:Addr}
theorem rd_of {u:HO} (ok:HOk P w H h) (e:Rd H a u):q1s P w H h a u:=e.ok ok
theorem q8t {kvs:List (Key×V)} (ok:HOk P w H h) (e:Rd H a (.dK kvs)):kvs.length<=sizeLine/\(a == sysModules)=false/\∃ vs,KV kvs vs/\h.DictOf (q20 P w) a vs:=
 show q1s P w H h a (.dK kvs) from rd_of ok e
theorem qat {kvs:List (Key×V)} (ok:HOk P w H h) (e:H a=some (.dK kvs)):kvs.length<=sizeLine/\(a == sysModules)=false/\∃ vs,KV kvs vs/\h.DictOf (q20 P w) a vs:=q8t ok (.inl e)
theorem q7z {ks:List Key} (ok:HOk P w H h) (e:H a=some (.tup (ks.map kV))):(tupleKind (q20 P w)).is h ks a:=by
 obtain ⟨_,its,r,o,h1,h2,n,h3⟩:=(show q1s P w H h a (.tup (ks.map kV)) from ok a _ e)
 exact ⟨o,its.toArray,n,h1,h2,h3,by simpa using qci r⟩
theorem q8n {kvs:List (List Key×V)} (ok:HOk P w H h) (e:Rd H a (.dT kvs)):kvs.length<=sizeLine/\(a == sysModules)=false /\
  ∃ xs,KT H kvs xs/\h.DictOfH (tupleKind (q20 P w)) a xs:=by
 obtain ⟨z,y,xs,r,o,es,ep,h1,h2,h3,h4,h5⟩:=(show q1s P w H h a (.dT kvs) from rd_of ok e)
 refine ⟨z,y,xs,r,o,es,ep,h1,h2,h3,h4,fun x hx=>?_,h5⟩
 have all:∀ {l:List (List Key×V)} {m:List (List Key×Addr×Value)},KT H l m->∀ x∈m,(tupleKind (q20 P w)).is h x.1 x.2.1:=by
  intro l m q
  induction q with
  | nil=>intro x hx;exact nomatch hx
  | @cons p q ps qs hq t ih =>
   intro x hx
   rcases List.mem_cons.mp hx with e | hx
   ·subst e
    exact q7z ok (by rw [<- hq.1];exact hq.2.1)
   ·exact ih x hx
 exact all r x hx
theorem dt_of {kvs:List (List Key×V)} (ok:HOk P w H h) (e:H a=some (.dT kvs)):kvs.length<=sizeLine/\(a == sysModules)=false /\
  ∃ xs,KT H kvs xs/\h.DictOfH (tupleKind (q20 P w)) a xs:=q8n ok (.inl e)
end
def DGet (H:Hp) (a:Addr) (y:V) (r:Option V):Prop:=
 (∃ kvs k,Rd H a (.dK kvs)/\y=kV k/\r=valV kvs k)\/∃ kvs k b,Rd H a (.dT kvs)/\y=.ref b/\H b=some (.tup (k.map kV))/\r=valV kvs k
def DPut (H:Hp) (a:Addr) (y v:V) (H':Hp):Prop:=
 (∃ kvs k,H a=some (.dK kvs)/\y=kV k/\kvs.length<sizeLine/\H'=upd H a (.dK (putK kvs k v))) \/
 ∃ kvs k b,H a=some (.dT kvs)/\y=.ref b/\H b=some (.tup (k.map kV))/\kvs.length<sizeLine/\H'=upd H a (.dT (putK kvs k v))
section
variable {X:Cx} {pins:List (Addr×Obj)} {σ:St} {H:Hp} {s:Shared} {a:Addr} {y v:V} {u r:Value} {o:Option V} {A:Around} {E:Value->Shared->Prop}
theorem Inv.big (I:Inv X pins σ H s):sysModules<s.heap.objs.size:=by
 have h:mainGlobals<s.heap.objs.size:=(I.mod.glob.keeps I.bk).lt
 exact Nat.lt_trans (by decide) h
theorem qjb {Q:Value->Shared->Prop} (hu:A.units+1<cLine) (I:Inv X pins σ H s) (g:DGet H a y (some v)) (ry:RelV y u) (h:∀ w' s',Inv X pins σ H s'->RelV v w'->Q w' s') :
  wpAny (model X.prog X.w) A (getItem (.ref a) u) Q E s:=by
 rcases g with ⟨kvs,k,e,ey,l⟩ | ⟨kvs,k,b,e,ey,eb,l⟩
 ·subst ey
  obtain ⟨z,hd,vs,rel,dd⟩:=q8t I.hok e
  obtain ⟨w',hw,rw'⟩:=RelO.some_of (v:=v) (o:=valueAt vs k) (by rw [l];exact rel.val k)
  exact wpAny_getItem_of (q61 ry) dd.mapOf hw (h w' _ (I.tok _) rw')
 ·subst ey
  cases (show u=Value.ref b from ry)
  obtain ⟨z,hd,xs,rel,dd⟩:=q8n I.hok e
  obtain ⟨w',hw,rw'⟩:=RelO.some_of (v:=v) (o:=(atKey xs k).map (·.2)) (by rw [l];exact rel.val k)
  obtain ⟨p,hp,hp2⟩:=Option.map_eq_some_iff.mp hw
  refine wpAny_getItem_heap (tupleKind_room_in1 hu) (q7z I.hok eb) dd hp ?_
  rw [hp2]
  exact h w' _ (I.tok _) rw'
theorem d_in {Q:Value->Shared->Prop} (hu:A.units+1<cLine) (I:Inv X pins σ H s) (g:DGet H a y o) (ry:RelV y u) (h:∀ s',Inv X pins σ H s'->Q (.bool o.isSome) s') :
  wpAny (model X.prog X.w) A (compareOp .In u (.ref a)) Q E s:=by
 rcases g with ⟨kvs,k,e,ey,l⟩ | ⟨kvs,k,b,e,ey,eb,l⟩
 ·subst ey
  obtain ⟨z,hd,vs,rel,dd⟩:=q8t I.hok e
  refine wpAny_in_of (q61 ry) hd dd.mapOf ?_
  rw [<- (rel.val k).q5q, <- l]
  exact h _ (I.tok _)
 ·subst ey
  cases (show u=Value.ref b from ry)
  obtain ⟨z,hd,xs,rel,dd⟩:=q8n I.hok e
  refine wpAny_in_heap (tupleKind_room_in1 hu) (q7z I.hok eb) hd dd ?_
  have q:=(rel.val k).q5q
  rw [Option.isSome_map] at q
  rw [<- q, <- l]
  exact h _ (I.tok _)
theorem qmg {Q:Value->Shared->Prop} (hu:A.units+1<cLine) (I:Inv X pins σ H s) (g:DGet H a y o) (ry:RelV y u) (h:∀ s',Inv X pins σ H s'->Q (.bool (!o.isSome)) s') :
  wpAny (model X.prog X.w) A (compareOp .NotIn u (.ref a)) Q E s:=by
 rcases g with ⟨kvs,k,e,ey,l⟩ | ⟨kvs,k,b,e,ey,eb,l⟩
 ·subst ey
  obtain ⟨z,hd,vs,rel,dd⟩:=q8t I.hok e
  refine wpAny_notIn_of (q61 ry) hd dd.mapOf ?_
  rw [<- (rel.val k).q5q, <- l]
  exact h _ (I.tok _)
 ·subst ey
  cases (show u=Value.ref b from ry)
  obtain ⟨z,hd,xs,rel,dd⟩:=q8n I.hok e
  refine wpAny_notIn_heap (tupleKind_room_in1 hu) (q7z I.hok eb) hd dd ?_
  have q:=(rel.val k).q5q
  rw [Option.isSome_map] at q
  rw [<- q, <- l]
  exact h _ (I.tok _)
theorem q76 {h':Heap} {t':Nat} {ob:HO} (I:Inv X pins σ H s) (mu:Mut (H a)) (hs:Heap.SameBut a s.heap h') (he:∃ q,h'.get? a=some q) (new:q1s X.prog X.w (upd H a ob) h' a ob) :
  Inv X pins σ (upd H a ob) {s with heap:=h',toks:=t'}:=
 I.write (x:=a) (e:=a) mu (.inl rfl) (fun b q hb z=>(hs.2 b hb).trans z) he new
theorem q9y {P:Program} {w:World} {H':Hp} {h':Heap} {kvs:List (Key×V)} {vs:List (Key×Value)} (z:kvs.length<=sizeLine) (hd:(a == sysModules)=false) (rel:KV kvs vs) (dd:h'.DictOf (q20 P w) a vs) :
  q1s P w H' h' a (.dK kvs):=⟨z,hd,vs,rel,dd⟩
theorem qjf {H':Hp} {Q:Unit->Shared->Prop} (hu:A.units+1<cLine) (I:Inv X pins σ H s) (g:DPut H a y v H') (ry:RelV y u) (rv:RelV v r) (h:∀ s',Inv X pins σ H' s'->Q () s') :
  wpAny (model X.prog X.w) A (setItem (.ref a) u r) Q E s:=by
 rcases g with ⟨kvs,k,e,ey,l,eH⟩ | ⟨kvs,k,b,e,ey,eb,l,eH⟩
 ·subst ey eH
  obtain ⟨z,hd,vs,rel,dd⟩:=qat I.hok e
  have hz:vs.length<=sizeLine:=by rw [<- rel.length];exact z
  have hl:(putK kvs k v).length<=sizeLine:=by have:=q5n kvs k v;omega
  refine wpAny_setItem_pairs (hsz:=hz) (q61 ry) dd fun h' dd' hs=>h _ ?_
  have he:∃ q,h'.get? a=some q:=let ⟨q,_,_,hq,_⟩:=dd';⟨q,hq⟩
  exact q76 I (by rw [e];exact True.intro) hs he (q9y hl hd (rel.put k rv) dd')
 ·subst ey eH
  cases (show u=Value.ref b from ry)
  obtain ⟨z,hd,xs,rel,dd⟩:=dt_of I.hok e
  have hz:xs.length<=sizeLine:=by rw [<- Paired.length rel];exact z
  have hl:(putK kvs k v).length<=sizeLine:=by have:=q5n kvs k v;omega
  refine wpAny_setItem_heap (hsz:=hz) (tupleKind_room_in1 hu) (q7z I.hok eb) dd fun h' dd' hs=>h _ ?_
  obtain ⟨q,es,ep,hq,h2,h3,h4,_,h5⟩:=dd'
  refine q76 I (by rw [e];exact True.intro) hs ⟨q,hq⟩ ⟨hl,hd,_,(rel.put k eb rv).keeps fun c ys ec=>?_,q,es,ep,hq,h2,h3,h4,h5⟩
  rw [q0p (qhb ec e (fun z=>nomatch z))]
  exact ec
end
section
variable {X:Cx} {pins:List (Addr×Obj)} {σ:St} {H:Hp} {s:Shared} {a:Addr} {kvs:List (Key×V)} {k:Key} {u:Value} {A:Around} {E:Value->Shared->Prop}
theorem d_pop {v:V} {more:List Value} {Q:Value->Shared->Prop} (I:Inv X pins σ H s) (e:H a=some (.dK kvs)) (ry:RelV (kV k) u) (l:valV kvs k=some v) (hm:more=[]\/∃ x,more=[x])
  (h:∀ w' s',Inv X pins σ (upd H a (.dK (q50 kvs k))) s'->RelV v w'->Q w' s'):wpAny (model X.prog X.w) A (call (.builtin "dict.pop") (.ref a::u::more)) Q E s:=by
 obtain ⟨z,hd,vs,rel,dd⟩:=qat I.hok e
 obtain ⟨w',hw,rw'⟩:=RelO.some_of (v:=v) (o:=valueAt vs k) (by rw [<- l];exact rel.val k)
 have hp:(keyPart u).isSome=true:=by
  cases k with
  | inl i=>obtain ⟨t,q⟩:=(show ∃ t,u=Value.int i t from ry);subst q;rfl
  | inr x=>obtain ⟨t,q⟩:=(show ∃ t,u=Value.str x t from ry);subst q;rfl
 have ha:argsOk "dict.pop" ⟨.ref a::u::more,[]⟩:=by
  rcases hm with q | ⟨x,q⟩
  ·subst q;exact PySem.F.args_dict_pop_2 _ _
  ·subst q;exact PySem.F.args_dict_pop_3 _ _ _
 refine call_meetsIn PySem.F.slot_dict_pop dd.typeIs PySem.F.entry_dict_pop ha (meets_dict_pop_there (q20 X.prog X.w) a (q61 ry) more hm hp)
  ⟨vs,w',dd,by rw [<- rel.length];exact z,hw,fun h' dd' hs=>h w' _ ?_ rw'⟩
 have he:∃ q,h'.get? a=some q:=let ⟨q,_,_,hq,_⟩:=dd';⟨q,hq⟩
 exact q76 I (by rw [e];exact True.intro) hs he (q9y (Nat.le_trans (qlr kvs k) z) hd (rel.drop k) dd')
theorem d_popD {r:Value} {Q:Value->Shared->Prop} (I:Inv X pins σ H s) (e:H a=some (.dK kvs)) (ry:RelV (kV k) u) (l:valV kvs k=none) (h:∀ s',Inv X pins σ H s'->Q r s') :
  wpAny (model X.prog X.w) A (call (.builtin "dict.pop") [.ref a,u,r]) Q E s:=by
 obtain ⟨z,hd,vs,rel,dd⟩:=qat I.hok e
 have hn:valueAt vs k=none:=RelO.none_of (by rw [<- l];exact rel.val k)
 have hp:(keyPart u).isSome=true:=by
  cases k with
  | inl i=>obtain ⟨t,q⟩:=(show ∃ t,u=Value.int i t from ry);subst q;rfl
  | inr x=>obtain ⟨t,q⟩:=(show ∃ t,u=Value.str x t from ry);subst q;rfl
 exact call_meetsIn PySem.F.slot_dict_pop dd.typeIs PySem.F.entry_dict_pop (PySem.F.args_dict_pop_3 _ _ _) (meets_dict_pop_default (q20 X.prog X.w) a (q61 ry) hd hp r) ⟨vs,dd,hn,h _ (I.tok _)⟩
end
def NoSl (i:Expr):Prop:=∀ ov iv,subscripted i false ov iv=operate [ov,iv] (getItem ov iv)
theorem qna {prog:Program} {w:World} {A:Around} {E:Value->Shared->Prop} {s:Shared} {env:Env} {value slice:Expr} {pos:Pos} {T id:String} {Q:Value->Shared->Prop}
  (hl:typeLookup (.type T) "__getitem__" = pure (some (.builtin id))) (hs:NoSl slice)
  (h:wpAny (model prog w) A (eval value env) (fun o s₁=>wpAny (model prog w) A (eval slice env) (fun i s₂=>s₂.TypeIs o T/\wpAny (model prog w) A (getItem o i) Q E s₂) E s₁) E s) :
  wpAny (model prog w) A (eval (.Subscript value slice pos) env) Q E s:=by
 refine Subscript_ (wpAny_mono h (fun o s₁ h₁=>wpAny_mono h₁ (fun i s₂ h₂=>?_) fun _ _ x=>x) fun _ _ x=>x)
 obtain ⟨hT,h₂⟩:=h₂
 unfold subscriptTail
 refine wpAny_bind ?_
 rw [getitemInPython_of_ne hT.not_modules]
 refine wpAny_bind (wpAny_specialOf hT hl ?_)
 have fin:wpAny (model prog w) A (subscripted slice false o i) (fun r s₃=>wpAny (model prog w) A (letTemporaryGo value o r >>= fun _=>pure r) Q E s₃) E s₂:=by
  rw [hs o i]
  exact wpAny_operating (wpAny_mono h₂ (fun r s₃ h₃=>wpAny_bind (wpAny_letTemporaryGo (wpAny_pure h₃))) fun _ _ x=>x)
 first
  | exact wpAny_pure (wpAny_bind fin)
  | exact wpAny_bind (wpAny_pure (wpAny_bind fin))
  | exact wpAny_bind fin
theorem qfh {X:Cx} {pins:List (Addr×Obj)} {σ:St} {H:Hp} {s:Shared} {a:Addr} {y:V} {o:Option V} (I:Inv X pins σ H s) (g:DGet H a y o):s.TypeIs (.ref a) "dict":=by
 rcases g with ⟨kvs,k,e,_,_⟩ | ⟨kvs,k,b,e,_,_,_⟩
 ·obtain ⟨_,_,vs,_,dd⟩:=q8t I.hok e
  exact dd.typeIs
 ·obtain ⟨_,_,xs,_,dd⟩:=q8n I.hok e
  exact dd.typeIs
def tDGet (td ty:TE):TE:=fun σ H Q=>td σ H fun x H1=>ty σ H1 fun y H2=>∃ a v,x=.ref a/\DGet H2 a y (some v)/\Q v H2
def tDIn (ty td:TE):TE:=fun σ H Q=>ty σ H fun y H1=>td σ H1 fun x H2=>∃ a o,x=.ref a/\DGet H2 a y o/\Q (.bl o.isSome) H2
def qga (ty td:TE):TE:=fun σ H Q=>ty σ H fun y H1=>td σ H1 fun x H2=>∃ a o,x=.ref a/\DGet H2 a y o/\Q (.bl (!o.isSome)) H2
def sDPut (td ty tv:TE):TS:=fun D σ H=>tv σ H fun v H1=>td σ H1 fun x H2=>ty σ H2 fun y H3=>∃ a H4,x=.ref a/\DPut H3 a y v H4/\D.nx σ H4
section
variable {X:Cx} {o i e value:Expr} {pos pos' tpos:Pos} {td ty tv:TE}
theorem q0i (hu:X.A.units+1<cLine) (ho:PE X o td) (hi:PE X i ty) (hs:NoSl i):PE X (.Subscript o i pos) (tDGet td ty):=by
 intro pins s σ H Q I h
 refine qna PySem.F.slot_dict_getitem.lookup hs (thn (ho pins s σ H _ I h) fun u s1 ⟨x,H1,I1,rx,q1⟩=>thn (hi pins s1 σ H1 _ I1 q1) fun iv s2 ⟨y,H2,I2,ry,a,v,ex,g,q2⟩=>?_)
 subst ex
 obtain rfl:u=Value.ref a:=rx
 exact ⟨qfh I2 g,qjb hu I2 g ry fun w' s3 I3 rw' => ⟨v,H2,I3,rw',q2⟩⟩
theorem qdn (hu:X.A.units+1<cLine) (hi:PE X i ty) (ho:PE X o td):PC X .In i o (tDIn ty td):=by
 intro pins s σ H Q I h
 refine thn (hi pins s σ H _ I h) fun iv s1 ⟨y,H1,I1,ry,q1⟩=>thn (ho pins s1 σ H1 _ I1 q1) fun u s2 ⟨x,H2,I2,rx,a,ov,ex,g,q2⟩=>?_
 subst ex
 obtain rfl:u=Value.ref a:=rx
 exact d_in hu I2 g ry fun s3 I3=>⟨.bl ov.isSome,H2,I3,rfl,q2⟩
theorem qij (hu:X.A.units+1<cLine) (hi:PE X i ty) (ho:PE X o td):PC X .NotIn i o (qga ty td):=by
 intro pins s σ H Q I h
 refine thn (hi pins s σ H _ I h) fun iv s1 ⟨y,H1,I1,ry,q1⟩=>thn (ho pins s1 σ H1 _ I1 q1) fun u s2 ⟨x,H2,I2,rx,a,ov,ex,g,q2⟩=>?_
 subst ex
 obtain rfl:u=Value.ref a:=rx
 exact qmg hu I2 g ry fun s3 I3=>⟨.bl (!ov.isSome),H2,I3,rfl,q2⟩
theorem q4w (hu:X.A.units+1<cLine) (ho:PE X o td) (hi:PE X i ty) (hv:PE X value tv) (hs:swapsWith value (some (.Subscript o i pos')) pos.line X.env=pure false) :
  PS X (.Assign [.Subscript o i pos'] value pos) (sDPut td ty tv):=by
 intro pins s σ H D I h
 refine wpAny_Assign_Subscript (thn (hv pins s σ H _ I h) fun r s1 ⟨v,H1,I1,rv,q1⟩=>thn (ho pins s1 σ H1 _ I1 q1) fun u s2 ⟨x,H2,I2,rx,q2⟩=>thn (hi pins s2 σ H2 _ I2 q2) fun iv s3 ⟨y,H3,I3,ry,a,H4,ex,g,q3⟩=>?_) hs
 subst ex
 obtain rfl:u=Value.ref a:=rx
 exact qjf hu I3 g ry rv fun s4 I4=>⟨σ,H4,I4,q3⟩
end
theorem qdf {P:Program} {w:World} {H:Hp} (h:Heap) (hb:sysModules<h.objs.size):q1s P w H (h.push {cls:=.type "dict",data:=.dict #[]}) h.objs.size (.dK []):=
 ⟨Nat.zero_le _,beq_eq_false_iff_ne.mpr (Ne.symm (Nat.ne_of_lt hb)),[], .nil,Heap.DictOf.new h⟩
def qjw:TE:=fun _ H Q=>∀ p,H p=none->Q (.ref p) (upd H p (.dK []))
section
variable {X:Cx} {pos:Pos}
theorem q9n:PE X (.Dict [] [] pos) qjw:=fun pins s σ H Q I h =>
 wpAny_Dict_empty ⟨.ref s.heap.objs.size,_,I.laid (a:=s.heap.objs.size) (o:=.dK []) (t':=s.toks) (fun _ _ q=>Heap.get?_push_of_some _ q) (Nat.le_refl _) (qdf s.heap I.big),rfl,h _ (I.hok.fresh (Nat.le_refl _))⟩
end
def qam:List (TE×TE)->St->Hp->(List (V×V)->Hp->Prop)->Prop
 | [],_,H,Q=>Q [] H
 | (tk,tv)::r, σ,H,Q=>tk σ H fun x H1=>tv σ H1 fun y H2=>qam r σ H2 fun ps H3=>Q ((x,y)::ps) H3
abbrev VV:List (V×V)->List (Value×Value)->Prop:=Paired fun p q=>RelV p.1 q.1/\RelV p.2 q.2
def PPs (X:Cx) (pos:Pos) (keys:List (Option Expr)) (values:List Expr) (trs:List (TE×TE)):Prop:=
 ∀ (pins:List (Addr×Obj)) (s:Shared) (σ:St) (H:Hp) (Q:List (V×V)->Hp->Prop),Inv X pins σ H s->qam trs σ H Q ->
  wpAny (model X.prog X.w) X.A (evalPairs (pairTrees keys values X.env pos)) (fun vs s' => ∃ ps H',Inv X pins σ H' s'/\VV ps vs/\Q ps H') X.xe s
theorem qbc {X:Cx} {pos:Pos}:PPs X pos [] [] []:=fun pins s σ H Q I h=>pairTrees_nil_walk ⟨[],H,I, .nil,h⟩
theorem q40 {X:Cx} {pos:Pos} {k v:Expr} {ks:List (Option Expr)} {vs:List Expr} {tk tv:TE} {trs:List (TE×TE)} (hk:PE X k tk) (hv:PE X v tv) (hr:PPs X pos ks vs trs) :
  PPs X pos (some k::ks) (v::vs) ((tk,tv)::trs):=fun pins s σ H Q I h =>
 pairTrees_cons_walk (thn (hk pins s σ H _ I h) fun u s1 ⟨x,H1,I1,rx,q1⟩=>thn (hv pins s1 σ H1 _ I1 q1) fun w2 s2 ⟨y,H2,I2,ry,q2⟩ =>
  thn (hr pins s2 σ H2 _ I2 q2) fun ws s3 ⟨ps,H3,I3,rel,q3⟩=>⟨(x,y)::ps,H3,I3, .cons ⟨rx,ry⟩ rel,q3⟩)
def q41 (kvs more:List (Key×V)):List (Key×V):=more.foldl (fun acc kv=>putK acc kv.1 kv.2) kvs
theorem KV.merge:∀ {more:List (Key×V)} {rs:List (Key×Value)} {kvs:List (Key×V)} {vs:List (Key×Value)},KV more rs->KV kvs vs->KV (q41 kvs more) (merged vs rs):=by
 intro more rs kvs vs r
 unfold KV at r
 induction r generalizing kvs vs with
 | nil=>intro q;exact q
 | @cons p q ps qs h t ih =>
  intro r0
  have e:KV (putK kvs p.1 p.2) (stored vs q.1 q.2):=by
   have:=r0.put p.1 h.2
   rw [<- h.1];exact this
  exact ih e
theorem q7v:∀ (more kvs:List (Key×V)),(q41 kvs more).length<=kvs.length+more.length
 | [],kvs=>by show kvs.length<=kvs.length+0;omega
 | p::r,kvs=>by
  have h1:=q7v r (putK kvs p.1 p.2)
  have h2:=q5n kvs p.1 p.2
  show (q41 (putK kvs p.1 p.2) r).length<=_
  rw [List.length_cons];omega
theorem qb1 {P:Program} {w:World}:∀ {kvs:List (Key×V)} {ws:List (Value×Value)},VV (kvs.map fun kv=>(kV kv.1,kv.2)) ws->∃ rs,Carries (q20 P w) ws rs/\KV kvs rs
 | [],_,r=>by rw [List.map_nil] at r;cases r;exact ⟨[],True.intro, .nil⟩
 | p::kvs,_,r=>by
  rw [List.map_cons] at r
  cases r with
  | @cons a b as bs h t =>
   obtain ⟨rs,c,q⟩:=qb1 (P:=P) (w:=w) t
   obtain ⟨b1,b2⟩:=b
   exact ⟨(p.1,b2)::rs,⟨q61 h.1,rfl,c⟩, .cons ⟨rfl,h.2⟩ q⟩
def qi5 (trs:List (TE×TE)):TE:=fun σ H Q=>∀ p,H p=none->qam trs σ (upd H p (.dK [])) fun ps H2=>H2 p=some (.dK [])/\∃ kvs:List (Key×V),ps=kvs.map (fun kv=>(kV kv.1,kv.2))/\kvs.length<=15/\Q (.ref p) (upd H2 p (.dK (q41 [] kvs)))
theorem qb5 {X:Cx} {pos:Pos} {keys:List (Option Expr)} {values:List Expr} {trs:List (TE×TE)} (h:PPs X pos keys values trs) (hall:keys.all (·.isSome)=true) (hl:keys.length=values.length) (h0:keys≠[])
  (h15:keys.length<=15):PE X (.Dict keys values pos) (qi5 trs):=by
 intro pins s σ H Q I q
 have hn:=I.hok.fresh (Nat.le_refl s.heap.objs.size)
 have I1:=I.laid (a:=s.heap.objs.size) (o:=.dK []) (h':=s.heap.push {cls:=.type "dict",data:=.dict #[]}) (t':=s.toks) (fun _ _ q=>Heap.get?_push_of_some _ q) (Nat.le_refl _) (qdf s.heap I.big)
 refine wpAny_Dict_walk (knd:=q20 X.prog X.w) hall hl h0 h15 (thn (h pins _ σ _ _ I1 (q _ hn)) fun ws s2 ⟨ps,H2,I2,rel,e,kvs,ep,lk,q2⟩=>?_)
 subst ep
 obtain ⟨rs,c,rk⟩:=qb1 (P:=X.prog) (w:=X.w) rel
 obtain ⟨z,hd,vs0,r0,dd⟩:=qat I2.hok e
 cases r0
 refine ⟨rs,c,dd,fun h' dd' hs=>⟨.ref s.heap.objs.size,_,?_,rfl,q2⟩⟩
 have hz:(q41 [] kvs).length<=sizeLine:=by
  have h1:=q7v kvs []
  rw [List.length_nil] at h1
  rw [sizeLine_eq];omega
 have he:∃ q,h'.get? s.heap.objs.size=some q:=let ⟨q,_,_,hq,_⟩:=dd';⟨q,hq⟩
 exact q76 I2 (by rw [e];exact True.intro) hs he (q9y hz hd (rk.merge .nil) dd')
structure M1 (X:Cx) (o:Expr) (m:Str) (apos:Pos) (e:Expr) (cpos:Pos):Prop where
 base:attributeBase o m X.env (eval o X.env)=eval o X.env
 few:((backTo cpos (starEach [e] X.env)).all (fun x=>!x.1) && (backToKw cpos (keywordEach [] X.env)).all (fun x=>x.1.isSome)
  && decide (([e]:List Expr).length+([]:List Keyword).length+(if ([]:List Keyword).isEmpty then 0 else 1)<30))=true
 line:(apos.endLine == cpos.line)=true
 trees:backTo cpos (starEach [e] X.env)=[(false,eval e X.env)]
structure M2 (X:Cx) (o:Expr) (m:Str) (apos:Pos) (e f:Expr) (cpos:Pos):Prop where
 base:attributeBase o m X.env (eval o X.env)=eval o X.env
 few:((backTo cpos (starEach [e,f] X.env)).all (fun x=>!x.1) && (backToKw cpos (keywordEach [] X.env)).all (fun x=>x.1.isSome)
  && decide (([e,f]:List Expr).length+([]:List Keyword).length+(if ([]:List Keyword).isEmpty then 0 else 1)<30))=true
 line:(apos.endLine == cpos.line)=true
 trees:backTo cpos (starEach [e,f] X.env)=[(false,eval e X.env),(false,eval f X.env)]
def IsD (H:Hp) (a:Addr):Prop:=(∃ kvs,Rd H a (.dK kvs))\/∃ kvs,Rd H a (.dT kvs)
theorem qdh {X:Cx} {pins:List (Addr×Obj)} {σ:St} {H:Hp} {s:Shared} {a:Addr} (I:Inv X pins σ H s) (d:IsD H a) :
  s.TypeIs (.ref a) "dict" /\ (∀ b,Value.ref a=.ref b->∃ ob,s.heap.get? b=some ob/\ob.dict=none)/\(a == sysModules)=false:=by
 rcases d with ⟨kvs,e⟩ | ⟨kvs,e⟩
 ·obtain ⟨_,hd,vs,_,dd⟩:=q8t I.hok e
  refine ⟨dd.typeIs,fun b q=>?_,hd⟩
  cases q
  obtain ⟨ob,_,_,h1,h2,_⟩:=dd
  exact ⟨ob,h1,h2.2.1⟩
 ·obtain ⟨_,hd,xs,_,dd⟩:=q8n I.hok e
  refine ⟨dd.typeIs,fun b q=>?_,hd⟩
  cases q
  obtain ⟨ob,_,_,h1,h2,_⟩:=dd
  exact ⟨ob,h1,h2.2.1⟩
def qk2 (td ty:TE):TE:=fun σ H Q=>td σ H fun x H1=>∃ a,x=.ref a/\IsD H1 a/\ty σ H1 fun y H2=>∃ kvs k v,H2 a=some (.dK kvs)/\y=kV k/\valV kvs k=some v/\Q v (upd H2 a (.dK (q50 kvs k)))
def qic (td ty tx:TE):TE:=fun σ H Q=>td σ H fun x H1=>∃ a,x=.ref a/\IsD H1 a/\ty σ H1 fun y H2=>tx σ H2 fun z H3=>∃ kvs k,H3 a=some (.dK kvs)/\y=kV k /\
 (∀ v,valV kvs k=some v->Q v (upd H3 a (.dK (q50 kvs k))))/\(valV kvs k=none->Q z H3)
section
variable {X:Cx} {o e f:Expr} {apos cpos:Pos} {td ty tx:TE}
theorem qeq (ho:PE X o td) (he:PE X e ty) (m:M1 X o "pop" apos e cpos):PE X (.Call (.Attribute o "pop" apos) [e] [] cpos) (qk2 td ty):=by
 intro pins s σ H Q I h
 refine wpAny_Call_method m.base m.few m.line PySem.F.plainAttrs_dict PySem.F.slot_dict_pop PySem.F.type_dict_pop (thn (ho pins s σ H _ I h) fun u s1 ⟨x,H1,I1,rx,a,ex,d,q1⟩=>?_)
 subst ex
 obtain rfl:u=Value.ref a:=rx
 obtain ⟨t1,t2,_⟩:=qdh I1 d
 refine ⟨t1,t2,?_⟩
 rw [m.trees]
 refine Calls.callWith_builtin rfl (Calls.evalArgs_plain (Calls.spliced_cons (thn (he pins s1 σ H1 _ I1 q1) fun iv s2 ⟨y,H2,I2,ry,kvs,k,v,ea,ey,l,q2⟩=>Calls.spliced_nil ?_)))
 subst ey
 exact d_pop I2 ea ry l (.inl rfl) fun w' s3 I3 rw' => ⟨v,_,I3,rw',q2⟩
theorem qkn (ho:PE X o td) (he:PE X e ty) (hf:PE X f tx) (m:M2 X o "pop" apos e f cpos):PE X (.Call (.Attribute o "pop" apos) [e,f] [] cpos) (qic td ty tx):=by
 intro pins s σ H Q I h
 refine wpAny_Call_method m.base m.few m.line PySem.F.plainAttrs_dict PySem.F.slot_dict_pop PySem.F.type_dict_pop (thn (ho pins s σ H _ I h) fun u s1 ⟨x,H1,I1,rx,a,ex,d,q1⟩=>?_)
 subst ex
 obtain rfl:u=Value.ref a:=rx
 obtain ⟨t1,t2,_⟩:=qdh I1 d
 refine ⟨t1,t2,?_⟩
 rw [m.trees]
 refine Calls.callWith_builtin rfl (Calls.evalArgs_plain (Calls.spliced_cons (thn (he pins s1 σ H1 _ I1 q1) fun iv s2 ⟨y,H2,I2,ry,q2⟩ =>
  Calls.spliced_cons (thn (hf pins s2 σ H2 _ I2 q2) fun fv s3 ⟨z,H3,I3,rz,kvs,k,ea,ey,q3,q4⟩=>Calls.spliced_nil ?_))))
 subst ey
 cases l:valV kvs k with
 | some v=>exact d_pop I3 ea ry l (.inr ⟨fv,rfl⟩) fun w' s4 I4 rw' => ⟨v,_,I4,rw',q3 v l⟩
 | none=>exact d_popD I3 ea ry l fun s4 I4=>⟨z,H3,I4,rz,q4 l⟩
end
end L2
set_option maxHeartbeats 4000000
namespace L2
open PySem PySem.Spec PyProof.Rows
theorem q6f {α β:Type} {f:α->β->Sem (ForInStep β)} {g:β->α->β}:∀ (l:List α) (c:β),(∀ x∈l, ∀ c,f x c=pure (.yield (g c x)))->forIn l c f=(pure (l.foldl g c):Sem β)
 | [],c,_=>rfl
 | x::l,c,h=>by
  rw [List.forIn_cons,h x List.mem_cons_self c,pure_bind]
  exact q6f l (g c x) fun y hy c=>h y (List.mem_cons_of_mem _ hy) c
def q5l (cells:List (Str×Addr)) (cs:List (Str×Addr)) (x:Str×NameKind):List (Str×Addr):=
 if (x.2 == .free)=true then match cells.lookup x.1 with | some c=>(x.1,c)::cs | none=>cs else cs
def clos (names:List (Str×NameKind)) (cells:List (Str×Addr)):List (Str×Addr):=names.foldl (q5l cells) []
theorem qct {scope:Scope} {env:Env} (h:∀ x∈scope.names,x.2=.free->∃ c,env.cells.lookup x.1=some c):closureFor scope env=pure (clos scope.names env.cells):=by
 simp only [closureFor]
 rw [q6f (g:=q5l env.cells) scope.names [] (fun x hx c=>by
  obtain ⟨n,kind⟩:=x
  by_cases hk:kind=.free
  ·subst hk
   obtain ⟨a,ha⟩:=h _ hx rfl
   simp only [q5l,cellOf,ha,beq_self_eq_true,if_true,pure_bind]
  ·have:(kind == NameKind.free)=false:=by simpa using hk
   simp only [q5l,this,Bool.false_eq_true,if_false])]
 rfl
theorem q85 {cells:List (Str×Addr)} {x:Str} {c:Addr}:∀ (names:List (Str×NameKind)) (acc:List (Str×Addr)),(x,c)∈names.foldl (q5l cells) acc->(x,c)∈acc\/cells.lookup x=some c
 | [],acc,h=>.inl h
 | y::r,acc,h=>by
  rcases q85 r _ h with h | h
  ·unfold q5l at h
   split at h
   ·cases e:cells.lookup y.1 with
    | none=>rw [e] at h;exact .inl h
    | some d =>
     rw [e] at h
     rcases List.mem_cons.mp h with h | h
     ·cases h;exact .inr e
     ·exact .inl h
   ·exact .inl h
  ·exact .inr h
theorem q7x {cells:List (Str×Addr)} {p:Str×Addr}:∀ (names:List (Str×NameKind)) (acc:List (Str×Addr)),p∈acc->p∈names.foldl (q5l cells) acc
 | [],acc,h=>h
 | y::r,acc,h=>by
  refine q7x r _ ?_
  unfold q5l
  split
  ·cases e:cells.lookup y.1 with
   | none=>exact h
   | some d=>exact List.mem_cons_of_mem _ h
  ·exact h
theorem q8y {cells:List (Str×Addr)} {x:Str} {c:Addr} (hc:cells.lookup x=some c):∀ (names:List (Str×NameKind)) (acc:List (Str×Addr)),(x,NameKind.free)∈names->(x,c)∈names.foldl (q5l cells) acc
 | [],acc,h=>by simp at h
 | y::r,acc,h=>by
  rcases List.mem_cons.mp h with h | h
  ·subst h
   refine q7x r _ ?_
   simp only [q5l,beq_self_eq_true,if_true,hc]
   exact List.mem_cons_self
  ·exact q8y hc r _ h
theorem q7w {x:Str} {c:Addr}:∀ {l:List (Str×Addr)},(x,c)∈l->∃ d,l.lookup x=some d
 | [],h=>by simp at h
 | (y,d)::r,h=>by
  by_cases e:x=y
  ·subst e;exact ⟨d,by simp [List.lookup_cons]⟩
  ·rcases List.mem_cons.mp h with h | h
   ·cases h;exact absurd rfl e
   ·obtain ⟨d',q⟩:=q7w h
    have:(x == y)=false:=by simpa using e
    exact ⟨d',by simp [List.lookup_cons,this,q]⟩
theorem q4n {names:List (Str×NameKind)} {cells:List (Str×Addr)} {x:Str} {c:Addr} (h:(clos names cells).lookup x=some c):cells.lookup x=some c:=by
 rcases q85 names [] (PySem.mem_of_lookup h) with h | h
 ·simp at h
 ·exact h
theorem qer {names:List (Str×NameKind)} {cells:List (Str×Addr)} {x:Str} {c:Addr} (hn:(x,NameKind.free)∈names) (hc:cells.lookup x=some c):(clos names cells).lookup x=some c:=by
 obtain ⟨d,q⟩:=q7w (q8y hc names [] hn)
 have:=q4n (names:=names) q
 rw [hc] at this
 cases this
 exact q
theorem q91 {g:Str->NameKind->NameKind} {x:Str}:∀ (l:List (Str×NameKind)),(l.map fun p=>(p.1,g p.1 p.2)).lookup x=(l.lookup x).map (g x)
 | []=>rfl
 | (y,k)::r=>by
  by_cases e:x=y
  ·subst e;simp [List.lookup_cons]
  ·have:(x == y)=false:=by simpa using e
   simp only [List.map_cons,List.lookup_cons,this]
   exact q91 r
theorem q7a {scope:Scope} {env:Env} {x:Str}:(relabel scope env).names.lookup x=(scope.names.lookup x).map fun k=>if (k == .free && env.scope.kind == .function && env.kindOf x == some .cell)=true then .cell else k:=by
 rw [<- q91 (g:=fun x k=>if (k == .free && env.scope.kind == .function && env.kindOf x == some .cell)=true then .cell else k)]
 unfold relabel
 congr 1
 apply List.map_congr_left
 rintro ⟨n,k⟩ _
 dsimp only
 split <;> rfl
structure Blk (osc:Scope) (N:List Str) (scope:Scope) (own:List Str) (fv:List (Str×Nat)):Prop where
 kind:scope.kind=.function
 nocell:∀ y∈scope.names,y.2≠.cell
 loc:∀ y∈scope.names,y.2=.local->scope.names.lookup y.1=some .local
 free:∀ y∈scope.names,y.2=.free->(osc.names.lookup y.1=some .cell\/osc.names.lookup y.1=some .free)
 at':∀ p∈fv,N[p.2]?=some p.1/\scope.names.lookup p.1=some .free
 hown:∀ x∈own,scope.names.lookup x=some .local
def blk (X:Cx) (scope:Scope) (own:List Str) (fv:List (Str×Nat)) (s:Shared) (H:Hp) (fp:List Addr):Cx:=
 {X with N:=own++fv.map (·.1),s₀:=s,H₀:=H,env:=compEnvC scope (clos scope.names X.env.cells) s.heap.objs.size X.env,outer:=X.stack,ex:=fp,fn:=fun _=>false,pn:=[],xe:=fun _ _=>False}
def q7o (fv:List (Str×Nat)) (σ:St):St:=fv.map fun p=>(σ[p.2]?).join
def bσ (own:List Str) (fv:List (Str×Nat)) (σ:St):St:=own.map (fun _=>none)++q7o fv σ
def PTs (X:Cx) (ifs:List Expr) (t:TT):Prop:=
 ∀ (pins:List (Addr×Obj)) (s:Shared) (σ:St) (H:Hp) (Q:Bool->Hp->Prop),Inv X pins σ H s->t σ H Q ->
  wpAny (model X.prog X.w) X.A (forIn ifs true fun c r=>if r=true then do let ok <- isTrue c X.env (eval c X.env);pure (ForInStep.yield ok) else pure (ForInStep.yield r)) (TP X pins σ Q) X.xe s
def tYes:TT:=fun _ H Q=>Q true H
theorem q31 {X:Cx}:PTs X [] tYes:=fun pins s σ H Q I h=>wpAny_tests_nil ⟨H,I,h⟩
theorem q8l {X:Cx} {c:Expr} {t:TT} (h:PT X c t):PTs X [c] t:=fun pins s σ H Q I q=>wpAny_tests_one (h pins s σ H Q I q)
def LcW (own:List Str) (fv:List (Str×Nat)) (J:It) (g:TG) (tc:TT) (te:TE) (σ:St) (D:Addr) (Q:VK) (H0:Hp):Prop:=∃ W:Nat->Nat->Hp->Prop,
 (∃ m,W 0 m H0)/\∀ i m H,W i m H->(J.stop i H/\Q (.ref D) H)\/(J.go i H/\∃ (NE:VK) (NF:Hp->Prop),(∀ v H5,NE v H5->∃ ys,H5 D=some (.lst ys)/\ys.length<sizeLine/\∃ m',m' < m/\W (i+1) m' (upd H5 D (.lst (ys++[v])))) /\
  (∀ H4,NF H4->∃ m',m' < m/\W (i+1) m' H4)/\∀ x H2,J.yld i H x H2->g x (bσ own fv σ) H2 fun σ3 H3 =>
  (∃ os:St,os.length=own.length/\σ3=os++q7o fv σ)/\tc σ3 H3 fun b H4=>if b=true then te σ3 H4 NE else NF H4)
def tLc (own:List Str) (fv:List (Str×Nat)) (wi:TI) (g:TG) (tc:TT) (te:TE):TE:=fun σ H Q=>wi σ H fun J H1=>∀ D,H1 D=none->LcW own fv J g tc te σ D Q (upd H1 D (.lst []))
section
variable {prog:Program} {w:World} {A:Around} {R:Result->Shared->Prop} {s:Shared}
theorem q7y {elt target iter:Expr} {ifs:List Expr} {scope:Scope} {pos:Pos} {it acc:Value} {env:Env} (I:Nat->Shared->Prop)
  (turn:∀ n s,I n s->wpAny (model prog w) A (pyNext it) (fun r s₁=>match r with
   | none=>R (.ok .next) s₁
   | some v=>wpAny (model prog w) A (letOwnedTupleGo target it v) (fun _ s₁' => wpAny (model prog w) A (assign target env v) (fun _ s₂ =>
     wpAny (model prog w) A (forIn ifs true fun c r=>if r=true then do let ok <- isTrue c env (eval c env);pure (ForInStep.yield ok) else pure (ForInStep.yield r)) (fun ok s₃ =>
      if ok=true then wpAny (model prog w) A (eval elt env) (fun x s₄ =>
       wpAny (model prog w) A (call (.builtin "list.append") [acc,x]) (fun _ s₅=>∃ m,m<n/\I m s₅) (fun _ _=>False) s₄) (fun _ _=>False) s₃
      else ∃ m,m<n/\I m s₃) (fun _ _=>False) s₂) (fun _ _=>False) s₁') (fun _ _=>False) s₁) (fun _ _=>False) s)
  (n:Nat) (h:I n s) :
  codeAny (model prog w) A (.compLoop (.ListComp elt [⟨target,iter,ifs,0⟩] scope pos) 0 it acc env) R s:=by
 refine codeAny_loop rfl I (fun n s hI=>?_) n h
 show wpAny _ A ((compTurn (.ListComp elt [⟨target,iter,ifs,0⟩] scope pos) 0 it acc env).onRaise (fun x=>do noteFrame x env;theTreesLotGoes x)) _ _ s
 refine wpAny_noted ?_
 rw [compTurn_list]
 refine wpAny_bind (wpAny_standAt (wpAny_bind (wpAny_mono (turn n s hI) (fun r s₁ h₁=>?_) fun _ _ h' => h'.elim)))
 cases r with
 | none=>exact wpAny_pure h₁
 | some v =>
  refine wpAny_bind (wpAny_mono h₁ (fun _ s₁' h₁' => ?_) fun _ _ h' => h'.elim)
  refine wpAny_bind (wpAny_mono h₁' (fun _ s₂ h₂=>wpAny_bind (wpAny_mono h₂ (fun ok s₃ h₃=>?_) fun _ _ h' => h'.elim)) fun _ _ h' => h'.elim)
  cases ok with
  | false=>exact wpAny_pure ⟨rfl,h₃⟩
  | true =>
   exact wpAny_bind (wpAny_bind (wpAny_mono h₃ (fun x s₄ h₄=>wpAny_bind (wpAny_mono h₄ (fun _ s₅ h₅=>wpAny_pure (wpAny_pure ⟨rfl,h₅⟩)) fun _ _ h' => h'.elim)) fun _ _ h' => h'.elim))
end
section
variable {X:Cx} {pins:List (Addr×Obj)} {σ:St} {H:Hp} {s:Shared} {scope:Scope} {own:List Str} {fv:List (Str×Nat)}
theorem blk_ok (I:Inv X pins σ H s) (B:Blk X.env.scope X.N scope own fv) {fp:List Addr} {H0:Hp} (hf:∀ b∈fp,FpOk X pins H0 b) (hlt:∀ b∈fp,b<s.heap.objs.size):(blk X scope own fv s H fp).Ok where
 mod:=I.ok.mod
 kind:=B.kind
 glob:=I.ok.glob
 blt:=I.ok.blt
 above:=Nat.le_refl _
 inj:=fun x y c h1 h2=>I.ok.inj x y c (q4n h1) (q4n h2)
 has:=fun x h=>by
  have h:(relabel scope X.env).names.lookup x=some .cell\/(relabel scope X.env).names.lookup x=some .free:=h
  rw [q7a] at h
  cases e:scope.names.lookup x with
  | none=>rw [e] at h;rcases h with h | h <;> cases h
  | some k =>
   have hm:=PySem.mem_of_lookup e
   have hk:k=.free:=by
    rw [e] at h
    by_cases hk:k=.free
    ·exact hk
    ·have hb:(k == NameKind.free)=false:=by simpa using hk
     have nc:=B.nocell _ hm
     simp only [hb,Bool.false_and,Bool.false_eq_true,if_false,Option.map_some,Option.some.injEq] at h
     rcases h with h | h
     ·exact absurd h nc
     ·exact h
   subst hk
   have hc:X.env.kindOf x=some .cell\/X.env.kindOf x=some .free:=B.free _ hm rfl
   obtain ⟨c,hc⟩:=I.ok.has x hc
   exact ⟨c,qer hm hc⟩
 cab:=fun x c h=>by cases h
 hd:=I.ok.hd
 frames:=I.ok.frames
 stk:=.inl rfl
 exf:=fun b hb=>⟨Nat.ne_of_lt (hlt b hb),fun x c h=>(hf b hb).2.2.2.2.1 x c (q4n h)⟩
 bs:=I.bs
 bsz:=Nat.le_trans I.ok.bsz I.sz
 noex:=fun b o e hb=>by
  rcases (hf b hb).2.2.2.1 with z | z
  ·exact I.ok.noex b o e z
  ·exact absurd (Nat.lt_of_lt_of_le (Heap.lt_size e) (Nat.le_trans I.ok.bsz z)) (Nat.lt_irrefl _)
 exfs:=fun b hb z=>by
  rcases List.mem_cons.mp (I.q8e b z) with e | e
  ·exact (hf b hb).2.1 e
  ·exact (hf b hb).2.2.1 e
 funs:=I.stack
 frf:=I.qgn
theorem qia (I:Inv X pins σ H s) (B:Blk X.env.scope X.N scope own fv) {fp:List Addr} {H0:Hp} (hf:∀ b∈fp,FpOk X pins H0 b) (hlt:∀ b∈fp,b<s.heap.objs.size) {h':Heap} {tk:Nat} {m:Str->Option Value}
  (hn:h'.Ns s.heap.objs.size m) (k:∀ b o,s.heap.get? b=some o->h'.get? b=some o):Inv (blk X scope own fv s H fp) [] (bσ own fv σ) H {s with heap:=h',toks:=tk}:=by
 refine ⟨blk_ok I B hf hlt,rfl,I.bare,Un.kept k,⟨m,hn,fun i x v e1 e2 e3=>?_⟩,fun x c e=>?_,I.hok.fresh (Nat.le_refl _),fun x c e=>I.freeC x c (q4n e),fun p hp=>absurd (show p∈([]:List (Addr×Obj)) from hp) (by simp),I.hok.kept k,?_⟩
 ·have e1:(own++fv.map (·.1))[i]?=some x:=e1
  have hi:own.length<=i:=by
   by_cases hi:i<own.length
   ·unfold bσ at e2
    rw [List.getElem?_append_left (by simpa using hi),List.getElem?_map] at e2
    cases q:own[i]? with
    | none=>rw [q] at e2;cases e2
    | some y=>rw [q] at e2;cases e2
   ·omega
  rw [List.getElem?_append_right hi,List.getElem?_map] at e1
  unfold bσ at e2
  rw [List.getElem?_append_right (by simpa using hi),List.length_map] at e2
  unfold q7o at e2
  rw [List.getElem?_map] at e2
  cases q:fv[i - own.length]? with
  | none=>rw [q] at e1;cases e1
  | some p =>
   rw [q] at e1 e2
   have e1:p.1=x:=Option.some.inj e1
   subst e1
   have e2:(σ[p.2]?).join=some v:=Option.some.inj e2
   have e2:σ[p.2]?=some (some v):=by
    cases z:σ[p.2]? with
    | none=>rw [z] at e2;cases e2
    | some o=>rw [z] at e2;rw [show o=some v from e2]
   obtain ⟨hN,hfree⟩:=B.at' p (List.mem_of_getElem? q)
   have hm:=PySem.mem_of_lookup hfree
   have hc:=B.free _ hm rfl
   have hvis:Vis X.env.scope p.1:=hc.elim (fun z=>.inr (.inl z)) fun z=>.inr (.inr z)
   obtain ⟨mo,hno,hl⟩:=I.loc
   obtain ⟨u,r,l⟩:=hl p.2 p.1 v hN e2 hvis
   refine ⟨u,r,?_⟩
   rcases l with ⟨z,_⟩ | ⟨_,c,ec,hcell⟩
   ·have z:X.env.scope.names.lookup p.1=some .local:=z
    rcases hc with q | q <;> · rw [q] at z;cases z
   ·refine .inr ⟨?_,c,qer hm ec,?_⟩
    ·show (relabel scope X.env).names.lookup p.1=some .cell\/(relabel scope X.env).names.lookup p.1=some .free
     rw [q7a,hfree,Option.map_some]
     by_cases z:((NameKind.free == NameKind.free && X.env.scope.kind == .function && X.env.kindOf p.1 == some .cell)=true)
     ·rw [if_pos z];exact .inl rfl
     ·rw [if_neg z];exact .inr rfl
    ·obtain ⟨o,ho,hd⟩:=hcell
     exact ⟨o,k _ _ ho,hd⟩
 ·obtain ⟨v,o,ho,hd⟩:=I.cell x c (q4n e)
  exact ⟨v,o,k _ _ ho,hd⟩
 ·unfold bσ q7o
  simp [blk]
theorem qno {H':Hp} {s':Shared} {σ':St} {fp:List Addr} {H0:Hp} (I:Inv X pins σ H s) (hf:∀ b∈fp,FpOk X pins H0 b) (J:Inv (blk X scope own fv s H fp) [] σ' H' s'):Inv X pins σ H' s'/\FpOk X pins H' s.heap.objs.size/\∃ m,s'.heap.Ns s.heap.objs.size m:=by
 have C:FpOk X pins H' s.heap.objs.size:=I.fpOk (Nat.le_refl _) J.free
 refine ⟨I.call' (ch:=fp) J.os J.base J.hok J.bare fun b hb=>⟨(hf b hb).2.2.2.1,(hf b hb).2.1,(hf b hb).2.2.2.2.1,(hf b hb).2.2.2.2.2⟩,C,?_⟩
 obtain ⟨m,hn,_⟩:=J.loc
 exact ⟨m,hn⟩
theorem qei {C:Addr} {h':Heap} (I:Inv X pins σ H s) (c:FpOk X pins H C) (hs:Heap.SameBut C s.heap h'):Inv X pins σ H {s with heap:=h'}:=
 I.turned (t':=s.toks) (fun b o hb e=>(hs.2 b hb).trans e) c.1 c.2.1 c.2.2.2.1 c.2.2.2.2.1 c.2.2.2.2.2
theorem qiv {elt tg iter:Expr} {ifs:List Expr} {pos:Pos} {g:TG} {tc:TT} {te:TE} {R:Value->Addr->Result->Shared->Prop} {E:Value->Shared->Prop}
  (hc:X.calm=true) (B:Blk X.env.scope X.N scope own fv) (hg:∀ s H fp,PG (blk X scope own fv s H fp) tg g) (ht:∀ s H fp,PTs (blk X scope own fv s H fp) ifs tc) (he:∀ s H fp,PE (blk X scope own fv s H fp) elt te)
  {it:Addr} {fp:List Addr} {tn:Nat->Heap->Prop} {J:It} (I:Inv X pins σ H s) (T:Turn X.prog X.w X.K tg J fp it tn) (st:tn 0 s.heap) (hf:∀ b∈fp,FpOk X pins H b) {Q:VK}
  (hw:∀ D,H D=none->LcW own fv J g tc te σ D Q (upd H D (.lst [])))
  (hR:∀ D C H' s',Inv X pins σ H' s'->FpOk X pins H' C->(∃ m,s'.heap.Ns C m)->Q (.ref D) H'->R (.ref D) C (.ok .next) s') :
  wpAny (model X.prog X.w) X.A (newList []) (fun acc s₃=>wpAny (model X.prog X.w) X.A (newFunctionEnv scope X.env.globals (clos scope.names X.env.cells) [] X.env.qual none .none (some X.env)) (fun cenv s₄ =>
   codeAny (model X.prog X.w) X.A (.compStart (.ListComp elt [⟨tg,iter,ifs,0⟩] scope pos) 0 (.ref it) acc {cenv with scope:=relabel scope X.env}) (R acc cenv.locals) s₄) E s₃) E s:=by
 refine wpAny_newObj_type (wpAny_newFunctionEnv B.nocell (by intro y hy;simp at hy) (fun h₁ hns₁ hsb₁=>?_) B.kind)
 dsimp only at hns₁ hsb₁ ⊢
 have I3:Inv X pins σ (upd H s.heap.objs.size (.lst [])) {s with heap:=s.heap.push {cls:=.type "list",data:=.seq ([]:List Value).toArray}}:=I.lnew (t':=s.toks) .nil (Nat.zero_le _)
 obtain ⟨W,⟨m0,w0⟩,turn⟩:=hw s.heap.objs.size I.fresh
 have fpl:∀ b∈fp,b<s.heap.objs.size:=fun b hb=>by
  obtain ⟨o,e,_⟩:=T.obj _ _ st b hb
  exact Heap.lt_size e
 have hf3:∀ b∈fp,FpOk X pins (upd H s.heap.objs.size (.lst [])) b:=fun b hb=>⟨by rw [q0p (Nat.ne_of_lt (fpl b hb))];exact (hf b hb).1,(hf b hb).2⟩
 generalize hS3:({s with heap:=s.heap.push {cls:=.type "list",data:=.seq ([]:List Value).toArray}}:Shared)=s3 at I3
 have hS3h:s.heap.push {cls:=.type "list",data:=.seq ([]:List Value).toArray}=s3.heap:=by rw [<- hS3]
 have fpl3:∀ b∈fp,b<s3.heap.objs.size:=fun b hb=>by
  rw [<- hS3h,Heap.size_push]
  exact Nat.lt_succ_of_lt (fpl b hb)
 have e3:∀ (h:Heap) (tk:Nat),({s with heap:=h,toks:=tk}:Shared)={s3 with heap:=h,toks:=tk}:=fun h tk=>by rw [<- hS3]
 rw [hS3h] at hns₁ hsb₁ ⊢
 rw [e3]
 have k3:∀ b o,s3.heap.get? b=some o->h₁.get? b=some o:=fun b o e=>hsb₁.extBut b o (Nat.ne_of_lt (Heap.lt_size e)) (Heap.get?_push_of_some _ e)
 have J0:=qia (σ:=σ) I3 B hf3 fpl3 (tk:=s.toks+([]:List (Str×Value)).length) hns₁ k3
 have ksz:∀ b o,s.heap.get? b=some o->h₁.get? b=some o:=fun b o e=>k3 b o (by rw [<- hS3h];exact Heap.get?_push_of_some _ e)
 have st1:tn 0 h₁:=T.keep _ _ _ st fun b _ o e=>ksz b o e
 have stat:∀ {H':Hp},(∀ b∈fp,H' b=none)->∀ b∈fp,FpOk (blk X scope own fv s3 (upd H s.heap.objs.size (.lst [])) fp) [] H' b:=fun hn b hb =>
  ⟨hn b hb,Nat.ne_of_lt (fpl3 b hb),fun z=>(by
   rcases List.mem_cons.mp (I.q8e b z) with e | e
   ·exact (hf b hb).2.1 e
   ·exact (hf b hb).2.2.1 e), .inl hb,fun x c e=>(hf b hb).2.2.2.2.1 x c (q4n e),fun p hp=>absurd (show p∈([]:List (Addr×Obj)) from hp) (by simp)⟩
 generalize hX':blk X scope own fv s3 (upd H s.heap.objs.size (.lst [])) fp=X' at J0 stat
 have eP:X'.prog=X.prog:=by rw [<- hX'];rfl
 have eW:X'.w=X.w:=by rw [<- hX'];rfl
 have eK:X'.K=X.K:=by rw [<- hX'];rfl
 have eA:X'.A=X.A:=by rw [<- hX'];rfl
 have eE:X'.xe=fun _ _=>False:=by rw [<- hX'];rfl
 have eC:X'.calm=true:=by rw [<- hX'];exact hc
 have eEnv:compEnvC scope (clos scope.names X.env.cells) s3.heap.objs.size X.env=X'.env:=by rw [<- hX'];rfl
 have Hg:PG X' tg g:=by rw [<- hX'];exact hg _ _ _
 have Ht:PTs X' ifs tc:=by rw [<- hX'];exact ht _ _ _
 have He:PE X' elt te:=by rw [<- hX'];exact he _ _ _
 have loop:codeAny (model X.prog X.w) X.A (.compLoop (.ListComp elt [⟨tg,iter,ifs,0⟩] scope pos) 0 (.ref it) (.ref s.heap.objs.size) X'.env) (R (.ref s.heap.objs.size) s3.heap.objs.size) {s3 with heap:=h₁,toks:=s.toks+([]:List (Str×Value)).length}:=by
  refine q7y (fun n s' => ∃ i H',Inv X' [] (bσ own fv σ) H' s'/\tn i s'.heap/\(∀ b∈fp,H' b=none)/\W i n H') ?_ m0 ⟨0,_,J0,st1,fun b hb=>(hf3 b hb).1,w0⟩
  rintro n s4 ⟨i,H4,J4,st4,fr4,w4⟩
  rcases turn i n H4 w4 with ⟨stop,q⟩ | ⟨go,NE,NF,hNE,hNF,step⟩
  ·have key:=T.done X' eP eW eK eC i [] s4 _ H4 (fun _ _=>False) J4 (stat fr4) st4 stop
   rw [eA] at key
   refine thn key fun r s5 ⟨hr,J5⟩=>?_
   subst hr
   rw [<- hX'] at J5
   obtain ⟨I5,c5,m5⟩:=qno I3 hf3 J5
   exact hR _ _ _ _ I5 c5 m5 q
  ·have key:=T.item X' eP eW eK eC i [] s4 _ H4 (fun _ _=>False) J4 (stat fr4) st4 go
   rw [eA] at key
   refine thn key fun r s5 ⟨u,hr,h5⟩=>?_
   subst hr
   refine thn h5 fun _ s6 ⟨x,H6,J6,r6,y6,st6,fr6⟩=>?_
   have J6':=J6.pinned (stat fr6) (T.obj _ _ st6)
   have kg:=Hg _ s6 _ H6 x u _ J6' r6 (step x H6 y6)
   rw [eP,eW,eA,eE] at kg
   refine thn kg fun _ s7 ⟨σ7,H7,J7,⟨os,ol,eσ⟩,q7⟩=>?_
   have kt:=Ht _ s7 σ7 H7 _ J7 q7
   rw [eP,eW,eA,eE] at kt
   refine thn kt fun ok s8 ⟨H8,J8,q8⟩=>?_
   have again:∀ {s9:Shared} {H9:Hp} {mm:Nat},Inv X' ([]++q82 fp s6.heap) σ7 H9 s9->mm<n->W (i+1) mm H9->∃ m,m<n/\∃ i H',Inv X' [] (bσ own fv σ) H' s9/\tn i s9.heap/\(∀ b∈fp,H' b=none)/\W i m H':=fun {s9 H9 mm} J9 hm w9=>by
    refine ⟨mm,hm,i+1,H9,(J9.q7r).weak ?_ ?_,T.keep _ _ _ st6 fun b hb o e=>(J9.pin (b,o) (List.mem_append_right _ (List.mem_append_right _ (q5x hb e)))).1,fun b hb=>?_,w9⟩
    ·rw [eσ];unfold bσ;rw [List.length_append,List.length_append,List.length_map,ol]
    ·intro j v e
     rw [eσ]
     unfold bσ at e
     by_cases hj:j<own.length
     ·rw [List.getElem?_append_left (by simpa using hj),List.getElem?_map] at e
      cases q:own[j]? with
      | none=>rw [q] at e;cases e
      | some y=>rw [q] at e;cases e
     ·rw [List.getElem?_append_right (by simpa using hj),List.length_map] at e
      rw [List.getElem?_append_right (by omega),ol]
      exact e
    ·obtain ⟨o,e,d⟩:=T.obj _ _ st6 b hb
     exact (J9.pin (b,o) (List.mem_append_right _ (List.mem_append_right _ (q5x hb e)))).2.1
   cases ok with
   | false =>
    rw [if_neg Bool.false_ne_true] at q8 ⊢
    obtain ⟨m',hm,w8⟩:=hNF _ q8
    exact again J8 hm w8
   | true =>
    rw [if_pos rfl] at q8 ⊢
    have ke:=He _ s8 σ7 H8 _ J8 q8
    rw [eP,eW,eA,eE] at ke
    refine thn ke fun xv s9 ⟨v,H9,J9,r9,q9⟩=>?_
    obtain ⟨ys,hD,hz,m',hm,w9⟩:=hNE v H9 q9
    have:=(q1w (X:=X')) _ s9 σ7 H9 (.ref s.heap.objs.size) [v] (.ref s.heap.objs.size) [xv] (fun _ H10=>W (i+1) m' H10) J9 rfl (.cons r9 .nil) ⟨_,ys,v,rfl,rfl,hD,hz,w9⟩
    rw [eP,eW,eA,eE] at this
    exact thn this fun _ s10 ⟨_,H10,J10,_,w10⟩=>again J10 hm w10
 rw [<- eEnv] at loop
 exact codeAny_compStart_list loop (T.self _ 0 _ _ _ st1 loop)
end
section
variable {X:Cx} {scope:Scope} {own:List Str} {fv:List (Str×Nat)} {elt tg iter:Expr} {ifs:List Expr} {pos:Pos} {wi:TI} {g:TG} {tc:TT} {te:TE}
theorem Blk.clos (B:Blk X.env.scope X.N scope own fv) (ok:X.Ok):closureFor scope X.env=pure (L2.clos scope.names X.env.cells):=
 qct fun y hy hk=>ok.has y.1 (B.free y hy hk)
theorem q3y {osc:Scope} {N0:List Str} (hc:X.calm=true) (hsc:X.env.scope=osc) (hN0:X.N=N0) (B:Blk osc N0 scope own fv) (hi:PI X tg iter wi) (hg:∀ s H fp,PG (blk X scope own fv s H fp) tg g) (ht:∀ s H fp,PTs (blk X scope own fv s H fp) ifs tc) (he:∀ s H fp,PE (blk X scope own fv s H fp) elt te)
  (hs:∀ x,foldedSetIterable iter X.env x=pure x:=by intro _;rfl):PE X (.ListComp elt [⟨tg,iter,ifs,0⟩] scope pos) (tLc own fv wi g tc te):=by
 subst hsc hN0
 intro pins s σ H Q I h
 rw [eval_ListComp]
 refine wpAny_comprehension_free (use:=none) rfl hs (B.clos I.ok) B.kind B.loc (thn (hi pins s σ H _ I h) fun v s1 h1=>thn h1 fun itv s2 h2=>?_)
 obtain ⟨it,fp,tn,J,H2,rfl,I2,T,st2,f2,hw⟩:=h2
 refine qiv hc B hg ht he I2 T st2 f2 hw fun D C H' s' I' c' m' q=>?_
 obtain ⟨m,hn⟩:=m'
 exact ⟨m,hn,fun h' hs' => ⟨.ref D,H',qei I' c' hs',rfl,q⟩⟩
theorem q9a {osc:Scope} {N0:List Str} {i:Nat} {x:Str} {pos' spos:Pos} (hc:X.calm=true) (hsc:X.env.scope=osc) (hN0:X.N=N0) (hN:X.N.Nodup) (hi':X.N[i]?=some x) (hx:Loc X.env.scope x) (B:Blk osc N0 scope own fv) (hi:PI X tg iter wi) (hg:∀ s H fp,PG (blk X scope own fv s H fp) tg g) (ht:∀ s H fp,PTs (blk X scope own fv s H fp) ifs tc) (he:∀ s H fp,PE (blk X scope own fv s H fp) elt te)
  (hsw:swapsWith (.ListComp elt [⟨tg,iter,ifs,0⟩] scope pos) (some (.Name x pos')) spos.line X.env=pure true:=by rfl)
  (hs:∀ x,foldedSetIterable iter X.env x=pure x:=by intro _;rfl) (hf:X.fn x=true\/X.env.scope.names.lookup x=some .local:=by first | exact .inl rfl | exact .inr rfl | assumption) :
  PS X (.Assign [.Name x pos'] (.ListComp elt [⟨tg,iter,ifs,0⟩] scope pos) spos) (tAsg (tLc own fv wi g tc te) (q7p i)):=by
 subst hsc hN0
 intro pins s σ H D I h
 rw [exec_Assign_Name_used _ _ _ _ hsw]
 refine wpAny_bind (wpAny_standAt (wpAny_bind ?_))
 show wpAny _ X.A (do let _ <- comprehension (.ListComp elt [⟨tg,iter,ifs,0⟩] scope pos) scope X.env _ (newList []) false (eval iter X.env) (some (assign (.Name x pos') X.env))) _ _ s
 refine wpAny_bind (wpAny_mono (wpAny_comprehension_free (use:=some (assign (.Name x pos') X.env)) (Q:=fun _ s' => SP X pins D .next s') rfl hs (B.clos I.ok) B.kind B.loc
  (thn (hi pins s σ H _ I h) fun v s1 h1=>thn h1 fun itv s2 h2=>?_)) (fun _ s' hq=>wpAny_pure (wpAny_pure hq)) fun _ _ e=>e)
 obtain ⟨it,fp,tn,J,H2,rfl,I2,T,st2,f2,hw⟩:=h2
 refine qiv (Q:=fun x H1=>q7p i x σ H1 D.nx) hc B hg ht he I2 T st2 f2 hw fun L C H' s' I' c' m' q=>?_
 obtain ⟨m,hn⟩:=m'
 show wpAny _ X.A (assign (.Name x pos') X.env (.ref L)) _ _ _
 refine wpAny_assign_Name (qbt I' hN hi' hx (v:=.ref L) rfl (fun s'' I'' ⟨a,hsb,ha⟩=>?_) hf)
 have hCa:C≠a:=by
  rcases ha with ha | ha
  ·rw [ha];exact c'.2.1
  ·exact (c'.2.2.2.2.1 x a ha).symm
 exact ⟨m,hn.sameBut hsb hCa,fun h' hs' => ⟨_,H',qei I'' c' hs',q⟩⟩
end
end L2
namespace L2
open PySem PySem.Spec PyProof.Rows
def Its (x:Str):It:=⟨fun i _=>i<x.cps.toList.length,fun i H v H' => H'=H/\∃ c,x.cps.toList[i]?=some c/\v=.str ⟨#[c]⟩,fun i _=>i=x.cps.toList.length⟩
theorem go_str {M:Model} {A:Around} {E:Value->Shared->Prop} {s:Shared} {tg:Expr} {it:Addr} {x:Str} {t:Tok} {Q:Unit->Shared->Prop} (hQ:Q () s):wpAny M A (letOwnedTupleGo tg (.ref it) (.str x t)) Q E s:=by
 unfold letOwnedTupleGo
 cases tg <;> exact wpAny_pure hQ
theorem qle {P:Program} {w:World} {K:PySem.W.Frag} {tg:Expr} (it:Addr) (x:Str) (t:Tok) (ty:String) (hty:ty = "str_ascii_iterator" \/ ty = "str_iterator"):Turn P w K tg (Its x) [it] it (fun i h=>h.IsStrIter it ty x t i) where
 mem:=by simp
 obj:=fun i h st b hb=>by
  have e:b=it:=by simpa using hb
  subst e
  obtain ⟨o,e,c,d⟩:=st
  exact ⟨o,e,fun v z=>by rw [d] at z;cases z⟩
 keep:=fun i h h' st k=>let ⟨o,ho,r⟩:=st;⟨o,k it (by simp) o ho,r⟩
 item:=by
  intro X hP hw hK hc i pins s σ H E I hf st hg
  subst hP hw hK
  obtain ⟨f0,f1,f2,f3,f4,f5⟩:=hf it (by simp)
  have hg:i<x.cps.toList.length:=hg
  have hg':i<x.cps.size:=by simpa using hg
  have W:Walks X.prog X.w X.A it [it] [it] x.cps.size (SignAt x) (fun i h=>h.IsStrIter it ty x t i):=by
   rcases hty with rfl | rfl
   ·exact Walks.strAscii (I.ok.hd hc) it x t
   ·exact Walks.strWide (I.ok.hd hc) it x t
  refine W.item i s _ _ hg' st fun v h' tk hv st' kk=>?_
  obtain ⟨c,u,hcx,rfl⟩:=hv
  have I1:Inv X pins σ H {s with heap:=h',toks:=tk}:=I.turned (fun b o hb e=>kk b o (by simpa using hb) e) f0 f1 f3 f4 f5
  exact ⟨_,rfl,go_str ⟨.str ⟨#[c]⟩,H,I1,⟨u,rfl⟩,⟨rfl,c,by simpa using hcx,rfl⟩,st',fun b hb=>(hf b hb).1⟩⟩
 done:=by
  intro X hP hw hK hc i pins s σ H E I hf st hg
  subst hP hw hK
  obtain ⟨f0,f1,f2,f3,f4,f5⟩:=hf it (by simp)
  have hg:i=x.cps.toList.length:=hg
  have hg':i=x.cps.size:=by simpa using hg
  subst hg'
  have W:Walks X.prog X.w X.A it [it] [it] x.cps.size (SignAt x) (fun i h=>h.IsStrIter it ty x t i):=by
   rcases hty with rfl | rfl
   ·exact Walks.strAscii (I.ok.hd hc) it x t
   ·exact Walks.strWide (I.ok.hd hc) it x t
  exact W.done s _ _ st fun h' tk kk=>⟨rfl,I.turned (fun b o hb e=>kk b o (by simpa using hb) e) f0 f1 f3 f4 f5⟩
 self:=fun A i s Q E st h=>by
  rcases hty with rfl | rfl
  ·exact wpAny_pyIter_striter_ascii st h
  ·exact wpAny_pyIter_striter_wide st h
section
variable {X:Cx} {tg:Expr}
def iStr (tl:TE):TI:=fun σ H R=>tl σ H fun x H1=>∃ y,x=.str y/\R (Its y) H1
theorem pi_str {l:Expr} {tl:TE} (hl:PE X l tl):PI X tg l (iStr tl):=by
 intro pins s σ H R I h
 refine thn (hl pins s σ H _ I h) fun v s1 ⟨x,H1,I1,r1,q1⟩=>?_
 obtain ⟨y,e,q⟩:=q1
 subst e
 obtain ⟨t,rfl⟩:=r1
 have fin:∀ (ty:String),(ty = "str_ascii_iterator" \/ ty = "str_iterator")->PIE X pins σ tg R (.ref s1.heap.objs.size) {s1 with heap:=s1.heap.push {cls:=.type ty,data:=.fields #[.str y t, .int 0 0]}}:=fun ty hty=>by
  refine ⟨s1.heap.objs.size,[s1.heap.objs.size],_,_,H1,rfl,I1.kept (t':=s1.toks) fun b o e=>Heap.get?_push_of_some _ e,qle _ y t ty hty,⟨_,Heap.get?_push_size _ rfl,rfl,rfl⟩,fun b hb=>?_,q⟩
  have e:b=s1.heap.objs.size:=by simpa using hb
  subst e
  exact I1.fpOk (Nat.le_refl _) (I1.hok.fresh (Nat.le_refl _))
 cases ha:y.cps.all (· < 128)
 ·exact wpAny_pyIter_wide ha (fin _ (.inr rfl))
 ·exact wpAny_pyIter_ascii ha (fin _ (.inl rfl))
end
section
variable {X:Cx}
theorem qcv (bs:List Bool):((List.range bs.length).all fun i=>bs.getD i false)=bs.all id:=by
 rw [Bool.eq_iff_iff,List.all_eq_true,List.all_eq_true]
 constructor
 ·intro h x hx
  obtain ⟨i,hi⟩:=List.getElem?_of_mem hx
  have hlt:=(List.getElem?_eq_some_iff.mp hi).1
  have:=h i (List.mem_range.mpr hlt)
  rw [List.getD_eq_getElem?_getD,hi] at this
  exact this
 ·intro h i hi
  have hlt:=List.mem_range.mp hi
  rw [List.getD_eq_getElem?_getD,List.getElem?_eq_getElem hlt]
  exact h _ (List.getElem_mem hlt)
theorem ql1 (hc:X.calm=true):q2a X (.builtin "all") (fun xs H Q=>∃ p, ∃ bs:List Bool,xs=[.ref p]/\SqL X.K H p (bs.map V.bl)/\Q (.bl (bs.all id)) H):=by
 intro pins s σ H xs us Q I r h
 obtain ⟨p,bs,rfl,hq,q⟩:=h
 obtain ⟨u,rfl,ru⟩:=vals1 r
 cases ru
 obtain ⟨its,rv,pl,hz⟩:=I.list hq
 have hlen:bs.length=its.length:=by have:=rv.length;simpa using this
 have hv:∀ (i:Nat) v,its[i]?=some v->v=.bool (bs.getD i false):=fun i v hi=>by
  have hib:i<bs.length:=by rw [hlen];exact (List.getElem?_eq_some_iff.mp hi).1
  have hb:(bs.map V.bl)[i]?=some (.bl (bs.getD i false)):=by
   rw [List.getElem?_map,List.getElem?_eq_getElem hib,List.getD_eq_getElem?_getD,List.getElem?_eq_getElem hib];rfl
  obtain ⟨u,hu,ru⟩:=rv.get hb
  rw [hi] at hu;cases hu
  exact ru
 have hne:p≠s.heap.objs.size:=Nat.ne_of_lt (by obtain ⟨o,n,e,_⟩:=pl;exact Heap.lt_size e)
 refine call_all_walk ?_
 refine wpAny_pyIter_list pl.isList ?_
 refine ⟨s.heap.objs.size,_,_,its.toArray.size,_,_,fun i=>bs.getD i false,rfl,Walks.list (A:=X.A.in1) (I.ok.hd hc) s.heap.objs.size p hne its.toArray,⟨⟨_,Heap.get?_push_size _ rfl,rfl,rfl⟩,?_⟩,?_,?_⟩
 ·exact pl.isList.at fun o e=>Heap.get?_push_of_some _ e
 ·intro i v s' Q' E' hP hQ'
  have hP:its.toArray[i]?=some v:=hP
  rw [hv i v (by simpa using hP)]
  exact wpAny_truthy_bool hQ'
 ·intro h' tk kk
  rw [List.size_toArray, <- hlen,qcv]
  refine ⟨.bl _,H,I.kept fun b o e=>kk b o ?_ (Heap.get?_push_of_some _ e),rfl,q⟩
  intro z
  have z:b=s.heap.objs.size:=by simpa using z
  exact absurd (z ▸ Heap.lt_size e) (Nat.lt_irrefl _)
def rSlS:V->Option Int->Option Int->Hp->VK->Prop:=fun x lo hi H Q=>∃ z,x=.str z/\z.length<=sizeLine/\Q (.str (Txt.slice z lo hi)) H
theorem qej:SlR X rSlS:=by
 intro pins s σ H x v vl vu lo hi sl Q I rx hs pl pu h
 obtain ⟨z,rfl,hz,q⟩:=h
 obtain ⟨t,rfl⟩:=rx
 refine ⟨"str",_,F.slot_str_getitem.lookup,typeIs_str _ _ _,?_⟩
 obtain ⟨o,ho,hc,hd⟩:=hs
 have fin:∀ (l u:Option (Int×Tok)),l.map (·.1)=lo->u.map (·.1)=hi->s.heap.IsSlice sl l u none->wpAny (model X.prog X.w) X.A (getItem (.str z t) (.ref sl)) (EP X pins σ Q) X.xe s:=fun l u hl hu hsl=>by
  refine wpAny_getItem_str_slice hsl rfl ?_
  have e:sliceMade z t l u none=(if ((1:Int) == 1 && (Builtin.Str.strSliceIndices lo hi 1 z.length).length == z.length)=true then Made.val (.str z t) else Made.str ⟨((Builtin.Str.strSliceIndices lo hi 1 z.length).filterMap (z.cps[·]?)).toArray⟩):=by
   unfold sliceMade slicePicked
   rw [hl,hu]
   rfl
  rw [e]
  refine post_val_or_str ⟨Nat.le_trans (Txt.slice_le z lo hi) hz,fun t' k=>⟨.str (Txt.slice z lo hi),H,I.tok k,⟨t',rfl⟩,q⟩⟩
 cases pl with
 | none =>
  cases pu with
  | none=>exact fin none none rfl rfl ⟨o,ho,hc,hd⟩
  | int j tj=>exact fin none (some (j,tj)) rfl rfl ⟨o,ho,hc,hd⟩
 | int i ti =>
  cases pu with
  | none=>exact fin (some (i,ti)) none rfl rfl ⟨o,ho,hc,hd⟩
  | int j tj=>exact fin (some (i,ti)) (some (j,tj)) rfl rfl ⟨o,ho,hc,hd⟩
theorem TyOf.kit {pins:List (Addr×Obj)} {σ:St} {H:Hp} {s:Shared} {x:V} {u t:Value} (I:Inv X pins σ H s) (rx:RelV x u) (ty:TyOf X.K H x t):∃ HH,PySem.W.KitX X.K u t HH/\HH s.heap/\u≠.builtin "__main__.__loader__#opaque":=by
 cases ty with
 | non=>cases (show u=Value.none from rx);exact ⟨_,PySem.W.kitx_none,True.intro,fun z=>nomatch z⟩
 | bl y=>cases (show u=Value.bool y from rx);exact ⟨_,PySem.W.kitx_bool,True.intro,fun z=>nomatch z⟩
 | int i=>obtain ⟨t,q⟩:=(show ∃ t,u=Value.int i t from rx);cases q;exact ⟨_,PySem.W.kitx_int,True.intro,fun z=>nomatch z⟩
 | str y=>obtain ⟨t,q⟩:=(show ∃ t,u=Value.str y t from rx);cases q;exact ⟨_,PySem.W.kitx_str,True.intro,fun z=>nomatch z⟩
 | flt y=>obtain ⟨t,q⟩:=(show ∃ t,u=Value.float y t from rx);cases q;exact ⟨_,PySem.W.kitx_float,True.intro,fun z=>nomatch z⟩
 | @lst a xs ea =>
  cases (show u=Value.ref a from rx)
  obtain ⟨_,_,n,_,h1⟩:=(show q1s X.prog X.w H s.heap a (.lst xs) from I.hok a _ ea)
  exact ⟨_,PySem.W.kitx_list,⟨_,h1,rfl⟩,fun z=>nomatch z⟩
 | @frz a ob xs ea =>
  cases (show u=Value.ref a from rx)
  obtain ⟨_,_,_,n,_,h1⟩:=(show q1s X.prog X.w H s.heap a (.frz ob (.lst xs)) from I.hok a _ ea)
  exact ⟨_,PySem.W.kitx_list,⟨_,h1,rfl⟩,fun z=>nomatch z⟩
 | @tup a xs ea =>
  cases (show u=Value.ref a from rx)
  obtain ⟨_,_,_,p⟩:=(show q1s X.prog X.w H s.heap a (.tup xs) from I.hok a _ ea)
  obtain ⟨o,h1,h2,_⟩:=p
  exact ⟨_,PySem.W.kitx_tuple,⟨o,h1,h2⟩,fun z=>nomatch z⟩
 | @dK a kvs ea =>
  cases (show u=Value.ref a from rx)
  obtain ⟨_,_,vs,_,p⟩:=(show q1s X.prog X.w H s.heap a (.dK kvs) from I.hok a _ ea)
  obtain ⟨o,es,ep,h1,h2,_⟩:=p
  exact ⟨_,PySem.W.kitx_dict,⟨o,h1,h2.1⟩,fun z=>nomatch z⟩
 | @dT a kvs ea =>
  cases (show u=Value.ref a from rx)
  obtain ⟨_,_,xs,_,o,es,ep,h1,h2,_⟩:=(show q1s X.prog X.w H s.heap a (.dT kvs) from I.hok a _ ea)
  exact ⟨_,PySem.W.kitx_dict,⟨o,h1,h2.1⟩,fun z=>nomatch z⟩
 | @ins a C dx fs ea cl ha hn htk hm =>
  cases (show u=Value.ref a from rx)
  obtain ⟨mA,O,_⟩:=qnk I.hok ea
  obtain ⟨od,J,_⟩:=O.look
  exact ⟨_,PySem.W.kitx_own (cl.get _) cl.hd ha hn htk hm,J,fun z=>nomatch z⟩
theorem qfs:∀ {ns:List String} {its:List Value},Vals (ns.map V.ty) its->its=ns.map Value.type
 | [],_,rv=>by cases rv;rfl
 | a::r,_,rv=>by
  rw [List.map_cons] at rv
  cases rv with
  | cons r1 r2 =>
   cases r1
   rw [List.map_cons,qfs r2]
end
end L2
namespace L2
open PySem PySem.Spec PyProof.Rows
section
variable {X:Cx} {pins:List (Addr×Obj)} {σ:St} {H:Hp} {s:Shared}
theorem Inv.qgf {fp:List Addr} {h':Heap} {t':Nat} (I:Inv X pins σ H s) (hf:∀ b∈fp,FpOk X pins H b) (k:∀ b o,b∉fp->s.heap.get? b=some o->h'.get? b=some o):Inv X pins σ H {s with heap:=h',toks:=t'}:=by
 have nit:∀ b u,H b=some u->b∉fp:=fun b u e z=>by rw [(hf b z).1] at e;cases e
 refine I.step (g':=s.gens) (d':=s.drawn) (ch:=fp) (fun b hb=>⟨(hf b hb).2.2.2.1,(hf b hb).2.1,(hf b hb).2.2.2.2.1,(hf b hb).2.2.2.2.2⟩) (fun b o _ _ hc e _=>k b o hc e) (fun b o _ _ hc e _=>⟨o.slots,k b o hc e⟩) (fun _ _ _ _ n=>n)
  (fun b o hc e=>⟨o,k b o hc e⟩) (fun _ _ e=>e) (fun _ _ _ e=>e) (fun b ps e=>⟨#[],by rw [e];simp⟩) (fun m hm=>?_) (fun b u e=>?_) I.bare
 ·obtain ⟨o,es,ep,ho,r⟩:=hm
  exact ⟨o,es,ep,k _ o (fun z=>(hf _ z).2.1 rfl) ho,r⟩
 ·refine (I.hok b u e).stay (fun c v hc q=>k c v ?_ q) (fun _ q=>q) fun _ _ q=>q
  rcases hc with z | z
  ·rw [z];exact nit b u e
  ·exact nit c _ z
theorem Inv.track {a:Addr} {o:HO} (I:Inv X pins σ H s) (ha:FpOk X pins H a) (new:q1s X.prog X.w (upd H a o) s.heap a o):Inv X pins σ (upd H a o) s:=by
 have I':=I.step (g':=s.gens) (d':=s.drawn) (t':=s.toks) (h':=s.heap) (H':=upd H a o) (ch:=[a]) (fun b hb=>?_) (fun b o _ _ _ e _=>e) (fun b o _ _ _ e _=>⟨o.slots,e⟩) (fun b o hc _ n=>by rw [q0p (fun z=>hc (by simp [z]))];exact n)
  (fun b o _ e=>⟨o,e⟩) (fun b xs e=>by rw [q0p (q2l e ha.1)];exact e) (fun b o u e=>by rw [q0p (q2l e ha.1)];exact e) (fun b ps e=>⟨#[],by rw [q0p (q2l e ha.1),e];simp⟩) (fun m hm=>hm) (fun b u e=>?_) I.bare
 ·exact I'
 ·have e:b=a:=by simpa using hb
  subst e
  exact ⟨ha.2.2.2.1,ha.2.1,ha.2.2.2.2.1,ha.2.2.2.2.2⟩
 ·by_cases hb:b=a
  ·subst hb
   rw [q24] at e;cases e
   exact new
  ·rw [q0p hb] at e
   exact (I.hok b u e).stay (fun c v _ q=>q) (fun c q=>by rw [q0p (q2l q ha.1)];exact q) fun c xs q=>by rw [q0p (q2l q ha.1)];exact q
end
end L2
namespace L2
open PySem PySem.Spec PyProof.Rows
section
variable {X:Cx} {K:PySem.W.Frag}
theorem q3u (h:X.K=K):IxR X (rIx K):=h ▸ q0n
end
end L2
namespace L2
open PySem PySem.Spec PyProof.Rows
def TrQ (h B:Heap) (e:Addr) (cls fl:Value):Prop:=
 ∃ oe vs T oT ts,h.get? e=some oe/\oe.cls=cls/\oe.data=.fields vs/\vs[1]?=some (.ref T)/\vs[2]?=some .none/\B.get? T=none/\T≠e/\h.get? T=some oT/\oT.data=.fields ts/\ts[3]?=some fl
structure At (B:Heap) (l:List Env) (e:Addr) (cls fl:Value) (h:Heap):Prop where
 st:B.StaysIn h
 nw:B.get? e=none
 fr:h.FunFrames B l
 tr:TrQ h B e cls fl
section
variable {M:Model} {A:Around} {E:Value->Shared->Prop} {s:Shared} {B:Heap} {env:Env} {outer:List Env} {L e:Addr} {oe:Obj} {vs:Array Value} {head cls fl:Value} {hadNext:Bool} {Q:Unit->Shared->Prop}
theorem entryQ (hfr:A.frames=some (env::outer)) (hl:s.heap.FunFrames B (env::outer)) (hf:env.frame=some L) (he:s.heap.get? e=some oe) (hkb:B.StaysIn s.heap) (hen:B.get? e=none) (hd:oe.data=.fields vs)
  (hsz:1<vs.size) (h2:vs[2]?=some .none) (h:∀ h',At B (env::outer) e oe.cls (rawInt L) h'->s.heap.UpToSlots h'->Q () {s with heap:=h'}) :
  wpAny M A (do let a <- frameOf env;let pl <- entryPlaceOf L hadNext;let b <- EntryCells.newEntry head a .none (rawInt L) .none pl;setField (.ref e) 1 b) Q E s:=by
 have hene:e∉(env::outer).filterMap (·.frame):=fun hm=>by
  obtain ⟨_,o,ho,hnf⟩:=hl.mem hm
  rw [he] at ho;cases ho;exact hnf vs hd
 refine wpAny_bind (wpAny_frameOf_fun hfr hl hf fun h₁ hs₁=>?_)
 refine wpAny_bind (wpAny_entryPlaceOf fun pl hpl=>?_)
 unfold EntryCells.newEntry newFields
 refine wpAny_bind (wpAny_newObj_type ?_ (hpl.sizeOk5 _ _ _ _ _))
 have he₁:h₁.get? e=some oe:=(hs₁.2.1 e hene).trans he
 have kb₁:B.StaysIn h₁:=fun b o hbo=>(hs₁.2.1 b fun hm=>by rw [(hl.mem hm).1] at hbo;cases hbo).trans (hkb b o hbo)
 generalize hT:([head, .ref L, .none,rawInt L, .none]++(if pl.isEmpty then List.replicate 6 Value.none else pl)).toArray=tb
 have htb:tb[3]?=some (rawInt L):=by subst hT;rcases hpl with rfl | ⟨_,_,_,_,_,_,_,rfl⟩ <;> simp
 have he₂:=Heap.get?_push_of_some (h:=h₁) {cls:=.type "traceback",dict:=none,data:=.fields tb} he₁
 refine wpAny_setField he₂ hd hsz (h _ ?_ fun b o hb hnf=>?_)
 ·have hTe:h₁.objs.size≠e:=Nat.ne_of_gt (Heap.lt_size he₁)
  have hd₃:=Obj.data_mapFields hd (·.setIfInBounds 1 (Value.ref h₁.objs.size))
  have he₃:=Heap.get?_update_self (Obj.mapFields (·.setIfInBounds 1 (Value.ref h₁.objs.size))) he₂ (Obj.isFreed_of_fields hd₃)
  have hT₃:=(Heap.get?_update_other (h₁.push {cls:=.type "traceback",dict:=none,data:=.fields tb}) (Obj.mapFields (·.setIfInBounds 1 (Value.ref h₁.objs.size))) (Ne.symm hTe)).trans (Heap.get?_push_size h₁ rfl)
  have keep:∀ b o,b≠e->h₁.get? b=some o->((h₁.push {cls:=.type "traceback",dict:=none,data:=.fields tb}).update e (Obj.mapFields (·.setIfInBounds 1 (Value.ref h₁.objs.size)))).get? b=some o:=fun b o hbe hb=>by
   rw [Heap.get?_update_other _ _ (Ne.symm hbe)]
   exact Heap.get?_push_of_some _ hb
  refine ⟨fun b o hbo=>keep b o (fun q=>by rw [q,hen] at hbo;cases hbo) (kb₁ b o hbo),hen,hl.of_keeps fun b o hb hnf=>?_,?_⟩
  ·obtain ⟨sl,hs⟩:=hs₁.2.2 b o hb
   exact ⟨_,keep b _ (fun q=>by rw [q,he] at hb;cases hb;exact hnf vs hd) hs,rfl⟩
  ·exact ⟨_,_,h₁.objs.size,_,_,he₃,Obj.cls_mapFields _ _,hd₃,by simp [hsz],by rw [Array.getElem?_setIfInBounds_ne (by decide)];exact h2,kb₁.fresh,hTe,hT₃,rfl,htb⟩
 ·obtain ⟨sl,hs⟩:=hs₁.2.2 b o hb
  refine ⟨sl,?_⟩
  rw [Heap.get?_update_other _ _ (fun q=>by rw [<- q,he] at hb;cases hb;exact hnf vs hd)]
  exact Heap.get?_push_of_some _ hs
theorem qhg (hfr:A.frames=some (env::outer)) (hf:env.frame=some L) (x:At B (env::outer) e cls .none s.heap)
  (h:∀ h',At B (env::outer) e cls (rawInt L) h'->s.heap.UpToSlots h'->Q () {s with heap:=h'}):wpAny M A (noteFrame (.ref e) env) Q E s:=by
 obtain ⟨hkb,hen,hl,oe,vs,T,oT,ts,he,hcls,hd,h1,h2,hnT,hTe,hT,hdT,h3⟩:=x
 subst hcls
 unfold noteFrame
 simp only [hf]
 refine wpAny_bind (wpAny_field he hd h1 ?_)
 rw [if_pos (show (Value.ref T != Value.none)=true from by simp)]
 refine wpAny_bind (wpAny_field hT hdT h3 ?_)
 rw [if_neg (show ¬ ((Value.none == rawInt L)=true) from by simp [rawInt])]
 refine wpAny_bind (wpAny_setField hT hdT (Array.getElem?_eq_some_iff.mp h3).1 ?_)
 have other:∀ b,b≠T->(s.heap.update T (Obj.mapFields (·.setIfInBounds 3 Value.none))).get? b=s.heap.get? b:=fun b hb=>Heap.get?_update_other _ _ (Ne.symm hb)
 have noRecord:∀ b o,s.heap.get? b=some o->(∀ vs,o.data≠.fields vs)->b≠T:=fun b o hb hnf q=>by
  rw [q,hT] at hb;cases hb;exact hnf ts hdT
 refine entryQ hfr (hl.of_keeps fun b o hb hnf=>⟨o,(other b (noRecord b o hb hnf)).trans hb,rfl⟩) hf ((other e (Ne.symm hTe)).trans he)
  (fun b o hbo=>(other b fun q=>by rw [q,hnT] at hbo;cases hbo).trans (hkb b o hbo)) hen hd (Array.getElem?_eq_some_iff.mp h1).1 h2 fun h' x1 x2=>h h' x1 fun b o hb hnf=>x2 b o ((other b (noRecord b o hb hnf)).trans hb) hnf
theorem qmd {l:List Env} (x:At B l e cls fl s.heap) (h:∀ h',At B l e cls .none h'->s.heap.UpToSlots h'->Q () {s with heap:=h'}):wpAny M A (setFlight (.ref e) none) Q E s:=by
 obtain ⟨hkb,hen,hl,oe,vs,T,oT,ts,he,hcls,hd,h1,h2,hnT,hTe,hT,hdT,h3⟩:=x
 have hsz3:3<ts.size:=(Array.getElem?_eq_some_iff.mp h3).1
 have other:∀ b,b≠T->(s.heap.update T (Obj.mapFields (·.setIfInBounds 3 ((none:Option Addr).elim Value.none fun f=>rawInt f)))).get? b=s.heap.get? b:=fun b hb=>Heap.get?_update_other _ _ (Ne.symm hb)
 have noRecord:∀ b o,s.heap.get? b=some o->(∀ vs,o.data≠.fields vs)->b≠T:=fun b o hb hnf q=>by
  rw [q,hT] at hb;cases hb;exact hnf ts hdT
 unfold setFlight
 refine wpAny_bind (wpAny_field he hd h1 ?_)
 rw [if_pos (show (Value.ref T != Value.none)=true from by simp)]
 refine wpAny_setField hT hdT hsz3 (h _ ⟨fun b o hbo=>(other b fun q=>by rw [q,hnT] at hbo;cases hbo).trans (hkb b o hbo),hen,
  hl.of_keeps fun b o hb hnf=>⟨o,(other b (noRecord b o hb hnf)).trans hb,rfl⟩,?_⟩ fun b o hb hnf=>⟨o.slots,(other b (noRecord b o hb hnf)).trans hb⟩)
 exact ⟨oe,vs,T,_,_,(other e (Ne.symm hTe)).trans he,hcls,hd,h1,h2,hnT,hTe,Heap.get?_update_self _ hT (Obj.isFreed_of_fields (Obj.data_mapFields hdT _)),Obj.data_mapFields hdT _,by simp [hsz3]⟩
theorem At.pop {l:List Env} {h:Heap} (x:At B (env::l) e cls fl h):At B l e cls fl h:=⟨x.st,x.nw,x.fr.2.2,x.tr⟩
theorem qjg (hfr:A.frames=some (env::outer)) (hf:env.frame=some L) (x:At B (env::outer) e cls .none s.heap) (hQ:∀ h',At B outer e cls .none h'->s.heap.UpToSlots h'->Q () {s with heap:=h'}) :
  wpAny M A (leaving env (.ref e)) Q E s:=by
 unfold leaving
 refine wpAny_bind (qhg hfr hf x fun h' x up=>?_)
 exact qmd x fun h'' x' up' => hQ h'' x'.pop (up.trans up')
end
end L2
namespace L2
open PySem PySem.Spec PyProof.Rows
structure Fly (P:Program) (w:World) (outer:List Env) (H:Hp) (s:Shared) (a C:Addr) (H':Hp) (B:Heap) (s':Shared):Prop where
 os:s'.os=s.os
 bare:AllBare s'.gens
 hok:HOk P w H' B
 kp:∀ b o,s.heap.get? b=some o->H b=none->b∉frs outer->B.get? b=some o
 th:∀ b o,s.heap.get? b=some o->b∉frs outer->∃ o',B.get? b=some o'
 un:Un (frs outer) [] H H' s.heap s'.heap
 fly:At B outer a (.ref C) .none s'.heap
def CX1 (P:Program) (w:World):CXT:=fun outer H s E e s' => ∃ a C H' B,e=.ref a/\Fly P w outer H s a C H' B s'/\E (.ref C) none H'
section
variable {X:Cx} {pins:List (Addr×Obj)} {σ:St} {H H':Hp} {s s':Shared} {a C:Addr} {B:Heap}
theorem Inv.ff0 (I:Inv X pins σ H s):∀ b∈frs X.outer,X.H₀ b=none/\∃ o,X.s₀.heap.get? b=some o/\∀ vs,o.data≠.fields vs:=fun b hb=>⟨I.ok.frf b hb,(I.ok.funs.mem hb).2⟩
theorem qmz (I:Inv X pins σ H s) (st:X.stack=X.env::X.outer) (ex:X.ex=[]) (os:s'.os=s.os) (bare:AllBare s'.gens) (hok:HOk X.prog X.w H' B)
  (k1:∀ b o,s.heap.get? b=some o->H b=none->b∉frs X.stack->B.get? b=some o) (k2:∀ b o,s.heap.get? b=some o->b∉frs X.stack->∃ o',B.get? b=some o')
  (un:Un (frs X.stack) [] H H' s.heap s'.heap) (st':B.StaysIn s'.heap) {h'':Heap} (fl:At B X.outer a (.ref C) .none h'') (up:s'.heap.UpToSlots h''):Fly X.prog X.w X.outer X.H₀ X.s₀ a C H' B {s' with heap:=h''}:=by
 have I':Inv X pins σ H' s':=I.call' os un (hok.kept st') bare fun b hb=>absurd hb (by simp)
 have nst:∀ b o,X.s₀.heap.get? b=some o->b∉frs X.outer->b∉frs X.stack:=fun b o q nf hb=>by
  rcases List.mem_cons.mp (I.q8e b hb) with z | z
  ·have e1:=Heap.lt_size q
   have e2:=I.ok.above
   rw [z] at e1
   exact absurd e1 (Nat.not_lt.mpr e2)
  ·exact nf z
 have nex:∀ b,b∉X.ex:=fun b=>by rw [ex];simp
 have kk:∀ b o,X.s₀.heap.get? b=some o->X.H₀ b=none->b∉frs X.outer->B.get? b=some o:=fun b o q n nf =>
  k1 b o (I.base.keep b o q n nf (nex b)) (I.base.free b o q n (nex b)) (nst b o q nf)
 have tt:∀ b o,X.s₀.heap.get? b=some o->b∉frs X.outer->∃ o',B.get? b=some o':=fun b o q nf=>by
  obtain ⟨o1,e1⟩:=I.base.there b o q (nex b)
  exact k2 b o1 e1 (nst b o q nf)
 have sl:∀ b o,X.s₀.heap.get? b=some o->b∈frs X.outer->∃ sl,h''.get? b=some {o with slots:=sl}:=fun b o q hf=>by
  obtain ⟨n,o1,q1,nd⟩:=I.ff0 b hf
  rw [q] at q1;cases q1
  obtain ⟨sl,e⟩:=I'.base.slot b o q n hf (nex b)
  obtain ⟨sl',e'⟩:=up b _ e nd
  exact ⟨sl',e'⟩
 refine ⟨os.trans I.os,bare,hok,kk,tt,?_,fl⟩
 refine ⟨fun b o q n nf _=>fl.st b o (kk b o q n nf),fun b o q n hf _=>sl b o q hf,fun b o q n _=>I'.base.free b o q n (nex b),fun b o q hx=>?_,I'.base.tups,I'.base.frzs,I'.base.tbls⟩
 by_cases hb:b∈frs X.outer
 ·obtain ⟨sl',e⟩:=sl b o q hb
  exact ⟨_,e⟩
 ·obtain ⟨o',e⟩:=tt b o q hb
  exact ⟨o',fl.st b o' e⟩
structure Out (X:Cx) (E:XK):Prop where
 st:X.stack=X.env::X.outer
 fr:X.env.frame=some X.env.locals
 ex:X.ex=[]
 pass:∀ a s',wpAny (model X.prog X.w) X.A (leaving X.env (.ref a)) (fun _ s'' => CX1 X.prog X.w X.outer X.H₀ X.s₀ E (.ref a) s'') (fun _ _=>False) s'->X.xe (.ref a) s'
theorem Out.passes {E:XK} (O:Out X E):Passes (CX1 X.prog X.w) X E:=by
 intro pins σ H s e s' I hx
 obtain ⟨a,C,H',B,rfl,F,q⟩:=hx
 refine O.pass a s' (qjg (by rw [I.ok.frames,O.st]) O.fr (by rw [<- O.st];exact F.fly) fun h' fl' up=>?_)
 exact ⟨a,C,H',B,rfl,qmz I O.st O.ex F.os F.bare F.hok F.kp F.th F.un F.fly.st fl' up,q⟩
end
end L2
namespace L2
open PySem PySem.Spec PyProof.Rows
def excO (a C:Addr):HO:=.ext fun h=>∃ o vs,h.get? a=some o/\o.cls=.ref C/\o.data=.fields vs/\vs[2]?=some .none
end L2
namespace L2
open PySem PySem.Spec PyProof.Rows Builtin Builtin.ObjectAttr Builtin.Getset_descriptor
section
variable {P:Program} {w:World} {K:PySem.W.Frag} {mg:Str->Option Value} {base:Heap} {x qual:Str} {st:Stmt} {f:Addr} {fd:FuncData} {N ps:List Str} {k:Nat} {sp:Sp}
theorem q2i {qual:Str} {sc:Scope} {cdv:Value} {A:Around} {outer:List Env} {s:Shared} {H:Hp} {E:XK}:Out (cxOf (CX1 P w) P w K mg base N qual sc f cdv A outer s H E) E:=
 ⟨rfl,rfl,rfl,fun a s' h=>wpAny_mono h (fun _ _ q=>q) fun _ _ z=>False.elim z⟩
theorem Fun.okR (F:Fun K x qual st f fd) (S:q1r N ps (q0f st)) (len:∀ vs H Q E,sp vs H Q E->vs.length=ps.length)
  (hbody:∀ (cdv:Value) (A:Around) (outer:List Env) (s:Shared) (H:Hp) (vs:List V) (Q:VK) (E:XK),Room k (A.deeper (envOfC qual (q0f st) s.heap.objs.size f cdv))->sp vs H Q E ->
   ∃ t,PSs (cxOf (CX1 P w) P w K mg base N qual (q0f st) f cdv A outer s H E) (q1g st) t/\t {nx:=fun _ H' => Q .non H',rt:=Q} (start N vs) H):FnOk P w K mg base (CX1 P w) (k+1) f fd ps sp:=by
 obtain ⟨oc,od,kV,doc,pm,an,cdv,ct,osl,rfl,lk,hcd⟩:=F.ex
 exact fn_of lk hcd S len fun A outer s H vs Q E hr hsp=>hbody cdv A outer s H vs Q E hr hsp
end
end L2
namespace L2
open PySem PySem.Spec PyProof.Rows
section
variable {X:Cx}
abbrev TJ:=Str->TE
def PJ (X:Cx) (es:List Expr) (t:TJ):Prop:=∀ (acc:Str) (pins:List (Addr×Obj)) (s:Shared) (σ:St) (H:Hp) (Q:VK),Inv X pins σ H s->t acc σ H Q ->
 wpAny (model X.prog X.w) X.A (joinParts acc (evalEach es X.env)) (EP X pins σ Q) X.xe s
def jNil:TJ:=fun acc _ H Q=>acc.length<=sizeLine/\Q (.str acc) H
def jCons (t:TE) (u:TJ):TJ:=fun acc σ H Q=>t σ H fun v H1=>∃ y,v=.str y/\(acc++y).length<=sizeLine/\u (acc++y) σ H1 Q
theorem pj_nil:PJ X [] jNil:=fun acc pins s σ H Q I h=>joinParts_nil (out:=acc) ⟨.str acc,H,I.tok _,⟨_,rfl⟩,h.2⟩ h.1
theorem qbo {e:Expr} {es:List Expr} {t:TE} {u:TJ} (he:PE X e t) (hr:PJ X es u) (hev:evalEach (e::es) X.env=eval e X.env::evalEach es X.env:=by rfl):PJ X (e::es) (jCons t u):=by
 intro acc pins s σ H Q I h
 rw [hev]
 refine joinParts_cons (thn (he pins s σ H _ I h) fun v s1 ⟨x,H1,I1,r,y,e1,hl,q⟩=>?_)
 subst e1
 obtain ⟨t,rfl⟩:=r
 exact ⟨hl,hr _ pins s1 σ H1 Q I1 q⟩
theorem qny {v1 v2:Expr} {rest:List Expr} {pos:Pos} {u:TJ} (h:PJ X (v1::v2::rest) u):PE X (.JoinedStr (v1::v2::rest) pos) (u Str.empty):=by
 intro pins s σ H Q I hw
 rw [arm_eval_JoinedStr]
 exact h Str.empty pins s σ H Q I hw
def tFmtI (t:TE):TE:=fun σ H Q=>t σ H fun v H1=>∃ i:Int,v=.int i/\i.natAbs.log2<1920/\Q (.str (toString i)) H1
theorem qma {e:Expr} {t:TE} {pos:Pos} (he:PE X e t):PE X (.FormattedValue e (-1) none pos) (tFmtI t):=by
 intro pins s σ H Q I h
 refine FormattedValue_plain (thn (he pins s σ H _ I h) fun v s1 ⟨x,H1,I1,r,i,e1,hl,q⟩=>?_)
 subst e1
 obtain ⟨t,rfl⟩:=r
 exact formatField_int_small hl ⟨.str _,H1,I1.tok _,⟨_,rfl⟩,q⟩
def tFmtS (t:TE):TE:=fun σ H Q=>t σ H fun v H1=>∃ y,v=.str y/\y.length<=sizeLine/\Q (.str y) H1
theorem qmh {e:Expr} {t:TE} {pos:Pos} (he:PE X e t):PE X (.FormattedValue e (-1) none pos) (tFmtS t):=by
 intro pins s σ H Q I h
 refine FormattedValue_plain (thn (he pins s σ H _ I h) fun v s1 ⟨x,H1,I1,r,y,e1,hl,q⟩=>?_)
 subst e1
 obtain ⟨t,rfl⟩:=r
 exact formatField_str (fun t' tk=>⟨.str _,H1,I1.tok _,⟨_,rfl⟩,q⟩) hl
end
end L2
namespace L2
open PySem PySem.Spec PyProof.Rows
theorem q7h {α β:Type} {R:α->β->Prop}:∀ {xs:List α} {ys:List β},Paired R xs ys->∀ {i:Nat} {x:α},xs[i]?=some x->∃ y,ys[i]?=some y/\R x y
 | [],_, .nil,i,x,h=>by simp at h
 | a::xs,b::ys, .cons r rs,0,x,h=>by
  cases h
  exact ⟨b,rfl,r⟩
 | a::xs,b::ys, .cons r rs,i+1,x,h=>q7h rs (i:=i) h
theorem kv_rel {k:Key} {v:Value} (h:q7n k v=true):RelV (kV k) v:=by
 rcases q2k h with ⟨i,t,rfl,rfl⟩ | ⟨x,t,rfl,rfl⟩
 ·exact ⟨t,rfl⟩
 ·exact ⟨t,rfl⟩
end L2
namespace L2
open PySem PySem.Spec PyProof.Rows
section
variable {X:Cx}
theorem qfo {K:PySem.W.Frag} {ts:List Expr} {t:TGs} {kk:Nat} {tpos:Pos} {n:Nat} (hK:X.K=K) (hn:n=ts.length) (hc:X.calm=true) (h:PGs X ts t) (h1:(assignEach ts X.env).length=n:=by rfl) (h2:(assignEach ts X.env).findIdx? (·.1)=none:=by rfl):PG X (.Tuple ts kk tpos) (gTup K n t):=by
 subst hK
 subst h1
 exact qaf hc h rfl h2
end
end L2
namespace L2
open PySem PySem.Spec PyProof.Rows
def Ite (K:PySem.W.Frag) (l:Addr):It:=
 ⟨fun i H=>∃ xs x,SqL K H l xs/\xs[i]?=some x,
  fun i H v H' => ∃ T x,v=.ref T/\H T=none/\H'=upd H T (.tup [.int i,x])/\∀ xs,SqL K H l xs->xs[i]?=some x,
  fun i H=>∃ xs,SqL K H l xs/\xs.length<=i⟩
theorem qik {P:Program} {w:World} {K:PySem.W.Frag} {elts:List Expr} {kk:Nat} {tpos:Pos} (l e it:Addr) (hne:e≠it) :
  Turn P w K (.Tuple elts kk tpos) (Ite K l) [e,it] e (fun i h=>(∃ old,IsEnum h e it i old)/\h.IsListIter it l i) where
 mem:=by simp
 obj:=fun i h st c hc=>by
  obtain ⟨⟨old,he⟩,⟨o1,e1,_,d1⟩⟩:=st
  simp only [List.mem_cons,List.not_mem_nil,or_false] at hc
  rcases hc with rfl | rfl
  ·exact ⟨_,he,fun v z=>nomatch z⟩
  ·exact ⟨o1,e1,fun v z=>by rw [d1] at z;cases z⟩
 keep:=fun i h h' st k=>by
  obtain ⟨⟨old,he⟩,hit⟩:=st
  exact ⟨⟨old,k e (by simp) _ he⟩,hit.at fun o x=>k it (by simp) o x⟩
 item:=by
  intro X hP hw hK hc i pins s σ H E I hf st hg
  subst hP hw hK
  obtain ⟨xs,x,hq,hx⟩:=hg
  obtain ⟨its,rv,p,hz⟩:=I.list hq
  obtain ⟨u,hu,ru⟩:=rv.get hx
  obtain ⟨⟨old,he⟩,hit⟩:=st
  refine wpAny_pyNext_enum_item he hit p.isList (x:=u) (by simpa using hu) hne fun h' ho hit' hT hsz hk=>?_
  refine ⟨_,rfl,wpAny_letOwnedTupleGo_enum ho fun h'' he'' hs'' => ?_⟩
  have nTe:s.heap.objs.size≠e:=Nat.ne_of_gt (Heap.lt_size he)
  have nTi:s.heap.objs.size≠it:=Nat.ne_of_gt (by obtain ⟨_,x,_⟩:=hit;exact Heap.lt_size x)
  have keep2:∀ c o,c∉[e,it]->s.heap.get? c=some o->h''.get? c=some o:=fun c o hc e' => by
   simp only [List.mem_cons,List.not_mem_nil,or_false,not_or] at hc
   exact hs''.extBut _ _ hc.1 (hk c o hc.1 hc.2 e')
  have I1:Inv X pins σ H {s with heap:=h'',toks:=s.toks+1}:=I.qgf hf keep2
  have fT:FpOk X pins H s.heap.objs.size:=I.fpOk (Nat.le_refl _) I.fresh
  have hTt:=hs''.extBut _ _ nTe hT
  have I2:Inv X pins σ (upd H s.heap.objs.size (.tup [.int i,x])) {s with heap:=h'',toks:=s.toks+1}:=I1.track fT ⟨(by show 2<=sizeLine;decide),[_,u], .cons ⟨_,rfl⟩ (.cons ru .nil),⟨_,hTt,rfl,0,rfl⟩⟩
  refine ⟨.ref s.heap.objs.size,_,I2,rfl,⟨s.heap.objs.size,x,rfl,I.fresh,rfl,fun ys hy=>by rw [I.qe8 hy hq];exact hx⟩,⟨⟨_,by simpa using he''⟩,hit'.extBut hs''.extBut (Ne.symm hne)⟩,fun c hc=>?_⟩
  have hc':=hc
  simp only [List.mem_cons,List.not_mem_nil,or_false] at hc'
  have:c≠s.heap.objs.size:=by rcases hc' with z | z <;> rw [z] <;> exact Ne.symm (by assumption)
  rw [q0p this]
  exact (hf c hc).1
 done:=by
  intro X hP hw hK hc i pins s σ H E I hf st hg
  subst hP hw hK
  obtain ⟨xs,hq,hx⟩:=hg
  obtain ⟨its,rv,p,hz⟩:=I.list hq
  obtain ⟨⟨old,he⟩,hit⟩:=st
  have hl:=rv.length
  exact wpAny_pyNext_enum_end (I.ok.hd hc) he hit p.isList (by simp;omega) fun h' eb=>⟨rfl,I.qgf (t':=s.toks) hf fun c o hc e=>eb c o (by simp only [List.mem_cons,List.not_mem_nil,or_false,not_or] at hc;exact hc.2) e⟩
 self:=fun _ _ _ _ _ ⟨⟨old,he⟩,_⟩ h=>wpAny_pyIter_enum he h
section
variable {X:Cx}
def iEnum (K:PySem.W.Frag) (ta:TA):TI:=fun σ H R=>ta σ H fun vs H1=>∃ l,vs=[.ref l]/\(∃ xs,SqL K H1 l xs)/\R (Ite K l) H1
theorem qmc {elts:List Expr} {kk:Nat} {tpos:Pos} {e1:Expr} {ta:TA} {p pos:Pos} (hg:Gl X "enumerate") (hm:X.mg "enumerate" = none) (ha:PA X [e1] ta) (hs:starEach [e1] X.env=[(false,eval e1 X.env)]:=by rfl) :
  PI X (.Tuple elts kk tpos) (.Call (.Name "enumerate" p) [e1] [] pos) (iEnum X.K ta):=by
 intro pins s σ H R I h
 refine wpAny_Call_Name_kw (q71 I hg hm boot_enumerate ?_ (by decide) (by decide))
 have hA:=ha pos pins s σ H _ I h
 rw [hs] at hA ⊢
 refine PyProof.Rows.callWith_type rfl (Calls.evalArgs_plain (thn hA fun us s1 ⟨vs,H1,I1,r,q⟩=>?_))
 obtain ⟨l,rfl,⟨xs,hx⟩,q⟩:=q
 obtain ⟨u,rfl,ru⟩:=vals1 r
 cases ru
 obtain ⟨itx,rx,plx,_⟩:=I1.list hx
 refine call_enumerate_list plx.isList fun h' he hit hsz hk=>?_
 refine wpAny_pyIter_enum he ?_
 refine ⟨_,_,_,_,H1,rfl,I1.kept (t':=s1.toks) hk,qik l _ _ (Nat.succ_ne_self _),⟨⟨_,he⟩,hit⟩,fun c hc=>?_,q⟩
 have:s1.heap.objs.size<=c:=by
  simp only [List.mem_cons,List.not_mem_nil,or_false] at hc
  rcases hc with e | e <;> rw [e]
  ·exact Nat.le_succ _
  ·exact Nat.le_refl _
 exact I1.fpOk this (I1.hok.fresh this)
end
end L2
set_option maxHeartbeats 8000000
namespace L2
open PySem PySem.Spec PyProof.Rows
def meet {κ:Type} [DecidableEq κ] (acc:List κ) (x:κ):List κ:=if x∈acc then acc else acc++[x]
def metK {κ:Type} [DecidableEq κ] (xs:List κ):List κ:=xs.foldl meet []
theorem qjd {κ:Type} [DecidableEq κ] (xs:List κ) (x:κ):metK (xs++[x])=meet (metK xs) x:=by unfold metK;rw [List.foldl_append];rfl
theorem qlf {κ:Type} [DecidableEq κ] {acc:List κ} {x y:κ}:y∈meet acc x↔y∈acc\/y=x:=by
 unfold meet
 split
 ·rename_i h
  constructor
  ·exact .inl
  ·rintro (h' | rfl)
   ·exact h'
   ·exact h
 ·rw [List.mem_append,List.mem_singleton]
theorem qbe {κ:Type} [DecidableEq κ] (xs:List κ):∀ acc:List κ,(xs.foldl meet acc).length<=acc.length+xs.length:=by
 induction xs with
 | nil=>intro acc;exact Nat.le_refl _
 | cons x r ih =>
  intro acc
  have h1:=ih (meet acc x)
  have h2:(meet acc x).length<=acc.length+1:=by
   unfold meet;split
   ·omega
   ·rw [List.length_append];exact Nat.le_refl _
  rw [List.foldl_cons,List.length_cons];omega
theorem qex {κ:Type} [DecidableEq κ] (xs:List κ):∀ (acc:List κ) (y:κ),y∈xs.foldl meet acc↔y∈acc\/y∈xs:=by
 induction xs with
 | nil=>intro acc y;simp
 | cons x r ih =>
  intro acc y
  rw [List.foldl_cons,ih,qlf,List.mem_cons]
  constructor
  ·rintro ((h | h) | h)
   ·exact .inl h
   ·exact .inr (.inl h)
   ·exact .inr (.inr h)
  ·rintro (h | h | h)
   ·exact .inl (.inl h)
   ·exact .inl (.inr h)
   ·exact .inr h
end L2
namespace L2
open PySem PySem.Spec PyProof.Rows
section
variable {X:Cx}
theorem q2x:Passes (CX1 X.prog X.w) X (fun _ _ _=>False):=by
 intro pins σ H s e s' I hx
 obtain ⟨a,C,H',B,_,_,q⟩:=hx
 exact q.elim
end
end L2
namespace L2
open PySem PySem.Spec PyProof.Rows
section
variable {X:Cx} {pins:List (Addr×Obj)} {σ:St} {H:Hp} {s:Shared} {l b:Addr} {xs ys zs:List V}
theorem Inv.lstR (I:Inv X pins σ H s) (hH:Rd H l (.lst xs)):xs.length<=sizeLine/\∃ (its:List Value) (n:Nat),Vals xs its/\xs.length=its.length/\s.heap.get? l=some {cls:=.type "list",data:=.seq its.toArray n}:=by
 obtain ⟨z,its,n,r,e⟩:=hH.ok I.hok
 exact ⟨z,its,n,r,r.length,e⟩
def rCatR:R2:=fun x y H Q=>∃ l b xs zs,x=.ref l/\y=.ref b/\Rd H l (.lst xs)/\Rd H b (.lst zs)/\xs.length+zs.length<=sizeLine/\∀ p,H p=none->Q (.ref p) (upd H p (.lst (xs++zs)))
theorem q8q:OpR X (binaryOp .Add) rCatR:=by
 intro pins s σ H x y v u Q I rx ry h
 obtain ⟨l,b,xs,zs,rfl,rfl,hH,hB,hz,q⟩:=h
 cases rx
 cases ry
 obtain ⟨z,its,n,r,hl,e⟩:=I.lstR hH
 obtain ⟨z2,its2,n2,r2,hl2,e2⟩:=I.lstR hB
 refine PySem.P.add_list e e2 ?_ (by rw [List.size_toArray,List.size_toArray];omega)
 have ea:its.toArray++its2.toArray=(its++its2).toArray:=by simp
 rw [ea]
 exact ⟨.ref _,_,I.lnew (t':=s.toks) (r.append r2) (by rw [List.length_append];omega),rfl,q _ I.fresh⟩
def qdp:V->List V->Hp->VK->Prop:=fun x vs H Q=>∃ l b xs zs,x=.ref l/\vs=[.ref b]/\H l=some (.lst xs)/\Rd H b (.lst zs)/\xs.length+zs.length<=sizeLine/\Q .non (upd H l (.lst (xs++zs)))
theorem qa5:MtM X "list.extend" qdp:=by
 intro pins s σ H x vs v us Q I rx rv h
 obtain ⟨l,b,xs,zs,rfl,rfl,hH,hB,hz,q⟩:=h
 cases rx
 obtain ⟨u,rfl,ru⟩:=rv.one
 cases ru
 obtain ⟨z,its,n,r,hl,e⟩:=I.lstM hH
 obtain ⟨z2,its2,n2,r2,hl2,e2⟩:=I.lstR hB
 have hsz:its.toArray.size+its2.toArray.size<=sizeLine:=by rw [List.size_toArray,List.size_toArray];omega
 have hlong:¬ (!its.toArray.isEmpty && Builtin.List.listTooLong (its.toArray.size+its2.toArray.size))=true:=by
  rw [qm2 hsz,Bool.and_false]
  exact Bool.false_ne_true
 refine call_meets F.slot_list_extend ⟨_,e,rfl⟩ F.entry_list_extend (F.args_list_extend_2 _ _)
  (AutoSeq1.list_extend_list_list_0 l its.toArray n b its2.toArray n2 hlong (by rw [List.size_toArray];omega) (by omega)) ⟨e,e2,?_⟩
 refine ⟨.non,_,I.lset (its':=its++its2) hH e (by simp) (r.append r2) ?_,rfl,q⟩
 rw [List.length_append]
 omega
end
end L2
namespace L2
open PySem PySem.Spec PyProof.Rows
inductive TyZ (K:PySem.W.Frag) (H:Hp):V->Value->Prop where
 | of {x:V} {t:Value} (h:TyOf K H x t):TyZ K H x t
 | tup {a:Addr} {xs:List V} (h:SqT K H a xs):TyZ K H (.ref a) (.type "tuple")
 | lst {a:Addr} {xs:List V} (h:Rd H a (.lst xs)):TyZ K H (.ref a) (.type "list")
 | dK {a:Addr} {kvs:List (Key×V)} (h:Rd H a (.dK kvs)):TyZ K H (.ref a) (.type "dict")
section
variable {X:Cx}
theorem TyZ.kit {pins:List (Addr×Obj)} {σ:St} {H:Hp} {s:Shared} {x:V} {u t:Value} (I:Inv X pins σ H s) (rx:RelV x u) (ty:TyZ X.K H x t):∃ HH,PySem.W.KitX X.K u t HH/\HH s.heap/\u≠.builtin "__main__.__loader__#opaque":=by
 cases ty with
 | of h=>exact h.kit I rx
 | @tup a xs h =>
  cases (show u=Value.ref a from rx)
  obtain ⟨its,r,p,hz⟩:=I.tuple h
  obtain ⟨o,h1,h2,_⟩:=p
  exact ⟨_,PySem.W.kitx_tuple,⟨o,h1,h2⟩,fun z=>nomatch z⟩
 | @lst a xs h =>
  cases (show u=Value.ref a from rx)
  obtain ⟨_,_,n,_,h1⟩:=h.ok I.hok
  exact ⟨_,PySem.W.kitx_list,⟨_,h1,rfl⟩,fun z=>nomatch z⟩
 | @dK a kvs h =>
  cases (show u=Value.ref a from rx)
  obtain ⟨_,_,vs,_,p⟩:=h.ok I.hok
  obtain ⟨o,es,ep,h1,h2,_⟩:=p
  exact ⟨_,PySem.W.kitx_dict,⟨o,h1,h2.1⟩,fun z=>nomatch z⟩
def rIsi (K:PySem.W.Frag):List V->Hp->VK->Prop:=fun xs H Q=>∃ x n t b,xs=[x, .ty n]/\TyZ K H x t/\PySem.W.kitOne K t (.type n)=some b/\Q (.bl b) H
theorem q21:q2a X (.builtin "isinstance") (rIsi X.K):=by
 intro pins s σ H xs us Q I r h
 obtain ⟨x,n,t,b,rfl,ty,e,q⟩:=h
 obtain ⟨u,w',rfl,ru,rw'⟩:=vals2 r
 cases rw'
 obtain ⟨HH,Z,hh,hne⟩:=ty.kit I ru
 exact PySem.W.kia_one Z I.kIn hh e hne fun tk=>⟨.bl b,H,I.tok tk,rfl,q⟩
def rIsiT (K:PySem.W.Frag):List V->Hp->VK->Prop:=fun xs H Q=>∃ x p, ∃ ns:List String, ∃ t b,xs=[x, .ref p]/\H p=some (.tup (ns.map V.ty))/\TyZ K H x t/\PySem.W.kitAny K t (ns.map Value.type)=some b/\Q (.bl b) H
theorem qhy:q2a X (.builtin "isinstance") (rIsiT X.K):=by
 intro pins s σ H xs us Q I r h
 obtain ⟨x,p,ns,t,b,rfl,hp,ty,e,q⟩:=h
 obtain ⟨u,w',rfl,ru,rw'⟩:=vals2 r
 cases rw'
 obtain ⟨HH,Z,hh,hne⟩:=ty.kit I ru
 obtain ⟨_,its,rv,o,h1,h2,n,h3⟩:=(show q1s X.prog X.w H s.heap p (.tup (ns.map V.ty)) from I.hok p _ hp)
 have ei:its=ns.map Value.type:=qfs rv
 obtain ⟨oc,od,odt,osl⟩:=o
 cases h2
 cases h3
 subst ei
 exact PySem.W.kia_tup Z I.kIn hh h1 e hne fun tk=>⟨.bl b,H,I.tok tk,rfl,q⟩
def rLen (K:PySem.W.Frag):List V->Hp->VK->Prop:=fun xs H Q=>(∃ p ys,xs=[.ref p]/\(SqL K H p ys\/SqT K H p ys)/\Q (.int ys.length) H)\/∃ z,xs=[.str z]/\z.length<=sizeLine/\Q (.int z.length) H
theorem q23:q2a X (.builtin "len") (rLen X.K):=q2a.or qec qey
def qfw (K:PySem.W.Frag):List V->Hp->VK->Prop:=fun xs H Q=>∃ p ys,xs=[.ref p]/\(SqL K H p ys\/SqT K H p ys)/\∀ l,H l=none->Q (.ref l) (upd H l (.lst ys))
theorem qh6:q2a X (.type "list") (qfw X.K):=qd8
def qe4 (K:PySem.W.Frag):List V->Hp->VK->Prop:=fun xs H Q=>∃ p ys,xs=[.ref p]/\((SqL K H p ys/\∀ l,H l=none->Q (.ref l) (upd H l (.tup ys)))\/(SqT K H p ys/\Q (.ref p) H))
theorem qfb:q2a X (.type "tuple") (qe4 X.K):=qcw
def rAll (K:PySem.W.Frag):List V->Hp->VK->Prop:=fun xs H Q=>∃ p, ∃ bs:List Bool,xs=[.ref p]/\SqL K H p (bs.map V.bl)/\Q (.bl (bs.all id)) H
theorem qjq (hc:X.calm=true):q2a X (.builtin "all") (rAll X.K):=ql1 hc
def rMin2:List V->Hp->VK->Prop:=fun xs H Q=>∃ i j,xs=[.int i, .int j]/\Q (.int (if j<i then j else i)) H
theorem qav (hc:X.calm=true):q2a X (.builtin "min") rMin2:=qiz hc
def rStrI:List V->Hp->VK->Prop:=fun xs H Q=>∃ i,xs=[.int i]/\i.natAbs.log2<1920/\Q (.str (toString i)) H
theorem q88:q2a X (.type "str") rStrI:=qeh
end
section
variable {X:Cx} {K:PySem.W.Frag}
theorem qhz (h:X.K=K):q2a X (.builtin "isinstance") (rIsi K):=h ▸ q21
end
end L2
namespace L2
open PySem PySem.Spec PyProof.Rows
section
variable {X:Cx} {K:PySem.W.Frag} {tg:Expr}
theorem qbd:SlR X (rSlT X.K):=sl_tup
theorem q5y:OpR X (compareOp .In) (rIn X.K false):=qj1
end
end L2
namespace L2
open PySem PySem.Spec PyProof.Rows
section
variable {X:Cx} {K:PySem.W.Frag}
theorem qcu (bs:List Bool):((List.range bs.length).any fun i=>bs.getD i false)=bs.any id:=by
 rw [Bool.eq_iff_iff,List.any_eq_true,List.any_eq_true]
 constructor
 ·rintro ⟨i,hi,h⟩
  have hlt:=List.mem_range.mp hi
  rw [List.getD_eq_getElem?_getD,List.getElem?_eq_getElem hlt] at h
  exact ⟨_,List.getElem_mem hlt,h⟩
 ·rintro ⟨x,hx,h⟩
  obtain ⟨i,hi⟩:=List.getElem?_of_mem hx
  have hlt:=(List.getElem?_eq_some_iff.mp hi).1
  exact ⟨i,List.mem_range.mpr hlt,by rw [List.getD_eq_getElem?_getD,hi];exact h⟩
def rAny (K:PySem.W.Frag):List V->Hp->VK->Prop:=fun xs H Q=>∃ p, ∃ bs:List Bool,xs=[.ref p]/\SqL K H p (bs.map V.bl)/\Q (.bl (bs.any id)) H
theorem qig (hc:X.calm=true):q2a X (.builtin "any") (rAny X.K):=by
 intro pins s σ H xs us Q I r h
 obtain ⟨p,bs,rfl,hq,q⟩:=h
 obtain ⟨u,rfl,ru⟩:=vals1 r
 cases ru
 obtain ⟨its,rv,pl,hz⟩:=I.list hq
 have hlen:bs.length=its.length:=by have:=rv.length;simpa using this
 have hv:∀ (i:Nat) v,its[i]?=some v->v=.bool (bs.getD i false):=fun i v hi=>by
  have hib:i<bs.length:=by rw [hlen];exact (List.getElem?_eq_some_iff.mp hi).1
  have hb:(bs.map V.bl)[i]?=some (.bl (bs.getD i false)):=by
   rw [List.getElem?_map,List.getElem?_eq_getElem hib,List.getD_eq_getElem?_getD,List.getElem?_eq_getElem hib];rfl
  obtain ⟨u,hu,ru⟩:=rv.get hb
  rw [hi] at hu;cases hu
  exact ru
 have hne:p≠s.heap.objs.size:=Nat.ne_of_lt (by obtain ⟨o,n,e,_⟩:=pl;exact Heap.lt_size e)
 refine call_any_walk ?_
 refine wpAny_pyIter_list pl.isList ?_
 refine ⟨s.heap.objs.size,_,_,its.toArray.size,_,_,fun i=>bs.getD i false,rfl,Walks.list (A:=X.A.in1) (I.ok.hd hc) s.heap.objs.size p hne its.toArray,⟨⟨_,Heap.get?_push_size _ rfl,rfl,rfl⟩,?_⟩,?_,?_⟩
 ·exact pl.isList.at fun o e=>Heap.get?_push_of_some _ e
 ·intro i v s' Q' E' hP hQ'
  have hP:its.toArray[i]?=some v:=hP
  rw [hv i v (by simpa using hP)]
  exact wpAny_truthy_bool hQ'
 ·intro h' tk kk
  rw [List.size_toArray, <- hlen,qcu]
  refine ⟨.bl _,H,I.kept fun b o e=>kk b o ?_ (Heap.get?_push_of_some _ e),rfl,q⟩
  intro z
  have z:b=s.heap.objs.size:=by simpa using z
  exact absurd (z ▸ Heap.lt_size e) (Nat.lt_irrefl _)
end
end L2
namespace Z
open PySem L2
inductive AV where
 | non | bl (b:Bool) | int (i:Int) | str (x:Str)
 | tup (xs:List AV) | lst (xs:List AV) | dk (ks:List Key) (xs:List AV) | ref (k:Nat)
 | kst (xs:List AV)
 | xc (c:Nat)
inductive Cell where
 | dead | lst (xs:List AV) | dk (ks:List Key) (xs:List AV) | ins (c:Nat) (fs:List (Nat×AV))
abbrev AEnv:=List (Option AV)
abbrev AH:=List Cell
inductive Re (α:Type) where
 | ok (x:α) (h:AH) | ex (c:Nat) (h:AH) | no
def Re.bind {α β:Type} (r:Re α) (f:α->AH->Re β):Re β:=match r with | .ok x h=>f x h | .ex c h=>.ex c h | .no=>.no
@[simp] theorem Re.q3h {α β:Type} (x:α) (h:AH) (f:α->AH->Re β):(Re.ok x h).bind f=f x h:=rfl
@[simp] theorem Re.bind_ex {α β:Type} (c:Nat) (h:AH) (f:α->AH->Re β):(Re.ex c h:Re α).bind f=.ex c h:=rfl
@[simp] theorem Re.bind_no {α β:Type} (f:α->AH->Re β):(Re.no:Re α).bind f=.no:=rfl
structure Ct where
 K:PySem.W.Frag
 cl:Nat->Addr
 fn:Nat->Str
 fl:Nat->List Nat
 inj:∀ c i j,i∈fl c->j∈fl c->fn i=fn j->i=j
 fld:∀ c i,i∈fl c->Cls K (cl c)/\qib K (cl c) (fn i)
 fg:Nat->List Nat
 pin:Option (Addr×Addr):=none
structure Wd where
 ρ:List Addr
 Fz:Addr->Prop
 h:AH
 H:Hp
mutual
def Tr (C:Ct) (w:Wd):AV->V->Prop
 | .non,v=>v=.non
 | .bl b,v=>v=.bl b
 | .int i,v=>v=.int i
 | .str x,v=>v=.str x
 | .tup xs,v=>∃ a vs,v=.ref a/\SqT C.K w.H a vs/\Trs C w xs vs
 | .lst xs,v=>∃ a vs,v=.ref a/\w.Fz a/\Rd w.H a (.lst vs)/\Trs C w xs vs
 | .dk ks xs,v=>∃ a kvs,v=.ref a/\w.Fz a/\Rd w.H a (.dK kvs)/\kvs.map (·.1)=ks/\Trs C w xs (kvs.map (·.2))
 | .ref k,v=>∃ a,v=.ref a/\w.ρ[k]?=some a
 | .kst xs,v=>∃ a vs,v=.ref a/\((w.Fz a/\Rd w.H a (.lst vs))\/SqL C.K (fun _=>none) a vs)/\Trs C w xs vs
 | .xc c,v=>∃ a,v=.ref a/\C.pin=some (a,C.cl c)
def Trs (C:Ct) (w:Wd):List AV->List V->Prop
 | [],vs=>vs=[]
 | x::xs,vs=>∃ v us,vs=v::us/\Tr C w x v/\Trs C w xs us
end
def Flds (C:Ct) (w:Wd):List (Nat×AV)->List (Str×V)->Prop
 | [],fs=>fs=[]
 | p::r,fs=>∃ v us,fs=(C.fn p.1,v)::us/\Tr C w p.2 v/\Flds C w r us
def q72 (C:Ct) (w:Wd):Cell->Addr->Prop
 | .dead,_=>True
 | .lst xs,a=>∃ vs,w.H a=some (.lst vs)/\Trs C w xs vs
 | .dk ks xs,a=>∃ kvs,w.H a=some (.dK kvs)/\kvs.map (·.1)=ks/\Trs C w xs (kvs.map (·.2))
 | .ins c fs,a=>((∀ p∈fs,p.1∈C.fl c)/\C.fl c=C.fg c)/\∃ dx fvs,w.H a=some (.ins (C.cl c) dx fvs)/\Flds C w fs fvs
def Live (w:Wd) (a:Addr):Prop:=∃ (k:Nat) (c:Cell),w.h[k]?=some c/\c≠.dead/\w.ρ[k]?=some a
structure Ok (C:Ct) (w:Wd):Prop where
 len:w.ρ.length=w.h.length
 nd:w.ρ.Nodup
 th:∀ a∈w.ρ,w.H a≠none
 cell:∀ (k:Nat) c a,w.h[k]?=some c->w.ρ[k]?=some a->q72 C w c a
 fz:∀ a,Live w a->¬ w.Fz a
 fzt:∀ a,w.Fz a->w.H a≠none
 pn:∀ a c,C.pin=some (a,c)->w.H a=some (excO a c)
def Kept (f:Prop) (o:HO) (r:Option HO):Prop:=r=some o\/(f/\∃ ob kvs,o=.dK kvs/\r=some (.frz ob o))
structure Le (w w':Wd):Prop where
 pre:∃ t,w'.ρ=w.ρ++t
 fz:∀ a,w.Fz a->w'.Fz a
 ks:∀ b, ¬ Live w b->∀ o,w.H b=some o->Kept (w'.Fz b) o (w'.H b)
 fn:∀ a,w'.Fz a->w.Fz a\/w.H a=none\/Live w a
 nw:∀ a,Live w' a->w.H a=none\/Live w a
 nn:∀ a,w.H a≠none->w'.H a≠none
 rn:∀ a,a∈w'.ρ->a∈w.ρ\/w.H a=none
theorem Rd.ne {H:Hp} {a:Addr} {u:HO} (r:Rd H a u):H a≠none:=by
 rcases r with r | ⟨o,r⟩ <;> rw [r] <;> intro z <;> cases z
theorem Le.kp {w w':Wd} (le:Le w w') (b:Addr) (hb:¬ Live w b) (u:HO) (r:Rd w.H b u):Rd w'.H b u:=by
 rcases r with r | ⟨o,r⟩
 ·rcases le.ks b hb _ r with q | ⟨_,ob,kvs,rfl,q⟩
  ·exact .inl q
  ·exact .inr ⟨ob,q⟩
 ·rcases le.ks b hb _ r with q | ⟨_,ob,kvs,e,q⟩
  ·exact .inr ⟨o,q⟩
  ·cases e
theorem Le.refl (w:Wd):Le w w:=⟨⟨[],by simp⟩,fun _ h=>h,fun _ _ _ h=>.inl h,fun _ h=>.inl h,fun _ h=>.inr h,fun _ h=>h,fun _ h=>.inl h⟩
theorem Le.trans {w w' w'':Wd} (a:Le w w') (b:Le w' w''):Le w w'':=by
 have hl:∀ x,Live w' x->w.H x=none\/Live w x:=a.nw
 have hn:∀ x,w'.H x=none->w.H x=none:=fun x z=>by
  cases e:w.H x with
  | none=>rfl
  | some o=>exact absurd z (a.nn x (by rw [e];intro q;cases q))
 refine ⟨?_,fun x h=>b.fz x (a.fz x h),fun x hx o r=>?_,fun x h=>?_,fun x hx=>?_,fun x h=>b.nn x (a.nn x h),fun x h=>?_⟩
 ·obtain ⟨t,e⟩:=a.pre
  obtain ⟨t',e'⟩:=b.pre
  exact ⟨t++t',by rw [e',e,List.append_assoc]⟩
 ·have hx':¬ Live w' x:=fun z=>by
   rcases hl x z with z | z
   ·rw [r] at z;cases z
   ·exact hx z
  rcases a.ks x hx o r with q | ⟨f,ob,kvs,e,q⟩
  ·exact b.ks x hx' o q
  ·rcases b.ks x hx' _ q with q' | ⟨_,ob',kvs',e',q'⟩
   ·exact .inr ⟨b.fz x f,ob,kvs,e,q'⟩
   ·cases e'
 ·rcases b.fn x h with z | z | z
  ·exact a.fn x z
  ·exact .inr (.inl (hn x z))
  ·rcases hl x z with z | z
   ·exact .inr (.inl z)
   ·exact .inr (.inr z)
 ·rcases b.nw x hx with z | z
  ·exact .inl (hn x z)
  ·exact hl x z
 ·rcases b.rn x h with z | z
  ·exact a.rn x z
  ·exact .inr (hn x z)
section
variable {C:Ct} {w w':Wd}
theorem Ok.notup (ok:Ok C w) {a:Addr} (hl:Live w a) {vs:List V}:¬ Rd w.H a (.tup vs):=by
 obtain ⟨k,c,e1,e2,e3⟩:=hl
 have:=ok.cell k c a e1 e3
 intro r
 cases c with
 | dead=>exact e2 rfl
 | lst xs=>obtain ⟨vs',e,_⟩:=this;rcases r with r | ⟨o,r⟩ <;> rw [e] at r <;> cases r
 | dk ks xs=>obtain ⟨kvs,e,_⟩:=this;rcases r with r | ⟨o,r⟩ <;> rw [e] at r <;> cases r
 | ins cc fs=>obtain ⟨_,dx,fvs,e,_⟩:=this;rcases r with r | ⟨o,r⟩ <;> rw [e] at r <;> cases r
theorem Ok.sqT (ok:Ok C w) (le:Le w w') {a:Addr} {vs:List V} (h:SqT C.K w.H a vs):SqT C.K w'.H a vs:=by
 rcases h with h | h
 ·exact .inl (le.kp a (fun hl=>ok.notup hl h) _ h)
 ·exact .inr h
mutual
theorem Tr.mono (ok:Ok C w) (le:Le w w'):∀ {x:AV} {v:V},Tr C w x v->Tr C w' x v
 | .non,v,h=>by rw [Tr] at h ⊢;exact h
 | .bl _,v,h=>by rw [Tr] at h ⊢;exact h
 | .int _,v,h=>by rw [Tr] at h ⊢;exact h
 | .str _,v,h=>by rw [Tr] at h ⊢;exact h
 | .tup xs,v,h=>by
  rw [Tr] at h ⊢
  obtain ⟨a,vs,e,hs,ht⟩:=h
  exact ⟨a,vs,e,ok.sqT le hs,Trs.mono ok le ht⟩
 | .lst xs,v,h=>by
  rw [Tr] at h ⊢
  obtain ⟨a,vs,e,f,r,ht⟩:=h
  exact ⟨a,vs,e,le.fz a f,le.kp a (fun hl=>ok.fz a hl f) _ r,Trs.mono ok le ht⟩
 | .dk ks xs,v,h=>by
  rw [Tr] at h ⊢
  obtain ⟨a,kvs,e,f,r,hk,ht⟩:=h
  exact ⟨a,kvs,e,le.fz a f,le.kp a (fun hl=>ok.fz a hl f) _ r,hk,Trs.mono ok le ht⟩
 | .ref k,v,h=>by
  rw [Tr] at h ⊢
  obtain ⟨a,e,hk⟩:=h
  obtain ⟨t,et⟩:=le.pre
  refine ⟨a,e,?_⟩
  rw [et,List.getElem?_append_left (List.getElem?_eq_some_iff.mp hk).1];exact hk
 | .kst xs,v,h=>by
  rw [Tr] at h ⊢
  obtain ⟨a,vs,e,hs,ht⟩:=h
  refine ⟨a,vs,e,?_,Trs.mono ok le ht⟩
  rcases hs with ⟨f,r⟩ | r
  ·exact .inl ⟨le.fz a f,le.kp a (fun hl=>ok.fz a hl f) _ r⟩
  ·exact .inr r
 | .xc c,v,h=>by rw [Tr] at h ⊢;exact h
theorem Trs.mono (ok:Ok C w) (le:Le w w'):∀ {xs:List AV} {vs:List V},Trs C w xs vs->Trs C w' xs vs
 | [],vs,h=>by rw [Trs] at h ⊢;exact h
 | x::xs,vs,h=>by
  rw [Trs] at h ⊢
  obtain ⟨v,us,e,h1,h2⟩:=h
  exact ⟨v,us,e,Tr.mono ok le h1,Trs.mono ok le h2⟩
end
theorem Flds.mono (ok:Ok C w) (le:Le w w'):∀ {xs:List (Nat×AV)} {vs:List (Str×V)},Flds C w xs vs->Flds C w' xs vs
 | [],vs,h=>h
 | x::xs,vs,h=>by
  obtain ⟨v,us,e,h1,h2⟩:=h
  exact ⟨v,us,e,Tr.mono ok le h1,Flds.mono ok le h2⟩
theorem Trs.nil:Trs C w [] []:=by rw [Trs]
theorem Trs.cons {x:AV} {v:V} {xs:List AV} {vs:List V} (a:Tr C w x v) (b:Trs C w xs vs):Trs C w (x::xs) (v::vs):=by rw [Trs];exact ⟨v,vs,rfl,a,b⟩
theorem Trs.len:∀ {xs:List AV} {vs:List V},Trs C w xs vs->xs.length=vs.length
 | [],vs,h=>by rw [Trs] at h;rw [h];rfl
 | x::xs,vs,h=>by
  rw [Trs] at h
  obtain ⟨v,us,e,h1,h2⟩:=h
  rw [e,List.length_cons,List.length_cons,Trs.len h2]
theorem Trs.get:∀ {xs:List AV} {vs:List V} {i:Nat} {x:AV},Trs C w xs vs->xs[i]?=some x->∃ v,vs[i]?=some v/\Tr C w x v
 | [],vs,i,x,h,e=>by simp at e
 | y::xs,vs,0,x,h,e=>by
  rw [Trs] at h
  obtain ⟨v,us,e',h1,h2⟩:=h
  simp at e;subst e;subst e'
  exact ⟨v,rfl,h1⟩
 | y::xs,vs,i+1,x,h,e=>by
  rw [Trs] at h
  obtain ⟨v,us,e',h1,h2⟩:=h
  subst e'
  obtain ⟨v',q,t⟩:=Trs.get (i:=i) h2 (by simpa using e)
  exact ⟨v',by simpa using q,t⟩
theorem Trs.get' {xs:List AV} {vs:List V} {i:Nat} {v:V} (h:Trs C w xs vs) (e:vs[i]?=some v):∃ x,xs[i]?=some x/\Tr C w x v:=by
 have hl:=h.len
 have hi:=(List.getElem?_eq_some_iff.mp e).1
 have hx:xs[i]?=some (xs[i]'(by omega)):=List.getElem?_eq_getElem (by omega)
 obtain ⟨v',q,t⟩:=h.get hx
 rw [e] at q;cases q
 exact ⟨_,hx,t⟩
theorem Trs.app:∀ {xs ys:List AV} {vs us:List V},Trs C w xs vs->Trs C w ys us->Trs C w (xs++ys) (vs++us)
 | [],ys,vs,us,h,g=>by rw [Trs] at h;subst h;exact g
 | x::xs,ys,vs,us,h,g=>by
  rw [Trs] at h
  obtain ⟨v,us',e,h1,h2⟩:=h
  subst e
  exact .cons h1 (Trs.app h2 g)
theorem Trs.one {x:AV} {v:V} (h:Tr C w x v):Trs C w [x] [v]:=.cons h .nil
theorem Trs.take (n:Nat):∀ {xs:List AV} {vs:List V},Trs C w xs vs->Trs C w (xs.take n) (vs.take n):=fun {xs vs} h=>by
 induction n generalizing xs vs with
 | zero=>simp only [List.take_zero];exact .nil
 | succ n ih =>
  cases xs with
  | nil=>rw [Trs] at h;subst h;simp only [List.take_nil];exact .nil
  | cons x xs =>
   rw [Trs] at h
   obtain ⟨v,us,e,h1,h2⟩:=h
   subst e
   exact .cons h1 (ih h2)
theorem Trs.drop (n:Nat):∀ {xs:List AV} {vs:List V},Trs C w xs vs->Trs C w (xs.drop n) (vs.drop n):=fun {xs vs} h=>by
 induction n generalizing xs vs with
 | zero=>exact h
 | succ n ih =>
  cases xs with
  | nil=>rw [Trs] at h;subst h;simp only [List.drop_nil];exact .nil
  | cons x xs =>
   rw [Trs] at h
   obtain ⟨v,us,e,h1,h2⟩:=h
   subst e
   exact ih h2
theorem Trs.q8j {vs:List V}:Trs C w [] vs↔vs=[]:=by rw [Trs]
structure q1d (C:Ct) (w:Wd) (env:AEnv) (σ:St):Prop where
 len:env.length=σ.length
 at_:∀ (i:Nat) x,env[i]?=some (some x)->∃ v, σ[i]?=some (some v)/\Tr C w x v
theorem q1d.mono {env:AEnv} {σ:St} (e:q1d C w env σ) (ok:Ok C w) (le:Le w w'):q1d C w' env σ:=
 ⟨e.len,fun i x h=>let ⟨v,q,t⟩:=e.at_ i x h;⟨v,q,t.mono ok le⟩⟩
theorem q1d.set {env:AEnv} {σ:St} {x:AV} {v:V} (e:q1d C w env σ) (i:Nat) (t:Tr C w x v):q1d C w (env.set i (some x)) (σ.set i (some v)):=by
 refine ⟨by rw [List.length_set,List.length_set];exact e.len,fun j y h=>?_⟩
 by_cases hj:i=j
 ·subst hj
  by_cases hi:i<env.length
  ·rw [List.getElem?_set_self hi] at h
   cases h
   exact ⟨v,by rw [List.getElem?_set_self (by rw [<- e.len];exact hi)],t⟩
  ·rw [List.getElem?_eq_none (by rw [List.length_set];omega)] at h;cases h
 ·rw [List.getElem?_set_ne hj] at h
  obtain ⟨u,q,t'⟩:=e.at_ j y h
  exact ⟨u,by rw [List.getElem?_set_ne hj];exact q,t'⟩
end
end Z
namespace Z
open PySem L2
section
variable {C:Ct} {w:Wd}
theorem q9h {α:Type}:∀ {l:List α} {i j:Nat} {x:α},l.Nodup->l[i]?=some x->l[j]?=some x->i=j
 | [],i,j,x,_,h,_=>by simp at h
 | y::l,0,0,x,_,_,_=>rfl
 | y::l,0,j+1,x,n,h,g=>by
  have e:y=x:=by simpa using h
  subst e
  exact absurd (List.mem_of_getElem? (show l[j]?=some y by simpa using g)) (List.nodup_cons.mp n).1
 | y::l,i+1,0,x,n,h,g=>by
  have e:y=x:=by simpa using g
  subst e
  exact absurd (List.mem_of_getElem? (show l[i]?=some y by simpa using h)) (List.nodup_cons.mp n).1
 | y::l,i+1,j+1,x,n,h,g=>by
  rw [q9h (List.nodup_cons.mp n).2 (show l[i]?=some x by simpa using h) (show l[j]?=some x by simpa using g)]
theorem Ok.qha (ok:Ok C w) {a:Addr} (hl:Live w a):a∈w.ρ:=by
 obtain ⟨k,c,e1,e2,e3⟩:=hl
 exact List.mem_of_getElem? e3
theorem q5d {H:Hp} {a p:Addr} {o u:HO} (hp:H p=none) (h:H a=some o):upd H p u a=some o:=by
 rw [q0p (q2l h hp)];exact h
theorem q2z {H:Hp} {a p:Addr} {u:HO} (h:H a≠none):upd H p u a≠none:=by
 unfold upd;split
 ·intro z;cases z
 ·exact h
theorem q72.mono {w':Wd} (ok:Ok C w) (le:Le w w') {c:Cell} {a:Addr} (hH:w'.H a=w.H a) (h:q72 C w c a):q72 C w' c a:=by
 cases c with
 | dead=>trivial
 | lst xs=>obtain ⟨vs,e,t⟩:=h;exact ⟨vs,hH.trans e,t.mono ok le⟩
 | dk ks xs=>obtain ⟨kvs,e,hk,t⟩:=h;exact ⟨kvs,hH.trans e,hk,t.mono ok le⟩
 | ins cc fs=>obtain ⟨hf,dx,fvs,e,t⟩:=h;exact ⟨hf,dx,fvs,hH.trans e,t.mono ok le⟩
theorem Ok.pinne (ok:Ok C w) {a b c:Addr} (hl:Live w a) (h:C.pin=some (b,c)):b≠a:=by
 obtain ⟨k,cc,e1,e2,e3⟩:=hl
 have hc:=ok.cell k cc a e1 e3
 have hp:=ok.pn b c h
 intro z;subst z
 cases cc with
 | dead=>exact e2 rfl
 | lst xs=>obtain ⟨vs,e,_⟩:=hc;rw [hp] at e;cases e
 | dk ks xs=>obtain ⟨vs,e,_⟩:=hc;rw [hp] at e;cases e
 | ins c fs=>obtain ⟨_,dx,fvs,e,_⟩:=hc;rw [hp] at e;cases e
def Wd.fresh (w:Wd) (p:Addr) (o:HO):Wd:={w with H:=upd w.H p o}
def Wd.frozen (w:Wd) (p:Addr) (o:HO):Wd:={w with H:=upd w.H p o,Fz:=fun a=>a=p\/w.Fz a}
theorem Ok.q33 (ok:Ok C w) {p:Addr} (hp:w.H p=none) (o:HO):Le w (w.fresh p o):=
 ⟨⟨[],by simp [Wd.fresh]⟩,fun _ h=>h,fun b _ o r=>.inl (q5d hp r),fun a h=>.inl h,fun a h=>.inr h,fun a h=>q2z h,fun a h=>.inl h⟩
theorem Ok.fresh (ok:Ok C w) {p:Addr} (hp:w.H p=none) (o:HO):Ok C (w.fresh p o):=by
 have le:=ok.q33 hp o
 refine ⟨ok.len,ok.nd,fun a ha=>q2z (ok.th a ha),fun k c a e ea=>?_,ok.fz,fun a h=>q2z (ok.fzt a h),fun a c h=>q5d hp (ok.pn a c h)⟩
 have hne:a≠p:=fun z=>ok.th a (List.mem_of_getElem? ea) (z ▸ hp)
 exact (ok.cell k c a e ea).mono ok le (q0p hne)
theorem Ok.q3w (ok:Ok C w) {p:Addr} (hp:w.H p=none) (o:HO):Le w (w.frozen p o):=
 ⟨⟨[],by simp [Wd.frozen]⟩,fun _ h=>.inr h,fun b _ o r=>.inl (q5d hp r),fun a h=>h.elim (fun z=>.inr (.inl (z ▸ hp))) .inl,fun a h=>.inr h,fun a h=>q2z h,fun a h=>.inl h⟩
theorem Ok.frozen (ok:Ok C w) {p:Addr} (hp:w.H p=none) (o:HO):Ok C (w.frozen p o):=by
 have le:=ok.q3w hp o
 refine ⟨ok.len,ok.nd,fun a ha=>q2z (ok.th a ha),fun k c a e ea=>?_,fun a hl hz=>?_,fun a h=>?_,fun a c h=>q5d hp (ok.pn a c h)⟩
 ·have hne:a≠p:=fun z=>ok.th a (List.mem_of_getElem? ea) (z ▸ hp)
  exact (ok.cell k c a e ea).mono ok le (q0p hne)
 ·rcases hz with rfl | hz
  ·exact ok.th a (ok.qha hl) hp
  ·exact ok.fz a hl hz
 ·rcases h with rfl | h
  ·show upd w.H a o a≠none
   rw [q24];intro z;cases z
  ·exact q2z (ok.fzt a h)
theorem Ok.q86 (ok:Ok C w) {p:Addr} {xs:List AV} {vs:List V} (hp:w.H p=none) (t:Trs C w xs vs):Tr C (w.fresh p (.tup vs)) (.tup xs) (.ref p):=by
 rw [Tr];exact ⟨p,vs,rfl,SqT.of q24,t.mono ok (ok.q33 hp _)⟩
theorem Ok.q70 (ok:Ok C w) {p:Addr} {xs:List AV} {vs:List V} (hp:w.H p=none) (t:Trs C w xs vs):Tr C (w.frozen p (.lst vs)) (.lst xs) (.ref p):=by
 rw [Tr];exact ⟨p,vs,rfl, .inl rfl, .inl q24,t.mono ok (ok.q3w hp _)⟩
def Wd.cell (w:Wd) (p:Addr) (o:HO) (c:Cell):Wd:={w with H:=upd w.H p o, ρ:=w.ρ++[p],h:=w.h++[c]}
theorem qc5 (ok:Ok C w) {p:Addr} {o:HO} {c:Cell} {a:Addr} (h:Live (w.cell p o c) a):a=p\/Live w a:=by
 obtain ⟨k,c',e1,e2,e3⟩:=h
 have hl:=ok.len
 by_cases hk:k<w.h.length
 ·exact .inr ⟨k,c',by rw [<- List.getElem?_append_left (l₂:=[c]) hk];exact e1,e2,by rw [<- List.getElem?_append_left (l₂:=[p]) (by omega)];exact e3⟩
 ·have hlt:=(List.getElem?_eq_some_iff.mp e3).1
  have:(w.cell p o c).ρ.length=w.ρ.length+1:=by simp [Wd.cell]
  have hk':k=w.ρ.length:=by omega
  have e3':(w.ρ++[p])[k]?=some a:=e3
  rw [hk',List.getElem?_append_right (Nat.le_refl _),Nat.sub_self] at e3'
  exact .inl (by simpa using e3'.symm)
theorem Ok.q8w (ok:Ok C w) {p:Addr} (hp:w.H p=none) (o:HO) (c:Cell):Le w (w.cell p o c):=by
 refine ⟨⟨[p],rfl⟩,fun _ h=>h,fun b _ o r=>.inl (q5d hp r),fun a h=>.inl h,fun a h=>?_,fun a h=>q2z h,fun a h=>?_⟩
 rotate_left
 ·rcases List.mem_append.mp (show a∈w.ρ++[p] from h) with z | z
  ·exact .inl z
  ·exact .inr (by rw [List.mem_singleton.mp z];exact hp)
 rcases qc5 ok h with rfl | h
 ·exact .inl hp
 ·exact .inr h
theorem Ok.qgm (ok:Ok C w) {p:Addr} (hp:w.H p=none) {o:HO} {c:Cell} (hc:q72 C (w.cell p o c) c p):Ok C (w.cell p o c):=by
 have le:=ok.q8w hp o c
 have hl:=ok.len
 have hnp:p∉w.ρ:=fun z=>ok.th p z hp
 refine ⟨by simp [Wd.cell,hl],?_,fun a ha=>?_,fun k c' a e ea=>?_,fun a hlv hz=>?_,fun a h=>q2z (ok.fzt a h),fun a c h=>q5d hp (ok.pn a c h)⟩
 ·show (w.ρ++[p]).Nodup
  rw [List.nodup_append]
  exact ⟨ok.nd,by simp,fun a ha b hb=>by simp at hb;subst hb;intro z;subst z;exact hnp ha⟩
 ·show upd w.H p o a≠none
  by_cases ha':a=p
  ·subst ha';rw [q24];intro z;cases z
  ·have:a∈w.ρ:=by
    rcases List.mem_append.mp (show a∈w.ρ++[p] from ha) with z | z
    ·exact z
    ·exact absurd (by simpa using z) ha'
   exact q2z (ok.th a this)
 ·by_cases hk:k<w.h.length
  ·have e':w.h[k]?=some c':=by rw [<- List.getElem?_append_left (l₂:=[c]) hk];exact e
   have ea':w.ρ[k]?=some a:=by rw [<- List.getElem?_append_left (l₂:=[p]) (by omega)];exact ea
   have hne:a≠p:=fun z=>hnp (z ▸ List.mem_of_getElem? ea')
   exact (ok.cell k c' a e' ea').mono ok le (q0p hne)
  ·have hlt:=(List.getElem?_eq_some_iff.mp ea).1
   have:(w.cell p o c).ρ.length=w.ρ.length+1:=by simp [Wd.cell]
   have hk':k=w.ρ.length:=by omega
   have e3':(w.ρ++[p])[k]?=some a:=ea
   rw [hk',List.getElem?_append_right (Nat.le_refl _),Nat.sub_self] at e3'
   have e4:(w.h++[c])[k]?=some c':=e
   rw [hk',hl,List.getElem?_append_right (Nat.le_refl _),Nat.sub_self] at e4
   have a1:p=a:=by simpa using e3'
   have a2:c=c':=by simpa using e4
   subst a1 a2
   exact hc
 ·rcases qc5 ok hlv with rfl | h
  ·exact ok.fzt a hz hp
  ·exact ok.fz a h hz
theorem Ok.qdj (ok:Ok C w) {p:Addr} {o:HO} {c:Cell}:Tr C (w.cell p o c) (.ref w.h.length) (.ref p):=by
 rw [Tr]
 refine ⟨p,rfl,?_⟩
 show (w.ρ++[p])[w.h.length]?=some p
 rw [<- ok.len,List.getElem?_append_right (Nat.le_refl _),Nat.sub_self];rfl
def Wd.put (w:Wd) (k:Nat) (c:Cell) (a:Addr) (o:HO):Wd:={w with h:=w.h.set k c,H:=upd w.H a o}
theorem qf5 {k:Nat} {c:Cell} {a b:Addr} {o:HO} (ea:w.ρ[k]?=some a) (hl:Live w a) (h:Live (w.put k c a o) b):Live w b:=by
 obtain ⟨j,c',e1,e2,e3⟩:=h
 by_cases hj:k=j
 ·subst hj
  have e3':w.ρ[k]?=some b:=e3
  have:b=a:=by rw [ea] at e3';cases e3';rfl
  subst this;exact hl
 ·exact ⟨j,c',by rw [<- List.getElem?_set_ne hj (a:=c)];exact e1,e2,e3⟩
theorem Ok.qen (ok:Ok C w) {k:Nat} {a:Addr} (ea:w.ρ[k]?=some a) (hl:Live w a) (c:Cell) (o:HO):Le w (w.put k c a o):=by
 refine ⟨⟨[],by simp [Wd.put]⟩,fun _ h=>h,fun b hb u r=>?_,fun b h=>.inl h,fun b h=>.inr (qf5 ea hl h),fun b h=>q2z h,fun b h=>.inl h⟩
 have hne:b≠a:=fun z=>hb (z ▸ hl)
 exact .inl ((q0p hne).trans r)
theorem Ok.put (ok:Ok C w) {k:Nat} {a:Addr} (ea:w.ρ[k]?=some a) (hl:Live w a) {c:Cell} {o:HO} (hc:q72 C (w.put k c a o) c a):Ok C (w.put k c a o):=by
 have le:=ok.qen ea hl c o
 refine ⟨by show w.ρ.length=(w.h.set k c).length;rw [List.length_set];exact ok.len,ok.nd,fun b hb=>q2z (ok.th b hb),fun j c' b e eb=>?_,fun b hlv hz=>ok.fz b (qf5 ea hl hlv) hz,fun b h=>q2z (ok.fzt b h),fun b c h=>(q0p (ok.pinne hl h)).trans (ok.pn b c h)⟩
 by_cases hj:k=j
 ·subst hj
  have eb':w.ρ[k]?=some b:=eb
  have:b=a:=by rw [ea] at eb';cases eb';rfl
  subst this
  have hk:k<w.h.length:=by
   have:=(List.getElem?_eq_some_iff.mp e).1
   have z:(w.put k c b o).h.length=w.h.length:=List.length_set
   omega
  have e':(w.h.set k c)[k]?=some c':=e
  rw [List.getElem?_set_self hk] at e'
  cases e'
  exact hc
 ·have e':w.h[j]?=some c':=by rw [<- List.getElem?_set_ne hj (a:=c)];exact e
  have hne:b≠a:=fun z=>by
   subst z
   exact hj (q9h ok.nd ea eb)
  exact (ok.cell j c' b e' eb).mono ok le (q0p hne)
def Wd.kill (w:Wd) (k:Nat) (a:Addr):Wd:={w with h:=w.h.set k .dead,Fz:=fun b=>b=a\/w.Fz b}
theorem qcm (ok:Ok C w) {k:Nat} {a b:Addr} (ea:w.ρ[k]?=some a) (h:Live (w.kill k a) b):Live w b/\b≠a:=by
 obtain ⟨j,c',e1,e2,e3⟩:=h
 have e3':w.ρ[j]?=some b:=e3
 by_cases hj:k=j
 ·subst hj
  exfalso
  have hk:k<w.h.length:=by
   have:=(List.getElem?_eq_some_iff.mp e1).1
   have z:(w.kill k a).h.length=w.h.length:=List.length_set
   omega
  have e':(w.h.set k .dead)[k]?=some c':=e1
  rw [List.getElem?_set_self hk] at e'
  cases e'
  exact e2 rfl
 ·refine ⟨⟨j,c',by rw [<- List.getElem?_set_ne hj (a:=Cell.dead)];exact e1,e2,e3⟩,fun z=>?_⟩
  subst z
  exact hj (q9h ok.nd ea e3')
theorem Ok.q7d (ok:Ok C w) {k:Nat} {a:Addr} (ea:w.ρ[k]?=some a) (hl:Live w a):Le w (w.kill k a):=
 ⟨⟨[],by simp [Wd.kill]⟩,fun _ h=>.inr h,fun b _ u r=>.inl r,fun b h=>h.elim (fun z=>.inr (.inr (z ▸ hl))) .inl,fun b h=>.inr (qcm ok ea h).1,fun b h=>h,fun b h=>.inl h⟩
theorem Ok.kill (ok:Ok C w) {k:Nat} {a:Addr} (ea:w.ρ[k]?=some a) (hl:Live w a):Ok C (w.kill k a):=by
 have le:=ok.q7d ea hl
 refine ⟨by show w.ρ.length=(w.h.set k .dead).length;rw [List.length_set];exact ok.len,ok.nd,ok.th,fun j c' b e eb=>?_,fun b hlv hz=>?_,fun b h=>?_,ok.pn⟩
 ·by_cases hj:k=j
  ·subst hj
   have hk:k<w.h.length:=by
    have:=(List.getElem?_eq_some_iff.mp e).1
    have z:(w.kill k a).h.length=w.h.length:=List.length_set
    omega
   have e':(w.h.set k .dead)[k]?=some c':=e
   rw [List.getElem?_set_self hk] at e'
   cases e'
   trivial
  ·have e':w.h[j]?=some c':=by rw [<- List.getElem?_set_ne hj (a:=Cell.dead)];exact e
   exact (ok.cell j c' b e' eb).mono ok le rfl
 ·obtain ⟨l,n⟩:=qcm ok ea hlv
  rcases hz with z | z
  ·exact n z
  ·exact ok.fz b l z
 ·rcases h with rfl | h
  ·exact ok.th b (List.mem_of_getElem? ea)
  ·exact ok.fzt b h
theorem Ok.qks (ok:Ok C w) {k:Nat} {xs:List AV} (e:w.h[k]?=some (.lst xs)) {v:V} (t:Tr C w (.ref k) v):∃ a,v=.ref a/\w.ρ[k]?=some a/\Live w a/\Tr C (w.kill k a) (.lst xs) v:=by
 rw [Tr] at t
 obtain ⟨a,rfl,ea⟩:=t
 obtain ⟨vs,hH,ht⟩:=ok.cell k _ a e ea
 have hl:Live w a:=⟨k,_,e,(by intro z;cases z),ea⟩
 refine ⟨a,rfl,ea,hl,?_⟩
 rw [Tr]
 exact ⟨a,vs,rfl, .inl rfl, .inl hH,ht.mono ok (ok.q7d ea hl)⟩
theorem Ok.qn3 (ok:Ok C w) {k:Nat} {ks:List Key} {xs:List AV} (e:w.h[k]?=some (.dk ks xs)) {v:V} (t:Tr C w (.ref k) v):∃ a,v=.ref a/\w.ρ[k]?=some a/\Live w a/\Tr C (w.kill k a) (.dk ks xs) v:=by
 rw [Tr] at t
 obtain ⟨a,rfl,ea⟩:=t
 obtain ⟨kvs,hH,hk,ht⟩:=ok.cell k _ a e ea
 have hl:Live w a:=⟨k,_,e,(by intro z;cases z),ea⟩
 refine ⟨a,rfl,ea,hl,?_⟩
 rw [Tr]
 exact ⟨a,kvs,rfl, .inl rfl, .inl hH,hk,ht.mono ok (ok.q7d ea hl)⟩
mutual
def closed (n:Nat):AV->Bool
 | .tup xs=>q27 n xs
 | .lst xs=>q27 n xs
 | .dk _ xs=>q27 n xs
 | .ref k=>decide (k<n)
 | .kst xs=>q27 n xs
 | _=>true
def q27 (n:Nat):List AV->Bool
 | []=>true
 | x::xs=>closed n x && q27 n xs
end
def Wd.back (w:Wd) (w0:Wd):Wd:={w with ρ:=w0.ρ,h:=w0.h}
mutual
theorem Tr.back {w0 w:Wd} (le:Le w0 w) {n:Nat} (hn:w0.ρ.length=n):∀ {x:AV} {v:V},closed n x=true->Tr C w x v->Tr C (w.back w0) x v
 | .non,v,_,h=>by rw [Tr] at h ⊢;exact h
 | .bl _,v,_,h=>by rw [Tr] at h ⊢;exact h
 | .int _,v,_,h=>by rw [Tr] at h ⊢;exact h
 | .str _,v,_,h=>by rw [Tr] at h ⊢;exact h
 | .tup xs,v,c,h=>by
  rw [Tr] at h ⊢
  obtain ⟨a,vs,e,hs,ht⟩:=h
  exact ⟨a,vs,e,hs,Trs.back le hn (by rw [closed] at c;exact c) ht⟩
 | .lst xs,v,c,h=>by
  rw [Tr] at h ⊢
  obtain ⟨a,vs,e,f,r,ht⟩:=h
  exact ⟨a,vs,e,f,r,Trs.back le hn (by rw [closed] at c;exact c) ht⟩
 | .dk ks xs,v,c,h=>by
  rw [Tr] at h ⊢
  obtain ⟨a,kvs,e,f,r,hk,ht⟩:=h
  exact ⟨a,kvs,e,f,r,hk,Trs.back le hn (by rw [closed] at c;exact c) ht⟩
 | .ref k,v,c,h=>by
  rw [Tr] at h ⊢
  obtain ⟨a,e,hk⟩:=h
  obtain ⟨t,et⟩:=le.pre
  rw [closed] at c
  have hlt:k<w0.ρ.length:=by rw [hn];exact of_decide_eq_true c
  refine ⟨a,e,?_⟩
  show w0.ρ[k]?=some a
  rw [et,List.getElem?_append_left hlt] at hk;exact hk
 | .kst xs,v,c,h=>by
  rw [Tr] at h ⊢
  obtain ⟨a,vs,e,hs,ht⟩:=h
  exact ⟨a,vs,e,hs,Trs.back le hn (by rw [closed] at c;exact c) ht⟩
 | .xc c,v,c',h=>by rw [Tr] at h ⊢;exact h
theorem Trs.back {w0 w:Wd} (le:Le w0 w) {n:Nat} (hn:w0.ρ.length=n):∀ {xs:List AV} {vs:List V},q27 n xs=true->Trs C w xs vs->Trs C (w.back w0) xs vs
 | [],vs,_,h=>by rw [Trs] at h ⊢;exact h
 | x::xs,vs,c,h=>by
  rw [Trs] at h ⊢
  rw [q27,Bool.and_eq_true] at c
  obtain ⟨v,us,e,h1,h2⟩:=h
  exact ⟨v,us,e,Tr.back le hn c.1 h1,Trs.back le hn c.2 h2⟩
end
mutual
theorem Tr.closed:∀ {x:AV} {v:V},Tr C w x v->closed w.ρ.length x=true
 | .non,v,h=>by rw [Z.closed];all_goals (intros;exact AV.noConfusion ‹_›)
 | .bl _,v,h=>by rw [Z.closed];all_goals (intros;exact AV.noConfusion ‹_›)
 | .int _,v,h=>by rw [Z.closed];all_goals (intros;exact AV.noConfusion ‹_›)
 | .str _,v,h=>by rw [Z.closed];all_goals (intros;exact AV.noConfusion ‹_›)
 | .tup xs,v,h=>by
  rw [Tr] at h
  obtain ⟨a,vs,e,hs,ht⟩:=h
  rw [Z.closed];exact Trs.q27 ht
 | .lst xs,v,h=>by
  rw [Tr] at h
  obtain ⟨a,vs,e,f,r,ht⟩:=h
  rw [Z.closed];exact Trs.q27 ht
 | .dk ks xs,v,h=>by
  rw [Tr] at h
  obtain ⟨a,kvs,e,f,r,hk,ht⟩:=h
  rw [Z.closed];exact Trs.q27 ht
 | .ref k,v,h=>by
  rw [Tr] at h
  obtain ⟨a,e,hk⟩:=h
  rw [Z.closed];exact decide_eq_true (List.getElem?_eq_some_iff.mp hk).1
 | .kst xs,v,h=>by
  rw [Tr] at h
  obtain ⟨a,vs,e,hs,ht⟩:=h
  rw [Z.closed];exact Trs.q27 ht
 | .xc _,v,h=>by rw [Z.closed];all_goals (intros;exact AV.noConfusion ‹_›)
theorem Trs.q27:∀ {xs:List AV} {vs:List V},Trs C w xs vs->q27 w.ρ.length xs=true
 | [],vs,h=>by rw [Z.q27]
 | x::xs,vs,h=>by
  rw [Trs] at h
  obtain ⟨v,us,e,h1,h2⟩:=h
  rw [Z.q27,Tr.closed h1,Trs.q27 h2];rfl
end
theorem Flds.back {w0 w:Wd} (le:Le w0 w):∀ {fs:List (Nat×AV)} {us us':List (Str×V)},Flds C w0 fs us'->Flds C w fs us->Flds C (w.back w0) fs us
 | [],us,us',_,h=>h
 | p::r,us,us',h0,h=>by
  obtain ⟨v,us,e,h1,h2⟩:=h
  obtain ⟨v',us',e',h1',h2'⟩:=h0
  exact ⟨v,us,e,Tr.back le rfl h1'.closed h1,Flds.back le h2' h2⟩
theorem Le.back {w0 w:Wd} (le:Le w0 w):Le w0 (w.back w0):=
 ⟨⟨[],by simp [Wd.back]⟩,le.fz,le.ks,le.fn,fun a h=>.inr h,le.nn,fun a h=>.inl h⟩
theorem Ok.back {w0 w:Wd} (ok0:Ok C w0) (le:Le w0 w) (ok:Ok C w) {g:AH} (hh:w.h=w0.h++g):Ok C (w.back w0):=by
 obtain ⟨t,et⟩:=le.pre
 have lw:∀ a,Live w0 a->Live w a:=fun a ⟨k,c,e1,e2,e3⟩=>⟨k,c,by rw [hh,List.getElem?_append_left (List.getElem?_eq_some_iff.mp e1).1];exact e1,e2,by rw [et,List.getElem?_append_left (List.getElem?_eq_some_iff.mp e3).1];exact e3⟩
 refine ⟨ok0.len,ok0.nd,fun a ha=>le.nn a (ok0.th a ha),fun k c a e ea=>?_,fun a hl hz=>ok.fz a (lw a hl) hz,ok.fzt,ok.pn⟩
 have e:w0.h[k]?=some c:=e
 have ea:w0.ρ[k]?=some a:=ea
 have e':w.h[k]?=some c:=by rw [hh,List.getElem?_append_left (List.getElem?_eq_some_iff.mp e).1];exact e
 have ea':w.ρ[k]?=some a:=by rw [et,List.getElem?_append_left (List.getElem?_eq_some_iff.mp ea).1];exact ea
 have h:=ok.cell k c a e' ea'
 have h0:=ok0.cell k c a e ea
 cases c with
 | dead=>trivial
 | lst xs =>
  obtain ⟨vs,hH,ht⟩:=h
  obtain ⟨vs0,_,ht0⟩:=h0
  exact ⟨vs,hH,Trs.back le rfl ht0.q27 ht⟩
 | dk ks xs =>
  obtain ⟨kvs,hH,hk,ht⟩:=h
  obtain ⟨kvs0,_,_,ht0⟩:=h0
  exact ⟨kvs,hH,hk,Trs.back le rfl ht0.q27 ht⟩
 | ins cc fs =>
  obtain ⟨hf,dx,fvs,hH,ht⟩:=h
  obtain ⟨_,dx0,fvs0,_,ht0⟩:=h0
  exact ⟨hf,dx,fvs,hH,Flds.back le ht0 ht⟩
def Wd.poke (w:Wd) (D:Addr) (o:HO):Wd:={w with H:=upd w.H D o}
structure Lone (w:Wd) (D:Addr) (ys:List V):Prop where
 at_:w.H D=some (.lst ys)
 nf:¬ w.Fz D
 nl:¬ Live w D
 nr:D∉w.ρ
theorem Lone.rd {D:Addr} {ys:List V} (L:Lone w D ys) {o:HO} {a:Addr} {u:HO} (hu:∀ zs,u≠.lst zs) (r:Rd w.H a u):Rd (upd w.H D o) a u:=by
 have hne:a≠D:=fun z=>by
  subst z
  rcases r with r | ⟨z,r⟩ <;> rw [L.at_] at r <;> cases r
  exact hu _ rfl
 rcases r with r | ⟨z,r⟩
 ·exact .inl ((q0p hne).trans r)
 ·exact .inr ⟨z,(q0p hne).trans r⟩
mutual
theorem Tr.poke {D:Addr} {ys:List V} (L:Lone w D ys) (o:HO):∀ {x:AV} {v:V},Tr C w x v->Tr C (w.poke D o) x v
 | .non,v,h=>by rw [Tr] at h ⊢;exact h
 | .bl _,v,h=>by rw [Tr] at h ⊢;exact h
 | .int _,v,h=>by rw [Tr] at h ⊢;exact h
 | .str _,v,h=>by rw [Tr] at h ⊢;exact h
 | .tup xs,v,h=>by
  rw [Tr] at h ⊢
  obtain ⟨a,vs,e,hs,ht⟩:=h
  refine ⟨a,vs,e,?_,Trs.poke L o ht⟩
  rcases hs with hs | hs
  ·exact .inl (L.rd (by intro zs z;cases z) hs)
  ·exact .inr hs
 | .lst xs,v,h=>by
  rw [Tr] at h ⊢
  obtain ⟨a,vs,e,f,r,ht⟩:=h
  have hne:a≠D:=fun z=>L.nf (z ▸ f)
  refine ⟨a,vs,e,f,?_,Trs.poke L o ht⟩
  rcases r with r | ⟨z,r⟩
  ·exact .inl ((q0p hne).trans r)
  ·exact .inr ⟨z,(q0p hne).trans r⟩
 | .dk ks xs,v,h=>by
  rw [Tr] at h ⊢
  obtain ⟨a,kvs,e,f,r,hk,ht⟩:=h
  exact ⟨a,kvs,e,f,L.rd (by intro zs z;cases z) r,hk,Trs.poke L o ht⟩
 | .ref k,v,h=>by rw [Tr] at h ⊢;exact h
 | .kst xs,v,h=>by
  rw [Tr] at h ⊢
  obtain ⟨a,vs,e,hs,ht⟩:=h
  refine ⟨a,vs,e,?_,Trs.poke L o ht⟩
  rcases hs with ⟨f,r⟩ | r
  ·have hne:a≠D:=fun z=>L.nf (z ▸ f)
   refine .inl ⟨f,?_⟩
   rcases r with r | ⟨z,r⟩
   ·exact .inl ((q0p hne).trans r)
   ·exact .inr ⟨z,(q0p hne).trans r⟩
  ·exact .inr r
 | .xc c,v,h=>by rw [Tr] at h ⊢;exact h
theorem Trs.poke {D:Addr} {ys:List V} (L:Lone w D ys) (o:HO):∀ {xs:List AV} {vs:List V},Trs C w xs vs->Trs C (w.poke D o) xs vs
 | [],vs,h=>by rw [Trs] at h ⊢;exact h
 | x::xs,vs,h=>by
  rw [Trs] at h ⊢
  obtain ⟨v,us,e,h1,h2⟩:=h
  exact ⟨v,us,e,Tr.poke L o h1,Trs.poke L o h2⟩
end
theorem Flds.poke {D:Addr} {ys:List V} (L:Lone w D ys) (o:HO):∀ {fs:List (Nat×AV)} {us:List (Str×V)},Flds C w fs us->Flds C (w.poke D o) fs us
 | [],us,h=>h
 | p::r,us,h=>by
  obtain ⟨v,us,e,h1,h2⟩:=h
  exact ⟨v,us,e,Tr.poke L o h1,Flds.poke L o h2⟩
theorem Ok.poke (ok:Ok C w) {D:Addr} {ys:List V} (L:Lone w D ys) (o:HO):Ok C (w.poke D o):=by
 refine ⟨ok.len,ok.nd,fun a ha=>q2z (ok.th a ha),fun k c a e ea=>?_,ok.fz,fun a h=>q2z (ok.fzt a h),fun a c h=>(q0p (qhb (ok.pn a c h) L.at_ (by intro z;cases z))).trans (ok.pn a c h)⟩
 have h:=ok.cell k c a e ea
 cases c with
 | dead=>trivial
 | lst xs =>
  have hne:a≠D:=fun z=>L.nl (z ▸ ⟨k,_,e,(by intro z;cases z),ea⟩)
  obtain ⟨vs,hH,ht⟩:=h
  exact ⟨vs,(q0p hne).trans hH,ht.poke L o⟩
 | dk ks xs =>
  have hne:a≠D:=fun z=>L.nl (z ▸ ⟨k,_,e,(by intro z;cases z),ea⟩)
  obtain ⟨kvs,hH,hk,ht⟩:=h
  exact ⟨kvs,(q0p hne).trans hH,hk,ht.poke L o⟩
 | ins cc fs =>
  have hne:a≠D:=fun z=>L.nl (z ▸ ⟨k,_,e,(by intro z;cases z),ea⟩)
  obtain ⟨hf,dx,fvs,hH,ht⟩:=h
  exact ⟨hf,dx,fvs,(q0p hne).trans hH,ht.poke L o⟩
theorem Lone.le {w':Wd} {D:Addr} {ys:List V} (L:Lone w D ys) (le:Le w w'):Lone w' D ys:=by
 have hn:w.H D≠none:=by rw [L.at_];intro z;cases z
 refine ⟨?_,fun z=>?_,fun z=>?_,fun z=>(le.rn D z).elim L.nr hn⟩
 ·rcases le.ks D L.nl _ L.at_ with q | ⟨_,ob,kvs,e,q⟩
  ·exact q
  ·cases e
 ·rcases le.fn D z with q | q | q
  ·exact L.nf q
  ·exact hn q
  ·exact L.nl q
 ·rcases le.nw D z with q | q
  ·exact hn q
  ·exact L.nl q
theorem Le.poke {w0:Wd} {D:Addr} {o:HO} (le:Le w0 w) (h0:w0.H D=none):Le w0 (w.poke D o):=by
 refine ⟨le.pre,le.fz,fun b hb u r=>?_,le.fn,le.nw,fun b h=>q2z (le.nn b h),le.rn⟩
 have hne:b≠D:=fun z=>by rw [z,h0] at r;cases r
 have:=le.ks b hb u r
 show Kept (w.Fz b) u (upd w.H D o b)
 rw [q0p hne];exact this
def Wd.keep (w:Wd) (D:Addr):Wd:={w with Fz:=fun a=>a=D\/w.Fz a}
mutual
theorem Tr.keep {D:Addr}:∀ {x:AV} {v:V},Tr C w x v->Tr C (w.keep D) x v
 | .non,v,h=>by rw [Tr] at h ⊢;exact h
 | .bl _,v,h=>by rw [Tr] at h ⊢;exact h
 | .int _,v,h=>by rw [Tr] at h ⊢;exact h
 | .str _,v,h=>by rw [Tr] at h ⊢;exact h
 | .tup xs,v,h=>by
  rw [Tr] at h ⊢
  obtain ⟨a,vs,e,hs,ht⟩:=h
  exact ⟨a,vs,e,hs,Trs.keep ht⟩
 | .lst xs,v,h=>by
  rw [Tr] at h ⊢
  obtain ⟨a,vs,e,f,r,ht⟩:=h
  exact ⟨a,vs,e, .inr f,r,Trs.keep ht⟩
 | .dk ks xs,v,h=>by
  rw [Tr] at h ⊢
  obtain ⟨a,kvs,e,f,r,hk,ht⟩:=h
  exact ⟨a,kvs,e, .inr f,r,hk,Trs.keep ht⟩
 | .ref k,v,h=>by rw [Tr] at h ⊢;exact h
 | .kst xs,v,h=>by
  rw [Tr] at h ⊢
  obtain ⟨a,vs,e,hs,ht⟩:=h
  exact ⟨a,vs,e,hs.elim (fun z=>.inl ⟨.inr z.1,z.2⟩) .inr,Trs.keep ht⟩
 | .xc c,v,h=>by rw [Tr] at h ⊢;exact h
theorem Trs.keep {D:Addr}:∀ {xs:List AV} {vs:List V},Trs C w xs vs->Trs C (w.keep D) xs vs
 | [],vs,h=>by rw [Trs] at h ⊢;exact h
 | x::xs,vs,h=>by
  rw [Trs] at h ⊢
  obtain ⟨v,us,e,h1,h2⟩:=h
  exact ⟨v,us,e,Tr.keep h1,Trs.keep h2⟩
end
theorem Flds.keep {D:Addr}:∀ {fs:List (Nat×AV)} {us:List (Str×V)},Flds C w fs us->Flds C (w.keep D) fs us
 | [],us,h=>h
 | p::r,us,h=>by
  obtain ⟨v,us,e,h1,h2⟩:=h
  exact ⟨v,us,e,Tr.keep h1,Flds.keep h2⟩
theorem Ok.keep (ok:Ok C w) {D:Addr} {ys:List V} (L:Lone w D ys):Ok C (w.keep D):=by
 refine ⟨ok.len,ok.nd,ok.th,fun k c a e ea=>?_,fun a hl hz=>?_,fun a h=>?_,ok.pn⟩
 ·have h:=ok.cell k c a e ea
  cases c with
  | dead=>trivial
  | lst xs=>obtain ⟨vs,hH,ht⟩:=h;exact ⟨vs,hH,ht.keep⟩
  | dk ks xs=>obtain ⟨kvs,hH,hk,ht⟩:=h;exact ⟨kvs,hH,hk,ht.keep⟩
  | ins cc fs=>obtain ⟨hf,dx,fvs,hH,ht⟩:=h;exact ⟨hf,dx,fvs,hH,ht.keep⟩
 ·rcases hz with rfl | hz
  ·exact L.nl hl
  ·exact ok.fz a hl hz
 ·rcases h with rfl | h
  ·show w.H a≠none
   rw [L.at_];intro z;cases z
  ·exact ok.fzt a h
end
end Z
namespace Z
open PySem L2
abbrev AE:=AEnv->AH->Re AV
abbrev AT:=AEnv->AH->Re Bool
abbrev AA:=AEnv->AH->Re (List AV)
def Sat (C:Ct) (E:XK) (w:Wd) {α:Type} (r:Re α) (P:α->Wd->Prop):Prop:=
 match r with
 | .ok x h' => ∀ w':Wd,w'.h=h'->Ok C w'->Le w w'->P x w'
 | .ex c h' => ∀ w':Wd,w'.h=h'->Ok C w'->Le w w'->E (.ref (C.cl c)) none w'.H
 | .no=>False
section
variable {C:Ct} {E:XK} {w:Wd} {α β:Type}
theorem Sat.mono {r:Re α} {P P':α->Wd->Prop} (s:Sat C E w r P) (k:∀ x w',Ok C w'->Le w w'->P x w'->P' x w'):Sat C E w r P':=by
 cases r with
 | ok x h=>exact fun w' e ok le=>k x w' ok le (s w' e ok le)
 | ex c h=>exact s
 | no=>exact s
theorem Sat.le {w0:Wd} {r:Re α} {P:α->Wd->Prop} (le:Le w0 w) (s:Sat C E w0 r P):Sat C E w r P:=by
 cases r with
 | ok x h=>exact fun w' e ok l=>s w' e ok (le.trans l)
 | ex c h=>exact fun w' e ok l=>s w' e ok (le.trans l)
 | no=>exact s
theorem Sat.bind {r:Re α} {f:α->AH->Re β} {P:β->Wd->Prop} (s:Sat C E w (r.bind f) P):Sat C E w r (fun x w1=>Sat C E w1 (f x w1.h) P):=by
 cases r with
 | ok x h =>
  intro w' e ok le
  subst e
  exact Sat.le le s
 | ex c h=>exact s
 | no=>exact s
theorem Sat.here {x:α} {P:α->Wd->Prop} (s:Sat C E w (.ok x w.h) P) (ok:Ok C w):P x w:=s w rfl ok (Le.refl w)
end
abbrev want (C:Ct) (Q:VK):AV->Wd->Prop:=fun x w' => ∀ v,Tr C w' x v->Q v w'.H
def SE (C:Ct) (E:XK) (t:TE) (m:AE):Prop:=∀ (w:Wd) (env:AEnv) (σ:St) (Q:VK),Ok C w->q1d C w env σ->Sat C E w (m env w.h) (want C Q)->t σ w.H Q
def STs (C:Ct) (E:XK) (t:TT) (m:AT):Prop:=∀ (w:Wd) (env:AEnv) (σ:St) (Q:Bool->Hp->Prop),Ok C w->q1d C w env σ->Sat C E w (m env w.h) (fun b w' => Q b w'.H)->t σ w.H Q
def SA (C:Ct) (E:XK) (n:Nat) (t:TA) (m:AA):Prop:=
 (∀ env h xs h',m env h=.ok xs h'->xs.length=n) /\
 ∀ (w:Wd) (env:AEnv) (σ:St) (Q:List V->Hp->Prop),Ok C w->q1d C w env σ->Sat C E w (m env w.h) (fun xs w' => ∀ vs,Trs C w' xs vs->Q vs w'.H)->t σ w.H Q
def S2 (C:Ct) (E:XK) (r:R2) (f:AV->AV->AH->Re AV):Prop:=∀ (w:Wd) (x y:AV) (u v:V) (Q:VK),Ok C w->Tr C w x u->Tr C w y v->Sat C E w (f x y w.h) (want C Q)->r u v w.H Q
def SC (C:Ct) (E:XK) (n:Nat) (r:List V->Hp->VK->Prop) (f:List AV->AH->Re AV):Prop:=∀ (w:Wd) (xs:List AV) (vs:List V) (Q:VK),xs.length=n->Ok C w->Trs C w xs vs->Sat C E w (f xs w.h) (want C Q)->r vs w.H Q
def SMt (C:Ct) (E:XK) (n:Nat) (r:V->List V->Hp->VK->Prop) (f:AV->List AV->AH->Re AV):Prop:=∀ (w:Wd) (x:AV) (u:V) (xs:List AV) (vs:List V) (Q:VK),xs.length=n->Ok C w->Tr C w x u->Trs C w xs vs->Sat C E w (f x xs w.h) (want C Q)->r u vs w.H Q
@[simp] def aVar (i:Nat):AE:=fun env h=>match env[i]? with | some (some x)=>.ok x h | _=>.no
@[simp] def aK (x:AV):AE:=fun _ h=>.ok x h
@[simp] def a1 (f:AV->AH->Re AV) (a:AE):AE:=fun env h=>(a env h).bind f
@[simp] def a2 (f:AV->AV->AH->Re AV) (a b:AE):AE:=fun env h=>(a env h).bind fun x h=>(b env h).bind fun y h=>f x y h
@[simp] def aNil:AA:=fun _ h=>.ok [] h
@[simp] def q02 (a:AE) (r:AA):AA:=fun env h=>(a env h).bind fun x h=>(r env h).bind fun xs h=>.ok (x::xs) h
@[simp] def aC (f:List AV->AH->Re AV) (a:AA):AE:=fun env h=>(a env h).bind f
@[simp] def aTup (a:AA):AE:=fun env h=>(a env h).bind fun xs h=>.ok (.tup xs) h
@[simp] def aLst (a:AA):AE:=fun env h=>(a env h).bind fun xs h=>.ok (.lst xs) h
@[simp] def q3r (a:AA):AE:=fun env h=>(a env h).bind fun xs h=>.ok (.ref h.length) (h++[.lst xs])
@[simp] def toB:AV->AH->Re Bool
 | .bl b,h=>.ok b h
 | _,_=>.no
@[simp] def aB (a:AE):AT:=fun env h=>(a env h).bind toB
@[simp] def aAnd (a b:AT):AT:=fun env h=>(a env h).bind fun c h=>if c=true then b env h else .ok false h
@[simp] def aOr (a b:AT):AT:=fun env h=>(a env h).bind fun c h=>if c=true then .ok true h else b env h
@[simp] def aNot (a:AT):AT:=fun env h=>(a env h).bind fun c h=>.ok (!c) h
@[simp] def q5j (a b:AE):AE:=fun env h=>(a env h).bind fun x h=>(toB x h).bind fun c h=>if c=true then b env h else .ok (.bl false) h
section
variable {C:Ct} {E:XK} {ta tb tc:TE} {ma mb mc:AE}
theorem q03 {i:Nat}:SE C E (tVar i) (aVar i):=by
 intro w env σ Q ok en s
 unfold aVar at s
 split at s
 ·rename_i x e
  obtain ⟨v,q,t⟩:=en.at_ i x e
  exact ⟨v,q,s.here ok v t⟩
 ·exact s.elim
theorem se_k {v:V} {x:AV} (h:∀ w,Tr C w x v):SE C E (tC v) (aK x):=fun w env σ Q ok en s=>s.here ok v (h w)
theorem q0a {i:Int}:SE C E (tC (.int i)) (aK (.int i)):=se_k fun w=>by rw [Tr]
theorem q5o {b:Bool}:SE C E (tC (.bl b)) (aK (.bl b)):=se_k fun w=>by rw [Tr]
theorem q0c {x:Str}:SE C E (tC (.str x)) (aK (.str x)):=se_k fun w=>by rw [Tr]
theorem se_non:SE C E (tC .non) (aK .non):=se_k fun w=>by rw [Tr]
theorem q06 {r:R2} {f:AV->AV->AH->Re AV} (hr:S2 C E r f) (ha:SE C E ta ma) (hb:SE C E tb mb):SE C E (tOp r ta tb) (a2 f ma mb):=fun w env σ Q ok en s =>
 ha w env σ _ ok en (s.bind.mono fun x w1 ok1 le1 s1 v tv=>hb w1 env σ _ ok1 (en.mono ok le1) (s1.bind.mono fun y w2 ok2 le2 s2 u tu=>hr w2 x y v u Q ok2 (tv.mono ok1 le2) tu s2))
theorem q0b:SA C E 0 tNil aNil:=⟨fun env h xs h' e=>by cases e;rfl,fun w env σ Q ok en s=>s.here ok [] .nil⟩
theorem q05 {n:Nat} {t:TA} {m:AA} (ha:SE C E ta ma) (hr:SA C E n t m):SA C E (n+1) (q3q ta t) (q02 ma m):=by
 refine ⟨fun env h xs h' e=>?_,fun w env σ Q ok en s=>?_⟩
 ·unfold q02 at e
  cases e1:ma env h with
  | ok x h1 =>
   rw [e1,Re.q3h] at e
   cases e2:m env h1 with
   | ok ys h2 =>
    rw [e2,Re.q3h] at e
    cases e
    rw [List.length_cons,hr.1 env h1 ys _ e2]
   | ex c h2=>rw [e2] at e;cases e
   | no=>rw [e2] at e;cases e
  | ex c h1=>rw [e1] at e;cases e
  | no=>rw [e1] at e;cases e
 ·exact ha w env σ _ ok en (s.bind.mono fun x w1 ok1 le1 s1 v tv=>hr.2 w1 env σ _ ok1 (en.mono ok le1) (s1.bind.mono fun ys w2 ok2 le2 s2 vs tvs=>s2.here ok2 (v::vs) (.cons (tv.mono ok1 le2) tvs)))
theorem SA.run {n:Nat} {t:TA} {m:AA} (h:SA C E n t m) {w:Wd} {env:AEnv} {σ:St} {Q:List V->Hp->Prop} {f:List AV->AH->Re AV} {P:AV->Wd->Prop} (ok:Ok C w) (en:q1d C w env σ) (s:Sat C E w ((m env w.h).bind f) P)
  (k:∀ xs w',xs.length=n->Ok C w'->Le w w'->Sat C E w' (f xs w'.h) P->∀ vs,Trs C w' xs vs->Q vs w'.H):t σ w.H Q:=by
 refine h.2 w env σ Q ok en ?_
 have hl:=h.1 env w.h
 have s':=s.bind
 revert s'
 cases e:m env w.h with
 | ok xs h' => exact fun s' w' e' ok' le vs tv=>k xs w' (hl xs h' e) ok' le (s' w' e' ok' le) vs tv
 | ex c h' => exact fun s' => s'
 | no=>exact fun s' => s'
theorem q1p {n:Nat} {t:TA} {m:AA} (h:SA C E n t m) (hn:n<=sizeLine:=by decide):SE C E (tTup t) (aTup m):=fun w env σ Q ok en s =>
 h.run ok en s fun xs w1 hl ok1 le1 s1 vs tv=>⟨by rw [<- tv.len,hl];exact hn,fun p hp=>s1 (w1.fresh p (.tup vs)) rfl (ok1.fresh hp _) (ok1.q33 hp _) _ (ok1.q86 hp tv)⟩
theorem q2y {n:Nat} {t:TA} {m:AA} (h:SA C E n t m) (hn:n<=sizeLine:=by decide):SE C E (tLst t) (aLst m):=fun w env σ Q ok en s =>
 h.run ok en s fun xs w1 hl ok1 le1 s1 vs tv=>⟨by rw [<- tv.len,hl];exact hn,fun p hp=>s1 (w1.frozen p (.lst vs)) rfl (ok1.frozen hp _) (ok1.q3w hp _) _ (ok1.q70 hp tv)⟩
theorem Ok.qh3 {w:Wd} (ok:Ok C w) {p:Addr} {xs:List AV} {vs:List V} (hp:w.H p=none) (t:Trs C w xs vs):Ok C (w.cell p (.lst vs) (.lst xs)):=
 ok.qgm hp ⟨vs,q24,t.mono ok (ok.q8w hp _ _)⟩
theorem q6a {n:Nat} {t:TA} {m:AA} (h:SA C E n t m) (hn:n<=sizeLine:=by decide):SE C E (tLst t) (q3r m):=fun w env σ Q ok en s =>
 h.run ok en s fun xs w1 hl ok1 le1 s1 vs tv=>⟨by rw [<- tv.len,hl];exact hn,fun p hp=>s1 (w1.cell p (.lst vs) (.lst xs)) rfl (ok1.qh3 hp tv) (ok1.q8w hp _ _) _ ok1.qdj⟩
theorem q2b {n:Nat} {t:TA} {m:AA} {r:List V->Hp->VK->Prop} {f:List AV->AH->Re AV} (hr:SC C E n r f) (h:SA C E n t m):SE C E (tCB r t) (aC f m):=fun w env σ Q ok en s =>
 h.run ok en s fun xs w1 hl ok1 le1 s1 vs tv=>hr w1 xs vs Q hl ok1 tv s1
theorem qe1 {w:Wd} {x:AV} {v:V} {P:Bool->Wd->Prop} (ok:Ok C w) (tv:Tr C w x v) (s:Sat C E w (toB x w.h) P):∃ c,v=.bl c/\P c w:=by
 cases x with
 | bl b=>rw [Tr] at tv;exact ⟨b,tv,s.here ok⟩
 | non=>exact s.elim
 | int i=>exact s.elim
 | str x=>exact s.elim
 | tup xs=>exact s.elim
 | lst xs=>exact s.elim
 | dk ks xs=>exact s.elim
 | ref k=>exact s.elim
 | kst xs=>exact s.elim
 | xc c=>exact s.elim
theorem st_b (ha:SE C E ta ma):STs C E (tB ta) (aB ma):=fun w env σ Q ok en s =>
 ha w env σ _ ok en (s.bind.mono fun x w1 ok1 le1 s1 v tv=>qe1 ok1 tv s1)
theorem q0y (ha:SE C E ta ma):STs C E (tTest ta) (aB ma):=fun w env σ Q ok en s =>
 ha w env σ _ ok en (s.bind.mono fun x w1 ok1 le1 s1 v tv=>qe1 ok1 tv s1)
variable {tA tB':TT} {mA mB:AT}
theorem qje (ha:STs C E tA mA) (hb:STs C E tB' mB):STs C E (tAnd tA tB') (aAnd mA mB):=fun w env σ Q ok en s =>
 ha w env σ _ ok en (s.bind.mono fun c w1 ok1 le1 s1=>by
  cases c with
  | true=>exact iteT (hb w1 env σ _ ok1 (en.mono ok le1) (by simpa using s1))
  | false=>exact iteF (Sat.here (by simpa using s1) ok1))
theorem q6n (ha:STs C E tA mA) (hb:STs C E tB' mB):STs C E (tOr tA tB') (aOr mA mB):=fun w env σ Q ok en s =>
 ha w env σ _ ok en (s.bind.mono fun c w1 ok1 le1 s1=>by
  cases c with
  | true=>exact iteT (Sat.here (by simpa using s1) ok1)
  | false=>exact iteF (hb w1 env σ _ ok1 (en.mono ok le1) (by simpa using s1)))
theorem q7b (ha:STs C E tA mA):STs C E (tNot tA) (aNot mA):=fun w env σ Q ok en s =>
 ha w env σ _ ok en (s.bind.mono fun c w1 ok1 le1 s1=>s1.here ok1)
theorem q56 (ha:SE C E ta ma) (hb:SE C E tb mb):SE C E (tAndV ta tb) (q5j ma mb):=fun w env σ Q ok en s =>
 ha w env σ _ ok en (s.bind.mono fun x w1 ok1 le1 s1 v tv=>by
  obtain ⟨c,e,s2⟩:=qe1 ok1 tv s1.bind
  refine ⟨c,e,?_⟩
  cases c with
  | true=>exact iteT (hb w1 env σ _ ok1 (en.mono ok le1) (by simpa using s2))
  | false=>exact iteF (Sat.here (P:=want C Q) (x:=AV.bl false) (by simpa using s2) ok1 _ (by rw [Tr])))
end
end Z
namespace Z
open PySem L2
@[simp] def q4h (h:AH):AV->Option (List AV)
 | .lst xs=>some xs
 | .ref k=>match h[k]? with | some (.lst xs)=>some xs | _=>none
 | _=>none
@[simp] def q4i (h:AH):AV->Option (List AV)
 | .lst xs=>some xs
 | .kst xs=>some xs
 | .ref k=>match h[k]? with | some (.lst xs)=>some xs | _=>none
 | _=>none
@[simp] def tupOf:AV->Option (List AV)
 | .tup xs=>some xs
 | _=>none
@[simp] def q4f (h:AH):AV->Option (List AV)
 | .tup xs=>some xs
 | .lst xs=>some xs
 | .kst xs=>some xs
 | .ref k=>match h[k]? with | some (.lst xs)=>some xs | _=>none
 | _=>none
@[simp] def intsOf:List AV->Option (List Int)
 | []=>some []
 | .int i::r=>(intsOf r).map (i :: ·)
 | _=>none
@[simp] def q4j:List AV->Option (List Bool)
 | []=>some []
 | .bl i::r=>(q4j r).map (i :: ·)
 | _=>none
@[simp] def strsOf:List AV->Option (List Str)
 | []=>some []
 | .str i::r=>(strsOf r).map (i :: ·)
 | _=>none
@[simp] def fI (g:Int->Int->AV):AV->AV->AH->Re AV
 | .int i, .int j,h=>.ok (g i j) h
 | _,_,_=>.no
@[simp] def fIC (c:Int->Int->Bool) (g:Int->Int->AV):AV->AV->AH->Re AV
 | .int i, .int j,h=>if c i j=true then .ok (g i j) h else .no
 | _,_,_=>.no
abbrev fAdd:=fI fun i j=>.int (i+j)
abbrev fSub:=fI fun i j=>.int (i - j)
abbrev fMul:=fIC (fun i j=>decide ((-(2 ^ 64)<i/\i<2 ^ 64)\/(-(2 ^ 64)<j/\j<2 ^ 64))) fun i j=>.int (i * j)
abbrev fDiv:=fIC (fun _ j=>decide (0<j/\j<1073741824)) fun i j=>.int (i / j)
abbrev fMod:=fIC (fun _ j=>decide (0<j)) fun i j=>.int (i % j)
abbrev fLt:=fI fun i j=>.bl (decide (i<j))
abbrev fGe:=fI fun i j=>.bl (decide (j<=i))
@[simp] def eqS:AV->AV->Option Bool
 | .int i, .int j=>some (decide (i=j))
 | .str i, .str j=>some (decide (i=j))
 | .bl i, .bl j=>some (decide (i=j))
 | .non, .non=>some true
 | .non, .int _=>some false | .int _, .non=>some false | .non, .bl _=>some false | .bl _, .non=>some false | .non, .str _=>some false | .str _, .non=>some false
 | .int _, .str _=>some false | .str _, .int _=>some false | .bl _, .str _=>some false | .str _, .bl _=>some false
 | _,_=>none
@[simp] def fEq:AV->AV->AH->Re AV:=fun x y h=>match eqS x y with | some b=>.ok (.bl b) h | none=>.no
@[simp] def fNe:AV->AV->AH->Re AV:=fun x y h=>match eqS x y with | some b=>.ok (.bl (!b)) h | none=>.no
@[simp] def q2f:AV->AV->AH->Re AV
 | .str x, .str y,h=>if x.length+y.length<=sizeLine then .ok (.str (x++y)) h else .no
 | _,_,_=>.no
@[simp] def fCat:AV->AV->AH->Re AV:=fun x y h=>match q4h h x,q4h h y with
 | some xs,some ys=>if xs.length+ys.length<=sizeLine then .ok (.lst (xs++ys)) h else .no
 | _,_=>.no
@[simp] def fIx:AV->AV->AH->Re AV:=fun x y h=>match q4f h x,y with
 | some xs, .int i=>match atI xs i with | some z=>.ok z h | none=>.no
 | _,_=>.no
@[simp] def fIxS:AV->AV->AH->Re AV
 | .str z, .int i,h=>if z.length<=sizeLine then (match atI z.cps.toList i with | some c=>.ok (.str ⟨#[c]⟩) h | none=>.no) else .no
 | _,_,_=>.no
section
variable {C:Ct} {E:XK} {w:Wd}
theorem q3d {x:AV} {xs:List AV} {v:V} (ok:Ok C w) (e:q4h w.h x=some xs) (t:Tr C w x v):∃ a vs,v=.ref a/\Rd w.H a (.lst vs)/\Trs C w xs vs:=by
 cases x with
 | lst ys =>
  cases e
  rw [Tr] at t
  obtain ⟨a,vs,e,f,r,ht⟩:=t
  exact ⟨a,vs,e,r,ht⟩
 | ref k =>
  rw [Tr] at t
  obtain ⟨a,rfl,ea⟩:=t
  have e:(match w.h[k]? with | some (.lst xs)=>some xs | _=>none)=some xs:=e
  split at e
  ·rename_i ys eh
   cases e
   obtain ⟨vs,hH,ht⟩:=ok.cell k _ a eh ea
   exact ⟨a,vs,rfl, .inl hH,ht⟩
  ·cases e
 | non=>cases e
 | bl b=>cases e
 | int i=>cases e
 | str x=>cases e
 | tup xs=>cases e
 | dk ks xs=>cases e
 | kst xs=>cases e
 | xc c=>cases e
theorem sq_of {H:Hp} {a:Addr} {vs:List V} (h:(w.Fz a/\Rd w.H a (.lst vs))\/SqL C.K (fun _=>none) a vs):SqL C.K w.H a vs:=by
 rcases h with h | (h | ⟨o,h⟩) | h
 ·exact .inl h.2
 ·cases h
 ·cases h
 ·exact .inr h
theorem q58 {x:AV} {xs:List AV} {v:V} (ok:Ok C w) (e:q4i w.h x=some xs) (t:Tr C w x v):∃ a vs,v=.ref a/\SqL C.K w.H a vs/\Trs C w xs vs:=by
 cases x with
 | kst ys =>
  cases e
  rw [Tr] at t
  obtain ⟨a,vs,e,r,ht⟩:=t
  exact ⟨a,vs,e,sq_of (H:=w.H) r,ht⟩
 | lst ys =>
  obtain ⟨a,vs,e,r,ht⟩:=q3d ok (x:=.lst ys) e t
  exact ⟨a,vs,e, .inl r,ht⟩
 | ref k =>
  obtain ⟨a,vs,e,r,ht⟩:=q3d ok (x:=.ref k) e t
  exact ⟨a,vs,e, .inl r,ht⟩
 | _=>cases e
theorem q6d {x:AV} {xs:List AV} {v:V} (ok:Ok C w) (e:q4f w.h x=some xs) (t:Tr C w x v):∃ a vs,v=.ref a/\(SqL C.K w.H a vs\/SqT C.K w.H a vs)/\Trs C w xs vs:=by
 cases x with
 | lst ys =>
  cases e
  rw [Tr] at t
  obtain ⟨a,vs,e,f,r,ht⟩:=t
  exact ⟨a,vs,e, .inl (.inl r),ht⟩
 | tup ys =>
  cases e
  rw [Tr] at t
  obtain ⟨a,vs,e,r,ht⟩:=t
  exact ⟨a,vs,e, .inr r,ht⟩
 | ref k =>
  obtain ⟨a,vs,e,r,ht⟩:=q3d ok (x:=.ref k) e t
  exact ⟨a,vs,e, .inl (.inl r),ht⟩
 | kst ys =>
  obtain ⟨a,vs,e,r,ht⟩:=q58 ok (x:=.kst ys) e t
  exact ⟨a,vs,e, .inl r,ht⟩
 | non=>cases e
 | bl b=>cases e
 | int i=>cases e
 | str x=>cases e
 | dk ks xs=>cases e
 | xc c=>cases e
theorem q96:∀ {xs:List AV} {ns:List Bool} {vs:List V},q4j xs=some ns->Trs C w xs vs->vs=ns.map V.bl
 | [],ns,vs,e,t=>by cases e;rw [Trs] at t;exact t
 | x::xs,ns,vs,e,t=>by
  rw [Trs] at t
  obtain ⟨v,us,rfl,h1,h2⟩:=t
  cases x with
  | bl i =>
   rw [q4j] at e
   cases e1:q4j xs with
   | none=>rw [e1] at e;cases e
   | some ms =>
    rw [e1] at e
    cases e
    rw [Tr] at h1
    rw [h1,q96 e1 h2];rfl
  | _=>cases e
theorem qcl:∀ {xs:List AV} {ns:List Str} {vs:List V},strsOf xs=some ns->Trs C w xs vs->vs=ns.map V.str
 | [],ns,vs,e,t=>by cases e;rw [Trs] at t;exact t
 | x::xs,ns,vs,e,t=>by
  rw [Trs] at t
  obtain ⟨v,us,rfl,h1,h2⟩:=t
  cases x with
  | str i =>
   rw [strsOf] at e
   cases e1:strsOf xs with
   | none=>rw [e1] at e;cases e
   | some ms =>
    rw [e1] at e
    cases e
    rw [Tr] at h1
    rw [h1,qcl e1 h2];rfl
  | _=>cases e
theorem s2_I {g:Int->Int->V} {g':Int->Int->AV} (hg:∀ i j w,Tr C w (g' i j) (g i j)):S2 C E (rI0 g) (fI g'):=by
 intro w x y u v Q ok tx ty s
 unfold fI at s
 split at s
 ·rename_i h i j
  rw [Tr] at tx;rw [Tr] at ty
  exact ⟨i,j,tx,ty,s.here ok _ (hg i j w)⟩
 ·exact s.elim
theorem qhd {c:Int->Int->Bool} {P:Int->Int->Prop} {g:Int->Int->V} {g':Int->Int->AV} (hc:∀ i j,c i j=true->P i j) (hg:∀ i j w,Tr C w (g' i j) (g i j)):S2 C E (rI P g) (fIC c g'):=by
 intro w x y u v Q ok tx ty s
 unfold fIC at s
 split at s
 ·rename_i h i j
  rw [Tr] at tx;rw [Tr] at ty
  by_cases hh:c i j=true
  ·rw [if_pos hh] at s
   exact ⟨i,j,tx,ty,hc i j hh,s.here ok _ (hg i j w)⟩
  ·rw [if_neg hh] at s
   exact s.elim
 ·exact s.elim
theorem q4y:S2 C E (rI0 fun i j=>.int (i+j)) fAdd:=s2_I fun i j w=>by rw [Tr]
theorem qad:S2 C E (rI0 fun i j=>.int (i - j)) fSub:=s2_I fun i j w=>by rw [Tr]
theorem s2_mul:S2 C E (rI CMul fun i j=>.int (i * j)) fMul:=qhd (fun i j h=>(of_decide_eq_true h:(-(2 ^ 64)<i/\i<2 ^ 64)\/(-(2 ^ 64)<j/\j<2 ^ 64))) fun i j w=>by rw [Tr]
theorem q3s:S2 C E (rI CDiv fun i j=>.int (i / j)) fDiv:=qhd (fun i j h=>(of_decide_eq_true h:0<j/\j<1073741824)) fun i j w=>by rw [Tr]
theorem q25:S2 C E (rI (fun _ j=>0<j) fun i j=>.int (i % j)) fMod:=qhd (fun i j h=>of_decide_eq_true h) fun i j w=>by rw [Tr]
theorem qa7:S2 C E (rI0 fun i j=>.bl (decide (i<j))) fLt:=s2_I fun i j w=>by rw [Tr]
theorem s2_ge:S2 C E (rI0 fun i j=>.bl (decide (j<=i))) fGe:=s2_I fun i j w=>by rw [Tr]
theorem qjx {x y:AV} {u v:V} {b:Bool} (e:eqS x y=some b) (tx:Tr C w x u) (ty:Tr C w y v):scal u v=true/\decide (u=v)=b:=by
 cases x <;> cases y <;> simp only [eqS,Option.some.injEq,reduceCtorEq] at e
 all_goals (rw [Tr] at tx;rw [Tr] at ty;subst tx;subst ty;subst e)
 all_goals first | exact ⟨rfl,rfl⟩ | exact ⟨rfl,decide_eq_decide.mpr ⟨fun h=>by injection h,fun h=>by rw [h]⟩⟩
theorem q1u:S2 C E rEq fEq:=by
 intro w x y u v Q ok tx ty s
 unfold fEq at s
 split at s
 ·rename_i b e
  obtain ⟨h1,h2⟩:=qjx e tx ty
  exact ⟨h1,by rw [h2];exact s.here ok _ (by rw [Tr])⟩
 ·exact s.elim
theorem q6r:S2 C E rNe fNe:=by
 intro w x y u v Q ok tx ty s
 unfold fNe at s
 split at s
 ·rename_i b e
  obtain ⟨h1,h2⟩:=qjx e tx ty
  exact ⟨h1,by rw [h2];exact s.here ok _ (by rw [Tr])⟩
 ·exact s.elim
theorem q5b:S2 C E (fun x y H Q=>∃ i j,x=.str i/\y=.str j/\i.length+j.length<=sizeLine/\Q (.str (i++j)) H) q2f:=by
 intro w x y u v Q ok tx ty s
 unfold q2f at s
 split at s
 ·rename_i h i j
  rw [Tr] at tx;rw [Tr] at ty
  by_cases hh:i.length+j.length<=sizeLine
  ·rw [if_pos hh] at s
   exact ⟨i,j,tx,ty,hh,s.here ok _ (by rw [Tr])⟩
  ·rw [if_neg hh] at s;exact s.elim
 ·exact s.elim
theorem qau:S2 C E rCatR fCat:=by
 intro w x y u v Q ok tx ty s
 unfold fCat at s
 split at s
 ·rename_i xs ys e1 e2
  obtain ⟨a,vs,rfl,r1,t1⟩:=q3d ok e1 tx
  obtain ⟨b,us,rfl,r2,t2⟩:=q3d ok e2 ty
  by_cases hh:xs.length+ys.length<=sizeLine
  ·rw [if_pos hh] at s
   exact ⟨a,b,vs,us,rfl,rfl,r1,r2,by rw [<- t1.len, <- t2.len];exact hh,fun p hp=>s (w.frozen p _) rfl (ok.frozen hp _) (ok.q3w hp _) _ (ok.q70 hp (t1.app t2))⟩
  ·rw [if_neg hh] at s;exact s.elim
 ·exact s.elim
theorem Trs.atI {xs:List AV} {vs:List V} {i:Int} {x:AV} (t:Trs C w xs vs) (e:L2.atI xs i=some x):∃ v,L2.atI vs i=some v/\Tr C w x v:=by
 unfold L2.atI at e ⊢
 rw [<- t.len]
 cases q:ixN xs.length i with
 | none=>rw [q] at e;cases e
 | some j =>
  rw [q] at e
  obtain ⟨v,e',tv⟩:=t.get (show xs[j]?=some x from e)
  exact ⟨v,e',tv⟩
theorem q0o:S2 C E (rIx C.K) fIx:=by
 intro w x y u v Q ok tx ty s
 unfold fIx at s
 split at s
 ·rename_i xs i e1
  rw [Tr] at ty
  obtain ⟨a,vs,rfl,r1,t1⟩:=q6d ok e1 tx
  split at s
  ·rename_i z ez
   obtain ⟨q,eq,tq⟩:=t1.atI ez
   rcases r1 with r1 | r1
   ·exact .inl ⟨a,vs,i,q,rfl,ty,r1,eq,s.here ok _ tq⟩
   ·exact .inr (.inl ⟨a,vs,i,q,rfl,ty,r1,eq,s.here ok _ tq⟩)
  ·exact s.elim
 ·exact s.elim
theorem q5s:S2 C E rIxS fIxS:=by
 intro w x y u v Q ok tx ty s
 unfold fIxS at s
 split at s
 ·rename_i h z i
  rw [Tr] at tx;rw [Tr] at ty
  by_cases hh:z.length<=sizeLine
  ·rw [if_pos hh] at s
   split at s
   ·rename_i c ec
    exact ⟨z,i,c,tx,ty,hh,ec,s.here ok _ (by rw [Tr])⟩
   ·exact s.elim
  ·rw [if_neg hh] at s;exact s.elim
 ·exact s.elim
end
end Z
namespace Z
open PySem L2
inductive SRe where
 | nx (env:AEnv) (h:AH) | rt (x:AV) (h:AH) | bk (env:AEnv) (h:AH) | ct (env:AEnv) (h:AH) | ex (c:Nat) (h:AH) | no
abbrev AS:=AEnv->AH->SRe
def Re.to {α:Type} (r:Re α) (f:α->AH->SRe):SRe:=match r with | .ok x h=>f x h | .ex c h=>.ex c h | .no=>.no
@[simp] theorem Re.q2e {α:Type} (x:α) (h:AH) (f:α->AH->SRe):(Re.ok x h).to f=f x h:=rfl
@[simp] theorem Re.to_ex {α:Type} (c:Nat) (h:AH) (f:α->AH->SRe):(Re.ex c h:Re α).to f=.ex c h:=rfl
@[simp] theorem Re.to_no {α:Type} (f:α->AH->SRe):(Re.no:Re α).to f=.no:=rfl
def SRe.then (r:SRe) (f:AEnv->AH->SRe):SRe:=match r with | .nx env h=>f env h | r=>r
@[simp] theorem SRe.then_nx (env:AEnv) (h:AH) (f:AEnv->AH->SRe):(SRe.nx env h).then f=f env h:=rfl
@[simp] theorem SRe.then_rt (x:AV) (h:AH) (f:AEnv->AH->SRe):(SRe.rt x h).then f=.rt x h:=rfl
@[simp] theorem SRe.then_bk (env:AEnv) (h:AH) (f:AEnv->AH->SRe):(SRe.bk env h).then f=.bk env h:=rfl
@[simp] theorem SRe.then_ct (env:AEnv) (h:AH) (f:AEnv->AH->SRe):(SRe.ct env h).then f=.ct env h:=rfl
@[simp] theorem SRe.then_ex (c:Nat) (h:AH) (f:AEnv->AH->SRe):(SRe.ex c h).then f=.ex c h:=rfl
@[simp] theorem SRe.then_no (f:AEnv->AH->SRe):SRe.no.then f=.no:=rfl
def SSat (C:Ct) (E:XK) (w:Wd) (r:SRe) (D:Ends):Prop:=
 match r with
 | .nx env h=>∀ (w':Wd) (σ:St),w'.h=h->Ok C w'->Le w w'->q1d C w' env σ->D.nx σ w'.H
 | .bk env h=>∀ (w':Wd) (σ:St),w'.h=h->Ok C w'->Le w w'->q1d C w' env σ->D.bk σ w'.H
 | .ct env h=>∀ (w':Wd) (σ:St),w'.h=h->Ok C w'->Le w w'->q1d C w' env σ->D.ct σ w'.H
 | .rt x h=>∀ (w':Wd) (v:V),w'.h=h->Ok C w'->Le w w'->Tr C w' x v->D.rt v w'.H
 | .ex c h=>∀ w':Wd,w'.h=h->Ok C w'->Le w w'->E (.ref (C.cl c)) none w'.H
 | .no=>False
def SS (C:Ct) (E:XK) (t:TS) (m:AS):Prop:=∀ (w:Wd) (env:AEnv) (σ:St) (D:Ends),Ok C w->q1d C w env σ->SSat C E w (m env w.h) D->t D σ w.H
def SG (C:Ct) (E:XK) (g:TG) (m:AV->AEnv->AH->Re AEnv):Prop:=∀ (w:Wd) (x:AV) (v:V) (env:AEnv) (σ:St) (Q:St->Hp->Prop),Ok C w->q1d C w env σ->Tr C w x v ->
 Sat C E w (m x env w.h) (fun env' w' => ∀ σ',q1d C w' env' σ'->Q σ' w'.H)->g v σ w.H Q
def SGs (C:Ct) (E:XK) (g:TGs) (m:List AV->AEnv->AH->Re AEnv):Prop:=∀ (w:Wd) (xs:List AV) (vs:List V) (env:AEnv) (σ:St) (Q:St->Hp->Prop),Ok C w->q1d C w env σ->Trs C w xs vs ->
 Sat C E w (m xs env w.h) (fun env' w' => ∀ σ',q1d C w' env' σ'->Q σ' w'.H)->g vs σ w.H Q
section
variable {C:Ct} {E:XK} {w:Wd}
theorem SSat.le {w0:Wd} {r:SRe} {D:Ends} (le:Le w0 w) (s:SSat C E w0 r D):SSat C E w r D:=by
 cases r with
 | nx env h=>exact fun w' σ e ok l en=>s w' σ e ok (le.trans l) en
 | bk env h=>exact fun w' σ e ok l en=>s w' σ e ok (le.trans l) en
 | ct env h=>exact fun w' σ e ok l en=>s w' σ e ok (le.trans l) en
 | rt x h=>exact fun w' v e ok l t=>s w' v e ok (le.trans l) t
 | ex c h=>exact fun w' e ok l=>s w' e ok (le.trans l)
 | no=>exact s
theorem Sat.to {α:Type} {r:Re α} {f:α->AH->SRe} {D:Ends} (s:SSat C E w (r.to f) D):Sat C E w r (fun x w1=>SSat C E w1 (f x w1.h) D):=by
 cases r with
 | ok x h=>exact fun w' e ok le=>by subst e;exact SSat.le le s
 | ex c h=>exact s
 | no=>exact s
end
@[simp] def q10:AS:=fun env h=>.nx env h
@[simp] def sSeq (a b:AS):AS:=fun env h=>(a env h).then b
@[simp] def qd3:AS:=fun env h=>.ct env h
@[simp] def q0q (a:AE):AS:=fun env h=>(a env h).to fun _ h=>.nx env h
@[simp] def sRet (a:AE):AS:=fun env h=>(a env h).to fun x h=>.rt x h
@[simp] def qho:AS:=fun _ h=>.rt .non h
@[simp] def sIf (t:AT) (a b:AS):AS:=fun env h=>(t env h).to fun c h=>if c=true then a env h else b env h
@[simp] def sAsg (a:AE) (g:AV->AEnv->AH->Re AEnv):AS:=fun env h=>(a env h).to fun x h=>(g x env h).to fun env h=>.nx env h
@[simp] def gN (i:Nat):AV->AEnv->AH->Re AEnv:=fun x env h=>.ok (env.set i (some x)) h
@[simp] def q37:List AV->AEnv->AH->Re AEnv
 | [],env,h=>.ok env h
 | _,_,_=>.no
@[simp] def q12 (g:AV->AEnv->AH->Re AEnv) (r:List AV->AEnv->AH->Re AEnv):List AV->AEnv->AH->Re AEnv
 | x::xs,env,h=>(g x env h).bind fun env h=>r xs env h
 | [],_,_=>.no
@[simp] def gT (n:Nat) (r:List AV->AEnv->AH->Re AEnv):AV->AEnv->AH->Re AEnv
 | .tup xs,env,h=>if xs.length=n then r xs env h else .no
 | _,_,_=>.no
@[simp] def putL:AV->AV->AV->AH->Option AH
 | .ref k, .int i,x,h=>match h[k]? with
  | some (.lst xs)=>match ixN xs.length i with | some j=>some (h.set k (.lst (xs.set j x))) | none=>none
  | _=>none
 | _,_,_,_=>none
section
variable {C:Ct} {E:XK}
theorem q17:SS C E tNext q10:=fun w env σ D ok en s=>s w σ rfl ok (Le.refl w) en
theorem qn0:SS C E tCont qd3:=fun w env σ D ok en s=>s w σ rfl ok (Le.refl w) en
theorem q0h {t u:TS} {a b:AS} (ha:SS C E t a) (hb:SS C E u b):SS C E (tSeq t u) (sSeq a b):=by
 intro w env σ D ok en s
 refine ha w env σ _ ok en ?_
 unfold sSeq at s
 cases e:a env w.h with
 | nx env' h' =>
  rw [e] at s
  intro w' σ' e' ok' le' en'
  subst e'
  exact hb w' env' σ' D ok' en' (SSat.le le' s)
 | bk env' h' => rw [e] at s;exact s
 | ct env' h' => rw [e] at s;exact s
 | rt x h' => rw [e] at s;exact s
 | ex c h' => rw [e] at s;exact s
 | no=>rw [e] at s;exact s
theorem q1o {t:TE} {m:AE} (h:SE C E t m):SS C E (tDrop t) (q0q m):=fun w env σ D ok en s =>
 h w env σ _ ok en (Sat.mono (Sat.to s) fun x w1 ok1 le1 s1 v tv=>s1 w1 σ rfl ok1 (Le.refl w1) (en.mono ok le1))
theorem q13 {t:TE} {m:AE} (h:SE C E t m):SS C E (tRet t) (sRet m):=fun w env σ D ok en s =>
 h w env σ _ ok en (Sat.mono (Sat.to s) fun x w1 ok1 le1 s1 v tv=>s1 w1 v rfl ok1 (Le.refl w1) tv)
theorem qmw:SS C E tRetN qho:=fun w env σ D ok en s=>s w .non rfl ok (Le.refl w) (by rw [Tr])
theorem q1i {c:TT} {t u:TS} {mc:AT} {a b:AS} (hc:STs C E c mc) (ha:SS C E t a) (hb:SS C E u b):SS C E (tIfS c t u) (sIf mc a b):=fun w env σ D ok en s =>
 hc w env σ _ ok en (Sat.mono (Sat.to s) fun c w1 ok1 le1 s1=>by
  cases c with
  | true=>exact iteT (ha w1 env σ D ok1 (en.mono ok le1) (by simpa using s1))
  | false=>exact iteF (hb w1 env σ D ok1 (en.mono ok le1) (by simpa using s1)))
theorem q16 {t:TE} {m:AE} {g:TG} {mg:AV->AEnv->AH->Re AEnv} (h:SE C E t m) (hg:SG C E g mg):SS C E (tAsg t g) (sAsg m mg):=fun w env σ D ok en s =>
 h w env σ _ ok en (Sat.mono (Sat.to s) fun x w1 ok1 le1 s1 v tv=>hg w1 x v env σ _ ok1 (en.mono ok le1) tv (Sat.mono (Sat.to s1) fun env2 w2 ok2 le2 s2 σ2 en2=>s2 w2 σ2 rfl ok2 (Le.refl w2) en2))
theorem q0k {i:Nat}:SG C E (q7p i) (gN i):=fun w x v env σ Q ok en t s=>s.here ok _ (en.set i t)
theorem qba:SGs C E gNil q37:=by
 intro w xs vs env σ Q ok en t s
 cases xs with
 | nil=>rw [Trs] at t;exact ⟨t,Sat.here (P:=fun env' w' => ∀ σ',q1d C w' env' σ'->Q σ' w'.H) s ok _ en⟩
 | cons x xs=>exact s.elim
theorem q49 {g:TG} {u:TGs} {m:AV->AEnv->AH->Re AEnv} {r:List AV->AEnv->AH->Re AEnv} (hg:SG C E g m) (hr:SGs C E u r):SGs C E (qgw g u) (q12 m r):=by
 intro w xs vs env σ Q ok en t s
 cases xs with
 | nil=>exact s.elim
 | cons x xs =>
  rw [Trs] at t
  obtain ⟨v,us,rfl,t1,t2⟩:=t
  have s':Sat C E w ((m x env w.h).bind fun env h=>r xs env h) (fun env' w' => ∀ σ',q1d C w' env' σ'->Q σ' w'.H):=s
  exact ⟨v,us,rfl,hg w x v env σ _ ok en t1 (s'.bind.mono fun env1 w1 ok1 le1 s1 σ1 en1=>hr w1 xs us env1 σ1 Q ok1 en1 (t2.mono ok le1) s1)⟩
theorem qde {n:Nat} {g:TGs} {m:List AV->AEnv->AH->Re AEnv} (hg:SGs C E g m):SG C E (gTup C.K n g) (gT n m):=by
 intro w x v env σ Q ok en t s
 cases x with
 | tup xs =>
  rw [Tr] at t
  obtain ⟨a,vs,rfl,hs,ht⟩:=t
  have s':Sat C E w (if xs.length=n then m xs env w.h else .no) (fun env' w' => ∀ σ',q1d C w' env' σ'->Q σ' w'.H):=s
  by_cases hl:xs.length=n
  ·rw [if_pos hl] at s'
   exact ⟨a,vs,rfl,hs,by rw [<- ht.len];exact hl,hg w xs vs env σ Q ok en ht s'⟩
  ·rw [if_neg hl] at s';exact s'.elim
 | _=>exact s.elim
theorem Ok.qf4 {w:Wd} (ok:Ok C w) {k:Nat} {a:Addr} {xs xs':List AV} {vs':List V} (e:w.h[k]?=some (.lst xs)) (ea:w.ρ[k]?=some a) (t:Trs C w xs' vs') :
  Ok C (w.put k (.lst xs') a (.lst vs'))/\Le w (w.put k (.lst xs') a (.lst vs')):=by
 have hl:Live w a:=⟨k,_,e,(by intro z;cases z),ea⟩
 have le:=ok.qen ea hl (.lst xs') (.lst vs')
 exact ⟨ok.put ea hl ⟨vs',q24,t.mono ok le⟩,le⟩
mutual
def beqA:AV->AV->Bool
 | .non, .non=>true
 | .bl a, .bl b=>a == b
 | .int a, .int b=>a == b
 | .str a, .str b=>a == b
 | .tup a, .tup b=>q3z a b
 | .lst a, .lst b=>q3z a b
 | .dk k a, .dk l b=>decide (k=l) && q3z a b
 | .ref a, .ref b=>a == b
 | .kst a, .kst b=>q3z a b
 | .xc a, .xc b=>a == b
 | _,_=>false
def q3z:List AV->List AV->Bool
 | [],[]=>true
 | x::xs,y::ys=>beqA x y && q3z xs ys
 | _,_=>false
end
mutual
theorem qft:∀ {x y:AV},beqA x y=true->x=y
 | .non,y,h=>by cases y <;> simp_all [beqA]
 | .bl a,y,h=>by cases y <;> simp_all [beqA]
 | .int a,y,h=>by cases y <;> simp_all [beqA]
 | .str a,y,h=>by cases y <;> simp_all [beqA]
 | .tup a,y,h=>by
  cases y with
  | tup b=>rw [beqA] at h;rw [q48 h]
  | _=>simp [beqA] at h
 | .lst a,y,h=>by
  cases y with
  | lst b=>rw [beqA] at h;rw [q48 h]
  | _=>simp [beqA] at h
 | .dk k a,y,h=>by
  cases y with
  | dk l b =>
   rw [beqA,Bool.and_eq_true] at h
   rw [q48 h.2,of_decide_eq_true h.1]
  | _=>simp [beqA] at h
 | .ref a,y,h=>by cases y <;> simp_all [beqA]
 | .kst a,y,h=>by
  cases y with
  | kst b=>rw [beqA] at h;rw [q48 h]
  | _=>simp [beqA] at h
 | .xc a,y,h=>by cases y <;> simp_all [beqA]
theorem q48:∀ {xs ys:List AV},q3z xs ys=true->xs=ys
 | [],ys,h=>by cases ys <;> simp_all [q3z]
 | x::xs,ys,h=>by
  cases ys with
  | nil=>simp [q3z] at h
  | cons y ys =>
   rw [q3z,Bool.and_eq_true] at h
   rw [qft h.1,q48 h.2]
end
mutual
theorem qe2:∀ (x:AV),beqA x x=true
 | .non=>by rw [beqA]
 | .bl a=>by rw [beqA];exact beq_self_eq_true a
 | .int a=>by rw [beqA];exact beq_self_eq_true a
 | .str a=>by rw [beqA];exact beq_self_eq_true a
 | .tup a=>by rw [beqA];exact q3v a
 | .lst a=>by rw [beqA];exact q3v a
 | .dk k a=>by rw [beqA,q3v a,decide_eq_true rfl];rfl
 | .ref a=>by rw [beqA];exact beq_self_eq_true a
 | .kst a=>by rw [beqA];exact q3v a
 | .xc a=>by rw [beqA];exact beq_self_eq_true a
theorem q3v:∀ (xs:List AV),q3z xs xs=true
 | []=>by rw [q3z]
 | x::xs=>by rw [q3z,qe2 x,q3v xs];rfl
end
def okW (h:AH) (all:List AV):Option Nat->Bool
 | none=>true
 | some k=>match h[k]? with | some (.lst ys)=>q3z ys all | _=>false
theorem q0x {h:AH} {all:List AV}:okW h all none=true:=rfl
theorem q9e {h:AH} {all:List AV} {k:Nat} (e:h[k]?=some (.lst all)):okW h all (some k)=true:=by
 simp only [okW,e];exact q3v all
theorem of_okW {h:AH} {all:List AV} {k:Nat} (e:okW h all (some k)=true):h[k]?=some (.lst all):=by
 simp only [okW] at e
 split at e
 ·rename_i ys q;rw [q,q48 e]
 ·cases e
abbrev AI:=AEnv->AH->Re (List AV×Option Nat)
structure ItOk (C:Ct) (w1:Wd) (J:It) (all:List AV) (wt:Option Nat):Prop where
 go:∀ (w:Wd) (i:Nat),Ok C w->Le w1 w->okW w.h all wt=true->i<all.length->J.go i w.H
 yld:∀ (w:Wd) (i:Nat) (x:AV) (v:V) (H':Hp),Ok C w->Le w1 w->okW w.h all wt=true->all[i]?=some x->J.yld i w.H v H'->∃ w',w'.H=H'/\w'.h=w.h/\Ok C w'/\Le w w'/\Tr C w' x v
 stop:∀ (w:Wd) (i:Nat),Ok C w->Le w1 w->okW w.h all wt=true->i=all.length->J.stop i w.H
def SI (C:Ct) (E:XK) (wi:TI) (m:AI):Prop:=∀ (w:Wd) (env:AEnv) (σ:St) (R:It->Hp->Prop),Ok C w->q1d C w env σ->Sat C E w (m env w.h) (fun p w' => ∀ J,ItOk C w' J p.1 p.2->R J w'.H)->wi σ w.H R
def q1y (wt:Option Nat) (all:List AV) (g:AV->AEnv->AH->Re AEnv) (body:AS):List AV->AEnv->AH->SRe
 | [],env,h=>if okW h all wt=true then .nx env h else .no
 | x::xs,env,h=>if okW h all wt=true then (g x env h).to fun env h=>match body env h with
   | .nx env h=>q1y wt all g body xs env h
   | .ct env h=>q1y wt all g body xs env h
   | .bk env h=>.nx env h
   | .rt x h=>.rt x h
   | .ex c h=>.ex c h
   | .no=>.no
  else .no
@[simp] def sFor (it:AI) (g:AV->AEnv->AH->Re AEnv) (body:AS):AS:=fun env h=>(it env h).to fun p h=>q1y p.2 p.1 g body p.1 env h
theorem q3c {wi:TI} {it:AI} {g:TG} {mg:AV->AEnv->AH->Re AEnv} {tb:TS} {body:AS} (hi:SI C E wi it) (hg:SG C E g mg) (hb:SS C E tb body):SS C E (tFor wi g tb) (sFor it mg body):=by
 intro w env σ D ok en s
 refine hi w env σ _ ok en (Sat.mono (Sat.to s) fun p w1 ok1 le1 s1 J hJ=>?_)
 obtain ⟨all,wt⟩:=p
 refine ⟨fun i m σ H=>m=all.length - i/\i<=all.length/\∃ w env,w.H=H/\Ok C w/\Le w1 w/\q1d C w env σ/\SSat C E w (q1y wt all mg body (all.drop i) env w.h) D,
  ⟨all.length,by simp,Nat.zero_le _,w1,env,rfl,ok1,Le.refl w1,en.mono ok le1,s1⟩,?_⟩
 rintro i m σ H ⟨rfl,hi,w2,env2,rfl,ok2,le2,en2,s2⟩
 by_cases hlt:i<all.length
 ·right
  have hx:all[i]?=some all[i]:=List.getElem?_eq_getElem hlt
  rw [List.drop_eq_getElem_cons hlt,q1y] at s2
  by_cases hw:okW w2.h all wt=true
  ·rw [if_pos hw] at s2
   refine ⟨hJ.go w2 i ok2 le2 hw hlt,fun σ' H' => ∃ w env,w.H=H'/\Ok C w/\Le w1 w/\q1d C w env σ'/\SSat C E w (q1y wt all mg body (all.drop (i+1)) env w.h) D,fun σ' H' q=>⟨all.length - (i+1),by omega,rfl,hlt,q⟩,fun v H' y=>?_⟩
   obtain ⟨w3,rfl,e3,ok3,le3,t3⟩:=hJ.yld w2 i _ v H' ok2 le2 hw hx y
   rw [<- e3] at s2
   refine hg w3 _ v env2 σ _ ok3 (en2.mono ok2 le3) t3 (Sat.mono (Sat.to (SSat.le le3 s2)) fun env4 w4 ok4 le4 s4 σ4 en4=>?_)
   refine hb w4 env4 σ4 _ ok4 en4 ?_
   have le14:Le w1 w4:=le2.trans (le3.trans le4)
   cases e:body env4 w4.h with
   | nx env5 h5 =>
    rw [e] at s4
    intro w5 σ5 e5 ok5 le5 en5
    subst e5
    exact ⟨w5,env5,rfl,ok5,le14.trans le5,en5,SSat.le le5 s4⟩
   | ct env5 h5 =>
    rw [e] at s4
    intro w5 σ5 e5 ok5 le5 en5
    subst e5
    exact ⟨w5,env5,rfl,ok5,le14.trans le5,en5,SSat.le le5 s4⟩
   | bk env5 h5=>rw [e] at s4;exact s4
   | rt x h5=>rw [e] at s4;exact s4
   | ex c h5=>rw [e] at s4;exact s4
   | no=>rw [e] at s4;exact s4
  ·rw [if_neg hw] at s2;exact s2.elim
 ·left
  have hd:all.drop i=[]:=List.drop_eq_nil_of_le (by omega)
  rw [hd,q1y] at s2
  by_cases hw:okW w2.h all wt=true
  ·rw [if_pos hw] at s2
   exact ⟨hJ.stop w2 i ok2 le2 hw (Nat.le_antisymm hi (Nat.le_of_not_lt hlt)),s2 w2 σ rfl ok2 (Le.refl w2) en2⟩
  ·rw [if_neg hw] at s2;exact s2.elim
end
end Z
namespace Z
open PySem L2
@[simp] def watch:AV->Option Nat
 | .ref k=>some k
 | _=>none
@[simp] def iLst (a:AE):AI:=fun env h=>(a env h).bind fun x h=>match q4i h x with | some xs=>.ok (xs,watch x) h | none=>.no
@[simp] def q60 (a:AE):AI:=fun env h=>(a env h).bind fun x h=>match tupOf x with | some xs=>.ok (xs,none) h | none=>.no
def intsFrom (lo:Int) (n:Nat):List AV:=(List.range n).map fun i:Nat=>AV.int (lo+(i:Int))
def rng1:AV->AH->Re (List AV×Option Nat):=fun x h=>match x with
 | .int (.ofNat n)=>if n<=16777216 then .ok (intsFrom 0 n,none) h else .no
 | .int (.negSucc n)=>if n<=16777216 then .ok (intsFrom 0 0,none) h else .no
 | _=>.no
def rng2:AV->AV->AH->Re (List AV×Option Nat):=fun x y h=>match x,y with
 | .int (.ofNat i), .int (.ofNat j)=>if i<=16777216/\j<=16777216 then .ok (intsFrom i (j - i),none) h else .no
 | .int (.ofNat i), .int (.negSucc j)=>if i<=16777216/\j<=16777216 then .ok (intsFrom i 0,none) h else .no
 | _,_=>.no
@[simp] def q3a (a:AE):AI:=fun env h=>(a env h).bind rng1
@[simp] def q66 (a b:AE):AI:=fun env h=>(a env h).bind fun x h=>(b env h).bind (rng2 x)
theorem q5g {n:Nat} {h:AH} (h1:n<=1000000):rng1 (.int (n:Int)) h=.ok (intsFrom 0 n,none) h:=by
 show (if _ then _ else _)=_
 rw [if_pos (by omega)]
theorem qf3 {i j:Nat} {h:AH} (h1:i<=1000000) (h3:j<=1000000):rng2 (.int (i:Int)) (.int (j:Int)) h=.ok (intsFrom i (j - i),none) h:=by
 show (if _ then _ else _)=_
 rw [if_pos ⟨by omega,by omega⟩]
theorem len_from (i:Int) (n:Nat):(intsFrom i n).length=n:=by simp [intsFrom]
def q6j (xs:List AV):List AV:=(List.range xs.length).zipWith (fun (i:Nat) x=>AV.tup [.int (i:Int),x]) xs
@[simp] def qak (a:AE):AI:=fun env h=>(a env h).bind fun x h=>match x with
 | .lst xs=>.ok (q6j xs,none) h
 | _=>.no
def strA (x:Str):List AV:=x.cps.toList.map fun c=>AV.str ⟨#[c]⟩
@[simp] def qd2 (a:AE):AI:=fun env h=>(a env h).bind fun x h=>match x with
 | .str z=>.ok (strA z,none) h
 | _=>.no
section
variable {C:Ct} {E:XK} {ta tb:TE} {ma mb:AE}
theorem ql6 {w1 w:Wd} {x:AV} {xs:List AV} {v:V} (ok1:Ok C w1) (e:q4i w1.h x=some xs) (t:Tr C w1 x v) (ok:Ok C w) (le:Le w1 w) (hw:okW w.h xs (watch x)=true):∃ a vs,v=.ref a/\SqL C.K w.H a vs/\Trs C w xs vs:=by
 have t':=t.mono ok1 le
 have e':q4i w.h x=some xs:=by
  cases x with
  | lst ys=>exact e
  | kst ys=>exact e
  | ref k=>simp only [q4i,of_okW hw]
  | _=>cases e
 obtain ⟨a,vs,h1,h2,h3⟩:=q58 ok e' t'
 exact ⟨a,vs,h1,h2,h3⟩
theorem q2u (ha:SE C E ta ma):SI C E (iList C.K ta) (iLst ma):=by
 intro w env σ R ok en s
 refine ha w env σ _ ok en (s.bind.mono fun x w1 ok1 le1 s1 v tv=>?_)
 split at s1
 ·rename_i xs e
  obtain ⟨a,vs,rfl,r,t⟩:=q58 ok1 e tv
  refine ⟨a,rfl,⟨vs,r⟩,s1.here ok1 _ ?_⟩
  have key:∀ w,Ok C w->Le w1 w->okW w.h xs (watch x)=true->∃ us,SqL C.K w.H a us/\Trs C w xs us:=fun w ok le hw=>by
   obtain ⟨a',us,e',h2,h3⟩:=ql6 ok1 e tv ok le hw
   cases e'
   exact ⟨us,h2,h3⟩
  refine ⟨fun w i ok le hw hi=>?_,fun w i y v H' ok le hw hy yl=>?_,fun w i ok le hw hi=>?_⟩
  ·obtain ⟨us,h2,h3⟩:=key w ok le hw
   exact ⟨us,us[i]'(by rw [<- h3.len];exact hi),h2,List.getElem?_eq_getElem _⟩
  ·obtain ⟨us,h2,h3⟩:=key w ok le hw
   obtain ⟨rfl,hq⟩:=yl
   obtain ⟨q,e1,tq⟩:=h3.get hy
   have:=hq us h2
   rw [e1] at this;cases this
   exact ⟨w,rfl,rfl,ok,Le.refl w,tq⟩
  ·obtain ⟨us,h2,h3⟩:=key w ok le hw
   exact ⟨us,h2,by rw [<- h3.len];exact Nat.le_of_eq hi.symm⟩
 ·exact s1.elim
theorem q5r (ha:SE C E ta ma):SI C E (iTup C.K ta) (q60 ma):=by
 intro w env σ R ok en s
 refine ha w env σ _ ok en (s.bind.mono fun x w1 ok1 le1 s1 v tv=>?_)
 split at s1
 ·rename_i xs e
  cases x with
  | tup ys =>
   cases e
   rw [Tr] at tv
   obtain ⟨a,vs,rfl,r,t⟩:=tv
   refine ⟨a,rfl,⟨vs,r⟩,s1.here ok1 _ ?_⟩
   refine ⟨fun w i ok le hw hi=>?_,fun w i y v H' ok le hw hy yl=>?_,fun w i ok le hw hi=>?_⟩
   ·exact ⟨vs,vs[i]'(by rw [<- t.len];exact hi),ok1.sqT le r,List.getElem?_eq_getElem _⟩
   ·obtain ⟨rfl,hq⟩:=yl
    obtain ⟨q,e1,tq⟩:=t.get hy
    have:=hq vs (ok1.sqT le r)
    rw [e1] at this;cases this
    exact ⟨w,rfl,rfl,ok,Le.refl w,tq.mono ok1 le⟩
   ·exact ⟨vs,ok1.sqT le r,by rw [<- t.len];exact Nat.le_of_eq hi.symm⟩
  | _=>cases e
 ·exact s1.elim
theorem qaq {w1:Wd} {lo:Int} {n:Nat}:ItOk C w1 (Itr lo n) (intsFrom lo n) none:=by
 refine ⟨fun w i ok le hw hi=>?_,fun w i y v H' ok le hw hy yl=>?_,fun w i ok le hw hi=>?_⟩
 ·unfold intsFrom at hi;rw [List.length_map,List.length_range] at hi;exact hi
 ·obtain ⟨rfl,rfl⟩:=yl
  unfold intsFrom at hy
  rw [List.getElem?_map] at hy
  cases e:(List.range n)[i]? with
  | none=>rw [e] at hy;cases hy
  | some k =>
   rw [e] at hy
   obtain ⟨h1,h2⟩:=List.getElem?_eq_some_iff.mp e
   rw [List.getElem_range] at h2
   subst h2
   cases hy
   exact ⟨w,rfl,rfl,ok,Le.refl w,by rw [Tr]⟩
 ·unfold intsFrom at hi;rw [List.length_map,List.length_range] at hi;exact Nat.le_of_eq hi.symm
theorem q4v (ha:SE C E ta ma):SI C E (iRng1 (q3q ta tNil)) (q3a ma):=by
 intro w env σ R ok en s
 refine ha w env σ _ ok en (s.bind.mono fun x w1 ok1 le1 s1 v tv=>?_)
 unfold rng1 at s1
 split at s1
 ·rename_i n
  rw [Tr] at tv;subst tv
  by_cases hj:n<=16777216
  ·rw [if_pos hj] at s1
   exact ⟨_,rfl,by show (_:Int)<=(n:Int);omega,by show (n:Int)<_;omega,s1.here ok1 _ qaq⟩
  ·rw [if_neg hj] at s1;exact s1.elim
 ·rename_i n
  rw [Tr] at tv;subst tv
  by_cases hj:n<=16777216
  ·rw [if_pos hj] at s1
   exact ⟨_,rfl,by rw [Int.negSucc_eq];omega,by rw [Int.negSucc_eq];omega,s1.here ok1 _ qaq⟩
  ·rw [if_neg hj] at s1;exact s1.elim
 ·exact s1.elim
theorem qc0 (ha:SE C E ta ma) (hb:SE C E tb mb):SI C E (iRng2 (q3q ta (q3q tb tNil))) (q66 ma mb):=by
 intro w env σ R ok en s
 refine ha w env σ _ ok en (s.bind.mono fun x w1 ok1 le1 s1 v tv=>hb w1 env σ _ ok1 (en.mono ok le1) (s1.bind.mono fun y w2 ok2 le2 s2 u tu=>?_))
 unfold rng2 at s2
 split at s2
 ·rename_i i j
  rw [Tr] at tv tu;subst tv;subst tu
  by_cases hj:i<=16777216/\j<=16777216
  ·rw [if_pos hj] at s2
   have e:((Int.ofNat j) - (Int.ofNat i)).toNat=j - i:=by show ((j:Int) - (i:Int)).toNat=_;omega
   refine ⟨_,_,rfl,⟨by show (_:Int)<=(i:Int);omega,by show (i:Int)<_;omega,by show (_:Int)<=(j:Int);omega,by show (j:Int)<_;omega⟩,?_⟩
   rw [e]
   exact s2.here ok2 _ qaq
  ·rw [if_neg hj] at s2;exact s2.elim
 ·rename_i i j
  rw [Tr] at tv tu;subst tv;subst tu
  by_cases hj:i<=16777216/\j<=16777216
  ·rw [if_pos hj] at s2
   have e:((Int.negSucc j) - (Int.ofNat i)).toNat=0:=by rw [Int.negSucc_eq];show (-((j:Int)+1) - (i:Int)).toNat=_;omega
   refine ⟨_,_,rfl,⟨by show (_:Int)<=(i:Int);omega,by show (i:Int)<_;omega,by rw [Int.negSucc_eq];omega,by rw [Int.negSucc_eq];omega⟩,?_⟩
   rw [e]
   exact s2.here ok2 _ qaq
  ·rw [if_neg hj] at s2;exact s2.elim
 ·exact s2.elim
theorem qo0 {w:Wd} (ok:Ok C w) {T:Addr} {x y:AV} {u v:V} (hT:w.H T=none) (tx:Tr C w x u) (ty:Tr C w y v):∃ w',w'.H=upd w.H T (.tup [u,v])/\w'.h=w.h/\Ok C w'/\Le w w'/\Tr C w' (.tup [x,y]) (.ref T):=
 ⟨w.fresh T _,rfl,rfl,ok.fresh hT _,ok.q33 hT _,ok.q86 hT (.cons tx (.one ty))⟩
theorem qni (ha:SE C E ta ma):SI C E (iEnum C.K (q3q ta tNil)) (qak ma):=by
 intro w env σ R ok en s
 refine ha w env σ _ ok en (s.bind.mono fun x w1 ok1 le1 s1 v tv=>?_)
 split at s1
 ·rename_i xs
  have tv0:=tv
  rw [Tr] at tv
  obtain ⟨a,vs,rfl,f,r,t⟩:=tv
  refine ⟨a,rfl,⟨vs, .inl r⟩,s1.here ok1 _ ?_⟩
  have hl:(q6j xs).length=xs.length:=by unfold q6j;rw [List.length_zipWith,List.length_range,Nat.min_self]
  have rr:∀ w,Le w1 w->Rd w.H a (.lst vs):=fun w le=>le.kp a (fun hl=>ok1.fz a hl f) _ r
  refine ⟨fun w i ok le hw hi=>?_,fun w i y v H' ok le hw hy yl=>?_,fun w i ok le hw hi=>?_⟩
  ·rw [hl] at hi
   exact ⟨vs,vs[i]'(by rw [<- t.len];exact hi), .inl (rr w le),List.getElem?_eq_getElem _⟩
  ·obtain ⟨T,x,rfl,hT,rfl,hq⟩:=yl
   have hx:=hq vs (.inl (rr w le))
   obtain ⟨z,hz,tz⟩:=t.get' hx
   have hy':(q6j xs)[i]?=some (.tup [.int (i:Int),z]):=by
    unfold q6j
    rw [List.getElem?_zipWith,hz,List.getElem?_range (List.getElem?_eq_some_iff.mp hz).1]
   rw [hy'] at hy;cases hy
   exact qo0 ok hT (by rw [Tr]) (tz.mono ok1 le)
  ·rw [hl] at hi
   exact ⟨vs, .inl (rr w le),by rw [<- t.len];exact Nat.le_of_eq hi.symm⟩
 ·exact s1.elim
theorem si_str (ha:SE C E ta ma):SI C E (iStr ta) (qd2 ma):=by
 intro w env σ R ok en s
 refine ha w env σ _ ok en (s.bind.mono fun x w1 ok1 le1 s1 v tv=>?_)
 split at s1
 ·rename_i z
  rw [Tr] at tv;subst tv
  refine ⟨z,rfl,s1.here ok1 _ ?_⟩
  have hl:(strA z).length=z.cps.toList.length:=by unfold strA;rw [List.length_map]
  refine ⟨fun w i ok le hw hi=>?_,fun w i y v H' ok le hw hy yl=>?_,fun w i ok le hw hi=>?_⟩
  ·rw [hl] at hi;exact hi
  ·obtain ⟨rfl,c,hc,rfl⟩:=yl
   unfold strA at hy
   rw [List.getElem?_map,hc] at hy
   cases hy
   exact ⟨w,rfl,rfl,ok,Le.refl w,by rw [Tr]⟩
  ·rw [hl] at hi;exact hi
 ·exact s1.elim
def SGo (C:Ct) (E:XK) (n:Nat) (g:TG) (m:AV->AEnv->AH->Re AEnv):Prop:=∀ (w:Wd) (x:AV) (v:V) (env:AEnv) (σ:St) (Q:St->Hp->Prop),Ok C w->q1d C w env σ->Tr C w x v ->
 Sat C E w (m x env w.h) (fun env' w' => ∀ σ',q1d C w' env' σ'->σ'.length=σ.length->σ'.drop n=σ.drop n->Q σ' w'.H)->g v σ w.H Q
def SGos (C:Ct) (E:XK) (n:Nat) (g:TGs) (m:List AV->AEnv->AH->Re AEnv):Prop:=∀ (w:Wd) (xs:List AV) (vs:List V) (env:AEnv) (σ:St) (Q:St->Hp->Prop),Ok C w->q1d C w env σ->Trs C w xs vs ->
 Sat C E w (m xs env w.h) (fun env' w' => ∀ σ',q1d C w' env' σ'->σ'.length=σ.length->σ'.drop n=σ.drop n->Q σ' w'.H)->g vs σ w.H Q
theorem q1t {i n:Nat} (h:i<n:=by decide):SGo C E n (q7p i) (gN i):=fun w x v env σ Q ok en t s=>s.here ok _ (en.set i t) List.length_set (List.drop_set_of_lt h)
theorem qe5 {n:Nat}:SGos C E n gNil q37:=by
 intro w xs vs env σ Q ok en t s
 cases xs with
 | nil=>rw [Trs] at t;exact ⟨t,Sat.here (P:=fun env' w' => ∀ σ',q1d C w' env' σ'->σ'.length=σ.length->σ'.drop n=σ.drop n->Q σ' w'.H) s ok _ en rfl rfl⟩
 | cons x xs=>exact s.elim
theorem q6q {n:Nat} {g:TG} {u:TGs} {m:AV->AEnv->AH->Re AEnv} {r:List AV->AEnv->AH->Re AEnv} (hg:SGo C E n g m) (hr:SGos C E n u r):SGos C E n (qgw g u) (q12 m r):=by
 intro w xs vs env σ Q ok en t s
 cases xs with
 | nil=>exact s.elim
 | cons x xs =>
  rw [Trs] at t
  obtain ⟨v,us,rfl,t1,t2⟩:=t
  have s':Sat C E w ((m x env w.h).bind fun env h=>r xs env h) (fun env' w' => ∀ σ',q1d C w' env' σ'->σ'.length=σ.length->σ'.drop n=σ.drop n->Q σ' w'.H):=s
  exact ⟨v,us,rfl,hg w x v env σ _ ok en t1 (s'.bind.mono fun env1 w1 ok1 le1 s1 σ1 en1 l1 d1=>hr w1 xs us env1 σ1 Q ok1 en1 (t2.mono ok le1) (s1.mono fun env2 w2 ok2 le2 s2 σ2 en2 l2 d2=>s2 σ2 en2 (l2.trans l1) (d2.trans d1)))⟩
theorem qg7 {n k:Nat} {g:TGs} {m:List AV->AEnv->AH->Re AEnv} (hg:SGos C E n g m):SGo C E n (gTup C.K k g) (gT k m):=by
 intro w x v env σ Q ok en t s
 cases x with
 | tup xs =>
  rw [Tr] at t
  obtain ⟨a,vs,rfl,hs,ht⟩:=t
  have s':Sat C E w (if xs.length=k then m xs env w.h else .no) (fun env' w' => ∀ σ',q1d C w' env' σ'->σ'.length=σ.length->σ'.drop n=σ.drop n->Q σ' w'.H):=s
  by_cases hl:xs.length=k
  ·rw [if_pos hl] at s'
   exact ⟨a,vs,rfl,hs,by rw [<- ht.len];exact hl,hg w xs vs env σ Q ok en ht s'⟩
  ·rw [if_neg hl] at s';exact s'.elim
 | _=>exact s.elim
@[simp] def Re.noex {α:Type}:Re α->Re α
 | .ok x h=>.ok x h
 | _=>.no
@[simp] theorem Re.noex_ok {α:Type} (x:α) (h:AH):(Re.ok x h).noex=.ok x h:=rfl
def bEnv (n:Nat) (fv:List Nat) (env:AEnv):AEnv:=List.replicate n none++fv.map fun i=>(env[i]?).join
def lcL (wt:Option Nat) (all:List AV) (g:AV->AEnv->AH->Re AEnv) (tc:AT) (te:AE) (be:AEnv):List AV->List AV->AH->Re (List AV)
 | [],acc,h=>if okW h all wt=true then .ok acc h else .no
 | x::xs,acc,h=>if okW h all wt=true then (g x be h).bind fun env h=>(tc env h).bind fun b h=>if b=true then (te env h).bind fun y h=>lcL wt all g tc te be xs (acc++[y]) h else lcL wt all g tc te be xs acc h else .no
@[simp] def aLcL (n:Nat) (fv:List Nat) (it:AI) (g:AV->AEnv->AH->Re AEnv) (tc:AT) (te:AE):AA:=fun env h=>(it env h).bind fun p h=>if p.1.length<=sizeLine then (lcL p.2 p.1 g tc te (bEnv n fv env) p.1 [] h).noex else .no
@[simp] def aLc (n:Nat) (fv:List Nat) (it:AI) (g:AV->AEnv->AH->Re AEnv) (tc:AT) (te:AE):AE:=fun env h=>(aLcL n fv it g tc te env h).bind fun xs h=>.ok (.lst xs) h
@[simp] def aLcC (n:Nat) (fv:List Nat) (it:AI) (g:AV->AEnv->AH->Re AEnv) (tc:AT) (te:AE):AE:=fun env h=>(aLcL n fv it g tc te env h).bind fun xs h=>.ok (.ref h.length) (h++[.lst xs])
@[simp] def aYes:AT:=fun _ h=>.ok true h
theorem q3j:STs C E tYes aYes:=fun w env σ Q ok en s=>s.here ok
theorem qme {w:Wd} {env:AEnv} {σ:St} (en:q1d C w env σ) (own:List Str) (fv:List (Str×Nat)):q1d C w (bEnv own.length (fv.map (·.2)) env) (bσ own fv σ):=by
 unfold bEnv bσ q7o
 refine ⟨by simp,fun i x h=>?_⟩
 by_cases hi:i<own.length
 ·rw [List.getElem?_append_left (by simpa using hi),List.getElem?_replicate,if_pos hi] at h
  cases h
 ·rw [List.getElem?_append_right (by simpa using hi),List.length_replicate,List.getElem?_map,List.getElem?_map] at h
  rw [List.getElem?_append_right (by simpa using hi),List.length_map,List.getElem?_map]
  cases e:fv[i - own.length]? with
  | none=>rw [e] at h;cases h
  | some p =>
   rw [e] at h
   have h:(env[p.2]?).join=some x:=by simpa using h
   have h':env[p.2]?=some (some x):=by
    cases q:env[p.2]? with
    | none=>rw [q] at h;cases h
    | some o=>rw [q] at h;rw [show o=some x from h]
   obtain ⟨v,hv,tv⟩:=en.at_ p.2 x h'
   exact ⟨v,by simp [hv],tv⟩
theorem Sat.nb {α β γ:Type} {w1:Wd} {X:Re α} {g:α->AH->Re β} {f:β->AH->Re γ} {P:γ->Wd->Prop} (s:Sat C E w1 ((X.bind g).noex.bind f) P):Sat C E0 w1 X (fun x w' => Sat C E w1 ((g x w'.h).noex.bind f) P):=by
 cases X with
 | ok x h=>exact fun w' e ok le=>by subst e;exact s
 | ex c h=>exact s.elim
 | no=>exact s
theorem qit {own:List Str} {fv:List (Str×Nat)} {wi:TI} {it:AI} {g:TG} {mg:AV->AEnv->AH->Re AEnv} {tc:TT} {mc:AT} {te:TE} {me:AE} (hi:SI C E wi it) (hg:SGo C E0 own.length g mg) (hc:STs C E0 tc mc) (he:SE C E0 te me)
  {w:Wd} {env:AEnv} {σ:St} {Q:VK} (ok:Ok C w) (en:q1d C w env σ) {f:List AV->AH->Re AV} {P:AV->Wd->Prop} (s:Sat C E w ((aLcL own.length (fv.map (·.2)) it mg mc me env w.h).bind f) P)
  (k:∀ (w0 w':Wd) xs D vs,Ok C w0->Le w w0->w0.H D=none->Ok C w'->Le w0 w'->Lone w' D vs->Trs C w' xs vs->Sat C E w0 (f xs w'.h) P->Q (.ref D) w'.H):tLc own fv wi g tc te σ w.H Q:=by
 have s0:Sat C E w ((it env w.h).bind fun p h=>(if p.1.length<=sizeLine then (lcL p.2 p.1 mg mc me (bEnv own.length (fv.map (·.2)) env) p.1 [] h).noex else .no:Re (List AV)).bind f) P:=by
  unfold aLcL at s
  revert s
  cases it env w.h <;> exact fun s=>s
 refine hi w env σ _ ok en (s0.bind.mono fun p w1 ok1 le1 s1 J hJ D hD=>?_)
 obtain ⟨all,wt⟩:=p
 by_cases hsz:all.length<=sizeLine
 ·have s1:Sat C E w1 ((if all.length<=sizeLine then (lcL wt all mg mc me (bEnv own.length (fv.map (·.2)) env) all [] w1.h).noex else .no:Re (List AV)).bind f) P:=s1
  rw [if_pos hsz] at s1
  have en1:=en.mono ok le1
  refine ⟨fun i m H=>m=all.length - i/\i<=all.length/\∃ w2 acc ys,w2.H=H/\Ok C w2/\Le w1 w2/\Lone w2 D ys/\Trs C w2 acc ys/\acc.length<=i/\Sat C E w1 ((lcL wt all mg mc me (bEnv own.length (fv.map (·.2)) env) (all.drop i) acc w2.h).noex.bind f) P,⟨all.length,by simp,Nat.zero_le _,w1.fresh D (.lst []),[],[],rfl,ok1.fresh hD _,ok1.q33 hD _,?_, .nil,Nat.zero_le _,s1⟩,?_⟩
  ·exact ⟨q24,fun z=>ok1.fzt D z hD,fun z=>ok1.th D (ok1.qha z) hD,fun z=>ok1.th D z hD⟩
  ·rintro i m H ⟨rfl,hi,w2,acc,ys,rfl,ok2,le2,L2,t2,hal,s3⟩
   by_cases hlt:i<all.length
   ·right
    have hx:all[i]?=some all[i]:=List.getElem?_eq_getElem hlt
    rw [List.drop_eq_getElem_cons hlt,lcL] at s3
    by_cases hw:okW w2.h all wt=true
    ·rw [if_pos hw] at s3
     refine ⟨hJ.go w2 i ok2 le2 hw hlt,fun v H5=>∃ w5 acc' ys,w5.H=H5/\Ok C w5/\Le w1 w5/\Lone w5 D ys/\(∃ y,Tr C w5 y v/\Trs C w5 acc' ys/\acc'.length<=i/\Sat C E w1 ((lcL wt all mg mc me (bEnv own.length (fv.map (·.2)) env) (all.drop (i+1)) (acc' ++ [y]) w5.h).noex.bind f) P),
      fun H4=>∃ w4 acc' ys,w4.H=H4/\Ok C w4/\Le w1 w4/\Lone w4 D ys/\Trs C w4 acc' ys/\acc'.length<=i/\Sat C E w1 ((lcL wt all mg mc me (bEnv own.length (fv.map (·.2)) env) (all.drop (i+1)) acc' w4.h).noex.bind f) P,?_,?_,?_⟩
     ·rintro v H5 ⟨w5,acc',ys',rfl,ok5,le5,L5,y,ty,t5,hal5,s5⟩
      refine ⟨ys',L5.at_,?_,all.length - (i+1),by omega,rfl,hlt,w5.poke D (.lst (ys' ++ [v])),acc' ++ [y],ys' ++ [v],rfl,ok5.poke L5 _,le5.poke hD,?_,(t5.app (.one ty)).poke L5 _,?_,s5⟩
      ·have:=t5.len;omega
      ·exact ⟨q24,L5.nf,L5.nl,L5.nr⟩
      ·rw [List.length_append,List.length_singleton];omega
     ·rintro H4 ⟨w4,acc',ys',rfl,ok4,le4,L4,t4,hal4,s4⟩
      exact ⟨all.length - (i+1),by omega,rfl,hlt,w4,acc',ys',rfl,ok4,le4,L4,t4,by omega,s4⟩
     ·intro v H' yl
      obtain ⟨w3,rfl,e3,ok3,le3,t3⟩:=hJ.yld w2 i _ v H' ok2 le2 hw hx yl
      have en3:=qme ((en1.mono ok1 le2).mono ok2 le3) own fv
      rw [<- e3] at s3
      refine hg w3 _ v _ _ _ ok3 en3 t3 ((Sat.nb s3).le (le2.trans le3) |>.mono fun env4 w4 ok4 le4 s4 σ4 en4 l4 d4=>⟨?_,?_⟩)
      ·refine ⟨σ4.take own.length,?_,?_⟩
       ·have hl:(bσ own fv σ).length=own.length+fv.length:=by unfold bσ q7o;simp
        rw [List.length_take];omega
       ·have hd:(bσ own fv σ).drop own.length=q7o fv σ:=by
         unfold bσ
         rw [List.drop_append_of_le_length (by simp)]
         simp
        rw [<- hd, <- d4,List.take_append_drop]
      ·have le14:Le w1 w4:=le2.trans (le3.trans le4)
       refine hc w4 env4 σ4 _ ok4 en4 ((Sat.nb s4).le le14 |>.mono fun b w5 ok5 le5 s5=>?_)
       have L5:Lone w5 D ys:=L2.le (le3.trans (le4.trans le5))
       have t5:Trs C w5 acc ys:=t2.mono ok2 (le3.trans (le4.trans le5))
       cases b with
       | true =>
        refine iteT (he w5 env4 σ4 _ ok5 (en4.mono ok4 le5) ?_)
        have s5':Sat C E w1 (((me env4 w5.h).bind fun y h=>lcL wt all mg mc me (bEnv own.length (fv.map (·.2)) env) (all.drop (i+1)) (acc++[y]) h).noex.bind f) P:=by simpa using s5
        refine (Sat.nb s5').le (le14.trans le5) |>.mono fun y w6 ok6 le6 s6 q tq=>?_
        exact ⟨w6,acc,ys,rfl,ok6,le14.trans (le5.trans le6),L5.le le6,y,tq,t5.mono ok5 le6,hal,s6⟩
       | false =>
        refine iteF ⟨w5,acc,ys,rfl,ok5,le14.trans le5,L5,t5,hal,by simpa using s5⟩
    ·rw [if_neg hw] at s3;exact s3.elim
   ·left
    have hd:all.drop i=[]:=List.drop_eq_nil_of_le (by omega)
    rw [hd,lcL] at s3
    by_cases hw:okW w2.h all wt=true
    ·rw [if_pos hw] at s3
     exact ⟨hJ.stop w2 i ok2 le2 hw (Nat.le_antisymm hi (Nat.le_of_not_lt hlt)),k w1 w2 acc D ys ok1 le1 hD ok2 le2 L2 t2 s3⟩
    ·rw [if_neg hw] at s3;exact s3.elim
 ·have s1:Sat C E w1 ((if all.length<=sizeLine then (lcL wt all mg mc me (bEnv own.length (fv.map (·.2)) env) all [] w1.h).noex else .no:Re (List AV)).bind f) P:=s1
  rw [if_neg hsz] at s1
  exact s1.elim
theorem Le.keep {w0 w:Wd} {D:Addr} (le:Le w0 w) (h0:w0.H D=none):Le w0 (w.keep D):=
 ⟨le.pre,fun a h=>.inr (le.fz a h),fun b hb o r=>(le.ks b hb o r).elim .inl fun z=>.inr ⟨.inr z.1,z.2⟩,fun a h=>h.elim (fun z=>.inr (.inl (z ▸ h0))) (le.fn a),le.nw,le.nn,le.rn⟩
def Wd.own (w:Wd) (D:Addr) (c:Cell):Wd:={w with ρ:=w.ρ++[D],h:=w.h++[c]}
theorem q9f {w:Wd} (ok:Ok C w) {D:Addr} {c:Cell} {a:Addr} (h:Live (w.own D c) a):a=D\/Live w a:=by
 obtain ⟨k,c',e1,e2,e3⟩:=h
 have hl:=ok.len
 by_cases hk:k<w.h.length
 ·exact .inr ⟨k,c',by rw [<- List.getElem?_append_left (l₂:=[c]) hk];exact e1,e2,by rw [<- List.getElem?_append_left (l₂:=[D]) (by omega)];exact e3⟩
 ·have hlt:=(List.getElem?_eq_some_iff.mp e3).1
  have:(w.own D c).ρ.length=w.ρ.length+1:=by simp [Wd.own]
  have hk':k=w.ρ.length:=by omega
  have e3':(w.ρ++[D])[k]?=some a:=e3
  rw [hk',List.getElem?_append_right (Nat.le_refl _),Nat.sub_self] at e3'
  exact .inl (by simpa using e3'.symm)
theorem Le.own {w0 w:Wd} {D:Addr} {c:Cell} (ok:Ok C w) (le:Le w0 w) (h0:w0.H D=none):Le w0 (w.own D c):=by
 obtain ⟨t,e⟩:=le.pre
 refine ⟨⟨t++[D],by show w.ρ++[D]=_;rw [e,List.append_assoc]⟩,le.fz,le.ks,le.fn,fun a h=>?_,le.nn,fun a h=>?_⟩
 ·rcases q9f ok h with rfl | h
  ·exact .inl h0
  ·exact le.nw a h
 ·rcases List.mem_append.mp (show a∈w.ρ++[D] from h) with z | z
  ·exact le.rn a z
  ·exact .inr (by rw [List.mem_singleton.mp z];exact h0)
mutual
theorem Tr.own {w:Wd} {D:Addr} {c:Cell}:∀ {x:AV} {v:V},Tr C w x v->Tr C (w.own D c) x v
 | .non,v,h=>by rw [Tr] at h ⊢;exact h
 | .bl _,v,h=>by rw [Tr] at h ⊢;exact h
 | .int _,v,h=>by rw [Tr] at h ⊢;exact h
 | .str _,v,h=>by rw [Tr] at h ⊢;exact h
 | .tup xs,v,h=>by
  rw [Tr] at h ⊢
  obtain ⟨a,vs,e,hs,ht⟩:=h
  exact ⟨a,vs,e,hs,Trs.own ht⟩
 | .lst xs,v,h=>by
  rw [Tr] at h ⊢
  obtain ⟨a,vs,e,f,r,ht⟩:=h
  exact ⟨a,vs,e,f,r,Trs.own ht⟩
 | .dk ks xs,v,h=>by
  rw [Tr] at h ⊢
  obtain ⟨a,kvs,e,f,r,hk,ht⟩:=h
  exact ⟨a,kvs,e,f,r,hk,Trs.own ht⟩
 | .ref k,v,h=>by
  rw [Tr] at h ⊢
  obtain ⟨a,e,hk⟩:=h
  exact ⟨a,e,by show (w.ρ++[D])[k]?=some a;rw [List.getElem?_append_left (List.getElem?_eq_some_iff.mp hk).1];exact hk⟩
 | .kst xs,v,h=>by
  rw [Tr] at h ⊢
  obtain ⟨a,vs,e,hs,ht⟩:=h
  exact ⟨a,vs,e,hs,Trs.own ht⟩
 | .xc c,v,h=>by rw [Tr] at h ⊢;exact h
theorem Trs.own {w:Wd} {D:Addr} {c:Cell}:∀ {xs:List AV} {vs:List V},Trs C w xs vs->Trs C (w.own D c) xs vs
 | [],vs,h=>by rw [Trs] at h ⊢;exact h
 | x::xs,vs,h=>by
  rw [Trs] at h ⊢
  obtain ⟨v,us,e,h1,h2⟩:=h
  exact ⟨v,us,e,Tr.own h1,Trs.own h2⟩
end
theorem Flds.own {w:Wd} {D:Addr} {c:Cell}:∀ {fs:List (Nat×AV)} {us:List (Str×V)},Flds C w fs us->Flds C (w.own D c) fs us
 | [],us,h=>h
 | p::r,us,h=>by
  obtain ⟨v,us,e,h1,h2⟩:=h
  exact ⟨v,us,e,Tr.own h1,Flds.own h2⟩
theorem Ok.own {w:Wd} (ok:Ok C w) {D:Addr} {vs:List V} {xs:List AV} (L:Lone w D vs) (t:Trs C w xs vs):Ok C (w.own D (.lst xs)):=by
 have hl:=ok.len
 refine ⟨by simp [Wd.own,hl],?_,fun a ha=>?_,fun k c' a e ea=>?_,fun a hlv hz=>?_,ok.fzt,ok.pn⟩
 ·show (w.ρ++[D]).Nodup
  rw [List.nodup_append]
  exact ⟨ok.nd,by simp,fun a ha b hb=>by simp at hb;subst hb;intro z;subst z;exact L.nr ha⟩
 ·rcases List.mem_append.mp (show a∈w.ρ++[D] from ha) with z | z
  ·exact ok.th a z
  ·show w.H a≠none
   rw [List.mem_singleton.mp z,L.at_];intro z;cases z
 ·by_cases hk:k<w.h.length
  ·have e':w.h[k]?=some c':=by rw [<- List.getElem?_append_left (l₂:=[Cell.lst xs]) hk];exact e
   have ea':w.ρ[k]?=some a:=by rw [<- List.getElem?_append_left (l₂:=[D]) (by omega)];exact ea
   have h:=ok.cell k c' a e' ea'
   cases c' with
   | dead=>trivial
   | lst xs=>obtain ⟨vs,hH,ht⟩:=h;exact ⟨vs,hH,ht.own⟩
   | dk ks xs=>obtain ⟨kvs,hH,hk,ht⟩:=h;exact ⟨kvs,hH,hk,ht.own⟩
   | ins cc fs=>obtain ⟨hf,dx,fvs,hH,ht⟩:=h;exact ⟨hf,dx,fvs,hH,ht.own⟩
  ·have hlt:=(List.getElem?_eq_some_iff.mp ea).1
   have:(w.own D (.lst xs)).ρ.length=w.ρ.length+1:=by simp [Wd.own]
   have hk':k=w.ρ.length:=by omega
   have e3':(w.ρ++[D])[k]?=some a:=ea
   rw [hk',List.getElem?_append_right (Nat.le_refl _),Nat.sub_self] at e3'
   have e4:(w.h++[Cell.lst xs])[k]?=some c':=e
   rw [hk',hl,List.getElem?_append_right (Nat.le_refl _),Nat.sub_self] at e4
   have a1:D=a:=by simpa using e3'
   have a2:Cell.lst xs=c':=by simpa using e4
   subst a1 a2
   exact ⟨vs,L.at_,t.own⟩
 ·rcases q9f ok hlv with rfl | h
  ·exact L.nf hz
  ·exact ok.fz a h hz
section
variable {own:List Str} {fv:List (Str×Nat)} {wi:TI} {it:AI} {g:TG} {mg:AV->AEnv->AH->Re AEnv} {tc:TT} {mc:AT} {te:TE} {me:AE}
theorem q3o (hi:SI C E wi it) (hg:SGo C E0 own.length g mg) (hc:STs C E0 tc mc) (he:SE C E0 te me):SE C E (tLc own fv wi g tc te) (aLc own.length (fv.map (·.2)) it mg mc me):=fun w env σ Q ok en s =>
 qit hi hg hc he ok en s fun w0 w' xs D vs ok0 le0 h0 ok' le' L t s' => s' (w'.keep D) rfl (ok'.keep L) (le'.keep h0) _ (by rw [Tr];exact ⟨D,vs,rfl, .inl rfl, .inl L.at_,t.keep⟩)
theorem qjr (hi:SI C E wi it) (hg:SGo C E0 own.length g mg) (hc:STs C E0 tc mc) (he:SE C E0 te me):SE C E (tLc own fv wi g tc te) (aLcC own.length (fv.map (·.2)) it mg mc me):=fun w env σ Q ok en s =>
 qit hi hg hc he ok en s fun w0 w' xs D vs ok0 le0 h0 ok' le' L t s' => s' (w'.own D (.lst xs)) rfl (ok'.own L t) (le'.own ok' h0) _ (by
  rw [Tr]
  refine ⟨D,rfl,?_⟩
  show (w'.ρ++[D])[w'.h.length]?=some D
  rw [<- ok'.len,List.getElem?_append_right (Nat.le_refl _),Nat.sub_self];rfl)
end
end
end Z
namespace Z
open PySem L2
abbrev AF:=List AV->AH->Re AV
def spZ (C:Ct) (n:Nat) (m:AF):Sp:=fun vs H Q E=>∃ (w:Wd) (xs:List AV),w.H=H/\Ok C w/\Trs C w xs vs/\xs.length=n/\Sat C E w (m xs w.h) (want C Q)
theorem q28 {C:Ct} {n:Nat} {m:AF} {vs:List V} {H:Hp} {Q:VK} {E:XK} (h:spZ C n m vs H Q E):vs.length=n:=by
 obtain ⟨w,xs,_,_,t,hl,_⟩:=h
 rw [<- t.len];exact hl
@[simp] def SRe.out:SRe->Re AV
 | .rt x h=>.ok x h
 | .nx _ h=>.ok .non h
 | .ex c h=>.ex c h
 | _=>.no
@[simp] theorem SRe.out_rt (x:AV) (h:AH):(SRe.rt x h).out=.ok x h:=rfl
@[simp] theorem SRe.out_nx (e:AEnv) (h:AH):(SRe.nx e h).out=.ok .non h:=rfl
@[simp] theorem SRe.out_ex (c:Nat) (h:AH):(SRe.ex c h).out=.ex c h:=rfl
@[simp] def fnZ (N:Nat) (body:AS):AF:=fun xs h=>(body (xs.map some++List.replicate (N - xs.length) none) h).out
section
variable {C:Ct} {E:XK}
theorem q9i {w:Wd} {N:List Str} {xs:List AV} {vs:List V} (t:Trs C w xs vs):q1d C w (xs.map some++List.replicate (N.length - xs.length) none) (L2.start N vs):=by
 unfold L2.start
 have hl:=t.len
 refine ⟨by simp [hl],fun i x h=>?_⟩
 by_cases hi:i<xs.length
 ·rw [List.getElem?_append_left (by simpa using hi),List.getElem?_map] at h
  cases e:xs[i]? with
  | none=>rw [e] at h;cases h
  | some y =>
   rw [e] at h
   cases h
   obtain ⟨v,hv,tv⟩:=t.get e
   exact ⟨v,by rw [List.getElem?_append_left (by simp;omega),List.getElem?_map,hv];rfl,tv⟩
 ·rw [List.getElem?_append_right (by simpa using hi),List.getElem?_replicate] at h
  split at h <;> cases h
theorem q29 {N:List Str} {n k:Nat} {t:TS} {body:AS} {vs:List V} {H:Hp} {Q:VK} (hs:SS C E t body) (hN:N.length=k) (h:spZ C n (fnZ k body) vs H Q E):t {nx:=fun _ H' => Q .non H',rt:=Q} (L2.start N vs) H:=by
 obtain ⟨w,xs,rfl,ok,tr,hl,s⟩:=h
 subst hN
 refine hs w _ _ _ ok (q9i (N:=N) tr) ?_
 unfold fnZ at s
 revert s
 cases body (xs.map some++List.replicate (N.length - xs.length) none) w.h with
 | rt x h=>exact fun s w' v e ok' le tv=>s w' e ok' le v tv
 | nx env h=>exact fun s w' σ e ok' le en=>s w' e ok' le .non (by rw [Tr])
 | ex c h=>exact fun s=>s
 | bk env h=>exact fun s=>s.elim
 | ct env h=>exact fun s=>s.elim
 | no=>exact fun s=>s.elim
def q6p:List (Nat×AV)->List (Nat×AV)->Bool
 | [],[]=>true
 | p::r,q::s=>(p.1 == q.1) && beqA p.2 q.2 && q6p r s
 | _,_=>false
theorem qee:∀ {xs ys:List (Nat×AV)},q6p xs ys=true->xs=ys
 | [],ys,h=>by cases ys <;> simp_all [q6p]
 | (a,x)::xs,ys,h=>by
  cases ys with
  | nil=>simp [q6p] at h
  | cons q ys =>
   obtain ⟨b,y⟩:=q
   rw [q6p,Bool.and_eq_true,Bool.and_eq_true] at h
   have h1:a=b:=by simpa using h.1.1
   have h2:x=y:=qft h.1.2
   rw [h1,h2,qee h.2]
theorem qc6:∀ (xs:List (Nat×AV)),q6p xs xs=true
 | []=>rfl
 | (a,x)::xs=>by rw [q6p,qe2,qc6 xs];simp
def beqC:Cell->Cell->Bool
 | .dead, .dead=>true
 | .lst a, .lst b=>q3z a b
 | .dk k a, .dk l b=>decide (k=l) && q3z a b
 | .ins c f, .ins d g=>(c == d) && q6p f g
 | _,_=>false
theorem qmn {x y:Cell} (h:beqC x y=true):x=y:=by
 cases x <;> cases y <;> simp only [beqC,Bool.false_eq_true] at h
 ·rfl
 ·rw [q48 h]
 ·rw [Bool.and_eq_true] at h;rw [q48 h.2,of_decide_eq_true h.1]
 ·rw [Bool.and_eq_true] at h;rw [qee h.2,eq_of_beq h.1]
theorem qlc (x:Cell):beqC x x=true:=by
 cases x with
 | dead=>rfl
 | lst a=>exact q3v a
 | dk k a=>rw [beqC,q3v,decide_eq_true rfl];rfl
 | ins c f=>rw [beqC,qc6];simp
def q3t:AH->AH->Bool
 | [],_=>true
 | c::r,d::s=>beqC c d && q3t r s
 | _::_,[]=>false
theorem q8b:∀ {h h':AH},q3t h h'=true->∃ g,h'=h++g
 | [],h',_=>⟨h',rfl⟩
 | c::r,[],e=>by simp [q3t] at e
 | c::r,d::s,e=>by
  rw [q3t,Bool.and_eq_true] at e
  obtain ⟨g,hg⟩:=q8b e.2
  exact ⟨g,by rw [hg,qmn e.1];rfl⟩
theorem qah:∀ (h g:AH),q3t h (h++g)=true
 | [],g=>rfl
 | c::r,g=>by rw [List.cons_append,q3t,qlc,qah r g];rfl
def qao (m:AF):AF:=fun xs h=>match m xs h with
 | .ok x h' => if (q3t h h' && closed h.length x)=true then .ok x h else .no
 | .ex c h' => if q3t h h'=true then .ex c h else .no
 | .no=>.no
theorem qli {m:AF} {xs:List AV} {h g:AH} {x:AV} (e:m xs h=.ok x (h++g)) (c:closed h.length x=true):qao m xs h=.ok x h:=by
 unfold qao;rw [e];simp only [qah,c,Bool.and_self,if_true]
theorem qlw {n:Nat} {m:AF} {vs:List V} {H:Hp} {Q:VK} (h:spZ C n (qao m) vs H Q E):spZ C n m vs H Q E:=by
 obtain ⟨w,xs,rfl,ok,tr,hl,s⟩:=h
 refine ⟨w,xs,rfl,ok,tr,hl,?_⟩
 unfold qao at s
 revert s
 cases m xs w.h with
 | ok x h' =>
  intro s w' e ok' le v tv
  by_cases hb:(q3t w.h h' && closed w.h.length x)=true
  ·simp only [hb,if_true] at s
   rw [Bool.and_eq_true] at hb
   obtain ⟨g,hg⟩:=q8b hb.1
   have hh:w'.h=w.h++g:=e.trans hg
   exact s (w'.back w) rfl (Ok.back ok le ok' hh) le.back v (tv.back le ok.len hb.2)
  ·have s':Sat C E w (if (q3t w.h h' && closed w.h.length x)=true then .ok x w.h else .no) (want C Q):=s
   rw [if_neg hb] at s';exact s'.elim
 | ex c h' =>
  intro s w' e ok' le
  by_cases hb:q3t w.h h'=true
  ·have s':Sat C E w (if q3t w.h h'=true then .ex c w.h else .no) (want C Q):=s
   rw [if_pos hb] at s'
   obtain ⟨g,hg⟩:=q8b hb
   have hh:w'.h=w.h++g:=e.trans hg
   exact s' (w'.back w) rfl (Ok.back ok le ok' hh) le.back
  ·have s':Sat C E w (if q3t w.h h'=true then .ex c w.h else .no) (want C Q):=s
   rw [if_neg hb] at s';exact s'.elim
 | no=>exact fun s=>s
theorem q1b {n:Nat} {m:AF} {t:TA} {ma:AA} (ha:SA C E n t ma):SE C E (tCall (spZ C n m) [] E t) (aC m ma):=fun w env σ Q ok en s =>
 ha.run ok en s fun xs w1 hl ok1 le1 s1 vs tv=>by
  rw [List.append_nil]
  exact ⟨w1,xs,rfl,ok1,tv,hl,s1⟩
@[simp] def insOf (h:AH):AV->Option (Nat×List (Nat×AV))
 | .ref k=>match h[k]? with | some (.ins c fs)=>some (c,fs) | _=>none
 | _=>none
@[simp] def fFld (i:Nat):AV->AH->Re AV:=fun x h=>match insOf h x with
 | some (_,fs)=>match fs.lookup i with | some y=>.ok y h | none=>.no
 | none=>.no
@[simp] def aFld (i:Nat) (a:AE):AE:=a1 (fFld i) a
end
end Z
namespace Z
open PySem L2
@[simp] def fLen:List AV->AH->Re AV
 | [.str z],h=>if z.length<=sizeLine then .ok (.int z.length) h else .no
 | [x],h=>match q4f h x with | some xs=>.ok (.int xs.length) h | none=>.no
 | _,_=>.no
@[simp] def q8m:List AV->AH->Re AV
 | [.int i, .int j],h=>.ok (.int (if j<i then j else i)) h
 | _,_=>.no
@[simp] def q3n:List AV->AH->Re AV
 | [.int i],h=>if i.natAbs.log2<1920 then .ok (.str (toString i)) h else .no
 | _,_=>.no
@[simp] def qhv:List AV->AH->Re AV
 | [x],h=>match q4f h x with | some xs=>.ok (.lst xs) h | none=>.no
 | _,_=>.no
@[simp] def q80:List AV->AH->Re AV
 | [x],h=>match q4f h x with | some xs=>.ok (.tup xs) h | none=>.no
 | _,_=>.no
@[simp] def fAll:List AV->AH->Re AV
 | [x],h=>match (q4h h x).bind q4j with | some bs=>.ok (.bl (bs.all id)) h | none=>.no
 | _,_=>.no
@[simp] def fAny:List AV->AH->Re AV
 | [x],h=>match (q4h h x).bind q4j with | some bs=>.ok (.bl (bs.any id)) h | none=>.no
 | _,_=>.no
inductive Ty where | int | bool | str | list | tuple | dict | none
 deriving DecidableEq
def Ty.nm:Ty->String
 | .int => "int" | .bool => "bool" | .str => "str" | .list => "list" | .tuple => "tuple" | .dict => "dict" | .none => "NoneType"
@[simp] def tyA (h:AH):AV->Option Ty
 | .non=>some .none
 | .bl _=>some .bool
 | .int _=>some .int
 | .str _=>some .str
 | .tup _=>some .tuple
 | .lst _=>some .list
 | .dk _ _=>some .dict
 | .kst _=>Option.none
 | .xc _=>Option.none
 | .ref k=>match h[k]? with | some (.lst _)=>some .list | some (.dk _ _)=>some .dict | _=>Option.none
@[simp] def isiB (a b:Ty):Bool:=decide (a=b) || (decide (a=.bool) && decide (b=.int))
@[simp] def fIsi (b:Ty):AV->AH->Re AV:=fun x h=>match tyA h x with | some a=>.ok (.bl (isiB a b)) h | Option.none=>.no
@[simp] def qhq (bs:List Ty):AV->AH->Re AV:=fun x h=>match tyA h x with | some a=>.ok (.bl (bs.any (isiB a))) h | Option.none=>.no
@[simp] def truA (h:AH):AV->Option Bool
 | .non=>some false
 | .bl b=>some b
 | .int i=>some (i != 0)
 | .str y=>if y.length<=sizeLine then some ((y.length:Int) != 0) else none
 | .tup xs=>some (!xs.isEmpty)
 | .lst xs=>some (!xs.isEmpty)
 | .ref k=>match h[k]? with | some (.lst xs)=>some (!xs.isEmpty) | some (.dk ks _)=>some (!ks.isEmpty) | _=>none
 | _=>none
@[simp] def aTru (a:AE):AT:=fun env h=>(a env h).bind fun x h=>match truA h x with | some b=>.ok b h | none=>.no
section
variable {C:Ct} {E:XK}
theorem q46 {w:Wd} {x:AV} {vs:List V} (t:Trs C w [x] vs):∃ v,vs=[v]/\Tr C w x v:=by
 rw [Trs] at t
 obtain ⟨v,us,rfl,t1,t2⟩:=t
 rw [Trs] at t2;subst t2
 exact ⟨v,rfl,t1⟩
theorem two_of {w:Wd} {x y:AV} {vs:List V} (t:Trs C w [x,y] vs):∃ v u,vs=[v,u]/\Tr C w x v/\Tr C w y u:=by
 rw [Trs] at t
 obtain ⟨v,us,rfl,t1,t2⟩:=t
 obtain ⟨u,rfl,t3⟩:=q46 t2
 exact ⟨v,u,rfl,t1,t3⟩
theorem len1 {xs:List AV} (h:xs.length=1):∃ x,xs=[x]:=by
 match xs,h with
 | [x],_=>exact ⟨x,rfl⟩
theorem len2 {xs:List AV} (h:xs.length=2):∃ x y,xs=[x,y]:=by
 match xs,h with
 | [x,y],_=>exact ⟨x,y,rfl⟩
theorem q34:SC C E 1 (rLen C.K) fLen:=by
 intro w xs vs Q hl ok t s
 obtain ⟨x,rfl⟩:=len1 hl
 obtain ⟨v,rfl,tv⟩:=q46 t
 by_cases hx:∃ z,x=.str z
 ·obtain ⟨z,rfl⟩:=hx
  rw [Tr] at tv;subst tv
  have s:Sat C E w (if z.length<=sizeLine then .ok (.int z.length) w.h else .no) (want C Q):=s
  by_cases hz:z.length<=sizeLine
  ·rw [if_pos hz] at s
   exact .inr ⟨z,rfl,hz,s.here ok _ (by rw [Tr])⟩
  ·rw [if_neg hz] at s;exact s.elim
 ·have e:fLen [x] w.h=match q4f w.h x with | some xs=>.ok (.int xs.length) w.h | none=>.no:=by
   cases x <;> first | rfl | exact absurd ⟨_,rfl⟩ hx
  rw [e] at s
  split at s
  ·rename_i ys ey
   obtain ⟨a,us,rfl,r,t'⟩:=q6d ok ey tv
   exact .inl ⟨a,us,rfl,r,by rw [<- t'.len];exact s.here ok _ (by rw [Tr])⟩
  ·exact s.elim
theorem qgh:SC C E 2 rMin2 q8m:=by
 intro w xs vs Q hl ok t s
 obtain ⟨x,y,rfl⟩:=len2 hl
 obtain ⟨v,u,rfl,tv,tu⟩:=two_of t
 cases x with
 | int i =>
  cases y with
  | int j=>rw [Tr] at tv;rw [Tr] at tu;subst tv;subst tu;exact ⟨i,j,rfl,Sat.here (P:=want C Q) s ok _ (by rw [Tr])⟩
  | _=>exact s.elim
 | _=>exact s.elim
theorem qbq:SC C E 1 rStrI q3n:=by
 intro w xs vs Q hl ok t s
 obtain ⟨x,rfl⟩:=len1 hl
 obtain ⟨v,rfl,tv⟩:=q46 t
 cases x with
 | int i =>
  rw [Tr] at tv;subst tv
  have s:Sat C E w (if i.natAbs.log2<1920 then .ok (.str (toString i)) w.h else .no) (want C Q):=s
  by_cases hz:i.natAbs.log2<1920
  ·rw [if_pos hz] at s;exact ⟨i,rfl,hz,s.here ok _ (by rw [Tr])⟩
  ·rw [if_neg hz] at s;exact s.elim
 | _=>exact s.elim
theorem qmy:SC C E 1 (qfw C.K) qhv:=by
 intro w xs vs Q hl ok t s
 obtain ⟨x,rfl⟩:=len1 hl
 obtain ⟨v,rfl,tv⟩:=q46 t
 have s:Sat C E w (match q4f w.h x with | some xs=>.ok (.lst xs) w.h | none=>.no) (want C Q):=s
 split at s
 ·rename_i ys ey
  obtain ⟨a,us,rfl,r,t'⟩:=q6d ok ey tv
  exact ⟨a,us,rfl,r,fun p hp=>s (w.frozen p _) rfl (ok.frozen hp _) (ok.q3w hp _) _ (ok.q70 hp t')⟩
 ·exact s.elim
theorem qkw:SC C E 1 (qe4 C.K) q80:=by
 intro w xs vs Q hl ok t s
 obtain ⟨x,rfl⟩:=len1 hl
 obtain ⟨v,rfl,tv⟩:=q46 t
 have s:Sat C E w (match q4f w.h x with | some xs=>.ok (.tup xs) w.h | none=>.no) (want C Q):=s
 split at s
 ·rename_i ys ey
  obtain ⟨a,us,rfl,r,t'⟩:=q6d ok ey tv
  rcases r with r | r
  ·exact ⟨a,us,rfl, .inl ⟨r,fun p hp=>s (w.fresh p _) rfl (ok.fresh hp _) (ok.q33 hp _) _ (ok.q86 hp t')⟩⟩
  ·exact ⟨a,us,rfl, .inr ⟨r,s.here ok _ (by rw [Tr];exact ⟨a,us,rfl,r,t'⟩)⟩⟩
 ·exact s.elim
theorem sc_all:SC C E 1 (rAll C.K) fAll:=by
 intro w xs vs Q hl ok t s
 obtain ⟨x,rfl⟩:=len1 hl
 obtain ⟨v,rfl,tv⟩:=q46 t
 have s:Sat C E w (match (q4h w.h x).bind q4j with | some bs=>.ok (.bl (bs.all id)) w.h | none=>.no) (want C Q):=s
 split at s
 ·rename_i bs eb
  obtain ⟨ys,ey,eb⟩:=Option.bind_eq_some_iff.mp eb
  obtain ⟨a,us,rfl,r,t'⟩:=q3d ok ey tv
  have:=q96 eb t'
  subst this
  exact ⟨a,bs,rfl, .inl r,s.here ok _ (by rw [Tr])⟩
 ·exact s.elim
theorem sc_any:SC C E 1 (rAny C.K) fAny:=by
 intro w xs vs Q hl ok t s
 obtain ⟨x,rfl⟩:=len1 hl
 obtain ⟨v,rfl,tv⟩:=q46 t
 have s:Sat C E w (match (q4h w.h x).bind q4j with | some bs=>.ok (.bl (bs.any id)) w.h | none=>.no) (want C Q):=s
 split at s
 ·rename_i bs eb
  obtain ⟨ys,ey,eb⟩:=Option.bind_eq_some_iff.mp eb
  obtain ⟨a,us,rfl,r,t'⟩:=q3d ok ey tv
  have:=q96 eb t'
  subst this
  exact ⟨a,bs,rfl, .inl r,s.here ok _ (by rw [Tr])⟩
 ·exact s.elim
theorem qj2 {K:PySem.W.Frag} (a b:Ty) (hb:b≠.none):PySem.W.kitOne K (.type a.nm) (.type b.nm)=some (isiB a b):=by
 cases a <;> cases b <;> first | rfl | exact absurd rfl hb
theorem qjz {w:Wd} {x:AV} {v:V} {a:Ty} (ok:Ok C w) (e:tyA w.h x=some a) (t:Tr C w x v):TyZ C.K w.H v (.type a.nm):=by
 cases x with
 | non=>cases e;rw [Tr] at t;subst t;exact .of .non
 | bl b=>cases e;rw [Tr] at t;subst t;exact .of (.bl b)
 | int i=>cases e;rw [Tr] at t;subst t;exact .of (.int i)
 | str x=>cases e;rw [Tr] at t;subst t;exact .of (.str x)
 | tup xs=>cases e;rw [Tr] at t;obtain ⟨a,vs,rfl,h,_⟩:=t;exact .tup h
 | lst xs=>cases e;rw [Tr] at t;obtain ⟨a,vs,rfl,_,h,_⟩:=t;exact .lst h
 | dk ks xs=>cases e;rw [Tr] at t;obtain ⟨a,vs,rfl,_,h,_⟩:=t;exact .dK h
 | ref k =>
  rw [Tr] at t
  obtain ⟨ad,rfl,ea⟩:=t
  simp only [tyA] at e
  split at e
  ·rename_i xs eh
   cases e
   obtain ⟨vs,hH,_⟩:=ok.cell k _ ad eh ea
   exact .lst (.inl hH)
  ·rename_i ks xs eh
   cases e
   obtain ⟨vs,hH,_⟩:=ok.cell k _ ad eh ea
   exact .dK (.inl hH)
  ·cases e
 | kst xs=>cases e
 | xc c=>cases e
theorem q35 {ta:TE} {ma:AE} (b:Ty) {n:String} (hn:n=b.nm) (hb:b≠.none) (ha:SE C E ta ma):SE C E (tCB (rIsi C.K) (q3q ta (q3q (tC (.ty n)) tNil))) (a1 (fIsi b) ma):=by
 subst hn
 intro w env σ Q ok en s
 refine ha w env σ _ ok en (s.bind.mono fun x w1 ok1 le1 s1 v tv=>?_)
 unfold fIsi at s1
 split at s1
 ·rename_i a e
  exact ⟨v,b.nm,_,_,rfl,qjz ok1 e tv,qj2 a b hb,s1.here ok1 _ (by rw [Tr])⟩
 ·exact s1.elim
theorem qg3 {K:PySem.W.Frag} (a:Ty):∀ (bs:List Ty),(∀ b∈bs,b≠.none)->PySem.W.kitAny K (.type a.nm) ((bs.map Ty.nm).map Value.type)=some (bs.any (isiB a))
 | [],_=>rfl
 | b::bs,h=>by
  rw [List.map_cons,List.map_cons,PySem.W.kitAny,qj2 a b (h b (by simp)),List.any_cons]
  cases isiB a b with
  | true=>rfl
  | false=>exact qg3 a bs fun c hc=>h c (List.mem_cons_of_mem _ hc)
theorem ql8 {ta:TE} {ma:AE} (ha:SE C E ta ma):SE C E (tCB (rIsiT C.K) (q3q ta (q3q (tTup (q3q (tC (.ty "list")) (q3q (tC (.ty "tuple")) tNil))) tNil))) (a1 (qhq [.list, .tuple]) ma):=by
 intro w env σ Q ok en s
 refine ha w env σ _ ok en (s.bind.mono fun x w1 ok1 le1 s1 v tv=>?_)
 unfold qhq at s1
 split at s1
 ·rename_i a e
  refine ⟨by show 2<=sizeLine;decide,fun p hp=>?_⟩
  have ok2:=ok1.fresh hp (.tup [.ty "list", .ty "tuple"])
  have le2:=ok1.q33 hp (.tup [.ty "list", .ty "tuple"])
  exact ⟨v,p,["list", "tuple"],_,_,rfl,q24,qjz ok2 (show tyA (w1.fresh p _).h x=some a from e) (tv.mono ok1 le2),qg3 a [.list, .tuple] (by intro b hb;simp at hb;rcases hb with rfl | rfl <;> intro z <;> cases z),s1 (w1.fresh p _) rfl ok2 le2 _ (by rw [Tr])⟩
 ·exact s1.elim
theorem qnt {w:Wd} {x:AV} {v:V} {b:Bool} (ok:Ok C w) (e:truA w.h x=some b) (t:Tr C w x v):TruV C.K v w.H b:=by
 cases x with
 | non=>cases e;rw [Tr] at t;subst t;rfl
 | bl c=>cases e;rw [Tr] at t;subst t;rfl
 | int i=>cases e;rw [Tr] at t;subst t;rfl
 | str x =>
  rw [Tr] at t;subst t
  simp only [truA] at e
  split at e
  ·rename_i hz;cases e;exact ⟨hz,rfl⟩
  ·cases e
 | tup xs=>cases e;rw [Tr] at t;obtain ⟨a,vs,rfl,h,t'⟩:=t;exact .inr (.inl ⟨vs,h,by cases xs <;> cases vs <;> first | rfl | (have:=t'.len;simp at this)⟩)
 | lst xs=>cases e;rw [Tr] at t;obtain ⟨a,vs,rfl,_,h,t'⟩:=t;exact .inl ⟨vs, .inl h,by cases xs <;> cases vs <;> first | rfl | (have:=t'.len;simp at this)⟩
 | dk ks xs=>cases e
 | ref k =>
  rw [Tr] at t
  obtain ⟨ad,rfl,ea⟩:=t
  simp only [truA] at e
  split at e
  ·rename_i xs eh
   cases e
   obtain ⟨vs,hH,t'⟩:=ok.cell k _ ad eh ea
   exact .inl ⟨vs, .inl (.inl hH),by cases xs <;> cases vs <;> first | rfl | (have:=t'.len;simp at this)⟩
  ·rename_i ks xs eh
   cases e
   obtain ⟨kvs,hH,rfl,t'⟩:=ok.cell k _ ad eh ea
   exact .inr (.inr ⟨kvs,hH,by cases kvs <;> rfl⟩)
  ·cases e
 | kst xs=>cases e
 | xc c=>cases e
theorem st_tru {ta:TE} {ma:AE} (ha:SE C E ta ma):STs C E (fun σ H Q=>ta σ H fun x H' => ∃ k,TruV C.K x H' k/\Q k H') (aTru ma):=by
 intro w env σ Q ok en s
 refine ha w env σ _ ok en (s.bind.mono fun x w1 ok1 le1 s1 v tv=>?_)
 split at s1
 ·rename_i b e
  exact ⟨b,qnt ok1 e tv,s1.here ok1⟩
 ·exact s1.elim
@[simp] def aMtL (f:AV->List AV->AH->Re AV) (o:AE) (ma:AA):AE:=fun env h=>(o env h).bind fun x h=>match q4h h x with | some _=>(ma env h).bind fun xs h=>f x xs h | none=>.no
@[simp] def q15:AV->List AV->AH->Re AV
 | .ref k,[y],h=>match h[k]? with
  | some (.lst xs)=>if xs.length<sizeLine then .ok .non (h.set k (.lst (xs++[y]))) else .no
  | _=>.no
 | _,_,_=>.no
@[simp] def q79:AV->List AV->AH->Re AV
 | .ref k,[y],h=>match h[k]?,q4h h y with
  | some (.lst xs),some ys=>if xs.length+ys.length<=sizeLine then .ok .non (h.set k (.lst (xs++ys))) else .no
  | _,_=>.no
 | _,_,_=>.no
theorem q2m {n:Nat} {r:V->List V->Hp->VK->Prop} {f:AV->List AV->AH->Re AV} {to:TE} {o:AE} {t:TA} {ma:AA} (hr:SMt C E n r f) (ho:SE C E to o) (ha:SA C E n t ma):SE C E (tBM C.K "list" r to t) (aMtL f o ma):=by
 intro w env σ Q ok en s
 refine ho w env σ _ ok en (s.bind.mono fun x w1 ok1 le1 s1 v tv=>?_)
 split at s1
 ·rename_i xs e
  obtain ⟨a,vs,rfl,r1,t1⟩:=q3d ok1 e tv
  refine ⟨.inl ⟨rfl,vs, .inl r1⟩,ha.run ok1 (en.mono ok le1) s1 fun ys w2 hl ok2 le2 s2 us tus=>hr w2 x _ ys us Q hl ok2 (tv.mono ok1 le2) tus s2⟩
 ·exact s1.elim
theorem qhh {w:Wd} {k:Nat} {xs:List AV} {v:V} (ok:Ok C w) (e:w.h[k]?=some (.lst xs)) (t:Tr C w (.ref k) v):∃ a vs,v=.ref a/\w.ρ[k]?=some a/\w.H a=some (.lst vs)/\Trs C w xs vs:=by
 rw [Tr] at t
 obtain ⟨a,rfl,ea⟩:=t
 obtain ⟨vs,hH,ht⟩:=ok.cell k _ a e ea
 exact ⟨a,vs,rfl,ea,hH,ht⟩
theorem q22:SMt C E 1 qgt q15:=by
 intro w x u xs vs Q hl ok tx t s
 obtain ⟨y,rfl⟩:=len1 hl
 obtain ⟨v,rfl,tv⟩:=q46 t
 cases x with
 | ref k =>
  have s:Sat C E w (match w.h[k]? with | some (.lst xs)=>if xs.length<sizeLine then .ok .non (w.h.set k (.lst (xs++[y]))) else .no | _=>.no) (want C Q):=s
  split at s
  ·rename_i zs e
   obtain ⟨a,us,rfl,ea,hH,ht⟩:=qhh ok e tx
   split at s
   ·rename_i hz
    obtain ⟨o1,l1⟩:=ok.qf4 e ea (ht.app (.one tv))
    exact ⟨a,us,v,rfl,rfl,hH,by rw [<- ht.len];exact hz,s _ rfl o1 l1 _ (by rw [Tr])⟩
   ·exact s.elim
  ·exact s.elim
 | _=>exact s.elim
theorem qcc:SMt C E 1 qdp q79:=by
 intro w x u xs vs Q hl ok tx t s
 obtain ⟨y,rfl⟩:=len1 hl
 obtain ⟨v,rfl,tv⟩:=q46 t
 cases x with
 | ref k =>
  have s:Sat C E w (match w.h[k]?,q4h w.h y with | some (.lst xs),some ys=>if xs.length+ys.length<=sizeLine then .ok .non (w.h.set k (.lst (xs++ys))) else .no | _,_=>.no) (want C Q):=s
  split at s
  ·rename_i zs ys e ey
   obtain ⟨a,us,rfl,ea,hH,ht⟩:=qhh ok e tx
   obtain ⟨b,us',rfl,rb,tb⟩:=q3d ok ey tv
   split at s
   ·rename_i hz
    obtain ⟨o1,l1⟩:=ok.qf4 e ea (ht.app tb)
    exact ⟨a,b,us,us',rfl,rfl,hH,rb,by rw [<- ht.len, <- tb.len];exact hz,s _ rfl o1 l1 _ (by rw [Tr])⟩
   ·exact s.elim
  ·exact s.elim
 | _=>exact s.elim
@[simp] def eqF:AV->AV->Bool
 | .non, .non=>true
 | .bl a, .bl b=>a == b
 | .bl a, .int b=>(if a then 1 else 0) == b
 | .int a, .bl b=>a == (if b then 1 else 0)
 | .int a, .int b=>a == b
 | .str a, .str b=>a == b
 | _,_=>false
@[simp] def q45:AV->Bool
 | .non=>true
 | .bl _=>true
 | .int _=>true
 | .str _=>true
 | _=>false
def inA (x:AV) (xs:List AV):Bool:=xs.any fun y=>eqF y x
@[simp] def fIn (neg:Bool):AV->AV->AH->Re AV:=fun x y h=>match q4f h y with
 | some ys=>if (q45 x && ys.all q45)=true then .ok (.bl (if neg then !inA x ys else inA x ys)) h else .no
 | none=>.no
theorem qdq {w:Wd} {x:AV} {v:V} (t:Tr C w x v) (h:q45 x=true):q5i v=true:=by
 cases x with
 | non=>rw [Tr] at t;subst t;rfl
 | bl b=>rw [Tr] at t;subst t;rfl
 | int i=>rw [Tr] at t;subst t;rfl
 | str x=>rw [Tr] at t;subst t;rfl
 | _=>cases h
theorem eqF_ok {w:Wd} {x y:AV} {u v:V} (tx:Tr C w x u) (ty:Tr C w y v) (hx:q45 x=true) (hy:q45 y=true):eqV u v=eqF x y:=by
 cases x <;> simp only [q45,Bool.false_eq_true] at hx <;> cases y <;> simp only [q45,Bool.false_eq_true] at hy
 all_goals (rw [Tr] at tx;rw [Tr] at ty;subst tx;subst ty;rfl)
theorem qk3 {w:Wd} {x:AV} {u:V} (tx:Tr C w x u) (hx:q45 x=true):∀ {ys:List AV} {vs:List V},Trs C w ys vs->ys.all q45=true->inV u vs=inA x ys/\vs.all q5i=true
 | [],vs,t,_=>by rw [Trs] at t;subst t;exact ⟨rfl,rfl⟩
 | y::ys,vs,t,h=>by
  rw [Trs] at t
  obtain ⟨v,us,rfl,t1,t2⟩:=t
  rw [List.all_cons,Bool.and_eq_true] at h
  obtain ⟨h1,h2⟩:=qk3 tx hx t2 h.2
  refine ⟨?_,by rw [List.all_cons,qdq t1 h.1,h2];rfl⟩
  have h1':us.any (fun y=>eqV y u)=ys.any (fun y=>eqF y x):=h1
  show (v::us).any (fun y=>eqV y u)=(y::ys).any (fun y=>eqF y x)
  rw [List.any_cons,List.any_cons,eqF_ok t1 tx h.1 hx,h1']
theorem qd5 {neg:Bool}:S2 C E (rIn C.K neg) (fIn neg):=by
 intro w x y u v Q ok tx ty s
 unfold fIn at s
 split at s
 ·rename_i ys e
  obtain ⟨a,vs,rfl,r,t⟩:=q6d ok e ty
  split at s
  ·rename_i hf
   rw [Bool.and_eq_true] at hf
   obtain ⟨h1,h2⟩:=qk3 tx hf.1 t hf.2
   exact ⟨a,vs,rfl,r,qdq tx hf.1,h2,by rw [h1];exact s.here ok _ (by rw [Tr])⟩
  ·exact s.elim
 ·exact s.elim
def cutA (xs:List AV) (lo hi:Option Int):List AV:=(xs.drop (HT.sIx xs.length 0 lo)).take (HT.sIx xs.length xs.length hi - HT.sIx xs.length 0 lo)
abbrev AO:=AEnv->AH->Re (Option Int)
@[simp] def q8p:AO:=fun _ h=>.ok none h
@[simp] def q6s (a:AE):AO:=fun env h=>(a env h).bind fun x h=>match x with | .int i=>.ok (some i) h | _=>.no
@[simp] def aSl (f:AV->Option Int->Option Int->AH->Re AV) (a:AE) (lo hi:AO):AE:=fun env h=>(a env h).bind fun x h=>(lo env h).bind fun l h=>(hi env h).bind fun u h=>f x l u h
def SO (C:Ct) (E:XK) (t:TO) (m:AO):Prop:=∀ (w:Wd) (env:AEnv) (σ:St) (Q:Option Int->Hp->Prop),Ok C w->q1d C w env σ->Sat C E w (m env w.h) (fun o w' => Q o w'.H)->t σ w.H Q
def S3 (C:Ct) (E:XK) (r:V->Option Int->Option Int->Hp->VK->Prop) (f:AV->Option Int->Option Int->AH->Re AV):Prop:=∀ (w:Wd) (x:AV) (u:V) (lo hi:Option Int) (Q:VK),Ok C w->Tr C w x u->Sat C E w (f x lo hi w.h) (want C Q)->r u lo hi w.H Q
theorem q74:SO C E qg6 q8p:=fun w env σ Q ok en s=>s.here ok
theorem q5f {t:TE} {a:AE} (h:SE C E t a):SO C E (tPart t) (q6s a):=fun w env σ Q ok en s =>
 h w env σ _ ok en (s.bind.mono fun x w1 ok1 le1 s1 v tv=>by
  cases x with
  | int i=>rw [Tr] at tv;exact ⟨i,tv,s1.here ok1⟩
  | _=>exact s1.elim)
theorem q8i {r:V->Option Int->Option Int->Hp->VK->Prop} {f:AV->Option Int->Option Int->AH->Re AV} {te:TE} {a:AE} {tl th:TO} {lo hi:AO} (hr:S3 C E r f) (ha:SE C E te a) (hl:SO C E tl lo) (hh:SO C E th hi):SE C E (tSl r te tl th) (aSl f a lo hi):=fun w env σ Q ok en s =>
 ha w env σ _ ok en (s.bind.mono fun x w1 ok1 le1 s1 v tv=>hl w1 env σ _ ok1 (en.mono ok le1) (s1.bind.mono fun l w2 ok2 le2 s2=>hh w2 env σ _ ok2 (en.mono ok (le1.trans le2)) (s2.bind.mono fun u w3 ok3 le3 s3=>hr w3 x v l u Q ok3 (tv.mono ok1 (le2.trans le3)) s3)))
theorem Trs.cut {w:Wd} {xs:List AV} {vs:List V} (t:Trs C w xs vs) (lo hi:Option Int):Trs C w (cutA xs lo hi) (cutV vs lo hi):=by
 unfold cutA cutV
 rw [t.len]
 exact (t.drop _).take _
@[simp] def frz1 (x:AV) (h:AH):AV×AH:=match x with
 | .ref k=>match h[k]? with
  | some (.lst xs)=>(.lst xs,h.set k .dead)
  | some (.dk ks xs)=>(.dk ks xs,h.set k .dead)
  | _=>(x,h)
 | _=>(x,h)
@[simp] def aFrz (a:AE):AE:=fun env h=>(a env h).bind fun x h=>.ok (frz1 x h).1 (frz1 x h).2
theorem qnf {w:Wd} {x:AV} {v:V} (ok:Ok C w) (t:Tr C w x v):∃ w',w'.h=(frz1 x w.h).2/\w'.H=w.H/\Ok C w'/\Le w w'/\Tr C w' (frz1 x w.h).1 v:=by
 unfold frz1
 split
 ·rename_i k
  split
  ·rename_i xs e
   obtain ⟨a,rfl,ea,hl,t'⟩:=ok.qks e t
   exact ⟨w.kill k a,rfl,rfl,ok.kill ea hl,ok.q7d ea hl,t'⟩
  ·rename_i ks xs e
   obtain ⟨a,rfl,ea,hl,t'⟩:=ok.qn3 e t
   exact ⟨w.kill k a,rfl,rfl,ok.kill ea hl,ok.q7d ea hl,t'⟩
  ·exact ⟨w,rfl,rfl,ok,Le.refl w,t⟩
 ·exact ⟨w,rfl,rfl,ok,Le.refl w,t⟩
theorem qdg {t:TE} {a:AE} (h:SE C E t a):SE C E t (aFrz a):=fun w env σ Q ok en s =>
 h w env σ _ ok en (s.bind.mono fun x w1 ok1 le1 s1 v tv=>by
  obtain ⟨w',e,eH,ok',le',t'⟩:=qnf ok1 tv
  have:=s1 w' e ok' le' v t'
  rw [eH] at this
  exact this)
end
end Z
namespace Z
open PySem L2
@[simp] def keyOf:AV->Option Key
 | .int i=>some (.inl i)
 | .str x=>some (.inr x)
 | _=>none
@[simp] def dkOf (h:AH):AV->Option (List Key×List AV)
 | .dk ks xs=>some (ks,xs)
 | .ref k=>match h[k]? with | some (.dk ks xs)=>some (ks,xs) | _=>none
 | _=>none
def dval:List Key->List AV->Key->Option AV
 | k::ks,x::xs,j=>if k=j then some x else dval ks xs j
 | _,_,_=>none
def q4g (j:Key) (y:AV):List Key->List AV->List AV
 | k::ks,x::xs=>(if k=j then y else x)::q4g j y ks xs
 | _,_=>[]
def dput (ks:List Key) (xs:List AV) (j:Key) (y:AV):List Key×List AV:=
 if (ks.any fun k=>decide (k=j))=true then (ks,q4g j y ks xs) else (ks++[j],xs++[y])
def q3i (j:Key):List Key->List AV->List AV
 | k::ks,x::xs=>if k=j then q3i j ks xs else x::q3i j ks xs
 | _,_=>[]
@[simp] def q08:AV->AV->AH->Re AV:=fun d y h=>match dkOf h d,keyOf y with
 | some (ks,xs),some j=>match dval ks xs j with | some x=>.ok x h | none=>.no
 | _,_=>.no
@[simp] def fDIn:AV->AV->AH->Re AV:=fun y d h=>match dkOf h d,keyOf y with
 | some (ks,xs),some j=>.ok (.bl (dval ks xs j).isSome) h
 | _,_=>.no
@[simp] def q67:AV->AV->AH->Re AV:=fun y d h=>match dkOf h d,keyOf y with
 | some (ks,xs),some j=>.ok (.bl (!(dval ks xs j).isSome)) h
 | _,_=>.no
@[simp] def putD (d y x:AV) (h:AH):Option AH:=match d,keyOf y with
 | .ref k,some j=>match h[k]? with
  | some (.dk ks xs)=>if ks.length<sizeLine then some (h.set k (.dk (dput ks xs j x).1 (dput ks xs j x).2)) else none
  | _=>none
 | _,_=>none
@[simp] def q1h (d y v:AE):AS:=fun env h=>(v env h).to fun x h=>(d env h).to fun a h=>(y env h).to fun b h=>match putD a b x h with | some h=>.nx env h | none=>.no
@[simp] def q75:AE:=fun _ h=>.ok (.ref h.length) (h++[.dk [] []])
section
variable {C:Ct} {E:XK}
theorem q4m {w:Wd} {y:AV} {v:V} {j:Key} (e:keyOf y=some j) (t:Tr C w y v):v=kV j:=by
 cases y with
 | int i=>cases e;rw [Tr] at t;exact t
 | str x=>cases e;rw [Tr] at t;exact t
 | _=>cases e
theorem q64 {w:Wd} {x:AV} {v:V} {ks:List Key} {xs:List AV} (ok:Ok C w) (e:dkOf w.h x=some (ks,xs)) (t:Tr C w x v):∃ a kvs,v=.ref a/\Rd w.H a (.dK kvs)/\kvs.map (·.1)=ks/\Trs C w xs (kvs.map (·.2)):=by
 cases x with
 | dk ls ys =>
  cases e
  rw [Tr] at t
  obtain ⟨a,kvs,e,f,r,hk,ht⟩:=t
  exact ⟨a,kvs,e,r,hk,ht⟩
 | ref k =>
  rw [Tr] at t
  obtain ⟨a,rfl,ea⟩:=t
  have e:(match w.h[k]? with | some (.dk ks xs)=>some (ks,xs) | _=>none)=some (ks,xs):=e
  split at e
  ·rename_i ls ys eh
   cases e
   obtain ⟨kvs,hH,hk,ht⟩:=ok.cell k _ a eh ea
   exact ⟨a,kvs,rfl, .inl hH,hk,ht⟩
  ·cases e
 | _=>cases e
theorem q6y {w:Wd} {j:Key}:∀ {kvs:List (Key×V)} {xs:List AV},Trs C w xs (kvs.map (·.2))->match dval (kvs.map (·.1)) xs j with | some x=>∃ v,valV kvs j=some v/\Tr C w x v | none=>valV kvs j=none
 | [],xs,t=>by
  cases xs with
  | nil=>rfl
  | cons x xs=>have:=t.len;simp at this
 | p::r,xs,t=>by
  cases xs with
  | nil=>have:=t.len;simp at this
  | cons x xs =>
   rw [List.map_cons,Trs] at t
   obtain ⟨v,us,e,t1,t2⟩:=t
   cases e
   rw [List.map_cons,dval]
   by_cases h:p.1=j
   ·rw [if_pos h]
    exact ⟨p.2,q7q h,t1⟩
   ·rw [if_neg h,q7t h]
    exact q6y t2
theorem q99 {kvs:List (Key×V)} {xs:List AV} {j:Key} {y:AV} {v:V}:(putK kvs j v).map (·.1)=(dput (kvs.map (·.1)) xs j y).1:=by
 unfold putK dput
 have e:(kvs.any fun kv=>decide (kv.1=j))=((kvs.map (·.1)).any fun k=>decide (k=j)):=by rw [List.any_map];rfl
 rw [e]
 split
 ·rw [List.map_map]
  apply List.map_congr_left
  intro p _
  show (if p.1=j then (p.1,v) else p).1=p.1
  split <;> rfl
 ·rw [List.map_append];rfl
theorem q95 {w:Wd} {j:Key} {y:AV} {v:V} (ty:Tr C w y v) {kvs:List (Key×V)} {xs:List AV} (t:Trs C w xs (kvs.map (·.2))):Trs C w (dput (kvs.map (·.1)) xs j y).2 ((putK kvs j v).map (·.2)):=by
 unfold putK dput
 have e:(kvs.any fun kv=>decide (kv.1=j))=((kvs.map (·.1)).any fun k=>decide (k=j)):=by rw [List.any_map];rfl
 rw [e]
 split
 ·rename_i hh
  clear e hh
  induction kvs generalizing xs with
  | nil=>exact .nil
  | cons p r ih =>
   cases xs with
   | nil=>have:=t.len;simp at this
   | cons x xs =>
    rw [List.map_cons,Trs] at t
    obtain ⟨u,us,e,t1,t2⟩:=t
    cases e
    rw [List.map_cons,List.map_cons,List.map_cons]
    refine .cons ?_ (ih t2)
    show Tr C w (if p.1=j then y else x) (if p.1=j then (p.1,v) else p).2
    by_cases h:p.1=j
    ·rw [if_pos h,if_pos h];exact ty
    ·rw [if_neg h,if_neg h];exact t1
 ·rw [List.map_append]
  exact t.app (.one ty)
theorem q0j {td ty:TE} {d y:AE} (hd:SE C E td d) (hy:SE C E ty y):SE C E (tDGet td ty) (a2 q08 d y):=fun w env σ Q ok en s =>
 hd w env σ _ ok en (s.bind.mono fun x w1 ok1 le1 s1 v tv=>hy w1 env σ _ ok1 (en.mono ok le1) (s1.bind.mono fun z w2 ok2 le2 s2 u tu=>by
  unfold q08 at s2
  split at s2
  ·rename_i ks xs j e1 e2
   obtain ⟨a,kvs,rfl,r,rfl,t⟩:=q64 ok2 e1 (tv.mono ok1 le2)
   have hj:=q4m e2 tu
   subst hj
   have hv:=q6y (j:=j) t
   split at s2
   ·rename_i q eq
    rw [eq] at hv
    obtain ⟨p,hp,tp⟩:=hv
    exact ⟨a,p,rfl, .inl ⟨kvs,j,r,rfl,hp.symm⟩,s2.here ok2 _ tp⟩
   ·exact s2.elim
  ·exact s2.elim))
theorem qk9 {w:Wd} {j:Key} {kvs:List (Key×V)} {xs:List AV} (t:Trs C w xs (kvs.map (·.2))):(valV kvs j).isSome=(dval (kvs.map (·.1)) xs j).isSome:=by
 have hv:=q6y (j:=j) t
 split at hv
 ·rename_i q eq
  obtain ⟨p,hp,tp⟩:=hv
  rw [hp,eq];rfl
 ·rename_i eq
  rw [hv,eq];rfl
theorem qdz {td ty:TE} {d y:AE} (hy:SE C E ty y) (hd:SE C E td d):SE C E (tDIn ty td) (a2 fDIn y d):=fun w env σ Q ok en s =>
 hy w env σ _ ok en (s.bind.mono fun x w1 ok1 le1 s1 v tv=>hd w1 env σ _ ok1 (en.mono ok le1) (s1.bind.mono fun z w2 ok2 le2 s2 u tu=>by
  unfold fDIn at s2
  split at s2
  ·rename_i ks xs j e1 e2
   obtain ⟨a,kvs,rfl,r,rfl,t⟩:=q64 ok2 e1 tu
   have hj:=q4m e2 (tv.mono ok1 le2)
   subst hj
   exact ⟨a,_,rfl, .inl ⟨kvs,j,r,rfl,rfl⟩,by rw [qk9 t];exact s2.here ok2 _ (by rw [Tr])⟩
  ·exact s2.elim))
theorem qin {td ty:TE} {d y:AE} (hy:SE C E ty y) (hd:SE C E td d):SE C E (qga ty td) (a2 q67 y d):=fun w env σ Q ok en s =>
 hy w env σ _ ok en (s.bind.mono fun x w1 ok1 le1 s1 v tv=>hd w1 env σ _ ok1 (en.mono ok le1) (s1.bind.mono fun z w2 ok2 le2 s2 u tu=>by
  unfold q67 at s2
  split at s2
  ·rename_i ks xs j e1 e2
   obtain ⟨a,kvs,rfl,r,rfl,t⟩:=q64 ok2 e1 tu
   have hj:=q4m e2 (tv.mono ok1 le2)
   subst hj
   exact ⟨a,_,rfl, .inl ⟨kvs,j,r,rfl,rfl⟩,by rw [qk9 t];exact s2.here ok2 _ (by rw [Tr])⟩
  ·exact s2.elim))
theorem Ok.qgz {w:Wd} (ok:Ok C w) {k:Nat} {a:Addr} {ks ks':List Key} {xs xs':List AV} {kvs':List (Key×V)} (e:w.h[k]?=some (.dk ks xs)) (ea:w.ρ[k]?=some a) (hk:kvs'.map (·.1)=ks') (t:Trs C w xs' (kvs'.map (·.2))) :
  Ok C (w.put k (.dk ks' xs') a (.dK kvs'))/\Le w (w.put k (.dk ks' xs') a (.dK kvs')):=by
 have hl:Live w a:=⟨k,_,e,(by intro z;cases z),ea⟩
 have le:=ok.qen ea hl (.dk ks' xs') (.dK kvs')
 exact ⟨ok.put ea hl ⟨kvs',q24,hk,t.mono ok le⟩,le⟩
theorem qn2 {w:Wd} {d y x:AV} {u v q:V} {h':AH} (ok:Ok C w) (e:putD d y x w.h=some h') (td:Tr C w d u) (ty:Tr C w y v) (tx:Tr C w x q) :
  ∃ a H',u=.ref a/\DPut w.H a v q H'/\∃ w',w'.h=h'/\w'.H=H'/\Ok C w'/\Le w w':=by
 unfold putD at e
 split at e
 ·rename_i k j ek
  have hj:=q4m ek ty
  subst hj
  rw [Tr] at td
  obtain ⟨a,rfl,ea⟩:=td
  split at e
  ·rename_i ks xs eh
   split at e
   ·rename_i hl
    cases e
    obtain ⟨kvs,hH,rfl,ht⟩:=ok.cell k _ a eh ea
    rw [List.length_map] at hl
    obtain ⟨o1,l1⟩:=ok.qgz eh ea (q99 (kvs:=kvs) (xs:=xs) (j:=j) (y:=x) (v:=q)) (q95 tx ht)
    exact ⟨a,_,rfl, .inl ⟨kvs,j,hH,rfl,hl,rfl⟩,_,rfl,rfl,o1,l1⟩
   ·cases e
  ·cases e
 ·cases e
theorem q4q {td ty tv:TE} {d y v:AE} (hd:SE C E td d) (hy:SE C E ty y) (hv:SE C E tv v):SS C E (sDPut td ty tv) (q1h d y v):=fun w env σ D ok en s =>
 hv w env σ _ ok en (Sat.mono (Sat.to s) fun x w1 ok1 le1 s1 q tq=>hd w1 env σ _ ok1 (en.mono ok le1) (Sat.mono (Sat.to s1) fun a w2 ok2 le2 s2 u tu=>hy w2 env σ _ ok2 (en.mono ok (le1.trans le2)) (Sat.mono (Sat.to s2) fun b w3 ok3 le3 s3 p tp=>by
  split at s3
  ·rename_i h' e
   obtain ⟨a',H',e1,hp,w',e3,e4,o',l'⟩:=qn2 ok3 e (tu.mono ok2 le3) tp (tq.mono ok1 (le2.trans le3))
   refine ⟨a',H',e1,hp,?_⟩
   have:=s3 w' σ e3 o' l' (en.mono ok (le1.trans (le2.trans (le3.trans l'))))
   rw [e4] at this
   exact this
  ·exact s3.elim)))
theorem q9o:SE C E qjw q75:=fun w env σ Q ok en s p hp=>s (w.cell p (.dK []) (.dk [] [])) rfl (ok.qgm hp ⟨[],q24,rfl, .nil⟩) (ok.q8w hp _ _) _ ok.qdj
abbrev AM:=AEnv->AH->Re Unit
@[simp] def mInt (a:AE) (r:AM):AM:=fun env h=>(a env h).bind fun x h=>match x with | .int i=>if i.natAbs.log2<1920 then r env h else .no | _=>.no
@[simp] def mStr (a:AE) (r:AM):AM:=fun env h=>(a env h).bind fun x h=>match x with | .str y=>if y.length<=1000 then r env h else .no | _=>.no
theorem q1e (x y:Str):(x++y:Str).length=x.length+y.length:=by
 show (x.cps++y.cps).size=x.cps.size+y.cps.size
 exact Array.size_append
abbrev AJ:=Str->AEnv->AH->Re AV
def SJ (C:Ct) (E:XK) (u:TJ) (m:AJ):Prop:=∀ (w:Wd) (env:AEnv) (σ:St) (acc:Str) (Q:VK),Ok C w->q1d C w env σ->Sat C E w (m acc env w.h) (want C Q)->u acc σ w.H Q
@[simp] def qd6:AJ:=fun acc _ h=>if acc.length<=sizeLine then .ok (.str acc) h else .no
@[simp] def q6g (a:AE) (r:AJ):AJ:=fun acc env h=>(a env h).bind fun x h=>match x with | .str y=>if (acc++y:Str).length<=sizeLine then r (acc++y) env h else .no | _=>.no
@[simp] def qd4 (j:AJ):AE:=j Str.empty
@[simp] def qhr:AV->AH->Re AV
 | .int i,h=>if i.natAbs.log2<1920 then .ok (.str (toString i)) h else .no
 | _,_=>.no
@[simp] def qhl:AV->AH->Re AV
 | .str y,h=>if y.length<=sizeLine then .ok (.str y) h else .no
 | _,_=>.no
theorem sj_nil:SJ C E jNil qd6:=by
 intro w env σ acc Q ok en s
 unfold qd6 at s
 split at s
 ·rename_i h;exact ⟨h,s.here ok _ (by rw [Tr])⟩
 ·exact s.elim
theorem qbj {t:TE} {a:AE} {u:TJ} {m:AJ} (ha:SE C E t a) (hu:SJ C E u m):SJ C E (jCons t u) (q6g a m):=fun w env σ acc Q ok en s =>
 ha w env σ _ ok en (s.bind.mono fun x w1 ok1 le1 s1 v tv=>by
  cases x with
  | str y =>
   rw [Tr] at tv;subst tv
   have s1:Sat C E w1 (if (acc++y:Str).length<=sizeLine then m (acc++y) env w1.h else .no) (want C Q):=s1
   by_cases hi:(acc++y:Str).length<=sizeLine
   ·rw [if_pos hi] at s1
    exact ⟨y,rfl,hi,hu w1 env σ _ Q ok1 (en.mono ok le1) s1⟩
   ·rw [if_neg hi] at s1;exact s1.elim
  | _=>exact s1.elim)
theorem qng {u:TJ} {m:AJ} (h:SJ C E u m):SE C E (u Str.empty) (qd4 m):=fun w env σ Q ok en s=>h w env σ Str.empty Q ok en s
theorem qnj {t:TE} {a:AE} (ha:SE C E t a):SE C E (tFmtI t) (a1 qhr a):=fun w env σ Q ok en s =>
 ha w env σ _ ok en (s.bind.mono fun x w1 ok1 le1 s1 v tv=>by
  cases x with
  | int i =>
   rw [Tr] at tv;subst tv
   have s1:Sat C E w1 (if i.natAbs.log2<1920 then .ok (.str (toString i)) w1.h else .no) (want C Q):=s1
   by_cases hi:i.natAbs.log2<1920
   ·rw [if_pos hi] at s1;exact ⟨i,rfl,hi,s1.here ok1 _ (by rw [Tr])⟩
   ·rw [if_neg hi] at s1;exact s1.elim
  | _=>exact s1.elim)
theorem qmq {t:TE} {a:AE} (ha:SE C E t a):SE C E (tFmtS t) (a1 qhl a):=fun w env σ Q ok en s =>
 ha w env σ _ ok en (s.bind.mono fun x w1 ok1 le1 s1 v tv=>by
  cases x with
  | str y =>
   rw [Tr] at tv;subst tv
   have s1:Sat C E w1 (if y.length<=sizeLine then .ok (.str y) w1.h else .no) (want C Q):=s1
   by_cases hi:y.length<=sizeLine
   ·rw [if_pos hi] at s1;exact ⟨y,rfl,hi,s1.here ok1 _ (by rw [Tr])⟩
   ·rw [if_neg hi] at s1;exact s1.elim
  | _=>exact s1.elim)
theorem fn_no {P:Program} {w:World} {K:PySem.W.Frag} {mg:Str->Option Value} {base:Heap} {CX:CXT} {k n:Nat} {f:Addr} {fd:FuncData} {ps:List Str} (hn:n=ps.length):FnOk P w K mg base CX k f fd ps (spZ C n fun _ _=>.no):=
 ⟨fun vs H Q E h=>by rw [<- hn];exact q28 h,fun A outer s H args us vs Q E _ _ _ _ h=>by obtain ⟨w,xs,_,_,_,_,s⟩:=h;exact s.elim⟩
def qa2 (K:PySem.W.Frag):Sp:=fun vs H Q _=>∃ (a:Addr) (ns:List Int),vs=[.ref a]/\SqL K H a (ns.map V.int)/\ns.length<=63/\∀ H',Q (.bl true) H'
theorem q97 {w:Wd}:∀ (ns:List Int),Trs C w (ns.map AV.int) (ns.map V.int)
 | []=>.nil
 | n::ns=>.cons (by rw [Tr]) (q97 ns)
theorem qiu (hp:C.pin=none) {m:AF} {vs:List V} {H:Hp} {Q:VK} {E:XK} (ht:∀ ns:List Int,ns.length<=63->∃ h,m [.kst (ns.map AV.int)] []=.ok (.bl true) h) (h:qa2 C.K vs H Q E):spZ C 1 m vs H Q E0:=by
 obtain ⟨a,ns,rfl,hS,hl,q⟩:=h
 obtain ⟨h',e⟩:=ht ns hl
 rcases hS with r | r
 ·refine ⟨⟨[],fun b=>b=a,[],H⟩,[.kst (ns.map AV.int)],rfl,⟨rfl, .nil,fun b hb=>absurd hb (by simp),fun k c b e=>absurd e (by simp),fun b hb=>?_,fun b hb=>?_,fun b c z=>(by rw [hp] at z;cases z)⟩, .one ?_,rfl,?_⟩
  ·obtain ⟨k,c,e1,_⟩:=hb
   simp at e1
  ·subst hb;exact Rd.ne r
  ·rw [Tr];exact ⟨a,_,rfl, .inl ⟨rfl,r⟩,q97 ns⟩
  ·rw [e];exact fun w' _ _ _ v tv=>by rw [Tr] at tv;subst tv;exact q _
 ·refine ⟨⟨[],fun _=>False,[],H⟩,[.kst (ns.map AV.int)],rfl,⟨rfl, .nil,fun b hb=>absurd hb (by simp),fun k c b e=>absurd e (by simp),fun b hb=>?_,fun b hb=>hb.elim,fun b c z=>(by rw [hp] at z;cases z)⟩, .one ?_,rfl,?_⟩
  ·obtain ⟨k,c,e1,_⟩:=hb
   simp at e1
  ·rw [Tr];exact ⟨a,_,rfl, .inr (.inr r),q97 ns⟩
  ·rw [e];exact fun w' _ _ _ v tv=>by rw [Tr] at tv;subst tv;exact q _
end
end Z
namespace Z
open PySem L2 PySem.Spec PyProof.Rows
section
variable {C:Ct} {E:XK}
@[simp] def fSlS:AV->Option Int->Option Int->AH->Re AV:=fun x lo hi h=>match x with | .str z=>if z.length<=sizeLine then .ok (.str (Txt.slice z lo hi)) h else .no | _=>.no
theorem qe3:S3 C E rSlS fSlS:=by
 intro w x u lo hi Q ok tx s
 unfold fSlS at s
 split at s
 ·rename_i z
  rw [Tr] at tx;subst tx
  by_cases hl:z.length<=sizeLine
  ·rw [if_pos hl] at s
   exact ⟨z,rfl,hl,s.here ok _ (by rw [Tr])⟩
  ·rw [if_neg hl] at s;exact s.elim
 ·exact s.elim
end
end Z
namespace Z
open PySem L2 PySem.Spec PyProof.Rows
section
variable {C:Ct} {E:XK} {ta tb tc:TE} {ma mb mc:AE}
def repA (xs:List AV) (k:Nat):List AV:=(List.replicate k xs).flatten
theorem Trs.rep {w:Wd} {xs:List AV} {vs:List V} (t:Trs C w xs vs):∀ k,Trs C w (repA xs k) (List.replicate k vs).flatten
 | 0=>.nil
 | k+1=>by
  unfold repA
  rw [List.replicate_succ,List.replicate_succ,List.flatten_cons,List.flatten_cons]
  exact t.app (Trs.rep t k)
end
end Z
namespace L2
open PySem PySem.Spec PyProof.Rows
section
variable {X:Cx}
def qj4 (K:PySem.W.Frag):R2:=fun x y H Q=>∃ a b xs,x=.ref a/\y=.ref b/\SqL K H a xs/\Rd H b (.lst [])/\Q (.bl xs.isEmpty) H
def qg4 (K:PySem.W.Frag):R2:=fun x y H Q=>∃ a b xs,x=.ref a/\y=.ref b/\SqL K H a xs/\Rd H b (.lst [])/\Q (.bl (!xs.isEmpty)) H
theorem qk7 (hu:X.A.units<cLine):OpR X (compareOp .Eq) (qj4 X.K):=by
 intro pins s σ H x y v u Q I rx ry h
 obtain ⟨a,b,xs,rfl,rfl,ha,hb,q⟩:=h
 cases rx
 cases ry
 obtain ⟨its,r,pl,_⟩:=I.list ha
 obtain ⟨its2,r2,pl2,_⟩:=I.list (.inl hb)
 cases r2
 by_cases hab:xs=[]
 ·subst hab
  cases r
  exact PySem.SeqAt.RcAt.lists (e:=fun _=>true) pl.isList pl2.isList rfl hu (fun j h1 h2=>absurd h1 (by simp)) X.prog X.w X.xe _ ⟨.bl true,H,I,rfl,q⟩
 ·have hne:its≠[]:=fun z=>hab (by subst z;cases r;rfl)
  have e:xs.isEmpty=false:=by cases xs with | nil=>exact absurd rfl hab | cons _ _=>rfl
  rw [e] at q
  exact PySem.SeqAt.RcAt.lists_lengths pl.isList pl2.isList (by cases its with | nil=>exact absurd rfl hne | cons _ _=>simp) hu X.prog X.w X.xe _ ⟨.bl false,H,I,rfl,q⟩
theorem qix (hu:X.A.units<cLine):OpR X (compareOp .NotEq) (qg4 X.K):=by
 intro pins s σ H x y v u Q I rx ry h
 obtain ⟨a,b,xs,rfl,rfl,ha,hb,q⟩:=h
 cases rx
 cases ry
 obtain ⟨its,r,pl,_⟩:=I.list ha
 obtain ⟨its2,r2,pl2,_⟩:=I.list (.inl hb)
 cases r2
 by_cases hab:xs=[]
 ·subst hab
  cases r
  exact PySem.SeqAt.RcNeAt.lists (e:=fun _=>true) pl.isList pl2.isList rfl hu (fun j h1 h2=>absurd h1 (by simp)) X.prog X.w X.xe _ ⟨.bl false,H,I,rfl,q⟩
 ·have hne:its≠[]:=fun z=>hab (by subst z;cases r;rfl)
  have e:(!xs.isEmpty)=true:=by cases xs with | nil=>exact absurd rfl hab | cons _ _=>rfl
  rw [e] at q
  exact PySem.SeqAt.RcNeAt.lists_lengths pl.isList pl2.isList (by cases its with | nil=>exact absurd rfl hne | cons _ _=>simp) hu X.prog X.w X.xe _ ⟨.bl true,H,I,rfl,q⟩
end
end L2
namespace Z
open PySem L2 PySem.Spec PyProof.Rows
section
variable {C:Ct} {E:XK} {ta tb tc:TE} {ma mb mc:AE}
@[simp] def fSlT:AV->Option Int->Option Int->AH->Re AV:=fun x lo hi h=>match tupOf x with
 | some xs=>if HT.sIx xs.length 0 lo=0/\HT.sIx xs.length xs.length hi=xs.length then .no else .ok (.tup (cutA xs lo hi)) h
 | none=>.no
theorem qdy:S3 C E (rSlT C.K) fSlT:=by
 intro w x u lo hi Q ok tx s
 unfold fSlT at s
 split at s
 ·rename_i xs e
  cases x with
  | tup ys =>
   cases e
   rw [Tr] at tx
   obtain ⟨a,vs,rfl,r,t⟩:=tx
   by_cases hh:HT.sIx xs.length 0 lo=0/\HT.sIx xs.length xs.length hi=xs.length
   ·rw [if_pos hh] at s;exact s.elim
   ·rw [if_neg hh] at s
    refine ⟨a,vs,rfl,r,by rw [<- t.len];exact hh,fun p hp=>s (w.fresh p _) rfl (ok.fresh hp _) (ok.q33 hp _) _ (ok.q86 hp (t.cut lo hi))⟩
  | _=>cases e
 ·exact s.elim
@[simp] def fNotInS:AV->AV->AH->Re AV
 | .str a, .str z,h=>match a.cps.toList with | [c]=>.ok (.bl (!decide (c∈z.cps.toList))) h | _=>.no
 | _,_,_=>.no
@[simp] def q8c:AV->AV->AH->Re AV:=fun x y h=>match q4i h x,q4h h y with
 | some xs,some []=>.ok (.bl xs.isEmpty) h
 | _,_=>.no
@[simp] def qaj:AV->AV->AH->Re AV:=fun x y h=>match q4i h x,q4h h y with
 | some xs,some []=>.ok (.bl (!xs.isEmpty)) h
 | _,_=>.no
theorem Trs.empty {w:Wd} {xs:List AV} {vs:List V} (t:Trs C w xs vs):vs.isEmpty=xs.isEmpty:=by
 have:=t.len
 cases xs <;> cases vs <;> simp_all
theorem ql3:S2 C E (qj4 C.K) q8c:=by
 intro w x y u v Q ok tx ty s
 unfold q8c at s
 split at s
 ·rename_i xs e1 e2
  obtain ⟨a,vs,rfl,r1,t1⟩:=q58 ok e1 tx
  obtain ⟨b,us,rfl,r2,t2⟩:=q3d ok e2 ty
  rw [Trs.q8j] at t2;subst t2
  exact ⟨a,b,vs,rfl,rfl,r1,r2,s.here ok _ (by rw [Tr,t1.empty])⟩
 ·exact s.elim
theorem ql9:S2 C E (qg4 C.K) qaj:=by
 intro w x y u v Q ok tx ty s
 unfold qaj at s
 split at s
 ·rename_i xs e1 e2
  obtain ⟨a,vs,rfl,r1,t1⟩:=q58 ok e1 tx
  obtain ⟨b,us,rfl,r2,t2⟩:=q3d ok e2 ty
  rw [Trs.q8j] at t2;subst t2
  exact ⟨a,b,vs,rfl,rfl,r1,r2,s.here ok _ (by rw [Tr,t1.empty])⟩
 ·exact s.elim
end
end Z
namespace L2
open PySem PySem.Spec PyProof.Rows
section
variable {X:Cx}
structure PEw (X:Cx) (e:Expr) (t:TE):Prop where
 p:PE X e t
structure PAw (X:Cx) (es:List Expr) (t:TA):Prop where
 p:PA X es t
structure PSw (X:Cx) (st:Stmt) (t:TS):Prop where
 p:PS X st t
theorem wstr {x j pos}:PEw X (.Constant (.str x) j pos) (tC (.str x)):=⟨q0e⟩
theorem wnil:PAw X [] tNil:=⟨q07⟩
theorem q3e {e:Expr} {es:List Expr} {te:TE} {t:TA} (ha:PEw X e te) (hr:PAw X es t) (hs:starEach (e::es) X.env=(false,eval e X.env)::starEach es X.env:=by rfl):PAw X (e::es) (q3q te t):=⟨q04 ha.p hr.p hs⟩
theorem wlst {es:List Expr} {t:TA} {pos} (h:PAw X es t):PEw X (.List es pos) (tLst t):=⟨q2d h.p⟩
theorem wset {i:Nat} {x:Str} {e:Expr} {te:TE} {pos pos':Pos} (hN:X.N.Nodup) (hi:X.N[i]?=some x) (hx:Loc X.env.scope x) (he:PEw X e te) (hs:swapsWith e (some (.Name x pos')) pos.line X.env=pure false:=by rfl) (hf:X.fn x=true\/X.env.scope.names.lookup x=some .local:=by first | exact .inl rfl | exact .inr rfl | assumption) :
  PSw X (.Assign [.Name x pos'] e pos) (tAsg te (q7p i)):=⟨q1c hN hi hx he.p hs hf⟩
theorem qhj {s1 s2:Stmt} {rest:List Stmt} {t1 t2 u:TS} (h1:PS X s1 t1) (h2:PSw X s2 t2) (h3:PSs X rest u):PSs X (s1::s2::rest) (tSeq t1 (tSeq t2 u)):=q0d h1 (q0d h2.p h3)
end
end L2
namespace Z
open PySem L2
def keyA:Key->AV
 | .inl i=>.int i
 | .inr x=>.str x
section
variable {C:Ct} {E:XK} {w:Wd}
theorem tr_key {k:Key} {v:V} (e:v=kV k):Tr C w (keyA k) v:=by
 subst e
 cases k <;> (unfold keyA;rw [Tr];rfl)
end
end Z
namespace Z
open PySem L2
section
variable {C:Ct} {w:Wd}
structure q4b (w:Wd) (D:Addr) (ys:List (Key×V)):Prop where
 at_:w.H D=some (.dK ys)
 nf:¬ w.Fz D
 nl:¬ Live w D
 nr:D∉w.ρ
theorem q4b.rd {D:Addr} {ys:List (Key×V)} (L:q4b w D ys) {o:HO} {a:Addr} {u:HO} (hu:∀ zs,u≠.dK zs) (r:Rd w.H a u):Rd (upd w.H D o) a u:=by
 have hne:a≠D:=fun z=>by
  subst z
  rcases r with r | ⟨z,r⟩ <;> rw [L.at_] at r <;> cases r
  exact hu _ rfl
 rcases r with r | ⟨z,r⟩
 ·exact .inl ((q0p hne).trans r)
 ·exact .inr ⟨z,(q0p hne).trans r⟩
mutual
theorem Tr.q3m {D:Addr} {ys:List (Key×V)} (L:q4b w D ys) (o:HO):∀ {x:AV} {v:V},Tr C w x v->Tr C (w.poke D o) x v
 | .non,v,h=>by rw [Tr] at h ⊢;exact h
 | .bl _,v,h=>by rw [Tr] at h ⊢;exact h
 | .int _,v,h=>by rw [Tr] at h ⊢;exact h
 | .str _,v,h=>by rw [Tr] at h ⊢;exact h
 | .tup xs,v,h=>by
  rw [Tr] at h ⊢
  obtain ⟨a,vs,e,hs,ht⟩:=h
  refine ⟨a,vs,e,?_,Trs.q3m L o ht⟩
  rcases hs with hs | hs
  ·exact .inl (L.rd (by intro zs z;cases z) hs)
  ·exact .inr hs
 | .lst xs,v,h=>by
  rw [Tr] at h ⊢
  obtain ⟨a,vs,e,f,r,ht⟩:=h
  have hne:a≠D:=fun z=>L.nf (z ▸ f)
  refine ⟨a,vs,e,f,?_,Trs.q3m L o ht⟩
  rcases r with r | ⟨z,r⟩
  ·exact .inl ((q0p hne).trans r)
  ·exact .inr ⟨z,(q0p hne).trans r⟩
 | .dk ks xs,v,h=>by
  rw [Tr] at h ⊢
  obtain ⟨a,kvs,e,f,r,hk,ht⟩:=h
  have hne:a≠D:=fun z=>L.nf (z ▸ f)
  refine ⟨a,kvs,e,f,?_,hk,Trs.q3m L o ht⟩
  rcases r with r | ⟨z,r⟩
  ·exact .inl ((q0p hne).trans r)
  ·exact .inr ⟨z,(q0p hne).trans r⟩
 | .ref k,v,h=>by rw [Tr] at h ⊢;exact h
 | .kst xs,v,h=>by
  rw [Tr] at h ⊢
  obtain ⟨a,vs,e,hs,ht⟩:=h
  refine ⟨a,vs,e,?_,Trs.q3m L o ht⟩
  rcases hs with ⟨f,r⟩ | r
  ·have hne:a≠D:=fun z=>L.nf (z ▸ f)
   refine .inl ⟨f,?_⟩
   rcases r with r | ⟨z,r⟩
   ·exact .inl ((q0p hne).trans r)
   ·exact .inr ⟨z,(q0p hne).trans r⟩
  ·exact .inr r
 | .xc c,v,h=>by rw [Tr] at h ⊢;exact h
theorem Trs.q3m {D:Addr} {ys:List (Key×V)} (L:q4b w D ys) (o:HO):∀ {xs:List AV} {vs:List V},Trs C w xs vs->Trs C (w.poke D o) xs vs
 | [],vs,h=>by rw [Trs] at h ⊢;exact h
 | x::xs,vs,h=>by
  rw [Trs] at h ⊢
  obtain ⟨v,us,e,h1,h2⟩:=h
  exact ⟨v,us,e,Tr.q3m L o h1,Trs.q3m L o h2⟩
end
theorem Flds.q3m {D:Addr} {ys:List (Key×V)} (L:q4b w D ys) (o:HO):∀ {fs:List (Nat×AV)} {us:List (Str×V)},Flds C w fs us->Flds C (w.poke D o) fs us
 | [],us,h=>h
 | p::r,us,h=>by
  obtain ⟨v,us,e,h1,h2⟩:=h
  exact ⟨v,us,e,Tr.q3m L o h1,Flds.q3m L o h2⟩
theorem Ok.q3m (ok:Ok C w) {D:Addr} {ys:List (Key×V)} (L:q4b w D ys) (o:HO):Ok C (w.poke D o):=by
 refine ⟨ok.len,ok.nd,fun a ha=>q2z (ok.th a ha),fun k c a e ea=>?_,ok.fz,fun a h=>q2z (ok.fzt a h),fun a c h=>(q0p (qhb (ok.pn a c h) L.at_ (by intro z;cases z))).trans (ok.pn a c h)⟩
 have h:=ok.cell k c a e ea
 cases c with
 | dead=>trivial
 | lst xs =>
  have hne:a≠D:=fun z=>L.nl (z ▸ ⟨k,_,e,(by intro z;cases z),ea⟩)
  obtain ⟨vs,hH,ht⟩:=h
  exact ⟨vs,(q0p hne).trans hH,ht.q3m L o⟩
 | dk ks xs =>
  have hne:a≠D:=fun z=>L.nl (z ▸ ⟨k,_,e,(by intro z;cases z),ea⟩)
  obtain ⟨kvs,hH,hk,ht⟩:=h
  exact ⟨kvs,(q0p hne).trans hH,hk,ht.q3m L o⟩
 | ins cc fs =>
  have hne:a≠D:=fun z=>L.nl (z ▸ ⟨k,_,e,(by intro z;cases z),ea⟩)
  obtain ⟨hf,dx,fvs,hH,ht⟩:=h
  exact ⟨hf,dx,fvs,(q0p hne).trans hH,ht.q3m L o⟩
theorem q4b.le {w':Wd} {D:Addr} {ys:List (Key×V)} (L:q4b w D ys) (le:Le w w'):q4b w' D ys:=by
 have hn:w.H D≠none:=by rw [L.at_];intro z;cases z
 have hf:¬ w'.Fz D:=fun z=>by
  rcases le.fn D z with q | q | q
  ·exact L.nf q
  ·exact hn q
  ·exact L.nl q
 refine ⟨?_,hf,fun z=>?_,fun z=>(le.rn D z).elim L.nr hn⟩
 ·rcases le.ks D L.nl _ L.at_ with q | ⟨f,ob,kvs,e,q⟩
  ·exact q
  ·exact absurd f hf
 ·rcases le.nw D z with q | q
  ·exact hn q
  ·exact L.nl q
theorem Ok.ownD {w:Wd} (ok:Ok C w) {D:Addr} {kvs:List (Key×V)} {ks:List Key} {xs:List AV} (L:q4b w D kvs) (hk0:kvs.map (·.1)=ks) (t:Trs C w xs (kvs.map (·.2))):Ok C (w.own D (.dk ks xs)):=by
 have hl:=ok.len
 refine ⟨by simp [Wd.own,hl],?_,fun a ha=>?_,fun k c' a e ea=>?_,fun a hlv hz=>?_,ok.fzt,ok.pn⟩
 ·show (w.ρ++[D]).Nodup
  rw [List.nodup_append]
  exact ⟨ok.nd,by simp,fun a ha b hb=>by simp at hb;subst hb;intro z;subst z;exact L.nr ha⟩
 ·rcases List.mem_append.mp (show a∈w.ρ++[D] from ha) with z | z
  ·exact ok.th a z
  ·show w.H a≠none
   rw [List.mem_singleton.mp z,L.at_];intro z;cases z
 ·by_cases hk:k<w.h.length
  ·have e':w.h[k]?=some c':=by rw [<- List.getElem?_append_left (l₂:=[Cell.dk ks xs]) hk];exact e
   have ea':w.ρ[k]?=some a:=by rw [<- List.getElem?_append_left (l₂:=[D]) (by omega)];exact ea
   have h:=ok.cell k c' a e' ea'
   cases c' with
   | dead=>trivial
   | lst xs=>obtain ⟨vs,hH,ht⟩:=h;exact ⟨vs,hH,ht.own⟩
   | dk ks xs=>obtain ⟨kvs,hH,hk,ht⟩:=h;exact ⟨kvs,hH,hk,ht.own⟩
   | ins cc fs=>obtain ⟨hf,dx,fvs,hH,ht⟩:=h;exact ⟨hf,dx,fvs,hH,ht.own⟩
  ·have hlt:=(List.getElem?_eq_some_iff.mp ea).1
   have:(w.own D (.dk ks xs)).ρ.length=w.ρ.length+1:=by simp [Wd.own]
   have hk':k=w.ρ.length:=by omega
   have e3':(w.ρ++[D])[k]?=some a:=ea
   rw [hk',List.getElem?_append_right (Nat.le_refl _),Nat.sub_self] at e3'
   have e4:(w.h++[Cell.dk ks xs])[k]?=some c':=e
   rw [hk',hl,List.getElem?_append_right (Nat.le_refl _),Nat.sub_self] at e4
   have a1:D=a:=by simpa using e3'
   have a2:Cell.dk ks xs=c':=by simpa using e4
   subst a1 a2
   exact ⟨kvs,L.at_,hk0,t.own⟩
 ·rcases q9f ok hlv with rfl | h
  ·exact L.nf hz
  ·exact ok.fz a h hz
end
abbrev AP:=AEnv->AH->Re (List (AV×AV))
inductive PTr (C:Ct) (w:Wd):List (AV×AV)->List (V×V)->Prop where
 | nil:PTr C w [] []
 | cons {x y:AV} {u v:V} {ps:List (AV×AV)} {qs:List (V×V)} (hx:Tr C w x u) (hy:Tr C w y v) (h:PTr C w ps qs):PTr C w ((x,y)::ps) ((u,v)::qs)
def SPs (C:Ct) (E:XK) (t:List (TE×TE)) (m:AP):Prop:=∀ (w:Wd) (env:AEnv) (σ:St) (Q:List (V×V)->Hp->Prop),Ok C w->q1d C w env σ->Sat C E w (m env w.h) (fun ps w' => ∀ qs,PTr C w' ps qs->Q qs w'.H)->qam t σ w.H Q
@[simp] def q6k:AP:=fun _ h=>.ok [] h
@[simp] def q3k (a b:AE) (r:AP):AP:=fun env h=>(a env h).bind fun x h=>(b env h).bind fun y h=>(r env h).bind fun ps h=>.ok ((x,y)::ps) h
section
variable {C:Ct} {E:XK}
theorem qdr:SPs C E [] q6k:=fun w env σ Q ok en s=>s.here ok _ .nil
theorem q4e {tk tv:TE} {r:List (TE×TE)} {a b:AE} {m:AP} (ha:SE C E tk a) (hb:SE C E tv b) (hr:SPs C E r m):SPs C E ((tk,tv)::r) (q3k a b m):=fun w env σ Q ok en s =>
 ha w env σ _ ok en (s.bind.mono fun x w1 ok1 le1 s1 u tu=>hb w1 env σ _ ok1 (en.mono ok le1) (s1.bind.mono fun y w2 ok2 le2 s2 v tv=>hr w2 env σ _ ok2 (en.mono ok (le1.trans le2)) (s2.bind.mono fun ps w3 ok3 le3 s3 qs tq =>
  s3.here ok3 _ (.cons (tu.mono ok1 (le2.trans le3)) (tv.mono ok2 le3) tq))))
def dsp:List (AV×AV)->List Key->List AV->Option (List Key×List AV)
 | [],ks,xs=>some (ks,xs)
 | (x,y)::r,ks,xs=>match keyOf x with | some j=>dsp r (dput ks xs j y).1 (dput ks xs j y).2 | none=>none
theorem qjp {w:Wd}:∀ {ps:List (AV×AV)} {qs:List (V×V)} {kvs0:List (Key×V)} {xs:List AV} {r:List Key×List AV},PTr C w ps qs->Trs C w xs (kvs0.map (·.2))->dsp ps (kvs0.map (·.1)) xs=some r ->
  ∃ kvs:List (Key×V),qs=kvs.map (fun kv=>(kV kv.1,kv.2))/\kvs.length=ps.length/\r.1=(q41 kvs0 kvs).map (·.1)/\Trs C w r.2 ((q41 kvs0 kvs).map (·.2))
 | [],qs,kvs0,xs,r,h,t,e=>by
  cases h
  cases e
  exact ⟨[],rfl,rfl,rfl,t⟩
 | (x,y)::ps,qs,kvs0,xs,r,h,t,e=>by
  cases h with
  | @cons _ _ u v _ qs hx hy h =>
   unfold dsp at e
   split at e
   ·rename_i j ej
    have eu:=q4m ej hx
    subst eu
    have e':dsp ps ((putK kvs0 j v).map (·.1)) (dput (kvs0.map (·.1)) xs j y).2=some r:=by
     rw [q99 (xs:=xs) (y:=y)];exact e
    obtain ⟨kvs,q1,q2,q3,q4⟩:=qjp h (q95 hy t) e'
    exact ⟨(j,v)::kvs,by rw [q1];rfl,by rw [List.length_cons,List.length_cons,q2],q3,q4⟩
   ·cases e
@[simp] def q5u (m:AP):AE:=fun env h=>(m env h).bind fun ps h=>if ps.length<=15 then (match dsp ps [] [] with | some (ks,xs)=>.ok (.ref h.length) (h++[.dk ks xs]) | none=>.no) else .no
theorem Sat.b1 {α β:Type} {w1:Wd} {X:Re α} {g:α->AH->Re β} {P:β->Wd->Prop} (s:Sat C E w1 (X.bind g) P):Sat C E w1 X (fun x w' => Sat C E w1 (g x w'.h) P):=by
 cases X with
 | ok x h=>exact fun w' e ok le=>by subst e;exact s
 | ex c h=>exact s
 | no=>exact s
theorem qm1 {t:List (TE×TE)} {m:AP} (hm:SPs C E t m) {w:Wd} {env:AEnv} {σ:St} {Q:VK} (ok:Ok C w) (en:q1d C w env σ) {f:List Key->List AV->AH->Re AV} {P:AV->Wd->Prop}
  (s:Sat C E w ((m env w.h).bind fun ps h=>if ps.length<=15 then (match dsp ps [] [] with | some (ks,xs)=>f ks xs h | none=>.no) else .no) P)
  (k:∀ (w0 w':Wd) ks xs D kvs,Ok C w0->Le w w0->w0.H D=none->Ok C w'->Le w0 w'->q4b w' D kvs->kvs.map (·.1)=ks->Trs C w' xs (kvs.map (·.2))->Sat C E w0 (f ks xs w'.h) P->Q (.ref D) w'.H):qi5 t σ w.H Q:=by
 intro D hD
 have ok1:=ok.fresh hD (.dK [])
 have le1:=ok.q33 hD (.dK [])
 have L1:q4b (w.fresh D (.dK [])) D []:=⟨q24,fun z=>ok.fzt D z hD,fun z=>ok.th D (ok.qha z) hD,fun z=>ok.th D z hD⟩
 refine hm (w.fresh D (.dK [])) env σ _ ok1 (en.mono ok le1) (Sat.le le1 (Sat.b1 s) |>.mono fun ps w2 ok2 le2 s2 qs tq=>?_)
 have L2:=L1.le le2
 refine ⟨L2.at_,?_⟩
 by_cases h15:ps.length<=15
 ·rw [if_pos h15] at s2
  split at s2
  ·rename_i ks xs e
   obtain ⟨kvs,q1,q2,q3,q4⟩:=qjp (kvs0:=[]) tq (show Trs C w2 [] (([]:List (Key×V)).map (·.2)) from .nil) e
   refine ⟨kvs,q1,by omega,?_⟩
   have okp:=ok2.q3m L2 (.dK (q41 [] kvs))
   have lep:Le w (w2.poke D (.dK (q41 [] kvs))):=(le1.trans le2).poke hD
   have Lp:q4b (w2.poke D (.dK (q41 [] kvs))) D (q41 [] kvs):=⟨q24,L2.nf,L2.nl,L2.nr⟩
   exact k w (w2.poke D (.dK (q41 [] kvs))) ks xs D _ ok (Le.refl w) hD okp lep Lp q3.symm (q4.q3m L2 _) s2
  ·exact s2.elim
 ·rw [if_neg h15] at s2;exact s2.elim
theorem q9d {t:List (TE×TE)} {m:AP} (hm:SPs C E t m):SE C E (qi5 t) (q5u m):=fun w env σ Q ok en s =>
 qm1 (f:=fun ks xs h=>.ok (.ref h.length) (h++[Cell.dk ks xs])) (P:=want C Q) hm ok en s fun w0 w' ks xs D kvs ok0 le0 h0 ok' le' L hk t s' => s' (w'.own D (.dk ks xs)) rfl (ok'.ownD L hk t) (le'.own ok' h0) _ (by
  rw [Tr]
  refine ⟨D,rfl,?_⟩
  show (w'.ρ++[D])[w'.h.length]?=some D
  rw [<- ok'.len,List.getElem?_append_right (Nat.le_refl _),Nat.sub_self];rfl)
end
end Z
namespace Z
open PySem L2
section
variable {C:Ct} {E:XK}
@[simp] def sPar (i j:Nat) (ma:AA):AS:=fun env h=>(ma env h).to fun vs h=>match vs with | [v,w]=>.nx ((env.set i (some v)).set j (some w)) h | _=>.no
theorem qk5 {kvs:List (Key×V)} {j:Key}:(q50 kvs j).map (·.1)=(kvs.map (·.1)).filter fun k=>decide (k≠j):=by
 unfold q50;rw [List.filter_map];rfl
theorem qbv {w:Wd} {j:Key}:∀ {kvs:List (Key×V)} {xs:List AV},Trs C w xs (kvs.map (·.2))->Trs C w (q3i j (kvs.map (·.1)) xs) ((q50 kvs j).map (·.2))
 | [],xs,t=>by
  cases xs with
  | nil=>exact t
  | cons x xs=>have:=t.len;simp at this
 | p::r,xs,t=>by
  cases xs with
  | nil=>have:=t.len;simp at this
  | cons x xs =>
   rw [List.map_cons,Trs] at t
   obtain ⟨v,us,e,t1,t2⟩:=t
   cases e
   have ih:=qbv (j:=j) t2
   unfold q50 at ih ⊢
   rw [List.map_cons,q3i,List.filter_cons]
   by_cases h:p.1=j
   ·rw [if_pos h,if_neg (by simpa using h)];exact ih
   ·rw [if_neg h,if_pos (by simpa using h),List.map_cons]
    rw [Trs]
    exact ⟨_,_,rfl,t1,ih⟩
@[simp] def popD (a b:AV) (h:AH):Option (Option AV×AH):=match a with
 | .ref k=>match keyOf b with
  | some j=>match h[k]? with
   | some (.dk ks xs)=>match dval ks xs j with
    | some x=>some (some x,h.set k (.dk (ks.filter fun i=>decide (i≠j)) (q3i j ks xs)))
    | none=>some (none,h)
   | _=>none
  | none=>none
 | _=>none
@[simp] def q78 (d y:AE):AE:=fun env h=>(d env h).bind fun a h=>match dkOf h a with
 | some _=>(y env h).bind fun b h=>match popD a b h with | some (some x,h)=>.ok x h | _=>.no
 | none=>.no
@[simp] def qag (d y z:AE):AE:=fun env h=>(d env h).bind fun a h=>match dkOf h a with
 | some _=>(y env h).bind fun b h=>(z env h).bind fun c h=>match popD a b h with | some (some x,h)=>.ok x h | some (none,h)=>.ok c h | none=>.no
 | none=>.no
theorem qb7 {w:Wd} {a b:AV} {u v:V} {r:Option AV} {h':AH} (ok:Ok C w) (e:popD a b w.h=some (r,h')) (ta:Tr C w a u) (tb:Tr C w b v) :
  ∃ ad kvs k,u=.ref ad/\w.H ad=some (.dK kvs)/\v=kV k/\match r with
   | some x=>∃ q w',valV kvs k=some q/\w'.h=h'/\w'.H=upd w.H ad (.dK (q50 kvs k))/\Ok C w'/\Le w w'/\Tr C w' x q
   | none=>valV kvs k=none/\h'=w.h:=by
 cases a with
 | ref k =>
  cases ek:keyOf b with
  | none=>simp only [popD,ek] at e;cases e
  | some j =>
   have hj:=q4m ek tb
   subst hj
   rw [Tr] at ta
   obtain ⟨ad,rfl,ea⟩:=ta
   cases eh:w.h[k]? with
   | none=>simp only [popD,ek,eh] at e;cases e
   | some cc =>
    cases cc with
    | dk ks xs =>
     obtain ⟨kvs,hH,rfl,ht⟩:=ok.cell k _ ad eh ea
     have hv:=q6y (j:=j) ht
     refine ⟨ad,kvs,j,rfl,hH,rfl,?_⟩
     cases ex:dval (kvs.map (·.1)) xs j with
     | some x =>
      rw [ex] at hv
      simp only [popD,ek,eh,ex] at e
      cases e
      obtain ⟨q,hq,tq⟩:=hv
      obtain ⟨o1,l1⟩:=ok.qgz eh ea (qk5 (kvs:=kvs) (j:=j)) (qbv ht)
      exact ⟨q,_,hq,rfl,rfl,o1,l1,tq.mono ok l1⟩
     | none =>
      rw [ex] at hv
      simp only [popD,ek,eh,ex] at e
      cases e
      exact ⟨hv,rfl⟩
    | _=>simp only [popD,ek,eh] at e;cases e
 | _=>simp only [popD] at e;cases e
theorem qek {w:Wd} {x:AV} {v:V} {ks:List Key} {xs:List AV} (ok:Ok C w) (e:dkOf w.h x=some (ks,xs)) (t:Tr C w x v):∃ a,v=.ref a/\IsD w.H a:=by
 obtain ⟨a,kvs,rfl,r,_,_⟩:=q64 ok e t
 exact ⟨a,rfl, .inl ⟨kvs,r⟩⟩
theorem qdt {td ty:TE} {d y:AE} (hd:SE C E td d) (hy:SE C E ty y):SE C E (qk2 td ty) (q78 d y):=fun w env σ Q ok en s =>
 hd w env σ _ ok en (s.bind.mono fun a w1 ok1 le1 s1 u tu=>by
  split at s1
  ·rename_i p e0
   obtain ⟨ad,rfl,isd⟩:=qek ok1 e0 tu
   refine ⟨ad,rfl,isd,hy w1 env σ _ ok1 (en.mono ok le1) (s1.bind.mono fun b w2 ok2 le2 s2 v tv=>?_)⟩
   split at s2
   ·rename_i x h' e
    obtain ⟨ad',kvs,k,e1,e2,e3,q,w',h1,h2,h3,o',l',t'⟩:=qb7 ok2 e (tu.mono ok1 le2) tv
    cases e1
    refine ⟨kvs,k,q,e2,e3,h1,?_⟩
    have:=s2 w' h2 o' l' _ t'
    rw [h3] at this
    exact this
   ·exact s2.elim
  ·exact s1.elim)
theorem qkt {td ty tz:TE} {d y z:AE} (hd:SE C E td d) (hy:SE C E ty y) (hz:SE C E tz z):SE C E (qic td ty tz) (qag d y z):=fun w env σ Q ok en s =>
 hd w env σ _ ok en (s.bind.mono fun a w1 ok1 le1 s1 u tu=>by
  split at s1
  ·rename_i p e0
   obtain ⟨ad,rfl,isd⟩:=qek ok1 e0 tu
   refine ⟨ad,rfl,isd,hy w1 env σ _ ok1 (en.mono ok le1) (s1.bind.mono fun b w2 ok2 le2 s2 v tv=>hz w2 env σ _ ok2 (en.mono ok (le1.trans le2)) (s2.bind.mono fun c w3 ok3 le3 s3 p tp=>?_))⟩
   split at s3
   ·rename_i x h' e
    obtain ⟨ad',kvs,k,e1,e2,e3,q,w',h1,h2,h3,o',l',t'⟩:=qb7 ok3 e (tu.mono ok1 (le2.trans le3)) (tv.mono ok2 le3)
    cases e1
    refine ⟨kvs,k,e2,e3,?_,fun hn=>by rw [h1] at hn;cases hn⟩
    intro v' hv'
    rw [h1] at hv';cases hv'
    have:=s3 w' h2 o' l' _ t'
    rw [h3] at this
    exact this
   ·rename_i h' e
    obtain ⟨ad',kvs,k,e1,e2,e3,h1,h2⟩:=qb7 ok3 e (tu.mono ok1 (le2.trans le3)) (tv.mono ok2 le3)
    cases e1
    refine ⟨kvs,k,e2,e3,?_,fun _=>?_⟩
    ·intro v' hv'
     rw [h1] at hv';cases hv'
    subst h2
    exact s3.here ok3 _ tp
   ·exact s3.elim
  ·exact s1.elim)
@[simp] def qf2:AV->List AV->AH->Re AV
 | .ref k,[.int (.ofNat n)],h=>match h[k]? with
  | some (.lst xs)=>match xs[n]? with
   | some x=>if n<=16777216 then .ok x (h.set k (.lst (xs.eraseIdx n))) else .no
   | none=>.no
  | _=>.no
 | _,_,_=>.no
theorem Trs.erase {w:Wd}:∀ {n:Nat} {xs:List AV} {vs:List V},Trs C w xs vs->Trs C w (xs.eraseIdx n) (vs.eraseIdx n)
 | n,[],vs,h=>by rw [Trs] at h;subst h;rw [List.eraseIdx_nil,List.eraseIdx_nil,Trs]
 | 0,x::xs,vs,h=>by
  rw [Trs] at h
  obtain ⟨v,us,rfl,h1,h2⟩:=h
  exact h2
 | n+1,x::xs,vs,h=>by
  rw [Trs] at h
  obtain ⟨v,us,rfl,h1,h2⟩:=h
  rw [List.eraseIdx_cons_succ,List.eraseIdx_cons_succ,Trs]
  exact ⟨v,_,rfl,h1,Trs.erase h2⟩
end
end Z
namespace L2
open PySem PySem.Spec PyProof.Rows
theorem qbn:∀ {xs:List V} {us:List Value},xs.length=us.length->(∀ (i:Nat) x u,xs[i]?=some x->us[i]?=some u->RelV x u)->Vals xs us
 | [],[],_,_=>.nil
 | [],u::us,h,_=>by simp at h
 | x::xs,[],h,_=>by simp at h
 | x::xs,u::us,h,k=>.cons (k 0 x u rfl rfl) (qbn (by simpa using h) fun i x u h1 h2=>k (i+1) x u h1 h2)
section
variable {X:Cx}
def qid:List V->Hp->VK->Prop:=fun xs H Q=>∃ a kvs,xs=[.ref a]/\Rd H a (.dK kvs)/\∀ l,H l=none->Q (.ref l) (upd H l (.lst (kvs.map fun kv=>kV kv.1)))
theorem q7u (hc:X.calm=true):q2a X (.type "list") qid:=by
 intro pins s σ H xs us Q I r h
 obtain ⟨a,kvs,rfl,hd,q⟩:=h
 obtain ⟨u,rfl,ru⟩:=vals1 r
 cases ru
 obtain ⟨hl,hsys,vs,kv,dof⟩:=hd.ok I.hok
 obtain ⟨ep,hm⟩:=dof.dictAt
 have hlen:kvs.length=vs.length:=kv.length
 refine PySem.W.kdl_call (PySem.W.kdl_dict (kvs:=vs) (ep:=ep) hsys) (I.ok.hd hc) hm (by rw [<- hlen];exact hl) fun h' tk acc c' kp e items=>?_
 refine ⟨.ref s.heap.objs.size,_,I.laid (t':=tk) kp (Nat.le_refl _) (show q1s X.prog X.w _ h' _ (.lst (kvs.map fun kv=>kV kv.1)) from ⟨by rw [List.length_map];exact hl,acc.toList,c',qbn (by have hs:=items.1;rw [List.length_map,hlen,Array.length_toList];exact hs.symm) fun i x u h1 h2=>?_,e⟩),rfl,q _ (I.hok.fresh (Nat.le_refl _))⟩
 rw [List.getElem?_map] at h1
 cases hk:kvs[i]? with
 | none=>rw [hk] at h1;cases h1
 | some p =>
  rw [hk] at h1;cases h1
  obtain ⟨q2,hq2,hk1,hr⟩:=q7h kv hk
  obtain ⟨k,x,e1,e2⟩:=items.2 i u (by rw [<- Array.getElem?_toList];exact h2)
  rw [hq2] at e1;cases e1
  exact kv_rel (by rw [show p.1=k from hk1];exact e2)
def q7i (r d:Addr):HO:=.ext fun h=>h.IsValuesView r d
def tVals (td:TE):TE:=fun σ H Q=>td σ H fun x H1=>∃ d kvs,x=.ref d/\Rd H1 d (.dK kvs)/\∀ r,H1 r=none->Q (.ref r) (upd H1 r (q7i r d))
theorem qmm {o:Expr} {td:TE} {apos cpos:Pos} (ho:PE X o td) (hbase:attributeBase o "values" X.env (eval o X.env)=eval o X.env:=by rfl) (hline:(apos.endLine == cpos.line)=true:=by rfl) :
  PE X (.Call (.Attribute o "values" apos) [] [] cpos) (tVals td):=by
 intro pins s σ H Q I h
 refine wpAny_Call_method0_late hbase hline (thn (ho pins s σ H _ I h) fun v s1 ⟨x,H1,I1,r1,d,kvs,e,hd,q⟩=>?_)
 subst e
 cases r1
 obtain ⟨hl,hsys,vs,kv,dof⟩:=hd.ok I1.hok
 obtain ⟨ep,hm⟩:=dof.dictAt
 refine ⟨"dict", "dict.values",F.plainAttrs_dict,F.slot_dict_values,F.type_dict_values,dof.typeIs,?_,Calls.callWith_builtin rfl (PySem.evalArgs_none ?_)⟩
 ·intro a e
  cases e
  obtain ⟨ob,es,hob,hex,_⟩:=hm
  exact ⟨ob,hob,hex.2.1⟩
 ·refine call_meetsIn F.slot_dict_values dof.typeIs F.entry_dict_values (F.args_dict_values_1 _) (meets_dict_values (q20 X.prog X.w) d hsys) ⟨⟨_,dof⟩,?_⟩
  refine ⟨.ref s1.heap.objs.size,_,I1.laid (a:=s1.heap.objs.size) (o:=q7i s1.heap.objs.size d) (t':=s1.toks) (fun b u e=>Heap.get?_push_of_some _ e) (Nat.le_refl _) ⟨⟨_,Heap.get?_push_size _ rfl,rfl,rfl⟩,⟨_,Heap.get?_push_size _ rfl⟩,fun h1 h2 hv hk=>?_⟩,rfl,q _ (I1.hok.fresh (Nat.le_refl _))⟩
  obtain ⟨ob,e1,e2,e3⟩:=hv
  exact ⟨ob,hk _ e1,e2,e3⟩
def qio:List V->Hp->VK->Prop:=fun xs H Q=>∃ r d kvs,xs=[.ref r]/\H r=some (q7i r d)/\Rd H d (.dK kvs)/\∀ l,H l=none->Q (.ref l) (upd H l (.lst (kvs.map (·.2))))
theorem qgu (hc:X.calm=true):q2a X (.type "list") qio:=by
 intro pins s σ H xs us Q I rr h
 obtain ⟨r,d,kvs,rfl,hv,hd,q⟩:=h
 obtain ⟨u,rfl,ru⟩:=vals1 rr
 cases ru
 obtain ⟨hl,hsys,vs,kv,dof⟩:=hd.ok I.hok
 obtain ⟨ep,hm⟩:=dof.dictAt
 have hlen:kvs.length=vs.length:=kv.length
 have hview:s.heap.IsValuesView r d:=(I.hok r _ hv).1
 refine PySem.W.kdl_call (PySem.W.kdl_values (knd:=q20 X.prog X.w) (kvs:=vs) (ep:=ep)) (I.ok.hd hc) ⟨hview,hm⟩ (by rw [<- hlen];exact hl) fun h' tk acc c' kp e items=>?_
 refine ⟨.ref s.heap.objs.size,_,I.laid (t':=tk) kp (Nat.le_refl _) (show q1s X.prog X.w _ h' _ (.lst (kvs.map (·.2))) from ⟨by rw [List.length_map];exact hl,acc.toList,c',qbn (by have hs:=items.1;rw [List.length_map,hlen,Array.length_toList];exact hs.symm) fun i x u h1 h2=>?_,e⟩),rfl,q _ (I.hok.fresh (Nat.le_refl _))⟩
 rw [List.getElem?_map] at h1
 cases hk:kvs[i]? with
 | none=>rw [hk] at h1;cases h1
 | some p =>
  rw [hk] at h1;cases h1
  obtain ⟨q2,hq2,hk1,hr⟩:=q7h kv hk
  obtain ⟨k,e1⟩:=items.2 i u (by rw [<- Array.getElem?_toList];exact h2)
  rw [hq2] at e1;cases e1
  exact hr
end
end L2
namespace Z
open PySem L2
section
variable {C:Ct} {E:XK}
@[simp] def q6e:List AV->AH->Re AV
 | [x],h=>match dkOf h x with | some (ks,_)=>.ok (.lst (ks.map keyA)) h | none=>.no
 | _,_=>.no
theorem qel {w:Wd}:∀ (kvs:List (Key×V)),Trs C w ((kvs.map (·.1)).map keyA) (kvs.map fun kv=>kV kv.1)
 | []=>by rw [List.map_nil,List.map_nil,List.map_nil,Trs]
 | p::r=>by rw [List.map_cons,List.map_cons,List.map_cons,Trs];exact ⟨_,_,rfl,tr_key rfl,qel r⟩
theorem q94:SC C E 1 qid q6e:=by
 intro w xs vs Q hl ok t s
 obtain ⟨x,rfl⟩:=len1 hl
 obtain ⟨v,rfl,tv⟩:=q46 t
 have s:Sat C E w (match dkOf w.h x with | some (ks,_)=>.ok (.lst (ks.map keyA)) w.h | none=>.no) (want C Q):=s
 split at s
 ·rename_i ks ys e
  obtain ⟨a,kvs,rfl,r,rfl,ht⟩:=q64 ok e tv
  exact ⟨a,kvs,rfl,r,fun p hp=>s (w.frozen p _) rfl (ok.frozen hp _) (ok.q3w hp _) _ (ok.q70 hp (qel kvs))⟩
 ·exact s.elim
@[simp] def qjm (a:AE):AE:=fun env h=>(a env h).bind fun x h=>match dkOf h x with | some (_,xs)=>.ok (.lst xs) h | none=>.no
theorem qko {t:TE} {a:AE} (ha:SE C E t a):SE C E (tCB qio (q3q (tVals t) tNil)) (qjm a):=fun w env σ Q ok en s =>
 ha w env σ _ ok en (s.bind.mono fun x w1 ok1 le1 s1 v tv=>by
  split at s1
  ·rename_i ks xs e
   obtain ⟨d,kvs,rfl,r,rfl,ht⟩:=q64 ok1 e tv
   refine ⟨d,kvs,rfl,r,fun p hp=>?_⟩
   have ok2:=ok1.fresh hp (q7i p d)
   have le2:=ok1.q33 hp (q7i p d)
   have r2:Rd (w1.fresh p (q7i p d)).H d (.dK kvs):=by
    have hne:d≠p:=fun z=>absurd hp (Rd.ne (H:=w1.H) (a:=p) (by rw [<- z];exact r))
    rcases r with r | ⟨o,r⟩
    ·exact .inl ((q0p hne).trans r)
    ·exact .inr ⟨o,(q0p hne).trans r⟩
   exact ⟨p,d,kvs,rfl,q24,r2,fun l hl=>s1 ((w1.fresh p (q7i p d)).frozen l _) rfl (ok2.frozen hl _) (le2.trans (ok2.q3w hl _)) _ (ok2.q70 hl (ht.mono ok1 le2))⟩
  ·exact s1.elim)
end
end Z
namespace L2
open PySem PySem.Spec PyProof.Rows
def Up (xs:Array Nat):Prop:=xs.toList.Pairwise (· < ·)
theorem Up.at {xs:Array Nat} (h:Up xs) {a b:Nat} (hab:a<b) (hb:b<xs.size):xs[a]'(Nat.lt_trans hab hb)<xs[b]:=by
 have:=List.pairwise_iff_getElem.mp h a b (by simpa using Nat.lt_trans hab hb) (by simpa using hb) hab
 simpa using this
theorem qlg {xs:Array Nat} (hu:Up xs) (j:Nat):∀ fuel lo hi,hi - lo<=fuel->lo<=hi->hi<=xs.size->(∀ i (h:i<xs.size),i<lo->xs[i]<j)->(∀ i (h:i<xs.size),hi<=i->j<=xs[i]) ->
  SetTable.below.go xs j fuel lo hi<=xs.size/\(∀ i (h:i<xs.size),i<SetTable.below.go xs j fuel lo hi->xs[i]<j)/\(∀ i (h:i<xs.size),SetTable.below.go xs j fuel lo hi<=i->j<=xs[i]):=by
 intro fuel
 induction fuel with
 | zero =>
  intro lo hi h1 h2 h3 h4 h5
  have e:lo=hi:=by omega
  subst e
  exact ⟨h3,h4,h5⟩
 | succ f ih =>
  intro lo hi h1 h2 h3 h4 h5
  unfold SetTable.below.go
  by_cases hl:lo<hi
  ·rw [if_pos hl]
   have hm:(lo+hi) / 2<xs.size:=by omega
   have e:xs.getD ((lo+hi) / 2) j=xs[(lo+hi) / 2]:=by simp [Array.getD,hm]
   dsimp only
   rw [e]
   by_cases hc:xs[(lo+hi) / 2]<j
   ·rw [if_pos hc]
    refine ih _ _ (by omega) (by omega) h3 (fun i h hi' => ?_) h5
    by_cases hq:i=(lo+hi) / 2
    ·subst hq;exact hc
    ·exact Nat.lt_trans (hu.at (by omega) hm) hc
   ·rw [if_neg hc]
    refine ih _ _ (by omega) (by omega) (by omega) h4 fun i h hi' => ?_
    by_cases hq:i=(lo+hi) / 2
    ·subst hq;omega
    ·exact Nat.le_trans (Nat.le_of_not_lt hc) (Nat.le_of_lt (hu.at (by omega) h))
  ·rw [if_neg hl]
   have e:lo=hi:=by omega
   subst e
   exact ⟨h3,h4,h5⟩
theorem q7m {xs:Array Nat} (hu:Up xs) (j:Nat):SetTable.below xs j<=xs.size/\(∀ i (h:i<xs.size),i<SetTable.below xs j->xs[i]<j)/\(∀ i (h:i<xs.size),SetTable.below xs j<=i->j<=xs[i]):=
 qlg hu j xs.size 0 xs.size (by omega) (by omega) (Nat.le_refl _) (fun i h hi=>by omega) (fun i h hi=>by omega)
theorem qh5 {xs:Array Nat} (hu:Up xs) {i:Nat} (h:i<xs.size):SetTable.below xs (xs[i]+1)=i+1:=by
 obtain ⟨b1,b2,b3⟩:=q7m hu (xs[i]+1)
 generalize SetTable.below xs (xs[i]+1)=b at b1 b2 b3
 rcases Nat.lt_trichotomy b (i+1) with q | q | q
 ·have:=b3 i h (by omega);omega
 ·exact q
 ·have hi:i+1<xs.size:=by omega
  have a1:=b2 (i+1) hi q
  have a2:=hu.at (show i<i+1 by omega) hi
  omega
theorem qhp {xs:Array Nat} (hu:Up xs):SetTable.below xs 0=0:=by
 obtain ⟨b1,b2,b3⟩:=q7m hu 0
 generalize SetTable.below xs 0=b at b1 b2 b3
 by_cases q:b=0
 ·exact q
 ·have:=b2 0 (by omega) (by omega);omega
theorem Up.ins {xs:Array Nat} (hu:Up xs) {j:Nat} (hj:xs[SetTable.below xs j]?≠some j):Up (SetTable.insertAt xs (SetTable.below xs j) j):=by
 obtain ⟨b1,b2,b3⟩:=q7m hu j
 generalize SetTable.below xs j=b at b1 b2 b3 hj
 unfold Up SetTable.insertAt
 have e:((xs.extract 0 b).push j++xs.extract b xs.size).toList=xs.toList.take b++j::xs.toList.drop b:=by
  simp [Array.toList_extract,List.extract_eq_drop_take]
  rw [List.take_of_length_le (by simp)]
 rw [e,List.pairwise_append]
 refine ⟨List.Pairwise.sublist (List.take_sublist _ _) hu,List.pairwise_cons.mpr ⟨fun y hy=>?_,List.Pairwise.sublist (List.drop_sublist _ _) hu⟩,fun x hx y hy=>?_⟩
 ·obtain ⟨k,hk,rfl⟩:=List.getElem_of_mem hy
  have hk':b+k<xs.size:=by simp at hk;omega
  have q:(xs.toList.drop b)[k]=xs[b+k]:=by simp
  rw [q]
  have a1:=b3 (b+k) hk' (by omega)
  by_cases hz:k=0
  ·subst hz
   have:xs[b+0]'hk'≠j:=fun z=>hj (by rw [Array.getElem?_eq_getElem (by omega)];simpa using z)
   omega
  ·have a2:=b3 b (by omega) (Nat.le_refl _)
   have a3:=hu.at (a:=b) (b:=b+k) (by omega) hk'
   omega
 ·obtain ⟨k,hk,rfl⟩:=List.getElem_of_mem hx
  have hk':k<xs.size:=by simp at hk;omega
  have hkb:k<b:=by simp at hk;omega
  have q:(xs.toList.take b)[k]=xs[k]:=by simp
  rw [q]
  have a0:=b2 k hk' hkb
  rcases List.mem_cons.mp hy with rfl | hy
  ·exact a0
  ·obtain ⟨l,hl,rfl⟩:=List.getElem_of_mem hy
   have hl':b+l<xs.size:=by simp at hl;omega
   have q:(xs.toList.drop b)[l]=xs[b+l]:=by simp
   rw [q]
   exact hu.at (by omega) hl'
structure q1q (t:SetTable):Prop where
 dum:t.dummies = #[]
 up:Up t.place
theorem q1q.qlt {t:SetTable} (g:q1q t) (j:Nat):t.slot j≠.dummy:=by
 unfold SetTable.slot
 dsimp only
 split
 ·exact fun z=>nomatch z
 ·have:SetTable.has t.dummies j=false:=by rw [g.dum];unfold SetTable.has;simp
  rw [this];exact fun z=>nomatch z
theorem q1q.qht {t:SetTable} {j:Nat} (h:t.slot j=.empty):t.place[SetTable.below t.place j]?≠some j:=by
 unfold SetTable.slot at h
 dsimp only at h
 split at h
 ·exact nomatch h
 ·rename_i q
  exact fun z=>q (by rw [z];simp)
theorem qnz (t:SetTable) (p:SetTable.Probe):(t.advance p).dummy=p.dummy:=by
 unfold SetTable.advance
 split
 ·rfl
 ·rfl
theorem q1q.probe {t:SetTable} (g:q1q t) (f:Nat->Int) (h:Int):∀ fuel (p:SetTable.Probe) j d,p.dummy=none->SetTable.probe.go t f h fuel p=some (.empty j d)->d=none/\t.slot j=.empty:=by
 intro fuel
 induction fuel with
 | zero=>intro p j d _ e;unfold SetTable.probe.go at e;exact nomatch e
 | succ n ih =>
  intro p j d hp e
  unfold SetTable.probe.go at e
  split at e
  ·rename_i hs
   cases e
   exact ⟨hp,hs⟩
  ·rename_i hs
   exact absurd hs (g.qlt _)
  ·rename_i i hs
   split at e
   ·cases e
   ·exact ih _ j d ((qnz t p).trans hp) e
theorem q1q.free {t:SetTable} (g:q1q t) {h:Int} {j:Nat} {b:Bool} (e:t.freeSlot h=some (j,b)):t.slot j=.empty:=by
 unfold SetTable.freeSlot at e
 split at e
 ·rename_i j' d hp
  obtain ⟨rfl,hs⟩:=g.probe _ _ _ _ j' d rfl hp
  cases e
  exact hs
 ·cases e
theorem q1q.put {t:SetTable} (g:q1q t) {j:Nat} (h:t.slot j=.empty):q1q (t.put j).1:=by
 unfold SetTable.put
 have:SetTable.has t.dummies j=false:=by rw [g.dum];unfold SetTable.has;simp
 dsimp only
 rw [this]
 exact ⟨g.dum,g.up.ins (q1q.qht h)⟩
theorem ql2 (n:Nat):Up (Array.range n):=by
 unfold Up
 rw [show (Array.range n).toList=List.range n by simp]
 exact List.pairwise_lt_range
theorem q1q.standIn (t:SetTable) (n:Nat):q1q (t.standIn n):=⟨rfl,ql2 n⟩
theorem q1q.orStandIn {t:SetTable} (g:q1q t) (n:Nat):q1q (t.orStandIn n):=by
 unfold SetTable.orStandIn
 split
 ·exact g
 ·exact q1q.standIn t n
theorem q1q.layNew {t:SetTable} (g:q1q t) (es:Array (Int×Value)) (h:Int) (x:Value):q1q (layNew t es h x).2.1/\(PySem.layNew t es h x).2.1.led=t.led:=by
 unfold PySem.layNew
 split
 ·rename_i j b e
  refine ⟨(g.put (g.free e)).orStandIn _,?_⟩
  dsimp only
  unfold SetTable.orStandIn
  split <;> rfl
 ·exact ⟨q1q.standIn _ _,rfl⟩
theorem q1q.laid {m f v:Nat} {l p:Bool} {hs:Array Int} {t:SetTable} {o:Array Nat} (e:SetTable.laid m f v l p hs=some (t,o)):q1q t/\t.led=l:=by
 unfold SetTable.laid at e
 cases hq:SetTable.layClean m hs with
 | none=>rw [hq] at e;cases e
 | some ow =>
  rw [hq] at e
  cases e
  refine ⟨⟨rfl,?_⟩,rfl⟩
  unfold Up
  dsimp only
  have:∀ L:List Nat,L.Pairwise (· < ·)->((L.filterMap fun j=>(ow.getD j none).map (j, ·)).map (·.1)).Pairwise (· < ·):=by
   intro L hL
   rw [List.pairwise_map,List.pairwise_filterMap]
   refine hL.imp fun {a b} hab x hx y hy=>?_
   cases h1:ow.getD a none with
   | none=>rw [h1] at hx;cases hx
   | some u =>
    cases h2:ow.getD b none with
    | none=>rw [h2] at hy;cases hy
    | some v=>rw [h1] at hx;rw [h2] at hy;cases hx;cases hy;exact hab
  exact this _ List.pairwise_lt_range
theorem q1q.relay (t:SetTable) (es:Array (Int×Value)) (w:Nat):q1q (relayAll t es w).2.1/\(relayAll t es w).2.1.led=t.led:=by
 unfold relayAll
 split
 ·rename_i t' order e
  dsimp only
  split
  ·exact q1q.laid e
  ·exact ⟨q1q.standIn _ _,rfl⟩
 ·exact ⟨q1q.standIn _ _,rfl⟩
end L2
namespace L2
open PySem PySem.Spec PyProof.Rows
section
variable {prog:Program} {w:World} {K:Type} [DecidableEq K] {knd:KeyKind prog w K} {A:Around} {E:Value->Shared->Prop} {s:Shared}
inductive q2j (knd:KeyKind prog w K):List Value->List K->Prop
 | nil:q2j knd [] []
 | cons {v k vs ks}:knd.is k v=true->q2j knd vs ks->q2j knd (v::vs) (k::ks)
theorem q2j.push {v:Value} {k:K} (hk:knd.is k v=true):∀ {vs:List Value} {ks:List K},q2j knd vs ks->q2j knd (vs++[v]) (ks++[k])
 | _,_, .nil=>.cons hk .nil
 | _,_, .cons h r=>.cons h (r.push hk)
theorem q2j.length:∀ {vs:List Value} {ks:List K},q2j knd vs ks->vs.length=ks.length
 | _,_, .nil=>rfl
 | _,_, .cons _ r=>by rw [List.length_cons,List.length_cons,r.length]
theorem q2j.key:∀ {vs:List Value} {ks:List K},q2j knd vs ks->∀ v∈vs, ∃ k∈ks,knd.is k v=true
 | _,_, .nil,v,h=>nomatch h
 | _,_, .cons h r,v,hv=>by
  rcases List.mem_cons.mp hv with rfl | hv
  ·exact ⟨_,List.mem_cons_self,h⟩
  ·obtain ⟨k,hk,q⟩:=r.key v hv;exact ⟨k,List.mem_cons_of_mem _ hk,q⟩
theorem q2j.val:∀ {vs:List Value} {ks:List K},q2j knd vs ks->∀ k∈ks, ∃ v∈vs,knd.is k v=true
 | _,_, .nil,v,h=>nomatch h
 | _,_, .cons h r,v,hv=>by
  rcases List.mem_cons.mp hv with rfl | hv
  ·exact ⟨_,List.mem_cons_self,h⟩
  ·obtain ⟨k,hk,q⟩:=r.val v hv;exact ⟨k,List.mem_cons_of_mem _ hk,q⟩
def SetQ (knd:KeyKind prog w K) (led:Bool) (h:Heap) (a:Addr) (ks:List K):Prop:=
 ∃ o es ep t vs,h.get? a=some o/\o.ExactSet/\o.data=.set es ep t/\ElemsOf knd es.toList/\(es.toList.map (·.2)).Perm vs/\q2j knd vs ks
  /\ es.size<scanBound/\t.fits es.size=true/\t.led=led/\q1q t
theorem SetQ.size {led:Bool} {h:Heap} {a:Addr} {ks:List K} {es:Array (Int×Value)} {vs:List Value} (hp:(es.toList.map (·.2)).Perm vs) (hv:q2j knd vs ks):es.size=ks.length:=by
 have:=hp.length_eq
 rw [List.length_map,Array.length_toList] at this
 rw [this];exact hv.length
theorem SetQ.stay {led:Bool} {h h':Heap} {a:Addr} {ks:List K} (x:SetQ knd led h a ks) (k:∀ o,h.get? a=some o->h'.get? a=some o):SetQ knd led h' a ks:=
 let ⟨o,es,ep,t,vs,ho,r⟩:=x;⟨o,es,ep,t,vs,k o ho,r⟩
theorem qlx (led:Bool) {h:Heap} {a:Addr} (g:h.get? a=some {cls:=.type "set",dict:=none,data:=.set #[] 0 (.fresh 0 0 led)}):SetQ knd led h a ([]:List K):=
 ⟨_, #[],0,_,[],g,⟨rfl,rfl,rfl⟩,rfl,(fun e he=>nomatch he),List.Perm.nil,q2j.nil,by decide,by rfl,rfl,⟨rfl,List.Pairwise.nil⟩⟩
theorem qaz {led:Bool} {h:Heap} {a:Addr} {o:Obj} {es:Array (Int×Value)} {ep:Nat} {t:SetTable} {vs:List Value} {ks:List K} (ho:h.get? a=some o) (hex:o.ExactSet) (hd:o.data=.set es ep t)
  {es':Array (Int×Value)} {t':SetTable} (hel:ElemsOf knd es'.toList) (hp:(es'.toList.map (·.2)).Perm vs) (hv:q2j knd vs ks) (hb:es'.size<scanBound) (hf:t'.fits es'.size=true) (hl:t'.led=led) (hg:q1q t') :
  (h.update a (Obj.putSet es' t')).get? a=some {o with data:=.set es' (ep+1) t'}/\SetQ knd led (h.update a (Obj.putSet es' t')) a ks:=by
 have hg':(h.update a (Obj.putSet es' t')).get? a=some {o with data:=.set es' (ep+1) t'}:=by
  have:=Heap.get?_update_self (Obj.putSet es' t') ho (by rw [putSet_of es' t' hd];rfl)
  rw [putSet_of es' t' hd] at this;exact this
 exact ⟨hg',_,es',ep+1,t',vs,hg',hex,rfl,hel,hp,hv,hb,hf,hl,hg⟩
theorem qcn {g:Bool->Sem Unit} (hg:∀ (b:Bool) (s₁:Shared) (Q':Unit->Shared->Prop),Q' () s₁->wpAny (model prog w) A (g b) Q' E s₁)
  {led:Bool} {a:Addr} {o:Obj} {es:Array (Int×Value)} {ep:Nat} {t:SetTable} {vs:List Value} {ks:List K} (ho:s.heap.get? a=some o) (hex:o.ExactSet) (hd:o.data=.set es ep t)
  {es1:Array (Int×Value)} {t2:SetTable} (hel1:ElemsOf knd es1.toList) (hp1:(es1.toList.map (·.2)).Perm vs) (hv:q2j knd vs ks)
  (hb1:es1.size<scanBound) (hf2:t2.fits es1.size=true) (hl2:t2.led=led) (hg2:q1q t2) {wasDummy:Bool} {R:Option Bool->Shared->Prop}
  (h:∀ h',Heap.SameBut a s.heap h'->SetQ knd led h' a ks->R (some true) {s with heap:=h'}) :
  wpAny (model prog w) A (do
    storeSet a es1 t2
    if (!wasDummy && t2.tooFull)=true then do
      g (relayAll t2 es1 (SetTable.grown es1.size)).2.2
      storeSet a (relayAll t2 es1 (SetTable.grown es1.size)).1 (relayAll t2 es1 (SetTable.grown es1.size)).2.1
      pure (some true)
     else pure (some true)) R E s:=by
 refine wpAny_bind (wpAny_storeSet_of ho hd ?_ (fits_of_scanBound hb1))
 obtain ⟨ho1,hS1⟩:=qaz (knd:=knd) ho hex hd hel1 hp1 hv hb1 hf2 hl2 hg2
 have hsb1:=Heap.SameBut.update s.heap a (Obj.putSet es1 t2)
 split
 ·have hp:=relayAll_perm t2 es1 (SetTable.grown es1.size)
  have hfr:=relayAll_fits t2 es1 (SetTable.grown es1.size)
  have hgr:=q1q.relay t2 es1 (SetTable.grown es1.size)
  generalize hRl:relayAll t2 es1 (SetTable.grown es1.size)=Rl at hp hfr hgr ⊢
  obtain ⟨es2,t3,gave2⟩:=Rl
  dsimp only at hp hfr hgr ⊢
  have hel2:ElemsOf knd es2.toList:=hel1.perm hp
  have hsz:es2.size=es1.size:=by rw [<- Array.length_toList,hp.length_eq,Array.length_toList]
  have hb2:es2.size<scanBound:=by rw [hsz];exact hb1
  refine wpAny_bind (hg _ _ _ ?_)
  refine wpAny_bind (wpAny_storeSet_of ho1 rfl ?_ (fits_of_scanBound hb2))
  obtain ⟨_,hS2⟩:=qaz (knd:=knd) ho1 hex rfl hel2 ((hp.map _).trans hp1) hv hb2 hfr (hgr.2.trans hl2) hgr.1
  exact wpAny_pure (h _ (hsb1.trans (Heap.SameBut.update _ a _)) hS2)
 ·exact wpAny_pure (h _ hsb1 hS1)
theorem qls {led:Bool} {a:Addr} {ks:List K} {k:K} {x:Value} {Q:Bool->Shared->Prop} (hkey:knd.is k x=true) (hsc:x.scannable=true) (hS:SetQ knd led s.heap a ks)
  (hroom:ks.length+1<scanBound)
  (h:∀ b h',Heap.SameBut a s.heap h'->SetQ knd led h' a (meet ks k)->Q b {s with heap:=h'}) :
  wpAny (model prog w) A (setAddHashed a x (knd.hash k)) Q E s:=by
 obtain ⟨o,es,ep,t,vs,ho,hex,hd,hel,hp,hv,hb,hf,hl,hg⟩:=hS
 have hz:=SetQ.size (led:=led) (h:=s.heap) (a:=a) hp hv
 have hb1:es.size+1<scanBound:=by rw [hz];exact hroom
 unfold setAddHashed setAddHashedIn
 refine wpAny_holding (wpAny_bind (wpAny_setState_of ho hd hf ?_))
 dsimp only
 rw [byScan_of hsc hb hel]
 simp only [↓reduceIte]
 unfold setAddByScan
 refine wpAny_bind ?_
 refine wpAny_bind (wpAny_rule ?_)
 refine wpAny_bind (wpAny_setScan_of hkey ho hd hf hel ?_)
 cases hr:List.findIdx? (fun e=>knd.is k e.2) es.toList with
 | some j =>
  dsimp only
  obtain ⟨hj,hpj,_⟩:=List.findIdx?_eq_some_iff_getElem.mp hr
  have hm:k∈ks:=by
   obtain ⟨k',h1,h2⟩:=hv.key _ (hp.mem_iff.mp (List.mem_map_of_mem (List.getElem_mem hj)))
   rw [knd.inj _ k k' hpj h2];exact h1
  refine wpAny_pure (wpAny_pure ?_)
  have e:s={s with heap:=s.heap}:=by cases s;rfl
  have e2:meet ks k=ks:=by unfold meet;rw [if_pos hm]
  rw [e]
  exact h _ s.heap (Heap.SameBut.refl a s.heap) (by rw [e2];exact ⟨o,es,ep,t,vs,ho,hex,hd,hel,hp,hv,hb,hf,hl,hg⟩)
 | none =>
  dsimp only
  have hm:k∉ks:=fun z=>by
   obtain ⟨v,h1,h2⟩:=hv.val _ z
   obtain ⟨e,he,rfl⟩:=List.mem_map.mp (hp.mem_iff.mpr h1)
   have:=List.findIdx?_eq_none_iff.mp hr e he
   rw [h2] at this;exact Bool.noConfusion this
  have e2:meet ks k=ks++[k]:=by unfold meet;rw [if_neg hm]
  have hgw:∀ (b:Bool) {s₁:Shared} {Q':Unit->Shared->Prop},Q' () s₁->wpAny (model prog w) A (match b with | true=>rule "set.scan.the-table-gave-way" | false=>pure ()) Q' E s₁:=
   fun b s₁ Q' hq=>by cases b <;> first | exact wpAny_pure hq | exact wpAny_rule hq
  have hperm:=layNew_perm t es (knd.hash k) x
  have hfits:=layNew_fits t es (knd.hash k) x
  have hgrow:=hg.layNew es (knd.hash k) x
  generalize hL:layNew t es (knd.hash k) x=L at hperm hfits hgrow ⊢
  obtain ⟨es1,t1,wasDummy,gave⟩:=L
  dsimp only at hperm hfits hgrow ⊢
  rw [Array.toList_push] at hperm
  have hel1:ElemsOf knd es1.toList:=(hel.push hkey hsc).perm hperm
  have hp1:(es1.toList.map (·.2)).Perm (vs++[x]):=by
   refine (hperm.map _).trans ?_
   rw [List.map_append];exact hp.append_right _
  have hv1:q2j knd (vs++[x]) (meet ks k):=by rw [e2];exact hv.push hkey
  have hb1':es1.size<scanBound:=by rw [<- Array.length_toList,hperm.length_eq,List.length_append,Array.length_toList];simpa using hb1
  refine wpAny_bind (hgw _ ?_)
  split
  ·refine wpAny_bind ?_
   rw [hashByValue_scannable 8 hsc]
   refine wpAny_pure ?_
   refine qcn (led:=led) ?_ ho hex hd hel1 hp1 hv1 hb1' ?_ ?_ ?_ ?_
   ·intro b s₁ Q' hq;cases b <;> first | exact wpAny_pure hq | exact wpAny_rule hq
   ·split
    ·exact hfits
    ·exact SetTable.fits_plain_off hfits
   ·split
    ·exact hgrow.2.trans hl
    ·exact hgrow.2.trans hl
   ·split
    ·exact hgrow.1
    ·exact ⟨hgrow.1.dum,hgrow.1.up⟩
   ·intro h' hsb hS';dsimp only;exact wpAny_pure (h _ h' hsb hS')
  ·refine wpAny_bind (wpAny_pure ?_)
   simp only [↓reduceIte]
   refine qcn (led:=led) ?_ ho hex hd hel1 hp1 hv1 hb1' hfits (hgrow.2.trans hl) hgrow.1 ?_
   ·intro b s₁ Q' hq;cases b <;> first | exact wpAny_pure hq | exact wpAny_rule hq
   ·intro h' hsb hS';dsimp only;exact wpAny_pure (h _ h' hsb hS')
end
end L2
namespace L2
open PySem PySem.Spec PyProof.Rows PySem.Calls
theorem q2r:Slot "set_iterator" "__next__" "set_iterator.__next__":=
 .of (owner:="set_iterator") (n:="__next__") (by rw [typeLookup_type,builtinLookup_eq_fast];kernel_rfl) (by decide +kernel) (by decide +kernel) (by decide +kernel)
  (by first | exact .inl (by decide +kernel) | exact .inr (by decide +kernel)) (by rw [isSubtype_type];kernel_rfl)
theorem q6i:entryFor table "set_iterator.__next__" = some Builtin.«set_iterator.__next__»:=entryFor_of_tree (by kernel_rfl)
theorem qb2:Manifest.owners.lookup (String.ofList ['r', 'o', 't', 'a', 'r', 'e', 't', 'i', '_', 't', 'e', 's'].reverse)=some Manifest.sig_set_iterator:=by kernel_rfl
theorem q6x (a:Value):argsOk "set_iterator.__next__" ⟨[a],[]⟩:=by
 unfold argsOk;rw [signature?_of (id:="set_iterator.__next__") (n:=['_', '_', 't', 'x', 'e', 'n', '_', '_']) (o:=['r', 'o', 't', 'a', 'r', 'e', 't', 'i', '_', 't', 'e', 's']) (by kernel_rfl) qb2];kernel_rfl
theorem q73:Slot "set_iterator" "__iter__" "set_iterator.__iter__":=
 .of (owner:="set_iterator") (n:="__iter__") (by rw [typeLookup_type,builtinLookup_eq_fast];kernel_rfl) (by decide +kernel) (by decide +kernel) (by decide +kernel)
  (by first | exact .inl (by decide +kernel) | exact .inr (by decide +kernel)) (by rw [isSubtype_type];kernel_rfl)
theorem qai:entryFor table "set_iterator.__iter__" = some Builtin.«dict_keyiterator.__iter__»:=
 entryFor_alias (id':="dict_keyiterator.__iter__") (by kernel_rfl) rfl (by decide +kernel) (by kernel_rfl)
theorem qbr (a:Value):argsOk "set_iterator.__iter__" ⟨[a],[]⟩:=by
 unfold argsOk;rw [signature?_of (id:="set_iterator.__iter__") (n:=['_', '_', 'r', 'e', 't', 'i', '_', '_']) (o:=['r', 'o', 't', 'a', 'r', 'e', 't', 'i', '_', 't', 'e', 's']) (by kernel_rfl) qb2];kernel_rfl
theorem qb6:entryFor table "set.__iter__" = some Builtin.«frozenset.__iter__»:=
 entryFor_alias (id':="frozenset.__iter__") (by kernel_rfl) rfl (by decide +kernel) (by kernel_rfl)
theorem q5w {α:Type}:∀ (l:List α) (i:Nat) (h:i<l.length),(l[i]::l.eraseIdx i).Perm l
 | x::xs,0,h=>.refl _
 | x::xs,i+1,h=>(List.Perm.swap _ _ _).trans ((q5w xs i (by simpa using h)).cons _)
theorem qkb {α:Type} (next:Nat->Nat) (xs:Array α):∀ (fuel k:Nat) (left:List α) (out:Array α),left.length<=fuel->(pickOrder.go next fuel k left out).toList.Perm (out.toList++left):=by
 intro fuel
 induction fuel with
 | zero =>
  intro k left out h
  have:left=[]:=List.length_eq_zero_iff.mp (by omega)
  subst this
  unfold pickOrder.go
  rw [List.append_nil]
 | succ f ih =>
  intro k left out h
  unfold pickOrder.go
  cases left with
  | nil=>simp
  | cons a r =>
   have hi:next k % (a::r).length<(a::r).length:=Nat.mod_lt _ (by simp)
   rw [List.getElem?_eq_getElem hi]
   dsimp only
   refine (ih _ _ _ (by rw [List.length_eraseIdx_of_lt hi];simp at h ⊢;omega)).trans ?_
   rw [Array.toList_push,List.append_assoc]
   exact (q5w _ _ hi).append_left _
section
variable {M:Model} {A:Around} {E:Value->Shared->Prop} {s:Shared}
theorem qcy {n:Nat} {Q:Nat->Shared->Prop} (hn:n≠0) (h:∀ i d,i<n->Q i {s with drawn:=d}):wpAny M A (choose .order n) Q E s:=fun Γ p hΓ=>by
 show Sem.wp M Γ (.choose .order n .pure) _ _ p s
 rw [Sem.wp_choose]
 exact ⟨hn,h _ _ (Nat.mod_lt _ (Nat.pos_of_ne_zero hn))⟩
theorem q6o {α:Type}:∀ (n:Nat) (xs:List α) (s:Shared) (Q:List α->Shared->Prop),n=xs.length->(∀ ys d,ys.Perm xs->Q ys {s with drawn:=d})->wpAny M A (drawOrder n xs) Q E s
 | 0,xs,s,Q,hn,h=>by
  have:xs=[]:=List.length_eq_zero_iff.mp hn.symm
  subst this
  unfold drawOrder
  exact wpAny_pure (h [] s.drawn .nil)
 | n+1,[],s,Q,hn,h=>by simp at hn
 | n+1,x::xs,s,Q,hn,h=>by
  unfold drawOrder
  refine wpAny_bind (qcy (by simp) fun i d hi=>?_)
  rw [List.getElem?_eq_getElem hi]
  dsimp only
  refine wpAny_bind (q6o n _ _ _ (by rw [List.length_eraseIdx_of_lt hi];simp at hn ⊢;omega) fun ys d' hp=>wpAny_pure ?_)
  exact h _ d' ((List.Perm.cons _ hp).trans (q5w _ _ hi))
end
end L2
namespace L2
open PySem PySem.Spec PyProof.Rows PySem.Calls
def q2o (h:Heap) (it:Addr) (f:Value) (S:Addr) (i n ep:Nat):Prop:=∃ o,h.get? it=some o/\o.cls=.type "set_iterator" /\ o.data=.fields #[f, .int i 0, .ref S, .int n 0, .int ep 0]
theorem q2o.typeIs {s:Shared} {it:Addr} {f:Value} {S:Addr} {i n ep:Nat} (x:q2o s.heap it f S i n ep):s.TypeIs (.ref it) "set_iterator":=let ⟨o,ho,hc,_⟩:=x;⟨o,ho,hc⟩
theorem q2o.at {h h':Heap} {it:Addr} {f:Value} {S:Addr} {i n ep:Nat} (x:q2o h it f S i n ep) (e:∀ o,h.get? it=some o->h'.get? it=some o):q2o h' it f S i n ep:=let ⟨o,ho,r⟩:=x;⟨o,e _ ho,r⟩
def Mode (w:World) (h:Heap) (S T:Addr) (es:Array (Int×Value)) (ep:Nat) (t:SetTable) (f:Value) (i:Nat) (ord:List Value):Prop:=
 (w.params.followText "set-order" = true/\(∃ sl:Nat,f=.int sl 0)/\ord=(pickOrder (w.params.setOrder S ep) es).toList.map (·.2)) \/
 (w.params.followText "set-order" = false/\(!t.plain && decide (es.size > 1))=false/\t.led=true/\Up t.place/\(∃ sl:Nat,f=.int sl 0/\SetTable.below t.place sl=i)/\ord=es.toList.map (·.2)) \/
 (w.params.followText "set-order" = false/\∃ o, ∃ pl:List Nat,f=.ref T/\h.get? T=some o/\o.data=.seq (pl.map fun p:Nat=>Value.int (p:Int) 0).toArray 0/\pl.Perm (List.range es.size)/\ord=pl.filterMap fun p=>(es[p]?).map (·.2))
section
variable {prog:Program} {w:World} {A:Around} {E:Value->Shared->Prop} {s:Shared}
theorem q4k {Q:Bool->Shared->Prop} (h:Q (w.params.followText "set-order") s):wpAny (model prog w) A setsByText Q E s:=by
 unfold setsByText
 exact wpAny_bind (wpAny_askSetting (wpAny_pure h))
theorem qca {S:Addr} {o:Obj} {es:Array (Int×Value)} {ep sl i:Nat} {t:SetTable} {Q:Option (Value×Nat)->Shared->Prop} (ho:s.heap.get? S=some o) (hd:o.data=.set es ep t) (hf:t.fits es.size=true)
  (hb:w.params.followText "set-order" = true) (h:Q (((pickOrder (w.params.setOrder S ep) es)[i]?).map fun e=>(e.2,sl)) s):wpAny (model prog w) A (setNext S sl i ep) Q E s:=by
 unfold setNext
 refine wpAny_bind (wpAny_setState_of ho hd hf ?_)
 dsimp only
 refine wpAny_bind (q4k ?_)
 rw [hb]
 simp only [↓reduceIte,bne_self_eq_false,Bool.false_eq_true]
 refine wpAny_bind ?_
 unfold setWalk
 refine wpAny_bind (wpAny_setState_of ho hd hf ?_)
 dsimp only
 refine wpAny_bind (q4k ?_)
 rw [hb]
 simp only [↓reduceIte]
 exact wpAny_bind (wpAny_askSetting (wpAny_pure (wpAny_pure h)))
theorem qck {S:Addr} {o:Obj} {es:Array (Int×Value)} {ep sl i:Nat} {t:SetTable} {Q:Option (Value×Nat)->Shared->Prop} (ho:s.heap.get? S=some o) (hd:o.data=.set es ep t) (hf:t.fits es.size=true)
  (hb:w.params.followText "set-order" = false) (h1:(!t.plain && decide (es.size > 1))=false) (h2:t.led=true)
  (h:Q (match es[SetTable.below t.place sl]?,t.place[SetTable.below t.place sl]? with | some (_,x),some j=>some (x,j+1) | _,_=>none) s):wpAny (model prog w) A (setNext S sl i ep) Q E s:=by
 unfold setNext
 refine wpAny_bind (wpAny_setState_of ho hd hf ?_)
 dsimp only
 refine wpAny_bind (q4k ?_)
 rw [hb]
 simp only [Bool.false_eq_true, ↓reduceIte]
 show wpAny _ _ (if (!t.plain && decide (es.size > 1))=true then _ else _) _ _ _
 rw [h1]
 simp only [Bool.false_eq_true, ↓reduceIte]
 refine wpAny_bind ?_
 show wpAny _ _ (if (!t.led && !es.isEmpty)=true then _ else _) _ _ _
 rw [h2]
 simp only [Bool.not_true,Bool.false_and,Bool.false_eq_true, ↓reduceIte]
 exact wpAny_pure (wpAny_pure h)
theorem qep {S it:Addr} {oi:Obj} {f:Value} {i n ep x:Nat} (hoi:s.heap.get? it=some oi) (hci:oi.cls=.type "set_iterator")
  (hdi:oi.data=.fields #[f, .int i 0, .ref S, .int n 0, .int ep 0]):∃ h':Heap,(∀ b u,b≠it->s.heap.get? b=some u->h'.get? b=some u)/\q2o h' it (.int (x:Int) 0) S (i+1) n ep /\
   ∀ {A:Around} {E:Value->Shared->Prop} {P:Fin->Shared->Prop} {v:Value},wpAny (model prog w) A (ret v) P E {s with heap:=h'}->wpAny (model prog w) A (do
    setField (.ref it) 0 (rawInt x)
    setField (.ref it) 1 (rawInt ((i:Int)+1))
    ret v) P E s:=by
 have h1:(s.heap.update it (Obj.mapFields (·.setIfInBounds 0 (rawInt x)))).get? it=some (Obj.mapFields (·.setIfInBounds 0 (rawInt x)) oi):=Heap.get?_update_self _ hoi (Obj.isFreed_of_fields (Obj.data_mapFields hdi _))
 have d1:(Obj.mapFields (·.setIfInBounds 0 (rawInt x)) oi).data=.fields #[.int x 0, .int i 0, .ref S, .int n 0, .int ep 0]:=by rw [Obj.data_mapFields hdi];simp [rawInt]
 refine ⟨(s.heap.update it (Obj.mapFields (·.setIfInBounds 0 (rawInt x)))).update it (Obj.mapFields (·.setIfInBounds 1 (rawInt ((i:Int)+1)))),fun b u hb e=>?_,⟨_,Heap.get?_update_self _ h1 (Obj.isFreed_of_fields (Obj.data_mapFields d1 _)),(Obj.cls_mapFields ..).trans ((Obj.cls_mapFields ..).trans hci),by rw [Obj.data_mapFields d1];simp [rawInt]⟩,fun {A E P v} hh=>?_⟩
 ·rw [Heap.get?_update_ne _ _ _ _ hb,Heap.get?_update_ne _ _ _ _ hb];exact e
 ·refine wpAny_bind (wpAny_setField hoi hdi (by simp) ?_)
  exact wpAny_bind (wpAny_setField h1 d1 (by simp) hh)
theorem qiq {S T it:Addr} {o:Obj} {es:Array (Int×Value)} {ep:Nat} {t:SetTable} {f v:Value} {i:Nat} {ord:List Value} {Q:Option Value->Shared->Prop}
  (ho:s.heap.get? S=some o) (hd:o.data=.set es ep t) (hf:t.fits es.size=true) (hit:q2o s.heap it f S i es.size ep) (hne:S≠it) (hnT:T≠it)
  (hm:Mode w s.heap S T es ep t f i ord) (hv:ord[i]?=some v)
  (hQ:∀ h' f',q2o h' it f' S (i+1) es.size ep->Mode w h' S T es ep t f' (i+1) ord->(∀ b u,b≠it->s.heap.get? b=some u->h'.get? b=some u)->Q (some v) {s with heap:=h'}) :
  wpAny (model prog w) A (pyNext (.ref it)) Q E s:=by
 obtain ⟨oi,hoi,hci,hdi⟩:=id hit
 unfold pyNext
 refine wpAny_bind (wpAny_attempt (wpAny_callSpecial?_slot (name:=Str.ofString "__next__") hit.typeIs q2r
  (wpAny_call_entry q2r hit.typeIs q6i ?_ (q6x _))))
 unfold Builtin.«set_iterator.__next__»
 refine wpAny_bind (m:=slotArgs _ _ _) (wpAny_pure ?_)
 refine wpAny_bind (wpAny_fieldsOf hoi hdi ?_)
 dsimp only
 refine wpAny_bind (wpAny_setEntries_of ho hd hf ?_)
 rw [if_neg (by simp)]
 rcases hm with ⟨m1,⟨sl,rfl⟩,m3⟩ | ⟨m1,m2,m3,m4,⟨sl,rfl,m5⟩,m6⟩ | ⟨m1,oT,pl,rfl,m3,m4,m5,m6⟩
 ·refine wpAny_bind (qca ho hd hf m1 ?_)
  have e:((pickOrder (w.params.setOrder S ep) es)[i]?).map (fun e=>(e.2,sl))=some (v,sl):=by
   rw [m3,List.getElem?_map,Array.getElem?_toList] at hv
   cases hq:(pickOrder (w.params.setOrder S ep) es)[i]? with
   | none=>rw [hq] at hv;cases hv
   | some u=>rw [hq] at hv;cases hv;rfl
  simp only [Int.toNat_natCast]
  rw [e]
  dsimp only
  obtain ⟨h',hk,hi',hh⟩:=qep hoi hci hdi (x:=sl)
  refine hh (wpAny_pure ⟨_,rfl,wpAny_pure (hQ _ _ hi' (.inl ⟨m1,⟨sl,rfl⟩,m3⟩) fun b u hb e=>hk b u hb e)⟩)
 ·have hlt:i<es.size:=by
   have:=(List.getElem?_eq_some_iff.mp hv).1
   rw [m6,List.length_map,Array.length_toList] at this;exact this
  have hz:t.place.size=es.size:=by
   simp only [SetTable.fits,Bool.and_eq_true,beq_iff_eq] at hf;exact hf.1
  have hlp:i<t.place.size:=by rw [hz];exact hlt
  refine wpAny_bind (qck ho hd hf m1 m2 m3 ?_)
  simp only [Int.toNat_natCast]
  rw [m5,Array.getElem?_eq_getElem hlt,Array.getElem?_eq_getElem hlp]
  have ev:es[i].2=v:=by
   rw [m6,List.getElem?_map,Array.getElem?_toList,Array.getElem?_eq_getElem hlt] at hv;cases hv;rfl
  dsimp only
  obtain ⟨h',hk,hi',hh⟩:=qep hoi hci hdi (x:=t.place[i]+1)
  refine hh (wpAny_pure ⟨_,rfl,?_⟩)
  rw [ev]
  exact wpAny_pure (hQ _ _ hi' (.inr (.inl ⟨m1,m2,m3,m4,⟨_,rfl,qh5 m4 hlp⟩,m6⟩)) fun b u hb e=>hk b u hb e)
 ·dsimp only
  refine wpAny_bind (wpAny_seqItems m3 m4 ?_)
  have hpl:pl.length=es.size:=by have:=m5.length_eq;rw [List.length_range] at this;exact this
  have hin:∀ p∈pl,p<es.size:=fun p hp=>List.mem_range.mp (m5.mem_iff.mp hp)
  have hord:∀ l:List Nat,(∀ p∈l,p<es.size)->l.filterMap (fun p=>(es[p]?).map (·.2))=l.map fun p=>((es[p]?).map (·.2)).getD default:=by
   intro l hl
   induction l with
   | nil=>rfl
   | cons a r ih =>
    have ha:=hl a List.mem_cons_self
    rw [List.map_cons, <- ih fun p hp=>hl p (List.mem_cons_of_mem _ hp),List.filterMap_cons_some (b:=es[a].2) (by rw [Array.getElem?_eq_getElem ha];rfl),Array.getElem?_eq_getElem ha];rfl
  have hlt:i<pl.length:=by
   have:=(List.getElem?_eq_some_iff.mp hv).1
   rw [m6,hord pl hin,List.length_map] at this;exact this
  have hp:pl[i]<es.size:=hin _ (List.getElem_mem hlt)
  have ev:es[pl[i]].2=v:=by
   rw [m6,hord pl hin,List.getElem?_map,List.getElem?_eq_getElem hlt] at hv
   rw [Option.map_some,Array.getElem?_eq_getElem hp] at hv
   cases hv;rfl
  have eq:(pl.map fun p:Nat=>Value.int (p:Int) 0).toArray[i]?=some (Value.int (pl[i]:Int) 0):=by
   rw [List.getElem?_toArray]
   show (pl.map fun p:Nat=>Value.int (p:Int) 0)[i]?=_
   rw [List.getElem?_map,List.getElem?_eq_getElem hlt];rfl
  dsimp only
  simp only [Int.toNat_natCast]
  rw [eq]
  dsimp only
  simp only [Int.toNat_natCast]
  refine wpAny_bind ?_
  unfold setNextDrawn
  refine wpAny_bind (wpAny_setState_of ho hd hf ?_)
  dsimp only
  rw [if_neg (by simp)]
  have e2:es[pl[i]]?=some es[pl[i]]:=Array.getElem?_eq_getElem hp
  rw [e2]
  refine wpAny_pure ?_
  refine wpAny_bind (wpAny_setField hoi hdi (by simp) ?_)
  refine wpAny_pure ⟨_,rfl,?_⟩
  show wpAny _ _ (pure (some es[pl[i]].2)) _ _ _
  rw [ev]
  refine wpAny_pure (hQ _ (.ref T) ⟨_,Heap.get?_update_self _ hoi (Obj.isFreed_of_fields (Obj.data_mapFields hdi _)),(Obj.cls_mapFields ..).trans hci,by rw [Obj.data_mapFields hdi];simp [rawInt]⟩ (.inr (.inr ⟨m1,oT,pl,rfl,?_,m4,m5,m6⟩)) fun b u hb e=>?_)
  ·rw [Heap.get?_update_ne _ _ _ _ hnT];exact m3
  ·rw [Heap.get?_update_ne _ _ _ _ hb];exact e
theorem q81 {it:Addr} {oi:Obj} {vs:Array Value} {Q:Option Value->Shared->Prop} (hh:A.handled=none) (hci:oi.cls=.type "set_iterator") (hoi:s.heap.get? it=some oi) (hdi:oi.data=.fields vs) (hz:2<vs.size)
  (hQ:∀ h',Heap.ExtBut it s.heap h'->Q none {s with heap:=h'}):wpAny (model prog w) A.in1 (do
    setField (.ref it) 2 .none
    let e <- newExc (.type "StopIteration") []
    raiseNew e) (fun fin s' => ∃ v,fin=Fin.done (.ret v)/\wpAny (model prog w) A (pure (some v)) Q E s')
  (fun e s' => wpAny (model prog w) A (do if <- isInstance e (.type "StopIteration") then pure none else throw e) Q E s') s:=by
 refine wpAny_bind (wpAny_setField hoi hdi hz ?_)
 show wpAny _ _ (newExc (.type "StopIteration") [] >>= _) _ _ _
 refine wpAny_bind ?_
 simp only [newExc,newTuple]
 refine wpAny_bind (wpAny_newObj_type ?_ (by size_fits))
 refine wpAny_bind (m:=firstArgMember _ _) (wpAny_of_eq (a:=Value.none) (by first | rfl | (simp only [firstArgMember];rfl)) ?_)
 refine wpAny_newObj_type ?_ (by size_fits)
 simp only [raiseNew]
 refine wpAny_bind (wpAny_handled ?_)
 rw [show A.in1.handled=none from hh]
 refine wpAny_bind (wpAny_pure (wpAny_throw ?_))
 refine wpAny_bind (wpAny_isInstance (T:="StopIteration") (b:=true) ⟨_,Heap.get?_push_size _ rfl,rfl⟩ isSubtype_stop ?_)
 exact wpAny_pure (hQ _ (((Heap.SameBut.update ..).extBut.push _).push _))
theorem qlz {S T it:Addr} {o:Obj} {es:Array (Int×Value)} {ep:Nat} {t:SetTable} {f:Value} {ord:List Value} {Q:Option Value->Shared->Prop} (hh:A.handled=none)
  (ho:s.heap.get? S=some o) (hd:o.data=.set es ep t) (hf:t.fits es.size=true) (hit:q2o s.heap it f S es.size es.size ep) (hne:S≠it) (hnT:T≠it)
  (hm:Mode w s.heap S T es ep t f es.size ord) (hl:ord.length=es.size)
  (hQ:∀ h',Heap.ExtBut it s.heap h'->Q none {s with heap:=h'}):wpAny (model prog w) A (pyNext (.ref it)) Q E s:=by
 obtain ⟨oi,hoi,hci,hdi⟩:=id hit
 unfold pyNext
 refine wpAny_bind (wpAny_attempt (wpAny_callSpecial?_slot (name:=Str.ofString "__next__") hit.typeIs q2r
  (wpAny_call_entry q2r hit.typeIs q6i ?_ (q6x _))))
 unfold Builtin.«set_iterator.__next__»
 refine wpAny_bind (m:=slotArgs _ _ _) (wpAny_pure ?_)
 refine wpAny_bind (wpAny_fieldsOf hoi hdi ?_)
 dsimp only
 refine wpAny_bind (wpAny_setEntries_of ho hd hf ?_)
 rw [if_neg (by simp)]
 rcases hm with ⟨m1,⟨sl,rfl⟩,m3⟩ | ⟨m1,m2,m3,m4,⟨sl,rfl,m5⟩,m6⟩ | ⟨m1,oT,pl,rfl,m3,m4,m5,m6⟩
 ·refine wpAny_bind (qca ho hd hf m1 ?_)
  have e:((pickOrder (w.params.setOrder S ep) es)[es.size]?).map (fun e=>(e.2,sl))=none:=by
   have:(pickOrder (w.params.setOrder S ep) es).size=es.size:=by rw [<- hl,m3,List.length_map,Array.length_toList]
   rw [Array.getElem?_eq_none (by omega)];rfl
  simp only [Int.toNat_natCast]
  rw [e]
  exact q81 hh hci hoi hdi (by simp) hQ
 ·refine wpAny_bind (qck ho hd hf m1 m2 m3 ?_)
  simp only [Int.toNat_natCast]
  rw [m5,Array.getElem?_eq_none (Nat.le_refl _)]
  exact q81 hh hci hoi hdi (by simp) hQ
 ·dsimp only
  refine wpAny_bind (wpAny_seqItems m3 m4 ?_)
  have hpl:pl.length=es.size:=by have:=m5.length_eq;rw [List.length_range] at this;exact this
  have eq:(pl.map fun p:Nat=>Value.int (p:Int) 0).toArray[es.size]?=none:=Array.getElem?_eq_none (by simp [hpl])
  dsimp only
  simp only [Int.toNat_natCast]
  rw [eq]
  dsimp only
  refine wpAny_bind (wpAny_setField hoi hdi (by simp) ?_)
  have h1:(s.heap.update it (Obj.mapFields (·.setIfInBounds 0 (rawInt 0)))).get? it=some (Obj.mapFields (·.setIfInBounds 0 (rawInt 0)) oi):=Heap.get?_update_self _ hoi (Obj.isFreed_of_fields (Obj.data_mapFields hdi _))
  refine q81 (s:={s with heap:=s.heap.update it (Obj.mapFields (·.setIfInBounds 0 (rawInt 0)))}) hh ((Obj.cls_mapFields ..).trans hci) h1 (Obj.data_mapFields hdi _) (by simp) fun h' he=>?_
  exact hQ h' fun b u hb e=>he b u hb (by show (s.heap.update _ _).get? b=_;rw [Heap.get?_update_ne _ _ _ _ hb];exact e)
theorem Mode.at {h h':Heap} {S T:Addr} {es:Array (Int×Value)} {ep:Nat} {t:SetTable} {f:Value} {i:Nat} {ord:List Value} (m:Mode w h S T es ep t f i ord) (k:∀ o,h.get? T=some o->h'.get? T=some o):Mode w h' S T es ep t f i ord:=by
 rcases m with m | m | ⟨m1,o,pl,m2,m3,m4⟩
 ·exact .inl m
 ·exact .inr (.inl m)
 ·exact .inr (.inr ⟨m1,o,pl,m2,k _ m3,m4⟩)
theorem qf9 {it S:Addr} {f:Value} {i n ep:Nat} {Q:Value->Shared->Prop} (hit:q2o s.heap it f S i n ep) (h:Q (.ref it) s):wpAny (model prog w) A (pyIter (.ref it)) Q E s:=by
 refine wpAny_pyIter_slot hit.typeIs q73 (wpAny_call_entry q73 hit.typeIs qai ?_ (qbr _))
 show wpAny _ _ (ret (.ref it)) _ _ s
 exact wpAny_pure ⟨_,rfl, "set_iterator",_,hit.typeIs,q2r.lookup,h⟩
theorem qj8 (hh:A.handled=none) (it S T:Addr) (hne:S≠it) (hnT:T≠it) {o:Obj} {es:Array (Int×Value)} {ep:Nat} {t:SetTable} {ord:List Value} (hd:o.data=.set es ep t) (hf:t.fits es.size=true) (hl:ord.length=es.size) :
  Walks prog w A it [it,S,T] [it] es.size (fun i v=>ord[i]?=some v) (fun i h=>∃ f,q2o h it f S i es.size ep/\h.get? S=some o/\Mode w h S T es ep t f i ord) where
 sub:=fun b hb=>by simp at hb;simp [hb]
 frame:=fun i h h' st hk=>let ⟨f,a,b,c⟩:=st;⟨f,a.at fun o e=>hk it (by simp) o e,hk S (by simp) _ b,c.at fun o e=>hk T (by simp) o e⟩
 item:=fun i s Q E hi st hQ=>by
  obtain ⟨f,a,b,c⟩:=st
  have hv:ord[i]?=some (ord[i]'(by rw [hl];exact hi)):=List.getElem?_eq_getElem _
  refine qiq b hd hf a hne hnT c hv fun h' f' x1 x2 x3=>hQ _ h' s.toks hv ⟨f',x1,x3 S _ hne b,x2⟩ fun b u hb e=>x3 b u (fun z=>hb (by simp [z])) e
 done:=fun s Q E st hQ=>by
  obtain ⟨f,a,b,c⟩:=st
  exact qlz hh b hd hf a hne hnT c hl fun h' he=>hQ h' s.toks fun b u hb e=>he b u (fun z=>hb (by simp [z])) e
 self:=fun _ _ _ _ st hQ=>let ⟨_,a,_⟩:=st;qf9 a hQ
end
end L2
namespace L2
open PySem PySem.Spec PyProof.Rows PySem.Calls
section
variable {prog:Program} {w:World} {K:Type} [DecidableEq K] {knd:KeyKind prog w K} {A:Around} {E:Value->Shared->Prop} {s:Shared}
theorem qi1 {S:Addr} {o:Obj} {es:Array (Int×Value)} {ep:Nat} {t:SetTable} {Q:Value->Shared->Prop}
  (ho:s.heap.get? S=some o) (hex:o.ExactSet) (hd:o.data=.set es ep t) (hf:t.fits es.size=true) (hg:q1q t) (sizeB:es.size<=sizeLine) (hled:t.led = !w.params.followText "set-order")
  (hQ:∀ (it T:Addr) (f:Value) (ord:List Value) (h':Heap) (d:_),s.heap.objs.size<=it->(T=S\/s.heap.objs.size<=T)->T≠it->it<h'.objs.size->T<h'.objs.size->q2o h' it f S 0 es.size ep->Mode w h' S T es ep t f 0 ord->ord.Perm (es.toList.map (·.2)) ->
   (∀ b u,s.heap.get? b=some u->h'.get? b=some u)->Q (.ref it) {s with heap:=h',drawn:=d}) :
  wpAny (model prog w) A (pyIter (.ref S)) Q E s:=by
 have hT:s.TypeIs (.ref S) "set":=⟨o,ho,hex.1⟩
 refine wpAny_pyIter_slot hT F.slot_set_iter (wpAny_call_entry F.slot_set_iter hT qb6 ?_ (F.args_set_iter_1 _))
 unfold Builtin.«frozenset.__iter__» Builtin.Frozenset.slot0 slotArgs
 simp only [List.isEmpty_nil,Bool.not_true,Bool.false_eq_true, ↓reduceIte,bind_assoc,List.length_nil,bne_self_eq_false]
 unfold Builtin.Frozenset.addrOf Builtin.Frozenset.sizeOf
 refine wpAny_bind (wpAny_pure ?_)
 try dsimp only
 refine wpAny_bind (wpAny_pure ?_)
 refine wpAny_bind (wpAny_bind (wpAny_setEntries_of ho hd hf (wpAny_pure ?_)))
 refine wpAny_bind ?_
 unfold setDrawn
 refine wpAny_bind (wpAny_setState_of ho hd hf ?_)
 dsimp only
 refine wpAny_bind (q4k ?_)
 show wpAny _ _ (pure (!w.params.followText "set-order" && (!t.plain && decide (es.size > 1)))) _ _ _
 refine wpAny_pure ?_
 by_cases hc:(!w.params.followText "set-order" && (!t.plain && decide (es.size > 1)))=true
 ·rw [if_pos hc]
  have hb:w.params.followText "set-order" = false:=by
   rw [Bool.and_eq_true] at hc;simpa using hc.1
  refine wpAny_bind (q6o es.size (List.range es.size) _ _ (by simp) fun pl d hp=>?_)
  have hpl:pl.length=es.size:=by have:=hp.length_eq;rw [List.length_range] at this;exact this
  have hin:∀ p∈pl,p<es.size:=fun p hp' => List.mem_range.mp (hp.mem_iff.mp hp')
  have hsz:=sizeB
  refine wpAny_bind (wpAny_newTuple ?_ (by rw [List.length_map,hpl];exact hsz))
  have g1:(s.heap.push {cls:=.type "tuple",data:=.seq (pl.map fun i:Nat=>rawInt i).toArray}).get? S=some o:=Heap.get?_push_of_some _ ho
  refine wpAny_bind ?_
  refine wpAny_setEpoch_of (s:={s with heap:=s.heap.push {cls:=.type "tuple",data:=.seq (pl.map fun i:Nat=>rawInt i).toArray},drawn:=d}) g1 hd hf ?_
  refine wpAny_bind (wpAny_newObj_type ?_)
  have lt1:∀ {h:Heap} {o':Obj},h.objs.size<(h.push o').objs.size:=by intro h o';rw [Heap.size_push];exact Nat.lt_succ_self _
  have hS:=Heap.lt_size ho
  refine wpAny_pure ⟨_,rfl, "set_iterator",_,⟨_,Heap.get?_push_size _ rfl,rfl⟩,q2r.lookup,?_⟩
  refine hQ _ s.heap.objs.size (.ref s.heap.objs.size) (pl.filterMap fun p=>(es[p]?).map (·.2)) _ d (Nat.le_of_lt lt1) (.inr (Nat.le_refl _)) (Nat.ne_of_lt lt1) lt1 (Nat.lt_trans lt1 lt1) ⟨_,Heap.get?_push_size _ rfl,rfl,rfl⟩
   (.inr (.inr ⟨hb,_,pl,rfl,Heap.get?_push_of_some _ (Heap.get?_push_size _ rfl),rfl,hp,rfl⟩)) ?_ fun b u e=>Heap.get?_push_of_some _ (Heap.get?_push_of_some _ e)
  refine (hp.filterMap _).trans ?_
  have:(List.range es.size).filterMap (fun p=>(es[p]?).map (·.2))=es.toList.map (·.2):=by
   have e:=List.filterMap_getElem?_range_length es.toList
   conv=>rhs;rw [<- e]
   rw [List.map_filterMap,Array.length_toList]
   simp only [Array.getElem?_toList]
  rw [this]
 ·rw [if_neg hc]
  refine wpAny_bind (wpAny_pure ?_)
  refine wpAny_bind (wpAny_setEpoch_of ho hd hf ?_)
  refine wpAny_bind (wpAny_newObj_type ?_)
  refine wpAny_pure ⟨_,rfl, "set_iterator",_,⟨_,Heap.get?_push_size _ rfl,rfl⟩,q2r.lookup,?_⟩
  have k:∀ (o':Obj) b u,s.heap.get? b=some u->(s.heap.push o').get? b=some u:=fun o' b u e=>Heap.get?_push_of_some _ e
  have hS:=Heap.lt_size ho
  have lt1:∀ {o':Obj},s.heap.objs.size<(s.heap.push o').objs.size:=by intro o';rw [Heap.size_push];exact Nat.lt_succ_self _
  have lt2:∀ {o':Obj},S<(s.heap.push o').objs.size:=by intro o';rw [Heap.size_push];exact Nat.lt_succ_of_lt hS
  cases hb:w.params.followText "set-order" with
  | true =>
   exact hQ s.heap.objs.size S (.int 0 0) _ _ s.drawn (Nat.le_refl _) (.inl rfl) (Nat.ne_of_lt hS) lt1 lt2 ⟨_,Heap.get?_push_size _ rfl,rfl,rfl⟩ (.inl ⟨hb,⟨0,rfl⟩,rfl⟩) ((qkb _ es es.size 0 es.toList #[] (by simp)).map _) (k _)
  | false =>
   have h2:(!t.plain && decide (es.size > 1))=false:=by rw [hb] at hc;simpa using hc
   have h3:t.led=true:=by rw [hled,hb];rfl
   exact hQ s.heap.objs.size S (.int 0 0) _ _ s.drawn (Nat.le_refl _) (.inl rfl) (Nat.ne_of_lt hS) lt1 lt2 ⟨_,Heap.get?_push_size _ rfl,rfl,rfl⟩ (.inr (.inl ⟨hb,h2,h3,hg.up,⟨0,rfl,qhp hg.up⟩,rfl⟩)) (.refl _) (k _)
theorem qjl {r:Addr} {Q:Bool->Shared->Prop} (hT:s.TypeIs (.ref r) "set") (h:Q false s):wpAny (model prog w) A (Builtin.List.listLengthHint (.ref r)) Q E s:=by
 unfold Builtin.List.listLengthHint
 refine wpAny_bind (wpAny_specialOf hT PySem.F.slot_set_len.lookup ?_)
 generalize hid:("set.__len__" : String)=id0
 wp_delta
 rw [show splitId id0=some ("set", "__len__") from by subst hid;decide +kernel]
 subst hid
 refine wpAny_bind (wpAny_isInstance (T:="set") (b:=true) hT (by rw [isSubtype_type];kernel_rfl) ?_)
 refine wpAny_ite_split (fun hab=>absurd hab (by decide)) (fun _=>?_)
 refine wpAny_ite_split (fun _=>?_) (fun hab=>absurd (by decide +kernel) hab)
 refine wpAny_bind (wpAny_typeOf hT ?_)
 exact wpAny_pure h
theorem ItemsOf.eq {ord:List Value} {acc:Array Value} {n:Nat} (h:ItemsOf (fun i v=>ord[i]?=some v) acc n) (hn:ord.length=n):acc.toList=ord:=by
 refine List.ext_getElem? fun i=>?_
 rw [Array.getElem?_toList]
 cases hq:acc[i]? with
 | some v=>exact (h.2 i v hq).symm
 | none =>
  have:n<=i:=by
   rw [<- h.1]
   rcases Nat.lt_or_ge i acc.size with q | q
   ·rw [Array.getElem?_eq_getElem q] at hq;cases hq
   ·exact q
  rw [List.getElem?_eq_none (by omega)]
theorem qfa {S:Addr} {o:Obj} {es:Array (Int×Value)} {ep:Nat} {t:SetTable} {Q:List Value->Shared->Prop} (hh:A.handled=none)
  (ho:s.heap.get? S=some o) (hex:o.ExactSet) (hd:o.data=.set es ep t) (hf:t.fits es.size=true) (hg:q1q t) (sizeB:es.size<=sizeLine) (hled:t.led = !w.params.followText "set-order")
  (hQ:∀ (ord:List Value) (h':Heap) (d:_) (tk:Nat),ord.Perm (es.toList.map (·.2))->(∀ b u,s.heap.get? b=some u->h'.get? b=some u)->s.heap.objs.size<=h'.objs.size->Q ord {s with heap:=h',drawn:=d,toks:=tk}) :
  wpAny (model prog w) A (collect (.ref S)) Q E s:=by
 unfold collect
 refine wpAny_bind (wpAny_runValue (codeAny_builtin F.entry_proto_collect ?_))
 rw [Around.under_plainId F.plain_proto_collect _]
 show wpAny _ A.in1 (newList [] >>= fun l=>again (.builtin "list.__iadd__" ⟨[l, .ref S],[]⟩)) _ _ s
 refine wpAny_bind (wpAny_newObj_type ?_)
 refine wpAny_pure ⟨plainId_quiet F.plain_list_iadd _,codeAny_builtin F.entry_list_iadd ?_⟩
 rw [Around.under_plainId F.plain_list_iadd _]
 have hSl:=Heap.lt_size ho
 generalize hN:s.heap.objs.size=N at hSl
 have lt1:∀ {h:Heap} {o':Obj},h.objs.size<(h.push o').objs.size:=by intro h o';rw [Heap.size_push];exact Nat.lt_succ_self _
 have gN:(s.heap.push {cls:=.type "list",data:=.seq ([]:List Value).toArray}).get? N=some {cls:=.type "list",data:=.seq ([]:List Value).toArray}:=by rw [<- hN];exact Heap.get?_push_size _ rfl
 have gS:(s.heap.push {cls:=.type "list",data:=.seq ([]:List Value).toArray}).get? S=some o:=Heap.get?_push_of_some _ ho
 have kp:∀ b u,s.heap.get? b=some u->(s.heap.push {cls:=.type "list",data:=.seq ([]:List Value).toArray}).get? b=some u:=fun b u e=>Heap.get?_push_of_some _ e
 have hNs:N<(s.heap.push {cls:=.type "list",data:=.seq ([]:List Value).toArray}).objs.size:=by rw [<- hN];exact lt1
 generalize hH:s.heap.push {cls:=.type "list",data:=.seq ([]:List Value).toArray}=H at gN gS kp hNs
 show wpAny _ A.in1 (Builtin.List.listExtendWith (.ref N) (.ref S) (.ref N)) _ _ {s with heap:=H}
 unfold Builtin.List.listExtendWith
 have hT:Shared.TypeIs {s with heap:=H} (.ref S) "set":=⟨o,gS,hex.1⟩
 refine wpAny_bind (wpAny_typeOf (T:="set") hT ?_)
 have h1:Builtin.List.listSameRef (.ref N) (.ref S)=false:=by simp [Builtin.List.listSameRef,Nat.ne_of_gt hSl]
 simp only [h1,show (Value.type "set" == Value.type "list")=false by decide,show (Value.type "set" == Value.type "tuple")=false by decide,Bool.or_false,Bool.false_eq_true,if_false]
 refine wpAny_bind (qi1 (s:={s with heap:=H}) gS hex hd hf hg sizeB hled fun it T f ord h2 d a1 a2 a3 a4 a5 a6 a7 a8 a9=>?_)
 have hSit:S≠it:=fun z=>absurd (Nat.lt_trans hSl hNs) (Nat.not_lt.mpr (z ▸ a1))
 have hNit:N≠it:=fun z=>absurd hNs (Nat.not_lt.mpr (z ▸ a1))
 have hNT:N≠T:=fun z=>by
  rcases a2 with a2 | a2
  ·exact absurd hSl (by rw [<- a2, <- z];exact Nat.lt_irrefl _)
  ·exact absurd hNs (Nat.not_lt.mpr (z ▸ a2))
 have hl:ord.length=es.size:=by have:=a8.length_eq;rw [List.length_map,Array.length_toList] at this;exact this
 have g2:h2.get? N=some {cls:=.type "list",data:=.seq ([]:List Value).toArray}:=a9 _ _ gN
 have gS2:h2.get? S=some o:=a9 _ _ gS
 refine wpAny_bind (wpAny_holding (qjl (s:={s with heap:=h2,drawn:=d}) ⟨o,gS2,hex.1⟩ ?_))
 have W:=qj8 (prog:=prog) (w:=w) (A:=A.in1) (ord:=ord) hh it S T hSit a3 hd hf hl
 have hSf:N∉[it,S,T]:=by
  simp only [List.mem_cons,List.not_mem_nil,or_false,not_or];exact ⟨hNit,Nat.ne_of_gt hSl,hNT⟩
 have key:∀ {R:Result->Shared->Prop} (h:Heap) (c₁ tk:Nat),(∀ b u,b≠N->h2.get? b=some u->h.get? b=some u)->h.get? N=some {cls:=.type "list",dict:=none,data:=.seq #[] c₁,slots:=#[]} ->
   (∀ h' tk c',(∀ b u,s.heap.get? b=some u->h'.get? b=some u)->h'.get? N=some {cls:=.type "list",dict:=none,data:=.seq ord.toArray c',slots:=#[]}->R (.ok (.ret (.ref N))) {s with heap:=h',drawn:=d,toks:=tk}) ->
   codeAny (model prog w) A (.builtin "list.extend.loop" ⟨[.ref N, .ref it, .ref N],[]⟩) R {s with heap:=h,drawn:=d,toks:=tk}:=by
  intro R h c₁ tk hk hc hR
  refine codeAny_extend_loopS W.toS (Nat.le_trans (Nat.le_of_eq rfl) sizeB) N hSf _ es.size 0 _ #[] c₁ rfl (Nat.zero_le _) ⟨f,a6.at fun o e=>hk it o (Ne.symm hNit) e,hk S _ (Nat.ne_of_lt hSl) gS2,a7.at fun o e=>hk T o (Ne.symm hNT) e⟩ hc (ItemsOf.nil _) fun s' acc' c' hm hS' hacc=>?_
  rw [Moved.eq_with hm]
  have e:=ItemsOf.eq hacc hl
  refine hR s'.heap s'.toks c' (fun b u e=>?_) (by rw [<- e,Array.toArray_toList];exact hS')
  have hbN:b≠N:=by rw [<- hN];exact Nat.ne_of_lt (Heap.lt_size e)
  have hbi:b≠it:=Nat.ne_of_lt (Nat.lt_of_lt_of_le (Nat.lt_trans (by rw [<- hN];exact Heap.lt_size e) hNs) a1)
  refine hm.heap b u (fun z=>?_) (hk b u hbN (a9 b u (kp b u e)))
  rcases List.mem_cons.mp z with z | z
  ·exact hbN z
  ·rw [List.mem_singleton] at z;exact hbi z
 have fin:∀ h' tk c',(∀ b u,s.heap.get? b=some u->h'.get? b=some u)->h'.get? N=some {cls:=.type "list",dict:=none,data:=.seq ord.toArray c',slots:=#[]} ->
   wpAny (model prog w) A (do
    let o <- load N
    match o.data with
    | .seq xs _=>pure xs.toList
    | _=>unsupported "internal:collect") Q E {s with heap:=h',drawn:=d,toks:=tk}:=by
  intro h' tk c' hk hc
  refine wpAny_bind (wpAny_load hc ?_)
  exact wpAny_pure (by simpa using hQ ord h' d tk a8 hk (by rw [hN];exact Nat.le_of_lt (Heap.lt_size hc)))
 refine wpAny_ite_split (fun _=>?_) (fun _=>wpAny_pure ⟨plainId_quiet PySem.F.plain_extend_loop _,key h2 0 s.toks (fun b u _ e=>e) g2 fun h' tk c' hk hc=>fin h' tk c' hk hc⟩)
 refine wpAny_bind (wpAny_rule ?_)
 refine wpAny_bind ?_
 show wpAny _ _ (updateSeq N (·.push .none) >>= fun _=>updateSeq N (·.pop)) _ _ _
 refine wpAny_bind (wpAny_updateSeq (s:={s with heap:=h2,drawn:=d}) g2 rfl ?_)
 have hS₂:=Heap.get?_update_self (Obj.mapSeq (·.push Value.none)) g2 rfl
 refine wpAny_updateSeq (hz:=by seq_fits) hS₂ rfl ?_
 have hS₃:=Heap.get?_update_self (Obj.mapSeq (·.pop)) hS₂ rfl
 refine wpAny_pure ⟨plainId_quiet PySem.F.plain_extend_loop _,key _ _ s.toks (fun b u hb e=>?_) hS₃ fun h' tk c' hk hc=>fin h' tk c' hk hc⟩
 exact (Heap.get?_update_other _ _ (Ne.symm hb)).trans ((Heap.get?_update_other _ _ (Ne.symm hb)).trans e)
end
end L2
namespace L2
open PySem PySem.Spec PyProof.Rows PySem.Calls
section
variable {prog:Program} {w:World} {K:Type} [DecidableEq K] {knd:PySem.KeyKind prog w K} {A:Around} {E:Value->Shared->Prop} {s:Shared}
theorem q2j.perm:∀ {ord vs:List Value},ord.Perm vs->∀ {ks:List K},q2j knd vs ks->∃ ks',q2j knd ord ks'/\ks'.Perm ks:=by
 intro ord vs p
 induction p with
 | nil=>intro ks h;exact ⟨ks,h, .refl _⟩
 | cons x p ih =>
  intro ks h
  cases h with
  | cons hk hr=>obtain ⟨k',h1,h2⟩:=ih hr;exact ⟨_, .cons hk h1,h2.cons _⟩
 | swap x y l =>
  intro ks h
  cases h with
  | cons hk hr=>cases hr with
   | cons hk2 hr2=>exact ⟨_, .cons hk2 (.cons hk hr2), .swap _ _ _⟩
 | trans p q ih1 ih2 =>
  intro ks h
  obtain ⟨k1,h1,h2⟩:=ih2 h
  obtain ⟨k2,h3,h4⟩:=ih1 h1
  exact ⟨k2,h3,h4.trans h2⟩
theorem q2j.strs:∀ {vs:List Value} {ks:List Str},q2j (PySem.strKind prog w) vs ks->StrsAre vs ks
 | _,_, .nil=>.nil
 | _,_, .cons h r=>by
  obtain ⟨t,rfl⟩:=Value.isStrOf_shape h
  exact .cons _ _ r.strs
theorem q9j (a:Value) {Q₁:Value->Shared->Prop}
  (h:Q₁ (.ref s.heap.objs.size) {s with heap:=s.heap.push {cls:=.type "set",dict:=none,data:=.set #[] 0 (.fresh 0 0 (!w.params.followText "set-order"))}}) :
  codeAny (model prog w) A (.call (.builtin "set.__new__") ⟨[.type "set",a],[]⟩) (wants Q₁ E) s:=by
 refine codeAny_of_tree ?_
 show wpAny _ A.in1 (do checkBuiltinCall "set.__new__" ⟨[.type "set",a],[]⟩;again (.builtin "set.__new__" ⟨[.type "set",a],[]⟩)) _ _ s
 refine wpAny_bind (wpAny_of_eq (F.newCall_set_1 a) (wpAny_pure ⟨plainId_quiet F.plain_set_new _,codeAny_builtin F.entry_set_new ?_⟩))
 rw [Around.under_plainId F.plain_set_new _]
 unfold Builtin.«set.__new__» Builtin.Frozenset.newClass
 have hsub:=sub_set_self
 obtain ⟨hp,g,d,tk,os⟩:=s
 dsimp only
 wp_walk
 refine wpAny_askSetting (wpAny_pure ?_)
 dsimp only
 simp only [newObj]
 refine wpAny_bind (wpAny_alloc (wpAny_pure ?_))
 exact wpAny_pure h
theorem qfi {S:Addr} {ks:List Str} {Q:Value->Shared->Prop} (hh:A.handled=none) (hS:SetQ (PySem.strKind prog w) (!w.params.followText "set-order") s.heap S ks) (h64:ks.length<64)
  (h:∀ (l:Addr) (h':Heap) (d:_) (tk:Nat) (vs:List Value) (ns:List Str),(∀ b u,s.heap.get? b=some u->h'.get? b=some u)->s.heap.objs.size<=l->(∃ e,h'.get? l=some (seqObj "list" vs.toArray e))->StrsAre vs ns->ns.Perm ks->sortedS ns=true->Q (.ref l) {s with heap:=h',drawn:=d,toks:=tk}) :
  wpAny (model prog w) A (call (.builtin "sorted") [.ref S]) Q E s:=by
 obtain ⟨o,es,ep,t,vs,ho,hex,hd,hel,hp,hv,hb,hf,hl,hg⟩:=hS
 refine Calls.call_function_entry kind_sorted plain_sorted entry_sorted (args_sorted1 _) ?_
 unfold Builtin.«sorted»
 refine wpAny_bind (m:=checkCount "sorted" 1 1 _) (wpAny_pure ?_)
 refine wpAny_bind (qfa (by simpa using hh) ho hex hd hf hg (fits_of_scanBound hb) hl fun ord h1 d tk op hk hsz=>?_)
 obtain ⟨ns,hn,np⟩:=q2j.perm (op.trans hp) hv
 have hI:=hn.strs
 have hlen:ord.length<64:=by rw [hn.length,np.length_eq];exact h64
 refine wpAny_bind (wpAny_newList ?_ (Nat.le_trans (Nat.le_of_lt hlen) (by rw [sizeLine_eq];decide)))
 have hoL:(h1.push (seqObj "list" ord.toArray 0)).get? h1.objs.size=some (seqObj "list" ord.toArray 0):=Heap.get?_push_size _ rfl
 show wpAny _ _ _ _ _ {s with heap:=h1.push (seqObj "list" ord.toArray 0),drawn:=d,toks:=tk}
 refine wpAny_bind (wpAny_holding (wpAny_call_entry slot_list_sort ⟨_,hoL,rfl⟩ entry_list_sort (list_sort_treeK strKind_oneLt hoL hI.keysOf (fun v₁ v₂ rest e=>keyKind_strs (by rw [<- e];exact hI)) hlen fun st' a1 a2=>⟨_,rfl,?_⟩) (args_list_sort _)))
 refine wpAny_pure ⟨_,rfl,?_⟩
 obtain ⟨ns',b1,b2,b3⟩:=sorted_out_str hI a1 a2
 obtain ⟨e,he⟩:=sortedHeap_at (out:=(arrOf st').map (·.2)) hoL
 refine h h1.objs.size _ d tk ((arrOf st').map (·.2)).toList ns' (fun b u eb=>?_) hsz ?_ b1 (b2.trans np) b3
 ·have hlt:=Heap.lt_size (hk b u eb)
  rw [sortedHeap_old (Nat.ne_of_lt hlt) (by rw [size_push'];exact Nat.lt_succ_of_lt hlt),Heap.get?_push_ne _ _ _ (Nat.ne_of_lt hlt)]
  exact hk b u eb
 ·exact ⟨e,by rw [Array.toArray_toList];exact he⟩
end
end L2
namespace L2
open PySem PySem.Spec PyProof.Rows PySem.Calls
section
variable {prog:Program} {w:World} {K:Type} [DecidableEq K] {knd:PySem.KeyKind prog w K} {A:Around} {R:Result->Shared->Prop} {I:Addr} {fp wr:List Addr} {G:Array GenState->Array GenState->Prop} {P:Nat->Value->Prop} {St:Nat->Shared->Prop} {xs:List K} {led:Bool}
theorem qiy (W:WalksS prog w A.in1 I fp wr G xs.length P St) (S:Addr) (nf:S∉fp) (hv:∀ i v,P i v->∃ x,xs[i]?=some x/\knd.is x v=true/\v.scannable=true) (hb:xs.length+1<scanBound):∀ (k i:Nat) (s:Shared),xs.length - i=k->i<=xs.length->St i s ->
   SetQ knd led s.heap S (metK (xs.take i)) ->
   (∀ s',Moved (S::wr) G s s'->SetQ knd led s'.heap S (metK xs)->R (.ok (.ret .none)) s') ->
   codeAny (model prog w) A (.builtin "set.update.loop" ⟨[.ref S, .ref I],[]⟩) R s:=by
 have nw:S∉wr:=fun z=>nf (W.sub _ z)
 have up:∀ b∈wr,b∈S::wr:=fun b z=>List.mem_cons_of_mem _ z
 intro k
 induction k with
 | zero =>
  intro i s hk hi st hS hR
  obtain rfl:i=xs.length:=by omega
  refine codeAny_builtin F.entry_set_update_loop ?_
  rw [Around.under_plainId F.plain_set_update_loop _]
  show wpAny _ A.in1 (pyNext (.ref I) >>= _) _ _ s
  rw [List.take_length] at hS
  refine wpAny_bind (W.done s _ _ st fun s' m=>?_)
  exact wpAny_pure (hR s' (m.mono up) (hS.stay fun o e=>m.heap S o nw e))
 | succ k ih =>
  intro i s hk hi st hS hR
  have lt:i<xs.length:=by omega
  refine codeAny_builtin F.entry_set_update_loop ?_
  rw [Around.under_plainId F.plain_set_update_loop _]
  show wpAny _ A.in1 (pyNext (.ref I) >>= _) _ _ s
  refine wpAny_bind (W.item i s _ _ lt st fun v s1 hP st1 m1=>?_)
  obtain ⟨x,hx,hk1,hsc⟩:=hv i v hP
  have hS1:=hS.stay (h':=s1.heap) fun o e=>m1.heap S o nw e
  have tk:metK (xs.take (i+1))=meet (metK (xs.take i)) x:=by rw [List.take_add_one,hx];exact qjd _ _
  have le:(metK (xs.take i)).length<=i:=by
   have:=qbe (xs.take i) ([]:List K)
   rw [List.length_take] at this
   unfold metK
   simp at this;omega
  show wpAny _ A.in1 (holding [v] (setAdd S v) >>= _) _ _ s1
  refine wpAny_bind (wpAny_holding ?_)
  unfold setAdd
  refine wpAny_holding (wpAny_bind (knd.pyHash (k:=x) hk1 ?_))
  refine qls (knd:=knd) (s:={s1 with toks:=s1.toks+1}) hk1 hsc hS1 (by omega) fun b h' sb hS2=>?_
  rw [<- tk] at hS2
  refine wpAny_pure ⟨plainId_quiet F.plain_set_update_loop _,ih (i+1) _ (by omega) lt (W.frame _ s1 _ _ st1 (Nat.le_succ _) fun b hb' o e=>?_) hS2 fun s2 m2 hS4=>?_⟩
  ·rw [sb.2 b fun z=>nf (z ▸ hb')];exact e
  ·refine hR s2 (Moved.trans W.gtrans ((m1.mono up).then_heap (Nat.le_succ _) fun b o hb' e=>?_) m2) hS4
   rw [sb.2 b fun z=>hb' (z ▸ List.mem_cons_self)];exact e
end
section
variable {prog:Program} {w:World} {K:Type} [DecidableEq K] {knd:PySem.KeyKind prog w K} {A:Around} {E:Value->Shared->Prop} {s:Shared}
theorem qmi {l:Addr} {its:Array Value} {xs:List K} {Q:Value->Shared->Prop} (hh:A.handled=none) (hl:s.heap.IsList l its) (hi:∀ (i:Nat) v,its[i]?=some v->∃ x,xs[i]?=some x/\knd.is x v=true/\v.scannable=true) (hz:its.size=xs.length) (hb:xs.length+1<scanBound)
  (h:∀ (h':Heap) (tk:Nat),SetQ knd (!w.params.followText "set-order") h' s.heap.objs.size (metK xs) ->
   (∀ b o,b<s.heap.objs.size->s.heap.get? b=some o->h'.get? b=some o)->Q (.ref s.heap.objs.size) {s with heap:=h',toks:=tk}):wpAny (model prog w) A (call (.type "set") [.ref l]) Q E s:=by
 obtain ⟨c,tl,hmro⟩:=F.called_set.mro
 have hmade:=F.called_set.made
 have hsub:=F.called_set.sub
 refine wpAny_call (codeAny_of_tree (by
  show wpAny _ _ (callAny (.type "set") _) _ _ _
  refine wpAny_pure ⟨Code.quiet_builtin _ (by decide +kernel),codeAny_builtin F.entry_type_call ?_⟩
  rw [Around.under_plain (weight_type_call_type "set" [.ref l] []) rfl]
  have n1:=F.called_set.notType
  have n2:=F.called_set.canCreate
  have n3:=F.typeCall_set_1 (.ref l)
  repeat (any_goals (first | wp_step | assumption))
  refine codeAny_mono (q9j (.ref l) (E:=E) (Q₁:=fun ob s1=>ob=.ref s.heap.objs.size/\s1={s with heap:=s.heap.push ({cls:=.type "set",dict:=none,data:=.set #[] 0 (.fresh 0 0 (!w.params.followText "set-order"))})}) ⟨rfl,rfl⟩) fun r s1 hr=>?_
  cases r with
  | error e=>exact hr
  | ok fl =>
   cases fl with
   | ret ob =>
    obtain ⟨rfl,rfl⟩:=hr
    generalize hled:(!w.params.followText "set-order")=led at h ⊢
    have gS:(s.heap.push ({cls:=.type "set",dict:=none,data:=.set #[] 0 (.fresh 0 0 led)})).get? s.heap.objs.size=some ({cls:=.type "set",dict:=none,data:=.set #[] 0 (.fresh 0 0 led)}):=Heap.get?_push_size _ rfl
    have tS:Shared.TypeIs {s with heap:=s.heap.push ({cls:=.type "set",dict:=none,data:=.set #[] 0 (.fresh 0 0 led)})} (.ref s.heap.objs.size) "set":=⟨_,gS,rfl⟩
    have i1:=F.called_set.init.lookup
    have i2:=F.called_set.init.bind (.ref s.heap.objs.size)
    repeat (any_goals (first | wp_step | assumption))
    refine codeAny_mono (codeAny_call_builtin (R:=wants (fun r s2=>r=.none/\∃ h' tk,s2={s with heap:=h',toks:=tk}/\SetQ knd led h' s.heap.objs.size (metK xs) /\
      (∀ b o,b<s.heap.objs.size->s.heap.get? b=some o->h'.get? b=some o)) E) F.called_set.init.plain F.entry_set_init (check_set_init_1 tS ?_)) fun r2 s2 hr2=>?_
    ·obtain ⟨ol,q1,q2,nl,q3⟩:=hl
     obtain ⟨oc,od,oda,os⟩:=ol
     simp only at q2 q3
     subst q2;subst q3
     have q4:(s.heap.push ({cls:=.type "set",dict:=none,data:=.set #[] 0 (.fresh 0 0 led)})).get? l=some {cls:=.type "list",dict:=od,data:=.seq its nl,slots:=os}:=Heap.get?_push_of_some _ q1
     have u1:=F.sub_list_set
     have u2:=F.sub_list_frozenset
     have u3:(Value.type "list" == Value.type "dict")=false:=by decide
     have L1:(s.heap.push ({cls:=.type "set",dict:=none,data:=.set #[] 0 (.fresh 0 0 led)})).IsList l its:=⟨_,q4,rfl,nl,rfl⟩
     unfold Builtin.«set.__init__» noKeywords Builtin.Frozenset.updateFrom
     generalize hPI:pyIter=PI
     wp_walk
     subst hPI
     refine wpAny_pyIter_list L1 ?_
     refine (wpAny_bind (wpAny_runValue ?_))
     have ls:l<s.heap.objs.size:=Heap.lt_size q1
     have hd3:A.in1.in1.in1.handled=none:=by simp [hh]
     have ne:l≠(s.heap.push ({cls:=.type "set",dict:=none,data:=.set #[] 0 (.fresh 0 0 led)})).objs.size:=by rw [Heap.size_push];exact Nat.ne_of_lt (Nat.lt_succ_of_lt ls)
     have nS:s.heap.objs.size∉[(s.heap.push ({cls:=.type "set",dict:=none,data:=.set #[] 0 (.fresh 0 0 led)})).objs.size,l]:=by
      rw [Heap.size_push]
      intro z
      rcases List.mem_cons.mp z with z | z
      ·exact absurd z (Nat.ne_of_lt (Nat.lt_succ_self _))
      ·rw [List.mem_singleton] at z;exact absurd z (Nat.ne_of_gt ls)
     have WK:=(Walks.list (prog:=prog) (w:=w) hd3 (s.heap.push ({cls:=.type "set",dict:=none,data:=.set #[] 0 (.fresh 0 0 led)})).objs.size l ne its).toS
     rw [hz] at WK
     refine qiy (xs:=xs) (led:=led) WK s.heap.objs.size nS (fun i v z=>hi i v z) hb (xs.length - 0) 0 _ (by omega) (Nat.zero_le _) ⟨⟨_,Heap.get?_push_size _ rfl,rfl,rfl⟩,(L1.push _)⟩ ?_ ?_
     ·have gg:((s.heap.push ({cls:=.type "set",dict:=none,data:=.set #[] 0 (.fresh 0 0 led)})).push {cls:=.type "list_iterator",data:=.fields #[.ref l, .int 0 0]}).get? s.heap.objs.size=some {cls:=.type "set",dict:=none,data:=.set #[] 0 (.fresh 0 0 led)}:=Heap.get?_push_of_some _ gS
      exact qlx led gg
     ·intro s' m hS'
      obtain ⟨h',g',d',tk',os'⟩:=s'
      obtain rfl:g'=s.gens:=m.gens
      obtain rfl:d'=s.drawn:=m.drawn
      obtain rfl:os'=s.os:=m.os
      refine wpAny_pure (wpAny_pure ⟨rfl,h',tk',rfl,hS',fun b o hb' e=>?_⟩)
      refine m.heap b o (fun z=>?_) (Heap.get?_push_of_some _ (Heap.get?_push_of_some _ e))
      rcases List.mem_cons.mp z with z | z
      ·exact absurd z (Nat.ne_of_lt hb')
      ·rw [List.mem_singleton,Heap.size_push] at z;exact absurd z (Nat.ne_of_lt (Nat.lt_succ_of_lt hb'))
    ·cases r2 with
     | error e=>exact hr2
     | ok f2 =>
      cases f2 with
      | ret r =>
       obtain ⟨rfl,h',tk,rfl,hS',hk'⟩:=hr2
       repeat (any_goals (first | wp_step | assumption))
       exact h _ _ hS' hk'
      | _=>exact hr2.elim
   | _=>exact hr.elim))
end
end L2
namespace L2
open PySem PySem.Spec PyProof.Rows
def gtS (a b:Str):Bool:=decide (b.cps.toList<a.cps.toList)
theorem qco {a b c:Str} (h1:gtS a b=false) (h2:gtS b c=false):gtS a c=false:=by
 unfold gtS at *
 simp only [decide_eq_false_iff_not] at *
 intro h
 exact h2 (Classical.byContradiction fun z=>h1 (List.lt_of_le_of_lt (List.not_lt.mp z) h))
theorem qm7 {a b:Str} (h1:gtS a b=false) (h2:gtS b a=false):a=b:=by
 unfold gtS at *
 simp only [decide_eq_false_iff_not] at *
 have:a.cps.toList=b.cps.toList:=List.le_antisymm (List.not_lt.mp h1) (List.not_lt.mp h2)
 obtain ⟨x⟩:=a
 obtain ⟨y⟩:=b
 congr 1
 exact Array.toList_inj.mp this
theorem qkf {a b:Str} (h:gtS a b=true):gtS b a=false:=by
 unfold gtS at *
 simp only [decide_eq_true_eq,decide_eq_false_iff_not] at *
 exact fun z=>List.lt_irrefl _ (List.lt_trans h z)
def insS (x:Str):List Str->List Str
 | []=>[x]
 | y::r=>if gtS x y then y::insS x r else x::y::r
def srtS:List Str->List Str
 | []=>[]
 | x::r=>insS x (srtS r)
theorem q8f (x:Str):∀ l,(insS x l).Perm (x::l)
 | []=>.refl _
 | y::r=>by
  unfold insS
  split
  ·exact ((q8f x r).cons y).trans (.swap _ _ _)
  ·exact .refl _
theorem q4a:∀ l,(srtS l).Perm l
 | []=>.refl _
 | x::r=>(q8f x _).trans ((q4a r).cons x)
theorem q8z (x:Str):∀ l,l.Pairwise (fun a b=>gtS a b=false)->(insS x l).Pairwise (fun a b=>gtS a b=false)
 | [],_=>by unfold insS;simp
 | y::r,h=>by
  obtain ⟨h1,h2⟩:=List.pairwise_cons.mp h
  unfold insS
  split
  ·rename_i hc
   refine List.pairwise_cons.mpr ⟨fun z hz=>?_,q8z x r h2⟩
   rcases List.mem_cons.mp ((q8f x r).mem_iff.mp hz) with rfl | hz
   ·exact qkf hc
   ·exact h1 z hz
  ·rename_i hc
   have hc:gtS x y=false:=by simpa using hc
   refine List.pairwise_cons.mpr ⟨fun z hz=>?_,h⟩
   rcases List.mem_cons.mp hz with rfl | hz
   ·exact hc
   ·exact qco hc (h1 z hz)
theorem q90:∀ l,(srtS l).Pairwise (fun a b=>gtS a b=false)
 | []=>.nil
 | x::r=>q8z x _ (q90 r)
theorem uniqS:∀ {a b:List Str},a.Perm b->a.Pairwise (fun a b=>gtS a b=false)->b.Pairwise (fun a b=>gtS a b=false)->a=b
 | [],_,p,_,_=>p.nil_eq
 | x::r,b,p,ha,hb=>by
  cases b with
  | nil=>exact absurd p.length_eq (by simp)
  | cons y t =>
   have hx:x∈y::t:=p.mem_iff.mp (.head _)
   have hy:y∈x::r:=p.mem_iff.mpr (.head _)
   have e:x=y:=by
    rcases List.mem_cons.mp hx with h | h
    ·exact h
    ·rcases List.mem_cons.mp hy with h' | h'
     ·exact h'.symm
     ·exact qm7 ((List.pairwise_cons.mp ha).1 y h') ((List.pairwise_cons.mp hb).1 x h)
   subst e
   rw [uniqS (List.Perm.cons_inv p) (List.pairwise_cons.mp ha).2 (List.pairwise_cons.mp hb).2]
theorem qc2:∀ (p:Str) (l:List Str),risingS p l=true->(p::l).Pairwise (fun a b=>gtS a b=false)
 | p,[],_=>by simp
 | p,x::r,h=>by
  have h:(!ltCps x.cps.toList p.cps.toList && risingS x r)=true:=h
  rw [Bool.and_eq_true] at h
  have ih:=qc2 x r h.2
  have hp:gtS p x=false:=by
   unfold gtS;rw [<- ltCps_eq];simpa using h.1
  refine List.pairwise_cons.mpr ⟨fun z hz=>?_,ih⟩
  rcases List.mem_cons.mp hz with rfl | hz
  ·exact hp
  ·exact qco hp ((List.pairwise_cons.mp ih).1 z hz)
theorem qgx:∀ (l:List Str),sortedS l=true->l.Pairwise (fun a b=>gtS a b=false)
 | [],_=>.nil
 | x::r,h=>qc2 x r h
theorem qds:∀ {vs:List Value} {ns:List Str},StrsAre vs ns->Vals (ns.map V.str) vs
 | _,_, .nil=>.nil
 | _,_, .cons n t r=>.cons ⟨t,rfl⟩ (qds r)
section
variable {X:Cx}
def q8u (P:Program) (w:World) (a:Addr) (ts:List Str):HO:=.ext fun h=>SetQ (PySem.strKind P w) (!w.params.followText "set-order") h a (metK ts)
theorem qhk (hc:X.calm=true):q2a X (.type "set") (fun xs H Q=>∃ p, ∃ ts:List Str,xs=[.ref p]/\SqL X.K H p (ts.map V.str)/\ts.length<=1000/\∀ a,H a=none->Q (.ref a) (upd H a (q8u X.prog X.w a ts))):=by
 intro pins s σ H xs us Q I r h
 obtain ⟨p,ts,rfl,hS,hl,q⟩:=h
 obtain ⟨u,rfl,ru⟩:=vals1 r
 cases ru
 obtain ⟨its,rv,pl,_⟩:=I.list hS
 have hlen:its.length=ts.length:=by have:=rv.length;simpa using this.symm
 refine qmi (knd:=PySem.strKind X.prog X.w) (xs:=ts) (I.ok.hd hc) pl.isList (fun i v hv=>?_) (by simp [hlen]) (by unfold scanBound;omega) fun h' tk hset hk=>?_
 ·have hi:i<ts.length:=by
   have:=(Array.getElem?_eq_some_iff.mp hv).1
   simp [hlen] at this;exact this
  obtain ⟨u,hu,ru⟩:=rv.get (show (ts.map V.str)[i]?=some (.str ts[i]) by rw [List.getElem?_map,List.getElem?_eq_getElem hi];rfl)
  have:its[i]?=some v:=by simpa using hv
  rw [this] at hu;cases hu
  obtain ⟨t,rfl⟩:=ru
  exact ⟨ts[i],List.getElem?_eq_getElem hi,strKind_is _ _ _ _,rfl⟩
 ·have k:∀ b o,s.heap.get? b=some o->h'.get? b=some o:=fun b o e=>hk b o (Heap.lt_size e) e
  refine ⟨.ref s.heap.objs.size,_,I.laid (t':=tk) (o:=q8u X.prog X.w s.heap.objs.size ts) k (Nat.le_refl _) ?_,rfl,q _ (I.hok.fresh (Nat.le_refl _))⟩
  refine ⟨hset,?_,fun h1 h2 hs1 kk=>hs1.stay kk⟩
  obtain ⟨o,_,_,_,_,ho,_⟩:=hset
  exact ⟨o,ho⟩
theorem qab (hc:X.calm=true):q2a X (.builtin "sorted") (fun xs H Q=>∃ a, ∃ ts:List Str,xs=[.ref a]/\H a=some (q8u X.prog X.w a ts)/\(metK ts).length<64/\∀ l,H l=none->Q (.ref l) (upd H l (.lst ((srtS (metK ts)).map V.str)))):=by
 intro pins s σ H xs us Q I r h
 obtain ⟨a,ts,rfl,ha,h64,q⟩:=h
 obtain ⟨u,rfl,ru⟩:=vals1 r
 cases ru
 obtain ⟨hset,_⟩:=(show q1s X.prog X.w H s.heap a (q8u X.prog X.w a ts) from I.hok a _ ha)
 refine qfi (I.ok.hd hc) hset h64 fun l h' d tk vs ns hk hs hl hI hp ho=>?_
 have I':Inv X pins σ H {s with drawn:=d}:=⟨I.ok,I.os,I.bare,I.base,I.loc,I.cell,I.free,I.freeC,I.pin,I.hok,I.len⟩
 have e:ns=srtS (metK ts):=uniqS (hp.trans (q4a _).symm) (qgx _ ho) (q90 _)
 subst e
 obtain ⟨e,he⟩:=hl
 have hlen:(srtS (metK ts)).length<64:=by rw [(q4a _).length_eq];exact h64
 refine ⟨.ref l,_,I'.laid (t':=tk) hk hs (show q1s X.prog X.w _ h' _ (.lst ((srtS (metK ts)).map V.str)) from ⟨?_,vs,e,qds hI,he⟩),rfl,q _ (I.hok.fresh hs)⟩
 rw [List.length_map]
 exact Nat.le_trans (Nat.le_of_lt hlen) (by rw [sizeLine_eq];decide)
end
end L2
namespace Z
open PySem L2
section
variable {C:Ct} {E:XK}
@[simp] def q87:AV->AH->Re AV:=fun x h=>match (q4i h x).bind strsOf with
 | some ts=>if ts.length<=1000/\(metK ts).length<64 then .ok (.lst ((srtS (metK ts)).map .str)) h else .no
 | none=>.no
theorem qc7 {w:Wd}:∀ (ns:List Str),Trs C w (ns.map AV.str) (ns.map V.str)
 | []=>.nil
 | n::ns=>.cons (by rw [Tr]) (qc7 ns)
theorem qfg {P:Program} {w0:World} {t:TE} {a:AE} (ha:SE C E t a) :
  SE C E (tCB (fun xs H Q=>∃ a, ∃ ts:List Str,xs=[V.ref a]/\H a=some (q8u P w0 a ts)/\(metK ts).length<64/\∀ l,H l=none->Q (.ref l) (upd H l (.lst ((srtS (metK ts)).map V.str)))) (q3q (tCB (fun xs H Q=>∃ p, ∃ ts:List Str,xs=[V.ref p]/\SqL C.K H p (ts.map V.str)/\ts.length<=1000/\∀ a,H a=none->Q (.ref a) (upd H a (q8u P w0 a ts))) (q3q t tNil)) tNil)) (a1 q87 a):=fun w env σ Q ok en s =>
 ha w env σ _ ok en (s.bind.mono fun x w1 ok1 le1 s1 v tv=>by
  unfold q87 at s1
  split at s1
  ·rename_i ts e
   obtain ⟨ys,ey,es⟩:=Option.bind_eq_some_iff.mp e
   obtain ⟨p,us,rfl,r,t'⟩:=q58 ok1 ey tv
   have:=qcl es t'
   subst this
   split at s1
   ·rename_i hl
    refine ⟨p,ts,rfl,r,hl.1,fun q hq=>⟨q,ts,rfl,q24,hl.2,fun l hl' => ?_⟩⟩
    exact s1 ((w1.fresh q _).frozen l _) rfl ((ok1.fresh hq _).frozen hl' _) ((ok1.q33 hq _).trans ((ok1.fresh hq _).q3w hl' _)) _ ((ok1.fresh hq _).q70 hl' (qc7 _))
   ·exact s1.elim
  ·exact s1.elim)
end
end Z
namespace L2
open PySem PySem.Spec PyProof.Rows
section
variable {X:Cx} {pins:List (Addr×Obj)} {σ:St} {H:Hp} {s:Shared} {a:Addr} {kvs:List (Key×V)} {k:Key} {u r:Value} {z:V} {A:Around} {E:Value->Shared->Prop}
theorem qm5 {Q:Value->Shared->Prop} (I:Inv X pins σ H s) (e:H a=some (.dK kvs)) (hz:kvs.length<sizeLine) (ry:RelV (kV k) u) (rz:RelV z r)
  (h1:∀ v w' s',valV kvs k=some v->Inv X pins σ H s'->RelV v w'->Q w' s') (h2:valV kvs k=none->∀ s',Inv X pins σ (upd H a (.dK (putK kvs k z))) s'->Q r s') :
  wpAny (model X.prog X.w) A (call (.builtin "dict.setdefault") [.ref a,u,r]) Q E s:=by
 obtain ⟨_,hd,vs,rel,dd⟩:=qat I.hok e
 refine call_meetsIn PySem.F.slot_dict_setdefault dd.typeIs PySem.F.entry_dict_setdefault (PySem.F.args_dict_setdefault_3 _ _ _) (kt_meets_setdefault (q20 X.prog X.w) a (q61 ry) hd r)
  ⟨vs,dd,by rw [<- rel.length];exact Nat.le_of_lt hz,fun v hv=>?_,fun hn h' dd' hs=>?_⟩
 ·have rv:=rel.val k
  rw [hv] at rv
  cases hq:valV kvs k with
  | none=>rw [hq] at rv;exact rv.elim
  | some q=>rw [hq] at rv;exact h1 q v _ hq (I.tok _) rv
 ·have rv:=rel.val k
  rw [hn] at rv
  cases hq:valV kvs k with
  | some q=>rw [hq] at rv;exact rv.elim
  | none =>
   have he:∃ q,h'.get? a=some q:=let ⟨q,_,_,hq,_⟩:=dd';⟨q,hq⟩
   exact h2 hq _ (q76 I (by rw [e];exact True.intro) hs he (q9y (Nat.le_trans (q5n kvs k z) hz) hd (rel.put k rz) dd'))
end
def qis (td ty tx:TE):TE:=fun σ H Q=>td σ H fun x H1=>∃ a,x=.ref a/\IsD H1 a/\ty σ H1 fun y H2=>tx σ H2 fun z H3=>∃ kvs k,H3 a=some (.dK kvs)/\kvs.length<sizeLine/\y=kV k /\
 (∀ v,valV kvs k=some v->Q v H3)/\(valV kvs k=none->Q z (upd H3 a (.dK (putK kvs k z))))
section
variable {X:Cx} {o e f:Expr} {apos cpos:Pos} {td ty tx:TE}
theorem ql0 (ho:PE X o td) (he:PE X e ty) (hf:PE X f tx) (m:M2 X o "setdefault" apos e f cpos):PE X (.Call (.Attribute o "setdefault" apos) [e,f] [] cpos) (qis td ty tx):=by
 intro pins s σ H Q I h
 refine wpAny_Call_method m.base m.few m.line PySem.F.plainAttrs_dict PySem.F.slot_dict_setdefault PySem.F.type_dict_setdefault (thn (ho pins s σ H _ I h) fun u s1 ⟨x,H1,I1,rx,a,ex,d,q1⟩=>?_)
 subst ex
 obtain rfl:u=Value.ref a:=rx
 obtain ⟨t1,t2,_⟩:=qdh I1 d
 refine ⟨t1,t2,?_⟩
 rw [m.trees]
 refine Calls.callWith_builtin rfl (Calls.evalArgs_plain (Calls.spliced_cons (thn (he pins s1 σ H1 _ I1 q1) fun iv s2 ⟨y,H2,I2,ry,q2⟩ =>
  Calls.spliced_cons (thn (hf pins s2 σ H2 _ I2 q2) fun fv s3 ⟨z,H3,I3,rz,kvs,k,ea,hz,ey,q3,q4⟩=>Calls.spliced_nil ?_))))
 subst ey
 exact qm5 I3 ea hz ry rz (fun v w' s4 l I4 rw' => ⟨v,H3,I4,rw',q3 v l⟩) fun l s4 I4=>⟨z,_,I4,rz,q4 l⟩
end
end L2
namespace Z
open PySem L2
section
variable {C:Ct} {E:XK}
@[simp] def q7l (a b c:AV) (h:AH):Option (AV×AH):=match a with
 | .ref k=>match keyOf b with
  | some j=>match h[k]? with
   | some (.dk ks xs)=>if ks.length<sizeLine then (match dval ks xs j with
    | some x=>some (x,h)
    | none=>some (c,h.set k (.dk (dput ks xs j c).1 (dput ks xs j c).2))) else none
   | _=>none
  | none=>none
 | _=>none
@[simp] def qaw (d y z:AE):AE:=fun env h=>(d env h).bind fun a h=>match dkOf h a with
 | some _=>(y env h).bind fun b h=>(z env h).bind fun c h=>match q7l a b c h with | some (x,h)=>.ok x h | none=>.no
 | none=>.no
theorem qkv {w:Wd} {a b c:AV} {u v q:V} {x:AV} {h':AH} (ok:Ok C w) (e:q7l a b c w.h=some (x,h')) (ta:Tr C w a u) (tb:Tr C w b v) (tc:Tr C w c q) :
  ∃ ad kvs k,u=.ref ad/\w.H ad=some (.dK kvs)/\kvs.length<sizeLine/\v=kV k /\
   ((∃ p,valV kvs k=some p/\h'=w.h/\Tr C w x p)\/(valV kvs k=none/\∃ w',w'.h=h'/\w'.H=upd w.H ad (.dK (putK kvs k q))/\Ok C w'/\Le w w'/\Tr C w' x q)):=by
 cases a with
 | ref k =>
  cases ek:keyOf b with
  | none=>simp only [q7l,ek] at e;cases e
  | some j =>
   have hj:=q4m ek tb
   subst hj
   rw [Tr] at ta
   obtain ⟨ad,rfl,ea⟩:=ta
   cases eh:w.h[k]? with
   | none=>simp only [q7l,ek,eh] at e;cases e
   | some cc =>
    cases cc with
    | dk ks xs =>
     obtain ⟨kvs,hH,rfl,ht⟩:=ok.cell k _ ad eh ea
     have hv:=q6y (j:=j) ht
     simp only [q7l,ek,eh] at e
     split at e
     ·rename_i hl
      rw [List.length_map] at hl
      refine ⟨ad,kvs,j,rfl,hH,hl,rfl,?_⟩
      cases ex:dval (kvs.map (·.1)) xs j with
      | some p =>
       rw [ex] at hv
       simp only [ex] at e
       cases e
       obtain ⟨p',hq,tq⟩:=hv
       exact .inl ⟨p',hq,rfl,tq⟩
      | none =>
       rw [ex] at hv
       simp only [ex] at e
       cases e
       obtain ⟨o1,l1⟩:=ok.qgz eh ea (q99 (kvs:=kvs) (xs:=xs) (j:=j) (y:=c) (v:=q)) (q95 tc ht)
       exact .inr ⟨hv,_,rfl,rfl,o1,l1,tc.mono ok l1⟩
     ·cases e
    | _=>simp only [q7l,ek,eh] at e;cases e
 | _=>simp only [q7l] at e;cases e
theorem qm0 {td ty tz:TE} {d y z:AE} (hd:SE C E td d) (hy:SE C E ty y) (hz:SE C E tz z):SE C E (qis td ty tz) (qaw d y z):=fun w env σ Q ok en s =>
 hd w env σ _ ok en (s.bind.mono fun a w1 ok1 le1 s1 u tu=>by
  split at s1
  ·rename_i p e0
   obtain ⟨ad,rfl,isd⟩:=qek ok1 e0 tu
   refine ⟨ad,rfl,isd,hy w1 env σ _ ok1 (en.mono ok le1) (s1.bind.mono fun b w2 ok2 le2 s2 v tv=>hz w2 env σ _ ok2 (en.mono ok (le1.trans le2)) (s2.bind.mono fun c w3 ok3 le3 s3 p tp=>?_))⟩
   split at s3
   ·rename_i x h' e
    obtain ⟨ad',kvs,k,e1,e2,hl,e3,h⟩:=qkv ok3 e (tu.mono ok1 (le2.trans le3)) (tv.mono ok2 le3) tp
    cases e1
    refine ⟨kvs,k,e2,hl,e3,fun v' hv' => ?_,fun hn=>?_⟩
    ·rcases h with ⟨p',h1,h2,h3⟩ | ⟨h1,_⟩
     ·rw [hv'] at h1;cases h1
      subst h2
      exact s3.here ok3 _ h3
     ·rw [hv'] at h1;cases h1
    ·rcases h with ⟨p',h1,h2,h3⟩ | ⟨h1,w',h2,h3,o',l',t'⟩
     ·rw [hn] at h1;cases h1
     ·have:=s3 w' h2 o' l' _ t'
      rw [h3] at this
      exact this
   ·exact s3.elim
  ·exact s1.elim)
end
end Z
namespace Z
open PySem L2
section
variable {C:Ct} {E:XK}
theorem qly:SMt C E 1 qj5 qf2:=by
 intro w x u xs vs Q hl ok tx t s
 obtain ⟨y,rfl⟩:=len1 hl
 obtain ⟨v,rfl,tv⟩:=q46 t
 cases x with
 | ref k=>cases y with
  | int i=>cases i with
   | ofNat n =>
    rw [Tr] at tv;subst tv
    have s:Sat C E w (match w.h[k]? with | some (.lst xs)=>(match xs[n]? with | some x=>if n<=16777216 then .ok x (w.h.set k (.lst (xs.eraseIdx n))) else .no | none=>.no) | _=>.no) (want C Q):=s
    split at s
    ·rename_i zs e
     obtain ⟨a,us,rfl,ea,hH,ht⟩:=qhh ok e tx
     split at s
     ·rename_i z ez
      split at s
      ·rename_i hn
       obtain ⟨q,eq,tq⟩:=ht.atI (q0w ez)
       have hlt:n<us.length:=by
        have:=(List.getElem?_eq_some_iff.mp ez).1
        rw [ht.len] at *;omega
       have hq:us[n]?=some q:=by
        have:=q0w (List.getElem?_eq_getElem hlt)
        rw [eq] at this
        rw [List.getElem?_eq_getElem hlt];exact this.symm
       have hix:ixN us.length (n:Int)=some n:=by
        unfold ixN
        rw [if_pos (by omega),if_pos (by omega)];simp
       obtain ⟨o1,l1⟩:=ok.qf4 e ea (Trs.erase (n:=n) ht)
       refine ⟨a,us,(n:Int),n,q,rfl,rfl,hH,by omega,by omega,(qfp hix).1,hq,?_⟩
       exact s _ rfl o1 l1 _ (tq.mono ok l1)
      ·exact s.elim
     ·exact s.elim
    ·exact s.elim
   | negSucc n=>exact s.elim
  | _=>exact s.elim
 | _=>exact s.elim
end
end Z
namespace PySem
open Sem (wp)
open MeetsSeq MeetsSeq2 MeetsSeq3
theorem qax:typeLookup (.type "tuple") (dunderR "mul")=pure (some (.builtin "tuple.__rmul__")):=by rw [typeLookup_type,builtinLookup_eq_fast];kernel_rfl
theorem q9l:fillsNumberSlot (.type "tuple") "mul" = pure false:=
 fillsNumberSlot_seq (id:="tuple.__mul__") (r:=some (.builtin "tuple.__rmul__")) F.slot_tuple_mul.lookup (by decide +kernel) qax (by decide +kernel)
theorem qdd:seqRepeat? (.type "tuple")=pure (some (.builtin "tuple.__mul__")):=by
 unfold seqRepeat?
 rw [seqSlot_of (T:="tuple") (name:="__mul__") (id:="tuple.__mul__") F.slot_tuple_mul.lookup (by decide +kernel),seqSlot_of (T:="tuple") (name:="__rmul__") (id:="tuple.__rmul__") qax (by decide +kernel)]
 rfl
end PySem
namespace L2
open PySem PySem.Spec PyProof.Rows
theorem qcz (a:Int) (t:Tok) (l:Addr) (items:Array Value) (n:Nat) (dd:Option Addr) (sl:Array (Option Value)) :
  Meets (Builtin.«int.__rmul__» ⟨[.int a t, .ref l],[]⟩) (fun _ R s=>s.heap.get? l=some {cls:=.type "tuple",dict:=dd,data:=.seq items n,slots:=sl}/\R (.ok (.ret Value.notImplemented)) s):=
 .of_wp fun prog w A R s h=>by obtain ⟨hp,g,d,tk,os⟩:=s;obtain ⟨hl,h⟩:=h;wp_walk;exact ⟨_,rfl,h⟩
theorem qfk (l:Addr) (items:Array Value) (n:Nat) (u:Tok) (dd:Option Addr) (sl:Array (Option Value)) :
  Meets (Builtin.«tuple.__mul__» ⟨[.ref l, .int 1 u],[]⟩) (fun _ R s=>s.heap.get? l=some {cls:=.type "tuple",dict:=dd,data:=.seq items n,slots:=sl}/\R (.ok (.ret (Value.ref l))) s):=
 .of_wp fun prog w A R s h=>by obtain ⟨hp,g,d,tk,os⟩:=s;obtain ⟨hl,h⟩:=h;wp_walk using wpAny_loadPart' hl;exact ⟨_,rfl,h⟩
theorem qfe (l:Addr) (items:Array Value) (n:Nat) (x:Int) (u:Tok) (dd:Option Addr) (sl:Array (Option Value)) (h0:¬ (decide (x < -(2 ^ 63)) || decide (x ≥ 2 ^ 63))=true) (h1:¬ (items.isEmpty || (x == 1))=true) (h2:¬ (decide (x<=0) || items.isEmpty)=true)
  (hc1:¬ (items.size:Int) * x > (2 ^ 63 - 1) / 8) (hc2:¬ Builtin.Tuple.tupleTooMany ((items.size:Int) * x)=true) (hsz:(List.foldl (fun x1 x2=>x1++x2) #[] (List.replicate x.toNat items)).size<=sizeLine) :
  Meets (Builtin.«tuple.__mul__» ⟨[.ref l, .int x u],[]⟩) (fun _ R s=>s.heap.get? l=some {cls:=.type "tuple",dict:=dd,data:=.seq items n,slots:=sl}/\R (.ok (.ret (Value.ref s.heap.objs.size))) {s with heap:=s.heap.push {cls:=Value.type "tuple",data:=Data.seq (List.foldl (fun x1 x2=>x1++x2) #[] (List.replicate x.toNat items))},toks:=s.toks}):=
 .of_wp fun prog w A R s h=>by obtain ⟨hp,g,d,tk,os⟩:=s;obtain ⟨hl,h⟩:=h;wp_walk using wpAny_loadPart' hl;refine wpAny_ite_false (by simpa using h0) ?_;wp_walk using wpAny_loadPart' hl;refine wpAny_ite_false (decide_eq_false hc1) ?_;wp_walk using wpAny_loadPart' hl;exact ⟨_,rfl,h⟩
section
variable {X:Cx} {K:PySem.W.Frag}
def qhc (K:PySem.W.Frag):R2:=fun x y H Q=>∃ a k xs,x=.ref a/\y=.int k/\SqT K H a xs/\xs≠[]/\1<=k/\k<=1000000/\xs.length * k.toNat<=sizeLine /\
 (k=1->Q (.ref a) H)/\(k≠1->∀ p,H p=none->Q (.ref p) (upd H p (.tup (List.replicate k.toNat xs).flatten)))
theorem qnu:OpR X (binaryOp .Mult) (qhc X.K):=by
 intro pins s σ H x y v u Q I rx ry h
 obtain ⟨a,k,xs,rfl,rfl,ha,hx,k1,k2,hz,q1,q2⟩:=h
 cases rx
 obtain ⟨t,rfl⟩:=ry
 obtain ⟨its,r1,p1,_⟩:=I.tuple ha
 obtain ⟨⟨cls,dd,data,sl⟩,ho,hc,n,hd⟩:=id p1
 simp only at hc hd
 subst hc hd
 have hne:its≠[]:=fun z=>hx (r1.q8j.mp z)
 have hlen:its.length=xs.length:=r1.length.symm
 refine wpAny_binaryOp_repeat_ref (T:="tuple") (U:="int") (by decide) ⟨_,ho,rfl⟩ (fun s' => typeIs_int s' k t) q9l F.fills_int_mul F.slot_int_rmul qdd F.slot_int_index.lookup
  (call_meets F.slot_int_rmul (typeIs_int s k t) F.entry_int_rmul (F.args_int_rmul_2 _ _) (qcz k t a its.toArray n dd sl)
   ⟨ho,rfl,⟨_,ho,rfl⟩,?_⟩)
 by_cases hk:k=1
 ·subst hk
  exact call_meets F.slot_tuple_mul ⟨_,ho,rfl⟩ F.entry_tuple_mul (F.args_tuple_mul_2 _ _) (qfk a its.toArray n t dd sl) ⟨ho, .ref a,H,I,rfl,q1 rfl⟩
 ·have hzi:(its.toArray.size:Int) * k=((xs.length * k.toNat:Nat):Int):=by
   rw [List.size_toArray,hlen,Int.natCast_mul,Int.toNat_of_nonneg (by omega)]
  have f0:List.foldl (fun x1 x2=>x1++x2) #[] (List.replicate k.toNat its.toArray)=(List.replicate k.toNat its).flatten.toArray:=by
   have:=foldl_rep its k.toNat []
   rw [List.nil_append] at this
   exact this
  have hsl:(sizeLine:Nat)<=(2 ^ 63 - 1) / 8:=by decide
  refine call_meets F.slot_tuple_mul ⟨_,ho,rfl⟩ F.entry_tuple_mul (F.args_tuple_mul_2 _ _) (qfe a its.toArray n k t dd sl ?_ ?_ ?_ ?_ ?_ ?_) ⟨ho,?_⟩
  ·simp only [Bool.or_eq_true,decide_eq_true_eq];omega
  ·cases its with
   | nil=>exact absurd rfl hne
   | cons _ _=>simp [hk]
  ·cases its with
   | nil=>exact absurd rfl hne
   | cons _ _=>simp;omega
  ·rw [hzi]
   have:((2 ^ 63 - 1) / 8:Int)=(((2 ^ 63 - 1) / 8:Nat):Int):=by decide
   rw [this]
   omega
  ·rw [hzi]
   unfold Builtin.Tuple.tupleTooMany
   simp only [decide_eq_true_eq]
   omega
  ·rw [f0,List.size_toArray,len_rep,hlen,Nat.mul_comm];exact hz
  ·rw [f0]
   refine ⟨.ref s.heap.objs.size,_,I.laid (t':=s.toks) (o:=.tup (List.replicate k.toNat xs).flatten) (fun b ob q=>Heap.get?_push_of_some _ q) (Nat.le_refl _) ?_,rfl,q2 hk _ (I.hok.fresh (Nat.le_refl _))⟩
   exact ⟨by rw [len_rep,Nat.mul_comm];exact hz,_,r1.rep _,IsTup.new _ _⟩
theorem qkz:OpR X (binaryOp .Mult) (qhc X.K):=qnu
end
end L2
namespace Z
open PySem L2 PySem.Spec PyProof.Rows
section
variable {C:Ct} {E:XK}
@[simp] def qd1:AV->AV->AH->Re AV
 | .tup xs, .int k,h=>if xs.isEmpty=false/\1<=k/\k<=1000000/\xs.length * k.toNat<=sizeLine then .ok (.tup (repA xs k.toNat)) h else .no
 | _,_,_=>.no
theorem qnr:S2 C E (qhc C.K) qd1:=by
 intro w x y u v Q ok tx ty s
 unfold qd1 at s
 split at s
 ·rename_i h xs k
  rw [Tr] at tx
  obtain ⟨a,vs,rfl,r1,t1⟩:=tx
  have ty:v=.int k:=by rw [Tr] at ty;exact ty
  subst ty
  by_cases hh:xs.isEmpty=false/\1<=k/\k<=1000000/\xs.length * k.toNat<=sizeLine
  ·rw [if_pos hh] at s
   refine ⟨a,k,vs,rfl,rfl,r1,?_,hh.2.1,hh.2.2.1,by rw [<- t1.len];exact hh.2.2.2,fun hk=>?_,fun hk p hp=>?_⟩
   ·intro z
    have:=t1.len
    rw [z] at this
    cases xs with
    | nil=>exact absurd hh.1 (by simp)
    | cons _ _=>simp at this
   ·subst hk
    have:repA xs (1:Int).toNat=xs:=by unfold repA;simp
    rw [this] at s
    have t':Tr C w (.tup xs) (.ref a):=by rw [Tr];exact ⟨a,vs,rfl,r1,t1⟩
    exact s.here ok _ t'
   ·exact s (w.fresh p _) rfl (ok.fresh hp _) (ok.q33 hp _) _ (ok.q86 hp (t1.rep _))
  ·rw [if_neg hh] at s;exact s.elim
 ·exact s.elim
end
end Z
namespace PM
open PySem L2 Z
def flG:Nat->List Nat
 | 0=>[0,1]
 | 1=>[0,1,2,3]
 | 2=>[0,1,4]
 | 3=>[0,1,5,6,7,8,9]
 | 4=>[0,1,5]
 | 5=>[0,1,10]
 | 6=>[0,1,11,12,10,13,14,15,16,17]
 | 7=>[0,1,17]
 | 8=>[18,19,20,21]
 | 9=>[5,6,22,7,23,9,24]
 | 10=>[25,26,27,5]
 | 11=>[28,29,30,31,32,33,34,35]
 | 12=>[1,36,37,38,39,40,41,42]
 | 13=>[43]
 | _=>[]
def b_qu:AS:=
 (sRet (aLc 1 [0] (q66 (aK (.int 1)) (a2 fAdd (aVar 1) (aK (.int 1)))) (gN 0) aYes (qd4 (q6g (a1 qhl (aVar 1)) (q6g (aK (.str "/")) (q6g (a1 qhr (aVar 0)) qd6))))))
def m_qu:AF:=fnZ 2 b_qu
def b_qk:AS:=
 (sSeq (sIf (aB (a2 fLt (aVar 1) (aC fLen (q02 (aVar 0) aNil))))
 (sRet (a2 fIx (aVar 0) (aVar 1)))
 q10)
 (sRet (aK (.int 0))))
def m_qk:AF:=fnZ 2 b_qk
def b_qi:AS:=
 (sSeq (sAsg (aSl fSlS (aK (.str "abcdefghijk")) q8p (q6s (aC q8m (q02 (a2 fMod (aC m_qk (q02 (aVar 0) (q02 (aK (.int 0)) aNil))) (aK (.int 12))) (q02 (a2 fSub (aK (.int 12)) (aC fLen (q02 (aVar 1) aNil))) aNil))))) (gN 2))
 (sSeq (sAsg (a2 fMod (aC m_qk (q02 (aVar 0) (q02 (aK (.int 1)) aNil))) (a2 fAdd (aC fLen (q02 (aVar 2) aNil)) (aK (.int 1)))) (gN 3))
 (sRet (a2 q2f (a2 q2f (aSl fSlS (aVar 2) q8p (q6s (aVar 3))) (aVar 1)) (aSl fSlS (aVar 2) (q6s (aVar 3)) q8p)))))
def m_qi:AF:=fnZ 4 b_qi
def b_qc (rec:AF):AS:=
 (sSeq (sIf (aB (a1 (qhq [.list, .tuple]) (aVar 1)))
 (sSeq (sIf (aOr (aB (a2 fNe (a1 (fIsi .list) (aVar 0)) (a1 (fIsi .list) (aVar 1)))) (aB (a2 fNe (a1 (fIsi .tuple) (aVar 0)) (a1 (fIsi .tuple) (aVar 1)))))
 (sRet (aK (.bl false)))
 q10)
 (sRet (q5j (a2 fEq (aC fLen (q02 (aVar 0) aNil)) (aC fLen (q02 (aVar 1) aNil))) (aC fAll (q02 (aLc 1 [0,1] (q3a (aC fLen (q02 (aVar 1) aNil))) (gN 0) aYes (aC rec (q02 (a2 fIx (aVar 1) (aVar 0)) (q02 (a2 fIx (aVar 2) (aVar 0)) aNil)))) aNil)))))
 q10)
 (sSeq (sAsg (q5j (a2 fEq (a1 (fIsi .int) (aVar 0)) (a1 (fIsi .int) (aVar 1))) (a2 fEq (a1 (fIsi .bool) (aVar 0)) (a1 (fIsi .bool) (aVar 1)))) (gN 2))
 (sRet (q5j (aVar 2) (q5j (a2 fEq (a1 (fIsi .str) (aVar 0)) (a1 (fIsi .str) (aVar 1))) (a2 fEq (aVar 0) (aVar 1)))))))
def m_qc:Nat->AF
 | 0=>fun _ _=>.no
 | n+1=>fnZ 3 (b_qc (m_qc n))
def b_qr:AS:=
 (sSeq (sAsg (a2 fSub (a2 q08 (aVar 0) (aK (.str "day"))) (a2 q08 (aVar 0) (aK (.str "first")))) (gN 2))
 (sRet (a2 fIx (aLst (q02 (aK (.int 0)) (q02 (a2 fAdd (a2 q08 (aVar 0) (aK (.str "first"))) (a2 fMod (a2 fDiv (aVar 1) (aK (.int 4))) (aK (.int 2)))) (q02 (a2 fAdd (a2 q08 (aVar 0) (aK (.str "first"))) (a2 fMod (a2 fDiv (aVar 1) (aK (.int 4))) (a2 fAdd (aVar 2) (aK (.int 3))))) (q02 (a2 fMod (a2 fDiv (aVar 1) (aK (.int 4))) (aK (.int 10000))) aNil))))) (a2 fMod (aVar 1) (aK (.int 4))))))
def m_qr:AF:=fnZ 3 b_qr
def b_qj:AS:=
 (sSeq (sFor (q60 (a2 fIx (aVar 0) (aK (.int 2)))) (gN 2)
 (sIf (aOr (aB (a2 fEq (aVar 1) (a2 fIx (aVar 2) (aK (.int 0))))) (aB (a2 fEq (aVar 1) (a2 fIx (aVar 2) (aK (.int 2))))))
 (sRet (a2 fIx (aVar 2) (aK (.int 2))))
 q10))
 (sRet (aK (.str ""))))
def m_qj:AF:=fnZ 3 b_qj
def b_qw:AS:=
 (sSeq (sIf (aOr (aNot (aB (a1 (fIsi .list) (aVar 0)))) (aB (a2 fNe (aC fLen (q02 (aVar 0) aNil)) (aC fLen (q02 (aVar 1) aNil)))))
 (sRet (aK (.bl false)))
 q10)
 (sSeq (sFor (q3a (aC fLen (q02 (aVar 1) aNil))) (gN 2)
 (sIf (aOr (aNot (aB (a1 (fIsi .str) (a2 fIx (aVar 0) (aVar 2))))) (aB (a2 fNe (a2 fIx (aVar 0) (aVar 2)) (a2 fIx (aVar 1) (aVar 2)))))
 (sRet (aK (.bl false)))
 q10))
 (sRet (aK (.bl true)))))
def m_qw:AF:=fnZ 3 b_qw
def b_qa:AS:=
 (sSeq (sIf (aB (a2 fEq (a2 fIx (aVar 0) (aK (.int 1))) (aK (.str "batch"))))
 (sRet (a2 fCat (aLc 1 [] (q60 (a2 fIx (aVar 0) (aK (.int 3)))) (gN 0) aYes (a2 fIx (aVar 0) (aK (.int 0)))) (aLst (q02 (a2 fIx (aVar 0) (aK (.int 2))) aNil))))
 q10)
 (sSeq (sIf (aB (a2 fEq (a2 fIx (aVar 0) (aK (.int 1))) (aK (.str "night"))))
 (sRet (a2 fCat (aLc 1 [] (q60 (a2 fIx (aVar 0) (aK (.int 2)))) (gN 0) aYes (a2 fIx (aVar 0) (aK (.int 0)))) (aLc 1 [] (q60 (a2 fIx (aVar 0) (aK (.int 2)))) (gN 0) aYes (a2 fIx (aVar 0) (aK (.int 2))))))
 q10)
 (sSeq (sIf (aB (a2 fEq (a2 fIx (aVar 0) (aK (.int 1))) (aK (.str "cut"))))
 (sRet (a2 fCat (aLst (q02 (a2 fIx (aVar 0) (aK (.int 2))) aNil)) (aLc 1 [0] (q3a (aC fLen (q02 (a2 fIx (aVar 0) (aK (.int 3))) aNil))) (gN 0) aYes (a2 q2f (a2 q2f (a2 fIx (aVar 1) (aK (.int 2))) (aK (.str "/"))) (aC q3n (q02 (a2 fAdd (aVar 0) (aK (.int 1))) aNil))))))
 q10)
 (sRet (aLc 1 [] (q60 (aSl fSlT (aVar 0) (q6s (aK (.int 2))) (q6s (aK (.int 5))))) (gN 0) (aB (a1 (fIsi .str) (aVar 0))) (aVar 0))))))
def m_qa:AF:=fnZ 1 b_qa
def b_qd:AS:=
 (sSeq (sIf (aB (a2 fEq (aVar 1) (aVar 2)))
 (sRet (aK (.bl false)))
 q10)
 (sSeq (sIf (aB (a2 fEq (a2 fIx (aVar 0) (aK (.int 1))) (aK (.str "batch"))))
 (sRet (q5j (a2 fEq (aVar 2) (a2 fIx (aVar 0) (aK (.int 2)))) (a2 (fIn false) (aVar 1) (aLc 1 [] (q60 (a2 fIx (aVar 0) (aK (.int 3)))) (gN 0) aYes (a2 fIx (aVar 0) (aK (.int 0)))))))
 q10)
 (sSeq (sIf (aB (a2 fEq (a2 fIx (aVar 0) (aK (.int 1))) (aK (.str "wheel"))))
 (sRet (q5j (a2 fEq (aVar 1) (a2 fIx (aVar 0) (aK (.int 3)))) (a2 fEq (aVar 2) (a2 fIx (aVar 0) (aK (.int 2))))))
 q10)
 (sSeq (sIf (aB (a2 fEq (a2 fIx (aVar 0) (aK (.int 1))) (aK (.str "wash"))))
 (sRet (q5j (a2 (fIn false) (aVar 1) (aSl fSlT (aVar 0) (q6s (aK (.int 2))) q8p)) (a2 (fIn false) (aVar 2) (aSl fSlT (aVar 0) (q6s (aK (.int 2))) q8p))))
 q10)
 (sSeq (sIf (aB (a2 fEq (a2 fIx (aVar 0) (aK (.int 1))) (aK (.str "cut"))))
 (sRet (q5j (a2 fEq (aVar 1) (a2 fIx (aVar 0) (aK (.int 2)))) (a2 (fIn false) (aVar 2) (aC m_qa (q02 (aVar 0) aNil)))))
 q10)
 (sSeq (sIf (aB (a2 fNe (a2 fIx (aVar 0) (aK (.int 1))) (aK (.str "night"))))
 (sRet (aK (.bl false)))
 q10)
 (sSeq (sAsg (aC m_qj (q02 (aVar 0) (q02 (aVar 1) aNil))) (gN 3))
 (sRet (q5j (a2 fNe (aVar 3) (aK (.str ""))) (a2 fEq (aVar 3) (aC m_qj (q02 (aVar 0) (q02 (aVar 2) aNil)))))))))))))
def m_qd:AF:=fnZ 4 b_qd
def b_q00:AS:=
 (sRet (aTup (q02 (aFld 5 (aVar 0)) (q02 (aFld 6 (aVar 0)) (q02 (aFld 22 (aVar 0)) (q02 (aFld 7 (aVar 0)) (q02 (aFld 23 (aVar 0)) (q02 (aFld 9 (aVar 0)) (q02 (aFld 24 (aVar 0)) aNil)))))))))
def m_q00:AF:=fnZ 1 b_q00
end PM
namespace PM
open PySem L2 Z
def cz (ns:List Int) (k:Nat):Int:=ns.getD k 0
theorem cz_at {ns:List Int} {k:Nat} (h:k<ns.length):atI (ns.map AV.int) (k:Int)=some (.int (cz ns k)):=q0w (by
 rw [List.getElem?_map,List.getElem?_eq_getElem h]
 simp [cz,List.getD_eq_getElem?_getD,List.getElem?_eq_getElem h])
theorem qa8 (ns:List Int) (k:Nat) (h:AH):m_qk [.kst (ns.map AV.int), .int k] h=.ok (.int (cz ns k)) h:=by
 by_cases hk:(k:Int)<(ns.length:Int)
 ·simp [m_qk,b_qk,hk,cz_at (show k<ns.length by omega)]
 ·have:cz ns k=0:=by
   unfold cz
   rw [List.getD_eq_getElem?_getD,List.getElem?_eq_none (by omega)];rfl
  simp [m_qk,b_qk,hk,this]
def Sm (i:Int):Prop:=i.natAbs.log2<1920
theorem sm_of {i:Int} (h:i.natAbs<2 ^ 1000):Sm i:=by
 unfold Sm
 by_cases h0:i.natAbs=0
 ·rw [h0];decide
 ·exact Nat.lt_of_lt_of_le ((Nat.log2_lt h0).mpr h) (by decide)
@[simp] theorem qky (h:AH) (x y:Cell):(h++[x]).set h.length y=h++[y]:=by
 rw [List.set_append_right _ _ (Nat.le_refl _),Nat.sub_self];rfl
theorem qjo {h:AH} {i:Nat} {c:Cell} (e:h[i]?=some c):i<h.length:=(List.getElem?_eq_some_iff.mp e).1
theorem q4s {h g:AH} {i:Nat} {c:Cell} (e:h[i]?=some c):(h++g)[i]?=some c:=by
 rw [List.getElem?_append_left (qjo e)];exact e
theorem q8r {α:Type} {wt:Option Nat} {all:List AV} {g:AV->AEnv->AH->Re AEnv} {tc:AT} {te:AE} {be:AEnv} {h:AH} {k f:α->AV} {p:α->Bool} (hw:okW h all wt=true) :
  ∀ (ys:List α) (acc:List AV),(∀ y∈ys, ∃ env,g (k y) be h=.ok env h/\tc env h=.ok (p y) h/\(p y=true->te env h=.ok (f y) h))->lcL wt all g tc te be (ys.map k) acc h=.ok (acc++(ys.filter p).map f) h
 | [],acc,_=>by simp [lcL,hw]
 | y::ys,acc,hs=>by
  obtain ⟨env,e1,e2,e3⟩:=hs y (by simp)
  have ih:=fun acc=>q8r hw ys acc fun z hz=>hs z (List.mem_cons_of_mem _ hz)
  cases hp:p y with
  | true=>simp [lcL,hw,e1,e2,e3 hp,hp,ih]
  | false=>simp [lcL,hw,e1,e2,hp,ih]
theorem q2w {α:Type} {wt:Option Nat} {all:List AV} {g:AV->AEnv->AH->Re AEnv} {te:AE} {be:AEnv} {h:AH} {k f:α->AV} (hw:okW h all wt=true)
  (ys:List α) (acc:List AV) (hs:∀ y∈ys, ∃ env,g (k y) be h=.ok env h/\te env h=.ok (f y) h):lcL wt all g aYes te be (ys.map k) acc h=.ok (acc++ys.map f) h:=by
 have:=q8r (tc:=aYes) (te:=te) (f:=f) (p:=fun _=>true) hw ys acc fun y hy=>by
  obtain ⟨env,e1,e2⟩:=hs y hy
  exact ⟨env,e1,rfl,fun _=>e2⟩
 rw [List.filter_eq_self.mpr (by simp)] at this
 exact this
theorem q8k {α:Type} (f:α->Bool):∀ (xs:List α),q4j (xs.map fun x=>AV.bl (f x))=some (xs.map f)
 | []=>rfl
 | x::xs=>by simp [q8k f xs]
theorem strs_map {α:Type} (f:α->Str):∀ (xs:List α),strsOf (xs.map fun x=>AV.str (f x))=some (xs.map f)
 | []=>rfl
 | x::xs=>by simp [strs_map f xs]
theorem all_map {α:Type} (f:α->Bool) (xs:List α):(xs.map f).all id=xs.all f:=by rw [List.all_map];rfl
section
variable {h:AH} {a d l e t c:Nat} {day:Int} {ks:List Key} {xs:List AV} {nm kd:Str} {fs:List (Nat×AV)}
theorem qkx {j:Key} {y:AV} (hn:dval ks xs j=none) (hl:ks.length=xs.length):dput ks xs j y=(ks++[j],xs++[y]):=by
 have:(ks.any fun k=>decide (k=j))=false:=by
  induction ks generalizing xs with
  | nil=>rfl
  | cons k ks ih =>
   cases xs with
   | nil=>simp at hl
   | cons x xs =>
    unfold dval at hn
    split at hn
    ·cases hn
    ·rename_i hne
     rw [List.any_cons,ih hn (by simpa using hl)]
     simp [hne]
 unfold dput
 rw [this];rfl
end
section
variable {h:AH} {nm:Str}
@[simp] theorem get_last (h:AH) (x:Cell):(h++[x])[h.length]?=some x:=by simp
end
end PM
namespace PM
open PySem L2 Z
theorem map_inj {f:Char->Nat} (hf:∀ x y,f x=f y->x=y):∀ {a b:List Char},a.map f=b.map f->a=b
 | [],[],_=>rfl
 | [],_::_,h=>by simp at h
 | _::_,[],h=>by simp at h
 | x::a,y::b,h=>by
  simp only [List.map_cons,List.cons.injEq] at h
  rw [hf x y h.1,map_inj hf h.2]
@[simp] theorem qo1 (a b:String):Str.ofString a=Str.ofString b↔a=b:=by
 refine ⟨fun h=>?_,fun h=>by rw [h]⟩
 rw [Str.ofString_eq_toList,Str.ofString_eq_toList] at h
 have h1:a.toList.map Char.toNat=b.toList.map Char.toNat:=by
  have:=congrArg (fun s:Str=>s.cps.toList) h
  simpa using this
 apply String.toList_inj.mp
 exact map_inj (fun x y e=>Char.ext (UInt32.toNat_inj.mp e)) h1
theorem q0m {s t:AS} {env env':AEnv} {h h':AH} (e:s env h=.nx env' h'):sSeq s t env h=t env' h':=by simp [e]
theorem q62 {α:Type} {wt:Option Nat} {all:List AV} {g:AV->AEnv->AH->Re AEnv} {body:AS} {k:α->AV} {P:Nat->AEnv->AH->Prop}
  (hw:∀ i env h,P i env h->okW h all wt=true) :
  ∀ (ys:List α) (i:Nat) (env:AEnv) (h:AH),P i env h ->
   (∀ (j:Nat) y,ys[j]?=some y->∀ env h,P (i+j) env h->∃ e1 h1 e2 h2,g (k y) env h=.ok e1 h1/\(body e1 h1=.nx e2 h2\/body e1 h1=.ct e2 h2)/\P (i+j+1) e2 h2) ->
   ∃ env' h',q1y wt all g body (ys.map k) env h=.nx env' h'/\P (i+ys.length) env' h'
 | [],i,env,h,hp,hs=>⟨env,h,by simp [q1y,hw i env h hp],by simpa using hp⟩
 | y::ys,i,env,h,hp,hs=>by
  obtain ⟨e1,h1,e2,h2,q1,q2,q3⟩:=hs 0 y rfl env h hp
  obtain ⟨e3,h3,q4,q5⟩:=q62 hw ys (i+1) e2 h2 q3 fun j z hj env h hp=>by
   have:=hs (j+1) z (by simpa using hj) env h (by rw [show i+(j+1)=i+1+j by omega];exact hp)
   rw [show i+(j+1)+1=i+1+j+1 by omega] at this
   exact this
  refine ⟨e3,h3,?_,by rw [List.length_cons,show i+(ys.length+1)=i+1+ys.length by omega];exact q5⟩
  rw [List.map_cons,q1y,if_pos (hw i env h hp),q1]
  rcases q2 with q2 | q2 <;> simp [q2,q4]
mutual
def okD:Nat->AV->Bool
 | _, .non=>true | _, .bl _=>true | _, .int _=>true | _, .str _=>true
 | n, .tup xs=>match n with | 0=>false | m+1=>decide (xs.length<=100000) && okDs m xs
 | n, .lst xs=>match n with | 0=>false | m+1=>decide (xs.length<=100000) && okDs m xs
 | _,_=>false
def okDs:Nat->List AV->Bool
 | _,[]=>true
 | n,x::xs=>okD n x && okDs n xs
end
theorem q7f {n:Nat} {x:AV}:∀ {xs:List AV} {i:Nat},okDs n xs=true->xs[i]?=some x->okD n x=true
 | [],_,_,e=>by simp at e
 | y::ys,0,d,e=>by
  simp only [okDs,Bool.and_eq_true] at d
  simp at e;exact e ▸ d.1
 | y::ys,i+1,d,e=>by
  simp only [okDs,Bool.and_eq_true] at d
  exact q7f d.2 (by simpa using e)
theorem qbb {n:Nat}:∀ {xs:List AV},(∀ x∈xs,okD n x=true)->okDs n xs=true
 | [],_=>by simp [okDs]
 | y::ys,d=>by simp [okDs,d y (by simp),qbb fun x hx=>d x (List.mem_cons_of_mem _ hx)]
def IsL (h:AH) (x:AV) (xs:List AV):Prop:=x=.lst xs\/∃ k,x=.ref k/\h[k]?=some (.lst xs)
theorem qdw {h:AH} {n:Nat} {x y:AV} {xs:List AV} (hl:xs.length<=100000) (hx:IsL h x xs) (hy:IsL h y xs) (hs:∀ i (_:i<xs.length),m_qc n [xs[i],xs[i]] h=.ok (.bl true) h):m_qc (n+1) [x,y] h=.ok (.bl true) h:=by
 have hl2:xs.length<=sizeLine:=Nat.le_trans hl (by decide)
 have hb:rng1 (.int (xs.length:Int)) h=.ok (Z.intsFrom 0 xs.length,none) h:=q5g (by omega)
 have ea:∀ i (hi:i<xs.length),atI xs (i:Int)=some xs[i]:=fun i hi=>q0w (List.getElem?_eq_getElem hi)
 have hi:(Z.intsFrom 0 xs.length).length<=sizeLine:=by rw [len_from];exact hl2
 have key:lcL none (Z.intsFrom 0 xs.length) (gN 0) aYes (aC (m_qc n) (q02 (a2 fIx (aVar 1) (aVar 0)) (q02 (a2 fIx (aVar 2) (aVar 0)) aNil))) [none,some x,some y] (Z.intsFrom 0 xs.length) [] h=.ok ([]++(List.range xs.length).map fun _=>AV.bl true) h:=by
  refine q2w (k:=fun i:Nat=>AV.int (0+(i:Int))) q0x (List.range xs.length) [] fun i hi=>?_
  have hi:=List.mem_range.mp hi
  refine ⟨_,rfl,?_⟩
  have:=hs i hi
  rcases hx with rfl | ⟨k,rfl,ek⟩ <;> rcases hy with rfl | ⟨k',rfl,ek'⟩
  ·simp [ea i hi,this]
  ·simp [ea i hi,this,ek']
  ·simp [ea i hi,this,ek]
  ·simp [ea i hi,this,ek,ek']
 have kb:q4j ((List.range xs.length).map fun _=>AV.bl true)=some ((List.range xs.length).map fun _=>true):=q8k (fun _:Nat=>true) _
 rcases hx with rfl | ⟨k,rfl,ek⟩ <;> rcases hy with rfl | ⟨k',rfl,ek'⟩
 ·simp [m_qc,b_qc,bEnv,hl2,hb,hi,key,kb]
 ·simp [m_qc,b_qc,bEnv,hl2,hb,hi,key,kb,ek']
 ·simp [m_qc,b_qc,bEnv,hl2,hb,hi,key,kb,ek]
 ·simp [m_qc,b_qc,bEnv,hl2,hb,hi,key,kb,ek,ek']
theorem qlv {h:AH} {n:Nat} {xs:List AV} (hl:xs.length<=100000) (hs:∀ i (_:i<xs.length),m_qc n [xs[i],xs[i]] h=.ok (.bl true) h):m_qc (n+1) [.tup xs, .tup xs] h=.ok (.bl true) h:=by
 have hl2:xs.length<=sizeLine:=Nat.le_trans hl (by decide)
 have hb:rng1 (.int (xs.length:Int)) h=.ok (Z.intsFrom 0 xs.length,none) h:=q5g (by omega)
 have ea:∀ i (hi:i<xs.length),atI xs (i:Int)=some xs[i]:=fun i hi=>q0w (List.getElem?_eq_getElem hi)
 have hi:(Z.intsFrom 0 xs.length).length<=sizeLine:=by rw [len_from];exact hl2
 have key:lcL none (Z.intsFrom 0 xs.length) (gN 0) aYes (aC (m_qc n) (q02 (a2 fIx (aVar 1) (aVar 0)) (q02 (a2 fIx (aVar 2) (aVar 0)) aNil))) [none,some (.tup xs),some (.tup xs)] (Z.intsFrom 0 xs.length) [] h=.ok ([]++(List.range xs.length).map fun _=>AV.bl true) h:=by
  refine q2w (k:=fun i:Nat=>AV.int (0+(i:Int))) q0x (List.range xs.length) [] fun i hi=>?_
  have hi:=List.mem_range.mp hi
  refine ⟨_,rfl,?_⟩
  have:=hs i hi
  simp [ea i hi,this]
 have kb:q4j ((List.range xs.length).map fun _=>AV.bl true)=some ((List.range xs.length).map fun _=>true):=q8k (fun _:Nat=>true) _
 simp [m_qc,b_qc,bEnv,hl2,hb,hi,key,kb]
theorem same_self (h:AH):∀ (n:Nat) (x:AV),okD n x=true->m_qc (n+1) [x,x] h=.ok (.bl true) h
 | n, .non,_=>by simp [m_qc,b_qc]
 | n, .bl b,_=>by simp [m_qc,b_qc]
 | n, .int b,_=>by simp [m_qc,b_qc]
 | n, .str b,_=>by simp [m_qc,b_qc]
 | 0, .tup xs,d=>by simp [okD] at d
 | 0, .lst xs,d=>by simp [okD] at d
 | n+1, .tup xs,d=>by
  simp only [okD,Bool.and_eq_true,decide_eq_true_eq] at d
  exact qlv d.1 fun i hi=>same_self h n xs[i] (q7f d.2 (List.getElem?_eq_getElem hi))
 | n+1, .lst xs,d=>by
  simp only [okD,Bool.and_eq_true,decide_eq_true_eq] at d
  exact qdw d.1 (.inl rfl) (.inl rfl) fun i hi=>same_self h n xs[i] (q7f d.2 (List.getElem?_eq_getElem hi))
 | n, .dk _ _,d=>by simp [okD] at d
 | n, .ref _,d=>by simp [okD] at d
 | n, .kst _,d=>by simp [okD] at d
 | n, .xc _,d=>by simp [okD] at d
theorem qmb {h:AH} {n:Nat} {x y:AV} {xs:List AV} (hl:xs.length<=100000) (hx:IsL h x xs) (hy:IsL h y xs) (hd:okDs n xs=true):m_qc (n+2) [x,y] h=.ok (.bl true) h:=
 qdw hl hx hy fun i hi=>same_self h n xs[i] (q7f hd (List.getElem?_eq_getElem hi))
section
variable {h:AH} {a d l e:Nat} {day:Int} {ks:List Key} {xs ws es:List AV}
@[simp] theorem last_set' (h:AH) (i:Nat) (z x y:Cell):(h.set i z++[x]).set h.length y=h.set i z++[y]:=by
 have:=qky (h.set i z) x y
 rwa [List.length_set] at this
end
end PM
namespace PM
open PySem L2 Z
section
variable {h:AH} {a d l e:Nat} {day:Int} {ks:List Key} {xs ws es:List AV}
variable {b s f r:Nat} {nm bn sn fnm rn:Str} {left g x y:Int} {m:Bool} {tg wg st:AV} {rs:List Str}
def pt (z:Str×Int):AV:=.tup [.str z.1, .int z.2]
theorem qgo {h:AH} {x:AV} {xs:List AV} (hx:IsL h x xs):okW h xs (watch x)=true:=by
 rcases hx with rfl | ⟨k,rfl,ek⟩
 ·exact q0x
 ·exact q9e ek
theorem qgr {h:AH} {x:AV} {xs:List AV} (hx:IsL h x xs):q4i h x=some xs:=by
 rcases hx with rfl | ⟨k,rfl,ek⟩
 ·rfl
 ·simp [ek]
theorem qn6 {h:AH} {x:AV} {xs:List AV} (hx:IsL h x xs):q4f h x=some xs:=by
 rcases hx with rfl | ⟨k,rfl,ek⟩
 ·rfl
 ·simp [ek]
theorem IsL.app {h g:AH} {x:AV} {xs:List AV} (hx:IsL h x xs):IsL (h++g) x xs:=by
 rcases hx with rfl | ⟨k,rfl,ek⟩
 ·exact .inl rfl
 ·exact .inr ⟨k,rfl,q4s ek⟩
end
end PM
namespace PM
open PySem L2 Z
section
variable {h:AH} {a d l e:Nat} {day:Int} {ks:List Key} {xs ws es:List AV} {nm:Str} {m:Bool} {t1 t2 w1 w2:Int} {p:AV} {ro:List (Str×Int×Int)}
theorem lsq_l (h:AH) (xs:List AV):q4i h (.lst xs)=some xs:=rfl
theorem seq_l (h:AH) (xs:List AV):q4f h (.lst xs)=some xs:=rfl
theorem watch_l (xs:List AV):watch (.lst xs)=none:=rfl
end
end PM
namespace PM
open PySem L2 Z
theorem q2n {m:AF} {ma:AA} {env:AEnv} {h h1:AH} {vs:List AV} {r:Re AV} (ha:ma env h=.ok vs h1) (hm:m vs h1=r):aC m ma env h=r:=by
 unfold aC
 rw [ha,Re.q3h,hm]
theorem q8o {e:AE} {env:AEnv} {h h1:AH} {x:AV} (he:e env h=.ok x h1):q0q e env h=.nx env h1:=by
 unfold q0q
 rw [he,Re.q2e]
theorem q53 {e:AE} {i:Nat} {env:AEnv} {h h1:AH} {x:AV} (he:e env h=.ok x h1):sAsg e (gN i) env h=.nx (env.set i (some x)) h1:=by
 unfold sAsg
 rw [he,Re.q2e];rfl
theorem qd0 (n:Nat):Z.intsFrom 0 n=(List.range n).map fun i:Nat=>AV.int (i:Int):=by
 unfold Z.intsFrom
 simp
theorem qbp {n i:Nat} {a:AE} {body:AS} {P:Nat->AEnv->AH->Prop} {env:AEnv} {h:AH} (hn:n<=1000000) (ha:a env h=.ok (.int (n:Int)) h) (h0:P 0 env h)
  (hs:∀ j,j<n->∀ env h,P j env h->∃ e2 h2,body (env.set i (some (.int (j:Int)))) h=.nx e2 h2/\P (j+1) e2 h2) :
  ∃ e2 h2,sFor (q3a a) (gN i) body env h=.nx e2 h2/\P n e2 h2:=by
 have hl:=q62 (wt:=none) (all:=Z.intsFrom 0 n) (g:=gN i) (body:=body) (k:=fun i:Nat=>AV.int (i:Int)) (P:=P) (fun _ _ _ _=>q0x) (List.range n) 0 env h h0 (fun j y hj env h hP=>by
  obtain ⟨hj1,hj2⟩:=List.getElem?_eq_some_iff.mp hj
  simp at hj1 hj2
  subst hj2
  rw [Nat.zero_add] at hP
  obtain ⟨e2,h2,q1,q2⟩:=hs j hj1 env h hP
  exact ⟨_,_,e2,h2,rfl, .inl q1,by rw [Nat.zero_add];exact q2⟩)
 obtain ⟨e2,h2,q1,q2⟩:=hl
 rw [List.length_range,Nat.zero_add] at q2
 refine ⟨e2,h2,?_,q2⟩
 unfold sFor q3a
 rw [ha]
 simp only [Re.q3h]
 rw [q5g hn]
 simp only [Re.q2e]
 rw [qd0] at q1 ⊢
 exact q1
theorem qkj {lo n i:Nat} {a b:AE} {body:AS} {P:Nat->AEnv->AH->Prop} {env:AEnv} {h:AH} (hlo:lo<=1000000) (hn:n<=1000000) (ha:a env h=.ok (.int (lo:Int)) h) (hb:b env h=.ok (.int (n:Int)) h) (h0:P 0 env h)
  (hs:∀ j,lo+j<n->∀ env h,P j env h->∃ e2 h2,body (env.set i (some (.int ((lo+j:Nat):Int)))) h=.nx e2 h2/\P (j+1) e2 h2) :
  ∃ e2 h2,sFor (q66 a b) (gN i) body env h=.nx e2 h2/\P (n - lo) e2 h2:=by
 have hl:=q62 (wt:=none) (all:=Z.intsFrom lo (n - lo)) (g:=gN i) (body:=body) (k:=fun i:Nat=>AV.int ((lo:Int)+(i:Int))) (P:=P) (fun _ _ _ _=>q0x) (List.range (n - lo)) 0 env h h0 (fun j y hj env h hP=>by
  obtain ⟨hj1,hj2⟩:=List.getElem?_eq_some_iff.mp hj
  simp at hj1 hj2
  subst hj2
  rw [Nat.zero_add] at hP
  obtain ⟨e2,h2,q1,q2⟩:=hs j (by omega) env h hP
  rw [Int.natCast_add] at q1
  exact ⟨_,_,e2,h2,rfl, .inl q1,by rw [Nat.zero_add];exact q2⟩)
 obtain ⟨e2,h2,q1,q2⟩:=hl
 rw [List.length_range,Nat.zero_add] at q2
 refine ⟨e2,h2,?_,q2⟩
 unfold sFor q66
 rw [ha]
 simp only [Re.q3h,hb]
 rw [qf3 hlo hn]
 simp only [Re.q2e]
 exact q1
end PM
namespace PM
open PySem L2 Z
section
variable {h:AH} {a d l e:Nat} {day:Int} {ks:List Key} {xs ws es:List AV} {nm:Str} {w:Nat} {z:Wh} {g:Int}
def wdN (nm:Str) (j:Nat):Str:=Str.empty++nm++("/" : Str)++Str.ofString (toString ((1:Int)+(j:Int)))
theorem qjs {n:Nat} (hn:n<=1000) (hl:∀ j<n,(Str.empty++nm:Str).length<=sizeLine/\(Str.empty++nm++("/" : Str):Str).length<=sizeLine/\(wdN nm j).length<=sizeLine) :
  m_qu [.str nm, .int (n:Int)] h=.ok (.lst ((List.range n).map fun j=>.str (wdN nm j))) h:=by
 have e1:rng2 (.int 1) (.int ((n:Int)+1)) h=.ok (Z.intsFrom 1 n,none) h:=by
  have:=qf3 (i:=1) (j:=n+1) (h:=h) (by omega) (by omega)
  exact this
 have hsz:(Z.intsFrom 1 n).length<=sizeLine:=by rw [len_from];exact Nat.le_trans hn (by decide)
 have e2:lcL none (Z.intsFrom 1 n) (gN 0) aYes (qd4 (q6g (a1 qhl (aVar 1)) (q6g (aK (.str "/")) (q6g (a1 qhr (aVar 0)) qd6)))) [none,some (.str nm)] (Z.intsFrom 1 n) [] h=.ok ([]++(List.range n).map fun j=>AV.str (wdN nm j)) h:=by
  unfold Z.intsFrom
  refine q2w (k:=fun j:Nat=>AV.int (1+(j:Int))) q0x (List.range n) [] fun j hj=>⟨_,rfl,?_⟩
  have hj:=List.mem_range.mp hj
  obtain ⟨l1,l2,l3⟩:=hl j hj
  have hg:(1+(j:Int)).natAbs.log2<1920:=sm_of (by omega)
  have l0:nm.length<=sizeLine:=by rw [q1e] at l1;omega
  unfold wdN at l3 ⊢
  have l3':(Str.empty++nm++("/" : Str)++Str.ofString (Int.repr (1+(j:Int)))).length<=sizeLine:=l3
  simp [l0,l1,l2,l3',hg]
 simp [m_qu,b_qu,e1,hsz,bEnv, -qd4,e2]
variable {p:AV} {ps:List Int}
end
end PM
namespace PM
open PySem L2 Z
theorem qgp {α:Type} {h:AH} {wt:Option Nat} {all:List AV} {g:AV->AEnv->AH->Re AEnv} {body:AS} {k:α->AV} {P:AEnv->Prop} {x:AV} {good:α->Bool} (hw:okW h all wt=true) :
  ∀ (ys:List α) (env:AEnv),P env->ys.all good=false ->
   (∀ y∈ys, ∀ env,P env->∃ e1,g (k y) env h=.ok e1 h/\(good y=true->∃ e2,body e1 h=.nx e2 h/\P e2)/\(good y=false->body e1 h=.rt x h)) ->
   q1y wt all g body (ys.map k) env h=.rt x h
 | [],env,_,hb,_=>by simp at hb
 | y::ys,env,hp,hb,hs=>by
  obtain ⟨e1,q1,q2,q3⟩:=hs y (by simp) env hp
  rw [List.map_cons,q1y,if_pos hw,q1]
  simp only [Re.to]
  cases hg:good y with
  | false=>rw [q3 hg]
  | true =>
   obtain ⟨e2,r1,r2⟩:=q2 hg
   rw [r1]
   exact qgp hw ys e2 r2 (by simpa [hg] using hb) fun y hy=>hs y (List.mem_cons_of_mem _ hy)
section
variable {h:AH}
theorem ixS {z:Str} {i:Int} (hz:z.length<=100000) (h0:0<=i) (h1:i<z.length):∃ c,c∈z.cps.toList/\fIxS (.str z) (.int i) h=.ok (.str ⟨#[c]⟩) h:=by
 obtain ⟨n,rfl⟩:=Int.eq_ofNat_of_zero_le h0
 have hn:n<z.cps.toList.length:=by rw [Array.length_toList];exact Int.ofNat_lt.mp h1
 refine ⟨z.cps.toList[n],List.getElem_mem hn,?_⟩
 have:=q0w (List.getElem?_eq_getElem hn)
 simp only [fIxS,this]
 rw [if_pos (Nat.le_trans hz (by decide))]
end
end PM
namespace PM
open PySem L2 Z
def b_qt:AS:=
 (sSeq (sAsg (q5u (q3k (aVar 1) (aK (.bl true)) q6k)) (gN 3))
 (sSeq (sAsg (q3r aNil) (gN 4))
 (sSeq (sFor (iLst (aVar 0)) (gN 5)
 (sIf (aB (a2 fGe (a2 fIx (aVar 5) (aK (.int 0))) (aVar 2)))
 (sSeq (sAsg (q3r aNil) (gN 6))
 (sSeq (sFor (iLst (aC m_qa (q02 (aVar 5) aNil))) (gN 7)
 (sIf (aB (aC fAny (q02 (aLc 1 [5,7] (iLst (aC q6e (q02 (aVar 3) aNil))) (gN 0) aYes (aC m_qd (q02 (aVar 1) (q02 (aVar 0) (q02 (aVar 2) aNil))))) aNil)))
 (q0q (aMtL q15 (aVar 6) (q02 (aVar 7) aNil)))
 q10))
 (sSeq (sIf (aAnd (aB (a2 fEq (a2 fIx (aVar 5) (aK (.int 1))) (aK (.str "boil")))) (aB (a2 fDIn (a2 fIx (aVar 5) (aK (.int 2))) (aVar 3))))
 (q0q (q78 (aVar 3) (a2 fIx (aVar 5) (aK (.int 2)))))
 q10)
 (sFor (iLst (aVar 6)) (gN 7)
 (sSeq (q1h (aVar 3) (aVar 7) (aK (.bl true)))
 (sIf (aB (a2 fEq (a2 fIx (aVar 5) (aK (.int 1))) (aK (.str "cut"))))
 (q0q (aMtL q15 (aVar 4) (q02 (aVar 7) aNil)))
 q10))))))
 q10))
 (sRet (aFrz (aVar 4))))))
def m_qt:AF:=qao (fnZ 8 b_qt)
def b_qe:AS:=
 (sSeq (q0q (q78 (a2 q08 (aVar 0) (aK (.str "lies"))) (aVar 1)))
 (sSeq (q0q (aMtL q15 (a2 q08 (aVar 0) (aK (.str "book"))) (q02 (aTup (q02 (a2 q08 (aVar 0) (aK (.str "day"))) (q02 (aK (.str "cut")) (q02 (aVar 1) (q02 (a2 qd1 (aTup (q02 (aK (.int 7)) aNil)) (aVar 2)) (q02 (a2 fSub (aK (.int 1000)) (a2 fMul (aK (.int 7)) (aVar 2))) aNil)))))) aNil)))
 (sFor (q3a (aVar 2)) (gN 3)
 (q0q (aMtL q15 (a2 q08 (aVar 0) (aK (.str "unsold"))) (q02 (a2 q2f (a2 q2f (aVar 1) (aK (.str "/"))) (aC q3n (q02 (a2 fAdd (aVar 3) (aK (.int 1))) aNil))) aNil))))))
def m_qe:AF:=fnZ 4 b_qe
def b_ql:AS:=
 (sSeq (sAsg q75 (gN 1))
 (sSeq (sFor (qd2 (aK (.str "fghmnopqkl567xv0123456789"))) (gN 2)
 (q1h (aVar 1) (aVar 2) (aC m_qi (q02 (aVar 0) (q02 (aVar 2) aNil)))))
 (sSeq (sAsg (a2 fIx (aLst (q02 (aK (.int 0)) (q02 (aK (.int 0)) (q02 (aK (.int 1)) (q02 (aK (.int 25)) (q02 (aK (.int 200)) aNil)))))) (a2 fMod (a2 fDiv (aC m_qk (q02 (aVar 0) (q02 (aK (.int 1)) aNil))) (aK (.int 12))) (aK (.int 5)))) (gN 3))
 (sSeq (sAsg (aLcC 1 [] (q3a (aVar 3)) (gN 0) aYes (aTup (q02 (aVar 0) (q02 (aK (.str "night")) (q02 (aTup aNil) aNil))))) (gN 4))
 (sSeq (q0q (aMtL q15 (aVar 4) (q02 (aTup (q02 (aVar 3) (q02 (aK (.str "batch")) (q02 (a2 q08 (aVar 1) (aK (.str "m"))) (q02 (aTup (q02 (aTup (q02 (a2 q08 (aVar 1) (aK (.str "f"))) (q02 (aK (.int 9000)) aNil))) (q02 (aTup (q02 (a2 q08 (aVar 1) (aK (.str "g"))) (q02 (aK (.int 9000)) aNil))) aNil))) aNil))))) aNil)))
 (sSeq (q0q (aMtL q15 (aVar 4) (q02 (aTup (q02 (aVar 3) (q02 (aK (.str "batch")) (q02 (a2 q08 (aVar 1) (aK (.str "n"))) (q02 (aTup (q02 (aTup (q02 (a2 q08 (aVar 1) (aK (.str "h"))) (q02 (aK (.int 9000)) aNil))) (q02 (aTup (q02 (a2 q08 (aVar 1) (aK (.str "g"))) (q02 (aK (.int 9000)) aNil))) aNil))) aNil))))) aNil)))
 (sSeq (q0q (aMtL q15 (aVar 4) (q02 (aTup (q02 (aVar 3) (q02 (aK (.str "batch")) (q02 (a2 q08 (aVar 1) (aK (.str "o"))) (q02 (aTup (q02 (aTup (q02 (a2 q08 (aVar 1) (aK (.str "f"))) (q02 (aK (.int 9000)) aNil))) aNil)) aNil))))) aNil)))
 (sSeq (sAsg q75 (gN 5))
 (sSeq (sFor (q3a (aK (.int 3))) (gN 6)
 (sSeq (sAsg (aC m_qi (q02 (aVar 0) (q02 (a2 fIx (aLst (q02 (aK (.str "a0")) (q02 (aK (.str "a1")) (q02 (aK (.str "a2")) aNil)))) (aVar 6)) aNil))) (gN 7))
 (sSeq (q1h (aVar 5) (aVar 7) (a2 q08 (aVar 1) (a2 fIxS (aK (.str "567")) (aVar 6))))
 (q0q (aMtL q15 (aVar 4) (q02 (aTup (q02 (aVar 3) (q02 (aK (.str "wheel")) (q02 (aVar 7) (q02 (a2 q08 (aVar 1) (a2 fIxS (aK (.str "mno")) (aVar 6))) (q02 (a2 q08 (aVar 1) (aK (.str "v"))) (q02 (a2 q08 (aVar 5) (aVar 7)) (q02 (aK (.int 1000)) aNil)))))))) aNil))))))
 (sRet (q5u (q3k (aK (.str "names")) (aVar 1) (q3k (aK (.str "book")) (aVar 4) (q3k (aK (.str "lies")) (aVar 5) (q3k (aK (.str "day")) (aVar 3) (q3k (aK (.str "unsold")) (q3r aNil) (q3k (aK (.str "made")) (aK (.int 3)) (q3k (aK (.str "first")) (aVar 3) q6k))))))))))))))))))
def m_ql:AF:=fnZ 8 b_ql
def b_qq:AS:=
 (sSeq (sAsg (a2 q08 (aVar 0) (aK (.str "names"))) (gN 3))
 (sIf (aAnd (aB (a2 fEq (a2 fMod (aVar 2) (aK (.int 2))) (aK (.int 0)))) (aB (a2 fLt (a2 q08 (aVar 0) (aK (.str "made"))) (aK (.int 10)))))
 (sSeq (sAsg (aC m_qi (q02 (aVar 1) (q02 (a2 q2f (aK (.str "a")) (aC q3n (q02 (a2 q08 (aVar 0) (aK (.str "made"))) aNil))) aNil))) (gN 4))
 (sSeq (q1h (aVar 0) (aK (.str "made")) (a2 fAdd (a2 q08 (aVar 0) (aK (.str "made"))) (aK (.int 1))))
 (sSeq (q1h (a2 q08 (aVar 0) (aK (.str "lies"))) (aVar 4) (a2 q08 (aVar 3) (a2 fIxS (aK (.str "567")) (a2 fMod (a2 fDiv (aVar 2) (aK (.int 2))) (aK (.int 3))))))
 (sSeq (sAsg (aTup (q02 (a2 q08 (aVar 0) (aK (.str "day"))) (q02 (aK (.str "wheel")) (q02 (aVar 4) (q02 (a2 q08 (aVar 3) (a2 fIxS (aK (.str "mno")) (a2 fMod (a2 fDiv (aVar 2) (aK (.int 6))) (aK (.int 3))))) (q02 (a2 q08 (aVar 3) (aK (.str "v"))) (q02 (a2 q08 (a2 q08 (aVar 0) (aK (.str "lies"))) (aVar 4)) (q02 (aK (.int 1000)) aNil)))))))) (gN 5))
 (q0q (aMtL q15 (a2 q08 (aVar 0) (aK (.str "book"))) (q02 (aVar 5) aNil)))))))
 (sIf (aB (a2 qaj (a2 q08 (aVar 0) (aK (.str "unsold"))) (aLst aNil)))
 (sSeq (sAsg (aMtL qf2 (a2 q08 (aVar 0) (aK (.str "unsold"))) (q02 (a2 fMod (a2 fDiv (aVar 2) (aK (.int 2))) (aC fLen (q02 (a2 q08 (aVar 0) (aK (.str "unsold"))) aNil))) aNil)) (gN 6))
 (q0q (aMtL q15 (a2 q08 (aVar 0) (aK (.str "book"))) (q02 (aTup (q02 (a2 q08 (aVar 0) (aK (.str "day"))) (q02 (aK (.str "sell")) (q02 (aVar 6) aNil)))) aNil))))
 q10)))
def m_qq:AF:=fnZ 7 b_qq
def b_qp:AS:=
 (sSeq (sAsg (a2 q08 (aVar 0) (aK (.str "names"))) (gN 3))
 (sSeq (sAsg (a2 fDiv (aVar 2) (aK (.int 8))) (gN 4))
 (sSeq (sAsg (aC q6e (q02 (a2 q08 (aVar 0) (aK (.str "lies"))) aNil)) (gN 5))
 (sSeq (sIf (aOr (aB (a2 fLt (a2 fMod (aVar 2) (aK (.int 8))) (aK (.int 2)))) (aB (a2 q8c (aVar 5) (aLst aNil))))
 (sSeq (sAsg (aLc 1 [3,0] (iLst (aVar 5)) (gN 0) aYes (aTup (q02 (aVar 0) (q02 (a2 q08 (aVar 1) (aK (.str "x"))) (q02 (a2 q08 (a2 q08 (aVar 2) (aK (.str "lies"))) (aVar 0)) (q02 (aK (.int 0)) aNil)))))) (gN 6))
 (sSeq (q0q (aMtL q15 (a2 q08 (aVar 0) (aK (.str "book"))) (q02 (aTup (q02 (a2 q08 (aVar 0) (aK (.str "day"))) (q02 (aK (.str "night")) (q02 (aC q80 (q02 (aVar 6) aNil)) aNil)))) aNil)))
 (sSeq (q1h (aVar 0) (aK (.str "day")) (a2 fAdd (a2 q08 (aVar 0) (aK (.str "day"))) (aK (.int 1))))
 qho)))
 q10)
 (sSeq (sAsg (a2 fIx (aVar 5) (a2 fMod (aVar 4) (aC fLen (q02 (aVar 5) aNil)))) (gN 7))
 (sSeq (sAsg (a2 fDiv (aVar 4) (aC fLen (q02 (aVar 5) aNil))) (gN 4))
 (sIf (aB (a2 fLt (a2 fMod (aVar 2) (aK (.int 8))) (aK (.int 5))))
 (sSeq (sAsg (aTup (q02 (a2 q08 (aVar 0) (aK (.str "day"))) (q02 (aK (.str "wash")) (q02 (aVar 7) (q02 (a2 q08 (aVar 3) (a2 fIxS (aK (.str "pq")) (a2 fMod (aVar 4) (aK (.int 2))))) (q02 (a2 q08 (aVar 3) (a2 fIxS (aK (.str "kl")) (a2 fMod (a2 fDiv (aVar 4) (aK (.int 2))) (aK (.int 2))))) aNil)))))) (gN 8))
 (q0q (aMtL q15 (a2 q08 (aVar 0) (aK (.str "book"))) (q02 (aVar 8) aNil))))
 (sIf (aB (a2 fEq (a2 fMod (aVar 2) (aK (.int 8))) (aK (.int 5))))
 (sSeq (q1h (a2 q08 (aVar 0) (aK (.str "lies"))) (aVar 7) (a2 q08 (aVar 3) (a2 fIxS (aK (.str "567")) (a2 fMod (aVar 4) (aK (.int 3))))))
 (q0q (aMtL q15 (a2 q08 (aVar 0) (aK (.str "book"))) (q02 (aTup (q02 (a2 q08 (aVar 0) (aK (.str "day"))) (q02 (aK (.str "move")) (q02 (aVar 7) (q02 (a2 q08 (a2 q08 (aVar 0) (aK (.str "lies"))) (aVar 7)) aNil))))) aNil))))
 (sIf (aB (a2 fEq (a2 fMod (aVar 2) (aK (.int 8))) (aK (.int 6))))
 (sIf (aB (a2 fEq (a2 fMod (aVar 4) (aK (.int 3))) (aK (.int 0))))
 (q0q (aC m_qe (q02 (aVar 0) (q02 (aVar 7) (q02 (a2 fIx (aLst (q02 (aK (.int 1)) (q02 (aK (.int 2)) (q02 (aK (.int 3)) (q02 (aK (.int 8)) aNil))))) (a2 fMod (a2 fDiv (aVar 4) (aK (.int 3))) (aK (.int 4)))) aNil)))))
 (q0q (aMtL q15 (a2 q08 (aVar 0) (aK (.str "book"))) (q02 (aTup (q02 (a2 q08 (aVar 0) (aK (.str "day"))) (q02 (aK (.str "boil")) (q02 (a2 q08 (aVar 3) (a2 fIxS (aK (.str "pqkl567")) (a2 fMod (a2 fDiv (aVar 4) (aK (.int 3))) (aK (.int 7))))) aNil)))) aNil))))
 (q0q (aC m_qq (q02 (aVar 0) (q02 (aVar 1) (q02 (aVar 4) aNil))))))))))))))
def m_qp:AF:=fnZ 9 b_qp
def b_qx:AS:=
 (sSeq (sAsg (aC m_ql (q02 (aVar 0) aNil)) (gN 2))
 (sSeq (sFor (q66 (aVar 1) (aC q8m (q02 (aC fLen (q02 (aVar 0) aNil)) (q02 (aK (.int 62)) aNil)))) (gN 3)
 (q0q (aC m_qp (q02 (aVar 2) (q02 (aVar 0) (q02 (a2 fIx (aVar 0) (aVar 3)) aNil))))))
 (sSeq (sFor (iLst (aC q6e (q02 (a2 q08 (aVar 2) (aK (.str "lies"))) aNil))) (gN 4)
 (q0q (aC m_qe (q02 (aVar 2) (q02 (aVar 4) (q02 (a2 fIx (aLst (q02 (aK (.int 1)) (q02 (aK (.int 2)) (q02 (aK (.int 3)) (q02 (aK (.int 8)) aNil))))) (a2 fMod (aC m_qk (q02 (aVar 0) (q02 (a2 fSub (aVar 1) (aK (.int 1))) aNil))) (aK (.int 4)))) aNil))))))
 (sRet (aVar 2)))))
def m_qx:AF:=fnZ 5 b_qx
def b_qy:AS:=
 (sSeq (sIf (aB (a2 fEq (a2 fIx (aVar 0) (aK (.int 1))) (aK (.str "wash"))))
 (sRet (aLst (q02 (aLst (q02 (a2 fIx (aVar 0) (aK (.int 2))) (q02 (a2 fIx (aVar 0) (aK (.int 3))) (q02 (a2 fIx (aVar 0) (aK (.int 4))) aNil)))) aNil)))
 q10)
 (sSeq (sIf (aB (a2 fNe (a2 fIx (aVar 0) (aK (.int 1))) (aK (.str "night"))))
 (sRet (aLst aNil))
 q10)
 (sSeq (sAsg q75 (gN 1))
 (sSeq (sFor (q60 (a2 fIx (aVar 0) (aK (.int 2)))) (gT 4 (q12 (gN 2) (q12 (gN 3) (q12 (gN 4) (q12 (gN 5) q37)))))
 (q0q (aMtL q15 (qaw (aVar 1) (aVar 4) (q3r (q02 (aVar 4) aNil))) (q02 (aVar 2) aNil))))
 (sRet (qjm (aVar 1)))))))
def m_qy:AF:=fnZ 6 b_qy
def b_q0:AS:=
 (sSeq (sIf (aB (a2 fEq (a2 fIx (aVar 0) (aK (.int 1))) (aK (.str "batch"))))
 (sRet (aLc 1 [0] (iLst (a1 q87 (aLc 2 [] (q60 (a2 fIx (aVar 0) (aK (.int 3)))) (gT 2 (q12 (gN 0) (q12 (gN 1) q37))) aYes (aVar 0)))) (gN 0) aYes (aTup (q02 (aVar 0) (q02 (a2 fIx (aVar 1) (aK (.int 2))) aNil)))))
 q10)
 (sSeq (sIf (aB (a2 fEq (a2 fIx (aVar 0) (aK (.int 1))) (aK (.str "wheel"))))
 (sRet (aLst (q02 (aTup (q02 (a2 fIx (aVar 0) (aK (.int 3))) (q02 (a2 fIx (aVar 0) (aK (.int 2))) aNil))) aNil)))
 q10)
 (sSeq (sIf (aB (a2 fEq (a2 fIx (aVar 0) (aK (.int 1))) (aK (.str "cut"))))
 (sRet (aLc 1 [0] (iLst (aC m_qu (q02 (a2 fIx (aVar 0) (aK (.int 2))) (q02 (aC fLen (q02 (a2 fIx (aVar 0) (aK (.int 3))) aNil)) aNil)))) (gN 0) aYes (aTup (q02 (a2 fIx (aVar 1) (aK (.int 2))) (q02 (aVar 0) aNil)))))
 q10)
 (sRet (aLst aNil)))))
def m_q0:AF:=fnZ 1 b_q0
def b_qv:AS:=
 (sSeq (sAsg (aLcC 1 [1] (iLst (aC m_q0 (q02 (aVar 0) aNil))) (gN 0) (aB (a2 fDIn (a2 fIx (aVar 0) (aK (.int 0))) (aVar 1))) (aVar 0)) (gN 2))
 (sSeq (sFor (iLst (aC m_qy (q02 (aVar 0) aNil))) (gN 3)
 (sSeq (sAsg (aLc 1 [1] (iLst (aVar 3)) (gN 0) (aB (a2 fDIn (aVar 0) (aVar 1))) (aVar 0)) (gN 4))
 (sIf (aTru (aVar 4))
 (q0q (aMtL q79 (aVar 2) (q02 (aLc 1 [4,1] (iLst (aVar 3)) (gN 0) (aB (a2 q67 (aVar 0) (aVar 2))) (aTup (q02 (a2 fIx (aVar 1) (aK (.int 0))) (q02 (aVar 0) aNil)))) aNil)))
 q10)))
 (sRet (aFrz (aVar 2)))))
def m_qv:AF:=fnZ 5 b_qv
def b_qz:AS:=
 (sSeq (sAsg (q5u (q3k (aVar 1) (aLst aNil) q6k)) (gN 3))
 (sSeq (sAsg (q3r aNil) (gN 4))
 (sSeq (sFor (qak (aVar 0)) (gT 2 (q12 (gN 5) (q12 (gN 6) q37)))
 (sSeq (sIf (aB (a2 fLt (a2 fIx (aVar 6) (aK (.int 0))) (aVar 2)))
 qd3
 q10)
 (sSeq (sIf (aB (a2 fEq (a2 fIx (aVar 6) (aK (.int 1))) (aK (.str "boil"))))
 (q0q (qag (aVar 3) (a2 fIx (aVar 6) (aK (.int 2))) (aK .non)))
 q10)
 (sSeq (sAsg (aC m_qv (q02 (aVar 6) (q02 (aVar 3) aNil))) (gN 7))
 (sSeq (sFor (iLst (aVar 7)) (gT 2 (q12 (gN 8) (q12 (gN 9) q37)))
 (q1h (aVar 3) (aVar 9) (a2 fCat (a2 q08 (aVar 3) (aVar 8)) (aLst (q02 (aTup (q02 (aVar 5) (q02 (aVar 8) (q02 (aVar 9) aNil)))) aNil)))))
 (sIf (aB (a2 fEq (a2 fIx (aVar 6) (aK (.int 1))) (aK (.str "cut"))))
 (q0q (aMtL q79 (aVar 4) (q02 (aLc 2 [3] (iLst (aVar 7)) (gT 2 (q12 (gN 0) (q12 (gN 1) q37))) aYes (aTup (q02 (aVar 1) (q02 (a2 q08 (aVar 2) (aVar 1)) aNil)))) aNil)))
 q10))))))
 (sRet (aFrz (aVar 4))))))
def m_qz:AF:=fnZ 10 b_qz
end PM
namespace KR
open PySem L2 Z PM
def sA (xs:List Str):List AV:=xs.map AV.str
def prA (p:Str×Str):AV:=.tup [.str p.1, .str p.2]
abbrev Step:=Nat×Str×Str
def stA (s:Step):AV:=.tup [.int (s.1:Int), .str s.2.1, .str s.2.2]
def wayA (w:List Step):AV:=.lst (w.map stA)
abbrev Ways:=List (Str×List Step)
def keyW (W:Ways):List Key:=W.map fun z=>.inr z.1
def valW (W:Ways):List AV:=W.map fun z=>wayA z.2
def getW:Ways->Str->Option (List Step)
 | [],_=>none
 | z::r,x=>if z.1=x then some z.2 else getW r x
def hasW (W:Ways) (x:Str):Bool:=(getW W x).isSome
def putW (W:Ways) (x:Str) (w:List Step):Ways:=if hasW W x=true then W.map fun z=>if z.1=x then (z.1,w) else z else W++[(x,w)]
def q3l (W:Ways) (x:Str):Ways:=W.filter fun z=>decide (z.1≠x)
theorem q6b (x:Str):∀ W:Ways,dval (keyW W) (valW W) (.inr x)=(getW W x).map wayA
 | []=>rfl
 | z::r=>by
  show (if (Sum.inr z.1:Key)=.inr x then some (wayA z.2) else dval (keyW r) (valW r) (.inr x))=_
  unfold getW
  by_cases h:z.1=x
  ·rw [if_pos (by rw [h]),if_pos h];rfl
  ·rw [if_neg fun e=>h (Sum.inr.inj e),if_neg h];exact q6b x r
theorem any_W (x:Str):∀ W:Ways,((keyW W).any fun k=>decide (k=.inr x))=hasW W x
 | []=>rfl
 | z::r=>by
  unfold hasW getW
  show (decide ((Sum.inr z.1:Key)=.inr x) || _)=_
  by_cases h:z.1=x
  ·rw [if_pos h,h,decide_eq_true rfl];rfl
  ·rw [if_neg h,decide_eq_false fun e=>h (Sum.inr.inj e),Bool.false_or];exact any_W x r
theorem qg8 (x:Str) (w:List Step):∀ W:Ways,q4g (.inr x) (wayA w) (keyW W) (valW W)=valW (W.map fun z=>if z.1=x then (z.1,w) else z)
 | []=>rfl
 | z::r=>by
  show (if (Sum.inr z.1:Key)=.inr x then wayA w else wayA z.2)::q4g (.inr x) (wayA w) (keyW r) (valW r)=_
  rw [qg8 x w r]
  by_cases h:z.1=x
  ·rw [if_pos (by rw [h])];simp [valW,h]
  ·rw [if_neg fun e=>h (Sum.inr.inj e)];simp [valW,h]
theorem dput_W (W:Ways) (x:Str) (w:List Step):dput (keyW W) (valW W) (.inr x) (wayA w)=(keyW (putW W x w),valW (putW W x w)):=by
 unfold dput putW
 rw [any_W]
 by_cases h:hasW W x=true
 ·rw [if_pos h,if_pos h,qg8]
  congr 1
  unfold keyW
  rw [List.map_map]
  apply List.map_congr_left
  intro z _
  by_cases e:z.1=x <;> simp [e]
 ·rw [if_neg h,if_neg h];simp [keyW,valW]
theorem qgk (x:Str):∀ W:Ways,q3i (.inr x) (keyW W) (valW W)=valW (q3l W x)
 | []=>rfl
 | z::r=>by
  show (if (Sum.inr z.1:Key)=.inr x then q3i (.inr x) (keyW r) (valW r) else wayA z.2::q3i (.inr x) (keyW r) (valW r))=_
  rw [qgk x r]
  by_cases h:z.1=x
  ·rw [if_pos (by rw [h])];simp [q3l,h]
  ·rw [if_neg fun e=>h (Sum.inr.inj e)];simp [q3l,h,valW]
theorem qnb (x:Str) (W:Ways):(keyW W).filter (fun i=>decide (i≠.inr x))=keyW (q3l W x):=by
 unfold keyW q3l
 rw [List.filter_map]
 congr 1
 apply List.filter_congr
 intro z _
 simp
theorem q63 (W:Ways) (x y:Str) (w:List Step):getW (putW W x w) y=if x=y then some w else getW W y:=by
 unfold putW
 by_cases h:hasW W x=true
 ·rw [if_pos h]
  induction W with
  | nil=>simp [hasW,getW] at h
  | cons z r ih =>
   rw [List.map_cons]
   by_cases e:z.1=x
   ·rw [if_pos e]
    by_cases exy:x=y
    ·simp [getW,e,exy]
    ·rw [if_neg exy]
     have:∀ r:Ways,getW (r.map fun z=>if z.1=x then (z.1,w) else z) y=getW r y:=by
      intro r
      induction r with
      | nil=>rfl
      | cons z r ih =>
       rw [List.map_cons]
       by_cases e:z.1=x
       ·simp [getW,e,exy,ih]
       ·simp [getW,e,ih]
     simp [getW,e,exy,this]
   ·rw [if_neg e]
    have h':hasW r x=true:=by simpa [hasW,getW,e] using h
    have:=ih h'
    by_cases ezy:z.1=y
    ·have:x≠y:=fun q=>e (ezy.trans q.symm)
     simp [getW,ezy,this]
    ·simp only [getW,if_neg ezy];exact this
 ·rw [if_neg h]
  have hn:getW W x=none:=by simpa [hasW] using h
  induction W with
  | nil=>simp [getW]
  | cons z r ih =>
   rw [List.cons_append]
   have hz:z.1≠x:=by
    intro e
    simp [getW,e] at hn
   have hn':getW r x=none:=by simpa [getW,hz] using hn
   have:=ih (by simp [hasW,hn']) hn'
   by_cases ezy:z.1=y
   ·have:x≠y:=fun q=>hz (ezy.trans q.symm)
    simp [getW,ezy,this]
   ·simp only [getW,if_neg ezy];exact this
theorem q9k (W:Ways) (x y:Str):getW (q3l W x) y=if x=y then none else getW W y:=by
 unfold q3l
 induction W with
 | nil=>simp [getW]
 | cons z r ih =>
  by_cases e:z.1=x
  ·rw [List.filter_cons_of_neg (by simp [e]),ih]
   by_cases exy:x=y
   ·rw [if_pos exy,if_pos exy]
   ·rw [if_neg exy,if_neg exy];simp [getW,e,exy]
  ·rw [List.filter_cons_of_pos (by simp [e])]
   by_cases ezy:z.1=y
   ·have:x≠y:=fun q=>e (ezy.trans q.symm)
    simp [getW,ezy,this]
   ·simp only [getW,if_neg ezy];exact ih
theorem qmx (W:Ways) (x:Str) (w:List Step):(putW W x w).length<=W.length+1:=by
 unfold putW;split <;> simp
theorem qki (W:Ways) (x:Str):(q3l W x).length<=W.length:=List.length_filter_le _ _
theorem qkr (W:Ways):(keyW W).length=W.length:=by simp [keyW]
theorem qnq (W:Ways) (x y:Str) (w:List Step):hasW (putW W x w) y=(decide (x=y) || hasW W y):=by
 unfold hasW;rw [q63];by_cases h:x=y <;> simp [h]
theorem qlj (W:Ways) (x y:Str):hasW (q3l W x) y=(!decide (x=y) && hasW W y):=by
 unfold hasW;rw [q9k];by_cases h:x=y <;> simp [h]
structure En where
 day:Int
 boil:Option Str
 one:List (Str×Str)
 circ:List (List Str)
 cut:Bool
structure EnOk (a:AV) (e:En):Prop where
 tup:∃ xs k,a=.tup xs/\atI xs 0=some (.int e.day)/\atI xs 1=some (.str k)/\(∀ b,e.boil=some b->k = "boil" /\ atI xs 2=some (.str b))/\(e.boil=none->k ≠ "boil")/\(e.cut=true↔k = "cut")
 one:∀ h,m_q0 [a] h=.ok (.lst (e.one.map prA)) h
 circ:∀ h:AH, ∃ (zs:List (AV×List Str)) (g:AH),m_qy [a] h=.ok (.lst (zs.map (·.1))) (h++g)/\zs.map (·.2)=e.circ/\∀ z∈zs,IsL (h++g) z.1 (sA z.2)/\∀ k,z.1=.ref k->h.length<=k
 size:e.one.length+(e.circ.map (·.length)).sum<=1000
def q3p (W:Ways) (c:List Str):List (Str×Str):=match c.filter (hasW W) with
 | []=>[]
 | s::_=>(c.filter fun t=>!hasW W t).map fun t=>(s,t)
def q11 (e:En) (W:Ways):List (Str×Str):=e.one.filter (fun p=>hasW W p.1)++e.circ.flatMap (q3p W)
theorem q8d (W:Ways) (c:List Str):(q3p W c).length<=c.length:=by
 unfold q3p
 split
 ·exact Nat.zero_le _
 ·rw [List.length_map];exact List.length_filter_le _ _
theorem qac (W:Ways):∀ cs:List (List Str),(cs.flatMap (q3p W)).length<=(cs.map (·.length)).sum
 | []=>Nat.le_refl _
 | c::r=>by
  rw [List.flatMap_cons,List.length_append,List.map_cons,List.sum_cons]
  exact Nat.add_le_add (q8d W c) (qac W r)
theorem qa9 {a:AV} {e:En} (o:EnOk a e) (W:Ways):(q11 e W).length<=1000:=by
 unfold q11
 rw [List.length_append]
 exact Nat.le_trans (Nat.add_le_add (List.length_filter_le _ _) (qac W _)) o.size
theorem q9t {e:En} {W:Ways} {p:Str×Str} (h:p∈q11 e W):hasW W p.1=true:=by
 unfold q11 at h
 rcases List.mem_append.mp h with h | h
 ·exact (List.mem_filter.mp h).2
 ·obtain ⟨c,_,h⟩:=List.mem_flatMap.mp h
  unfold q3p at h
  split at h
  ·exact nomatch h
  ·rename_i s r e
   obtain ⟨t,_,rfl⟩:=List.mem_map.mp h
   have:s∈c.filter (hasW W):=by rw [e];exact List.mem_cons_self
   exact (List.mem_filter.mp this).2
def q9v:AS:=sSeq (sAsg (aLc 1 [1] (iLst (aVar 3)) (gN 0) (aB (a2 fDIn (aVar 0) (aVar 1))) (aVar 0)) (gN 4))
 (sIf (aTru (aVar 4))
 (q0q (aMtL q79 (aVar 2) (q02 (aLc 1 [4,1] (iLst (aVar 3)) (gN 0) (aB (a2 q67 (aVar 0) (aVar 2))) (aTup (q02 (a2 fIx (aVar 1) (aK (.int 0))) (q02 (aVar 0) aNil)))) aNil)))
 q10)
theorem qjn {h:AH} {P:List (Str×Str)} {g:AH} {d:Nat} {W:Ways} {z:AV×List Str} {a:AV} (hd:d<h.length) (hdk:h[d]?=some (.dk (keyW W) (valW W))) (hz:IsL (h ++ .lst (P.map prA)::g) z.1 (sA z.2)) (hl:z.2.length<=1000) (hP:P.length<=1000) {o4:Option AV} :
  ∃ o4',q9v [some a,some (.ref d),some (.ref h.length),some z.1,o4] (h ++ .lst (P.map prA)::g)=.nx [some a,some (.ref d),some (.ref h.length),some z.1,o4'] (h ++ .lst ((P++q3p W z.2).map prA)::g):=by
 have hdk':(h ++ .lst (P.map prA)::g)[d]?=some (.dk (keyW W) (valW W)):=q4s hdk
 have hp':(h ++ .lst (P.map prA)::g)[h.length]?=some (.lst (P.map prA)):=by
  rw [List.getElem?_append_right (Nat.le_refl _)];simp
 have hset:∀ c,(h ++ .lst (P.map prA)::g).set h.length c=h++c::g:=fun c=>by
  rw [List.set_append_right _ _ (Nat.le_refl _),Nat.sub_self];rfl
 have hw:=qgo hz
 have hq:=qgr hz
 have hsz:(sA z.2).length<=sizeLine:=by unfold sA;rw [List.length_map];exact Nat.le_trans hl (by decide)
 have k1:=q8r (wt:=watch z.1) (all:=sA z.2) (g:=gN 0) (tc:=aB (a2 fDIn (aVar 0) (aVar 1))) (te:=aVar 0) (be:=[none,some (.ref d)]) (h:=h ++ .lst (P.map prA)::g) (k:=AV.str) (f:=AV.str) (p:=hasW W) hw z.2 [] (fun y _=>⟨_,rfl,by simp [hdk',q6b,hasW],fun _=>rfl⟩)
 rw [List.nil_append] at k1
 have e1:z.2.map AV.str=sA z.2:=rfl
 rw [e1] at k1
 have nd:∀ (s:AV),lcL (watch z.1) (sA z.2) (gN 0) (aB (a2 q67 (aVar 0) (aVar 2))) (aTup (q02 (a2 fIx (aVar 1) (aK (.int 0))) (q02 (aVar 0) aNil))) [none,some (.lst ((z.2.filter (hasW W)).map AV.str)),some (.ref d)] (sA z.2) [] (h ++ .lst (P.map prA)::g)=.ok ((q3p W z.2).map prA) (h ++ .lst (P.map prA)::g)\/z.2.filter (hasW W)=[]:=fun _=>by
  cases ef:z.2.filter (hasW W) with
  | nil=>exact .inr rfl
  | cons s r =>
   left
   have a0:atI (AV.str s::r.map AV.str) 0=some (.str s):=q0w (j:=0) rfl
   have k2:=q8r (wt:=watch z.1) (all:=sA z.2) (g:=gN 0) (tc:=aB (a2 q67 (aVar 0) (aVar 2))) (te:=aTup (q02 (a2 fIx (aVar 1) (aK (.int 0))) (q02 (aVar 0) aNil))) (be:=[none,some (.lst (AV.str s::r.map AV.str)),some (.ref d)]) (h:=h ++ .lst (P.map prA)::g) (k:=AV.str) (f:=fun t=>prA (s,t)) (p:=fun t=>!hasW W t) hw z.2 [] (fun y _=>⟨_,rfl,by simp [hdk',q6b,hasW],fun _=>by simp [a0,prA]⟩)
   rw [List.nil_append,e1] at k2
   rw [List.map_cons,k2]
   unfold q3p
   rw [ef]
   simp only [List.map_map];rfl
 have hc:=q8d W z.2
 have hcs:(P.map prA).length+((q3p W z.2).map prA).length<=sizeLine:=by
  rw [List.length_map,List.length_map];exact Nat.le_trans (show _<=2000 by omega) (by decide)
 have hnil:z.2.filter (hasW W)=[]->q3p W z.2=[]:=fun e=>by unfold q3p;rw [e]
 refine ⟨some (.lst ((z.2.filter (hasW W)).map AV.str)),?_⟩
 have k2:=nd (.non)
 unfold q9v
 simp only [List.map_append]
 generalize hS:(z.2.filter (hasW W))=S at *
 generalize hC:((q3p W z.2).map prA)=CP at *
 generalize sA z.2=ZS at *
 generalize hH:h++Cell.lst (P.map prA)::g=H at *
 generalize P.map prA=PP at *
 obtain ⟨x,c⟩:=z
 dsimp only at *
 cases S with
 | nil =>
  have:CP=[]:=by rw [<- hC,hnil rfl];rfl
  subst this
  rw [List.append_nil,hH]
  rcases hz with e | ⟨k,e,hk⟩
  ·subst e
   simp only [watch,List.map_nil] at k1
   simp [bEnv,hsz,k1]
  ·subst e
   simp only [watch,List.map_nil] at k1
   simp [hk,bEnv,hsz,k1]
 | cons s r =>
  have k2:=k2.resolve_right (by simp)
  rcases hz with e | ⟨k,e,hk⟩
  ·subst e
   simp only [watch,List.map_cons] at k1 k2
   simp [bEnv,hsz,k1,k2,hp',hcs,hset]
  ·subst e
   simp only [watch,List.map_cons] at k1 k2
   simp [hk,bEnv,hsz,k1,k2,hp',hcs,hset]
end KR
namespace KR
open PySem L2 Z PM
theorem q4r {all:List AV} {g:AV->AEnv->AH->Re AEnv} {body:AS} {x:AV} {xs:List AV} {env e1 e2:AEnv} {h h1 h2:AH} (hg:g x env h=.ok e1 h1) (hb:body e1 h1=.nx e2 h2):q1y none all g body (x::xs) env h=q1y none all g body xs e2 h2:=by
 rw [q1y,if_pos q0x,hg]
 simp [hb]
theorem q9z {h g:AH} {d:Nat} {W:Ways} {a:AV} (hd:d<h.length) (hdk:h[d]?=some (.dk (keyW W) (valW W))) :
  ∀ (zs:List (AV×List Str)) (P:List (Str×Str)) (o3 o4:Option AV),(∀ P:List (Str×Str), ∀ z∈zs,IsL (h ++ .lst (P.map prA)::g) z.1 (sA z.2))->P.length+(zs.map (·.2.length)).sum<=1000->∀ all,
   ∃ o3' o4',q1y none all (gN 3) q9v (zs.map (·.1)) [some a,some (.ref d),some (.ref h.length),o3,o4] (h ++ .lst (P.map prA)::g)=.nx [some a,some (.ref d),some (.ref h.length),o3',o4'] (h ++ .lst ((P++(zs.map (·.2)).flatMap (q3p W)).map prA)::g)
 | [],P,o3,o4,_,_,_=>⟨o3,o4,by simp [q1y,q0x]⟩
 | z::zs,P,o3,o4,hz,hl,all=>by
  have hl1:P.length+(z.2.length+(zs.map (·.2.length)).sum)<=1000:=by simpa using hl
  obtain ⟨o4',e⟩:=qjn (a:=a) (o4:=o4) hd hdk (hz P z List.mem_cons_self) (by omega) (by omega)
  have hc:=q8d W z.2
  obtain ⟨p3,p4,e2⟩:=q9z hd hdk zs (P++q3p W z.2) (some z.1) o4' (fun P y hy=>hz P y (List.mem_cons_of_mem _ hy)) (by rw [List.length_append];omega) all
  refine ⟨p3,p4,?_⟩
  rw [List.map_cons,q4r (e1:=[some a,some (.ref d),some (.ref h.length),some z.1,o4]) rfl e,e2]
  simp [List.flatMap_cons,List.append_assoc]
theorem qew {h:AH} {a:AV} {e:En} {d:Nat} {W:Ways} (o:EnOk a e) (hd:d<h.length) (hdk:h[d]?=some (.dk (keyW W) (valW W))) :
  ∃ g,m_qv [a, .ref d] h=.ok (.lst ((q11 e W).map prA)) (h ++ .dead::g):=by
 have one:=o.one h
 have hsz:=o.size
 have hol:(e.one.map prA).length<=sizeLine:=by rw [List.length_map];exact Nat.le_trans (show _<=1000 by omega) (by decide)
 have k1:=q8r (wt:=none) (all:=e.one.map prA) (g:=gN 0) (tc:=aB (a2 fDIn (a2 fIx (aVar 0) (aK (.int 0))) (aVar 1))) (te:=aVar 0) (be:=[none,some (.ref d)]) (h:=h) (k:=prA) (f:=prA) (p:=fun p=>hasW W p.1) q0x e.one [] (fun y _=>by
  have a0:atI [AV.str y.1,AV.str y.2] 0=some (.str y.1):=rfl
  exact ⟨_,rfl,by simp [prA,a0,hdk,q6b,hasW],fun _=>rfl⟩)
 rw [List.nil_append] at k1
 obtain ⟨zs,g,ec,ez,hz⟩:=o.circ (h++[.lst ((e.one.filter fun p=>hasW W p.1).map prA)])
 have hfl:=List.length_filter_le (fun p:Str×Str=>hasW W p.1) e.one
 have hz':∀ P:List (Str×Str), ∀ z∈zs,IsL (h ++ .lst (P.map prA)::g) z.1 (sA z.2):=fun P z hm=>by
  obtain ⟨i1,i2⟩:=hz z hm
  rcases i1 with q | ⟨k,q,hk⟩
  ·exact .inl q
  ·refine .inr ⟨k,q,?_⟩
   have:=i2 k q
   rw [List.length_append] at this
   rw [List.append_assoc,List.getElem?_append_right (by simp at this;omega)] at hk
   rw [List.getElem?_append_right (by simp at this;omega)]
   have e1:k - h.length=(k - h.length - 1)+1:=by simp at this;omega
   rw [e1] at hk ⊢
   simpa using hk
 obtain ⟨o3,o4,el⟩:=q9z (a:=a) hd hdk zs (e.one.filter fun p=>hasW W p.1) none none hz' (by
  have:(zs.map fun z=>z.2.length)=e.circ.map (·.length):=by rw [<- ez,List.map_map];rfl
  rw [this];omega) (zs.map (·.1))
 rw [ez] at el
 have eP:e.one.filter (fun p=>hasW W p.1)++e.circ.flatMap (q3p W)=q11 e W:=rfl
 rw [eP] at el
 have happ:h++[Cell.lst ((e.one.filter fun p=>hasW W p.1).map prA)]++g=h ++ .lst ((e.one.filter fun p=>hasW W p.1).map prA)::g:=by simp
 rw [happ] at ec
 have hp':(h++Cell.lst ((q11 e W).map prA)::g)[h.length]?=some (.lst ((q11 e W).map prA)):=by
  rw [List.getElem?_append_right (Nat.le_refl _)];simp
 have hset:∀ (x c:Cell),(h++x::g).set h.length c=h++c::g:=fun x c=>by
  rw [List.set_append_right _ _ (Nat.le_refl _),Nat.sub_self];rfl
 refine ⟨g,?_⟩
 unfold m_qv b_qv
 generalize (e.one.filter fun p=>hasW W p.1).map prA=F1 at *
 generalize e.one.map prA=F0 at *
 generalize (q11 e W).map prA=F2 at *
 generalize zs.map (·.1)=Z1 at *
 have s1:sAsg (aLcC 1 [1] (iLst (aC m_q0 (q02 (aVar 0) aNil))) (gN 0) (aB (a2 fDIn (a2 fIx (aVar 0) (aK (.int 0))) (aVar 1))) (aVar 0)) (gN 2) [some a,some (.ref d),none,none,none] h=.nx [some a,some (.ref d),some (.ref h.length),none,none] (h++[.lst F1]):=by
  simp [one,hol,bEnv,k1]
 have s2:sFor (iLst (aC m_qy (q02 (aVar 0) aNil))) (gN 3) q9v [some a,some (.ref d),some (.ref h.length),none,none] (h++[.lst F1])=.nx [some a,some (.ref d),some (.ref h.length),o3,o4] (h ++ .lst F2::g):=by
  rw [<- el]
  simp [ec]
 show ((sSeq _ _ [some a,some (.ref d),none,none,none] h).out)=_
 change ((sSeq (sAsg (aLcC 1 [1] (iLst (aC m_q0 (q02 (aVar 0) aNil))) (gN 0) (aB (a2 fDIn (a2 fIx (aVar 0) (aK (.int 0))) (aVar 1))) (aVar 0)) (gN 2)) (sSeq (sFor (iLst (aC m_qy (q02 (aVar 0) aNil))) (gN 3) q9v) (sRet (aFrz (aVar 2))))) [some a,some (.ref d),none,none,none] h).out=_
 rw [q0m s1,q0m s2]
 simp [hp',hset]
end KR
namespace KR
open PySem L2 Z PM
def q30 (n:Nat) (W:Ways) (p:Str×Str):Ways:=putW W p.2 ((getW W p.1).getD []++[(n,p.1,p.2)])
def q1z (t:Str×List Step):AV:=.tup [.str t.1,wayA t.2]
abbrev RSt:=Ways×List (Str×List Step)
def q19 (e:En) (W:Ways):Ways:=match e.boil with | some b=>q3l W b | none=>W
def spW (n:Nat) (e:En) (W:Ways):Ways:=(q11 e (q19 e W)).foldl (q30 n) (q19 e W)
def recS (day:Int) (n:Nat) (e:En) (s:RSt):RSt:=
 if e.day<day then s else (spW n e s.1,if e.cut=true then s.2++(q11 e (q19 e s.1)).map (fun p=>(p.2,(getW (spW n e s.1) p.2).getD [])) else s.2)
def recG (day:Int):Nat->List En->RSt->RSt
 | _,[],s=>s
 | n,e::r,s=>recG day (n+1) r (recS day n e s)
theorem qcf (day:Int) (e:En):∀ (es:List En) (n:Nat) (s:RSt),recG day n (es++[e]) s=recS day (n+es.length) e (recG day n es s)
 | [],n,s=>rfl
 | x::r,n,s=>by
  show recG day (n+1) (r++[e]) _=_
  rw [qcf day e r]
  show recS day (n+1+r.length) e _=recS day (n+(r.length+1)) e _
  rw [show n+1+r.length=n+(r.length+1) by omega];rfl
structure Sz (B:Nat) (W:Ways):Prop where
 len:W.length<=B+1
 ways:∀ x w,getW W x=some w->w.length<=B
theorem Sz.mono {B B':Nat} {W:Ways} (s:Sz B W) (h:B<=B'):Sz B' W:=⟨Nat.le_trans s.len (by omega),fun x w e=>Nat.le_trans (s.ways x w e) h⟩
theorem Sz.drop {B:Nat} {W:Ways} (s:Sz B W) (x:Str):Sz B (q3l W x):=⟨Nat.le_trans (qki W x) s.len,fun y w e=>by
 rw [q9k] at e
 split at e
 ·cases e
 ·exact s.ways y w e⟩
theorem Sz.step {B n:Nat} {W:Ways} (s:Sz B W) (p:Str×Str):Sz (B+1) (q30 n W p):=by
 unfold q30
 refine ⟨?_,fun y w e=>?_⟩
 ·have:=qmx W p.2 ((getW W p.1).getD []++[(n,p.1,p.2)]);have:=s.len;omega
 ·rw [q63] at e
  split at e
  ·have e:=Option.some.inj e
   subst e
   rw [List.length_append]
   cases q:getW W p.1 with
   | none=>simp
   | some v=>have:=s.ways _ _ q;simpa using this
  ·exact Nat.le_succ_of_le (s.ways y w e)
theorem Sz.steps {n:Nat}:∀ (P:List (Str×Str)) {B:Nat} {W:Ways},Sz B W->Sz (B+P.length) (P.foldl (q30 n) W)
 | [],_,_,s=>s
 | p::P,B,W,s=>by
  have:=Sz.steps (n:=n) P (s.step (n:=n) p)
  rw [List.foldl_cons,List.length_cons,show B+(P.length+1)=B+1+P.length by omega]
  exact this
theorem Sz.boil {B:Nat} {W:Ways} (s:Sz B W) (e:En):Sz B (q19 e W):=by
 unfold q19
 split
 ·exact s.drop _
 ·exact s
theorem qdl {n:Nat} {W:Ways} {p:Str×Str} {x:Str}:hasW (q30 n W p) x=(decide (p.2=x) || hasW W x):=qnq ..
theorem q89 {n:Nat} {x:Str}:∀ (P:List (Str×Str)) (W:Ways),hasW (P.foldl (q30 n) W) x=(P.any (fun p=>decide (p.2=x)) || hasW W x)
 | [],W=>rfl
 | p::P,W=>by
  rw [List.foldl_cons,q89 P,qdl,List.any_cons]
  cases decide (p.2=x) <;> cases P.any (fun p=>decide (p.2=x)) <;> rfl
def HR (h:AH) (W:Ways) (T:List (Str×List Step)) (g:AH):AH:=h ++ .dk (keyW W) (valW W)::.lst (T.map q1z)::g
section
variable {h g g':AH} {W W':Ways} {T T':List (Str×List Step)}
theorem qd7:(HR h W T g)[h.length]?=some (.dk (keyW W) (valW W)):=by unfold HR;rw [List.getElem?_append_right (Nat.le_refl _)];simp
theorem qfn:(HR h W T g)[h.length+1]?=some (.lst (T.map q1z)):=by unfold HR;rw [List.getElem?_append_right (by omega),show h.length+1 - h.length=1 by omega];rfl
theorem hr_len:(HR h W T g).length=h.length+2+g.length:=by unfold HR;simp;omega
theorem hr_app:HR h W T g++g'=HR h W T (g++g'):=by unfold HR;simp
theorem qgg:(HR h W T g).set h.length (.dk (keyW W') (valW W'))=HR h W' T g:=by
 unfold HR;rw [List.set_append_right _ _ (Nat.le_refl _),Nat.sub_self];rfl
theorem qms:(HR h W T g).set (h.length+1) (.lst (T'.map q1z))=HR h W T' g:=by
 unfold HR;rw [List.set_append_right _ _ (by omega),show h.length+1 - h.length=1 by omega];rfl
end
theorem qja {h:AH} {W:Ways} {T:List (Str×List Step)} {g:AH} {p:Str×Str} {n B:Nat} {x0 x1 x2 x4 x6 x7:Option AV} {o8 o9:Option AV} (hs:hasW W p.1=true) (sz:Sz B W) (hB:B<=5000000) :
  ∃ e1 h1,gT 2 (q12 (gN 8) (q12 (gN 9) q37)) (prA p) [x0,x1,x2,some (.ref h.length),x4,some (.int (n:Int)),x6,x7,o8,o9] (HR h W T g)=.ok e1 h1 /\
   q1h (aVar 3) (aVar 9) (a2 fCat (a2 q08 (aVar 3) (aVar 8)) (aLst (q02 (aTup (q02 (aVar 5) (q02 (aVar 8) (q02 (aVar 9) aNil)))) aNil))) e1 h1=.nx [x0,x1,x2,some (.ref h.length),x4,some (.int (n:Int)),x6,x7,some (.str p.1),some (.str p.2)] (HR h (q30 n W p) T g):=by
 refine ⟨_,_,rfl,?_⟩
 obtain ⟨w,hw⟩:=Option.isSome_iff_exists.mp hs
 have hk:(keyW W).length<sizeLine:=by rw [qkr];exact Nat.lt_of_le_of_lt (Nat.le_trans sz.len (show B+1<=5000001 by omega)) (by decide)
 have hl:(w.map stA).length+1<=sizeLine:=by rw [List.length_map];have:=sz.ways _ _ hw;exact Nat.le_trans (show _<=5000001 by omega) (by decide)
 have hd:=qd7 (h:=h) (W:=W) (T:=T) (g:=g)
 have hp:=dput_W W p.2 (w++[(n,p.1,p.2)])
 have eA:wayA (w++[(n,p.1,p.2)])=.lst (w.map stA++[.tup [.int (n:Int), .str p.1, .str p.2]]):=by unfold wayA;rw [List.map_append];rfl
 rw [eA] at hp
 have hst:q30 n W p=putW W p.2 (w++[(n,p.1,p.2)]):=by unfold q30;rw [hw];rfl
 rw [hst, <- qgg (W:=W) (W':=putW W p.2 (w++[(n,p.1,p.2)]))]
 have hv:=q6b p.1 W
 rw [hw] at hv
 have hv:dval (keyW W) (valW W) (.inr p.1)=some (.lst (w.map stA)):=hv
 generalize HR h W T g=H at *
 generalize w.map stA=WA at *
 simp [hd,hv,hl,hk,hp]
theorem qa3 {h:AH} {T:List (Str×List Step)} {g:AH} {n:Nat} {x0 x1 x2 x4 x6 x7:Option AV} {all:List AV}:∀ (P:List (Str×Str)) (W:Ways) (B:Nat) (o8 o9:Option AV),(∀ p∈P,hasW W p.1=true)->Sz B W->B+P.length<=5000000 ->
  ∃ o8' o9',q1y none all (gT 2 (q12 (gN 8) (q12 (gN 9) q37))) (q1h (aVar 3) (aVar 9) (a2 fCat (a2 q08 (aVar 3) (aVar 8)) (aLst (q02 (aTup (q02 (aVar 5) (q02 (aVar 8) (q02 (aVar 9) aNil)))) aNil)))) (P.map prA) [x0,x1,x2,some (.ref h.length),x4,some (.int (n:Int)),x6,x7,o8,o9] (HR h W T g) =
   .nx [x0,x1,x2,some (.ref h.length),x4,some (.int (n:Int)),x6,x7,o8',o9'] (HR h (P.foldl (q30 n) W) T g)
 | [],W,B,o8,o9,_,_,_=>⟨o8,o9,by simp [q1y,q0x]⟩
 | p::P,W,B,o8,o9,hs,sz,hB=>by
  rw [List.length_cons] at hB
  obtain ⟨e1,h1,q1,q2⟩:=qja (h:=h) (T:=T) (g:=g) (n:=n) (x0:=x0) (x1:=x1) (x2:=x2) (x4:=x4) (x6:=x6) (x7:=x7) (o8:=o8) (o9:=o9) (hs p List.mem_cons_self) sz (by omega)
  obtain ⟨o8',o9',q3⟩:=qa3 P (q30 n W p) (B+1) (some (.str p.1)) (some (.str p.2)) (fun y hy=>by rw [qdl,hs y (List.mem_cons_of_mem _ hy),Bool.or_true]) (sz.step p) (by omega)
  exact ⟨o8',o9',by rw [List.map_cons,q4r q1 q2,q3];rfl⟩
def q7s:AS:=sSeq (sIf (aB (a2 fLt (a2 fIx (aVar 6) (aK (.int 0))) (aVar 2)))
 qd3
 q10)
 (sSeq (sIf (aB (a2 fEq (a2 fIx (aVar 6) (aK (.int 1))) (aK (.str "boil"))))
 (q0q (qag (aVar 3) (a2 fIx (aVar 6) (aK (.int 2))) (aK .non)))
 q10)
 (sSeq (sAsg (aC m_qv (q02 (aVar 6) (q02 (aVar 3) aNil))) (gN 7))
 (sSeq (sFor (iLst (aVar 7)) (gT 2 (q12 (gN 8) (q12 (gN 9) q37)))
 (q1h (aVar 3) (aVar 9) (a2 fCat (a2 q08 (aVar 3) (aVar 8)) (aLst (q02 (aTup (q02 (aVar 5) (q02 (aVar 8) (q02 (aVar 9) aNil)))) aNil)))))
 (sIf (aB (a2 fEq (a2 fIx (aVar 6) (aK (.int 1))) (aK (.str "cut"))))
 (q0q (aMtL q79 (aVar 4) (q02 (aLc 2 [3] (iLst (aVar 7)) (gT 2 (q12 (gN 0) (q12 (gN 1) q37))) aYes (aTup (q02 (aVar 1) (q02 (a2 q08 (aVar 2) (aVar 1)) aNil)))) aNil)))
 q10))))
theorem qgy {h g:AH} {W:Ways} {T:List (Str×List Step)} {a:AV} {e:En} {n B:Nat} {day:Int} {x0 x1 o7 o8 o9:Option AV} (o:EnOk a e) (sz:Sz B W) (hB:B+1000<=5000000) (hT:T.length<=B) :
  ∃ g' o7' o8' o9',(q7s [x0,x1,some (.int day),some (.ref h.length),some (.ref (h.length+1)),some (.int (n:Int)),some a,o7,o8,o9] (HR h W T g)=.nx [x0,x1,some (.int day),some (.ref h.length),some (.ref (h.length+1)),some (.int (n:Int)),some a,o7',o8',o9'] (HR h (recS day n e (W,T)).1 (recS day n e (W,T)).2 g')) \/
   (q7s [x0,x1,some (.int day),some (.ref h.length),some (.ref (h.length+1)),some (.int (n:Int)),some a,o7,o8,o9] (HR h W T g)=.ct [x0,x1,some (.int day),some (.ref h.length),some (.ref (h.length+1)),some (.int (n:Int)),some a,o7',o8',o9'] (HR h (recS day n e (W,T)).1 (recS day n e (W,T)).2 g')):=by
 obtain ⟨xs,k,rfl,i0,i1,hb,hnb,hcut⟩:=o.tup
 by_cases hd:e.day<day
 ·refine ⟨g,o7,o8,o9, .inr ?_⟩
  have er:recS day n e (W,T)=(W,T):=by unfold recS;rw [if_pos hd]
  rw [er]
  unfold q7s
  generalize HR h W T g=H
  simp [i0,hd]
 ·have er:recS day n e (W,T)=(spW n e W,if e.cut=true then T++(q11 e (q19 e W)).map (fun p=>(p.2,(getW (spW n e W) p.2).getD [])) else T):=by unfold recS;rw [if_neg hd]
  rw [er]
  have s1:sIf (aB (a2 fLt (a2 fIx (aVar 6) (aK (.int 0))) (aVar 2))) qd3 q10 [x0,x1,some (.int day),some (.ref h.length),some (.ref (h.length+1)),some (.int (n:Int)),some (.tup xs),o7,o8,o9] (HR h W T g)=.nx [x0,x1,some (.int day),some (.ref h.length),some (.ref (h.length+1)),some (.int (n:Int)),some (.tup xs),o7,o8,o9] (HR h W T g):=by
   generalize HR h W T g=H
   simp [i0,hd]
  have s2:sIf (aB (a2 fEq (a2 fIx (aVar 6) (aK (.int 1))) (aK (.str "boil")))) (q0q (qag (aVar 3) (a2 fIx (aVar 6) (aK (.int 2))) (aK .non))) q10 [x0,x1,some (.int day),some (.ref h.length),some (.ref (h.length+1)),some (.int (n:Int)),some (.tup xs),o7,o8,o9] (HR h W T g)=.nx [x0,x1,some (.int day),some (.ref h.length),some (.ref (h.length+1)),some (.int (n:Int)),some (.tup xs),o7,o8,o9] (HR h (q19 e W) T g):=by
   cases eb:e.boil with
   | none =>
    have hk:=hnb eb
    have:q19 e W=W:=by unfold q19;rw [eb]
    rw [this]
    generalize HR h W T g=H
    simp [i1,hk]
   | some b =>
    obtain ⟨rfl,i2⟩:=hb b eb
    have:q19 e W=q3l W b:=by unfold q19;rw [eb]
    rw [this]
    have hdk:=qd7 (h:=h) (W:=W) (T:=T) (g:=g)
    have hv:=q6b b W
    cases ew:getW W b with
    | none =>
     rw [ew] at hv
     have:q3l W b=W:=by
      unfold q3l
      refine List.filter_eq_self.mpr fun z hz=>?_
      refine decide_eq_true fun e=>?_
      subst e
      have:∀ W:Ways,z∈W->getW W z.1≠none:=by
       intro W
       induction W with
       | nil=>intro h;exact nomatch h
       | cons y r ih =>
        intro hm
        unfold getW
        split
        ·simp
        ·rename_i hne
         rcases List.mem_cons.mp hm with rfl | hm
         ·exact absurd rfl hne
         ·exact ih hm
      exact this W hz ew
     rw [this]
     generalize HR h W T g=H at *
     have hv:dval (keyW W) (valW W) (.inr b)=none:=hv
     simp [i1,i2,hdk,hv]
    | some w =>
     rw [ew] at hv
     have hv:dval (keyW W) (valW W) (.inr b)=some (wayA w):=hv
     have hdk2:=qnb b W
     have hdv:=qgk b W
     rw [<- qgg (W:=W) (W':=q3l W b)]
     generalize HR h W T g=H at *
     simp only [decide_not] at hdk2
     simp [i1,i2,hdk,hv,hdk2,hdv]
  have szb:=sz.boil e
  obtain ⟨g1,s3⟩:=qew (h:=HR h (q19 e W) T g) o (d:=h.length) (by rw [hr_len];omega) qd7
  rw [hr_app] at s3
  have s3':sAsg (aC m_qv (q02 (aVar 6) (q02 (aVar 3) aNil))) (gN 7) [x0,x1,some (.int day),some (.ref h.length),some (.ref (h.length+1)),some (.int (n:Int)),some (.tup xs),o7,o8,o9] (HR h (q19 e W) T g)=.nx [x0,x1,some (.int day),some (.ref h.length),some (.ref (h.length+1)),some (.int (n:Int)),some (.tup xs),some (.lst ((q11 e (q19 e W)).map prA)),o8,o9] (HR h (q19 e W) T (g ++ .dead::g1)):=by
   generalize HR h (q19 e W) T g=H at *
   generalize HR h (q19 e W) T (g ++ .dead::g1)=H2 at *
   simp [s3]
  have hsl:=qa9 o (q19 e W)
  obtain ⟨o8',o9',s4⟩:=qa3 (h:=h) (T:=T) (g:=g ++ .dead::g1) (n:=n) (x0:=x0) (x1:=x1) (x2:=some (.int day)) (x4:=some (.ref (h.length+1))) (x6:=some (.tup xs)) (x7:=some (.lst ((q11 e (q19 e W)).map prA))) (all:=(q11 e (q19 e W)).map prA) (q11 e (q19 e W)) (q19 e W) B o8 o9 (fun p hp=>q9t hp) szb (by omega)
  have s4':sFor (iLst (aVar 7)) (gT 2 (q12 (gN 8) (q12 (gN 9) q37))) (q1h (aVar 3) (aVar 9) (a2 fCat (a2 q08 (aVar 3) (aVar 8)) (aLst (q02 (aTup (q02 (aVar 5) (q02 (aVar 8) (q02 (aVar 9) aNil)))) aNil)))) [x0,x1,some (.int day),some (.ref h.length),some (.ref (h.length+1)),some (.int (n:Int)),some (.tup xs),some (.lst ((q11 e (q19 e W)).map prA)),o8,o9] (HR h (q19 e W) T (g ++ .dead::g1))=.nx [x0,x1,some (.int day),some (.ref h.length),some (.ref (h.length+1)),some (.int (n:Int)),some (.tup xs),some (.lst ((q11 e (q19 e W)).map prA)),o8',o9'] (HR h (spW n e W) T (g ++ .dead::g1)):=by
   rw [show spW n e W=(q11 e (q19 e W)).foldl (q30 n) (q19 e W) from rfl, <- s4]
   simp
  refine ⟨g ++ .dead::g1,some (.lst ((q11 e (q19 e W)).map prA)),o8',o9', .inl ?_⟩
  unfold q7s
  rw [q0m s1,q0m s2,q0m s3',q0m s4']
  by_cases hc:e.cut=true
  ·have hk:=hcut.mp hc
   subst hk
   have k1:=q2w (wt:=none) (all:=(q11 e (q19 e W)).map prA) (g:=gT 2 (q12 (gN 0) (q12 (gN 1) q37))) (te:=aTup (q02 (aVar 1) (q02 (a2 q08 (aVar 2) (aVar 1)) aNil))) (be:=[none,none,some (.ref h.length)]) (h:=HR h (spW n e W) T (g ++ .dead::g1)) (k:=prA) (f:=fun p=>q1z (p.2,(getW (spW n e W) p.2).getD [])) q0x (q11 e (q19 e W)) [] (fun p hp=>by
    refine ⟨_,rfl,?_⟩
    have hh:hasW (spW n e W) p.2=true:=by
     unfold spW
     rw [q89,List.any_eq_true.mpr ⟨p,hp,decide_eq_true rfl⟩,Bool.true_or]
    obtain ⟨w,hw⟩:=Option.isSome_iff_exists.mp hh
    have hv:=q6b p.2 (spW n e W)
    rw [hw] at hv
    have hv:dval (keyW (spW n e W)) (valW (spW n e W)) (.inr p.2)=some (wayA w):=hv
    have hdk:=qd7 (h:=h) (W:=spW n e W) (T:=T) (g:=g ++ .dead::g1)
    rw [hw]
    generalize HR h (spW n e W) T (g ++ .dead::g1)=H at *
    simp [hdk,hv,q1z])
   rw [List.nil_append] at k1
   have hl1:((q11 e (q19 e W)).map prA).length<=sizeLine:=by rw [List.length_map];exact Nat.le_trans hsl (by decide)
   have hl2:(T.map q1z).length+((q11 e (q19 e W)).map fun p=>q1z (p.2,(getW (spW n e W) p.2).getD [])).length<=sizeLine:=by rw [List.length_map,List.length_map];exact Nat.le_trans (show _<=5000000 by omega) (by decide)
   have ht:=qfn (h:=h) (W:=spW n e W) (T:=T) (g:=g ++ .dead::g1)
   rw [if_pos hc, <- qms (T:=T) (T':=T++(q11 e (q19 e W)).map (fun p=>(p.2,(getW (spW n e W) p.2).getD []))),List.map_append,List.map_map]
   have hcomp:(q1z ∘ fun p:Str×Str=>(p.2,(getW (spW n e W) p.2).getD []))=fun p=>q1z (p.2,(getW (spW n e W) p.2).getD []):=rfl
   rw [hcomp]
   generalize (q11 e (q19 e W)).map (fun p=>q1z (p.2,(getW (spW n e W) p.2).getD []))=R1 at *
   generalize (q11 e (q19 e W)).map prA=R2 at *
   generalize HR h (spW n e W) T (g ++ .dead::g1)=H at *
   generalize T.map q1z=TA at *
   simp [i1,bEnv,hl1,k1,ht,hl2]
  ·have hk:k ≠ "cut":=fun z=>hc (hcut.mpr z)
   rw [if_neg hc]
   generalize HR h (spW n e W) T (g ++ .dead::g1)=H at *
   simp [i1,hk]
end KR
namespace KR
open PySem L2 Z PM
def enF {α:Type}:Nat->List α->List (Nat×α)
 | _,[]=>[]
 | k,x::r=>(k,x)::enF (k+1) r
theorem qfx {α:Type} (f:α->AV):∀ (xs:List α) (k:Nat),List.zipWith (fun (i:Nat) x=>AV.tup [.int (i:Int),x]) (List.range' k xs.length) (xs.map f)=(enF k xs).map fun z=>AV.tup [.int (z.1:Int),f z.2]
 | [],k=>rfl
 | x::r,k=>by
  rw [List.length_cons,List.range'_succ,List.map_cons,List.zipWith_cons_cons,qfx f r (k+1)];rfl
theorem qjk {α:Type} (f:α->AV) (xs:List α):q6j (xs.map f)=(enF 0 xs).map fun z=>AV.tup [.int (z.1:Int),f z.2]:=by
 unfold q6j
 rw [List.length_map,List.range_eq_range',qfx]
theorem qgd {α:Type}:∀ (xs:List α) (k j:Nat),(enF k xs)[j]?=(xs[j]?).map fun x=>(k+j,x)
 | [],_,_=>by simp [enF]
 | x::r,k,0=>by simp [enF]
 | x::r,k,j+1=>by
  show (enF (k+1) r)[j]?=_
  rw [qgd r (k+1) j,List.getElem?_cons_succ,show k+1+j=k+(j+1) by omega]
theorem qfz {α:Type}:∀ (xs:List α) (k:Nat),(enF k xs).length=xs.length
 | [],_=>rfl
 | _::r,k=>by show (enF (k+1) r).length+1=_;rw [qfz r];rfl
theorem qnc {day:Int} {n B:Nat} {a:AV} {e:En} {W:Ways} {T:List (Str×List Step)} (o:EnOk a e) (sz:Sz B W) (hT:T.length<=B):Sz (B+1000) (recS day n e (W,T)).1/\(recS day n e (W,T)).2.length<=B+1000:=by
 have hl:=qa9 o (q19 e W)
 unfold recS
 split
 ·exact ⟨sz.mono (by omega),by dsimp only;omega⟩
 ·refine ⟨(((sz.boil e).steps (n:=n) (q11 e (q19 e W))).mono (by omega)),?_⟩
  dsimp only
  split
  ·rw [List.length_append,List.length_map];omega
  ·omega
theorem qji {h:AH} {zs:List (AV×En)} {name:Str} {day:Int} (ho:∀ z∈zs,EnOk z.1 z.2) (hl:zs.length<=4900) :
  ∃ g,m_qz [.lst (zs.map (·.1)), .str name, .int day] h=.ok (.lst ((recG day 0 (zs.map (·.2)) ([(name,[])],[])).2.map q1z)) (h++g):=by
 let P:Nat->AEnv->AH->Prop:=fun i env H=>∃ (W:Ways) (T:List (Str×List Step)) (g:AH) (o5 o6 o7 o8 o9:Option AV),env=[some (.lst (zs.map (·.1))),some (.str name),some (.int day),some (.ref h.length),some (.ref (h.length+1)),o5,o6,o7,o8,o9]/\H=HR h W T g /\
  recG day 0 ((zs.map (·.2)).take i) ([(name,[])],[])=(W,T)/\Sz (1000 * i) W/\T.length<=1000 * i
 have hen:=qjk (fun z:AV×En=>z.1) zs
 obtain ⟨env',H',e1,W,T,g,o5,o6,o7,o8,o9,rfl,rfl,er,_,_⟩:=q62 (wt:=none) (all:=q6j (zs.map (·.1))) (g:=gT 2 (q12 (gN 5) (q12 (gN 6) q37))) (body:=q7s) (k:=fun z:Nat×(AV×En)=>AV.tup [.int (z.1:Int),z.2.1]) (P:=P) (fun _ _ _ _=>q0x) (enF 0 zs) 0
  [some (.lst (zs.map (·.1))),some (.str name),some (.int day),some (.ref h.length),some (.ref (h.length+1)),none,none,none,none,none] (HR h [(name,[])] [] [])
  ⟨[(name,[])],[],[],none,none,none,none,none,rfl,rfl,rfl,⟨by simp,fun x w e=>by
   unfold getW at e
   split at e
   ·cases e;simp
   ·cases e⟩,by simp⟩
  (fun j y hy env H hp=>by
   obtain ⟨W,T,g,o5,o6,o7,o8,o9,rfl,rfl,er,sz,hT⟩:=hp
   rw [qgd] at hy
   cases hz:zs[j]? with
   | none=>rw [hz] at hy;cases hy
   | some z =>
    rw [hz] at hy
    have hy:=Option.some.inj hy
    subst hy
    have hj:j<zs.length:=(List.getElem?_eq_some_iff.mp hz).1
    have oz:=ho z (List.mem_of_getElem? hz)
    rw [Nat.zero_add] at er sz hT ⊢
    obtain ⟨g',o7',o8',o9',hb⟩:=qgy (h:=h) (g:=g) (W:=W) (T:=T) (n:=j) (B:=1000 * j) (day:=day) (x0:=some (.lst (zs.map (·.1)))) (x1:=some (.str name)) (o7:=o7) (o8:=o8) (o9:=o9) oz sz (by omega) hT
    refine ⟨_,_,_,_,rfl,hb,?_⟩
    obtain ⟨s1,s2⟩:=qnc (day:=day) (n:=j) oz sz hT
    have ht:(zs.map (·.2)).take (j+1)=(zs.map (·.2)).take j++[z.2]:=by
     rw [List.take_succ,List.getElem?_map,hz];rfl
    have hlt:((zs.map (·.2)).take j).length=j:=by rw [List.length_take,List.length_map];omega
    refine ⟨_,_,_,_,_,_,_,_,rfl,rfl,?_,s1.mono (by omega),by omega⟩
    rw [ht,qcf,hlt,er,Nat.zero_add])
 rw [Nat.zero_add,qfz,show zs.length=(zs.map (·.2)).length by simp,List.take_length] at er
 refine ⟨[.dk (keyW W) (valW W)] ++ .dead::g,?_⟩
 rw [er, <- hen] at *
 unfold m_qz b_qz
 change ((sSeq (sAsg (q5u (q3k (aVar 1) (aLst aNil) q6k)) (gN 3)) (sSeq (sAsg (q3r aNil) (gN 4)) (sSeq (sFor (qak (aVar 0)) (gT 2 (q12 (gN 5) (q12 (gN 6) q37))) q7s) (sRet (aFrz (aVar 4)))))) [some (.lst (zs.map (·.1))),some (.str name),some (.int day),none,none,none,none,none,none,none] h).out=_
 have s1:sAsg (q5u (q3k (aVar 1) (aLst aNil) q6k)) (gN 3) [some (.lst (zs.map (·.1))),some (.str name),some (.int day),none,none,none,none,none,none,none] h=.nx [some (.lst (zs.map (·.1))),some (.str name),some (.int day),some (.ref h.length),none,none,none,none,none,none] (h++[.dk [.inr name] [.lst []]]):=by
  simp [dsp,dput]
 have s2:sAsg (q3r aNil) (gN 4) [some (.lst (zs.map (·.1))),some (.str name),some (.int day),some (.ref h.length),none,none,none,none,none,none] (h++[.dk [.inr name] [.lst []]])=.nx [some (.lst (zs.map (·.1))),some (.str name),some (.int day),some (.ref h.length),some (.ref (h.length+1)),none,none,none,none,none] (HR h [(name,[])] [] []):=by
  simp [HR,keyW,valW,wayA]
 have s3:sFor (qak (aVar 0)) (gT 2 (q12 (gN 5) (q12 (gN 6) q37))) q7s [some (.lst (zs.map (·.1))),some (.str name),some (.int day),some (.ref h.length),some (.ref (h.length+1)),none,none,none,none,none] (HR h [(name,[])] [] [])=.nx [some (.lst (zs.map (·.1))),some (.str name),some (.int day),some (.ref h.length),some (.ref (h.length+1)),o5,o6,o7,o8,o9] (HR h W T g):=by
  rw [<- e1];rfl
 rw [q0m s1,q0m s2,q0m s3]
 have ht:=qfn (h:=h) (W:=W) (T:=T) (g:=g)
 have hs:(HR h W T g).set (h.length+1) .dead=h++([.dk (keyW W) (valW W)] ++ .dead::g):=by
  unfold HR;rw [List.set_append_right _ _ (by omega),show h.length+1 - h.length=1 by omega];rfl
 rw [<- hs]
 generalize HR h W T g=H at *
 simp [ht]
end KR
namespace KR
open PySem L2 Z PM
structure EnT (a:AV) (e:En):Prop extends EnOk a e where
 touch1:∀ p∈e.one, ∀ h,m_qd [a, .str p.1, .str p.2] h=.ok (.bl true) h
 touch2:∀ c∈e.circ, ∀ s∈c, ∀ t∈c,s≠t->∀ h,m_qd [a, .str s, .str t] h=.ok (.bl true) h
 apart:∀ p∈e.one, ∀ q∈e.one,p.2≠q.1
 single:e.one=[]\/e.circ=[]
abbrev Bk:=List (AV×En)
def dry (zs:Bk) (day:Int) (x:Str) (l n:Nat):Prop:=∀ k z,l<=k->k<n->zs[k]?=some z->day<=z.2.day->z.2.boil≠some x
def q9w (zs:Bk) (day:Int):Str->Nat->List Step->Prop
 | _,_,[]=>True
 | here,l,s::r=>s.2.1=here/\l<=s.1/\(∃ z,zs[s.1]?=some z/\day<=z.2.day/\∀ h,m_qd [z.1, .str s.2.1, .str s.2.2] h=.ok (.bl true) h)/\dry zs day here l s.1/\q9w zs day s.2.2 (s.1+1) r
def endW:Str->Nat->List Step->Str×Nat
 | here,l,[]=>(here,l)
 | _,_,s::r=>endW s.2.2 (s.1+1) r
theorem q9q {zs:Bk} {day:Int} {s:Step}:∀ {w:List Step} {here:Str} {l:Nat},q9w zs day here l w->s.2.1=(endW here l w).1->(endW here l w).2<=s.1->(∃ z,zs[s.1]?=some z/\day<=z.2.day/\∀ h,m_qd [z.1, .str s.2.1, .str s.2.2] h=.ok (.bl true) h)->dry zs day (endW here l w).1 (endW here l w).2 s.1->q9w zs day here l (w++[s])
 | [],here,l,_,e1,e2,e3,e4=>⟨e1,e2,e3,e4,trivial⟩
 | x::r,here,l,h,e1,e2,e3,e4=>⟨h.1,h.2.1,h.2.2.1,h.2.2.2.1,q9q h.2.2.2.2 e1 e2 e3 e4⟩
theorem qc4 {s:Step}:∀ {w:List Step} {here:Str} {l:Nat},endW here l (w++[s])=(s.2.2,s.1+1)
 | [],_,_=>rfl
 | x::r,_,_=>qc4 (w:=r)
end KR
namespace KR
open PySem L2 Z PM
structure WayOk (zs:Bk) (day:Int) (bad:Str) (n m:Nat) (x:Str) (w:List Step):Prop where
 ok:q9w zs day bad 0 w
 here:(endW bad 0 w).1=x
 le:(endW bad 0 w).2<=m
 dry:dry zs day x (endW bad 0 w).2 n
abbrev InvW (zs:Bk) (day:Int) (bad:Str) (n m:Nat) (W:Ways):Prop:=∀ x w,getW W x=some w->WayOk zs day bad n m x w
theorem q9p {zs:Bk} {day:Int} {x:Str} {l n:Nat} {z:AV×En} (h:dry zs day x l n) (hz:zs[n]?=some z) (hb:day<=z.2.day->z.2.boil≠some x):dry zs day x l (n+1):=by
 intro k y h1 h2 hk hd
 by_cases e:k=n
 ·subst e;rw [hz] at hk;cases hk;exact hb hd
 ·exact h k y h1 (by omega) hk hd
theorem qld {zs:Bk} {day:Int} {bad:Str} {n:Nat} {W:Ways} {z:AV×En} (I:InvW zs day bad n n W) (hz:zs[n]?=some z):InvW zs day bad (n+1) n (q19 z.2 W):=by
 intro x w e
 unfold q19 at e
 cases hb:z.2.boil with
 | none =>
  rw [hb] at e
  have q:=I x w e
  exact ⟨q.ok,q.here,q.le,q9p q.dry hz fun _=>by rw [hb];intro h;cases h⟩
 | some b =>
  rw [hb] at e
  have e:getW (q3l W b) x=some w:=e
  rw [q9k] at e
  split at e
  ·cases e
  ·rename_i hne
   have q:=I x w e
   exact ⟨q.ok,q.here,q.le,q9p q.dry hz fun _=>by rw [hb];exact fun h=>hne (Option.some.inj h)⟩
theorem qcr {zs:Bk} {day:Int} {bad:Str} {n:Nat} {W1:Ways} {z:AV×En} (hz:zs[n]?=some z) (hd:day<=z.2.day) (I1:InvW zs day bad (n+1) n W1) {P0:List (Str×Str)} (hs:∀ p∈P0,hasW W1 p.1=true) (ht:∀ p∈P0, ∀ h,m_qd [z.1, .str p.1, .str p.2] h=.ok (.bl true) h) (ha:∀ p∈P0, ∀ q∈P0,p.2≠q.1) :
  ∀ (P:List (Str×Str)) (V:Ways),(∀ p∈P,p∈P0)->(∀ p∈P0,getW V p.1=getW W1 p.1)->InvW zs day bad (n+1) (n+1) V->InvW zs day bad (n+1) (n+1) (P.foldl (q30 n) V)
 | [],V,_,_,I=>I
 | p::P,V,hm,hv,I=>by
  refine qcr hz hd I1 hs ht ha P (q30 n V p) (fun q hq=>hm q (List.mem_cons_of_mem _ hq)) (fun q hq=>?_) fun x w e=>?_
  ·unfold q30
   rw [q63,if_neg (ha p (hm p List.mem_cons_self) q hq)]
   exact hv q hq
  ·unfold q30 at e
   rw [q63] at e
   split at e
   ·rename_i hx
    subst hx
    have hp:=hm p List.mem_cons_self
    obtain ⟨w0,hw0⟩:=Option.isSome_iff_exists.mp (hs p hp)
    have e:=Option.some.inj e
    rw [hv p hp,hw0,Option.getD_some] at e
    subst e
    have q:=I1 p.1 w0 hw0
    have es:=qc4 (s:=(n,p.1,p.2)) (w:=w0) (here:=bad) (l:=0)
    refine ⟨q9q q.ok q.here.symm q.le ⟨z,hz,hd,ht p hp⟩ ?_,?_,?_,?_⟩
    ·rw [q.here]
     exact fun k y h1 h2 hk hdy=>q.dry k y h1 (Nat.lt_succ_of_lt h2) hk hdy
    ·show (endW bad 0 (w0++[(n,p.1,p.2)])).1=p.2;rw [es]
    ·show (endW bad 0 (w0++[(n,p.1,p.2)])).2<=n+1;rw [es];exact Nat.le_refl _
    ·show dry zs day p.2 (endW bad 0 (w0++[(n,p.1,p.2)])).2 (n+1)
     rw [es]
     exact fun k y h1 h2 _ _=>absurd (Nat.lt_of_le_of_lt h1 h2) (Nat.lt_irrefl _)
   ·exact I x w e
theorem q7k {e:En} {W:Ways} {p:Str×Str} (h:p∈q11 e W):(p∈e.one/\hasW W p.1=true)\/∃ c∈e.circ,p.1∈c/\p.2∈c/\hasW W p.1=true/\hasW W p.2=false:=by
 unfold q11 at h
 rcases List.mem_append.mp h with h | h
 ·exact .inl ⟨(List.mem_filter.mp h).1,(List.mem_filter.mp h).2⟩
 ·obtain ⟨c,hc,h⟩:=List.mem_flatMap.mp h
  unfold q3p at h
  split at h
  ·exact nomatch h
  ·rename_i s r e
   obtain ⟨t,ht,rfl⟩:=List.mem_map.mp h
   have hm:s∈c.filter (hasW W):=by rw [e];exact List.mem_cons_self
   obtain ⟨m1,m2⟩:=List.mem_filter.mp hm
   obtain ⟨n1,n2⟩:=List.mem_filter.mp ht
   exact .inr ⟨c,hc,m1,n1,m2,by simpa using n2⟩
theorem qf0 {a:AV} {e:En} (o:EnT a e) {W:Ways} {p:Str×Str} (h:p∈q11 e W) (g:AH):m_qd [a, .str p.1, .str p.2] g=.ok (.bl true) g:=by
 rcases q7k h with ⟨h,_⟩ | ⟨c,hc,h1,h2,h3,h4⟩
 ·exact o.touch1 p h g
 ·exact o.touch2 c hc _ h1 _ h2 (fun e=>by rw [e,h4] at h3;cases h3) g
theorem qez {a:AV} {e:En} (o:EnT a e) {W:Ways} {p q:Str×Str} (hp:p∈q11 e W) (hq:q∈q11 e W):p.2≠q.1:=by
 rcases q7k hp with ⟨h,h'⟩ | ⟨c,hc,h1,h2,h3,h4⟩ <;> rcases q7k hq with ⟨k,k'⟩ | ⟨d,hd,k1,k2,k3,k4⟩
 ·exact o.apart p h q k
 ·rcases o.single with z | z
  ·rw [z] at h;exact nomatch h
  ·rw [z] at hd;exact nomatch hd
 ·rcases o.single with z | z
  ·rw [z] at k;exact nomatch k
  ·rw [z] at hc;exact nomatch hc
 ·intro e;rw [e,k3] at h4;cases h4
theorem qm9 {zs:Bk} {day:Int} {bad:Str} {n:Nat} {W:Ways} {z:AV×En} (I:InvW zs day bad n n W) (hz:zs[n]?=some z) (hd:day<=z.2.day) (o:EnT z.1 z.2):InvW zs day bad (n+1) (n+1) (spW n z.2 W):=by
 have I1:=qld I hz
 exact qcr hz hd I1 (P0:=q11 z.2 (q19 z.2 W)) (fun p hp=>q9t hp) (fun p hp g=>qf0 o hp g) (fun p hp q hq=>qez o hp hq) _ _ (fun _ h=>h) (fun _ _=>rfl) fun x w e=>by
  have q:=I1 x w e
  exact ⟨q.ok,q.here,Nat.le_succ_of_le q.le,q.dry⟩
theorem qev {n:Nat} {x:Str}:∀ (P:List (Str×Str)) (V:Ways),((∃ p∈P,p.2=x)\/∃ w,w≠[]/\getW V x=some w)->∃ w,w≠[]/\getW (P.foldl (q30 n) V) x=some w
 | [],V,h=>by
  rcases h with ⟨p,hp,_⟩ | h
  ·exact nomatch hp
  ·exact h
 | p::P,V,h=>by
  rw [List.foldl_cons]
  refine qev P (q30 n V p) ?_
  by_cases e:p.2=x
  ·exact .inr ⟨(getW V p.1).getD []++[(n,p.1,p.2)],by simp,by unfold q30;rw [q63,if_pos e]⟩
  ·rcases h with ⟨q,hq,hx⟩ | ⟨w,hw,hg⟩
   ·rcases List.mem_cons.mp hq with rfl | hq
    ·exact absurd hx e
    ·exact .inl ⟨q,hq,hx⟩
   ·exact .inr ⟨w,hw,by unfold q30;rw [q63,if_neg e];exact hg⟩
def q8a (zs:Bk) (day:Int) (bad:Str) (t:Str×List Step):Prop:=q9w zs day bad 0 t.2/\t.2≠[]/\(endW bad 0 t.2).1=t.1
theorem q9m {zs:Bk} {day:Int} {bad:Str} (o:∀ z∈zs,EnT z.1 z.2):∀ (r:Bk) (n:Nat) (W:Ways) (T:List (Str×List Step)),zs.drop n=r->InvW zs day bad n n W->(∀ t∈T,q8a zs day bad t)->∀ t∈(recG day n (r.map (·.2)) (W,T)).2,q8a zs day bad t
 | [],n,W,T,_,_,hT=>hT
 | z::r,n,W,T,hr,I,hT=>by
  have hz:zs[n]?=some z:=by
   have:(zs.drop n)[0]?=some z:=by rw [hr];rfl
   rw [List.getElem?_drop] at this;simpa using this
  have hr':zs.drop (n+1)=r:=by
   have:(zs.drop n).drop 1=r:=by rw [hr];rfl
   rw [List.drop_drop] at this;exact this
  rw [List.map_cons]
  show ∀ t∈(recG day (n+1) (r.map (·.2)) (recS day n z.2 (W,T))).2,_
  unfold recS
  by_cases hd:z.2.day<day
  ·rw [if_pos hd]
   refine q9m o r (n+1) W T hr' (fun x w e=>?_) hT
   have q:=I x w e
   exact ⟨q.ok,q.here,Nat.le_succ_of_le q.le,q9p q.dry hz fun h=>absurd h (by omega)⟩
  ·rw [if_neg hd]
   have oz:=o z (List.mem_of_getElem? hz)
   have I':=qm9 I hz (by omega) oz
   refine q9m o r (n+1) _ _ hr' I' ?_
   dsimp only
   split
   ·intro t ht
    rcases List.mem_append.mp ht with ht | ht
    ·exact hT t ht
    ·obtain ⟨p,hp,rfl⟩:=List.mem_map.mp ht
     obtain ⟨w,hw,hg⟩:=qev (n:=n) (x:=p.2) (q11 z.2 (q19 z.2 W)) (q19 z.2 W) (.inl ⟨p,hp,rfl⟩)
     have hg:getW (spW n z.2 W) p.2=some w:=hg
     have q:=I' p.2 w hg
     show q8a zs day bad (p.2,(getW (spW n z.2 W) p.2).getD [])
     rw [hg]
     exact ⟨q.ok,hw,q.here⟩
   ·exact hT
theorem qnd {zs:Bk} {day:Int} {bad:Str} (o:∀ z∈zs,EnT z.1 z.2):∀ t∈(recG day 0 (zs.map (·.2)) ([(bad,[])],[])).2,q8a zs day bad t:=
 q9m o zs 0 _ _ (by simp) (fun x w e=>by
  unfold getW at e
  split at e
  ·rename_i h
   cases e
   exact ⟨trivial,h,Nat.le_refl _,fun k y _ h2=>absurd h2 (Nat.not_lt_zero _)⟩
  ·cases e) (fun _ h=>nomatch h)
end KR
namespace KR
open PySem L2 Z PM
theorem qn1 (xs:List Str):strsOf (sA xs)=some xs:=by
 have:=strs_map (fun x:Str=>x) xs
 simpa [sA] using this
theorem qet {h:AH} {d nm:AV} {ps:List (Str×Int)} (hl:ps.length<=50) :
  m_q0 [.tup [d, .str "batch",nm, .tup (ps.map pt)]] h=.ok (.lst ((srtS (metK (ps.map (·.1)))).map fun f=>.tup [.str f,nm])) h:=by
 have e1:atI [d,AV.str "batch",nm, .tup (ps.map pt)] 1=some (.str "batch"):=rfl
 have e2:atI [d,AV.str "batch",nm, .tup (ps.map pt)] 2=some nm:=rfl
 have e3:atI [d,AV.str "batch",nm, .tup (ps.map pt)] 3=some (.tup (ps.map pt)):=rfl
 have hp:(ps.map pt).length<=sizeLine:=by rw [List.length_map];exact Nat.le_trans hl (by decide)
 have k1:=q2w (wt:=none) (all:=ps.map pt) (g:=gT 2 (q12 (gN 0) (q12 (gN 1) q37))) (te:=aVar 0) (be:=[none,none]) (h:=h) (k:=pt) (f:=fun z=>AV.str z.1) q0x ps [] (fun z _=>⟨_,rfl,rfl⟩)
 have hm:(ps.map fun z=>AV.str z.1)=sA (ps.map (·.1)):=by unfold sA;rw [List.map_map];rfl
 rw [List.nil_append,hm] at k1
 have hs:strsOf (sA (ps.map (·.1)))=some (ps.map (·.1)):=qn1 _
 have hml:(metK (ps.map (·.1))).length<=ps.length:=by have:=qbe (ps.map (·.1)) [];unfold metK;simpa using this
 have hc:(ps.map (·.1)).length<=1000/\(metK (ps.map (·.1))).length<64:=⟨by rw [List.length_map];omega,by omega⟩
 have hsl:(srtS (metK (ps.map (·.1)))).length<=sizeLine:=by rw [(q4a _).length_eq];exact Nat.le_trans (show _<=50 by omega) (by decide)
 generalize ps.map (·.1)=fs at *
 generalize ps.map pt=PT at *
 generalize sA fs=SF at *
 have k2:=q2w (wt:=none) (all:=(srtS (metK fs)).map AV.str) (g:=gN 0) (te:=aTup (q02 (aVar 0) (q02 (a2 fIx (aVar 1) (aK (.int 2))) aNil))) (be:=[none,some (.tup [d, .str "batch",nm, .tup PT])]) (h:=h) (k:=AV.str) (f:=fun f=>AV.tup [.str f,nm]) q0x (srtS (metK fs)) [] (fun z _=>⟨_,rfl,by simp [e2]⟩)
 rw [List.nil_append] at k2
 unfold m_q0 b_q0
 simp [e1,e3,bEnv,hp,k1,hs,hc,hsl,k2]
theorem qes {h:AH} {d nm b:AV} {r:List AV}:m_q0 [.tup (d::.str "wheel" :: nm::b::r)] h=.ok (.lst [.tup [b,nm]]) h:=by
 have a1:atI (d::AV.str "wheel" :: nm::b::r) 1=some (.str "wheel"):=q0w (j:=1) rfl
 have a2:atI (d::AV.str "wheel" :: nm::b::r) 2=some nm:=q0w (j:=2) rfl
 have a3:atI (d::AV.str "wheel" :: nm::b::r) 3=some b:=q0w (j:=3) rfl
 have hn:("wheel" : Str) ≠ "batch":=by decide +kernel
 unfold m_q0 b_q0
 simp [a1,a2,a3,hn]
theorem q57 {h:AH} {d:AV} {t:Str} {r:List AV} (h1:t ≠ "batch") (h2:t ≠ "wheel") (h3:t ≠ "cut"):m_q0 [.tup (d::.str t::r)] h=.ok (.lst []) h:=by
 have a1:atI (d::AV.str t::r) 1=some (.str t):=q0w (j:=1) rfl
 unfold m_q0 b_q0
 simp [a1,h1,h2,h3]
theorem qhs {h:AH} {d:AV} {w:Str} {n:Nat} {ps:List AV} {r:List AV} (hp:ps.length=n) (hn:n<=1000) (hl:∀ j<n,(Str.empty++w:Str).length<=sizeLine/\(Str.empty++w++("/" : Str):Str).length<=sizeLine/\(wdN w j).length<=sizeLine) :
  m_q0 [.tup (d::.str "cut" :: .str w::.tup ps::r)] h=.ok (.lst ((List.range n).map fun j=>.tup [.str w, .str (wdN w j)])) h:=by
 have e1:atI (d::AV.str "cut" :: .str w::.tup ps::r) 1=some (.str "cut"):=q0w (j:=1) rfl
 have e2:atI (d::AV.str "cut" :: .str w::.tup ps::r) 2=some (.str w):=q0w (j:=2) rfl
 have e3:atI (d::AV.str "cut" :: .str w::.tup ps::r) 3=some (.tup ps):=q0w (j:=3) rfl
 have n1:("cut" : Str) ≠ "batch":=by decide +kernel
 have n2:("cut" : Str) ≠ "wheel":=by decide +kernel
 have hw:=qjs (nm:=w) (h:=h) hn hl
 have k2:=q2w (wt:=none) (all:=(List.range n).map fun j=>AV.str (wdN w j)) (g:=gN 0) (te:=aTup (q02 (a2 fIx (aVar 1) (aK (.int 2))) (q02 (aVar 0) aNil))) (be:=[none,some (.tup (d::.str "cut" :: .str w::.tup ps::r))]) (h:=h) (k:=fun j=>AV.str (wdN w j)) (f:=fun j=>AV.tup [.str w, .str (wdN w j)]) q0x (List.range n) [] (fun z _=>⟨_,rfl,by simp [e2]⟩)
 rw [List.nil_append] at k2
 have hsz:((List.range n).map fun j=>AV.str (wdN w j)).length<=sizeLine:=by rw [List.length_map,List.length_range];exact Nat.le_trans hn (by decide)
 generalize (List.range n).map (fun j=>AV.str (wdN w j))=W at *
 subst hp
 unfold m_q0 b_q0
 simp [e1,e2,e3,n1,n2,hw,bEnv,hsz,k2]
theorem qeg {h:AH} {d a b c:AV}:m_qy [.tup [d, .str "wash",a,b,c]] h=.ok (.lst [.lst [a,b,c]]) h:=by
 have e1:atI [d,AV.str "wash",a,b,c] 1=some (.str "wash"):=rfl
 have e2:atI [d,AV.str "wash",a,b,c] 2=some a:=rfl
 have e3:atI [d,AV.str "wash",a,b,c] 3=some b:=rfl
 have e4:atI [d,AV.str "wash",a,b,c] 4=some c:=rfl
 unfold m_qy b_qy
 simp [e1,e2,e3,e4]
theorem q42 {h:AH} {d:AV} {t:Str} {r:List AV} (h1:t ≠ "wash") (h2:t ≠ "night"):m_qy [.tup (d::.str t::r)] h=.ok (.lst []) h:=by
 have a1:atI (d::AV.str t::r) 1=some (.str t):=q0w (j:=1) rfl
 unfold m_qy b_qy
 simp [a1,h1,h2]
def rwA (z:Str×Str×Str×Int):AV:=.tup [.str z.1, .str z.2.1, .str z.2.2.1, .int z.2.2.2]
def addG:List (Str×List Str×Nat)->Str->Str->Nat->List (Str×List Str×Nat)
 | [],s,w,p=>[(s,[w],p)]
 | z::r,s,w,p=>if z.1=s then (z.1,z.2.1++[w],z.2.2)::r else z::addG r s w p
def keyG (L:List (Str×List Str×Nat)):List Key:=L.map fun z=>.inr z.1
def refG (b:Nat) (L:List (Str×List Str×Nat)):List AV:=L.map fun z=>.ref (b+z.2.2)
structure InG (L:List (Str×List Str×Nat)) (cs:AH):Prop where
 cell:∀ z∈L,cs[z.2.2]?=some (.lst (sA (z.1::z.2.1)))
 nd:(L.map (·.2.2)).Nodup
theorem qc8 {b:Nat} {s:Str}:∀ {L:List (Str×List Str×Nat)},(∀ z∈L,z.1≠s)->dval (keyG L) (refG b L) (.inr s)=none
 | [],_=>rfl
 | z::r,h=>by
  show (if (Sum.inr z.1:Key)=.inr s then _ else dval (keyG r) (refG b r) (.inr s))=none
  rw [if_neg fun e=>h z List.mem_cons_self (Sum.inr.inj e)]
  exact qc8 fun y hy=>h y (List.mem_cons_of_mem _ hy)
theorem q47 {s w:Str} {p:Nat}:∀ {L:List (Str×List Str×Nat)},(∀ z∈L,z.1≠s)->addG L s w p=L++[(s,[w],p)]
 | [],_=>rfl
 | z::r,h=>by
  unfold addG
  rw [if_neg (h z List.mem_cons_self),q47 fun y hy=>h y (List.mem_cons_of_mem _ hy)];rfl
theorem q83 {s w:Str} {p:Nat}:∀ {L:List (Str×List Str×Nat)},(∃ z∈L,z.1=s)->∃ A ws q B,L=A++(s,ws,q)::B/\(∀ z∈A,z.1≠s)/\addG L s w p=A++(s,ws++[w],q)::B
 | [],h=>by obtain ⟨z,hz,_⟩:=h;exact nomatch hz
 | z::r,h=>by
  by_cases e:z.1=s
  ·subst e
   exact ⟨[],z.2.1,z.2.2,r,rfl,(fun _ hz=>nomatch hz),by unfold addG;rw [if_pos rfl];rfl⟩
  ·obtain ⟨A,ws,q,B,h1,h2,h3⟩:=q83 (w:=w) (p:=p) (L:=r) (by
    obtain ⟨y,hy,hs⟩:=h
    rcases List.mem_cons.mp hy with rfl | hy
    ·exact absurd hs e
    ·exact ⟨y,hy,hs⟩)
   refine ⟨z::A,ws,q,B,by rw [h1];rfl,fun y hy=>?_,by unfold addG;rw [if_neg e,h3];rfl⟩
   rcases List.mem_cons.mp hy with rfl | hy
   ·exact e
   ·exact h2 y hy
theorem qcg {b:Nat} {s:Str} {ws:List Str} {q:Nat} {B:List (Str×List Str×Nat)}:∀ {A:List (Str×List Str×Nat)},(∀ z∈A,z.1≠s)->dval (keyG (A++(s,ws,q)::B)) (refG b (A++(s,ws,q)::B)) (.inr s)=some (.ref (b+q))
 | [],_=>by
  show (if (Sum.inr s:Key)=.inr s then _ else _)=_
  rw [if_pos rfl]
 | z::r,h=>by
  show (if (Sum.inr z.1:Key)=.inr s then _ else dval (keyG (r++(s,ws,q)::B)) (refG b (r++(s,ws,q)::B)) (.inr s))=_
  rw [if_neg fun e=>h z List.mem_cons_self (Sum.inr.inj e)]
  exact qcg fun y hy=>h y (List.mem_cons_of_mem _ hy)
def HG (h:AH) (L:List (Str×List Str×Nat)) (cs:AH):AH:=h ++ .dk (keyG L) (refG (h.length+1) L)::cs
theorem qal {h cs:AH} {L:List (Str×List Str×Nat)}:(HG h L cs)[h.length]?=some (.dk (keyG L) (refG (h.length+1) L)):=by
 unfold HG;rw [List.getElem?_append_right (Nat.le_refl _)];simp
theorem hg_len {h cs:AH} {L:List (Str×List Str×Nat)}:(HG h L cs).length=h.length+1+cs.length:=by
 unfold HG;simp;omega
theorem qb9 {h cs:AH} {L:List (Str×List Str×Nat)} (p:Nat):(HG h L cs)[h.length+1+p]?=cs[p]?:=by
 unfold HG;rw [List.getElem?_append_right (by omega),show h.length+1+p - h.length=p+1 by omega];rfl
theorem qj3 {h cs:AH} {L:List (Str×List Str×Nat)} (c:Cell):HG h L cs++[c]=HG h L (cs++[c]):=by unfold HG;simp
theorem qjc {h cs:AH} {L:List (Str×List Str×Nat)} (p:Nat) (c:Cell):(HG h L cs).set (h.length+1+p) c=HG h L (cs.set p c):=by
 unfold HG
 rw [List.set_append_right _ _ (by omega),show h.length+1+p - h.length=p+1 by omega];rfl
theorem hg_put {h cs:AH} {L L':List (Str×List Str×Nat)}:(HG h L cs).set h.length (.dk (keyG L') (refG (h.length+1) L'))=HG h L' cs:=by
 unfold HG
 rw [List.set_append_right _ _ (Nat.le_refl _),Nat.sub_self];rfl
theorem inG_lt {L:List (Str×List Str×Nat)} {cs:AH} (g:InG L cs):∀ z∈L,z.2.2<cs.length:=fun z hz=>qjo (g.cell z hz)
end KR
namespace KR
open PySem L2 Z PM
theorem inA_s (x:Str) (xs:List Str):inA (.str x) (sA xs)=decide (x∈xs):=by
 unfold inA sA
 induction xs with
 | nil=>rfl
 | cons y r ih =>
  rw [List.map_cons,List.any_cons,ih]
  by_cases h:x=y
  ·subst h;simp
  ·simp [h,Ne.symm h]
theorem qiw (xs:List Str):(sA xs).all q45=true:=by
 unfold sA;rw [List.all_map];exact List.all_eq_true.mpr fun _ _=>rfl
theorem qb8 {x:Str} {xs:List Str} (h:x∈srtS (metK xs)):x∈xs:=by
 have h:x∈metK xs:=(q4a _).mem_iff.mp h
 have:=(qex xs [] x).mp h
 simpa using this
theorem empty_app (x:Str):Str.empty++x=x:=by
 show (⟨#[]++x.cps⟩:Str)=x
 simp
theorem q1e (x y:Str):(x++y:Str).length=x.length+y.length:=by
 show (x.cps++y.cps).size=_
 rw [Array.size_append];rfl
theorem qae (w:Str) (j:Nat):wdN w j=w++("/" : Str)++Str.ofString (toString ((j:Int)+1)):=by
 unfold wdN;rw [empty_app,Int.add_comm]
def noC (h:AH):∃ (zs:List (AV×List Str)) (g:AH),(Re.ok (AV.lst []) h:Re AV)=.ok (.lst (zs.map (·.1))) (h++g)/\zs.map (·.2)=[]/\∀ z∈zs,IsL (h++g) z.1 (sA z.2)/\∀ k,z.1=.ref k->h.length<=k:=
 ⟨[],[],by simp,rfl,fun _ h=>nomatch h⟩
theorem qa6 {x:Str} {xs:List Str} {y:AV} {h:AH} (hm:x∈xs) (hy:q4f h y=some (sA xs)):fIn false (.str x) y h=.ok (.bl true) h:=by
 have fl:=qiw xs
 have i1:=inA_s x xs
 rw [decide_eq_true hm] at i1
 unfold fIn
 rw [hy]
 show (if (q45 (.str x) && (sA xs).all q45)=true then _ else _)=_
 rw [fl,i1];rfl
theorem qla {d:Int} {k:Str} {r:List AV} (h1:k ≠ "batch") (h2:k ≠ "wheel") (h3:k ≠ "cut") (h4:k ≠ "wash") (h5:k ≠ "night") (h6:k ≠ "boil"):EnT (.tup (.int d::.str k::r)) ⟨d,none,[],[],false⟩ where
 tup:=⟨_,k,rfl,q0w (j:=0) rfl,q0w (j:=1) rfl,fun b h=>(by cases h),fun _=>h6,⟨fun h=>(by cases h),fun h=>absurd h h3⟩⟩
 one:=fun h=>q57 h1 h2 h3
 circ:=fun h=>by rw [q42 h4 h5];exact noC h
 size:=by simp
 touch1:=fun _ h=>nomatch h
 touch2:=fun _ h=>nomatch h
 apart:=fun _ h=>nomatch h
 single:=.inl rfl
theorem qn4 {d:Int} {x:Str}:EnT (.tup [.int d, .str "boil", .str x]) ⟨d,some x,[],[],false⟩ where
 tup:=⟨_, "boil",rfl,rfl,rfl,fun b h=>⟨rfl,by cases h;rfl⟩,fun h=>(by cases h),⟨fun h=>(by cases h),fun h=>absurd h (by decide +kernel)⟩⟩
 one:=fun h=>q57 (by decide +kernel) (by decide +kernel) (by decide +kernel)
 circ:=fun h=>by rw [q42 (by decide +kernel) (by decide +kernel)];exact noC h
 size:=by simp
 touch1:=fun _ h=>nomatch h
 touch2:=fun _ h=>nomatch h
 apart:=fun _ h=>nomatch h
 single:=.inl rfl
theorem qm3 {d:Int} {nm b:Str} {r:List AV} (hn:nm≠b):EnT (.tup (.int d::.str "wheel" :: .str nm::.str b::r)) ⟨d,none,[(b,nm)],[],false⟩ where
 tup:=⟨_, "wheel",rfl,q0w (j:=0) rfl,q0w (j:=1) rfl,fun b h=>(by cases h),fun _=>(by decide +kernel),⟨fun h=>(by cases h),fun h=>absurd h (by decide +kernel)⟩⟩
 one:=fun h=>qes
 circ:=fun h=>by rw [q42 (by decide +kernel) (by decide +kernel)];exact noC h
 size:=by simp
 touch1:=fun p hp h=>by
  have:p=(b,nm):=by simpa using hp
  subst this
  have b1:atI (AV.int d::AV.str "wheel" :: .str nm::.str b::r) 1=some (.str "wheel"):=q0w (j:=1) rfl
  have b2:atI (AV.int d::AV.str "wheel" :: .str nm::.str b::r) 2=some (.str nm):=q0w (j:=2) rfl
  have b3:atI (AV.int d::AV.str "wheel" :: .str nm::.str b::r) 3=some (.str b):=q0w (j:=3) rfl
  have hne:("wheel" : Str) ≠ "batch":=by decide +kernel
  unfold m_qd b_qd
  simp [b1,b2,b3,hne,Ne.symm hn]
 touch2:=fun _ h=>nomatch h
 apart:=fun p hp q hq=>by
  have hp:p=(b,nm):=by simpa using hp
  have hq:q=(b,nm):=by simpa using hq
  subst hp;subst hq;exact hn
 single:=.inr rfl
theorem qmk {d:Int} {w b c:Str}:EnT (.tup [.int d, .str "wash", .str w, .str b, .str c]) ⟨d,none,[],[[w,b,c]],false⟩ where
 tup:=⟨_, "wash",rfl,rfl,rfl,fun b h=>(by cases h),fun _=>(by decide +kernel),⟨fun h=>(by cases h),fun h=>absurd h (by decide +kernel)⟩⟩
 one:=fun h=>q57 (by decide +kernel) (by decide +kernel) (by decide +kernel)
 circ:=fun h=>⟨[(.lst [.str w, .str b, .str c],[w,b,c])],[],by rw [qeg];simp,rfl,fun z hz=>by
  have:z=(.lst [.str w, .str b, .str c],[w,b,c]):=by simpa using hz
  subst this
  exact ⟨.inl rfl,fun k h=>by cases h⟩⟩
 size:=by simp
 touch1:=fun _ h=>nomatch h
 touch2:=fun q hq s hs t ht hne h=>by
  have:q=[w,b,c]:=by simpa using hq
  subst this
  have b1:atI [AV.int d,AV.str "wash", .str w, .str b, .str c] 1=some (.str "wash"):=rfl
  have n1:("wash" : Str) ≠ "batch":=by decide +kernel
  have n2:("wash" : Str) ≠ "wheel":=by decide +kernel
  have sx0:HT.sIx 5 0 (some 2)=2:=rfl
  have sx5:HT.sIx 5 5 none=5:=rfl
  have cu:cutA [AV.int d,AV.str "wash", .str w, .str b, .str c] (some 2) none=sA [w,b,c]:=rfl
  have f1:fIn false (.str s) (.tup (sA [w,b,c])) h=.ok (.bl true) h:=qa6 hs rfl
  have f2:fIn false (.str t) (.tup (sA [w,b,c])) h=.ok (.bl true) h:=qa6 ht rfl
  unfold m_qd b_qd
  generalize sA [w,b,c]=S at *
  simp [-fIn,b1,hne,n1,n2,cu,sx0,sx5,f1,f2]
 apart:=fun _ h=>nomatch h
 single:=.inl rfl
theorem qku {d:Int} {nm:Str} {ps:List (Str×Int)} (hl:ps.length<=50) (hn:∀ z∈ps,z.1≠nm):EnT (.tup [.int d, .str "batch", .str nm, .tup (ps.map pt)]) ⟨d,none,(srtS (metK (ps.map (·.1)))).map fun f=>(f,nm),[],false⟩ where
 tup:=⟨_, "batch",rfl,rfl,rfl,fun b h=>(by cases h),fun _=>(by decide +kernel),⟨fun h=>(by cases h),fun h=>absurd h (by decide +kernel)⟩⟩
 one:=fun h=>by rw [qet hl,List.map_map];rfl
 circ:=fun h=>by rw [q42 (by decide +kernel) (by decide +kernel)];exact noC h
 size:=by
  have hml:(metK (ps.map (·.1))).length<=ps.length:=by have:=qbe (ps.map (·.1)) [];unfold metK;simpa using this
  rw [List.length_map,(q4a _).length_eq]
  show _+0<=1000
  omega
 touch1:=fun p hp h=>by
  obtain ⟨f,hf,rfl⟩:=List.mem_map.mp hp
  have hf:=qb8 hf
  obtain ⟨z,hz,rfl⟩:=List.mem_map.mp hf
  have b1:atI [AV.int d,AV.str "batch", .str nm, .tup (ps.map pt)] 1=some (.str "batch"):=rfl
  have b2:atI [AV.int d,AV.str "batch", .str nm, .tup (ps.map pt)] 2=some (.str nm):=rfl
  have b3:atI [AV.int d,AV.str "batch", .str nm, .tup (ps.map pt)] 3=some (.tup (ps.map pt)):=rfl
  have hne:=hn z hz
  have k1:=q2w (wt:=none) (all:=ps.map pt) (g:=gN 0) (te:=a2 fIx (aVar 0) (aK (.int 0))) (be:=[none]) (h:=h) (k:=pt) (f:=fun z=>AV.str z.1) q0x ps [] (fun z _=>⟨_,rfl,by
   have:atI [AV.str z.1, .int z.2] 0=some (.str z.1):=rfl
   simp [pt,this]⟩)
  have hm:(ps.map fun z=>AV.str z.1)=sA (ps.map (·.1)):=by unfold sA;rw [List.map_map];rfl
  rw [List.nil_append,hm] at k1
  have hsz:(ps.map pt).length<=sizeLine:=by rw [List.length_map];exact Nat.le_trans hl (by decide)
  have f1:fIn false (.str z.1) (.lst (sA (ps.map (·.1)))) h=.ok (.bl true) h:=qa6 (List.mem_map.mpr ⟨z,hz,rfl⟩) rfl
  unfold m_qd b_qd
  generalize sA (ps.map (·.1))=S at *
  generalize ps.map pt=PT at *
  simp [-fIn,b1,b2,b3,hne,bEnv,hsz,k1,f1]
 touch2:=fun _ h=>nomatch h
 apart:=fun p hp q hq=>by
  obtain ⟨f,hf,rfl⟩:=List.mem_map.mp hp
  obtain ⟨f',hf',rfl⟩:=List.mem_map.mp hq
  obtain ⟨z,hz,rfl⟩:=List.mem_map.mp (qb8 hf')
  exact Ne.symm (hn z hz)
 single:=.inr rfl
theorem lt_int {j n:Nat} (h:j<n) (hn:n<=1000):((1:Int)+(j:Int)).natAbs.log2<1920:=by
 have:((1:Int)+(j:Int)).natAbs=1+j:=by omega
 rw [this]
 exact Nat.lt_of_lt_of_le ((Nat.log2_lt (by omega)).mpr (show 1+j<2 ^ 20 by omega)) (by decide)
theorem cut_ok {d:Int} {w:Str} {ps r:List AV} (hp:ps.length<=900) (hl:∀ j<ps.length,(Str.empty++w:Str).length<=sizeLine/\(Str.empty++w++("/" : Str):Str).length<=sizeLine/\(wdN w j).length<=sizeLine) (hn:∀ j<ps.length,wdN w j≠w) :
  EnT (.tup (.int d::.str "cut" :: .str w::.tup ps::r)) ⟨d,none,(List.range ps.length).map fun j=>(w,wdN w j),[],true⟩ where
 tup:=⟨_, "cut",rfl,q0w (j:=0) rfl,q0w (j:=1) rfl,fun b h=>(by cases h),fun _=>(by decide +kernel),⟨fun _=>rfl,fun _=>rfl⟩⟩
 one:=fun h=>by rw [qhs rfl (by omega) hl,List.map_map];rfl
 circ:=fun h=>by rw [q42 (by decide +kernel) (by decide +kernel)];exact noC h
 size:=by simp;omega
 touch1:=fun p hp' h=>by
  obtain ⟨j,hj,rfl⟩:=List.mem_map.mp hp'
  have hj:j<ps.length:=List.mem_range.mp hj
  have hne:=hn j hj
  have e1:atI (AV.int d::AV.str "cut" :: .str w::.tup ps::r) 1=some (.str "cut"):=q0w (j:=1) rfl
  have e2:atI (AV.int d::AV.str "cut" :: .str w::.tup ps::r) 2=some (.str w):=q0w (j:=2) rfl
  have e3:atI (AV.int d::AV.str "cut" :: .str w::.tup ps::r) 3=some (.tup ps):=q0w (j:=3) rfl
  have n1:("cut" : Str) ≠ "batch":=by decide +kernel
  have n2:("cut" : Str) ≠ "wheel":=by decide +kernel
  have n3:("cut" : Str) ≠ "wash":=by decide +kernel
  have n4:("cut" : Str) ≠ "night":=by decide +kernel
  have hth:m_qa [.tup (.int d::.str "cut" :: .str w::.tup ps::r)] h=.ok (.lst (sA (w::(List.range ps.length).map (wdN w)))) h:=by
   have k1:=q2w (wt:=none) (all:=(List.range ps.length).map fun i:Nat=>AV.int (i:Int)) (g:=gN 0) (te:=a2 q2f (a2 q2f (a2 fIx (aVar 1) (aK (.int 2))) (aK (.str "/"))) (aC q3n (q02 (a2 fAdd (aVar 0) (aK (.int 1))) aNil))) (be:=[none,some (.tup (.int d::.str "cut" :: .str w::.tup ps::r))]) (h:=h) (k:=fun i:Nat=>AV.int (i:Int)) (f:=fun j=>AV.str (wdN w j)) q0x (List.range ps.length) [] (fun j hj=>by
    have hj:j<ps.length:=List.mem_range.mp hj
    obtain ⟨l1,l2,l3⟩:=hl j hj
    rw [empty_app] at l1 l2
    have hlg:=lt_int hj (show ps.length<=1000 by omega)
    rw [Int.add_comm] at hlg
    rw [qae] at l3 ⊢
    rw [q1e] at l2 l3
    rw [q1e] at l3
    have l3':w.length+("/" : Str).length+(Str.ofString (Int.repr ((j:Int)+1))).length<=sizeLine:=l3
    have l4:(w++("/" : Str):Str).length=w.length+("/" : Str).length:=q1e _ _
    exact ⟨_,rfl,by simp [e2,hlg,l2,l3',l4]⟩)
   rw [List.nil_append] at k1
   have hsz:((List.range ps.length).map fun i:Nat=>AV.int (i:Int)).length<=sizeLine:=by rw [List.length_map,List.length_range];exact Nat.le_trans hp (by decide)
   have hs2:1+((List.range ps.length).map fun j=>AV.str (wdN w j)).length<=sizeLine:=by rw [List.length_map,List.length_range];exact Nat.le_trans (show _<=1000 by omega) (by decide)
   have hr:rng1 (.int (ps.length:Int)) h=.ok ((List.range ps.length).map (fun i:Nat=>AV.int (i:Int)),none) h:=by
    rw [q5g (by omega),qd0]
   have eS:sA (w::(List.range ps.length).map (wdN w))=[AV.str w]++(List.range ps.length).map fun j=>AV.str (wdN w j):=by unfold sA;rw [List.map_cons,List.map_map];rfl
   rw [eS]
   generalize (List.range ps.length).map (fun j=>AV.str (wdN w j))=W at *
   generalize (List.range ps.length).map (fun i:Nat=>AV.int (i:Int))=R at *
   unfold m_qa b_qa
   simp [e1,e2,e3,n1,n4,hr,bEnv,hsz,k1,hs2]
  have f1:fIn false (.str (wdN w j)) (.lst (sA (w::(List.range ps.length).map (wdN w)))) h=.ok (.bl true) h:=qa6 (List.mem_cons_of_mem _ (List.mem_map.mpr ⟨j,List.mem_range.mpr hj,rfl⟩)) rfl
  unfold m_qd b_qd
  generalize sA (w::(List.range ps.length).map (wdN w))=S at *
  generalize wdN w j=X at *
  simp [-fIn,e1,e2,Ne.symm hne,n1,n2,n3,hth,f1]
 touch2:=fun _ h=>nomatch h
 apart:=fun p hp' q hq=>by
  obtain ⟨j,hj,rfl⟩:=List.mem_map.mp hp'
  obtain ⟨j',hj',rfl⟩:=List.mem_map.mp hq
  exact hn j (List.mem_range.mp hj)
 single:=.inr rfl
end KR
namespace KR
open PySem L2 Z PM
abbrev Row:=Str×Str×Str×Int
def grpG:Nat->List Row->List (Str×List Str×Nat)->List (Str×List Str×Nat)
 | _,[],L=>L
 | p,z::r,L=>grpG (p+1) r (addG L z.2.2.1 z.1 p)
structure NG (L:List (Str×List Str×Nat)) (cs:AH):Prop where
 g:InG L cs
 len:L.length<=cs.length
 each:∀ z∈L,z.2.1.length<=cs.length
theorem qk6 {A B:List Nat} {q:Nat} (h:(A++q::B).Nodup):q∉A/\q∉B:=by
 obtain ⟨_,h2,h3⟩:=List.nodup_append.mp h
 exact ⟨fun z=>h3 q z q List.mem_cons_self rfl,(List.nodup_cons.mp h2).1⟩
theorem qi0 {h cs:AH} {L:List (Str×List Str×Nat)} {a:AV} {w r s:Str} {x:Int} {o2 o3 o4 o5:Option AV} (I:NG L cs) (hb:cs.length<=100000) :
  ∃ cs',(gT 4 (q12 (gN 2) (q12 (gN 3) (q12 (gN 4) (q12 (gN 5) q37)))) (rwA (w,r,s,x)) [some a,some (.ref h.length),o2,o3,o4,o5] (HG h L cs)=.ok [some a,some (.ref h.length),some (.str w),some (.str r),some (.str s),some (.int x)] (HG h L cs)) /\
   q0q (aMtL q15 (qaw (aVar 1) (aVar 4) (q3r (q02 (aVar 4) aNil))) (q02 (aVar 2) aNil)) [some a,some (.ref h.length),some (.str w),some (.str r),some (.str s),some (.int x)] (HG h L cs)=.nx [some a,some (.ref h.length),some (.str w),some (.str r),some (.str s),some (.int x)] (HG h (addG L s w cs.length) cs')/\NG (addG L s w cs.length) cs'/\cs'.length=cs.length+1:=by
 have hlt:=inG_lt I.g
 by_cases hn:∀ z∈L,z.1≠s
 ·refine ⟨cs++[Cell.lst [AV.str s,AV.str w]],rfl,?_,⟨⟨fun z hz=>?_,?_⟩,?_,fun z hz=>?_⟩,by simp⟩
  ·have hd:(HG h L cs++[Cell.lst [AV.str s]])[h.length]?=some (.dk (keyG L) (refG (h.length+1) L)):=q4s qal
   have hk:(keyG L).length<sizeLine:=by unfold keyG;rw [List.length_map];exact Nat.lt_of_le_of_lt (Nat.le_trans I.len hb) (by decide)
   have hv:=qc8 (b:=h.length+1) hn
   have hd0:=qal (h:=h) (L:=L) (cs:=cs)
   have hlen:(HG h L cs).length=h.length+1+cs.length:=hg_len
   have hp:dput (keyG L) (refG (h.length+1) L) (.inr s) (.ref (h.length+1+cs.length))=(keyG (addG L s w cs.length),refG (h.length+1) (addG L s w cs.length)):=by
    rw [qkx hv (by unfold keyG refG;rw [List.length_map,List.length_map]),q47 hn]
    unfold keyG refG
    simp
   have e2:(HG h L cs++[Cell.lst [AV.str s]]).set h.length (.dk (keyG (addG L s w cs.length)) (refG (h.length+1) (addG L s w cs.length)))=HG h (addG L s w cs.length) (cs++[Cell.lst [AV.str s]]):=by rw [qj3,hg_put]
   have e3:(HG h (addG L s w cs.length) (cs++[Cell.lst [AV.str s]]))[h.length+1+cs.length]?=some (.lst [.str s]):=by rw [qb9];simp
   have e4:(HG h (addG L s w cs.length) (cs++[Cell.lst [AV.str s]])).set (h.length+1+cs.length) (.lst [.str s, .str w])=HG h (addG L s w cs.length) (cs++[Cell.lst [AV.str s,AV.str w]]):=by rw [qjc];simp
   have one:1<sizeLine:=by decide
   generalize hH2:HG h (addG L s w cs.length) (cs++[Cell.lst [AV.str s]])=H2 at *
   generalize hH0:HG h L cs=H0 at *
   generalize keyG L=KL at *
   generalize refG (h.length+1) L=RL at *
   generalize keyG (addG L s w cs.length)=KA at *
   generalize refG (h.length+1) (addG L s w cs.length)=RA at *
   rw [<- e4]
   simp [hd0,hlen,hd,hk,hv,hp,e2,e3,one]
  ·rw [q47 hn] at hz
   rcases List.mem_append.mp hz with hz | hz
   ·rw [List.getElem?_append_left (hlt z hz)];exact I.g.cell z hz
   ·have:z=(s,[w],cs.length):=by simpa using hz
    subst this
    simp [sA]
  ·rw [q47 hn,List.map_append,List.nodup_append]
   refine ⟨I.g.nd,by simp,fun a ha b hb' => ?_⟩
   obtain ⟨z,hz,rfl⟩:=List.mem_map.mp ha
   have:b=cs.length:=by simpa using hb'
   rw [this];exact Nat.ne_of_lt (hlt z hz)
  ·rw [q47 hn];simp;exact I.len
  ·rw [q47 hn] at hz
   rcases List.mem_append.mp hz with hz | hz
   ·have:=I.each z hz;simp;omega
   ·have:z=(s,[w],cs.length):=by simpa using hz
    subst this;simp
 ·have hn':∃ z∈L,z.1=s:=by
   have:=Classical.not_forall.mp hn
   obtain ⟨z,hz⟩:=this
   have:=Classical.not_imp.mp hz
   exact ⟨z,this.1,Classical.not_not.mp this.2⟩
  obtain ⟨A,ws,q,B,rfl,hA,eAdd⟩:=q83 (w:=w) (p:=cs.length) hn'
  have hq:q<cs.length:=hlt (s,ws,q) (by simp)
  have cq:cs[q]?=some (.lst (sA (s::ws))):=I.g.cell (s,ws,q) (by simp)
  have hwl:ws.length<=cs.length:=I.each (s,ws,q) (by simp)
  have nd:=I.g.nd
  rw [List.map_append,List.map_cons] at nd
  obtain ⟨nA,nB⟩:=qk6 nd
  refine ⟨(cs++[Cell.lst [AV.str s]]).set q (.lst (sA (s::(ws++[w])))),rfl,?_,⟨⟨fun z hz=>?_,?_⟩,?_,fun z hz=>?_⟩,by simp⟩
  ·have hd0:=qal (h:=h) (L:=A++(s,ws,q)::B) (cs:=cs)
   have hd:(HG h (A++(s,ws,q)::B) cs++[Cell.lst [AV.str s]])[h.length]?=some (.dk (keyG (A++(s,ws,q)::B)) (refG (h.length+1) (A++(s,ws,q)::B))):=q4s qal
   have hk:(keyG (A++(s,ws,q)::B)).length<sizeLine:=by unfold keyG;rw [List.length_map];exact Nat.lt_of_le_of_lt (Nat.le_trans I.len hb) (by decide)
   have hv:=qcg (b:=h.length+1) (s:=s) (ws:=ws) (q:=q) (B:=B) hA
   have e1:HG h (A++(s,ws,q)::B) cs++[Cell.lst [AV.str s]]=HG h (A++(s,ws,q)::B) (cs++[Cell.lst [AV.str s]]):=qj3 _
   have e3:(HG h (A++(s,ws,q)::B) (cs++[Cell.lst [AV.str s]]))[h.length+1+q]?=some (.lst (sA (s::ws))):=by rw [qb9,List.getElem?_append_left hq];exact cq
   have eK:keyG (addG (A++(s,ws,q)::B) s w cs.length)=keyG (A++(s,ws,q)::B):=by rw [eAdd];simp [keyG]
   have eR:refG (h.length+1) (addG (A++(s,ws,q)::B) s w cs.length)=refG (h.length+1) (A++(s,ws,q)::B):=by rw [eAdd];simp [refG]
   have e4:(HG h (A++(s,ws,q)::B) (cs++[Cell.lst [AV.str s]])).set (h.length+1+q) (.lst (sA (s::ws)++[.str w]))=HG h (addG (A++(s,ws,q)::B) s w cs.length) ((cs++[Cell.lst [AV.str s]]).set q (.lst (sA (s::(ws++[w]))))):=by
    rw [qjc]
    unfold HG
    rw [eK,eR]
    simp [sA]
   have hsz:(sA (s::ws)).length<sizeLine:=by unfold sA;rw [List.length_map,List.length_cons];exact Nat.lt_of_le_of_lt (show _<=100001 by omega) (by decide)
   rw [<- e4]
   generalize hH2:HG h (A++(s,ws,q)::B) (cs++[Cell.lst [AV.str s]])=H2 at *
   generalize hH0:HG h (A++(s,ws,q)::B) cs=H0 at *
   generalize keyG (A++(s,ws,q)::B)=KL at *
   generalize refG (h.length+1) (A++(s,ws,q)::B)=RL at *
   generalize sA (s::ws)=SW at *
   rw [e1] at hd
   simp [hd0,e1,hd,hk,hv,e3,hsz]
  ·rw [eAdd] at hz
   have other:∀ z∈A++(s,ws,q)::B,z.2.2≠q->((cs++[Cell.lst [AV.str s]]).set q (.lst (sA (s::(ws++[w])))))[z.2.2]?=some (.lst (sA (z.1::z.2.1))):=fun z hz hne=>by
    rw [List.getElem?_set_ne (Ne.symm hne),List.getElem?_append_left (hlt z hz)]
    exact I.g.cell z hz
   rcases List.mem_append.mp hz with hz | hz
   ·exact other z (by simp [hz]) fun e=>nA (e ▸ List.mem_map.mpr ⟨z,hz,rfl⟩)
   ·rcases List.mem_cons.mp hz with rfl | hz
    ·rw [List.getElem?_set_self (by simp;omega)]
    ·exact other z (by simp [hz]) fun e=>nB (e ▸ List.mem_map.mpr ⟨z,hz,rfl⟩)
  ·rw [eAdd]
   have:=I.g.nd
   simpa using this
  ·rw [eAdd]
   have:=I.len
   simp at this ⊢;omega
  ·rw [eAdd] at hz
   rcases List.mem_append.mp hz with hz | hz
   ·have:=I.each z (by simp [hz]);simp;omega
   ·rcases List.mem_cons.mp hz with rfl | hz
    ·simp;omega
    ·have:=I.each z (by simp [hz]);simp;omega
theorem qas {h:AH} {a:AV} {all:List AV}:∀ (rows:List Row) (L:List (Str×List Str×Nat)) (cs:AH) (o2 o3 o4 o5:Option AV),NG L cs->cs.length+rows.length<=100000 ->
  ∃ cs' o2' o3' o4' o5',q1y none all (gT 4 (q12 (gN 2) (q12 (gN 3) (q12 (gN 4) (q12 (gN 5) q37))))) (q0q (aMtL q15 (qaw (aVar 1) (aVar 4) (q3r (q02 (aVar 4) aNil))) (q02 (aVar 2) aNil))) (rows.map rwA) [some a,some (.ref h.length),o2,o3,o4,o5] (HG h L cs) =
   .nx [some a,some (.ref h.length),o2',o3',o4',o5'] (HG h (grpG cs.length rows L) cs')/\NG (grpG cs.length rows L) cs'
 | [],L,cs,o2,o3,o4,o5,I,_=>⟨cs,o2,o3,o4,o5,by simp [q1y,q0x,grpG],I⟩
 | z::r,L,cs,o2,o3,o4,o5,I,hb=>by
  obtain ⟨w,rm,s,x⟩:=z
  rw [List.length_cons] at hb
  obtain ⟨cs1,q1,q2,I1,hl⟩:=qi0 (h:=h) (a:=a) (w:=w) (r:=rm) (s:=s) (x:=x) (o2:=o2) (o3:=o3) (o4:=o4) (o5:=o5) I (by omega)
  obtain ⟨cs2,p2,p3,p4,p5,q3,I2⟩:=qas (h:=h) (a:=a) (all:=all) r (addG L s w cs.length) cs1 (some (.str w)) (some (.str rm)) (some (.str s)) (some (.int x)) I1 (by omega)
  rw [hl] at q3 I2
  exact ⟨cs2,p2,p3,p4,p5,by rw [List.map_cons,q4r q1 q2,q3];rfl,I2⟩
theorem qcx {h:AH} {d:AV} {rows:List Row} (hl:rows.length<=450):∃ g,m_qy [.tup [d, .str "night", .tup (rows.map rwA)]] h=.ok (.lst (refG (h.length+1) (grpG 0 rows []))) (h++g)/\∀ z∈grpG 0 rows [],(h++g)[h.length+1+z.2.2]?=some (.lst (sA (z.1::z.2.1))):=by
 obtain ⟨cs,o2,o3,o4,o5,q,I⟩:=qas (h:=h) (a:=.tup [d, .str "night", .tup (rows.map rwA)]) (all:=rows.map rwA) rows [] [] none none none none ⟨⟨fun _ h=>(nomatch h),List.nodup_nil⟩,Nat.le_refl _,fun _ h=>(nomatch h)⟩ (by simp;omega)
 refine ⟨.dk (keyG (grpG 0 rows [])) (refG (h.length+1) (grpG 0 rows []))::cs,?_,fun z hz=>?_⟩
 ·have e1:atI [d,AV.str "night", .tup (rows.map rwA)] 1=some (.str "night"):=rfl
  have e2:atI [d,AV.str "night", .tup (rows.map rwA)] 2=some (.tup (rows.map rwA)):=rfl
  have n1:("night" : Str) ≠ "wash":=by decide +kernel
  have hd:=qal (h:=h) (L:=grpG 0 rows []) (cs:=cs)
  have hH0:h++[Cell.dk [] []]=HG h [] []:=rfl
  show _=Re.ok (AV.lst (refG (h.length+1) (grpG 0 rows []))) (HG h (grpG 0 rows []) cs)
  simp only [List.length_nil] at q
  generalize HG h (grpG 0 rows []) cs=H at *
  generalize hq0:HG h [] []=H0 at *
  generalize keyG (grpG 0 rows [])=KL at *
  generalize refG (h.length+1) (grpG 0 rows [])=RL at *
  generalize rows.map rwA=RW at *
  unfold m_qy b_qy
  simp [e1,e2,n1,hH0,q,hd]
 ·have:=qb9 (h:=h) (L:=grpG 0 rows []) (cs:=cs) z.2.2
  rw [I.g.cell z hz] at this
  exact this
theorem qgs {s w:Str} {p:Nat} {z:Str×List Str×Nat}:∀ {L:List (Str×List Str×Nat)},z∈addG L s w p->(z.1=s/\(∀ x∈z.2.1,x=w\/∃ y∈L,y.1=s/\x∈y.2.1))\/z∈L
 | [],h=>by
  have:z=(s,[w],p):=by simpa [addG] using h
  subst this
  exact .inl ⟨rfl,fun x hx=>.inl (by simpa using hx)⟩
 | y::r,h=>by
  unfold addG at h
  split at h
  ·rename_i e
   rcases List.mem_cons.mp h with rfl | h
   ·refine .inl ⟨e,fun x hx=>?_⟩
    rcases List.mem_append.mp hx with hx | hx
    ·exact .inr ⟨y,List.mem_cons_self,e,hx⟩
    ·exact .inl (by simpa using hx)
   ·exact .inr (List.mem_cons_of_mem _ h)
  ·rcases List.mem_cons.mp h with rfl | h
   ·exact .inr List.mem_cons_self
   ·rcases qgs h with ⟨h1,h2⟩ | h
    ·refine .inl ⟨h1,fun x hx=>?_⟩
     rcases h2 x hx with q | ⟨v,hv,q⟩
     ·exact .inl q
     ·exact .inr ⟨v,List.mem_cons_of_mem _ hv,q⟩
    ·exact .inr (List.mem_cons_of_mem _ h)
def qjv (rows:List Row) (z:Str×List Str×Nat):Prop:=(∃ r∈rows,r.2.2.1=z.1)/\∀ x∈z.2.1, ∃ r∈rows,r.1=x/\r.2.2.1=z.1
theorem q69 {rows:List Row}:∀ {r:List Row} {p:Nat} {L:List (Str×List Str×Nat)},(∀ z∈r,z∈rows)->(∀ z∈L,qjv rows z)->∀ z∈grpG p r L,qjv rows z
 | [],_,_,_,hL=>hL
 | y::r,p,L,hr,hL=>by
  refine q69 (r:=r) (fun z hz=>hr z (List.mem_cons_of_mem _ hz)) fun z hz=>?_
  rcases qgs hz with ⟨h1,h2⟩ | h
  ·refine ⟨⟨y,hr y List.mem_cons_self,h1.symm⟩,fun x hx=>?_⟩
   rcases h2 x hx with q | ⟨v,hv,q1,q2⟩
   ·exact ⟨y,hr y List.mem_cons_self,q.symm,h1.symm⟩
   ·obtain ⟨k,hk,e1,e2⟩:=(hL v hv).2 x q2
    exact ⟨k,hk,e1,by rw [e2,q1,h1]⟩
  ·exact hL z h
theorem qg9 (s w:Str) (p:Nat):∀ L:List (Str×List Str×Nat),((addG L s w p).map fun z=>(z.1::z.2.1).length).sum<=(L.map fun z=>(z.1::z.2.1).length).sum+2
 | []=>by simp [addG]
 | y::r=>by
  unfold addG
  split
  ·simp;omega
  ·have:=qg9 s w p r
   simp only [List.map_cons,List.sum_cons]
   omega
theorem qgj:∀ (r:List Row) (p:Nat) (L:List (Str×List Str×Nat)),((grpG p r L).map fun z=>(z.1::z.2.1).length).sum<=(L.map fun z=>(z.1::z.2.1).length).sum+2 * r.length
 | [],_,L=>by simp [grpG]
 | y::r,p,L=>by
  have h1:=qgj r (p+1) (addG L y.2.2.1 y.1 p)
  have h2:=qg9 y.2.2.1 y.1 p L
  show ((grpG (p+1) r (addG L y.2.2.1 y.1 p)).map _).sum<=_
  rw [List.length_cons];omega
structure q65 (rows:List Row):Prop where
 one:∀ r∈rows, ∀ q∈rows,r.1=q.1->r.2.2.1=q.2.2.1
 unlike:∀ r∈rows, ∀ q∈rows,r.1≠q.2.2.1
 some:∀ r∈rows,r.2.2.1 ≠ ""
theorem q6t {h:AH} {d:AV} {rows:List Row} {x s:Str} (h1:∃ r∈rows,(r.1=x\/r.2.2.1=x)) (h2:∀ r∈rows,(r.1=x\/r.2.2.1=x)->r.2.2.1=s):m_qj [.tup [d, .str "night", .tup (rows.map rwA)], .str x] h=.ok (.str s) h:=by
 have e2:atI [d,AV.str "night", .tup (rows.map rwA)] 2=some (.tup (rows.map rwA)):=rfl
 have key:=qgp (wt:=none) (all:=rows.map rwA) (g:=gN 2) (body:=sIf (aOr (aB (a2 fEq (aVar 1) (a2 fIx (aVar 2) (aK (.int 0))))) (aB (a2 fEq (aVar 1) (a2 fIx (aVar 2) (aK (.int 2)))))) (sRet (a2 fIx (aVar 2) (aK (.int 2)))) q10) (h:=h) (k:=rwA) (P:=fun env=>∃ o,env=[some (.tup [d, .str "night", .tup (rows.map rwA)]),some (.str x),o]) (x:=.str s) (good:=fun r=>!(decide (r.1=x) || decide (r.2.2.1=x))) q0x rows [some (.tup [d, .str "night", .tup (rows.map rwA)]),some (.str x),none] ⟨_,rfl⟩ (by
   obtain ⟨r,hr,hx⟩:=h1
   rw [Bool.eq_false_iff]
   intro z
   have:=List.all_eq_true.mp z r hr
   rcases hx with hx | hx <;> simp [hx] at this) (fun r hr env hp=>by
   obtain ⟨o,rfl⟩:=hp
   have i0:∀ (a b c:Str) (n:Int),atI [AV.str a, .str b, .str c, .int n] 0=some (.str a):=fun _ _ _ _=>rfl
   have i2:∀ (a b c:Str) (n:Int),atI [AV.str a, .str b, .str c, .int n] 2=some (.str c):=fun _ _ _ _=>rfl
   refine ⟨_,rfl,fun hg=>⟨[some (.tup [d, .str "night", .tup (rows.map rwA)]),some (.str x),some (rwA r)],?_,some (rwA r),rfl⟩,fun hg=>?_⟩
   ·have hg:¬ r.1=x/\¬ r.2.2.1=x:=by simpa using hg
    simp [rwA,i0,i2,Ne.symm hg.1,Ne.symm hg.2]
   ·have hg:r.1=x\/r.2.2.1=x:=by
     by_cases q:r.1=x
     ·exact .inl q
     ·right;simpa [q] using hg
    have hs:=h2 r hr hg
    rcases hg with hg | hg
    ·simp [rwA,i0,i2,hg,hs]
    ·by_cases q:x=r.1
     ·simp [rwA,i0,i2,q,hs]
     ·simp [rwA,i0,i2,q,hg,hs]
      exact hg.symm.trans hs)
 unfold m_qj b_qj
 generalize rows.map rwA=RW at *
 simp [e2,key]
theorem qm8 {d:Int} {rows:List Row} (hl:rows.length<=450) (o:q65 rows):EnT (.tup [.int d, .str "night", .tup (rows.map rwA)]) ⟨d,none,[],(grpG 0 rows []).map fun z=>z.1::z.2.1,false⟩ where
 tup:=⟨_, "night",rfl,rfl,rfl,fun b h=>(by cases h),fun _=>(by decide +kernel),⟨fun h=>(by cases h),fun h=>absurd h (by decide +kernel)⟩⟩
 one:=fun h=>q57 (by decide +kernel) (by decide +kernel) (by decide +kernel)
 circ:=fun h=>by
  obtain ⟨g,q,hc⟩:=qcx (h:=h) (d:=.int d) hl
  refine ⟨(grpG 0 rows []).map fun z=>(.ref (h.length+1+z.2.2),z.1::z.2.1),g,?_,by rw [List.map_map];rfl,fun z hz=>?_⟩
  ·rw [q,List.map_map];rfl
  ·obtain ⟨y,hy,rfl⟩:=List.mem_map.mp hz
   exact ⟨.inr ⟨_,rfl,hc y hy⟩,fun k e=>by cases e;omega⟩
 size:=by
  have:=qgj rows 0 []
  rw [List.map_map]
  simp only [List.map_nil,List.sum_nil,Nat.zero_add] at this
  have e:(List.length ∘ fun z:Str×List Str×Nat=>z.1::z.2.1)=fun z=>(z.1::z.2.1).length:=rfl
  rw [e]
  show 0+_<=1000
  omega
 touch1:=fun _ h=>nomatch h
 touch2:=fun c hc s hs t ht hne h=>by
  obtain ⟨z,hz,rfl⟩:=List.mem_map.mp hc
  have hin:=q69 (rows:=rows) (r:=rows) (p:=0) (L:=[]) (fun _ h=>h) (fun _ h=>nomatch h) z hz
  have key:∀ x∈z.1::z.2.1,m_qj [.tup [.int d, .str "night", .tup (rows.map rwA)], .str x] h=.ok (.str z.1) h:=fun x hx=>by
   rcases List.mem_cons.mp hx with rfl | hx
   ·obtain ⟨r,hr,e⟩:=hin.1
    exact q6t ⟨r,hr, .inr e⟩ fun q hq hx=>hx.resolve_left fun e' => o.unlike q hq r hr (e'.trans e.symm)
   ·obtain ⟨r,hr,e,e'⟩:=hin.2 x hx
    refine q6t ⟨r,hr, .inl e⟩ fun q hq hx=>?_
    rcases hx with hx | hx
    ·rw [<- e'];exact o.one q hq r hr (hx.trans e.symm)
    ·exact absurd (e.trans hx.symm) (o.unlike r hr q hq)
  have k1:=key s hs
  have k2:=key t ht
  obtain ⟨r,hr,e⟩:=hin.1
  have hz0:z.1 ≠ "":=by rw [<- e];exact o.some r hr
  have b1:atI [AV.int d,AV.str "night", .tup (rows.map rwA)] 1=some (.str "night"):=rfl
  have n1:("night" : Str) ≠ "batch":=by decide +kernel
  have n2:("night" : Str) ≠ "wheel":=by decide +kernel
  have n3:("night" : Str) ≠ "wash":=by decide +kernel
  have n4:("night" : Str) ≠ "cut":=by decide +kernel
  unfold m_qd b_qd
  generalize rows.map rwA=RW at *
  simp [b1,n1,n2,n3,n4,hne,k1,k2,hz0]
 apart:=fun _ h=>nomatch h
 single:=.inl rfl
end KR
namespace KR
open PySem L2 Z PM
abbrev Fb:=Str->Bool
def q7e (f:Fb) (c:List Str):List (Str×Str):=match c.filter f with
 | []=>[]
 | s::_=>(c.filter fun t=>!f t).map fun t=>(s,t)
def q4u (e:En) (f:Fb):List (Str×Str):=e.one.filter (fun p=>f p.1)++e.circ.flatMap (q7e f)
def q44 (e:En) (f:Fb):Fb:=fun x=>match e.boil with | some b=>!decide (b=x) && f x | none=>f x
def bst (e:En) (f:Fb):Fb:=fun x=>(q4u e (q44 e f)).any (fun p=>decide (p.2=x)) || q44 e f x
theorem q9u (e:En) (W:Ways):q11 e W=q4u e (hasW W):=rfl
theorem qdm (e:En) (W:Ways):hasW (q19 e W)=q44 e (hasW W):=by
 funext x
 unfold q19 q44
 cases e.boil with
 | none=>rfl
 | some b=>exact qlj W b x
theorem bst_eq (n:Nat) (e:En) (W:Ways):hasW (spW n e W)=bst e (hasW W):=by
 funext x
 unfold spW bst
 rw [q89,q9u,qdm]
def tells (e:En) (f:Fb):List Str:=if e.cut=true then (q4u e (q44 e f)).map (·.2) else []
def bsts:List En->Fb->Fb
 | [],f=>f
 | e::r,f=>bsts r (bst e f)
def q4d:List En->Fb->List Str
 | [],_=>[]
 | e::r,f=>tells e f++q4d r (bst e f)
theorem qcs (f:Fb) (c:List Str) (x:Str):((q7e f c).any fun p=>decide (p.2=x))=(c.any f && decide (x∈c) && !f x):=by
 unfold q7e
 cases e:c.filter f with
 | nil =>
  have:c.any f=false:=by
   rw [Bool.eq_false_iff]
   intro h
   obtain ⟨y,hy,hf⟩:=List.any_eq_true.mp h
   have:y∈c.filter f:=List.mem_filter.mpr ⟨hy,hf⟩
   rw [e] at this;exact nomatch this
  rw [this];rfl
 | cons s r =>
  have hs:s∈c.filter f:=by rw [e];exact List.mem_cons_self
  have:c.any f=true:=List.any_eq_true.mpr ⟨s,(List.mem_filter.mp hs).1,(List.mem_filter.mp hs).2⟩
  rw [this,Bool.true_and]
  rw [Bool.eq_iff_iff]
  simp only [List.any_eq_true,List.mem_map,List.mem_filter,Bool.and_eq_true,decide_eq_true_eq,Bool.not_eq_true']
  constructor
  ·rintro ⟨p,⟨t,⟨ht,hf⟩,rfl⟩,rfl⟩
   exact ⟨ht,hf⟩
  ·rintro ⟨hx,hf⟩
   exact ⟨(s,x),⟨x,⟨hx,hf⟩,rfl⟩,rfl⟩
theorem ql7 {e:En} (h1:e.boil=none) (h2:e.one=[]) (f:Fb) (x:Str):bst e f x=(f x || e.circ.any fun c=>c.any f && decide (x∈c)):=by
 have hb:q44 e f=f:=by funext y;unfold q44;rw [h1]
 unfold bst q4u
 rw [hb,h2,List.filter_nil,List.nil_append]
 rw [Bool.eq_iff_iff]
 simp only [Bool.or_eq_true,List.any_eq_true,List.mem_flatMap]
 constructor
 ·rintro (⟨p,⟨c,hc,hp⟩,hx⟩ | h)
  ·have:=qcs f c x
   have h':((q7e f c).any fun p=>decide (p.2=x))=true:=List.any_eq_true.mpr ⟨p,hp,hx⟩
   rw [this] at h'
   simp only [Bool.and_eq_true,decide_eq_true_eq] at h'
   exact .inr ⟨c,hc,by simp [h'.1.1,h'.1.2]⟩
  ·exact .inl h
 ·rintro (h | ⟨c,hc,h⟩)
  ·exact .inr h
  ·by_cases hf:f x=true
   ·exact .inr hf
   ·have hf:f x=false:=by simpa using hf
    have h':((q7e f c).any fun p=>decide (p.2=x))=true:=by
     rw [qcs]
     simp only [Bool.and_eq_true,decide_eq_true_eq] at h ⊢
     exact ⟨⟨h.1,h.2⟩,by simp [hf]⟩
    obtain ⟨p,hp,hx⟩:=List.any_eq_true.mp h'
    exact .inl ⟨p,⟨c,hc,hp⟩,hx⟩
theorem qnh {e:En} (h1:e.boil=none) (h2:e.circ=[]) (f:Fb) (x:Str):bst e f x=(f x || e.one.any fun p=>f p.1 && decide (p.2=x)):=by
 have hb:q44 e f=f:=by funext y;unfold q44;rw [h1]
 unfold bst q4u
 rw [hb,h2,List.flatMap_nil,List.append_nil,List.any_filter,Bool.or_comm]
theorem bst_none {d:Int} (f:Fb):bst ⟨d,none,[],[],false⟩ f=f:=rfl
end KR
namespace KR
open PySem L2 Z PM
def tchE (e:En) (s g:Str):Bool:=!decide (s=g) && (e.one.any (fun p=>decide (p.1=s) && decide (p.2=g)) || e.circ.any fun c=>decide (s∈c) && decide (g∈c))
structure EnX (a:AV) (e:En) (ths:List Str):Prop extends EnT a e where
 things:∀ h,m_qa [a] h=.ok (.lst (sA ths)) h
 tch:∀ s g h,m_qd [a, .str s, .str g] h=.ok (.bl (tchE e s g)) h
 goal1:∀ p∈e.one,p.2∈ths
 goal2:∀ c∈e.circ, ∀ x∈c,x∈ths
 bo:e.boil≠none->e.one=[]/\e.circ=[]
 ctd:e.cut=true->∃ w r,ths=w::r/\w∉r/\e.one=r.map (fun t=>(w,t))/\e.circ=[]/\e.boil=none
 tsz:ths.length<=1000
def fK (K:List Str):Fb:=fun x=>decide (x∈K)
def q4c (e:En) (K:List Str) (g:Str):Bool:=K.any fun s=>tchE e s g
def q1f (e:En) (ths K:List Str):List Str:=ths.filter (q4c e K)
def setS (K:List Str) (x:Str):List Str:=if x∈K then K else K++[x]
def q5h (K:List Str) (x:Str):List Str:=K.filter fun y=>decide (y≠x)
def q2v (e:En) (K:List Str):List Str:=match e.boil with | some b=>q5h K b | none=>K
def fwdS (e:En) (ths K:List Str):List Str:=(q1f e ths K).foldl setS (q2v e K)
theorem qlq {K:List Str} {x y:Str}:y∈setS K x↔y∈K\/y=x:=by
 unfold setS
 split
 ·rename_i h
  constructor
  ·exact .inl
  ·rintro (h' | rfl)
   ·exact h'
   ·exact h
 ·simp
theorem qbu {y:Str}:∀ (F K:List Str),y∈F.foldl setS K↔y∈K\/y∈F
 | [],K=>by simp
 | x::F,K=>by
  rw [List.foldl_cons,qbu F,qlq,List.mem_cons,or_assoc]
theorem q9c (K:List Str) (x:Str):(setS K x).length<=K.length+1:=by unfold setS;split <;> simp
theorem qc1:∀ (F K:List Str),(F.foldl setS K).length<=K.length+F.length
 | [],K=>Nat.le_refl _
 | x::F,K=>by
  have:=qc1 F (setS K x)
  have:=q9c K x
  rw [List.foldl_cons,List.length_cons];omega
theorem qfy {a:AV} {e:En} {ths K:List Str} (o:EnX a e ths):fK (fwdS e ths K)=bst e (fK K):=by
 funext x
 have hm:fK (fwdS e ths K) x=(fK (q2v e K) x || decide (x∈q1f e ths K)):=by
  unfold fK fwdS
  rw [<- Bool.decide_or]
  exact decide_eq_decide.mpr (qbu _ _)
 rw [hm]
 cases hb:e.boil with
 | some b =>
  obtain ⟨h1,h2⟩:=o.bo (by rw [hb];simp)
  have hf:q1f e ths K=[]:=by
   unfold q1f
   rw [List.filter_eq_nil_iff]
   intro g _
   unfold q4c tchE
   rw [h1,h2]
   simp
  rw [hf]
  unfold bst q4u
  rw [h1,h2]
  unfold q2v q44 fK q5h
  rw [hb]
  by_cases q:x=b
  ·subst q;simp
  ·simp [q,Ne.symm q]
 | none =>
  have hbs:q2v e K=K:=by unfold q2v;rw [hb]
  rw [hbs]
  have hfr:∀ s,s∈K->tchE e s x=true->x∈ths->x∈q1f e ths K:=fun s hs ht hx=>List.mem_filter.mpr ⟨hx,List.any_eq_true.mpr ⟨s,hs,ht⟩⟩
  rcases o.single with h1 | h2
  ·rw [ql7 hb h1]
   rw [Bool.eq_iff_iff]
   simp only [Bool.or_eq_true,decide_eq_true_eq,List.any_eq_true,Bool.and_eq_true]
   constructor
   ·rintro (h | h)
    ·exact .inl h
    ·obtain ⟨hx,hg⟩:=List.mem_filter.mp h
     obtain ⟨s,hs,ht⟩:=List.any_eq_true.mp hg
     unfold tchE at ht
     rw [h1] at ht
     simp only [List.any_nil,Bool.false_or,Bool.and_eq_true,List.any_eq_true,decide_eq_true_eq] at ht
     obtain ⟨_,c,hc,h3,h4⟩:=ht
     exact .inr ⟨c,hc,⟨s,h3,decide_eq_true hs⟩,h4⟩
   ·rintro (h | ⟨c,hc,⟨s,hs,hf⟩,hx⟩)
    ·exact .inl h
    ·by_cases e':s=x
     ·subst e';exact .inl hf
     ·refine .inr (hfr s (of_decide_eq_true hf) ?_ (o.goal2 c hc x hx))
      unfold tchE
      simp only [Bool.and_eq_true,Bool.not_eq_true',decide_eq_false_iff_not,Bool.or_eq_true,List.any_eq_true,decide_eq_true_eq]
      exact ⟨e', .inr ⟨c,hc,hs,hx⟩⟩
  ·rw [qnh hb h2]
   rw [Bool.eq_iff_iff]
   simp only [Bool.or_eq_true,decide_eq_true_eq,List.any_eq_true,Bool.and_eq_true]
   constructor
   ·rintro (h | h)
    ·exact .inl h
    ·obtain ⟨hx,hg⟩:=List.mem_filter.mp h
     obtain ⟨s,hs,ht⟩:=List.any_eq_true.mp hg
     unfold tchE at ht
     rw [h2] at ht
     simp only [List.any_nil,Bool.or_false,Bool.and_eq_true,List.any_eq_true,decide_eq_true_eq] at ht
     obtain ⟨_,p,hp,h3,h4⟩:=ht
     exact .inr ⟨p,hp,decide_eq_true (by rw [h3];exact hs),h4⟩
   ·rintro (h | ⟨p,hp,hf,rfl⟩)
    ·exact .inl h
    ·refine .inr (hfr p.1 (of_decide_eq_true hf) ?_ (o.goal1 p hp))
     unfold tchE
     simp only [Bool.and_eq_true,Bool.not_eq_true',decide_eq_false_iff_not,Bool.or_eq_true,List.any_eq_true,decide_eq_true_eq]
     exact ⟨fun e' => o.apart p hp p hp e'.symm, .inl ⟨p,hp,rfl,rfl⟩⟩
theorem qim {a:AV} {e:En} {ths K:List Str} (o:EnX a e ths) (hc:e.cut=true):q1f e ths K=tells e (fK K):=by
 obtain ⟨w,r,rfl,hw,h1,h2,h3⟩:=o.ctd hc
 have hb:q44 e (fK K)=fK K:=by funext y;unfold q44;rw [h3]
 unfold tells q4u q1f
 rw [if_pos hc,hb,h2,h1,List.flatMap_nil,List.append_nil]
 have g1:∀ g,q4c e K g=(fK K w && decide (g∈r)):=fun g=>by
  unfold q4c tchE
  rw [h1,h2,Bool.eq_iff_iff]
  simp only [List.any_eq_true,Bool.and_eq_true,Bool.not_eq_true',decide_eq_false_iff_not,Bool.or_eq_true,List.any_nil,Bool.false_eq_true,or_false,List.mem_map,decide_eq_true_eq]
  constructor
  ·rintro ⟨s,hs,_,p,⟨t,ht,rfl⟩,rfl,rfl⟩
   exact ⟨decide_eq_true hs,ht⟩
  ·rintro ⟨hf,hg⟩
   exact ⟨w,of_decide_eq_true hf,fun e' => hw (e' ▸ hg),(w,g),⟨g,hg,rfl⟩,rfl,rfl⟩
 have g2:(w::r).filter (q4c e K)=r.filter (q4c e K):=by
  rw [List.filter_cons_of_neg]
  rw [g1];simp [hw]
 rw [g2]
 cases hf:fK K w with
 | false =>
  rw [List.filter_eq_nil_iff.mpr fun g hg=>by rw [g1,hf];simp,List.filter_eq_nil_iff.mpr fun p hp=>by
   obtain ⟨t,_,rfl⟩:=List.mem_map.mp hp
   simp [hf]]
  rfl
 | true =>
  rw [List.filter_eq_self.mpr fun g hg=>by rw [g1,hf];simp [hg],List.filter_eq_self.mpr fun p hp=>by
   obtain ⟨t,_,rfl⟩:=List.mem_map.mp hp
   exact hf,List.map_map]
  exact (List.map_id _).symm
def kS (K:List Str):List Key:=K.map Sum.inr
def vS (K:List Str):List AV:=K.map fun _=>AV.bl true
theorem qjt (x:Str):∀ K:List Str,(dval (kS K) (vS K) (.inr x))=if x∈K then some (.bl true) else none
 | []=>rfl
 | y::r=>by
  show (if (Sum.inr y:Key)=.inr x then some (AV.bl true) else dval (kS r) (vS r) (.inr x))=_
  by_cases h:y=x
  ·rw [if_pos (by rw [h]),if_pos (by simp [h])]
  ·rw [if_neg fun e=>h (Sum.inr.inj e),qjt x r]
   by_cases hx:x∈r
   ·rw [if_pos hx,if_pos (List.mem_cons_of_mem _ hx)]
   ·rw [if_neg hx,if_neg (by simp [hx,Ne.symm h])]
theorem qg2 (x:Str):∀ K:List Str,q4g (.inr x) (.bl true) (kS K) (vS K)=vS K
 | []=>rfl
 | y::r=>by
  show (if (Sum.inr y:Key)=.inr x then AV.bl true else AV.bl true)::q4g (.inr x) (.bl true) (kS r) (vS r)=_
  rw [qg2 x r];simp [vS]
theorem dput_S (K:List Str) (x:Str):dput (kS K) (vS K) (.inr x) (.bl true)=(kS (setS K x),vS (setS K x)):=by
 unfold dput setS
 by_cases h:x∈K
 ·rw [if_pos h,if_pos (by unfold kS;rw [List.any_map];exact List.any_eq_true.mpr ⟨x,h,by simp⟩),qg2]
 ·rw [if_neg h,if_neg (by
   unfold kS
   rw [List.any_map]
   intro z
   obtain ⟨y,hy,he⟩:=List.any_eq_true.mp z
   have:y=x:=by simpa using he
   exact h (this ▸ hy))]
  simp [kS,vS]
theorem qka (x:Str):∀ K:List Str,q3i (.inr x) (kS K) (vS K)=vS (q5h K x)
 | []=>rfl
 | y::r=>by
  show (if (Sum.inr y:Key)=.inr x then q3i (.inr x) (kS r) (vS r) else AV.bl true::q3i (.inr x) (kS r) (vS r))=_
  rw [qka x r]
  by_cases h:y=x
  ·rw [if_pos (by rw [h])];simp [q5h,h]
  ·rw [if_neg fun e=>h (Sum.inr.inj e)];simp [q5h,h,vS]
theorem qml (x:Str) (K:List Str):(kS K).filter (fun i=>decide (i≠.inr x))=kS (q5h K x):=by
 unfold kS q5h
 rw [List.filter_map]
 congr 1
 apply List.filter_congr
 intro z _
 simp
def HF (h:AH) (K T:List Str) (g:AH):AH:=h ++ .dk (kS K) (vS K)::.lst (sA T)::g
section
variable {h g g':AH} {K K' T T':List Str} {c c':Cell}
theorem qhn:(HF h K T g)[h.length]?=some (.dk (kS K) (vS K)):=by unfold HF;rw [List.getElem?_append_right (Nat.le_refl _)];simp
theorem qg1:(HF h K T g)[h.length+1]?=some (.lst (sA T)):=by unfold HF;rw [List.getElem?_append_right (by omega),show h.length+1 - h.length=1 by omega];rfl
theorem hf_len:(HF h K T g).length=h.length+2+g.length:=by unfold HF;simp;omega
theorem q8s:(HF h K T (g++[c]))[h.length+2+g.length]?=some c:=by
 unfold HF
 rw [List.getElem?_append_right (by omega),show h.length+2+g.length - h.length=(g.length+1)+1 by omega]
 simp
theorem hf_app:HF h K T g++g'=HF h K T (g++g'):=by unfold HF;simp
theorem qfu:(HF h K T g).set h.length (.dk (kS K') (vS K'))=HF h K' T g:=by
 unfold HF;rw [List.set_append_right _ _ (Nat.le_refl _),Nat.sub_self];rfl
theorem qnv:(HF h K T g).set (h.length+1) (.lst (sA T'))=HF h K T' g:=by
 unfold HF;rw [List.set_append_right _ _ (by omega),show h.length+1 - h.length=1 by omega];rfl
theorem qnw:(HF h K T (g++[c])).set (h.length+2+g.length) c'=HF h K T (g++[c']):=by
 unfold HF
 rw [List.set_append_right _ _ (by omega),show h.length+2+g.length - h.length=(g.length+1)+1 by omega]
 simp
end
def qa4:AS:=sIf (aB (aC fAny (q02 (aLc 1 [5,7] (iLst (aC q6e (q02 (aVar 3) aNil))) (gN 0) aYes (aC m_qd (q02 (aVar 1) (q02 (aVar 0) (q02 (aVar 2) aNil))))) aNil)))
 (q0q (aMtL q15 (aVar 6) (q02 (aVar 7) aNil)))
 q10
theorem qip {h g:AH} {K T F:List Str} {a:AV} {e:En} {ths:List Str} {x:Str} {x0 x1 x2 x4:Option AV} (o:EnX a e ths) (hK:K.length<=5000000) (hF:F.length<=5000) :
  qa4 [x0,x1,x2,some (.ref h.length),x4,some a,some (.ref (h.length+2+g.length)),some (.str x)] (HF h K T (g++[.lst (sA F)]))=.nx [x0,x1,x2,some (.ref h.length),x4,some a,some (.ref (h.length+2+g.length)),some (.str x)] (HF h K T (g++[.lst (sA (F++if q4c e K x=true then [x] else []))])):=by
 have hd:=qhn (h:=h) (K:=K) (T:=T) (g:=g++[.lst (sA F)])
 have hl:=q8s (h:=h) (K:=K) (T:=T) (g:=g) (c:=.lst (sA F))
 have hkk:(kS K).map keyA=sA K:=by unfold kS sA;rw [List.map_map];rfl
 have hsz:(sA K).length<=sizeLine:=by unfold sA;rw [List.length_map];exact Nat.le_trans hK (by decide)
 have hf:(sA F).length<sizeLine:=by unfold sA;rw [List.length_map];exact Nat.lt_of_le_of_lt hF (by decide)
 have k1:=q2w (wt:=none) (all:=sA K) (g:=gN 0) (te:=aC m_qd (q02 (aVar 1) (q02 (aVar 0) (q02 (aVar 2) aNil)))) (be:=[none,some a,some (.str x)]) (h:=HF h K T (g++[.lst (sA F)])) (k:=AV.str) (f:=fun s=>AV.bl (tchE e s x)) q0x K [] (fun s _=>⟨_,rfl,by
  have:=o.tch s x (HF h K T (g++[.lst (sA F)]))
  generalize HF h K T (g++[.lst (sA F)])=H at *
  simp [this]⟩)
 rw [List.nil_append] at k1
 have k1:lcL none (sA K) (gN 0) aYes (aC m_qd (q02 (aVar 1) (q02 (aVar 0) (q02 (aVar 2) aNil)))) [none,some a,some (.str x)] (sA K) [] (HF h K T (g++[.lst (sA F)]))=_:=k1
 have hb:q4j (K.map fun s=>AV.bl (tchE e s x))=some (K.map fun s=>tchE e s x):=q8k _ _
 have hany:(K.map fun s=>tchE e s x).any id=q4c e K x:=by unfold q4c;rw [List.any_map];rfl
 have hset:=qnw (h:=h) (K:=K) (T:=T) (g:=g) (c:=.lst (sA F)) (c':=.lst (sA F++[.str x]))
 have eF:sA (F++[x])=sA F++[.str x]:=by unfold sA;simp
 unfold qa4
 cases hg:q4c e K x with
 | false =>
  rw [hg] at hany
  rw [if_neg (by simp),List.append_nil]
  generalize HF h K T (g++[.lst (sA F)])=H at *
  generalize K.map (fun s=>AV.bl (tchE e s x))=B at *
  generalize K.map (fun s=>tchE e s x)=B2 at *
  simp [hd,hkk,bEnv,hsz,k1,hb,hany]
 | true =>
  rw [hg] at hany
  rw [if_pos rfl,eF, <- hset]
  generalize HF h K T (g++[.lst (sA F)])=H at *
  generalize K.map (fun s=>AV.bl (tchE e s x))=B at *
  generalize K.map (fun s=>tchE e s x)=B2 at *
  simp [hd,hkk,bEnv,hsz,k1,hb,hany,hl,hf]
theorem q9x {h g:AH} {K T:List Str} {a:AV} {e:En} {ths all:List Str} {x0 x1 x2 x4:Option AV} (o:EnX a e ths) (hK:K.length<=5000000):∀ (r F:List Str) (o7:Option AV),F.length+r.length<=5000 ->
  ∃ o7',q1y none (sA all) (gN 7) qa4 (sA r) [x0,x1,x2,some (.ref h.length),x4,some a,some (.ref (h.length+2+g.length)),o7] (HF h K T (g++[.lst (sA F)]))=.nx [x0,x1,x2,some (.ref h.length),x4,some a,some (.ref (h.length+2+g.length)),o7'] (HF h K T (g++[.lst (sA (F++r.filter (q4c e K)))]))
 | [],F,o7,_=>⟨o7,by simp [sA,q1y,q0x]⟩
 | x::r,F,o7,hl=>by
  rw [List.length_cons] at hl
  have q:=qip (h:=h) (g:=g) (T:=T) (F:=F) (x:=x) (x0:=x0) (x1:=x1) (x2:=x2) (x4:=x4) o hK (by omega)
  obtain ⟨o7',q2⟩:=q9x (h:=h) (g:=g) (T:=T) (x0:=x0) (x1:=x1) (x2:=x2) (x4:=x4) (all:=all) o hK r (F++if q4c e K x=true then [x] else []) (some (.str x)) (by rw [List.length_append];split <;> simp <;> omega)
  refine ⟨o7',?_⟩
  rw [show sA (x::r)=.str x::sA r from rfl,q4r (e1:=[x0,x1,x2,some (.ref h.length),x4,some a,some (.ref (h.length+2+g.length)),some (.str x)]) rfl q,q2,List.append_assoc,List.filter_cons]
  split <;> simp
end KR
namespace KR
open PySem L2 Z PM
def qa0:AS:=sSeq (q1h (aVar 3) (aVar 7) (aK (.bl true)))
 (sIf (aB (a2 fEq (a2 fIx (aVar 5) (aK (.int 1))) (aK (.str "cut"))))
 (q0q (aMtL q15 (aVar 4) (q02 (aVar 7) aNil)))
 q10)
def q8g:AS:=sIf (aB (a2 fGe (a2 fIx (aVar 5) (aK (.int 0))) (aVar 2)))
 (sSeq (sAsg (q3r aNil) (gN 6))
 (sSeq (sFor (iLst (aC m_qa (q02 (aVar 5) aNil))) (gN 7) qa4)
 (sSeq (sIf (aAnd (aB (a2 fEq (a2 fIx (aVar 5) (aK (.int 1))) (aK (.str "boil")))) (aB (a2 fDIn (a2 fIx (aVar 5) (aK (.int 2))) (aVar 3))))
 (q0q (q78 (aVar 3) (a2 fIx (aVar 5) (aK (.int 2)))))
 q10)
 (sFor (iLst (aVar 6)) (gN 7) qa0))))
 q10
theorem qm6 {h g:AH} {K T F:List Str} {xs:List AV} {kd x:Str} {x0 x1 x2:Option AV} (i1:atI xs 1=some (.str kd)) (hK:K.length<=6000000) (hT:T.length<=6000000) :
  qa0 [x0,x1,x2,some (.ref h.length),some (.ref (h.length+1)),some (.tup xs),some (.ref (h.length+2+g.length)),some (.str x)] (HF h K T (g++[.lst (sA F)]))=.nx [x0,x1,x2,some (.ref h.length),some (.ref (h.length+1)),some (.tup xs),some (.ref (h.length+2+g.length)),some (.str x)] (HF h (setS K x) (if kd = "cut" then T++[x] else T) (g++[.lst (sA F)])):=by
 have hd:=qhn (h:=h) (K:=K) (T:=T) (g:=g++[.lst (sA F)])
 have hk:(kS K).length<sizeLine:=by unfold kS;rw [List.length_map];exact Nat.lt_of_le_of_lt hK (by decide)
 have hp:=dput_S K x
 have hs:=qfu (h:=h) (K:=K) (K':=setS K x) (T:=T) (g:=g++[.lst (sA F)])
 have ht:=qg1 (h:=h) (K:=setS K x) (T:=T) (g:=g++[.lst (sA F)])
 have hsz:(sA T).length<sizeLine:=by unfold sA;rw [List.length_map];exact Nat.lt_of_le_of_lt hT (by decide)
 have hst:=qnv (h:=h) (K:=setS K x) (T:=T) (T':=T++[x]) (g:=g++[.lst (sA F)])
 have eT:sA (T++[x])=sA T++[.str x]:=by unfold sA;simp
 rw [eT] at hst
 have s1:q1h (aVar 3) (aVar 7) (aK (.bl true)) [x0,x1,x2,some (.ref h.length),some (.ref (h.length+1)),some (.tup xs),some (.ref (h.length+2+g.length)),some (.str x)] (HF h K T (g++[.lst (sA F)]))=.nx [x0,x1,x2,some (.ref h.length),some (.ref (h.length+1)),some (.tup xs),some (.ref (h.length+2+g.length)),some (.str x)] (HF h (setS K x) T (g++[.lst (sA F)])):=by
  rw [<- hs]
  generalize HF h K T (g++[.lst (sA F)])=H at *
  simp [hd,hk,hp]
 unfold qa0
 rw [q0m s1]
 by_cases hc:kd = "cut"
 ·subst hc
  rw [if_pos rfl, <- hst]
  generalize HF h (setS K x) T (g++[.lst (sA F)])=H at *
  simp [i1,ht,hsz]
 ·rw [if_neg hc]
  generalize HF h (setS K x) T (g++[.lst (sA F)])=H at *
  simp [i1,hc]
theorem qcd {h g:AH} {F:List Str} {xs:List AV} {kd:Str} {x0 x1 x2:Option AV} (i1:atI xs 1=some (.str kd)):∀ (r K T:List Str) (o7:Option AV),K.length+r.length<=6000000->T.length+r.length<=6000000 ->
  ∃ o7',q1y (some (h.length+2+g.length)) (sA F) (gN 7) qa0 (sA r) [x0,x1,x2,some (.ref h.length),some (.ref (h.length+1)),some (.tup xs),some (.ref (h.length+2+g.length)),o7] (HF h K T (g++[.lst (sA F)]))=.nx [x0,x1,x2,some (.ref h.length),some (.ref (h.length+1)),some (.tup xs),some (.ref (h.length+2+g.length)),o7'] (HF h (r.foldl setS K) (if kd = "cut" then T++r else T) (g++[.lst (sA F)]))
 | [],K,T,o7,_,_=>⟨o7,by
  show (if okW _ _ _=true then SRe.nx _ _ else .no)=_
  rw [if_pos (q9e q8s)]
  simp⟩
 | x::r,K,T,o7,hK,hT=>by
  rw [List.length_cons] at hK hT
  have q:=qm6 (h:=h) (g:=g) (F:=F) (x:=x) (x0:=x0) (x1:=x1) (x2:=x2) (K:=K) (T:=T) i1 (by omega) (by omega)
  have l1:=q9c K x
  have lT:(if kd = "cut" then T++[x] else T).length+r.length<=6000000:=by
   split
   ·rw [List.length_append,List.length_singleton];omega
   ·omega
  obtain ⟨o7',q2⟩:=qcd (h:=h) (g:=g) (F:=F) (x0:=x0) (x1:=x1) (x2:=x2) i1 r (setS K x) (if kd = "cut" then T++[x] else T) (some (.str x)) (by omega) lT
  refine ⟨o7',?_⟩
  have eT:(if kd = "cut" then (if kd = "cut" then T++[x] else T)++r else (if kd = "cut" then T++[x] else T))=if kd = "cut" then T++(x::r) else T:=by
   by_cases hc:kd = "cut"
   ·simp [hc]
   ·simp [hc]
  rw [eT] at q2
  rw [show sA (x::r)=.str x::sA r from rfl,q1y,if_pos (q9e q8s)]
  show (Re.to (gN 7 (.str x) _ _) _)=_
  have hg:gN 7 (.str x) [x0,x1,x2,some (.ref h.length),some (.ref (h.length+1)),some (.tup xs),some (.ref (h.length+2+g.length)),o7] (HF h K T (g++[.lst (sA F)]))=.ok [x0,x1,x2,some (.ref h.length),some (.ref (h.length+1)),some (.tup xs),some (.ref (h.length+2+g.length)),some (.str x)] (HF h K T (g++[.lst (sA F)])):=rfl
  rw [hg]
  simp only [Re.q2e,q]
  exact q2
abbrev Fs:=List Str×List Str
def fwS (day:Int) (z:(AV×En)×List Str) (s:Fs):Fs:=if day<=z.1.2.day then (fwdS z.1.2 z.2 s.1,if z.1.2.cut=true then s.2++q1f z.1.2 z.2 s.1 else s.2) else s
theorem qnp {h g:AH} {K T:List Str} {z:(AV×En)×List Str} {day:Int} {x0 x1 o6 o7:Option AV} (o:EnX z.1.1 z.1.2 z.2) (hK:K.length<=5000000) (hT:T.length<=5000000) :
  ∃ g' o6' o7',q8g [x0,x1,some (.int day),some (.ref h.length),some (.ref (h.length+1)),some z.1.1,o6,o7] (HF h K T g)=.nx [x0,x1,some (.int day),some (.ref h.length),some (.ref (h.length+1)),some z.1.1,o6',o7'] (HF h (fwS day z (K,T)).1 (fwS day z (K,T)).2 g'):=by
 obtain ⟨⟨a,e⟩,ths⟩:=z
 dsimp only at *
 obtain ⟨xs,kd,rfl,i0,i1,hbo,hnb,hcut⟩:=o.tup
 have hcond:∀ H:AH,aB (a2 fGe (a2 fIx (aVar 5) (aK (.int 0))) (aVar 2)) [x0,x1,some (.int day),some (.ref h.length),some (.ref (h.length+1)),some (.tup xs),o6,o7] H=.ok (decide (day<=e.day)) H:=fun H=>by simp [i0]
 unfold fwS
 by_cases hd:day<=e.day
 ·rw [if_pos hd]
  have hth:=o.things (HF h K T (g++[.lst (sA [])]))
  have s1:sAsg (q3r aNil) (gN 6) [x0,x1,some (.int day),some (.ref h.length),some (.ref (h.length+1)),some (.tup xs),o6,o7] (HF h K T g)=.nx [x0,x1,some (.int day),some (.ref h.length),some (.ref (h.length+1)),some (.tup xs),some (.ref (h.length+2+g.length)),o7] (HF h K T (g++[.lst (sA [])])):=by
   have hl:=hf_len (h:=h) (K:=K) (T:=T) (g:=g)
   have ha:=hf_app (h:=h) (K:=K) (T:=T) (g:=g) (g':=[.lst (sA [])])
   rw [<- ha]
   generalize HF h K T g=H at *
   simp [hl,sA]
  obtain ⟨o7',q2⟩:=q9x (h:=h) (g:=g) (T:=T) (x0:=x0) (x1:=x1) (x2:=some (.int day)) (x4:=some (.ref (h.length+1))) (all:=ths) o hK ths [] o7 (by have:=o.tsz;simp;omega)
  rw [List.nil_append] at q2
  have s2:sFor (iLst (aC m_qa (q02 (aVar 5) aNil))) (gN 7) qa4 [x0,x1,some (.int day),some (.ref h.length),some (.ref (h.length+1)),some (.tup xs),some (.ref (h.length+2+g.length)),o7] (HF h K T (g++[.lst (sA [])]))=.nx [x0,x1,some (.int day),some (.ref h.length),some (.ref (h.length+1)),some (.tup xs),some (.ref (h.length+2+g.length)),o7'] (HF h K T (g++[.lst (sA (q1f e ths K))])):=by
   show _=SRe.nx _ (HF h K T (g++[.lst (sA (ths.filter (q4c e K)))]))
   rw [<- q2]
   generalize HF h K T (g++[.lst (sA [])])=H at *
   simp [hth]
  have s3:sIf (aAnd (aB (a2 fEq (a2 fIx (aVar 5) (aK (.int 1))) (aK (.str "boil")))) (aB (a2 fDIn (a2 fIx (aVar 5) (aK (.int 2))) (aVar 3)))) (q0q (q78 (aVar 3) (a2 fIx (aVar 5) (aK (.int 2))))) q10 [x0,x1,some (.int day),some (.ref h.length),some (.ref (h.length+1)),some (.tup xs),some (.ref (h.length+2+g.length)),o7'] (HF h K T (g++[.lst (sA (q1f e ths K))]))=.nx [x0,x1,some (.int day),some (.ref h.length),some (.ref (h.length+1)),some (.tup xs),some (.ref (h.length+2+g.length)),o7'] (HF h (q2v e K) T (g++[.lst (sA (q1f e ths K))])):=by
   have hdk:=qhn (h:=h) (K:=K) (T:=T) (g:=g++[.lst (sA (q1f e ths K))])
   cases eb:e.boil with
   | none =>
    have hk:=hnb eb
    have:q2v e K=K:=by unfold q2v;rw [eb]
    rw [this]
    generalize HF h K T (g++[.lst (sA (q1f e ths K))])=H at *
    simp [i1,hk]
   | some b =>
    obtain ⟨rfl,i2⟩:=hbo b eb
    have e1:q2v e K=q5h K b:=by unfold q2v;rw [eb]
    rw [e1]
    have hv:=qjt b K
    by_cases hb:b∈K
    ·rw [if_pos hb] at hv
     have h1:=qka b K
     have h2:=qml b K
     simp only [decide_not] at h2
     have hs:=qfu (h:=h) (K:=K) (K':=q5h K b) (T:=T) (g:=g++[.lst (sA (q1f e ths K))])
     rw [<- hs]
     generalize HF h K T (g++[.lst (sA (q1f e ths K))])=H at *
     simp [i1,i2,hdk,hv,h1,h2]
    ·rw [if_neg hb] at hv
     have:q5h K b=K:=List.filter_eq_self.mpr fun y hy=>decide_eq_true fun e' => hb (e' ▸ hy)
     rw [this]
     generalize HF h K T (g++[.lst (sA (q1f e ths K))])=H at *
     simp [i1,i2,hdk,hv]
  have hbl:(q2v e K).length<=K.length:=by
   unfold q2v
   split
   ·exact List.length_filter_le _ _
   ·exact Nat.le_refl _
  have hfl:(q1f e ths K).length<=1000:=Nat.le_trans (List.length_filter_le _ _) o.tsz
  obtain ⟨p7,q4⟩:=qcd (h:=h) (g:=g) (F:=q1f e ths K) (x0:=x0) (x1:=x1) (x2:=some (.int day)) (xs:=xs) (kd:=kd) i1 (q1f e ths K) (q2v e K) T o7' (by omega) (by omega)
  have s4:sFor (iLst (aVar 6)) (gN 7) qa0 [x0,x1,some (.int day),some (.ref h.length),some (.ref (h.length+1)),some (.tup xs),some (.ref (h.length+2+g.length)),o7'] (HF h (q2v e K) T (g++[.lst (sA (q1f e ths K))]))=.nx [x0,x1,some (.int day),some (.ref h.length),some (.ref (h.length+1)),some (.tup xs),some (.ref (h.length+2+g.length)),p7] (HF h (fwdS e ths K) (if kd = "cut" then T++q1f e ths K else T) (g++[.lst (sA (q1f e ths K))])):=by
   have hl:=q8s (h:=h) (K:=q2v e K) (T:=T) (g:=g) (c:=.lst (sA (q1f e ths K)))
   show _=SRe.nx _ (HF h ((q1f e ths K).foldl setS (q2v e K)) _ _)
   rw [<- q4]
   generalize HF h (q2v e K) T (g++[.lst (sA (q1f e ths K))])=H at *
   simp [hl]
  have ec:(if kd = "cut" then T++q1f e ths K else T)=if e.cut=true then T++q1f e ths K else T:=by
   by_cases hc:kd = "cut"
   ·rw [if_pos hc,if_pos (hcut.mpr hc)]
   ·rw [if_neg hc,if_neg fun z=>hc (hcut.mp z)]
  rw [ec] at s4
  refine ⟨g++[.lst (sA (q1f e ths K))],some (.ref (h.length+2+g.length)),p7,?_⟩
  unfold q8g
  show Re.to (aB _ _ _) _=_
  rw [hcond,decide_eq_true hd]
  simp only [Re.q2e,if_true]
  rw [q0m s1,q0m s2,q0m s3,s4]
 ·rw [if_neg hd]
  refine ⟨g,o6,o7,?_⟩
  unfold q8g
  show Re.to (aB _ _ _) _=_
  rw [hcond,decide_eq_false hd]
  rfl
abbrev Bx:=List ((AV×En)×List Str)
def fwG (day:Int) (zs:Bx) (s:Fs):Fs:=zs.foldl (fun s z=>fwS day z s) s
theorem qn5 {day:Int} {z:(AV×En)×List Str} (o:EnX z.1.1 z.1.2 z.2) {K T:List Str} {B:Nat} (hK:K.length<=B) (hT:T.length<=B):(fwS day z (K,T)).1.length<=B+1000/\(fwS day z (K,T)).2.length<=B+1000:=by
 have hfl:(q1f z.1.2 z.2 K).length<=1000:=Nat.le_trans (List.length_filter_le _ _) o.tsz
 have hbl:(q2v z.1.2 K).length<=K.length:=by
  unfold q2v
  split
  ·exact List.length_filter_le _ _
  ·exact Nat.le_refl _
 have:=qc1 (q1f z.1.2 z.2 K) (q2v z.1.2 K)
 unfold fwS
 split
 ·refine ⟨by show ((q1f z.1.2 z.2 K).foldl setS (q2v z.1.2 K)).length<=_;omega,?_⟩
  dsimp only
  split
  ·rw [List.length_append];omega
  ·omega
 ·exact ⟨by dsimp only;omega,by dsimp only;omega⟩
theorem qfr {h:AH} {day:Int} {x0 x1:Option AV} {B:AV} {all:List AV} (hB:∀ K T g,okW (HF h K T g) all (watch B)=true):∀ (zs:Bx) (K T:List Str) (g:AH) (N:Nat) (o5 o6 o7:Option AV),(∀ z∈zs,EnX z.1.1 z.1.2 z.2)->K.length<=N->T.length<=N->N+1000 * zs.length<=5000000 ->
  ∃ g' o5' o6' o7',q1y (watch B) all (gN 5) q8g (zs.map fun z=>z.1.1) [x0,x1,some (.int day),some (.ref h.length),some (.ref (h.length+1)),o5,o6,o7] (HF h K T g)=.nx [x0,x1,some (.int day),some (.ref h.length),some (.ref (h.length+1)),o5',o6',o7'] (HF h (fwG day zs (K,T)).1 (fwG day zs (K,T)).2 g')
 | [],K,T,g,N,o5,o6,o7,_,_,_,_=>⟨g,o5,o6,o7,by
  show (if okW _ _ _=true then SRe.nx _ _ else .no)=_
  rw [if_pos (hB _ _ _)];rfl⟩
 | z::zs,K,T,g,N,o5,o6,o7,ho,hK,hT,hN=>by
  rw [List.length_cons] at hN
  have oz:=ho z List.mem_cons_self
  obtain ⟨g1,p6,p7,q⟩:=qnp (h:=h) (g:=g) (day:=day) (x0:=x0) (x1:=x1) (o6:=o6) (o7:=o7) oz (show K.length<=5000000 by omega) (show T.length<=5000000 by omega)
  obtain ⟨l1,l2⟩:=qn5 (day:=day) oz hK hT
  obtain ⟨g2,q5,q6,q7,q2⟩:=qfr (x0:=x0) (x1:=x1) hB zs (fwS day z (K,T)).1 (fwS day z (K,T)).2 g1 (N+1000) (some z.1.1) p6 p7 (fun y hy=>ho y (List.mem_cons_of_mem _ hy)) l1 l2 (by omega)
  refine ⟨g2,q5,q6,q7,?_⟩
  rw [List.map_cons,q1y,if_pos (hB _ _ _)]
  have hg:gN 5 z.1.1 [x0,x1,some (.int day),some (.ref h.length),some (.ref (h.length+1)),o5,o6,o7] (HF h K T g)=.ok [x0,x1,some (.int day),some (.ref h.length),some (.ref (h.length+1)),some z.1.1,o6,o7] (HF h K T g):=rfl
  rw [hg]
  simp only [Re.q2e,q]
  exact q2
theorem qkc {day:Int}:∀ (zs:Bx) (K T:List Str),(∀ z∈zs,EnX z.1.1 z.1.2 z.2)->fK (fwG day zs (K,T)).1=bsts ((zs.map fun z=>z.1.2).filter fun e=>decide (day<=e.day)) (fK K)/\(fwG day zs (K,T)).2=T++q4d ((zs.map fun z=>z.1.2).filter fun e=>decide (day<=e.day)) (fK K)
 | [],K,T,_=>⟨rfl,by simp [fwG,q4d]⟩
 | z::zs,K,T,ho=>by
  have oz:=ho z List.mem_cons_self
  obtain ⟨h1,h2⟩:=qkc zs (fwS day z (K,T)).1 (fwS day z (K,T)).2 fun y hy=>ho y (List.mem_cons_of_mem _ hy)
  show fK (fwG day zs (fwS day z (K,T))).1=_/\(fwG day zs (fwS day z (K,T))).2=_
  rw [List.map_cons]
  by_cases hd:day<=z.1.2.day
  ·have e1:fwS day z (K,T)=(fwdS z.1.2 z.2 K,if z.1.2.cut=true then T++q1f z.1.2 z.2 K else T):=by unfold fwS;rw [if_pos hd]
   rw [e1] at h1 h2
   rw [e1,List.filter_cons_of_pos (by simpa using hd)]
   refine ⟨by rw [h1];dsimp only;rw [qfy oz];rfl,?_⟩
   rw [h2]
   dsimp only
   rw [qfy oz]
   show _=T++(tells z.1.2 (fK K)++q4d _ (bst z.1.2 (fK K)))
   by_cases hc:z.1.2.cut=true
   ·rw [if_pos hc,qim oz hc,List.append_assoc]
   ·rw [if_neg hc]
    unfold tells
    rw [if_neg hc];simp
  ·have e1:fwS day z (K,T)=(K,T):=by unfold fwS;rw [if_neg hd]
   rw [e1] at h1 h2
   rw [e1,List.filter_cons_of_neg (by simpa using hd)]
   exact ⟨h1,h2⟩
theorem qgv {h:AH} {zs:Bx} {B:AV} {bad:Str} {day:Int} (ho:∀ z∈zs,EnX z.1.1 z.1.2 z.2) (hB:IsL h B (zs.map fun z=>z.1.1)) (hl:zs.length<=4900) :
  m_qt [B, .str bad, .int day] h=.ok (.lst (sA (q4d ((zs.map fun z=>z.1.2).filter fun e=>decide (day<=e.day)) fun x=>decide (bad=x)))) h:=by
 have hBx:∀ K T g,IsL (HF h K T g) B (zs.map fun z=>z.1.1):=fun K T g=>hB.app
 obtain ⟨g',o5,o6,o7,q⟩:=qfr (day:=day) (x0:=some B) (x1:=some (.str bad)) (B:=B) (all:=zs.map fun z=>z.1.1) (fun K T g=>qgo (hBx K T g)) zs [bad] [] [] 1 none none none ho (by simp) (by simp) (by omega)
 obtain ⟨e1,e2⟩:=qkc (day:=day) zs [bad] [] ho
 have ef:fK [bad]=fun x=>decide (bad=x):=by funext x;unfold fK;simp [eq_comm]
 rw [ef,List.nil_append] at e2
 generalize hK':(fwG day zs ([bad],[])).1=K' at *
 rw [e2] at q
 generalize q4d ((zs.map fun z=>z.1.2).filter fun e=>decide (day<=e.day)) (fun x=>decide (bad=x))=T' at *
 unfold m_qt
 refine qli (g:=[.dk (kS K') (vS K')] ++ .dead::g') ?_ ?_
 ·unfold b_qt
  change ((sSeq (sAsg (q5u (q3k (aVar 1) (aK (.bl true)) q6k)) (gN 3)) (sSeq (sAsg (q3r aNil) (gN 4)) (sSeq (sFor (iLst (aVar 0)) (gN 5) q8g) (sRet (aFrz (aVar 4)))))) [some B,some (.str bad),some (.int day),none,none,none,none,none] h).out=_
  have s1:sAsg (q5u (q3k (aVar 1) (aK (.bl true)) q6k)) (gN 3) [some B,some (.str bad),some (.int day),none,none,none,none,none] h=.nx [some B,some (.str bad),some (.int day),some (.ref h.length),none,none,none,none] (h++[.dk [.inr bad] [.bl true]]):=by
   simp [dsp,dput]
  have s2:sAsg (q3r aNil) (gN 4) [some B,some (.str bad),some (.int day),some (.ref h.length),none,none,none,none] (h++[.dk [.inr bad] [.bl true]])=.nx [some B,some (.str bad),some (.int day),some (.ref h.length),some (.ref (h.length+1)),none,none,none] (HF h [bad] [] []):=by
   simp [HF,kS,vS,sA]
  have s3:sFor (iLst (aVar 0)) (gN 5) q8g [some B,some (.str bad),some (.int day),some (.ref h.length),some (.ref (h.length+1)),none,none,none] (HF h [bad] [] [])=.nx [some B,some (.str bad),some (.int day),some (.ref h.length),some (.ref (h.length+1)),o5,o6,o7] (HF h K' T' g'):=by
   rw [<- q]
   have:=qgr (hBx [bad] [] [])
   generalize HF h [bad] [] []=H at *
   show Re.to ((aVar 0 [some B,some (.str bad),some (.int day),some (.ref h.length),some (.ref (h.length+1)),none,none,none] H).bind fun x h=>match q4i h x with | some xs=>.ok (xs,watch x) h | none=>.no) _=_
   show Re.to (match q4i H B with | some xs=>.ok (xs,watch B) H | none=>.no) _=_
   rw [this]
   rfl
  rw [q0m s1,q0m s2,q0m s3]
  have ht:=qg1 (h:=h) (K:=K') (T:=T') (g:=g')
  have hs:(HF h K' T' g').set (h.length+1) .dead=h++([.dk (kS K') (vS K')] ++ .dead::g'):=by
   unfold HF;rw [List.set_append_right _ _ (by omega),show h.length+1 - h.length=1 by omega];rfl
  rw [<- hs]
  generalize HF h K' T' g'=H at *
  simp [ht]
 ·unfold closed sA
  have:∀ T:List Str,q27 h.length (T.map AV.str)=true:=fun T=>by
   induction T with
   | nil=>rfl
   | cons x r ih=>simp [q27,closed,ih]
  exact this T'
end KR
namespace KR
open PySem L2 Z PM
theorem q8v {x:Str} {xs:List Str} {y:AV} {h:AH} (hy:q4f h y=some (sA xs)):fIn false (.str x) y h=.ok (.bl (decide (x∈xs))) h:=by
 have fl:=qiw xs
 have i1:=inA_s x xs
 unfold fIn
 rw [hy]
 show (if (q45 (.str x) && (sA xs).all q45)=true then _ else _)=_
 rw [fl,i1];rfl
def isS:AV->Bool
 | .str _=>true
 | _=>false
theorem q55 {h:AH} {d:Int} {k:Str} {r:List AV} {ths:List Str} (h1:k ≠ "batch") (h2:k ≠ "night") (h3:k ≠ "cut") (ha:∀ x∈r.take 3,(∃ s,x=.str s)\/∃ i,x=.int i) (ht:(r.take 3).filter isS=sA ths) (hl:r.length<=1000) :
  m_qa [.tup (.int d::.str k::r)] h=.ok (.lst (sA ths)) h:=by
 have b1:atI (AV.int d::AV.str k::r) 1=some (.str k):=q0w (j:=1) rfl
 have hlen:(AV.int d::AV.str k::r).length=r.length+2:=rfl
 have cu:cutA (AV.int d::AV.str k::r) (some 2) (some 5)=r.take 3:=by
  unfold cutA
  rw [hlen]
  have a:HT.sIx (r.length+2) 0 (some 2)=2:=by rw [show (2:Int)=((2:Nat):Int) from rfl,HT.qbl];omega
  have b:HT.sIx (r.length+2) (r.length+2) (some 5)=min 5 (r.length+2):=by rw [show (5:Int)=((5:Nat):Int) from rfl,HT.qbl]
  rw [a,b]
  show (r.take (min 5 (r.length+2) - 2))=r.take 3
  by_cases hr:r.length<=3
  ·rw [List.take_of_length_le (by omega),List.take_of_length_le hr]
  ·rw [show min 5 (r.length+2) - 2=3 by omega]
 have sx0:¬ HT.sIx (r.length+1+1) 0 (some 2)=0:=by rw [show (2:Int)=((2:Nat):Int) from rfl,HT.qbl];omega
 have k1:=q8r (wt:=none) (all:=r.take 3) (g:=gN 0) (tc:=aB (a1 (fIsi .str) (aVar 0))) (te:=aVar 0) (be:=[none]) (h:=h) (k:=fun x:AV=>x) (f:=fun x:AV=>x) (p:=isS) q0x (r.take 3) [] (fun x hx=>⟨_,rfl,by
  rcases ha x hx with ⟨s,rfl⟩ | ⟨i,rfl⟩ <;> simp [isS,isiB],fun _=>rfl⟩)
 rw [List.nil_append,List.map_id',List.map_id',ht] at k1
 have hsz:(r.take 3).length<=sizeLine:=Nat.le_trans (show _<=1000 by rw [List.length_take];omega) (by decide)
 unfold m_qa b_qa
 generalize r.take 3=R3 at *
 simp [b1,h1,h2,h3,cu,sx0,bEnv,hsz,k1]
theorem qeb {h:AH} {d:Int} {k:Str} {r:List AV} (h1:k ≠ "batch") (h2:k ≠ "wheel") (h3:k ≠ "cut") (h4:k ≠ "wash") (h5:k ≠ "night") (s g:Str):m_qd [.tup (.int d::.str k::r), .str s, .str g] h=.ok (.bl false) h:=by
 have b1:atI (AV.int d::AV.str k::r) 1=some (.str k):=q0w (j:=1) rfl
 unfold m_qd b_qd
 by_cases e:s=g
 ·simp [e]
 ·simp [e,b1,h1,h2,h3,h4,h5]
theorem qcj (d:Int) (b:Option Str) (s g:Str):tchE ⟨d,b,[],[],false⟩ s g=false:=by unfold tchE;simp
theorem qfv {d:Int} {k:Str} {r:List AV} {ths:List Str} (h1:k ≠ "batch") (h2:k ≠ "wheel") (h3:k ≠ "cut") (h4:k ≠ "wash") (h5:k ≠ "night") (h6:k ≠ "boil") (ha:∀ x∈r.take 3,(∃ s,x=.str s)\/∃ i,x=.int i) (ht:(r.take 3).filter isS=sA ths) (hl:r.length<=1000) :
  EnX (.tup (.int d::.str k::r)) ⟨d,none,[],[],false⟩ ths:=
 {KR.qla h1 h2 h3 h4 h5 h6 with
  things:=fun h=>q55 h1 h5 h3 ha ht hl
  tch:=fun s g h=>by rw [qeb h1 h2 h3 h4 h5,qcj]
  goal1:=fun _ h=>nomatch h
  goal2:=fun _ h=>nomatch h
  bo:=fun _=>⟨rfl,rfl⟩
  ctd:=fun h=>nomatch h
  tsz:=by
   have:=congrArg List.length ht
   have h2:=List.length_filter_le isS (r.take 3)
   unfold sA at this
   rw [List.length_map] at this
   rw [List.length_take] at h2
   omega}
theorem boil_x {d:Int} {x:Str}:EnX (.tup [.int d, .str "boil", .str x]) ⟨d,some x,[],[],false⟩ [x]:=
 {KR.qn4 with
  things:=fun h=>q55 (by decide +kernel) (by decide +kernel) (by decide +kernel) (by simp) rfl (by simp)
  tch:=fun s g h=>by rw [qeb (by decide +kernel) (by decide +kernel) (by decide +kernel) (by decide +kernel) (by decide +kernel),qcj]
  goal1:=fun _ h=>nomatch h
  goal2:=fun _ h=>nomatch h
  bo:=fun _=>⟨rfl,rfl⟩
  ctd:=fun h=>nomatch h
  tsz:=by simp}
theorem qnn {d:Int} {nm b so sh:Str} {gr:Int} (hn:nm≠b):EnX (.tup [.int d, .str "wheel", .str nm, .str b, .str so, .str sh, .int gr]) ⟨d,none,[(b,nm)],[],false⟩ [nm,b,so]:=
 {KR.qm3 hn with
  things:=fun h=>q55 (by decide +kernel) (by decide +kernel) (by decide +kernel) (by simp) rfl (by simp)
  tch:=fun s g h=>by
   have b1:atI [AV.int d,AV.str "wheel", .str nm, .str b, .str so, .str sh, .int gr] 1=some (.str "wheel"):=rfl
   have b2:atI [AV.int d,AV.str "wheel", .str nm, .str b, .str so, .str sh, .int gr] 2=some (.str nm):=rfl
   have b3:atI [AV.int d,AV.str "wheel", .str nm, .str b, .str so, .str sh, .int gr] 3=some (.str b):=rfl
   have hne:("wheel" : Str) ≠ "batch":=by decide +kernel
   unfold m_qd b_qd tchE
   by_cases e:s=g
   ·simp [e]
   ·by_cases e1:s=b
    ·by_cases e2:g=nm
     ·subst e1;subst e2;simp [e,b1,b2,b3,hne]
     ·subst e1;simp [e,e2,Ne.symm e2,b1,b2,b3,hne]
    ·simp [e,e1,Ne.symm e1,b1,b2,b3,hne]
  goal1:=fun p hp=>by
   have:p=(b,nm):=by simpa using hp
   subst this;simp
  goal2:=fun _ h=>nomatch h
  bo:=fun h=>absurd rfl h
  ctd:=fun h=>nomatch h
  tsz:=by simp}
theorem wash_x {d:Int} {w b c:Str}:EnX (.tup [.int d, .str "wash", .str w, .str b, .str c]) ⟨d,none,[],[[w,b,c]],false⟩ [w,b,c]:=
 {KR.qmk with
  things:=fun h=>q55 (by decide +kernel) (by decide +kernel) (by decide +kernel) (by simp) rfl (by simp)
  tch:=fun s g h=>by
   have b1:atI [AV.int d,AV.str "wash", .str w, .str b, .str c] 1=some (.str "wash"):=rfl
   have n1:("wash" : Str) ≠ "batch":=by decide +kernel
   have n2:("wash" : Str) ≠ "wheel":=by decide +kernel
   have sx0:HT.sIx 5 0 (some 2)=2:=rfl
   have sx5:HT.sIx 5 5 none=5:=rfl
   have cu:cutA [AV.int d,AV.str "wash", .str w, .str b, .str c] (some 2) none=sA [w,b,c]:=rfl
   have f1:fIn false (.str s) (.tup (sA [w,b,c])) h=.ok (.bl (decide (s∈[w,b,c]))) h:=q8v rfl
   have f2:fIn false (.str g) (.tup (sA [w,b,c])) h=.ok (.bl (decide (g∈[w,b,c]))) h:=q8v rfl
   unfold m_qd b_qd tchE
   simp only [List.any_nil,List.any_cons,Bool.false_or,Bool.or_false]
   generalize sA [w,b,c]=S at *
   generalize decide (s∈[w,b,c])=S1 at *
   generalize decide (g∈[w,b,c])=S2 at *
   by_cases e:s=g
   ·simp [e]
   ·cases S1 <;> simp [-fIn,e,b1,n1,n2,cu,sx0,sx5,f1,f2]
  goal1:=fun _ h=>nomatch h
  goal2:=fun q hq x hx=>by
   have:q=[w,b,c]:=by simpa using hq
   subst this;exact hx
  bo:=fun h=>absurd rfl h
  ctd:=fun h=>nomatch h
  tsz:=by simp}
theorem qmv {d:Int} {nm:Str} {ps:List (Str×Int)} (hl:ps.length<=50) (hn:∀ z∈ps,z.1≠nm):EnX (.tup [.int d, .str "batch", .str nm, .tup (ps.map pt)]) ⟨d,none,(srtS (metK (ps.map (·.1)))).map fun f=>(f,nm),[],false⟩ (ps.map (·.1)++[nm]):=
 {KR.qku hl hn with
  things:=fun h=>by
   have b1:atI [AV.int d,AV.str "batch", .str nm, .tup (ps.map pt)] 1=some (.str "batch"):=rfl
   have b2:atI [AV.int d,AV.str "batch", .str nm, .tup (ps.map pt)] 2=some (.str nm):=rfl
   have b3:atI [AV.int d,AV.str "batch", .str nm, .tup (ps.map pt)] 3=some (.tup (ps.map pt)):=rfl
   have k1:=q2w (wt:=none) (all:=ps.map pt) (g:=gN 0) (te:=a2 fIx (aVar 0) (aK (.int 0))) (be:=[none]) (h:=h) (k:=pt) (f:=fun z=>AV.str z.1) q0x ps [] (fun z _=>⟨_,rfl,by
    have:atI [AV.str z.1, .int z.2] 0=some (.str z.1):=rfl
    simp [pt,this]⟩)
   have hm:(ps.map fun z=>AV.str z.1)=sA (ps.map (·.1)):=by unfold sA;rw [List.map_map];rfl
   rw [List.nil_append,hm] at k1
   have hsz:(ps.map pt).length<=sizeLine:=by rw [List.length_map];exact Nat.le_trans hl (by decide)
   have hs2:(sA (ps.map (·.1))).length+1<=sizeLine:=by unfold sA;rw [List.length_map,List.length_map];exact Nat.le_trans (show _<=51 by omega) (by decide)
   have e:sA (ps.map (·.1)++[nm])=sA (ps.map (·.1))++[.str nm]:=by unfold sA;simp
   rw [e]
   unfold m_qa b_qa
   generalize sA (ps.map (·.1))=S at *
   generalize ps.map pt=PT at *
   simp [b1,b2,b3,bEnv,hsz,k1,hs2]
  tch:=fun s g h=>by
   have b1:atI [AV.int d,AV.str "batch", .str nm, .tup (ps.map pt)] 1=some (.str "batch"):=rfl
   have b2:atI [AV.int d,AV.str "batch", .str nm, .tup (ps.map pt)] 2=some (.str nm):=rfl
   have b3:atI [AV.int d,AV.str "batch", .str nm, .tup (ps.map pt)] 3=some (.tup (ps.map pt)):=rfl
   have k1:=q2w (wt:=none) (all:=ps.map pt) (g:=gN 0) (te:=a2 fIx (aVar 0) (aK (.int 0))) (be:=[none]) (h:=h) (k:=pt) (f:=fun z=>AV.str z.1) q0x ps [] (fun z _=>⟨_,rfl,by
    have:atI [AV.str z.1, .int z.2] 0=some (.str z.1):=rfl
    simp [pt,this]⟩)
   have hm:(ps.map fun z=>AV.str z.1)=sA (ps.map (·.1)):=by unfold sA;rw [List.map_map];rfl
   rw [List.nil_append,hm] at k1
   have hsz:(ps.map pt).length<=sizeLine:=by rw [List.length_map];exact Nat.le_trans hl (by decide)
   have f1:fIn false (.str s) (.lst (sA (ps.map (·.1)))) h=.ok (.bl (decide (s∈ps.map (·.1)))) h:=q8v rfl
   have hE:tchE ⟨d,none,(srtS (metK (ps.map (·.1)))).map fun f=>(f,nm),[],false⟩ s g=(!decide (s=g) && (decide (g=nm) && decide (s∈ps.map (·.1)))):=by
    unfold tchE
    rw [Bool.eq_iff_iff]
    simp only [List.any_nil,Bool.or_false,Bool.and_eq_true,Bool.not_eq_true',decide_eq_false_iff_not,List.any_eq_true,decide_eq_true_eq]
    constructor
    ·rintro ⟨h1,p,hp,rfl,rfl⟩
     obtain ⟨f,hf,rfl⟩:=List.mem_map.mp hp
     exact ⟨h1,rfl,qb8 hf⟩
    ·rintro ⟨h1,rfl,hs⟩
     refine ⟨h1,(s,g),List.mem_map.mpr ⟨s,(q4a _).mem_iff.mpr ?_,rfl⟩,rfl,rfl⟩
     exact (qex (ps.map (·.1)) [] s).mpr (.inr hs)
   rw [hE]
   unfold m_qd b_qd
   generalize decide (s∈ps.map (·.1))=S1 at *
   generalize sA (ps.map (·.1))=S at *
   generalize ps.map pt=PT at *
   by_cases e:s=g
   ·simp [e]
   ·by_cases e2:g=nm
    ·subst e2;simp [-fIn,e,b1,b2,b3,bEnv,hsz,k1,f1]
    ·simp [-fIn,e,e2,b1,b2,b3]
  goal1:=fun p hp=>by
   obtain ⟨f,_,rfl⟩:=List.mem_map.mp hp
   simp
  goal2:=fun _ h=>nomatch h
  bo:=fun h=>absurd rfl h
  ctd:=fun h=>nomatch h
  tsz:=by simp;omega}
end KR
namespace KR
open PySem L2 Z PM
theorem cut_x {d:Int} {w:Str} {ps r:List AV} (hp:ps.length<=900) (hl:∀ j<ps.length,(Str.empty++w:Str).length<=sizeLine/\(Str.empty++w++("/" : Str):Str).length<=sizeLine/\(wdN w j).length<=sizeLine) (hn:∀ j<ps.length,wdN w j≠w) :
  EnX (.tup (.int d::.str "cut" :: .str w::.tup ps::r)) ⟨d,none,(List.range ps.length).map fun j=>(w,wdN w j),[],true⟩ (w::(List.range ps.length).map (wdN w)):=
 have hth:∀ h,m_qa [.tup (.int d::.str "cut" :: .str w::.tup ps::r)] h=.ok (.lst (sA (w::(List.range ps.length).map (wdN w)))) h:=fun h=>by
  have e1:atI (AV.int d::AV.str "cut" :: .str w::.tup ps::r) 1=some (.str "cut"):=q0w (j:=1) rfl
  have e2:atI (AV.int d::AV.str "cut" :: .str w::.tup ps::r) 2=some (.str w):=q0w (j:=2) rfl
  have e3:atI (AV.int d::AV.str "cut" :: .str w::.tup ps::r) 3=some (.tup ps):=q0w (j:=3) rfl
  have n1:("cut" : Str) ≠ "batch":=by decide +kernel
  have n4:("cut" : Str) ≠ "night":=by decide +kernel
  have k1:=q2w (wt:=none) (all:=(List.range ps.length).map fun i:Nat=>AV.int (i:Int)) (g:=gN 0) (te:=a2 q2f (a2 q2f (a2 fIx (aVar 1) (aK (.int 2))) (aK (.str "/"))) (aC q3n (q02 (a2 fAdd (aVar 0) (aK (.int 1))) aNil))) (be:=[none,some (.tup (.int d::.str "cut" :: .str w::.tup ps::r))]) (h:=h) (k:=fun i:Nat=>AV.int (i:Int)) (f:=fun j=>AV.str (wdN w j)) q0x (List.range ps.length) [] (fun j hj=>by
   have hj:j<ps.length:=List.mem_range.mp hj
   obtain ⟨l1,l2,l3⟩:=hl j hj
   rw [empty_app] at l1 l2
   have hlg:=lt_int hj (show ps.length<=1000 by omega)
   rw [Int.add_comm] at hlg
   rw [qae] at l3 ⊢
   rw [q1e] at l2 l3
   rw [q1e] at l3
   have l3':w.length+("/" : Str).length+(Str.ofString (Int.repr ((j:Int)+1))).length<=sizeLine:=l3
   have l4:(w++("/" : Str):Str).length=w.length+("/" : Str).length:=q1e _ _
   exact ⟨_,rfl,by simp [e2,hlg,l2,l3',l4]⟩)
  rw [List.nil_append] at k1
  have hsz:((List.range ps.length).map fun i:Nat=>AV.int (i:Int)).length<=sizeLine:=by rw [List.length_map,List.length_range];exact Nat.le_trans hp (by decide)
  have hs2:1+((List.range ps.length).map fun j=>AV.str (wdN w j)).length<=sizeLine:=by rw [List.length_map,List.length_range];exact Nat.le_trans (show _<=1000 by omega) (by decide)
  have hr:rng1 (.int (ps.length:Int)) h=.ok ((List.range ps.length).map (fun i:Nat=>AV.int (i:Int)),none) h:=by
   rw [q5g (by omega),qd0]
  have eS:sA (w::(List.range ps.length).map (wdN w))=[AV.str w]++(List.range ps.length).map fun j=>AV.str (wdN w j):=by unfold sA;rw [List.map_cons,List.map_map];rfl
  rw [eS]
  generalize (List.range ps.length).map (fun j=>AV.str (wdN w j))=W at *
  generalize (List.range ps.length).map (fun i:Nat=>AV.int (i:Int))=R at *
  unfold m_qa b_qa
  simp [e1,e2,e3,n1,n4,hr,bEnv,hsz,k1,hs2]
 {KR.cut_ok hp hl hn with
  things:=hth
  tch:=fun s g h=>by
   have e1:atI (AV.int d::AV.str "cut" :: .str w::.tup ps::r) 1=some (.str "cut"):=q0w (j:=1) rfl
   have e2:atI (AV.int d::AV.str "cut" :: .str w::.tup ps::r) 2=some (.str w):=q0w (j:=2) rfl
   have n1:("cut" : Str) ≠ "batch":=by decide +kernel
   have n2:("cut" : Str) ≠ "wheel":=by decide +kernel
   have n3:("cut" : Str) ≠ "wash":=by decide +kernel
   have f1:fIn false (.str g) (.lst (sA (w::(List.range ps.length).map (wdN w)))) h=.ok (.bl (decide (g∈w::(List.range ps.length).map (wdN w)))) h:=q8v rfl
   have hth':=hth h
   have hE:tchE ⟨d,none,(List.range ps.length).map fun j=>(w,wdN w j),[],true⟩ s g=(!decide (s=g) && (decide (s=w) && decide (g∈w::(List.range ps.length).map (wdN w)))):=by
    unfold tchE
    rw [Bool.eq_iff_iff]
    simp only [List.any_nil,Bool.or_false,Bool.and_eq_true,Bool.not_eq_true',decide_eq_false_iff_not,List.any_eq_true,decide_eq_true_eq]
    constructor
    ·rintro ⟨h1,p,hp,rfl,rfl⟩
     obtain ⟨j,hj,rfl⟩:=List.mem_map.mp hp
     exact ⟨h1,rfl,List.mem_cons_of_mem _ (List.mem_map.mpr ⟨j,hj,rfl⟩)⟩
    ·rintro ⟨h1,rfl,hg⟩
     rcases List.mem_cons.mp hg with rfl | hg
     ·exact absurd rfl h1
     ·obtain ⟨j,hj,rfl⟩:=List.mem_map.mp hg
      exact ⟨h1,(s,wdN s j),List.mem_map.mpr ⟨j,hj,rfl⟩,rfl,rfl⟩
   rw [hE]
   unfold m_qd b_qd
   generalize decide (g∈w::(List.range ps.length).map (wdN w))=S1 at *
   generalize sA (w::(List.range ps.length).map (wdN w))=S at *
   by_cases e:s=g
   ·simp [e]
   ·by_cases e3:s=w
    ·subst e3;simp [-fIn,e,e1,e2,n1,n2,n3,hth',f1]
    ·simp [-fIn,e,e1,e2,e3,n1,n2,n3]
  goal1:=fun p hp' => by
   obtain ⟨j,hj,rfl⟩:=List.mem_map.mp hp'
   exact List.mem_cons_of_mem _ (List.mem_map.mpr ⟨j,hj,rfl⟩)
  goal2:=fun _ h=>nomatch h
  bo:=fun h=>absurd rfl h
  ctd:=fun _=>⟨w,(List.range ps.length).map (wdN w),rfl,fun hm=>by
   obtain ⟨j,hj,e⟩:=List.mem_map.mp hm
   exact hn j (List.mem_range.mp hj) e,by rw [List.map_map];rfl,rfl,rfl⟩
  tsz:=by simp;omega}
theorem qbm {s w:Str} {p:Nat}:∀ {L:List (Str×List Str×Nat)},(∃ z∈addG L s w p,z.1=s/\w∈z.2.1)/\∀ t x,(∃ z∈L,z.1=t/\x∈z.2.1)->∃ z∈addG L s w p,z.1=t/\x∈z.2.1
 | []=>⟨⟨(s,[w],p),by simp [addG],rfl,by simp⟩,fun t x ⟨z,hz,_⟩=>nomatch hz⟩
 | y::r=>by
  obtain ⟨ih1,ih2⟩:=qbm (s:=s) (w:=w) (p:=p) (L:=r)
  unfold addG
  split
  ·rename_i e
   refine ⟨⟨_,List.mem_cons_self,e,by simp⟩,fun t x ⟨z,hz,h1,h2⟩=>?_⟩
   rcases List.mem_cons.mp hz with rfl | hz
   ·exact ⟨_,List.mem_cons_self,h1,List.mem_append_left _ h2⟩
   ·exact ⟨z,List.mem_cons_of_mem _ hz,h1,h2⟩
  ·refine ⟨?_,fun t x ⟨z,hz,h1,h2⟩=>?_⟩
   ·obtain ⟨z,hz,h⟩:=ih1
    exact ⟨z,List.mem_cons_of_mem _ hz,h⟩
   ·rcases List.mem_cons.mp hz with rfl | hz
    ·exact ⟨_,List.mem_cons_self,h1,h2⟩
    ·obtain ⟨z',hz',h⟩:=ih2 t x ⟨z,hz,h1,h2⟩
     exact ⟨z',List.mem_cons_of_mem _ hz',h⟩
theorem qe6 {t x:Str}:∀ (r:List Row) (p:Nat) (L:List (Str×List Str×Nat)),(∃ z∈L,z.1=t/\x∈z.2.1)->∃ z∈grpG p r L,z.1=t/\x∈z.2.1
 | [],_,_,h=>h
 | y::r,p,L,h=>qe6 r (p+1) _ (qbm.2 t x h)
theorem qbk:∀ (r:List Row) (p:Nat) (L:List (Str×List Str×Nat)), ∀ y∈r, ∃ z∈grpG p r L,z.1=y.2.2.1/\y.1∈z.2.1
 | [],_,_,y,h=>nomatch h
 | q::r,p,L,y,h=>by
  rcases List.mem_cons.mp h with rfl | h
  ·exact qe6 r (p+1) _ qbm.1
  ·exact qbk r (p+1) _ y h
def shf (rows:List Row) (x:Str):Str:=match rows.find? fun r=>decide (r.1=x) || decide (r.2.2.1=x) with
 | some r=>r.2.2.1
 | none => ""
theorem q9g {rows:List Row} (o:q65 rows) {x:Str} {z:Str×List Str×Nat} (hz:z∈grpG 0 rows []) (hx:x∈z.1::z.2.1):shf rows x=z.1:=by
 have hin:=q69 (rows:=rows) (r:=rows) (p:=0) (L:=[]) (fun _ h=>h) (fun _ h=>nomatch h) z hz
 unfold shf
 cases e:rows.find? fun r=>decide (r.1=x) || decide (r.2.2.1=x) with
 | none =>
  have hn:=List.find?_eq_none.mp e
  rcases List.mem_cons.mp hx with rfl | hx
  ·obtain ⟨r,hr,e'⟩:=hin.1
   exact absurd (by simp [e']) (hn r hr)
  ·obtain ⟨r,hr,e',_⟩:=hin.2 x hx
   exact absurd (by simp [e']) (hn r hr)
 | some q =>
  have hq:=List.mem_of_find?_eq_some e
  have hp:=List.find?_some e
  have hp:q.1=x\/q.2.2.1=x:=by simpa using hp
  show q.2.2.1=z.1
  rcases List.mem_cons.mp hx with rfl | hx
  ·obtain ⟨r,hr,e'⟩:=hin.1
   rcases hp with hp | hp
   ·exact absurd (hp.trans e'.symm) (o.unlike q hq r hr)
   ·exact hp
  ·obtain ⟨r,hr,e1,e2⟩:=hin.2 x hx
   rcases hp with hp | hp
   ·rw [<- e2];exact o.one q hq r hr (hp.trans e1.symm)
   ·exact absurd (e1.trans hp.symm) (o.unlike r hr q hq)
theorem qir {rows:List Row} {x:Str} (h:shf rows x ≠ ""):∃ z∈grpG 0 rows [],z.1=shf rows x/\x∈z.1::z.2.1:=by
 unfold shf at h ⊢
 cases e:rows.find? fun r=>decide (r.1=x) || decide (r.2.2.1=x) with
 | none=>rw [e] at h;exact absurd rfl h
 | some q =>
  have hq:=List.mem_of_find?_eq_some e
  have hp:=List.find?_some e
  have hp:q.1=x\/q.2.2.1=x:=by simpa using hp
  obtain ⟨z,hz,h1,h2⟩:=qbk rows 0 [] q hq
  refine ⟨z,hz,h1,?_⟩
  rcases hp with hp | hp
  ·exact List.mem_cons_of_mem _ (hp ▸ h2)
  ·rw [<- hp, <- h1];exact List.mem_cons_self
theorem qhf {h:AH} {d:AV} {rows:List Row} {x:Str} (h1:∀ r∈rows, ¬ r.1=x/\¬ r.2.2.1=x):m_qj [.tup [d, .str "night", .tup (rows.map rwA)], .str x] h=.ok (.str "") h:=by
 have e2:atI [d,AV.str "night", .tup (rows.map rwA)] 2=some (.tup (rows.map rwA)):=rfl
 obtain ⟨env',h',key,hP⟩:=q62 (wt:=none) (all:=rows.map rwA) (g:=gN 2) (body:=sIf (aOr (aB (a2 fEq (aVar 1) (a2 fIx (aVar 2) (aK (.int 0))))) (aB (a2 fEq (aVar 1) (a2 fIx (aVar 2) (aK (.int 2)))))) (sRet (a2 fIx (aVar 2) (aK (.int 2)))) q10) (k:=rwA) (P:=fun _ env H=>(∃ o,env=[some (.tup [d, .str "night", .tup (rows.map rwA)]),some (.str x),o])/\H=h) (fun _ _ _ _=>q0x) rows 0 [some (.tup [d, .str "night", .tup (rows.map rwA)]),some (.str x),none] h ⟨⟨_,rfl⟩,rfl⟩ (fun j r hr env H hp=>by
  obtain ⟨⟨o,rfl⟩,rfl⟩:=hp
  have i0:∀ (a b c:Str) (n:Int),atI [AV.str a, .str b, .str c, .int n] 0=some (.str a):=fun _ _ _ _=>rfl
  have i2:∀ (a b c:Str) (n:Int),atI [AV.str a, .str b, .str c, .int n] 2=some (.str c):=fun _ _ _ _=>rfl
  obtain ⟨n1,n2⟩:=h1 r (List.mem_of_getElem? hr)
  refine ⟨_,_,[some (.tup [d, .str "night", .tup (rows.map rwA)]),some (.str x),some (rwA r)],H,rfl, .inl ?_,⟨some (rwA r),rfl⟩,rfl⟩
  simp [rwA,i0,i2,Ne.symm n1,Ne.symm n2])
 obtain ⟨⟨o,rfl⟩,rfl⟩:=hP
 unfold m_qj b_qj
 generalize rows.map rwA=RW at *
 simp [e2,key]
theorem qcp {h:AH} {d:AV} {rows:List Row} (o:q65 rows) (x:Str):m_qj [.tup [d, .str "night", .tup (rows.map rwA)], .str x] h=.ok (.str (shf rows x)) h:=by
 cases e:rows.find? fun r=>decide (r.1=x) || decide (r.2.2.1=x) with
 | none =>
  have hn:=List.find?_eq_none.mp e
  have:shf rows x = "":=by unfold shf;rw [e]
  rw [this]
  exact qhf fun r hr=>by have:=hn r hr;simpa using this
 | some q =>
  have hq:=List.mem_of_find?_eq_some e
  have hp:=List.find?_some e
  have hp:q.1=x\/q.2.2.1=x:=by simpa using hp
  have es:shf rows x=q.2.2.1:=by unfold shf;rw [e]
  rw [es]
  refine q6t ⟨q,hq,hp⟩ fun r hr hx=>?_
  rcases hp with hp | hp <;> rcases hx with hx | hx
  ·exact o.one r hr q hq (hx.trans hp.symm)
  ·exact absurd (hp.trans hx.symm) (o.unlike q hq r hr)
  ·exact absurd (hx.trans hp.symm) (o.unlike r hr q hq)
  ·exact hx.trans hp.symm
theorem qlp {d:Int} {rows:List Row} (hl:rows.length<=450) (o:q65 rows):EnX (.tup [.int d, .str "night", .tup (rows.map rwA)]) ⟨d,none,[],(grpG 0 rows []).map fun z=>z.1::z.2.1,false⟩ (rows.map (·.1)++rows.map (·.2.2.1)):=
 {KR.qm8 hl o with
  things:=fun h=>by
   have b1:atI [AV.int d,AV.str "night", .tup (rows.map rwA)] 1=some (.str "night"):=rfl
   have b2:atI [AV.int d,AV.str "night", .tup (rows.map rwA)] 2=some (.tup (rows.map rwA)):=rfl
   have n1:("night" : Str) ≠ "batch":=by decide +kernel
   have i0:∀ (a b c:Str) (n:Int),atI [AV.str a, .str b, .str c, .int n] 0=some (.str a):=fun _ _ _ _=>rfl
   have i2:∀ (a b c:Str) (n:Int),atI [AV.str a, .str b, .str c, .int n] 2=some (.str c):=fun _ _ _ _=>rfl
   have k1:=q2w (wt:=none) (all:=rows.map rwA) (g:=gN 0) (te:=a2 fIx (aVar 0) (aK (.int 0))) (be:=[none]) (h:=h) (k:=rwA) (f:=fun z=>AV.str z.1) q0x rows [] (fun z _=>⟨_,rfl,by simp [rwA,i0]⟩)
   have k2:=q2w (wt:=none) (all:=rows.map rwA) (g:=gN 0) (te:=a2 fIx (aVar 0) (aK (.int 2))) (be:=[none]) (h:=h) (k:=rwA) (f:=fun z=>AV.str z.2.2.1) q0x rows [] (fun z _=>⟨_,rfl,by simp [rwA,i2]⟩)
   rw [List.nil_append] at k1 k2
   have hsz:(rows.map rwA).length<=sizeLine:=by rw [List.length_map];exact Nat.le_trans hl (by decide)
   have hs2:(rows.map fun z=>AV.str z.1).length+(rows.map fun z=>AV.str z.2.2.1).length<=sizeLine:=by rw [List.length_map,List.length_map];exact Nat.le_trans (show _<=900 by omega) (by decide)
   have e:sA (rows.map (·.1)++rows.map (·.2.2.1))=(rows.map fun z=>AV.str z.1)++rows.map fun z=>AV.str z.2.2.1:=by unfold sA;rw [List.map_append,List.map_map,List.map_map];rfl
   rw [e]
   unfold m_qa b_qa
   generalize (rows.map fun z:Row=>AV.str z.1)=S1 at *
   generalize (rows.map fun z:Row=>AV.str z.2.2.1)=S2 at *
   generalize rows.map rwA=PT at *
   simp [b1,b2,n1,bEnv,hsz,k1,k2,hs2]
  tch:=fun s g h=>by
   have k1:=qcp (h:=h) (d:=.int d) o s
   have k2:=qcp (h:=h) (d:=.int d) o g
   have hE:tchE ⟨d,none,[],(grpG 0 rows []).map fun z=>z.1::z.2.1,false⟩ s g=(!decide (s=g) && (!decide (shf rows s = "") && decide (shf rows s=shf rows g))):=by
    unfold tchE
    rw [Bool.eq_iff_iff]
    simp only [List.any_nil,Bool.false_or,Bool.and_eq_true,Bool.not_eq_true',decide_eq_false_iff_not,List.any_eq_true,decide_eq_true_eq,List.mem_map]
    constructor
    ·rintro ⟨h1,c,⟨z,hz,rfl⟩,hs,hg⟩
     have e1:=q9g o hz hs
     have e2:=q9g o hz hg
     obtain ⟨r,hr,e⟩:=(q69 (rows:=rows) (r:=rows) (p:=0) (L:=[]) (fun _ h=>h) (fun _ h=>nomatch h) z hz).1
     exact ⟨h1,by rw [e1, <- e];exact o.some r hr,by rw [e1,e2]⟩
    ·rintro ⟨h1,h2,h3⟩
     obtain ⟨z,hz,e1,m1⟩:=qir h2
     obtain ⟨y,hy,e2,m2⟩:=qir (x:=g) (by rw [<- h3];exact h2)
     refine ⟨h1,z.1::z.2.1,⟨z,hz,rfl⟩,m1,?_⟩
     have ez:shf rows z.1=z.1:=q9g o hz List.mem_cons_self
     rcases List.mem_cons.mp m2 with m2 | m2
     ·rw [m2,e2, <- h3, <- e1];exact List.mem_cons_self
     ·obtain ⟨r,hr,q1,q2⟩:=(q69 (rows:=rows) (r:=rows) (p:=0) (L:=[]) (fun _ h=>h) (fun _ h=>nomatch h) y hy).2 g m2
      obtain ⟨v,hv,w1,w2⟩:=qbk rows 0 [] r hr
      have:∀ (r:List Row) (p:Nat) (L:List (Str×List Str×Nat)),(L.map (·.1)).Nodup->((grpG p r L).map (·.1)).Nodup:=by
       intro r
       induction r with
       | nil=>exact fun _ _ h=>h
       | cons q r ih =>
        intro p L hL
        refine ih (p+1) _ ?_
        by_cases hn:∀ z∈L,z.1≠q.2.2.1
        ·rw [q47 hn,List.map_append,List.nodup_append]
         refine ⟨hL,by simp,fun a ha b hb=>?_⟩
         obtain ⟨z,hz,rfl⟩:=List.mem_map.mp ha
         have:b=q.2.2.1:=by simpa using hb
         rw [this];exact hn z hz
        ·have hn':∃ z∈L,z.1=q.2.2.1:=by
          obtain ⟨z,hz⟩:=Classical.not_forall.mp hn
          have:=Classical.not_imp.mp hz
          exact ⟨z,this.1,Classical.not_not.mp this.2⟩
         obtain ⟨A,ws,i,B,rfl,_,eAdd⟩:=q83 (w:=q.1) (p:=p) hn'
         rw [eAdd]
         simpa using hL
      have nd:=this rows 0 [] List.nodup_nil
      have same:z=v:=by
       have e3:z.1=v.1:=by rw [e1,w1,q2,e2,h3]
       have:∀ (L:List (Str×List Str×Nat)),(L.map (·.1)).Nodup->z∈L->v∈L->z=v:=by
        intro L
        induction L with
        | nil=>intro _ h;exact nomatch h
        | cons y L ih =>
         intro hn h1 h2
         rw [List.map_cons,List.nodup_cons] at hn
         rcases List.mem_cons.mp h1 with a | a <;> rcases List.mem_cons.mp h2 with b | b
         ·rw [a,b]
         ·exact absurd (List.mem_map.mpr ⟨v,b,by rw [<- e3,a]⟩) hn.1
         ·exact absurd (List.mem_map.mpr ⟨z,a,by rw [e3,b]⟩) hn.1
         ·exact ih hn.2 a b
       exact this _ nd hz hv
      rw [same, <- q1]
      exact List.mem_cons_of_mem _ w2
   rw [hE]
   have b1:atI [AV.int d,AV.str "night", .tup (rows.map rwA)] 1=some (.str "night"):=rfl
   have n1:("night" : Str) ≠ "batch":=by decide +kernel
   have n2:("night" : Str) ≠ "wheel":=by decide +kernel
   have n3:("night" : Str) ≠ "wash":=by decide +kernel
   have n4:("night" : Str) ≠ "cut":=by decide +kernel
   unfold m_qd b_qd
   generalize rows.map rwA=RW at *
   generalize shf rows s=A at *
   generalize shf rows g=B at *
   by_cases e:s=g
   ·simp [e]
   ·by_cases e2:A = ""
    ·simp [b1,n1,n2,n3,n4,e,k1,k2,e2]
    ·simp [b1,n1,n2,n3,n4,e,k1,k2,e2]
  goal1:=fun _ h=>nomatch h
  goal2:=fun c hc x hx=>by
   obtain ⟨z,hz,rfl⟩:=List.mem_map.mp hc
   have hin:=q69 (rows:=rows) (r:=rows) (p:=0) (L:=[]) (fun _ h=>h) (fun _ h=>nomatch h) z hz
   rcases List.mem_cons.mp hx with rfl | hx
   ·obtain ⟨r,hr,e⟩:=hin.1
    exact List.mem_append_right _ (List.mem_map.mpr ⟨r,hr,e⟩)
   ·obtain ⟨r,hr,e,_⟩:=hin.2 x hx
    exact List.mem_append_left _ (List.mem_map.mpr ⟨r,hr,e⟩)
  bo:=fun h=>absurd rfl h
  ctd:=fun h=>nomatch h
  tsz:=by simp;omega}
end KR
namespace NMS
open PySem L2 Z PM
def abc:Str:="abcdefghijk"
def bN (ns:List Int) (m:Str):Nat:=min (cz ns 0 % 12).toNat (12 - m.length)
def bS (b:Nat):Str:=Txt.slice abc none (some (b:Int))
def sN (ns:List Int) (b:Nat):Nat:=(cz ns 1 % (((bS b).length:Int)+1)).toNat
def nmP (b s:Nat) (m:Str):Str:=Txt.slice (bS b) none (some (s:Int))++m++Txt.slice (bS b) (some (s:Int)) none
def nmOf (ns:List Int) (m:Str):Str:=nmP (bN ns m) (sN ns (bN ns m)) m
theorem qil:∀ b<12,(bS b).length=b:=by decide +kernel
theorem q6z (x y:Str):(x++y).cps.toList=x.cps.toList++y.cps.toList:=Array.toList_append ..
theorem qhu (ns:List Int) (m:Str):bN ns m<12:=by
 unfold bN
 have:=Int.emod_lt_of_pos (cz ns 0) (show (0:Int)<12 by decide)
 have:=Int.emod_nonneg (cz ns 0) (show (12:Int)≠0 by decide)
 omega
theorem qhm (ns:List Int) {b:Nat} (hb:b<12):sN ns b<=b:=by
 unfold sN
 rw [qil b hb]
 have:=Int.emod_lt_of_pos (cz ns 1) (show (0:Int)<(b:Int)+1 by omega)
 have:=Int.emod_nonneg (cz ns 1) (show ((b:Int)+1)≠0 by omega)
 omega
theorem q5m (ns:List Int) {m:Str} (h:AH) (hm:m.length<=12):m_qi [.kst (ns.map AV.int), .str m] h=.ok (.str (nmOf ns m)) h:=by
 have a0:=qa8 ns 0 h
 have a1:=qa8 ns 1 h
 have e0:=Int.emod_nonneg (cz ns 0) (show (12:Int)≠0 by decide)
 have e1:(if (12 - (m.length:Int))<cz ns 0 % 12 then (12 - (m.length:Int)) else cz ns 0 % 12)=((bN ns m:Nat):Int):=by
  unfold bN
  split <;> omega
 have hb:=qhu ns m
 have l0:=qil _ hb
 have hz:(1000:Nat)<=sizeLine:=by decide
 have e2:=Int.emod_nonneg (cz ns 1) (show (((bS (bN ns m)).length:Int)+1)≠0 by omega)
 have e3:cz ns 1 % (((bS (bN ns m)).length:Int)+1)=((sN ns (bN ns m):Nat):Int):=by unfold sN;omega
 have l1:=Txt.slice_le (bS (bN ns m)) none (some ((sN ns (bN ns m):Nat):Int))
 have l2:=Txt.slice_le (bS (bN ns m)) (some ((sN ns (bN ns m):Nat):Int)) none
 have hA:(("abcdefghijk" : Str)).length<=sizeLine:=by decide
 have hml:m.length<=sizeLine:=by omega
 have hbl:(bS (bN ns m)).length<=sizeLine:=by omega
 simp only [Int.natCast_zero,Int.natCast_one,Int.ofNat_zero,Int.ofNat_one] at a0 a1
 have ed:∀ b:Nat,Txt.slice ("abcdefghijk" : Str) none (some (b:Int))=bS b:=fun _=>rfl
 have hne:¬ (((bS (bN ns m)).length:Int)+1=0):=by omega
 have k1:(Txt.slice (bS (bN ns m)) none (some ((sN ns (bN ns m):Nat):Int))).length+m.length<=sizeLine:=by omega
 have k2:(Txt.slice (bS (bN ns m)) none (some ((sN ns (bN ns m):Nat):Int))++m).length+(Txt.slice (bS (bN ns m)) (some ((sN ns (bN ns m):Nat):Int)) none).length<=sizeLine:=by rw [q1e];omega
 simp [m_qi,b_qi,a0,a1,hA,hml,e1,ed,hbl,hne,e3,k1,k2,nmOf,nmP]
end NMS
namespace TL
open PySem L2 Z PM KR NMS
def aN (k:Nat):Str:=("a" : Str)++Str.ofString (toString (k:Int))
def wA (ns:List Int) (k:Nat):Str:=nmOf ns (aN k)
theorem q8h:∀ k:Nat,k<10->(aN k).length=2/\107∉(aN k).cps.toList/\((k:Int)).natAbs.log2<1920/\(Str.ofString (toString (k:Int))).length<=10:=by decide +kernel
theorem aN_inj:∀ i:Nat,i<10->∀ j:Nat,j<10->aN i=aN j->i=j:=by decide +kernel
theorem qnx {x y:Str} (h:x.cps.toList=y.cps.toList):x=y:=by
 cases x;cases y
 simp at h
 rw [h]
theorem qk1 {ns:List Int} {m1 m2:Str} (hl:m1.length=m2.length) (h:nmOf ns m1=nmOf ns m2):m1=m2:=by
 have hb:bN ns m1=bN ns m2:=by unfold bN;rw [hl]
 unfold nmOf nmP at h
 rw [hb] at h
 have h:=congrArg (fun s:Str=>s.cps.toList) h
 simp only [q6z] at h
 have h1:=List.append_cancel_right h
 exact qnx (List.append_cancel_left h1)
theorem sl_len:((List.range 12).all fun b=>(List.range 12).all fun s=>decide (b<s) || decide ((Txt.slice (bS b) none (some (s:Int))).length+(Txt.slice (bS b) (some (s:Int)) none).length=b))=true:=by decide +kernel
theorem sl_of {b s:Nat} (hb:b<12) (hs:s<=b):(Txt.slice (bS b) none (some (s:Int))).length+(Txt.slice (bS b) (some (s:Int)) none).length=b:=by
 have:=List.all_eq_true.mp (List.all_eq_true.mp sl_len b (List.mem_range.mpr hb)) s (List.mem_range.mpr (by omega))
 rw [Bool.or_eq_true,decide_eq_true_eq,decide_eq_true_eq] at this
 omega
theorem qa1 {ns:List Int} (m:Str):(nmOf ns m).length=bN ns m+m.length:=by
 have hb:=qhu ns m
 have:=sl_of hb (qhm ns hb)
 unfold nmOf nmP
 rw [KR.q1e,KR.q1e]
 omega
theorem k11:((List.range 12).all fun s=>(Txt.slice (bS 11) none (some (s:Int))).cps.toList.contains 107 || (Txt.slice (bS 11) (some (s:Int)) none).cps.toList.contains 107)=true:=by decide +kernel
theorem k10:((List.range 11).all fun s=>!(Txt.slice (bS 10) none (some (s:Int))).cps.toList.contains 107 && !(Txt.slice (bS 10) (some (s:Int)) none).cps.toList.contains 107)=true:=by decide +kernel
theorem qh4 {ns:List Int} {m:Str} {k:Nat} (hm:m.length=1) (hk:k<10):nmOf ns m≠wA ns k:=by
 intro h
 obtain ⟨l2,n2,_⟩:=q8h k hk
 have hlen:=congrArg Str.length h
 unfold wA at hlen h
 rw [qa1,qa1,hm,l2] at hlen
 have e1:bN ns m=min (cz ns 0 % 12).toNat 11:=by unfold bN;rw [hm]
 have e2:bN ns (aN k)=min (cz ns 0 % 12).toNat 10:=by unfold bN;rw [l2]
 have h11:bN ns m=11:=by omega
 have h10:bN ns (aN k)=10:=by omega
 have c1:107∈(nmOf ns m).cps.toList:=by
  have hs:=qhm ns (show (11:Nat)<12 by decide)
  have:=List.all_eq_true.mp k11 (sN ns 11) (List.mem_range.mpr (by omega))
  unfold nmOf nmP
  rw [h11,q6z,q6z]
  rw [Bool.or_eq_true,List.contains_iff_mem,List.contains_iff_mem] at this
  rcases this with z | z <;> simp [z]
 have c2:107∉(nmOf ns (aN k)).cps.toList:=by
  have hs:=qhm ns (show (10:Nat)<12 by decide)
  have:=List.all_eq_true.mp k10 (sN ns 10) (List.mem_range.mpr (by omega))
  unfold nmOf nmP
  rw [h10,q6z,q6z]
  rw [Bool.and_eq_true,Bool.not_eq_true',Bool.not_eq_true'] at this
  have z1:107∉(Txt.slice (bS 10) none (some ((sN ns 10:Nat):Int))).cps.toList:=fun q=>by
   have:=List.contains_iff_mem.mpr q
   rw [this] at *;simp_all
  have z2:107∉(Txt.slice (bS 10) (some ((sN ns 10:Nat):Int)) none).cps.toList:=fun q=>by
   have:=List.contains_iff_mem.mpr q
   rw [this] at *;simp_all
  simp [z1,z2,n2]
 rw [h] at c1
 exact c2 c1
theorem qf1 {ns:List Int} {i j:Nat} (hi:i<10) (hj:j<10) (h:wA ns i=wA ns j):i=j:=
 aN_inj i hi j hj (qk1 (by rw [(q8h i hi).1,(q8h j hj).1]) h)
theorem wA_len {ns:List Int} {k:Nat} (hk:k<10):(wA ns k).length<=13:=by
 unfold wA
 have:=qhu ns (aN k)
 rw [qa1,(q8h k hk).1];omega
inductive De where
 | night (rows:List Row)
 | batch (nm:Str) (ps:List (Str×Int))
 | wheel (nm b so sh:Str) (g:Int)
 | wash (w b c:Str)
 | move (w s:Str)
 | boil (x:Str)
 | cut (w:Str) (n:Nat)
 | sell (x:Str)
def De.av (t:Int):De->AV
 | .night rows=>.tup [.int t, .str "night", .tup (rows.map rwA)]
 | .batch nm ps=>.tup [.int t, .str "batch", .str nm, .tup (ps.map pt)]
 | .wheel nm b so sh g=>.tup [.int t, .str "wheel", .str nm, .str b, .str so, .str sh, .int g]
 | .wash w b c=>.tup [.int t, .str "wash", .str w, .str b, .str c]
 | .move w s=>.tup [.int t, .str "move", .str w, .str s]
 | .boil x=>.tup [.int t, .str "boil", .str x]
 | .cut w n=>.tup [.int t, .str "cut", .str w, .tup (List.replicate n (.int 7)), .int (1000 - 7 * (n:Int))]
 | .sell x=>.tup [.int t, .str "sell", .str x]
def De.en (t:Int):De->En
 | .night rows=>⟨t,none,[],(grpG 0 rows []).map fun z=>z.1::z.2.1,false⟩
 | .batch nm ps=>⟨t,none,(srtS (metK (ps.map (·.1)))).map fun f=>(f,nm),[],false⟩
 | .wheel nm b _ _ _=>⟨t,none,[(b,nm)],[],false⟩
 | .wash w b c=>⟨t,none,[],[[w,b,c]],false⟩
 | .move _ _=>⟨t,none,[],[],false⟩
 | .boil x=>⟨t,some x,[],[],false⟩
 | .cut w n=>⟨t,none,(List.range n).map fun j=>(w,wdN w j),[],true⟩
 | .sell _=>⟨t,none,[],[],false⟩
def De.ths:De->List Str
 | .night rows=>rows.map (·.1)++rows.map (·.2.2.1)
 | .batch nm ps=>ps.map (·.1)++[nm]
 | .wheel nm b so _ _=>[nm,b,so]
 | .wash w b c=>[w,b,c]
 | .move w s=>[w,s]
 | .boil x=>[x]
 | .cut w n=>w::(List.range n).map (wdN w)
 | .sell x=>[x]
def De.ok:De->Prop
 | .night rows=>rows.length<=450/\q65 rows
 | .batch nm ps=>ps.length<=50/\∀ z∈ps,z.1≠nm
 | .wheel nm b _ _ _=>nm≠b
 | .cut w n=>n<=8/\w.length<=100
 | _=>True
theorem qef {w:Str} (hw:w.length<=100) {j:Nat} (hj:j<8):(wdN w j).length<=200/\wdN w j≠w:=by
 have:∀ j:Nat,j<8->(Str.ofString (toString ((j:Int)+1))).length<=10:=by decide +kernel
 have h1:=this j hj
 have h2:("/" : Str).length=1:=rfl
 rw [qae]
 refine ⟨by rw [KR.q1e,KR.q1e];omega,fun h=>?_⟩
 have:=congrArg Str.length h
 rw [KR.q1e,KR.q1e] at this
 omega
theorem De.x {d:De} {t:Int} (o:d.ok):EnX (d.av t) (d.en t) d.ths:=by
 cases d with
 | night rows=>exact qlp o.1 o.2
 | batch nm ps=>exact qmv o.1 o.2
 | wheel nm b so sh g=>exact qnn o
 | wash w b c=>exact wash_x
 | move w s=>exact qfv (by decide +kernel) (by decide +kernel) (by decide +kernel) (by decide +kernel) (by decide +kernel) (by decide +kernel) (by simp) rfl (by simp)
 | boil x=>exact boil_x
 | cut w n =>
  have h8:(200:Nat)<=sizeLine:=by decide
  have:=cut_x (d:=t) (w:=w) (ps:=List.replicate n (.int 7)) (r:=[.int (1000 - 7 * (n:Int))]) (by have:=o.1;simp;omega) (fun j hj=>by
   have hj:j<n:=by simpa using hj
   have hn:=o.1
   have hw:=o.2
   have q:=qef hw (show j<8 by omega)
   refine ⟨?_,?_,Nat.le_trans q.1 h8⟩
   ·rw [empty_app];omega
   ·rw [empty_app,KR.q1e,show ("/" : Str).length=1 from rfl];omega) (fun j hj=>by
   have hj:j<n:=by simpa using hj
   have hn:=o.1
   exact (qef o.2 (show j<8 by omega)).2)
  rw [List.length_replicate] at this
  exact this
 | sell x=>exact qfv (by decide +kernel) (by decide +kernel) (by decide +kernel) (by decide +kernel) (by decide +kernel) (by decide +kernel) (by simp) rfl (by simp)
abbrev Ta:=List (Int×De)
def bx (b:Ta):Bx:=b.map fun z=>((z.2.av z.1,z.2.en z.1),z.2.ths)
def bA (b:Ta):List AV:=b.map fun z=>z.2.av z.1
structure TS where
 book:Ta
 lies:List (Str×Str)
 day:Nat
 unsold:List Str
 made:Nat
 first:Nat
@[irreducible] def marks:List Str:=("fghmnopqkl567xv0123489" : Str).cps.toList.map fun c=>⟨#[c]⟩
theorem qjh:marks=("fghmnopqkl567xv0123489" : Str).cps.toList.map fun c=>⟨#[c]⟩:=by with_unfolding_all rfl
@[irreducible] def NK:List Key:=marks.map Sum.inr
@[irreducible] def NV (ns:List Int):List AV:=marks.map fun m=>.str (nmOf ns m)
def kL (l:List (Str×Str)):List Key:=l.map fun z=>Sum.inr z.1
def vL (l:List (Str×Str)):List AV:=l.map fun z=>AV.str z.2
def SK:List Key:=(["names", "book", "lies", "day", "unsold", "made", "first"]:List Str).map Sum.inr
def SV (S:TS):List AV:=[.ref 0, .ref 1, .ref 2, .int (S.day:Int), .ref 3, .int (S.made:Int), .int (S.first:Int)]
def HT (ns:List Int) (S:TS):AH:=[.dk NK (NV ns), .lst (bA S.book), .dk (kL S.lies) (vL S.lies), .lst (sA S.unsold), .dk SK (SV S)]
theorem qed {α:Type} (f:Str->AV):∀ {L:List Str} {m:Str},m∈L->dval (L.map Sum.inr) (L.map f) (.inr m)=some (f m)
 | y::r,m,h=>by
  show (if (Sum.inr y:Key)=.inr m then some (f y) else dval (r.map Sum.inr) (r.map f) (.inr m))=_
  by_cases e:y=m
  ·rw [if_pos (by rw [e]),e]
  ·rw [if_neg fun q=>e (Sum.inr.inj q)]
   exact qed (α:=α) f ((List.mem_cons.mp h).resolve_left fun q=>e q.symm)
theorem NK_eq:NK=marks.map Sum.inr:=by with_unfolding_all rfl
theorem NV_eq (ns:List Int):NV ns=marks.map fun m=>AV.str (nmOf ns m):=by with_unfolding_all rfl
theorem qlk {ns:List Int} {m:Str} (h:m∈marks):dval NK (NV ns) (.inr m)=some (.str (nmOf ns m)):=by rw [NK_eq,NV_eq];exact qed (α:=Unit) _ h
def getL (l:List (Str×Str)) (x:Str):Option Str:=(l.find? fun z=>decide (z.1=x)).map (·.2)
def putL (l:List (Str×Str)) (x y:Str):List (Str×Str):=if x∈l.map (·.1) then l.map fun z=>if z.1=x then (z.1,y) else z else l++[(x,y)]
def q3f (l:List (Str×Str)) (x:Str):List (Str×Str):=l.filter fun z=>decide (z.1≠x)
theorem q6u (x:Str):∀ l,dval (kL l) (vL l) (.inr x)=(getL l x).map AV.str
 | []=>rfl
 | z::r=>by
  show (if (Sum.inr z.1:Key)=.inr x then some (AV.str z.2) else dval (kL r) (vL r) (.inr x))=_
  unfold getL
  by_cases h:z.1=x
  ·rw [if_pos (by rw [h]),List.find?_cons_of_pos (by simp [h])];rfl
  ·rw [if_neg fun e=>h (Sum.inr.inj e),List.find?_cons_of_neg (by simp [h]),q6u x r];rfl
theorem q7g {l:List (Str×Str)} {x y:Str} (hn:(l.map (·.1)).Nodup) (h:(x,y)∈l):getL l x=some y:=by
 unfold getL
 induction l with
 | nil=>exact nomatch h
 | cons z r ih =>
  rw [List.map_cons,List.nodup_cons] at hn
  rcases List.mem_cons.mp h with rfl | h
  ·rw [List.find?_cons_of_pos (by simp)];rfl
  ·have:z.1≠x:=fun e=>hn.1 (List.mem_map.mpr ⟨_,h,e.symm⟩)
   rw [List.find?_cons_of_neg (by simp [this])]
   exact ih hn.2 h
theorem qfm (x y:Str):∀ l,q4g (.inr x) (.str y) (kL l) (vL l)=vL (l.map fun z=>if z.1=x then (z.1,y) else z)
 | []=>rfl
 | z::r=>by
  show (if (Sum.inr z.1:Key)=.inr x then AV.str y else AV.str z.2)::q4g (.inr x) (.str y) (kL r) (vL r)=_
  rw [qfm x y r]
  by_cases h:z.1=x
  ·rw [if_pos (by rw [h])];simp [vL,h]
  ·rw [if_neg fun e=>h (Sum.inr.inj e)];simp [vL,h]
theorem qe0 (l:List (Str×Str)) (x y:Str):dput (kL l) (vL l) (.inr x) (.str y)=(kL (putL l x y),vL (putL l x y)):=by
 unfold dput putL
 by_cases h:x∈l.map (·.1)
 ·rw [if_pos h,if_pos (by
   unfold kL;rw [List.any_map]
   obtain ⟨z,hz,e⟩:=List.mem_map.mp h
   exact List.any_eq_true.mpr ⟨z,hz,by simp [e]⟩),qfm]
  congr 1
  unfold kL
  rw [List.map_map]
  apply List.map_congr_left
  intro z _
  by_cases e:z.1=x <;> simp [e]
 ·rw [if_neg h,if_neg (by
   unfold kL
   rw [List.any_map]
   intro z
   obtain ⟨y,hy,he⟩:=List.any_eq_true.mp z
   have:y.1=x:=by simpa using he
   exact h (List.mem_map.mpr ⟨y,hy,this⟩))]
  simp [kL,vL]
theorem qg5 (x:Str):∀ l,q3i (.inr x) (kL l) (vL l)=vL (q3f l x)
 | []=>rfl
 | z::r=>by
  show (if (Sum.inr z.1:Key)=.inr x then q3i (.inr x) (kL r) (vL r) else AV.str z.2::q3i (.inr x) (kL r) (vL r))=_
  rw [qg5 x r]
  by_cases h:z.1=x
  ·rw [if_pos (by rw [h])];simp [q3f,h]
  ·rw [if_neg fun e=>h (Sum.inr.inj e)];simp [q3f,h,vL]
theorem qmp (x:Str) (l:List (Str×Str)):(kL l).filter (fun i=>decide (i≠.inr x))=kL (q3f l x):=by
 unfold kL q3f
 rw [List.filter_map]
 congr 1
 apply List.filter_congr
 intro z _
 simp
def q43 (ns:List Int):List Str:=[nmOf ns "5",nmOf ns "6",nmOf ns "7"]
def q2c (ns:List Int) (S:TS):List Row:=S.lies.map fun z=>(z.1,nmOf ns "x",z.2,0)
def Next (ns:List Int) (S:TS) (d:De) (S':TS):Prop:=S'.book=S.book++[((S.day:Int),d)]/\S'.first=S.first/\match d with
 | .night rows=>rows=q2c ns S/\S'.lies=S.lies/\S'.day=S.day+1/\S'.unsold=S.unsold/\S'.made=S.made
 | .wash w b c=>w∈S.lies.map (·.1)/\b∈[nmOf ns "p",nmOf ns "q"]/\c∈[nmOf ns "k",nmOf ns "l"]/\S'.lies=S.lies/\S'.day=S.day/\S'.unsold=S.unsold/\S'.made=S.made
 | .move w s=>w∈S.lies.map (·.1)/\s∈q43 ns/\S'.lies=putL S.lies w s/\S'.day=S.day/\S'.unsold=S.unsold/\S'.made=S.made
 | .boil x=>x∈[nmOf ns "p",nmOf ns "q",nmOf ns "k",nmOf ns "l",nmOf ns "5",nmOf ns "6",nmOf ns "7"]/\S'.lies=S.lies/\S'.day=S.day/\S'.unsold=S.unsold/\S'.made=S.made
 | .cut w n=>w∈S.lies.map (·.1)/\n∈[1,2,3,8]/\S'.lies=q3f S.lies w/\S'.day=S.day/\S'.unsold=S.unsold++(List.range n).map (wdN w)/\S'.made=S.made
 | .wheel nm b so sh g=>S.made<10/\nm=wA ns S.made/\b∈[nmOf ns "m",nmOf ns "n",nmOf ns "o"]/\so=nmOf ns "v" /\ sh∈q43 ns/\g=1000/\S'.lies=putL S.lies nm sh/\S'.day=S.day/\S'.unsold=S.unsold/\S'.made=S.made+1
 | .sell x=>(∃ i,S.unsold[i]?=some x/\S'.unsold=S.unsold.eraseIdx i)/\S'.lies=S.lies/\S'.day=S.day/\S'.made=S.made
 | .batch _ _=>False
structure TI (ns:List Int) (S:TS) (B:Nat):Prop where
 en:∀ z∈S.book,z.2.ok/\0<=z.1
 ke:∀ z∈S.lies, ∃ k,k<S.made/\z.1=wA ns k
 nd:(S.lies.map (·.1)).Nodup
 va:∀ z∈S.lies,z.2∈q43 ns
 made:S.made<=10
 len:S.book.length<=B
 lus:S.unsold.length<=8 * B
 lli:S.lies.length<=S.made
 day:S.day<=B
end TL
namespace TL
open PySem L2 Z PM KR NMS
theorem qdx {ns:List Int} {s:Str} (h:s∈q43 ns):∃ m:Str,m.length=1/\s=nmOf ns m:=by
 unfold q43 at h
 simp only [List.mem_cons,List.not_mem_nil,or_false] at h
 rcases h with rfl | rfl | rfl
 ·exact ⟨"5",rfl,rfl⟩
 ·exact ⟨"6",rfl,rfl⟩
 ·exact ⟨"7",rfl,rfl⟩
theorem qll {ns:List Int} {s:Str} (h:s∈q43 ns):s ≠ "":=by
 obtain ⟨m,hm,rfl⟩:=qdx h
 intro e
 have:=congrArg Str.length e
 rw [qa1,hm] at this
 have e0:("" : Str).length=0:=rfl
 omega
theorem qfd {ns:List Int} {k:Nat} {s:Str} (hk:k<10) (h:s∈q43 ns):wA ns k≠s:=by
 obtain ⟨m,hm,rfl⟩:=qdx h
 exact (qh4 hm hk).symm
theorem ql4 {l:List (Str×Str)} (hn:(l.map (·.1)).Nodup) {z y:Str×Str} (hz:z∈l) (hy:y∈l) (e:z.1=y.1):z=y:=by
 have h1:=q7g hn (x:=z.1) (y:=z.2) hz
 have h2:=q7g hn (x:=y.1) (y:=y.2) hy
 rw [e,h2] at h1
 have:=Option.some.inj h1
 exact Prod.ext e this.symm
theorem qi4 {ns:List Int} {S:TS} {B:Nat} (I:TI ns S B):q65 (q2c ns S) where
 one:=fun r hr q hq e=>by
  obtain ⟨z,hz,rfl⟩:=List.mem_map.mp hr
  obtain ⟨y,hy,rfl⟩:=List.mem_map.mp hq
  rw [ql4 I.nd hz hy e]
 unlike:=fun r hr q hq e=>by
  obtain ⟨z,hz,rfl⟩:=List.mem_map.mp hr
  obtain ⟨y,hy,rfl⟩:=List.mem_map.mp hq
  obtain ⟨k,hk,ek⟩:=I.ke z hz
  have:=I.made
  exact qfd (show k<10 by omega) (I.va y hy) (ek.symm.trans e)
 some:=fun r hr=>by
  obtain ⟨z,hz,rfl⟩:=List.mem_map.mp hr
  exact qll (I.va z hz)
theorem q92 {l:List (Str×Str)} {x y:Str} (h:x∈l.map (·.1)):(putL l x y).map (·.1)=l.map (·.1):=by
 unfold putL
 rw [if_pos h,List.map_map]
 apply List.map_congr_left
 intro z _
 by_cases e:z.1=x <;> simp [e]
theorem q68 {l:List (Str×Str)} {x y:Str} (h:x∉l.map (·.1)):putL l x y=l++[(x,y)]:=by unfold putL;rw [if_neg h]
theorem qgc {l:List (Str×Str)} {x y:Str} {z:Str×Str} (h:z∈putL l x y):z=(x,y)\/z∈l:=by
 unfold putL at h
 split at h
 ·obtain ⟨q,hq,rfl⟩:=List.mem_map.mp h
  by_cases e:q.1=x
  ·rw [if_pos e,e];exact .inl rfl
  ·rw [if_neg e];exact .inr hq
 ·rcases List.mem_append.mp h with h | h
  ·exact .inr h
  ·exact .inl (by simpa using h)
theorem qe9 {ns:List Int} {S:TS} {B:Nat} (I:TI ns S B) (h:S.made<10):wA ns S.made∉S.lies.map (·.1):=fun hm=>by
 obtain ⟨z,hz,e⟩:=List.mem_map.mp hm
 obtain ⟨k,hk,ek⟩:=I.ke z hz
 have:=qf1 (show k<10 by omega) h (ek.symm.trans e)
 omega
theorem qbh {ns:List Int} {S:TS} {B:Nat} (I:TI ns S B) {w:Str} (h:w∈S.lies.map (·.1)):w.length<=13/\∃ k,k<S.made/\w=wA ns k:=by
 obtain ⟨z,hz,rfl⟩:=List.mem_map.mp h
 obtain ⟨k,hk,ek⟩:=I.ke z hz
 have:=I.made
 exact ⟨by rw [ek];exact wA_len (by omega),k,hk,ek⟩
theorem TI.next {ns:List Int} {S S':TS} {B:Nat} {d:De} (I:TI ns S B) (h:Next ns S d S'):TI ns S' (B+1):=by
 obtain ⟨hb,hf,h⟩:=h
 have hmd:=I.made
 have en:d.ok->∀ z∈S'.book,z.2.ok/\0<=z.1:=fun ok z hz=>by
  rw [hb] at hz
  rcases List.mem_append.mp hz with hz | hz
  ·exact I.en z hz
  ·have:z=((S.day:Int),d):=by simpa using hz
   subst this
   exact ⟨ok,Int.natCast_nonneg _⟩
 have len:S'.book.length<=B+1:=by rw [hb,List.length_append];have:=I.len;simp;omega
 have lus:=I.lus
 have day:=I.day
 cases d with
 | night rows =>
  obtain ⟨rfl,h1,h2,h3,h4⟩:=h
  exact ⟨en ⟨by unfold q2c;rw [List.length_map];have:=I.lli;omega,qi4 I⟩,by rw [h1,h4];exact I.ke,by rw [h1];exact I.nd,by rw [h1];exact I.va,by rw [h4];exact I.made,len,by rw [h3];omega,by rw [h1,h4];exact I.lli,by rw [h2];omega⟩
 | batch nm ps=>exact h.elim
 | wash w b c =>
  obtain ⟨_,_,_,h1,h2,h3,h4⟩:=h
  exact ⟨en trivial,by rw [h1,h4];exact I.ke,by rw [h1];exact I.nd,by rw [h1];exact I.va,by rw [h4];exact I.made,len,by rw [h3];omega,by rw [h1,h4];exact I.lli,by rw [h2];omega⟩
 | boil x =>
  obtain ⟨_,h1,h2,h3,h4⟩:=h
  exact ⟨en trivial,by rw [h1,h4];exact I.ke,by rw [h1];exact I.nd,by rw [h1];exact I.va,by rw [h4];exact I.made,len,by rw [h3];omega,by rw [h1,h4];exact I.lli,by rw [h2];omega⟩
 | move w s =>
  obtain ⟨hw,hs,h1,h2,h3,h4⟩:=h
  refine ⟨en trivial,?_,by rw [h1,q92 hw];exact I.nd,?_,by rw [h4];exact I.made,len,by rw [h3];omega,?_,by rw [h2];omega⟩
  ·rw [h1,h4]
   intro z hz
   rcases qgc hz with rfl | hz
   ·exact (qbh I hw).2
   ·exact I.ke z hz
  ·rw [h1]
   intro z hz
   rcases qgc hz with rfl | hz
   ·exact hs
   ·exact I.va z hz
  ·rw [h1,h4]
   have:=congrArg List.length (q92 (y:=s) hw)
   rw [List.length_map,List.length_map] at this
   rw [this];exact I.lli
 | cut w n =>
  obtain ⟨hw,hn,h1,h2,h3,h4⟩:=h
  have hn8:n<=8:=by
   simp only [List.mem_cons,List.not_mem_nil,or_false] at hn
   omega
  have hsub:∀ z∈q3f S.lies w,z∈S.lies:=fun z hz=>(List.mem_filter.mp hz).1
  refine ⟨en ⟨hn8,by have:=(qbh I hw).1;omega⟩,by rw [h1,h4];exact fun z hz=>I.ke z (hsub z hz),?_,by rw [h1];exact fun z hz=>I.va z (hsub z hz),by rw [h4];exact I.made,len,?_,?_,by rw [h2];omega⟩
  ·rw [h1]
   exact List.Nodup.sublist (List.Sublist.map _ (List.filter_sublist)) I.nd
  ·rw [h3,List.length_append,List.length_map,List.length_range];omega
  ·rw [h1,h4]
   have:=List.length_filter_le (fun z:Str×Str=>decide (z.1≠w)) S.lies
   have:=I.lli
   unfold q3f;omega
 | wheel nm b so sh g =>
  obtain ⟨hm,rfl,hb',_,hs,_,h1,h2,h3,h4⟩:=h
  have hnew:=qe9 I hm
  have hne:wA ns S.made≠b:=by
   simp only [List.mem_cons,List.not_mem_nil,or_false] at hb'
   rcases hb' with rfl | rfl | rfl <;> exact (qh4 rfl hm).symm
  refine ⟨en hne,?_,?_,?_,by rw [h4];omega,len,by rw [h3];omega,?_,by rw [h2];omega⟩
  ·rw [h1,h4,q68 hnew]
   intro z hz
   rcases List.mem_append.mp hz with hz | hz
   ·obtain ⟨k,hk,ek⟩:=I.ke z hz
    exact ⟨k,by omega,ek⟩
   ·have:z=(wA ns S.made,sh):=by simpa using hz
    subst this
    exact ⟨S.made,by omega,rfl⟩
  ·rw [h1,q68 hnew,List.map_append,List.nodup_append]
   refine ⟨I.nd,by simp,fun a ha c hc=>?_⟩
   have:c=wA ns S.made:=by simpa using hc
   rw [this]
   exact fun e=>hnew (e ▸ ha)
  ·rw [h1,q68 hnew]
   intro z hz
   rcases List.mem_append.mp hz with hz | hz
   ·exact I.va z hz
   ·have:z=(wA ns S.made,sh):=by simpa using hz
    subst this;exact hs
  ·rw [h1,h4,q68 hnew,List.length_append]
   have:=I.lli
   simp;omega
 | sell x =>
  obtain ⟨⟨i,hi,h3⟩,h1,h2,h4⟩:=h
  refine ⟨en trivial,by rw [h1,h4];exact I.ke,by rw [h1];exact I.nd,by rw [h1];exact I.va,by rw [h4];exact I.made,len,?_,by rw [h1,h4];exact I.lli,by rw [h2];omega⟩
  rw [h3]
  have:=List.length_eraseIdx_le S.unsold i
  omega
end TL
namespace TL
open PySem L2 Z PM KR NMS
section
variable {ns:List Int} {S:TS}
theorem qdk:dval SK (SV S) (.inr "names")=some (.ref 0):=by unfold SK SV;simp [dval]
theorem qgq:dval SK (SV S) (.inr "book")=some (.ref 1):=by unfold SK SV;simp [dval]
theorem q4t:dval SK (SV S) (.inr "lies")=some (.ref 2):=by unfold SK SV;simp [dval]
theorem qe7:dval SK (SV S) (.inr "day")=some (.int (S.day:Int)):=by unfold SK SV;simp [dval]
theorem qbz:dval SK (SV S) (.inr "unsold")=some (.ref 3):=by unfold SK SV;simp [dval]
theorem qbi:dval SK (SV S) (.inr "made")=some (.int (S.made:Int)):=by unfold SK SV;simp [dval]
theorem qlb:dval SK (SV S) (.inr "first")=some (.int (S.first:Int)):=by unfold SK SV;simp [dval]
theorem qn9 (d:Nat):dput SK (SV S) (.inr "day") (.int (d:Int))=(SK,SV {S with day:=d}):=by unfold SK SV dput;simp [q4g]
theorem qm4 (d:Nat):dput SK (SV S) (.inr "made") (.int (d:Int))=(SK,SV {S with made:=d}):=by unfold SK SV dput;simp [q4g]
theorem qjj:SK.length<sizeLine:=by decide
theorem h1:(HT ns S)[1]?=some (.lst (bA S.book)):=rfl
theorem h2:(HT ns S)[2]?=some (.dk (kL S.lies) (vL S.lies)):=rfl
theorem h3:(HT ns S)[3]?=some (.lst (sA S.unsold)):=rfl
theorem h4:(HT ns S)[4]?=some (.dk SK (SV S)):=rfl
theorem st1 (b:Ta):(HT ns S).set 1 (.lst (bA b))=HT ns {S with book:=b}:=rfl
theorem st2 (l:List (Str×Str)):(HT ns S).set 2 (.dk (kL l) (vL l))=HT ns {S with lies:=l}:=rfl
theorem st3 (u:List Str):(HT ns S).set 3 (.lst (sA u))=HT ns {S with unsold:=u}:=rfl
theorem st4d (d:Nat):(HT ns S).set 4 (.dk SK (SV {S with day:=d}))=HT ns {S with day:=d}:=rfl
theorem st4m (d:Nat):(HT ns S).set 4 (.dk SK (SV {S with made:=d}))=HT ns {S with made:=d}:=rfl
theorem qda (b:Ta) (z:Int×De):bA (b++[z])=bA b++[z.2.av z.1]:=by unfold bA;simp
theorem q9r (b:Ta):(bA b).length=b.length:=by unfold bA;simp
theorem say {env:AEnv} {t:AE} {d:De} (he:aVar 0 env (HT ns S)=.ok (.ref 4) (HT ns S)) (ht:t env (HT ns S)=.ok (d.av (S.day:Int)) (HT ns S)) (hl:S.book.length<=10000) :
  q0q (aMtL q15 (a2 q08 (aVar 0) (aK (.str "book"))) (q02 t aNil)) env (HT ns S)=.nx env (HT ns {S with book:=S.book++[((S.day:Int),d)]}):=by
 have g1:=h1 (ns:=ns) (S:=S)
 have g4:=h4 (ns:=ns) (S:=S)
 have hb:=qgq (S:=S)
 have hs:=st1 (ns:=ns) (S:=S) (S.book++[((S.day:Int),d)])
 rw [qda] at hs
 have hz:(bA S.book).length<sizeLine:=by rw [q9r];exact Nat.lt_of_le_of_lt hl (by decide)
 have eb:a2 q08 (aVar 0) (aK (.str "book")) env (HT ns S)=.ok (.ref 1) (HT ns S):=by
  show ((aVar 0 env (HT ns S)).bind _)=_
  rw [he]
  simp only [Re.q3h]
  generalize HT ns S=H at *
  simp [g4,hb]
 rw [<- hs]
 dsimp only at ht ⊢
 unfold q0q aMtL
 rw [eb]
 generalize d.av (S.day:Int)=X at *
 generalize HT ns S=H at *
 simp [g1,ht,hz]
theorem q4l {env:AEnv} {m:Str} {e:AE} {H:AH} (hn:m∈marks) (h0:H[0]?=some (.dk NK (NV ns))) (i:Nat) (he:aVar i env H=.ok (.ref 0) H) (hm:e env H=.ok (.str m) H):a2 q08 (aVar i) e env H=.ok (.str (nmOf ns m)) H:=by
 have:=qlk (ns:=ns) hn
 show ((aVar i env H).bind _)=_
 rw [he]
 simp [hm,h0,this]
theorem q5c {env:AEnv} (he:aVar 0 env (HT ns S)=.ok (.ref 4) (HT ns S)):a2 q08 (aVar 0) (aK (.str "day")) env (HT ns S)=.ok (.int (S.day:Int)) (HT ns S):=by
 have g4:=h4 (ns:=ns) (S:=S)
 have hb:=qe7 (S:=S)
 show ((aVar 0 env (HT ns S)).bind _)=_
 rw [he]
 simp only [Re.q3h]
 generalize HT ns S=H at *
 simp [g4,hb]
theorem c_ok {x:AE} {r:AA} {env:AEnv} {h:AH} {v:AV} {vs:List AV} (h1:x env h=.ok v h) (h2:r env h=.ok vs h):q02 x r env h=.ok (v::vs) h:=by
 simp [h1,h2]
theorem t_ok {r:AA} {env:AEnv} {h:AH} {vs:List AV} (h2:r env h=.ok vs h):aTup r env h=.ok (.tup vs) h:=by
 simp [h2]
def cutS (S:TS) (w:Str) (n:Nat):TS:={S with book:=S.book++[((S.day:Int),De.cut w n)],lies:=q3f S.lies w,unsold:=S.unsold++(List.range n).map (wdN w)}
theorem get_of {l:List (Str×Str)} {w:Str} (h:w∈l.map (·.1)):∃ s,getL l w=some s/\(w,s)∈l:=by
 obtain ⟨z,hz,e⟩:=List.mem_map.mp h
 unfold getL
 cases q:l.find? fun z=>decide (z.1=w) with
 | none=>exact absurd (by simp [e]) (List.find?_eq_none.mp q z hz)
 | some y =>
  have h1:=List.mem_of_find?_eq_some q
  have h2:y.1=w:=by simpa using List.find?_some q
  exact ⟨y.2,rfl,by rw [<- h2];exact h1⟩
theorem wd_eq {w:Str} {j:Nat} (hw:w.length<=100) (hj:j<8) {env:AEnv} {h:AH} (i:Nat) (hk:aVar i env h=.ok (.int (j:Int)) h) (hv:aVar 1 env h=.ok (.str w) h) :
  a2 q2f (a2 q2f (aVar 1) (aK (.str "/"))) (aC q3n (q02 (a2 fAdd (aVar i) (aK (.int 1))) aNil)) env h=.ok (.str (wdN w j)) h:=by
 have h8:(200:Nat)<=sizeLine:=by decide
 have hlg:(((j:Int)+1)).natAbs.log2<1920:=by
  have:=lt_int (show j<8 from hj) (by decide)
  rw [Int.add_comm];exact this
 have h2:("/" : Str).length=1:=rfl
 have l1:w.length+("/" : Str).length<=sizeLine:=by omega
 have hx:=(qef hw hj).1
 rw [qae] at hx ⊢
 rw [KR.q1e] at hx
 have l2:(w++("/" : Str):Str).length+(Str.ofString (toString ((j:Int)+1))).length<=sizeLine:=by omega
 have l2':(w++("/" : Str):Str).length+(Str.ofString (Int.repr ((j:Int)+1))).length<=sizeLine:=l2
 show ((a2 q2f (aVar 1) (aK (.str "/")) env h).bind _)=_
 have e1:a2 q2f (aVar 1) (aK (.str "/")) env h=.ok (.str (w++("/" : Str))) h:=by
  show ((aVar 1 env h).bind _)=_
  rw [hv]
  simp [l1]
 rw [e1]
 simp only [Re.q3h]
 have e2:aC q3n (q02 (a2 fAdd (aVar i) (aK (.int 1))) aNil) env h=.ok (.str (Str.ofString (toString ((j:Int)+1)))) h:=by
  have e3:a2 fAdd (aVar i) (aK (.int 1)) env h=.ok (.int ((j:Int)+1)) h:=by
   show ((aVar i env h).bind _)=_
   rw [hk];simp
  show ((q02 _ aNil env h).bind _)=_
  rw [c_ok e3 rfl]
  simp [hlg]
 rw [e2]
 simp [l2']
theorem qfc {w:Str} {x0 x2:Option AV} {S0:TS} {n:Nat} (hw:w.length<=100) (hn:n<=8) (hx0:x0=some (.ref 4)) (hx2:x2=some (.int (n:Int))) (hu:S0.unsold.length<=10000) :
  ∃ o,sFor (q3a (aVar 2)) (gN 3) (q0q (aMtL q15 (a2 q08 (aVar 0) (aK (.str "unsold"))) (q02 (a2 q2f (a2 q2f (aVar 1) (aK (.str "/"))) (aC q3n (q02 (a2 fAdd (aVar 3) (aK (.int 1))) aNil))) aNil))) [x0,some (.str w),x2,none] (HT ns S0)=.nx [x0,some (.str w),x2,o] (HT ns {S0 with unsold:=S0.unsold++(List.range n).map (wdN w)}):=by
 obtain ⟨e2,h2',q,o,rfl,rfl⟩:=qbp (n:=n) (i:=3) (a:=aVar 2) (P:=fun j env H=>∃ o,env=[x0,some (.str w),x2,o]/\H=HT ns {S0 with unsold:=S0.unsold++(List.range j).map (wdN w)}) (env:=[x0,some (.str w),x2,none]) (h:=HT ns S0) (body:=q0q (aMtL q15 (a2 q08 (aVar 0) (aK (.str "unsold"))) (q02 (a2 q2f (a2 q2f (aVar 1) (aK (.str "/"))) (aC q3n (q02 (a2 fAdd (aVar 3) (aK (.int 1))) aNil))) aNil))) (by omega) (by subst hx2;rfl) ⟨none,rfl,by simp⟩ (fun j hj env H hp=>by
  obtain ⟨o,rfl,rfl⟩:=hp
  refine ⟨[x0,some (.str w),x2,some (.int (j:Int))],HT ns {S0 with unsold:=S0.unsold++(List.range (j+1)).map (wdN w)},?_,_,rfl,rfl⟩
  have eU:S0.unsold++(List.range (j+1)).map (wdN w)=(S0.unsold++(List.range j).map (wdN w))++[wdN w j]:=by rw [List.range_succ,List.map_append,List.append_assoc];rfl
  have hs:=st3 (ns:=ns) (S:={S0 with unsold:=S0.unsold++(List.range j).map (wdN w)}) (S0.unsold++(List.range (j+1)).map (wdN w))
  rw [eU] at hs
  have eS:sA (S0.unsold++(List.range j).map (wdN w)++[wdN w j])=sA (S0.unsold++(List.range j).map (wdN w))++[.str (wdN w j)]:=by unfold sA;simp
  rw [eS] at hs
  rw [eU]
  have g3:=h3 (ns:=ns) (S:={S0 with unsold:=S0.unsold++(List.range j).map (wdN w)})
  have g4:=h4 (ns:=ns) (S:={S0 with unsold:=S0.unsold++(List.range j).map (wdN w)})
  have hb:=qbz (S:={S0 with unsold:=S0.unsold++(List.range j).map (wdN w)})
  have hz:(sA (S0.unsold++(List.range j).map (wdN w))).length<sizeLine:=by
   unfold sA;rw [List.length_map,List.length_append,List.length_map,List.length_range]
   exact Nat.lt_of_le_of_lt (show _<=10010 by omega) (by decide)
  have hwd:=wd_eq (w:=w) (j:=j) hw (by omega) (env:=[x0,some (.str w),x2,some (.int (j:Int))]) (h:=HT ns {S0 with unsold:=S0.unsold++(List.range j).map (wdN w)}) 3 rfl rfl
  show q0q _ [x0,some (.str w),x2,some (.int (j:Int))] _=_
  rw [<- hs]
  dsimp only at g3
  subst hx0
  generalize HT ns {S0 with unsold:=S0.unsold++(List.range j).map (wdN w)}=H at *
  unfold q0q aMtL
  have eb:a2 q08 (aVar 0) (aK (.str "unsold")) [some (.ref 4),some (.str w),x2,some (.int (j:Int))] H=.ok (.ref 3) H:=by simp [g4,hb]
  rw [eb]
  have ec:=c_ok (r:=aNil) (vs:=[]) hwd rfl
  generalize q02 (a2 q2f (a2 q2f (aVar 1) (aK (.str "/"))) (aC q3n (q02 (a2 fAdd (aVar 3) (aK (.int 1))) aNil))) aNil=MA at *
  simp [g3,ec,hz])
 exact ⟨o,q⟩
theorem qdc {B:Nat} (I:TI ns S B) (hB:B<=1000) {w:Str} {n:Nat} (hw:w∈S.lies.map (·.1)) (hn:n∈[1,2,3,8]):m_qe [.ref 4, .str w, .int (n:Int)] (HT ns S)=.ok .non (HT ns (cutS S w n)):=by
 obtain ⟨s,hg,_⟩:=get_of hw
 have hwl:=(qbh I hw).1
 have hn8:1<=n/\n<=8:=by
  simp only [List.mem_cons,List.not_mem_nil,or_false] at hn
  omega
 have hv:=q6u w S.lies
 rw [hg] at hv
 have hv:dval (kL S.lies) (vL S.lies) (.inr w)=some (.str s):=hv
 have hdk:=qmp w S.lies
 have hdv:=qg5 w S.lies
 simp only [decide_not] at hdk
 have s1:q0q (q78 (a2 q08 (aVar 0) (aK (.str "lies"))) (aVar 1)) [some (.ref 4),some (.str w),some (.int (n:Int)),none] (HT ns S)=.nx [some (.ref 4),some (.str w),some (.int (n:Int)),none] (HT ns {S with lies:=q3f S.lies w}):=by
  have g2:=h2 (ns:=ns) (S:=S)
  have g4:=h4 (ns:=ns) (S:=S)
  have hb:=q4t (S:=S)
  rw [<- st2 (ns:=ns) (S:=S) (q3f S.lies w)]
  generalize HT ns S=H at *
  simp [g4,hb,g2,hv,hdk,hdv]
 have s2:=say (ns:=ns) (S:={S with lies:=q3f S.lies w}) (d:=De.cut w n) (env:=[some (.ref 4),some (.str w),some (.int (n:Int)),none]) (t:=aTup (q02 (a2 q08 (aVar 0) (aK (.str "day"))) (q02 (aK (.str "cut")) (q02 (aVar 1) (q02 (a2 qd1 (aTup (q02 (aK (.int 7)) aNil)) (aVar 2)) (q02 (a2 fSub (aK (.int 1000)) (a2 fMul (aK (.int 7)) (aVar 2))) aNil)))))) rfl (t_ok (c_ok (q5c (ns:=ns) (S:={S with lies:=q3f S.lies w}) rfl) (c_ok rfl (c_ok rfl (c_ok (by
  have q1:(1:Int)<=(n:Int):=by omega
  have q2:(n:Int)<=1000000:=by omega
  have q3:n<=sizeLine:=Nat.le_trans hn8.2 (by decide)
  have q4:1<=n:=hn8.1
  have er:repA [AV.int 7] n=List.replicate n (.int 7):=by
   unfold repA
   induction n with
   | zero=>rfl
   | succ n ih =>
    clear ih
    have:∀ m,(List.replicate m [AV.int 7]).flatten=List.replicate m (AV.int 7):=by
     intro m
     induction m with
     | zero=>rfl
     | succ m ih=>rw [List.replicate_succ,List.flatten_cons,ih,List.replicate_succ];rfl
    exact this _
  generalize HT ns {S with lies:=q3f S.lies w}=H
  simp [q2,q3,q4,er];omega) (c_ok (by
  generalize HT ns {S with lies:=q3f S.lies w}=H
  simp) rfl)))))) (by have:=I.len;show S.book.length<=10000;omega)
 obtain ⟨o,s3⟩:=qfc (ns:=ns) (w:=w) (x0:=some (.ref 4)) (x2:=some (.int (n:Int))) (S0:={S with lies:=q3f S.lies w,book:=S.book++[((S.day:Int),De.cut w n)]}) (n:=n) (by omega) hn8.2 rfl rfl (by have:=I.lus;show S.unsold.length<=10000;omega)
 show ((sSeq _ _ [some (.ref 4),some (.str w),some (.int (n:Int)),none] (HT ns S)).out)=_
 rw [q0m s1,q0m s2,s3]
 rfl
end
end TL
namespace TL
open PySem L2 Z PM KR NMS
def q4o (z:Str):List Str:=z.cps.toList.map fun c=>⟨#[c]⟩
theorem pick {z:Str} {i:Int} {H:AH} (hz:z.length<=100) (h0:0<=i) (h1:i<z.length):∃ m,m∈q4o z/\fIxS (.str z) (.int i) H=.ok (.str m) H:=by
 obtain ⟨c,hc,e⟩:=ixS (h:=H) (show z.length<=100000 by omega) h0 h1
 exact ⟨⟨#[c]⟩,List.mem_map.mpr ⟨c,hc,rfl⟩,e⟩
theorem q59 {ns:List Int} {z:Str} {i:Int} {H:AH} {e:AE} {env:AEnv} {k:Nat} (hz:z.length<=100) (h0:0<=i) (h1:i<z.length) (hm:∀ m∈q4o z,m∈marks) (hk:aVar k env H=.ok (.ref 0) H) (g0:H[0]?=some (.dk NK (NV ns))) (he:e env H=.ok (.int i) H) :
  ∃ m,m∈q4o z/\a2 q08 (aVar k) (a2 fIxS (aK (.str z)) e) env H=.ok (.str (nmOf ns m)) H:=by
 obtain ⟨m,hm1,hm2⟩:=pick (H:=H) hz h0 h1
 refine ⟨m,hm1,q4l (hm m hm1) g0 k hk ?_⟩
 show (((aK (.str z)) env H).bind fun a h=>(e env h).bind fun b h=>fIxS a b h)=_
 show ((e env H).bind fun b h=>fIxS (.str z) b h)=_
 rw [he]
 exact hm2
theorem m567:∀ m∈q4o "567",m∈marks/\(m = "5" \/ m = "6" \/ m = "7"):=by decide +kernel
theorem mmno:∀ m∈q4o "mno",m∈marks/\(m = "m" \/ m = "n" \/ m = "o"):=by decide +kernel
theorem mpq:∀ m∈q4o "pq",m∈marks/\(m = "p" \/ m = "q"):=by decide +kernel
theorem mkl:∀ m∈q4o "kl",m∈marks/\(m = "k" \/ m = "l"):=by decide +kernel
theorem mall:∀ m∈q4o "pqkl567",m∈marks/\(m = "p" \/ m = "q" \/ m = "k" \/ m = "l" \/ m = "5" \/ m = "6" \/ m = "7"):=by decide +kernel
theorem mxv:("x" : Str)∈marks/\("v" : Str)∈marks:=by decide +kernel
section
variable {ns:List Int} {S:TS} {B:Nat}
theorem q4x {m:Str} (h:m = "5" \/ m = "6" \/ m = "7"):nmOf ns m∈q43 ns:=by
 unfold q43
 rcases h with rfl | rfl | rfl <;> simp
abbrev SCR (ns:List Int):AV:=.kst (ns.map AV.int)
theorem qh2 (I:TI ns S B) (hB:B<=1000) {r:Int} {x4 x5 x6:Option AV} (hm:S.made<10) :
  ∃ d S',Next ns S d S'/\∃ y4 y5,sSeq (sAsg (aC m_qi (q02 (aVar 1) (q02 (a2 q2f (aK (.str "a")) (aC q3n (q02 (a2 q08 (aVar 0) (aK (.str "made"))) aNil))) aNil))) (gN 4))
 (sSeq (q1h (aVar 0) (aK (.str "made")) (a2 fAdd (a2 q08 (aVar 0) (aK (.str "made"))) (aK (.int 1))))
 (sSeq (q1h (a2 q08 (aVar 0) (aK (.str "lies"))) (aVar 4) (a2 q08 (aVar 3) (a2 fIxS (aK (.str "567")) (a2 fMod (a2 fDiv (aVar 2) (aK (.int 2))) (aK (.int 3))))))
 (sSeq (sAsg (aTup (q02 (a2 q08 (aVar 0) (aK (.str "day"))) (q02 (aK (.str "wheel")) (q02 (aVar 4) (q02 (a2 q08 (aVar 3) (a2 fIxS (aK (.str "mno")) (a2 fMod (a2 fDiv (aVar 2) (aK (.int 6))) (aK (.int 3))))) (q02 (a2 q08 (aVar 3) (aK (.str "v"))) (q02 (a2 q08 (a2 q08 (aVar 0) (aK (.str "lies"))) (aVar 4)) (q02 (aK (.int 1000)) aNil)))))))) (gN 5))
 (q0q (aMtL q15 (a2 q08 (aVar 0) (aK (.str "book"))) (q02 (aVar 5) aNil))))))
 [some (.ref 4),some (SCR ns),some (.int r),some (.ref 0),x4,x5,x6] (HT ns S)=.nx [some (.ref 4),some (SCR ns),some (.int r),some (.ref 0),y4,y5,x6] (HT ns S'):=by
 obtain ⟨l2,n2,lg,tl⟩:=q8h S.made hm
 have hsz:(20:Nat)<=sizeLine:=by decide
 have s1:sAsg (aC m_qi (q02 (aVar 1) (q02 (a2 q2f (aK (.str "a")) (aC q3n (q02 (a2 q08 (aVar 0) (aK (.str "made"))) aNil))) aNil))) (gN 4) [some (.ref 4),some (SCR ns),some (.int r),some (.ref 0),x4,x5,x6] (HT ns S)=.nx [some (.ref 4),some (SCR ns),some (.int r),some (.ref 0),some (.str (wA ns S.made)),x5,x6] (HT ns S):=by
  have g4:=h4 (ns:=ns) (S:=S)
  have hb:=qbi (S:=S)
  have hn:=q5m ns (m:=aN S.made) (HT ns S) (by omega)
  have e1:aC q3n (q02 (a2 q08 (aVar 0) (aK (.str "made"))) aNil) [some (.ref 4),some (SCR ns),some (.int r),some (.ref 0),x4,x5,x6] (HT ns S)=.ok (.str (Str.ofString (toString (S.made:Int)))) (HT ns S):=by
   generalize HT ns S=H at *
   have lg':S.made.log2<1920:=lg
   simp [g4,hb,lg']
  have h1l:("a" : Str).length=1:=rfl
  have e2:a2 q2f (aK (.str "a")) (aC q3n (q02 (a2 q08 (aVar 0) (aK (.str "made"))) aNil)) [some (.ref 4),some (SCR ns),some (.int r),some (.ref 0),x4,x5,x6] (HT ns S)=.ok (.str (aN S.made)) (HT ns S):=by
   show ((aC q3n _ _ _).bind _)=_
   rw [e1]
   simp only [Re.q3h,q2f]
   rw [if_pos (by omega)];rfl
  refine q53 (q2n (vs:=[SCR ns, .str (aN S.made)]) (h1:=HT ns S) (c_ok rfl (c_ok e2 rfl)) ?_)
  exact hn
 let S1:TS:={S with made:=S.made+1}
 have s2:q1h (aVar 0) (aK (.str "made")) (a2 fAdd (a2 q08 (aVar 0) (aK (.str "made"))) (aK (.int 1))) [some (.ref 4),some (SCR ns),some (.int r),some (.ref 0),some (.str (wA ns S.made)),x5,x6] (HT ns S)=.nx [some (.ref 4),some (SCR ns),some (.int r),some (.ref 0),some (.str (wA ns S.made)),x5,x6] (HT ns S1):=by
  have g4:=h4 (ns:=ns) (S:=S)
  have hb:=qbi (S:=S)
  have hp:=qm4 (S:=S) (S.made+1)
  rw [Int.natCast_add] at hp
  have hs:=st4m (ns:=ns) (S:=S) (S.made+1)
  have hl:=qjj
  show _=SRe.nx _ (HT ns {S with made:=S.made+1})
  rw [<- hs]
  simp only [Int.natCast_one,Int.ofNat_one] at hp
  generalize HT ns S=H at *
  generalize SV {S with made:=S.made+1}=V2 at *
  simp [g4,hb,hp,hl]
 obtain ⟨m1,hm1,en1⟩:=q59 (ns:=ns) (z:="567") (i:=r / 2 % 3) (H:=HT ns S1) (e:=a2 fMod (a2 fDiv (aVar 2) (aK (.int 2))) (aK (.int 3))) (env:=[some (.ref 4),some (SCR ns),some (.int r),some (.ref 0),some (.str (wA ns S.made)),x5,x6]) (k:=3) (by decide) (by omega) (by show r / 2 % 3<((3:Nat):Int);omega) (fun m hm=>(m567 m hm).1) rfl rfl (by generalize HT ns S1=H;simp)
 have hsh:=q4x (ns:=ns) (m567 m1 hm1).2
 let S2:TS:={S1 with lies:=putL S.lies (wA ns S.made) (nmOf ns m1)}
 have s3:q1h (a2 q08 (aVar 0) (aK (.str "lies"))) (aVar 4) (a2 q08 (aVar 3) (a2 fIxS (aK (.str "567")) (a2 fMod (a2 fDiv (aVar 2) (aK (.int 2))) (aK (.int 3))))) [some (.ref 4),some (SCR ns),some (.int r),some (.ref 0),some (.str (wA ns S.made)),x5,x6] (HT ns S1)=.nx [some (.ref 4),some (SCR ns),some (.int r),some (.ref 0),some (.str (wA ns S.made)),x5,x6] (HT ns S2):=by
  have g4:=h4 (ns:=ns) (S:=S1)
  have g2:=h2 (ns:=ns) (S:=S1)
  have hb:=q4t (S:=S1)
  have hp:=qe0 S.lies (wA ns S.made) (nmOf ns m1)
  have hs:=st2 (ns:=ns) (S:=S1) (putL S.lies (wA ns S.made) (nmOf ns m1))
  have hl:(kL S1.lies).length<sizeLine:=by unfold kL;rw [List.length_map];have:=I.lli;exact Nat.lt_of_le_of_lt (show S.lies.length<=10 by have:=I.made;omega) (by decide)
  show _=SRe.nx _ (HT ns {S1 with lies:=putL S.lies (wA ns S.made) (nmOf ns m1)})
  rw [<- hs]
  unfold q1h
  rw [en1]
  have hS1:S1.lies=S.lies:=rfl
  rw [hS1] at g2 hl
  generalize HT ns S1=H at *
  simp [g4,hb,g2,hp,hl]
 obtain ⟨m2,hm2,en2⟩:=q59 (ns:=ns) (z:="mno") (i:=r / 6 % 3) (H:=HT ns S2) (e:=a2 fMod (a2 fDiv (aVar 2) (aK (.int 6))) (aK (.int 3))) (env:=[some (.ref 4),some (SCR ns),some (.int r),some (.ref 0),some (.str (wA ns S.made)),x5,x6]) (k:=3) (by decide) (by omega) (by show r / 6 % 3<((3:Nat):Int);omega) (fun m hm=>(mmno m hm).1) rfl rfl (by generalize HT ns S2=H;simp)
 have hnew:=qe9 I hm
 have hgl:getL S2.lies (wA ns S.made)=some (nmOf ns m1):=by
  show getL (putL S.lies (wA ns S.made) (nmOf ns m1)) _=_
  rw [q68 hnew]
  unfold getL
  rw [List.find?_append,List.find?_eq_none.mpr fun z hz=>by
   have:z.1≠wA ns S.made:=fun e=>hnew (List.mem_map.mpr ⟨z,hz,e⟩)
   simp [this]]
  simp
 let d:De:=.wheel (wA ns S.made) (nmOf ns m2) (nmOf ns "v") (nmOf ns m1) 1000
 have s4:sAsg (aTup (q02 (a2 q08 (aVar 0) (aK (.str "day"))) (q02 (aK (.str "wheel")) (q02 (aVar 4) (q02 (a2 q08 (aVar 3) (a2 fIxS (aK (.str "mno")) (a2 fMod (a2 fDiv (aVar 2) (aK (.int 6))) (aK (.int 3))))) (q02 (a2 q08 (aVar 3) (aK (.str "v"))) (q02 (a2 q08 (a2 q08 (aVar 0) (aK (.str "lies"))) (aVar 4)) (q02 (aK (.int 1000)) aNil)))))))) (gN 5) [some (.ref 4),some (SCR ns),some (.int r),some (.ref 0),some (.str (wA ns S.made)),x5,x6] (HT ns S2)=.nx [some (.ref 4),some (SCR ns),some (.int r),some (.ref 0),some (.str (wA ns S.made)),some (d.av (S.day:Int)),x6] (HT ns S2):=by
  have g4:=h4 (ns:=ns) (S:=S2)
  have g2:=h2 (ns:=ns) (S:=S2)
  have hb:=q4t (S:=S2)
  have hv:=q6u (wA ns S.made) S2.lies
  rw [hgl] at hv
  have hv:dval (kL S2.lies) (vL S2.lies) (.inr (wA ns S.made))=some (.str (nmOf ns m1)):=hv
  refine q53 (t_ok (c_ok (q5c (ns:=ns) (S:=S2) rfl) (c_ok rfl (c_ok rfl (c_ok en2 (c_ok (q4l mxv.2 rfl 3 rfl rfl) (c_ok ?_ (c_ok rfl rfl))))))))
  generalize HT ns S2=H at *
  simp [g4,hb,g2,hv]
 have s5:=say (ns:=ns) (S:=S2) (d:=d) (env:=[some (.ref 4),some (SCR ns),some (.int r),some (.ref 0),some (.str (wA ns S.made)),some (d.av (S.day:Int)),x6]) (t:=aVar 5) rfl rfl (by have:=I.len;show S.book.length<=10000;omega)
 refine ⟨d, {S2 with book:=S2.book++[((S2.day:Int),d)]},⟨rfl,rfl,hm,rfl,?_,rfl,hsh,rfl,rfl,rfl,rfl,rfl⟩,some (.str (wA ns S.made)),some (d.av (S.day:Int)),?_⟩
 ·rcases (mmno m2 hm2).2 with rfl | rfl | rfl <;> simp
 ·rw [q0m s1,q0m s2,q0m s3,q0m s4,s5]
end
end TL
namespace TL
open PySem L2 Z PM KR NMS
section
variable {ns:List Int} {S:TS} {B:Nat}
theorem qea:∀ (l:List Str) (i:Nat),sA (l.eraseIdx i)=(sA l).eraseIdx i
 | [],_=>rfl
 | _::_,0=>rfl
 | x::r,i+1=>by
  show AV.str x::sA (r.eraseIdx i)=AV.str x::(sA r).eraseIdx i
  rw [qea r i]
def Nx (ns:List Int) (S S':TS):Prop:=S'=S\/∃ d,Next ns S d S'
theorem qnm (I:TI ns S B) (hB:B<=1000) {r:Int}:∃ S',Nx ns S S'/\m_qq [.ref 4,SCR ns, .int r] (HT ns S)=.ok .non (HT ns S'):=by
 have g4:=h4 (ns:=ns) (S:=S)
 have s1:sAsg (a2 q08 (aVar 0) (aK (.str "names"))) (gN 3) [some (.ref 4),some (SCR ns),some (.int r),none,none,none,none] (HT ns S)=.nx [some (.ref 4),some (SCR ns),some (.int r),some (.ref 0),none,none,none] (HT ns S):=by
  have hb:=qdk (S:=S)
  generalize HT ns S=H at *
  simp [g4,hb]
 have cnd:aAnd (aB (a2 fEq (a2 fMod (aVar 2) (aK (.int 2))) (aK (.int 0)))) (aB (a2 fLt (a2 q08 (aVar 0) (aK (.str "made"))) (aK (.int 10)))) [some (.ref 4),some (SCR ns),some (.int r),some (.ref 0),none,none,none] (HT ns S)=.ok (decide (r % 2=0) && decide (S.made<10)) (HT ns S):=by
  have hb:=qbi (S:=S)
  generalize HT ns S=H at *
  by_cases q:r % 2=0
  ·by_cases q2:S.made<10
   ·have:(S.made:Int)<10:=by omega
    simp [g4,hb,q,q2,this]
   ·have:¬ (S.made:Int)<10:=by omega
    simp [g4,hb,q,q2,this]
  ·simp [q]
 by_cases hc:(decide (r % 2=0) && decide (S.made<10))=true
 ·have hm:S.made<10:=by simp at hc;exact hc.2
  obtain ⟨d,S',hn,y4,y5,e⟩:=qh2 (x4:=none) (x5:=none) (x6:=none) (r:=r) I hB hm
  refine ⟨S', .inr ⟨d,hn⟩,?_⟩
  show ((sSeq _ _ [some (.ref 4),some (SCR ns),some (.int r),none,none,none,none] (HT ns S)).out)=_
  rw [q0m s1]
  unfold sIf
  rw [cnd,hc]
  simp only [Re.q2e,if_true]
  rw [e]
  rfl
 ·have hc:(decide (r % 2=0) && decide (S.made<10))=false:=by simpa using hc
  have hb:=qbz (S:=S)
  have g3:=h3 (ns:=ns) (S:=S)
  cases hu:S.unsold with
  | nil =>
   refine ⟨S, .inl rfl,?_⟩
   show ((sSeq _ _ [some (.ref 4),some (SCR ns),some (.int r),none,none,none,none] (HT ns S)).out)=_
   rw [q0m s1]
   unfold sIf
   rw [cnd,hc]
   rw [hu] at g3
   generalize HT ns S=H at *
   simp [g4,hb,g3,sA]
  | cons u us =>
   have hp:0<S.unsold.length:=by rw [hu];simp
   obtain ⟨i,hi,ei⟩:∃ i:Nat,i<S.unsold.length/\r / 2 % (S.unsold.length:Int)=(i:Int):=by
    have a:=Int.emod_nonneg (r / 2) (show ((S.unsold.length:Nat):Int)≠0 by omega)
    have b:=Int.emod_lt_of_pos (r / 2) (show (0:Int)<((S.unsold.length:Nat):Int) by omega)
    exact ⟨(r / 2 % (S.unsold.length:Int)).toNat,by omega,by omega⟩
   obtain ⟨x,hx⟩:∃ x,S.unsold[i]?=some x:=⟨_,List.getElem?_eq_getElem hi⟩
   let S1:TS:={S with unsold:=S.unsold.eraseIdx i}
   have hs:=st3 (ns:=ns) (S:=S) (S.unsold.eraseIdx i)
   have eE:=qea S.unsold i
   rw [eE] at hs
   have hix:(sA S.unsold)[i]?=some (.str x):=by unfold sA;rw [List.getElem?_map,hx];rfl
   have hln:(sA S.unsold).length=S.unsold.length:=by unfold sA;simp
   have hne:(sA S.unsold).isEmpty=false:=by unfold sA;rw [hu];rfl
   have s2:sAsg (aMtL qf2 (a2 q08 (aVar 0) (aK (.str "unsold"))) (q02 (a2 fMod (a2 fDiv (aVar 2) (aK (.int 2))) (aC fLen (q02 (a2 q08 (aVar 0) (aK (.str "unsold"))) aNil))) aNil)) (gN 6) [some (.ref 4),some (SCR ns),some (.int r),some (.ref 0),none,none,none] (HT ns S)=.nx [some (.ref 4),some (SCR ns),some (.int r),some (.ref 0),none,none,some (.str x)] (HT ns S1):=by
    show _=SRe.nx _ (HT ns {S with unsold:=S.unsold.eraseIdx i})
    rw [<- hs]
    have hp':0<S.unsold.length:=hp
    have hil:i<(sA S.unsold).length:=by omega
    have hat:atI (sA S.unsold) (i:Int)=some (.str x):=q0w hix
    have hlz:S.unsold.length<=10000:=by have:=I.lus;omega
    have hi16:i<=16777216:=by omega
    generalize HT ns S=H at *
    generalize sA S.unsold=U at *
    have hUi:U[i]=.str x:=(List.getElem?_eq_some_iff.mp hix).2
    simp [g4,hb,g3,hln,hp',ei,hat,hil,hi16,hUi,hi]
   have s3:=say (ns:=ns) (S:=S1) (d:=.sell x) (env:=[some (.ref 4),some (SCR ns),some (.int r),some (.ref 0),none,none,some (.str x)]) (t:=aTup (q02 (a2 q08 (aVar 0) (aK (.str "day"))) (q02 (aK (.str "sell")) (q02 (aVar 6) aNil)))) rfl (t_ok (c_ok (q5c (ns:=ns) (S:=S1) rfl) (c_ok rfl (c_ok rfl rfl)))) (by have:=I.len;show S.book.length<=10000;omega)
   refine ⟨{S1 with book:=S1.book++[((S1.day:Int),De.sell x)]}, .inr ⟨.sell x,rfl,rfl,⟨i,hx,rfl⟩,rfl,rfl,rfl⟩,?_⟩
   show ((sSeq _ _ [some (.ref 4),some (SCR ns),some (.int r),none,none,none,none] (HT ns S)).out)=_
   rw [q0m s1]
   unfold sIf
   rw [cnd,hc]
   simp only [Re.q2e]
   rw [if_neg Bool.false_ne_true]
   have cn2:aB (a2 qaj (a2 q08 (aVar 0) (aK (.str "unsold"))) (aLst aNil)) [some (.ref 4),some (SCR ns),some (.int r),some (.ref 0),none,none,none] (HT ns S)=.ok true (HT ns S):=by
    generalize HT ns S=H at *
    generalize sA S.unsold=U at *
    simp [g4,hb,g3,hne]
   rw [cn2]
   simp only [Re.q2e,if_true]
   rw [q0m s2,s3]
   rfl
end
end TL
namespace TL
open PySem L2 Z PM KR NMS
section
variable {ns:List Int} {S:TS} {B:Nat}
theorem qhi (I:TI ns S B) (hB:B<=1000) {c:Int} {x4 x6 x7 x8:Option AV} :
  ∃ S',Next ns S (.night (q2c ns S)) S'/\sSeq (sAsg (aLc 1 [3,0] (iLst (aVar 5)) (gN 0) aYes (aTup (q02 (aVar 0) (q02 (a2 q08 (aVar 1) (aK (.str "x"))) (q02 (a2 q08 (a2 q08 (aVar 2) (aK (.str "lies"))) (aVar 0)) (q02 (aK (.int 0)) aNil)))))) (gN 6))
 (sSeq (q0q (aMtL q15 (a2 q08 (aVar 0) (aK (.str "book"))) (q02 (aTup (q02 (a2 q08 (aVar 0) (aK (.str "day"))) (q02 (aK (.str "night")) (q02 (aC q80 (q02 (aVar 6) aNil)) aNil)))) aNil)))
 (sSeq (q1h (aVar 0) (aK (.str "day")) (a2 fAdd (a2 q08 (aVar 0) (aK (.str "day"))) (aK (.int 1))))
 qho)) [some (.ref 4),some (SCR ns),some (.int c),some (.ref 0),x4,some (.lst (sA (S.lies.map (·.1)))),x6,x7,x8] (HT ns S)=.rt .non (HT ns S'):=by
 have k1:=q2w (wt:=none) (all:=sA (S.lies.map (·.1))) (g:=gN 0) (te:=aTup (q02 (aVar 0) (q02 (a2 q08 (aVar 1) (aK (.str "x"))) (q02 (a2 q08 (a2 q08 (aVar 2) (aK (.str "lies"))) (aVar 0)) (q02 (aK (.int 0)) aNil))))) (be:=[none,some (.ref 0),some (.ref 4)]) (h:=HT ns S) (k:=fun z:Str×Str=>AV.str z.1) (f:=fun z=>rwA (z.1,nmOf ns "x",z.2,0)) q0x S.lies [] (fun z hz=>by
  have g4:=h4 (ns:=ns) (S:=S)
  have g2:=h2 (ns:=ns) (S:=S)
  have hb:=q4t (S:=S)
  have hv:=q6u z.1 S.lies
  rw [q7g I.nd (x:=z.1) (y:=z.2) hz] at hv
  have hv:dval (kL S.lies) (vL S.lies) (.inr z.1)=some (.str z.2):=hv
  refine ⟨_,rfl,t_ok (c_ok rfl (c_ok (q4l mxv.1 rfl 1 rfl rfl) (c_ok ?_ (c_ok rfl rfl))))⟩
  generalize HT ns S=H at *
  simp [g4,hb,g2,hv])
 rw [List.nil_append] at k1
 have hk:S.lies.map (fun z=>AV.str z.1)=sA (S.lies.map (·.1)):=by unfold sA;rw [List.map_map];rfl
 rw [hk] at k1
 have hR:(q2c ns S).map rwA=S.lies.map fun z=>rwA (z.1,nmOf ns "x",z.2,0):=by unfold q2c;rw [List.map_map];rfl
 rw [<- hR] at k1
 have hsz:(sA (S.lies.map (·.1))).length<=sizeLine:=by unfold sA;rw [List.length_map,List.length_map];have:=I.lli;have:=I.made;exact Nat.le_trans (show _<=10 by omega) (by decide)
 have s1:sAsg (aLc 1 [3,0] (iLst (aVar 5)) (gN 0) aYes (aTup (q02 (aVar 0) (q02 (a2 q08 (aVar 1) (aK (.str "x"))) (q02 (a2 q08 (a2 q08 (aVar 2) (aK (.str "lies"))) (aVar 0)) (q02 (aK (.int 0)) aNil)))))) (gN 6) [some (.ref 4),some (SCR ns),some (.int c),some (.ref 0),x4,some (.lst (sA (S.lies.map (·.1)))),x6,x7,x8] (HT ns S)=.nx [some (.ref 4),some (SCR ns),some (.int c),some (.ref 0),x4,some (.lst (sA (S.lies.map (·.1)))),some (.lst ((q2c ns S).map rwA)),x7,x8] (HT ns S):=by
  generalize sA (S.lies.map (·.1))=K at *
  generalize (q2c ns S).map rwA=R at *
  generalize HT ns S=H at *
  simp [bEnv,hsz,k1]
 have s2:=say (ns:=ns) (S:=S) (d:=.night (q2c ns S)) (env:=[some (.ref 4),some (SCR ns),some (.int c),some (.ref 0),x4,some (.lst (sA (S.lies.map (·.1)))),some (.lst ((q2c ns S).map rwA)),x7,x8]) (t:=aTup (q02 (a2 q08 (aVar 0) (aK (.str "day"))) (q02 (aK (.str "night")) (q02 (aC q80 (q02 (aVar 6) aNil)) aNil)))) rfl (t_ok (c_ok (q5c rfl) (c_ok rfl (c_ok (by
  generalize HT ns S=H
  generalize hR2:(q2c ns S).map rwA=R
  show aC q80 (q02 (aVar 6) aNil) [_,_,_,_,_,_,some (.lst R),_,_] H=.ok (.tup R) H
  simp) rfl)))) (by have:=I.len;omega)
 let S1:TS:={S with book:=S.book++[((S.day:Int),De.night (q2c ns S))]}
 let S2:TS:={S1 with day:=S.day+1}
 have s3:q1h (aVar 0) (aK (.str "day")) (a2 fAdd (a2 q08 (aVar 0) (aK (.str "day"))) (aK (.int 1))) [some (.ref 4),some (SCR ns),some (.int c),some (.ref 0),x4,some (.lst (sA (S.lies.map (·.1)))),some (.lst ((q2c ns S).map rwA)),x7,x8] (HT ns S1)=.nx [some (.ref 4),some (SCR ns),some (.int c),some (.ref 0),x4,some (.lst (sA (S.lies.map (·.1)))),some (.lst ((q2c ns S).map rwA)),x7,x8] (HT ns S2):=by
  have g4:=h4 (ns:=ns) (S:=S1)
  have hb:=qe7 (S:=S1)
  have hp:=qn9 (S:=S1) (S.day+1)
  rw [Int.natCast_add] at hp
  have hs:=st4d (ns:=ns) (S:=S1) (S.day+1)
  have hl:=qjj
  show _=SRe.nx _ (HT ns {S1 with day:=S.day+1})
  rw [<- hs]
  simp only [Int.natCast_one,Int.ofNat_one] at hp
  have hd:S1.day=S.day:=rfl
  rw [hd] at hb
  generalize sA (S.lies.map (·.1))=K at *
  generalize (q2c ns S).map rwA=R at *
  generalize HT ns S1=H at *
  generalize SV {S1 with day:=S.day+1}=V2 at *
  simp [g4,hb,hp,hl]
 refine ⟨S2,⟨rfl,rfl,rfl,rfl,rfl,rfl,rfl⟩,?_⟩
 rw [q0m s1,q0m s2,q0m s3]
 generalize HT ns S2=H
 simp
def qh9:AS:=sIf (aB (a2 fLt (a2 fMod (aVar 2) (aK (.int 8))) (aK (.int 5))))
 (sSeq (sAsg (aTup (q02 (a2 q08 (aVar 0) (aK (.str "day"))) (q02 (aK (.str "wash")) (q02 (aVar 7) (q02 (a2 q08 (aVar 3) (a2 fIxS (aK (.str "pq")) (a2 fMod (aVar 4) (aK (.int 2))))) (q02 (a2 q08 (aVar 3) (a2 fIxS (aK (.str "kl")) (a2 fMod (a2 fDiv (aVar 4) (aK (.int 2))) (aK (.int 2))))) aNil)))))) (gN 8))
 (q0q (aMtL q15 (a2 q08 (aVar 0) (aK (.str "book"))) (q02 (aVar 8) aNil))))
 (sIf (aB (a2 fEq (a2 fMod (aVar 2) (aK (.int 8))) (aK (.int 5))))
 (sSeq (q1h (a2 q08 (aVar 0) (aK (.str "lies"))) (aVar 7) (a2 q08 (aVar 3) (a2 fIxS (aK (.str "567")) (a2 fMod (aVar 4) (aK (.int 3))))))
 (q0q (aMtL q15 (a2 q08 (aVar 0) (aK (.str "book"))) (q02 (aTup (q02 (a2 q08 (aVar 0) (aK (.str "day"))) (q02 (aK (.str "move")) (q02 (aVar 7) (q02 (a2 q08 (a2 q08 (aVar 0) (aK (.str "lies"))) (aVar 7)) aNil))))) aNil))))
 (sIf (aB (a2 fEq (a2 fMod (aVar 2) (aK (.int 8))) (aK (.int 6))))
 (sIf (aB (a2 fEq (a2 fMod (aVar 4) (aK (.int 3))) (aK (.int 0))))
 (q0q (aC m_qe (q02 (aVar 0) (q02 (aVar 7) (q02 (a2 fIx (aLst (q02 (aK (.int 1)) (q02 (aK (.int 2)) (q02 (aK (.int 3)) (q02 (aK (.int 8)) aNil))))) (a2 fMod (a2 fDiv (aVar 4) (aK (.int 3))) (aK (.int 4)))) aNil)))))
 (q0q (aMtL q15 (a2 q08 (aVar 0) (aK (.str "book"))) (q02 (aTup (q02 (a2 q08 (aVar 0) (aK (.str "day"))) (q02 (aK (.str "boil")) (q02 (a2 q08 (aVar 3) (a2 fIxS (aK (.str "pqkl567")) (a2 fMod (a2 fDiv (aVar 4) (aK (.int 3))) (aK (.int 7))))) aNil)))) aNil))))
 (q0q (aC m_qq (q02 (aVar 0) (q02 (aVar 1) (q02 (aVar 4) aNil)))))))
def qi3:AS:=sSeq (sAsg (a2 fIx (aVar 5) (a2 fMod (aVar 4) (aC fLen (q02 (aVar 5) aNil)))) (gN 7))
 (sSeq (sAsg (a2 fDiv (aVar 4) (aC fLen (q02 (aVar 5) aNil))) (gN 4))
 qh9)
theorem four {i:Int} (h0:0<=i) (h1:i<4):∃ n:Nat,n∈[1,2,3,8]/\atI [AV.int 1, .int 2, .int 3, .int 8] i=some (.int (n:Int)):=by
 rcases (show i=0\/i=1\/i=2\/i=3 by omega) with rfl | rfl | rfl | rfl
 ·exact ⟨1,by simp,rfl⟩
 ·exact ⟨2,by simp,rfl⟩
 ·exact ⟨3,by simp,rfl⟩
 ·exact ⟨8,by simp,rfl⟩
theorem qmo (I:TI ns S B) (hB:B<=1000) {c q:Int} (hne:S.lies≠[]) :
  ∃ S' env',Nx ns S S'/\qi3 [some (.ref 4),some (SCR ns),some (.int c),some (.ref 0),some (.int q),some (.lst (sA (S.lies.map (·.1)))),none,none,none] (HT ns S)=.nx env' (HT ns S'):=by
 have hL:0<S.lies.length:=List.length_pos_iff.mpr hne
 have hlen:(sA (S.lies.map (·.1))).length=S.lies.length:=by unfold sA;simp
 have hl10:S.lies.length<=10:=by have:=I.lli;have:=I.made;omega
 obtain ⟨i,hi,ei⟩:∃ i:Nat,i<S.lies.length/\q % (S.lies.length:Int)=(i:Int):=by
  have a:=Int.emod_nonneg q (show ((S.lies.length:Nat):Int)≠0 by omega)
  have b:=Int.emod_lt_of_pos q (show (0:Int)<((S.lies.length:Nat):Int) by omega)
  exact ⟨(q % (S.lies.length:Int)).toNat,by omega,by omega⟩
 obtain ⟨z,hz⟩:∃ z,S.lies[i]?=some z:=⟨_,List.getElem?_eq_getElem hi⟩
 have hzm:z∈S.lies:=List.mem_of_getElem? hz
 have hw:z.1∈S.lies.map (·.1):=List.mem_map.mpr ⟨z,hzm,rfl⟩
 have hat:atI (sA (S.lies.map (·.1))) (i:Int)=some (.str z.1):=q0w (by unfold sA;rw [List.getElem?_map,List.getElem?_map,hz];rfl)
 let q2:Int:=q / (S.lies.length:Int)
 have s1:sAsg (a2 fIx (aVar 5) (a2 fMod (aVar 4) (aC fLen (q02 (aVar 5) aNil)))) (gN 7) [some (.ref 4),some (SCR ns),some (.int c),some (.ref 0),some (.int q),some (.lst (sA (S.lies.map (·.1)))),none,none,none] (HT ns S)=.nx [some (.ref 4),some (SCR ns),some (.int c),some (.ref 0),some (.int q),some (.lst (sA (S.lies.map (·.1)))),none,some (.str z.1),none] (HT ns S):=by
  generalize sA (S.lies.map (·.1))=K at *
  generalize HT ns S=H
  simp [hlen,hL,ei,hat]
 have s2:sAsg (a2 fDiv (aVar 4) (aC fLen (q02 (aVar 5) aNil))) (gN 4) [some (.ref 4),some (SCR ns),some (.int c),some (.ref 0),some (.int q),some (.lst (sA (S.lies.map (·.1)))),none,some (.str z.1),none] (HT ns S)=.nx [some (.ref 4),some (SCR ns),some (.int c),some (.ref 0),some (.int q2),some (.lst (sA (S.lies.map (·.1)))),none,some (.str z.1),none] (HT ns S):=by
  have hb:(S.lies.length:Int)<1073741824:=by omega
  generalize sA (S.lies.map (·.1))=K at *
  generalize HT ns S=H
  simp [hlen,hL,hb,q2]
 clear_value q2
 generalize hE:([some (.ref 4),some (SCR ns),some (.int c),some (.ref 0),some (.int q2),some (.lst (sA (S.lies.map (·.1)))),none,some (.str z.1),none]:AEnv)=E at s2
 have v0:∀ H,aVar 0 E H=.ok (.ref 4) H:=fun H=>by subst hE;rfl
 have v1:∀ H,aVar 1 E H=.ok (SCR ns) H:=fun H=>by subst hE;rfl
 have v3:∀ H,aVar 3 E H=.ok (.ref 0) H:=fun H=>by subst hE;rfl
 have v4:∀ H,aVar 4 E H=.ok (.int q2) H:=fun H=>by subst hE;rfl
 have v7:∀ H,aVar 7 E H=.ok (.str z.1) H:=fun H=>by subst hE;rfl
 have m8:∀ H,a2 fMod (aVar 2) (aK (.int 8)) E H=.ok (.int (c % 8)) H:=fun H=>by subst hE;simp
 have hbk:S.book.length<=10000:=by have:=I.len;omega
 unfold qi3
 have fin:∃ S' env',Nx ns S S'/\qh9 E (HT ns S)=.nx env' (HT ns S'):=by
  unfold qh9
  have cLt:aB (a2 fLt (a2 fMod (aVar 2) (aK (.int 8))) (aK (.int 5))) E (HT ns S)=.ok (decide (c % 8<5)) (HT ns S):=by
   have:=m8 (HT ns S)
   generalize HT ns S=H at *
   show Re.bind (Re.bind (a2 fMod (aVar 2) (aK (.int 8)) E H) _) _=_
   rw [this];rfl
  have cEq:∀ n:Int,aB (a2 fEq (a2 fMod (aVar 2) (aK (.int 8))) (aK (.int n))) E (HT ns S)=.ok (decide (c % 8=n)) (HT ns S):=fun n=>by
   have:=m8 (HT ns S)
   generalize HT ns S=H at *
   show Re.bind (Re.bind (a2 fMod (aVar 2) (aK (.int 8)) E H) _) _=_
   rw [this];rfl
  by_cases d1:c % 8<5
  ·
   obtain ⟨m1,hm1,en1⟩:=q59 (ns:=ns) (z:="pq") (i:=q2 % 2) (H:=HT ns S) (e:=a2 fMod (aVar 4) (aK (.int 2))) (env:=E) (k:=3) (by decide) (by omega) (by show q2 % 2<((2:Nat):Int);omega) (fun m hm=>(mpq m hm).1) (v3 _) rfl (by
    have:=v4 (HT ns S)
    generalize HT ns S=H at *
    show Re.bind (aVar 4 E H) _=_
    rw [this];simp)
   obtain ⟨m2,hm2,en2⟩:=q59 (ns:=ns) (z:="kl") (i:=q2 / 2 % 2) (H:=HT ns S) (e:=a2 fMod (a2 fDiv (aVar 4) (aK (.int 2))) (aK (.int 2))) (env:=E) (k:=3) (by decide) (by omega) (by show q2 / 2 % 2<((2:Nat):Int);omega) (fun m hm=>(mkl m hm).1) (v3 _) rfl (by
    have:=v4 (HT ns S)
    generalize HT ns S=H at *
    show Re.bind (Re.bind (aVar 4 E H) _) _=_
    rw [this];simp)
   let d:De:=.wash z.1 (nmOf ns m1) (nmOf ns m2)
   have t1:sAsg (aTup (q02 (a2 q08 (aVar 0) (aK (.str "day"))) (q02 (aK (.str "wash")) (q02 (aVar 7) (q02 (a2 q08 (aVar 3) (a2 fIxS (aK (.str "pq")) (a2 fMod (aVar 4) (aK (.int 2))))) (q02 (a2 q08 (aVar 3) (a2 fIxS (aK (.str "kl")) (a2 fMod (a2 fDiv (aVar 4) (aK (.int 2))) (aK (.int 2))))) aNil)))))) (gN 8) E (HT ns S)=.nx (E.set 8 (some (d.av (S.day:Int)))) (HT ns S):=q53 (t_ok (c_ok (q5c (v0 _)) (c_ok rfl (c_ok (v7 _) (c_ok en1 (c_ok en2 rfl))))))
   have t2:=say (ns:=ns) (S:=S) (d:=d) (env:=E.set 8 (some (d.av (S.day:Int)))) (t:=aVar 8) (by subst hE;rfl) (by subst hE;rfl) hbk
   refine ⟨{S with book:=S.book++[((S.day:Int),d)]},E.set 8 (some (d.av (S.day:Int))), .inr ⟨d,rfl,rfl,hw,?_,?_,rfl,rfl,rfl,rfl⟩,?_⟩
   ·rcases (mpq m1 hm1).2 with rfl | rfl <;> simp
   ·rcases (mkl m2 hm2).2 with rfl | rfl <;> simp
   ·unfold sIf
    rw [cLt,decide_eq_true d1]
    simp only [Re.q2e,if_true]
    rw [q0m t1,t2]
  ·by_cases d2:c % 8=5
   ·
    obtain ⟨m1,hm1,en1⟩:=q59 (ns:=ns) (z:="567") (i:=q2 % 3) (H:=HT ns S) (e:=a2 fMod (aVar 4) (aK (.int 3))) (env:=E) (k:=3) (by decide) (by omega) (by show q2 % 3<((3:Nat):Int);omega) (fun m hm=>(m567 m hm).1) (v3 _) rfl (by
     have:=v4 (HT ns S)
     generalize HT ns S=H at *
     show Re.bind (aVar 4 E H) _=_
     rw [this];simp)
    let S1:TS:={S with lies:=putL S.lies z.1 (nmOf ns m1)}
    have t1:q1h (a2 q08 (aVar 0) (aK (.str "lies"))) (aVar 7) (a2 q08 (aVar 3) (a2 fIxS (aK (.str "567")) (a2 fMod (aVar 4) (aK (.int 3))))) E (HT ns S)=.nx E (HT ns S1):=by
     have g4:=h4 (ns:=ns) (S:=S)
     have g2:=h2 (ns:=ns) (S:=S)
     have hb:=q4t (S:=S)
     have hp:=qe0 S.lies z.1 (nmOf ns m1)
     have hs:=st2 (ns:=ns) (S:=S) (putL S.lies z.1 (nmOf ns m1))
     have hl:(kL S.lies).length<sizeLine:=by unfold kL;rw [List.length_map];exact Nat.lt_of_le_of_lt hl10 (by decide)
     show _=SRe.nx _ (HT ns {S with lies:=putL S.lies z.1 (nmOf ns m1)})
     rw [<- hs]
     unfold q1h
     rw [en1]
     have w0:=v0 (HT ns S)
     have w7:=v7 (HT ns S)
     have eb:a2 q08 (aVar 0) (aK (.str "lies")) E (HT ns S)=.ok (.ref 2) (HT ns S):=by
      show Re.bind (aVar 0 E (HT ns S)) _=_
      rw [w0]
      generalize HT ns S=H at *
      simp [g4,hb]
     generalize HT ns S=H at *
     simp only [Re.q2e,eb,w7]
     simp [g2,hp,hl]
    have hgl:getL (putL S.lies z.1 (nmOf ns m1)) z.1=some (nmOf ns m1):=by
     have hn:((putL S.lies z.1 (nmOf ns m1)).map (·.1)).Nodup:=by rw [q92 hw];exact I.nd
     refine q7g hn ?_
     unfold putL
     rw [if_pos hw]
     exact List.mem_map.mpr ⟨z,hzm,by simp⟩
    have t2:=say (ns:=ns) (S:=S1) (d:=.move z.1 (nmOf ns m1)) (env:=E) (t:=aTup (q02 (a2 q08 (aVar 0) (aK (.str "day"))) (q02 (aK (.str "move")) (q02 (aVar 7) (q02 (a2 q08 (a2 q08 (aVar 0) (aK (.str "lies"))) (aVar 7)) aNil))))) (v0 _) (t_ok (c_ok (q5c (S:=S1) (v0 _)) (c_ok rfl (c_ok (v7 _) (c_ok (by
     have g4:=h4 (ns:=ns) (S:=S1)
     have g2:=h2 (ns:=ns) (S:=S1)
     have hb:=q4t (S:=S1)
     have hv:=q6u z.1 (putL S.lies z.1 (nmOf ns m1))
     rw [hgl] at hv
     have hv:dval (kL S1.lies) (vL S1.lies) (.inr z.1)=some (.str (nmOf ns m1)):=hv
     have w0:=v0 (HT ns S1)
     have w7:=v7 (HT ns S1)
     show Re.bind (Re.bind (aVar 0 E (HT ns S1)) _) _=_
     rw [w0]
     generalize HT ns S1=H at *
     have w7':aVar 7 E H=.ok (.str z.1) H:=w7
     simp only [Re.q3h]
     simp [-aVar,g4,hb,g2,hv,w7']) rfl))))) hbk
    refine ⟨{S1 with book:=S1.book++[((S1.day:Int),De.move z.1 (nmOf ns m1))]},E, .inr ⟨.move z.1 (nmOf ns m1),rfl,rfl,hw,q4x (m567 m1 hm1).2,rfl,rfl,rfl,rfl⟩,?_⟩
    unfold sIf
    rw [cLt,decide_eq_false d1]
    simp only [Re.q2e]
    rw [if_neg Bool.false_ne_true]
    rw [cEq,decide_eq_true d2]
    simp only [Re.q2e,if_true]
    rw [q0m t1,t2]
   ·by_cases d3:c % 8=6
    ·by_cases d4:q2 % 3=0
     ·
      obtain ⟨n,hn,en⟩:=four (i:=q2 / 3 % 4) (by omega) (by omega)
      have hc:=qdc I hB hw hn
      refine ⟨cutS S z.1 n,E, .inr ⟨.cut z.1 n,rfl,rfl,hw,hn,rfl,rfl,rfl,rfl⟩,?_⟩
      have t1:q0q (aC m_qe (q02 (aVar 0) (q02 (aVar 7) (q02 (a2 fIx (aLst (q02 (aK (.int 1)) (q02 (aK (.int 2)) (q02 (aK (.int 3)) (q02 (aK (.int 8)) aNil))))) (a2 fMod (a2 fDiv (aVar 4) (aK (.int 3))) (aK (.int 4)))) aNil)))) E (HT ns S)=.nx E (HT ns (cutS S z.1 n)):=by
       refine q8o (q2n (c_ok (v0 _) (c_ok (v7 _) (c_ok (v:=.int (n:Int)) ?_ rfl))) hc)
       have w4:=v4 (HT ns S)
       generalize HT ns S=H at *
       have e1:a2 fMod (a2 fDiv (aVar 4) (aK (.int 3))) (aK (.int 4)) E H=.ok (.int (q2 / 3 % 4)) H:=by
        show Re.bind (Re.bind (aVar 4 E H) _) _=_
        rw [w4];simp
       show Re.bind (aLst _ E H) (fun x h=>Re.bind (a2 fMod (a2 fDiv (aVar 4) (aK (.int 3))) (aK (.int 4)) E h) fun y h=>fIx x y h)=_
       have e2:aLst (q02 (aK (.int 1)) (q02 (aK (.int 2)) (q02 (aK (.int 3)) (q02 (aK (.int 8)) aNil)))) E H=.ok (.lst [.int 1, .int 2, .int 3, .int 8]) H:=by simp
       rw [e2]
       simp only [Re.q3h,e1]
       simp [en]
      unfold sIf
      rw [cLt,decide_eq_false d1]
      simp only [Re.q2e]
      rw [if_neg Bool.false_ne_true,cEq,decide_eq_false d2]
      simp only [Re.q2e]
      rw [if_neg Bool.false_ne_true,cEq,decide_eq_true d3]
      simp only [Re.q2e,if_true]
      have c4:aB (a2 fEq (a2 fMod (aVar 4) (aK (.int 3))) (aK (.int 0))) E (HT ns S)=.ok true (HT ns S):=by
       have w4:=v4 (HT ns S)
       generalize HT ns S=H at *
       show Re.bind (Re.bind (Re.bind (aVar 4 E H) _) _) _=_
       rw [w4];simp [d4]
      rw [c4]
      simp only [Re.q2e,if_true]
      exact t1
     ·
      obtain ⟨m1,hm1,en1⟩:=q59 (ns:=ns) (z:="pqkl567") (i:=q2 / 3 % 7) (H:=HT ns S) (e:=a2 fMod (a2 fDiv (aVar 4) (aK (.int 3))) (aK (.int 7))) (env:=E) (k:=3) (by decide) (by omega) (by show q2 / 3 % 7<((7:Nat):Int);omega) (fun m hm=>(mall m hm).1) (v3 _) rfl (by
       have:=v4 (HT ns S)
       generalize HT ns S=H at *
       show Re.bind (Re.bind (aVar 4 E H) _) _=_
       rw [this];simp)
      have t1:=say (ns:=ns) (S:=S) (d:=.boil (nmOf ns m1)) (env:=E) (t:=aTup (q02 (a2 q08 (aVar 0) (aK (.str "day"))) (q02 (aK (.str "boil")) (q02 (a2 q08 (aVar 3) (a2 fIxS (aK (.str "pqkl567")) (a2 fMod (a2 fDiv (aVar 4) (aK (.int 3))) (aK (.int 7))))) aNil)))) (v0 _) (t_ok (c_ok (q5c (v0 _)) (c_ok rfl (c_ok en1 rfl)))) hbk
      refine ⟨{S with book:=S.book++[((S.day:Int),De.boil (nmOf ns m1))]},E, .inr ⟨.boil (nmOf ns m1),rfl,rfl,?_,rfl,rfl,rfl,rfl⟩,?_⟩
      ·rcases (mall m1 hm1).2 with rfl | rfl | rfl | rfl | rfl | rfl | rfl <;> simp
      ·unfold sIf
       rw [cLt,decide_eq_false d1]
       simp only [Re.q2e]
       rw [if_neg Bool.false_ne_true,cEq,decide_eq_false d2]
       simp only [Re.q2e]
       rw [if_neg Bool.false_ne_true,cEq,decide_eq_true d3]
       simp only [Re.q2e,if_true]
       have c4:aB (a2 fEq (a2 fMod (aVar 4) (aK (.int 3))) (aK (.int 0))) E (HT ns S)=.ok false (HT ns S):=by
        have w4:=v4 (HT ns S)
        generalize HT ns S=H at *
        show Re.bind (Re.bind (Re.bind (aVar 4 E H) _) _) _=_
        rw [w4];simp [d4]
       rw [c4]
       simp only [Re.q2e]
       rw [if_neg Bool.false_ne_true]
       exact t1
    ·
     obtain ⟨S',hN,hm⟩:=qnm (r:=q2) I hB
     refine ⟨S',E,hN,?_⟩
     have t1:q0q (aC m_qq (q02 (aVar 0) (q02 (aVar 1) (q02 (aVar 4) aNil)))) E (HT ns S)=.nx E (HT ns S'):=q8o (q2n (c_ok (v0 _) (c_ok (v1 _) (c_ok (v4 _) rfl))) hm)
     unfold sIf
     rw [cLt,decide_eq_false d1]
     simp only [Re.q2e]
     rw [if_neg Bool.false_ne_true,cEq,decide_eq_false d2]
     simp only [Re.q2e]
     rw [if_neg Bool.false_ne_true,cEq,decide_eq_false d3]
     simp only [Re.q2e]
     rw [if_neg Bool.false_ne_true]
     exact t1
 obtain ⟨S',env',hN,hf⟩:=fin
 refine ⟨S',env',hN,?_⟩
 rw [q0m s1,q0m s2]
 exact hf
end
end TL
namespace TL
open PySem L2 Z PM KR NMS
section
variable {ns:List Int} {S:TS} {B:Nat}
theorem seq_rt {s t:AS} {env:AEnv} {h h':AH} {x:AV} (e:s env h=.rt x h'):sSeq s t env h=.rt x h':=by
 show (s env h).then t=_
 rw [e];rfl
theorem if_yes {c:AT} {a b:AS} {env:AEnv} {h h':AH} {r:SRe} (hc:c env h=.ok true h') (e:a env h'=r):sIf c a b env h=r:=by
 unfold sIf
 rw [hc]
 simp only [Re.q2e,if_true]
 exact e
theorem qn8 (I:TI ns S B) (hB:B<=1000) {c:Int}:∃ S',Nx ns S S'/\m_qp [.ref 4,SCR ns, .int c] (HT ns S)=.ok .non (HT ns S'):=by
 have g4:=h4 (ns:=ns) (S:=S)
 have s1:sAsg (a2 q08 (aVar 0) (aK (.str "names"))) (gN 3) [some (.ref 4),some (SCR ns),some (.int c),none,none,none,none,none,none] (HT ns S)=.nx [some (.ref 4),some (SCR ns),some (.int c),some (.ref 0),none,none,none,none,none] (HT ns S):=by
  have hb:=qdk (S:=S)
  generalize HT ns S=H at *
  simp [g4,hb]
 have s2:sAsg (a2 fDiv (aVar 2) (aK (.int 8))) (gN 4) [some (.ref 4),some (SCR ns),some (.int c),some (.ref 0),none,none,none,none,none] (HT ns S)=.nx [some (.ref 4),some (SCR ns),some (.int c),some (.ref 0),some (.int (c / 8)),none,none,none,none] (HT ns S):=by
  generalize HT ns S=H at *
  simp
 have hkk:(kL S.lies).map keyA=sA (S.lies.map (·.1)):=by unfold kL sA;rw [List.map_map,List.map_map];rfl
 have s3:sAsg (aC q6e (q02 (a2 q08 (aVar 0) (aK (.str "lies"))) aNil)) (gN 5) [some (.ref 4),some (SCR ns),some (.int c),some (.ref 0),some (.int (c / 8)),none,none,none,none] (HT ns S)=.nx [some (.ref 4),some (SCR ns),some (.int c),some (.ref 0),some (.int (c / 8)),some (.lst (sA (S.lies.map (·.1)))),none,none,none] (HT ns S):=by
  have hb:=q4t (S:=S)
  have g2:=h2 (ns:=ns) (S:=S)
  generalize sA (S.lies.map (·.1))=K at *
  generalize HT ns S=H at *
  simp [g4,hb,g2,hkk]
 have he:(sA (S.lies.map (·.1))).isEmpty=S.lies.isEmpty:=by unfold sA;cases S.lies <;> rfl
 have cn:aOr (aB (a2 fLt (a2 fMod (aVar 2) (aK (.int 8))) (aK (.int 2)))) (aB (a2 q8c (aVar 5) (aLst aNil))) [some (.ref 4),some (SCR ns),some (.int c),some (.ref 0),some (.int (c / 8)),some (.lst (sA (S.lies.map (·.1)))),none,none,none] (HT ns S)=.ok (decide (c % 8<2) || S.lies.isEmpty) (HT ns S):=by
  generalize sA (S.lies.map (·.1))=K at *
  generalize HT ns S=H at *
  by_cases q:c % 8<2 <;> simp [q,he]
 by_cases hc:(decide (c % 8<2) || S.lies.isEmpty)=true
 ·obtain ⟨S',hN,e⟩:=qhi (c:=c) (x4:=some (.int (c / 8))) (x6:=none) (x7:=none) (x8:=none) I hB
  refine ⟨S', .inr ⟨_,hN⟩,?_⟩
  show ((sSeq _ _ [some (.ref 4),some (SCR ns),some (.int c),none,none,none,none,none,none] (HT ns S)).out)=_
  rw [q0m s1,q0m s2,q0m s3,seq_rt (if_yes (by rw [cn,hc]) e)]
  rfl
 ·have hc:(decide (c % 8<2) || S.lies.isEmpty)=false:=by simpa using hc
  have hne:S.lies≠[]:=fun z=>by rw [z] at hc;simp at hc
  obtain ⟨S',env',hN,e⟩:=qmo (c:=c) (q:=c / 8) I hB hne
  refine ⟨S',hN,?_⟩
  have s4:∀ A:AS,sIf (aOr (aB (a2 fLt (a2 fMod (aVar 2) (aK (.int 8))) (aK (.int 2)))) (aB (a2 q8c (aVar 5) (aLst aNil)))) A q10 [some (.ref 4),some (SCR ns),some (.int c),some (.ref 0),some (.int (c / 8)),some (.lst (sA (S.lies.map (·.1)))),none,none,none] (HT ns S)=.nx [some (.ref 4),some (SCR ns),some (.int c),some (.ref 0),some (.int (c / 8)),some (.lst (sA (S.lies.map (·.1)))),none,none,none] (HT ns S):=fun A=>by
   unfold sIf
   rw [cn,hc];rfl
  show ((sSeq _ _ [some (.ref 4),some (SCR ns),some (.int c),none,none,none,none,none,none] (HT ns S)).out)=_
  rw [q0m s1,q0m s2,q0m s3,q0m (s4 _)]
  show (qi3 _ _).out=_
  rw [e]
  rfl
def q0t (ns:List Int):Nat:=match cz ns 1 / 12 % 5 with
 | 2=>1
 | 3=>25
 | 4=>200
 | _=>0
theorem qbg (ns:List Int):atI [AV.int 0, .int 0, .int 1, .int 25, .int 200] (cz ns 1 / 12 % 5)=some (.int (q0t ns:Int))/\q0t ns<=200:=by
 have a:=Int.emod_nonneg (cz ns 1 / 12) (show (5:Int)≠0 by decide)
 have b:=Int.emod_lt_of_pos (cz ns 1 / 12) (show (0:Int)<5 by decide)
 unfold q0t
 generalize cz ns 1 / 12 % 5=i at *
 rcases (show i=0\/i=1\/i=2\/i=3\/i=4 by omega) with rfl | rfl | rfl | rfl | rfl <;> exact ⟨rfl,by decide⟩
def q1x (n:Nat):Ta:=(List.range n).map fun k:Nat=>((k:Int),De.night [])
def q2s (ns:List Int) (t:Int):Ta:=[(t,De.batch (nmOf ns "m") [(nmOf ns "f",9000),(nmOf ns "g",9000)]),(t,De.batch (nmOf ns "n") [(nmOf ns "h",9000),(nmOf ns "g",9000)]),(t,De.batch (nmOf ns "o") [(nmOf ns "f",9000)])]
def sh0 (ns:List Int) (k:Nat):Str:=nmOf ns (match k with | 0 => "5" | 1 => "6" | _ => "7")
def ba0 (ns:List Int) (k:Nat):Str:=nmOf ns (match k with | 0 => "m" | 1 => "n" | _ => "o")
def q6h (ns:List Int) (k:Nat):De:=.wheel (wA ns k) (ba0 ns k) (nmOf ns "v") (sh0 ns k) 1000
def S0 (ns:List Int):TS where
 book:=q1x (q0t ns)++q2s ns (q0t ns:Int)++(List.range 3).map fun k=>((q0t ns:Int),q6h ns k)
 lies:=(List.range 3).map fun k=>(wA ns k,sh0 ns k)
 day:=q0t ns
 unsold:=[]
 made:=3
 first:=q0t ns
theorem sh0_in (ns:List Int) (k:Nat):sh0 ns k∈q43 ns:=by
 unfold sh0
 split
 ·exact q4x (.inl rfl)
 ·exact q4x (.inr (.inl rfl))
 ·exact q4x (.inr (.inr rfl))
theorem qns (ns:List Int):(((S0 ns).lies).map (·.1)).Nodup:=by
 show ((List.range 3).map fun k=>(wA ns k,sh0 ns k)).map (·.1) |>.Nodup
 rw [List.map_map]
 refine List.pairwise_map.mpr (List.Pairwise.imp_of_mem (fun {i j} hi hj hne h=>?_) (List.nodup_range (n:=3)))
 have:=List.mem_range.mp hi
 have:=List.mem_range.mp hj
 exact hne (qf1 (by omega) (by omega) h)
theorem qif (ns:List Int):TI ns (S0 ns) 300 where
 en:=fun z hz=>by
  rcases List.mem_append.mp hz with hz | hz
  ·rcases List.mem_append.mp hz with hz | hz
   ·obtain ⟨k,_,rfl⟩:=List.mem_map.mp hz
    exact ⟨⟨by simp,⟨(fun _ h=>nomatch h),(fun _ h=>nomatch h),(fun _ h=>nomatch h)⟩⟩,Int.natCast_nonneg _⟩
   ·have ne:∀ a b:Str,a.length=b.length->a≠b->nmOf ns a≠nmOf ns b:=fun a b hl hn h=>hn (qk1 hl h)
    unfold q2s at hz
    simp only [List.mem_cons,List.not_mem_nil,or_false] at hz
    rcases hz with rfl | rfl | rfl
    ·refine ⟨⟨by simp,fun y hy=>?_⟩,Int.natCast_nonneg _⟩
     simp only [List.mem_cons,List.not_mem_nil,or_false] at hy
     rcases hy with rfl | rfl <;> exact ne _ _ rfl (by decide +kernel)
    ·refine ⟨⟨by simp,fun y hy=>?_⟩,Int.natCast_nonneg _⟩
     simp only [List.mem_cons,List.not_mem_nil,or_false] at hy
     rcases hy with rfl | rfl <;> exact ne _ _ rfl (by decide +kernel)
    ·refine ⟨⟨by simp,fun y hy=>?_⟩,Int.natCast_nonneg _⟩
     simp only [List.mem_cons,List.not_mem_nil,or_false] at hy
     subst hy
     exact ne _ _ rfl (by decide +kernel)
  ·obtain ⟨k,hk,rfl⟩:=List.mem_map.mp hz
   have:=List.mem_range.mp hk
   refine ⟨?_,Int.natCast_nonneg _⟩
   show wA ns k≠ba0 ns k
   unfold ba0
   split <;> exact (qh4 rfl (by omega)).symm
 ke:=fun z hz=>by
  obtain ⟨k,hk,rfl⟩:=List.mem_map.mp hz
  exact ⟨k,List.mem_range.mp hk,rfl⟩
 nd:=qns ns
 va:=fun z hz=>by
  obtain ⟨k,_,rfl⟩:=List.mem_map.mp hz
  exact sh0_in ns k
 made:=by show 3<=10;decide
 len:=by
  have:=(qbg ns).2
  unfold S0 q1x q2s
  simp;omega
 lus:=by show 0<=_;omega
 lli:=by unfold S0;simp
 day:=by have:=(qbg ns).2;show q0t ns<=300;omega
end
end TL
namespace TL
open PySem L2 Z PM KR NMS
section
variable {ns:List Int}
def kN (L:List Str):List Key:=L.map Sum.inr
def vN (ns:List Int) (L:List Str):List AV:=L.map fun m=>.str (nmOf ns m)
theorem dput_N (L:List Str) (m:Str):dput (kN L) (vN ns L) (.inr m) (.str (nmOf ns m))=(kN (setS L m),vN ns (setS L m)):=by
 unfold dput setS
 by_cases h:m∈L
 ·have hv:∀ L:List Str,q4g (.inr m) (.str (nmOf ns m)) (kN L) (vN ns L)=vN ns L:=by
   intro L
   induction L with
   | nil=>rfl
   | cons y r ih =>
    show (if (Sum.inr y:Key)=.inr m then AV.str (nmOf ns m) else AV.str (nmOf ns y))::q4g (.inr m) (.str (nmOf ns m)) (kN r) (vN ns r)=_
    rw [ih]
    by_cases e:y=m
    ·rw [if_pos (by rw [e])];simp [vN,e]
    ·rw [if_neg fun q=>e (Sum.inr.inj q)];simp [vN]
  rw [if_pos h,if_pos (by unfold kN;rw [List.any_map];exact List.any_eq_true.mpr ⟨m,h,by simp⟩),hv]
 ·rw [if_neg h,if_neg (by
   unfold kN
   rw [List.any_map]
   intro z
   obtain ⟨y,hy,he⟩:=List.any_eq_true.mp z
   have:y=m:=by simpa using he
   exact h (this ▸ hy))]
  simp [kN,vN]
@[irreducible] def allM:List Str:=("fghmnopqkl567xv0123456789" : Str).cps.toList.map fun c=>⟨#[c]⟩
theorem qlm:allM.foldl setS []=("fghmnopqkl567xv0123489" : Str).cps.toList.map fun c=>⟨#[c]⟩:=by decide +kernel
theorem qlo:(∀ m∈allM,m.length=1)/\allM.length=25:=by decide +kernel
theorem qkm:strA "fghmnopqkl567xv0123456789" = allM.map AV.str:=by
 unfold strA allM
 rw [List.map_map];rfl
theorem qh0 {x0 x3 x4 x5 x6 x7:Option AV} (hx:x0=some (SCR ns)):∃ o,sFor (qd2 (aK (.str "fghmnopqkl567xv0123456789"))) (gN 2) (q1h (aVar 1) (aVar 2) (aC m_qi (q02 (aVar 0) (q02 (aVar 2) aNil)))) [x0,some (.ref 0),none,x3,x4,x5,x6,x7] [.dk [] []]=.nx [x0,some (.ref 0),o,x3,x4,x5,x6,x7] [.dk NK (NV ns)]:=by
 obtain ⟨hl1,hl25⟩:=qlo
 obtain ⟨env',h',e,o,rfl,rfl,_⟩:=q62 (wt:=none) (all:=allM.map AV.str) (g:=gN 2) (body:=q1h (aVar 1) (aVar 2) (aC m_qi (q02 (aVar 0) (q02 (aVar 2) aNil)))) (k:=AV.str) (P:=fun j env H=>∃ o,env=[x0,some (.ref 0),o,x3,x4,x5,x6,x7]/\H=[.dk (kN ((allM.take j).foldl setS [])) (vN ns ((allM.take j).foldl setS []))]/\((allM.take j).foldl setS []).length<=j) (fun _ _ _ _=>q0x) allM 0 [x0,some (.ref 0),none,x3,x4,x5,x6,x7] [.dk [] []] ⟨none,rfl,by simp [kN,vN],by simp⟩ (fun j m hj env H hp=>by
  obtain ⟨o,rfl,rfl,hlj⟩:=hp
  rw [Nat.zero_add] at hlj ⊢
  have hm:=List.mem_of_getElem? hj
  have hlt:=(List.getElem?_eq_some_iff.mp hj).1
  have ht:(allM.take (j+1)).foldl setS []=setS ((allM.take j).foldl setS []) m:=by rw [List.take_succ,hj,List.foldl_append];rfl
  have hsl:=q9c ((allM.take j).foldl setS []) m
  rw [ht]
  generalize (allM.take j).foldl setS []=L at *
  have hp:=dput_N (ns:=ns) L m
  have hl:(kN L).length<sizeLine:=by unfold kN;rw [List.length_map];exact Nat.lt_of_le_of_lt (show L.length<=25 by omega) (by decide)
  have hn:=q5m ns (m:=m) [.dk (kN L) (vN ns L)] (by rw [hl1 m hm];decide)
  refine ⟨[x0,some (.ref 0),some (.str m),x3,x4,x5,x6,x7],[.dk (kN L) (vN ns L)],[x0,some (.ref 0),some (.str m),x3,x4,x5,x6,x7],[.dk (kN (setS L m)) (vN ns (setS L m))],rfl, .inl ?_,some (.str m),rfl,rfl,by omega⟩
  subst hx
  have ec:aC m_qi (q02 (aVar 0) (q02 (aVar 2) aNil)) [some (SCR ns),some (.ref 0),some (.str m),x3,x4,x5,x6,x7] [.dk (kN L) (vN ns L)]=.ok (.str (nmOf ns m)) [.dk (kN L) (vN ns L)]:=q2n (c_ok rfl (c_ok rfl rfl)) hn
  unfold q1h
  rw [ec]
  simp [hl,hp])
 rw [Nat.zero_add,List.take_length,qlm, <- qjh] at e
 refine ⟨o,?_⟩
 have ei:qd2 (aK (.str "fghmnopqkl567xv0123456789")) [x0,some (.ref 0),none,x3,x4,x5,x6,x7] [.dk [] []]=.ok (allM.map AV.str,none) [.dk [] []]:=by
  rw [<- qkm]
  rfl
 unfold sFor
 rw [ei]
 simp only [Re.q2e]
 rw [e,NK_eq,NV_eq]
 rfl
def HN (ns:List Int) (b:Ta):AH:=[.dk NK (NV ns), .lst (bA b)]
@[irreducible] def HL (ns:List Int) (b:Ta) (l:List (Str×Str)):AH:=[.dk NK (NV ns), .lst (bA b), .dk (kL l) (vL l)]
theorem sayN {env:AEnv} {t:AE} {b:Ta} {d:De} {tm:Int} (he:aVar 4 env (HN ns b)=.ok (.ref 1) (HN ns b)) (ht:t env (HN ns b)=.ok (d.av tm) (HN ns b)) (hl:b.length<=10000) :
  q0q (aMtL q15 (aVar 4) (q02 t aNil)) env (HN ns b)=.nx env (HN ns (b++[(tm,d)])):=by
 have g1:(HN ns b)[1]?=some (.lst (bA b)):=rfl
 have hs:(HN ns b).set 1 (.lst (bA (b++[(tm,d)])))=HN ns (b++[(tm,d)]):=rfl
 rw [qda] at hs
 have hz:(bA b).length<sizeLine:=by rw [q9r];exact Nat.lt_of_le_of_lt hl (by decide)
 rw [<- hs]
 dsimp only at ht ⊢
 unfold q0q aMtL
 rw [he]
 generalize d.av tm=X at *
 generalize HN ns b=H at *
 simp [g1,ht,hz]
def q84:AS:=sSeq (sAsg (aC m_qi (q02 (aVar 0) (q02 (a2 fIx (aLst (q02 (aK (.str "a0")) (q02 (aK (.str "a1")) (q02 (aK (.str "a2")) aNil)))) (aVar 6)) aNil))) (gN 7))
 (sSeq (q1h (aVar 5) (aVar 7) (a2 q08 (aVar 1) (a2 fIxS (aK (.str "567")) (aVar 6))))
 (q0q (aMtL q15 (aVar 4) (q02 (aTup (q02 (aVar 3) (q02 (aK (.str "wheel")) (q02 (aVar 7) (q02 (a2 q08 (aVar 1) (a2 fIxS (aK (.str "mno")) (aVar 6))) (q02 (a2 q08 (aVar 1) (aK (.str "v"))) (q02 (a2 q08 (aVar 5) (aVar 7)) (q02 (aK (.int 1000)) aNil)))))))) aNil))))
def s567 (j:Nat):Str:=match j with | 0 => "5" | 1 => "6" | _ => "7"
def smno (j:Nat):Str:=match j with | 0 => "m" | 1 => "n" | _ => "o"
theorem lit_a {j:Nat} (hj:j<3):atI [AV.str "a0", .str "a1", .str "a2"] (j:Int)=some (.str (aN j)):=by
 have h0:aN 0 = "a0":=by decide +kernel
 have h1:aN 1 = "a1":=by decide +kernel
 have h2:aN 2 = "a2":=by decide +kernel
 rcases (show j=0\/j=1\/j=2 by omega) with rfl | rfl | rfl
 ·rw [h0];rfl
 ·rw [h1];rfl
 ·rw [h2];rfl
theorem ix3 {z:Str} {a b c:Nat} (hz:z.length<=sizeLine) (h:z.cps.toList=[a,b,c]) {j:Nat} (hj:j<3) (H:AH):fIxS (.str z) (.int (j:Int)) H=.ok (.str (match j with | 0=>⟨#[a]⟩ | 1=>⟨#[b]⟩ | _=>⟨#[c]⟩)) H:=by
 have e:atI z.cps.toList (j:Int)=some (match j with | 0=>a | 1=>b | _=>c):=by
  rw [h]
  refine q0w ?_
  rcases (show j=0\/j=1\/j=2 by omega) with rfl | rfl | rfl <;> rfl
 unfold fIxS
 simp only [e,hz,if_true]
 rcases (show j=0\/j=1\/j=2 by omega) with rfl | rfl | rfl <;> rfl
theorem i567 {j:Nat} (hj:j<3) (H:AH):fIxS (.str "567") (.int (j:Int)) H=.ok (.str (s567 j)) H:=by
 rw [ix3 (a:=53) (b:=54) (c:=55) (by decide) (by decide +kernel) hj]
 unfold s567
 have h5:("5" : Str)=⟨#[53]⟩:=by decide +kernel
 have h6:("6" : Str)=⟨#[54]⟩:=by decide +kernel
 have h7:("7" : Str)=⟨#[55]⟩:=by decide +kernel
 rw [h5,h6,h7]
 rcases (show j=0\/j=1\/j=2 by omega) with rfl | rfl | rfl <;> rfl
theorem imno {j:Nat} (hj:j<3) (H:AH):fIxS (.str "mno") (.int (j:Int)) H=.ok (.str (smno j)) H:=by
 rw [ix3 (a:=109) (b:=110) (c:=111) (by decide) (by decide +kernel) hj]
 unfold smno
 have h5:("m" : Str)=⟨#[109]⟩:=by decide +kernel
 have h6:("n" : Str)=⟨#[110]⟩:=by decide +kernel
 have h7:("o" : Str)=⟨#[111]⟩:=by decide +kernel
 rw [h5,h6,h7]
 rcases (show j=0\/j=1\/j=2 by omega) with rfl | rfl | rfl <;> rfl
theorem mk567 (j:Nat):s567 j∈marks:=by
 have:("5" : Str)∈marks/\("6" : Str)∈marks/\("7" : Str)∈marks:=by decide +kernel
 unfold s567
 split
 ·exact this.1
 ·exact this.2.1
 ·exact this.2.2
theorem mkmno (j:Nat):smno j∈marks:=by
 have:("m" : Str)∈marks/\("n" : Str)∈marks/\("o" : Str)∈marks:=by decide +kernel
 unfold smno
 split
 ·exact this.1
 ·exact this.2.1
 ·exact this.2.2
theorem sh0_eq (j:Nat):sh0 ns j=nmOf ns (s567 j):=congrArg (nmOf ns) (by unfold s567;rcases j with _ | _ | j <;> simp only)
theorem ba0_eq (j:Nat):ba0 ns j=nmOf ns (smno j):=congrArg (nmOf ns) (by unfold smno;rcases j with _ | _ | j <;> simp only)
theorem w0_1 {b:Ta} {l:List (Str×Str)} {j:Nat} {t:Int} {x2 p7:Option AV} (hj:j<3):sAsg (aC m_qi (q02 (aVar 0) (q02 (a2 fIx (aLst (q02 (aK (.str "a0")) (q02 (aK (.str "a1")) (q02 (aK (.str "a2")) aNil)))) (aVar 6)) aNil))) (gN 7) [some (SCR ns),some (.ref 0),x2,some (.int t),some (.ref 1),some (.ref 2),some (.int (j:Int)),p7] (HL ns b l)=.nx [some (SCR ns),some (.ref 0),x2,some (.int t),some (.ref 1),some (.ref 2),some (.int (j:Int)),some (.str (wA ns j))] (HL ns b l):=by
 have hn:=q5m ns (m:=aN j) (HL ns b l) (by rw [(q8h j (by omega)).1];decide)
 have lit:=lit_a hj
 generalize HL ns b l=H at *
 have e1:a2 fIx (aLst (q02 (aK (.str "a0")) (q02 (aK (.str "a1")) (q02 (aK (.str "a2")) aNil)))) (aVar 6) [some (SCR ns),some (.ref 0),x2,some (.int t),some (.ref 1),some (.ref 2),some (.int (j:Int)),p7] H=.ok (.str (aN j)) H:=by
  generalize SCR ns=SS
  simp [lit]
 exact q53 (q2n (c_ok rfl (c_ok e1 rfl)) hn)
def q3g (ns:List Int) (j:Nat):List (Str×Str):=(List.range j).map fun k=>(wA ns k,sh0 ns k)
theorem hl0 (b:Ta) (l:List (Str×Str)):(HL ns b l)[0]?=some (.dk NK (NV ns)):=by with_unfolding_all rfl
theorem hl1 (b:Ta) (l:List (Str×Str)):(HL ns b l)[1]?=some (.lst (bA b)):=by with_unfolding_all rfl
theorem hl2 (b:Ta) (l:List (Str×Str)):(HL ns b l)[2]?=some (.dk (kL l) (vL l)):=by with_unfolding_all rfl
theorem hls1 (b b':Ta) (l:List (Str×Str)):(HL ns b l).set 1 (.lst (bA b'))=HL ns b' l:=by with_unfolding_all rfl
theorem hls2 (b:Ta) (l l':List (Str×Str)):(HL ns b l).set 2 (.dk (kL l') (vL l'))=HL ns b l':=by with_unfolding_all rfl
theorem hl_new (b:Ta):HL ns b (q3g ns 0)=HN ns b++[.dk [] []]:=by with_unfolding_all rfl
theorem hl_end (S:TS):HT ns S=HL ns S.book S.lies++[.lst (sA S.unsold)]++[.dk SK (SV S)]:=by with_unfolding_all rfl
theorem hl_len (b:Ta) (l:List (Str×Str)):(HL ns b l).length=3:=by with_unfolding_all rfl
theorem w0_2 {b:Ta} {l:List (Str×Str)} {j:Nat} {t:Int} {x2:Option AV} (hj:j<3) (hnew:wA ns j∉l.map (·.1)) (hll:l.length<=10):q1h (aVar 5) (aVar 7) (a2 q08 (aVar 1) (a2 fIxS (aK (.str "567")) (aVar 6))) [some (SCR ns),some (.ref 0),x2,some (.int t),some (.ref 1),some (.ref 2),some (.int (j:Int)),some (.str (wA ns j))] (HL ns b l)=.nx [some (SCR ns),some (.ref 0),x2,some (.int t),some (.ref 1),some (.ref 2),some (.int (j:Int)),some (.str (wA ns j))] (HL ns b (l++[(wA ns j,sh0 ns j)])):=by
 have en:=q4l (ns:=ns) (env:=[some (SCR ns),some (.ref 0),x2,some (.int t),some (.ref 1),some (.ref 2),some (.int (j:Int)),some (.str (wA ns j))]) (H:=HL ns b l) (e:=a2 fIxS (aK (.str "567")) (aVar 6)) (mk567 j) (hl0 b l) 1 rfl (i567 hj _)
 rw [<- sh0_eq] at en
 have hp:=qe0 l (wA ns j) (sh0 ns j)
 rw [q68 hnew] at hp
 have g2:=hl2 (ns:=ns) b l
 have hs:=hls2 (ns:=ns) b l (l++[(wA ns j,sh0 ns j)])
 have hl:(kL l).length<sizeLine:=by unfold kL;rw [List.length_map];exact Nat.lt_of_le_of_lt hll (by decide)
 rw [<- hs]
 unfold q1h
 rw [en]
 generalize HL ns b l=H at *
 generalize sh0 ns j=SH at *
 generalize wA ns j=WA at *
 generalize SCR ns=SS at *
 simp [g2,hp,hl]
theorem w0_3 {b:Ta} {l2:List (Str×Str)} {j:Nat} {t:Int} {x2:Option AV} (hj:j<3) (hgl:getL l2 (wA ns j)=some (sh0 ns j)) (hbl:b.length<=2000):q0q (aMtL q15 (aVar 4) (q02 (aTup (q02 (aVar 3) (q02 (aK (.str "wheel")) (q02 (aVar 7) (q02 (a2 q08 (aVar 1) (a2 fIxS (aK (.str "mno")) (aVar 6))) (q02 (a2 q08 (aVar 1) (aK (.str "v"))) (q02 (a2 q08 (aVar 5) (aVar 7)) (q02 (aK (.int 1000)) aNil)))))))) aNil)) [some (SCR ns),some (.ref 0),x2,some (.int t),some (.ref 1),some (.ref 2),some (.int (j:Int)),some (.str (wA ns j))] (HL ns b l2)=.nx [some (SCR ns),some (.ref 0),x2,some (.int t),some (.ref 1),some (.ref 2),some (.int (j:Int)),some (.str (wA ns j))] (HL ns (b++[(t,q6h ns j)]) l2):=by
 generalize hE:([some (SCR ns),some (.ref 0),x2,some (.int t),some (.ref 1),some (.ref 2),some (.int (j:Int)),some (.str (wA ns j))]:AEnv)=E
 have v1:aVar 1 E (HL ns b l2)=.ok (.ref 0) (HL ns b l2):=by rw [<- hE];rfl
 have v3:aVar 3 E (HL ns b l2)=.ok (.int t) (HL ns b l2):=by rw [<- hE];rfl
 have v4:aVar 4 E (HL ns b l2)=.ok (.ref 1) (HL ns b l2):=by rw [<- hE];rfl
 have v5:aVar 5 E (HL ns b l2)=.ok (.ref 2) (HL ns b l2):=by rw [<- hE];rfl
 have v6:aVar 6 E (HL ns b l2)=.ok (.int (j:Int)) (HL ns b l2):=by rw [<- hE];rfl
 have v7:aVar 7 E (HL ns b l2)=.ok (.str (wA ns j)) (HL ns b l2):=by rw [<- hE];rfl
 have ei:a2 fIxS (aK (.str "mno")) (aVar 6) E (HL ns b l2)=.ok (.str (smno j)) (HL ns b l2):=by
  show Re.bind (aVar 6 E (HL ns b l2)) _=_
  rw [v6]
  exact imno hj _
 have en:=q4l (ns:=ns) (mkmno j) (hl0 b l2) 1 v1 ei
 rw [<- ba0_eq] at en
 have ev:=q4l (ns:=ns) (env:=E) (e:=aK (.str "v")) mxv.2 (hl0 b l2) 1 v1 rfl
 have g1:=hl1 (ns:=ns) b l2
 have g2:=hl2 (ns:=ns) b l2
 have hs:=hls1 (ns:=ns) b (b++[(t,q6h ns j)]) l2
 rw [qda] at hs
 have hv:=q6u (wA ns j) l2
 rw [hgl] at hv
 have hv:dval (kL l2) (vL l2) (.inr (wA ns j))=some (.str (sh0 ns j)):=hv
 have hz:(bA b).length<sizeLine:=by rw [q9r];exact Nat.lt_of_le_of_lt hbl (by decide)
 have el:a2 q08 (aVar 5) (aVar 7) E (HL ns b l2)=.ok (.str (sh0 ns j)) (HL ns b l2):=by
  show Re.bind (aVar 5 E (HL ns b l2)) _=_
  rw [v5]
  simp only [Re.q3h]
  rw [v7]
  generalize HL ns b l2=H at *
  simp [g2,hv]
 rw [<- hs]
 have hav:(q6h ns j).av t=.tup [.int t, .str "wheel", .str (wA ns j), .str (ba0 ns j), .str (nmOf ns "v"), .str (sh0 ns j), .int 1000]:=rfl
 dsimp only
 rw [hav]
 have et:aTup (q02 (aVar 3) (q02 (aK (.str "wheel")) (q02 (aVar 7) (q02 (a2 q08 (aVar 1) (a2 fIxS (aK (.str "mno")) (aVar 6))) (q02 (a2 q08 (aVar 1) (aK (.str "v"))) (q02 (a2 q08 (aVar 5) (aVar 7)) (q02 (aK (.int 1000)) aNil))))))) E (HL ns b l2)=.ok (.tup [.int t, .str "wheel", .str (wA ns j), .str (ba0 ns j), .str (nmOf ns "v"), .str (sh0 ns j), .int 1000]) (HL ns b l2):=t_ok (c_ok v3 (c_ok rfl (c_ok v7 (c_ok en (c_ok ev (c_ok el (c_ok rfl rfl)))))))
 have ec:=c_ok (r:=aNil) (vs:=[]) et rfl
 unfold q0q aMtL
 generalize q02 (aTup (q02 (aVar 3) (q02 (aK (.str "wheel")) (q02 (aVar 7) (q02 (a2 q08 (aVar 1) (a2 fIxS (aK (.str "mno")) (aVar 6))) (q02 (a2 q08 (aVar 1) (aK (.str "v"))) (q02 (a2 q08 (aVar 5) (aVar 7)) (q02 (aK (.int 1000)) aNil)))))))) aNil=MA at *
 rw [v4]
 generalize AV.tup [.int t, .str "wheel", .str (wA ns j), .str (ba0 ns j), .str (nmOf ns "v"), .str (sh0 ns j), .int 1000]=X at *
 generalize HL ns b l2=H at *
 simp [g1,ec,hz]
def ws0 (ns:List Int) (t:Int) (j:Nat):Ta:=(List.range j).map fun k=>(t,q6h ns k)
theorem q9s (j:Nat):q3g ns (j+1)=q3g ns j++[(wA ns j,sh0 ns j)]:=by unfold q3g;rw [List.range_succ,List.map_append];rfl
theorem qkh (t:Int) (j:Nat):ws0 ns t (j+1)=ws0 ns t j++[(t,q6h ns j)]:=by unfold ws0;rw [List.range_succ,List.map_append];rfl
theorem qmr {b:Ta} {j:Nat} {t:Int} {x2 p7:Option AV} (hj:j<3) (hbl:b.length<=2000):q84 [some (SCR ns),some (.ref 0),x2,some (.int t),some (.ref 1),some (.ref 2),some (.int (j:Int)),p7] (HL ns b (q3g ns j))=.nx [some (SCR ns),some (.ref 0),x2,some (.int t),some (.ref 1),some (.ref 2),some (.int (j:Int)),some (.str (wA ns j))] (HL ns (b++[(t,q6h ns j)]) (q3g ns (j+1))):=by
 have hnew:wA ns j∉(q3g ns j).map (·.1):=fun hm=>by
  unfold q3g at hm
  rw [List.map_map] at hm
  obtain ⟨k,hk,e⟩:=List.mem_map.mp hm
  have:=List.mem_range.mp hk
  have:=qf1 (ns:=ns) (show k<10 by omega) (show j<10 by omega) e
  omega
 have hll:(q3g ns j).length<=10:=by unfold q3g;rw [List.length_map,List.length_range];omega
 have hgl:getL (q3g ns (j+1)) (wA ns j)=some (sh0 ns j):=by
  rw [q9s]
  unfold getL
  rw [List.find?_append,List.find?_eq_none.mpr fun z hz=>by
   have:z.1≠wA ns j:=fun e=>hnew (List.mem_map.mpr ⟨z,hz,e⟩)
   simp [this]]
  simp
 unfold q84
 have s2:=w0_2 (b:=b) (t:=t) (x2:=x2) hj hnew hll
 rw [<- q9s] at s2
 rw [q0m (w0_1 hj),q0m s2,w0_3 hj hgl hbl]
theorem qd9 {x2 o6 o7:Option AV} {b0:Ta} {t:Int} (hb:b0.length<=1000) :
  ∃ o6' o7',sFor (q3a (aK (.int 3))) (gN 6) q84 [some (SCR ns),some (.ref 0),x2,some (.int t),some (.ref 1),some (.ref 2),o6,o7] (HL ns b0 (q3g ns 0)) =
   .nx [some (SCR ns),some (.ref 0),x2,some (.int t),some (.ref 1),some (.ref 2),o6',o7'] (HL ns (b0++ws0 ns t 3) (q3g ns 3)):=by
 obtain ⟨e2,h2',q,o6',o7',rfl,rfl⟩:=qbp (n:=3) (i:=6) (a:=aK (.int 3)) (body:=q84) (P:=fun j env H=>∃ o6 o7,env=[some (SCR ns),some (.ref 0),x2,some (.int t),some (.ref 1),some (.ref 2),o6,o7]/\H=HL ns (b0++ws0 ns t j) (q3g ns j)) (env:=[some (SCR ns),some (.ref 0),x2,some (.int t),some (.ref 1),some (.ref 2),o6,o7]) (h:=HL ns b0 (q3g ns 0)) (by omega) (by generalize HL ns b0 (q3g ns 0)=H;simp) ⟨o6,o7,rfl,by unfold ws0;simp⟩ (fun j hj env H hp=>by
  obtain ⟨p6,p7,rfl,rfl⟩:=hp
  have:=qmr (ns:=ns) (b:=b0++ws0 ns t j) (t:=t) (x2:=x2) (p7:=p7) hj (by unfold ws0;rw [List.length_append,List.length_map,List.length_range];omega)
  rw [List.append_assoc, <- qkh] at this
  exact ⟨_,_,this,_,_,rfl,rfl⟩)
 exact ⟨o6',o7',q⟩
theorem q9i:m_ql [SCR ns] []=.ok (.ref 4) (HT ns (S0 ns)):=by
 obtain ⟨d1,d2⟩:=qbg ns
 have c1:∀ h,m_qk [SCR ns, .int 1] h=.ok (.int (cz ns 1)) h:=fun h=>qa8 ns 1 h
 have s1:sAsg q75 (gN 1) [some (SCR ns),none,none,none,none,none,none,none] []=.nx [some (SCR ns),some (.ref 0),none,none,none,none,none,none] [.dk [] []]:=by simp
 obtain ⟨o2,s2⟩:=qh0 (ns:=ns) (x0:=some (SCR ns)) (x3:=none) (x4:=none) (x5:=none) (x6:=none) (x7:=none) rfl
 have s3:sAsg (a2 fIx (aLst (q02 (aK (.int 0)) (q02 (aK (.int 0)) (q02 (aK (.int 1)) (q02 (aK (.int 25)) (q02 (aK (.int 200)) aNil)))))) (a2 fMod (a2 fDiv (aC m_qk (q02 (aVar 0) (q02 (aK (.int 1)) aNil))) (aK (.int 12))) (aK (.int 5)))) (gN 3) [some (SCR ns),some (.ref 0),o2,none,none,none,none,none] [.dk NK (NV ns)]=.nx [some (SCR ns),some (.ref 0),o2,some (.int (q0t ns:Int)),none,none,none,none] [.dk NK (NV ns)]:=by
  generalize ([.dk NK (NV ns)]:AH)=H
  simp [c1,d1]
 have s4:sAsg (aLcC 1 [] (q3a (aVar 3)) (gN 0) aYes (aTup (q02 (aVar 0) (q02 (aK (.str "night")) (q02 (aTup aNil) aNil))))) (gN 4) [some (SCR ns),some (.ref 0),o2,some (.int (q0t ns:Int)),none,none,none,none] [.dk NK (NV ns)]=.nx [some (SCR ns),some (.ref 0),o2,some (.int (q0t ns:Int)),some (.ref 1),none,none,none] (HN ns (q1x (q0t ns))):=by
  have k1:=q2w (wt:=none) (all:=(List.range (q0t ns)).map fun i:Nat=>AV.int (i:Int)) (g:=gN 0) (te:=aTup (q02 (aVar 0) (q02 (aK (.str "night")) (q02 (aTup aNil) aNil)))) (be:=[none]) (h:=[.dk NK (NV ns)]) (k:=fun i:Nat=>AV.int (i:Int)) (f:=fun i=>(De.night []).av (i:Int)) q0x (List.range (q0t ns)) [] (fun i _=>⟨_,rfl,rfl⟩)
  rw [List.nil_append] at k1
  have hr:rng1 (.int (q0t ns:Int)) [.dk NK (NV ns)]=.ok ((List.range (q0t ns)).map (fun i:Nat=>AV.int (i:Int)),none) [.dk NK (NV ns)]:=by rw [q5g (by omega),qd0]
  have hsz:((List.range (q0t ns)).map fun i:Nat=>AV.int (i:Int)).length<=sizeLine:=by rw [List.length_map,List.length_range];exact Nat.le_trans d2 (by decide)
  have eb:(List.range (q0t ns)).map (fun i:Nat=>(De.night []).av (i:Int))=bA (q1x (q0t ns)):=by unfold bA q1x;rw [List.map_map];rfl
  rw [eb] at k1
  have hH:HN ns (q1x (q0t ns))=[.dk NK (NV ns)]++[.lst (bA (q1x (q0t ns)))]:=rfl
  rw [hH]
  have hl1:([.dk NK (NV ns)]:AH).length=1:=rfl
  generalize bA (q1x (q0t ns))=BB at *
  generalize (List.range (q0t ns)).map (fun i:Nat=>AV.int (i:Int))=RI at *
  generalize ([.dk NK (NV ns)]:AH)=H at *
  simp [hr,bEnv,hsz,k1,hl1]
 let E:AEnv:=[some (SCR ns),some (.ref 0),o2,some (.int (q0t ns:Int)),some (.ref 1),none,none,none]
 have gn:∀ (m:Str),m∈marks->∀ b,a2 q08 (aVar 1) (aK (.str m)) E (HN ns b)=.ok (.str (nmOf ns m)) (HN ns b):=fun m hm b=>q4l hm rfl 1 rfl rfl
 have mm:("m" : Str)∈marks/\("n" : Str)∈marks/\("o" : Str)∈marks/\("f" : Str)∈marks/\("g" : Str)∈marks/\("h" : Str)∈marks:=by decide +kernel
 obtain ⟨qm,qn,qo,qf,qg,qh⟩:=mm
 have nl:(q1x (q0t ns)).length<=200:=by unfold q1x;rw [List.length_map,List.length_range];exact d2
 have s5:=sayN (ns:=ns) (env:=E) (b:=q1x (q0t ns)) (d:=De.batch (nmOf ns "m") [(nmOf ns "f",9000),(nmOf ns "g",9000)]) (tm:=(q0t ns:Int)) (t:=aTup (q02 (aVar 3) (q02 (aK (.str "batch")) (q02 (a2 q08 (aVar 1) (aK (.str "m"))) (q02 (aTup (q02 (aTup (q02 (a2 q08 (aVar 1) (aK (.str "f"))) (q02 (aK (.int 9000)) aNil))) (q02 (aTup (q02 (a2 q08 (aVar 1) (aK (.str "g"))) (q02 (aK (.int 9000)) aNil))) aNil))) aNil))))) rfl (t_ok (c_ok rfl (c_ok rfl (c_ok (gn _ qm _) (c_ok (t_ok (c_ok (t_ok (c_ok (gn _ qf _) (c_ok rfl rfl))) (c_ok (t_ok (c_ok (gn _ qg _) (c_ok rfl rfl))) rfl))) rfl))))) (by omega)
 have s6:=sayN (ns:=ns) (env:=E) (b:=q1x (q0t ns)++[((q0t ns:Int),De.batch (nmOf ns "m") [(nmOf ns "f",9000),(nmOf ns "g",9000)])]) (d:=De.batch (nmOf ns "n") [(nmOf ns "h",9000),(nmOf ns "g",9000)]) (tm:=(q0t ns:Int)) (t:=aTup (q02 (aVar 3) (q02 (aK (.str "batch")) (q02 (a2 q08 (aVar 1) (aK (.str "n"))) (q02 (aTup (q02 (aTup (q02 (a2 q08 (aVar 1) (aK (.str "h"))) (q02 (aK (.int 9000)) aNil))) (q02 (aTup (q02 (a2 q08 (aVar 1) (aK (.str "g"))) (q02 (aK (.int 9000)) aNil))) aNil))) aNil))))) rfl (t_ok (c_ok rfl (c_ok rfl (c_ok (gn _ qn _) (c_ok (t_ok (c_ok (t_ok (c_ok (gn _ qh _) (c_ok rfl rfl))) (c_ok (t_ok (c_ok (gn _ qg _) (c_ok rfl rfl))) rfl))) rfl))))) (by simp;omega)
 have s7:=sayN (ns:=ns) (env:=E) (b:=q1x (q0t ns)++[((q0t ns:Int),De.batch (nmOf ns "m") [(nmOf ns "f",9000),(nmOf ns "g",9000)])]++[((q0t ns:Int),De.batch (nmOf ns "n") [(nmOf ns "h",9000),(nmOf ns "g",9000)])]) (d:=De.batch (nmOf ns "o") [(nmOf ns "f",9000)]) (tm:=(q0t ns:Int)) (t:=aTup (q02 (aVar 3) (q02 (aK (.str "batch")) (q02 (a2 q08 (aVar 1) (aK (.str "o"))) (q02 (aTup (q02 (aTup (q02 (a2 q08 (aVar 1) (aK (.str "f"))) (q02 (aK (.int 9000)) aNil))) aNil)) aNil))))) rfl (t_ok (c_ok rfl (c_ok rfl (c_ok (gn _ qo _) (c_ok (t_ok (c_ok (t_ok (c_ok (gn _ qf _) (c_ok rfl rfl))) rfl)) rfl))))) (by simp;omega)
 have eB:q1x (q0t ns)++[((q0t ns:Int),De.batch (nmOf ns "m") [(nmOf ns "f",9000),(nmOf ns "g",9000)])]++[((q0t ns:Int),De.batch (nmOf ns "n") [(nmOf ns "h",9000),(nmOf ns "g",9000)])]++[((q0t ns:Int),De.batch (nmOf ns "o") [(nmOf ns "f",9000)])]=q1x (q0t ns)++q2s ns (q0t ns:Int):=by unfold q2s;simp
 rw [eB] at s7
 have s8:sAsg q75 (gN 5) E (HN ns (q1x (q0t ns)++q2s ns (q0t ns:Int)))=.nx [some (SCR ns),some (.ref 0),o2,some (.int (q0t ns:Int)),some (.ref 1),some (.ref 2),none,none] (HL ns (q1x (q0t ns)++q2s ns (q0t ns:Int)) (q3g ns 0)):=by
  rw [hl_new]
  show _=SRe.nx _ (HN ns (q1x (q0t ns)++q2s ns (q0t ns:Int))++[.dk [] []])
  have hl:(HN ns (q1x (q0t ns)++q2s ns (q0t ns:Int))).length=2:=rfl
  generalize HN ns (q1x (q0t ns)++q2s ns (q0t ns:Int))=H at *
  simp [E,hl]
 obtain ⟨o6,o7,s9⟩:=qd9 (ns:=ns) (x2:=o2) (o6:=none) (o7:=none) (b0:=q1x (q0t ns)++q2s ns (q0t ns:Int)) (t:=(q0t ns:Int)) (by rw [List.length_append];unfold q2s;simp;omega)
 have eS:q1x (q0t ns)++q2s ns (q0t ns:Int)++ws0 ns (q0t ns:Int) 3=(S0 ns).book:=rfl
 have eL:q3g ns 3=(S0 ns).lies:=rfl
 rw [eS,eL] at s9
 unfold q84 at s9
 show ((sSeq _ _ [some (SCR ns),none,none,none,none,none,none,none] []).out)=_
 rw [q0m s1,q0m s2,q0m s3,q0m s4,q0m s5,q0m s6,q0m s7,q0m s8,q0m s9]
 have hHT:HT ns (S0 ns)=HL ns (S0 ns).book (S0 ns).lies++[.lst []]++[.dk SK (SV (S0 ns))]:=hl_end _
 rw [hHT]
 have hl:(HL ns (S0 ns).book (S0 ns).lies).length=3:=hl_len _ _
 have hsv:SV (S0 ns)=[.ref 0, .ref 1, .ref 2, .int (q0t ns:Int), .ref 3, .int 3, .int (q0t ns:Int)]:=rfl
 rw [hsv]
 generalize HL ns (S0 ns).book (S0 ns).lies=H at *
 unfold SK
 simp [dsp,dput,hl]
end
end TL
namespace TL
open PySem L2 Z PM KR NMS
inductive Path (ns:List Int):TS->TS->Prop where
 | refl (S:TS):Path ns S S
 | step {S S' S'':TS} {d:De}:Path ns S S'->Next ns S' d S''->Path ns S S''
theorem Path.nx {ns:List Int} {S S' S'':TS} (p:Path ns S S') (h:Nx ns S' S''):Path ns S S'':=by
 rcases h with rfl | ⟨d,h⟩
 ·exact p
 ·exact p.step h
theorem TI.nx {ns:List Int} {S S':TS} {B:Nat} (I:TI ns S B) (h:Nx ns S S'):TI ns S' (B+1):=by
 rcases h with rfl | ⟨d,h⟩
 ·exact ⟨I.en,I.ke,I.nd,I.va,I.made,by have:=I.len;omega,by have:=I.lus;omega,I.lli,by have:=I.day;omega⟩
 ·exact I.next h
section
variable {ns:List Int}
theorem qh8 {f:Nat} {x4:Option AV} (hf:f<=62) (hns:ns.length<=63) {S1:TS} {B:Nat} (I:TI ns S1 B) (hB:B<=300) :
  ∃ o S',Path ns S1 S'/\TI ns S' (B+62)/\sFor (q66 (aVar 1) (aC q8m (q02 (aC fLen (q02 (aVar 0) aNil)) (q02 (aK (.int 62)) aNil)))) (gN 3) (q0q (aC m_qp (q02 (aVar 2) (q02 (aVar 0) (q02 (a2 fIx (aVar 0) (aVar 3)) aNil))))) [some (SCR ns),some (.int (f:Int)),some (.ref 4),none,x4] (HT ns S1)=.nx [some (SCR ns),some (.int (f:Int)),some (.ref 4),o,x4] (HT ns S'):=by
 have hb:aC q8m (q02 (aC fLen (q02 (aVar 0) aNil)) (q02 (aK (.int 62)) aNil)) [some (SCR ns),some (.int (f:Int)),some (.ref 4),none,x4] (HT ns S1)=.ok (.int ((min ns.length 62:Nat):Int)) (HT ns S1):=by
  have e:((min ns.length 62:Nat):Int)=if (62:Int)<(ns.length:Int) then 62 else (ns.length:Int):=by split <;> omega
  rw [e]
  generalize HT ns S1=H
  simp
  try (split <;> simp_all)
 obtain ⟨e2,h2',q,o,S',BB,rfl,rfl,p,IB,hle⟩:=qkj (lo:=f) (n:=min ns.length 62) (i:=3) (a:=aVar 1) (b:=aC q8m (q02 (aC fLen (q02 (aVar 0) aNil)) (q02 (aK (.int 62)) aNil))) (body:=q0q (aC m_qp (q02 (aVar 2) (q02 (aVar 0) (q02 (a2 fIx (aVar 0) (aVar 3)) aNil))))) (P:=fun j env H=>∃ o S' BB,env=[some (SCR ns),some (.int (f:Int)),some (.ref 4),o,x4]/\H=HT ns S'/\Path ns S1 S'/\TI ns S' BB/\BB<=B+j) (env:=[some (SCR ns),some (.int (f:Int)),some (.ref 4),none,x4]) (h:=HT ns S1) (by omega) (by omega) (by rfl) hb ⟨none,S1,B,rfl,rfl, .refl S1,I,by omega⟩ (fun j hj env H hp=>by
  obtain ⟨o,S',BB,rfl,rfl,p,IB,hle⟩:=hp
  have hk:f+j<ns.length:=by omega
  obtain ⟨S'',hN,e⟩:=qn8 (c:=cz ns (f+j)) IB (by omega)
  have hat:=cz_at hk
  refine ⟨[some (SCR ns),some (.int (f:Int)),some (.ref 4),some (.int ((f+j:Nat):Int)),x4],HT ns S'',?_,_,S'',BB+1,rfl,rfl,p.nx hN,IB.nx hN,by omega⟩
  have ex:a2 fIx (aVar 0) (aVar 3) [some (SCR ns),some (.int (f:Int)),some (.ref 4),some (.int ((f+j:Nat):Int)),x4] (HT ns S')=.ok (.int (cz ns (f+j))) (HT ns S'):=by
   generalize HT ns S'=H at *
   generalize ((f+j:Nat):Int)=J at *
   simp [hat]
  exact q8o (q2n (c_ok rfl (c_ok rfl (c_ok ex rfl))) e))
 refine ⟨o,S',p,?_,q⟩
 exact ⟨IB.en,IB.ke,IB.nd,IB.va,IB.made,by have:=IB.len;omega,by have:=IB.lus;omega,IB.lli,by have:=IB.day;omega⟩
def qaa:AS:=q0q (aC m_qe (q02 (aVar 2) (q02 (aVar 4) (q02 (a2 fIx (aLst (q02 (aK (.int 1)) (q02 (aK (.int 2)) (q02 (aK (.int 3)) (q02 (aK (.int 8)) aNil))))) (a2 fMod (aC m_qk (q02 (aVar 0) (q02 (a2 fSub (aVar 1) (aK (.int 1))) aNil))) (aK (.int 4)))) aNil))))
theorem qem {f:Nat} {x3:Option AV} {all:List AV} (hf:1<=f):∀ (r:List (Str×Str)) (S:TS) (B:Nat) (o4:Option AV),S.lies=r->TI ns S B->B+r.length<=1000 ->
  ∃ o S' B',Path ns S S'/\TI ns S' B'/\B' <= B+r.length/\S'.lies=[]/\q1y none all (gN 4) qaa (sA (r.map (·.1))) [some (SCR ns),some (.int (f:Int)),some (.ref 4),x3,o4] (HT ns S)=.nx [some (SCR ns),some (.int (f:Int)),some (.ref 4),x3,o] (HT ns S')
 | [],S,B,o4,hl,I,hB=>⟨o4,S,B, .refl S,I,by simp,hl,by simp [sA,q1y,q0x]⟩
 | z::r,S,B,o4,hl,I,hB=>by
  rw [List.length_cons] at hB
  have hw:z.1∈S.lies.map (·.1):=by rw [hl];simp
  have c3:=qa8 ns (f - 1) (HT ns S)
  rw [show ((f - 1:Nat):Int)=(f:Int) - 1 by omega] at c3
  have a:=Int.emod_nonneg (cz ns (f - 1)) (show (4:Int)≠0 by decide)
  have b:=Int.emod_lt_of_pos (cz ns (f - 1)) (show (0:Int)<4 by decide)
  obtain ⟨n,hn,en⟩:=four a b
  have hc:=qdc I (by omega) hw hn
  have hN:Next ns S (.cut z.1 n) (cutS S z.1 n):=⟨rfl,rfl,hw,hn,rfl,rfl,rfl,rfl⟩
  have nd:=I.nd
  rw [hl,List.map_cons,List.nodup_cons] at nd
  have hdr:(cutS S z.1 n).lies=r:=by
   show q3f S.lies z.1=r
   rw [hl]
   unfold q3f
   rw [List.filter_cons_of_neg (by simp)]
   exact List.filter_eq_self.mpr fun y hy=>decide_eq_true fun e=>nd.1 (List.mem_map.mpr ⟨y,hy,e⟩)
  obtain ⟨o,S',B',p,I',hle,hnil,q⟩:=qem (x3:=x3) (all:=all) hf r (cutS S z.1 n) (B+1) (some (.str z.1)) hdr (I.next hN) (by omega)
  refine ⟨o,S',B',?_,I',by rw [List.length_cons];omega,hnil,?_⟩
  ·have:∀ {S1 S2 S3:TS} {d:De},Next ns S1 d S2->Path ns S2 S3->Path ns S1 S3:=by
    intro S1 S2 S3 d h p
    induction p with
    | refl=>exact (Path.refl S1).step h
    | step _ h2 ih=>exact ih.step h2
   exact this hN p
  ·have ex:a2 fIx (aLst (q02 (aK (.int 1)) (q02 (aK (.int 2)) (q02 (aK (.int 3)) (q02 (aK (.int 8)) aNil))))) (a2 fMod (aC m_qk (q02 (aVar 0) (q02 (a2 fSub (aVar 1) (aK (.int 1))) aNil))) (aK (.int 4))) [some (SCR ns),some (.int (f:Int)),some (.ref 4),x3,some (.str z.1)] (HT ns S)=.ok (.int (n:Int)) (HT ns S):=by
    generalize HT ns S=H at *
    simp [c3,en]
   have qb:qaa [some (SCR ns),some (.int (f:Int)),some (.ref 4),x3,some (.str z.1)] (HT ns S)=.nx [some (SCR ns),some (.int (f:Int)),some (.ref 4),x3,some (.str z.1)] (HT ns (cutS S z.1 n)):=q8o (q2n (c_ok rfl (c_ok rfl (c_ok ex rfl))) hc)
   rw [show sA ((z::r).map (·.1))=.str z.1::sA (r.map (·.1)) from rfl,q4r (e1:=[some (SCR ns),some (.int (f:Int)),some (.ref 4),x3,some (.str z.1)]) rfl qb,q]
theorem qmf {f:Nat} (hf1:1<=f) (hf:f<=62) (hns:ns.length<=63):∃ S B,Path ns (S0 ns) S/\TI ns S B/\B<=400/\S.lies=[]/\m_qx [SCR ns, .int (f:Int)] []=.ok (.ref 4) (HT ns S):=by
 have s1:sAsg (aC m_ql (q02 (aVar 0) aNil)) (gN 2) [some (SCR ns),some (.int (f:Int)),none,none,none] []=.nx [some (SCR ns),some (.int (f:Int)),some (.ref 4),none,none] (HT ns (S0 ns)):=q53 (q2n (c_ok rfl rfl) q9i)
 obtain ⟨o3,S1,p1,I1,s2⟩:=qh8 (x4:=none) hf hns (qif ns) (by decide)
 have hll:S1.lies.length<=10:=by have:=I1.lli;have:=I1.made;omega
 obtain ⟨o4,S2,B2,p2,I2,hle,hnil,s3⟩:=qem (x3:=o3) (all:=sA (S1.lies.map (·.1))) hf1 S1.lies S1 (300+62) none rfl I1 (by omega)
 have s3':sFor (iLst (aC q6e (q02 (a2 q08 (aVar 2) (aK (.str "lies"))) aNil))) (gN 4) qaa [some (SCR ns),some (.int (f:Int)),some (.ref 4),o3,none] (HT ns S1)=.nx [some (SCR ns),some (.int (f:Int)),some (.ref 4),o3,o4] (HT ns S2):=by
  have g4:=h4 (ns:=ns) (S:=S1)
  have g2:=h2 (ns:=ns) (S:=S1)
  have hb:=q4t (S:=S1)
  have hkk:(kL S1.lies).map keyA=sA (S1.lies.map (·.1)):=by unfold kL sA;rw [List.map_map,List.map_map];rfl
  rw [<- s3]
  generalize sA (S1.lies.map (·.1))=K at *
  generalize HT ns S1=H at *
  simp [g4,hb,g2,hkk]
 refine ⟨S2,B2,?_,I2,by omega,hnil,?_⟩
 ·have:∀ {A B C:TS},Path ns A B->Path ns B C->Path ns A C:=by
   intro A B C p q
   induction q with
   | refl=>exact p
   | step _ h ih=>exact ih.step h
  exact this p1 p2
 ·show ((sSeq _ _ [some (SCR ns),some (.int (f:Int)),none,none,none] []).out)=_
  unfold qaa at s3'
  rw [q0m s1,q0m s2,q0m s3']
  rfl
end
end TL
namespace TL
open PySem L2 Z PM KR NMS
theorem qlh {ns:List Int} {S S':TS} {d:De} (h:Next ns S d S'):S.day<=S'.day:=by
 obtain ⟨_,_,h⟩:=h
 cases d with
 | night rows=>rw [h.2.2.1];omega
 | batch nm ps=>exact h.elim
 | wheel nm b so sh g=>rw [h.2.2.2.2.2.2.2.1];exact Nat.le_refl _
 | wash w b c=>rw [h.2.2.2.2.1];exact Nat.le_refl _
 | move w s=>rw [h.2.2.2.1];exact Nat.le_refl _
 | boil x=>rw [h.2.2.1];exact Nat.le_refl _
 | cut w n=>rw [h.2.2.2.1];exact Nat.le_refl _
 | sell x=>rw [h.2.2.1];exact Nat.le_refl _
theorem qkq {ns:List Int} {S S':TS} (p:Path ns S S') (h:S.first<=S.day):S'.first<=S'.day:=by
 induction p with
 | refl=>exact h
 | step _ h2 ih=>have:=qlh h2;rw [h2.2.1];omega
theorem q7j {day:Int}:∀ (es:List En) (n:Nat) (W:Ways) (T:List (Str×List KR.Step)),(recG day n es (W,T)).2.map (·.1)=T.map (·.1)++q4d (es.filter fun e=>decide (day<=e.day)) (hasW W)
 | [],n,W,T=>by simp [recG,q4d]
 | e::r,n,W,T=>by
  show (recG day (n+1) r (recS day n e (W,T))).2.map (·.1)=_
  unfold recS
  by_cases hd:e.day<day
  ·rw [if_pos hd,q7j r,List.filter_cons_of_neg (by simp;omega)]
  ·rw [if_neg hd,List.filter_cons_of_pos (by simp;omega),q7j r,bst_eq]
   dsimp only
   show _=T.map (·.1)++(tells e (hasW W)++q4d _ (bst e (hasW W)))
   unfold tells
   by_cases hc:e.cut=true
   ·rw [if_pos hc,if_pos hc,List.map_append,List.map_map,q9u,qdm,List.append_assoc];rfl
   ·rw [if_neg hc,if_neg hc];simp
theorem qii (bad:Str):hasW [(bad,[])]=fun x=>decide (bad=x):=by
 funext x
 unfold hasW getW
 by_cases h:bad=x
 ·simp [h]
 ·simp [h,getW]
theorem bx_x {ns:List Int} {S:TS} {B:Nat} (I:TI ns S B):∀ z∈bx S.book,EnX z.1.1 z.1.2 z.2:=fun z hz=>by
 obtain ⟨y,hy,rfl⟩:=List.mem_map.mp hz
 exact De.x (I.en y hy).1
theorem bx_av (b:Ta):(bx b).map (fun z=>z.1.1)=bA b:=by unfold bx bA;rw [List.map_map];rfl
theorem qeu (b:Ta):(bx b).length=b.length:=by unfold bx;simp
theorem qf6 {ns:List Int} {S:TS} {B:Nat} {h:AH} {bad:Str} {day:Int} (I:TI ns S B) (hB:B<=4000) :
  ∃ (g:AH) (T:List (Str×List KR.Step)),m_qz [.lst (bA S.book), .str bad, .int day] h=.ok (.lst (T.map q1z)) (h++g)/\T.map (·.1)=q4d (((bx S.book).map fun z=>z.1.2).filter fun e=>decide (day<=e.day)) (fun x=>decide (bad=x))/\∀ t∈T,q8a ((bx S.book).map (·.1)) day bad t:=by
 have hx:=bx_x I
 have ho:∀ z∈(bx S.book).map (·.1),EnT z.1 z.2:=fun z hz=>by
  obtain ⟨y,hy,rfl⟩:=List.mem_map.mp hz
  exact (hx y hy).toEnT
 obtain ⟨g,q⟩:=qji (h:=h) (zs:=(bx S.book).map (·.1)) (name:=bad) (day:=day) (fun z hz=>(ho z hz).toEnOk) (by rw [List.length_map,qeu];have:=I.len;omega)
 have e1:((bx S.book).map (·.1)).map (·.1)=bA S.book:=by rw [List.map_map];exact bx_av _
 rw [e1] at q
 refine ⟨g,_,q,?_,qnd ho⟩
 rw [q7j,qii,List.map_nil,List.nil_append,List.map_map]
 rfl
theorem qdu {ns:List Int} {S:TS} {B:Nat} {h:AH} {A:AV} {bad:Str} {day:Int} (I:TI ns S B) (hB:B<=4000) (hA:IsL h A (bA S.book)) :
  m_qt [A, .str bad, .int day] h=.ok (.lst (sA (q4d (((bx S.book).map fun z=>z.1.2).filter fun e=>decide (day<=e.day)) fun x=>decide (bad=x)))) h:=
 qgv (bx_x I) (by rw [bx_av];exact hA) (by rw [qeu];have:=I.len;omega)
theorem q98 {α:Type} {n:Nat} (f:α->AV) {l:List α} (h:∀ x∈l,okD n (f x)=true):okDs n (l.map f)=true:=qbb fun x hx=>by
 obtain ⟨y,hy,rfl⟩:=List.mem_map.mp hx
 exact h y hy
theorem De.okD {d:De} {t:Int} (o:d.ok):PM.okD 4 (d.av t)=true:=by
 cases d with
 | night rows =>
  have h1:rows.length<=100000:=by have:=o.1;omega
  have h2:okDs 2 (rows.map rwA)=true:=q98 rwA fun r _=>by simp [rwA,PM.okD,okDs]
  simp [De.av,PM.okD,okDs,h1,h2]
 | batch nm ps =>
  have h1:ps.length<=100000:=by have:=o.1;omega
  have h2:okDs 2 (ps.map pt)=true:=q98 pt fun r _=>by simp [pt,PM.okD,okDs]
  simp [De.av,PM.okD,okDs,h1,h2]
 | cut w n =>
  have h1:n<=100000:=by have:=o.1;omega
  have h2:okDs 2 (List.replicate n (AV.int 7))=true:=qbb fun x hx=>by rw [(List.mem_replicate.mp hx).2];rfl
  simp [De.av,PM.okD,okDs,h1,h2]
 | _=>simp [De.av,PM.okD,okDs]
theorem qln {ns:List Int} {S:TS} {B:Nat} (I:TI ns S B):okDs 4 (bA S.book)=true:=q98 _ fun z hz=>De.okD (I.en z hz).1
section
variable {ns:List Int} {S:TS}
theorem day_ok {h g:AH} (hh:h=HT ns S++g) (hd:S.first<=S.day) (c:Int):∃ d,m_qr [.ref 4, .int c] h=.ok (.int d) h:=by
 have g4:h[4]?=some (.dk SK (SV S)):=by rw [hh];exact q4s h4
 have e1:=qe7 (S:=S)
 have e2:=qlb (S:=S)
 have hp:(0:Int)<(S.day:Int) - (S.first:Int)+3:=by omega
 have a:=Int.emod_nonneg c (show (4:Int)≠0 by decide)
 have b:=Int.emod_lt_of_pos c (show (0:Int)<4 by decide)
 have key:∀ (x y z w:Int), ∃ d,atI [AV.int x, .int y, .int z, .int w] (c % 4)=some (.int d):=fun x y z w=>by
  generalize c % 4=i at *
  rcases (show i=0\/i=1\/i=2\/i=3 by omega) with rfl | rfl | rfl | rfl
  ·exact ⟨x,rfl⟩
  ·exact ⟨y,rfl⟩
  ·exact ⟨z,rfl⟩
  ·exact ⟨w,rfl⟩
 obtain ⟨d,ed⟩:=key 0 ((S.first:Int)+c / 4 % 2) ((S.first:Int)+c / 4 % ((S.day:Int) - (S.first:Int)+3)) (c / 4 % 10000)
 refine ⟨d,?_⟩
 clear hh
 unfold m_qr b_qr
 simp [g4,e1,e2,hp,ed]
end
theorem qkp {h:AH} {A:AV} {xs:List Str} (hA:IsL h A (sA xs)) (hl:xs.length<=1000000):m_qw [A, .lst (sA xs)] h=.ok (.bl true) h:=by
 have hlen:(sA xs).length=xs.length:=by unfold sA;simp
 have hq:=qn6 hA
 have loop:∃ o,sFor (q3a (aC fLen (q02 (aVar 1) aNil))) (gN 2) (sIf (aOr (aNot (aB (a1 (fIsi .str) (a2 fIx (aVar 0) (aVar 2))))) (aB (a2 fNe (a2 fIx (aVar 0) (aVar 2)) (a2 fIx (aVar 1) (aVar 2))))) (sRet (aK (.bl false))) q10) [some A,some (.lst (sA xs)),none] h=.nx [some A,some (.lst (sA xs)),o] h:=by
  obtain ⟨e2,h2,q,o,rfl,rfl⟩:=qbp (n:=xs.length) (i:=2) (a:=aC fLen (q02 (aVar 1) aNil)) (body:=sIf (aOr (aNot (aB (a1 (fIsi .str) (a2 fIx (aVar 0) (aVar 2))))) (aB (a2 fNe (a2 fIx (aVar 0) (aVar 2)) (a2 fIx (aVar 1) (aVar 2))))) (sRet (aK (.bl false))) q10) (P:=fun _ env H=>∃ o,env=[some A,some (.lst (sA xs)),o]/\H=h) (env:=[some A,some (.lst (sA xs)),none]) (h:=h) (by omega) (by simp [hlen]) ⟨none,rfl,rfl⟩ (fun j hj env H hp=>by
   obtain ⟨o,rfl,rfl⟩:=hp
   refine ⟨[some A,some (.lst (sA xs)),some (.int (j:Int))],H,?_,_,rfl,rfl⟩
   obtain ⟨x,hx⟩:∃ x,xs[j]?=some x:=⟨_,List.getElem?_eq_getElem hj⟩
   have hat:atI (sA xs) (j:Int)=some (.str x):=q0w (by unfold sA;rw [List.getElem?_map,hx];rfl)
   show sIf _ _ _ [some A,some (.lst (sA xs)),some (.int (j:Int))] H=_
   generalize sA xs=X at *
   rcases hA with q | ⟨k,q,hk⟩
   ·subst q;simp [hat,isiB]
   ·subst q;simp [hk,hat,isiB])
  exact ⟨o,q⟩
 obtain ⟨o,loop⟩:=loop
 have s1:sIf (aOr (aNot (aB (a1 (fIsi .list) (aVar 0)))) (aB (a2 fNe (aC fLen (q02 (aVar 0) aNil)) (aC fLen (q02 (aVar 1) aNil))))) (sRet (aK (.bl false))) q10 [some A,some (.lst (sA xs)),none] h=.nx [some A,some (.lst (sA xs)),none] h:=by
  generalize sA xs=X at *
  rcases hA with q | ⟨k,q,hk⟩
  ·subst q;simp [isiB]
  ·subst q;simp [hk,isiB]
 show ((sSeq _ _ [some A,some (.lst (sA xs)),none] h).out)=_
 rw [q0m s1,q0m loop]
 simp
end TL
namespace K23
open PySem L2 Z PM
def flT:Nat->List Nat
 | _=>[]
def b_law:AS:=
 (sSeq (sAsg (aC m_qx (q02 (aVar 0) (q02 (aK (.int 4)) aNil))) (gN 1))
 (sSeq (sAsg (aLst (q02 (aK (.str "f")) (q02 (aK (.str "g")) (q02 (aK (.str "h")) (q02 (aK (.str "m")) (q02 (aK (.str "n")) (q02 (aK (.str "o")) (q02 (aK (.str "p")) (q02 (aK (.str "q")) (q02 (aK (.str "k")) (q02 (aK (.str "l")) (q02 (aK (.str "5")) (q02 (aK (.str "6")) (q02 (aK (.str "7")) (q02 (aK (.str "a0")) (q02 (aK (.str "a1")) (q02 (aK (.str "a2")) (q02 (aK (.str "a4")) (q02 (aK (.str "zz")) aNil))))))))))))))))))) (gN 2))
 (sSeq (sAsg (aC m_qi (q02 (aVar 0) (q02 (a2 fIx (aVar 2) (a2 fMod (aC m_qk (q02 (aVar 0) (q02 (aK (.int 2)) aNil))) (aK (.int 18)))) aNil))) (gN 3))
 (sSeq (sAsg (aC m_qr (q02 (aVar 1) (q02 (a2 fDiv (aC m_qk (q02 (aVar 0) (q02 (aK (.int 2)) aNil))) (aK (.int 18))) aNil))) (gN 4))
 (sSeq (sAsg (aC qhv (q02 (a2 q08 (aVar 1) (aK (.str "book"))) aNil)) (gN 5))
 (sSeq (sAsg (aC m_qz (q02 (aVar 5) (q02 (aVar 3) (q02 (aVar 4) aNil)))) (gN 6))
 (sSeq (sIf (aOr (aNot (aB (aC (m_qc 6) (q02 (aVar 5) (q02 (a2 q08 (aVar 1) (aK (.str "book"))) aNil))))) (aNot (aB (a1 (fIsi .list) (aVar 6)))))
 (sRet (aK (.bl false)))
 q10)
 (sSeq (sAsg (q3r aNil) (gN 7))
 (sSeq (sFor (iLst (aVar 6)) (gN 8)
 (sSeq (sIf (aOr (aNot (aB (a1 (fIsi .tuple) (aVar 8)))) (aOr (aB (a2 fNe (aC fLen (q02 (aVar 8) aNil)) (aK (.int 2)))) (aNot (aB (a1 (fIsi .list) (a2 fIx (aVar 8) (aK (.int 1))))))))
 (sRet (aK (.bl false)))
 q10)
 (q0q (aMtL q15 (aVar 7) (q02 (a2 fIx (aVar 8) (aK (.int 0))) aNil)))))
 (sRet (aC m_qw (q02 (aVar 7) (q02 (aC m_qt (q02 (a2 q08 (aVar 1) (aK (.str "book"))) (q02 (aVar 3) (q02 (aVar 4) aNil)))) aNil)))))))))))))
def m_law:AF:=fnZ 9 b_law
end K23
namespace K23
open PySem L2 Z PM KR NMS TL
def mk18:List Str:=["f", "g", "h", "m", "n", "o", "p", "q", "k", "l", "5", "6", "7", "a0", "a1", "a2", "a4", "zz"]
theorem ql5:(∀ m∈mk18,m.length<=12)/\mk18.length=18:=by decide +kernel
def qan:AS:=sSeq (sIf (aOr (aNot (aB (a1 (fIsi .tuple) (aVar 8)))) (aOr (aB (a2 fNe (aC fLen (q02 (aVar 8) aNil)) (aK (.int 2)))) (aNot (aB (a1 (fIsi .list) (a2 fIx (aVar 8) (aK (.int 1))))))))
 (sRet (aK (.bl false)))
 q10)
 (q0q (aMtL q15 (aVar 7) (q02 (a2 fIx (aVar 8) (aK (.int 0))) aNil)))
theorem qj9 {H0:AH} {F:List Str} {t:Str×List KR.Step} {x0 x1 x2 x3 x4 x5 x6:Option AV} (hF:F.length<=5000000) :
  qan [x0,x1,x2,x3,x4,x5,x6,some (.ref H0.length),some (q1z t)] (H0++[.lst (sA F)])=.nx [x0,x1,x2,x3,x4,x5,x6,some (.ref H0.length),some (q1z t)] (H0++[.lst (sA (F++[t.1]))]):=by
 have a0:atI [AV.str t.1,wayA t.2] 0=some (.str t.1):=rfl
 have a1:atI [AV.str t.1,wayA t.2] 1=some (wayA t.2):=rfl
 have eF:sA (F++[t.1])=sA F++[.str t.1]:=by unfold sA;simp
 have hz:(sA F).length<sizeLine:=by unfold sA;rw [List.length_map];exact Nat.lt_of_le_of_lt hF (by decide)
 have hw:wayA t.2=.lst (t.2.map stA):=rfl
 rw [eF]
 unfold qan q1z
 rw [hw] at a0 a1 ⊢
 generalize t.2.map stA=WS at *
 generalize sA F=SF at *
 simp [a0,a1,isiB,hz]
theorem qbx {H0:AH} {x0 x1 x2 x3 x4 x5 x6:Option AV} {all:List AV}:∀ (r:List (Str×List KR.Step)) (F:List Str) (o8:Option AV),F.length+r.length<=5000000 ->
  ∃ o,q1y none all (gN 8) qan (r.map q1z) [x0,x1,x2,x3,x4,x5,x6,some (.ref H0.length),o8] (H0++[.lst (sA F)])=.nx [x0,x1,x2,x3,x4,x5,x6,some (.ref H0.length),o] (H0++[.lst (sA (F++r.map (·.1)))])
 | [],F,o8,_=>⟨o8,by simp [q1y,q0x]⟩
 | t::r,F,o8,hl=>by
  rw [List.length_cons] at hl
  have q:=qj9 (H0:=H0) (F:=F) (t:=t) (x0:=x0) (x1:=x1) (x2:=x2) (x3:=x3) (x4:=x4) (x5:=x5) (x6:=x6) (by omega)
  obtain ⟨o,q2⟩:=qbx (H0:=H0) (x0:=x0) (x1:=x1) (x2:=x2) (x3:=x3) (x4:=x4) (x5:=x5) (x6:=x6) (all:=all) r (F++[t.1]) (some (q1z t)) (by rw [List.length_append,List.length_singleton];omega)
  exact ⟨o,by rw [List.map_cons,q4r (e1:=[x0,x1,x2,x3,x4,x5,x6,some (.ref H0.length),some (q1z t)]) rfl q,q2];simp⟩
theorem qby:∀ (es:List En) (f:Fb),(∀ e∈es,e.one.length+(e.circ.map (·.length)).sum<=1000)->(q4d es f).length<=1000 * es.length
 | [],_,_=>Nat.le_refl _
 | e::r,f,h=>by
  have ih:=qby r (bst e f) fun x hx=>h x (List.mem_cons_of_mem _ hx)
  have h0:=h e List.mem_cons_self
  show (tells e f++q4d r (bst e f)).length<=_
  rw [List.length_append,List.length_cons]
  have:(tells e f).length<=1000:=by
   unfold tells
   split
   ·rw [List.length_map]
    unfold q4u
    rw [List.length_append]
    have h1:=List.length_filter_le (fun p:Str×Str=>q44 e f p.1) e.one
    have h2:∀ cs:List (List Str),(cs.flatMap (q7e (q44 e f))).length<=(cs.map (·.length)).sum:=by
     intro cs
     induction cs with
     | nil=>exact Nat.le_refl _
     | cons c cs ih =>
      rw [List.flatMap_cons,List.length_append,List.map_cons,List.sum_cons]
      refine Nat.add_le_add ?_ ih
      unfold q7e
      split
      ·exact Nat.zero_le _
      ·rw [List.length_map];exact List.length_filter_le _ _
    have:=h2 e.circ
    omega
   ·exact Nat.zero_le _
  omega
theorem law_true:∀ ns:List Int,ns.length<=63->∃ h,m_law [.kst (ns.map AV.int)] []=.ok (.bl true) h:=by
 intro ns hns
 have c2:∀ h,m_qk [SCR ns, .int 2] h=.ok (.int (cz ns 2)) h:=fun h=>qa8 ns 2 h
 obtain ⟨S,B,p,I,hB,_,et⟩:=qmf (ns:=ns) (f:=4) (by decide) (by decide) hns
 have hd:S.first<=S.day:=qkq p (Nat.le_refl _)
 obtain ⟨ml,m18⟩:=ql5
 obtain ⟨m,hm,em⟩:∃ m,m∈mk18/\atI (sA mk18) (cz ns 2 % 18)=some (.str m):=by
  have a:=Int.emod_nonneg (cz ns 2) (show (18:Int)≠0 by decide)
  have b:=Int.emod_lt_of_pos (cz ns 2) (show (0:Int)<18 by decide)
  obtain ⟨i,ei⟩:∃ i:Nat,cz ns 2 % 18=(i:Int):=⟨(cz ns 2 % 18).toNat,by omega⟩
  have hi:i<mk18.length:=by omega
  refine ⟨mk18[i],List.getElem_mem hi,?_⟩
  rw [ei]
  exact q0w (by unfold sA;rw [List.getElem?_map,List.getElem?_eq_getElem hi];rfl)
 have en:=q5m ns (m:=m) (HT ns S) (ml m hm)
 generalize hbad:nmOf ns m=bad at *
 obtain ⟨day,ed⟩:=day_ok (ns:=ns) (S:=S) (h:=HT ns S) (g:=[]) (by simp) hd (cz ns 2 / 18)
 obtain ⟨g,T,er,hT,_⟩:=qf6 (h:=HT ns S) (bad:=bad) (day:=day) I (by omega)
 have hA:IsL (HT ns S++g) (.ref 1) (bA S.book):=.inr ⟨1,rfl,q4s h1⟩
 have hbl:(bA S.book).length<=100000:=by rw [q9r];have:=I.len;omega
 have es:m_qc 6 [.lst (bA S.book), .ref 1] (HT ns S++g)=.ok (.bl true) (HT ns S++g):=qmb (n:=4) hbl (.inl rfl) hA (qln I)
 have hTl:T.length<=1000000:=by
  have e1:=congrArg List.length hT
  rw [List.length_map] at e1
  rw [e1]
  have l1:=qby (((bx S.book).map fun z=>z.1.2).filter fun e=>decide (day<=e.day)) (fun x=>decide (bad=x)) (fun e he=>by
   obtain ⟨z,hz,rfl⟩:=List.mem_map.mp (List.mem_filter.mp he).1
   exact (bx_x I z hz).size)
  have l2:=List.length_filter_le (fun e:En=>decide (day<=e.day)) ((bx S.book).map fun z=>z.1.2)
  rw [List.length_map,qeu] at l2
  have:=I.len
  omega
 have ef:=qdu (h:=HT ns S++g++[.lst (sA (T.map (·.1)))]) (A:=.ref 1) (bad:=bad) (day:=day) I (by omega) hA.app
 rw [<- hT] at ef
 have hgl:(HT ns S++g).length=(HT ns S++g).length:=rfl
 have ex:=qkp (h:=HT ns S++g++[.lst (sA (T.map (·.1)))]) (A:=.ref (HT ns S++g).length) (xs:=T.map (·.1)) (.inr ⟨_,rfl,by simp⟩) (by rw [List.length_map];omega)
 have g4:(HT ns S)[4]?=some (.dk SK (SV S)):=h4
 have g4':(HT ns S++g)[4]?=some (.dk SK (SV S)):=q4s h4
 have g4'':(HT ns S++g++[Cell.lst (sA (T.map (·.1)))])[4]?=some (.dk SK (SV S)):=q4s g4'
 have hb:=qgq (S:=S)
 have gb:(HT ns S)[1]?=some (.lst (bA S.book)):=h1
 generalize hSC:(AV.kst (ns.map AV.int))=SC at *
 have s1:sAsg (aC m_qx (q02 (aVar 0) (q02 (aK (.int 4)) aNil))) (gN 1) [some SC,none,none,none,none,none,none,none,none] []=.nx [some SC,some (.ref 4),none,none,none,none,none,none,none] (HT ns S):=by
  rw [<- hSC]
  exact q53 (q2n (c_ok rfl (c_ok rfl rfl)) et)
 have s2:sAsg (aLst (q02 (aK (.str "f")) (q02 (aK (.str "g")) (q02 (aK (.str "h")) (q02 (aK (.str "m")) (q02 (aK (.str "n")) (q02 (aK (.str "o")) (q02 (aK (.str "p")) (q02 (aK (.str "q")) (q02 (aK (.str "k")) (q02 (aK (.str "l")) (q02 (aK (.str "5")) (q02 (aK (.str "6")) (q02 (aK (.str "7")) (q02 (aK (.str "a0")) (q02 (aK (.str "a1")) (q02 (aK (.str "a2")) (q02 (aK (.str "a4")) (q02 (aK (.str "zz")) aNil))))))))))))))))))) (gN 2) [some SC,some (.ref 4),none,none,none,none,none,none,none] (HT ns S)=.nx [some SC,some (.ref 4),some (.lst (sA mk18)),none,none,none,none,none,none] (HT ns S):=by
  have:sA mk18=[.str "f", .str "g", .str "h", .str "m", .str "n", .str "o", .str "p", .str "q", .str "k", .str "l", .str "5", .str "6", .str "7", .str "a0", .str "a1", .str "a2", .str "a4", .str "zz"]:=rfl
  rw [this]
  generalize HT ns S=H
  simp
 have s3:sAsg (aC m_qi (q02 (aVar 0) (q02 (a2 fIx (aVar 2) (a2 fMod (aC m_qk (q02 (aVar 0) (q02 (aK (.int 2)) aNil))) (aK (.int 18)))) aNil))) (gN 3) [some SC,some (.ref 4),some (.lst (sA mk18)),none,none,none,none,none,none] (HT ns S)=.nx [some SC,some (.ref 4),some (.lst (sA mk18)),some (.str bad),none,none,none,none,none] (HT ns S):=by
  have e1:a2 fIx (aVar 2) (a2 fMod (aC m_qk (q02 (aVar 0) (q02 (aK (.int 2)) aNil))) (aK (.int 18))) [some SC,some (.ref 4),some (.lst (sA mk18)),none,none,none,none,none,none] (HT ns S)=.ok (.str m) (HT ns S):=by
   have c2':=c2 (HT ns S)
   unfold SCR at c2'
   rw [hSC] at c2'
   generalize HT ns S=H at *
   generalize sA mk18=MK at *
   simp [c2',em]
  exact q53 (q2n (c_ok rfl (c_ok e1 rfl)) en)
 have s4:sAsg (aC m_qr (q02 (aVar 1) (q02 (a2 fDiv (aC m_qk (q02 (aVar 0) (q02 (aK (.int 2)) aNil))) (aK (.int 18))) aNil))) (gN 4) [some SC,some (.ref 4),some (.lst (sA mk18)),some (.str bad),none,none,none,none,none] (HT ns S)=.nx [some SC,some (.ref 4),some (.lst (sA mk18)),some (.str bad),some (.int day),none,none,none,none] (HT ns S):=by
  have e1:a2 fDiv (aC m_qk (q02 (aVar 0) (q02 (aK (.int 2)) aNil))) (aK (.int 18)) [some SC,some (.ref 4),some (.lst (sA mk18)),some (.str bad),none,none,none,none,none] (HT ns S)=.ok (.int (cz ns 2 / 18)) (HT ns S):=by
   have c2':=c2 (HT ns S)
   unfold SCR at c2'
   rw [hSC] at c2'
   generalize HT ns S=H at *
   simp [c2']
  exact q53 (q2n (c_ok rfl (c_ok e1 rfl)) ed)
 generalize sA mk18=MK at *
 have s5:sAsg (aC qhv (q02 (a2 q08 (aVar 1) (aK (.str "book"))) aNil)) (gN 5) [some SC,some (.ref 4),some (.lst MK),some (.str bad),some (.int day),none,none,none,none] (HT ns S)=.nx [some SC,some (.ref 4),some (.lst MK),some (.str bad),some (.int day),some (.lst (bA S.book)),none,none,none] (HT ns S):=by
  generalize bA S.book=BB at *
  generalize HT ns S=H at *
  simp [g4,hb,gb]
 have s6:sAsg (aC m_qz (q02 (aVar 5) (q02 (aVar 3) (q02 (aVar 4) aNil)))) (gN 6) [some SC,some (.ref 4),some (.lst MK),some (.str bad),some (.int day),some (.lst (bA S.book)),none,none,none] (HT ns S)=.nx [some SC,some (.ref 4),some (.lst MK),some (.str bad),some (.int day),some (.lst (bA S.book)),some (.lst (T.map q1z)),none,none] (HT ns S++g):=
  q53 (q2n (c_ok rfl (c_ok rfl (c_ok rfl rfl))) er)
 have s7:sIf (aOr (aNot (aB (aC (m_qc 6) (q02 (aVar 5) (q02 (a2 q08 (aVar 1) (aK (.str "book"))) aNil))))) (aNot (aB (a1 (fIsi .list) (aVar 6))))) (sRet (aK (.bl false))) q10 [some SC,some (.ref 4),some (.lst MK),some (.str bad),some (.int day),some (.lst (bA S.book)),some (.lst (T.map q1z)),none,none] (HT ns S++g)=.nx [some SC,some (.ref 4),some (.lst MK),some (.str bad),some (.int day),some (.lst (bA S.book)),some (.lst (T.map q1z)),none,none] (HT ns S++g):=by
  generalize bA S.book=BB at *
  generalize T.map q1z=TA at *
  generalize HT ns S++g=H at *
  simp [g4',hb,es,isiB]
 have s8:sAsg (q3r aNil) (gN 7) [some SC,some (.ref 4),some (.lst MK),some (.str bad),some (.int day),some (.lst (bA S.book)),some (.lst (T.map q1z)),none,none] (HT ns S++g)=.nx [some SC,some (.ref 4),some (.lst MK),some (.str bad),some (.int day),some (.lst (bA S.book)),some (.lst (T.map q1z)),some (.ref (HT ns S++g).length),none] (HT ns S++g++[.lst (sA [])]):=by
  generalize bA S.book=BB at *
  generalize T.map q1z=TA at *
  generalize HT ns S++g=H at *
  simp [sA]
 obtain ⟨o8,s9⟩:=qbx (H0:=HT ns S++g) (x0:=some SC) (x1:=some (.ref 4)) (x2:=some (.lst MK)) (x3:=some (.str bad)) (x4:=some (.int day)) (x5:=some (.lst (bA S.book))) (x6:=some (.lst (T.map q1z))) (all:=T.map q1z) T [] none (by simp;omega)
 rw [List.nil_append] at s9
 have s9':sFor (iLst (aVar 6)) (gN 8) qan [some SC,some (.ref 4),some (.lst MK),some (.str bad),some (.int day),some (.lst (bA S.book)),some (.lst (T.map q1z)),some (.ref (HT ns S++g).length),none] (HT ns S++g++[.lst (sA [])])=.nx [some SC,some (.ref 4),some (.lst MK),some (.str bad),some (.int day),some (.lst (bA S.book)),some (.lst (T.map q1z)),some (.ref (HT ns S++g).length),o8] (HT ns S++g++[.lst (sA (T.map (·.1)))]):=by
  rw [<- s9];rfl
 unfold qan at s9'
 refine ⟨HT ns S++g++[.lst (sA (T.map (·.1)))],?_⟩
 show ((sSeq _ _ [some SC,none,none,none,none,none,none,none,none] []).out)=_
 rw [q0m s1,q0m s2,q0m s3,q0m s4,q0m s5,q0m s6,q0m s7,q0m s8,q0m s9']
 clear s1 s2 s3 s4 s5 s6 s7 s8 s9 s9'
 generalize sA (T.map (·.1))=TT at *
 generalize (HT ns S++g).length=LL at *
 generalize HT ns S++g++[.lst TT]=H at *
 generalize bA S.book=BB at *
 generalize T.map q1z=TA at *
 simp [g4'',hb,ef,ex]
end K23
namespace K23
open PySem L2 Z PM
def top (i:Nat):Stmt:=PySem.Challenge.pw_curdcellar_k23_recall_of_a_book.main.body.getD i (.Pass ⟨0,0,0,0⟩)
abbrev s_qu:Stmt:=top 1
abbrev s_q0:Stmt:=top 3
abbrev s_qy:Stmt:=top 4
abbrev s_qv:Stmt:=top 5
abbrev s_qz:Stmt:=top 6
abbrev s_qk:Stmt:=top 8
abbrev s_qc:Stmt:=top 9
abbrev s_qw:Stmt:=top 10
abbrev s_qa:Stmt:=top 11
abbrev s_qj:Stmt:=top 12
abbrev s_qd:Stmt:=top 13
abbrev s_qt:Stmt:=top 14
abbrev s_qi:Stmt:=top 15
abbrev s_ql:Stmt:=top 16
abbrev s_qe:Stmt:=top 17
abbrev s_qq:Stmt:=top 18
abbrev s_qp:Stmt:=top 19
abbrev s_qx:Stmt:=top 20
abbrev s_qr:Stmt:=top 21
abbrev q5z:Stmt:=top 22
structure Adr where
 a_qu:Addr
 fd_qu:FuncData
 a_q0:Addr
 fd_q0:FuncData
 a_qy:Addr
 fd_qy:FuncData
 a_qv:Addr
 fd_qv:FuncData
 a_qz:Addr
 fd_qz:FuncData
 a_qk:Addr
 fd_qk:FuncData
 a_qc:Addr
 fd_qc:FuncData
 a_qw:Addr
 fd_qw:FuncData
 a_qa:Addr
 fd_qa:FuncData
 a_qj:Addr
 fd_qj:FuncData
 a_qd:Addr
 fd_qd:FuncData
 a_qt:Addr
 fd_qt:FuncData
 a_qi:Addr
 fd_qi:FuncData
 a_ql:Addr
 fd_ql:FuncData
 a_qe:Addr
 fd_qe:FuncData
 a_qq:Addr
 fd_qq:FuncData
 a_qp:Addr
 fd_qp:FuncData
 a_qx:Addr
 fd_qx:FuncData
 a_qr:Addr
 fd_qr:FuncData
 a_law:Addr
 fd_law:FuncData
structure Txt (K:W.Frag) (mg:Str->Option Value) (A:Adr):Prop where
 F_qu:Fun K "wedge_names" "wedge_names" s_qu A.a_qu A.fd_qu
 d_qu:mg "wedge_names" = some (.ref A.a_qu)
 b_qu:Binds K A.fd_qu ["wheel", "many"] []
 F_q0:Fun K "one_way_touches" "one_way_touches" s_q0 A.a_q0 A.fd_q0
 d_q0:mg "one_way_touches" = some (.ref A.a_q0)
 b_q0:Binds K A.fd_q0 ["entry"] []
 F_qy:Fun K "circles" "circles" s_qy A.a_qy A.fd_qy
 d_qy:mg "circles" = some (.ref A.a_qy)
 b_qy:Binds K A.fd_qy ["entry"] []
 F_qv:Fun K "spreading" "spreading" s_qv A.a_qv A.fd_qv
 d_qv:mg "spreading" = some (.ref A.a_qv)
 b_qv:Binds K A.fd_qv ["entry", "ways"] []
 F_qz:Fun K "recall" "recall" s_qz A.a_qz A.fd_qz
 d_qz:mg "recall" = some (.ref A.a_qz)
 b_qz:Binds K A.fd_qz ["book", "name", "day"] []
 F_qk:Fun K "_law_at" "_law_at" s_qk A.a_qk A.fd_qk
 d_qk:mg "_law_at" = some (.ref A.a_qk)
 b_qk:Binds K A.fd_qk ["_law_script", "_law_k"] []
 F_qc:Fun K "_law_same" "_law_same" s_qc A.a_qc A.fd_qc
 d_qc:mg "_law_same" = some (.ref A.a_qc)
 b_qc:Binds K A.fd_qc ["_law_found", "_law_due"] []
 F_qw:Fun K "_law_texts" "_law_texts" s_qw A.a_qw A.fd_qw
 d_qw:mg "_law_texts" = some (.ref A.a_qw)
 b_qw:Binds K A.fd_qw ["_law_found", "_law_due"] []
 F_qa:Fun K "_law_things" "_law_things" s_qa A.a_qa A.fd_qa
 d_qa:mg "_law_things" = some (.ref A.a_qa)
 b_qa:Binds K A.fd_qa ["_law_entry"] []
 F_qj:Fun K "_law_shelf_of" "_law_shelf_of" s_qj A.a_qj A.fd_qj
 d_qj:mg "_law_shelf_of" = some (.ref A.a_qj)
 b_qj:Binds K A.fd_qj ["_law_entry", "_law_one"] []
 F_qd:Fun K "_law_touch" "_law_touch" s_qd A.a_qd A.fd_qd
 d_qd:mg "_law_touch" = some (.ref A.a_qd)
 b_qd:Binds K A.fd_qd ["_law_entry", "_law_source", "_law_goal"] []
 F_qt:Fun K "_law_forward" "_law_forward" s_qt A.a_qt A.fd_qt
 d_qt:mg "_law_forward" = some (.ref A.a_qt)
 b_qt:Binds K A.fd_qt ["_law_book", "_law_bad", "_law_day"] []
 F_qi:Fun K "_law_name" "_law_name" s_qi A.a_qi A.fd_qi
 d_qi:mg "_law_name" = some (.ref A.a_qi)
 b_qi:Binds K A.fd_qi ["_law_script", "_law_mark"] []
 F_ql:Fun K "_law_tale_start" "_law_tale_start" s_ql A.a_ql A.fd_ql
 d_ql:mg "_law_tale_start" = some (.ref A.a_ql)
 b_ql:Binds K A.fd_ql ["_law_script"] []
 F_qe:Fun K "_law_tale_cut" "_law_tale_cut" s_qe A.a_qe A.fd_qe
 d_qe:mg "_law_tale_cut" = some (.ref A.a_qe)
 b_qe:Binds K A.fd_qe ["_law_tale_here", "_law_wheel", "_law_many"] []
 F_qq:Fun K "_law_tale_more" "_law_tale_more" s_qq A.a_qq A.fd_qq
 d_qq:mg "_law_tale_more" = some (.ref A.a_qq)
 b_qq:Binds K A.fd_qq ["_law_tale_here", "_law_script", "_law_rest"] []
 F_qp:Fun K "_law_tale_step" "_law_tale_step" s_qp A.a_qp A.fd_qp
 d_qp:mg "_law_tale_step" = some (.ref A.a_qp)
 b_qp:Binds K A.fd_qp ["_law_tale_here", "_law_script", "_law_cell"] []
 F_qx:Fun K "_law_tale" "_law_tale" s_qx A.a_qx A.fd_qx
 d_qx:mg "_law_tale" = some (.ref A.a_qx)
 b_qx:Binds K A.fd_qx ["_law_script", "_law_first"] []
 F_qr:Fun K "_law_from_day" "_law_from_day" s_qr A.a_qr A.fd_qr
 d_qr:mg "_law_from_day" = some (.ref A.a_qr)
 b_qr:Binds K A.fd_qr ["_law_tale_here", "_law_cell"] []
 F_law:Fun K "law" "law" q5z A.a_law A.fd_law
 d_law:mg "law" = some (.ref A.a_law)
 b_law:Binds K A.fd_law ["_law_script"] []
 n_len:mg "len" = none
 n_all:mg "all" = none
 n_any:mg "any" = none
 n_min:mg "min" = none
 n_range:mg "range" = none
 n_int:mg "int" = none
 n_bool:mg "bool" = none
 n_str:mg "str" = none
 n_list:mg "list" = none
 n_tuple:mg "tuple" = none
 n_isinstance:mg "isinstance" = none
 n_sorted:mg "sorted" = none
 n_enumerate:mg "enumerate" = none
 n_set:mg "set" = none
theorem sc_qu:q1r ["wheel", "many"] ["wheel", "many"] (q0f s_qu):=⟨rfl,rfl,rfl,by decide +kernel,rfl,by decide +kernel,by decide +kernel⟩
theorem sc_q0:q1r ["entry"] ["entry"] (q0f s_q0):=⟨rfl,rfl,rfl,by decide +kernel,rfl,by decide +kernel,by decide +kernel⟩
theorem sc_qy:q1r ["entry", "by_shelf", "wheel", "room", "shelf", "loss"] ["entry"] (q0f s_qy):=⟨rfl,rfl,rfl,by decide +kernel,rfl,by decide +kernel,by decide +kernel⟩
theorem sc_qv:q1r ["entry", "ways", "pairs", "circle", "sources"] ["entry", "ways"] (q0f s_qv):=⟨rfl,rfl,rfl,by decide +kernel,rfl,by decide +kernel,by decide +kernel⟩
theorem sc_qz:q1r ["book", "name", "day", "ways", "told", "place", "entry", "pairs", "source", "target"] ["book", "name", "day"] (q0f s_qz):=⟨rfl,rfl,rfl,by decide +kernel,rfl,by decide +kernel,by decide +kernel⟩
theorem sc_qk:q1r ["_law_script", "_law_k"] ["_law_script", "_law_k"] (q0f s_qk):=⟨rfl,rfl,rfl,by decide +kernel,rfl,by decide +kernel,by decide +kernel⟩
theorem sc_qc:q1r ["_law_found", "_law_due", "_law_alike"] ["_law_found", "_law_due"] (q0f s_qc):=⟨rfl,rfl,rfl,by decide +kernel,rfl,by decide +kernel,by decide +kernel⟩
theorem sc_qw:q1r ["_law_found", "_law_due", "_law_k"] ["_law_found", "_law_due"] (q0f s_qw):=⟨rfl,rfl,rfl,by decide +kernel,rfl,by decide +kernel,by decide +kernel⟩
theorem sc_qa:q1r ["_law_entry"] ["_law_entry"] (q0f s_qa):=⟨rfl,rfl,rfl,by decide +kernel,rfl,by decide +kernel,by decide +kernel⟩
theorem sc_qj:q1r ["_law_entry", "_law_one", "_law_row"] ["_law_entry", "_law_one"] (q0f s_qj):=⟨rfl,rfl,rfl,by decide +kernel,rfl,by decide +kernel,by decide +kernel⟩
theorem sc_qd:q1r ["_law_entry", "_law_source", "_law_goal", "_law_here"] ["_law_entry", "_law_source", "_law_goal"] (q0f s_qd):=⟨rfl,rfl,rfl,by decide +kernel,rfl,by decide +kernel,by decide +kernel⟩
theorem sc_qt:q1r ["_law_book", "_law_bad", "_law_day", "_law_spoiled", "_law_found", "_law_entry", "_law_fresh", "_law_goal"] ["_law_book", "_law_bad", "_law_day"] (q0f s_qt):=⟨rfl,rfl,rfl,by decide +kernel,rfl,by decide +kernel,by decide +kernel⟩
theorem sc_qi:q1r ["_law_script", "_law_mark", "_law_base", "_law_spot"] ["_law_script", "_law_mark"] (q0f s_qi):=⟨rfl,rfl,rfl,by decide +kernel,rfl,by decide +kernel,by decide +kernel⟩
theorem sc_ql:q1r ["_law_script", "_law_names", "_law_mark", "_law_day", "_law_book", "_law_lies", "_law_k", "_law_wheel"] ["_law_script"] (q0f s_ql):=⟨rfl,rfl,rfl,by decide +kernel,rfl,by decide +kernel,by decide +kernel⟩
theorem sc_qe:q1r ["_law_tale_here", "_law_wheel", "_law_many", "_law_k"] ["_law_tale_here", "_law_wheel", "_law_many"] (q0f s_qe):=⟨rfl,rfl,rfl,by decide +kernel,rfl,by decide +kernel,by decide +kernel⟩
theorem sc_qq:q1r ["_law_tale_here", "_law_script", "_law_rest", "_law_names", "_law_wheel", "_law_row", "_law_wedge"] ["_law_tale_here", "_law_script", "_law_rest"] (q0f s_qq):=⟨rfl,rfl,rfl,by decide +kernel,rfl,by decide +kernel,by decide +kernel⟩
theorem sc_qp:q1r ["_law_tale_here", "_law_script", "_law_cell", "_law_names", "_law_rest", "_law_lying", "_law_rows", "_law_wheel", "_law_row"] ["_law_tale_here", "_law_script", "_law_cell"] (q0f s_qp):=⟨rfl,rfl,rfl,by decide +kernel,rfl,by decide +kernel,by decide +kernel⟩
theorem sc_qx:q1r ["_law_script", "_law_first", "_law_tale_here", "_law_k", "_law_wheel"] ["_law_script", "_law_first"] (q0f s_qx):=⟨rfl,rfl,rfl,by decide +kernel,rfl,by decide +kernel,by decide +kernel⟩
theorem sc_qr:q1r ["_law_tale_here", "_law_cell", "_law_span"] ["_law_tale_here", "_law_cell"] (q0f s_qr):=⟨rfl,rfl,rfl,by decide +kernel,rfl,by decide +kernel,by decide +kernel⟩
theorem qj6:q1r ["_law_script", "_law_tale_here", "_law_marks", "_law_bad", "_law_day", "_law_handed", "_law_found", "_law_told", "_law_pair"] ["_law_script"] (q0f q5z):=⟨rfl,rfl,rfl,by decide +kernel,rfl,by decide +kernel,by decide +kernel⟩
def clT (A:Adr):Nat->Addr:=fun _=>0
def fnT:Nat->Str:=fun _ => ""
theorem injT (c i j:Nat) (hi:i∈flT c) (hj:j∈flT c) (e:fnT i=fnT j):i=j:=by
 have all:∀ i∈([]:List Nat), ∀ j∈([]:List Nat),fnT i=fnT j->i=j:=by decide +kernel
 have lt:∀ c i,i∈flT c->i∈([]:List Nat):=by
  intro c i h
  unfold flT at h
  split at h <;> simp at h ⊢ <;> omega
 exact all i (lt c i hi) j (lt c j hj) e
section
variable {P:Program} {w:World} {K:W.Frag} {mg:Str->Option Value} {base:Heap} {A:Adr}
theorem fldT (T:Txt K mg A) (c i:Nat) (h:i∈flT c):Cls K (clT A c)/\qib K (clT A c) (fnT i):=by
 cases h
def ctOf (T:Txt K mg A):Ct:=⟨K,clT A,fnT,flT,injT,fldT T,flG,none⟩
theorem z_qu (T:Txt K mg A):FnOk P w K mg base (CX1 P w) 1 A.a_qu A.fd_qu ["wheel", "many"] (spZ (ctOf T) 2 m_qu):=by
 refine T.F_qu.okR sc_qu (fun vs H Q E h=>q28 h) (fun cdv A' outer s H vs Q E hr h=>?_)
 have nd:=sc_qu.nd
 have hu:=q2p hr
 exact ⟨_,(q0g (q14 (q3y (osc:=q0f s_qu) (N0:=["wheel", "many"]) rfl rfl rfl (own:=["number"]) (fv:=[("wheel",0)]) ⟨rfl,by decide +kernel,by decide +kernel,by decide +kernel,by decide +kernel,by decide +kernel⟩ (qcb rfl T.n_range (q04 q09 (q04 (q0r q51 (pv 1) q09) q07))) (fun _ _ _=>(q0v (i:=0) (show (["number", "wheel"]:List Str).Nodup by decide +kernel) rfl (Or.inl rfl) (hf:=Or.inr rfl))) (fun _ _ _=>q31) (fun _ _ _=>(qny (qbo (qmh (pv 1)) (qbo q0e (qbo (qma (pv 0)) pj_nil)))))))),q29 (C:=ctOf T) ((q13 (q3o (own:=["number"]) (fv:=[("wheel",0)]) (qc0 q0a (q06 q4y q03 q0a)) q1t q3j (qng (qbj (qmq q03) (qbj q0c (qbj (qnj q03) sj_nil))))))) rfl h⟩
theorem z_q0 (T:Txt K mg A):FnOk P w K mg base (CX1 P w) 2 A.a_q0 A.fd_q0 ["entry"] (spZ (ctOf T) 1 m_q0):=by
 refine T.F_q0.okR sc_q0 (fun vs H Q E h=>q28 h) (fun cdv A' outer s H vs Q E hr h=>?_)
 have nd:=sc_q0.nd
 have hu:=q2p hr
 exact ⟨_,(q0d (q1j (q0z q1v (q0l q0n (pv 0) q09 (fun _ _=>rfl)) q0e (q0u _))
 (q0g (q14 (q3y (osc:=q0f s_q0) (N0:=["entry"]) rfl rfl rfl (own:=["farm"]) (fv:=[("entry",0)]) ⟨rfl,by decide +kernel,by decide +kernel,by decide +kernel,by decide +kernel,by decide +kernel⟩ (q2t (q0s (qab rfl) rfl T.n_sorted PyProof.Rows.boot_sorted (q04 (q38 (qhk rfl) rfl T.n_set PyProof.Rows.boot_set (q04 (q3y (osc:=q0f s_q0) (N0:=["entry"]) rfl rfl rfl (own:=["farm", "grams"]) (fv:=[]) ⟨rfl,by decide +kernel,by decide +kernel,by decide +kernel,by decide +kernel,by decide +kernel⟩ (q5t (q0l q0n (pv 0) q09 (fun _ _=>rfl))) (fun _ _ _=>(qfo (K:=K) (n:=2) rfl rfl rfl (q32 (q0v (i:=0) (show (["farm", "grams"]:List Str).Nodup by decide +kernel) rfl (Or.inl rfl) (hf:=Or.inr rfl)) (q32 (q0v (i:=1) (show (["farm", "grams"]:List Str).Nodup by decide +kernel) rfl (Or.inl rfl) (hf:=Or.inr rfl)) q7c)))) (fun _ _ _=>q31) (fun _ _ _=>(pv 0))) q07)) q07))) (fun _ _ _=>(q0v (i:=0) (show (["farm", "entry"]:List Str).Nodup by decide +kernel) rfl (Or.inl rfl) (hf:=Or.inr rfl))) (fun _ _ _=>q31) (fun _ _ _=>(q1l (q04 (pv 0) (q04 (q0l (q3u (K:=K) rfl) (pv 1) q09 (fun _ _=>rfl)) q07)))))))
 q18)
 (q0d (q1j (q0z q1v (q0l q0n (pv 0) q09 (fun _ _=>rfl)) q0e (q0u _))
 (q0g (q14 (q2d (q04 (q1l (q04 (q0l q0n (pv 0) q09 (fun _ _=>rfl)) (q04 (q0l q0n (pv 0) q09 (fun _ _=>rfl)) q07))) q07))))
 q18)
 (q0d (q1j (q0z q1v (q0l q0n (pv 0) q09 (fun _ _=>rfl)) q0e (q0u _))
 (q0g (q14 (q3y (osc:=q0f s_q0) (N0:=["entry"]) rfl rfl rfl (own:=["wedge"]) (fv:=[("entry",0)]) ⟨rfl,by decide +kernel,by decide +kernel,by decide +kernel,by decide +kernel,by decide +kernel⟩ (q2t (q1a (z_qu T) hr.q9 rfl T.d_qu T.F_qu.kp T.b_qu .nil q2i.passes (q04 (q0l q0n (pv 0) q09 (fun _ _=>rfl)) (q04 (q0s q23 rfl T.n_len PySem.boot_len (q04 (q0l q0n (pv 0) q09 (fun _ _=>rfl)) q07)) q07)))) (fun _ _ _=>(q0v (i:=0) (show (["wedge", "entry"]:List Str).Nodup by decide +kernel) rfl (Or.inl rfl) (hf:=Or.inr rfl))) (fun _ _ _=>q31) (fun _ _ _=>(q1l (q04 (q0l (q3u (K:=K) rfl) (pv 1) q09 (fun _ _=>rfl)) (q04 (pv 0) q07)))))))
 q18)
 (q0g (q14 (q2d q07)))))),q29 (C:=ctOf T) ((q0h (q1i (q0y (q06 q1u (q06 q0o q03 q0a) q0c))
 (q13 (q3o (own:=["farm"]) (fv:=[("entry",0)]) (q2u (qfg (q3o (own:=["farm", "grams"]) (fv:=[]) (q5r (q06 q0o q03 q0a)) (qg7 (q6q q1t (q6q q1t qe5))) q3j q03))) q1t q3j (q1p (q05 q03 (q05 (q06 q0o q03 q0a) q0b)))))
 q17)
 (q0h (q1i (q0y (q06 q1u (q06 q0o q03 q0a) q0c))
 (q13 (q2y (q05 (q1p (q05 (q06 q0o q03 q0a) (q05 (q06 q0o q03 q0a) q0b))) q0b)))
 q17)
 (q0h (q1i (q0y (q06 q1u (q06 q0o q03 q0a) q0c))
 (q13 (q3o (own:=["wedge"]) (fv:=[("entry",0)]) (q2u (q1b (q05 (q06 q0o q03 q0a) (q05 (q2b q34 (q05 (q06 q0o q03 q0a) q0b)) q0b)))) q1t q3j (q1p (q05 (q06 q0o q03 q0a) (q05 q03 q0b)))))
 q17)
 (q13 (q2y q0b)))))) rfl h⟩
theorem z_qy (T:Txt K mg A):FnOk P w K mg base (CX1 P w) 1 A.a_qy A.fd_qy ["entry"] (spZ (ctOf T) 1 m_qy):=by
 refine T.F_qy.okR sc_qy (fun vs H Q E h=>q28 h) (fun cdv A' outer s H vs Q E hr h=>?_)
 have nd:=sc_qy.nd
 have hu:=q2p hr
 exact ⟨_,(q0d (q1j (q0z q1v (q0l q0n (pv 0) q09 (fun _ _=>rfl)) q0e (q0u _))
 (q0g (q14 (q2d (q04 (q2d (q04 (q0l q0n (pv 0) q09 (fun _ _=>rfl)) (q04 (q0l q0n (pv 0) q09 (fun _ _=>rfl)) (q04 (q0l q0n (pv 0) q09 (fun _ _=>rfl)) q07)))) q07))))
 q18)
 (q0d (q1j (q0z q6m (q0l q0n (pv 0) q09 (fun _ _=>rfl)) q0e (q0u _))
 (q0g (q14 (q2d q07)))
 q18)
 (q0d (q1c (i:=1) nd rfl (Or.inl rfl) q9n)
 (q0d (q3b PassesOwn.leaving rfl (q5t (q0l q0n (pv 0) q09 (fun _ _=>rfl))) (qaf rfl (q32 (q0v (i:=2) nd rfl (Or.inl rfl)) (q32 (q0v (i:=3) nd rfl (Or.inl rfl)) (q32 (q0v (i:=4) nd rfl (Or.inl rfl)) (q32 (q0v (i:=5) nd rfl (Or.inl rfl)) q7c)))))
 (q0g (q1m (q36 PySem.F.plainAttrs_list PySem.F.slot_list_append PySem.F.type_list_append q1w (ql0 (pv 1) (pv 4) (q2d (q04 (pv 4) q07)) ⟨rfl,rfl,rfl,rfl⟩) (q04 (pv 2) q07)))))
 (q0g (q14 (q38 (qgu rfl) rfl T.n_list PyProof.Rows.boot_list (q04 (qmm (pv 1)) q07)))))))),q29 (C:=ctOf T) ((q0h (q1i (q0y (q06 q1u (q06 q0o q03 q0a) q0c))
 (q13 (q2y (q05 (q2y (q05 (q06 q0o q03 q0a) (q05 (q06 q0o q03 q0a) (q05 (q06 q0o q03 q0a) q0b)))) q0b)))
 q17)
 (q0h (q1i (q0y (q06 q6r (q06 q0o q03 q0a) q0c))
 (q13 (q2y q0b))
 q17)
 (q0h (q16 q9o q0k)
 (q0h (q3c (q5r (q06 q0o q03 q0a)) (qde (q49 q0k (q49 q0k (q49 q0k (q49 q0k qba)))))
 (q1o (q2m q22 (qm0 q03 q03 (q6a (q05 q03 q0b))) (q05 q03 q0b))))
 (q13 (qko q03))))))) rfl h⟩
theorem z_qv (T:Txt K mg A):FnOk P w K mg base (CX1 P w) 3 A.a_qv A.fd_qv ["entry", "ways"] (spZ (ctOf T) 2 m_qv):=by
 refine T.F_qv.okR sc_qv (fun vs H Q E h=>q28 h) (fun cdv A' outer s H vs Q E hr h=>?_)
 have nd:=sc_qv.nd
 have hu:=q2p hr
 exact ⟨_,(q0d (q9a (osc:=q0f s_qv) (N0:=["entry", "ways", "pairs", "circle", "sources"]) (i:=2) rfl rfl rfl nd rfl (Or.inl rfl) (own:=["pair"]) (fv:=[("ways",1)]) ⟨rfl,by decide +kernel,by decide +kernel,by decide +kernel,by decide +kernel,by decide +kernel⟩ (q2t (q1a (z_q0 T) hr.q9 rfl T.d_q0 T.F_q0.kp T.b_q0 .nil q2i.passes (q04 (pv 0) q07))) (fun _ _ _=>(q0v (i:=0) (show (["pair", "ways"]:List Str).Nodup by decide +kernel) rfl (Or.inl rfl) (hf:=Or.inr rfl))) (fun _ _ _=>(q8l (qb0 (qdn hu (q0l (q3u (K:=K) rfl) (pv 0) q09 (fun _ _=>rfl)) (pv 1))))) (fun _ _ _=>(pv 0)))
 (q0d (q3b PassesOwn.leaving rfl (q2t (q1a (z_qy T) hr.q9 rfl T.d_qy T.F_qy.kp T.b_qy .nil q2i.passes (q04 (pv 0) q07))) (q0v (i:=3) nd rfl (Or.inl rfl))
 (q0d (q1c (i:=4) nd rfl (Or.inr rfl) (q3y (osc:=q0f s_qv) (N0:=["entry", "ways", "pairs", "circle", "sources"]) rfl rfl rfl (own:=["thing"]) (fv:=[("ways",1)]) ⟨rfl,by decide +kernel,by decide +kernel,by decide +kernel,by decide +kernel,by decide +kernel⟩ (q2t (pv 3)) (fun _ _ _=>(q0v (i:=0) (show (["thing", "ways"]:List Str).Nodup by decide +kernel) rfl (Or.inl rfl) (hf:=Or.inr rfl))) (fun _ _ _=>(q8l (qb0 (qdn hu (pv 0) (pv 1))))) (fun _ _ _=>(pv 0))))
 (q0g (q1j (qke (pv 4) (fun _=>rfl))
 (q0g (q1m (q36 PySem.F.plainAttrs_list PySem.F.slot_list_extend PySem.F.type_list_extend qa5 (pv 2) (q04 (q3y (osc:=q0f s_qv) (N0:=["entry", "ways", "pairs", "circle", "sources"]) rfl rfl rfl (own:=["thing"]) (fv:=[("sources",4),("ways",1)]) ⟨rfl,by decide +kernel,by decide +kernel,by decide +kernel,by decide +kernel,by decide +kernel⟩ (q2t (pv 3)) (fun _ _ _=>(q0v (i:=0) (show (["thing", "sources", "ways"]:List Str).Nodup by decide +kernel) rfl (Or.inl rfl) (hf:=Or.inr rfl))) (fun _ _ _=>(q8l (qb0 (qij hu (pv 0) (pv 2))))) (fun _ _ _=>(q1l (q04 (q0l (q3u (K:=K) rfl) (pv 1) q09 (fun _ _=>rfl)) (q04 (pv 0) q07))))) q07))))
 q18))))
 (q0g (q14 (pv 2))))),q29 (C:=ctOf T) ((q0h (q16 (qjr (own:=["pair"]) (fv:=[("ways",1)]) (q2u (q1b (q05 q03 q0b))) q1t (st_b (qdz (q06 q0o q03 q0a) q03)) q03) q0k)
 (q0h (q3c (q2u (q1b (q05 q03 q0b))) q0k
 (q0h (q16 (q3o (own:=["thing"]) (fv:=[("ways",1)]) (q2u q03) q1t (st_b (qdz q03 q03)) q03) q0k)
 (q1i (st_tru q03)
 (q1o (q2m qcc q03 (q05 (q3o (own:=["thing"]) (fv:=[("sources",4),("ways",1)]) (q2u q03) q1t (st_b (qin q03 q03)) (q1p (q05 (q06 q0o q03 q0a) (q05 q03 q0b)))) q0b)))
 q17)))
 (q13 (qdg q03))))) rfl h⟩
theorem z_qz (T:Txt K mg A):FnOk P w K mg base (CX1 P w) 4 A.a_qz A.fd_qz ["book", "name", "day"] (spZ (ctOf T) 3 m_qz):=by
 refine T.F_qz.okR sc_qz (fun vs H Q E h=>q28 h) (fun cdv A' outer s H vs Q E hr h=>?_)
 have nd:=sc_qz.nd
 have hu:=q2p hr
 exact ⟨_,(q0d (q1c (i:=3) nd rfl (Or.inr rfl) (qb5 (q40 (pv 1) (q2d q07) qbc) rfl rfl (fun z=>nomatch z) (by decide)))
 (q0d (q1c (i:=4) nd rfl (Or.inl rfl) (q2d q07))
 (q0d (q3b PassesOwn.leaving rfl (qmc rfl T.n_enumerate (q04 (pv 0) q07)) (qaf rfl (q32 (q0v (i:=5) nd rfl (Or.inl rfl)) (q32 (q0v (i:=6) nd rfl (Or.inl rfl)) q7c)))
 (q0d (q1j (q0z qap (q0l q0n (pv 6) q09 (fun _ _=>rfl)) (pv 2) (q0u _))
 (q0g qf7)
 q18)
 (q0d (q1j (q0z q1v (q0l q0n (pv 6) q09 (fun _ _=>rfl)) q0e (q0u _))
 (q0g (q1m (qkn (pv 3) (q0l q0n (pv 6) q09 (fun _ _=>rfl)) pe_non ⟨rfl,rfl,rfl,rfl⟩)))
 q18)
 (q0d (q1c (i:=7) nd rfl (Or.inl rfl) (q1a (z_qv T) hr.q9 rfl T.d_qv T.F_qv.kp T.b_qv .nil q2i.passes (q04 (pv 6) (q04 (pv 3) q07))))
 (q0d (q3b PassesOwn.leaving rfl (q2t (pv 7)) (qaf rfl (q32 (q0v (i:=8) nd rfl (Or.inl rfl)) (q32 (q0v (i:=9) nd rfl (Or.inl rfl)) q7c)))
 (q0g (q4w hu (pv 3) (pv 9) (q0r q8q (q0i hu (pv 3) (pv 8) (fun _ _=>rfl)) (q2d (q04 (q1l (q04 (pv 5) (q04 (pv 8) (q04 (pv 9) q07)))) q07))) rfl)))
 (q0g (q1j (q0z q1v (q0l q0n (pv 6) q09 (fun _ _=>rfl)) q0e (q0u _))
 (q0g (q1m (q36 PySem.F.plainAttrs_list PySem.F.slot_list_extend PySem.F.type_list_extend qa5 (pv 4) (q04 (q3y (osc:=q0f s_qz) (N0:=["book", "name", "day", "ways", "told", "place", "entry", "pairs", "source", "target"]) rfl rfl rfl (own:=["wheel", "wedge"]) (fv:=[("ways",3)]) ⟨rfl,by decide +kernel,by decide +kernel,by decide +kernel,by decide +kernel,by decide +kernel⟩ (q2t (pv 7)) (fun _ _ _=>(qfo (K:=K) (n:=2) rfl rfl rfl (q32 (q0v (i:=0) (show (["wheel", "wedge", "ways"]:List Str).Nodup by decide +kernel) rfl (Or.inl rfl) (hf:=Or.inr rfl)) (q32 (q0v (i:=1) (show (["wheel", "wedge", "ways"]:List Str).Nodup by decide +kernel) rfl (Or.inl rfl) (hf:=Or.inr rfl)) q7c)))) (fun _ _ _=>q31) (fun _ _ _=>(q1l (q04 (pv 1) (q04 (q0i hu (pv 2) (pv 1) (fun _ _=>rfl)) q07))))) q07))))
 q18)))))))
 (q0g (q14 (pv 4)))))),q29 (C:=ctOf T) ((q0h (q16 (q9d (q4e q03 (q2y q0b) qdr)) q0k)
 (q0h (q16 (q6a q0b) q0k)
 (q0h (q3c (qni q03) (qde (q49 q0k (q49 q0k qba)))
 (q0h (q1i (q0y (q06 qa7 (q06 q0o q03 q0a) q03))
 qn0
 q17)
 (q0h (q1i (q0y (q06 q1u (q06 q0o q03 q0a) q0c))
 (q1o (qkt q03 (q06 q0o q03 q0a) se_non))
 q17)
 (q0h (q16 (q1b (q05 q03 (q05 q03 q0b))) q0k)
 (q0h (q3c (q2u q03) (qde (q49 q0k (q49 q0k qba)))
 (q4q q03 q03 (q06 qau (q0j q03 q03) (q2y (q05 (q1p (q05 q03 (q05 q03 (q05 q03 q0b)))) q0b)))))
 (q1i (q0y (q06 q1u (q06 q0o q03 q0a) q0c))
 (q1o (q2m qcc q03 (q05 (q3o (own:=["wheel", "wedge"]) (fv:=[("ways",3)]) (q2u q03) (qg7 (q6q q1t (q6q q1t qe5))) q3j (q1p (q05 q03 (q05 (q0j q03 q03) q0b)))) q0b)))
 q17))))))
 (q13 (qdg q03)))))) rfl h⟩
theorem z_qk (T:Txt K mg A):FnOk P w K mg base (CX1 P w) 1 A.a_qk A.fd_qk ["_law_script", "_law_k"] (spZ (ctOf T) 2 m_qk):=by
 refine T.F_qk.okR sc_qk (fun vs H Q E h=>q28 h) (fun cdv A' outer s H vs Q E hr h=>?_)
 have nd:=sc_qk.nd
 have hu:=q2p hr
 exact ⟨_,(q0d (q1j (q0z qap (pv 1) (q0s q23 rfl T.n_len PySem.boot_len (q04 (pv 0) q07)) (q0u _))
 (q0g (q14 (q0l q0n (pv 0) (pv 1) (fun _ _=>rfl))))
 q18)
 (q0g (q14 q09))),q29 (C:=ctOf T) ((q0h (q1i (q0y (q06 qa7 q03 (q2b q34 (q05 q03 q0b))))
 (q13 (q06 q0o q03 q03))
 q17)
 (q13 q0a))) rfl h⟩
theorem zr_qc (T:Txt K mg A):∀ n,FnOk P w K mg base (CX1 P w) (n+0) A.a_qc A.fd_qc ["_law_found", "_law_due"] (spZ (ctOf T) 2 (m_qc n))
 | 0=>fn_no rfl
 | n+1=>by
  have G_qc:FnOk P w K mg base (CX1 P w) (n+0) A.a_qc A.fd_qc ["_law_found", "_law_due"] (spZ (ctOf T) 2 (m_qc n)):=zr_qc T n
  refine T.F_qc.okR sc_qc (fun vs H Q E h=>q28 h) (fun cdv A' outer s H vs Q E hr h=>?_)
  have nd:=sc_qc.nd
  have hu:=q2p hr
  exact ⟨_,(q0d (q1j (q54 (q0s qhy rfl T.n_isinstance PyProof.Rows.boot_isinstance (q04 (pv 1) (q04 (q1l (q04 (q2g (v:=.ty "list") rfl T.n_list PyProof.Rows.boot_list rfl) (q04 (q2g (v:=.ty "tuple") rfl T.n_tuple PyProof.Rows.boot_tuple rfl) q07))) q07))))
 (q0d (q1j (PW.pt (q6l (q0z q6m (q0s q21 rfl T.n_isinstance PyProof.Rows.boot_isinstance (q04 (pv 0) (q04 (q2g (v:=.ty "list") rfl T.n_list PyProof.Rows.boot_list rfl) q07))) (q0s q21 rfl T.n_isinstance PyProof.Rows.boot_isinstance (q04 (pv 1) (q04 (q2g (v:=.ty "list") rfl T.n_list PyProof.Rows.boot_list rfl) q07))) (q0u _)) (q6c (q0z q6m (q0s q21 rfl T.n_isinstance PyProof.Rows.boot_isinstance (q04 (pv 0) (q04 (q2g (v:=.ty "tuple") rfl T.n_tuple PyProof.Rows.boot_tuple rfl) q07))) (q0s q21 rfl T.n_isinstance PyProof.Rows.boot_isinstance (q04 (pv 1) (q04 (q2g (v:=.ty "tuple") rfl T.n_tuple PyProof.Rows.boot_tuple rfl) q07))) (q0u _)))))
 (q0g (q14 q5k))
 q18)
 (q0g (q14 (q4z (q2q q1v (q0s q23 rfl T.n_len PySem.boot_len (q04 (pv 0) q07)) (q0s q23 rfl T.n_len PySem.boot_len (q04 (pv 1) q07)) (q0u _)) (q5p (q0s (qjq rfl) rfl T.n_all PyProof.Rows.boot_all (q04 (q3y (osc:=q0f s_qc) (N0:=["_law_found", "_law_due", "_law_alike"]) rfl rfl rfl (own:=["_law_k"]) (fv:=[("_law_found",0),("_law_due",1)]) ⟨rfl,by decide +kernel,by decide +kernel,by decide +kernel,by decide +kernel,by decide +kernel⟩ (q4p rfl T.n_range (q04 (q0s q23 rfl T.n_len PySem.boot_len (q04 (pv 1) q07)) q07)) (fun _ _ _=>(q0v (i:=0) (show (["_law_k", "_law_found", "_law_due"]:List Str).Nodup by decide +kernel) rfl (Or.inl rfl) (hf:=Or.inr rfl))) (fun _ _ _=>q31) (fun _ _ _=>(q1a G_qc hr rfl T.d_qc T.F_qc.kp T.b_qc .nil q2x (q04 (q0l (q3u (K:=K) rfl) (pv 1) (pv 0) (fun _ _=>rfl)) (q04 (q0l (q3u (K:=K) rfl) (pv 2) (pv 0) (fun _ _=>rfl)) q07))))) q07)))))))
 q18)
 (q0d (q1c (i:=2) nd rfl (Or.inl rfl) (q4z (q2q q1v (q0s q21 rfl T.n_isinstance PyProof.Rows.boot_isinstance (q04 (pv 0) (q04 (q2g (v:=.ty "int") rfl T.n_int PyProof.Rows.boot_int rfl) q07))) (q0s q21 rfl T.n_isinstance PyProof.Rows.boot_isinstance (q04 (pv 1) (q04 (q2g (v:=.ty "int") rfl T.n_int PyProof.Rows.boot_int rfl) q07))) (q0u _)) (q5p (q2q q1v (q0s q21 rfl T.n_isinstance PyProof.Rows.boot_isinstance (q04 (pv 0) (q04 (q2g (v:=.ty "bool") rfl T.n_bool PyProof.Rows.boot_bool rfl) q07))) (q0s q21 rfl T.n_isinstance PyProof.Rows.boot_isinstance (q04 (pv 1) (q04 (q2g (v:=.ty "bool") rfl T.n_bool PyProof.Rows.boot_bool rfl) q07))) (q0u _)))))
 (q0g (q14 (q4z (pv 2) (q4z (q2q q1v (q0s q21 rfl T.n_isinstance PyProof.Rows.boot_isinstance (q04 (pv 0) (q04 (q2g (v:=.ty "str") rfl T.n_str PyProof.Rows.boot_str rfl) q07))) (q0s q21 rfl T.n_isinstance PyProof.Rows.boot_isinstance (q04 (pv 1) (q04 (q2g (v:=.ty "str") rfl T.n_str PyProof.Rows.boot_str rfl) q07))) (q0u _)) (q5p (q2q q1v (pv 0) (pv 1) (q0u _))))))))),q29 (C:=ctOf T) ((q0h (q1i (st_b (ql8 q03))
 (q0h (q1i (q6n (q0y (q06 q6r (q35 .list rfl (by intro z;cases z) q03) (q35 .list rfl (by intro z;cases z) q03))) (q0y (q06 q6r (q35 .tuple rfl (by intro z;cases z) q03) (q35 .tuple rfl (by intro z;cases z) q03))))
 (q13 q5o)
 q17)
 (q13 (q56 (q06 q1u (q2b q34 (q05 q03 q0b)) (q2b q34 (q05 q03 q0b))) (q2b sc_all (q05 (q3o (own:=["_law_k"]) (fv:=[("_law_found",0),("_law_due",1)]) (q4v (q2b q34 (q05 q03 q0b))) q1t q3j (q1b (q05 (q06 q0o q03 q03) (q05 (q06 q0o q03 q03) q0b)))) q0b)))))
 q17)
 (q0h (q16 (q56 (q06 q1u (q35 .int rfl (by intro z;cases z) q03) (q35 .int rfl (by intro z;cases z) q03)) (q06 q1u (q35 .bool rfl (by intro z;cases z) q03) (q35 .bool rfl (by intro z;cases z) q03))) q0k)
 (q13 (q56 q03 (q56 (q06 q1u (q35 .str rfl (by intro z;cases z) q03) (q35 .str rfl (by intro z;cases z) q03)) (q06 q1u q03 q03))))))) rfl h⟩
theorem z_qc (T:Txt K mg A) (k:Nat):FnOk P w K mg base (CX1 P w) (k+0) A.a_qc A.fd_qc ["_law_found", "_law_due"] (spZ (ctOf T) 2 (m_qc k)):=zr_qc T k
theorem z_qw (T:Txt K mg A):FnOk P w K mg base (CX1 P w) 1 A.a_qw A.fd_qw ["_law_found", "_law_due"] (spZ (ctOf T) 2 m_qw):=by
 refine T.F_qw.okR sc_qw (fun vs H Q E h=>q28 h) (fun cdv A' outer s H vs Q E hr h=>?_)
 have nd:=sc_qw.nd
 have hu:=q2p hr
 exact ⟨_,(q0d (q1j (PW.pt (q6l (q6w (q54 (q0s q21 rfl T.n_isinstance PyProof.Rows.boot_isinstance (q04 (pv 0) (q04 (q2g (v:=.ty "list") rfl T.n_list PyProof.Rows.boot_list rfl) q07))))) (q6c (q0z q6m (q0s q23 rfl T.n_len PySem.boot_len (q04 (pv 0) q07)) (q0s q23 rfl T.n_len PySem.boot_len (q04 (pv 1) q07)) (q0u _)))))
 (q0g (q14 q5k))
 q18)
 (q0d (q3b PassesOwn.leaving rfl (q4p rfl T.n_range (q04 (q0s q23 rfl T.n_len PySem.boot_len (q04 (pv 1) q07)) q07)) (q0v (i:=2) nd rfl (Or.inl rfl))
 (q0g (q1j (PW.pt (q6l (q6w (q54 (q0s q21 rfl T.n_isinstance PyProof.Rows.boot_isinstance (q04 (q0l q0n (pv 0) (pv 2) (fun _ _=>rfl)) (q04 (q2g (v:=.ty "str") rfl T.n_str PyProof.Rows.boot_str rfl) q07))))) (q6c (q0z q6m (q0l q0n (pv 0) (pv 2) (fun _ _=>rfl)) (q0l q0n (pv 1) (pv 2) (fun _ _=>rfl)) (q0u _)))))
 (q0g (q14 q5k))
 q18)))
 (q0g (q14 q5k)))),q29 (C:=ctOf T) ((q0h (q1i (q6n (q7b (st_b (q35 .list rfl (by intro z;cases z) q03))) (q0y (q06 q6r (q2b q34 (q05 q03 q0b)) (q2b q34 (q05 q03 q0b)))))
 (q13 q5o)
 q17)
 (q0h (q3c (q4v (q2b q34 (q05 q03 q0b))) q0k
 (q1i (q6n (q7b (st_b (q35 .str rfl (by intro z;cases z) (q06 q0o q03 q03)))) (q0y (q06 q6r (q06 q0o q03 q03) (q06 q0o q03 q03))))
 (q13 q5o)
 q17))
 (q13 q5o)))) rfl h⟩
theorem z_qa (T:Txt K mg A):FnOk P w K mg base (CX1 P w) 1 A.a_qa A.fd_qa ["_law_entry"] (spZ (ctOf T) 1 m_qa):=by
 refine T.F_qa.okR sc_qa (fun vs H Q E h=>q28 h) (fun cdv A' outer s H vs Q E hr h=>?_)
 have nd:=sc_qa.nd
 have hu:=q2p hr
 exact ⟨_,(q0d (q1j (q0z q1v (q0l q0n (pv 0) q09 (fun _ _=>rfl)) q0e (q0u _))
 (q0g (q14 (q0r q8q (q3y (osc:=q0f s_qa) (N0:=["_law_entry"]) rfl rfl rfl (own:=["_law_part"]) (fv:=[]) ⟨rfl,by decide +kernel,by decide +kernel,by decide +kernel,by decide +kernel,by decide +kernel⟩ (q5t (q0l q0n (pv 0) q09 (fun _ _=>rfl))) (fun _ _ _=>(q0v (i:=0) (show (["_law_part"]:List Str).Nodup by decide +kernel) rfl (Or.inl rfl) (hf:=Or.inr rfl))) (fun _ _ _=>q31) (fun _ _ _=>(q0l (q3u (K:=K) rfl) (pv 0) q09 (fun _ _=>rfl)))) (q2d (q04 (q0l q0n (pv 0) q09 (fun _ _=>rfl)) q07)))))
 q18)
 (q0d (q1j (q0z q1v (q0l q0n (pv 0) q09 (fun _ _=>rfl)) q0e (q0u _))
 (q0g (q14 (q0r q8q (q3y (osc:=q0f s_qa) (N0:=["_law_entry"]) rfl rfl rfl (own:=["_law_row"]) (fv:=[]) ⟨rfl,by decide +kernel,by decide +kernel,by decide +kernel,by decide +kernel,by decide +kernel⟩ (q5t (q0l q0n (pv 0) q09 (fun _ _=>rfl))) (fun _ _ _=>(q0v (i:=0) (show (["_law_row"]:List Str).Nodup by decide +kernel) rfl (Or.inl rfl) (hf:=Or.inr rfl))) (fun _ _ _=>q31) (fun _ _ _=>(q0l (q3u (K:=K) rfl) (pv 0) q09 (fun _ _=>rfl)))) (q3y (osc:=q0f s_qa) (N0:=["_law_entry"]) rfl rfl rfl (own:=["_law_row"]) (fv:=[]) ⟨rfl,by decide +kernel,by decide +kernel,by decide +kernel,by decide +kernel,by decide +kernel⟩ (q5t (q0l q0n (pv 0) q09 (fun _ _=>rfl))) (fun _ _ _=>(q0v (i:=0) (show (["_law_row"]:List Str).Nodup by decide +kernel) rfl (Or.inl rfl) (hf:=Or.inr rfl))) (fun _ _ _=>q31) (fun _ _ _=>(q0l (q3u (K:=K) rfl) (pv 0) q09 (fun _ _=>rfl)))))))
 q18)
 (q0d (q1j (q0z q1v (q0l q0n (pv 0) q09 (fun _ _=>rfl)) q0e (q0u _))
 (q0g (q14 (q0r q8q (q2d (q04 (q0l q0n (pv 0) q09 (fun _ _=>rfl)) q07)) (q3y (osc:=q0f s_qa) (N0:=["_law_entry"]) rfl rfl rfl (own:=["_law_k"]) (fv:=[("_law_entry",0)]) ⟨rfl,by decide +kernel,by decide +kernel,by decide +kernel,by decide +kernel,by decide +kernel⟩ (q4p rfl T.n_range (q04 (q0s q23 rfl T.n_len PySem.boot_len (q04 (q0l q0n (pv 0) q09 (fun _ _=>rfl)) q07)) q07)) (fun _ _ _=>(q0v (i:=0) (show (["_law_k", "_law_entry"]:List Str).Nodup by decide +kernel) rfl (Or.inl rfl) (hf:=Or.inr rfl))) (fun _ _ _=>q31) (fun _ _ _=>(q0r q3x (q0r q3x (q0l (q3u (K:=K) rfl) (pv 1) q09 (fun _ _=>rfl)) q0e) (q38 q88 rfl T.n_str PyProof.Rows.boot_str (q04 (q0r q51 (pv 0) q09) q07))))))))
 q18)
 (q0g (q14 (q3y (osc:=q0f s_qa) (N0:=["_law_entry"]) rfl rfl rfl (own:=["_law_one"]) (fv:=[]) ⟨rfl,by decide +kernel,by decide +kernel,by decide +kernel,by decide +kernel,by decide +kernel⟩ (q5t (q5a qbd (pv 0) (q5e q09) (q5e q09))) (fun _ _ _=>(q0v (i:=0) (show (["_law_one"]:List Str).Nodup by decide +kernel) rfl (Or.inl rfl) (hf:=Or.inr rfl))) (fun _ _ _=>(q8l (q54 (q0s (qhz (K:=K) rfl) rfl T.n_isinstance PyProof.Rows.boot_isinstance (q04 (pv 0) (q04 (q2g (v:=.ty "str") rfl T.n_str PyProof.Rows.boot_str rfl) q07)))))) (fun _ _ _=>(pv 0)))))))),q29 (C:=ctOf T) ((q0h (q1i (q0y (q06 q1u (q06 q0o q03 q0a) q0c))
 (q13 (q06 qau (q3o (own:=["_law_part"]) (fv:=[]) (q5r (q06 q0o q03 q0a)) q1t q3j (q06 q0o q03 q0a)) (q2y (q05 (q06 q0o q03 q0a) q0b))))
 q17)
 (q0h (q1i (q0y (q06 q1u (q06 q0o q03 q0a) q0c))
 (q13 (q06 qau (q3o (own:=["_law_row"]) (fv:=[]) (q5r (q06 q0o q03 q0a)) q1t q3j (q06 q0o q03 q0a)) (q3o (own:=["_law_row"]) (fv:=[]) (q5r (q06 q0o q03 q0a)) q1t q3j (q06 q0o q03 q0a))))
 q17)
 (q0h (q1i (q0y (q06 q1u (q06 q0o q03 q0a) q0c))
 (q13 (q06 qau (q2y (q05 (q06 q0o q03 q0a) q0b)) (q3o (own:=["_law_k"]) (fv:=[("_law_entry",0)]) (q4v (q2b q34 (q05 (q06 q0o q03 q0a) q0b))) q1t q3j (q06 q5b (q06 q5b (q06 q0o q03 q0a) q0c) (q2b qbq (q05 (q06 q4y q03 q0a) q0b))))))
 q17)
 (q13 (q3o (own:=["_law_one"]) (fv:=[]) (q5r (q8i qdy q03 (q5f q0a) (q5f q0a))) q1t (st_b (q35 .str rfl (by intro z;cases z) q03)) q03)))))) rfl h⟩
theorem z_qj (T:Txt K mg A):FnOk P w K mg base (CX1 P w) 1 A.a_qj A.fd_qj ["_law_entry", "_law_one"] (spZ (ctOf T) 2 m_qj):=by
 refine T.F_qj.okR sc_qj (fun vs H Q E h=>q28 h) (fun cdv A' outer s H vs Q E hr h=>?_)
 have nd:=sc_qj.nd
 have hu:=q2p hr
 exact ⟨_,(q0d (q3b PassesOwn.leaving rfl (q5t (q0l q0n (pv 0) q09 (fun _ _=>rfl))) (q0v (i:=2) nd rfl (Or.inl rfl))
 (q0g (q1j (PW.pt (q6l (q0z q1v (pv 1) (q0l q0n (pv 2) q09 (fun _ _=>rfl)) (q0u _)) (q6c (q0z q1v (pv 1) (q0l q0n (pv 2) q09 (fun _ _=>rfl)) (q0u _)))))
 (q0g (q14 (q0l q0n (pv 2) q09 (fun _ _=>rfl))))
 q18)))
 (q0g (q14 q0e))),q29 (C:=ctOf T) ((q0h (q3c (q5r (q06 q0o q03 q0a)) q0k
 (q1i (q6n (q0y (q06 q1u q03 (q06 q0o q03 q0a))) (q0y (q06 q1u q03 (q06 q0o q03 q0a))))
 (q13 (q06 q0o q03 q0a))
 q17))
 (q13 q0c))) rfl h⟩
theorem z_qd (T:Txt K mg A):FnOk P w K mg base (CX1 P w) 2 A.a_qd A.fd_qd ["_law_entry", "_law_source", "_law_goal"] (spZ (ctOf T) 3 m_qd):=by
 refine T.F_qd.okR sc_qd (fun vs H Q E h=>q28 h) (fun cdv A' outer s H vs Q E hr h=>?_)
 have nd:=sc_qd.nd
 have hu:=q2p hr
 exact ⟨_,(q0d (q1j (q0z q1v (pv 1) (pv 2) (q0u _))
 (q0g (q14 q5k))
 q18)
 (q0d (q1j (q0z q1v (q0l q0n (pv 0) q09 (fun _ _=>rfl)) q0e (q0u _))
 (q0g (q14 (q4z (q2q q1v (pv 2) (q0l q0n (pv 0) q09 (fun _ _=>rfl)) (q0u _)) (q5p (q2q q5y (pv 1) (q3y (osc:=q0f s_qd) (N0:=["_law_entry", "_law_source", "_law_goal", "_law_here"]) rfl rfl rfl (own:=["_law_part"]) (fv:=[]) ⟨rfl,by decide +kernel,by decide +kernel,by decide +kernel,by decide +kernel,by decide +kernel⟩ (q5t (q0l q0n (pv 0) q09 (fun _ _=>rfl))) (fun _ _ _=>(q0v (i:=0) (show (["_law_part"]:List Str).Nodup by decide +kernel) rfl (Or.inl rfl) (hf:=Or.inr rfl))) (fun _ _ _=>q31) (fun _ _ _=>(q0l (q3u (K:=K) rfl) (pv 0) q09 (fun _ _=>rfl)))) rfl)))))
 q18)
 (q0d (q1j (q0z q1v (q0l q0n (pv 0) q09 (fun _ _=>rfl)) q0e (q0u _))
 (q0g (q14 (q4z (q2q q1v (pv 1) (q0l q0n (pv 0) q09 (fun _ _=>rfl)) (q0u _)) (q5p (q2q q1v (pv 2) (q0l q0n (pv 0) q09 (fun _ _=>rfl)) (q0u _))))))
 q18)
 (q0d (q1j (q0z q1v (q0l q0n (pv 0) q09 (fun _ _=>rfl)) q0e (q0u _))
 (q0g (q14 (q4z (q2q q5y (pv 1) (q5a qbd (pv 0) (q5e q09) q6v) rfl) (q5p (q2q q5y (pv 2) (q5a qbd (pv 0) (q5e q09) q6v) rfl)))))
 q18)
 (q0d (q1j (q0z q1v (q0l q0n (pv 0) q09 (fun _ _=>rfl)) q0e (q0u _))
 (q0g (q14 (q4z (q2q q1v (pv 1) (q0l q0n (pv 0) q09 (fun _ _=>rfl)) (q0u _)) (q5p (q2q q5y (pv 2) (q1a (z_qa T) hr.q9 rfl T.d_qa T.F_qa.kp T.b_qa .nil q2i.passes (q04 (pv 0) q07)) rfl)))))
 q18)
 (q0d (q1j (q0z q6m (q0l q0n (pv 0) q09 (fun _ _=>rfl)) q0e (q0u _))
 (q0g (q14 q5k))
 q18)
 (q0d (q1c (i:=3) nd rfl (Or.inl rfl) (q1a (z_qj T) hr.q9 rfl T.d_qj T.F_qj.kp T.b_qj .nil q2i.passes (q04 (pv 0) (q04 (pv 1) q07))))
 (q0g (q14 (q4z (q2q q6m (pv 3) q0e (q0u _)) (q5p (q2q q1v (pv 3) (q1a (z_qj T) hr.q9 rfl T.d_qj T.F_qj.kp T.b_qj .nil q2i.passes (q04 (pv 0) (q04 (pv 2) q07))) (q0u _))))))))))))),q29 (C:=ctOf T) ((q0h (q1i (q0y (q06 q1u q03 q03))
 (q13 q5o)
 q17)
 (q0h (q1i (q0y (q06 q1u (q06 q0o q03 q0a) q0c))
 (q13 (q56 (q06 q1u q03 (q06 q0o q03 q0a)) (q06 qd5 q03 (q3o (own:=["_law_part"]) (fv:=[]) (q5r (q06 q0o q03 q0a)) q1t q3j (q06 q0o q03 q0a)))))
 q17)
 (q0h (q1i (q0y (q06 q1u (q06 q0o q03 q0a) q0c))
 (q13 (q56 (q06 q1u q03 (q06 q0o q03 q0a)) (q06 q1u q03 (q06 q0o q03 q0a))))
 q17)
 (q0h (q1i (q0y (q06 q1u (q06 q0o q03 q0a) q0c))
 (q13 (q56 (q06 qd5 q03 (q8i qdy q03 (q5f q0a) q74)) (q06 qd5 q03 (q8i qdy q03 (q5f q0a) q74))))
 q17)
 (q0h (q1i (q0y (q06 q1u (q06 q0o q03 q0a) q0c))
 (q13 (q56 (q06 q1u q03 (q06 q0o q03 q0a)) (q06 qd5 q03 (q1b (q05 q03 q0b)))))
 q17)
 (q0h (q1i (q0y (q06 q6r (q06 q0o q03 q0a) q0c))
 (q13 q5o)
 q17)
 (q0h (q16 (q1b (q05 q03 (q05 q03 q0b))) q0k)
 (q13 (q56 (q06 q6r q03 q0c) (q06 q1u q03 (q1b (q05 q03 (q05 q03 q0b)))))))))))))) rfl h⟩
theorem z_qt (T:Txt K mg A):FnOk P w K mg base (CX1 P w) 3 A.a_qt A.fd_qt ["_law_book", "_law_bad", "_law_day"] (spZ (ctOf T) 3 m_qt):=by
 refine FnOk.imp (T.F_qt.okR sc_qt (fun vs H Q E h=>q28 h) (fun cdv A' outer s H vs Q E hr h=>?_)) (fun vs H Q E h=>qlw h)
 have nd:=sc_qt.nd
 have hu:=q2p hr
 exact ⟨_,(q0d (q1c (i:=3) nd rfl (Or.inl rfl) (qb5 (q40 (pv 1) q5k qbc) rfl rfl (fun z=>nomatch z) (by decide)))
 (q0d (q1c (i:=4) nd rfl (Or.inl rfl) (q2d q07))
 (q0d (q3b PassesOwn.leaving rfl (q2t (pv 0)) (q0v (i:=5) nd rfl (Or.inr rfl))
 (q0g (q1j (q0z op_ge (q0l q0n (pv 5) q09 (fun _ _=>rfl)) (pv 2) (q0u _))
 (q0d (q1c (i:=6) nd rfl (Or.inl rfl) (q2d q07))
 (q0d (q3b PassesOwn.leaving rfl (q2t (q1a (z_qa T) hr.q9 rfl T.d_qa T.F_qa.kp T.b_qa .nil q2i.passes (q04 (pv 5) q07))) (q0v (i:=7) nd rfl (Or.inr rfl))
 (q0g (q1j (q54 (q0s (qig rfl) rfl T.n_any PyProof.Rows.boot_any (q04 (q3y (osc:=q0f s_qt) (N0:=["_law_book", "_law_bad", "_law_day", "_law_spoiled", "_law_found", "_law_entry", "_law_fresh", "_law_goal"]) rfl rfl rfl (own:=["_law_source"]) (fv:=[("_law_entry",5),("_law_goal",7)]) ⟨rfl,by decide +kernel,by decide +kernel,by decide +kernel,by decide +kernel,by decide +kernel⟩ (q2t (q38 (q7u rfl) rfl T.n_list PyProof.Rows.boot_list (q04 (pv 3) q07))) (fun _ _ _=>(q0v (i:=0) (show (["_law_source", "_law_entry", "_law_goal"]:List Str).Nodup by decide +kernel) rfl (Or.inl rfl) (hf:=Or.inr rfl))) (fun _ _ _=>q31) (fun _ _ _=>(q1a (z_qd T) hr.q9 rfl T.d_qd T.F_qd.kp T.b_qd .nil q2x (q04 (pv 1) (q04 (pv 0) (q04 (pv 2) q07)))))) q07)))
 (q0g (q1m (q36 PySem.F.plainAttrs_list PySem.F.slot_list_append PySem.F.type_list_append q1w (pv 6) (q04 (pv 7) q07))))
 q18)))
 (q0d (q1j (PW.pt (qk8 (q0z q1v (q0l q0n (pv 5) q09 (fun _ _=>rfl)) q0e (q0u _)) (qgl (qb0 (qdn hu (q0l q0n (pv 5) q09 (fun _ _=>rfl)) (pv 3))))))
 (q0g (q1m (qeq (pv 3) (q0l q0n (pv 5) q09 (fun _ _=>rfl)) ⟨rfl,rfl,rfl,rfl⟩)))
 q18)
 (q0g (q3b PassesOwn.leaving rfl (q2t (pv 6)) (q0v (i:=7) nd rfl (Or.inr rfl))
 (q0d (q4w hu (pv 3) (pv 7) q5k rfl)
 (q0g (q1j (q0z q1v (q0l q0n (pv 5) q09 (fun _ _=>rfl)) q0e (q0u _))
 (q0g (q1m (q36 PySem.F.plainAttrs_list PySem.F.slot_list_append PySem.F.type_list_append q1w (pv 4) (q04 (pv 7) q07))))
 q18))))))))
 q18)))
 (q0g (q14 (pv 4)))))),q29 (C:=ctOf T) ((q0h (q16 (q9d (q4e q03 q5o qdr)) q0k)
 (q0h (q16 (q6a q0b) q0k)
 (q0h (q3c (q2u q03) q0k
 (q1i (q0y (q06 s2_ge (q06 q0o q03 q0a) q03))
 (q0h (q16 (q6a q0b) q0k)
 (q0h (q3c (q2u (q1b (q05 q03 q0b))) q0k
 (q1i (st_b (q2b sc_any (q05 (q3o (own:=["_law_source"]) (fv:=[("_law_entry",5),("_law_goal",7)]) (q2u (q2b q94 (q05 q03 q0b))) q1t q3j (q1b (q05 q03 (q05 q03 (q05 q03 q0b))))) q0b)))
 (q1o (q2m q22 q03 (q05 q03 q0b)))
 q17))
 (q0h (q1i (qje (q0y (q06 q1u (q06 q0o q03 q0a) q0c)) (st_b (qdz (q06 q0o q03 q0a) q03)))
 (q1o (qdt q03 (q06 q0o q03 q0a)))
 q17)
 (q3c (q2u q03) q0k
 (q0h (q4q q03 q03 q5o)
 (q1i (q0y (q06 q1u (q06 q0o q03 q0a) q0c))
 (q1o (q2m q22 q03 (q05 q03 q0b)))
 q17))))))
 q17))
 (q13 (qdg q03)))))) rfl h⟩
theorem z_qi (T:Txt K mg A):FnOk P w K mg base (CX1 P w) 2 A.a_qi A.fd_qi ["_law_script", "_law_mark"] (spZ (ctOf T) 2 m_qi):=by
 refine T.F_qi.okR sc_qi (fun vs H Q E h=>q28 h) (fun cdv A' outer s H vs Q E hr h=>?_)
 have nd:=sc_qi.nd
 have hu:=q2p hr
 exact ⟨_,(q0d (q1c (i:=2) nd rfl (Or.inl rfl) (q5a qej q0e q6v (q5e (q0s (qav rfl) rfl T.n_min PyProof.Rows.boot_min (q04 (q0r q26 (q1a (z_qk T) hr.q9 rfl T.d_qk T.F_qk.kp T.b_qk .nil q2i.passes (q04 (pv 0) (q04 q09 q07))) q09) (q04 (q0r qb4 q09 (q0s q23 rfl T.n_len PySem.boot_len (q04 (pv 1) q07))) q07))))))
 (q0d (q1c (i:=3) nd rfl (Or.inl rfl) (q0r q26 (q1a (z_qk T) hr.q9 rfl T.d_qk T.F_qk.kp T.b_qk .nil q2i.passes (q04 (pv 0) (q04 q09 q07))) (q0r q51 (q0s q23 rfl T.n_len PySem.boot_len (q04 (pv 2) q07)) q09)))
 (q0g (q14 (q0r q3x (q0r q3x (q5a qej (pv 2) q6v (q5e (pv 3))) (pv 1)) (q5a qej (pv 2) (q5e (pv 3)) q6v)))))),q29 (C:=ctOf T) ((q0h (q16 (q8i qe3 q0c q74 (q5f (q2b qgh (q05 (q06 q25 (q1b (q05 q03 (q05 q0a q0b))) q0a) (q05 (q06 qad q0a (q2b q34 (q05 q03 q0b))) q0b))))) q0k)
 (q0h (q16 (q06 q25 (q1b (q05 q03 (q05 q0a q0b))) (q06 q4y (q2b q34 (q05 q03 q0b)) q0a)) q0k)
 (q13 (q06 q5b (q06 q5b (q8i qe3 q03 q74 (q5f q03)) q03) (q8i qe3 q03 (q5f q03) q74)))))) rfl h⟩
theorem z_ql (T:Txt K mg A):FnOk P w K mg base (CX1 P w) 3 A.a_ql A.fd_ql ["_law_script"] (spZ (ctOf T) 1 m_ql):=by
 refine T.F_ql.okR sc_ql (fun vs H Q E h=>q28 h) (fun cdv A' outer s H vs Q E hr h=>?_)
 have nd:=sc_ql.nd
 have hu:=q2p hr
 exact ⟨_,(q0d (q1c (i:=1) nd rfl (Or.inl rfl) q9n)
 (q0d (q3b PassesOwn.leaving rfl (pi_str q0e) (q0v (i:=2) nd rfl (Or.inl rfl))
 (q0g (q4w hu (pv 1) (pv 2) (q1a (z_qi T) hr.q9 rfl T.d_qi T.F_qi.kp T.b_qi .nil q2i.passes (q04 (pv 0) (q04 (pv 2) q07))) rfl)))
 (q0d (q1c (i:=3) nd rfl (Or.inl rfl) (q0l q0n (q2d (q04 q09 (q04 q09 (q04 q09 (q04 q09 (q04 q09 q07)))))) (q0r q26 (q0r q39 (q1a (z_qk T) hr.q9 rfl T.d_qk T.F_qk.kp T.b_qk .nil q2i.passes (q04 (pv 0) (q04 q09 q07))) q09) q09) (fun _ _=>rfl)))
 (q0d (q9a (osc:=q0f s_ql) (N0:=["_law_script", "_law_names", "_law_mark", "_law_day", "_law_book", "_law_lies", "_law_k", "_law_wheel"]) (i:=4) rfl rfl rfl nd rfl (Or.inl rfl) (own:=["_law_k"]) (fv:=[]) ⟨rfl,by decide +kernel,by decide +kernel,by decide +kernel,by decide +kernel,by decide +kernel⟩ (q4p rfl T.n_range (q04 (pv 3) q07)) (fun _ _ _=>(q0v (i:=0) (show (["_law_k"]:List Str).Nodup by decide +kernel) rfl (Or.inl rfl) (hf:=Or.inr rfl))) (fun _ _ _=>q31) (fun _ _ _=>(q1l (q04 (pv 0) (q04 q0e (q04 (q1l q07) q07))))))
 (q0d (q1m (q36 PySem.F.plainAttrs_list PySem.F.slot_list_append PySem.F.type_list_append q1w (pv 4) (q04 (q1l (q04 (pv 3) (q04 q0e (q04 (q0i hu (pv 1) q0e (fun _ _=>rfl)) (q04 (q1l (q04 (q1l (q04 (q0i hu (pv 1) q0e (fun _ _=>rfl)) (q04 q09 q07))) (q04 (q1l (q04 (q0i hu (pv 1) q0e (fun _ _=>rfl)) (q04 q09 q07))) q07))) q07))))) q07)))
 (q0d (q1m (q36 PySem.F.plainAttrs_list PySem.F.slot_list_append PySem.F.type_list_append q1w (pv 4) (q04 (q1l (q04 (pv 3) (q04 q0e (q04 (q0i hu (pv 1) q0e (fun _ _=>rfl)) (q04 (q1l (q04 (q1l (q04 (q0i hu (pv 1) q0e (fun _ _=>rfl)) (q04 q09 q07))) (q04 (q1l (q04 (q0i hu (pv 1) q0e (fun _ _=>rfl)) (q04 q09 q07))) q07))) q07))))) q07)))
 (q0d (q1m (q36 PySem.F.plainAttrs_list PySem.F.slot_list_append PySem.F.type_list_append q1w (pv 4) (q04 (q1l (q04 (pv 3) (q04 q0e (q04 (q0i hu (pv 1) q0e (fun _ _=>rfl)) (q04 (q1l (q04 (q1l (q04 (q0i hu (pv 1) q0e (fun _ _=>rfl)) (q04 q09 q07))) q07)) q07))))) q07)))
 (q0d (q1c (i:=5) nd rfl (Or.inl rfl) q9n)
 (q0d (q3b PassesOwn.leaving rfl (q4p rfl T.n_range (q04 q09 q07)) (q0v (i:=6) nd rfl (Or.inl rfl))
 (q0d (q1c (i:=7) nd rfl (Or.inl rfl) (q1a (z_qi T) hr.q9 rfl T.d_qi T.F_qi.kp T.b_qi .nil q2i.passes (q04 (pv 0) (q04 (q0l q0n (q2d (q04 q0e (q04 q0e (q04 q0e q07)))) (pv 6) (fun _ _=>rfl)) q07))))
 (q0d (q4w hu (pv 5) (pv 7) (q0i hu (pv 1) (q0l q52 q0e (pv 6) (fun _ _=>rfl)) (fun _ _=>rfl)) rfl)
 (q0g (q1m (q36 PySem.F.plainAttrs_list PySem.F.slot_list_append PySem.F.type_list_append q1w (pv 4) (q04 (q1l (q04 (pv 3) (q04 q0e (q04 (pv 7) (q04 (q0i hu (pv 1) (q0l q52 q0e (pv 6) (fun _ _=>rfl)) (fun _ _=>rfl)) (q04 (q0i hu (pv 1) q0e (fun _ _=>rfl)) (q04 (q0i hu (pv 5) (pv 7) (fun _ _=>rfl)) (q04 q09 q07)))))))) q07)))))))
 (q0g (q14 (qb5 (q40 q0e (pv 1) (q40 q0e (pv 4) (q40 q0e (pv 5) (q40 q0e (pv 3) (q40 q0e (q2d q07) (q40 q0e q09 (q40 q0e (pv 3) qbc))))))) rfl rfl (fun z=>nomatch z) (by decide))))))))))))),q29 (C:=ctOf T) ((q0h (q16 q9o q0k)
 (q0h (q3c (si_str q0c) q0k
 (q4q q03 q03 (q1b (q05 q03 (q05 q03 q0b)))))
 (q0h (q16 (q06 q0o (q2y (q05 q0a (q05 q0a (q05 q0a (q05 q0a (q05 q0a q0b)))))) (q06 q25 (q06 q3s (q1b (q05 q03 (q05 q0a q0b))) q0a) q0a)) q0k)
 (q0h (q16 (qjr (own:=["_law_k"]) (fv:=[]) (q4v q03) q1t q3j (q1p (q05 q03 (q05 q0c (q05 (q1p q0b) q0b))))) q0k)
 (q0h (q1o (q2m q22 q03 (q05 (q1p (q05 q03 (q05 q0c (q05 (q0j q03 q0c) (q05 (q1p (q05 (q1p (q05 (q0j q03 q0c) (q05 q0a q0b))) (q05 (q1p (q05 (q0j q03 q0c) (q05 q0a q0b))) q0b))) q0b))))) q0b)))
 (q0h (q1o (q2m q22 q03 (q05 (q1p (q05 q03 (q05 q0c (q05 (q0j q03 q0c) (q05 (q1p (q05 (q1p (q05 (q0j q03 q0c) (q05 q0a q0b))) (q05 (q1p (q05 (q0j q03 q0c) (q05 q0a q0b))) q0b))) q0b))))) q0b)))
 (q0h (q1o (q2m q22 q03 (q05 (q1p (q05 q03 (q05 q0c (q05 (q0j q03 q0c) (q05 (q1p (q05 (q1p (q05 (q0j q03 q0c) (q05 q0a q0b))) q0b)) q0b))))) q0b)))
 (q0h (q16 q9o q0k)
 (q0h (q3c (q4v q0a) q0k
 (q0h (q16 (q1b (q05 q03 (q05 (q06 q0o (q2y (q05 q0c (q05 q0c (q05 q0c q0b)))) q03) q0b))) q0k)
 (q0h (q4q q03 q03 (q0j q03 (q06 q5s q0c q03)))
 (q1o (q2m q22 q03 (q05 (q1p (q05 q03 (q05 q0c (q05 q03 (q05 (q0j q03 (q06 q5s q0c q03)) (q05 (q0j q03 q0c) (q05 (q0j q03 q03) (q05 q0a q0b)))))))) q0b))))))
 (q13 (q9d (q4e q0c q03 (q4e q0c q03 (q4e q0c q03 (q4e q0c q03 (q4e q0c (q6a q0b) (q4e q0c q0a (q4e q0c q03 qdr))))))))))))))))))) rfl h⟩
theorem z_qe (T:Txt K mg A):FnOk P w K mg base (CX1 P w) 1 A.a_qe A.fd_qe ["_law_tale_here", "_law_wheel", "_law_many"] (spZ (ctOf T) 3 m_qe):=by
 refine T.F_qe.okR sc_qe (fun vs H Q E h=>q28 h) (fun cdv A' outer s H vs Q E hr h=>?_)
 have nd:=sc_qe.nd
 have hu:=q2p hr
 exact ⟨_,(q0d (q1m (qeq (q0i hu (pv 0) q0e (fun _ _=>rfl)) (pv 1) ⟨rfl,rfl,rfl,rfl⟩))
 (q0d (q1m (q36 PySem.F.plainAttrs_list PySem.F.slot_list_append PySem.F.type_list_append q1w (q0i hu (pv 0) q0e (fun _ _=>rfl)) (q04 (q1l (q04 (q0i hu (pv 0) q0e (fun _ _=>rfl)) (q04 q0e (q04 (pv 1) (q04 (q0r qkz (q1l (q04 q09 q07)) (pv 2)) (q04 (q0r qb4 q09 (q0r op_mul q09 (pv 2))) q07)))))) q07)))
 (q0g (q3b PassesOwn.leaving rfl (q4p rfl T.n_range (q04 (pv 2) q07)) (q0v (i:=3) nd rfl (Or.inl rfl))
 (q0g (q1m (q36 PySem.F.plainAttrs_list PySem.F.slot_list_append PySem.F.type_list_append q1w (q0i hu (pv 0) q0e (fun _ _=>rfl)) (q04 (q0r q3x (q0r q3x (pv 1) q0e) (q38 q88 rfl T.n_str PyProof.Rows.boot_str (q04 (q0r q51 (pv 3) q09) q07))) q07)))))))),q29 (C:=ctOf T) ((q0h (q1o (qdt (q0j q03 q0c) q03))
 (q0h (q1o (q2m q22 (q0j q03 q0c) (q05 (q1p (q05 (q0j q03 q0c) (q05 q0c (q05 q03 (q05 (q06 qnr (q1p (q05 q0a q0b)) q03) (q05 (q06 qad q0a (q06 s2_mul q0a q03)) q0b)))))) q0b)))
 (q3c (q4v q03) q0k
 (q1o (q2m q22 (q0j q03 q0c) (q05 (q06 q5b (q06 q5b q03 q0c) (q2b qbq (q05 (q06 q4y q03 q0a) q0b))) q0b))))))) rfl h⟩
theorem z_qq (T:Txt K mg A):FnOk P w K mg base (CX1 P w) 3 A.a_qq A.fd_qq ["_law_tale_here", "_law_script", "_law_rest"] (spZ (ctOf T) 3 m_qq):=by
 refine T.F_qq.okR sc_qq (fun vs H Q E h=>q28 h) (fun cdv A' outer s H vs Q E hr h=>?_)
 have nd:=sc_qq.nd
 have hu:=q2p hr
 exact ⟨_,(q0d (q1c (i:=3) nd rfl (Or.inl rfl) (q0i hu (pv 0) q0e (fun _ _=>rfl)))
 (q0g (q1j (PW.pt (qk8 (q0z q1v (q0r q26 (pv 2) q09) q09 (q0u _)) (qgl (q0z qap (q0i hu (pv 0) q0e (fun _ _=>rfl)) q09 (q0u _)))))
 (q0d (q1c (i:=4) nd rfl (Or.inl rfl) (q1a (z_qi T) hr.q9 rfl T.d_qi T.F_qi.kp T.b_qi .nil q2i.passes (q04 (pv 1) (q04 (q0r q3x q0e (q38 q88 rfl T.n_str PyProof.Rows.boot_str (q04 (q0i hu (pv 0) q0e (fun _ _=>rfl)) q07))) q07))))
 (q0d (q4w hu (pv 0) q0e (q0r q51 (q0i hu (pv 0) q0e (fun _ _=>rfl)) q09) rfl)
 (q0d (q4w hu (q0i hu (pv 0) q0e (fun _ _=>rfl)) (pv 4) (q0i hu (pv 3) (q0l q52 q0e (q0r q26 (q0r q39 (pv 2) q09) q09) (fun _ _=>rfl)) (fun _ _=>rfl)) rfl)
 (q0d (q1c (i:=5) nd rfl (Or.inl rfl) (q1l (q04 (q0i hu (pv 0) q0e (fun _ _=>rfl)) (q04 q0e (q04 (pv 4) (q04 (q0i hu (pv 3) (q0l q52 q0e (q0r q26 (q0r q39 (pv 2) q09) q09) (fun _ _=>rfl)) (fun _ _=>rfl)) (q04 (q0i hu (pv 3) q0e (fun _ _=>rfl)) (q04 (q0i hu (q0i hu (pv 0) q0e (fun _ _=>rfl)) (pv 4) (fun _ _=>rfl)) (q04 q09 q07)))))))))
 (q0g (q1m (q36 PySem.F.plainAttrs_list PySem.F.slot_list_append PySem.F.type_list_append q1w (q0i hu (pv 0) q0e (fun _ _=>rfl)) (q04 (pv 5) q07))))))))
 (q0g (q1j (q0z (qix (Nat.lt_of_succ_lt (q2p hr))) (q0i hu (pv 0) q0e (fun _ _=>rfl)) (q2d q07) (q0u _))
 (q0d (q1c (i:=6) nd rfl (Or.inl rfl) (q36 PySem.F.plainAttrs_list PySem.F.slot_list_pop PySem.F.type_list_pop qkg (q0i hu (pv 0) q0e (fun _ _=>rfl)) (q04 (q0r q26 (q0r q39 (pv 2) q09) (q0s q23 rfl T.n_len PySem.boot_len (q04 (q0i hu (pv 0) q0e (fun _ _=>rfl)) q07))) q07)))
 (q0g (q1m (q36 PySem.F.plainAttrs_list PySem.F.slot_list_append PySem.F.type_list_append q1w (q0i hu (pv 0) q0e (fun _ _=>rfl)) (q04 (q1l (q04 (q0i hu (pv 0) q0e (fun _ _=>rfl)) (q04 q0e (q04 (pv 6) q07)))) q07)))))
 q18))))),q29 (C:=ctOf T) ((q0h (q16 (q0j q03 q0c) q0k)
 (q1i (qje (q0y (q06 q1u (q06 q25 q03 q0a) q0a)) (q0y (q06 qa7 (q0j q03 q0c) q0a)))
 (q0h (q16 (q1b (q05 q03 (q05 (q06 q5b q0c (q2b qbq (q05 (q0j q03 q0c) q0b))) q0b))) q0k)
 (q0h (q4q q03 q0c (q06 q4y (q0j q03 q0c) q0a))
 (q0h (q4q (q0j q03 q0c) q03 (q0j q03 (q06 q5s q0c (q06 q25 (q06 q3s q03 q0a) q0a))))
 (q0h (q16 (q1p (q05 (q0j q03 q0c) (q05 q0c (q05 q03 (q05 (q0j q03 (q06 q5s q0c (q06 q25 (q06 q3s q03 q0a) q0a))) (q05 (q0j q03 q0c) (q05 (q0j (q0j q03 q0c) q03) (q05 q0a q0b)))))))) q0k)
 (q1o (q2m q22 (q0j q03 q0c) (q05 q03 q0b)))))))
 (q1i (q0y (q06 ql9 (q0j q03 q0c) (q2y q0b)))
 (q0h (q16 (q2m qly (q0j q03 q0c) (q05 (q06 q25 (q06 q3s q03 q0a) (q2b q34 (q05 (q0j q03 q0c) q0b))) q0b)) q0k)
 (q1o (q2m q22 (q0j q03 q0c) (q05 (q1p (q05 (q0j q03 q0c) (q05 q0c (q05 q03 q0b)))) q0b))))
 q17)))) rfl h⟩
theorem z_qp (T:Txt K mg A):FnOk P w K mg base (CX1 P w) 4 A.a_qp A.fd_qp ["_law_tale_here", "_law_script", "_law_cell"] (spZ (ctOf T) 3 m_qp):=by
 refine T.F_qp.okR sc_qp (fun vs H Q E h=>q28 h) (fun cdv A' outer s H vs Q E hr h=>?_)
 have nd:=sc_qp.nd
 have hu:=q2p hr
 exact ⟨_,(q0d (q1c (i:=3) nd rfl (Or.inr rfl) (q0i hu (pv 0) q0e (fun _ _=>rfl)))
 (q0d (q1c (i:=4) nd rfl (Or.inl rfl) (q0r q39 (pv 2) q09))
 (q0d (q1c (i:=5) nd rfl (Or.inl rfl) (q38 (q7u rfl) rfl T.n_list PyProof.Rows.boot_list (q04 (q0i hu (pv 0) q0e (fun _ _=>rfl)) q07)))
 (q0d (q1j (PW.pt (q6l (q0z qap (q0r q26 (pv 2) q09) q09 (q0u _)) (q6c (q0z (qk7 (Nat.lt_of_succ_lt (q2p hr))) (pv 5) (q2d q07) (q0u _)))))
 (q0d (q9a (osc:=q0f s_qp) (N0:=["_law_tale_here", "_law_script", "_law_cell", "_law_names", "_law_rest", "_law_lying", "_law_rows", "_law_wheel", "_law_row"]) (i:=6) rfl rfl rfl nd rfl (Or.inl rfl) (own:=["_law_wheel"]) (fv:=[("_law_names",3),("_law_tale_here",0)]) ⟨rfl,by decide +kernel,by decide +kernel,by decide +kernel,by decide +kernel,by decide +kernel⟩ (q2t (pv 5)) (fun _ _ _=>(q0v (i:=0) (show (["_law_wheel", "_law_names", "_law_tale_here"]:List Str).Nodup by decide +kernel) rfl (Or.inl rfl) (hf:=Or.inr rfl))) (fun _ _ _=>q31) (fun _ _ _=>(q1l (q04 (pv 0) (q04 (q0i hu (pv 1) q0e (fun _ _=>rfl)) (q04 (q0i hu (q0i hu (pv 2) q0e (fun _ _=>rfl)) (pv 0) (fun _ _=>rfl)) (q04 q09 q07)))))))
 (q0d (q1m (q36 PySem.F.plainAttrs_list PySem.F.slot_list_append PySem.F.type_list_append q1w (q0i hu (pv 0) q0e (fun _ _=>rfl)) (q04 (q1l (q04 (q0i hu (pv 0) q0e (fun _ _=>rfl)) (q04 q0e (q04 (q38 qfb rfl T.n_tuple PyProof.Rows.boot_tuple (q04 (pv 6) q07)) q07)))) q07)))
 (q0d (q4w hu (pv 0) q0e (q0r q51 (q0i hu (pv 0) q0e (fun _ _=>rfl)) q09) rfl)
 (q0g qnl))))
 q18)
 (q0d (q1c (i:=7) nd rfl (Or.inl rfl) (q0l q0n (pv 5) (q0r q26 (pv 4) (q0s q23 rfl T.n_len PySem.boot_len (q04 (pv 5) q07))) (fun _ _=>rfl)))
 (q0d (q1c (i:=4) nd rfl (Or.inl rfl) (q0r q39 (pv 4) (q0s q23 rfl T.n_len PySem.boot_len (q04 (pv 5) q07))))
 (q0g (q1j (q0z qap (q0r q26 (pv 2) q09) q09 (q0u _))
 (q0d (q1c (i:=8) nd rfl (Or.inl rfl) (q1l (q04 (q0i hu (pv 0) q0e (fun _ _=>rfl)) (q04 q0e (q04 (pv 7) (q04 (q0i hu (pv 3) (q0l q52 q0e (q0r q26 (pv 4) q09) (fun _ _=>rfl)) (fun _ _=>rfl)) (q04 (q0i hu (pv 3) (q0l q52 q0e (q0r q26 (q0r q39 (pv 4) q09) q09) (fun _ _=>rfl)) (fun _ _=>rfl)) q07)))))))
 (q0g (q1m (q36 PySem.F.plainAttrs_list PySem.F.slot_list_append PySem.F.type_list_append q1w (q0i hu (pv 0) q0e (fun _ _=>rfl)) (q04 (pv 8) q07)))))
 (q0g (q1j (q0z q1v (q0r q26 (pv 2) q09) q09 (q0u _))
 (q0d (q4w hu (q0i hu (pv 0) q0e (fun _ _=>rfl)) (pv 7) (q0i hu (pv 3) (q0l q52 q0e (q0r q26 (pv 4) q09) (fun _ _=>rfl)) (fun _ _=>rfl)) rfl)
 (q0g (q1m (q36 PySem.F.plainAttrs_list PySem.F.slot_list_append PySem.F.type_list_append q1w (q0i hu (pv 0) q0e (fun _ _=>rfl)) (q04 (q1l (q04 (q0i hu (pv 0) q0e (fun _ _=>rfl)) (q04 q0e (q04 (pv 7) (q04 (q0i hu (q0i hu (pv 0) q0e (fun _ _=>rfl)) (pv 7) (fun _ _=>rfl)) q07))))) q07)))))
 (q0g (q1j (q0z q1v (q0r q26 (pv 2) q09) q09 (q0u _))
 (q0g (q1j (q0z q1v (q0r q26 (pv 4) q09) q09 (q0u _))
 (q0g (q1m (q1a (z_qe T) hr.q9 rfl T.d_qe T.F_qe.kp T.b_qe .nil q2i.passes (q04 (pv 0) (q04 (pv 7) (q04 (q0l q0n (q2d (q04 q09 (q04 q09 (q04 q09 (q04 q09 q07))))) (q0r q26 (q0r q39 (pv 4) q09) q09) (fun _ _=>rfl)) q07))))))
 (q0g (q1m (q36 PySem.F.plainAttrs_list PySem.F.slot_list_append PySem.F.type_list_append q1w (q0i hu (pv 0) q0e (fun _ _=>rfl)) (q04 (q1l (q04 (q0i hu (pv 0) q0e (fun _ _=>rfl)) (q04 q0e (q04 (q0i hu (pv 3) (q0l q52 q0e (q0r q26 (q0r q39 (pv 4) q09) q09) (fun _ _=>rfl)) (fun _ _=>rfl)) q07)))) q07))))))
 (q0g (q1m (q1a (z_qq T) hr.q9 rfl T.d_qq T.F_qq.kp T.b_qq .nil q2i.passes (q04 (pv 0) (q04 (pv 1) (q04 (pv 4) q07)))))))))))))))))),q29 (C:=ctOf T) ((q0h (q16 (q0j q03 q0c) q0k)
 (q0h (q16 (q06 q3s q03 q0a) q0k)
 (q0h (q16 (q2b q94 (q05 (q0j q03 q0c) q0b)) q0k)
 (q0h (q1i (q6n (q0y (q06 qa7 (q06 q25 q03 q0a) q0a)) (q0y (q06 ql3 q03 (q2y q0b))))
 (q0h (q16 (q3o (own:=["_law_wheel"]) (fv:=[("_law_names",3),("_law_tale_here",0)]) (q2u q03) q1t q3j (q1p (q05 q03 (q05 (q0j q03 q0c) (q05 (q0j (q0j q03 q0c) q03) (q05 q0a q0b)))))) q0k)
 (q0h (q1o (q2m q22 (q0j q03 q0c) (q05 (q1p (q05 (q0j q03 q0c) (q05 q0c (q05 (q2b qkw (q05 q03 q0b)) q0b)))) q0b)))
 (q0h (q4q q03 q0c (q06 q4y (q0j q03 q0c) q0a))
 qmw)))
 q17)
 (q0h (q16 (q06 q0o q03 (q06 q25 q03 (q2b q34 (q05 q03 q0b)))) q0k)
 (q0h (q16 (q06 q3s q03 (q2b q34 (q05 q03 q0b))) q0k)
 (q1i (q0y (q06 qa7 (q06 q25 q03 q0a) q0a))
 (q0h (q16 (q1p (q05 (q0j q03 q0c) (q05 q0c (q05 q03 (q05 (q0j q03 (q06 q5s q0c (q06 q25 q03 q0a))) (q05 (q0j q03 (q06 q5s q0c (q06 q25 (q06 q3s q03 q0a) q0a))) q0b)))))) q0k)
 (q1o (q2m q22 (q0j q03 q0c) (q05 q03 q0b))))
 (q1i (q0y (q06 q1u (q06 q25 q03 q0a) q0a))
 (q0h (q4q (q0j q03 q0c) q03 (q0j q03 (q06 q5s q0c (q06 q25 q03 q0a))))
 (q1o (q2m q22 (q0j q03 q0c) (q05 (q1p (q05 (q0j q03 q0c) (q05 q0c (q05 q03 (q05 (q0j (q0j q03 q0c) q03) q0b))))) q0b))))
 (q1i (q0y (q06 q1u (q06 q25 q03 q0a) q0a))
 (q1i (q0y (q06 q1u (q06 q25 q03 q0a) q0a))
 (q1o (q1b (q05 q03 (q05 q03 (q05 (q06 q0o (q2y (q05 q0a (q05 q0a (q05 q0a (q05 q0a q0b))))) (q06 q25 (q06 q3s q03 q0a) q0a)) q0b)))))
 (q1o (q2m q22 (q0j q03 q0c) (q05 (q1p (q05 (q0j q03 q0c) (q05 q0c (q05 (q0j q03 (q06 q5s q0c (q06 q25 (q06 q3s q03 q0a) q0a))) q0b)))) q0b))))
 (q1o (q1b (q05 q03 (q05 q03 (q05 q03 q0b))))))))))))))) rfl h⟩
theorem z_qx (T:Txt K mg A):FnOk P w K mg base (CX1 P w) 5 A.a_qx A.fd_qx ["_law_script", "_law_first"] (spZ (ctOf T) 2 m_qx):=by
 refine T.F_qx.okR sc_qx (fun vs H Q E h=>q28 h) (fun cdv A' outer s H vs Q E hr h=>?_)
 have nd:=sc_qx.nd
 have hu:=q2p hr
 exact ⟨_,(q0d (q1c (i:=2) nd rfl (Or.inl rfl) (q1a (z_ql T) hr.q9 rfl T.d_ql T.F_ql.kp T.b_ql .nil q2i.passes (q04 (pv 0) q07)))
 (q0d (q3b PassesOwn.leaving rfl (qcb rfl T.n_range (q04 (pv 1) (q04 (q0s (qav rfl) rfl T.n_min PyProof.Rows.boot_min (q04 (q0s q23 rfl T.n_len PySem.boot_len (q04 (pv 0) q07)) (q04 q09 q07))) q07))) (q0v (i:=3) nd rfl (Or.inl rfl))
 (q0g (q1m (q1a (z_qp T) hr.q9 rfl T.d_qp T.F_qp.kp T.b_qp .nil q2i.passes (q04 (pv 2) (q04 (pv 0) (q04 (q0l q0n (pv 0) (pv 3) (fun _ _=>rfl)) q07)))))))
 (q0d (q3b PassesOwn.leaving rfl (q2t (q38 (q7u rfl) rfl T.n_list PyProof.Rows.boot_list (q04 (q0i hu (pv 2) q0e (fun _ _=>rfl)) q07))) (q0v (i:=4) nd rfl (Or.inl rfl))
 (q0g (q1m (q1a (z_qe T) hr.q9 rfl T.d_qe T.F_qe.kp T.b_qe .nil q2i.passes (q04 (pv 2) (q04 (pv 4) (q04 (q0l q0n (q2d (q04 q09 (q04 q09 (q04 q09 (q04 q09 q07))))) (q0r q26 (q1a (z_qk T) hr.q9 rfl T.d_qk T.F_qk.kp T.b_qk .nil q2i.passes (q04 (pv 0) (q04 (q0r qb4 (pv 1) q09) q07))) q09) (fun _ _=>rfl)) q07)))))))
 (q0g (q14 (pv 2)))))),q29 (C:=ctOf T) ((q0h (q16 (q1b (q05 q03 q0b)) q0k)
 (q0h (q3c (qc0 q03 (q2b qgh (q05 (q2b q34 (q05 q03 q0b)) (q05 q0a q0b)))) q0k
 (q1o (q1b (q05 q03 (q05 q03 (q05 (q06 q0o q03 q03) q0b))))))
 (q0h (q3c (q2u (q2b q94 (q05 (q0j q03 q0c) q0b))) q0k
 (q1o (q1b (q05 q03 (q05 q03 (q05 (q06 q0o (q2y (q05 q0a (q05 q0a (q05 q0a (q05 q0a q0b))))) (q06 q25 (q1b (q05 q03 (q05 (q06 qad q03 q0a) q0b))) q0a)) q0b))))))
 (q13 q03))))) rfl h⟩
theorem z_qr (T:Txt K mg A):FnOk P w K mg base (CX1 P w) 1 A.a_qr A.fd_qr ["_law_tale_here", "_law_cell"] (spZ (ctOf T) 2 m_qr):=by
 refine T.F_qr.okR sc_qr (fun vs H Q E h=>q28 h) (fun cdv A' outer s H vs Q E hr h=>?_)
 have nd:=sc_qr.nd
 have hu:=q2p hr
 exact ⟨_,(q0d (q1c (i:=2) nd rfl (Or.inl rfl) (q0r qb4 (q0i hu (pv 0) q0e (fun _ _=>rfl)) (q0i hu (pv 0) q0e (fun _ _=>rfl))))
 (q0g (q14 (q0l q0n (q2d (q04 q09 (q04 (q0r q51 (q0i hu (pv 0) q0e (fun _ _=>rfl)) (q0r q26 (q0r q39 (pv 1) q09) q09)) (q04 (q0r q51 (q0i hu (pv 0) q0e (fun _ _=>rfl)) (q0r q26 (q0r q39 (pv 1) q09) (q0r q51 (pv 2) q09))) (q04 (q0r q26 (q0r q39 (pv 1) q09) q09) q07))))) (q0r q26 (pv 1) q09) (fun _ _=>rfl))))),q29 (C:=ctOf T) ((q0h (q16 (q06 qad (q0j q03 q0c) (q0j q03 q0c)) q0k)
 (q13 (q06 q0o (q2y (q05 q0a (q05 (q06 q4y (q0j q03 q0c) (q06 q25 (q06 q3s q03 q0a) q0a)) (q05 (q06 q4y (q0j q03 q0c) (q06 q25 (q06 q3s q03 q0a) (q06 q4y q03 q0a))) (q05 (q06 q25 (q06 q3s q03 q0a) q0a) q0b))))) (q06 q25 q03 q0a))))) rfl h⟩
end
end K23
namespace K23
open PySem L2 Z PM
section
variable {P:Program} {w:World} {K:W.Frag} {mg:Str->Option Value} {base:Heap} {A:Adr}
theorem ok_law (T:Txt K mg A):FnOk P w K mg base CX0 7 A.a_law A.fd_law ["_law_script"] (qa2 K):=by
 refine T.F_law.ok qj6 (fun vs H Q E h=>?_) (fun cdv A' outer s H vs Q E hr h=>?_)
 ·obtain ⟨a,ns,rfl,_⟩:=h
  rfl
 ·have nd:=qj6.nd
  have hu:=q2p hr
  exact ⟨_,(qhj (q1c (i:=1) nd rfl (Or.inl rfl) (q1a (z_qx T) hr.q9 rfl T.d_qx T.F_qx.kp T.b_qx .nil q2x (q04 (pv 0) (q04 q09 q07))))
 (wset (i:=2) nd rfl (Or.inl rfl) (wlst (q3e wstr (q3e wstr (q3e wstr (q3e wstr (q3e wstr (q3e wstr (q3e wstr (q3e wstr (q3e wstr (q3e wstr (q3e wstr (q3e wstr (q3e wstr (q3e wstr (q3e wstr (q3e wstr (q3e wstr (q3e wstr wnil))))))))))))))))))))
 (q0d (q1c (i:=3) nd rfl (Or.inl rfl) (q1a (z_qi T) hr.q9 rfl T.d_qi T.F_qi.kp T.b_qi .nil q2x (q04 (pv 0) (q04 (q0l q0n (pv 2) (q0r q26 (q1a (z_qk T) hr.q9 rfl T.d_qk T.F_qk.kp T.b_qk .nil q2x (q04 (pv 0) (q04 q09 q07))) q09) (fun _ _=>rfl)) q07))))
 (q0d (q1c (i:=4) nd rfl (Or.inl rfl) (q1a (z_qr T) hr.q9 rfl T.d_qr T.F_qr.kp T.b_qr .nil q2x (q04 (pv 1) (q04 (q0r q39 (q1a (z_qk T) hr.q9 rfl T.d_qk T.F_qk.kp T.b_qk .nil q2x (q04 (pv 0) (q04 q09 q07))) q09) q07))))
 (q0d (q1c (i:=5) nd rfl (Or.inl rfl) (q38 qh6 rfl T.n_list PyProof.Rows.boot_list (q04 (q0i hu (pv 1) q0e (fun _ _=>rfl)) q07)))
 (q0d (q1c (i:=6) nd rfl (Or.inl rfl) (q1a (z_qz T) hr.q9 rfl T.d_qz T.F_qz.kp T.b_qz .nil q2x (q04 (pv 5) (q04 (pv 3) (q04 (pv 4) q07)))))
 (q0d (q1j (PW.pt (q6l (q6w (q54 (q1a (z_qc T 6) hr.q9 rfl T.d_qc T.F_qc.kp T.b_qc .nil q2x (q04 (pv 5) (q04 (q0i hu (pv 1) q0e (fun _ _=>rfl)) q07))))) (q6c (q6w (q54 (q0s q21 rfl T.n_isinstance PyProof.Rows.boot_isinstance (q04 (pv 6) (q04 (q2g (v:=.ty "list") rfl T.n_list PyProof.Rows.boot_list rfl) q07))))))))
 (q0g (q14 q5k))
 q18)
 (q0d (q1c (i:=7) nd rfl (Or.inl rfl) (q2d q07))
 (q0d (q3b PassesOwn.never rfl (q2t (pv 6)) (q0v (i:=8) nd rfl (Or.inl rfl))
 (q0d (q1j (PW.pt (q6l (q6w (q54 (q0s q21 rfl T.n_isinstance PyProof.Rows.boot_isinstance (q04 (pv 8) (q04 (q2g (v:=.ty "tuple") rfl T.n_tuple PyProof.Rows.boot_tuple rfl) q07))))) (q6l (q0z q6m (q0s q23 rfl T.n_len PySem.boot_len (q04 (pv 8) q07)) q09 (q0u _)) (q6c (q6w (q54 (q0s q21 rfl T.n_isinstance PyProof.Rows.boot_isinstance (q04 (q0l q0n (pv 8) q09 (fun _ _=>rfl)) (q04 (q2g (v:=.ty "list") rfl T.n_list PyProof.Rows.boot_list rfl) q07)))))))))
 (q0g (q14 q5k))
 q18)
 (q0g (q1m (q36 PySem.F.plainAttrs_list PySem.F.slot_list_append PySem.F.type_list_append q1w (pv 7) (q04 (q0l q0n (pv 8) q09 (fun _ _=>rfl)) q07))))))
 (q0g (q14 (q1a (z_qw T) hr.q9 rfl T.d_qw T.F_qw.kp T.b_qw .nil q2x (q04 (pv 7) (q04 (q1a (z_qt T) hr.q9 rfl T.d_qt T.F_qt.kp T.b_qt .nil q2x (q04 (q0i hu (pv 1) q0e (fun _ _=>rfl)) (q04 (pv 3) (q04 (pv 4) q07)))) q07))))))))))))),q29 (C:=ctOf T) (E:=E0) ((q0h (q16 (q1b (q05 q03 (q05 q0a q0b))) q0k)
 (q0h (q16 (q2y (q05 q0c (q05 q0c (q05 q0c (q05 q0c (q05 q0c (q05 q0c (q05 q0c (q05 q0c (q05 q0c (q05 q0c (q05 q0c (q05 q0c (q05 q0c (q05 q0c (q05 q0c (q05 q0c (q05 q0c (q05 q0c q0b))))))))))))))))))) q0k)
 (q0h (q16 (q1b (q05 q03 (q05 (q06 q0o q03 (q06 q25 (q1b (q05 q03 (q05 q0a q0b))) q0a)) q0b))) q0k)
 (q0h (q16 (q1b (q05 q03 (q05 (q06 q3s (q1b (q05 q03 (q05 q0a q0b))) q0a) q0b))) q0k)
 (q0h (q16 (q2b qmy (q05 (q0j q03 q0c) q0b)) q0k)
 (q0h (q16 (q1b (q05 q03 (q05 q03 (q05 q03 q0b)))) q0k)
 (q0h (q1i (q6n (q7b (st_b (q1b (q05 q03 (q05 (q0j q03 q0c) q0b))))) (q7b (st_b (q35 .list rfl (by intro z;cases z) q03))))
 (q13 q5o)
 q17)
 (q0h (q16 (q6a q0b) q0k)
 (q0h (q3c (q2u q03) q0k
 (q0h (q1i (q6n (q7b (st_b (q35 .tuple rfl (by intro z;cases z) q03))) (q6n (q0y (q06 q6r (q2b q34 (q05 q03 q0b)) q0a)) (q7b (st_b (q35 .list rfl (by intro z;cases z) (q06 q0o q03 q0a))))))
 (q13 q5o)
 q17)
 (q1o (q2m q22 q03 (q05 (q06 q0o q03 q0a) q0b)))))
 (q13 (q1b (q05 q03 (q05 (q1b (q05 (q0j q03 q0c) (q05 q03 (q05 q03 q0b)))) q0b)))))))))))))) rfl (qiu (C:=ctOf T) rfl law_true h)⟩
end
theorem all_mk {l:W.OpenLaw} {w:World} {K:W.Frag} {h:Heap} {mg:Str->Option Value} {fa:Addr} (X:K.In h) (G:h.Ns mainGlobals mg) (hfa:mg "law" = some (.ref fa))
  {f1:Addr} {od1 an1:Option Addr} {sl1:Array (Option Value)} {oc1 kV1 dc1 pm1 cd1 ct1:Value}
  {f2:Addr} {od2 an2:Option Addr} {sl2:Array (Option Value)} {oc2 kV2 dc2 pm2 cd2 ct2:Value}
  {f3:Addr} {od3 an3:Option Addr} {sl3:Array (Option Value)} {oc3 kV3 dc3 pm3 cd3 ct3:Value}
  {f4:Addr} {od4 an4:Option Addr} {sl4:Array (Option Value)} {oc4 kV4 dc4 pm4 cd4 ct4:Value}
  {f5:Addr} {od5 an5:Option Addr} {sl5:Array (Option Value)} {oc5 kV5 dc5 pm5 cd5 ct5:Value}
  {f6:Addr} {od6 an6:Option Addr} {sl6:Array (Option Value)} {oc6 kV6 dc6 pm6 cd6 ct6:Value}
  {f7:Addr} {od7 an7:Option Addr} {sl7:Array (Option Value)} {oc7 kV7 dc7 pm7 cd7 ct7:Value}
  {f8:Addr} {od8 an8:Option Addr} {sl8:Array (Option Value)} {oc8 kV8 dc8 pm8 cd8 ct8:Value}
  {f9:Addr} {od9 an9:Option Addr} {sl9:Array (Option Value)} {oc9 kV9 dc9 pm9 cd9 ct9:Value}
  {f10:Addr} {od10 an10:Option Addr} {sl10:Array (Option Value)} {oc10 kV10 dc10 pm10 cd10 ct10:Value}
  {f11:Addr} {od11 an11:Option Addr} {sl11:Array (Option Value)} {oc11 kV11 dc11 pm11 cd11 ct11:Value}
  {f12:Addr} {od12 an12:Option Addr} {sl12:Array (Option Value)} {oc12 kV12 dc12 pm12 cd12 ct12:Value}
  {f13:Addr} {od13 an13:Option Addr} {sl13:Array (Option Value)} {oc13 kV13 dc13 pm13 cd13 ct13:Value}
  {f14:Addr} {od14 an14:Option Addr} {sl14:Array (Option Value)} {oc14 kV14 dc14 pm14 cd14 ct14:Value}
  {f15:Addr} {od15 an15:Option Addr} {sl15:Array (Option Value)} {oc15 kV15 dc15 pm15 cd15 ct15:Value}
  {f16:Addr} {od16 an16:Option Addr} {sl16:Array (Option Value)} {oc16 kV16 dc16 pm16 cd16 ct16:Value}
  {f17:Addr} {od17 an17:Option Addr} {sl17:Array (Option Value)} {oc17 kV17 dc17 pm17 cd17 ct17:Value}
  {f18:Addr} {od18 an18:Option Addr} {sl18:Array (Option Value)} {oc18 kV18 dc18 pm18 cd18 ct18:Value}
  {f19:Addr} {od19 an19:Option Addr} {sl19:Array (Option Value)} {oc19 kV19 dc19 pm19 cd19 ct19:Value}
  {f20:Addr} {od20 an20:Option Addr} {sl20:Array (Option Value)} {oc20 kV20 dc20 pm20 cd20 ct20:Value}
  (a1:W.nsIn K mainGlobals "wedge_names" = some (some (.ref f1))) (l1:K.lookup f1=some ⟨oc1,od1, .func (W.fnOf "wedge_names" "wedge_names" (q1n s_qu) (q1g s_qu) (q0f s_qu) .none kV1 dc1 pm1 an1 cd1 ct1),sl1⟩) (c1:W.codeIn K cd1 "wedge_names" = true) (k1:W.keepIn K (.ref f1)=true)
  (a2:W.nsIn K mainGlobals "one_way_touches" = some (some (.ref f2))) (l2:K.lookup f2=some ⟨oc2,od2, .func (W.fnOf "one_way_touches" "one_way_touches" (q1n s_q0) (q1g s_q0) (q0f s_q0) .none kV2 dc2 pm2 an2 cd2 ct2),sl2⟩) (c2:W.codeIn K cd2 "one_way_touches" = true) (k2:W.keepIn K (.ref f2)=true)
  (a3:W.nsIn K mainGlobals "circles" = some (some (.ref f3))) (l3:K.lookup f3=some ⟨oc3,od3, .func (W.fnOf "circles" "circles" (q1n s_qy) (q1g s_qy) (q0f s_qy) .none kV3 dc3 pm3 an3 cd3 ct3),sl3⟩) (c3:W.codeIn K cd3 "circles" = true) (k3:W.keepIn K (.ref f3)=true)
  (a4:W.nsIn K mainGlobals "spreading" = some (some (.ref f4))) (l4:K.lookup f4=some ⟨oc4,od4, .func (W.fnOf "spreading" "spreading" (q1n s_qv) (q1g s_qv) (q0f s_qv) .none kV4 dc4 pm4 an4 cd4 ct4),sl4⟩) (c4:W.codeIn K cd4 "spreading" = true) (k4:W.keepIn K (.ref f4)=true)
  (a5:W.nsIn K mainGlobals "recall" = some (some (.ref f5))) (l5:K.lookup f5=some ⟨oc5,od5, .func (W.fnOf "recall" "recall" (q1n s_qz) (q1g s_qz) (q0f s_qz) .none kV5 dc5 pm5 an5 cd5 ct5),sl5⟩) (c5:W.codeIn K cd5 "recall" = true) (k5:W.keepIn K (.ref f5)=true)
  (a6:W.nsIn K mainGlobals "_law_at" = some (some (.ref f6))) (l6:K.lookup f6=some ⟨oc6,od6, .func (W.fnOf "_law_at" "_law_at" (q1n s_qk) (q1g s_qk) (q0f s_qk) .none kV6 dc6 pm6 an6 cd6 ct6),sl6⟩) (c6:W.codeIn K cd6 "_law_at" = true) (k6:W.keepIn K (.ref f6)=true)
  (a7:W.nsIn K mainGlobals "_law_same" = some (some (.ref f7))) (l7:K.lookup f7=some ⟨oc7,od7, .func (W.fnOf "_law_same" "_law_same" (q1n s_qc) (q1g s_qc) (q0f s_qc) .none kV7 dc7 pm7 an7 cd7 ct7),sl7⟩) (c7:W.codeIn K cd7 "_law_same" = true) (k7:W.keepIn K (.ref f7)=true)
  (a8:W.nsIn K mainGlobals "_law_texts" = some (some (.ref f8))) (l8:K.lookup f8=some ⟨oc8,od8, .func (W.fnOf "_law_texts" "_law_texts" (q1n s_qw) (q1g s_qw) (q0f s_qw) .none kV8 dc8 pm8 an8 cd8 ct8),sl8⟩) (c8:W.codeIn K cd8 "_law_texts" = true) (k8:W.keepIn K (.ref f8)=true)
  (a9:W.nsIn K mainGlobals "_law_things" = some (some (.ref f9))) (l9:K.lookup f9=some ⟨oc9,od9, .func (W.fnOf "_law_things" "_law_things" (q1n s_qa) (q1g s_qa) (q0f s_qa) .none kV9 dc9 pm9 an9 cd9 ct9),sl9⟩) (c9:W.codeIn K cd9 "_law_things" = true) (k9:W.keepIn K (.ref f9)=true)
  (a10:W.nsIn K mainGlobals "_law_shelf_of" = some (some (.ref f10))) (l10:K.lookup f10=some ⟨oc10,od10, .func (W.fnOf "_law_shelf_of" "_law_shelf_of" (q1n s_qj) (q1g s_qj) (q0f s_qj) .none kV10 dc10 pm10 an10 cd10 ct10),sl10⟩) (c10:W.codeIn K cd10 "_law_shelf_of" = true) (k10:W.keepIn K (.ref f10)=true)
  (a11:W.nsIn K mainGlobals "_law_touch" = some (some (.ref f11))) (l11:K.lookup f11=some ⟨oc11,od11, .func (W.fnOf "_law_touch" "_law_touch" (q1n s_qd) (q1g s_qd) (q0f s_qd) .none kV11 dc11 pm11 an11 cd11 ct11),sl11⟩) (c11:W.codeIn K cd11 "_law_touch" = true) (k11:W.keepIn K (.ref f11)=true)
  (a12:W.nsIn K mainGlobals "_law_forward" = some (some (.ref f12))) (l12:K.lookup f12=some ⟨oc12,od12, .func (W.fnOf "_law_forward" "_law_forward" (q1n s_qt) (q1g s_qt) (q0f s_qt) .none kV12 dc12 pm12 an12 cd12 ct12),sl12⟩) (c12:W.codeIn K cd12 "_law_forward" = true) (k12:W.keepIn K (.ref f12)=true)
  (a13:W.nsIn K mainGlobals "_law_name" = some (some (.ref f13))) (l13:K.lookup f13=some ⟨oc13,od13, .func (W.fnOf "_law_name" "_law_name" (q1n s_qi) (q1g s_qi) (q0f s_qi) .none kV13 dc13 pm13 an13 cd13 ct13),sl13⟩) (c13:W.codeIn K cd13 "_law_name" = true) (k13:W.keepIn K (.ref f13)=true)
  (a14:W.nsIn K mainGlobals "_law_tale_start" = some (some (.ref f14))) (l14:K.lookup f14=some ⟨oc14,od14, .func (W.fnOf "_law_tale_start" "_law_tale_start" (q1n s_ql) (q1g s_ql) (q0f s_ql) .none kV14 dc14 pm14 an14 cd14 ct14),sl14⟩) (c14:W.codeIn K cd14 "_law_tale_start" = true) (k14:W.keepIn K (.ref f14)=true)
  (a15:W.nsIn K mainGlobals "_law_tale_cut" = some (some (.ref f15))) (l15:K.lookup f15=some ⟨oc15,od15, .func (W.fnOf "_law_tale_cut" "_law_tale_cut" (q1n s_qe) (q1g s_qe) (q0f s_qe) .none kV15 dc15 pm15 an15 cd15 ct15),sl15⟩) (c15:W.codeIn K cd15 "_law_tale_cut" = true) (k15:W.keepIn K (.ref f15)=true)
  (a16:W.nsIn K mainGlobals "_law_tale_more" = some (some (.ref f16))) (l16:K.lookup f16=some ⟨oc16,od16, .func (W.fnOf "_law_tale_more" "_law_tale_more" (q1n s_qq) (q1g s_qq) (q0f s_qq) .none kV16 dc16 pm16 an16 cd16 ct16),sl16⟩) (c16:W.codeIn K cd16 "_law_tale_more" = true) (k16:W.keepIn K (.ref f16)=true)
  (a17:W.nsIn K mainGlobals "_law_tale_step" = some (some (.ref f17))) (l17:K.lookup f17=some ⟨oc17,od17, .func (W.fnOf "_law_tale_step" "_law_tale_step" (q1n s_qp) (q1g s_qp) (q0f s_qp) .none kV17 dc17 pm17 an17 cd17 ct17),sl17⟩) (c17:W.codeIn K cd17 "_law_tale_step" = true) (k17:W.keepIn K (.ref f17)=true)
  (a18:W.nsIn K mainGlobals "_law_tale" = some (some (.ref f18))) (l18:K.lookup f18=some ⟨oc18,od18, .func (W.fnOf "_law_tale" "_law_tale" (q1n s_qx) (q1g s_qx) (q0f s_qx) .none kV18 dc18 pm18 an18 cd18 ct18),sl18⟩) (c18:W.codeIn K cd18 "_law_tale" = true) (k18:W.keepIn K (.ref f18)=true)
  (a19:W.nsIn K mainGlobals "_law_from_day" = some (some (.ref f19))) (l19:K.lookup f19=some ⟨oc19,od19, .func (W.fnOf "_law_from_day" "_law_from_day" (q1n s_qr) (q1g s_qr) (q0f s_qr) .none kV19 dc19 pm19 an19 cd19 ct19),sl19⟩) (c19:W.codeIn K cd19 "_law_from_day" = true) (k19:W.keepIn K (.ref f19)=true)
  (a20:W.nsIn K mainGlobals "law" = some (some (.ref f20))) (l20:K.lookup f20=some ⟨oc20,od20, .func (W.fnOf "law" "law" (q1n q5z) (q1g q5z) (q0f q5z) .none kV20 dc20 pm20 an20 cd20 ct20),sl20⟩) (c20:W.codeIn K cd20 "law" = true) (k20:W.keepIn K (.ref f20)=true)
  (z_len:W.nsIn K mainGlobals "len" = some none)
  (z_all:W.nsIn K mainGlobals "all" = some none)
  (z_any:W.nsIn K mainGlobals "any" = some none)
  (z_min:W.nsIn K mainGlobals "min" = some none)
  (z_range:W.nsIn K mainGlobals "range" = some none)
  (z_int:W.nsIn K mainGlobals "int" = some none)
  (z_bool:W.nsIn K mainGlobals "bool" = some none)
  (z_str:W.nsIn K mainGlobals "str" = some none)
  (z_list:W.nsIn K mainGlobals "list" = some none)
  (z_tuple:W.nsIn K mainGlobals "tuple" = some none)
  (z_isinstance:W.nsIn K mainGlobals "isinstance" = some none)
  (z_sorted:W.nsIn K mainGlobals "sorted" = some none)
  (z_enumerate:W.nsIn K mainGlobals "enumerate" = some none)
  (z_set:W.nsIn K mainGlobals "set" = some none)
  : ∃ fd:FuncData,(∀ (s:Shared) (v:Value),BindsTo s fd ⟨[v],[]⟩ [("_law_script",v)])/\∀ base:Heap,K.In base->base.Ns mainGlobals mg->FnOk l.prog w K mg base CX0 7 fa fd ["_law_script"] (qa2 K):=by
 have e:=hfa.symm.trans (W.mg_of X G a20)
 cases e
 have F1:=q2h (st:=s_qu) l1 c1 k1
 have b1:=F1.binds (ps:=["wheel", "many"]) fun _ _ _ _ _ _ us hl=>match us,hl with | [_,_],_=>rfl
 have F2:=q2h (st:=s_q0) l2 c2 k2
 have b2:=F2.binds (ps:=["entry"]) fun _ _ _ _ _ _ us hl=>match us,hl with | [_],_=>rfl
 have F3:=q2h (st:=s_qy) l3 c3 k3
 have b3:=F3.binds (ps:=["entry"]) fun _ _ _ _ _ _ us hl=>match us,hl with | [_],_=>rfl
 have F4:=q2h (st:=s_qv) l4 c4 k4
 have b4:=F4.binds (ps:=["entry", "ways"]) fun _ _ _ _ _ _ us hl=>match us,hl with | [_,_],_=>rfl
 have F5:=q2h (st:=s_qz) l5 c5 k5
 have b5:=F5.binds (ps:=["book", "name", "day"]) fun _ _ _ _ _ _ us hl=>match us,hl with | [_,_,_],_=>rfl
 have F6:=q2h (st:=s_qk) l6 c6 k6
 have b6:=F6.binds (ps:=["_law_script", "_law_k"]) fun _ _ _ _ _ _ us hl=>match us,hl with | [_,_],_=>rfl
 have F7:=q2h (st:=s_qc) l7 c7 k7
 have b7:=F7.binds (ps:=["_law_found", "_law_due"]) fun _ _ _ _ _ _ us hl=>match us,hl with | [_,_],_=>rfl
 have F8:=q2h (st:=s_qw) l8 c8 k8
 have b8:=F8.binds (ps:=["_law_found", "_law_due"]) fun _ _ _ _ _ _ us hl=>match us,hl with | [_,_],_=>rfl
 have F9:=q2h (st:=s_qa) l9 c9 k9
 have b9:=F9.binds (ps:=["_law_entry"]) fun _ _ _ _ _ _ us hl=>match us,hl with | [_],_=>rfl
 have F10:=q2h (st:=s_qj) l10 c10 k10
 have b10:=F10.binds (ps:=["_law_entry", "_law_one"]) fun _ _ _ _ _ _ us hl=>match us,hl with | [_,_],_=>rfl
 have F11:=q2h (st:=s_qd) l11 c11 k11
 have b11:=F11.binds (ps:=["_law_entry", "_law_source", "_law_goal"]) fun _ _ _ _ _ _ us hl=>match us,hl with | [_,_,_],_=>rfl
 have F12:=q2h (st:=s_qt) l12 c12 k12
 have b12:=F12.binds (ps:=["_law_book", "_law_bad", "_law_day"]) fun _ _ _ _ _ _ us hl=>match us,hl with | [_,_,_],_=>rfl
 have F13:=q2h (st:=s_qi) l13 c13 k13
 have b13:=F13.binds (ps:=["_law_script", "_law_mark"]) fun _ _ _ _ _ _ us hl=>match us,hl with | [_,_],_=>rfl
 have F14:=q2h (st:=s_ql) l14 c14 k14
 have b14:=F14.binds (ps:=["_law_script"]) fun _ _ _ _ _ _ us hl=>match us,hl with | [_],_=>rfl
 have F15:=q2h (st:=s_qe) l15 c15 k15
 have b15:=F15.binds (ps:=["_law_tale_here", "_law_wheel", "_law_many"]) fun _ _ _ _ _ _ us hl=>match us,hl with | [_,_,_],_=>rfl
 have F16:=q2h (st:=s_qq) l16 c16 k16
 have b16:=F16.binds (ps:=["_law_tale_here", "_law_script", "_law_rest"]) fun _ _ _ _ _ _ us hl=>match us,hl with | [_,_,_],_=>rfl
 have F17:=q2h (st:=s_qp) l17 c17 k17
 have b17:=F17.binds (ps:=["_law_tale_here", "_law_script", "_law_cell"]) fun _ _ _ _ _ _ us hl=>match us,hl with | [_,_,_],_=>rfl
 have F18:=q2h (st:=s_qx) l18 c18 k18
 have b18:=F18.binds (ps:=["_law_script", "_law_first"]) fun _ _ _ _ _ _ us hl=>match us,hl with | [_,_],_=>rfl
 have F19:=q2h (st:=s_qr) l19 c19 k19
 have b19:=F19.binds (ps:=["_law_tale_here", "_law_cell"]) fun _ _ _ _ _ _ us hl=>match us,hl with | [_,_],_=>rfl
 have F20:=q2h (st:=q5z) l20 c20 k20
 have b20:=F20.binds (ps:=["_law_script"]) fun _ _ _ _ _ _ us hl=>match us,hl with | [_],_=>rfl
 have T:Txt K mg ⟨f1,_,f2,_,f3,_,f4,_,f5,_,f6,_,f7,_,f8,_,f9,_,f10,_,f11,_,f12,_,f13,_,f14,_,f15,_,f16,_,f17,_,f18,_,f19,_,fa,_⟩:=⟨F1,W.mg_of X G a1,b1,F2,W.mg_of X G a2,b2,F3,W.mg_of X G a3,b3,F4,W.mg_of X G a4,b4,F5,W.mg_of X G a5,b5,F6,W.mg_of X G a6,b6,F7,W.mg_of X G a7,b7,F8,W.mg_of X G a8,b8,F9,W.mg_of X G a9,b9,F10,W.mg_of X G a10,b10,F11,W.mg_of X G a11,b11,F12,W.mg_of X G a12,b12,F13,W.mg_of X G a13,b13,F14,W.mg_of X G a14,b14,F15,W.mg_of X G a15,b15,F16,W.mg_of X G a16,b16,F17,W.mg_of X G a17,b17,F18,W.mg_of X G a18,b18,F19,W.mg_of X G a19,b19,F20,W.mg_of X G a20,b20,W.mg_none_of X G z_len,W.mg_none_of X G z_all,W.mg_none_of X G z_any,W.mg_none_of X G z_min,W.mg_none_of X G z_range,W.mg_none_of X G z_int,W.mg_none_of X G z_bool,W.mg_none_of X G z_str,W.mg_none_of X G z_list,W.mg_none_of X G z_tuple,W.mg_none_of X G z_isinstance,W.mg_none_of X G z_sorted,W.mg_none_of X G z_enumerate,W.mg_none_of X G z_set⟩
 exact ⟨W.fnOf "law" "law" (q1n q5z) (q1g q5z) (q0f q5z) .none kV20 dc20 pm20 an20 cd20 ct20,fun s v=>.of_eq rfl,fun base _ _=>ok_law T⟩
theorem walk {l:W.OpenLaw} {q:Program} {loose:List Str} {XP:(Str->Option Value)->Heap->Prop} {YP:World->Heap->Prop} {d:DefRec} {K:Params->W.Frag} (hn:l.most=some 63) (hdf:d.params.defaults=[])
  (hY:∀ (w:World) (h:Heap),YP w h->(K w.params).In h)
  (F:∀ (w:World) (mg:Str->Option Value) (fa:Addr) (h:Heap),(K w.params).In h->h.Ns mainGlobals mg->mg d.name=some (.ref fa) ->
   ∃ fd:FuncData,(∀ (s:Shared) (u:Value),BindsTo s fd ⟨[u],[]⟩ [("_law_script",u)])/\∀ base:Heap,(K w.params).In base->base.Ns mainGlobals mg->FnOk l.prog w (K w.params) mg base CX0 7 fa fd ["_law_script"] (qa2 (K w.params))) :
  W.WalkO q loose XP YP l.row.toRowW d [] (fun f vs=>PySem.call f vs):=
 L2.qmu (n:=63) (k:=7) (x:="_law_script") (CX:=fun _=>CX0) (sp:=fun w=>qa2 (K w.params)) hn (by decide) hdf ⟨rfl,by decide,by decide⟩ hY F (fun _ _ a ns hl _ hS=>⟨a,ns,rfl,hS,hl,fun _=>rfl⟩) fun _ _ _ _ _ z=>z
end K23
open PySem PySem.W PyProof.Rows
set_option maxRecDepth 100000 in
set_option maxHeartbeats 0 in
def PySem.W.Fast.tw7417895027591331818:Unit:=()
def PySem.W.Fast.tw12046785095676952175:Unit:=()
def PySem.W.Fast.tw17495856897573749153:Unit:=()
def PySem.W.Fast.tw2559684738154761849:Unit:=()
def PySem.W.Fast.tw16652746774334029791:Unit:=()
def PySem.W.Fast.tw7355127711083308755:Unit:=()
def PySem.W.Fast.tw1978137823326013877:Unit:=()
def PySem.W.Fast.tw10494792974803179066:Unit:=()
def PySem.W.Fast.tw13173358067685161583:Unit:=()
def PySem.W.Fast.tw13741490191199262396:Unit:=()
def PySem.W.Fast.tw9548043827743521324:Unit:=()
def PySem.W.Fast.tw660709447797046104:Unit:=()
def PySem.W.Fast.tw9629212416273791071:Unit:=()
def PySem.W.Fast.tw350767906624303394:Unit:=()
def PySem.W.Fast.tw416156234486103993:Unit:=()
def PySem.W.Fast.tw10371454397453470514:Unit:=()
def PySem.W.Fast.tw5862933981546372013:Unit:=()
def PySem.W.Fast.tw2752071724246608196:Unit:=()
def PySem.W.Fast.tw189620880194546770:Unit:=()
theorem PySem.Challenge.cw_curdcellar_k23_recall_of_a_book_holds : PySem.Challenge.rw_curdcellar_k23_recall_of_a_book.Holds := by
 w_on;o_law;k_head;(case hw=>w_witness2)
 k_fill
 refine K23.walk (l:=PySem.Challenge.rw_curdcellar_k23_recall_of_a_book) rfl rfl (fun w h Y=>W.kIn_of Y) ?F
 case F =>
  intro w mg fa h KX G hmg
  refine' K23.all_mk KX G hmg ..
  all_goals try first | k_exc | k_is
