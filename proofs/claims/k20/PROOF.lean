import PyProof.Rows.All
import Wide.All
import OpenK.AllK
import Wide.FinOn
import PyProof.EqAt
import PyProof.EqKinds
import PyProof.TupleCall
import PyProof.StrWalks
import PyProof.StrLawsTight
import PyProof.StrLawsIn
import PyProof.StrLawsIdx
import PyProof.ConsumeWalk
import PyProof.StrBlockG
import PyProof.MeetsStr2
import PyProof.ZipIter
import PyProof.Rows.ZipGen
import PyProof.NeKinds
import OpenK.KOwn
import PyProof.NsDelKeeps
import PyProof.ExcClass3
import PyProof.StationsW
import KE.KIsAll
import OpenK.KDescr
import KE.KIntText
import PyProof.FString
import PyProof.ReprStr
import PyProof.StrLawsRepr
import PyProof.DictItems
import PyProof.Rows.DictItemsRows
import KE.KPairComp
import KE.KMinKey
import PyProof.Rows.MinMaxN
import PyProof.Rows.CallKwBuiltin
import PyProof.AutoListH
import PyProof.Rows.TupIter
import PyProof.Rows.StrWeight2
import PyProof.EnumFor
import PyProof.EnumMake
import PyProof.Rows.EnumRows
import PyProof.Rows.SeqGen
import KE.KRevSl
import OpenK.KCls
import PyProof.Rows.SetFrom
import PyProof.SetRoads
import PyProof.DictKinds
import PyProof.Rows.Range3
import KE.KTupSum
import KE.KDictList
import PyProof.DictValues
import KE.KEqDict
import PySem.Challenge.RW_curdcellar_k20_task_of_wheels
set_option Elab.async false
set_option linter.all false
set_option maxRecDepth 100000
namespace L2
open PySem PySem.Spec PyProof.Rows
abbrev Key:=Sum Int Str
def p4:Key->Value->Bool
 | .inl k,v=>Value.isInt k v
 | .inr x,v=>Value.isStrOf x v
def keyH (w:World):Key->Int
 | .inl k=>hashInt k
 | .inr x=>hashStr w x
theorem o8:∀ {k:Key} {v:Value},p4 k v=true->(∃ i t,k=Sum.inl i/\v=Value.int i t)\/(∃ x t,k=Sum.inr x/\v=Value.str x t)
 | .inl i,v,h=>by
  obtain ⟨t,e⟩:=Value.isInt_shape (k:=i) (v:=v) h;exact .inl ⟨i,t,rfl,e⟩
 | .inr x,v,h=>by
  obtain ⟨t,e⟩:=Value.isStrOf_shape (x:=x) (v:=v) h;exact .inr ⟨x,t,rfl,e⟩
theorem qjm (i:Int) (t:Tok):p4 (.inl i) (.int i t)=true:=by simp [p4,Value.isInt]
theorem ql4 (x:Str) (t:Tok):p4 (.inr x) (.str x t)=true:=by simp [p4,Value.isStrOf]
theorem key_ll (a b:Int):decide ((Sum.inl a:Key)=Sum.inl b)=(a == b):=by
 by_cases e:a=b
 ·subst e;simp
 ·have h:¬ (Sum.inl a:Key)=Sum.inl b:=λq=>e (Sum.inl.inj q)
  rw [decide_eq_false h];exact (beq_eq_false_iff_ne.mpr e).symm
theorem key_rr (a b:Str):decide ((Sum.inr a:Key)=Sum.inr b)=decide (a=b):=by
 by_cases e:a=b
 ·subst e;simp
 ·have h:¬ (Sum.inr a:Key)=Sum.inr b:=λq=>e (Sum.inr.inj q)
  rw [decide_eq_false h,decide_eq_false e]
theorem key_lr (a:Int) (b:Str):decide ((Sum.inl a:Key)=Sum.inr b)=false:=decide_eq_false (λq=>nomatch q)
theorem key_rl (a:Str) (b:Int):decide ((Sum.inr a:Key)=Sum.inl b)=false:=decide_eq_false (λq=>nomatch q)
def vo (prog:Program) (w:World):PySem.KeyKind prog w Key where
 is:=p4
 hash:=keyH w
 inj:=λv a b ha hb=>by
  rcases o8 ha with ⟨i,t,rfl,rfl⟩ | ⟨x,t,rfl,rfl⟩
  ·rcases o8 hb with ⟨j,u,rfl,e⟩ | ⟨y,u,rfl,e⟩
   ·injection e with e1 _;rw [e1]
   ·exact nomatch e
  ·rcases o8 hb with ⟨j,u,rfl,e⟩ | ⟨y,u,rfl,e⟩
   ·exact nomatch e
   ·injection e with e1 _;rw [e1]
 byValue:=λk v h=>by
  rcases o8 h with ⟨i,t,rfl,rfl⟩ | ⟨x,t,rfl,rfl⟩ <;> rfl
 pyHash:=λhv h=>by
  rcases o8 hv with ⟨i,t,rfl,rfl⟩ | ⟨x,t,rfl,rfl⟩
  ·exact wpAny_pyHash_int h
  ·exact wpAny_pyHash_str h
 eqBool:=λhu hv h=>by
  rcases o8 hu with ⟨i,t,rfl,rfl⟩ | ⟨x,t,rfl,rfl⟩
  ·rcases o8 hv with ⟨j,u,rfl,rfl⟩ | ⟨y,u,rfl,rfl⟩
   ·rw [key_ll] at h;exact wpAny_eqBool_int h
   ·rw [key_lr] at h;exact SeqAt.EqAt.int_str i t y u _ _ _ _ h
  ·rcases o8 hv with ⟨j,u,rfl,rfl⟩ | ⟨y,u,rfl,rfl⟩
   ·rw [key_rl] at h;exact SeqAt.EqAt.str_int x t j u _ _ _ _ h
   ·rw [key_rr] at h;exact wpAny_eqBool_str h
 «strs»:=λk x t v h=>by
  rcases o8 h with ⟨i,u,rfl,e⟩ | ⟨y,u,rfl,e⟩
  ·exact nomatch e
  ·injection e with e1 _
   subst e1;cases v <;> rfl
theorem qgf (prog:Program) (w:World) (i:Int) (t:Tok):(vo prog w).is (.inl i) (.int i t)=true:=qjm i t
theorem qgb (prog:Program) (w:World) (x:Str) (t:Tok):(vo prog w).is (.inr x) (.str x t)=true:=ql4 x t
inductive V where
 | non | bl (b:Bool) | int (i:Int) | str (x:Str) | byt (b:Array UInt8) | flt (b:UInt64) | ref (a:Addr) | ty (n:String)
 deriving DecidableEq
def RelV:V->Value->Prop
 | .non,u=>u=Value.none
 | .bl b,u=>u=Value.bool b
 | .int i,u=>∃ t,u=Value.int i t
 | .str x,u=>∃ t,u=Value.str x t
 | .byt b,u=>∃ t,u=Value.bytes b t
 | .flt b,u=>∃ t,u=Value.float b t
 | .ref a,u=>u=Value.ref a
 | .ty n,u=>u=Value.type n
abbrev Vals:List V->List Value->Prop:=Paired RelV
theorem Vals.length {xs:List V} {us:List Value} (r:Vals xs us):xs.length=us.length:=Paired.length r
theorem Vals.get:∀ {xs:List V} {us:List Value} {i:Nat} {x:V},Vals xs us->xs[i]?=some x->∃ u,us[i]?=some u/\RelV x u
 | _,_,_,_, .nil,e=>by simp at e
 | _,_,0,_, .cons r _,e=>by simp at e;subst e;exact ⟨_,rfl,r⟩
 | _,_,i+1,x, .cons _ t,e=>by
  obtain ⟨u,h1,h2⟩:=Vals.get (i:=i) (x:=x) t (by simpa using e)
  exact ⟨u,by simpa using h1,h2⟩
theorem Vals.set {x:V} {u:Value} (r:RelV x u):∀ {xs:List V} {us:List Value} (i:Nat),Vals xs us->Vals (xs.set i x) (us.set i u)
 | _,_,_, .nil=>.nil
 | _,_,0, .cons _ t=>.cons r t
 | _,_,i+1, .cons q t=>.cons q (Vals.set r i t)
theorem Vals.append:∀ {xs ys:List V} {us ws:List Value},Vals xs us->Vals ys ws->Vals (xs++ys) (us++ws)
 | _,_,_,_, .nil,s=>s
 | _,_,_,_, .cons r t,s=>.cons r (Vals.append t s)
theorem Vals.take:∀ {xs:List V} {us:List Value} (n:Nat),Vals xs us->Vals (xs.take n) (us.take n)
 | _,_,0,_=>.nil
 | _,_,_+1, .nil=>.nil
 | _,_,n+1, .cons r t=>.cons r (Vals.take n t)
theorem Vals.drop:∀ {xs:List V} {us:List Value} (n:Nat),Vals xs us->Vals (xs.drop n) (us.drop n)
 | _,_,0,r=>r
 | _,_,_+1, .nil=>.nil
 | _,_,n+1, .cons _ t=>Vals.drop n t
def RelO:Option V->Option Value->Prop
 | some v,some u=>RelV v u
 | none,none=>True
 | _,_=>False
def KV {κ:Type}:List (κ×V)->List (κ×Value)->Prop:=Paired λ(p:κ×V) (q:κ×Value)=>p.1=q.1/\RelV p.2 q.2
def kV:Key->V
 | .inl i=>.int i
 | .inr x=>.str x
inductive HO where
 | lst (xs:List V)
 | tup (xs:List V)
 | dK (kvs:List (Key×V)) | dT (kvs:List (List Key×V))
 | set (S:Int->Bool) (n:Nat)
 | ins (C dx:Addr) (fs:List (Str×V))
 | own (x:Addr)
 | xd (fs:List (Str×V))
 | met (f x:Addr)
 | rng (lo hi:Int)
 | frz (o:Obj) (u:HO)
 | tbl (ps:Array Value)
 | ext (φ:Heap->Prop)
abbrev Hp:=Addr->Option HO
def upd (H:Hp) (a:Addr) (o:HO):Hp:=λb=>if b=a then some o else H b
theorem vd {H:Hp} {a:Addr} {o:HO}:upd H a o a=some o:=by unfold upd;rw [if_pos rfl]
theorem yk {H:Hp} {a b:Addr} {o:HO} (h:b≠a):upd H a o b=H b:=by unfold upd;rw [if_neg h]
theorem ne_of {H:Hp} {a b:Addr} {o u:HO} (h:H a=some o) (h':H b=some u) (d:o≠u):a≠b:=by
 intro e;subst e;rw [h] at h';exact d (Option.some.inj h')
theorem mw {H:Hp} {a b:Addr} {o:HO} (h:H a=some o) (h':H b=none):a≠b:=by
 intro e;subst e;rw [h] at h';cases h'
section
variable (P:Program) (w:World)
def xg (H:Hp) (h:Heap) (a:Addr):HO->Prop
 | .lst xs=>xs.length<=sizeLine/\∃ (its:List Value) (n:Nat),Vals xs its/\h.get? a=some {cls:=.type "list",data:=.seq its.toArray n}
 | .tup xs=>xs.length<=sizeLine/\∃ its:List Value,Vals xs its/\IsTup h a its.toArray
 | .dK kvs=>kvs.length<=sizeLine/\(a == sysModules)=false/\∃ vs,KV kvs vs/\h.DictOf (vo P w) a vs
 | .dT kvs=>kvs.length<=sizeLine/\(a == sysModules)=false/\∃ xs:List (List Key×Addr×Value),
   Paired (λ(p:List Key×V) (q:List Key×Addr×Value)=>p.1=q.1/\H q.2.1=some (.tup (p.1.map kV))/\RelV p.2 q.2.2) kvs xs /\
   ∃ o es ep,h.get? a=some o/\o.ExactDict/\o.data=.dict es ep/\es.toList=xs.map (entryOfKey (tupleKind (vo P w)))/\(xs.map (·.1)).Nodup
 | .set S n=>h.SetOf (intKind P w) a S n
 | .ins C dx fs=>H dx=some (.own a)/\fs.length<=1000/\dx≠a/\h.get? a=some (W.instObj C dx) /\
   ∃ mA,h.Ns1 dx mA/\(∀ f,RelO (fs.lookup f) (mA f))/\PySem.Within mA (fs.map (·.1))
 | .own _=>∃ o,h.get? a=some o
 | .xd fs=>∃ mA,h.Ns1 a mA/\∀ f,RelO (fs.lookup f) (mA f)
 | .rng lo hi=>∃ t u v,h.get? a=some {cls:=.type "range",data:=.fields #[.int lo t, .int hi u, .int 1 v]}
 | .frz o u=>h.get? a=some o/\xg H h a u
 | .tbl ps=>h.get? a=some {cls:=.none,data:=.fields ps}
 | .met f x=>h.get? a=some (W.methodObj (.ref f) (.ref x))
 | .ext φ=>φ h/\(∃ o,h.get? a=some o)/\∀ h1 h2:Heap, φ h1->(∀ o,h1.get? a=some o->h2.get? a=some o)->φ h2
def HOk (H:Hp) (h:Heap):Prop:=∀ a o,H a=some o->xg P w H h a o
end
section
variable {P:Program} {w:World} {H H':Hp} {h h':Heap} {a:Addr} {o:HO}
theorem xg.lt (x:xg P w H h a o):a<h.objs.size:=by
 cases o with
 | lst xs=>obtain ⟨_,_,_,_,e⟩:=x;exact Heap.lt_size e
 | tup xs=>obtain ⟨_,_,_,p⟩:=x;exact p.lt
 | dK kvs=>obtain ⟨_,_,_,_,o,_,_,e,_⟩:=x;exact Heap.lt_size e
 | dT kvs=>obtain ⟨_,_,_,_,o,_,_,e,_⟩:=x;exact Heap.lt_size e
 | set S n=>obtain ⟨o,_,_,_,e,_⟩:=x;exact Heap.lt_size e
 | ins C dx fs=>obtain ⟨_,_,_,e,_⟩:=x;exact Heap.lt_size e
 | own y=>obtain ⟨_,e⟩:=x;exact Heap.lt_size e
 | xd fs=>obtain ⟨_,⟨_,_,_,e,_⟩,_⟩:=x;exact Heap.lt_size e
 | rng lo hi=>obtain ⟨_,_,_,e⟩:=x;exact Heap.lt_size e
 | frz ob u=>obtain ⟨e,_⟩:=x;exact Heap.lt_size e
 | tbl ps=>exact Heap.lt_size (show h.get? a=some _ from x)
 | met f y=>exact Heap.lt_size (show h.get? a=some _ from x)
 | ext φ=>obtain ⟨_,⟨_,e⟩,_⟩:=x;exact Heap.lt_size e
theorem Paired.mapP {α β:Type} {F G:α->β->Prop}:∀ {l₁:List α} {l₂:List β},Paired F l₁ l₂->(∀ a b,F a b->G a b)->Paired G l₁ l₂
 | _,_, .nil,_=>.nil
 | _,_, .cons r t,f=>.cons (f _ _ r) (Paired.mapP t f)
theorem xg.stay (x:xg P w H h a o) (k:∀ b u,(b=a\/H b=some (.own a))->h.get? b=some u->h'.get? b=some u)
  (ho:∀ b,H b=some (.own a)->H' b=some (.own a)) (ht:∀ b xs,H b=some (.tup xs)->H' b=some (.tup xs)):xg P w H' h' a o:=by
 induction o with
 | lst xs=>obtain ⟨z,its,n,r,e⟩:=x;exact ⟨z,its,n,r,k _ _ (.inl rfl) e⟩
 | tup xs=>obtain ⟨z,its,r,ob,e,c⟩:=x;exact ⟨z,its,r,ob,k _ _ (.inl rfl) e,c⟩
 | dK kvs=>obtain ⟨z,y,vs,r,ob,es,ep,e,c⟩:=x;exact ⟨z,y,vs,r,ob,es,ep,k _ _ (.inl rfl) e,c⟩
 | dT kvs =>
  obtain ⟨z,y,xs,r,ob,es,ep,e,c⟩:=x;exact ⟨z,y,xs,Paired.mapP r λp q z=>⟨z.1,ht _ _ z.2.1,z.2.2⟩,ob,es,ep,k _ _ (.inl rfl) e,c⟩
 | set S n=>obtain ⟨ob,es,ep,t,e,c⟩:=x;exact ⟨ob,es,ep,t,k _ _ (.inl rfl) e,c⟩
 | ins C dx fs =>
  obtain ⟨d,z,ne,e,mA,⟨od,es,ep,e2,c⟩,r⟩:=x;exact ⟨ho _ d,z,ne,k _ _ (.inl rfl) e,mA,⟨od,es,ep,k _ _ (.inr d) e2,c⟩,r⟩
 | own y=>obtain ⟨ob,e⟩:=x;exact ⟨ob,k _ _ (.inl rfl) e⟩
 | xd fs=>obtain ⟨mA,⟨od,es,ep,e,c⟩,r⟩:=x;exact ⟨mA,⟨od,es,ep,k _ _ (.inl rfl) e,c⟩,r⟩
 | rng lo hi=>obtain ⟨t,u,v,e⟩:=x;exact ⟨t,u,v,k _ _ (.inl rfl) e⟩
 | frz ob u ih=>obtain ⟨e,q⟩:=x;exact ⟨k _ _ (.inl rfl) e,ih q⟩
 | tbl ps =>
  have e:h.get? a=some {cls:=.none,data:=.fields ps}:=x;show h'.get? a=some {cls:=.none,data:=.fields ps};exact k a _ (.inl rfl) e
 | met f y =>
  have e:h.get? a=some (W.methodObj (.ref f) (.ref y)):=x;show h'.get? a=some (W.methodObj (.ref f) (.ref y));exact k a _ (.inl rfl) e
 | ext φ=>obtain ⟨p,⟨o,e⟩,st⟩:=x;exact ⟨st _ _ p λo q=>k _ _ (.inl rfl) q,⟨o,k _ _ (.inl rfl) e⟩,st⟩
theorem HOk.lt (x:HOk P w H h) (e:H a=some o):a<h.objs.size:=(x a o e).lt
theorem HOk.fresh (x:HOk P w H h) (e:h.objs.size<=a):H a=none:=by
 cases q:H a with
 | none=>rfl
 | some u=>exact absurd (Nat.lt_of_lt_of_le (x.lt q) e) (Nat.lt_irrefl _)
theorem HOk.kept (x:HOk P w H h) (k:∀ b u,h.get? b=some u->h'.get? b=some u):HOk P w H h':=λa o e =>
 (x a o e).stay (λb u _ q=>k b u q) (λ_ q=>q) λ_ _ q=>q
theorem HOk.laid (x:HOk P w H h) (k:∀ b u,h.get? b=some u->h'.get? b=some u) (hp:h.objs.size<=a) (new:xg P w (upd H a o) h' a o):HOk P w (upd H a o) h':=λb u e=>by
 have hn:=x.fresh hp
 by_cases hb:b=a
 ·subst hb;rw [vd] at e;cases e;exact new
 ·rw [yk hb] at e
  exact (x b u e).stay (λc v _ q=>k c v q) (λc q=>by rw [yk (mw q hn)];exact q) λc xs q=>by rw [yk (mw q hn)];exact q
end
def Rd (H:Hp) (a:Addr) (u:HO):Prop:=H a=some u\/∃ o,H a=some (.frz o u)
theorem Rd.ok {P:Program} {w:World} {H:Hp} {h:Heap} {a:Addr} {u:HO} (r:Rd H a u) (x:HOk P w H h):xg P w H h a u:=by
 rcases r with r | ⟨o,r⟩
 ·exact x a u r
 ·obtain ⟨_,q⟩:=x a _ r
  exact q
def Mut:Option HO->Prop
 | some (.lst _)=>True
 | some (.dK _)=>True
 | some (.dT _)=>True
 | some (.set _ _)=>True
 | some (.ins _ _ _)=>True
 | some (.ext _)=>True
 | _=>False
section
variable {P:Program} {w:World} {H:Hp} {h h':Heap} {x e:Addr} {o':HO}
theorem HOk.write (ok:HOk P w H h) (mu:Mut (H x)) (he:e=x\/H e=some (.own x)) (k:∀ b u,b≠e->h.get? b=some u->h'.get? b=some u) (heo:∃ u,h'.get? e=some u)
  (new:xg P w (upd H x o') h' x o'):HOk P w (upd H x o') h':=λb u q=>by
 have nown:∀ c y,H c=some (.own y)->c≠x:=λc y r z=>by subst z;rw [r] at mu;exact mu
 have ntup:∀ c xs,H c=some (.tup xs)->c≠x:=λc xs r z=>by subst z;rw [r] at mu;exact mu
 by_cases hb:b=x
 ·subst hb;rw [vd] at q;cases q;exact new
 ·rw [yk hb] at q
  by_cases hbe:b=e
  ·have q':H b=some (.own x):=by
    rcases he with z | z
    ·exact absurd (hbe.trans z) hb
    ·rw [hbe];exact z
   rw [q] at q';cases q';obtain ⟨v,hv⟩:=heo;exact ⟨v,by rw [hbe];exact hv⟩
  ·refine (ok b u q).stay (λc v hc r=>k c v ?_ r) (λc r=>by rw [yk (nown c b r)];exact r) λc xs r=>by rw [yk (ntup c xs r)];exact r
   rcases hc with rfl | hc
   ·exact hbe
   ·rintro rfl
    rcases he with z | z
    ·exact nown c b hc z
    ·rw [hc] at z;cases z;exact hb rfl
end
structure Un (fs ex:List Addr) (H H':Hp) (h h':Heap):Prop where
 keep:∀ b o,h.get? b=some o->H b=none->b∉fs->b∉ex->h'.get? b=some o
 slot:∀ b o,h.get? b=some o->H b=none->b∈fs->b∉ex->∃ sl,h'.get? b=some {o with slots:=sl}
 free:∀ b o,h.get? b=some o->H b=none->b∉ex->H' b=none
 there:∀ b o,h.get? b=some o->b∉ex->∃ o',h'.get? b=some o'
 tups:∀ b xs,H b=some (.tup xs)->H' b=some (.tup xs)
 frzs:∀ b o u,H b=some (.frz o u)->H' b=some (.frz o u)
 tbls:∀ b ps,H b=some (.tbl ps)->∃ more,H' b=some (.tbl (ps++more))
section
variable {fs fs' ex ex':List Addr} {H H1 H2:Hp} {h h1 h2 h':Heap} {a x e:Addr} {o:HO}
theorem Un.any (u:Un fs ex H H1 h h1) {b:Addr} {ob:Obj} (q:h.get? b=some ob) (n:H b=none) (hx:b∉ex):∃ sl,h1.get? b=some {ob with slots:=sl}:=by
 by_cases hb:b∈fs
 ·exact u.slot b ob q n hb hx
 ·exact ⟨ob.slots,u.keep b ob q n hb hx⟩
theorem Un.kept (k:∀ b u,h.get? b=some u->h'.get? b=some u):Un fs ex H H h h':=
 ⟨λb ob q _ _ _=>k b ob q,λb ob q _ _ _=>⟨ob.slots,k b ob q⟩,λ_ _ _ n _=>n,λb ob q _=>⟨ob,k b ob q⟩,λ_ _ q=>q,λ_ _ _ q=>q,λ_ ps q=>⟨#[],by rw [q];simp⟩⟩
theorem Un.refl:Un fs ex H H h h:=Un.kept λ_ _ q=>q
theorem Un.laid (k:∀ b u,h.get? b=some u->h'.get? b=some u) (hp:h.objs.size<=a) (hn:H a=none):Un fs ex H (upd H a o) h h' where
 keep:=λb u q _ _ _=>k b u q
 slot:=λb u q _ _ _=>⟨u.slots,k b u q⟩
 free:=λb u q n _=>by rw [yk (Nat.ne_of_lt (Nat.lt_of_lt_of_le (Heap.lt_size q) hp))];exact n
 there:=λb u q _=>⟨u,k b u q⟩
 tups:=λb xs q=>by rw [yk (mw q hn)];exact q
 frzs:=λb u xs q=>by rw [yk (mw q hn)];exact q
 tbls:=λb ps q=>⟨#[],by rw [yk (mw q hn),q];simp⟩
theorem Un.write (mu:Mut (H x)) (he:e=x\/H e=some (.own x)) (k:∀ b u,b≠e->h.get? b=some u->h'.get? b=some u) (heo:∃ u,h'.get? e=some u):Un fs ex H (upd H x o) h h':=by
 have hx:∀ b,H b=none->b≠x:=λb n z=>by subst z;rw [n] at mu;exact mu
 have hb:∀ b,H b=none->b≠e:=λb n z=>by
  subst z;rcases he with r | r
  ·exact hx b n r
  ·rw [n] at r;cases r
 have hm:∀ b u,H b=some u->¬ Mut (some u)->b≠x:=λb u q nm z=>by subst z;rw [q] at mu;exact nm mu
 refine ⟨λb u q n _ _=>k b u (hb b n) q,λb u q n _ _=>⟨u.slots,k b u (hb b n) q⟩,λb u q n _=>by rw [yk (hx b n)];exact n,λb u q _=>?_,
  λb xs q=>by rw [yk (hm b _ q λz=>z)];exact q,λb u xs q=>by rw [yk (hm b _ q λz=>z)];exact q,λb ps q=>⟨#[],by rw [yk (hm b _ q λz=>z),q];simp⟩⟩
 by_cases hbe:b=e
 ·subst hbe;exact heo
 ·exact ⟨u,k b u hbe q⟩
end
def trk (h:Heap) (H:Hp):List Addr:=(List.range h.objs.size).filter λa=>(H a).isSome
def hidT (h:Heap) (H:Hp):Heap:=W.hideAll h (trk h H)
theorem qjk (h:Heap) (H:Hp):(hidT h H).objs.size=h.objs.size:=W.hideAll_size _ _
theorem qlq {h:Heap} {H:Hp} {b:Addr} {o:Obj} (e:h.get? b=some o) (n:H b=none):(hidT h H).get? b=some o:=
 W.hideAll_get _ e λhm=>by
  have q:(H b).isSome=true:=(List.mem_filter.mp hm).2;rw [n] at q;simp at q
theorem qoh {h:Heap} {H:Hp} {b:Addr} {o:Obj} (e:(hidT h H).get? b=some o):h.get? b=some o/\H b=none:=by
 have e':h.get? b=some o:=W.of_hideAll (trk h H) e;refine ⟨e',?_⟩;cases q:H b with
 | none=>rfl
 | some x =>
  have hm:b∈trk h H:=List.mem_filter.mpr ⟨List.mem_range.mpr (Heap.lt_size e'),by simp [q]⟩
  have z:(hidT h H).get? b=none:=W.hideAll_none (trk h H) hm;rw [z] at e;cases e
structure Mod (K:W.Frag) (mg:Str->Option Value) (base:Heap):Prop where
 kin:K.In base
 glob:base.Ns mainGlobals mg
 blt:∃ mb,base.Ns builtinsNs mb/\∀ x:Str,x ≠ "__name__"->mb x=bootBuiltins x
 nolimit:base.NoLimit
structure Cx where
 prog:Program
 w:World
 K:W.Frag
 mg:Str->Option Value
 base:Heap
 A:Around
 N:List Str
 s₀:Shared
 H₀:Hp
 env:Env
 outer:List Env
 stack:List Env
 ex:List Addr
 fn:Str->Bool
 calm:Bool
 pn:List (Addr×Obj)
 xe:Value->Shared->Prop
def frs (l:List Env):List Addr:=l.filterMap (·.frame)
abbrev Cx.fs (X:Cx):List Addr:=frs X.outer
def Vis (sc:Scope) (x:Str):Prop:=sc.names.lookup x=some .local\/sc.names.lookup x=some .cell\/sc.names.lookup x=some .free
def Loc (sc:Scope) (x:Str):Prop:=sc.names.lookup x=some .local\/sc.names.lookup x=some .cell
def Look (env:Env) (h:Heap) (m:Str->Option Value) (x:Str) (u:Value):Prop:=
 (env.kindOf x=some .local/\m x=some u)\/((env.kindOf x=some .cell\/env.kindOf x=some .free)/\∃ c,env.cells.lookup x=some c/\h.IsCell c (some u))
structure Cx.Ok (X:Cx):Prop where
 mod:Mod X.K X.mg X.base
 kind:X.env.scope.kind=.function
 glob:X.env.globals=mainGlobals
 blt:X.env.builtins=builtinsNs
 above:X.s₀.heap.objs.size<=X.env.locals
 inj:∀ x y c,X.env.cells.lookup x=some c->X.env.cells.lookup y=some c->x=y
 has:∀ x,(X.env.kindOf x=some .cell\/X.env.kindOf x=some .free)->∃ c,X.env.cells.lookup x=some c
 cab:∀ x c,X.fn x=true->X.env.cells.lookup x=some c->X.s₀.heap.objs.size<=c
 hd:X.calm=true->X.A.handled=none
 frames:X.A.frames=some X.stack
 stk:X.stack=X.outer\/(X.stack=X.env::X.outer/\X.env.frame=some X.env.locals)
 exf:∀ b∈X.ex,b≠X.env.locals/\∀ x c,X.env.cells.lookup x=some c->c≠b
 bs:∀ b o,X.base.get? b=some o->X.s₀.heap.get? b=some o/\X.H₀ b=none
 bsz:X.base.objs.size<=X.s₀.heap.objs.size
 noex:∀ b o,X.base.get? b=some o->b∉X.ex
 exfs:∀ b∈X.ex,b∉X.fs
 funs:X.s₀.heap.FunFrames X.base X.outer
 frf:∀ b∈X.fs,X.H₀ b=none
structure Inv (X:Cx) (pins:List (Addr×Obj)) (σ:List (Option V)) (H:Hp) (s:Shared):Prop where
 ok:X.Ok
 os:s.os=X.s₀.os
 bare:AllBare s.gens
 base:Un X.fs X.ex X.H₀ H X.s₀.heap s.heap
 loc:∃ m,s.heap.Ns X.env.locals m/\∀ (i:Nat) (x:Str) (v:V),X.N[i]?=some x->σ[i]?=some (some v)->Vis X.env.scope x->∃ u,RelV v u/\Look X.env s.heap m x u
 cell:∀ x c,X.env.cells.lookup x=some c->∃ v,s.heap.IsCell c v
 free:H X.env.locals=none
 freeC:∀ x c,X.env.cells.lookup x=some c->H c=none
 pin:∀ p∈X.pn++pins,s.heap.get? p.1=some p.2/\H p.1=none/\p.1≠X.env.locals/\p.1∉X.fs/\∀ v,p.2.data≠.cell v
 hok:HOk X.prog X.w H s.heap
 len:σ.length=X.N.length
section
variable {X:Cx} {pins:List (Addr×Obj)} {σ:List (Option V)} {H H':Hp} {s:Shared} {h':Heap}
theorem Cx.Ok.nofr (ok:X.Ok) {b:Addr} {o:Obj} (e:X.base.get? b=some o):b∉X.fs:=λhb=>by
 have:=(ok.funs.mem hb).1;rw [e] at this;cases this
theorem Inv.bs (I:Inv X pins σ H s):∀ b o,X.base.get? b=some o->s.heap.get? b=some o/\H b=none:=λb o e =>
 ⟨I.base.keep b o (I.ok.bs b o e).1 (I.ok.bs b o e).2 (I.ok.nofr e) (I.ok.noex b o e),I.base.free b o (I.ok.bs b o e).1 (I.ok.bs b o e).2 (I.ok.noex b o e)⟩
theorem Inv.bk (I:Inv X pins σ H s):∀ b o,X.base.get? b=some o->s.heap.get? b=some o:=λb o e=>(I.bs b o e).1
theorem Inv.mod (I:Inv X pins σ H s):Mod X.K X.mg X.base:=I.ok.mod
theorem Inv.kIn (I:Inv X pins σ H s):X.K.In s.heap:=I.ok.mod.kin.keeps I.bk
theorem Inv.lt (I:Inv X pins σ H s):X.env.locals<s.heap.objs.size:=let ⟨_,hn,_⟩:=I.loc;hn.lt
theorem Inv.sz (I:Inv X pins σ H s):X.s₀.heap.objs.size<=s.heap.objs.size:=Nat.le_trans I.ok.above (Nat.le_of_lt I.lt)
theorem Inv.nofs (I:Inv X pins σ H s) {a:Addr} (h:s.heap.objs.size<=a):a∉X.fs:=λhb=>by
 obtain ⟨_,o,ho,_⟩:=I.ok.funs.mem hb;exact absurd (Nat.lt_of_lt_of_le (Heap.lt_size ho) (Nat.le_trans I.sz h)) (Nat.lt_irrefl _)
theorem Inv.cne (I:Inv X pins σ H s):∀ x c,X.env.cells.lookup x=some c->c≠X.env.locals:=λx c e z=>by
 obtain ⟨v,o,ho,hd⟩:=I.cell x c e;obtain ⟨m,⟨o',es,ep,ho',hd',_⟩,_⟩:=I.loc;rw [z,ho'] at ho;cases ho;rw [hd'] at hd;cases hd
theorem Inv.funs (I:Inv X pins σ H s):s.heap.FunFrames X.base X.outer:=by
 have all:∀ (l:List Env),(∀ b∈frs l,b∈X.fs)->X.s₀.heap.FunFrames X.base l->s.heap.FunFrames X.base l:=by
  intro l
  induction l with
  | nil=>intro _ _;trivial
  | cons env r ih =>
   intro hs hl;obtain ⟨hk,⟨L,o,hf,hn,ho,hd⟩,hr⟩:=hl;have hL:L∈X.fs:=hs L (by unfold frs;rw [List.filterMap_cons,hf];exact List.mem_cons_self)
   obtain ⟨sl,e⟩:=I.base.slot L o ho (I.ok.frf L hL) hL λz=>I.ok.exfs L z hL
   exact ⟨hk,⟨L,_,hf,hn,e,hd⟩,ih (λb hb=>hs b (by unfold frs;rw [List.filterMap_cons,hf];exact List.mem_cons_of_mem _ hb)) hr⟩
 exact all X.outer (λ_ hb=>hb) I.ok.funs
theorem Inv.stack (I:Inv X pins σ H s):s.heap.FunFrames X.base X.stack:=by
 rcases I.ok.stk with e | ⟨e,hf⟩
 ·rw [e];exact I.funs
 ·rw [e]
  obtain ⟨m,hn,_⟩:=I.loc;refine .cons (by rw [I.ok.kind];decide) hf hn ?_ I.funs
  exact Heap.get?_none_of_le (Nat.le_trans I.ok.bsz I.ok.above)
theorem Inv.q7m (I:Inv X pins σ H s):∀ b∈frs X.stack,b∈X.env.locals::X.fs:=λb hb=>by
 rcases I.ok.stk with e | ⟨e,hf⟩
 ·rw [e] at hb;exact List.mem_cons_of_mem _ hb
 ·rw [e] at hb
  unfold frs at hb;rw [List.filterMap_cons,hf] at hb;exact hb
theorem Inv.qb8 (I:Inv X pins σ H s):∀ b∈frs X.stack,H b=none:=λb hb=>by
 rcases List.mem_cons.mp (I.q7m b hb) with e | hb
 ·rw [e];exact I.free
 ·obtain ⟨_,o,ho,_⟩:=I.ok.funs.mem hb
  exact I.base.free b o ho (I.ok.frf b hb) λz=>I.ok.exfs b z hb
theorem Inv.step {g':Array GenState} {t':Nat} {d':Drawn} {ch:List Addr} (I:Inv X pins σ H s)
  (hch:∀ b∈ch,(b∈X.ex\/X.s₀.heap.objs.size<=b)/\b≠X.env.locals/\(∀ x c,X.env.cells.lookup x=some c->c≠b)/\∀ p∈X.pn++pins,p.1≠b)
  (keep:∀ b o,b≠X.env.locals->b∉X.fs->b∉ch->s.heap.get? b=some o->H b=none->h'.get? b=some o)
  (slot:∀ b o,b≠X.env.locals->b∈X.fs->b∉ch->s.heap.get? b=some o->H b=none->∃ sl,h'.get? b=some {o with slots:=sl}) (free:∀ b o,b∉ch->s.heap.get? b=some o->H b=none->H' b=none)
  (there:∀ b o,b∉ch->s.heap.get? b=some o->∃ o',h'.get? b=some o')
  (tups:∀ b xs,H b=some (.tup xs)->H' b=some (.tup xs)) (frzs:∀ b o u,H b=some (.frz o u)->H' b=some (.frz o u)) (tbls:∀ b ps,H b=some (.tbl ps)->∃ more,H' b=some (.tbl (ps++more)))
  (ns:∀ m,s.heap.Ns X.env.locals m->h'.Ns X.env.locals m) (hok:HOk X.prog X.w H' h') (hg:AllBare g') :
  Inv X pins σ H' {s with heap:=h',gens:=g',drawn:=d',toks:=t'}:=by
 have neL:∀ b o,X.s₀.heap.get? b=some o->b≠X.env.locals:=λb o e=>Nat.ne_of_lt (Nat.lt_of_lt_of_le (Heap.lt_size e) I.ok.above)
 have neC:∀ b o,X.s₀.heap.get? b=some o->b∉X.ex->b∉ch:=λb o e hx hb=>by
  rcases (hch b hb).1 with z | z
  ·exact hx z
  ·exact absurd (Nat.lt_of_lt_of_le (Heap.lt_size e) z) (Nat.lt_irrefl _)
 have cellK:∀ x c,X.env.cells.lookup x=some c->∀ v,s.heap.IsCell c v->h'.IsCell c v:=λx c e v ⟨o,ho,hd⟩=>by
  have nch:c∉ch:=λz=>(hch c z).2.2.1 x c e rfl
  by_cases hc:c∈X.fs
  ·obtain ⟨sl,q⟩:=slot c o (I.cne x c e) hc nch ho (I.freeC x c e)
   exact ⟨_,q,hd⟩
  ·exact ⟨o,keep c o (I.cne x c e) hc nch ho (I.freeC x c e),hd⟩
 refine ⟨I.ok,I.os,hg,⟨λb o e n hb hx=>?_,λb o e n hb hx=>?_,λb o e n hx=>?_,λb o e hx=>?_,λb xs e=>tups b xs (I.base.tups b xs e),λb o xs e=>frzs b o xs (I.base.frzs b o xs e),λb ps e=>?_⟩,?_,λx c e=>?_,?_,λx c e=>?_,λp hp=>?_,hok,I.len⟩
 ·exact keep b o (neL b o e) hb (neC b o e hx) (I.base.keep b o e n hb hx) (I.base.free b o e n hx)
 ·obtain ⟨sl,e1⟩:=I.base.slot b o e n hb hx
  obtain ⟨sl',e2⟩:=slot b _ (neL b o e) hb (neC b o e hx) e1 (I.base.free b o e n hx);exact ⟨sl',e2⟩
 ·obtain ⟨o',e1⟩:=I.base.there b o e hx
  exact free b o' (neC b o e hx) e1 (I.base.free b o e n hx)
 ·obtain ⟨o',e1⟩:=I.base.there b o e hx
  exact there b o' (neC b o e hx) e1
 ·obtain ⟨m1,e1⟩:=I.base.tbls b ps e
  obtain ⟨m2,e2⟩:=tbls b _ e1;exact ⟨m1++m2,by rw [e2,Array.append_assoc]⟩
 ·obtain ⟨m,hn,hl⟩:=I.loc
  refine ⟨m,ns m hn,λi x v e1 e2 e3=>?_⟩
  obtain ⟨u,r,l⟩:=hl i x v e1 e2 e3;refine ⟨u,r,?_⟩;rcases l with l | ⟨k,c,e,z⟩
  ·exact .inl l
  ·exact .inr ⟨k,c,e,cellK x c e _ z⟩
 ·obtain ⟨v,z⟩:=I.cell x c e
  exact ⟨v,cellK x c e v z⟩
 ·obtain ⟨m,⟨o,_,_,ho,_⟩,_⟩:=I.loc
  exact free _ o (λz=>(hch _ z).2.1 rfl) ho I.free
 ·obtain ⟨v,o,ho,hd⟩:=I.cell x c e
  exact free c o (λz=>(hch c z).2.2.1 x c e rfl) ho (I.freeC x c e)
 ·obtain ⟨e,n,ne,nf,d⟩:=I.pin p hp
  have nch:p.1∉ch:=λz=>(hch p.1 z).2.2.2 p hp rfl
  exact ⟨keep p.1 p.2 ne nf nch e n,free p.1 p.2 nch e n,ne,nf,d⟩
theorem Inv.un {t':Nat} (I:Inv X pins σ H s) (u:Un X.fs [] H H' s.heap h') (hok:HOk X.prog X.w H' h'):Inv X pins σ H' {s with heap:=h',toks:=t'}:=by
 obtain ⟨m,⟨o,es,ep,ho,r⟩,_⟩:=id I.loc;obtain ⟨sl,hL⟩:=u.any ho I.free (by simp)
 exact I.step (g':=s.gens) (d':=s.drawn) (ch:=[]) (λ_ z=>nomatch z) (λb o _ hb _ e n=>u.keep b o e n hb (by simp)) (λb o _ hb _ e n=>u.slot b o e n hb (by simp)) (λb o _ e n=>u.free b o e n (by simp)) (λb o _ e=>u.there b o e (by simp)) u.tups u.frzs u.tbls (λm' hm=>by
  obtain ⟨o',es',ep',ho',r'⟩:=hm;rw [ho] at ho';cases ho';exact ⟨_,es',ep',hL,r'⟩) hok I.bare
theorem Inv.call {g':Array GenState} {t':Nat} {d':Drawn} {ch:List Addr} (I:Inv X pins σ H s) (u:Un (frs X.stack) ch H H' s.heap h') (hok:HOk X.prog X.w H' h') (hg:AllBare g')
  (hch:∀ b∈ch,(b∈X.ex\/X.s₀.heap.objs.size<=b)/\b≠X.env.locals/\(∀ x c,X.env.cells.lookup x=some c->c≠b)/\∀ p∈X.pn++pins,p.1≠b) :
  Inv X pins σ H' {s with heap:=h',gens:=g',drawn:=d',toks:=t'}:=by
 obtain ⟨m,⟨o,es,ep,ho,r⟩,_⟩:=id I.loc;obtain ⟨sl,hL⟩:=u.any ho I.free λz=>(hch _ z).2.1 rfl
 exact I.step (ch:=ch) hch (λb o hL hb hc e n=>u.keep b o e n (λz=>(List.mem_cons.mp (I.q7m b z)).elim hL hb) hc) (λb o _ _ hc e n=>u.any e n hc) (λb o hc e n=>u.free b o e n hc) (λb o hc e=>u.there b o e hc) u.tups u.frzs u.tbls (λm' hm=>by
  obtain ⟨o',es',ep',ho',r'⟩:=hm;rw [ho] at ho';cases ho';exact ⟨_,es',ep',hL,r'⟩) hok hg
theorem Inv.turned {t':Nat} {it:Addr} (I:Inv X pins σ H s) (k:∀ b o,b≠it->s.heap.get? b=some o->h'.get? b=some o) (hn:H it=none) (hL:it≠X.env.locals)
  (h1:it∈X.ex\/X.s₀.heap.objs.size<=it) (h2:∀ x c,X.env.cells.lookup x=some c->c≠it) (h3:∀ p∈X.pn++pins,p.1≠it):Inv X pins σ H {s with heap:=h',toks:=t'}:=by
 have nit:∀ b u,H b=some u->b≠it:=λb u e z=>by rw [z,hn] at e;cases e
 refine I.step (g':=s.gens) (d':=s.drawn) (ch:=[it]) (λb hb=>?_) (λb o _ _ hc e _=>k b o (λz=>hc (by simp [z])) e) (λb o _ _ hc e _=>⟨o.slots,k b o (λz=>hc (by simp [z])) e⟩) (λ_ _ _ _ n=>n)
  (λb o hc e=>⟨o,k b o (λz=>hc (by simp [z])) e⟩) (λ_ _ e=>e) (λ_ _ _ e=>e) (λb ps e=>⟨#[],by rw [e];simp⟩) (λm hm=>?_) (λb u e=>?_) I.bare
 ·have e:b=it:=by simpa using hb
  subst e;exact ⟨h1,hL,h2,h3⟩
 ·obtain ⟨o,es,ep,ho,r⟩:=hm
  exact ⟨o,es,ep,k _ o (Ne.symm hL) ho,r⟩
 ·refine (I.hok b u e).stay (λc v hc q=>k c v ?_ q) (λ_ q=>q) λ_ _ q=>q
  rcases hc with z | z
  ·rw [z];exact nit b u e
  ·exact nit c _ z
theorem Inv.tok (I:Inv X pins σ H s) (t:Nat):Inv X pins σ H {s with toks:=t}:=I.un (h':=s.heap) (t':=t) Un.refl I.hok
theorem Inv.kept {t':Nat} (I:Inv X pins σ H s) (k:∀ b u,s.heap.get? b=some u->h'.get? b=some u):Inv X pins σ H {s with heap:=h',toks:=t'}:=I.un (Un.kept k) (I.hok.kept k)
theorem Inv.laid {a:Addr} {o:HO} {t':Nat} (I:Inv X pins σ H s) (k:∀ b u,s.heap.get? b=some u->h'.get? b=some u) (hp:s.heap.objs.size<=a) (new:xg X.prog X.w (upd H a o) h' a o) :
  Inv X pins σ (upd H a o) {s with heap:=h',toks:=t'}:=I.un (Un.laid k hp (I.hok.fresh hp)) (I.hok.laid k hp new)
theorem Inv.write {x e:Addr} {o:HO} {t':Nat} (I:Inv X pins σ H s) (mu:Mut (H x)) (he:e=x\/H e=some (.own x)) (k:∀ b u,b≠e->s.heap.get? b=some u->h'.get? b=some u) (heo:∃ u,h'.get? e=some u)
  (new:xg X.prog X.w (upd H x o) h' x o):Inv X pins σ (upd H x o) {s with heap:=h',toks:=t'}:=I.un (Un.write mu he k heo) (I.hok.write mu he k heo new)
theorem Inv.weak {σ':List (Option V)} (I:Inv X pins σ H s) (hl:σ'.length=σ.length) (w:∀ (i:Nat) v, σ'[i]?=some (some v)->σ[i]?=some (some v)):Inv X pins σ' H s:=
 ⟨I.ok,I.os,I.bare,I.base,let ⟨m,hn,hl'⟩:=I.loc;⟨m,hn,λi x v e1 e2 e3=>hl' i x v e1 (w i v e2) e3⟩,I.cell,I.free,I.freeC,I.pin,I.hok,hl.trans I.len⟩
theorem Inv.qdc {pins':List (Addr×Obj)} (I:Inv X pins σ H s) (h:∀ p∈pins',s.heap.get? p.1=some p.2/\H p.1=none/\p.1≠X.env.locals/\p.1∉X.fs/\∀ v,p.2.data≠.cell v):Inv X pins' σ H s:=
 ⟨I.ok,I.os,I.bare,I.base,I.loc,I.cell,I.free,I.freeC,λp hp=>(List.mem_append.mp hp).elim (λz=>I.pin p (List.mem_append_left _ z)) (h p),I.hok,I.len⟩
theorem wq {N:List Str} (hN:N.Nodup) {i j:Nat} {x:Str} (a:N[i]?=some x) (b:N[j]?=some x):i=j:=by
 obtain ⟨h1,e1⟩:=List.getElem?_eq_some_iff.mp a;obtain ⟨h2,e2⟩:=List.getElem?_eq_some_iff.mp b;exact (List.getElem_inj hN).mp (e1.trans e2.symm)
theorem wu {M:Model} {A:Around} {E:Value->Shared->Prop} {i:Nat} {x:Str} {v:V} {u:Value} {Q:Unit->Shared->Prop} (I:Inv X pins σ H s) (hN:X.N.Nodup) (hi:X.N[i]?=some x) (hx:Loc X.env.scope x) (r:RelV v u)
  (h:∀ s',Inv X pins (σ.set i (some v)) H s'->(∃ a,Heap.SameBut a s.heap s'.heap/\(a=X.env.locals\/X.env.cells.lookup x=some a))->Q () s') (hf:X.fn x=true\/X.env.scope.names.lookup x=some .local:=by first | exact .inl rfl | exact .inr rfl | assumption):wpAny M A (storeName X.env x u) Q E s:=by
 obtain ⟨m,hn,hl⟩:=id I.loc;have hcls:(X.env.scope.kind == .class || (X.env.scope.kind == .module && X.env.locals != X.env.globals))=false:=by rw [I.ok.kind];rfl
 have hiσ:i<σ.length:=by rw [I.len];exact (List.getElem?_eq_some_iff.mp hi).1
 have cne:=I.cne;have tracked:∀ {a:Addr} {h':Heap},(∃ o,s.heap.get? a=some o/\H a=none)->Heap.SameBut a s.heap h'->HOk X.prog X.w H h':=λ{a h'} ha hs b ob e=>by
  obtain ⟨_,_,hfree⟩:=ha;refine (I.hok b ob e).stay (λc w' hc q=>(hs.2 c ?_).trans q) (λ_ q=>q) λ_ _ q=>q
  rintro rfl;rcases hc with rfl | hc
  ·rw [hfree] at e;cases e
  ·rw [hfree] at hc;cases hc
 rcases hx with hk | hk
 ·refine wpAny_storeName_local hk hn (λh' hn' hs=>?_) hcls
  obtain ⟨oL,_,_,hoL,_⟩:=id hn;refine h _ ⟨I.ok,I.os,I.bare,⟨λb o e n hb hx=>?_,λb o e n hb hx=>?_,I.base.free,λb o e hx=>?_,I.base.tups,I.base.frzs,I.base.tbls⟩,⟨_,hn',λj y v' e1 e2 e3=>?_⟩,λy c e=>?_,I.free,I.freeC,λp hp=>?_,tracked ⟨oL,hoL,I.free⟩ hs,by simpa using I.len⟩ ⟨_,hs, .inl rfl⟩
  ·exact (hs.2 b (Nat.ne_of_lt (Nat.lt_of_lt_of_le (Heap.lt_size e) I.ok.above))).trans (I.base.keep b o e n hb hx)
  ·obtain ⟨sl,e1⟩:=I.base.slot b o e n hb hx
   exact ⟨sl,(hs.2 b (Nat.ne_of_lt (Nat.lt_of_lt_of_le (Heap.lt_size e) I.ok.above))).trans e1⟩
  ·obtain ⟨o',e1⟩:=I.base.there b o e hx
   exact ⟨o',(hs.2 b (Nat.ne_of_lt (Nat.lt_of_lt_of_le (Heap.lt_size e) I.ok.above))).trans e1⟩
  ·by_cases hj:j=i
   ·subst hj
    rw [hi] at e1;cases e1;rw [List.getElem?_set_self hiσ] at e2;cases e2;exact ⟨u,r, .inl ⟨hk,by simp⟩⟩
   ·rw [List.getElem?_set_ne (Ne.symm hj)] at e2
    obtain ⟨u',r',q⟩:=hl j y v' e1 e2 e3;refine ⟨u',r',?_⟩;rcases q with ⟨k,e⟩ | ⟨k,c,e,z⟩
    ·refine .inl ⟨k,?_⟩
     have:y≠x:=λe=>hj (wq hN e1 (e ▸ hi))
     simp [this,e]
    ·exact .inr ⟨k,c,e,z.sameBut hs (cne y c e)⟩
  ·obtain ⟨w',z⟩:=I.cell y c e
   exact ⟨w',z.sameBut hs (cne y c e)⟩
  ·obtain ⟨e,n,ne,nf,d⟩:=I.pin p hp
   exact ⟨(hs.2 p.1 ne).trans e,n,ne,nf,d⟩
 ·have hfn:X.fn x=true:=by
   rcases hf with z | z
   ·exact z
   ·rw [z] at hk;cases hk
  obtain ⟨c,hc⟩:=I.ok.has x (.inl hk);obtain ⟨w',z⟩:=I.cell x c hc;refine wpAny_storeName_cell I.ok.kind hk hc z (λh' hc' hs=>?_)
  obtain ⟨oc,hoc,hocd⟩:=id z;refine h {s with heap:=h'} ⟨I.ok,I.os,I.bare,⟨λb o e n hb hx=>?_,λb o e n hb hx=>?_,I.base.free,λb o e hx=>?_,I.base.tups,I.base.frzs,I.base.tbls⟩,⟨m,hn.sameBut hs (Ne.symm (cne x c hc)),λj y v' e1 e2 e3=>?_⟩,λy c' e=>?_,I.free,I.freeC,λp hp=>?_,tracked ⟨oc,hoc,I.freeC x c hc⟩ hs,by simpa using I.len⟩ ⟨c,hs, .inr hc⟩
  ·exact (hs.2 b (Nat.ne_of_lt (Nat.lt_of_lt_of_le (Heap.lt_size e) (I.ok.cab x c hfn hc)))).trans (I.base.keep b o e n hb hx)
  ·obtain ⟨sl,e1⟩:=I.base.slot b o e n hb hx
   exact ⟨sl,(hs.2 b (Nat.ne_of_lt (Nat.lt_of_lt_of_le (Heap.lt_size e) (I.ok.cab x c hfn hc)))).trans e1⟩
  ·obtain ⟨o',e1⟩:=I.base.there b o e hx
   exact ⟨o',(hs.2 b (Nat.ne_of_lt (Nat.lt_of_lt_of_le (Heap.lt_size e) (I.ok.cab x c hfn hc)))).trans e1⟩
  ·by_cases hj:j=i
   ·subst hj
    rw [hi] at e1;cases e1;rw [List.getElem?_set_self hiσ] at e2;cases e2;exact ⟨u,r, .inr ⟨.inl hk,c,hc,hc'⟩⟩
   ·rw [List.getElem?_set_ne (Ne.symm hj)] at e2
    obtain ⟨u',r',q⟩:=hl j y v' e1 e2 e3;refine ⟨u',r',?_⟩;rcases q with q | ⟨k,c',e,z'⟩
    ·exact .inl q
    ·refine .inr ⟨k,c',e,z'.sameBut hs ?_⟩
     rintro rfl;exact hj (wq hN e1 (I.ok.inj _ _ _ e hc ▸ hi))
  ·by_cases hcc:c'=c
   ·subst hcc;exact ⟨_,hc'⟩
   ·obtain ⟨w2,z2⟩:=I.cell y c' e
    exact ⟨w2,z2.sameBut hs hcc⟩
  ·obtain ⟨e,n,ne,nf,d⟩:=I.pin p hp
   refine ⟨(hs.2 p.1 ?_).trans e,n,ne,nf,d⟩;intro q;rw [q,hoc] at e;have q':oc=p.2:=Option.some.inj e;exact d w' (by rw [<- q'];exact hocd)
theorem qp {M:Model} {A:Around} {E:Value->Shared->Prop} {i:Nat} {x:Str} {v:V} {u:Value} {Q:Unit->Shared->Prop} (I:Inv X pins σ H s) (hN:X.N.Nodup) (hi:X.N[i]?=some x) (hx:Loc X.env.scope x) (r:RelV v u)
  (h:∀ s',Inv X pins (σ.set i (some v)) H s'->Q () s') (hf:X.fn x=true\/X.env.scope.names.lookup x=some .local:=by first | exact .inl rfl | exact .inr rfl | assumption):wpAny M A (storeName X.env x u) Q E s:=
 wu I hN hi hx r (λs' I' _=>h s' I') hf
theorem Inv.qer {s':Shared} {ch:List Addr} (I:Inv X pins σ H s) (ho:s'.os=s.os) (u:Un (frs X.stack) ch H H' s.heap s'.heap) (hok:HOk X.prog X.w H' s'.heap) (hg:AllBare s'.gens)
  (hch:∀ b∈ch,(b∈X.ex\/X.s₀.heap.objs.size<=b)/\b≠X.env.locals/\(∀ x c,X.env.cells.lookup x=some c->c≠b)/\∀ p∈X.pn++pins,p.1≠b):Inv X pins σ H' s':=by
 obtain ⟨h',g',d',t',o'⟩:=s';have e:o'=s.os:=ho;subst e;exact I.call (g':=g') (t':=t') (d':=d') u hok hg hch
end
abbrev XK:=Value->Option Addr->Hp->Prop
abbrev St:=List (Option V)
abbrev VK:=V->Hp->Prop
abbrev TE:=St->Hp->VK->Prop
abbrev TT:=St->Hp->(Bool->Hp->Prop)->Prop
abbrev TA:=St->Hp->(List V->Hp->Prop)->Prop
structure Ends where
 nx:St->Hp->Prop
 rt:VK
 bk:St->Hp->Prop:=λ_ _=>False
 ct:St->Hp->Prop:=λ_ _=>False
abbrev TS:=Ends->St->Hp->Prop
def EP (X:Cx) (pins:List (Addr×Obj)) (σ:St) (Q:VK) (u:Value) (s':Shared):Prop:=∃ v H',Inv X pins σ H' s'/\RelV v u/\Q v H'
def TP (X:Cx) (pins:List (Addr×Obj)) (σ:St) (Q:Bool->Hp->Prop) (b:Bool) (s':Shared):Prop:=∃ H',Inv X pins σ H' s'/\Q b H'
def AP (X:Cx) (pins:List (Addr×Obj)) (σ:St) (Q:List V->Hp->Prop) (us:List Value) (s':Shared):Prop:=∃ vs H',Inv X pins σ H' s'/\Vals vs us/\Q vs H'
def SP (X:Cx) (pins:List (Addr×Obj)) (D:Ends) (f:Flow) (s':Shared):Prop:=
 match f with
 | .next=>∃ σ' H',Inv X pins σ' H' s'/\D.nx σ' H'
 | .brk=>∃ σ' H',Inv X pins σ' H' s'/\D.bk σ' H'
 | .cont=>∃ σ' H',Inv X pins σ' H' s'/\D.ct σ' H'
 | .ret u=>∃ v σ' H',Inv X pins σ' H' s'/\RelV v u/\D.rt v H'
def PE (X:Cx) (e:Expr) (t:TE):Prop:=
 ∀ (pins:List (Addr×Obj)) (s:Shared) (σ:St) (H:Hp) (Q:VK),Inv X pins σ H s->t σ H Q->wpAny (model X.prog X.w) X.A (eval e X.env) (EP X pins σ Q) X.xe s
def PT (X:Cx) (e:Expr) (t:TT):Prop:=
 ∀ (pins:List (Addr×Obj)) (s:Shared) (σ:St) (H:Hp) (Q:Bool->Hp->Prop),Inv X pins σ H s->t σ H Q->wpAny (model X.prog X.w) X.A (isTrue e X.env (eval e X.env)) (TP X pins σ Q) X.xe s
def PW (X:Cx) (e:Expr) (t:TT):Prop:=
 ∀ (whole:Sem Value) (pins:List (Addr×Obj)) (s:Shared) (σ:St) (H:Hp) (Q:Bool->Hp->Prop),Inv X pins σ H s->t σ H Q->wpAny (model X.prog X.w) X.A (isTrue e X.env whole) (TP X pins σ Q) X.xe s
theorem PW.pt {X:Cx} {e:Expr} {t:TT} (h:PW X e t):PT X e t:=h _
def PA (X:Cx) (es:List Expr) (t:TA):Prop:=
 ∀ (pos:Pos) (pins:List (Addr×Obj)) (s:Shared) (σ:St) (H:Hp) (Q:List V->Hp->Prop),Inv X pins σ H s->t σ H Q->wpAny (model X.prog X.w) X.A (spliced (backTo pos (starEach es X.env))) (AP X pins σ Q) X.xe s
def PS (X:Cx) (st:Stmt) (t:TS):Prop:=
 ∀ (pins:List (Addr×Obj)) (s:Shared) (σ:St) (H:Hp) (D:Ends),Inv X pins σ H s->t D σ H->wpAny (model X.prog X.w) X.A (exec st X.env) (SP X pins D) X.xe s
def PSs (X:Cx) (st:List Stmt) (t:TS):Prop:=
 ∀ (pins:List (Addr×Obj)) (s:Shared) (σ:St) (H:Hp) (D:Ends),Inv X pins σ H s->t D σ H->wpAny (model X.prog X.w) X.A (execs st X.env) (SP X pins D) X.xe s
theorem thn {α:Type} {t:Sem α} {Q Q':α->Shared->Prop} {M:Model} {A:Around} {E:Value->Shared->Prop} {s:Shared} (h:wpAny M A t Q E s) (hQ:∀ a s,Q a s->Q' a s):wpAny M A t Q' E s:=wpAny_mono h hQ λ_ _ x=>x
section
variable {X:Cx}
def tVar (i:Nat):TE:=λσ H Q=>∃ v, σ[i]?=some (some v)/\Q v H
def tC (v:V):TE:=λ_ H Q=>Q v H
theorem pe_var {i:Nat} {x:Str} {pos:Pos} (hN:X.N[i]?=some x) (hv:Vis X.env.scope x) (hd:(x == ("__debug__" : Str))=false:=by decide) (hcd:(x == ("__classdict__" : Str))=false:=by decide):PE X (.Name x pos) (tVar i):=by
 intro pins s σ H Q I h;obtain ⟨v,e,h⟩:=h;obtain ⟨m,hn,hl⟩:=I.loc;obtain ⟨u,r,l⟩:=hl i x v hN e hv;have fin:EP X pins σ Q u s:=⟨v,H,I,r,h⟩;rcases l with ⟨hk,hm⟩ | ⟨hk,c,hc,hcell⟩
 ·exact wpAny_Name (wpAny_loadName_local I.ok.kind hk hn hm fin) hd
 ·rcases hk with hk | hk
  ·exact wpAny_Name (wpAny_loadName_cell I.ok.kind hk hc hcell fin) hd
  ·exact wpAny_Name (wpAny_loadName_free I.ok.kind hk hc hcell fin hcd) hd
theorem jc {i j pos}:PE X (.Constant (.int i) j pos) (tC (.int i)):=λ_ _ _ H _ I h=>wpAny_Constant_int ⟨.int i,H,I.tok _,⟨_,rfl⟩,h⟩
theorem xt {b j pos}:PE X (.Constant (.bool b) j pos) (tC (.bl b)):=λ_ _ _ H _ I h=>Constant_bool ⟨.bl b,H,I,rfl,h⟩
theorem pe_non {j pos}:PE X (.Constant .none j pos) (tC .non):=λ_ _ _ H _ I h=>Constant_none ⟨.non,H,I,rfl,h⟩
theorem jh {x j pos}:PE X (.Constant (.str x) j pos) (tC (.str x)):=λ_ _ _ H _ I h=>Calls.Constant_str ⟨.str x,H,I.tok _,⟨_,rfl⟩,h⟩
def Gl (X:Cx) (x:Str):Prop:=X.env.kindOf x=some .globalImplicit
theorem my {E:Value->Shared->Prop} {pins:List (Addr×Obj)} {s:Shared} {σ:St} {H:Hp} {x:Str} {u:Value} {pos:Pos} {Q:Value->Shared->Prop} (I:Inv X pins σ H s) (hg:Gl X x) (hm:X.mg x=some u) (h:Q u s)
  (hd:(x == ("__debug__" : Str))=false:=by decide):wpAny (model X.prog X.w) X.A (eval (.Name x pos) X.env) Q E s:=
 Calls.Name_function_global I.ok.kind hg (Calls.loadGlobal_global (by rw [I.ok.glob];exact I.mod.glob.keeps I.bk) hm h) hd
theorem tw {E:Value->Shared->Prop} {pins:List (Addr×Obj)} {s:Shared} {σ:St} {H:Hp} {x:Str} {u:Value} {pos:Pos} {Q:Value->Shared->Prop} (I:Inv X pins σ H s) (hg:Gl X x) (hm:X.mg x=none) (hv:bootBuiltins x=some u) (h:Q u s)
  (hn:x ≠ "__name__":=by decide) (hd:(x == ("__debug__" : Str))=false:=by decide):wpAny (model X.prog X.w) X.A (eval (.Name x pos) X.env) Q E s:=by
 obtain ⟨mb,h1,h2⟩:=I.mod.blt;exact Calls.Name_function_global I.ok.kind hg (Calls.loadGlobal_builtin (by rw [I.ok.glob];exact I.mod.glob.keeps I.bk) hm (by rw [I.ok.blt];exact h1.keeps I.bk) ((h2 x hn).trans hv) h) hd
theorem uw {x:Str} {v:V} {u:Value} {pos:Pos} (hg:Gl X x) (hm:X.mg x=some u) (r:RelV v u) (hd:(x == ("__debug__" : Str))=false:=by decide):PE X (.Name x pos) (tC v):=
 λ_ _ _ H _ I h=>my I hg hm ⟨v,H,I,r,h⟩ hd
theorem ux {x:Str} {v:V} {u:Value} {pos:Pos} (hg:Gl X x) (hm:X.mg x=none) (hv:bootBuiltins x=some u) (r:RelV v u) (hn:x ≠ "__name__":=by decide) (hd:(x == ("__debug__" : Str))=false:=by decide):PE X (.Name x pos) (tC v):=
 λ_ _ _ H _ I h=>tw I hg hm hv ⟨v,H,I,r,h⟩ hn hd
variable {a b:Expr} {ta tb:TE} {pos:Pos}
def PC (X:Cx) (op:CmpOp) (a b:Expr) (t:TE):Prop:=
 ∀ (pins:List (Addr×Obj)) (s:Shared) (σ:St) (H:Hp) (Q:VK),Inv X pins σ H s->t σ H Q ->
  wpAny (model X.prog X.w) X.A (eval a X.env) (λv s₁=>wpAny (model X.prog X.w) X.A (eval b X.env) (λu s₂=>wpAny (model X.prog X.w) X.A (compareOp op v u) (EP X pins σ Q) X.xe s₂) X.xe s₁) X.xe s
theorem qlv (b:Expr) {op:CmpOp} (h:op≠.In) (h2:op≠.NotIn):behindInMarks op b=false:=by
 have e1:(op == CmpOp.In)=false:=by cases op <;> first | rfl | exact absurd rfl h
 have e2:(op == CmpOp.NotIn)=false:=by cases op <;> first | rfl | exact absurd rfl h2
 cases b <;> simp [behindInMarks,e1,e2]
def tIsN (ta:TE):TE:=λσ H Q=>ta σ H λx H1=>Q (.bl (decide (x=.non))) H1
theorem RelV.qmr {x:V} {v:Value} (r:RelV x v):(v == Value.none)=decide (x=.non):=by
 cases x with
 | non=>cases r;rfl
 | bl _=>cases r;rfl
 | int _=>obtain ⟨t,rfl⟩:=r;rfl
 | str _=>obtain ⟨t,rfl⟩:=r;rfl
 | byt _=>obtain ⟨t,rfl⟩:=r;rfl
 | flt _=>obtain ⟨t,rfl⟩:=r;rfl
 | ref _=>cases r;rfl
 | ty _=>cases r;rfl
theorem qji {j pos'} (ha:PE X a ta):PC X .Is a (.Constant .none j pos') (tIsN ta):=by
 intro pins s σ H Q I h;refine thn (ha pins s σ H _ I h) λv s1 ⟨x,H1,I1,r1,q1⟩=>?_
 exact Constant_none (is_none_gen ⟨.bl _,H1,I1,by rw [r1.qmr];rfl,q1⟩)
def tB (t:TE):TT:=λσ H Q=>t σ H λx H1=>∃ c,x=.bl c/\Q c H1
theorem wx {op:CmpOp} {t:TE} (h:PC X op a b t) (h1:behindInMarks op b=false:=by first | exact qlv _ (by decide) (by decide) | rfl):PT X (.Compare a [op] [b] pos) (tB t):=by
 intro pins s σ H Q I hw;refine wpAny_isTrue_Compare1 (thn (h pins s σ H _ I hw) λv s1 h1=>thn h1 λu s2 h2=>thn h2 λc s3 ⟨x,H1,I1,r1,q1⟩=>?_) h1
 obtain ⟨d,rfl,q⟩:=q1;cases r1;exact wpAny_truthy_bool ⟨H1,I1,q⟩
theorem xy {e:Expr} {t:TE} (h:PE X e t) (he:∀ whole,isTrue e X.env whole=(do let v <- whole;standAt e.pos;holding [v] (truthy v)):=by intro _;rfl):PT X e (tB t):=by
 intro pins s σ H Q I hw;refine isTrue_plain (thn (h pins s σ H _ I hw) λv s1 ⟨x,H1,I1,r1,q1⟩=>?_) (he _)
 obtain ⟨d,rfl,q⟩:=q1;cases r1;exact wpAny_truthy_bool ⟨H1,I1,q⟩
variable {tA tB':TT} {rest:List Expr}
def tAnd (t u:TT):TT:=λσ H Q=>t σ H λc H1=>if c=true then u σ H1 Q else Q false H1
def tOr (t u:TT):TT:=λσ H Q=>t σ H λc H1=>if c=true then Q true H1 else u σ H1 Q
def tNot (t:TT):TT:=λσ H Q=>t σ H λc H1=>Q (!c) H1
theorem p5 (ha:PT X a tA):PW X (.BoolOp .And [a] pos) tA:=by
 intro wh pins s σ H Q I h;refine isTrue_and (thn (ha pins s σ H Q I h) λc s1 e=>?_)
 cases c with
 | true=>exact isTrue_and_nil e
 | false=>exact e
theorem p6 (ha:PT X a tA):PW X (.BoolOp .Or [a] pos) tA:=by
 intro wh pins s σ H Q I h;refine isTrue_or (thn (ha pins s σ H Q I h) λc s1 e=>?_)
 cases c with
 | false=>exact isTrue_or_nil e
 | true=>exact e
theorem o9 (ha:PT X a tA) (hb:PW X (.BoolOp .And (b::rest) pos) tB'):PW X (.BoolOp .And (a::b::rest) pos) (tAnd tA tB'):=by
 intro wh pins s σ H Q I h;refine isTrue_and (thn (ha pins s σ H _ I h) λc s1 ⟨H1,I1,q1⟩=>?_)
 cases c with
 | true=>exact hb wh pins s1 σ H1 Q I1 q1
 | false=>exact ⟨H1,I1,q1⟩
theorem p7 (ha:PT X a tA) (hb:PW X (.BoolOp .Or (b::rest) pos) tB'):PW X (.BoolOp .Or (a::b::rest) pos) (tOr tA tB'):=by
 intro wh pins s σ H Q I h;refine isTrue_or (thn (ha pins s σ H _ I h) λc s1 ⟨H1,I1,q1⟩=>?_)
 cases c with
 | true=>exact ⟨H1,I1,q1⟩
 | false=>exact hb wh pins s1 σ H1 Q I1 q1
theorem uj (ha:PT X a tA):PT X (.UnaryOp .Not a pos) (tNot tA):=by
 intro pins s σ H Q I h;exact isTrue_not (ha pins s σ H (λc H1=>Q (!c) H1) I h)
def tAndV (ta tb:TE):TE:=λσ H Q=>ta σ H λx H1=>∃ c,x=.bl c/\if c=true then tb σ H1 Q else Q (.bl false) H1
def tOrV (ta tb:TE):TE:=λσ H Q=>ta σ H λx H1=>∃ c,x=.bl c/\if c=true then Q (.bl true) H1 else tb σ H1 Q
def tNotV (ta:TE):TE:=λσ H Q=>ta σ H λx H1=>∃ c,x=.bl c/\Q (.bl (!c)) H1
theorem qr {op} {t:TE} (h:PE X a t):PE X (.BoolOp op [a] pos) t:=λpins s σ H Q I hw=>BoolOp_one (h pins s σ H Q I hw)
theorem qt (ha:PE X a ta) (hb:PE X (.BoolOp .And (b::rest) pos) tb):PE X (.BoolOp .And (a::b::rest) pos) (tAndV ta tb):=by
 intro pins s σ H Q I h;refine BoolOp_and (thn (ha pins s σ H _ I h) λv s1 ⟨x,H1,I1,r1,q1⟩=>?_)
 obtain ⟨c,rfl,q1⟩:=q1;cases r1;refine wpAny_truthy_bool ?_;cases c with
 | true=>exact hb pins s1 σ H1 Q I1 q1
 | false=>exact ⟨.bl false,H1,I1,rfl,q1⟩
theorem pe_or (ha:PE X a ta) (hb:PE X (.BoolOp .Or (b::rest) pos) tb):PE X (.BoolOp .Or (a::b::rest) pos) (tOrV ta tb):=by
 intro pins s σ H Q I h;refine BoolOp_or (thn (ha pins s σ H _ I h) λv s1 ⟨x,H1,I1,r1,q1⟩=>?_)
 obtain ⟨c,rfl,q1⟩:=q1;cases r1;refine wpAny_truthy_bool ?_;cases c with
 | false=>exact hb pins s1 σ H1 Q I1 q1
 | true=>exact ⟨.bl true,H1,I1,rfl,q1⟩
theorem pe_not (ha:PE X a ta):PE X (.UnaryOp .Not a pos) (tNotV ta):=by
 intro pins s σ H Q I h;refine UnaryOp_ (thn (ha pins s σ H _ I h) λv s1 ⟨x,H1,I1,r1,q1⟩=>?_)
 obtain ⟨c,rfl,q1⟩:=q1;cases r1;exact not_of (wpAny_truthy_bool ⟨.bl (!c),H1,I1,rfl,q1⟩)
end
def SqL (K:W.Frag) (H:Hp) (a:Addr) (xs:List V):Prop:=
 Rd H a (.lst xs) \/
  ∃ (o:Obj) (its:Array Value) (n:Nat),K.lookup a=some o/\o.cls=.type "list" /\ o.dict=none/\o.data=.seq its n/\its.size<=sizeLine/\Vals xs its.toList
def SqT (K:W.Frag) (H:Hp) (a:Addr) (xs:List V):Prop:=
 Rd H a (.tup xs) \/
  ∃ (o:Obj) (its:Array Value) (n:Nat),K.lookup a=some o/\o.cls=.type "tuple" /\ o.data=.seq its n/\its.size<=sizeLine/\Vals xs its.toList
def absV:Value->Option V
 | .none=>some .non
 | .bool b=>some (.bl b)
 | .int i _=>some (.int i)
 | .str x _=>some (.str x)
 | .bytes b _=>some (.byt b)
 | .float b _=>some (.flt b)
 | .ref a=>some (.ref a)
 | .type n=>some (.ty n)
 | _=>none
theorem RelV.abs {x:V} {u:Value} (r:RelV x u):absV u=some x:=by
 cases x with
 | non=>cases r;rfl
 | bl _=>cases r;rfl
 | int _=>obtain ⟨t,rfl⟩:=r;rfl
 | str _=>obtain ⟨t,rfl⟩:=r;rfl
 | byt _=>obtain ⟨t,rfl⟩:=r;rfl
 | flt _=>obtain ⟨t,rfl⟩:=r;rfl
 | ref _=>cases r;rfl
 | ty _=>cases r;rfl
theorem RelV.inj {x y:V} {u:Value} (r:RelV x u) (q:RelV y u):x=y:=Option.some.inj (r.abs.symm.trans q.abs)
theorem Vals.inj:∀ {xs ys:List V} {us:List Value},Vals xs us->Vals ys us->xs=ys
 | _,_,_, .nil, .nil=>rfl
 | _,_,_, .cons r t, .cons r' t' => by rw [r.inj r',Vals.inj t t']
section
variable {X:Cx} {pins:List (Addr×Obj)} {σ:St} {H:Hp} {s:Shared} {a:Addr} {xs ys:List V}
theorem SqT.of {K:W.Frag} (h:H a=some (.tup xs)):SqT K H a xs:=.inl (.inl h)
theorem Inv.list (I:Inv X pins σ H s) (h:SqL X.K H a xs):∃ its:List Value,Vals xs its/\PlainL s.heap a its.toArray/\xs.length<=sizeLine:=by
 rcases h with h | ⟨o,its,n,hk,hc,hd,hs,hz,r⟩
 ·obtain ⟨z,its,n,r,e⟩:=h.ok I.hok
  exact ⟨its,r,⟨_,n,e,rfl,rfl,rfl⟩,z⟩
 ·refine ⟨its.toList,r,⟨o,n,I.kIn a o hk,hc,hd,by simpa using hs⟩,?_⟩
  have e:=r.length;simp only [Array.length_toList] at e;omega
theorem Inv.tuple (I:Inv X pins σ H s) (h:SqT X.K H a xs):∃ its:List Value,Vals xs its/\IsTup s.heap a its.toArray/\xs.length<=sizeLine:=by
 rcases h with h | ⟨o,its,n,hk,hc,hs,hz,r⟩
 ·obtain ⟨z,its,r,p⟩:=h.ok I.hok
  exact ⟨its,r,p,z⟩
 ·refine ⟨its.toList,r,⟨o,I.kIn a o hk,hc,n,by simpa using hs⟩,?_⟩
  have e:=r.length;simp only [Array.length_toList] at e;omega
theorem Inv.qfa (I:Inv X pins σ H s) (h:SqL X.K H a xs) (h':SqL X.K H a ys):xs=ys:=by
 obtain ⟨its,r,⟨o,n,e,_,_,d⟩,_⟩:=I.list h;obtain ⟨its',r',⟨o',n',e',_,_,d'⟩,_⟩:=I.list h';rw [e] at e';cases e';rw [d] at d'
 injection d' with d1 _
 have:its=its':=by simpa using congrArg Array.toList d1
 subst this;exact r.inj r'
end
abbrev Cx.wish (X:Cx) (E:Value->Shared->Prop):Cx:={X with xe:=E}
abbrev Cx.nox (X:Cx):Cx:=X.wish λ_ _=>False
theorem Cx.Ok.wish {X:Cx} (ok:X.Ok) (E:Value->Shared->Prop):(X.wish E).Ok:=
 ⟨ok.mod,ok.kind,ok.glob,ok.blt,ok.above,ok.inj,ok.has,ok.cab,ok.hd,ok.frames,ok.stk,ok.exf,ok.bs,ok.bsz,ok.noex,ok.exfs,ok.funs,ok.frf⟩
theorem Cx.Ok.q6d {X:Cx} {E:Value->Shared->Prop} (ok:(X.wish E).Ok):X.Ok:=
 ⟨ok.mod,ok.kind,ok.glob,ok.blt,ok.above,ok.inj,ok.has,ok.cab,ok.hd,ok.frames,ok.stk,ok.exf,ok.bs,ok.bsz,ok.noex,ok.exfs,ok.funs,ok.frf⟩
section
variable {X:Cx} {pins:List (Addr×Obj)} {σ:St} {H:Hp} {s:Shared} {E:Value->Shared->Prop}
theorem Inv.wish (I:Inv X pins σ H s) (E:Value->Shared->Prop):Inv (X.wish E) pins σ H s:=⟨I.ok.wish E,I.os,I.bare,I.base,I.loc,I.cell,I.free,I.freeC,I.pin,I.hok,I.len⟩
theorem Inv.q6d (I:Inv (X.wish E) pins σ H s):Inv X pins σ H s:=⟨I.ok.q6d,I.os,I.bare,I.base,I.loc,I.cell,I.free,I.freeC,I.pin,I.hok,I.len⟩
theorem SP.q6d {D:Ends} {f:Flow} {s':Shared} (h:SP (X.wish E) pins D f s'):SP X pins D f s':=by
 cases f with
 | next=>obtain ⟨σ',H',I,q⟩:=h;exact ⟨σ',H',I.q6d,q⟩
 | brk=>obtain ⟨σ',H',I,q⟩:=h;exact ⟨σ',H',I.q6d,q⟩
 | cont=>obtain ⟨σ',H',I,q⟩:=h;exact ⟨σ',H',I.q6d,q⟩
 | ret u=>obtain ⟨v, σ',H',I,r,q⟩:=h;exact ⟨v, σ',H',I.q6d,r,q⟩
theorem PSs.nox {st:List Stmt} {t:TS} (h:PSs X.nox st t):PSs X st t:=λpins s σ H D I hw =>
 wpAny_mono (h pins s σ H D (I.wish _) hw) (λ_ _ q=>q.q6d) λ_ _ z=>False.elim z
end
section
variable {X:Cx} {st:Stmt} {rest:List Stmt} {t u:TS} {e:Expr} {te:TE} {pos:Pos}
def tNext:TS:=λD σ H=>D.nx σ H
def tSeq (t u:TS):TS:=λD σ H=>t {D with nx:=u D} σ H
theorem x8:PSs X [] tNext:=λ_ _ σ H _ I h=>wpAny_execs_nil ⟨σ,H,I,h⟩
theorem j9 (h1:PS X st t) (h2:PSs X rest u):PSs X (st::rest) (tSeq t u):=by
 intro pins s σ H D I h;refine wpAny_execs_cons (thn (h1 pins s σ H {D with nx:=u D} I h) λf s1 q=>?_)
 cases f with
 | next =>
  obtain ⟨σ',H',I',q⟩:=q;exact h2 pins s1 σ' H' D I' q
 | ret v=>exact q
 | brk=>exact q
 | cont=>exact q
theorem jd (h1:PS X st t):PSs X [st] t:=by
 intro pins s σ H D I h;refine wpAny_execs_cons (thn (h1 pins s σ H D I h) λf s1 q=>?_)
 cases f with
 | next=>exact wpAny_execs_nil q
 | ret v=>exact q
 | brk=>exact q
 | cont=>exact q
theorem Inv.quiet {pins:List (Addr×Obj)} {σ:St} {H:Hp} {s:Shared} (I:Inv X pins σ H s):interactive X.env=false:=by simp [interactive,I.ok.kind]
def tDrop (te:TE):TS:=λD σ H=>te σ H λ_ H1=>D.nx σ H1
theorem jo (he:PE X e te) (hs:swapsWith e none pos.line X.env=pure false:=by rfl):PS X (.Expr e pos) (tDrop te):=by
 intro pins s σ H D I h;exact wpAny_Expr_any (thn (he pins s σ H _ I h) λv s1 ⟨x,H1,I1,r1,q1⟩=>⟨σ,H1,I1,q1⟩) I.quiet hs
def tRet (te:TE):TS:=λD σ H=>te σ H D.rt
theorem xi (he:PE X e te):PS X (.Return (some e) pos) (tRet te):=by
 intro pins s σ H D I h;exact wpAny_Return_some (thn (he pins s σ H _ I h) λv s1 ⟨x,H1,I1,r1,q1⟩=>⟨x, σ,H1,I1,r1,q1⟩)
def tIfS (c:TT) (t u:TS):TS:=λD σ H=>c σ H λb H1=>if b=true then t D σ H1 else u D σ H1
theorem yu {c:Expr} {a b:List Stmt} {tc:TT} (hc:PT X c tc) (ha:PSs X a t) (hb:PSs X b u):PS X (.If c a b pos) (tIfS tc t u):=by
 intro pins s σ H D I h;refine wpAny_If (thn (hc pins s σ H _ I h) λd s1 ⟨H1,I1,q1⟩=>?_)
 cases d with
 | true=>exact ha pins s1 σ H1 D I1 q1
 | false=>exact hb pins s1 σ H1 D I1 q1
end
abbrev TG:=V->St->Hp->(St->Hp->Prop)->Prop
abbrev TGs:=List V->St->Hp->(St->Hp->Prop)->Prop
def PG (X:Cx) (target:Expr) (t:TG):Prop:=
 ∀ (pins:List (Addr×Obj)) (s:Shared) (σ:St) (H:Hp) (v:V) (u:Value) (Q:St->Hp->Prop),Inv X pins σ H s->RelV v u->t v σ H Q ->
  wpAny (model X.prog X.w) X.A (assign target X.env u) (λ_ s' => ∃ σ' H',Inv X pins σ' H' s'/\Q σ' H') X.xe s
def PGs (X:Cx) (ts:List Expr) (t:TGs):Prop:=
 ∀ (pins:List (Addr×Obj)) (s:Shared) (σ:St) (H:Hp) (vs:List V) (us:List Value) (Q:St->Hp->Prop),Inv X pins σ H s->Vals vs us->t vs σ H Q ->
  wpAny (model X.prog X.w) X.A (assignInOrder ((assignEach ts X.env).map (·.2)) us) (λ_ s' => ∃ σ' H',Inv X pins σ' H' s'/\Q σ' H') X.xe s
abbrev TSet:=V->V->V->Hp->(Hp->Prop)->Prop
def PSet (X:Cx) (t:TSet):Prop:=
 ∀ (pins:List (Addr×Obj)) (s:Shared) (σ:St) (H:Hp) (o i v:V) (ov iv u:Value) (Q:Hp->Prop),Inv X pins σ H s->RelV o ov->RelV i iv->RelV v u->t o i v H Q ->
  wpAny (model X.prog X.w) X.A (setItem ov iv u) (λ_ s' => ∃ H',Inv X pins σ H' s'/\Q H') X.xe s
section
variable {X:Cx} {pos:Pos}
def ki (i:Nat):TG:=λv σ H Q=>Q (σ.set i (some v)) H
theorem yg {i:Nat} {x:Str} (hN:X.N.Nodup) (hi:X.N[i]?=some x) (hx:Loc X.env.scope x) (hf:X.fn x=true\/X.env.scope.names.lookup x=some .local:=by first | exact .inl rfl | exact .inr rfl | assumption):PG X (.Name x pos) (ki i):=by
 intro pins s σ H v u Q I r h;exact wpAny_assign_Name (qp I hN hi hx r (λs' I' => ⟨_,H,I',h⟩) hf)
def gNil:TGs:=λvs σ H Q=>vs=[]/\Q σ H
def wy (t:TG) (u:TGs):TGs:=λvs σ H Q=>∃ v r,vs=v::r/\t v σ H λσ' H' => u r σ' H' Q
theorem kj:PGs X [] gNil:=by
 intro pins s σ H vs us Q I r h;obtain ⟨e,h⟩:=h;subst e;cases r;exact assignInOrder_nil ⟨σ,H,I,h⟩
theorem vf {e:Expr} {es:List Expr} {t:TG} {u:TGs} (h1:PG X e t) (h2:PGs X es u)
  (hs:(assignEach (e::es) X.env).map (·.2)=assign e X.env::(assignEach es X.env).map (·.2):=by rfl):PGs X (e::es) (wy t u):=by
 intro pins s σ H vs us Q I r h;obtain ⟨v,vr,e1,h⟩:=h;subst e1;cases r with
 | cons r rr =>
  rw [hs];refine assignInOrder_cons (thn (h1 pins s σ H _ _ _ I r h) λ_ s1 ⟨σ1,H1,I1,q1⟩=>?_)
  exact h2 pins s1 σ1 H1 _ _ Q I1 rr q1
def gTup (K:W.Frag) (n:Nat) (t:TGs):TG:=λv σ H Q=>∃ a xs,v=.ref a/\SqT K H a xs/\xs.length=n/\t xs σ H Q
theorem wz {es:List Expr} {k:Nat} {t:TGs} {n:Nat} (hc:X.calm=true) (h:PGs X es t)
  (hn:(assignEach es X.env).length=n:=by rfl) (hst:(assignEach es X.env).findIdx? (·.1)=none:=by rfl):PG X (.Tuple es k pos) (gTup X.K n t):=by
 intro pins s σ H v u Q I r hw;obtain ⟨a,xs,e1,hq,hl,hw⟩:=hw;subst e1;cases r;obtain ⟨its,rv,ht,hz⟩:=I.tuple hq;refine assign_Tuple_tuple (I.ok.hd hc) ht (by simp [hn, <- hl,rv.length]) hst λh' hx=>?_
 have I1:Inv X pins σ H {s with heap:=h'}:=I.kept (t':=s.toks) λb o e=>hx b o (Nat.ne_of_lt (Heap.lt_size e)) e
 exact h pins _ σ H xs _ Q I1 (by simpa using rv) hw
def gSub (to ti:TE) (t:TSet):TG:=λv σ H Q=>to σ H λo H1=>ti σ H1 λi H2=>t o i v H2 λH3=>Q σ H3
theorem d6 {o i:Expr} {to ti:TE} {t:TSet} (ho:PE X o to) (hi:PE X i ti) (hs:PSet X t)
  (ha:∀ v,assign (.Subscript o i pos) X.env v=(do
   let ov <- holding [v] (eval o X.env)
   let iv <- holding [v,ov] (eval i X.env)
   standAt pos
   holding [v,ov,iv] (setItem ov iv v)
   release [v,ov,iv] []):=by intro _;rfl):PG X (.Subscript o i pos) (gSub to ti t):=by
 intro pins s σ H v u Q I r h;rw [ha];refine wpAny_bind (wpAny_holding (thn (ho pins s σ H _ I h) λov s1 ⟨x,H1,I1,r1,q1⟩=>?_))
 refine wpAny_bind (wpAny_holding (thn (hi pins s1 σ H1 _ I1 q1) λiv s2 ⟨y,H2,I2,r2,q2⟩=>?_))
 refine wpAny_bind (wpAny_standAt (wpAny_bind (wpAny_holding (thn (hs pins s2 σ H2 x y v ov iv u _ I2 r1 r2 r q2) λ_ s3 ⟨H3,I3,q3⟩=>?_))))
 exact wpAny_release ⟨σ,H3,I3,q3⟩
def tAsg (te:TE) (g:TG):TS:=λD σ H=>te σ H λx H1=>g x σ H1 D.nx
theorem d7 {tg e:Expr} {te:TE} {g:TG} (he:PE X e te) (hg:PG X tg g) (hs:swapsWithSole [tg] e pos.line X.env=pure false:=by rfl) (hw:swappedStores [tg] e X.env=pure none:=by rfl)
  (h1:(assignEach [tg] X.env).map (·.2)=[assign tg X.env]:=by rfl):PS X (.Assign [tg] e pos) (tAsg te g):=by
 intro pins s σ H D I h;refine wpAny_Assign_stores (thn (he pins s σ H _ I h) λv s1 ⟨x,H1,I1,r1,q1⟩=>?_) hs hw
 rw [h1];exact thn (hg pins s1 σ H1 x v _ I1 r1 q1) λ_ s2 q=>q
theorem jy {i:Nat} {x:Str} {e:Expr} {te:TE} {pos':Pos} (hN:X.N.Nodup) (hi:X.N[i]?=some x) (hx:Loc X.env.scope x) (he:PE X e te) (hs:swapsWith e (some (.Name x pos')) pos.line X.env=pure false:=by rfl) (hf:X.fn x=true\/X.env.scope.names.lookup x=some .local:=by first | exact .inl rfl | exact .inr rfl | assumption) :
  PS X (.Assign [.Name x pos'] e pos) (tAsg te (ki i)):=by
 intro pins s σ H D I h;refine wpAny_Assign_Name (thn (he pins s σ H _ I h) λv s1 ⟨y,H1,I1,r1,q1⟩=>?_) hs
 exact qp I1 hN hi hx r1 (λs2 I2=>⟨_,H1,I2,q1⟩) hf
def tPar (i j:Nat) (ta:TA):TS:=λD σ H=>ta σ H λvs H1=>∃ v w,vs=[v,w]/\D.nx ((σ.set i (some v)).set j (some w)) H1
theorem qk7 {i j:Nat} {x y:Str} {a b:Expr} {ta:TA} {px py pt:Pos} {kt k2 pt2} (hc:X.calm=true) (hN:X.N.Nodup) (hi:X.N[i]?=some x) (hj:X.N[j]?=some y) (hij:i≠j)
  (hx:X.env.scope.names.lookup x=some .local) (hy:X.env.scope.names.lookup y=some .local) (ha:PA X [a,b] ta)
  (hw:swappedStores [.Tuple [.Name x px, .Name y py] kt pt] (.Tuple [a,b] k2 pt2) X.env=pure (some [x,y]))
  (hs:swapsWithSole [.Tuple [.Name x px, .Name y py] kt pt] (.Tuple [a,b] k2 pt2) pos.line X.env=pure false:=by rfl) :
  PS X (.Assign [.Tuple [.Name x px, .Name y py] kt pt] (.Tuple [a,b] k2 pt2) pos) (tPar i j ta):=by
 intro pins s σ H D I h;rw [exec_Assign_arm];refine wpAny_bind (wpAny_standAt ?_);rw [hs];refine wpAny_bind (wpAny_pure ?_);rw [if_neg (by decide)]
 refine wpAny_bind (Tuple_ (thn (ha _ pins s σ H _ I h) λus s1 ⟨vs,H1,I1,r1,q1⟩=>?_))
 obtain ⟨v,w,e1,q1⟩:=q1;subst e1;obtain ⟨u1,u2,rfl,rv,rw'⟩:∃ u1 u2,us=[u1,u2]/\RelV v u1/\RelV w u2:=by
  cases r1 with
  | cons p q =>
   cases q with
   | cons p' q' =>
    cases q';exact ⟨_,_,rfl,p,p'⟩
 refine wpAny_newObj_type ?_ (by show 2<=sizeLine;decide)
 have I2:Inv X pins σ H1 {s1 with heap:=s1.heap.push {cls:=.type "tuple",data:=.seq [u1,u2].toArray}}:=I1.kept (t':=s1.toks) λb o e=>Heap.get?_push_of_some _ e
 rw [hw];refine wpAny_bind (wpAny_pure ?_);show wpAny (model X.prog X.w) X.A (do rule "assign.swapped-stores";let items <- unpackItems (.ref s1.heap.objs.size) 2 none;assignInOrder [λv=>bindName X.env y v,λv=>bindName X.env x v] items.reverse;pure Flow.next) _ _ _
 refine wpAny_bind (wpAny_rule (wpAny_bind (unpackItems_tuple (items:=#[u1,u2]) (I.ok.hd hc) (IsTup.new s1.heap _) λh' hx' => ?_)))
 have I3:=I2.kept (h':=h') (t':=s1.toks) λb o e=>hx' b o (Nat.ne_of_lt (Heap.lt_size e)) e
 show wpAny _ _ (assignInOrder [λv=>bindName X.env y v,λv=>bindName X.env x v] [u2,u1] >>= λ_=>pure Flow.next) _ _ _
 refine wpAny_bind (assignInOrder_cons (wpAny_bindName (qp I3 hN hj (.inl hy) rw' (λs2 I4=>?_) (.inr hy))))
 refine assignInOrder_cons (wpAny_bindName (qp I4 hN hi (.inl hx) rv (λs3 I5=>assignInOrder_nil (wpAny_pure ?_)) (.inr hx)))
 rw [List.set_comm _ _ (Ne.symm hij)] at I5;exact ⟨_,H1,I5,q1⟩
end
structure It where
 go:Nat->Hp->Prop
 yld:Nat->Hp->V->Hp->Prop
 stop:Nat->Hp->Prop
def FpOk (X:Cx) (pins:List (Addr×Obj)) (H:Hp) (b:Addr):Prop:=
 H b=none/\b≠X.env.locals/\b∉X.fs/\(b∈X.ex\/X.s₀.heap.objs.size<=b)/\(∀ x c,X.env.cells.lookup x=some c->c≠b)/\∀ p∈X.pn++pins,p.1≠b
theorem Inv.fpOk {X:Cx} {pins:List (Addr×Obj)} {σ:St} {H H':Hp} {s:Shared} {b:Addr} (I:Inv X pins σ H s) (hb:s.heap.objs.size<=b) (hn:H' b=none):FpOk X pins H' b:=by
 refine ⟨hn,Nat.ne_of_gt (Nat.lt_of_lt_of_le I.lt hb),I.nofs hb, .inr (Nat.le_trans I.sz hb),λx c e z=>?_,λp hp z=>?_⟩
 ·obtain ⟨v,q⟩:=I.cell x c e
  exact absurd (Nat.lt_of_lt_of_le q.lt (by rw [z];exact hb)) (Nat.lt_irrefl _)
 ·exact absurd (Nat.lt_of_lt_of_le (Heap.lt_size (I.pin p hp).1) (by rw [z];exact hb)) (Nat.lt_irrefl _)
structure Turn (P:Program) (w:World) (K:W.Frag) (tg:Expr) (J:It) (fp:List Addr) (it:Addr) (tn:Nat->Heap->Prop):Prop where
 mem:it∈fp
 obj:∀ i h,tn i h->∀ b∈fp, ∃ o,h.get? b=some o/\∀ v,o.data≠.cell v
 keep:∀ i h h',tn i h->(∀ b∈fp, ∀ o,h.get? b=some o->h'.get? b=some o)->tn i h'
 item:∀ (X:Cx),X.prog=P->X.w=w->X.K=K->X.calm=true->∀ (i:Nat) (pins:List (Addr×Obj)) (s:Shared) (σ:St) (H:Hp) (E:Value->Shared->Prop),Inv X pins σ H s->(∀ b∈fp,FpOk X pins H b)->tn i s.heap->J.go i H ->
  wpAny (model P w) X.A (pyNext (.ref it)) (λr s1=>∃ u,r=some u /\
   wpAny (model P w) X.A (letOwnedTupleGo tg (.ref it) u) (λ_ s2=>∃ x H',Inv X pins σ H' s2/\RelV x u/\J.yld i H x H'/\tn (i+1) s2.heap/\∀ b∈fp,H' b=none) E s1) E s
 done:∀ (X:Cx),X.prog=P->X.w=w->X.K=K->X.calm=true->∀ (i:Nat) (pins:List (Addr×Obj)) (s:Shared) (σ:St) (H:Hp) (E:Value->Shared->Prop),Inv X pins σ H s->(∀ b∈fp,FpOk X pins H b)->tn i s.heap->J.stop i H ->
  wpAny (model P w) X.A (pyNext (.ref it)) (λr s1=>r=none/\Inv X pins σ H s1) E s
 self:∀ (A:Around) (i:Nat) (s:Shared) (Q:Value->Shared->Prop) (E:Value->Shared->Prop),tn i s.heap->Q (.ref it) s->wpAny (model P w) A (pyIter (.ref it)) Q E s
abbrev TI:=St->Hp->(It->Hp->Prop)->Prop
def PIE (X:Cx) (pins:List (Addr×Obj)) (σ:St) (tg:Expr) (R:It->Hp->Prop) (itv:Value) (s2:Shared):Prop:=
 ∃ (it:Addr) (fp:List Addr) (tn:Nat->Heap->Prop) (J:It) (H':Hp),itv=.ref it/\Inv X pins σ H' s2/\Turn X.prog X.w X.K tg J fp it tn/\tn 0 s2.heap/\(∀ b∈fp,FpOk X pins H' b)/\R J H'
def PI (X:Cx) (tg iter:Expr) (wi:TI):Prop:=
 ∀ (pins:List (Addr×Obj)) (s:Shared) (σ:St) (H:Hp) (R:It->Hp->Prop),Inv X pins σ H s->wi σ H R ->
  wpAny (model X.prog X.w) X.A (eval iter X.env) (λv s1=>wpAny (model X.prog X.w) X.A (pyIter v) (PIE X pins σ tg R) X.xe s1) X.xe s
theorem i3 {M:Model} {A:Around} {E:Value->Shared->Prop} {s:Shared} {tg:Expr} {it:Addr} {u:Value} {o:Obj} {n:String} {vs:Array Value} {Q:Unit->Shared->Prop} (ho:s.heap.get? it=some o) (hc:o.cls=.type n) (hd:o.data=.fields vs)
  (hn:["enumerate", "zip", "dict_itemiterator", "dict_reverseitemiterator", "odict_iterator", "itertools.zip_longest", "itertools.pairwise"].contains n=false) (hQ:Q () s):wpAny M A (letOwnedTupleGo tg (.ref it) u) Q E s:=by
 unfold letOwnedTupleGo;cases tg <;> first
  | exact wpAny_pure hQ
  | (cases u <;> first
    | exact wpAny_pure hQ
    | (refine wpAny_bind (wpAny_load ho ?_)
       rw [hc,hd];show wpAny M A (if (["enumerate", "zip", "dict_itemiterator", "dict_reverseitemiterator", "odict_iterator", "itertools.zip_longest", "itertools.pairwise"].contains n && vs[0]? == some (rawInt _))=true then _ else _) Q E s
       rw [if_neg (by intro h;rw [hn,Bool.false_and] at h;cases h)]
       exact wpAny_pure hQ))
def Itl (K:W.Frag) (a:Addr):It:=
 ⟨λi H=>∃ xs x,SqL K H a xs/\xs[i]?=some x,λi H x H' => H'=H/\∀ xs,SqL K H a xs->xs[i]?=some x,λi H=>∃ xs,SqL K H a xs/\xs.length<=i⟩
def Itr (lo:Int) (n:Nat):It:=⟨λi _=>i<n,λi H x H' => H'=H/\x=.int (lo+i),λi _=>n<=i⟩
theorem qkr {P:Program} {w:World} {K:W.Frag} {tg:Expr} (a it:Addr):Turn P w K tg (Itl K a) [it] it (λi h=>h.IsListIter it a i) where
 mem:=by simp
 obj:=λi h st b hb=>by
  have e:b=it:=by simpa using hb
  subst e;obtain ⟨o,e,c,d⟩:=st;exact ⟨o,e,λv z=>by rw [d] at z;cases z⟩
 keep:=λi h h' st k=>st.at λo e=>k it (by simp) o e
 item:=by
  intro X hP hw hK hc i pins s σ H E I hf st hg;subst hP hw hK;obtain ⟨xs,x,hq,hx⟩:=hg;obtain ⟨its,rv,p,hz⟩:=I.list hq;obtain ⟨u,hu,ru⟩:=rv.get hx;obtain ⟨f0,f1,f2,f3,f4,f5⟩:=hf it (by simp)
  refine wpAny_pyNext_list_item st p.isList (x:=u) (by simpa using hu) λh' st' sb=>?_
  have I1:Inv X pins σ H {s with heap:=h'}:=I.turned (t':=s.toks) (λb o hb e=>(sb.2 b hb).trans e) f0 f1 f3 f4 f5
  obtain ⟨o,e,c,d⟩:=id st';exact ⟨u,rfl,i3 (s:={s with heap:=h'}) e c d (by decide) ⟨x,H,I1,ru,⟨rfl,λys hy=>by rw [I.qfa hy hq];exact hx⟩,st',λb hb=>(hf b hb).1⟩⟩
 done:=by
  intro X hP hw hK hc i pins s σ H E I hf st hg;subst hP hw hK;obtain ⟨xs,hq,hx⟩:=hg;obtain ⟨its,rv,p,hz⟩:=I.list hq;obtain ⟨f0,f1,f2,f3,f4,f5⟩:=hf it (by simp)
  have hl:=rv.length;exact wpAny_pyNext_list_end (I.ok.hd hc) st p.isList (by simp;omega) λh' eb=>⟨rfl,I.turned (t':=s.toks) (λb o hb e=>eb b o hb e) f0 f1 f3 f4 f5⟩
 self:=λ_ _ _ _ _ st h=>wpAny_pyIter_listiter st h
theorem qi4 {P:Program} {w:World} {K:PySem.W.Frag} {tg:Expr} (it:Addr) (lo:Int) (n:Nat):Turn P w K tg (Itr lo n) [it] it (λi h=>IsRangeIter h it (lo+(i:Nat) * 1) ((n:Int) - (i:Nat)) 1) where
 mem:=by simp
 obj:=λi h st b hb=>by
  have e:b=it:=by simpa using hb
  subst e;exact ⟨_,st,λv z=>by
   have z':Data.fields _=Data.cell v:=z;cases z'⟩
 keep:=λi h h' st k=>k it (by simp) _ st
 item:=by
  intro X hP hw hK hc i pins s σ H E I hf st hg;subst hP hw hK;obtain ⟨f0,f1,f2,f3,f4,f5⟩:=hf it (by simp)
  have W:=Walks.range (prog:=X.prog) (w:=X.w) (I.ok.hd hc) it lo 1 n;refine W.item i s _ _ hg st λv h' tk hv st' kk=>?_
  obtain ⟨t,rfl⟩:=hv;have I1:Inv X pins σ H {s with heap:=h',toks:=tk}:=I.turned (λb o hb e=>kk b o (by simpa using hb) e) f0 f1 f3 f4 f5
  refine ⟨_,rfl,i3 (s:={s with heap:=h',toks:=tk}) (n:="range_iterator") st' rfl rfl (by decide) ⟨.int (lo+i),H,I1,⟨t,?_⟩,⟨rfl,rfl⟩,st',λb hb=>(hf b hb).1⟩⟩
  rw [Int.mul_one]
 done:=by
  intro X hP hw hK hc i pins s σ H E I hf st hg;subst hP hw hK;obtain ⟨f0,f1,f2,f3,f4,f5⟩:=hf it (by simp)
  exact wpAny_pyNext_range_end (I.ok.hd hc) st (by have:n<=i:=hg;omega) λh' eb=>⟨rfl,I.turned (t':=s.toks) (λb o hb e=>eb b o hb e) f0 f1 f3 f4 f5⟩
 self:=λ_ _ _ _ _ st h=>wpAny_pyIter_rangeiter st h
section
variable {X:Cx} {tg:Expr}
def iList (K:W.Frag) (tl:TE):TI:=λσ H R=>tl σ H λx H1=>∃ a,x=.ref a/\(∃ xs,SqL K H1 a xs)/\R (Itl K a) H1
theorem vg {l:Expr} {tl:TE} (hl:PE X l tl):PI X tg l (iList X.K tl):=by
 intro pins s σ H R I h;refine thn (hl pins s σ H _ I h) λv s1 ⟨x,H1,I1,r1,q1⟩=>?_
 obtain ⟨a,e,⟨xs,hq⟩,q⟩:=q1;subst e;cases r1;obtain ⟨its,rv,p,hz⟩:=I1.list hq;refine wpAny_pyIter_list p.isList ?_;refine ⟨s1.heap.objs.size,[s1.heap.objs.size],_,_,H1,rfl,I1.kept (t':=s1.toks) λb o e=>Heap.get?_push_of_some _ e,qkr a _,⟨_,Heap.get?_push_size _ rfl,rfl,rfl⟩,λb hb=>?_,q⟩
 have e:b=s1.heap.objs.size:=by simpa using hb
 subst e;exact I1.fpOk (Nat.le_refl _) (I1.hok.fresh (Nat.le_refl _))
theorem qg5 {pins:List (Addr×Obj)} {σ:St} {H:Hp} {s:Shared} {R:It->Hp->Prop} {E:Value->Shared->Prop} {lo hi:Int} {t u v:Tok} {tk:Nat} (I:Inv X pins σ H s) (h1:-(2 ^ 62)<=lo) (h2:lo<2 ^ 62) (h3:-(2 ^ 62)<=hi) (h4:hi<2 ^ 62)
  (q:R (Itr lo (hi - lo).toNat) H):wpAny (model X.prog X.w) X.A (pyIter (.ref s.heap.objs.size)) (PIE X pins σ tg R) E {s with heap:=s.heap.push {cls:=.type "range",data:=.fields #[.int lo t, .int hi u, .int 1 v]},toks:=tk}:=by
 refine wpAny_pyIter_range (IsRange.new ..) (small_one h1 h2 h3 h4) ?_;have I1:Inv X pins σ H {s with heap:=s.heap.push {cls:=.type "range",data:=.fields #[.int lo t, .int hi u, .int 1 v]},toks:=tk}:=I.kept λb o e=>Heap.get?_push_of_some _ e
 refine ⟨(s.heap.push {cls:=.type "range",data:=.fields #[.int lo t, .int hi u, .int 1 v]}).objs.size,[(s.heap.push {cls:=.type "range",data:=.fields #[.int lo t, .int hi u, .int 1 v]}).objs.size],_,_,H,rfl,
  I1.kept (t':=tk) λb o e=>Heap.get?_push_of_some _ e,qi4 _ lo (hi - lo).toNat,?_,λb hb=>?_,q⟩
 ·have e1:lo+((0:Nat):Int) * 1=lo:=by simp
  have e2:(((hi - lo).toNat:Nat):Int) - ((0:Nat):Int)=Builtin.Range.rangeSize lo hi 1:=by rw [rangeSize_one];split <;> omega
  show IsRangeIter _ _ (lo+((0:Nat):Int) * 1) ((((hi - lo).toNat:Nat):Int) - ((0:Nat):Int)) 1;rw [e1,e2];exact Heap.get?_push_size _ rfl
 ·have e:b=(s.heap.push {cls:=.type "range",data:=.fields #[.int lo t, .int hi u, .int 1 v]}).objs.size:=by simpa using hb
  subst e;exact I1.fpOk (Nat.le_refl _) (I1.hok.fresh (Nat.le_refl _))
def iRng1 (ta:TA):TI:=λσ H R=>ta σ H λvs H1=>∃ j:Int,vs=[.int j]/\-(2 ^ 62)<=j/\j<2 ^ 62/\R (Itr 0 j.toNat) H1
def iRng2 (ta:TA):TI:=λσ H R=>ta σ H λvs H1=>∃ i j:Int,vs=[.int i, .int j]/\(-(2 ^ 62)<=i/\i<2 ^ 62/\-(2 ^ 62)<=j/\j<2 ^ 62)/\R (Itr i (j - i).toNat) H1
theorem km {a:Expr} {ta:TA} {p pos:Pos} (hg:Gl X "range") (hm:X.mg "range" = none) (ha:PA X [a] ta) (hs:starEach [a] X.env=[(false,eval a X.env)]:=by rfl):PI X tg (.Call (.Name "range" p) [a] [] pos) (iRng1 ta):=by
 intro pins s σ H R I h;refine Call_ (tw I hg hm boot_range (PyProof.Rows.callWith_type1 (thn (ha pos pins s σ H _ I h) λus s1 ⟨vs,H1,I1,r1,q1⟩=>?_) hs rfl))
 obtain ⟨j,e,q1,q2,q⟩:=q1;subst e;cases r1 with
 | cons r rr =>
  cases rr;obtain ⟨t,rfl⟩:=r;exact call_range_1 (qg5 I1 (by omega) (by omega) q1 q2 (by simpa using q))
theorem qj5 {a b:Expr} {ta:TA} {p pos:Pos} (hg:Gl X "range") (hm:X.mg "range" = none) (ha:PA X [a,b] ta) (hs:starEach [a,b] X.env=[(false,eval a X.env),(false,eval b X.env)]:=by rfl) (hs2:starEach [b] X.env=[(false,eval b X.env)]:=by rfl) :
  PI X tg (.Call (.Name "range" p) [a,b] [] pos) (iRng2 ta):=by
 intro pins s σ H R I h;refine Call_ (tw I hg hm boot_range (PyProof.Rows.callWith_type1 (thn (ha pos pins s σ H _ I h) λus s1 ⟨vs,H1,I1,r1,q1⟩=>?_) (by rw [hs,hs2]) (by rw [hs2];rfl)))
 obtain ⟨i,j,e,⟨q1,q2,q3,q4⟩,q⟩:=q1;subst e;cases r1 with
 | cons r rr =>
  cases rr with
  | cons r' rr =>
   cases rr;obtain ⟨t,rfl⟩:=r;obtain ⟨t',rfl⟩:=r';exact call_range_2 (qg5 I1 q1 q2 q3 q4 q)
def tFor (wi:TI) (g:TG) (tb:TS):TS:=λD σ H=>wi σ H λJ H1=>∃ W:Nat->Nat->St->Hp->Prop,(∃ m,W 0 m σ H1)/\∀ i m σ H,W i m σ H ->
 (J.stop i H/\D.nx σ H)\/(J.go i H/\∃ N:St->Hp->Prop,(∀ σ' H',N σ' H'->∃ m',m' < m/\W (i+1) m' σ' H')/\∀ x H',J.yld i H x H'->g x σ H' λσ2 H2=>tb {D with nx:=N,ct:=N,bk:=D.nx} σ2 H2)
def mz (fp:List Addr) (h:Heap):List (Addr×Obj):=fp.filterMap λb=>(h.get? b).map λo=>(b,o)
theorem n6 {fp:List Addr} {h:Heap} {b:Addr} {o:Obj} (hb:b∈fp) (e:h.get? b=some o):(b,o)∈mz fp h:=List.mem_filterMap.mpr ⟨b,hb,by rw [e];rfl⟩
theorem qjc {fp:List Addr} {h:Heap} {p:Addr×Obj} (hp:p∈mz fp h):p.1∈fp/\h.get? p.1=some p.2:=by
 obtain ⟨b,hb,e⟩:=List.mem_filterMap.mp hp;cases q:h.get? b with
 | none=>rw [q] at e;cases e
 | some o =>
  rw [q] at e;have e':(b,o)=p:=Option.some.inj e;subst e';exact ⟨hb,q⟩
theorem Inv.pinned {pins:List (Addr×Obj)} {σ:St} {H:Hp} {s:Shared} {fp:List Addr} (I:Inv X pins σ H s) (hf:∀ b∈fp,FpOk X pins H b) (ho:∀ b∈fp, ∃ o,s.heap.get? b=some o/\∀ v,o.data≠.cell v):Inv X (pins++mz fp s.heap) σ H s:=
 I.qdc λp hp=>(List.mem_append.mp hp).elim (λz=>I.pin p (List.mem_append_right _ z)) λz=>by
  obtain ⟨hb,e⟩:=qjc z;obtain ⟨f0,f1,f2,_⟩:=hf p.1 hb;obtain ⟨o,e',d⟩:=ho p.1 hb;rw [e] at e';cases e';exact ⟨e,f0,f1,f2,d⟩
theorem Inv.q7z {pins pl:List (Addr×Obj)} {σ:St} {H:Hp} {s:Shared} (I:Inv X (pins++pl) σ H s):Inv X pins σ H s:=I.qdc λp hp=>I.pin p (List.mem_append_right _ (List.mem_append_left _ hp))
theorem ub {iter:Expr} {body:List Stmt} {wi:TI} {g:TG} {tb:TS} {pos:Pos} (hp:PassesOwn (model X.prog X.w) X.A X.env X.xe) (hc:X.calm=true) (hi:PI X tg iter wi) (hg:PG X tg g) (hb:PSs X body tb)
  (hs:∀ x,foldedSetIterable iter X.env x=pure x:=by intro _;rfl):PS X (.For tg iter body [] pos) (tFor wi g tb):=by
 intro pins s σ H D I h;refine wpAny_For (thn (hi pins s σ H _ I h) λv s1 h1=>thn h1 λitv s2 h2=>?_) hs
 obtain ⟨it,fp,tn,J,H2,e,I2,T,st2,f2,W,⟨m0,w0⟩,turn⟩:=h2;subst e;have stat:∀ {H':Hp},(∀ b∈fp,H' b=none)->∀ b∈fp,FpOk X pins H' b:=λhn b hb=>⟨hn b hb,(f2 b hb).2⟩
 refine codeAny_forLoop_any (λn s' => ∃ i σ' H',Inv X pins σ' H' s'/\tn i s'.heap/\(∀ b∈fp,H' b=none)/\W i n σ' H') ?_ m0 ⟨0, σ,H2,I2,st2,λb hb=>(f2 b hb).1,w0⟩
 rintro n s3 ⟨i, σ3,H3,I3,st3,fr3,w3⟩;rcases turn i n σ3 H3 w3 with ⟨stop,qn⟩ | ⟨go,N,hN,step⟩
 ·refine wpAny_passesOwn hp (thn (T.done X rfl rfl rfl hc i pins s3 σ3 H3 X.xe I3 (stat fr3) st3 stop) λr s4 ⟨hr,I4⟩=>?_)
  subst hr;exact wpAny_execs_nil ⟨σ3,H3,I4,qn⟩
 ·refine wpAny_passesOwn hp (thn (T.item X rfl rfl rfl hc i pins s3 σ3 H3 X.xe I3 (stat fr3) st3 go) λr s4 ⟨u,hr,h4⟩=>?_)
  subst hr;refine wpAny_passesOwn hp (thn h4 λ_ s5 ⟨x,H5,I5,r5,y5,st5,fr5⟩=>?_)
  have I5':=I5.pinned (stat fr5) (T.obj _ _ st5);refine wpAny_passesOwn hp (thn (hg _ s5 σ3 H5 x u _ I5' r5 (step x H5 y5)) λ_ s6 ⟨σ6,H6,I6,q6⟩=>?_)
  refine wpAny_passesOwn hp (thn (hb _ s6 σ6 H6 _ I6 q6) λf s7 q7=>?_)
  have again:∀ {σ7:St} {H7:Hp},Inv X (pins++mz fp s5.heap) σ7 H7 s7->N σ7 H7->∃ m,m<n/\∃ i σ' H',Inv X pins σ' H' s7/\tn i s7.heap/\(∀ b∈fp,H' b=none)/\W i m σ' H':=λ{σ7 H7} I7 n7=>by
   obtain ⟨m',hm,w7⟩:=hN σ7 H7 n7;refine ⟨m',hm,i+1, σ7,H7,I7.q7z,T.keep _ _ _ st5 λb hb o e=>(I7.pin (b,o) (List.mem_append_right _ (List.mem_append_right _ (n6 hb e)))).1,λb hb=>?_,w7⟩
   obtain ⟨o,e,d⟩:=T.obj _ _ st5 b hb;exact (I7.pin (b,o) (List.mem_append_right _ (List.mem_append_right _ (n6 hb e)))).2.1
  cases f with
  | next=>obtain ⟨σ7,H7,I7,n7⟩:=q7;exact again I7 n7
  | cont=>obtain ⟨σ7,H7,I7,n7⟩:=q7;exact again I7 n7
  | brk=>obtain ⟨σ7,H7,I7,q7⟩:=q7;exact ⟨σ7,H7,I7.q7z,q7⟩
  | ret v=>obtain ⟨x7, σ7,H7,I7,r7,q7⟩:=q7;exact ⟨x7, σ7,H7,I7.q7z,r7,q7⟩
end
abbrev R2:=V->V->Hp->VK->Prop
def OpR (X:Cx) (f:Value->Value->Sem Value) (r:R2):Prop:=
 ∀ (pins:List (Addr×Obj)) (s:Shared) (σ:St) (H:Hp) (x y:V) (v u:Value) (Q:VK),Inv X pins σ H s->RelV x v->RelV y u->r x y H Q ->
  wpAny (model X.prog X.w) X.A (f v u) (EP X pins σ Q) X.xe s
def UnR (X:Cx) (f:Value->Sem Value) (r:V->Hp->VK->Prop):Prop:=
 ∀ (pins:List (Addr×Obj)) (s:Shared) (σ:St) (H:Hp) (x:V) (v:Value) (Q:VK),Inv X pins σ H s->RelV x v->r x H Q ->
  wpAny (model X.prog X.w) X.A (f v) (EP X pins σ Q) X.xe s
def x9 (X:Cx) (f:Value) (r:List V->Hp->VK->Prop):Prop:=
 ∀ (pins:List (Addr×Obj)) (s:Shared) (σ:St) (H:Hp) (xs:List V) (us:List Value) (Q:VK),Inv X pins σ H s->Vals xs us->r xs H Q ->
  wpAny (model X.prog X.w) X.A (call f us) (EP X pins σ Q) X.xe s
def TruR (X:Cx) (r:V->Hp->(Bool->Hp->Prop)->Prop):Prop:=
 ∀ (pins:List (Addr×Obj)) (s:Shared) (σ:St) (H:Hp) (x:V) (v:Value) (Q:Bool->Hp->Prop),Inv X pins σ H s->RelV x v->r x H Q ->
  wpAny (model X.prog X.w) X.A (truthy v) (TP X pins σ Q) X.xe s
def tOp (r:R2) (ta tb:TE):TE:=λσ H Q=>ta σ H λx H1=>tb σ H1 λy H2=>r x y H2 Q
def tUn (r:V->Hp->VK->Prop) (ta:TE):TE:=λσ H Q=>ta σ H λx H1=>r x H1 Q
def rI (C:Int->Int->Prop) (g:Int->Int->V):R2:=λx y H Q=>∃ i j,x=.int i/\y=.int j/\C i j/\Q (g i j) H
def rI0 (g:Int->Int->V):R2:=λx y H Q=>∃ i j,x=.int i/\y=.int j/\Q (g i j) H
def rU (g:Int->V):V->Hp->VK->Prop:=λx H Q=>∃ i,x=.int i/\Q (g i) H
section
variable {X:Cx} {a b c:Expr} {ta tb tc:TE} {pos:Pos}
theorem binT (ha:PE X a ta) (hb:PE X b tb) {pins:List (Addr×Obj)} {s:Shared} {σ:St} {H:Hp} {R:V->V->Hp->Prop} (I:Inv X pins σ H s)
  (h:ta σ H λx H1=>tb σ H1 λy H2=>R x y H2) {Q:Value->Shared->Prop} {f:Value->Value->Sem Value}
  (hf:∀ v u s2 x y H2,Inv X pins σ H2 s2->RelV x v->RelV y u->R x y H2->wpAny (model X.prog X.w) X.A (f v u) Q X.xe s2) :
  wpAny (model X.prog X.w) X.A (eval a X.env) (λv s₁=>wpAny (model X.prog X.w) X.A (eval b X.env) (λu s₂=>wpAny (model X.prog X.w) X.A (f v u) Q X.xe s₂) X.xe s₁) X.xe s:=by
 refine thn (ha pins s σ H _ I h) λv s1 ⟨x,H1,I1,r1,q1⟩=>?_
 refine thn (hb pins s1 σ H1 _ I1 q1) λu s2 ⟨y,H2,I2,r2,q2⟩=>?_
 exact hf v u s2 x y H2 I2 r1 r2 q2
theorem jk {op:Operator} {r:R2} (ho:OpR X (binaryOp op) r) (ha:PE X a ta) (hb:PE X b tb):PE X (.BinOp a op b pos) (tOp r ta tb):=by
 intro pins s σ H Q I h;exact wpAny_BinOp (binT ha hb I h λv u s2 x y H2 I2 rx ry q=>ho pins s2 σ H2 x y v u Q I2 rx ry q)
theorem pe_un {op:UnaryOp} {r:V->Hp->VK->Prop} (ho:UnR X (unaryOp op) r) (ha:PE X a ta):PE X (.UnaryOp op a pos) (tUn r ta):=by
 intro pins s σ H Q I h;exact UnaryOp_ (thn (ha pins s σ H _ I h) λv s1 ⟨x,H1,I1,r1,q1⟩=>ho pins s1 σ H1 x v Q I1 r1 q1)
theorem opI {f:Value->Value->Sem Value} {C:Int->Int->Prop} {g:Int->Int->Int}
  (rule:∀ (i j:Int) (t u:Tok) (s:Shared) (Q:Value->Shared->Prop) (E:Value->Shared->Prop),C i j->Q (.int (g i j) s.toks) {s with toks:=s.toks+1}->wpAny (model X.prog X.w) X.A (f (.int i t) (.int j u)) Q E s) :
  OpR X f (rI C λi j=>.int (g i j)):=by
 intro pins s σ H x y v u Q I rx ry h;obtain ⟨i,j,rfl,rfl,hc,q⟩:=h;obtain ⟨t,rfl⟩:=rx;obtain ⟨t',rfl⟩:=ry;exact rule i j t t' s _ _ hc ⟨.int (g i j),H,I.tok _,⟨_,rfl⟩,q⟩
theorem opI0 {f:Value->Value->Sem Value} {g:Int->Int->Int}
  (rule:∀ (i j:Int) (t u:Tok) (s:Shared) (Q:Value->Shared->Prop) (E:Value->Shared->Prop),Q (.int (g i j) s.toks) {s with toks:=s.toks+1}->wpAny (model X.prog X.w) X.A (f (.int i t) (.int j u)) Q E s) :
  OpR X f (rI0 λi j=>.int (g i j)):=by
 intro pins s σ H x y v u Q I rx ry h;obtain ⟨i,j,rfl,rfl,q⟩:=h;obtain ⟨t,rfl⟩:=rx;obtain ⟨t',rfl⟩:=ry;exact rule i j t t' s _ _ ⟨.int (g i j),H,I.tok _,⟨_,rfl⟩,q⟩
theorem opB0 {f:Value->Value->Sem Value} {g:Int->Int->Bool}
  (rule:∀ (i j:Int) (t u:Tok) (s:Shared) (Q:Value->Shared->Prop) (E:Value->Shared->Prop),Q (.bool (g i j)) s->wpAny (model X.prog X.w) X.A (f (.int i t) (.int j u)) Q E s) :
  OpR X f (rI0 λi j=>.bl (g i j)):=by
 intro pins s σ H x y v u Q I rx ry h;obtain ⟨i,j,rfl,rfl,q⟩:=h;obtain ⟨t,rfl⟩:=rx;obtain ⟨t',rfl⟩:=ry;exact rule i j t t' s _ _ ⟨.bl (g i j),H,I,rfl,q⟩
def CDiv (i j:Int):Prop:=0<j/\j<1073741824
def CMul (i j:Int):Prop:=(-(2 ^ 64)<i/\i<2 ^ 64)\/(-(2 ^ 64)<j/\j<2 ^ 64)
theorem CMul.ok {i j:Int} (h:CMul i j):IntMulOk i j:=by
 rcases h with ⟨h1,h2⟩ | ⟨h1,h2⟩
 ·exact .of_left (intBits_le_64 h1 h2)
 ·exact .of_right (intBits_le_64 h1 h2)
theorem zw:OpR X (binaryOp .Add) (rI0 λi j=>.int (i+j)):=opI0 λ_ _ _ _ _ _ _ q=>add_int q
theorem og:OpR X (binaryOp .Sub) (rI0 λi j=>.int (i - j)):=opI0 λ_ _ _ _ _ _ _ q=>sub_int q
theorem qjb:OpR X (binaryOp .Mult) (rI CMul λi j=>.int (i * j)):=opI λ_ _ _ _ _ _ _ hc q=>mul_int q hc.ok
theorem uk:OpR X (binaryOp .FloorDiv) (rI CDiv λi j=>.int (i / j)):=opI λi j _ _ _ _ _ hc q=>by
 have h1:(0:Int)<j:=hc.1;have h2:j<1073741824:=hc.2;exact floordiv_int (by omega) (by rw [Int.fdiv_eq_ediv_of_nonneg i (by omega)];exact q) (.inl (PyProof.noPylong_small (by omega)))
theorem xl:OpR X (binaryOp .Mod) (rI (λ_ j=>0<j) λi j=>.int (i % j)):=opI λi j _ _ _ _ _ hc q=>by
 have h1:(0:Int)<j:=hc;exact mod_int' (by omega) (by rw [Int.fmod_eq_emod_of_nonneg i (by omega)];exact q)
theorem unI {f:Value->Sem Value} {g:Int->Int}
  (rule:∀ (i:Int) (t:Tok) (s:Shared) (Q:Value->Shared->Prop) (E:Value->Shared->Prop),Q (.int (g i) s.toks) {s with toks:=s.toks+1}->wpAny (model X.prog X.w) X.A (f (.int i t)) Q E s) :
  UnR X f (rU λi=>.int (g i)):=by
 intro pins s σ H x v Q I rx h;obtain ⟨i,rfl,q⟩:=h;obtain ⟨t,rfl⟩:=rx;exact rule i t s _ _ ⟨.int (g i),H,I.tok _,⟨_,rfl⟩,q⟩
theorem un_neg:UnR X (unaryOp .USub) (rU λi=>.int (-i)):=unI λ_ _ _ _ _ q=>neg_int q
end
def scal:V->V->Bool
 | .non, .non=>true | .non, .int _=>true | .int _, .non=>true | .non, .bl _=>true | .bl _, .non=>true | .non, .str _=>true | .str _, .non=>true
 | .int _, .int _=>true | .bl _, .bl _=>true | .str _, .str _=>true | .byt _, .byt _=>true
 | .int _, .str _=>true | .str _, .int _=>true | .bl _, .str _=>true | .str _, .bl _=>true
 | _,_=>false
def rEq:R2:=λx y H Q=>scal x y=true/\Q (.bl (decide (x=y))) H
def rNe:R2:=λx y H Q=>scal x y=true/\Q (.bl (!decide (x=y))) H
theorem qh4 {i j:Int}:decide (V.int i=V.int j)=(i == j):=by
 rw [Bool.eq_iff_iff];simp
theorem qj2 {i j:Bool}:decide (V.bl i=V.bl j)=(i == j):=by
 rw [Bool.eq_iff_iff];simp
theorem qhh {i j:Str}:decide (V.str i=V.str j)=(i == j):=by
 rw [Bool.eq_iff_iff];simp
theorem qgs {i j:Array UInt8}:decide (V.byt i=V.byt j)=(i.toList == j.toList):=by
 rw [Bool.eq_iff_iff];cases i;cases j;simp
section
variable {X:Cx} {a b c:Expr} {ta tb tc:TE} {pos:Pos}
theorem xk {pins:List (Addr×Obj)} {σ:St} {H:Hp} {s:Shared} {Q:VK} {k k':Bool} (I:Inv X pins σ H s) (q:Q (.bl k) H) (e:k=k'):EP X pins σ Q (.bool k') s:=by
 subst e;exact ⟨.bl k,H,I,rfl,q⟩
theorem zi:OpR X (compareOp .Eq) rEq:=by
 intro pins s σ H x y v u Q I rx ry h;obtain ⟨hs,q⟩:=h;cases x with
 | non =>
  cases rx;cases y with
  | non=>cases ry;exact PySem.EqNone.eq_none_none (xk I q (by simp))
  | bl j=>cases ry;exact PySem.EqNone.eq_none_bool (xk I q (by simp))
  | int j=>obtain ⟨t',rfl⟩:=ry;exact PySem.EqNone.eq_none_int (xk I q (by simp))
  | str j=>obtain ⟨t',rfl⟩:=ry;exact PySem.EqNone.eq_none_str (xk I q (by simp))
  | _=>exact absurd (show false=true from hs) Bool.false_ne_true
 | bl i =>
  cases rx;cases y with
  | non=>cases ry;exact PySem.EqNone.eq_bool_none (xk I q (by simp))
  | bl j=>cases ry;exact eq_bool (xk I q qj2)
  | str j=>obtain ⟨t',rfl⟩:=ry;exact PySem.EqMixed.eq_bool_str (xk I q (by simp))
  | _=>exact absurd (show false=true from hs) Bool.false_ne_true
 | int i =>
  obtain ⟨t,rfl⟩:=rx;cases y with
  | non=>cases ry;exact PySem.EqNone.eq_int_none (xk I q (by simp))
  | int j=>obtain ⟨t',rfl⟩:=ry;exact eq_int (xk I q qh4)
  | str j=>obtain ⟨t',rfl⟩:=ry;exact PySem.EqMixed.eq_int_str (xk I q (by simp))
  | _=>exact absurd (show false=true from hs) Bool.false_ne_true
 | str i =>
  obtain ⟨t,rfl⟩:=rx;cases y with
  | non=>cases ry;exact PySem.EqNone.eq_str_none (xk I q (by simp))
  | bl j=>cases ry;exact PySem.EqMixed.eq_str_bool (xk I q (by simp))
  | int j=>obtain ⟨t',rfl⟩:=ry;exact PySem.EqMixed.eq_str_int (xk I q (by simp))
  | str j=>obtain ⟨t',rfl⟩:=ry;exact eq_str (xk I q qhh)
  | _=>exact absurd (show false=true from hs) Bool.false_ne_true
 | byt i =>
  obtain ⟨t,rfl⟩:=rx;cases y with
  | byt j=>obtain ⟨t',rfl⟩:=ry;exact W.eq_bytes (xk I q qgs)
  | _=>exact absurd (show false=true from hs) Bool.false_ne_true
 | _=>cases y <;> exact absurd (show false=true from hs) Bool.false_ne_true
theorem p8:OpR X (compareOp .NotEq) rNe:=by
 intro pins s σ H x y v u Q I rx ry h;obtain ⟨hs,q⟩:=h;cases x with
 | non =>
  cases rx;cases y with
  | non=>cases ry;exact PySem.EqNone.ne_none_none (xk I q (by simp))
  | bl j=>cases ry;exact PySem.EqNone.ne_none_bool (xk I q (by simp))
  | int j=>obtain ⟨t',rfl⟩:=ry;exact PySem.EqNone.ne_none_int (xk I q (by simp))
  | str j=>obtain ⟨t',rfl⟩:=ry;exact PySem.EqNone.ne_none_str (xk I q (by simp))
  | _=>exact absurd (show false=true from hs) Bool.false_ne_true
 | bl i =>
  cases rx;cases y with
  | non=>cases ry;exact PySem.EqNone.ne_bool_none (xk I q (by simp))
  | bl j=>cases ry;exact ne_bool (xk I q (congrArg not qj2))
  | str j=>obtain ⟨t',rfl⟩:=ry;exact PySem.EqMixed.ne_bool_str (xk I q (by simp))
  | _=>exact absurd (show false=true from hs) Bool.false_ne_true
 | int i =>
  obtain ⟨t,rfl⟩:=rx;cases y with
  | non=>cases ry;exact PySem.EqNone.ne_int_none (xk I q (by simp))
  | int j=>obtain ⟨t',rfl⟩:=ry;exact ne_int (xk I q (congrArg not qh4))
  | str j=>obtain ⟨t',rfl⟩:=ry;exact PySem.EqMixed.ne_int_str (xk I q (by simp))
  | _=>exact absurd (show false=true from hs) Bool.false_ne_true
 | str i =>
  obtain ⟨t,rfl⟩:=rx;cases y with
  | non=>cases ry;exact PySem.EqNone.ne_str_none (xk I q (by simp))
  | bl j=>cases ry;exact PySem.EqMixed.ne_str_bool (xk I q (by simp))
  | int j=>obtain ⟨t',rfl⟩:=ry;exact PySem.EqMixed.ne_str_int (xk I q (by simp))
  | str j=>obtain ⟨t',rfl⟩:=ry;exact ne_str (xk I q (congrArg not qhh))
  | _=>exact absurd (show false=true from hs) Bool.false_ne_true
 | byt i =>
  obtain ⟨t,rfl⟩:=rx;cases y with
  | byt j=>obtain ⟨t',rfl⟩:=ry;exact W.ne_bytes (xk I q (congrArg not qgs))
  | _=>exact absurd (show false=true from hs) Bool.false_ne_true
 | _=>cases y <;> exact absurd (show false=true from hs) Bool.false_ne_true
theorem cf:OpR X (compareOp .Lt) (rI0 λi j=>.bl (decide (i<j))):=opB0 λ_ _ _ _ _ _ _ q=>lt_int q
theorem cg:OpR X (compareOp .LtE) (rI0 λi j=>.bl (decide (i<=j))):=opB0 λ_ _ _ _ _ _ _ q=>le_int q
theorem op_gt:OpR X (compareOp .Gt) (rI0 λi j=>.bl (decide (j<i))):=opB0 λ_ _ _ _ _ _ _ q=>gt_int q
theorem qkz:OpR X (compareOp .In) (λx y H Q=>∃ i j,x=.str i/\y=.str j/\Q (.bl (!(Builtin.Str.occurrences j i 0 j.length 1).isEmpty)) H):=by
 intro pins s σ H x y v u Q I rx ry h;obtain ⟨i,j,rfl,rfl,q⟩:=h;obtain ⟨t,rfl⟩:=rx;obtain ⟨t',rfl⟩:=ry;exact in_str (xk I q rfl)
theorem xu (b:Expr) {op:CmpOp} (h:op≠.In:=by decide) (h2:op≠.NotIn:=by decide):behindInMarks op b=false:=by
 have e1:(op == CmpOp.In)=false:=by cases op <;> first | rfl | exact absurd rfl h
 have e2:(op == CmpOp.NotIn)=false:=by cases op <;> first | rfl | exact absurd rfl h2
 cases b <;> simp [behindInMarks,e1,e2]
theorem zj {op:CmpOp} {r:R2} (ho:OpR X (compareOp op) r) (ha:PE X a ta) (hb:PE X b tb) (hm:behindInMarks op b=false):PE X (.Compare a [op] [b] pos) (tOp r ta tb):=by
 intro pins s σ H Q I h;exact wpAny_Compare1 (binT ha hb I h λv u s2 x y H2 I2 rx ry q=>ho pins s2 σ H2 x y v u Q I2 rx ry q) hm
def i4 (t:TE):TT:=λσ H Q=>t σ H λx H' => ∃ k,x=.bl k/\Q k H'
theorem vb {op:CmpOp} {r:R2} (ho:OpR X (compareOp op) r) (ha:PE X a ta) (hb:PE X b tb) (hm:behindInMarks op b=false):PT X (.Compare a [op] [b] pos) (i4 (tOp r ta tb)):=by
 intro pins s σ H Q I h;refine wpAny_isTrue_Compare1 (thn (ha pins s σ H _ I h) λv s1 ⟨x,H1,I1,r1,q1⟩=>thn (hb pins s1 σ H1 _ I1 q1) λu s2 ⟨y,H2,I2,r2,q2⟩ =>
  thn (ho pins s2 σ H2 x y v u _ I2 r1 r2 q2) λc s3 ⟨z,H3,I3,r3,k,e,q3⟩=>?_) hm
 subst e;cases r3;exact wpAny_truthy_bool ⟨H3,I3,q3⟩
def i5 (r r':R2) (ta tb tc:TE):TE:=λσ H Q=>ta σ H λx H1=>tb σ H1 λy H2=>r x y H2 λz H3=>∃ k,z=.bl k /\
 (if k=true then tc σ H3 λw' H4=>r' y w' H4 Q else Q (.bl false) H3)
theorem qlk {op op':CmpOp} {r r':R2} (ho:OpR X (compareOp op) r) (ho':OpR X (compareOp op') r') (ha:PE X a ta) (hb:PE X b tb) (hc:PE X c tc)
  (hm:lastMarks [op,op'] [b,c]=false:=by with_unfolding_all rfl):PE X (.Compare a [op,op'] [b,c] pos) (i5 r r' ta tb tc):=by
 intro pins s σ H Q I h;refine Compare_chain (thn (ha pins s σ H _ I h) λv s1 ⟨x,H1,I1,r1,q1⟩=>chain_link (thn (hb pins s1 σ H1 _ I1 q1) λu s2 ⟨y,H2,I2,r2,q2⟩ =>
  thn (ho pins s2 σ H2 x y v u _ I2 r1 r2 q2) λd s3 ⟨z,H3,I3,r3,k,e,q3⟩=>?_)) hm
 subst e;cases r3;refine wpAny_truthy_bool ?_;cases k with
 | false=>exact ite_ff ⟨.bl false,H3,I3,rfl,q3⟩
 | true=>exact ite_tt (chain_last (thn (hc pins s3 σ H3 _ I3 q3) λw' s4 ⟨z',H4,I4,r4,q4⟩=>ho' pins s4 σ H4 y z' u w' Q I4 r2 r4 q4))
theorem qmd {op op':CmpOp} {r r':R2} (ho:OpR X (compareOp op) r) (ho':OpR X (compareOp op') r') (ha:PE X a ta) (hb:PE X b tb) (hc:PE X c tc)
  (hm:lastMarks [op,op'] [b,c]=false:=by with_unfolding_all rfl):PT X (.Compare a [op,op'] [b,c] pos) (i4 (i5 r r' ta tb tc)):=by
 intro pins s σ H Q I h;refine isTrue_chain (thn (ha pins s σ H _ I h) λv s1 ⟨x,H1,I1,r1,q1⟩=>test_link (thn (hb pins s1 σ H1 _ I1 q1) λu s2 ⟨y,H2,I2,r2,q2⟩ =>
  thn (ho pins s2 σ H2 x y v u _ I2 r1 r2 q2) λd s3 ⟨z,H3,I3,r3,k,e,q3⟩=>?_)) hm
 subst e;cases r3;refine wpAny_truthy_bool ?_;cases k with
 | false =>
  obtain ⟨k',e',q'⟩:=q3;cases e';exact ite_ff ⟨H3,I3,q'⟩
 | true =>
  refine ite_tt (test_last (thn (hc pins s3 σ H3 _ I3 q3) λw' s4 ⟨z',H4,I4,r4,q4⟩=>thn (ho' pins s4 σ H4 y z' u w' _ I4 r2 r4 q4) λd' s5 ⟨z2,H5,I5,r5,k2,e2,q5⟩=>?_))
  subst e2;cases r5;exact wpAny_truthy_bool ⟨H5,I5,q5⟩
def TruV (K:W.Frag) (x:V) (H:Hp) (k:Bool):Prop:=
 match x with
 | .non=>k=false
 | .bl b=>k=b
 | .int i=>k=(i != 0)
 | .str y=>y.length<=sizeLine/\k=((y.length:Int) != 0)
 | .byt y=>y.size<=sizeLine/\k=((y.size:Int) != 0)
 | .ref p=>(∃ xs,SqL K H p xs/\k = !xs.isEmpty)\/(∃ xs,SqT K H p xs/\k = !xs.isEmpty)\/∃ kvs,H p=some (.dK kvs)/\k = !kvs.isEmpty
 | _=>False
theorem qir {κ:Type} {kvs:List (κ×V)} {vs:List (κ×Value)} (r:KV kvs vs):(!vs.isEmpty) = !kvs.isEmpty:=by
 cases r <;> rfl
theorem qc1 {xs:List V} {its:List Value} (r:Vals xs its):(!its.toArray.isEmpty) = !xs.isEmpty:=by
 cases r <;> simp
theorem p9:(sizeLine:Nat)<2 ^ 63:=by rw [sizeLine_eq];decide
theorem tru_ok:TruR X (λx H Q=>∃ k,TruV X.K x H k/\Q k H):=by
 intro pins s σ H x v Q I rx h;obtain ⟨k,e,q⟩:=h;have hl:=p9;have hs:sizeLine=16777216:=sizeLine_eq;cases x with
 | non =>
  cases rx;have e':k=false:=e;subst e';exact truthy_none ⟨H,I,q⟩
 | bl b =>
  cases rx;have e':k=b:=e;subst e';exact wpAny_truthy_bool ⟨H,I,q⟩
 | int i =>
  obtain ⟨t,rfl⟩:=rx;have e':k=(i != 0):=e;subst e';exact PySem.P.truthy_int ⟨H,I,q⟩
 | str y =>
  obtain ⟨t,rfl⟩:=rx;obtain ⟨hy,e'⟩:y.length<=sizeLine/\k=((y.length:Int) != 0):=e;subst e';exact PySem.P.truthy_str (by omega) ⟨H,I.tok _,q⟩
 | byt y =>
  obtain ⟨t,rfl⟩:=rx;obtain ⟨hy,e'⟩:y.size<=sizeLine/\k=((y.size:Int) != 0):=e;subst e';exact W.truthy_bytes (by omega) ⟨H,I.tok _,q⟩
 | ref p =>
  cases rx;have e':(∃ xs,SqL X.K H p xs/\k = !xs.isEmpty)\/(∃ xs,SqT X.K H p xs/\k = !xs.isEmpty)\/∃ kvs,H p=some (.dK kvs)/\k = !kvs.isEmpty:=e;rcases e' with ⟨xs,hx,e'⟩ | ⟨xs,hx,e'⟩ | ⟨kvs,hx,e'⟩
  ·subst e'
   obtain ⟨its,r,pl,hz⟩:=I.list hx;have hlen:=r.length;exact wpAny_truthy_list pl.isList (by simp only [List.size_toArray];omega) ⟨H,I.tok _,by rw [qc1 r];exact q⟩
  ·subst e'
   obtain ⟨its,r,pl,hz⟩:=I.tuple hx;have hlen:=r.length;exact truthy_tuple pl (by simp only [List.size_toArray];omega) ⟨H,I.tok _,by rw [qc1 r];exact q⟩
  ·subst e'
   obtain ⟨hz,hS,vs,r,m⟩:kvs.length<=sizeLine/\(p == sysModules)=false/\∃ vs,KV kvs vs/\s.heap.DictOf (vo X.prog X.w) p vs:=I.hok p _ hx;have hlen:kvs.length=vs.length:=Paired.length r;exact wpAny_truthy_dict hS m (by omega) ⟨H,I.tok _,by rw [qir r];exact q⟩
 | _=>exact (show False from e).elim
theorem qf9 (ha:PE X a ta) (he:∀ whole,isTrue a X.env whole=(do let v <- whole;standAt a.pos;holding [v] (truthy v))) :
  PT X a (λσ H Q=>ta σ H λx H' => ∃ k,TruV X.K x H' k/\Q k H'):=by
 intro pins s σ H Q I h;exact isTrue_plain (thn (ha pins s σ H _ I h) λv s1 ⟨x,H1,I1,r1,q1⟩=>tru_ok pins s1 σ H1 x v Q I1 r1 q1) (he _)
theorem um:OpR X (binaryOp .Add) (λx y H Q=>∃ i j,x=.str i/\y=.str j/\i.length+j.length<=sizeLine/\Q (.str (i++j)) H):=by
 intro pins s σ H x y v u Q I rx ry h;obtain ⟨i,j,rfl,rfl,hz,q⟩:=h;obtain ⟨t,rfl⟩:=rx;obtain ⟨t',rfl⟩:=ry;exact add_str (λt' tk=>⟨.str (i++j),H,I.tok _,⟨_,rfl⟩,q⟩) hz
theorem vals1 {x:V} {us:List Value} (r:Vals [x] us):∃ u,us=[u]/\RelV x u:=by
 cases r with
 | cons r1 r2=>cases r2;exact ⟨_,rfl,r1⟩
theorem vals2 {x y:V} {us:List Value} (r:Vals [x,y] us):∃ u w',us=[u,w']/\RelV x u/\RelV y w':=by
 cases r with
 | cons r1 r2 =>
  cases r2 with
  | cons r3 r4=>cases r4;exact ⟨_,_,rfl,r1,r3⟩
theorem qjd (hc:X.calm=true):x9 X (.builtin "min") (λxs H Q=>∃ i j,xs=[.int i, .int j]/\Q (.int (if j<i then j else i)) H):=by
 intro pins s σ H xs us Q I r h;obtain ⟨i,j,rfl,q⟩:=h;obtain ⟨u,w',rfl,⟨t,rfl⟩,⟨t',rfl⟩⟩:=vals2 r;refine min_two_ints (I.ok.hd hc) λh' tk k=>⟨_,H,I.kept k,?_,q⟩
 by_cases hj:j<i
 ·rw [if_pos hj,if_pos hj];exact ⟨_,rfl⟩
 ·rw [if_neg hj,if_neg hj];exact ⟨_,rfl⟩
theorem qj0:x9 X (.type "int") (λxs H Q=>(∃ i,xs=[.int i]/\Q (.int i) H)\/∃ k,xs=[.bl k]/\Q (.int (if k then 1 else 0)) H):=by
 intro pins s σ H xs us Q I r h;rcases h with ⟨i,rfl,q⟩ | ⟨k,rfl,q⟩
 ·obtain ⟨u,rfl,t,rfl⟩:=vals1 r
  exact call_int_int ⟨.int i,H,I,⟨_,rfl⟩,q⟩
 ·obtain ⟨u,rfl,r1⟩:=vals1 r
  cases r1;exact call_int_bool ⟨.int (if k then 1 else 0),H,I.tok _,⟨_,rfl⟩,q⟩
theorem qg0:x9 X (.type "str") (λxs H Q=>∃ i,xs=[.int i]/\i.natAbs.log2<1920/\Q (.str (toString i)) H):=by
 intro pins s σ H xs us Q I r h;obtain ⟨i,rfl,hz,q⟩:=h;obtain ⟨u,rfl,t,rfl⟩:=vals1 r;exact PySem.P.str_of_int hz ⟨.str _,H,I.tok _,⟨_,rfl⟩,q⟩
end
structure ObjM (h:Heap) (x dx C:Addr) (mA:Str->Option Value):Prop where
 obj:h.get? x=some (W.instObj C dx)
 ns:h.Ns1 dx mA
 ne:dx≠x
theorem ql1 {h:Heap} {dx:Addr} {mA:Str->Option Value} (n:h.Ns1 dx mA):∃ od,h.get? dx=some od/\∀ name,W.lookIn name od=some (mA name):=by
 obtain ⟨o,es,ep,ho,hd,hk,_,hm⟩:=n;refine ⟨o,ho,λname=>?_⟩
 have e:=hm name;unfold nsFind findBy at e;rw [<- Array.find?_toList] at e;unfold W.lookIn;rw [hd];dsimp only;split
 ·rename_i y q
  rw [q] at e;exact congrArg some e
 ·rename_i q
  rw [q] at e;have a:es.toList.any (·.refKey)=false:=by
   rw [List.any_eq_false];intro y hy;obtain ⟨z,t,hkey⟩:=hk y (Array.mem_toList_iff.mp hy);simp [DictEntry.refKey,hkey]
  have a':¬ es.toList.any (·.refKey)=true:=by rw [a];exact Bool.false_ne_true
  rw [if_neg a'];exact congrArg some e
theorem ObjM.look {h:Heap} {x dx C:Addr} {mA:Str->Option Value} (I:ObjM h x dx C mA):∃ od,W.InstAt h x (W.instObj C dx) C (some od)/\∀ name,W.lookIn name od=some (mA name):=
 let ⟨od,ho,hl⟩:=ql1 I.ns
 ⟨od,⟨I.obj,rfl,rfl,ho⟩,hl⟩
section
variable {prog:Program} {w:World} {A:Around} {E:Value->Shared->Prop} {s:Shared} {K:PySem.W.Frag} {x dx C f:Addr} {mA:Str->Option Value} {name:Str} {v:Value}
theorem get_map {expr:Bool} {Q:Value->Shared->Prop} (X:K.In s.heap) (I:ObjM s.heap x dx C mA) (hg:W.plainGet K C name=true) (hh:W.hasDictIn K C=true)
  (ha:W.findIn K (.ref C) name=some none) (hv:mA name=some v) (hv':W.handedIn v=true) (h:Q v {s with toks:=s.toks+1}) :
  wpAny (model prog w) A (getAttr (.ref x) name expr) Q E s:=by
 obtain ⟨od,J,hl⟩:=I.look;exact W.get_value X J (W.plainGet_of hg).1 (W.findObj_own hh ha rfl (by rw [hl,hv])) hv' h
theorem qmx {pl:Sem Bool} {Q:Value×List Value->Shared->Prop} (X:K.In s.heap) (I:ObjM s.heap x dx C mA) (hg:W.plainGet K C name=true)
  (hf:W.findIn K (.ref C) name=some (some (.ref f))) (ht:W.isFn K (.ref f)=true) (hv:mA name=none) (h:Q (.ref f,[.ref x]) s) :
  wpAny (model prog w) A (getMethod (.ref x) name pl) Q E s:=by
 obtain ⟨od,J,hl⟩:=I.look;exact W.method_fn X J (W.plainGet_of hg).1 (W.plainGet_of hg).2 hf (beq_iff_eq.mp ht) (by show (W.lookIn name od).map (·.isSome)=some false;rw [hl,hv];rfl) h
theorem qnn {ns:List Str} {Q:Unit->Shared->Prop} (X:K.In s.heap) (I:ObjM s.heap x dx C mA)
  (hs:W.findIn K (.ref C) "__setattr__" = some (some (.builtin "object.__setattr__"))) (hp:W.plainOver K C=true) (ht:W.takerIn K C name=some none) (hh:W.hasDictIn K C=true)
  (hw:PySem.Within mA ns) (hsz:ns.length<=sizeLine)
  (h:∀ h',ObjM h' x dx C (λy=>if y=name then some v else mA y)->Heap.SameBut dx s.heap h'->Q () {s with heap:=h',toks:=s.toks+2}) :
  wpAny (model prog w) A (setAttr (.ref x) name v) Q E s:=by
 obtain ⟨od,J,hl⟩:=I.look;refine W.set_plain X J hs (W.osa_open (s:={s with toks:=s.toks+1}) (r:=none) X J hp ht λb=>?_)
 obtain ⟨cd,hc,hd'⟩:=W.any_some hh;have hx:s.heap.get? x=some ⟨.ref C,some dx, .plain, #[]⟩:=I.obj;refine wpAny_bind (wpAny_pure (wpAny_bind (wpAny_bind (wpAny_loadPart hx (wpAny_bind (W.Looks.here (s:={s with toks:=s.toks+1}) (W.looks_clsIn X hc) ?_))))))
 rw [hd'];refine wpAny_pure (a:=some dx) (wpAny_bind (wpAny_pure (wpAny_bind ?_)));refine wpAny_nsSet1 (s:={s with toks:=s.toks+1}) I.ns λh' hn2 hs2=>?_
 obtain ⟨oD,esD,epD,hoD,hdD,hcD⟩:=hn2.count (PySem.Within.cons name v hw);refine wpAny_bind (wpAny_lookBehind hoD (by rw [hdD];exact pastItsLine_dict (Nat.le_trans hcD (by rw [List.length_cons];omega))) ?_)
 exact wpAny_pure (h _ ⟨(hs2.2 _ (Ne.symm I.ne)).trans I.obj,hn2,I.ne⟩ hs2)
theorem qmt {R:Result->Shared->Prop} {vs:List Value} {kw:List (Str×Value)} (X:K.In s.heap) (hm:W.makesIn K C=true)
  (hi:W.findIn K (.ref C) "__init__" = some (some (.ref f))) (hf:W.typeIn K (.ref f)=some (.type "function"))
  (h:codeAny (model prog w) (A.under (.builtin "type.__call__" ⟨.ref C::vs,kw⟩)) (.call (.ref f) ⟨.ref (s.heap.objs.size+1)::vs,kw⟩) (W.InitBack (s.heap.objs.size+1) R)
   {s with heap:=(s.heap.push W.emptyDict).push (W.instObj C s.heap.objs.size)}) :
  codeAny (model prog w) A (.call (.ref C) ⟨vs,kw⟩) R s:=by
 obtain ⟨hh,g,d,t,os⟩:=s;exact W.make_core (W.makes_of X hm) (W.looks_findIn X hi) (λself=>W.bind_fn X self hf) (.inl rfl) h
end
def putF (f:Str) (v:V):List (Str×V)->List (Str×V)
 | []=>[(f,v)]
 | (g,x)::r=>if g=f then (g,v)::r else (g,x)::putF f v r
theorem qbl (f g:Str) (v:V):∀ fs:List (Str×V),(putF f v fs).lookup g=if g=f then some v else fs.lookup g
 | []=>by
  show List.lookup g [(f,v)]=_
  by_cases h:g=f
  ·have hb:(g == f)=true:=beq_iff_eq.mpr h
   simp only [List.lookup,hb,if_pos h]
  ·have hb:(g == f)=false:=beq_eq_false_iff_ne.mpr h
   simp only [List.lookup,hb,if_neg h]
 | (k,x)::r=>by
  have ih:=qbl f g v r;rw [show putF f v ((k,x)::r)=(if k=f then (k,v)::r else (k,x)::putF f v r) from rfl]
  by_cases hk:k=f
  ·rw [if_pos hk]
   by_cases h:g=k
   ·have hb:(g == k)=true:=beq_iff_eq.mpr h
    simp only [List.lookup,hb,if_pos (h.trans hk)]
   ·have hb:(g == k)=false:=beq_eq_false_iff_ne.mpr h
    simp only [List.lookup,hb,if_neg (λe:g=f=>h (e.trans hk.symm))]
  ·rw [if_neg hk]
   by_cases h:g=k
   ·have hb:(g == k)=true:=beq_iff_eq.mpr h
    simp only [List.lookup,hb,if_neg (λe:g=f=>hk (h.symm.trans e))]
   ·have hb:(g == k)=false:=beq_eq_false_iff_ne.mpr h
    simp only [List.lookup,hb];exact ih
theorem i6 (f:Str) (v:V):∀ fs:List (Str×V),f∈(putF f v fs).map (·.1)/\∀ g,g∈fs.map (·.1)->g∈(putF f v fs).map (·.1)
 | []=>⟨by simp [putF],λg h=>by simp at h⟩
 | (k,x)::r=>by
  obtain ⟨i1,i2⟩:=i6 f v r;rw [show putF f v ((k,x)::r)=(if k=f then (k,v)::r else (k,x)::putF f v r) from rfl]
  by_cases hk:k=f
  ·rw [if_pos hk]
   subst hk;exact ⟨by simp,λg h=>by simpa using h⟩
  ·rw [if_neg hk]
   refine ⟨?_,λg h=>?_⟩
   ·rw [List.map_cons]
    exact List.mem_cons_of_mem _ i1
   ·rw [List.map_cons] at h ⊢
    rcases List.mem_cons.mp h with e | e
    ·exact List.mem_cons.mpr (.inl e)
    ·exact List.mem_cons_of_mem _ (i2 g e)
theorem qbh (f:Str) (v:V):∀ fs:List (Str×V),(putF f v fs).length<=fs.length+1
 | []=>by simp [putF]
 | (k,x)::r=>by
  have ih:=qbh f v r;rw [show putF f v ((k,x)::r)=(if k=f then (k,v)::r else (k,x)::putF f v r) from rfl]
  by_cases hk:k=f
  ·rw [if_pos hk,List.length_cons,List.length_cons];omega
  ·rw [if_neg hk,List.length_cons,List.length_cons];omega
theorem RelO.some_of {v:V} {o:Option Value} (r:RelO (some v) o):∃ u,o=some u/\RelV v u:=by
 cases o with
 | none=>exact (show False from r).elim
 | some u=>exact ⟨u,rfl,r⟩
theorem RelO.none_of {o:Option Value} (r:RelO none o):o=none:=by
 cases o with
 | none=>rfl
 | some u=>exact (show False from r).elim
theorem ql0 {v:V} {u:Value} (r:RelV v u):W.handedIn u=true:=by
 cases v with
 | non=>cases (show u=Value.none from r);rfl
 | bl b=>cases (show u=Value.bool b from r);rfl
 | int i=>obtain ⟨t,e⟩:=(show ∃ t,u=Value.int i t from r);cases e;rfl
 | str x=>obtain ⟨t,e⟩:=(show ∃ t,u=Value.str x t from r);cases e;rfl
 | byt b=>obtain ⟨t,e⟩:=(show ∃ t,u=Value.bytes b t from r);cases e;rfl
 | flt b=>obtain ⟨t,e⟩:=(show ∃ t,u=Value.float b t from r);cases e;rfl
 | ref a=>cases (show u=Value.ref a from r);rfl
 | ty n=>cases (show u=Value.type n from r);rfl
section
variable {P:Program} {w:World} {H H':Hp} {h h':Heap} {a C dx:Addr} {fs fs':List (Str×V)}
theorem cj (hok:HOk P w H h) (e:H a=some (.ins C dx fs)):∃ mA,ObjM h a dx C mA/\(∀ f,RelO (fs.lookup f) (mA f))/\PySem.Within mA (fs.map (·.1))/\fs.length<=1000/\H dx=some (.own a):=by
 obtain ⟨d,z,ne,ob,mA,n,r,q⟩:=(show xg P w H h a (.ins C dx fs) from hok a _ e)
 exact ⟨mA,⟨ob,n,ne⟩,r,q,z,d⟩
end
structure Cls (K:W.Frag) (C:Addr):Prop where
 pg:W.plainGet K C Str.empty=true
 hd:W.hasDictIn K C=true
 po:W.plainOver K C=true
 sa:W.findIn K (.ref C) "__setattr__" = some (some (.builtin "object.__setattr__"))
theorem Cls.get {K:W.Frag} {C:Addr} (c:Cls K C) (f:Str):W.plainGet K C f=true:=c.pg
def zx (K:W.Frag) (C:Addr) (f:Str):Prop:=W.findIn K (.ref C) f=some none
theorem zx.taker {K:W.Frag} {C:Addr} {f:Str} (n:zx K C f):W.takerIn K C f=some none:=by
 unfold W.takerIn;rw [show W.findIn K (.ref C) f=some none from n]
 rfl
structure Meth (K:W.Frag) (C:Addr) (m:Str) (f:Addr):Prop where
 at_:W.findIn K (.ref C) m=some (some (.ref f))
 fn:W.isFn K (.ref f)=true
 kp:W.keepIn K (.ref f)=true
section
variable {X:Cx} {pins:List (Addr×Obj)} {σ:St} {H:Hp} {s:Shared} {a C dx:Addr} {fs:List (Str×V)} {f:Str} {v:V} {A:Around} {E:Value->Shared->Prop}
theorem qbw {b:Bool} {Q:Value->Shared->Prop} (I:Inv X pins σ H s) (e:H a=some (.ins C dx fs)) (c:Cls X.K C) (n:zx X.K C f) (l:fs.lookup f=some v)
  (h:∀ u s',Inv X pins σ H s'->RelV v u->Q u s'):wpAny (model X.prog X.w) A (getAttr (.ref a) f b) Q E s:=by
 obtain ⟨mA,O,r,_,_,_⟩:=cj I.hok e;obtain ⟨u,hu,ru⟩:=RelO.some_of (v:=v) (o:=mA f) (by rw [<- l];exact r f)
 exact get_map I.kIn O (c.get f) c.hd n hu (ql0 ru) (h u _ (I.tok _) ru)
theorem i7 {m:Str} {g:Addr} {pl:Sem Bool} {Q:Value×List Value->Shared->Prop} (I:Inv X pins σ H s) (e:H a=some (.ins C dx fs)) (c:Cls X.K C) (k:Meth X.K C m g) (l:fs.lookup m=none)
  (h:Q (.ref g,[.ref a]) s):wpAny (model X.prog X.w) A (getMethod (.ref a) m pl) Q E s:=by
 obtain ⟨mA,O,r,_,_,_⟩:=cj I.hok e;have hn:mA m=none:=RelO.none_of (by rw [<- l];exact r m)
 exact qmx I.kIn O (c.get m) k.at_ k.fn hn h
theorem qc0 {y:V} {u:Value} {Q:Unit->Shared->Prop} (I:Inv X pins σ H s) (e:H a=some (.ins C dx fs)) (c:Cls X.K C) (n:zx X.K C f) (hl:fs.length<1000) (ry:RelV y u)
  (h:∀ s',Inv X pins σ (upd H a (.ins C dx (putF f y fs))) s'->Q () s'):wpAny (model X.prog X.w) A (setAttr (.ref a) f u) Q E s:=by
 obtain ⟨mA,O,r,wi,_,ho⟩:=cj I.hok e;have hz:(fs.map (·.1)).length<=sizeLine:=by rw [List.length_map,sizeLine_eq];omega
 refine qnn I.kIn O c.sa c.po n.taker c.hd wi hz λh' O' sb=>h _ ?_
 have hd:∃ o,h'.get? dx=some o:=let ⟨o,_,_,e',_⟩:=O'.ns;⟨o,e'⟩;refine I.write (x:=a) (e:=dx) (by rw [e];exact True.intro) (.inr ho) (λb q hb z=>(sb.2 b hb).trans z) hd ?_
 refine ⟨by rw [yk O.ne];exact ho,?_,O.ne,O'.obj,_,O'.ns,λg=>?_,λg hg=>?_⟩
 ·have:=qbh f y fs;omega
 ·show RelO ((putF f y fs).lookup g) (if g=f then some u else mA g)
  rw [qbl]
  by_cases q:g=f
  ·rw [if_pos q,if_pos q];exact ry
  ·rw [if_neg q,if_neg q];exact r g
 ·by_cases q:g=f
  ·rw [q];exact (i6 f y fs).1
  ·refine (i6 f y fs).2 g (wi g λz=>hg ?_)
   show (if g=f then some u else mA g)=none
   rw [if_neg q];exact z
theorem Inv.made (I:Inv X pins σ H s):Inv X pins σ (upd (upd H s.heap.objs.size (.own (s.heap.objs.size+1))) (s.heap.objs.size+1) (.ins C s.heap.objs.size []))
  {s with heap:=(s.heap.push W.emptyDict).push (W.instObj C s.heap.objs.size)}:=by
 have e1:(s.heap.push W.emptyDict).get? s.heap.objs.size=some W.emptyDict:=Heap.get?_push_size s.heap rfl;have e2:((s.heap.push W.emptyDict).push (W.instObj C s.heap.objs.size)).get? (s.heap.objs.size+1)=some (W.instObj C s.heap.objs.size):=by
  have:=Heap.get?_push_size (s.heap.push W.emptyDict) (o:=W.instObj C s.heap.objs.size) rfl
  rwa [Heap.size_push] at this
 have e3:(s.heap.push W.emptyDict).Ns s.heap.objs.size (λ_=>none):=⟨W.emptyDict, #[],_,e1,rfl,(λe he=>absurd he (by simp)),λ_=>rfl⟩
 have I1:=I.laid (a:=s.heap.objs.size) (o:=.own (s.heap.objs.size+1)) (h':=s.heap.push W.emptyDict) (t':=s.toks) (λb u q=>Heap.get?_push_of_some _ q) (Nat.le_refl _) ⟨_,e1⟩
 refine I1.laid (a:=s.heap.objs.size+1) (o:=.ins C s.heap.objs.size []) (t':=s.toks) (λb u q=>Heap.get?_push_of_some _ q) (Nat.le_of_eq (Heap.size_push _ _)) ?_
 have ne:s.heap.objs.size≠s.heap.objs.size+1:=Nat.ne_of_lt (Nat.lt_succ_self _);refine ⟨by rw [yk ne,vd],Nat.zero_le _,ne,e2,λ_=>none,(Heap.Ns1.of_empty e3).at λo q=>Heap.get?_push_of_some _ q,λ_=>True.intro,λy hy=>absurd rfl hy⟩
theorem qpa {prog:Program} {w:World} {env:Env} {e:Expr} {f:Str} {pos:Pos} {s:Shared} {Q:Value->Shared->Prop} (hb:attributeBase e f env (eval e env)=eval e env)
  (h:wpAny (model prog w) A (eval e env) (λo s₁=>wpAny (model prog w) A (getAttr o f true) Q E s₁) E s):wpAny (model prog w) A (eval (.Attribute e f pos) env) Q E s:=
 Attribute_any_ h (by rw [arm_eval_Attribute,hb])
end
def tFld (K:W.Frag) (ta:TE) (f:Str):TE:=λσ H Q=>ta σ H λx H1=>∃ a C dx fs v,x=.ref a/\H1 a=some (.ins C dx fs)/\Cls K C/\zx K C f/\fs.lookup f=some v/\Q v H1
def sFld (K:W.Frag) (ta tv:TE) (f:Str):TS:=λD σ H=>tv σ H λy H1=>ta σ H1 λx H2=>∃ a C dx fs,x=.ref a/\H2 a=some (.ins C dx fs)/\Cls K C/\zx K C f/\fs.length<1000 /\
 D.nx σ (upd H2 a (.ins C dx (putF f y fs)))
def InOp (X:Cx) (op:Operator) (rd:V->V->Hp->VK->Prop):Prop:=
 ∀ (pins:List (Addr×Obj)) (s:Shared) (σ:St) (H:Hp) (x y:V) (u v:Value) (Q:VK),Inv X pins σ H s->RelV x u->RelV y v->rd x y H Q->wpAny (model X.prog X.w) X.A (inplaceOp op u v) (EP X pins σ Q) X.xe s
def qh1 (K:W.Frag) (ta tv:TE) (rd:V->V->Hp->VK->Prop) (f:Str):TS:=λD σ H=>ta σ H λx H1=>∃ a C dx fs v,x=.ref a/\H1 a=some (.ins C dx fs)/\Cls K C/\zx K C f/\fs.lookup f=some v /\
 tv σ H1 λy H2=>rd v y H2 λz H3=>∃ dx' fs',H3 a=some (.ins C dx' fs')/\fs'.length<1000/\D.nx σ (upd H3 a (.ins C dx' (putF f z fs')))
section
variable {X:Cx} {o e value:Expr} {f:Str} {pos pos' tpos:Pos} {ta tv:TE}
theorem jj (he:PE X e ta) (hb:attributeBase e f X.env (eval e X.env)=eval e X.env):PE X (.Attribute e f pos) (tFld X.K ta f):=by
 intro pins s σ H Q I h;refine qpa hb (thn (he pins s σ H _ I h) λu s1 ⟨x,H1,I1,rx,a,C,dx,fs,v,ex,ea,c,n,l,q⟩=>?_)
 subst ex;obtain rfl:u=Value.ref a:=rx;exact qbw I1 ea c n l λu' s2 I2 ru=>⟨v,H1,I2,ru,q⟩
theorem yn (ha:PE X o ta) (hv:PE X value tv) (hs:swapsWith value (some (.Attribute o f pos')) pos.line X.env=pure false):PS X (.Assign [.Attribute o f pos'] value pos) (sFld X.K ta tv f):=by
 intro pins s σ H D I h;refine plainObj_wpAny_Assign_Attribute (thn (hv pins s σ H _ I h) λu s1 ⟨y,H1,I1,ry,q⟩=>thn (ha pins s1 σ H1 _ I1 q) λov s2 ⟨x,H2,I2,rx,a,C,dx,fs,ex,ea,c,n,l,q2⟩=>?_) hs
 subst ex;obtain rfl:ov=Value.ref a:=rx;exact qc0 I2 ea c n l ry λs3 I3=>⟨σ,_,I3,q2⟩
theorem ck {op:Operator} {rd:V->V->Hp->VK->Prop} (ha:PE X o ta) (hv:PE X value tv) (hop:InOp X op rd):PS X (.AugAssign (.Attribute o f tpos) op value pos) (qh1 X.K ta tv rd f):=by
 intro pins s σ H D I h;refine wpAny_AugAssign_AttributeAny (thn (ha pins s σ H _ I h) λov s1 ⟨x,H1,I1,rx,a,C,dx,fs,v,ex,ea,c,n,l,q⟩=>?_)
 subst ex;obtain rfl:ov=Value.ref a:=rx;refine qbw I1 ea c n l λu s2 I2 ru=>thn (hv pins s2 σ H1 _ I2 q) λw3 s3 ⟨y,H2,I3,ry,q3⟩=>thn (hop pins s3 σ H2 v y u w3 _ I3 ru ry q3) λw4 s4 ⟨z,H3,I4,rz,dx',fs',ea',l',q4⟩=>?_
 exact qc0 I4 ea' c n l' rz λs5 I5=>⟨σ,_,I5,q4⟩
def rAdd:V->V->Hp->VK->Prop:=λx y H Q=>∃ i j,x=.int i/\y=.int j/\Q (.int (i+j)) H
def rSub:V->V->Hp->VK->Prop:=λx y H Q=>∃ i j,x=.int i/\y=.int j/\Q (.int (i - j)) H
theorem qkk:InOp X .Add rAdd:=by
 rintro pins s σ H x y u v Q I rx ry ⟨i,j,rfl,rfl,q⟩;obtain ⟨t,rfl⟩:=(show ∃ t,u=Value.int i t from rx)
 obtain ⟨t',rfl⟩:=(show ∃ t',v=Value.int j t' from ry)
 exact PyProof.Rows.iadd_int ⟨.int (i+j),H,I.tok _,⟨_,rfl⟩,q⟩
theorem qlg:InOp X .Sub rSub:=by
 rintro pins s σ H x y u v Q I rx ry ⟨i,j,rfl,rfl,q⟩;obtain ⟨t,rfl⟩:=(show ∃ t,u=Value.int i t from rx)
 obtain ⟨t',rfl⟩:=(show ∃ t',v=Value.int j t' from ry)
 exact PyProof.Rows.isub_int ⟨.int (i - j),H,I.tok _,⟨_,rfl⟩,q⟩
end
section
variable {X:Cx} {pins:List (Addr×Obj)} {σ:St} {H:Hp} {s:Shared} {A:Around} {E:Value->Shared->Prop} {Q:Value->Shared->Prop} {c:Value} {b:Bool}
inductive TyOf (K:W.Frag) (H:Hp):V->Value->Prop where
 | non:TyOf K H .non (.type "NoneType")
 | bl (x:Bool):TyOf K H (.bl x) (.type "bool")
 | int (i:Int):TyOf K H (.int i) (.type "int")
 | str (x:Str):TyOf K H (.str x) (.type "str")
 | flt (x:UInt64):TyOf K H (.flt x) (.type "float")
 | lst {a:Addr} {xs:List V} (e:H a=some (.lst xs)):TyOf K H (.ref a) (.type "list")
 | frz {a:Addr} {o:Obj} {xs:List V} (e:H a=some (.frz o (.lst xs))):TyOf K H (.ref a) (.type "list")
 | tup {a:Addr} {xs:List V} (e:H a=some (.tup xs)):TyOf K H (.ref a) (.type "tuple")
 | dK {a:Addr} {kvs:List (Key×V)} (e:H a=some (.dK kvs)):TyOf K H (.ref a) (.type "dict")
 | dT {a:Addr} {kvs:List (List Key×V)} (e:H a=some (.dT kvs)):TyOf K H (.ref a) (.type "dict")
 | ins {a C dx:Addr} {fs:List (Str×V)} (e:H a=some (.ins C dx fs)) (cl:Cls K C) (ha:W.findIn K (.ref C) "__class__" = some (some (.builtin "object.__class__")))
   (hn:W.specialIn K (.builtin "object.__class__") "__get__" = some (some (.builtin "getset_descriptor.__get__"))) (htk:W.takesIn K (.builtin "object.__class__")=some true)
   (hm:W.mroIn K C (.type "object")=some true):TyOf K H (.ref a) (.ref C)
end
structure Room (k:Nat) (A:Around):Prop where
 hd:A.handled=none
 dp:A.depth+3 * k+5<recursionLimit
 un:A.units+16 * k+200<cLine
theorem Room.mono {j k:Nat} {A:Around} (r:Room k A) (h:j<=k):Room j A:=⟨r.hd,by have:=r.dp;omega,by have:=r.un;omega⟩
theorem Room.q9 {j k:Nat} {A:Around} (r:Room k A) (h:j<=k:=by decide):Room j A:=r.mono h
theorem Room.deeper {k:Nat} {A:Around} (r:Room (k+1) A) (env:Env):Room k (A.deeper env):=
 ⟨r.hd,by have:=r.dp;show A.depth+1+3 * k+5<_;omega,by have:=r.un;show A.units+3+16 * k+200<_;omega⟩
theorem qhp {A:Around} {C:Addr} {us:List Value} {kw:List (Str×Value)}:(A.under (.builtin "type.__call__" ⟨.ref C::us,kw⟩)).depth=A.depth+1:=by
 first | rfl | simp [Around.under,Code.weight,Code.isCreation,Code.isGuard,Code.isCaller,Code.frames,Code.isFrame,guardIds]
theorem qhy {A:Around} {C:Addr} {us:List Value} {kw:List (Str×Value)}:(A.under (.builtin "type.__call__" ⟨.ref C::us,kw⟩)).units=A.units+1:=by
 first | rfl | simp [Around.under,Code.cUnits,Code.frames,Code.isFrame]
theorem Room.make {k:Nat} {A:Around} (r:Room (k+1) A) (C:Addr) (us:List Value) (kw:List (Str×Value)):Room k (A.under (.builtin "type.__call__" ⟨.ref C::us,kw⟩)):=
 ⟨r.hd,by have:=r.dp;rw [qhp];omega,by have:=r.un;rw [qhy];omega⟩
theorem Room.depth {k:Nat} {A:Around} (r:Room k A):A.depth<recursionLimit:=by have:=r.dp;omega
theorem Room.units {k:Nat} {A:Around} (r:Room k A):A.units+64<cLine:=by have:=r.un;omega
def tNil:TA:=λ_ H Q=>Q [] H
def vt (ta:TE) (tr:TA):TA:=λσ H Q=>ta σ H λx H1=>tr σ H1 λxs H2=>Q (x::xs) H2
section
variable {X:Cx} {e:Expr} {es:List Expr} {te:TE} {t:TA} {pos:Pos}
theorem j6:PA X [] tNil:=λ_ _ _ _ H Q I h=>Calls.spliced_nil ⟨[],H,I, .nil,h⟩
theorem j4 (ha:PE X e te) (hr:PA X es t) (hs:starEach (e::es) X.env=(false,eval e X.env)::starEach es X.env:=by rfl):PA X (e::es) (vt te t):=by
 intro pos pins s σ H Q I h;rw [hs];show wpAny _ _ (spliced ((false,eval e X.env)::backTo pos (starEach es X.env))) _ _ s;refine Calls.spliced_cons (thn (ha pins s σ H _ I h) λu s1 ⟨x,H1,I1,r1,q1⟩=>?_)
 exact thn (hr pos pins s1 σ H1 _ I1 q1) λus s2 ⟨xs,H2,I2,r2,q2⟩=>⟨x::xs,H2,I2, .cons r1 r2,q2⟩
def tTup (t:TA):TE:=λσ H Q=>t σ H λxs H1=>xs.length<=sizeLine/\∀ p,H1 p=none->Q (.ref p) (upd H1 p (.tup xs))
def tLst (t:TA):TE:=λσ H Q=>t σ H λxs H1=>xs.length<=sizeLine/\∀ p,H1 p=none->Q (.ref p) (upd H1 p (.lst xs))
theorem yw {x1} (h:PA X es t):PE X (.Tuple es x1 pos) (tTup t):=by
 intro pins s σ H Q I hq;refine wpAny_Tuple_spliced (thn (h pos pins s σ H _ I hq) λus s1 ⟨xs,H1,I1,r,z,q⟩=>⟨by rw [<- r.length];exact z,?_⟩)
 have hf:H1 s1.heap.objs.size=none:=I1.hok.fresh (Nat.le_refl _);refine ⟨.ref s1.heap.objs.size,upd H1 s1.heap.objs.size (.tup xs),I1.laid (t':=s1.toks) (λb u e=>Heap.get?_push_of_some _ e) (Nat.le_refl _) ?_,rfl,q _ hf⟩
 exact ⟨z,us,r,⟨_,Heap.get?_push_size _ rfl,rfl,_,rfl⟩⟩
theorem xm (h:PA X es t):PE X (.List es pos) (tLst t):=by
 intro pins s σ H Q I hq;refine wpAny_List_spliced (thn (h pos pins s σ H _ I hq) λus s1 ⟨xs,H1,I1,r,z,q⟩=>⟨by rw [<- r.length];exact z,?_⟩)
 have hf:H1 s1.heap.objs.size=none:=I1.hok.fresh (Nat.le_refl _);refine ⟨.ref s1.heap.objs.size,upd H1 s1.heap.objs.size (.lst xs),I1.laid (t':=s1.toks) (λb u e=>Heap.get?_push_of_some _ e) (Nat.le_refl _) ?_,rfl,q _ hf⟩
 exact ⟨z,us,0,r,Heap.get?_push_size _ rfl⟩
end
abbrev Sp:=List V->Hp->VK->XK->Prop
abbrev CXT:=List Env->Hp->Shared->XK->Value->Shared->Prop
structure Env0 (P:Program) (w:World) (K:W.Frag) (mg:Str->Option Value) (base:Heap) (A:Around) (outer:List Env) (s:Shared) (H:Hp):Prop where
 frames:A.frames=some outer
 mod:Mod K mg base
 bs:∀ b o,base.get? b=some o->s.heap.get? b=some o/\H b=none
 bsz:base.objs.size<=s.heap.objs.size
 funs:s.heap.FunFrames base outer
 frf:∀ b∈frs outer,H b=none
 hok:HOk P w H s.heap
 bare:AllBare s.gens
def CE (outer:List Env) (P:Program) (w:World) (H:Hp) (s:Shared) (Q:VK) (u:Value) (s':Shared):Prop:=
 ∃ v H',s'.os=s.os/\AllBare s'.gens/\Un (frs outer) [] H H' s.heap s'.heap/\HOk P w H' s'.heap/\RelV v u/\Q v H'
def CR (CX:CXT) (outer:List Env) (P:Program) (w:World) (H:Hp) (s:Shared) (Q:VK) (E:XK) (r:Result) (s':Shared):Prop:=
 match r with
 | .ok (.ret u)=>CE outer P w H s Q u s'
 | .ok _=>False
 | .error e=>CX outer H s E e s'
structure FnOk (P:Program) (w:World) (K:W.Frag) (mg:Str->Option Value) (base:Heap) (CX:CXT) (k:Nat) (f:Addr) (fd:FuncData) (ps:List Str) (sp:Sp):Prop where
 len:∀ vs H Q E,sp vs H Q E->vs.length=ps.length
 run:∀ (A:Around) (outer:List Env) (s:Shared) (H:Hp) (args:Args) (us:List Value) (vs:List V) (Q:VK) (E:XK),Room k A->Env0 P w K mg base A outer s H->BindsTo s fd args (ps.zip us)->Vals vs us->sp vs H Q E ->
  codeAny (model P w) A (.call (.ref f) args) (CR CX outer P w H s Q E) s
theorem FnOk.imp {P:Program} {w:World} {K:W.Frag} {mg:Str->Option Value} {base:Heap} {CX:CXT} {k:Nat} {f:Addr} {fd:FuncData} {ps:List Str} {sp sp':Sp} (F:FnOk P w K mg base CX k f fd ps sp)
  (h:∀ vs H Q E,sp' vs H Q E->sp vs H Q E):FnOk P w K mg base CX k f fd ps sp':=
 ⟨λvs H Q E q=>F.len vs H Q E (h _ _ _ _ q),λA outer s H args us vs Q E hr he hb hv hs=>F.run A outer s H args us vs Q E hr he hb hv (h _ _ _ _ hs)⟩
theorem Env0.make {P:Program} {w:World} {K:W.Frag} {mg:Str->Option Value} {base:Heap} {A:Around} {outer:List Env} {s:Shared} {H:Hp} (e:Env0 P w K mg base A outer s H) (C:Addr) (us:List Value) (kw:List (Str×Value)) :
  Env0 P w K mg base (A.under (.builtin "type.__call__" ⟨.ref C::us,kw⟩)) outer s H:=⟨by first | exact e.frames | (simpa [Around.under,Code.envs,Code.isFrame,pushEnvs] using e.frames),e.mod,e.bs,e.bsz,e.funs,e.frf,e.hok,e.bare⟩
section
variable {X:Cx} {pins:List (Addr×Obj)} {σ:St} {H:Hp} {s s':Shared}
theorem Inv.env0 (I:Inv X pins σ H s):Env0 X.prog X.w X.K X.mg X.base X.A X.stack s H:=
 ⟨I.ok.frames,I.ok.mod,I.bs,Nat.le_trans I.ok.bsz I.sz,I.stack,I.qb8,I.hok,I.bare⟩
theorem Inv.after {Q:VK} {u:Value} (I:Inv X pins σ H s) (h:CE X.stack X.prog X.w H s Q u s'):EP X pins σ Q u s':=by
 obtain ⟨v,H',os,bare,un,hok,r,q⟩:=h;obtain ⟨hh,g,d,t,os'⟩:=s';obtain rfl:os'=s.os:=os;exact ⟨v,H',I.call (h':=hh) (g':=g) (d':=d) (t':=t) (ch:=[]) un hok bare (λb z=>absurd z (by simp)),r,q⟩
end
def i8 (sp:Sp) (dvs:List V) (E:XK) (t:TA):TE:=λσ H Q=>t σ H λvs H1=>sp (vs++dvs) H1 Q E
def i9 (C:Addr) (m:Str) (sp:Sp) (dvs:List V) (E:XK) (ta:TE) (t:TA):TE:=λσ H Q=>ta σ H λx H1=>∃ a dx fs,x=.ref a/\H1 a=some (.ins C dx fs)/\fs.lookup m=none /\
 t σ H1 λvs H2=>sp (x::(vs++dvs)) H2 Q E
def ia (C:Addr) (sp:Sp) (dvs:List V) (E:XK) (t:TA):TE:=λσ H Q=>t σ H λvs H1=>∀ x dx,H1 x=none->H1 dx=none->dx≠x ->
 sp (.ref x::(vs++dvs)) (upd (upd H1 dx (.own x)) x (.ins C dx [])) (λv H2=>v=.non/\Q (.ref x) H2) E
def Binds (K:W.Frag) (fd:FuncData) (ps:List Str) (ds:List Value):Prop:=
 ∀ (s:Shared) (us:List Value),K.In s.heap->(us++ds).length=ps.length->BindsTo s fd ⟨us,[]⟩ (ps.zip (us++ds))
theorem Binds.all {K:W.Frag} {fd:FuncData} {ps:List Str} (h:∀ us:List Value,us.length=ps.length->bindArgs fd ⟨us,[]⟩=pure (ps.zip us)):Binds K fd ps []:=λs us _ hl=>by
 rw [List.append_nil] at hl ⊢;exact .of_eq (h us hl)
def Passes (CX:CXT) (X:Cx) (E:XK):Prop:=∀ (pins:List (Addr×Obj)) (σ:St) (H:Hp) (s:Shared) (e:Value) (s':Shared),Inv X pins σ H s->CX X.stack H s E e s'->X.xe e s'
section
variable {X:Cx} {CX:CXT} {k:Nat} {f C:Addr} {fd:FuncData} {ps:List Str} {sp:Sp} {dvs:List V} {ds:List Value} {E:XK} {x m:Str} {p pos apos:Pos} {e o:Expr} {es:List Expr} {ta:TE} {t:TA}
theorem cm {pins:List (Addr×Obj)} {σ:St} {H:Hp} {s:Shared} {Q:VK} {us:List Value} {vs:List V} (F:FnOk X.prog X.w X.K X.mg X.base CX k f fd ps sp) (hr:Room k X.A) (hb:Binds X.K fd ps ds) (hd:Vals dvs ds) (hx:Passes CX X E)
  (I:Inv X pins σ H s) (r:Vals vs us) (h:sp (vs++dvs) H Q E):wpAny (model X.prog X.w) X.A (call (.ref f) us) (EP X pins σ Q) X.xe s:=by
 have r2:Vals (vs++dvs) (us++ds):=r.append hd;have hl:(us++ds).length=ps.length:=by rw [<- r2.length];exact F.len _ _ _ _ h
 refine wpAny_call (codeAny_mono (F.run X.A X.stack s H ⟨us,[]⟩ (us++ds) (vs++dvs) Q E hr I.env0 (hb s us I.kIn hl) r2 h) λr s' hq=>?_)
 cases r with
 | error e=>exact hx pins σ H s e s' I hq
 | ok fl =>
  cases fl with
  | ret u=>exact I.after hq
  | next=>exact False.elim hq
  | brk=>exact False.elim hq
  | cont=>exact False.elim hq
theorem yo (F:FnOk X.prog X.w X.K X.mg X.base CX k f fd ps sp) (hr:Room k X.A) (hg:Gl X x) (hm:X.mg x=some (.ref f)) (hk:W.keepIn X.K (.ref f)=true) (hb:Binds X.K fd ps ds) (hd:Vals dvs ds) (hx:Passes CX X E)
  (ha:PA X (e::es) t) (hdb:(x == ("__debug__" : Str))=false:=by decide) (he:starEach (e::es) X.env=(false,eval e X.env)::starEach es X.env:=by rfl) (hpl:(backTo pos (starEach es X.env)).any (·.1)=false:=by rfl) :
  PE X (.Call (.Name x p) (e::es) [] pos) (i8 sp dvs E t):=by
 intro pins s σ H Q I h;refine wpAny_Call_Name_kw (my I hg hm ?_ hdb);refine W.callWith_K (h₀:=X.base) I.ok.mod.kin hk (thn (ha pos pins s σ H _ I h) λus s1 ⟨vs,H1,I1,r,q⟩=>⟨I1.kIn,?_⟩) he hpl
 exact cm F hr hb hd hx I1 r q
theorem yd {pl:Sem Bool} (he:PE X o ta) (c:Cls X.K C) (hm:Meth X.K C m f) (F:FnOk X.prog X.w X.K X.mg X.base CX k f fd ps sp) (hr:Room k X.A) (hb:Binds X.K fd ps ds) (hd:Vals dvs ds) (hx:Passes CX X E) (ha:PA X (e::es) t)
  (hst:starEach (e::es) X.env=(false,eval e X.env)::starEach es X.env:=by rfl) (hpl:(backTo pos (starEach es X.env)).any (·.1)=false:=by rfl)
  (ht:eval (.Call (.Attribute o m apos) (e::es) [] pos) X.env=(do
   let ov <- eval o X.env
   standAt apos.atName
   let (f,first) <- holding [ov] (getMethod ov m pl)
   callWith pos f first (backTo pos (starEach (e::es) X.env)) (backToKw pos (keywordEach [] X.env))):=by rfl) :
  PE X (.Call (.Attribute o m apos) (e::es) [] pos) (i9 C m sp dvs E ta t):=by
 intro pins s σ H Q I h;refine W.methodCall_KW (pl:=pl) (thn (he pins s σ H _ I h) λu s1 ⟨x,H1,I1,rx,a,dx,fs,ex,ea,l,q⟩=>?_) ht
 subst ex;obtain rfl:u=Value.ref a:=rx;refine i7 I1 ea c hm l ?_;refine W.callWith_K (first:=[.ref a]) (h₀:=X.base) I.ok.mod.kin hm.kp (thn (ha pos pins s1 σ H1 _ I1 q) λus s2 ⟨vs,H2,I2,r,q2⟩=>⟨I2.kIn,?_⟩) hst hpl
 exact cm (us:=.ref a::us) (vs:=.ref a::vs) F hr hb hd hx I2 (.cons rfl r) q2
theorem qlh {pl:Sem Bool} (he:PE X o ta) (c:Cls X.K C) (hm:Meth X.K C m f) (F:FnOk X.prog X.w X.K X.mg X.base CX k f fd ps sp) (hr:Room k X.A) (hb:Binds X.K fd ps ds) (hd:Vals dvs ds) (hx:Passes CX X E)
  (ht:eval (.Call (.Attribute o m apos) [] [] pos) X.env=(do
   let ov <- eval o X.env
   standAt apos.atName
   let (f,first) <- holding [ov] (getMethod ov m pl)
   callWith pos f first (backTo pos (starEach [] X.env)) (backToKw pos (keywordEach [] X.env))):=by rfl) :
  PE X (.Call (.Attribute o m apos) [] [] pos) (i9 C m sp dvs E ta tNil):=by
 intro pins s σ H Q I h;refine W.methodCall_KW (pl:=pl) (thn (he pins s σ H _ I h) λu s1 ⟨x,H1,I1,rx,a,dx,fs,ex,ea,l,q⟩=>?_) ht
 subst ex;obtain rfl:u=Value.ref a:=rx;refine i7 I1 ea c hm l ?_;exact W.callWith_K0 (first:=[.ref a]) I1.kIn hm.kp (cm (us:=[.ref a]) (vs:=[.ref a]) F hr hb hd hx I1 (.cons rfl .nil) q)
structure Mk (K:W.Frag) (C f:Addr):Prop where
 makes:W.makesIn K C=true
 init:W.findIn K (.ref C) "__init__" = some (some (.ref f))
 fn:W.isFn K (.ref f)=true
 kp:W.keepIn K (.ref C)=true
theorem qfv {pins:List (Addr×Obj)} {σ:St} {H:Hp} {s:Shared} {Q:VK} {us:List Value} {vs:List V} (M:Mk X.K C f) (F:FnOk X.prog X.w X.K X.mg X.base CX k f fd ps sp) (hr:Room (k+1) X.A) (hb:Binds X.K fd ps ds) (hd:Vals dvs ds)
  (hx:Passes CX X E) (I:Inv X pins σ H s) (r:Vals vs us)
  (h:∀ x dx,H x=none->H dx=none->dx≠x->sp (.ref x::(vs++dvs)) (upd (upd H dx (.own x)) x (.ins C dx [])) (λv H2=>v=.non/\Q (.ref x) H2) E) :
  wpAny (model X.prog X.w) X.A (call (.ref C) us) (EP X pins σ Q) X.xe s:=by
 have hq:=h (s.heap.objs.size+1) s.heap.objs.size (I.hok.fresh (Nat.le_succ _)) (I.hok.fresh (Nat.le_refl _)) (Nat.ne_of_lt (Nat.lt_succ_self _));have I2:=Inv.made (C:=C) I;have r2:Vals (V.ref (s.heap.objs.size+1)::(vs++dvs)) (Value.ref (s.heap.objs.size+1)::(us++ds)):=.cons rfl (r.append hd);have hl:(Value.ref (s.heap.objs.size+1)::us++ds).length=ps.length:=by
  have e:=r2.length;rw [F.len _ _ _ _ hq] at e;exact e.symm
 refine wpAny_call (qmt (f:=f) I.kIn M.makes M.init (beq_iff_eq.mp M.fn) (codeAny_mono (F.run _ X.stack _ _ ⟨Value.ref (s.heap.objs.size+1)::us,[]⟩ (Value.ref (s.heap.objs.size+1)::(us++ds)) _ _ E (hr.make C us [])
  (I2.env0.make C us []) (hb _ (Value.ref (s.heap.objs.size+1)::us) I2.kIn hl) r2 hq) λr s' hq' => ?_))
 cases r with
 | error e=>exact hx pins σ _ _ e s' I2 hq'
 | ok fl =>
  cases fl with
  | ret u =>
   obtain ⟨v,H',I3,rv,ev,q3⟩:=I2.after hq';subst ev;exact ⟨rv,⟨V.ref (s.heap.objs.size+1),H',I3,rfl,q3⟩⟩
  | next=>exact False.elim hq'
  | brk=>exact False.elim hq'
  | cont=>exact False.elim hq'
theorem zy (M:Mk X.K C f) (F:FnOk X.prog X.w X.K X.mg X.base CX k f fd ps sp) (hr:Room (k+1) X.A) (hg:Gl X x) (hm:X.mg x=some (.ref C)) (hb:Binds X.K fd ps ds) (hd:Vals dvs ds) (hx:Passes CX X E)
  (ha:PA X (e::es) t) (hdb:(x == ("__debug__" : Str))=false:=by decide) (he:starEach (e::es) X.env=(false,eval e X.env)::starEach es X.env:=by rfl) (hpl:(backTo pos (starEach es X.env)).any (·.1)=false:=by rfl) :
  PE X (.Call (.Name x p) (e::es) [] pos) (ia C sp dvs E t):=by
 intro pins s σ H Q I h;refine wpAny_Call_Name_kw (my I hg hm ?_ hdb);refine W.callWith_K (h₀:=X.base) I.ok.mod.kin M.kp (thn (ha pos pins s σ H _ I h) λus s1 ⟨vs,H1,I1,r,q⟩=>⟨I1.kIn,?_⟩) he hpl
 exact qfv M F hr hb hd hx I1 r q
theorem qmj (M:Mk X.K C f) (F:FnOk X.prog X.w X.K X.mg X.base CX k f fd ps sp) (hr:Room (k+1) X.A) (hg:Gl X x) (hm:X.mg x=some (.ref C)) (hb:Binds X.K fd ps ds) (hd:Vals dvs ds) (hx:Passes CX X E)
  (hdb:(x == ("__debug__" : Str))=false:=by decide):PE X (.Call (.Name x p) [] [] pos) (ia C sp dvs E tNil):=by
 intro pins s σ H Q I h;refine wpAny_Call_Name_kw (my I hg hm ?_ hdb);exact W.callWith_K0 I.kIn M.kp (qfv (us:=[]) M F hr hb hd hx I .nil h)
end
structure ju (N P:List Str) (sc:Scope):Prop where
 kind:sc.kind=.function
 co:sc.isCoroutine=false
 gen:sc.isGenerator=false
 nd:N.Nodup
 pre:N.take P.length=P
 par:∀ x∈P,sc.names.lookup x=some .local\/sc.names.lookup x=some .cell
 nofree:∀ y∈sc.names,y.2≠.free
theorem qdn {kindOf:Str->Option NameKind} {x:Str}:∀ {binds:List (Str×Value)} {m:Str->Option Value},(∀ v,(x,v)∉binds)->bindL kindOf binds m x=m x
 | [],_,_=>rfl
 | (n,v)::r,m,h=>by
  unfold bindL;rw [qdn λw hw=>h w (List.mem_cons_of_mem _ hw)]
  split
  ·have:x≠n:=by rintro rfl;exact h v List.mem_cons_self
   simp [this]
  ·rfl
theorem qdu {kindOf:Str->Option NameKind} {x:Str}:∀ {binds:List (Str×Value)} {m:Str->Option Value},(∀ v,(x,v)∉binds)->bindC kindOf binds m x=m x
 | [],_,_=>rfl
 | (n,v)::r,m,h=>by
  unfold bindC;rw [qdu λw hw=>h w (List.mem_cons_of_mem _ hw)]
  split
  ·rfl
  ·have:x≠n:=by rintro rfl;exact h v List.mem_cons_self
   simp [this]
theorem qdk {kindOf:Str->Option NameKind} {x:Str} {v:Value}:∀ {P:List Str} {vs:List Value} {i:Nat} {m:Str->Option Value},P.Nodup->P[i]?=some x->vs[i]?=some v->kindOf x=some .local ->
  bindL kindOf (P.zip vs) m x=some v
 | [],_,_,_,_,h,_,_=>by simp at h
 | _::_,[],_,_,_,_,h,_=>by simp at h
 | p::P,w::vs,0,m,nd,h1,h2,hk=>by
  simp at h1 h2;subst h1;subst h2;show bindL kindOf ((p,w)::P.zip vs) m p=_;unfold bindL;rw [qdn λv hv=>(List.nodup_cons.mp nd).1 (List.of_mem_zip hv).1,if_pos hk]
  simp
 | p::P,w::vs,i+1,m,nd,h1,h2,hk=>by
  show bindL kindOf ((p,w)::P.zip vs) m x=_;unfold bindL;exact qdk (i:=i) (List.nodup_cons.mp nd).2 (by simpa using h1) (by simpa using h2) hk
theorem qe3 {kindOf:Str->Option NameKind} {x:Str} {v:Value}:∀ {P:List Str} {vs:List Value} {i:Nat} {m:Str->Option Value},P.Nodup->P[i]?=some x->vs[i]?=some v->kindOf x≠some .local ->
  bindC kindOf (P.zip vs) m x=some v
 | [],_,_,_,_,h,_,_=>by simp at h
 | _::_,[],_,_,_,_,h,_=>by simp at h
 | p::P,w::vs,0,m,nd,h1,h2,hk=>by
  simp at h1 h2;subst h1;subst h2;show bindC kindOf ((p,w)::P.zip vs) m p=_;unfold bindC;rw [qdu λv hv=>(List.nodup_cons.mp nd).1 (List.of_mem_zip hv).1,if_neg hk]
  simp
 | p::P,w::vs,i+1,m,nd,h1,h2,hk=>by
  show bindC kindOf ((p,w)::P.zip vs) m x=_;unfold bindC;exact qe3 (i:=i) (List.nodup_cons.mp nd).2 (by simpa using h1) (by simpa using h2) hk
def start (N:List Str) (vs:List V):St:=vs.map some++List.replicate (N.length - vs.length) none
def cxOf (CX:CXT) (P:Program) (w:World) (K:W.Frag) (mg:Str->Option Value) (base:Heap) (N:List Str) (qual:Str) (scope:Scope) (f:Addr) (cd:Value) (A:Around) (outer:List Env) (s:Shared) (H:Hp) (E:XK):Cx where
 prog:=P
 w:=w
 K:=K
 mg:=mg
 base:=base
 A:=A.deeper (envOfC qual scope s.heap.objs.size f cd)
 N:=N
 s₀:=s
 H₀:=H
 env:=envOfC qual scope s.heap.objs.size f cd
 outer:=outer
 stack:=envOfC qual scope s.heap.objs.size f cd::outer
 ex:=[]
 calm:=true
 fn:=λ_=>true
 pn:=[]
 xe:=λe s' => wpAny (model P w) (A.deeper (envOfC qual scope s.heap.objs.size f cd)) (leaving (envOfC qual scope s.heap.objs.size f cd) e) (λ_ s'' => CX outer H s E e s'') (λe' s'' => CX outer H s E e' s'') s'
theorem qfx {sc:Scope} {n:Nat} {x:Str} (h:sc.names.lookup x=some .cell):∃ c,(cellsFrom n sc.names []).lookup x=some c:=by
 have q:=W.cellsFrom_some sc.names n [] (.inl h);exact Option.isSome_iff_exists.mp q
theorem qdz {CX:CXT} {P:Program} {w:World} {K:W.Frag} {mg:Str->Option Value} {base:Heap} {N ps:List Str} {qual:Str} {scope:Scope} {f:Addr} {cd:Value} {A:Around} {outer:List Env} {s s1:Shared} {H:Hp} {E:XK} {us:List Value} {vs:List V}
  (S:ju N ps scope) (hd:A.handled=none) (e0:Env0 P w K mg base A outer s H) (hl:vs.length=ps.length) (r:Vals vs us)
  (x:InCallC s s.heap.objs.size (bindL (envOfC qual scope s.heap.objs.size f cd).kindOf (ps.zip us) λ_=>none) (cellsFrom (s.heap.objs.size+1) scope.names []) (bindC (envOfC qual scope s.heap.objs.size f cd).kindOf (ps.zip us) λ_=>none) s1) :
  Inv (cxOf CX P w K mg base N qual scope f cd A outer s H E) [] (start N vs) H s1:=by
 have hpl:ps.length<=N.length:=by have:=congrArg List.length S.pre;rw [List.length_take] at this;omega
 obtain ⟨h1,tk,rfl,hk⟩:=x.done;have noA:∀ b:Addr,b∉(cxOf CX P w K mg base N qual scope f cd A outer s H E).ex:=λb z=>absurd (show b∈([]:List Addr) from z) (by simp)
 refine ⟨⟨e0.mod,S.kind,rfl,rfl,Nat.le_refl _,λy z c h1 h2=>?_,λy hy=>?_,λy c _ h=>?_,λ_=>hd,Around.frames_deeper e0.frames, .inr ⟨rfl,rfl⟩,λb z=>absurd z (noA b),e0.bs,e0.bsz,λb _ _=>noA b,λb z=>absurd z (noA b),e0.funs,e0.frf⟩,
  rfl,e0.bare,Un.kept hk,⟨_,x.toInCall.ns,λi y v h1 h2 h3=>?_⟩,λy c h=>⟨_,x.cell y c h⟩,e0.hok.fresh (Nat.le_refl _),λy c h=>?_,λp hp=>absurd (show p∈([]:List (Addr×Obj)) from hp) (by simp),e0.hok.kept hk,?_⟩
 ·exact name_of_addr x.apart (PySem.mem_of_lookup h1) (PySem.mem_of_lookup h2)
 ·have hy:scope.names.lookup y=some .cell\/scope.names.lookup y=some .free:=hy
  rcases hy with hy | hy
  ·exact qfx hy
  ·exact absurd rfl (S.nofree _ (PySem.mem_of_lookup hy))
 ·exact Nat.le_of_lt (x.above y c (PySem.mem_of_lookup h))
 ·have hi:i<vs.length:=by
   unfold start at h2
   by_cases hi:i<vs.length
   ·exact hi
   ·rw [List.getElem?_append_right (by simpa using hi)] at h2
    rw [List.getElem?_replicate] at h2;split at h2 <;> cases h2
  have ha:vs[i]?=some v:=by
   unfold start at h2;rw [List.getElem?_append_left (by simpa using hi),List.getElem?_map] at h2
   cases e:vs[i]? with
   | none=>rw [e] at h2;cases h2
   | some a=>rw [e] at h2;cases h2;rfl
  obtain ⟨u,hu,rv⟩:=r.get ha;have hp:ps[i]?=some y:=by
   rw [<- S.pre,List.getElem?_take_of_lt (by omega)];exact h1
  have ndP:ps.Nodup:=by rw [<- S.pre];exact S.nd.sublist (List.take_sublist _ _)
  refine ⟨u,rv,?_⟩;rcases S.par y (List.mem_of_getElem? hp) with k | k
  ·exact .inl ⟨k,qdk ndP hp hu k⟩
  ·obtain ⟨c,e⟩:=qfx (n:=s.heap.objs.size+1) k
   refine .inr ⟨.inl k,c,e,?_⟩;have q:=x.cell y c e;rw [qe3 ndP hp hu (by show scope.names.lookup y≠_;rw [k];decide)] at q
   exact q
 ·exact e0.hok.fresh (Nat.le_of_lt (x.above y c (PySem.mem_of_lookup h)))
 ·unfold start
  show _=N.length;rw [List.length_append,List.length_map,List.length_replicate];omega
theorem ib {CX:CXT} {P:Program} {w:World} {K:W.Frag} {mg:Str->Option Value} {base:Heap} {k:Nat} {f:Addr} {name qual:Str} {params:Arguments} {body:List Stmt} {scope:Scope} {dV kV doc pm cdv ct oc:Value} {an od:Option Addr}
  {osl:Array (Option Value)} {N ps:List Str} {sp:Sp} (lk:K.lookup f=some ⟨oc,od, .func (W.fnOf name qual params body scope dV kV doc pm an cdv ct),osl⟩) (hcd:W.codeIn K cdv qual=true) (S:ju N ps scope)
  (len:∀ vs H Q E,sp vs H Q E->vs.length=ps.length)
  (hbody:∀ (A:Around) (outer:List Env) (s:Shared) (H:Hp) (vs:List V) (Q:VK) (E:XK),Room k (A.deeper (envOfC qual scope s.heap.objs.size f cdv))->sp vs H Q E ->
   ∃ t,PSs (cxOf CX P w K mg base N qual scope f cdv A outer s H E) body t/\t {nx:=λ_ H' => Q .non H',rt:=Q} (start N vs) H) :
  FnOk P w K mg base CX (k+1) f (W.fnOf name qual params body scope dV kV doc pm an cdv ct) ps sp:=by
 refine ⟨len,λA outer s H args us vs Q E hr e0 hb r hsp=>?_⟩
 have hl:=len _ _ _ _ hsp;have KX:K.In s.heap:=e0.mod.kin.keeps λb o e=>(e0.bs b o e).1
 have lim:s.heap.NoLimit:=e0.mod.nolimit.keeps λb o e=>(e0.bs b o e).1
 have hkind:∀ y∈ps.zip us,scope.names.lookup y.1=some .local\/(scope.names.lookup y.1=some .cell/\((cellsFrom (s.heap.objs.size+1) scope.names []).lookup y.1).isSome=true):=λ⟨n,v⟩ hy=>by
  rcases S.par n (List.of_mem_zip hy).1 with q | q
  ·exact .inl q
  ·exact .inr ⟨q,W.cellsFrom_some _ _ _ (.inl q)⟩
 refine codeAny_call_function hr.depth (KX _ _ lk) rfl S.co S.gen rfl (W.codeRec_of KX hcd) (hb _ _ _ _ ?_);refine wpAny_newFunctionEnv_cells S.kind hkind λenv he s1 x=>?_
 subst he;refine ⟨lim.keeps x.toInCall.keep,codeAny_func ?_⟩;obtain ⟨t,ht,hq⟩:=hbody A outer s H vs Q E (hr.deeper _) hsp;have I:Inv (cxOf CX P w K mg base N qual scope f cdv A outer s H E) [] (start N vs) H s1:=qdz S hr.hd e0 hl r x;refine wpAny_mono (ht [] s1 (start N vs) H _ I hq) (λfl s' hs=>?_) λe s' hs=>hs
 have fin:∀ {σ':St} {H':Hp} {v:V} {u:Value},Inv (cxOf CX P w K mg base N qual scope f cdv A outer s H E) [] σ' H' s'->RelV v u->Q v H'->CE outer P w H s Q u s':=
  λ{σ' H' v u} J rv q=>⟨v,H',J.os,J.bare,J.base,J.hok,rv,q⟩
 cases fl with
 | ret u =>
  obtain ⟨v, σ',H',J,rv,q⟩:=hs;exact fin J rv q
 | next =>
  obtain ⟨σ',H',J,q⟩:=hs;exact fin (v:=V.non) (u:=Value.none) J rfl q
 | brk =>
  obtain ⟨_,_,_,q⟩:=hs;exact False.elim q
 | cont =>
  obtain ⟨_,_,_,q⟩:=hs;exact False.elim q
section
variable {X:Cx} {x:Str} {p pos:Pos} {e:Expr} {es:List Expr} {t:TA} {id T:String} {r:List V->Hp->VK->Prop}
def tCB (r:List V->Hp->VK->Prop) (t:TA):TE:=λσ H Q=>t σ H λvs H1=>r vs H1 Q
theorem ye (hc:x9 X (.builtin id) r) (hg:Gl X x) (hm:X.mg x=none) (hv:bootBuiltins x=some (.builtin id)) (ha:PA X (e::es) t) (hn:x ≠ "__name__":=by decide) (hdb:(x == ("__debug__" : Str))=false:=by decide)
  (he:starEach (e::es) X.env=(false,eval e X.env)::starEach es X.env:=by rfl) (hpl:(backTo pos (starEach es X.env)).any (·.1)=false:=by rfl):PE X (.Call (.Name x p) (e::es) [] pos) (tCB r t):=by
 intro pins s σ H Q I h;refine wpAny_Call_Name_kw (tw I hg hm hv ?_ hn hdb);exact PyProof.Rows.callWith_builtin1 (thn (ha pos pins s σ H _ I h) λus s1 ⟨vs,H1,I1,r1,q1⟩=>hc pins s1 σ H1 vs us Q I1 r1 q1) he hpl
theorem xr (hc:x9 X (.type T) r) (hg:Gl X x) (hm:X.mg x=none) (hv:bootBuiltins x=some (.type T)) (ha:PA X (e::es) t) (hn:x ≠ "__name__":=by decide) (hdb:(x == ("__debug__" : Str))=false:=by decide)
  (he:starEach (e::es) X.env=(false,eval e X.env)::starEach es X.env:=by rfl) (hpl:(backTo pos (starEach es X.env)).any (·.1)=false:=by rfl):PE X (.Call (.Name x p) (e::es) [] pos) (tCB r t):=by
 intro pins s σ H Q I h;refine wpAny_Call_Name_kw (tw I hg hm hv ?_ hn hdb);exact PyProof.Rows.callWith_type1 (thn (ha pos pins s σ H _ I h) λus s1 ⟨vs,H1,I1,r1,q1⟩=>hc pins s1 σ H1 vs us Q I1 r1 q1) he hpl
end
end L2
namespace HT
open PySem PyProof.Rows
section
variable {prog:Program} {w:World} {A:Around} {E:Value->Shared->Prop} {s:Shared}
theorem qoj {t b:Addr} {vs ws:List Value} {Q:Value->Shared->Prop} (ht:IsTup s.heap t vs.toArray) (hb:IsTup s.heap b ws.toArray) (hv:vs≠[])
  (h1:ws=[]->Q (.ref t) s) (h2:ws≠[]->Q (.ref s.heap.objs.size) {s with heap:=s.heap.push {cls:=.type "tuple",data:=.seq (vs++ws).toArray}})
  (hsz:vs.length+ws.length<=sizeLine):wpAny (model prog w) A (binaryOp .Add (.ref t) (.ref b)) Q E s:=by
 obtain ⟨⟨cls,dd,data,sl⟩,ho,hc,n,hd⟩:=id ht;obtain ⟨⟨cls2,dd2,data2,sl2⟩,ho2,hc2,n2,hd2⟩:=id hb;simp only at hc hd hc2 hd2;subst hc hd hc2 hd2;have e:vs.toArray++ws.toArray=(vs++ws).toArray:=by simp
 by_cases hw:ws=[]
 ·exact concat_meets ⟨_,ho,rfl⟩ ⟨_,ho2,rfl⟩ noFill_tuple_add seq_tuple_add PySem.F.slot_tuple_add PySem.F.entry_tuple_add (PySem.F.args_tuple_add_2 _ _)
   (tuple_addW1 t b vs.toArray ws.toArray n n2 dd dd2 sl sl2 (by simpa using hv) (by simp [hw])) ⟨ho,ho2,h1 hw⟩
 ·refine concat_meets ⟨_,ho,rfl⟩ ⟨_,ho2,rfl⟩ noFill_tuple_add seq_tuple_add PySem.F.slot_tuple_add PySem.F.entry_tuple_add (PySem.F.args_tuple_add_2 _ _)
   (tuple_addW2 t b vs.toArray ws.toArray n n2 dd dd2 sl sl2 (by simpa using hv) (by simpa using hw) (by rw [List.size_toArray,List.size_toArray];exact hsz)) ⟨ho,ho2,?_⟩
  rw [e];exact h2 hw
def sIx (n d:Nat):Option Int->Nat
 | none=>d
 | some v=>if v<0 then (v+(n:Int)).toNat else min v.toNat n
theorem qew (n d:Nat):sIx n d none=d:=rfl
theorem ic (n d k:Nat):sIx n d (some (k:Int))=min k n:=by
 show (if (k:Int)<0 then ((k:Int)+(n:Int)).toNat else min (k:Int).toNat n)=min k n
 rw [if_neg (by omega),Int.toNat_natCast]
end
end HT
namespace L2
open PySem PySem.Spec PyProof.Rows
abbrev TO:=St->Hp->(Option Int->Hp->Prop)->Prop
def PO (X:Cx) (e:Option Expr) (t:TO):Prop:=
 ∀ (pins:List (Addr×Obj)) (s:Shared) (σ:St) (H:Hp) (Q:Option Int->Hp->Prop),Inv X pins σ H s->t σ H Q ->
  wpAny (model X.prog X.w) X.A (evalPart e X.env) (λu s' => ∃ o H',Inv X pins σ H' s'/\IsPart u o/\Q o H') X.xe s
def qgx:TO:=λ_ H Q=>Q none H
def tPart (t:TE):TO:=λσ H Q=>t σ H λx H1=>∃ i,x=.int i/\Q (some i) H1
theorem intsAre_of {ns:List Int}:∀ {us:List Value},Vals (ns.map V.int) us->IntsAre us ns:=by
 induction ns with
 | nil=>intro us r;rw [List.map_nil] at r;cases r;exact .nil
 | cons n ns ih =>
  intro us r;rw [List.map_cons] at r;cases r with
  | cons r1 r2 =>
   obtain ⟨t,e⟩:=r1;subst e;exact .cons n t (ih r2)
section
variable {X:Cx} {e:Expr} {te:TE} {lo hi:Option Expr} {tl th:TO} {pos p2:Pos}
theorem qu:PO X none qgx:=by
 intro pins s σ H Q I h;rw [evalPart_none];exact wpAny_pure ⟨none,H,I, .none,h⟩
theorem oh (h:PE X e te):PO X (some e) (tPart te):=by
 intro pins s σ H Q I hw;rw [evalPart_some];refine thn (h pins s σ H _ I hw) λu s1 ⟨x,H1,I1,r1,q1⟩=>?_
 obtain ⟨i,rfl,q⟩:=q1;obtain ⟨t,rfl⟩:=r1;exact ⟨some i,H1,I1, .int i t,q⟩
def SlR (X:Cx) (r:V->Option Int->Option Int->Hp->VK->Prop):Prop:=
 ∀ (pins:List (Addr×Obj)) (s:Shared) (σ:St) (H:Hp) (x:V) (v vl vu:Value) (lo hi:Option Int) (sl:Addr) (Q:VK),Inv X pins σ H s->RelV x v->s.heap.IsSliceOf sl vl vu .none->IsPart vl lo->IsPart vu hi->r x lo hi H Q ->
  ∃ T id,typeLookup (.type T) "__getitem__" = pure (some (.builtin id))/\s.TypeIs v T/\wpAny (model X.prog X.w) X.A (getItem v (.ref sl)) (EP X pins σ Q) X.xe s
def tSl (r:V->Option Int->Option Int->Hp->VK->Prop) (te:TE) (tl th:TO):TE:=λσ H Q=>te σ H λx H1=>tl σ H1 λl H2=>th σ H2 λu H3=>r x l u H3 Q
theorem n8 {r:V->Option Int->Option Int->Hp->VK->Prop} (hr:SlR X r) (he:PE X e te) (hl:PO X lo tl) (hu:PO X hi th):PE X (.Subscript e (.Slice lo hi none p2) pos) (tSl r te tl th):=by
 intro pins s σ H Q I h;refine Subscript_ (thn (he pins s σ H _ I h) λv s1 ⟨x,H1,I1,r1,q1⟩=>?_)
 refine wpAny_Slice (thn (hl pins s1 σ H1 _ I1 q1) λvl s2 ⟨l,H2,I2,pl,q2⟩=>thn (hu pins s2 σ H2 _ I2 q2) λvu s3 ⟨u,H3,I3,pu,q3⟩=>?_)
 rw [evalPart_none];refine wpAny_pure ?_;have I4:Inv X pins σ H3 {s3 with heap:=s3.heap.push {cls:=.type "slice",data:=.fields #[vl,vu, .none]}}:=I3.kept (t':=s3.toks) λb ob q=>Heap.get?_push_of_some _ q
 obtain ⟨T,id,hT,ht,hg⟩:=hr pins {s3 with heap:=s3.heap.push {cls:=.type "slice",data:=.fields #[vl,vu, .none]}} σ H3 x v vl vu l u s3.heap.objs.size Q I4 r1 (Heap.IsSliceOf.new ..) pl pu q3
 show wpAny (model X.prog X.w) X.A (subscriptTail e (.Slice lo hi none p2) v (.ref s3.heap.objs.size)) (EP X pins σ Q) X.xe {s3 with heap:=s3.heap.push {cls:=.type "slice",data:=.fields #[vl,vu, .none]}}
 exact tail_any (ops:=[.ref s3.heap.objs.size,v]) ht hT hg (by with_unfolding_all rfl)
def cutV (xs:List V) (lo hi:Option Int):List V:=(xs.drop (HT.sIx xs.length 0 lo)).take (HT.sIx xs.length xs.length hi - HT.sIx xs.length 0 lo)
theorem qgc (xs:List V) (lo hi:Option Int):(cutV xs lo hi).length<=xs.length:=by
 unfold cutV;rw [List.length_take,List.length_drop];omega
def ie (K:W.Frag):R2:=λx y H Q=>∃ a b xs ys,x=.ref a/\y=.ref b/\SqT K H a xs/\SqT K H b ys/\xs≠[]/\xs.length+ys.length<=sizeLine /\
 (ys=[]->Q (.ref a) H)/\(ys≠[]->∀ p,H p=none->Q (.ref p) (upd H p (.tup (xs++ys))))
theorem Vals.qd7 {xs:List V} {us:List Value} (r:Vals xs us):us=[]↔xs=[]:=by
 cases r with
 | nil=>simp
 | cons _ _=>simp
theorem qoz:OpR X (binaryOp .Add) (ie X.K):=by
 intro pins s σ H x y v u Q I rx ry h;obtain ⟨a,b,xs,ys,rfl,rfl,ha,hb,hx,hz,q1,q2⟩:=h;cases rx;cases ry;obtain ⟨its,r1,p1,_⟩:=I.tuple ha;obtain ⟨its2,r2,p2,_⟩:=I.tuple hb;refine HT.qoj p1 p2 (λz=>hx (r1.qd7.mp z)) (λz=>⟨.ref a,H,I,rfl,q1 (r2.qd7.mp z)⟩) (λz=>?_) (by rw [<- r1.length, <- r2.length];exact hz)
 refine ⟨.ref s.heap.objs.size,_,I.laid (t':=s.toks) (o:=.tup (xs++ys)) (λb ob q=>Heap.get?_push_of_some _ q) (Nat.le_refl _) ?_,rfl,q2 (λw=>z (r2.qd7.mpr w)) _ (I.hok.fresh (Nat.le_refl _))⟩
 exact ⟨by rw [List.length_append];exact hz,_,r1.append r2,IsTup.new _ _⟩
end
def ixN (n:Nat) (i:Int):Option Nat:=if 0<=i then (if i<n then some i.toNat else none) else if -(n:Int)<=i then some (i+n).toNat else none
def atI {α:Type} (xs:List α) (i:Int):Option α:=(ixN xs.length i).bind λj=>xs[j]?
theorem qgw {n:Nat} {i:Int} {j:Nat} (h:ixN n i=some j):seqIndex? i n=some j/\j<n/\-(n:Int)<=i/\i<n:=by
 unfold ixN at h
 by_cases h0:0<=i
 ·rw [if_pos h0] at h
  by_cases h1:i<n
  ·rw [if_pos h1] at h
   have e:i.toNat=j:=Option.some.inj h;exact ⟨by rw [seqIndex_of h0 h1,e],by omega,by omega,h1⟩
  ·rw [if_neg h1] at h;cases h
 ·rw [if_neg h0] at h
  by_cases h1:-(n:Int)<=i
  ·rw [if_pos h1] at h
   have e:(i+n).toNat=j:=Option.some.inj h;exact ⟨by rw [seqIndex_neg (by omega) h1,e],by omega,h1,by omega⟩
  ·rw [if_neg h1] at h;cases h
theorem ig {α:Type} {xs:List α} {i:Int} {v:α} (h:atI xs i=some v):∃ j,seqIndex? i xs.length=some j/\xs[j]?=some v/\j<xs.length/\-(xs.length:Int)<=i/\i<xs.length:=by
 unfold atI at h;cases e:ixN xs.length i with
 | none=>rw [e] at h;cases h
 | some j =>
  rw [e] at h;obtain ⟨h1,h2,h3,h4⟩:=qgw e;exact ⟨j,h1,h,h2,h3,h4⟩
theorem uy {α:Type} {xs:List α} {j:Nat} {v:α} (h:xs[j]?=some v):atI xs (j:Int)=some v:=by
 have hj:j<xs.length:=(List.getElem?_eq_some_iff.mp h).1;have e:ixN xs.length (j:Int)=some j:=by
  unfold ixN;rw [if_pos (by omega),if_pos (by omega)];simp
 unfold atI;rw [e];exact h
def qow (b:Expr):Prop:=∀ o i,subscripted b false o i=operate [o,i] (getItem o i)
def IxR (X:Cx) (r:R2):Prop:=
 ∀ (value slice:Expr) (pins:List (Addr×Obj)) (s:Shared) (σ:St) (H:Hp) (x y:V) (v u:Value) (Q:VK),Inv X pins σ H s->RelV x v->RelV y u->r x y H Q ->
  subscripted slice false v u=operate [v,u] (getItem v u)->wpAny (model X.prog X.w) X.A (subscriptTail value slice v u) (EP X pins σ Q) X.xe s
def MtR (X:Cx) (id:String) (r:V->List V->Hp->VK->Prop):Prop:=
 ∀ (pins:List (Addr×Obj)) (s:Shared) (σ:St) (H:Hp) (x:V) (xs:List V) (v:Value) (us:List Value) (Q:VK),Inv X pins σ H s->RelV x v->Vals xs us->r x xs H Q ->
  wpAny (model X.prog X.w) X.A (call (.builtin id) (v::us)) (EP X pins σ Q) X.xe s
section
variable {X:Cx} {a b:Expr} {ta tb:TE} {pos:Pos}
theorem IxR.or {r r':R2} (h:IxR X r) (h':IxR X r'):IxR X (λx y H Q=>r x y H Q\/r' x y H Q):=by
 intro value slice pins s σ H x y v u Q I rx ry q hs;rcases q with q | q
 ·exact h value slice pins s σ H x y v u Q I rx ry q hs
 ·exact h' value slice pins s σ H x y v u Q I rx ry q hs
theorem jv {r:R2} (hr:IxR X r) (ha:PE X a ta) (hb:PE X b tb) (hs:qow b):PE X (.Subscript a b pos) (tOp r ta tb):=by
 intro pins s σ H Q I h;exact Subscript_ (binT ha hb I h λv u s2 x y H2 I2 rx ry q=>hr a b pins s2 σ H2 x y v u Q I2 rx ry q (hs _ _))
def rIxL (K:W.Frag):R2:=λx y H Q=>∃ p xs i v,x=.ref p/\y=.int i/\SqL K H p xs/\atI xs i=some v/\Q v H
def rIxT (K:W.Frag):R2:=λx y H Q=>∃ p xs i v,x=.ref p/\y=.int i/\SqT K H p xs/\atI xs i=some v/\Q v H
def rIxS:R2:=λx y H Q=>∃ z i c,x=.str z/\y=.int i/\z.length<=sizeLine/\atI z.cps.toList i=some c/\Q (.str ⟨#[c]⟩) H
theorem qoq:IxR X (rIxL X.K):=by
 intro value slice pins s σ H x y v u Q I rx ry h hs;obtain ⟨p,xs,i,z,rfl,rfl,hq,he,q⟩:=h;cases rx;obtain ⟨t,rfl⟩:=ry;obtain ⟨its,r,pl,hz⟩:=I.list hq;obtain ⟨j,h1,h2,h3,h4,h5⟩:=ig he;obtain ⟨w,ew,rw'⟩:=r.get h2;have hl:=r.length;have hn:=p9;have fin:EP X pins σ Q w s:=⟨z,H,I,rw',q⟩
 by_cases h0:0<=i
 ·have hj:i.toNat=j:=by
   rw [seqIndex_of h0 h5] at h1;exact Option.some.inj h1
  exact item_listR pl.isList h0 (by omega) (by rw [hj];simpa using ew) fin hs
 ·have hj:(i+(its.toArray.size:Int)).toNat=j:=by
   rw [seqIndex_neg (by omega) h4] at h1
   rw [List.size_toArray, <- hl];exact Option.some.inj h1
  exact subscriptTail_builtinR (x:=w) pl.isList.typeIs slot_list_getitem.lookup
   (wpAny_getItem_list_neg (Q:=λr s' => r=w/\EP X pins σ Q r s') pl.isList (by omega) (by rw [List.size_toArray] <;> omega) (by omega) (by rw [hj];simpa using ew) ⟨rfl,fin⟩) hs
theorem ix_tup:IxR X (rIxT X.K):=by
 intro value slice pins s σ H x y v u Q I rx ry h hs;obtain ⟨p,xs,i,z,rfl,rfl,hq,he,q⟩:=h;cases rx;obtain ⟨t,rfl⟩:=ry;obtain ⟨its,r,pl,hz⟩:=I.tuple hq;obtain ⟨j,h1,h2,h3,h4,h5⟩:=ig he;obtain ⟨w,ew,rw'⟩:=r.get h2;have hl:=r.length;have hn:=p9;have fin:EP X pins σ Q w s:=⟨z,H,I,rw',q⟩;exact subscriptTail_builtinR (x:=w) pl.typeIs slot_tuple_getitem.lookup
  (getItem_tuple (j:=j) (Q:=λr s' => r=w/\EP X pins σ Q r s') pl (by omega) (by omega) (by rw [List.size_toArray, <- hl];exact h1) (by simpa using ew) ⟨rfl,fin⟩) hs
theorem qjf:IxR X rIxS:=by
 intro value slice pins s σ H x y v u Q I rx ry h hs;obtain ⟨z,i,c,rfl,rfl,hz,he,q⟩:=h;obtain ⟨t,rfl⟩:=rx;obtain ⟨t',rfl⟩:=ry;obtain ⟨j,h1,h2,h3,h4,h5⟩:=ig he;have hl:z.cps.toList.length=z.length:=by simp [Str.length]
 rw [hl] at h1 h4 h5;have hn:=p9;exact tail_any (typeIs_str s z t) slot_str_getitem.lookup (getItem_str (c:=c) (by
  have e1:decide (i < -(2 ^ 63:Int))=false:=decide_eq_false (by omega)
  have e2:decide (i ≥ 2 ^ 63)=false:=decide_eq_false (by omega)
  rw [e1,e2,Bool.or_false]) (by rw [h1];simpa using h2) ⟨.str ⟨#[c]⟩,H,I.tok _,⟨_,rfl⟩,q⟩) hs
def rIx (K:W.Frag):R2:=λx y H Q=>rIxL K x y H Q\/rIxT K x y H Q\/rIxS x y H Q
theorem jx:IxR X (rIx X.K):=qoq.or (ix_tup.or qjf)
theorem qhu (its:List Value) (n j:Nat) (u:Value):Obj.mapSeq (·.setIfInBounds j u) {cls:=.type "list",data:=.seq its.toArray n}={cls:=.type "list",data:=.seq (its.set j u).toArray n}:=by
 simp [Obj.mapSeq]
theorem Inv.lst {pins:List (Addr×Obj)} {σ:St} {H:Hp} {s:Shared} {p:Addr} {xs:List V} (I:Inv X pins σ H s) (h:H p=some (.lst xs)) :
  ∃ (its:List Value) (n:Nat),Vals xs its/\s.heap.get? p=some {cls:=.type "list",data:=.seq its.toArray n}/\xs.length<=sizeLine:=by
 obtain ⟨z,its,n,r,e⟩:=I.hok p _ h;exact ⟨its,n,r,e,z⟩
theorem Inv.lstUpd {pins:List (Addr×Obj)} {σ:St} {H:Hp} {s:Shared} {p:Addr} {xs ys:List V} {its its':List Value} {n n':Nat} {f:Obj->Obj} (I:Inv X pins σ H s) (h:H p=some (.lst xs))
  (ho:s.heap.get? p=some {cls:=.type "list",data:=.seq its.toArray n}) (hf:f {cls:=.type "list",data:=.seq its.toArray n}={cls:=.type "list",data:=.seq its'.toArray n'}) (r:Vals ys its') (hz:ys.length<=sizeLine) (t:Nat) :
  Inv X pins σ (upd H p (.lst ys)) {s with heap:=s.heap.update p f,toks:=t}:=by
 have e:(s.heap.update p f).get? p=some {cls:=.type "list",data:=.seq its'.toArray n'}:=by
  rw [Heap.get?_update_self f ho (by rw [hf] <;> rfl),hf]
 refine I.write (x:=p) (e:=p) (by rw [h];trivial) (.inl rfl) (λb u hb q=>(Heap.get?_update_other _ _ (Ne.symm hb)).trans q) ⟨_,e⟩ ?_
 exact ⟨hz,its',n',r,e⟩
def rSetL:V->V->V->Hp->(Hp->Prop)->Prop:=λo i v H Q=>∃ p xs k j,o=.ref p/\i=.int k/\H p=some (.lst xs)/\ixN xs.length k=some j/\Q (upd H p (.lst (xs.set j v)))
theorem set_list:PSet X rSetL:=by
 intro pins s σ H o i v ov iv u Q I ro ri rv h;obtain ⟨p,xs,k,j,rfl,rfl,hp,hj,q⟩:=h;cases ro;obtain ⟨t,rfl⟩:=ri;obtain ⟨its,n,r,ho,hz⟩:=I.lst hp;obtain ⟨h1,h2,h3,h4⟩:=qgw hj;have hl:=r.length;have hn:=p9;have I':Inv X pins σ (upd H p (.lst (xs.set j v))) {s with heap:=s.heap.update p (Obj.mapSeq (·.setIfInBounds j u))}:=
  I.lstUpd hp ho (qhu its n j u) (r.set rv j) (by rw [List.length_set];exact hz) s.toks
 by_cases h0:0<=k
 ·have hk:k.toNat=j:=by
   rw [seqIndex_of h0 h4] at h1;exact Option.some.inj h1
  exact W.ki_setAt ho h0 (by omega) (by rw [List.size_toArray, <- hl];exact h4) (by rw [hk];exact ⟨_,I',q⟩)
 ·have hk:(k+(its.toArray.size:Int)).toNat=j:=by
   rw [seqIndex_neg (by omega) h3] at h1
   rw [List.size_toArray, <- hl];exact Option.some.inj h1
  exact W.ki_setBack ho (by omega) (by rw [List.size_toArray, <- hl];exact h3) (by omega) (by rw [hk];exact ⟨_,I',q⟩)
theorem qfb (lo hi:Option Int) (n:Nat):(sliceBounds lo hi none n).1=((HT.sIx n 0 lo:Nat):Int)/\(sliceBounds lo hi none n).2.1=((HT.sIx n n hi:Nat):Int)/\(sliceBounds lo hi none n).2.2=1:=by
 refine ⟨?_,?_,rfl⟩
 ·cases lo with
  | none=>simp [sliceBounds,HT.sIx]
  | some i =>
   simp only [sliceBounds,HT.sIx,Option.getD_none,show (1:Int) > 0 by decide,if_true]
   by_cases h:i<0
   ·simp only [h,if_true] <;> omega
   ·simp only [h,if_false] <;> omega
 ·cases hi with
  | none=>simp [sliceBounds,HT.sIx]
  | some i =>
   simp only [sliceBounds,HT.sIx,Option.getD_none,show (1:Int) > 0 by decide,if_true]
   by_cases h:i<0
   ·simp only [h,if_true] <;> omega
   ·simp only [h,if_false] <;> omega
theorem qan (its:List Value) (lo hi:Option Int):slicePick its.toArray lo hi none=((its.drop (HT.sIx its.length 0 lo)).take (HT.sIx its.length its.length hi - HT.sIx its.length 0 lo)).toArray:=by
 obtain ⟨h1,h2,h3⟩:=qfb lo hi its.toArray.size;unfold slicePick;rw [h1,h2,h3];simp only [sliceRange_one,pick_run,List.size_toArray] <;> rfl
def rSlL (K:W.Frag):V->Option Int->Option Int->Hp->VK->Prop:=λx lo hi H Q=>∃ a xs,x=.ref a/\SqL K H a xs/\∀ p,H p=none->Q (.ref p) (upd H p (.lst (cutV xs lo hi)))
theorem qp5:SlR X (rSlL X.K):=by
 intro pins s σ H x v vl vu lo hi sl Q I rx hs pl pu h;obtain ⟨a,xs,rfl,hx,q⟩:=h;cases rx;obtain ⟨its,r,ht,hz⟩:=I.list hx;have hlen:=r.length;refine ⟨"list",_,slot_list_getitem.lookup,ht.isList.typeIs,?_⟩;refine wpAny_getItem_list_slice ht.isList hs pl pu .none (by simp) ?_ (by rw [List.size_toArray] <;> omega)
 rw [qan, <- hlen];refine ⟨.ref s.heap.objs.size,_,I.laid (t':=s.toks) (o:=.lst (cutV xs lo hi)) (λb ob q=>Heap.get?_push_of_some _ q) (Nat.le_refl _) ?_,rfl,q _ (I.hok.fresh (Nat.le_refl _))⟩
 exact ⟨Nat.le_trans (qgc xs lo hi) hz,_,0,(r.drop (HT.sIx xs.length 0 lo)).take (HT.sIx xs.length xs.length hi - HT.sIx xs.length 0 lo),Heap.get?_push_size _ rfl⟩
def oi:V->Bool
 | .non=>true
 | .bl _=>true
 | .int _=>true
 | .str _=>true
 | _=>false
def eqV:V->V->Bool
 | .non, .non=>true
 | .bl a, .bl b=>a == b
 | .bl a, .int b=>(if a then 1 else 0) == b
 | .int a, .bl b=>a == (if b then 1 else 0)
 | .int a, .int b=>a == b
 | .str a, .str b=>a == b
 | _,_=>false
theorem eqAt_V {A:Around} {s:Shared} {y x:V} {u v:Value} (ry:RelV y u) (rx:RelV x v) (fy:oi y=true) (fx:oi x=true):SeqAt.EqAt A s u v (eqV y x):=by
 cases y with
 | non =>
  cases ry;cases x with
  | non=>cases rx;exact SeqAt.EqAt.same _
  | bl b=>cases rx;exact SeqAt.EqAt.none_bool b
  | int b=>obtain ⟨t,rfl⟩:=rx;exact SeqAt.EqAt.none_int b t
  | str b=>obtain ⟨t,rfl⟩:=rx;exact SeqAt.EqAt.none_str b t
  | _=>exact absurd (show false=true from fx) Bool.false_ne_true
 | bl a =>
  cases ry;cases x with
  | non=>cases rx;exact SeqAt.EqAt.bool_none a
  | bl b=>cases rx;exact SeqAt.EqAt.bool_bool a b
  | int b=>obtain ⟨t,rfl⟩:=rx;exact SeqAt.EqAt.bool_int a b t
  | str b=>obtain ⟨t,rfl⟩:=rx;exact SeqAt.EqAt.bool_str a b t
  | _=>exact absurd (show false=true from fx) Bool.false_ne_true
 | int a =>
  obtain ⟨t',rfl⟩:=ry;cases x with
  | non=>cases rx;exact SeqAt.EqAt.int_none a t'
  | bl b=>cases rx;exact SeqAt.EqAt.int_bool a t' b
  | int b=>obtain ⟨t,rfl⟩:=rx;exact SeqAt.EqAt.int_int a t' b t
  | str b=>obtain ⟨t,rfl⟩:=rx;exact SeqAt.EqAt.int_str a t' b t
  | _=>exact absurd (show false=true from fx) Bool.false_ne_true
 | str a =>
  obtain ⟨t',rfl⟩:=ry;cases x with
  | non=>cases rx;exact SeqAt.EqAt.str_none a t'
  | bl b=>cases rx;exact SeqAt.EqAt.str_bool a t' b
  | int b=>obtain ⟨t,rfl⟩:=rx;exact SeqAt.EqAt.str_int a t' b t
  | str b=>obtain ⟨t,rfl⟩:=rx;exact SeqAt.EqAt.str_str a t' b t
  | _=>exact absurd (show false=true from fx) Bool.false_ne_true
 | _=>exact absurd (show false=true from fy) Bool.false_ne_true
def eqU (x:V) (u:Value):Bool:=match u with
 | .none=>eqV .non x
 | .bool b=>eqV (.bl b) x
 | .int i _=>eqV (.int i) x
 | .str z _=>eqV (.str z) x
 | _=>false
theorem qiw {x y:V} {u:Value} (r:RelV y u) (f:oi y=true):eqU x u=eqV y x:=by
 cases y with
 | non=>cases r;rfl
 | bl b=>cases r;rfl
 | int i=>obtain ⟨t,rfl⟩:=r;rfl
 | str z=>obtain ⟨t,rfl⟩:=r;rfl
 | _=>exact absurd (show false=true from f) Bool.false_ne_true
theorem d8 {x:V}:∀ {xs:List V} {us:List Value},Vals xs us->xs.all oi=true->us.any (eqU x)=xs.any λy=>eqV y x
 | _,_, .nil,_=>rfl
 | y::xs,u::us, .cons r t,f=>by
  rw [List.all_cons,Bool.and_eq_true] at f;rw [List.any_cons,List.any_cons,qiw r f.1,d8 t f.2]
theorem d9 {A:Around} {s:Shared} {x:V} {v:Value} (rx:RelV x v) (fx:oi x=true):∀ {xs:List V} {us:List Value},Vals xs us->xs.all oi=true->∀ u∈us,SeqAt.EqAt A s u v (eqU x u)
 | _,_, .nil,_=>λu hu=>by cases hu
 | y::xs,u::us, .cons r t,f=>λu' hu=>by
  rw [List.all_cons,Bool.and_eq_true] at f;rcases List.mem_cons.mp hu with rfl | hu
  ·rw [qiw r f.1];exact eqAt_V r rx f.1 fx
  ·exact d9 rx fx t f.2 u' hu
def inV (x:V) (xs:List V):Bool:=xs.any λy=>eqV y x
def rIn (K:W.Frag) (neg:Bool):R2:=λx y H Q=>∃ p xs,y=.ref p/\(SqL K H p xs\/SqT K H p xs)/\oi x=true/\xs.all oi=true/\Q (.bl (if neg then !inV x xs else inV x xs)) H
theorem qk6:OpR X (compareOp .In) (rIn X.K false):=by
 intro pins s σ H x y v u Q I rx ry h;obtain ⟨p,xs,rfl,hq,fx,fs,q⟩:=h;cases ry;rcases hq with hq | hq
 ·obtain ⟨its,r,pl,hz⟩:=I.list hq
  refine SeqAt.in_listAt (eqU x) pl.isList (λw hw=>d9 rx fx r fs w (by simpa using hw)) ⟨.bl _,H,I,rfl,?_⟩
  rw [show its.toArray.any (eqU x)=its.any (eqU x) by simp,d8 r fs]
  exact q
 ·obtain ⟨its,r,pl,hz⟩:=I.tuple hq
  refine SeqAt.in_tupleAt (eqU x) pl (λw hw=>d9 rx fx r fs w (by simpa using hw)) ⟨.bl _,H,I,rfl,?_⟩
  rw [show its.toArray.any (eqU x)=its.any (eqU x) by simp,d8 r fs]
  exact q
theorem qg6:OpR X (compareOp .NotIn) (rIn X.K true):=by
 intro pins s σ H x y v u Q I rx ry h;obtain ⟨p,xs,rfl,hq,fx,fs,q⟩:=h;cases ry;rcases hq with hq | hq
 ·obtain ⟨its,r,pl,hz⟩:=I.list hq
  refine SeqAt.notIn_listAt (eqU x) pl.isList (λw hw=>d9 rx fx r fs w (by simpa using hw)) ⟨.bl _,H,I,rfl,?_⟩
  rw [show its.toArray.any (eqU x)=its.any (eqU x) by simp,d8 r fs]
  exact q
 ·obtain ⟨its,r,pl,hz⟩:=I.tuple hq
  refine SeqAt.notIn_tupleAt (eqU x) pl (λw hw=>d9 rx fx r fs w (by simpa using hw)) ⟨.bl _,H,I,rfl,?_⟩
  rw [show its.toArray.any (eqU x)=its.any (eqU x) by simp,d8 r fs]
  exact q
theorem qfk:x9 X (.builtin "len") (λxs H Q=>∃ p ys,xs=[.ref p]/\(SqL X.K H p ys\/SqT X.K H p ys)/\Q (.int ys.length) H):=by
 intro pins s σ H xs us Q I r h;obtain ⟨p,ys,rfl,hq,q⟩:=h;obtain ⟨u,rfl,rx⟩:=vals1 r;cases rx;have hn:=p9;rcases hq with hq | hq
 ·obtain ⟨its,r',pl,hz⟩:=I.list hq
  have hlen:=r'.length;exact Calls.call_len_list pl.isList (by simp only [List.size_toArray] <;> omega) ⟨.int ys.length,H,I.tok _,⟨s.toks+1,by rw [List.size_toArray,hlen]⟩,q⟩
 ·obtain ⟨its,r',pl,hz⟩:=I.tuple hq
  have hlen:=r'.length;exact len_tuple pl (by simp only [List.size_toArray] <;> omega) ⟨.int ys.length,H,I.tok _,⟨s.toks+1,by rw [List.size_toArray,hlen]⟩,q⟩
theorem qf5:x9 X (.builtin "len") (λxs H Q=>∃ z,xs=[.str z]/\z.length<=sizeLine/\Q (.int z.length) H):=by
 intro pins s σ H xs us Q I r h;obtain ⟨z,rfl,hz,q⟩:=h;obtain ⟨u,rfl,t,rfl⟩:=vals1 r;have hn:=p9;exact len_str (by omega) ⟨.int z.length,H,I.tok _,⟨_,rfl⟩,q⟩
theorem x9.or {f:Value} {r r':List V->Hp->VK->Prop} (h:x9 X f r) (h':x9 X f r'):x9 X f (λxs H Q=>r xs H Q\/r' xs H Q):=by
 intro pins s σ H xs us Q I rs q;rcases q with q | q
 ·exact h pins s σ H xs us Q I rs q
 ·exact h' pins s σ H xs us Q I rs q
theorem qfh:x9 X (.type "list") (λxs H Q=>∃ p ys,xs=[.ref p]/\(SqL X.K H p ys\/SqT X.K H p ys)/\∀ l,H l=none->Q (.ref l) (upd H l (.lst ys))):=by
 intro pins s σ H xs us Q I r h;obtain ⟨p,ys,rfl,hq,q⟩:=h;obtain ⟨u,rfl,rx⟩:=vals1 r;cases rx;have fin:∀ (its:List Value),Vals ys its->ys.length<=sizeLine->∀ (h':Heap) (c':Nat),(∀ b o',s.heap.get? b=some o'->h'.get? b=some o') ->
   h'.get? s.heap.objs.size=some {cls:=.type "list",dict:=none,data:=.seq its.toArray c',slots:=#[]}->EP X pins σ Q (.ref s.heap.objs.size) {s with heap:=h'}:=λits r' hz h' c' kp e =>
  ⟨.ref s.heap.objs.size,_,I.laid (t':=s.toks) kp (Nat.le_refl _) (show xg X.prog X.w _ h' _ (.lst ys) from ⟨hz,its,c',r',e⟩),rfl,q _ (I.hok.fresh (Nat.le_refl _))⟩
 rcases hq with hq | hq
 ·obtain ⟨its,r',pl,hz⟩:=I.list hq
  have hlen:=r'.length;obtain ⟨o,ho,hc,n,hd⟩:=pl.isList;exact call_list_seq p (.inl rfl) ho hc hd (λh' c' kp e=>fin its r' hz h' c' kp e) (by simp only [List.size_toArray] <;> omega)
 ·obtain ⟨its,r',pl,hz⟩:=I.tuple hq
  have hlen:=r'.length;obtain ⟨o,ho,hc,n,hd⟩:=pl;exact call_list_seq p (.inr rfl) ho hc hd (λh' c' kp e=>fin its r' hz h' c' kp e) (by simp only [List.size_toArray] <;> omega)
theorem qeb:x9 X (.type "tuple") (λxs H Q=>∃ p ys,xs=[.ref p]/\((SqL X.K H p ys/\∀ l,H l=none->Q (.ref l) (upd H l (.tup ys)))\/(SqT X.K H p ys/\Q (.ref p) H))):=by
 intro pins s σ H xs us Q I r h;obtain ⟨p,ys,rfl,h⟩:=h;obtain ⟨u,rfl,rx⟩:=vals1 r;cases rx;rcases h with ⟨hq,q⟩ | ⟨hq,q⟩
 ·obtain ⟨its,r',pl,hz⟩:=I.list hq
  have hlen:=r'.length;refine call_tuple_list pl.isList (λh' kp=>?_) (by simp only [List.size_toArray] <;> omega)
  have I1:Inv X pins σ H {s with heap:=h'}:=I.kept (t':=s.toks) kp
  have I2:Inv X pins σ (upd H h'.objs.size (.tup ys)) {s with heap:=h'.push {cls:=.type "tuple",data:=.seq its.toArray}}:=
   I1.laid (t':=s.toks) (λb o e=>Heap.get?_push_of_some _ e) (Nat.le_refl _) (show xg X.prog X.w _ _ _ (.tup ys) from ⟨hz,its,r',IsTup.new _ _⟩)
  exact ⟨.ref h'.objs.size,_,I2,rfl,q _ (I1.hok.fresh (Nat.le_refl _))⟩
 ·obtain ⟨its,r',pl,hz⟩:=I.tuple hq
  exact call_tuple_same pl ⟨.ref p,H,I,rfl,q⟩
def tyV (K:W.Frag) (T:String) (x:V) (H:Hp):Prop:=match x with
 | .str _=>T = "str"
 | .int _=>T = "int"
 | .ref p=>(T = "list" /\ ∃ xs,SqL K H p xs)\/(T = "tuple" /\ ∃ o,K.lookup p=some o/\o.cls=.type "tuple" /\ o.dict=none) \/
   (T = "dict" /\ ((∃ kvs,H p=some (.dK kvs))\/∃ kvs,H p=some (.dT kvs)))\/(T = "set" /\ ∃ S n,H p=some (.set S n))
 | _=>False
theorem tyV_is {pins:List (Addr×Obj)} {σ:St} {H:Hp} {s:Shared} {T:String} {x:V} {v:Value} (I:Inv X pins σ H s) (r:RelV x v) (ty:tyV X.K T x H) :
  s.TypeIs v T/\∀ a,v=.ref a->∃ ob,s.heap.get? a=some ob/\ob.dict=none:=by
 cases x with
 | str z =>
  obtain ⟨t,rfl⟩:=r;cases (show T = "str" from ty)
  exact ⟨typeIs_str s z t,λ_ e=>nomatch e⟩
 | int i =>
  obtain ⟨t,rfl⟩:=r;cases (show T = "int" from ty)
  exact ⟨typeIs_int s i t,λ_ e=>nomatch e⟩
 | ref p =>
  cases r;rcases ty with ⟨rfl,xs,hq⟩ | ⟨rfl,o,hk,hc,hd⟩ | ⟨rfl,hk⟩ | ⟨rfl,S,n,hk⟩
  ·obtain ⟨its,_,pl,_⟩:=I.list hq
   refine ⟨pl.isList.typeIs,λa e=>?_⟩
   cases e;obtain ⟨o,n,e,c,hd,_⟩:=pl;exact ⟨o,e,hd⟩
  ·refine ⟨⟨o,I.kIn p o hk,hc⟩,λa e=>?_⟩
   cases e;exact ⟨o,I.kIn _ o hk,hd⟩
  ·have z:∃ o,s.heap.get? p=some o/\o.ExactDict:=by
    rcases hk with ⟨kvs,hk⟩ | ⟨kvs,hk⟩
    ·obtain ⟨_,_,_,_,o,_,_,e,ex,_⟩:=I.hok p _ hk
     exact ⟨o,e,ex⟩
    ·obtain ⟨_,_,_,_,o,_,_,e,ex,_⟩:=I.hok p _ hk
     exact ⟨o,e,ex⟩
   obtain ⟨o,e,ex⟩:=z;refine ⟨⟨o,e,ex.1⟩,λa e2=>?_⟩
   cases e2;exact ⟨o,e,ex.2.1⟩
  ·obtain ⟨o,_,_,_,e,ex,_⟩:=I.hok p _ hk
   refine ⟨⟨o,e,ex.1⟩,λa e2=>?_⟩
   cases e2;exact ⟨o,e,ex.2.1⟩
 | _=>exact False.elim ty
def tBM (K:W.Frag) (T:String) (r:V->List V->Hp->VK->Prop) (to:TE) (t:TA):TE:=λσ H Q=>to σ H λx H1=>tyV K T x H1/\t σ H1 λxs H2=>r x xs H2 Q
variable {o e:Expr} {es:List Expr} {to:TE} {t:TA} {name:Str} {apos cpos:Pos} {T id:String} {r:V->List V->Hp->VK->Prop}
theorem zz (pa:PlainAttrs T) (slot:Slot T name id) (hty:typeOf (.builtin id)=pure (.type "method_descriptor")) (hm:MtR X id r) (ho:PE X o to) (ha:PA X (e::es) t)
  (hbase:attributeBase o name X.env (eval o X.env)=eval o X.env:=by rfl)
  (hfew:((backTo cpos (starEach (e::es) X.env)).all (λx=>!x.1) && (backToKw cpos (keywordEach [] X.env)).all (λx=>x.1.isSome)
   && decide ((e::es).length+([]:List Keyword).length+(if ([]:List Keyword).isEmpty then 0 else 1)<30))=true:=by rfl)
  (hline:(apos.endLine == cpos.line)=true:=by rfl) (hs:starEach (e::es) X.env=(false,eval e X.env)::starEach es X.env:=by rfl) (hplain:(backTo cpos (starEach es X.env)).any (·.1)=false:=by rfl) :
  PE X (.Call (.Attribute o name apos) (e::es) [] cpos) (tBM X.K T r to t):=by
 intro pins s σ H Q I h;refine wpAny_Call_method_late hbase hfew hline rfl (thn (ho pins s σ H _ I h) λv s1 ⟨x,H1,I1,r1,ty,q1⟩=>?_)
 obtain ⟨h1,h2⟩:=tyV_is I1 r1 ty;refine ⟨T,id,pa,slot,hty,h1,h2,?_⟩;have hA:=ha cpos pins s1 σ H1 _ I1 q1;rw [hs] at hA ⊢;refine Calls.callWith_builtin (by show (false || (backTo cpos (starEach es X.env)).any (·.1))=false;rw [hplain] <;> rfl) (Calls.evalArgs_plain ?_)
 exact thn hA λus s2 ⟨vs,H2,I2,r2,q2⟩=>hm pins s2 σ H2 x vs v us Q I2 r1 r2 q2
end
def MtM (X:Cx) (id:String) (r:V->List V->Hp->VK->Prop):Prop:=
 ∀ (pins:List (Addr×Obj)) (s:Shared) (σ:St) (H:Hp) (x:V) (xs:List V) (v:Value) (us:List Value) (Q:VK),Inv X pins σ H s->RelV x v->Vals xs us->r x xs H Q ->
  wpAny (model X.prog X.w) X.A (call (.builtin id) (v::us)) (EP X pins σ Q) X.xe s
theorem Vals.one:∀ {x:V} {us:List Value},Vals [x] us->∃ u,us=[u]/\RelV x u
 | _,_, .cons r .nil=>⟨_,rfl,r⟩
theorem Vals.zero:∀ {us:List Value},Vals [] us->us=[]
 | _, .nil=>rfl
theorem Vals.dropLast {xs:List V} {us:List Value} (h:Vals xs us):Vals xs.dropLast us.dropLast:=by
 induction h with
 | nil=>exact .nil
 | cons r t ih =>
  cases t with
  | nil=>exact .nil
  | cons q t' => exact .cons r ih
theorem Vals.reverse {xs:List V} {us:List Value} (h:Vals xs us):Vals xs.reverse us.reverse:=by
 induction h with
 | nil=>exact .nil
 | cons r t ih=>rw [List.reverse_cons,List.reverse_cons];exact Vals.append ih (.cons r .nil)
theorem qi5 {α:Type} (l:List α):l.eraseIdx (l.length - 1)=l.dropLast:=by
 induction l with
 | nil=>rfl
 | cons a r ih =>
  cases r with
  | nil=>rfl
  | cons b r =>
   have e:(a::b::r).length - 1=((b::r).length - 1)+1:=by
    have h1:(a::b::r).length=r.length+2:=rfl;have h2:(b::r).length=r.length+1:=rfl;omega
   rw [e,List.eraseIdx_cons_succ,ih]
   all_goals rfl
section
variable {X:Cx} {pins:List (Addr×Obj)} {σ:St} {H:Hp} {s:Shared} {l b:Addr} {xs ys zs:List V}
theorem Inv.lset {its its':List Value} {n:Nat} {f:Array Value->Array Value} {t':Nat} (I:Inv X pins σ H s) (hH:H l=some (.lst xs))
  (e:s.heap.get? l=some {cls:=.type "list",data:=.seq its.toArray n}) (hf:f its.toArray=its'.toArray) (hv:Vals ys its') (hz:ys.length<=sizeLine) :
  Inv X pins σ (upd H l (.lst ys)) {s with heap:=s.heap.update l (Obj.mapSeq f),toks:=t'}:=by
 have q:=PySem.IsL.update e f;rw [hf] at q;refine I.write (x:=l) (e:=l) (by rw [hH];exact trivial) (.inl rfl) (λb' u hb hu=>(Heap.get?_update_other s.heap (Obj.mapSeq f) (Ne.symm hb)).trans hu) ⟨_,q⟩ ?_
 exact ⟨hz,its',_,hv,q⟩
theorem Inv.lnew {its:List Value} {t':Nat} (I:Inv X pins σ H s) (hv:Vals ys its) (hz:ys.length<=sizeLine) :
  Inv X pins σ (upd H s.heap.objs.size (.lst ys)) {s with heap:=s.heap.push {cls:=.type "list",data:=.seq its.toArray},toks:=t'}:=
 I.laid (λ_ _ q=>Heap.get?_push_of_some _ q) (Nat.le_refl _) ⟨hz,its,0,hv,Heap.get?_push_size _ rfl⟩
theorem Inv.fresh (I:Inv X pins σ H s):H s.heap.objs.size=none:=I.hok.fresh (Nat.le_refl _)
theorem Inv.lstM (I:Inv X pins σ H s) (hH:H l=some (.lst xs)):xs.length<=sizeLine/\∃ (its:List Value) (n:Nat),Vals xs its/\xs.length=its.length/\s.heap.get? l=some {cls:=.type "list",data:=.seq its.toArray n}:=by
 obtain ⟨z,its,n,r,e⟩:=I.hok l _ hH;exact ⟨z,its,n,r,r.length,e⟩
end
section
variable {X:Cx}
def qhb:V->List V->Hp->VK->Prop:=λx vs H Q=>∃ l xs y,x=.ref l/\vs=[y]/\H l=some (.lst xs)/\xs.length<sizeLine/\Q .non (upd H l (.lst (xs++[y])))
theorem uz:MtM X "list.append" qhb:=by
 intro pins s σ H x vs v us Q I rx rv h;obtain ⟨l,xs,y,rfl,rfl,hH,hz,q⟩:=h;cases rx;obtain ⟨u,rfl,ru⟩:=rv.one;obtain ⟨z,its,n,r,hl,e⟩:=I.lstM hH;refine call_meets F.slot_list_append ⟨_,e,rfl⟩ F.entry_list_append (F.args_list_append_2 _ _) (PySem.list_append l its.toArray n u (by rw [List.size_toArray];omega)) ⟨e,?_⟩
 refine ⟨.non,_,I.lset (its':=its++[u]) hH e (by simp) (r.append (.cons ru .nil)) ?_,rfl,q⟩
 rw [List.length_append,List.length_singleton];omega
def rPop:V->List V->Hp->VK->Prop:=λx vs H Q=>∃ l xs y,x=.ref l/\vs=[]/\H l=some (.lst xs)/\xs[xs.length - 1]?=some y/\Q y (upd H l (.lst xs.dropLast))
theorem mt_pop:MtM X "list.pop" rPop:=by
 intro pins s σ H x vs v us Q I rx rv h;obtain ⟨l,xs,y,rfl,rfl,hH,hy,q⟩:=h;cases rx;have hus:=rv.zero;subst hus;obtain ⟨z,its,n,r,hl,e⟩:=I.lstM hH;obtain ⟨u,hu,ru⟩:=r.get hy;have hy':its.toArray[its.toArray.size - 1]?=some u:=by
  show its.toArray[its.length - 1]?=some u;rw [<- Array.getElem?_toList, <- hl];exact hu
 refine call_meets F.slot_list_pop ⟨_,e,rfl⟩ F.entry_list_pop (F.args_list_pop_1 _) (MeetsSeq.list_pop_last l its.toArray n u hy' (by rw [List.size_toArray];omega)) ⟨e,?_⟩
 refine ⟨y,_,I.lset (its':=its.dropLast) hH e ?_ r.dropLast ?_,ru,q⟩
 ·show its.toArray.eraseIdxIfInBounds (its.toArray.size - 1)=its.dropLast.toArray
  rw [List.size_toArray,List.eraseIdxIfInBounds_toArray,qi5]
 ·rw [List.length_dropLast]
  omega
end
end L2
namespace Att
open PySem PySem.W PySem.Calls PyProof.Rows
theorem qci {P:Params} {h:Heap}:∀ (ns:List Int) (vs:List Value),WellAll P h vs (ns.map WData.int)->IntsAre vs ns:=by
 intro ns
 induction ns with
 | nil =>
  intro vs w;rw [List.map_nil] at w;cases w;exact .nil
 | cons n ns ih =>
  intro vs w;rw [List.map_cons] at w;cases w with
  | cons a b =>
   cases a;exact .cons _ _ (ih _ b)
theorem qlc {l:OpenLaw} {n:Nat} (hn:l.most=some n) {P:Params} {h:Heap} {args:List WData} {vals:List Value}
  (hpre:l.row.toRowW.claim.pre args=true) (hwl:WellAll P h vals args) :
  ∃ a vs ns,vals=[Value.ref a]/\args=[WData.list (ns.map WData.int)]/\h.get? a=some {cls:=.type "list",data:=.seq vs.toArray}/\IntsAre vs ns/\ns.length<=n:=by
 have hsh:WShape.hasAll [] args [.list .int]=true:=(pre_splitW hpre).1;have hc:l.pre.holds [] {args:=args}=true:=(pre_splitW hpre).2;obtain ⟨d,r,rfl,h1,h2⟩:=hasAllW_cons hsh;obtain rfl:=hasAllW_nil h2;obtain ⟨xs,rfl,h3⟩:=hasW_list h1;obtain ⟨ns,rfl⟩:=items_int h3;have hlen:ns.length<=n:=by
  unfold OpenLaw.pre at hc;have h4:(WTm.not (.lt (.lit (.int (n:Int))) (.len (.arg 0)))).holds [] {args:=[.list (ns.map .int)]}=true:=by
   have h4:=(holds_andW hc).1;rw [hn] at h4;exact h4
  have h5:=condW_of h4 (w_not (w_lt w_lit (w_len_list (w_arg rfl))));rw [List.length_map] at h5;refine Nat.le_of_not_lt λq=>?_
  have q':(n:Int)<((ns.length:Nat):Int):=by omega
  first
   | (rw [decide_eq_true q'] at h5;exact absurd h5 (by decide))
   | (simp at h5;omega)
 cases hwl with
 | cons w1 w2 =>
  cases w2;cases w1 with
  | list ho hall=>exact ⟨_,_,ns,rfl,rfl,ho,qci ns _ hall,hlen⟩
theorem qjo (l:OpenLaw) (args:List WData):l.row.toRowW.claim.post args (.bool true) args=true:=
 postW_of (r:=l.row.toRowW) (X:=(true == true))
  (show WShape.has [] (.bool true) .bool=true by first | rfl | decide | simp [WShape.has,WShape.arms,WShape.armsAll])
  (show (WTm.eq .res (.lit (.bool true))).value [] {args:=args,res:=some (.bool true),after:=args}=some (.bool (true == true)) from w_eq_bool (w_res rfl) w_lit) rfl
theorem qgk {l:OpenLaw} {n:Nat} {q:Program} {loose:List Str} {XP:(Str->Option Value)->Heap->Prop} {YP:World->Heap->Prop} {d:DefRec}
  (hn:l.most=some n) (hdf:d.params.defaults=[])
  (call:∀ (w:World) (s₀ s₁:Shared) (mg mb:Str->Option Value) (fa:Addr) (o:Obj) (pm cd doc:Value) (a:Addr) (vs:List Value) (ns:List Int),
   Ground q loose [] XP w s₀ mg mb s₁.heap->YP w s₁.heap ->
   s₁.heap.get? fa=some o->o.data=.func (docDef d.name d.params d.body d.scope pm cd doc)->s₁.heap.CodeRec cd d.name->mg d.name=some (.ref fa) ->
   s₁.heap.get? a=some {cls:=.type "list",data:=.seq vs.toArray}->IntsAre vs ns->ns.length<=n->s₁.gens = #[] ->
   codeAny (model l.prog w) callerA (.call (.ref fa) ⟨[.ref a],[]⟩) (λr s' => r=.ok (.ret (.bool true))/\OldK s₁.heap s'.heap/\s'.os=s₁.os/\AllBare s'.gens) s₁) :
  WalkO q loose XP YP l.row.toRowW d [] (λf vs=>PySem.call f vs):=by
 intro w s₀ s₁ mg mb G Y fa o pm cd doc dV kV ho hd hcd hD hmg hg args vals as hpre hlay hrd hwl hlo;obtain rfl:dV=.none:=Dflts.none hD hdf;obtain rfl:kV=.none:=Dflts.noKw hD;obtain ⟨a,vs,ns,rfl,rfl,hobj,hints,hlen⟩:=qlc hn hpre hwl;refine enter_call (codeAny_mono (call w s₀ s₁ mg mb fa o pm cd doc a vs ns G Y ho (fd_plain hd) hcd hmg hobj hints hlen hg) λr s' hq=>?_)
 obtain ⟨rfl,h2,h3,h4⟩:=hq;exact ⟨.inl ⟨.bool true, .bool true,[],rfl,λ_=>rfl, .bool true,qjo l _,λ_=>⟨List.Pairwise.nil,λ_ hm=>(nomatch hm)⟩⟩,h2,h3,h4⟩
end Att
namespace L2
open PySem PySem.Spec PyProof.Rows
theorem qdx:∀ {vs:List Value} {ns:List Int},IntsAre vs ns->Vals (ns.map V.int) vs
 | _,_, .nil=>.nil
 | _,_, .cons n t h=>.cons ⟨t,rfl⟩ (qdx h)
def Only (H:Hp):Prop:=∀ b,H b=none\/∃ o xs,H b=some (.frz o (.lst xs))
theorem qm1 {P:Program} {w:World} {K:W.Frag} {mg mb:Str->Option Value} {CX:CXT} {k:Nat} {fa a:Addr} {fd:FuncData} {x:Str} {sp:Sp} {s₁:Shared} {vs:List Value} {ns:List Int}
  (KX:K.In s₁.heap) (hns:s₁.heap.Ns mainGlobals mg) (hb:s₁.heap.Ns builtinsNs mb) (hbb:∀ x:Str,x ≠ "__name__"->mb x=bootBuiltins x) (hlim:s₁.heap.NoLimit) (hg:s₁.gens = #[])
  (ha:s₁.heap.get? a=some {cls:=.type "list",data:=.seq vs.toArray}) (hi:IntsAre vs ns) (hl:ns.length<=sizeLine) (hr:Room k callerA)
  (F:∀ base:Heap,K.In base->base.Ns mainGlobals mg->FnOk P w K mg base CX k fa fd [x] sp) (hbind:∀ (s:Shared) (u:Value),BindsTo s fd ⟨[u],[]⟩ [(x,u)])
  (hsp:∀ H:Hp,Only H->SqL K H a (ns.map V.int)->sp [.ref a] H (λv _=>v=.bl true) λ_ _ _=>False)
  (hCX:∀ H e s',CX [] H s₁ (λ_ _ _=>False) e s'->False) :
  codeAny (model P w) callerA (.call (.ref fa) ⟨[.ref a],[]⟩) (λr s' => r=.ok (.ret (.bool true))/\OldK s₁.heap s'.heap/\s'.os=s₁.os/\AllBare s'.gens) s₁:=by
 have rv:=qdx hi;have lenV:=hi.length;have core:∀ H:Hp,Only H->SqL K H a (ns.map V.int)->HOk P w H s₁.heap->(∀ b,H b≠none->b=a)->(H a≠none->K.lookup a=none) ->
   codeAny (model P w) callerA (.call (.ref fa) ⟨[.ref a],[]⟩) (λr s' => r=.ok (.ret (.bool true))/\OldK s₁.heap s'.heap/\s'.os=s₁.os/\AllBare s'.gens) s₁:=by
  intro H hO hS hok hA hK;have base_of:∀ {b:Addr} {o:Obj},s₁.heap.get? b=some o->H b=none->(hidT s₁.heap H).get? b=some o:=λe n=>qlq e n
  have noA:∀ {b:Addr} {o:Obj} {es:Array DictEntry} {ep:Nat},s₁.heap.get? b=some o->o.data=.dict es ep->H b=none:=λ{b o es ep} e d=>by
   cases q:H b with
   | none=>rfl
   | some u =>
    have e':b=a:=hA b (by rw [q];simp)
    subst e';rw [ha] at e;cases e;have d':Data.seq vs.toArray _=Data.dict es ep:=d;cases d'
  have nsK:∀ {b:Addr} {m:Str->Option Value},s₁.heap.Ns b m->(hidT s₁.heap H).Ns b m:=λ{b m} ⟨o,es,ep,e,d,r⟩=>⟨o,es,ep,base_of e (noA e d),d,r⟩
  have hKb:K.In (hidT s₁.heap H):=λb o e=>base_of (KX b o e) (by
   cases q:H b with
   | none=>rfl
   | some u =>
    have e':b=a:=hA b (by rw [q];simp)
    subst e';rw [hK (by rw [q];simp)] at e;cases e)
  have hM:Mod K mg (hidT s₁.heap H):=⟨hKb,nsK hns,⟨mb,nsK hb,hbb⟩,let ⟨mc,h1,h2⟩:=hlim;⟨mc,nsK h1,h2⟩⟩;have e0:Env0 P w K mg (hidT s₁.heap H) callerA [] s₁ H:=⟨rfl,hM,λb o e=>qoh e,Nat.le_of_eq (qjk _ _),trivial,λb hb=>absurd (show b∈([]:List Addr) from hb) (by simp),hok, .of_eq hg⟩
  refine codeAny_mono ((F _ hKb (nsK hns)).run callerA [] s₁ H ⟨[.ref a],[]⟩ [.ref a] [.ref a] _ _ hr e0 (hbind s₁ (.ref a)) (.cons rfl .nil) (hsp H hO hS)) λr s' h=>?_
  cases r with
  | error e=>exact (hCX H e s' h).elim
  | ok fl =>
   cases fl with
   | next=>exact False.elim h
   | brk=>exact False.elim h
   | cont=>exact False.elim h
   | ret u =>
    obtain ⟨v,H',os,bare,un,hok',r',q⟩:=h;have q':v=.bl true:=q;subst q';obtain rfl:u=Value.bool true:=r';refine ⟨rfl,OldK.of_keep λb o e=>?_,os,bare⟩
    cases q:H b with
    | none=>exact un.keep b o e q (by intro z;exact absurd (show b∈([]:List Addr) from z) (by simp)) (by simp)
    | some u =>
     rcases hO b with z | ⟨ob,xs,z⟩
     ·rw [q] at z;cases z
     ·have z2:=un.frzs b ob _ z
      obtain ⟨e1,_⟩:=hok b _ z;obtain ⟨e2,_⟩:=hok' b _ z2;rw [e] at e1;cases e1;exact e2
 cases hk:K.lookup a with
 | some o =>
  have e:=KX a o hk;rw [ha] at e;cases e;refine core (λ_=>none) (λ_=>.inl rfl) (.inr ⟨_,vs.toArray,_,hk,rfl,rfl,rfl,by rw [List.size_toArray,lenV];exact hl,by simpa using rv⟩) (λb u z=>by have z':(none:Option HO)=some u:=z;cases z') (λb z=>absurd rfl z) λz=>absurd rfl z
 | none =>
  refine core (λb=>if b=a then some (.frz {cls:=.type "list",data:=.seq vs.toArray} (.lst (ns.map V.int))) else none) (λb=>?_) (.inl (.inr ⟨{cls:=.type "list",data:=.seq vs.toArray},if_pos rfl⟩)) (λb u z=>?_) (λb z=>?_) λ_=>hk
  ·by_cases hb:b=a
   ·exact .inr ⟨_,_,if_pos hb⟩
   ·exact .inl (if_neg hb)
  ·by_cases hb:b=a
   ·have z':=(if_pos hb).symm.trans z
    cases z';subst hb;exact ⟨ha,by rw [List.length_map];exact hl,vs,_,rv,ha⟩
   ·have z':=(if_neg hb).symm.trans z
    cases z'
  ·by_cases hb:b=a
   ·exact hb
   ·exact absurd (if_neg hb) z
theorem qnq {l:W.OpenLaw} {n k:Nat} {q:Program} {loose:List Str} {XP:(Str->Option Value)->Heap->Prop} {YP:World->Heap->Prop} {d:DefRec} {K:Params->W.Frag} {CX:World->CXT} {sp:World->Sp} {x:Str}
  (hn:l.most=some n) (hn2:n<=sizeLine) (hdf:d.params.defaults=[]) (hr:Room k callerA)
  (hY:∀ (w:World) (h:Heap),YP w h->(K w.params).In h)
  (F:∀ (w:World) (mg:Str->Option Value) (fa:Addr) (h:Heap),(K w.params).In h->h.Ns mainGlobals mg->mg d.name=some (.ref fa) ->
   ∃ fd:FuncData,(∀ (s:Shared) (u:Value),BindsTo s fd ⟨[u],[]⟩ [(x,u)]) /\
    ∀ base:Heap,(K w.params).In base->base.Ns mainGlobals mg->FnOk l.prog w (K w.params) mg base (CX w) k fa fd [x] (sp w))
  (hsp:∀ (w:World) (H:Hp) (a:Addr) (ns:List Int),ns.length<=n->Only H->SqL (K w.params) H a (ns.map V.int)->sp w [.ref a] H (λv _=>v=.bl true) λ_ _ _=>False)
  (hCX:∀ (w:World) (H:Hp) (s:Shared) (e:Value) (s':Shared),CX w [] H s (λ_ _ _=>False) e s'->False) :
  W.WalkO q loose XP YP l.row.toRowW d [] (λf vs=>PySem.call f vs):=by
 refine Att.qgk hn hdf λw s₀ s₁ mg mb fa o pm cd doc a vs ns G Y ho hd hcd hmg hobj hints hlen hg=>?_
 have KX:=hY w _ Y;obtain ⟨fd,hb,hF⟩:=F w mg fa _ KX G.T.g hmg;exact qm1 KX G.T.g G.T.b G.T.builtins G.T.nolimit hg hobj hints (Nat.le_trans hlen hn2) hr hF hb (λH hO hS=>hsp w H a ns hlen hO hS) λH e s' => hCX w H s₁ e s'
def inClass (s:Stmt) (j:Nat):Stmt:=match s with
 | .ClassDef _ _ _ body _ _ _ _ _ _ _=>body.getD j (.Pass ⟨0,0,0,0⟩)
 | _=>.Pass ⟨0,0,0,0⟩
def vn (s:Stmt):Arguments:=match s with
 | .FunctionDef _ a _ _ _ _ _ _ _ _=>a
 | _=>{posonlyargs:=[],args:=[],vararg:=none,kwonlyargs:=[],kw_defaults:=[],kwarg:=none,defaults:=[]}
def v7 (s:Stmt):List Stmt:=match s with
 | .FunctionDef _ _ b _ _ _ _ _ _ _=>b
 | _=>[]
def je (s:Stmt):Scope:=match s with
 | .FunctionDef _ _ _ _ _ _ sc _ _ _=>sc
 | _=>{kind:=.function,names:=[],isGenerator:=false,isCoroutine:=false}
abbrev CX0:CXT:=λ_ _ _ _ _ _=>False
abbrev E0:XK:=λ_ _ _=>False
theorem pass0 {X:Cx}:Passes CX0 X E0:=λ_ _ _ _ _ _ _ h=>h.elim
structure Fun (K:W.Frag) (x qual:Str) (st:Stmt) (f:Addr) (fd:FuncData):Prop where
 ex:∃ (oc:Value) (od:Option Addr) (kV doc pm:Value) (an:Option Addr) (cdv ct:Value) (osl:Array (Option Value)),
  fd=W.fnOf x qual (vn st) (v7 st) (je st) .none kV doc pm an cdv ct/\K.lookup f=some ⟨oc,od, .func fd,osl⟩/\W.codeIn K cdv qual=true
 kp:W.keepIn K (.ref f)=true
section
variable {P:Program} {w:World} {K:PySem.W.Frag} {mg:Str->Option Value} {base:Heap}
theorem Fun.ok {x qual:Str} {st:Stmt} {f:Addr} {fd:FuncData} {N ps:List Str} {k:Nat} {sp:Sp} (F:Fun K x qual st f fd) (S:ju N ps (je st)) (len:∀ vs H Q E,sp vs H Q E->vs.length=ps.length)
  (hbody:∀ (cdv:Value) (A:Around) (outer:List Env) (s:Shared) (H:Hp) (vs:List V) (Q:VK) (E:XK),Room k (A.deeper (envOfC qual (je st) s.heap.objs.size f cdv))->sp vs H Q E ->
   ∃ t,PSs (cxOf CX0 P w K mg base N qual (je st) f cdv A outer s H E).nox (v7 st) t/\t {nx:=λ_ H' => Q .non H',rt:=Q} (start N vs) H):FnOk P w K mg base CX0 (k+1) f fd ps sp:=by
 obtain ⟨oc,od,kV,doc,pm,an,cdv,ct,osl,rfl,lk,hcd⟩:=F.ex;refine ib lk hcd S len λA outer s H vs Q E hr hsp=>?_
 obtain ⟨t,h,q⟩:=hbody cdv A outer s H vs Q E hr hsp;exact ⟨t,h.nox,q⟩
theorem Fun.binds {x qual:Str} {st:Stmt} {f:Addr} {fd:FuncData} {ps:List Str} (F:Fun K x qual st f fd)
  (h:∀ (kV doc pm:Value) (an:Option Addr) (cdv ct:Value) (us:List Value),us.length=ps.length->bindArgs (W.fnOf x qual (vn st) (v7 st) (je st) .none kV doc pm an cdv ct) ⟨us,[]⟩=pure (ps.zip us)):Binds K fd ps []:=by
 obtain ⟨oc,od,kV,doc,pm,an,cdv,ct,osl,rfl,lk,hcd⟩:=F.ex;exact .all (h kV doc pm an cdv ct)
theorem cp {x qual:Str} {st:Stmt} {f:Addr} {oc:Value} {od an:Option Addr} {osl:Array (Option Value)} {kV doc pm cdv ct:Value} (l:K.lookup f=some ⟨oc,od, .func (W.fnOf x qual (vn st) (v7 st) (je st) .none kV doc pm an cdv ct),osl⟩)
  (c:W.codeIn K cdv qual=true) (k:W.keepIn K (.ref f)=true):Fun K x qual st f (W.fnOf x qual (vn st) (v7 st) (je st) .none kV doc pm an cdv ct):=⟨⟨oc,od,kV,doc,pm,an,cdv,ct,osl,rfl,l,c⟩,k⟩
end
theorem pd {A:Around} {k:Nat} (hr:Room k A):A.units+1<cLine:=Nat.lt_of_le_of_lt (Nat.add_le_add_left (by decide:1<=64) _) hr.units
section
variable {X:Cx}
theorem pv (i:Nat) {x:Str} {pos:Pos} (hN:X.N[i]?=some x:=by rfl) (hv:Vis X.env.scope x:=by first | exact Or.inl rfl | exact Or.inr (Or.inl rfl) | exact Or.inr (Or.inr rfl)) (hd:(x == ("__debug__" : Str))=false:=by decide)
  (hcd:(x == ("__classdict__" : Str))=false:=by decide):PE X (.Name x pos) (tVar i):=pe_var hN hv hd hcd
end
theorem iteF {A B:Prop} (h:B):if false=true then A else B:=by
 rw [if_neg Bool.false_ne_true];exact h
theorem iteT {A B:Prop} (h:A):if true=true then A else B:=by
 rw [if_pos rfl];exact h
def Same (H H':Hp):Prop:=∀ b o,H b=some o->H' b=some o
section
variable {κ:Type} [DecidableEq κ]
def valV (kvs:List (κ×V)) (k:κ):Option V:=(kvs.find? λkv=>decide (kv.1=k)).map (·.2)
def putK (kvs:List (κ×V)) (k:κ) (v:V):List (κ×V):=
 if (kvs.any λkv=>decide (kv.1=k))=true then kvs.map (λkv=>if kv.1=k then (kv.1,v) else kv) else kvs++[(k,v)]
theorem cq {p:κ×V} {r:List (κ×V)} {k:κ} (e:p.1=k):valV (p::r) k=some p.2:=by simp [valV,List.find?_cons,e]
theorem cu {p:κ×V} {r:List (κ×V)} {k:κ} (e:¬ p.1=k):valV (p::r) k=valV r k:=by simp [valV,List.find?_cons,e]
theorem qfg (k:κ):∀ kvs:List (κ×V),(kvs.any λkv=>decide (kv.1=k))=(valV kvs k).isSome
 | []=>rfl
 | p::r=>by
  rw [List.any_cons]
  by_cases e:p.1=k
  ·simp only [cq e,decide_eq_true e,Bool.true_or,Option.isSome_some]
  ·rw [cu e,decide_eq_false e,Bool.false_or];exact qfg k r
theorem qbk (kvs:List (κ×V)) (k:κ) (v:V):(putK kvs k v).length<=kvs.length+1:=by
 unfold putK;split
 ·rw [List.length_map];omega
 ·rw [List.length_append,List.length_cons,List.length_nil];omega
theorem RelO.qau {o:Option V} {u:Option Value} (r:RelO o u):o.isSome=u.isSome:=by
 cases o with
 | none=>cases u with
  | none=>rfl
  | some _=>exact (show False from r).elim
 | some _=>cases u with
  | none=>exact (show False from r).elim
  | some _=>rfl
theorem RelO.getD {o:Option V} {u:Option Value} {d:V} {d':Value} (r:RelO o u) (rd:RelV d d'):RelV (o.getD d) (u.getD d'):=by
 cases o with
 | none=>cases u with
  | none=>exact rd
  | some _=>exact (show False from r).elim
 | some _=>cases u with
  | none=>exact (show False from r).elim
  | some _=>exact r
theorem KV.val {kvs:List (κ×V)} {vs:List (κ×Value)} (r:KV kvs vs) (k:κ):RelO (valV kvs k) (valueAt vs k):=by
 unfold KV at r
 induction r with
 | nil=>exact True.intro
 | @cons p q ps qs h t ih =>
  obtain ⟨h1,h2⟩:=h
  by_cases e:p.1=k
  ·have e':q.1=k:=h1.symm.trans e
   have b:valueAt (q::qs) k=some q.2:=by simp [valueAt,List.find?_cons,e']
   rw [cq e,b];exact h2
  ·have e':¬ q.1=k:=λz=>e (h1.trans z)
   have b:valueAt (q::qs) k=valueAt qs k:=by simp [valueAt,List.find?_cons,e']
   rw [cu e,b];exact ih
theorem KV.any {kvs:List (κ×V)} {vs:List (κ×Value)} (r:KV kvs vs) (k:κ):(kvs.any λkv=>decide (kv.1=k))=vs.any λkv=>decide (kv.1=k):=by
 unfold KV at r
 induction r with
 | nil=>rfl
 | cons h t ih=>rw [List.any_cons,List.any_cons,ih,h.1]
theorem KV.repl {kvs:List (κ×V)} {vs:List (κ×Value)} (r:KV kvs vs) (k:κ) {y:V} {u:Value} (ry:RelV y u) :
  KV (kvs.map λkv=>if kv.1=k then (kv.1,y) else kv) (vs.map λkv=>if kv.1=k then (kv.1,u) else kv):=by
 unfold KV at r ⊢
 induction r with
 | nil=>exact .nil
 | @cons p q ps qs h t ih =>
  rw [List.map_cons,List.map_cons];refine .cons ?_ ih;obtain ⟨h1,h2⟩:=h
  by_cases e:p.1=k
  ·rw [if_pos e,if_pos (h1.symm.trans e)];exact ⟨h1,ry⟩
  ·rw [if_neg e,if_neg (λz=>e (h1.trans z))];exact ⟨h1,h2⟩
theorem KV.put {kvs:List (κ×V)} {vs:List (κ×Value)} (r:KV kvs vs) (k:κ) {y:V} {u:Value} (ry:RelV y u):KV (putK kvs k y) (stored vs k u):=by
 unfold putK stored;rw [r.any k]
 by_cases e:(vs.any λkv=>decide (kv.1=k))=true
 ·rw [if_pos e,if_pos e];exact r.repl k ry
 ·rw [if_neg e,if_neg e];exact Paired.snoc r ⟨rfl,ry⟩
theorem KV.length {kvs:List (κ×V)} {vs:List (κ×Value)} (r:KV kvs vs):kvs.length=vs.length:=Paired.length r
end
theorem qv {P:Program} {w:World} {k:Key} {u:Value} (r:RelV (kV k) u):(vo P w).is k u=true:=by
 cases k with
 | inl i=>obtain ⟨t,e⟩:=(show ∃ t,u=Value.int i t from r);subst e;exact qgf P w i t
 | inr x=>obtain ⟨t,e⟩:=(show ∃ t,u=Value.str x t from r);subst e;exact qgb P w x t
theorem qds {P:Program} {w:World}:∀ {ks:List Key} {us:List Value},Vals (ks.map kV) us->ItemsAre (vo P w) ks us
 | [],_,r=>by rw [List.map_nil] at r;cases r;exact .nil
 | k::ks,_,r=>by
  rw [List.map_cons] at r;cases r with
  | cons h t=>exact .cons (qv h) (qds t)
abbrev KT (H:Hp):List (List Key×V)->List (List Key×Addr×Value)->Prop:=Paired λp q=>p.1=q.1/\H q.2.1=some (.tup (p.1.map kV))/\RelV p.2 q.2.2
theorem KT.val {H:Hp} {kvs:List (List Key×V)} {xs:List (List Key×Addr×Value)} (r:KT H kvs xs) (k:List Key):RelO (valV kvs k) ((atKey xs k).map (·.2)):=by
 induction r with
 | nil=>exact True.intro
 | @cons p q ps qs h t ih =>
  obtain ⟨h1,_,h2⟩:=h
  by_cases e:p.1=k
  ·have e':q.1=k:=h1.symm.trans e
   have b:atKey (q::qs) k=some q.2:=by simp [atKey,List.find?_cons,e']
   rw [cq e,b];exact h2
  ·have e':¬ q.1=k:=λz=>e (h1.trans z)
   have b:atKey (q::qs) k=atKey qs k:=by simp [atKey,List.find?_cons,e']
   rw [cu e,b];exact ih
theorem KT.repl {H:Hp} {kvs:List (List Key×V)} {xs:List (List Key×Addr×Value)} (r:KT H kvs xs) (k:List Key) {y:V} {u:Value} (ry:RelV y u) :
  KT H (kvs.map λkv=>if kv.1=k then (kv.1,y) else kv) (xs.map (putAt k u)):=by
 induction r with
 | nil=>exact .nil
 | @cons p q ps qs h t ih =>
  rw [List.map_cons,List.map_cons];refine .cons ?_ ih;obtain ⟨h1,h2,h3⟩:=h;unfold putAt
  by_cases e:p.1=k
  ·rw [if_pos e,if_pos (h1.symm.trans e)];exact ⟨h1,h2,ry⟩
  ·rw [if_neg e,if_neg (λz=>e (h1.trans z))];exact ⟨h1,h2,h3⟩
theorem KT.put {H:Hp} {kvs:List (List Key×V)} {xs:List (List Key×Addr×Value)} (r:KT H kvs xs) (k:List Key) {b:Addr} {y:V} {u:Value} (hb:H b=some (.tup (k.map kV))) (ry:RelV y u) :
  KT H (putK kvs k y) (storedH xs k b u):=by
 have e:(kvs.any λkv=>decide (kv.1=k))=(atKey xs k).isSome:=by
  rw [qfg,(r.val k).qau,Option.isSome_map]
 unfold putK storedH;rw [e]
 by_cases q:(atKey xs k).isSome=true
 ·rw [if_pos q,if_pos q];exact r.repl k ry
 ·rw [if_neg q,if_neg q];exact Paired.snoc r ⟨rfl,hb,ry⟩
theorem KT.keeps {H H':Hp} {kvs:List (List Key×V)} {xs:List (List Key×Addr×Value)} (r:KT H kvs xs) (ht:∀ b ys,H b=some (.tup ys)->H' b=some (.tup ys)):KT H' kvs xs:=
 Paired.mapP r λ_ _ z=>⟨z.1,ht _ _ z.2.1,z.2.2⟩
section
variable {P:Program} {w:World} {H:Hp} {h:Heap} {a:Addr}
theorem rd_of {u:HO} (ok:HOk P w H h) (e:Rd H a u):xg P w H h a u:=e.ok ok
theorem n9 {kvs:List (Key×V)} (ok:HOk P w H h) (e:Rd H a (.dK kvs)):kvs.length<=sizeLine/\(a == sysModules)=false/\∃ vs,KV kvs vs/\h.DictOf (vo P w) a vs:=
 show xg P w H h a (.dK kvs) from rd_of ok e
theorem dk_of {kvs:List (Key×V)} (ok:HOk P w H h) (e:H a=some (.dK kvs)):kvs.length<=sizeLine/\(a == sysModules)=false/\∃ vs,KV kvs vs/\h.DictOf (vo P w) a vs:=n9 ok (.inl e)
theorem qw {ks:List Key} (ok:HOk P w H h) (e:H a=some (.tup (ks.map kV))):(tupleKind (vo P w)).is h ks a:=by
 obtain ⟨_,its,r,o,h1,h2,n,h3⟩:=(show xg P w H h a (.tup (ks.map kV)) from ok a _ e)
 exact ⟨o,its.toArray,n,h1,h2,h3,by simpa using qds r⟩
theorem pe {kvs:List (List Key×V)} (ok:HOk P w H h) (e:Rd H a (.dT kvs)):kvs.length<=sizeLine/\(a == sysModules)=false /\
  ∃ xs,KT H kvs xs/\h.DictOfH (tupleKind (vo P w)) a xs:=by
 obtain ⟨z,y,xs,r,o,es,ep,h1,h2,h3,h4,h5⟩:=(show xg P w H h a (.dT kvs) from rd_of ok e)
 refine ⟨z,y,xs,r,o,es,ep,h1,h2,h3,h4,λx hx=>?_,h5⟩
 have all:∀ {l:List (List Key×V)} {m:List (List Key×Addr×Value)},KT H l m->∀ x∈m,(tupleKind (vo P w)).is h x.1 x.2.1:=by
  intro l m q
  induction q with
  | nil=>intro x hx;exact nomatch hx
  | @cons p q ps qs hq t ih =>
   intro x hx;rcases List.mem_cons.mp hx with e | hx
   ·subst e
    exact qw ok (by rw [<- hq.1];exact hq.2.1)
   ·exact ih x hx
 exact all r x hx
theorem dt_of {kvs:List (List Key×V)} (ok:HOk P w H h) (e:H a=some (.dT kvs)):kvs.length<=sizeLine/\(a == sysModules)=false /\
  ∃ xs,KT H kvs xs/\h.DictOfH (tupleKind (vo P w)) a xs:=pe ok (.inl e)
end
def DGet (H:Hp) (a:Addr) (y:V) (r:Option V):Prop:=
 (∃ kvs k,Rd H a (.dK kvs)/\y=kV k/\r=valV kvs k)\/∃ kvs k b,Rd H a (.dT kvs)/\y=.ref b/\H b=some (.tup (k.map kV))/\r=valV kvs k
def DPut (H:Hp) (a:Addr) (y v:V) (H':Hp):Prop:=
 (∃ kvs k,H a=some (.dK kvs)/\y=kV k/\kvs.length<sizeLine/\H'=upd H a (.dK (putK kvs k v))) \/
 ∃ kvs k b,H a=some (.dT kvs)/\y=.ref b/\H b=some (.tup (k.map kV))/\kvs.length<sizeLine/\H'=upd H a (.dT (putK kvs k v))
section
variable {X:Cx} {pins:List (Addr×Obj)} {σ:St} {H:Hp} {s:Shared} {a:Addr} {y v:V} {u r:Value} {o:Option V} {A:Around} {E:Value->Shared->Prop}
theorem Inv.big (I:Inv X pins σ H s):sysModules<s.heap.objs.size:=by
 have h:mainGlobals<s.heap.objs.size:=(I.mod.glob.keeps I.bk).lt;exact Nat.lt_trans (by decide) h
theorem qke {Q:Value->Shared->Prop} (hu:A.units+1<cLine) (I:Inv X pins σ H s) (g:DGet H a y (some v)) (ry:RelV y u) (h:∀ w' s',Inv X pins σ H s'->RelV v w'->Q w' s') :
  wpAny (model X.prog X.w) A (getItem (.ref a) u) Q E s:=by
 rcases g with ⟨kvs,k,e,ey,l⟩ | ⟨kvs,k,b,e,ey,eb,l⟩
 ·subst ey
  obtain ⟨z,hd,vs,rel,dd⟩:=n9 I.hok e;obtain ⟨w',hw,rw'⟩:=RelO.some_of (v:=v) (o:=valueAt vs k) (by rw [l];exact rel.val k)
  exact wpAny_getItem_of (qv ry) dd.mapOf hw (h w' _ (I.tok _) rw')
 ·subst ey
  cases (show u=Value.ref b from ry)
  obtain ⟨z,hd,xs,rel,dd⟩:=pe I.hok e;obtain ⟨w',hw,rw'⟩:=RelO.some_of (v:=v) (o:=(atKey xs k).map (·.2)) (by rw [l];exact rel.val k)
  obtain ⟨p,hp,hp2⟩:=Option.map_eq_some_iff.mp hw;refine wpAny_getItem_heap (tupleKind_room_in1 hu) (qw I.hok eb) dd hp ?_;rw [hp2];exact h w' _ (I.tok _) rw'
theorem d_in {Q:Value->Shared->Prop} (hu:A.units+1<cLine) (I:Inv X pins σ H s) (g:DGet H a y o) (ry:RelV y u) (h:∀ s',Inv X pins σ H s'->Q (.bool o.isSome) s') :
  wpAny (model X.prog X.w) A (compareOp .In u (.ref a)) Q E s:=by
 rcases g with ⟨kvs,k,e,ey,l⟩ | ⟨kvs,k,b,e,ey,eb,l⟩
 ·subst ey
  obtain ⟨z,hd,vs,rel,dd⟩:=n9 I.hok e;refine wpAny_in_of (qv ry) hd dd.mapOf ?_;rw [<- (rel.val k).qau, <- l];exact h _ (I.tok _)
 ·subst ey
  cases (show u=Value.ref b from ry)
  obtain ⟨z,hd,xs,rel,dd⟩:=pe I.hok e;refine wpAny_in_heap (tupleKind_room_in1 hu) (qw I.hok eb) hd dd ?_;have q:=(rel.val k).qau;rw [Option.isSome_map] at q;rw [<- q, <- l];exact h _ (I.tok _)
theorem qhf {h':Heap} {t':Nat} {ob:HO} (I:Inv X pins σ H s) (mu:Mut (H a)) (hs:Heap.SameBut a s.heap h') (he:∃ q,h'.get? a=some q) (new:xg X.prog X.w (upd H a ob) h' a ob) :
  Inv X pins σ (upd H a ob) {s with heap:=h',toks:=t'}:=
 I.write (x:=a) (e:=a) mu (.inl rfl) (λb q hb z=>(hs.2 b hb).trans z) he new
theorem dk_new {P:Program} {w:World} {H':Hp} {h':Heap} {kvs:List (Key×V)} {vs:List (Key×Value)} (z:kvs.length<=sizeLine) (hd:(a == sysModules)=false) (rel:KV kvs vs) (dd:h'.DictOf (vo P w) a vs) :
  xg P w H' h' a (.dK kvs):=⟨z,hd,vs,rel,dd⟩
theorem qkf {H':Hp} {Q:Unit->Shared->Prop} (hu:A.units+1<cLine) (I:Inv X pins σ H s) (g:DPut H a y v H') (ry:RelV y u) (rv:RelV v r) (h:∀ s',Inv X pins σ H' s'->Q () s') :
  wpAny (model X.prog X.w) A (setItem (.ref a) u r) Q E s:=by
 rcases g with ⟨kvs,k,e,ey,l,eH⟩ | ⟨kvs,k,b,e,ey,eb,l,eH⟩
 ·subst ey eH
  obtain ⟨z,hd,vs,rel,dd⟩:=dk_of I.hok e;have hz:vs.length<=sizeLine:=by rw [<- rel.length];exact z
  have hl:(putK kvs k v).length<=sizeLine:=by have:=qbk kvs k v;omega
  refine wpAny_setItem_pairs (hsz:=hz) (qv ry) dd λh' dd' hs=>h _ ?_
  have he:∃ q,h'.get? a=some q:=let ⟨q,_,_,hq,_⟩:=dd';⟨q,hq⟩;exact qhf I (by rw [e];exact True.intro) hs he (dk_new hl hd (rel.put k rv) dd')
 ·subst ey eH
  cases (show u=Value.ref b from ry)
  obtain ⟨z,hd,xs,rel,dd⟩:=dt_of I.hok e;have hz:xs.length<=sizeLine:=by rw [<- Paired.length rel];exact z
  have hl:(putK kvs k v).length<=sizeLine:=by have:=qbk kvs k v;omega
  refine wpAny_setItem_heap (hsz:=hz) (tupleKind_room_in1 hu) (qw I.hok eb) dd λh' dd' hs=>h _ ?_
  obtain ⟨q,es,ep,hq,h2,h3,h4,_,h5⟩:=dd';refine qhf I (by rw [e];exact True.intro) hs ⟨q,hq⟩ ⟨hl,hd,_,(rel.put k eb rv).keeps λc ys ec=>?_,q,es,ep,hq,h2,h3,h4,h5⟩
  rw [yk (ne_of ec e (λz=>nomatch z))]
  exact ec
end
section
variable {X:Cx} {pins:List (Addr×Obj)} {σ:St} {H:Hp} {s:Shared} {a:Addr} {kvs:List (Key×V)} {k:Key} {u:Value} {A:Around} {E:Value->Shared->Prop}
theorem d_len {Q:Value->Shared->Prop} (I:Inv X pins σ H s) (e:Rd H a (.dK kvs)) (h:∀ t s',Inv X pins σ H s'->Q (.int kvs.length t) s'):wpAny (model X.prog X.w) A (call (.builtin "len") [.ref a]) Q E s:=by
 obtain ⟨z,hd,vs,rel,dd⟩:=n9 I.hok e;refine call_len_dict hd dd (by rw [<- rel.length];rw [sizeLine_eq] at z;omega) ?_
 rw [<- rel.length];exact h _ _ (I.tok _)
end
def NoSl (i:Expr):Prop:=∀ ov iv,subscripted i false ov iv=operate [ov,iv] (getItem ov iv)
theorem qop {prog:Program} {w:World} {A:Around} {E:Value->Shared->Prop} {s:Shared} {env:Env} {value slice:Expr} {pos:Pos} {T id:String} {Q:Value->Shared->Prop}
  (hl:typeLookup (.type T) "__getitem__" = pure (some (.builtin id))) (hs:NoSl slice)
  (h:wpAny (model prog w) A (eval value env) (λo s₁=>wpAny (model prog w) A (eval slice env) (λi s₂=>s₂.TypeIs o T/\wpAny (model prog w) A (getItem o i) Q E s₂) E s₁) E s) :
  wpAny (model prog w) A (eval (.Subscript value slice pos) env) Q E s:=by
 refine Subscript_ (wpAny_mono h (λo s₁ h₁=>wpAny_mono h₁ (λi s₂ h₂=>?_) λ_ _ x=>x) λ_ _ x=>x)
 obtain ⟨hT,h₂⟩:=h₂;unfold subscriptTail;refine wpAny_bind ?_;rw [getitemInPython_of_ne hT.not_modules];refine wpAny_bind (wpAny_specialOf hT hl ?_);have fin:wpAny (model prog w) A (subscripted slice false o i) (λr s₃=>wpAny (model prog w) A (letTemporaryGo value o r >>= λ_=>pure r) Q E s₃) E s₂:=by
  rw [hs o i];exact wpAny_operating (wpAny_mono h₂ (λr s₃ h₃=>wpAny_bind (wpAny_letTemporaryGo (wpAny_pure h₃))) λ_ _ x=>x)
 first
  | exact wpAny_pure (wpAny_bind fin)
  | exact wpAny_bind (wpAny_pure (wpAny_bind fin))
  | exact wpAny_bind fin
theorem qgl {X:Cx} {pins:List (Addr×Obj)} {σ:St} {H:Hp} {s:Shared} {a:Addr} {y:V} {o:Option V} (I:Inv X pins σ H s) (g:DGet H a y o):s.TypeIs (.ref a) "dict":=by
 rcases g with ⟨kvs,k,e,_,_⟩ | ⟨kvs,k,b,e,_,_,_⟩
 ·obtain ⟨_,_,vs,_,dd⟩:=n9 I.hok e
  exact dd.typeIs
 ·obtain ⟨_,_,xs,_,dd⟩:=pe I.hok e
  exact dd.typeIs
def tDGet (td ty:TE):TE:=λσ H Q=>td σ H λx H1=>ty σ H1 λy H2=>∃ a v,x=.ref a/\DGet H2 a y (some v)/\Q v H2
def tDIn (ty td:TE):TE:=λσ H Q=>ty σ H λy H1=>td σ H1 λx H2=>∃ a o,x=.ref a/\DGet H2 a y o/\Q (.bl o.isSome) H2
def sDPut (td ty tv:TE):TS:=λD σ H=>tv σ H λv H1=>td σ H1 λx H2=>ty σ H2 λy H3=>∃ a H4,x=.ref a/\DPut H3 a y v H4/\D.nx σ H4
section
variable {X:Cx} {o i e value:Expr} {pos pos' tpos:Pos} {td ty tv:TE}
theorem ij (hu:X.A.units+1<cLine) (ho:PE X o td) (hi:PE X i ty) (hs:NoSl i):PE X (.Subscript o i pos) (tDGet td ty):=by
 intro pins s σ H Q I h;refine qop PySem.F.slot_dict_getitem.lookup hs (thn (ho pins s σ H _ I h) λu s1 ⟨x,H1,I1,rx,q1⟩=>thn (hi pins s1 σ H1 _ I1 q1) λiv s2 ⟨y,H2,I2,ry,a,v,ex,g,q2⟩=>?_)
 subst ex;obtain rfl:u=Value.ref a:=rx;exact ⟨qgl I2 g,qke hu I2 g ry λw' s3 I3 rw' => ⟨v,H2,I3,rw',q2⟩⟩
theorem pc_din (hu:X.A.units+1<cLine) (hi:PE X i ty) (ho:PE X o td):PC X .In i o (tDIn ty td):=by
 intro pins s σ H Q I h;refine thn (hi pins s σ H _ I h) λiv s1 ⟨y,H1,I1,ry,q1⟩=>thn (ho pins s1 σ H1 _ I1 q1) λu s2 ⟨x,H2,I2,rx,a,ov,ex,g,q2⟩=>?_
 subst ex;obtain rfl:u=Value.ref a:=rx;exact d_in hu I2 g ry λs3 I3=>⟨.bl ov.isSome,H2,I3,rfl,q2⟩
theorem de (hu:X.A.units+1<cLine) (ho:PE X o td) (hi:PE X i ty) (hv:PE X value tv) (hs:swapsWith value (some (.Subscript o i pos')) pos.line X.env=pure false) :
  PS X (.Assign [.Subscript o i pos'] value pos) (sDPut td ty tv):=by
 intro pins s σ H D I h;refine wpAny_Assign_Subscript (thn (hv pins s σ H _ I h) λr s1 ⟨v,H1,I1,rv,q1⟩=>thn (ho pins s1 σ H1 _ I1 q1) λu s2 ⟨x,H2,I2,rx,q2⟩=>thn (hi pins s2 σ H2 _ I2 q2) λiv s3 ⟨y,H3,I3,ry,a,H4,ex,g,q3⟩=>?_) hs
 subst ex;obtain rfl:u=Value.ref a:=rx;exact qkf hu I3 g ry rv λs4 I4=>⟨σ,H4,I4,q3⟩
end
theorem qmf {P:Program} {w:World} {H:Hp} (h:Heap) (hb:sysModules<h.objs.size):xg P w H (h.push {cls:=.type "dict",data:=.dict #[]}) h.objs.size (.dK []):=
 ⟨Nat.zero_le _,beq_eq_false_iff_ne.mpr (Ne.symm (Nat.ne_of_lt hb)),[], .nil,Heap.DictOf.new h⟩
def ik:TE:=λ_ H Q=>∀ p,H p=none->Q (.ref p) (upd H p (.dK []))
section
variable {X:Cx} {pos:Pos}
theorem dg:PE X (.Dict [] [] pos) ik:=λpins s σ H Q I h =>
 wpAny_Dict_empty ⟨.ref s.heap.objs.size,_,I.laid (a:=s.heap.objs.size) (o:=.dK []) (t':=s.toks) (λ_ _ q=>Heap.get?_push_of_some _ q) (Nat.le_refl _) (qmf s.heap I.big),rfl,h _ (I.hok.fresh (Nat.le_refl _))⟩
end
structure M1 (X:Cx) (o:Expr) (m:Str) (apos:Pos) (e:Expr) (cpos:Pos):Prop where
 base:attributeBase o m X.env (eval o X.env)=eval o X.env
 few:((backTo cpos (starEach [e] X.env)).all (λx=>!x.1) && (backToKw cpos (keywordEach [] X.env)).all (λx=>x.1.isSome)
  && decide (([e]:List Expr).length+([]:List Keyword).length+(if ([]:List Keyword).isEmpty then 0 else 1)<30))=true
 line:(apos.endLine == cpos.line)=true
 trees:backTo cpos (starEach [e] X.env)=[(false,eval e X.env)]
structure M2 (X:Cx) (o:Expr) (m:Str) (apos:Pos) (e f:Expr) (cpos:Pos):Prop where
 base:attributeBase o m X.env (eval o X.env)=eval o X.env
 few:((backTo cpos (starEach [e,f] X.env)).all (λx=>!x.1) && (backToKw cpos (keywordEach [] X.env)).all (λx=>x.1.isSome)
  && decide (([e,f]:List Expr).length+([]:List Keyword).length+(if ([]:List Keyword).isEmpty then 0 else 1)<30))=true
 line:(apos.endLine == cpos.line)=true
 trees:backTo cpos (starEach [e,f] X.env)=[(false,eval e X.env),(false,eval f X.env)]
def IsD (H:Hp) (a:Addr):Prop:=(∃ kvs,Rd H a (.dK kvs))\/∃ kvs,Rd H a (.dT kvs)
theorem qjz {X:Cx} {pins:List (Addr×Obj)} {σ:St} {H:Hp} {s:Shared} {a:Addr} (I:Inv X pins σ H s) (d:IsD H a) :
  s.TypeIs (.ref a) "dict" /\ (∀ b,Value.ref a=.ref b->∃ ob,s.heap.get? b=some ob/\ob.dict=none)/\(a == sysModules)=false:=by
 rcases d with ⟨kvs,e⟩ | ⟨kvs,e⟩
 ·obtain ⟨_,hd,vs,_,dd⟩:=n9 I.hok e
  refine ⟨dd.typeIs,λb q=>?_,hd⟩
  cases q;obtain ⟨ob,_,_,h1,h2,_⟩:=dd;exact ⟨ob,h1,h2.2.1⟩
 ·obtain ⟨_,hd,xs,_,dd⟩:=pe I.hok e
  refine ⟨dd.typeIs,λb q=>?_,hd⟩
  cases q;obtain ⟨ob,_,_,h1,h2,_⟩:=dd;exact ⟨ob,h1,h2.2.1⟩
section
variable {X:Cx} {pins:List (Addr×Obj)} {σ:St} {H:Hp} {s:Shared} {a:Addr} {y d:V} {u r:Value} {o:Option V} {A:Around} {E:Value->Shared->Prop}
theorem d_get1 {Q:Value->Shared->Prop} (hu:A.units+1<cLine) (I:Inv X pins σ H s) (g:DGet H a y o) (ry:RelV y u) (h:∀ w' s',Inv X pins σ H s'->RelV (o.getD .non) w'->Q w' s') :
  wpAny (model X.prog X.w) A (call (.builtin "dict.get") [.ref a,u]) Q E s:=by
 rcases g with ⟨kvs,k,e,ey,l⟩ | ⟨kvs,k,b,e,ey,eb,l⟩
 ·subst ey
  obtain ⟨z,hd,vs,rel,dd⟩:=n9 I.hok e;refine call_meetsIn PySem.F.slot_dict_get dd.typeIs PySem.F.entry_dict_get (PySem.F.args_dict_get_2 _ _) (meets_dict_get (vo X.prog X.w) a (qv ry) hd) ⟨_,dd.mapOf,h _ _ (I.tok _) ?_⟩;rw [l];exact (rel.val k).getD rfl
 ·subst ey
  cases (show u=Value.ref b from ry)
  obtain ⟨z,hd,xs,rel,dd⟩:=pe I.hok e;refine call_meetsIn PySem.F.slot_dict_get dd.typeIs PySem.F.entry_dict_get (PySem.F.args_dict_get_2 _ _) (meetsH_dict_get (tupleKind (vo X.prog X.w)) a b hd) ⟨tupleKind_room_in1 hu,k,xs,qw I.hok eb,dd,h _ _ (I.tok _) ?_⟩;rw [l];exact (rel.val k).getD rfl
theorem d_get2 {Q:Value->Shared->Prop} (hu:A.units+1<cLine) (I:Inv X pins σ H s) (g:DGet H a y o) (ry:RelV y u) (rd:RelV d r) (h:∀ w' s',Inv X pins σ H s'->RelV (o.getD d) w'->Q w' s') :
  wpAny (model X.prog X.w) A (call (.builtin "dict.get") [.ref a,u,r]) Q E s:=by
 rcases g with ⟨kvs,k,e,ey,l⟩ | ⟨kvs,k,b,e,ey,eb,l⟩
 ·subst ey
  obtain ⟨z,hd,vs,rel,dd⟩:=n9 I.hok e;refine call_meetsIn PySem.F.slot_dict_get dd.typeIs PySem.F.entry_dict_get (PySem.F.args_dict_get_3 _ _ _) (meets_dict_get_default (vo X.prog X.w) a (qv ry) hd r) ⟨_,dd.mapOf,h _ _ (I.tok _) ?_⟩;rw [l];exact (rel.val k).getD rd
 ·subst ey
  cases (show u=Value.ref b from ry)
  obtain ⟨z,hd,xs,rel,dd⟩:=pe I.hok e;refine call_meetsIn PySem.F.slot_dict_get dd.typeIs PySem.F.entry_dict_get (PySem.F.args_dict_get_3 _ _ _) (meetsH_dict_get_default (tupleKind (vo X.prog X.w)) a b hd r) ⟨tupleKind_room_in1 hu,k,xs,qw I.hok eb,dd,h _ _ (I.tok _) ?_⟩;rw [l];exact (rel.val k).getD rd
end
def qjy (td ty:TE):TE:=λσ H Q=>td σ H λx H1=>∃ a,x=.ref a/\IsD H1 a/\ty σ H1 λy H2=>∃ o,DGet H2 a y o/\Q (o.getD .non) H2
def qjl (td ty tx:TE):TE:=λσ H Q=>td σ H λx H1=>∃ a,x=.ref a/\IsD H1 a/\ty σ H1 λy H2=>tx σ H2 λz H3=>∃ o,DGet H3 a y o/\Q (o.getD z) H3
section
variable {X:Cx} {o e f:Expr} {apos cpos:Pos} {td ty tx:TE}
theorem cw (hu:X.A.units+1<cLine) (ho:PE X o td) (he:PE X e ty) (m:M1 X o "get" apos e cpos):PE X (.Call (.Attribute o "get" apos) [e] [] cpos) (qjy td ty):=by
 intro pins s σ H Q I h;refine wpAny_Call_method m.base m.few m.line PySem.F.plainAttrs_dict PySem.F.slot_dict_get PySem.F.type_dict_get (thn (ho pins s σ H _ I h) λu s1 ⟨x,H1,I1,rx,a,ex,d,q1⟩=>?_)
 subst ex;obtain rfl:u=Value.ref a:=rx;obtain ⟨t1,t2,_⟩:=qjz I1 d;refine ⟨t1,t2,?_⟩;rw [m.trees];refine Calls.callWith_builtin rfl (Calls.evalArgs_plain (Calls.spliced_cons (thn (he pins s1 σ H1 _ I1 q1) λiv s2 ⟨y,H2,I2,ry,ov,g,q2⟩=>Calls.spliced_nil ?_)))
 exact d_get1 hu I2 g ry λw' s3 I3 rw' => ⟨_,H2,I3,rw',q2⟩
theorem qfy (hu:X.A.units+1<cLine) (ho:PE X o td) (he:PE X e ty) (hf:PE X f tx) (m:M2 X o "get" apos e f cpos):PE X (.Call (.Attribute o "get" apos) [e,f] [] cpos) (qjl td ty tx):=by
 intro pins s σ H Q I h;refine wpAny_Call_method m.base m.few m.line PySem.F.plainAttrs_dict PySem.F.slot_dict_get PySem.F.type_dict_get (thn (ho pins s σ H _ I h) λu s1 ⟨x,H1,I1,rx,a,ex,d,q1⟩=>?_)
 subst ex;obtain rfl:u=Value.ref a:=rx;obtain ⟨t1,t2,_⟩:=qjz I1 d;refine ⟨t1,t2,?_⟩;rw [m.trees];refine Calls.callWith_builtin rfl (Calls.evalArgs_plain (Calls.spliced_cons (thn (he pins s1 σ H1 _ I1 q1) λiv s2 ⟨y,H2,I2,ry,q2⟩ =>
  Calls.spliced_cons (thn (hf pins s2 σ H2 _ I2 q2) λfv s3 ⟨z,H3,I3,rz,ov,g,q3⟩=>Calls.spliced_nil ?_))))
 exact d_get2 hu I3 g ry rz λw' s4 I4 rw' => ⟨_,H3,I4,rw',q3⟩
end
section
variable {X:Cx}
theorem qk3:x9 X (.builtin "len") (λxs H Q=>∃ a kvs,xs=[V.ref a]/\H a=some (.dK kvs)/\Q (.int kvs.length) H):=by
 intro pins s σ H xs us Q I r h;obtain ⟨a,kvs,rfl,ha,q⟩:=h;obtain ⟨u,rfl,ru⟩:=vals1 r;cases ru;exact d_len I (.inl ha) λt s' I' => ⟨.int kvs.length,H,I',⟨t,rfl⟩,q⟩
end
end L2
set_option maxHeartbeats 4000000
namespace L2
open PySem PySem.Spec PyProof.Rows
theorem q8n {α β:Type} {f:α->β->Sem (ForInStep β)} {g:β->α->β}:∀ (l:List α) (c:β),(∀ x∈l, ∀ c,f x c=pure (.yield (g c x)))->forIn l c f=(pure (l.foldl g c):Sem β)
 | [],c,_=>rfl
 | x::l,c,h=>by
  rw [List.forIn_cons,h x List.mem_cons_self c,pure_bind];exact q8n l (g c x) λy hy c=>h y (List.mem_cons_of_mem _ hy) c
def oj (cells:List (Str×Addr)) (cs:List (Str×Addr)) (x:Str×NameKind):List (Str×Addr):=
 if (x.2 == .free)=true then match cells.lookup x.1 with | some c=>(x.1,c)::cs | none=>cs else cs
def clos (names:List (Str×NameKind)) (cells:List (Str×Addr)):List (Str×Addr):=names.foldl (oj cells) []
theorem qe8 {scope:Scope} {env:Env} (h:∀ x∈scope.names,x.2=.free->∃ c,env.cells.lookup x.1=some c):closureFor scope env=pure (clos scope.names env.cells):=by
 simp only [closureFor];rw [q8n (g:=oj env.cells) scope.names [] (λx hx c=>by
  obtain ⟨n,kind⟩:=x
  by_cases hk:kind=.free
  ·subst hk
   obtain ⟨a,ha⟩:=h _ hx rfl;simp only [oj,cellOf,ha,beq_self_eq_true,if_true,pure_bind]
  ·have:(kind == NameKind.free)=false:=by simpa using hk
   simp only [oj,this,Bool.false_eq_true,if_false])]
 rfl
theorem qay {cells:List (Str×Addr)} {x:Str} {c:Addr}:∀ (names:List (Str×NameKind)) (acc:List (Str×Addr)),(x,c)∈names.foldl (oj cells) acc->(x,c)∈acc\/cells.lookup x=some c
 | [],acc,h=>.inl h
 | y::r,acc,h=>by
  rcases qay r _ h with h | h
  ·unfold oj at h
   split at h
   ·cases e:cells.lookup y.1 with
    | none=>rw [e] at h;exact .inl h
    | some d =>
     rw [e] at h;rcases List.mem_cons.mp h with h | h
     ·cases h;exact .inr e
     ·exact .inl h
   ·exact .inl h
  ·exact .inr h
theorem qam {cells:List (Str×Addr)} {p:Str×Addr}:∀ (names:List (Str×NameKind)) (acc:List (Str×Addr)),p∈acc->p∈names.foldl (oj cells) acc
 | [],acc,h=>h
 | y::r,acc,h=>by
  refine qam r _ ?_;unfold oj;split
  ·cases e:cells.lookup y.1 with
   | none=>exact h
   | some d=>exact List.mem_cons_of_mem _ h
  ·exact h
theorem qbm {cells:List (Str×Addr)} {x:Str} {c:Addr} (hc:cells.lookup x=some c):∀ (names:List (Str×NameKind)) (acc:List (Str×Addr)),(x,NameKind.free)∈names->(x,c)∈names.foldl (oj cells) acc
 | [],acc,h=>by simp at h
 | y::r,acc,h=>by
  rcases List.mem_cons.mp h with h | h
  ·subst h
   refine qam r _ ?_;simp only [oj,beq_self_eq_true,if_true,hc];exact List.mem_cons_self
  ·exact qbm hc r _ h
theorem qal {x:Str} {c:Addr}:∀ {l:List (Str×Addr)},(x,c)∈l->∃ d,l.lookup x=some d
 | [],h=>by simp at h
 | (y,d)::r,h=>by
  by_cases e:x=y
  ·subst e;exact ⟨d,by simp [List.lookup_cons]⟩
  ·rcases List.mem_cons.mp h with h | h
   ·cases h;exact absurd rfl e
   ·obtain ⟨d',q⟩:=qal h
    have:(x == y)=false:=by simpa using e
    exact ⟨d',by simp [List.lookup_cons,this,q]⟩
theorem ko {names:List (Str×NameKind)} {cells:List (Str×Addr)} {x:Str} {c:Addr} (h:(clos names cells).lookup x=some c):cells.lookup x=some c:=by
 rcases qay names [] (PySem.mem_of_lookup h) with h | h
 ·simp at h
 ·exact h
theorem qg8 {names:List (Str×NameKind)} {cells:List (Str×Addr)} {x:Str} {c:Addr} (hn:(x,NameKind.free)∈names) (hc:cells.lookup x=some c):(clos names cells).lookup x=some c:=by
 obtain ⟨d,q⟩:=qal (qbm hc names [] hn);have:=ko (names:=names) q;rw [hc] at this;cases this;exact q
theorem qbg {g:Str->NameKind->NameKind} {x:Str}:∀ (l:List (Str×NameKind)),(l.map λp=>(p.1,g p.1 p.2)).lookup x=(l.lookup x).map (g x)
 | []=>rfl
 | (y,k)::r=>by
  by_cases e:x=y
  ·subst e;simp [List.lookup_cons]
  ·have:(x == y)=false:=by simpa using e
   simp only [List.map_cons,List.lookup_cons,this];exact qbg r
theorem q9f {scope:Scope} {env:Env} {x:Str}:(relabel scope env).names.lookup x=(scope.names.lookup x).map λk=>if (k == .free && env.scope.kind == .function && env.kindOf x == some .cell)=true then .cell else k:=by
 rw [<- qbg (g:=λx k=>if (k == .free && env.scope.kind == .function && env.kindOf x == some .cell)=true then .cell else k)]
 unfold relabel
 congr 1
 apply List.map_congr_left
 rintro ⟨n,k⟩ _;dsimp only;split <;> rfl
structure Blk (osc:Scope) (N:List Str) (scope:Scope) (own:List Str) (fv:List (Str×Nat)):Prop where
 kind:scope.kind=.function
 nocell:∀ y∈scope.names,y.2≠.cell
 loc:∀ y∈scope.names,y.2=.local->scope.names.lookup y.1=some .local
 free:∀ y∈scope.names,y.2=.free->(osc.names.lookup y.1=some .cell\/osc.names.lookup y.1=some .free)
 at':∀ p∈fv,N[p.2]?=some p.1/\scope.names.lookup p.1=some .free
 hown:∀ x∈own,scope.names.lookup x=some .local
def blk (X:Cx) (scope:Scope) (own:List Str) (fv:List (Str×Nat)) (s:Shared) (H:Hp) (fp:List Addr):Cx:=
 {X with N:=own++fv.map (·.1),s₀:=s,H₀:=H,env:=compEnvC scope (clos scope.names X.env.cells) s.heap.objs.size X.env,outer:=X.stack,ex:=fp,fn:=λ_=>false,pn:=[],xe:=λ_ _=>False}
def kq (fv:List (Str×Nat)) (σ:St):St:=fv.map λp=>(σ[p.2]?).join
def bσ (own:List Str) (fv:List (Str×Nat)) (σ:St):St:=own.map (λ_=>none)++kq fv σ
def PTs (X:Cx) (ifs:List Expr) (t:TT):Prop:=
 ∀ (pins:List (Addr×Obj)) (s:Shared) (σ:St) (H:Hp) (Q:Bool->Hp->Prop),Inv X pins σ H s->t σ H Q ->
  wpAny (model X.prog X.w) X.A (forIn ifs true λc r=>if r=true then do let ok <- isTrue c X.env (eval c X.env);pure (ForInStep.yield ok) else pure (ForInStep.yield r)) (TP X pins σ Q) X.xe s
def tYes:TT:=λ_ H Q=>Q true H
theorem u6 {X:Cx}:PTs X [] tYes:=λpins s σ H Q I h=>wpAny_tests_nil ⟨H,I,h⟩
theorem qng {X:Cx} {c:Expr} {t:TT} (h:PT X c t):PTs X [c] t:=λpins s σ H Q I q=>wpAny_tests_one (h pins s σ H Q I q)
def LcW (own:List Str) (fv:List (Str×Nat)) (J:It) (g:TG) (tc:TT) (te:TE) (σ:St) (D:Addr) (Q:VK) (H0:Hp):Prop:=∃ W:Nat->Nat->Hp->Prop,
 (∃ m,W 0 m H0)/\∀ i m H,W i m H->(J.stop i H/\Q (.ref D) H)\/(J.go i H/\∃ (NE:VK) (NF:Hp->Prop),(∀ v H5,NE v H5->∃ ys,H5 D=some (.lst ys)/\ys.length<sizeLine/\∃ m',m' < m/\W (i+1) m' (upd H5 D (.lst (ys++[v])))) /\
  (∀ H4,NF H4->∃ m',m' < m/\W (i+1) m' H4)/\∀ x H2,J.yld i H x H2->g x (bσ own fv σ) H2 λσ3 H3 =>
  (∃ os:St,os.length=own.length/\σ3=os++kq fv σ)/\tc σ3 H3 λb H4=>if b=true then te σ3 H4 NE else NF H4)
def tLc (own:List Str) (fv:List (Str×Nat)) (wi:TI) (g:TG) (tc:TT) (te:TE):TE:=λσ H Q=>wi σ H λJ H1=>∀ D,H1 D=none->LcW own fv J g tc te σ D Q (upd H1 D (.lst []))
section
variable {prog:Program} {w:World} {A:Around} {R:Result->Shared->Prop} {s:Shared}
theorem q7p {elt target iter:Expr} {ifs:List Expr} {scope:Scope} {pos:Pos} {it acc:Value} {env:Env} (I:Nat->Shared->Prop)
  (turn:∀ n s,I n s->wpAny (model prog w) A (pyNext it) (λr s₁=>match r with
   | none=>R (.ok .next) s₁
   | some v=>wpAny (model prog w) A (letOwnedTupleGo target it v) (λ_ s₁' => wpAny (model prog w) A (assign target env v) (λ_ s₂ =>
     wpAny (model prog w) A (forIn ifs true λc r=>if r=true then do let ok <- isTrue c env (eval c env);pure (ForInStep.yield ok) else pure (ForInStep.yield r)) (λok s₃ =>
      if ok=true then wpAny (model prog w) A (eval elt env) (λx s₄ =>
       wpAny (model prog w) A (call (.builtin "list.append") [acc,x]) (λ_ s₅=>∃ m,m<n/\I m s₅) (λ_ _=>False) s₄) (λ_ _=>False) s₃
      else ∃ m,m<n/\I m s₃) (λ_ _=>False) s₂) (λ_ _=>False) s₁') (λ_ _=>False) s₁) (λ_ _=>False) s)
  (n:Nat) (h:I n s) :
  codeAny (model prog w) A (.compLoop (.ListComp elt [⟨target,iter,ifs,0⟩] scope pos) 0 it acc env) R s:=by
 refine codeAny_loop rfl I (λn s hI=>?_) n h
 show wpAny _ A ((compTurn (.ListComp elt [⟨target,iter,ifs,0⟩] scope pos) 0 it acc env).onRaise (λx=>do noteFrame x env;theTreesLotGoes x)) _ _ s
 refine wpAny_noted ?_;rw [compTurn_list];refine wpAny_bind (wpAny_standAt (wpAny_bind (wpAny_mono (turn n s hI) (λr s₁ h₁=>?_) λ_ _ h' => h'.elim)))
 cases r with
 | none=>exact wpAny_pure h₁
 | some v =>
  refine wpAny_bind (wpAny_mono h₁ (λ_ s₁' h₁' => ?_) λ_ _ h' => h'.elim)
  refine wpAny_bind (wpAny_mono h₁' (λ_ s₂ h₂=>wpAny_bind (wpAny_mono h₂ (λok s₃ h₃=>?_) λ_ _ h' => h'.elim)) λ_ _ h' => h'.elim)
  cases ok with
  | false=>exact wpAny_pure ⟨rfl,h₃⟩
  | true =>
   exact wpAny_bind (wpAny_bind (wpAny_mono h₃ (λx s₄ h₄=>wpAny_bind (wpAny_mono h₄ (λ_ s₅ h₅=>wpAny_pure (wpAny_pure ⟨rfl,h₅⟩)) λ_ _ h' => h'.elim)) λ_ _ h' => h'.elim))
end
section
variable {X:Cx} {pins:List (Addr×Obj)} {σ:St} {H:Hp} {s:Shared} {scope:Scope} {own:List Str} {fv:List (Str×Nat)}
theorem blk_ok (I:Inv X pins σ H s) (B:Blk X.env.scope X.N scope own fv) {fp:List Addr} {H0:Hp} (hf:∀ b∈fp,FpOk X pins H0 b) (hlt:∀ b∈fp,b<s.heap.objs.size):(blk X scope own fv s H fp).Ok where
 mod:=I.ok.mod
 kind:=B.kind
 glob:=I.ok.glob
 blt:=I.ok.blt
 above:=Nat.le_refl _
 inj:=λx y c h1 h2=>I.ok.inj x y c (ko h1) (ko h2)
 has:=λx h=>by
  have h:(relabel scope X.env).names.lookup x=some .cell\/(relabel scope X.env).names.lookup x=some .free:=h;rw [q9f] at h;cases e:scope.names.lookup x with
  | none=>rw [e] at h;rcases h with h | h <;> cases h
  | some k =>
   have hm:=PySem.mem_of_lookup e;have hk:k=.free:=by
    rw [e] at h
    by_cases hk:k=.free
    ·exact hk
    ·have hb:(k == NameKind.free)=false:=by simpa using hk
     have nc:=B.nocell _ hm;simp only [hb,Bool.false_and,Bool.false_eq_true,if_false,Option.map_some,Option.some.injEq] at h;rcases h with h | h
     ·exact absurd h nc
     ·exact h
   subst hk;have hc:X.env.kindOf x=some .cell\/X.env.kindOf x=some .free:=B.free _ hm rfl;obtain ⟨c,hc⟩:=I.ok.has x hc;exact ⟨c,qg8 hm hc⟩
 cab:=λx c h=>by cases h
 hd:=I.ok.hd
 frames:=I.ok.frames
 stk:=.inl rfl
 exf:=λb hb=>⟨Nat.ne_of_lt (hlt b hb),λx c h=>(hf b hb).2.2.2.2.1 x c (ko h)⟩
 bs:=I.bs
 bsz:=Nat.le_trans I.ok.bsz I.sz
 noex:=λb o e hb=>by
  rcases (hf b hb).2.2.2.1 with z | z
  ·exact I.ok.noex b o e z
  ·exact absurd (Nat.lt_of_lt_of_le (Heap.lt_size e) (Nat.le_trans I.ok.bsz z)) (Nat.lt_irrefl _)
 exfs:=λb hb z=>by
  rcases List.mem_cons.mp (I.q7m b z) with e | e
  ·exact (hf b hb).2.1 e
  ·exact (hf b hb).2.2.1 e
 funs:=I.stack
 frf:=I.qb8
theorem il (I:Inv X pins σ H s) (B:Blk X.env.scope X.N scope own fv) {fp:List Addr} {H0:Hp} (hf:∀ b∈fp,FpOk X pins H0 b) (hlt:∀ b∈fp,b<s.heap.objs.size) {h':Heap} {tk:Nat} {m:Str->Option Value}
  (hn:h'.Ns s.heap.objs.size m) (k:∀ b o,s.heap.get? b=some o->h'.get? b=some o):Inv (blk X scope own fv s H fp) [] (bσ own fv σ) H {s with heap:=h',toks:=tk}:=by
 refine ⟨blk_ok I B hf hlt,rfl,I.bare,Un.kept k,⟨m,hn,λi x v e1 e2 e3=>?_⟩,λx c e=>?_,I.hok.fresh (Nat.le_refl _),λx c e=>I.freeC x c (ko e),λp hp=>absurd (show p∈([]:List (Addr×Obj)) from hp) (by simp),I.hok.kept k,?_⟩
 ·have e1:(own++fv.map (·.1))[i]?=some x:=e1
  have hi:own.length<=i:=by
   by_cases hi:i<own.length
   ·unfold bσ at e2
    rw [List.getElem?_append_left (by simpa using hi),List.getElem?_map] at e2
    cases q:own[i]? with
    | none=>rw [q] at e2;cases e2
    | some y=>rw [q] at e2;cases e2
   ·omega
  rw [List.getElem?_append_right hi,List.getElem?_map] at e1;unfold bσ at e2;rw [List.getElem?_append_right (by simpa using hi),List.length_map] at e2
  unfold kq at e2;rw [List.getElem?_map] at e2;cases q:fv[i - own.length]? with
  | none=>rw [q] at e1;cases e1
  | some p =>
   rw [q] at e1 e2;have e1:p.1=x:=Option.some.inj e1;subst e1;have e2:(σ[p.2]?).join=some v:=Option.some.inj e2;have e2:σ[p.2]?=some (some v):=by
    cases z:σ[p.2]? with
    | none=>rw [z] at e2;cases e2
    | some o=>rw [z] at e2;rw [show o=some v from e2]
   obtain ⟨hN,hfree⟩:=B.at' p (List.mem_of_getElem? q);have hm:=PySem.mem_of_lookup hfree;have hc:=B.free _ hm rfl;have hvis:Vis X.env.scope p.1:=hc.elim (λz=>.inr (.inl z)) λz=>.inr (.inr z)
   obtain ⟨mo,hno,hl⟩:=I.loc;obtain ⟨u,r,l⟩:=hl p.2 p.1 v hN e2 hvis;refine ⟨u,r,?_⟩;rcases l with ⟨z,_⟩ | ⟨_,c,ec,hcell⟩
   ·have z:X.env.scope.names.lookup p.1=some .local:=z
    rcases hc with q | q <;> · rw [q] at z;cases z
   ·refine .inr ⟨?_,c,qg8 hm ec,?_⟩
    ·show (relabel scope X.env).names.lookup p.1=some .cell\/(relabel scope X.env).names.lookup p.1=some .free
     rw [q9f,hfree,Option.map_some]
     by_cases z:((NameKind.free == NameKind.free && X.env.scope.kind == .function && X.env.kindOf p.1 == some .cell)=true)
     ·rw [if_pos z];exact .inl rfl
     ·rw [if_neg z];exact .inr rfl
    ·obtain ⟨o,ho,hd⟩:=hcell
     exact ⟨o,k _ _ ho,hd⟩
 ·obtain ⟨v,o,ho,hd⟩:=I.cell x c (ko e)
  exact ⟨v,o,k _ _ ho,hd⟩
 ·unfold bσ kq
  simp [blk]
theorem cx {H':Hp} {s':Shared} {σ':St} {fp:List Addr} {H0:Hp} (I:Inv X pins σ H s) (hf:∀ b∈fp,FpOk X pins H0 b) (J:Inv (blk X scope own fv s H fp) [] σ' H' s'):Inv X pins σ H' s'/\FpOk X pins H' s.heap.objs.size/\∃ m,s'.heap.Ns s.heap.objs.size m:=by
 have C:FpOk X pins H' s.heap.objs.size:=I.fpOk (Nat.le_refl _) J.free;refine ⟨I.qer (ch:=fp) J.os J.base J.hok J.bare λb hb=>⟨(hf b hb).2.2.2.1,(hf b hb).2.1,(hf b hb).2.2.2.2.1,(hf b hb).2.2.2.2.2⟩,C,?_⟩
 obtain ⟨m,hn,_⟩:=J.loc;exact ⟨m,hn⟩
theorem cy {C:Addr} {h':Heap} (I:Inv X pins σ H s) (c:FpOk X pins H C) (hs:Heap.SameBut C s.heap h'):Inv X pins σ H {s with heap:=h'}:=
 I.turned (t':=s.toks) (λb o hb e=>(hs.2 b hb).trans e) c.1 c.2.1 c.2.2.2.1 c.2.2.2.2.1 c.2.2.2.2.2
theorem qjp {elt tg iter:Expr} {ifs:List Expr} {pos:Pos} {g:TG} {tc:TT} {te:TE} {R:Value->Addr->Result->Shared->Prop} {E:Value->Shared->Prop}
  (hc:X.calm=true) (B:Blk X.env.scope X.N scope own fv) (hg:∀ s H fp,PG (blk X scope own fv s H fp) tg g) (ht:∀ s H fp,PTs (blk X scope own fv s H fp) ifs tc) (he:∀ s H fp,PE (blk X scope own fv s H fp) elt te)
  {it:Addr} {fp:List Addr} {tn:Nat->Heap->Prop} {J:It} (I:Inv X pins σ H s) (T:Turn X.prog X.w X.K tg J fp it tn) (st:tn 0 s.heap) (hf:∀ b∈fp,FpOk X pins H b) {Q:VK}
  (hw:∀ D,H D=none->LcW own fv J g tc te σ D Q (upd H D (.lst [])))
  (hR:∀ D C H' s',Inv X pins σ H' s'->FpOk X pins H' C->(∃ m,s'.heap.Ns C m)->Q (.ref D) H'->R (.ref D) C (.ok .next) s') :
  wpAny (model X.prog X.w) X.A (newList []) (λacc s₃=>wpAny (model X.prog X.w) X.A (newFunctionEnv scope X.env.globals (clos scope.names X.env.cells) [] X.env.qual none .none (some X.env)) (λcenv s₄ =>
   codeAny (model X.prog X.w) X.A (.compStart (.ListComp elt [⟨tg,iter,ifs,0⟩] scope pos) 0 (.ref it) acc {cenv with scope:=relabel scope X.env}) (R acc cenv.locals) s₄) E s₃) E s:=by
 refine wpAny_newObj_type (wpAny_newFunctionEnv B.nocell (by intro y hy;simp at hy) (λh₁ hns₁ hsb₁=>?_) B.kind)
 dsimp only at hns₁ hsb₁ ⊢;have I3:Inv X pins σ (upd H s.heap.objs.size (.lst [])) {s with heap:=s.heap.push {cls:=.type "list",data:=.seq ([]:List Value).toArray}}:=I.lnew (t':=s.toks) .nil (Nat.zero_le _)
 obtain ⟨W,⟨m0,w0⟩,turn⟩:=hw s.heap.objs.size I.fresh;have fpl:∀ b∈fp,b<s.heap.objs.size:=λb hb=>by
  obtain ⟨o,e,_⟩:=T.obj _ _ st b hb;exact Heap.lt_size e
 have hf3:∀ b∈fp,FpOk X pins (upd H s.heap.objs.size (.lst [])) b:=λb hb=>⟨by rw [yk (Nat.ne_of_lt (fpl b hb))];exact (hf b hb).1,(hf b hb).2⟩
 generalize hS3:({s with heap:=s.heap.push {cls:=.type "list",data:=.seq ([]:List Value).toArray}}:Shared)=s3 at I3
 have hS3h:s.heap.push {cls:=.type "list",data:=.seq ([]:List Value).toArray}=s3.heap:=by rw [<- hS3]
 have fpl3:∀ b∈fp,b<s3.heap.objs.size:=λb hb=>by
  rw [<- hS3h,Heap.size_push];exact Nat.lt_succ_of_lt (fpl b hb)
 have e3:∀ (h:Heap) (tk:Nat),({s with heap:=h,toks:=tk}:Shared)={s3 with heap:=h,toks:=tk}:=λh tk=>by rw [<- hS3]
 rw [hS3h] at hns₁ hsb₁ ⊢;rw [e3];have k3:∀ b o,s3.heap.get? b=some o->h₁.get? b=some o:=λb o e=>hsb₁.extBut b o (Nat.ne_of_lt (Heap.lt_size e)) (Heap.get?_push_of_some _ e)
 have J0:=il (σ:=σ) I3 B hf3 fpl3 (tk:=s.toks+([]:List (Str×Value)).length) hns₁ k3;have ksz:∀ b o,s.heap.get? b=some o->h₁.get? b=some o:=λb o e=>k3 b o (by rw [<- hS3h];exact Heap.get?_push_of_some _ e)
 have st1:tn 0 h₁:=T.keep _ _ _ st λb _ o e=>ksz b o e
 have stat:∀ {H':Hp},(∀ b∈fp,H' b=none)->∀ b∈fp,FpOk (blk X scope own fv s3 (upd H s.heap.objs.size (.lst [])) fp) [] H' b:=λhn b hb =>
  ⟨hn b hb,Nat.ne_of_lt (fpl3 b hb),λz=>(by
   rcases List.mem_cons.mp (I.q7m b z) with e | e
   ·exact (hf b hb).2.1 e
   ·exact (hf b hb).2.2.1 e), .inl hb,λx c e=>(hf b hb).2.2.2.2.1 x c (ko e),λp hp=>absurd (show p∈([]:List (Addr×Obj)) from hp) (by simp)⟩
 generalize hX':blk X scope own fv s3 (upd H s.heap.objs.size (.lst [])) fp=X' at J0 stat;have eP:X'.prog=X.prog:=by rw [<- hX'];rfl
 have eW:X'.w=X.w:=by rw [<- hX'];rfl
 have eK:X'.K=X.K:=by rw [<- hX'];rfl
 have eA:X'.A=X.A:=by rw [<- hX'];rfl
 have eE:X'.xe=λ_ _=>False:=by rw [<- hX'];rfl
 have eC:X'.calm=true:=by rw [<- hX'];exact hc
 have eEnv:compEnvC scope (clos scope.names X.env.cells) s3.heap.objs.size X.env=X'.env:=by rw [<- hX'];rfl
 have Hg:PG X' tg g:=by rw [<- hX'];exact hg _ _ _
 have Ht:PTs X' ifs tc:=by rw [<- hX'];exact ht _ _ _
 have He:PE X' elt te:=by rw [<- hX'];exact he _ _ _
 have loop:codeAny (model X.prog X.w) X.A (.compLoop (.ListComp elt [⟨tg,iter,ifs,0⟩] scope pos) 0 (.ref it) (.ref s.heap.objs.size) X'.env) (R (.ref s.heap.objs.size) s3.heap.objs.size) {s3 with heap:=h₁,toks:=s.toks+([]:List (Str×Value)).length}:=by
  refine q7p (λn s' => ∃ i H',Inv X' [] (bσ own fv σ) H' s'/\tn i s'.heap/\(∀ b∈fp,H' b=none)/\W i n H') ?_ m0 ⟨0,_,J0,st1,λb hb=>(hf3 b hb).1,w0⟩
  rintro n s4 ⟨i,H4,J4,st4,fr4,w4⟩;rcases turn i n H4 w4 with ⟨stop,q⟩ | ⟨go,NE,NF,hNE,hNF,step⟩
  ·have key:=T.done X' eP eW eK eC i [] s4 _ H4 (λ_ _=>False) J4 (stat fr4) st4 stop
   rw [eA] at key;refine thn key λr s5 ⟨hr,J5⟩=>?_
   subst hr;rw [<- hX'] at J5;obtain ⟨I5,c5,m5⟩:=cx I3 hf3 J5;exact hR _ _ _ _ I5 c5 m5 q
  ·have key:=T.item X' eP eW eK eC i [] s4 _ H4 (λ_ _=>False) J4 (stat fr4) st4 go
   rw [eA] at key;refine thn key λr s5 ⟨u,hr,h5⟩=>?_
   subst hr;refine thn h5 λ_ s6 ⟨x,H6,J6,r6,y6,st6,fr6⟩=>?_
   have J6':=J6.pinned (stat fr6) (T.obj _ _ st6);have kg:=Hg _ s6 _ H6 x u _ J6' r6 (step x H6 y6);rw [eP,eW,eA,eE] at kg;refine thn kg λ_ s7 ⟨σ7,H7,J7,⟨os,ol,eσ⟩,q7⟩=>?_
   have kt:=Ht _ s7 σ7 H7 _ J7 q7;rw [eP,eW,eA,eE] at kt;refine thn kt λok s8 ⟨H8,J8,q8⟩=>?_
   have again:∀ {s9:Shared} {H9:Hp} {mm:Nat},Inv X' ([]++mz fp s6.heap) σ7 H9 s9->mm<n->W (i+1) mm H9->∃ m,m<n/\∃ i H',Inv X' [] (bσ own fv σ) H' s9/\tn i s9.heap/\(∀ b∈fp,H' b=none)/\W i m H':=λ{s9 H9 mm} J9 hm w9=>by
    refine ⟨mm,hm,i+1,H9,(J9.q7z).weak ?_ ?_,T.keep _ _ _ st6 λb hb o e=>(J9.pin (b,o) (List.mem_append_right _ (List.mem_append_right _ (n6 hb e)))).1,λb hb=>?_,w9⟩
    ·rw [eσ];unfold bσ;rw [List.length_append,List.length_append,List.length_map,ol]
    ·intro j v e
     rw [eσ];unfold bσ at e
     by_cases hj:j<own.length
     ·rw [List.getElem?_append_left (by simpa using hj),List.getElem?_map] at e
      cases q:own[j]? with
      | none=>rw [q] at e;cases e
      | some y=>rw [q] at e;cases e
     ·rw [List.getElem?_append_right (by simpa using hj),List.length_map] at e
      rw [List.getElem?_append_right (by omega),ol]
      exact e
    ·obtain ⟨o,e,d⟩:=T.obj _ _ st6 b hb
     exact (J9.pin (b,o) (List.mem_append_right _ (List.mem_append_right _ (n6 hb e)))).2.1
   cases ok with
   | false =>
    rw [if_neg Bool.false_ne_true] at q8 ⊢;obtain ⟨m',hm,w8⟩:=hNF _ q8;exact again J8 hm w8
   | true =>
    rw [if_pos rfl] at q8 ⊢;have ke:=He _ s8 σ7 H8 _ J8 q8;rw [eP,eW,eA,eE] at ke;refine thn ke λxv s9 ⟨v,H9,J9,r9,q9⟩=>?_
    obtain ⟨ys,hD,hz,m',hm,w9⟩:=hNE v H9 q9;have:=(uz (X:=X')) _ s9 σ7 H9 (.ref s.heap.objs.size) [v] (.ref s.heap.objs.size) [xv] (λ_ H10=>W (i+1) m' H10) J9 rfl (.cons r9 .nil) ⟨_,ys,v,rfl,rfl,hD,hz,w9⟩
    rw [eP,eW,eA,eE] at this;exact thn this λ_ s10 ⟨_,H10,J10,_,w10⟩=>again J10 hm w10
 rw [<- eEnv] at loop;exact codeAny_compStart_list loop (T.self _ 0 _ _ _ st1 loop)
end
section
variable {X:Cx} {scope:Scope} {own:List Str} {fv:List (Str×Nat)} {elt tg iter:Expr} {ifs:List Expr} {pos:Pos} {wi:TI} {g:TG} {tc:TT} {te:TE}
theorem Blk.clos (B:Blk X.env.scope X.N scope own fv) (ok:X.Ok):closureFor scope X.env=pure (L2.clos scope.names X.env.cells):=
 qe8 λy hy hk=>ok.has y.1 (B.free y hy hk)
theorem gb {osc:Scope} {N0:List Str} (hc:X.calm=true) (hsc:X.env.scope=osc) (hN0:X.N=N0) (B:Blk osc N0 scope own fv) (hi:PI X tg iter wi) (hg:∀ s H fp,PG (blk X scope own fv s H fp) tg g) (ht:∀ s H fp,PTs (blk X scope own fv s H fp) ifs tc) (he:∀ s H fp,PE (blk X scope own fv s H fp) elt te)
  (hs:∀ x,foldedSetIterable iter X.env x=pure x:=by intro _;rfl):PE X (.ListComp elt [⟨tg,iter,ifs,0⟩] scope pos) (tLc own fv wi g tc te):=by
 subst hsc hN0;intro pins s σ H Q I h;rw [eval_ListComp];refine wpAny_comprehension_free (use:=none) rfl hs (B.clos I.ok) B.kind B.loc (thn (hi pins s σ H _ I h) λv s1 h1=>thn h1 λitv s2 h2=>?_)
 obtain ⟨it,fp,tn,J,H2,rfl,I2,T,st2,f2,hw⟩:=h2;refine qjp hc B hg ht he I2 T st2 f2 hw λD C H' s' I' c' m' q=>?_
 obtain ⟨m,hn⟩:=m';exact ⟨m,hn,λh' hs' => ⟨.ref D,H',cy I' c' hs',rfl,q⟩⟩
theorem ip {osc:Scope} {N0:List Str} {i:Nat} {x:Str} {pos' spos:Pos} (hc:X.calm=true) (hsc:X.env.scope=osc) (hN0:X.N=N0) (hN:X.N.Nodup) (hi':X.N[i]?=some x) (hx:Loc X.env.scope x) (B:Blk osc N0 scope own fv) (hi:PI X tg iter wi) (hg:∀ s H fp,PG (blk X scope own fv s H fp) tg g) (ht:∀ s H fp,PTs (blk X scope own fv s H fp) ifs tc) (he:∀ s H fp,PE (blk X scope own fv s H fp) elt te)
  (hsw:swapsWith (.ListComp elt [⟨tg,iter,ifs,0⟩] scope pos) (some (.Name x pos')) spos.line X.env=pure true:=by rfl)
  (hs:∀ x,foldedSetIterable iter X.env x=pure x:=by intro _;rfl) (hf:X.fn x=true\/X.env.scope.names.lookup x=some .local:=by first | exact .inl rfl | exact .inr rfl | assumption) :
  PS X (.Assign [.Name x pos'] (.ListComp elt [⟨tg,iter,ifs,0⟩] scope pos) spos) (tAsg (tLc own fv wi g tc te) (ki i)):=by
 subst hsc hN0;intro pins s σ H D I h;rw [exec_Assign_Name_used _ _ _ _ hsw];refine wpAny_bind (wpAny_standAt (wpAny_bind ?_));show wpAny _ X.A (do let _ <- comprehension (.ListComp elt [⟨tg,iter,ifs,0⟩] scope pos) scope X.env _ (newList []) false (eval iter X.env) (some (assign (.Name x pos') X.env))) _ _ s
 refine wpAny_bind (wpAny_mono (wpAny_comprehension_free (use:=some (assign (.Name x pos') X.env)) (Q:=λ_ s' => SP X pins D .next s') rfl hs (B.clos I.ok) B.kind B.loc
  (thn (hi pins s σ H _ I h) λv s1 h1=>thn h1 λitv s2 h2=>?_)) (λ_ s' hq=>wpAny_pure (wpAny_pure hq)) λ_ _ e=>e)
 obtain ⟨it,fp,tn,J,H2,rfl,I2,T,st2,f2,hw⟩:=h2;refine qjp (Q:=λx H1=>ki i x σ H1 D.nx) hc B hg ht he I2 T st2 f2 hw λL C H' s' I' c' m' q=>?_
 obtain ⟨m,hn⟩:=m';show wpAny _ X.A (assign (.Name x pos') X.env (.ref L)) _ _ _;refine wpAny_assign_Name (wu I' hN hi' hx (v:=.ref L) rfl (λs'' I'' ⟨a,hsb,ha⟩=>?_) hf)
 have hCa:C≠a:=by
  rcases ha with ha | ha
  ·rw [ha];exact c'.2.1
  ·exact (c'.2.2.2.2.1 x a ha).symm
 exact ⟨m,hn.sameBut hsb hCa,λh' hs' => ⟨_,H',cy I'' c' hs',q⟩⟩
end
def Its (x:Str):It:=⟨λi _=>i<x.cps.toList.length,λi H v H' => H'=H/\∃ c,x.cps.toList[i]?=some c/\v=.str ⟨#[c]⟩,λi _=>i=x.cps.toList.length⟩
theorem go_str {M:Model} {A:Around} {E:Value->Shared->Prop} {s:Shared} {tg:Expr} {it:Addr} {x:Str} {t:Tok} {Q:Unit->Shared->Prop} (hQ:Q () s):wpAny M A (letOwnedTupleGo tg (.ref it) (.str x t)) Q E s:=by
 unfold letOwnedTupleGo;cases tg <;> exact wpAny_pure hQ
theorem qma {P:Program} {w:World} {K:PySem.W.Frag} {tg:Expr} (it:Addr) (x:Str) (t:Tok) (ty:String) (hty:ty = "str_ascii_iterator" \/ ty = "str_iterator"):Turn P w K tg (Its x) [it] it (λi h=>h.IsStrIter it ty x t i) where
 mem:=by simp
 obj:=λi h st b hb=>by
  have e:b=it:=by simpa using hb
  subst e;obtain ⟨o,e,c,d⟩:=st;exact ⟨o,e,λv z=>by rw [d] at z;cases z⟩
 keep:=λi h h' st k=>let ⟨o,ho,r⟩:=st;⟨o,k it (by simp) o ho,r⟩
 item:=by
  intro X hP hw hK hc i pins s σ H E I hf st hg;subst hP hw hK;obtain ⟨f0,f1,f2,f3,f4,f5⟩:=hf it (by simp)
  have hg:i<x.cps.toList.length:=hg;have hg':i<x.cps.size:=by simpa using hg
  have W:Walks X.prog X.w X.A it [it] [it] x.cps.size (SignAt x) (λi h=>h.IsStrIter it ty x t i):=by
   rcases hty with rfl | rfl
   ·exact Walks.strAscii (I.ok.hd hc) it x t
   ·exact Walks.strWide (I.ok.hd hc) it x t
  refine W.item i s _ _ hg' st λv h' tk hv st' kk=>?_
  obtain ⟨c,u,hcx,rfl⟩:=hv;have I1:Inv X pins σ H {s with heap:=h',toks:=tk}:=I.turned (λb o hb e=>kk b o (by simpa using hb) e) f0 f1 f3 f4 f5
  exact ⟨_,rfl,go_str ⟨.str ⟨#[c]⟩,H,I1,⟨u,rfl⟩,⟨rfl,c,by simpa using hcx,rfl⟩,st',λb hb=>(hf b hb).1⟩⟩
 done:=by
  intro X hP hw hK hc i pins s σ H E I hf st hg;subst hP hw hK;obtain ⟨f0,f1,f2,f3,f4,f5⟩:=hf it (by simp)
  have hg:i=x.cps.toList.length:=hg;have hg':i=x.cps.size:=by simpa using hg
  subst hg';have W:Walks X.prog X.w X.A it [it] [it] x.cps.size (SignAt x) (λi h=>h.IsStrIter it ty x t i):=by
   rcases hty with rfl | rfl
   ·exact Walks.strAscii (I.ok.hd hc) it x t
   ·exact Walks.strWide (I.ok.hd hc) it x t
  exact W.done s _ _ st λh' tk kk=>⟨rfl,I.turned (λb o hb e=>kk b o (by simpa using hb) e) f0 f1 f3 f4 f5⟩
 self:=λA i s Q E st h=>by
  rcases hty with rfl | rfl
  ·exact wpAny_pyIter_striter_ascii st h
  ·exact wpAny_pyIter_striter_wide st h
section
variable {X:Cx} {tg:Expr}
def iStr (tl:TE):TI:=λσ H R=>tl σ H λx H1=>∃ y,x=.str y/\R (Its y) H1
theorem pi_str {l:Expr} {tl:TE} (hl:PE X l tl):PI X tg l (iStr tl):=by
 intro pins s σ H R I h;refine thn (hl pins s σ H _ I h) λv s1 ⟨x,H1,I1,r1,q1⟩=>?_
 obtain ⟨y,e,q⟩:=q1;subst e;obtain ⟨t,rfl⟩:=r1;have fin:∀ (ty:String),(ty = "str_ascii_iterator" \/ ty = "str_iterator")->PIE X pins σ tg R (.ref s1.heap.objs.size) {s1 with heap:=s1.heap.push {cls:=.type ty,data:=.fields #[.str y t, .int 0 0]}}:=λty hty=>by
  refine ⟨s1.heap.objs.size,[s1.heap.objs.size],_,_,H1,rfl,I1.kept (t':=s1.toks) λb o e=>Heap.get?_push_of_some _ e,qma _ y t ty hty,⟨_,Heap.get?_push_size _ rfl,rfl,rfl⟩,λb hb=>?_,q⟩
  have e:b=s1.heap.objs.size:=by simpa using hb
  subst e;exact I1.fpOk (Nat.le_refl _) (I1.hok.fresh (Nat.le_refl _))
 cases ha:y.cps.all (· < 128)
 ·exact wpAny_pyIter_wide ha (fin _ (.inr rfl))
 ·exact wpAny_pyIter_ascii ha (fin _ (.inl rfl))
end
section
variable {X:Cx}
theorem qed (bs:List Bool):((List.range bs.length).all λi=>bs.getD i false)=bs.all id:=by
 rw [Bool.eq_iff_iff,List.all_eq_true,List.all_eq_true]
 constructor
 ·intro h x hx
  obtain ⟨i,hi⟩:=List.getElem?_of_mem hx;have hlt:=(List.getElem?_eq_some_iff.mp hi).1;have:=h i (List.mem_range.mpr hlt);rw [List.getD_eq_getElem?_getD,hi] at this;exact this
 ·intro h i hi
  have hlt:=List.mem_range.mp hi;rw [List.getD_eq_getElem?_getD,List.getElem?_eq_getElem hlt];exact h _ (List.getElem_mem hlt)
theorem qm5 (hc:X.calm=true):x9 X (.builtin "all") (λxs H Q=>∃ p, ∃ bs:List Bool,xs=[.ref p]/\SqL X.K H p (bs.map V.bl)/\Q (.bl (bs.all id)) H):=by
 intro pins s σ H xs us Q I r h;obtain ⟨p,bs,rfl,hq,q⟩:=h;obtain ⟨u,rfl,ru⟩:=vals1 r;cases ru;obtain ⟨its,rv,pl,hz⟩:=I.list hq;have hlen:bs.length=its.length:=by have:=rv.length;simpa using this
 have hv:∀ (i:Nat) v,its[i]?=some v->v=.bool (bs.getD i false):=λi v hi=>by
  have hib:i<bs.length:=by rw [hlen];exact (List.getElem?_eq_some_iff.mp hi).1
  have hb:(bs.map V.bl)[i]?=some (.bl (bs.getD i false)):=by
   rw [List.getElem?_map,List.getElem?_eq_getElem hib,List.getD_eq_getElem?_getD,List.getElem?_eq_getElem hib];rfl
  obtain ⟨u,hu,ru⟩:=rv.get hb;rw [hi] at hu;cases hu;exact ru
 have hne:p≠s.heap.objs.size:=Nat.ne_of_lt (by obtain ⟨o,n,e,_⟩:=pl;exact Heap.lt_size e)
 refine call_all_walk ?_;refine wpAny_pyIter_list pl.isList ?_;refine ⟨s.heap.objs.size,_,_,its.toArray.size,_,_,λi=>bs.getD i false,rfl,Walks.list (A:=X.A.in1) (I.ok.hd hc) s.heap.objs.size p hne its.toArray,⟨⟨_,Heap.get?_push_size _ rfl,rfl,rfl⟩,?_⟩,?_,?_⟩
 ·exact pl.isList.at λo e=>Heap.get?_push_of_some _ e
 ·intro i v s' Q' E' hP hQ'
  have hP:its.toArray[i]?=some v:=hP;rw [hv i v (by simpa using hP)]
  exact wpAny_truthy_bool hQ'
 ·intro h' tk kk
  rw [List.size_toArray, <- hlen,qed];refine ⟨.bl _,H,I.kept λb o e=>kk b o ?_ (Heap.get?_push_of_some _ e),rfl,q⟩
  intro z;have z:b=s.heap.objs.size:=by simpa using z
  exact absurd (z ▸ Heap.lt_size e) (Nat.lt_irrefl _)
theorem qkd:OpR X (compareOp .In) (λx y H Q=>∃ c z,x=.str ⟨#[c]⟩/\y=.str z/\Q (.bl (decide (c∈z.cps.toList))) H):=by
 intro pins s σ H x y v u Q I rx ry h;obtain ⟨c,z,rfl,rfl,q⟩:=h;exact qkz pins s σ H _ _ v u Q I rx ry ⟨_,_,rfl,rfl,by rw [PySem.StrLaws.found_one];exact q⟩
theorem TyOf.kit {pins:List (Addr×Obj)} {σ:St} {H:Hp} {s:Shared} {x:V} {u t:Value} (I:Inv X pins σ H s) (rx:RelV x u) (ty:TyOf X.K H x t):∃ HH,W.KitX X.K u t HH/\HH s.heap/\u≠.builtin "__main__.__loader__#opaque":=by
 cases ty with
 | non=>cases (show u=Value.none from rx);exact ⟨_,W.kitx_none,True.intro,λz=>nomatch z⟩
 | bl y=>cases (show u=Value.bool y from rx);exact ⟨_,W.kitx_bool,True.intro,λz=>nomatch z⟩
 | int i=>obtain ⟨t,q⟩:=(show ∃ t,u=Value.int i t from rx);cases q;exact ⟨_,W.kitx_int,True.intro,λz=>nomatch z⟩
 | str y=>obtain ⟨t,q⟩:=(show ∃ t,u=Value.str y t from rx);cases q;exact ⟨_,W.kitx_str,True.intro,λz=>nomatch z⟩
 | flt y=>obtain ⟨t,q⟩:=(show ∃ t,u=Value.float y t from rx);cases q;exact ⟨_,W.kitx_float,True.intro,λz=>nomatch z⟩
 | @lst a xs ea =>
  cases (show u=Value.ref a from rx)
  obtain ⟨_,_,n,_,h1⟩:=(show xg X.prog X.w H s.heap a (.lst xs) from I.hok a _ ea)
  exact ⟨_,W.kitx_list,⟨_,h1,rfl⟩,λz=>nomatch z⟩
 | @frz a ob xs ea =>
  cases (show u=Value.ref a from rx)
  obtain ⟨_,_,_,n,_,h1⟩:=(show xg X.prog X.w H s.heap a (.frz ob (.lst xs)) from I.hok a _ ea)
  exact ⟨_,W.kitx_list,⟨_,h1,rfl⟩,λz=>nomatch z⟩
 | @tup a xs ea =>
  cases (show u=Value.ref a from rx)
  obtain ⟨_,_,_,p⟩:=(show xg X.prog X.w H s.heap a (.tup xs) from I.hok a _ ea)
  obtain ⟨o,h1,h2,_⟩:=p;exact ⟨_,W.kitx_tuple,⟨o,h1,h2⟩,λz=>nomatch z⟩
 | @dK a kvs ea =>
  cases (show u=Value.ref a from rx)
  obtain ⟨_,_,vs,_,p⟩:=(show xg X.prog X.w H s.heap a (.dK kvs) from I.hok a _ ea)
  obtain ⟨o,es,ep,h1,h2,_⟩:=p;exact ⟨_,W.kitx_dict,⟨o,h1,h2.1⟩,λz=>nomatch z⟩
 | @dT a kvs ea =>
  cases (show u=Value.ref a from rx)
  obtain ⟨_,_,xs,_,o,es,ep,h1,h2,_⟩:=(show xg X.prog X.w H s.heap a (.dT kvs) from I.hok a _ ea)
  exact ⟨_,W.kitx_dict,⟨o,h1,h2.1⟩,λz=>nomatch z⟩
 | @ins a C dx fs ea cl ha hn htk hm =>
  cases (show u=Value.ref a from rx)
  obtain ⟨mA,O,_⟩:=cj I.hok ea;obtain ⟨od,J,_⟩:=O.look;exact ⟨_,W.kitx_own (cl.get _) cl.hd ha hn htk hm,J,λz=>nomatch z⟩
theorem qh7:∀ {ns:List String} {its:List Value},Vals (ns.map V.ty) its->its=ns.map Value.type
 | [],_,rv=>by cases rv;rfl
 | a::r,_,rv=>by
  rw [List.map_cons] at rv;cases rv with
  | cons r1 r2 =>
   cases r1;rw [List.map_cons,qh7 r2]
end
section
variable {X:Cx}
theorem qx {x:Str} {i:Int} {pos:Pos} (hg:Gl X x) (hm:∃ t,X.mg x=some (.int i t)) (hd:(x == ("__debug__" : Str))=false:=by decide):PE X (.Name x pos) (tC (.int i)):=
 let ⟨t,e⟩:=hm;uw (v:=.int i) hg e ⟨t,rfl⟩ hd
theorem qls {x y:Str} {pos:Pos} (hg:Gl X x) (hm:∃ t,X.mg x=some (.str y t)) (hd:(x == ("__debug__" : Str))=false:=by decide):PE X (.Name x pos) (tC (.str y)):=
 let ⟨t,e⟩:=hm;uw (v:=.str y) hg e ⟨t,rfl⟩ hd
end
section
variable {X:Cx} {K:PySem.W.Frag}
theorem iq (h:X.K=K):IxR X (rIx K):=h ▸ jx
end
def TrQ (h B:Heap) (e:Addr) (cls fl:Value):Prop:=
 ∃ oe vs T oT ts,h.get? e=some oe/\oe.cls=cls/\oe.data=.fields vs/\vs[1]?=some (.ref T)/\vs[2]?=some .none/\B.get? T=none/\T≠e/\h.get? T=some oT/\oT.data=.fields ts/\ts[3]?=some fl
structure At (B:Heap) (l:List Env) (e:Addr) (cls fl:Value) (h:Heap):Prop where
 st:B.StaysIn h
 nw:B.get? e=none
 fr:h.FunFrames B l
 tr:TrQ h B e cls fl
theorem TrQ.first {h B:Heap} {e:Addr} {cls fl:Value} (x:TrQ h B e cls fl):∃ o vs,h.get? e=some o/\o.cls=cls/\o.data=.fields vs/\vs[2]?=some .none:=
 let ⟨oe,vs,_,_,_,h1,h2,h3,_,h4,_⟩:=x;⟨oe,vs,h1,h2,h3,h4⟩
section
variable {M:Model} {A:Around} {E:Value->Shared->Prop} {s:Shared} {B:Heap} {env:Env} {outer:List Env} {L e:Addr} {oe:Obj} {vs:Array Value} {head cls fl:Value} {hadNext:Bool} {Q:Unit->Shared->Prop}
theorem ir (hfr:A.frames=some (env::outer)) (hl:s.heap.FunFrames B (env::outer)) (hf:env.frame=some L) (he:s.heap.get? e=some oe) (hkb:B.StaysIn s.heap) (hen:B.get? e=none) (hd:oe.data=.fields vs)
  (hsz:1<vs.size) (h2:vs[2]?=some .none) (h:∀ h',At B (env::outer) e oe.cls (rawInt L) h'->s.heap.UpToSlots h'->Q () {s with heap:=h'}) :
  wpAny M A (do let a <- frameOf env;let pl <- entryPlaceOf L hadNext;let b <- EntryCells.newEntry head a .none (rawInt L) .none pl;setField (.ref e) 1 b) Q E s:=by
 have hene:e∉(env::outer).filterMap (·.frame):=λhm=>by
  obtain ⟨_,o,ho,hnf⟩:=hl.mem hm;rw [he] at ho;cases ho;exact hnf vs hd
 refine wpAny_bind (wpAny_frameOf_fun hfr hl hf λh₁ hs₁=>?_)
 refine wpAny_bind (wpAny_entryPlaceOf λpl hpl=>?_)
 unfold EntryCells.newEntry newFields;refine wpAny_bind (wpAny_newObj_type ?_ (hpl.sizeOk5 _ _ _ _ _));have he₁:h₁.get? e=some oe:=(hs₁.2.1 e hene).trans he;have kb₁:B.StaysIn h₁:=λb o hbo=>(hs₁.2.1 b λhm=>by rw [(hl.mem hm).1] at hbo;cases hbo).trans (hkb b o hbo)
 generalize hT:([head, .ref L, .none,rawInt L, .none]++(if pl.isEmpty then List.replicate 6 Value.none else pl)).toArray=tb
 have htb:tb[3]?=some (rawInt L):=by subst hT;rcases hpl with rfl | ⟨_,_,_,_,_,_,_,rfl⟩ <;> simp
 have he₂:=Heap.get?_push_of_some (h:=h₁) {cls:=.type "traceback",dict:=none,data:=.fields tb} he₁;refine wpAny_setField he₂ hd hsz (h _ ?_ λb o hb hnf=>?_)
 ·have hTe:h₁.objs.size≠e:=Nat.ne_of_gt (Heap.lt_size he₁)
  have hd₃:=Obj.data_mapFields hd (·.setIfInBounds 1 (Value.ref h₁.objs.size));have he₃:=Heap.get?_update_self (Obj.mapFields (·.setIfInBounds 1 (Value.ref h₁.objs.size))) he₂ (Obj.isFreed_of_fields hd₃);have hT₃:=(Heap.get?_update_other (h₁.push {cls:=.type "traceback",dict:=none,data:=.fields tb}) (Obj.mapFields (·.setIfInBounds 1 (Value.ref h₁.objs.size))) (Ne.symm hTe)).trans (Heap.get?_push_size h₁ rfl);have keep:∀ b o,b≠e->h₁.get? b=some o->((h₁.push {cls:=.type "traceback",dict:=none,data:=.fields tb}).update e (Obj.mapFields (·.setIfInBounds 1 (Value.ref h₁.objs.size)))).get? b=some o:=λb o hbe hb=>by
   rw [Heap.get?_update_other _ _ (Ne.symm hbe)];exact Heap.get?_push_of_some _ hb
  refine ⟨λb o hbo=>keep b o (λq=>by rw [q,hen] at hbo;cases hbo) (kb₁ b o hbo),hen,hl.of_keeps λb o hb hnf=>?_,?_⟩
  ·obtain ⟨sl,hs⟩:=hs₁.2.2 b o hb
   exact ⟨_,keep b _ (λq=>by rw [q,he] at hb;cases hb;exact hnf vs hd) hs,rfl⟩
  ·exact ⟨_,_,h₁.objs.size,_,_,he₃,Obj.cls_mapFields _ _,hd₃,by simp [hsz],by rw [Array.getElem?_setIfInBounds_ne (by decide)];exact h2,kb₁.fresh,hTe,hT₃,rfl,htb⟩
 ·obtain ⟨sl,hs⟩:=hs₁.2.2 b o hb
  refine ⟨sl,?_⟩;rw [Heap.get?_update_other _ _ (λq=>by rw [<- q,he] at hb;cases hb;exact hnf vs hd)]
  exact Heap.get?_push_of_some _ hs
theorem qgd (hfr:A.frames=some (env::outer)) (hl:s.heap.FunFrames B (env::outer)) (hf:env.frame=some L) (he:s.heap.get? e=some oe) (hkb:B.StaysIn s.heap) (hen:B.get? e=none) (hd:oe.data=.fields vs)
  (h1:vs[1]?=some .none) (h2:vs[2]?=some .none) (h:∀ h',At B (env::outer) e oe.cls (rawInt L) h'->s.heap.UpToSlots h'->Q () {s with heap:=h'}):wpAny M A (noteFrame (.ref e) env) Q E s:=by
 unfold noteFrame;simp only [hf];refine wpAny_bind (wpAny_field he hd h1 ?_);rw [if_neg (by decide)]
 exact ir hfr hl hf he hkb hen hd (Array.getElem?_eq_some_iff.mp h1).1 h2 h
theorem iu (hfr:A.frames=some (env::outer)) (hf:env.frame=some L) (x:At B (env::outer) e cls .none s.heap)
  (h:∀ h',At B (env::outer) e cls (rawInt L) h'->s.heap.UpToSlots h'->Q () {s with heap:=h'}):wpAny M A (noteFrame (.ref e) env) Q E s:=by
 obtain ⟨hkb,hen,hl,oe,vs,T,oT,ts,he,hcls,hd,h1,h2,hnT,hTe,hT,hdT,h3⟩:=x;subst hcls;unfold noteFrame;simp only [hf];refine wpAny_bind (wpAny_field he hd h1 ?_);rw [if_pos (show (Value.ref T != Value.none)=true from by simp)]
 refine wpAny_bind (wpAny_field hT hdT h3 ?_);rw [if_neg (show ¬ ((Value.none == rawInt L)=true) from by simp [rawInt])]
 refine wpAny_bind (wpAny_setField hT hdT (Array.getElem?_eq_some_iff.mp h3).1 ?_);have other:∀ b,b≠T->(s.heap.update T (Obj.mapFields (·.setIfInBounds 3 Value.none))).get? b=s.heap.get? b:=λb hb=>Heap.get?_update_other _ _ (Ne.symm hb)
 have noRecord:∀ b o,s.heap.get? b=some o->(∀ vs,o.data≠.fields vs)->b≠T:=λb o hb hnf q=>by
  rw [q,hT] at hb;cases hb;exact hnf ts hdT
 refine ir hfr (hl.of_keeps λb o hb hnf=>⟨o,(other b (noRecord b o hb hnf)).trans hb,rfl⟩) hf ((other e (Ne.symm hTe)).trans he)
  (λb o hbo=>(other b λq=>by rw [q,hnT] at hbo;cases hbo).trans (hkb b o hbo)) hen hd (Array.getElem?_eq_some_iff.mp h1).1 h2 λh' x1 x2=>h h' x1 λb o hb hnf=>x2 b o ((other b (noRecord b o hb hnf)).trans hb) hnf
theorem pf {l:List Env} (x:At B l e cls fl s.heap) (h:∀ h',At B l e cls .none h'->s.heap.UpToSlots h'->Q () {s with heap:=h'}):wpAny M A (setFlight (.ref e) none) Q E s:=by
 obtain ⟨hkb,hen,hl,oe,vs,T,oT,ts,he,hcls,hd,h1,h2,hnT,hTe,hT,hdT,h3⟩:=x;have hsz3:3<ts.size:=(Array.getElem?_eq_some_iff.mp h3).1;have other:∀ b,b≠T->(s.heap.update T (Obj.mapFields (·.setIfInBounds 3 ((none:Option Addr).elim Value.none λf=>rawInt f)))).get? b=s.heap.get? b:=λb hb=>Heap.get?_update_other _ _ (Ne.symm hb)
 have noRecord:∀ b o,s.heap.get? b=some o->(∀ vs,o.data≠.fields vs)->b≠T:=λb o hb hnf q=>by
  rw [q,hT] at hb;cases hb;exact hnf ts hdT
 unfold setFlight;refine wpAny_bind (wpAny_field he hd h1 ?_);rw [if_pos (show (Value.ref T != Value.none)=true from by simp)]
 refine wpAny_setField hT hdT hsz3 (h _ ⟨λb o hbo=>(other b λq=>by rw [q,hnT] at hbo;cases hbo).trans (hkb b o hbo),hen,
  hl.of_keeps λb o hb hnf=>⟨o,(other b (noRecord b o hb hnf)).trans hb,rfl⟩,?_⟩ λb o hb hnf=>⟨o.slots,(other b (noRecord b o hb hnf)).trans hb⟩)
 exact ⟨oe,vs,T,_,_,(other e (Ne.symm hTe)).trans he,hcls,hd,h1,h2,hnT,hTe,Heap.get?_update_self _ hT (Obj.isFreed_of_fields (Obj.data_mapFields hdT _)),Obj.data_mapFields hdT _,by simp [hsz3]⟩
theorem At.pop {l:List Env} {h:Heap} (x:At B (env::l) e cls fl h):At B l e cls fl h:=⟨x.st,x.nw,x.fr.2.2,x.tr⟩
theorem qgg {h:Heap} {args:List Value} (hfr:A.frames=some (env::outer)) (hf:env.frame=some L) (hkb:B.StaysIn h) (hl:h.FunFrames B (env::outer)) (hx:Heap.MadeExcOf h s.heap e cls args)
  (hQ:∀ h',At B outer e cls .none h'->s.heap.UpToSlots h'->Q () {s with heap:=h'}):wpAny M A (leaving env (.ref e)) Q E s:=by
 obtain ⟨t,he,htn,ht⟩:=hx.there;have fresh:∀ b,h.get? b=none->B.get? b=none:=λb hb=>by
  cases hq:B.get? b with
  | none=>rfl
  | some o' => have:=hkb b o' hq;rw [hb] at this;cases this
 unfold leaving;refine wpAny_bind (qgd hfr (hl.of_keeps λb o hb _=>⟨o,hx.keeps b o hb,rfl⟩) hf he (λb o hb=>hx.keeps b o (hkb b o hb)) (fresh e hx.new) rfl rfl rfl λh' x up=>?_)
 exact pf x λh'' x' up' => hQ h'' x'.pop (up.trans up')
theorem ql5 (hfr:A.frames=some (env::outer)) (hf:env.frame=some L) (x:At B (env::outer) e cls .none s.heap) (hQ:∀ h',At B outer e cls .none h'->s.heap.UpToSlots h'->Q () {s with heap:=h'}) :
  wpAny M A (leaving env (.ref e)) Q E s:=by
 unfold leaving;refine wpAny_bind (iu hfr hf x λh' x up=>?_)
 exact pf x λh'' x' up' => hQ h'' x'.pop (up.trans up')
end
structure Fly (P:Program) (w:World) (outer:List Env) (H:Hp) (s:Shared) (a C:Addr) (H':Hp) (B:Heap) (s':Shared):Prop where
 os:s'.os=s.os
 bare:AllBare s'.gens
 hok:HOk P w H' B
 kp:∀ b o,s.heap.get? b=some o->H b=none->b∉frs outer->B.get? b=some o
 th:∀ b o,s.heap.get? b=some o->b∉frs outer->∃ o',B.get? b=some o'
 un:Un (frs outer) [] H H' s.heap s'.heap
 fly:At B outer a (.ref C) .none s'.heap
def CX1 (P:Program) (w:World):CXT:=λouter H s E e s' => ∃ a C H' B,e=.ref a/\Fly P w outer H s a C H' B s'/\E (.ref C) none H'
section
variable {P:Program} {w:World} {outer:List Env} {H H':Hp} {s s':Shared} {a C:Addr} {B:Heap}
theorem Fly.on (F:Fly P w outer H s a C H' B s') (ff:∀ b∈frs outer,H b=none/\∃ o,s.heap.get? b=some o/\∀ vs,o.data≠.fields vs) {h':Heap} (fl:At B outer a (.ref C) .none h') (up:s'.heap.UpToSlots h') :
  Fly P w outer H s a C H' B {s' with heap:=h'} where
 os:=F.os
 bare:=F.bare
 hok:=F.hok
 kp:=F.kp
 th:=F.th
 fly:=fl
 un:=by
  have sl:∀ b o,s.heap.get? b=some o->b∈frs outer->∃ sl,h'.get? b=some {o with slots:=sl}:=λb o q hf=>by
   obtain ⟨n,o1,q1,nd⟩:=ff b hf;rw [q] at q1;cases q1;obtain ⟨sl,e⟩:=F.un.slot b o q n hf (by simp)
   obtain ⟨sl',e'⟩:=up b _ e nd;exact ⟨sl',e'⟩
  refine ⟨λb o q n nf _=>fl.st b o (F.kp b o q n nf),λb o q n hf _=>sl b o q hf,F.un.free,λb o q hx=>?_,F.un.tups,F.un.frzs,F.un.tbls⟩
  by_cases hb:b∈frs outer
  ·obtain ⟨sl',e⟩:=sl b o q hb
   exact ⟨_,e⟩
  ·obtain ⟨o',e⟩:=F.th b o q hb
   exact ⟨o',fl.st b o' e⟩
end
section
variable {X:Cx} {pins:List (Addr×Obj)} {σ:St} {H H':Hp} {s s':Shared} {a C:Addr} {B:Heap}
theorem Inv.ff (I:Inv X pins σ H s):∀ b∈frs X.stack,H b=none/\∃ o,s.heap.get? b=some o/\∀ vs,o.data≠.fields vs:=λb hb=>⟨I.qb8 b hb,(I.stack.mem hb).2⟩
theorem Inv.ff0 (I:Inv X pins σ H s):∀ b∈frs X.outer,X.H₀ b=none/\∃ o,X.s₀.heap.get? b=some o/\∀ vs,o.data≠.fields vs:=λb hb=>⟨I.ok.frf b hb,(I.ok.funs.mem hb).2⟩
theorem Fly.inv (I:Inv X pins σ H s) (F:Fly X.prog X.w X.stack H s a C H' B s'):Inv X pins σ H' s':=by
 exact I.qer F.os F.un (F.hok.kept F.fly.st) F.bare λb hb=>absurd hb (by simp)
theorem qhl (I:Inv X pins σ H s) (st:X.stack=X.env::X.outer) (ex:X.ex=[]) (os:s'.os=s.os) (bare:AllBare s'.gens) (hok:HOk X.prog X.w H' B)
  (k1:∀ b o,s.heap.get? b=some o->H b=none->b∉frs X.stack->B.get? b=some o) (k2:∀ b o,s.heap.get? b=some o->b∉frs X.stack->∃ o',B.get? b=some o')
  (un:Un (frs X.stack) [] H H' s.heap s'.heap) (st':B.StaysIn s'.heap) {h'':Heap} (fl:At B X.outer a (.ref C) .none h'') (up:s'.heap.UpToSlots h''):Fly X.prog X.w X.outer X.H₀ X.s₀ a C H' B {s' with heap:=h''}:=by
 have I':Inv X pins σ H' s':=I.qer os un (hok.kept st') bare λb hb=>absurd hb (by simp)
 have nst:∀ b o,X.s₀.heap.get? b=some o->b∉frs X.outer->b∉frs X.stack:=λb o q nf hb=>by
  rcases List.mem_cons.mp (I.q7m b hb) with z | z
  ·have e1:=Heap.lt_size q
   have e2:=I.ok.above;rw [z] at e1;exact absurd e1 (Nat.not_lt.mpr e2)
  ·exact nf z
 have nex:∀ b,b∉X.ex:=λb=>by rw [ex];simp
 have kk:∀ b o,X.s₀.heap.get? b=some o->X.H₀ b=none->b∉frs X.outer->B.get? b=some o:=λb o q n nf =>
  k1 b o (I.base.keep b o q n nf (nex b)) (I.base.free b o q n (nex b)) (nst b o q nf)
 have tt:∀ b o,X.s₀.heap.get? b=some o->b∉frs X.outer->∃ o',B.get? b=some o':=λb o q nf=>by
  obtain ⟨o1,e1⟩:=I.base.there b o q (nex b);exact k2 b o1 e1 (nst b o q nf)
 have sl:∀ b o,X.s₀.heap.get? b=some o->b∈frs X.outer->∃ sl,h''.get? b=some {o with slots:=sl}:=λb o q hf=>by
  obtain ⟨n,o1,q1,nd⟩:=I.ff0 b hf;rw [q] at q1;cases q1;obtain ⟨sl,e⟩:=I'.base.slot b o q n hf (nex b);obtain ⟨sl',e'⟩:=up b _ e nd;exact ⟨sl',e'⟩
 refine ⟨os.trans I.os,bare,hok,kk,tt,?_,fl⟩;refine ⟨λb o q n nf _=>fl.st b o (kk b o q n nf),λb o q n hf _=>sl b o q hf,λb o q n _=>I'.base.free b o q n (nex b),λb o q hx=>?_,I'.base.tups,I'.base.frzs,I'.base.tbls⟩
 by_cases hb:b∈frs X.outer
 ·obtain ⟨sl',e⟩:=sl b o q hb
  exact ⟨_,e⟩
 ·obtain ⟨o',e⟩:=tt b o q hb
  exact ⟨o',fl.st b o' e⟩
structure Out (X:Cx) (E:XK):Prop where
 st:X.stack=X.env::X.outer
 fr:X.env.frame=some X.env.locals
 ex:X.ex=[]
 pass:∀ a s',wpAny (model X.prog X.w) X.A (leaving X.env (.ref a)) (λ_ s'' => CX1 X.prog X.w X.outer X.H₀ X.s₀ E (.ref a) s'') (λ_ _=>False) s'->X.xe (.ref a) s'
theorem Out.passes {E:XK} (O:Out X E):Passes (CX1 X.prog X.w) X E:=by
 intro pins σ H s e s' I hx;obtain ⟨a,C,H',B,rfl,F,q⟩:=hx;refine O.pass a s' (ql5 (by rw [I.ok.frames,O.st]) O.fr (by rw [<- O.st];exact F.fly) λh' fl' up=>?_)
 exact ⟨a,C,H',B,rfl,qhl I O.st O.ex F.os F.bare F.hok F.kp F.th F.un F.fly.st fl' up,q⟩
theorem Out.raised {E:XK} (O:Out X E) (I:Inv X pins σ H s) {h1:Heap} {vs:List Value} (hx:Heap.MadeExcOf s.heap h1 a (.ref C) vs) (q:E (.ref C) none H):X.xe (.ref a) {s with heap:=h1}:=by
 have keep:∀ b o,s.heap.get? b=some o->b∉frs X.stack->(W.hideAll s.heap (frs X.stack)).get? b=some o:=λb o e nb=>W.hideAll_get _ e nb
 have hst:(W.hideAll s.heap (frs X.stack)).StaysIn s.heap:=λb o e=>W.of_hideAll _ e
 have hff:s.heap.FunFrames (W.hideAll s.heap (frs X.stack)) (X.env::X.outer):=by
  rw [<- O.st];exact W.funFrames_hide I.stack λenv he b hb=>List.mem_filterMap.mpr ⟨env,he,hb⟩
 refine O.pass a _ (qgg (h:=s.heap) (B:=W.hideAll s.heap (frs X.stack)) (by rw [I.ok.frames,O.st]) O.fr hst hff hx λh' fl up=>?_)
 refine ⟨a,C,H,_,rfl,qhl (s':={s with heap:=h1}) (H':=H) I O.st O.ex rfl I.bare (λb u e=>?_) (λb o e n nb=>keep b o e nb) (λb o e nb=>⟨o,keep b o e nb⟩) (Un.kept hx.keeps) (λb o e=>hx.keeps b o (hst b o e)) fl up,q⟩
 refine (I.hok b u e).stay (λc v hc z=>keep c v z ?_) (λ_ z=>z) λ_ _ z=>z
 intro hm;have n:=I.qb8 c hm;rcases hc with rfl | hc
 ·rw [e] at n;cases n
 ·rw [hc] at n;cases n
end
theorem qnr {K:W.Frag} {h:Heap} {C:Addr} {bmB:List Value} {newId:String} (X:K.In h) (q:W.excIn K C bmB newId=true) :
  ∃ bm N nm q bs hdct sn sub ab col dd k0 k1 k2 k3 k5 mN,h.get? C=some (excClassObj nm q C N bs bm hdct sn sub ab col dd k0 k1 k2 k3 k5 newId)/\h.Ns N mN/\mN "__init__" = none/\OwnTail h bmB bm:=by
 unfold W.excIn at q;split at q
 ·rename_i dd cd sl ho
  split at q
  ·rename_i C' bm k0 k1 k2 k3 n k5 hm hs
   simp only [Bool.and_eq_true,beq_iff_eq,Bool.not_eq_true'] at q;obtain ⟨⟨⟨⟨⟨rfl,rfl⟩,hdel⟩,ht⟩,hok⟩,hni⟩:=q;obtain ⟨nm,bs,mro,ns,qn,hd,sn,sub,ab,col,del⟩:=cd;dsimp only at hm hdel hok hni;subst hm hdel;have hsl:sl = #[k0,k1,k2,k3,some (.builtin n),k5]:=by
    obtain ⟨l⟩:=sl;simp only at hs;rw [hs]
   subst hsl;exact ⟨bm,ns,nm,qn,bs,hd,sn,sub,ab,col,dd,k0,k1,k2,k3,k5,_,X _ _ ho, .of_isNs (W.isNs_of_in X hok),W.nsMap_none_of_in X hok hni,W.tail_of_in X ht⟩
  ·cases q
 ·cases q
def qj9 (C:Addr) (E:XK) (t:TA):TS:=λ_ σ H=>t σ H λvs H1=>vs.length<=sizeLine/\E (.ref C) none H1
section
variable {X:Cx} {E:XK} {x:Str} {C:Addr} {B Bn newId nid initId inN:String} {bmN bmB:List Value} {e:Expr} {es:List Expr} {t:TA} {np cpos pos:Pos}
theorem gj (O:Out X E) (hh:X.A.handled=none) (hg:Gl X x) (hm:X.mg x=some (.ref C)) (hx:W.excIn X.K C bmB newId=true) (Fn:ExcBaseFacts Bn newId inN bmN) (hBn:bmB.contains (.type Bn)=true)
  (FB:ExcBaseFacts B nid initId bmB) (ha:PA X (e::es) t) (hdb:(x == ("__debug__" : Str))=false:=by decide) (he:starEach (e::es) X.env=(false,eval e X.env)::starEach es X.env:=by rfl)
  (hpl:(backTo cpos (starEach es X.env)).any (·.1)=false:=by rfl):PS X (.Raise (some (.Call (.Name x np) (e::es) [] cpos)) none pos) (qj9 C E t):=by
 intro pins s σ H D I h;obtain ⟨tl,N,nm,q,bs,hdct,sn,sub,ab,col,dd,k0,k1,k2,k3,k5,mN,hC,hN,hni,T⟩:=qnr I.ok.mod.kin hx;refine wpAny_Raise_call_subU (C:=C) (nm:=nm) (q:=q) (N:=N) (bs:=bs) (bm:=tl) (hdct:=hdct) (sn:=sn) (sub:=sub) (ab:=ab) (col:=col) (dd:=dd) (k0:=k0) (k1:=k1) (k2:=k2) (k3:=k3) (k5:=k5)
  Fn hBn FB (mN:=mN) (T.hasType FB.hasBase) hh (by rw [he];show (false || (backTo cpos (starEach es X.env)).any (·.1))=false;rw [hpl];rfl) hni (my I hg hm ⟨rfl,?_⟩ hdb)
 have h':=ha cpos pins s σ H _ I h;rw [he] at h' ⊢;refine Calls.evalArgs_plain (wpAny_mono h' (λus s₂ h₂=>?_) λ_ _ y=>y)
 obtain ⟨vs,H2,I2,r,hl,qE⟩:=h₂;exact ⟨rfl,by rw [<- r.length];exact hl,I2.bk _ _ hC,hN.keeps I2.bk,T.keeps I2.bk,λh1 a mx=>O.raised I2 mx qE⟩
end
abbrev TX:=St->Hp->VK->XK->Prop
def PX (X:Cx) (e:Expr) (t:TX):Prop:=
 ∀ (pins:List (Addr×Obj)) (s:Shared) (σ:St) (H:Hp) (Q:VK) (E:XK),Inv X pins σ H s->t σ H Q E ->
  wpAny (model X.prog X.w) X.A (eval e X.env) (EP X pins σ Q) (λe s' => ∃ H1 s1,Inv X pins σ H1 s1/\CX1 X.prog X.w X.stack H1 s1 E e s') s
section
variable {X:Cx} {k:Nat} {f C:Addr} {fd:FuncData} {ps:List Str} {sp:Sp} {dvs:List V} {ds:List Value} {x m:Str} {p pos apos:Pos} {e o:Expr} {es:List Expr} {ta:TE} {t:TA}
theorem qn7 {pins:List (Addr×Obj)} {σ:St} {H:Hp} {s:Shared} {Q:VK} {E:XK} {us:List Value} {vs:List V} (F:FnOk X.prog X.w X.K X.mg X.base (CX1 X.prog X.w) k f fd ps sp) (hr:Room k X.A) (hb:Binds X.K fd ps ds) (hd:Vals dvs ds)
  (I:Inv X pins σ H s) (r:Vals vs us) (h:sp (vs++dvs) H Q E):wpAny (model X.prog X.w) X.A (call (.ref f) us) (EP X pins σ Q) (λe s' => ∃ H1 s1,Inv X pins σ H1 s1/\CX1 X.prog X.w X.stack H1 s1 E e s') s:=by
 have r2:Vals (vs++dvs) (us++ds):=r.append hd;have hl:(us++ds).length=ps.length:=by rw [<- r2.length];exact F.len _ _ _ _ h
 refine wpAny_call (codeAny_mono (F.run X.A X.stack s H ⟨us,[]⟩ (us++ds) (vs++dvs) Q E hr I.env0 (hb s us I.kIn hl) r2 h) λr s' hq=>?_)
 cases r with
 | error e=>exact ⟨H,s,I,hq⟩
 | ok fl =>
  cases fl with
  | ret u=>exact I.after hq
  | next=>exact False.elim hq
  | brk=>exact False.elim hq
  | cont=>exact False.elim hq
end
def excO (a C:Addr):HO:=.ext λh=>∃ o vs,h.get? a=some o/\o.cls=.ref C/\o.data=.fields vs/\vs[2]?=some .none
abbrev Cx.inx (X:Cx) (a:Addr):Cx:={X with A:=X.A.mark (some (.ref a)),calm:=false,xe:=λ_ _=>False}
section
variable {X:Cx} {pins:List (Addr×Obj)} {σ:St} {H:Hp} {s:Shared} {a:Addr}
theorem Inv.inx (I:Inv X pins σ H s) (a:Addr):Inv (X.inx a) pins σ H s:=
 have ok:=I.ok
 ⟨⟨ok.mod,ok.kind,ok.glob,ok.blt,ok.above,ok.inj,ok.has,ok.cab,(λz=>by cases z),ok.frames,ok.stk,ok.exf,ok.bs,ok.bsz,ok.noex,ok.exfs,ok.funs,ok.frf⟩,I.os,I.bare,I.base,I.loc,I.cell,I.free,I.freeC,I.pin,I.hok,I.len⟩
theorem Inv.qbx {a:Addr} (J:X.Ok) (I:Inv (X.inx a) pins σ H s):Inv X pins σ H s:=⟨J,I.os,I.bare,I.base,I.loc,I.cell,I.free,I.freeC,I.pin,I.hok,I.len⟩
theorem Inv.qjh {o:HO} (I:Inv X pins σ H s) (ha:H a=none) (h0:X.s₀.heap.get? a=none) (hL:a≠X.env.locals) (hc:∀ x c,X.env.cells.lookup x=some c->c≠a) (hp:∀ p∈X.pn++pins,p.1≠a)
  (new:xg X.prog X.w (upd H a o) s.heap a o):Inv X pins σ (upd H a o) s:=by
 have un:∀ {b u},H b=some u->upd H a o b=some u:=λ{b u} e=>by rw [yk (mw e ha)];exact e
 refine ⟨I.ok,I.os,I.bare,⟨I.base.keep,I.base.slot,λb ob q n hx=>?_,I.base.there,λb xs q=>un (I.base.tups b xs q),λb ob u q=>un (I.base.frzs b ob u q),λb ps q=>?_⟩,I.loc,I.cell,?_,λx c e=>?_,λp hpp=>?_,λb u e=>?_,I.len⟩
 ·rw [yk (λz=>by rw [z,h0] at q;cases q)];exact I.base.free b ob q n hx
 ·obtain ⟨more,e⟩:=I.base.tbls b ps q
  exact ⟨more,un e⟩
 ·rw [yk (Ne.symm hL)];exact I.free
 ·rw [yk (hc x c e)];exact I.freeC x c e
 ·obtain ⟨e,n,r⟩:=I.pin p hpp
  exact ⟨e,by rw [yk (hp p hpp)];exact n,r⟩
 ·by_cases hb:b=a
  ·subst hb
   rw [vd] at e;cases e;exact new
  ·rw [yk hb] at e
   exact (I.hok b u e).stay (λc v _ q=>q) (λc q=>un q) λc xs q=>un q
theorem Inv.unset {j:Nat} {y:Str} {m:Str->Option Value} {h':Heap} {v:Option Value} {t':Nat} (I:Inv X pins σ H s) (hN:X.N.Nodup) (hj:X.N[j]?=some y) (hn:s.heap.Ns X.env.locals m)
  (hl:∀ (i:Nat) (x:Str) (v:V),X.N[i]?=some x->σ[i]?=some (some v)->Vis X.env.scope x->∃ u,RelV v u/\Look X.env s.heap m x u)
  (hn':h'.Ns X.env.locals (λx=>if x=y then v else m x)) (hs:Heap.SameBut X.env.locals s.heap h'):Inv X pins (σ.set j none) H {s with heap:=h',toks:=t'}:=by
 have hjσ:j<σ.length:=by rw [I.len];exact (List.getElem?_eq_some_iff.mp hj).1
 have cne:=I.cne;refine ⟨I.ok,I.os,I.bare,⟨λb o e n hb hx=>?_,λb o e n hb hx=>?_,I.base.free,λb o e hx=>?_,I.base.tups,I.base.frzs,I.base.tbls⟩,⟨_,hn',λi x v' e1 e2 e3=>?_⟩,λx c e=>?_,I.free,I.freeC,λp hp=>?_,λb ob e=>?_,by simpa using I.len⟩
 ·exact (hs.2 b (Nat.ne_of_lt (Nat.lt_of_lt_of_le (Heap.lt_size e) I.ok.above))).trans (I.base.keep b o e n hb hx)
 ·obtain ⟨sl,e1⟩:=I.base.slot b o e n hb hx
  exact ⟨sl,(hs.2 b (Nat.ne_of_lt (Nat.lt_of_lt_of_le (Heap.lt_size e) I.ok.above))).trans e1⟩
 ·obtain ⟨o',e1⟩:=I.base.there b o e hx
  exact ⟨o',(hs.2 b (Nat.ne_of_lt (Nat.lt_of_lt_of_le (Heap.lt_size e) I.ok.above))).trans e1⟩
 ·by_cases hij:i=j
  ·subst hij
   rw [List.getElem?_set_self hjσ] at e2;cases e2
  ·rw [List.getElem?_set_ne (Ne.symm hij)] at e2
   obtain ⟨u',r',q⟩:=hl i x v' e1 e2 e3;refine ⟨u',r',?_⟩;rcases q with ⟨k,e⟩ | ⟨k,c,e,z⟩
   ·refine .inl ⟨k,?_⟩
    have:x≠y:=λe=>hij (wq hN e1 (e ▸ hj))
    simp [this,e]
   ·exact .inr ⟨k,c,e,z.sameBut hs (cne x c e)⟩
 ·obtain ⟨w',z⟩:=I.cell x c e
  exact ⟨w',z.sameBut hs (cne x c e)⟩
 ·obtain ⟨e,n,ne,nf,d⟩:=I.pin p hp
  exact ⟨(hs.2 p.1 ne).trans e,n,ne,nf,d⟩
 ·refine (I.hok b ob e).stay (λc w' hc q=>(hs.2 c ?_).trans q) (λ_ q=>q) λ_ _ q=>q
  rintro rfl;rcases hc with rfl | hc
  ·rw [I.free] at e;cases e
  ·rw [I.free] at hc;cases hc
end
theorem qe6 {M:Model} {A:Around} {K:W.Frag} {s:Shared} {a C D:Addr} {oe:Obj} {Q:Bool->Shared->Prop} {E:Value->Shared->Prop} {b:Bool} (X:K.In s.heap) (he:s.heap.get? a=some oe) (hc:oe.cls=.ref C)
  (h1:W.instIn K (.ref D) (.type "tuple")=some false) (h2:W.isClsIn K D=true) (h3:W.subIn K (.ref D) (.type "BaseException")=some true) (h4:W.subIn K (.ref C) (.ref D)=some b) (q:Q b s) :
  wpAny M A (excMatches (.ref a) (.ref D)) Q E s:=by
 have L1:=W.looks_instIn (M:=M) X h1;have L3:=W.looks_subIn (M:=M) X h3;have L4:=W.looks_subIn (M:=M) X h4;have L2:W.Looks M s.heap (isType (.ref D)) true:=by
  unfold W.isClsIn W.clsIn at h2;split at h2
  ·rename_i ho
   intro A' Q' E' s' k q;unfold isType loadHead;exact wpAny_bind (wpAny_loadPart (k _ _ (X _ _ ho)) (wpAny_pure q))
  ·cases h2
 have L5:W.Looks M s.heap (typeOf (.ref a)) (.ref C):=by
  have:=(W.Looks.ld (M:=M) (part:=none) he).andThen (f:=λo=>pure o.cls) .now
  rw [hc] at this;exact this
 have L6:W.Looks M s.heap (isExcClass (.ref D)) true:=L2.andThen (by simpa using L3)
 unfold excMatches;refine wpAny_bind (L1.here ?_);rw [if_neg Bool.false_ne_true];refine wpAny_bind (wpAny_pure ?_);simp only [List.forIn_cons,List.forIn_nil];refine wpAny_bind (wpAny_bind (wpAny_bind (L6.here ?_)));rw [if_neg (by decide)]
 refine wpAny_pure (wpAny_pure ?_);refine wpAny_bind (L5.here ?_);refine wpAny_bind (wpAny_bind (wpAny_bind (L4.here ?_)));cases b with
 | true =>
  rw [if_pos rfl];exact wpAny_pure (wpAny_pure (wpAny_pure q))
 | false =>
  rw [if_neg Bool.false_ne_true];exact wpAny_pure (wpAny_pure (wpAny_pure q))
def tTry (K:W.Frag) (Dc:Addr) (i j:Nat) (tx:TX) (tb:Addr->TS):TS:=λD σ H =>
 tx σ H (λv H1=>D.nx (σ.set i (some v)) H1) λcv _ H1=>∃ C,cv=.ref C/\W.subIn K (.ref C) (.ref Dc)=some true /\
  ∀ a,H1 a=none->tb a ⟨λσ' H' => D.nx (σ'.set j none) H',D.rt,λσ' H' => D.bk (σ'.set j none) H',λσ' H' => D.ct (σ'.set j none) H'⟩ (σ.set j (some (.ref a))) (upd H1 a (excO a C))
section
variable {X:Cx} {i j:Nat} {x y v:Str} {Dc:Addr} {tx:TX} {tb:Addr->TS} {e:Expr} {b₀:Stmt} {suite:List Stmt} {np pos' apos hpos pos:Pos}
theorem Fly.new {pins:List (Addr×Obj)} {σ:St} {H H':Hp} {s s':Shared} {a C:Addr} {B:Heap} (I:Inv X pins σ H s) (F:Fly X.prog X.w X.stack H s a C H' B s'):s.heap.get? a=none/\H' a=none:=by
 have fl:=F.fly;obtain ⟨oe,vs,h1,h2,h3,h4⟩:=fl.tr.first;refine ⟨?_,?_⟩
 ·cases q:s.heap.get? a with
  | none=>rfl
  | some o =>
   exfalso
   by_cases hb:a∈frs X.stack
   ·obtain ⟨n,o1,q1,nd⟩:=I.ff a hb
    obtain ⟨sl,e⟩:=F.un.slot a o q n hb (by simp)
    rw [q] at q1;cases q1;rw [h1] at e;cases e;exact nd vs h3
   ·obtain ⟨o',e'⟩:=F.th a o q hb
    rw [fl.nw] at e';cases e'
 ·cases q:H' a with
  | none=>rfl
  | some u =>
   exfalso
   have z:=F.hok a u q;have:∃ o,B.get? a=some o:=by
    cases u with
    | lst xs=>obtain ⟨_,its,n,_,h⟩:=z;exact ⟨_,h⟩
    | tup xs=>obtain ⟨_,its,_,o,h,_⟩:=z;exact ⟨_,h⟩
    | dK kvs=>obtain ⟨_,_,vs,_,o,es,ep,h,_⟩:=z;exact ⟨_,h⟩
    | dT kvs=>obtain ⟨_,_,xs,_,o,es,ep,h,_⟩:=z;exact ⟨_,h⟩
    | set S n=>obtain ⟨ob,es,ep,t,e,c⟩:=z;exact ⟨_,e⟩
    | ins C dx fs=>obtain ⟨_,_,_,h,_⟩:=z;exact ⟨_,h⟩
    | own x=>exact z
    | xd fs=>obtain ⟨mA,⟨o,es,ep,h,_⟩,_⟩:=z;exact ⟨_,h⟩
    | rng lo hi=>obtain ⟨t,u,v,h⟩:=z;exact ⟨_,h⟩
    | frz o u=>exact ⟨_,z.1⟩
    | tbl ps=>exact ⟨_,z⟩
    | met f x=>exact ⟨_,z⟩
    | ext φ=>exact z.2.1
   obtain ⟨o,e⟩:=this;rw [fl.nw] at e;cases e
theorem ps_try (st:X.stack=X.env::X.outer) (fr:X.env.frame=some X.env.locals) (ex:X.ex=[]) (hN:X.N.Nodup) (hi:X.N[i]?=some v) (hv:Loc X.env.scope v) (hj:X.N[j]?=some y) (hy:X.env.scope.names.lookup y=some .local)
  (hg:Gl X x) (hm:X.mg x=some (.ref Dc)) (h1:W.instIn X.K (.ref Dc) (.type "tuple")=some false) (h2:W.isClsIn X.K Dc=true) (h3:W.subIn X.K (.ref Dc) (.type "BaseException")=some true)
  (hx:PX X e tx) (hs:∀ a,PSs (X.inx a) (b₀::suite) (tb a)) (hdb:(x == ("__debug__" : Str))=false:=by decide) (hsw:swapsWith e (some (.Name v pos')) apos.line X.env=pure false:=by rfl)
  (hf:X.fn v=true\/X.env.scope.names.lookup v=some .local:=by first | exact .inl rfl | exact .inr rfl | assumption) :
  PS X (.Try [.Assign [.Name v pos'] e apos] [.ExceptHandler (some (.Name x np)) (some y) (b₀::suite) hpos] [] [] pos) (tTry X.K Dc i j tx tb):=by
 intro pins s σ H D I h;refine wpAny_Try_except (wpAny_execs_cons (wpAny_Assign_Name (wpAny_mono (hx pins s σ H _ _ I h) (λu s1 ⟨z,H1,I1,r1,q1⟩=>?ok) (λe0 s1 hex=>?exc)) hsw))
 case ok =>
  exact qp I1 hN hi hv r1 (λs2 I2=>wpAny_execs_nil (wpAny_execs_nil ⟨_,H1,I2,q1⟩)) hf
 case exc =>
  obtain ⟨H0,s0,I0,a,C,H1,B,rfl,F,C',eC,hsub,k⟩:=hex;cases eC;refine iu (by rw [I0.ok.frames,st]) fr (by rw [<- st];exact F.fly) λh4 hd4 up4=>?_
  refine pf hd4 λh5 fl5 up5=>?_
  have F5:=F.on I0.ff (by rw [st];exact fl5) (up4.trans up5)
  have I5:Inv X pins σ H1 {s1 with heap:=h5}:=F5.inv I0
  obtain ⟨ob,_,hob,hobc,_⟩:=fl5.tr.first;refine wpAny_handleBy_cons (codeAny_handlers_test (my (X:=X.inx a) (I5.inx a) hg hm ?_ hdb)) (by intro q;cases q)
  refine qe6 (X:=I5.kIn) hob hobc h1 h2 h3 hsub ?_;show codeAny _ _ _ _ _;refine codeAny_handlers_suite_as ?_;refine pf fl5 λh6 fl6 up6=>?_
  have F6:=F5.on I0.ff (by rw [st];exact fl6) up6
  have I6:Inv X pins σ H1 {s1 with heap:=h6}:=F6.inv I0
  obtain ⟨n0,n1⟩:=F6.new I0;obtain ⟨oe,vs,g1,g2,g3,g4⟩:=fl6.tr.first;have I7:Inv X pins σ (upd H1 a (excO a C)) {s1 with heap:=h6}:=by
   refine I6.qjh n1 ?_ ?_ (λx c e z=>?_) (λp hp z=>?_) ⟨⟨oe,vs,g1,g2,g3,g4⟩,⟨oe,g1⟩,λha hb ⟨o,vs,e1,e2,e3,e4⟩ kk=>⟨o,vs,kk _ e1,e2,e3,e4⟩⟩
   ·cases q:X.s₀.heap.get? a with
    | none=>rfl
    | some o =>
     obtain ⟨o',e'⟩:=I0.base.there a o q (by rw [ex];simp)
     rw [n0] at e';cases e'
   ·rintro rfl
    obtain ⟨m,⟨o,es,ep,ho,_⟩,_⟩:=I0.loc;rw [n0] at ho;cases ho
   ·subst z
    obtain ⟨w',o,ho,_⟩:=I0.cell x c e;rw [n0] at ho;cases ho
   ·have:=(I0.pin p hp).1
    rw [z,n0] at this;cases this
  refine qp I7 hN hj (.inl hy) (v:=.ref a) rfl (λs8 I8=>?_) (.inr hy)
  refine wpAny_mono (hs a pins s8 _ _ _ (I8.inx a) (k a n1)) (λf s9 q=>?_) λ_ _ z=>False.elim z
  have go:∀ {σ':St} {H':Hp},Inv (X.inx a) pins σ' H' s9->∀ {Q:Shared->Prop},(∀ s',Inv X pins (σ'.set j none) H' s'->Q s')->wpAny (model X.prog X.w) X.A (do bindName X.env y .none;unbindBehindTheSuite X.env y hpos) (λ_ s₃=>Q s₃) X.xe s9:=λ{σ' H'} I9 {Q} hQ=>by
   have I9':=I9.qbx I.ok;obtain ⟨m,hn,hl⟩:=id I9'.loc;refine wpAny_nameGoes_keeps hy hn (by rw [I.ok.kind];rfl) λh' v ns' sb=>hQ _ (I9'.unset hN hj hn hl ns' sb)
  cases f with
  | next =>
   obtain ⟨σ',H',I9,q⟩:=q;exact go I9 λs' I' => ⟨_,_,I',q⟩
  | brk =>
   obtain ⟨σ',H',I9,q⟩:=q;exact go I9 λs' I' => ⟨_,_,I',q⟩
  | cont =>
   obtain ⟨σ',H',I9,q⟩:=q;exact go I9 λs' I' => ⟨_,_,I',q⟩
  | ret u =>
   obtain ⟨v', σ',H',I9,rv,q⟩:=q;exact go I9 λs' I' => ⟨v',_,_,I',rv,q⟩
end
end L2
namespace L2
open PySem PySem.Spec PyProof.Rows Builtin Builtin.ObjectAttr Builtin.Getset_descriptor
structure uc (k:Nat) (A:Around):Prop where
 dp:A.depth+3 * k+5<recursionLimit
 un:A.units+16 * k+200<cLine
theorem Room.x {k:Nat} {A:Around} (r:Room k A):uc k A:=⟨r.dp,r.un⟩
theorem uc.mono {j k:Nat} {A:Around} (r:uc k A) (h:j<=k):uc j A:=⟨by have:=r.dp;omega,by have:=r.un;omega⟩
theorem uc.deeper {k:Nat} {A:Around} (r:uc (k+1) A) (env:Env):uc k (A.deeper env):=
 ⟨by have:=r.dp;show A.depth+1+3 * k+5<_;omega,by have:=r.un;show A.units+3+16 * k+200<_;omega⟩
theorem uc.depth {k:Nat} {A:Around} (r:uc k A):A.depth<recursionLimit:=by have:=r.dp;omega
theorem uc.mark {k:Nat} {A:Around} {v:Option Value} (r:uc k A):uc k (A.mark v):=⟨r.dp,r.un⟩
def f7 (CX:CXT) (P:Program) (w:World) (K:W.Frag) (mg:Str->Option Value) (base:Heap) (N:List Str) (qual:Str) (scope:Scope) (f:Addr) (cd:Value) (A:Around) (outer:List Env) (s:Shared) (H:Hp) (E:XK):Cx:=
 {cxOf CX P w K mg base N qual scope f cd A outer s H E with calm:=false}
section
variable {P:Program} {w:World} {K:PySem.W.Frag} {mg:Str->Option Value} {base:Heap} {x qual:Str} {st:Stmt} {f:Addr} {fd:FuncData} {N ps:List Str} {k:Nat} {sp:Sp}
theorem jf {qual:Str} {sc:Scope} {cdv:Value} {A:Around} {outer:List Env} {s:Shared} {H:Hp} {E:XK}:Out (cxOf (CX1 P w) P w K mg base N qual sc f cdv A outer s H E) E:=
 ⟨rfl,rfl,rfl,λa s' h=>wpAny_mono h (λ_ _ q=>q) λ_ _ z=>False.elim z⟩
theorem Fun.okR (F:Fun K x qual st f fd) (S:ju N ps (je st)) (len:∀ vs H Q E,sp vs H Q E->vs.length=ps.length)
  (hbody:∀ (cdv:Value) (A:Around) (outer:List Env) (s:Shared) (H:Hp) (vs:List V) (Q:VK) (E:XK),Room k (A.deeper (envOfC qual (je st) s.heap.objs.size f cdv))->sp vs H Q E ->
   ∃ t,PSs (cxOf (CX1 P w) P w K mg base N qual (je st) f cdv A outer s H E) (v7 st) t/\t {nx:=λ_ H' => Q .non H',rt:=Q} (start N vs) H):FnOk P w K mg base (CX1 P w) (k+1) f fd ps sp:=by
 obtain ⟨oc,od,kV,doc,pm,an,cdv,ct,osl,rfl,lk,hcd⟩:=F.ex;exact ib lk hcd S len λA outer s H vs Q E hr hsp=>hbody cdv A outer s H vs Q E hr hsp
end
section
variable {K:PySem.W.Frag} {a C:Addr}
theorem f9 {M:Model} {h:Heap} (H:∃ o vs,h.get? a=some o/\o.cls=.ref C/\o.data=.fields vs):W.Looks M h (typeOf (.ref a)) (.ref C):=by
 obtain ⟨o,vs,he,hc,_⟩:=H;have:=(W.Looks.ld (M:=M) (part:=none) he).andThen (f:=λo=>pure o.cls) .now
 rw [hc] at this;exact this
theorem qga {prog:Program} {w:World} {A:Around} {s:Shared} {tp:Value} {R:Result->Shared->Prop} (X:K.In s.heap) (I:∃ o vs,s.heap.get? a=some o/\o.cls=.ref C/\o.data=.fields vs) (hm:W.mroIn K C (.type "object")=some true)
  (h:R (.ok (.ret (.ref C))) s):codeAny (model prog w) A (.call (.builtin "getset_descriptor.__get__") ⟨[.builtin "object.__class__", .ref a,tp],[]⟩) R s:=by
 obtain ⟨hh,g,dr,t,os⟩:=s;have L0:=f9 (M:=model prog w) I;have L1:=W.looks_mroIn (M:=model prog w) X hm;refine codeAny_call_builtin W.KF.slot_gs.plain W.KF.entry_gs (W.KF.slot_gs.check _ _ _ _ _ _ _ _ W.KF.type_class (W.KF.args_gs _ _ _) ?_);unfold Builtin.«getset_descriptor.__get__» descrGet;rw [W.dga_obj];refine wpAny_bind (wpAny_pure ?_);unfold descrGetter descrCheckInstance descrNameAndClass isInstance;simp only [W.KF.owner_class]
 repeat lk
 refine ⟨Code.quiet_builtin _ (by decide +kernel),codeAny_builtin W.KF.entry_class ?_⟩
 unfold Builtin.«object.__class__» shownTypeOf
 repeat lk
 exact h
structure ExcK (K:W.Frag) (C:Addr):Prop where
 cls:W.isClsIn K C=true
 ga:W.findIn K (.ref C) "__getattribute__" = some (some (.builtin "BaseException.__getattribute__"))
 gt:W.findIn K (.ref C) "__getattr__" = some none
 cl:W.findIn K (.ref C) "__class__" = some (some (.builtin "object.__class__"))
 gg:W.specialIn K (.builtin "object.__class__") "__get__" = some (some (.builtin "getset_descriptor.__get__"))
 tk:W.takesIn K (.builtin "object.__class__")=some true
 mo:W.mroIn K C (.type "object")=some true
 mb:W.mroIn K C (.type "BaseException")=some true
theorem qp1:builtinKind "BaseException.__getattribute__" = some .slot:=by decide +kernel
theorem qm0:splitId "BaseException.__getattribute__" = some ("BaseException", "__getattribute__"):=by decide +kernel
theorem qk9 {M:Model} {A:Around} {E:Value->Shared->Prop} {s:Shared} {nameV:Value} {Q:Unit->Shared->Prop} (Z:ExcK K C) (X:K.In s.heap) (I:∃ o vs,s.heap.get? a=some o/\o.cls=.ref C/\o.data=.fields vs) (hq:Q () s) :
  wpAny M A (checkBuiltinCall "BaseException.__getattribute__" ⟨[.ref a,nameV],[]⟩) Q E s:=by
 have LI:W.Looks M s.heap (isInstance (.ref a) (.type "BaseException")) true:=(f9 I).andThen (W.looks_mroIn X Z.mb);have ha:=F.args_bexc_ga (.ref a) nameV;simp only [checkBuiltinCall,qp1,qm0];refine wpAny_bind (LI.here ?_);rw [if_neg (by decide)]
 exact wpAny_of_eq ha hq
theorem qka {prog:Program} {w:World} {A:Around} {E:Value->Shared->Prop} {s:Shared} {Q:Option Value->Shared->Prop} (Z:ExcK K C) (X:K.In s.heap) (I:∃ o vs,s.heap.get? a=some o/\o.cls=.ref C/\o.data=.fields vs)
  (h:Q (some (.ref C)) {s with toks:=s.toks+1}):wpAny (model prog w) A (getAttr? (.ref a) "__class__") Q E s:=by
 obtain ⟨hh,g,d,t,os⟩:=s;have L0:=f9 (M:=model prog w) I;have L1:=W.looks_findIn (M:=model prog w) X Z.ga;have L2:=W.looks_findIn (M:=model prog w) X Z.gt;have L3:=W.looks_findIn (M:=model prog w) X Z.cl;have L4:=W.looks_specialIn (M:=model prog w) X Z.gg;have L5:=W.looks_takesIn (M:=model prog w) X Z.tk;have f3:=F.attr_ValueError.ga.bind (.ref a);unfold getAttr? getAttrBy? getAttrBy;refine wpAny_bind (wpAny_mkText (wpAny_bind (wpAny_attempt (wpAny_holding (wpAny_bind (L0.at (wpAny_bind (L1.at ?_))))))));show wpAny _ _ (getAttrByItsOwn _ _ _ _ _ _) _ _ _;unfold getAttrByItsOwn;refine wpAny_bind (L2.at ?_);refine wpAny_bind (wpAny_attempt (wpAny_holding ?_));show wpAny _ _ (boundAndCalled _ _ _) _ _ _;unfold boundAndCalled;refine wpAny_bind (wpAny_of_eq f3 ?_);refine wpAny_call (codeAny_call_builtin F.attr_ValueError.ga.plain F.entry_bexc_ga (qk9 Z X I ?_));have LF:W.Looks (model prog w) hh (find (.ref a) (.ref C) "__class__") (.bind (.builtin "getset_descriptor.__get__") (.builtin "object.__class__")):=
  L3.andThen (L4.andThen ((show W.Looks (model prog w) hh (dataDescriptor? (some (.builtin "object.__class__")) (some (.builtin "getset_descriptor.__get__"))) (some (.builtin "getset_descriptor.__get__", .builtin "object.__class__")) from L5.andThen .now).andThen (W.Looks.tag .now)))
 refine wpAny_bind (wpAny_pure (wpAny_bind (wpAny_pure (wpAny_bind (L0.at (wpAny_bind (LF.at ?_)))))));show wpAny _ _ (holding [Value.builtin "object.__class__"] (call (.builtin "getset_descriptor.__get__") [.builtin "object.__class__", .ref a, .ref C]) >>= ret) _ _ _;refine wpAny_bind (wpAny_holding (wpAny_call (qga X I Z.mo ?_)));exact wpAny_pure (wpAny_pure (wpAny_pure h))
theorem qmq (Z:ExcK K C):W.KitX K (.ref a) (.ref C) (λh=>∃ o vs,h.get? a=some o/\o.cls=.ref C/\o.data=.fields vs) where
 ty:=λ_ _ _ I=>f9 I
 it:=λ_ _ X _=>by
  have h2:=Z.cls;unfold W.isClsIn W.clsIn at h2;split at h2
  ·rename_i ho
   intro A' Q' E' s' k q;unfold isType loadHead;exact wpAny_bind (wpAny_loadPart (k _ _ (X _ _ ho)) (wpAny_pure q))
  ·cases h2
 ne:=λh tp dd its n sl X htp=>by
  have h2:=Z.cls;refine Bool.eq_false_iff.mpr λq=>?_
  have e:C=tp:=Value.ref.inj (beq_iff_eq.mp q);subst e;unfold W.isClsIn W.clsIn at h2;split at h2
  ·rename_i ho
   have z:=(X _ _ ho).symm.trans htp;cases z
  ·cases h2
 ca:=λX I k=>qka Z X I k
end
def fb:V->Bool | .ref _=>true | .ty _=>true | _=>false
def clsU:V->Value | .ref a=>.ref a | .ty n=>.type n | _=>.none
theorem qlj {v:V} {u:Value} (h:fb v=true) (r:RelV v u):u=clsU v:=by
 cases v <;> first | exact r | cases h
section
variable {X:Cx}
theorem om:x9 X (.builtin "isinstance") (λxs H Q=>∃ a C cv b,xs=[.ref a,cv]/\fb cv=true/\H a=some (excO a C)/\ExcK X.K C/\W.kitOne X.K (.ref C) (clsU cv)=some b/\Q (.bl b) H):=by
 intro pins s σ H xs us Q I r h;obtain ⟨a,C,cv,b,rfl,rc,ha,Z,e,q⟩:=h;obtain ⟨u,w',rfl,ru,rw'⟩:=vals2 r;cases (show u=Value.ref a from ru)
 cases qlj rc rw';obtain ⟨⟨zo,zv,z1,z2,z3,_⟩,_⟩:=(show xg X.prog X.w H s.heap a (excO a C) from I.hok a _ ha)
 have hz:∃ o vs,s.heap.get? a=some o/\o.cls=.ref C/\o.data=.fields vs:=⟨zo,zv,z1,z2,z3⟩;exact W.kia_one (qmq Z) I.kIn hz e (λz=>nomatch z) λtk=>⟨.bl b,H,I.tok tk,rfl,q⟩
end
end L2
namespace L2
open PySem PySem.Spec PyProof.Rows
section
variable {X:Cx}
abbrev TJ:=Str->TE
def PJ (X:Cx) (es:List Expr) (t:TJ):Prop:=∀ (acc:Str) (pins:List (Addr×Obj)) (s:Shared) (σ:St) (H:Hp) (Q:VK),Inv X pins σ H s->t acc σ H Q ->
 wpAny (model X.prog X.w) X.A (joinParts acc (evalEach es X.env)) (EP X pins σ Q) X.xe s
def jNil:TJ:=λacc _ H Q=>acc.length<=sizeLine/\Q (.str acc) H
def qy (t:TE) (u:TJ):TJ:=λacc σ H Q=>t σ H λv H1=>∃ y,v=.str y/\(acc++y).length<=sizeLine/\u (acc++y) σ H1 Q
theorem oo:PJ X [] jNil:=λacc pins s σ H Q I h=>joinParts_nil (out:=acc) ⟨.str acc,H,I.tok _,⟨_,rfl⟩,h.2⟩ h.1
theorem xa {e:Expr} {es:List Expr} {t:TE} {u:TJ} (he:PE X e t) (hr:PJ X es u) (hev:evalEach (e::es) X.env=eval e X.env::evalEach es X.env:=by rfl):PJ X (e::es) (qy t u):=by
 intro acc pins s σ H Q I h;rw [hev];refine joinParts_cons (thn (he pins s σ H _ I h) λv s1 ⟨x,H1,I1,r,y,e1,hl,q⟩=>?_)
 subst e1;obtain ⟨t,rfl⟩:=r;exact ⟨hl,hr _ pins s1 σ H1 Q I1 q⟩
theorem oq {v1 v2:Expr} {rest:List Expr} {pos:Pos} {u:TJ} (h:PJ X (v1::v2::rest) u):PE X (.JoinedStr (v1::v2::rest) pos) (u Str.empty):=by
 intro pins s σ H Q I hw;rw [arm_eval_JoinedStr];exact h Str.empty pins s σ H Q I hw
def iw (t:TE):TE:=λσ H Q=>t σ H λv H1=>∃ i:Int,v=.int i/\i.natAbs.log2<1920/\Q (.str (toString i)) H1
theorem qz {e:Expr} {t:TE} {pos:Pos} (he:PE X e t):PE X (.FormattedValue e (-1) none pos) (iw t):=by
 intro pins s σ H Q I h;refine FormattedValue_plain (thn (he pins s σ H _ I h) λv s1 ⟨x,H1,I1,r,i,e1,hl,q⟩=>?_)
 subst e1;obtain ⟨t,rfl⟩:=r;exact formatField_int_small hl ⟨.str _,H1,I1.tok _,⟨_,rfl⟩,q⟩
def ix (t:TE):TE:=λσ H Q=>t σ H λv H1=>∃ y,v=.str y/\y.length<=sizeLine/\Q (.str y) H1
theorem kr {e:Expr} {t:TE} {pos:Pos} (he:PE X e t):PE X (.FormattedValue e (-1) none pos) (ix t):=by
 intro pins s σ H Q I h;refine FormattedValue_plain (thn (he pins s σ H _ I h) λv s1 ⟨x,H1,I1,r,y,e1,hl,q⟩=>?_)
 subst e1;obtain ⟨t,rfl⟩:=r;exact formatField_str (λt' tk=>⟨.str _,H1,I1.tok _,⟨_,rfl⟩,q⟩) hl
def tFmtR (t:TE):TE:=λσ H Q=>t σ H λv H1=>∃ y,v=.str y/\(reprText y).length<=sizeLine/\Q (.str (reprText y)) H1
theorem iy {e:Expr} {t:TE} {pos:Pos} (he:PE X e t):PE X (.FormattedValue e 114 none pos) (tFmtR t):=by
 intro pins s σ H Q I h;refine wpAny_FormattedValue_repr (thn (he pins s σ H _ I h) λv s1 ⟨x,H1,I1,r,y,e1,hl,q⟩=>?_)
 subst e1;obtain ⟨t,rfl⟩:=r;refine wpAny_pyReprObj_str ?_ hl;exact formatField_str (λt' tk=>⟨.str _,H1,(I1.tok _).tok _,⟨_,rfl⟩,q⟩) hl
end
structure ClsK (K:W.Frag) (C:Addr):Prop where
 is:W.isClsIn K C=true
 ty:W.typeIn K (.ref C)=some (.type "type")
theorem jq {K:W.Frag} {r c:Addr} {b:Bool} (C:ClsK K c) (self:W.subIn K (.ref r) (.ref r)=some true) (s:W.subIn K (.ref r) (.ref c)=some b):W.kitOne K (.ref r) (.ref c)=some b:=by
 unfold W.kitOne
 by_cases h:(Value.ref r == Value.ref c)=true
 ·rw [if_pos h]
  have e:r=c:=Value.ref.inj (beq_iff_eq.mp h);subst e;rw [self] at s;exact s
 ·rw [if_neg h]
  unfold W.kitCls;have h1:((W.clsIn K c).isSome && W.typeIn K (.ref c) == some (.type "type"))=true:=by
   rw [C.ty,show (W.clsIn K c).isSome=true from C.is];rfl
  dsimp only;rw [if_pos h1];exact s
theorem gk {K:W.Frag} {r:Addr} {T:String} {b:Bool} (m:W.kitMeta T=true) (s:W.subIn K (.ref r) (.type T)=some b):W.kitOne K (.ref r) (.type T)=some b:=by
 unfold W.kitOne;rw [if_neg (by simp)]
 unfold W.kitCls;dsimp only;rw [if_pos m];exact s
abbrev bmVE:List Value:=[.type "ValueError", .type "Exception", .type "BaseException", .type "object"]
theorem qcc {α β:Type} {R:α->β->Prop}:∀ {xs:List α} {ys:List β},Paired R xs ys->∀ {i:Nat} {x:α},xs[i]?=some x->∃ y,ys[i]?=some y/\R x y
 | [],_, .nil,i,x,h=>by simp at h
 | a::xs,b::ys, .cons r rs,0,x,h=>by
  cases h;exact ⟨b,rfl,r⟩
 | a::xs,b::ys, .cons r rs,i+1,x,h=>qcc rs (i:=i) h
theorem kv_rel {k:Key} {v:Value} (h:p4 k v=true):RelV (kV k) v:=by
 rcases o8 h with ⟨i,t,rfl,rfl⟩ | ⟨x,t,rfl,rfl⟩
 ·exact ⟨t,rfl⟩
 ·exact ⟨t,rfl⟩
section
variable {X:Cx}
theorem r8 {K:W.Frag} {ts:List Expr} {t:TGs} {kk:Nat} {tpos:Pos} {n:Nat} (hK:X.K=K) (hn:n=ts.length) (hc:X.calm=true) (h:PGs X ts t) (h1:(assignEach ts X.env).length=n:=by rfl) (h2:(assignEach ts X.env).findIdx? (·.1)=none:=by rfl):PG X (.Tuple ts kk tpos) (gTup K n t):=by
 subst hK;subst h1;exact wz hc h rfl h2
end
structure Hq (A:Around) (a:Addr) (h:Heap):Prop where
 hd:A.handled=some (.ref a)
 ob:∃ o vs,h.get? a=some o/\o.data=.fields vs/\vs[2]?=some .none
theorem Hq.in1 {A:Around} {a:Addr} {h:Heap} (q:Hq A a h):Hq A.in1 a h:=⟨q.hd,q.ob⟩
theorem Hq.keep {A:Around} {a:Addr} {h h':Heap} (q:Hq A a h) (k:∀ o,h.get? a=some o->h'.get? a=some o):Hq A a h':=
 let ⟨o,vs,h1,h2,h3⟩:=q.ob;⟨q.hd,o,vs,k _ h1,h2,h3⟩
theorem qe7:entryFor table "proto.unchain" = some Builtin.«proto.unchain»:=entryFor_of_fast (by kernel_rfl)
section
variable {prog:Program} {w:World} {A:Around} {E:Value->Shared->Prop} {s:Shared} {a:Addr}
theorem qjr {α:Type} {e:Addr} {oe:Obj} {ve:Array Value} {Q:α->Shared->Prop} (q:Hq A a s.heap) (ne:a≠e) (he:s.heap.get? e=some oe) (hde:oe.data=.fields ve) (hz:2<ve.size)
  (h:∀ h',Heap.SameBut e s.heap h'->(∃ o',h'.get? e=some o'/\o'.cls=oe.cls)->E (.ref e) {s with heap:=h'}):wpAny (model prog w) A (raiseNew (.ref e):Sem α) Q E s:=by
 obtain ⟨hh,oa,va,ha,hda,h2⟩:=q;unfold raiseNew;refine wpAny_bind (wpAny_handled ?_);rw [hh];have hne:(Value.ref a != Value.ref e)=true:=by simp [ne]
 dsimp only;rw [if_pos hne];refine wpAny_bind (wpAny_holding (wpAny_runValue (codeAny_builtin qe7 ?_)));unfold Builtin.«proto.unchain»;dsimp only;refine wpAny_bind (wpAny_field ha hda h2 ?_);rw [if_pos (by rfl)]
 refine wpAny_pure ?_;refine wpAny_bind (wpAny_setField (i:=2) (x:=.ref a) he hde hz (wpAny_throw ?_));refine h _ (Heap.SameBut.update ..) ⟨_,Heap.get?_update_self _ he (Obj.isFreed_of_fields (Obj.data_mapFields hde _)),Obj.cls_mapFields ..⟩
theorem stopQ {α:Type} {Q:α->Shared->Prop} (q:Hq A a s.heap) (h:∀ h' e,(∀ b o,s.heap.get? b=some o->h'.get? b=some o)->(∃ o,h'.get? e=some o/\o.cls=.type "StopIteration")->E (.ref e) {s with heap:=h'}) :
  wpAny (model prog w) A (newExc (.type "StopIteration") [] >>= λe=>(raiseNew e:Sem α)) Q E s:=by
 refine wpAny_bind ?_;simp only [newExc,newTuple];refine wpAny_bind (wpAny_newObj_type ?_ (by size_fits))
 refine wpAny_bind (m:=firstArgMember _ _) (wpAny_of_eq (a:=Value.none) (by first | rfl | (simp only [firstArgMember];rfl)) ?_)
 refine wpAny_newObj_type ?_ (by size_fits)
 obtain ⟨_,oa,va,ha,_⟩:=id q;have hlt:=Heap.lt_size ha;have keep:∀ (o1 o2:Obj) b o,s.heap.get? b=some o->((s.heap.push o1).push o2).get? b=some o:=λo1 o2 b o e=>Heap.get?_push_of_some _ (Heap.get?_push_of_some _ e)
 refine qjr (q.keep λo e=>keep _ _ _ _ e) (by rw [Heap.size_push];exact Nat.ne_of_lt (Nat.lt_succ_of_lt hlt)) (Heap.get?_push_size _ rfl) rfl (by show 2<6;decide) λh' sb ho=>?_
 refine h h' _ (λb o e=>?_) ho
 exact sb.extBut b o (by rw [Heap.size_push];exact Nat.ne_of_lt (Nat.lt_succ_of_lt (Heap.lt_size e))) (keep _ _ b o e)
theorem qd8 {it l:Addr} {i:Nat} {items} {Q:Option Value->Shared->Prop} (q:Hq A a s.heap) (ne:a≠it) (hit:s.heap.IsListIter it l i) (hl:s.heap.IsList l items) (hx:items[i]?=none)
  (hQ:∀ h',(∀ b o,b≠it->s.heap.get? b=some o->h'.get? b=some o)->Q none {s with heap:=h'}):wpAny (model prog w) A (pyNext (.ref it)) Q E s:=by
 obtain ⟨o,ho,hc,hd⟩:=id hit;obtain ⟨ol,hol,_,nl,hdl⟩:=hl;unfold pyNext;refine wpAny_bind (wpAny_attempt (wpAny_callSpecial?_slot (name:=Str.ofString "__next__") hit.typeIs slot_listiter_next (wpAny_call_entry slot_listiter_next hit.typeIs entry_listiter_next ?_ (args_listiter_next _))));show wpAny _ _ (field (.ref it) 0 >>= _) _ _ s;refine wpAny_bind (wpAny_field ho hd (x:=.ref l) rfl ?_);show wpAny _ _ (if (Value.ref l == Value.none)=true then _ else _) _ _ s
 rw [if_neg (show ¬ ((Value.ref l == Value.none)=true) from Bool.false_ne_true)]
 show wpAny _ _ (field (.ref it) 1 >>= _) _ _ s;refine wpAny_bind (wpAny_field ho hd (x:=.int i 0) rfl ?_);show wpAny _ _ (seqItems? (.ref l) >>= _) _ _ s;refine wpAny_bind (wpAny_seqItems hol hdl ?_);simp only [Int.toNat_natCast,hx];refine wpAny_bind (wpAny_rule (wpAny_bind (wpAny_setField ho hd (by simp) ?_)))
 have other:∀ b,b≠it->(s.heap.update it (Obj.mapFields (·.setIfInBounds 0 Value.none))).get? b=s.heap.get? b:=λb hb=>Heap.get?_update_other _ _ (Ne.symm hb)
 refine stopQ (q.in1.keep λo e=>(other a ne).trans e) λh' e k te=>?_
 obtain ⟨oe,e1,e2⟩:=te;refine wpAny_bind (wpAny_isInstance (T:="StopIteration") (b:=true) ⟨oe,e1,e2⟩ isSubtype_stop ?_);exact wpAny_pure (hQ _ λb o hb e=>k b o ((other b hb).trans e))
theorem qco {it t:Addr} {i:Nat} {items} {Q:Option Value->Shared->Prop} (q:Hq A a s.heap) (ne:a≠it) (hit:IsTupIter s.heap it t i) (ht:IsTup s.heap t items) (hx:items[i]?=none)
  (hQ:∀ h',(∀ b o,b≠it->s.heap.get? b=some o->h'.get? b=some o)->Q none {s with heap:=h'}):wpAny (model prog w) A (pyNext (.ref it)) Q E s:=by
 obtain ⟨o,ho,hc,hd⟩:=id hit;obtain ⟨ol,hol,_,nl,hdl⟩:=ht;unfold pyNext;refine wpAny_bind (wpAny_attempt (wpAny_callSpecial?_slot (name:=Str.ofString "__next__") hit.typeIs slot_tupleiter_next (wpAny_call_entry slot_tupleiter_next hit.typeIs entry_tupleiter_next ?_ (args_tupleiter_next _))));show wpAny _ _ (field (.ref it) 0 >>= _) _ _ s;refine wpAny_bind (wpAny_field ho hd (x:=.ref t) rfl ?_);show wpAny _ _ (if (Value.ref t == Value.none)=true then _ else _) _ _ s
 rw [if_neg (show ¬ ((Value.ref t == Value.none)=true) from Bool.false_ne_true)]
 show wpAny _ _ (field (.ref it) 1 >>= _) _ _ s;refine wpAny_bind (wpAny_field ho hd (x:=.int i 0) rfl ?_);show wpAny _ _ (seqItems? (.ref t) >>= _) _ _ s;refine wpAny_bind (wpAny_seqItems hol hdl ?_);simp only [Int.toNat_natCast,hx];refine wpAny_bind (wpAny_rule (wpAny_bind (wpAny_setField ho hd (by simp) ?_)))
 have other:∀ b,b≠it->(s.heap.update it (Obj.mapFields (·.setIfInBounds 0 Value.none))).get? b=s.heap.get? b:=λb hb=>Heap.get?_update_other _ _ (Ne.symm hb)
 refine stopQ (q.in1.keep λo e=>(other a ne).trans e) λh' e k te=>?_
 obtain ⟨oe,e1,e2⟩:=te;refine wpAny_bind (wpAny_isInstance (T:="StopIteration") (b:=true) ⟨oe,e1,e2⟩ isSubtype_stop ?_);exact wpAny_pure (hQ _ λb o hb e=>k b o ((other b hb).trans e))
theorem qok {t:Addr} {items:Array Value} {targets:List (Bool×(Value->Sem Unit))} {Q:Unit->Shared->Prop} (q:Hq A a s.heap) (ht:IsTup s.heap t items)
  (hn:targets.length=items.size) (hstar:targets.findIdx? (·.1)=none)
  (h:∀ h',Heap.ExtBut s.heap.objs.size s.heap h'->wpAny (model prog w) A (assignInOrder (targets.map (·.2)) items.toList) Q E {s with heap:=h'}) :
  wpAny (model prog w) A (unpack (.ref t) targets) Q E s:=by
 have hlt:t≠s.heap.objs.size:=by obtain ⟨o,ho,_⟩:=ht;exact Nat.ne_of_lt (Heap.lt_size ho)
 have hla:a≠s.heap.objs.size:=by obtain ⟨_,o,_,ho,_⟩:=id q;exact Nat.ne_of_lt (Heap.lt_size ho)
 unfold unpack;rw [hn,hstar];refine wpAny_bind (wpAny_holding ?_);unfold unpackItems;refine wpAny_bind ?_;unfold notIterableAtAll;refine wpAny_bind (wpAny_specialOf ht.typeIs slot_tuple_iter.lookup ?_);refine wpAny_pure ?_;simp only [Bool.false_eq_true,if_false];refine wpAny_bind (wpAny_holding (iter_tuple ht ?_));refine wpAny_bind (wpAny_holding (draw_tuple hlt items.size 0 _ _ ⟨_,Heap.get?_push_size _ rfl,rfl,rfl⟩ (ht.push _) (by omega) λh₁ hit₁ hs₁=>?_))
 have hall:List.take items.size (List.drop 0 items.toList)=items.toList:=by
  rw [List.drop_zero];exact List.take_of_length_le (by simp)
 rw [hall];rw [if_neg (by simp)]
 have ht₁:IsTup h₁ t items:=(ht.push _).extBut hs₁.extBut hlt;have q₁:Hq A a h₁:=q.keep λo e=>hs₁.extBut a o hla (Heap.get?_push_of_some _ e)
 refine wpAny_bind (wpAny_holding (qco q₁ hla hit₁ ht₁ (by simp) λh₂ he₂=>?_))
 simp only [Option.isSome_none,Bool.false_eq_true,if_false];refine wpAny_pure (h h₂ λb o hb e=>he₂ b o hb (hs₁.extBut b o hb (Heap.get?_push_of_some _ e)))
end
structure ed (P:Program) (w:World) (K:W.Frag) (ah:Addr) (tg:Expr) (J:It) (fp:List Addr) (it:Addr) (tn:Nat->Heap->Prop):Prop where
 mem:it∈fp
 obj:∀ i h,tn i h->∀ b∈fp, ∃ o,h.get? b=some o/\∀ v,o.data≠.cell v
 keep:∀ i h h',tn i h->(∀ b∈fp, ∀ o,h.get? b=some o->h'.get? b=some o)->tn i h'
 item:∀ (X:Cx),X.prog=P->X.w=w->X.K=K->X.A.handled=some (.ref ah)->∀ (i:Nat) (pins:List (Addr×Obj)) (s:Shared) (σ:St) (H:Hp) (E:Value->Shared->Prop),Inv X pins σ H s->(∀ b∈fp,FpOk X pins H b)->tn i s.heap->J.go i H ->
  wpAny (model P w) X.A (pyNext (.ref it)) (λr s1=>∃ u,r=some u /\
   wpAny (model P w) X.A (letOwnedTupleGo tg (.ref it) u) (λ_ s2=>∃ x H',Inv X pins σ H' s2/\RelV x u/\J.yld i H x H'/\tn (i+1) s2.heap/\∀ b∈fp,H' b=none) E s1) E s
 done:∀ (X:Cx),X.prog=P->X.w=w->X.K=K->X.A.handled=some (.ref ah)->∀ (i:Nat) (pins:List (Addr×Obj)) (s:Shared) (σ:St) (H:Hp) (E:Value->Shared->Prop),Inv X pins σ H s->(∀ b∈fp,FpOk X pins H b)->tn i s.heap->J.stop i H ->
  wpAny (model P w) X.A (pyNext (.ref it)) (λr s1=>r=none/\Inv X pins σ H s1) E s
 self:∀ (A:Around) (i:Nat) (s:Shared) (Q:Value->Shared->Prop) (E:Value->Shared->Prop),tn i s.heap->Q (.ref it) s->wpAny (model P w) A (pyIter (.ref it)) Q E s
def PIEQ (X:Cx) (ah:Addr) (pins:List (Addr×Obj)) (σ:St) (tg:Expr) (R:It->Hp->Prop) (itv:Value) (s2:Shared):Prop:=
 ∃ (it:Addr) (fp:List Addr) (tn:Nat->Heap->Prop) (J:It) (H':Hp),itv=.ref it/\Inv X pins σ H' s2/\ed X.prog X.w X.K ah tg J fp it tn/\tn 0 s2.heap/\(∀ b∈fp,FpOk X pins H' b)/\R J H'
def PIQ (X:Cx) (ah:Addr) (tg iter:Expr) (wi:TI):Prop:=
 ∀ (pins:List (Addr×Obj)) (s:Shared) (σ:St) (H:Hp) (R:It->Hp->Prop),Inv X pins σ H s->wi σ H R ->
  wpAny (model X.prog X.w) X.A (eval iter X.env) (λv s1=>wpAny (model X.prog X.w) X.A (pyIter v) (PIEQ X ah pins σ tg R) X.xe s1) X.xe s
theorem Inv.hq {X:Cx} {pins:List (Addr×Obj)} {σ:St} {H:Hp} {s:Shared} {ah C:Addr} (I:Inv X pins σ H s) (hc:X.A.handled=some (.ref ah)) (he:H ah=some (excO ah C)):Hq X.A ah s.heap:=by
 obtain ⟨⟨o,vs,h1,h2,h3,h4⟩,_⟩:=(show xg X.prog X.w H s.heap ah (excO ah C) from I.hok ah _ he)
 exact ⟨hc,o,vs,h1,h3,h4⟩
def ItlQ (K:W.Frag) (ah C l:Addr):It:=
 ⟨λi H=>(∃ xs x,SqL K H l xs/\xs[i]?=some x)/\H ah=some (excO ah C),λi H x H' => H'=H/\∀ xs,SqL K H l xs->xs[i]?=some x,λi H=>(∃ xs,SqL K H l xs/\xs.length<=i)/\H ah=some (excO ah C)⟩
theorem qhs {P:Program} {w:World} {K:W.Frag} {tg:Expr} (ah C l it:Addr):ed P w K ah tg (ItlQ K ah C l) [it] it (λi h=>h.IsListIter it l i) where
 mem:=by simp
 obj:=λi h st b hb=>by
  have e:b=it:=by simpa using hb
  subst e;obtain ⟨o,e,c,d⟩:=st;exact ⟨o,e,λv z=>by rw [d] at z;cases z⟩
 keep:=λi h h' st k=>st.at λo e=>k it (by simp) o e
 item:=by
  intro X hP hw hK hc i pins s σ H E I hf st hg;subst hP hw hK;obtain ⟨⟨xs,x,hq,hx⟩,_⟩:=hg;obtain ⟨its,rv,p,hz⟩:=I.list hq;obtain ⟨u,hu,ru⟩:=rv.get hx;obtain ⟨f0,f1,f2,f3,f4,f5⟩:=hf it (by simp)
  refine wpAny_pyNext_list_item st p.isList (x:=u) (by simpa using hu) λh' st' sb=>?_
  have I1:Inv X pins σ H {s with heap:=h'}:=I.turned (t':=s.toks) (λb o hb e=>(sb.2 b hb).trans e) f0 f1 f3 f4 f5
  obtain ⟨o,e,c,d⟩:=id st';exact ⟨u,rfl,i3 (s:={s with heap:=h'}) e c d (by decide) ⟨x,H,I1,ru,⟨rfl,λys hy=>by rw [I.qfa hy hq];exact hx⟩,st',λb hb=>(hf b hb).1⟩⟩
 done:=by
  intro X hP hw hK hc i pins s σ H E I hf st hg;subst hP hw hK;obtain ⟨⟨xs,hq,hx⟩,he⟩:=hg;obtain ⟨its,rv,p,hz⟩:=I.list hq;obtain ⟨f0,f1,f2,f3,f4,f5⟩:=hf it (by simp)
  have hl:=rv.length;exact qd8 (I.hq hc he) (mw he f0) st p.isList (by simp;omega) λh' eb=>⟨rfl,I.turned (t':=s.toks) (λb o hb e=>eb b o hb e) f0 f1 f3 f4 f5⟩
 self:=λ_ _ _ _ _ st h=>wpAny_pyIter_listiter st h
def qku (K:W.Frag) (ah:Addr) (tl:TE):TI:=λσ H R=>tl σ H λx H1=>∃ a C,x=.ref a/\(∃ xs,SqL K H1 a xs)/\R (ItlQ K ah C a) H1
theorem qmc {X:Cx} {ah:Addr} {tg l:Expr} {tl:TE} (hl:PE X l tl):PIQ X ah tg l (qku X.K ah tl):=by
 intro pins s σ H R I h;refine thn (hl pins s σ H _ I h) λv s1 ⟨x,H1,I1,r1,q1⟩=>?_
 obtain ⟨a,C,e,⟨xs,hq⟩,q⟩:=q1;subst e;cases r1;obtain ⟨its,rv,p,hz⟩:=I1.list hq;refine wpAny_pyIter_list p.isList ?_;refine ⟨s1.heap.objs.size,[s1.heap.objs.size],_,_,H1,rfl,I1.kept (t':=s1.toks) λb o e=>Heap.get?_push_of_some _ e,qhs ah C a _,⟨_,Heap.get?_push_size _ rfl,rfl,rfl⟩,λb hb=>?_,q⟩
 have e:b=s1.heap.objs.size:=by simpa using hb
 subst e;exact I1.fpOk (Nat.le_refl _) (I1.hok.fresh (Nat.le_refl _))
section
variable {X:Cx} {pins:List (Addr×Obj)} {σ:St} {H:Hp} {s:Shared} {scope:Scope} {own:List Str} {fv:List (Str×Nat)}
theorem qnb {ah:Addr} {elt tg iter:Expr} {ifs:List Expr} {pos:Pos} {g:TG} {tc:TT} {te:TE} {R:Value->Addr->Result->Shared->Prop} {E:Value->Shared->Prop}
  (hc:X.A.handled=some (.ref ah)) (B:Blk X.env.scope X.N scope own fv) (hg:∀ s H fp,PG (blk X scope own fv s H fp) tg g) (ht:∀ s H fp,PTs (blk X scope own fv s H fp) ifs tc) (he:∀ s H fp,PE (blk X scope own fv s H fp) elt te)
  {it:Addr} {fp:List Addr} {tn:Nat->Heap->Prop} {J:It} (I:Inv X pins σ H s) (T:ed X.prog X.w X.K ah tg J fp it tn) (st:tn 0 s.heap) (hf:∀ b∈fp,FpOk X pins H b) {Q:VK}
  (hw:∀ D,H D=none->LcW own fv J g tc te σ D Q (upd H D (.lst [])))
  (hR:∀ D C H' s',Inv X pins σ H' s'->FpOk X pins H' C->(∃ m,s'.heap.Ns C m)->Q (.ref D) H'->R (.ref D) C (.ok .next) s') :
  wpAny (model X.prog X.w) X.A (newList []) (λacc s₃=>wpAny (model X.prog X.w) X.A (newFunctionEnv scope X.env.globals (clos scope.names X.env.cells) [] X.env.qual none .none (some X.env)) (λcenv s₄ =>
   codeAny (model X.prog X.w) X.A (.compStart (.ListComp elt [⟨tg,iter,ifs,0⟩] scope pos) 0 (.ref it) acc {cenv with scope:=relabel scope X.env}) (R acc cenv.locals) s₄) E s₃) E s:=by
 refine wpAny_newObj_type (wpAny_newFunctionEnv B.nocell (by intro y hy;simp at hy) (λh₁ hns₁ hsb₁=>?_) B.kind)
 dsimp only at hns₁ hsb₁ ⊢;have I3:Inv X pins σ (upd H s.heap.objs.size (.lst [])) {s with heap:=s.heap.push {cls:=.type "list",data:=.seq ([]:List Value).toArray}}:=I.lnew (t':=s.toks) .nil (Nat.zero_le _)
 obtain ⟨W,⟨m0,w0⟩,turn⟩:=hw s.heap.objs.size I.fresh;have fpl:∀ b∈fp,b<s.heap.objs.size:=λb hb=>by
  obtain ⟨o,e,_⟩:=T.obj _ _ st b hb;exact Heap.lt_size e
 have hf3:∀ b∈fp,FpOk X pins (upd H s.heap.objs.size (.lst [])) b:=λb hb=>⟨by rw [yk (Nat.ne_of_lt (fpl b hb))];exact (hf b hb).1,(hf b hb).2⟩
 generalize hS3:({s with heap:=s.heap.push {cls:=.type "list",data:=.seq ([]:List Value).toArray}}:Shared)=s3 at I3
 have hS3h:s.heap.push {cls:=.type "list",data:=.seq ([]:List Value).toArray}=s3.heap:=by rw [<- hS3]
 have fpl3:∀ b∈fp,b<s3.heap.objs.size:=λb hb=>by
  rw [<- hS3h,Heap.size_push];exact Nat.lt_succ_of_lt (fpl b hb)
 have e3:∀ (h:Heap) (tk:Nat),({s with heap:=h,toks:=tk}:Shared)={s3 with heap:=h,toks:=tk}:=λh tk=>by rw [<- hS3]
 rw [hS3h] at hns₁ hsb₁ ⊢;rw [e3];have k3:∀ b o,s3.heap.get? b=some o->h₁.get? b=some o:=λb o e=>hsb₁.extBut b o (Nat.ne_of_lt (Heap.lt_size e)) (Heap.get?_push_of_some _ e)
 have J0:=il (σ:=σ) I3 B hf3 fpl3 (tk:=s.toks+([]:List (Str×Value)).length) hns₁ k3;have ksz:∀ b o,s.heap.get? b=some o->h₁.get? b=some o:=λb o e=>k3 b o (by rw [<- hS3h];exact Heap.get?_push_of_some _ e)
 have st1:tn 0 h₁:=T.keep _ _ _ st λb _ o e=>ksz b o e
 have stat:∀ {H':Hp},(∀ b∈fp,H' b=none)->∀ b∈fp,FpOk (blk X scope own fv s3 (upd H s.heap.objs.size (.lst [])) fp) [] H' b:=λhn b hb =>
  ⟨hn b hb,Nat.ne_of_lt (fpl3 b hb),λz=>(by
   rcases List.mem_cons.mp (I.q7m b z) with e | e
   ·exact (hf b hb).2.1 e
   ·exact (hf b hb).2.2.1 e), .inl hb,λx c e=>(hf b hb).2.2.2.2.1 x c (ko e),λp hp=>absurd (show p∈([]:List (Addr×Obj)) from hp) (by simp)⟩
 generalize hX':blk X scope own fv s3 (upd H s.heap.objs.size (.lst [])) fp=X' at J0 stat;have eP:X'.prog=X.prog:=by rw [<- hX'];rfl
 have eW:X'.w=X.w:=by rw [<- hX'];rfl
 have eK:X'.K=X.K:=by rw [<- hX'];rfl
 have eA:X'.A=X.A:=by rw [<- hX'];rfl
 have eE:X'.xe=λ_ _=>False:=by rw [<- hX'];rfl
 have eC:X'.A.handled=some (.ref ah):=by rw [eA];exact hc
 have eEnv:compEnvC scope (clos scope.names X.env.cells) s3.heap.objs.size X.env=X'.env:=by rw [<- hX'];rfl
 have Hg:PG X' tg g:=by rw [<- hX'];exact hg _ _ _
 have Ht:PTs X' ifs tc:=by rw [<- hX'];exact ht _ _ _
 have He:PE X' elt te:=by rw [<- hX'];exact he _ _ _
 have loop:codeAny (model X.prog X.w) X.A (.compLoop (.ListComp elt [⟨tg,iter,ifs,0⟩] scope pos) 0 (.ref it) (.ref s.heap.objs.size) X'.env) (R (.ref s.heap.objs.size) s3.heap.objs.size) {s3 with heap:=h₁,toks:=s.toks+([]:List (Str×Value)).length}:=by
  refine q7p (λn s' => ∃ i H',Inv X' [] (bσ own fv σ) H' s'/\tn i s'.heap/\(∀ b∈fp,H' b=none)/\W i n H') ?_ m0 ⟨0,_,J0,st1,λb hb=>(hf3 b hb).1,w0⟩
  rintro n s4 ⟨i,H4,J4,st4,fr4,w4⟩;rcases turn i n H4 w4 with ⟨stop,q⟩ | ⟨go,NE,NF,hNE,hNF,step⟩
  ·have key:=T.done X' eP eW eK eC i [] s4 _ H4 (λ_ _=>False) J4 (stat fr4) st4 stop
   rw [eA] at key;refine thn key λr s5 ⟨hr,J5⟩=>?_
   subst hr;rw [<- hX'] at J5;obtain ⟨I5,c5,m5⟩:=cx I3 hf3 J5;exact hR _ _ _ _ I5 c5 m5 q
  ·have key:=T.item X' eP eW eK eC i [] s4 _ H4 (λ_ _=>False) J4 (stat fr4) st4 go
   rw [eA] at key;refine thn key λr s5 ⟨u,hr,h5⟩=>?_
   subst hr;refine thn h5 λ_ s6 ⟨x,H6,J6,r6,y6,st6,fr6⟩=>?_
   have J6':=J6.pinned (stat fr6) (T.obj _ _ st6);have kg:=Hg _ s6 _ H6 x u _ J6' r6 (step x H6 y6);rw [eP,eW,eA,eE] at kg;refine thn kg λ_ s7 ⟨σ7,H7,J7,⟨os,ol,eσ⟩,q7⟩=>?_
   have kt:=Ht _ s7 σ7 H7 _ J7 q7;rw [eP,eW,eA,eE] at kt;refine thn kt λok s8 ⟨H8,J8,q8⟩=>?_
   have again:∀ {s9:Shared} {H9:Hp} {mm:Nat},Inv X' ([]++mz fp s6.heap) σ7 H9 s9->mm<n->W (i+1) mm H9->∃ m,m<n/\∃ i H',Inv X' [] (bσ own fv σ) H' s9/\tn i s9.heap/\(∀ b∈fp,H' b=none)/\W i m H':=λ{s9 H9 mm} J9 hm w9=>by
    refine ⟨mm,hm,i+1,H9,(J9.q7z).weak ?_ ?_,T.keep _ _ _ st6 λb hb o e=>(J9.pin (b,o) (List.mem_append_right _ (List.mem_append_right _ (n6 hb e)))).1,λb hb=>?_,w9⟩
    ·rw [eσ];unfold bσ;rw [List.length_append,List.length_append,List.length_map,ol]
    ·intro j v e
     rw [eσ];unfold bσ at e
     by_cases hj:j<own.length
     ·rw [List.getElem?_append_left (by simpa using hj),List.getElem?_map] at e
      cases q:own[j]? with
      | none=>rw [q] at e;cases e
      | some y=>rw [q] at e;cases e
     ·rw [List.getElem?_append_right (by simpa using hj),List.length_map] at e
      rw [List.getElem?_append_right (by omega),ol]
      exact e
    ·obtain ⟨o,e,d⟩:=T.obj _ _ st6 b hb
     exact (J9.pin (b,o) (List.mem_append_right _ (List.mem_append_right _ (n6 hb e)))).2.1
   cases ok with
   | false =>
    rw [if_neg Bool.false_ne_true] at q8 ⊢;obtain ⟨m',hm,w8⟩:=hNF _ q8;exact again J8 hm w8
   | true =>
    rw [if_pos rfl] at q8 ⊢;have ke:=He _ s8 σ7 H8 _ J8 q8;rw [eP,eW,eA,eE] at ke;refine thn ke λxv s9 ⟨v,H9,J9,r9,q9⟩=>?_
    obtain ⟨ys,hD,hz,m',hm,w9⟩:=hNE v H9 q9;have:=(uz (X:=X')) _ s9 σ7 H9 (.ref s.heap.objs.size) [v] (.ref s.heap.objs.size) [xv] (λ_ H10=>W (i+1) m' H10) J9 rfl (.cons r9 .nil) ⟨_,ys,v,rfl,rfl,hD,hz,w9⟩
    rw [eP,eW,eA,eE] at this;exact thn this λ_ s10 ⟨_,H10,J10,_,w10⟩=>again J10 hm w10
 rw [<- eEnv] at loop;exact codeAny_compStart_list loop (T.self _ 0 _ _ _ st1 loop)
end
section
variable {X:Cx} {scope:Scope} {own:List Str} {fv:List (Str×Nat)} {elt tg iter:Expr} {ifs:List Expr} {pos:Pos} {wi:TI} {g:TG} {tc:TT} {te:TE}
theorem pe_lcQ {ah:Addr} {osc:Scope} {N0:List Str} (hc:X.A.handled=some (.ref ah)) (hsc:X.env.scope=osc) (hN0:X.N=N0) (B:Blk osc N0 scope own fv) (hi:PIQ X ah tg iter wi) (hg:∀ s H fp,PG (blk X scope own fv s H fp) tg g) (ht:∀ s H fp,PTs (blk X scope own fv s H fp) ifs tc) (he:∀ s H fp,PE (blk X scope own fv s H fp) elt te)
  (hs:∀ x,foldedSetIterable iter X.env x=pure x:=by intro _;rfl):PE X (.ListComp elt [⟨tg,iter,ifs,0⟩] scope pos) (tLc own fv wi g tc te):=by
 subst hsc hN0;intro pins s σ H Q I h;rw [eval_ListComp];refine wpAny_comprehension_free (use:=none) rfl hs (B.clos I.ok) B.kind B.loc (thn (hi pins s σ H _ I h) λv s1 h1=>thn h1 λitv s2 h2=>?_)
 obtain ⟨it,fp,tn,J,H2,rfl,I2,T,st2,f2,hw⟩:=h2;refine qnb hc B hg ht he I2 T st2 f2 hw λD C H' s' I' c' m' q=>?_
 obtain ⟨m,hn⟩:=m';exact ⟨m,hn,λh' hs' => ⟨.ref D,H',cy I' c' hs',rfl,q⟩⟩
end
def gTupQ (K:W.Frag) (ah:Addr) (n:Nat) (t:TGs):TG:=λv σ H Q=>∃ a C xs,v=.ref a/\H ah=some (excO ah C)/\SqT K H a xs/\xs.length=n/\t xs σ H Q
theorem qp0 {X:Cx} {K:W.Frag} {ah:Addr} {ts:List Expr} {t:TGs} {kk:Nat} {tpos:Pos} {n:Nat} (hK:X.K=K) (hc:X.A.handled=some (.ref ah)) (h:PGs X ts t) (h1:(assignEach ts X.env).length=n:=by rfl) (h2:(assignEach ts X.env).findIdx? (·.1)=none:=by rfl) :
  PG X (.Tuple ts kk tpos) (gTupQ K ah n t):=by
 subst hK;intro pins s σ H v u Q I r hw;obtain ⟨a,C,xs,e1,he,hq,hl,hw⟩:=hw;subst e1;cases r;obtain ⟨its,rv,ht,hz⟩:=I.tuple hq;rw [assign_Tuple];refine wpAny_bind (wpAny_standAt (qok (I.hq hc he) ht (by simp [h1, <- hl,rv.length]) h2 λh' hx=>?_))
 have I1:Inv X pins σ H {s with heap:=h'}:=I.kept (t':=s.toks) λb o e=>hx b o (Nat.ne_of_lt (Heap.lt_size e)) e
 exact h pins _ σ H xs _ Q I1 (by simpa using rv) hw
structure fe (P:Program) (w:World) (K:W.Frag) (mg:Str->Option Value) (base:Heap) (CX:CXT) (k:Nat) (f:Addr) (fd:FuncData) (ps:List Str) (sp:Sp):Prop where
 len:∀ vs H Q E,sp vs H Q E->vs.length=ps.length
 run:∀ (A:Around) (outer:List Env) (s:Shared) (H:Hp) (args:Args) (us:List Value) (vs:List V) (Q:VK) (E:XK),uc k A->(∃ ah,A.handled=some (.ref ah)/\vs.head?=some (.ref ah))->Env0 P w K mg base A outer s H->BindsTo s fd args (ps.zip us)->Vals vs us->sp vs H Q E ->
  codeAny (model P w) A (.call (.ref f) args) (CR CX outer P w H s Q E) s
theorem fn_ofQ {CX:CXT} {P:Program} {w:World} {K:W.Frag} {mg:Str->Option Value} {base:Heap} {k:Nat} {f:Addr} {name qual:Str} {params:Arguments} {body:List Stmt} {scope:Scope} {dV kV doc pm cdv ct oc:Value} {an od:Option Addr}
  {osl:Array (Option Value)} {N ps:List Str} {sp:Sp} (lk:K.lookup f=some ⟨oc,od, .func (W.fnOf name qual params body scope dV kV doc pm an cdv ct),osl⟩) (hcd:W.codeIn K cdv qual=true) (S:ju N ps scope)
  (len:∀ vs H Q E,sp vs H Q E->vs.length=ps.length)
  (hbody:∀ (A:Around) (outer:List Env) (s:Shared) (H:Hp) (vs:List V) (Q:VK) (E:XK) (ah:Addr),uc k (A.deeper (envOfC qual scope s.heap.objs.size f cdv))->A.handled=some (.ref ah)->vs.head?=some (.ref ah)->sp vs H Q E ->
   ∃ t,PSs (f7 CX P w K mg base N qual scope f cdv A outer s H E) body t/\t {nx:=λ_ H' => Q .non H',rt:=Q} (start N vs) H) :
  fe P w K mg base CX (k+1) f (W.fnOf name qual params body scope dV kV doc pm an cdv ct) ps sp:=by
 refine ⟨len,λA outer s H args us vs Q E hr ⟨ah,hA,hv⟩ e0 hb r hsp=>?_⟩
 have hl:=len _ _ _ _ hsp;have KX:K.In s.heap:=e0.mod.kin.keeps λb o e=>(e0.bs b o e).1
 have lim:s.heap.NoLimit:=e0.mod.nolimit.keeps λb o e=>(e0.bs b o e).1
 have hkind:∀ y∈ps.zip us,scope.names.lookup y.1=some .local\/(scope.names.lookup y.1=some .cell/\((cellsFrom (s.heap.objs.size+1) scope.names []).lookup y.1).isSome=true):=λ⟨n,v⟩ hy=>by
  rcases S.par n (List.of_mem_zip hy).1 with q | q
  ·exact .inl q
  ·exact .inr ⟨q,W.cellsFrom_some _ _ _ (.inl q)⟩
 refine codeAny_call_function hr.depth (KX _ _ lk) rfl S.co S.gen rfl (W.codeRec_of KX hcd) (hb _ _ _ _ ?_);refine wpAny_newFunctionEnv_cells S.kind hkind λenv he s1 x=>?_
 subst he;refine ⟨lim.keeps x.toInCall.keep,codeAny_func ?_⟩;obtain ⟨t,ht,hq⟩:=hbody A outer s H vs Q E ah (hr.deeper _) hA hv hsp;have e1:Env0 P w K mg base {A with handled:=none} outer s H:=⟨e0.frames,e0.mod,e0.bs,e0.bsz,e0.funs,e0.frf,e0.hok,e0.bare⟩
 have I0:Inv (cxOf CX P w K mg base N qual scope f cdv {A with handled:=none} outer s H E) [] (start N vs) H s1:=qdz S rfl e1 hl r x
 have I:Inv (f7 CX P w K mg base N qual scope f cdv A outer s H E) [] (start N vs) H s1:=by
  have ok:=I0.ok;exact ⟨⟨ok.mod,ok.kind,ok.glob,ok.blt,ok.above,ok.inj,ok.has,ok.cab,(λz=>by cases z),ok.frames,ok.stk,ok.exf,ok.bs,ok.bsz,ok.noex,ok.exfs,ok.funs,ok.frf⟩,I0.os,I0.bare,I0.base,I0.loc,I0.cell,I0.free,I0.freeC,I0.pin,I0.hok,I0.len⟩
 refine wpAny_mono (ht [] s1 (start N vs) H _ I hq) (λfl s' hs=>?_) λe s' hs=>hs
 have fin:∀ {σ':St} {H':Hp} {v:V} {u:Value},Inv (f7 CX P w K mg base N qual scope f cdv A outer s H E) [] σ' H' s'->RelV v u->Q v H'->CE outer P w H s Q u s':=
  λ{σ' H' v u} J rv q=>⟨v,H',J.os,J.bare,J.base,J.hok,rv,q⟩
 cases fl with
 | ret u =>
  obtain ⟨v, σ',H',J,rv,q⟩:=hs;exact fin J rv q
 | next =>
  obtain ⟨σ',H',J,q⟩:=hs;exact fin (v:=V.non) (u:=Value.none) J rfl q
 | brk =>
  obtain ⟨_,_,_,q⟩:=hs;exact False.elim q
 | cont =>
  obtain ⟨_,_,_,q⟩:=hs;exact False.elim q
section
variable {P:Program} {w:World} {K:PySem.W.Frag} {mg:Str->Option Value} {base:Heap} {x qual:Str} {st:Stmt} {f:Addr} {fd:FuncData} {N ps:List Str} {k:Nat} {sp:Sp}
theorem Fun.okQ (F:Fun K x qual st f fd) (S:ju N ps (je st)) (len:∀ vs H Q E,sp vs H Q E->vs.length=ps.length)
  (hbody:∀ (cdv:Value) (A:Around) (outer:List Env) (s:Shared) (H:Hp) (vs:List V) (Q:VK) (E:XK) (ah:Addr),uc k (A.deeper (envOfC qual (je st) s.heap.objs.size f cdv))->A.handled=some (.ref ah)->vs.head?=some (.ref ah)->sp vs H Q E ->
   ∃ t,PSs (f7 CX0 P w K mg base N qual (je st) f cdv A outer s H E).nox (v7 st) t/\t {nx:=λ_ H' => Q .non H',rt:=Q} (start N vs) H):fe P w K mg base CX0 (k+1) f fd ps sp:=by
 obtain ⟨oc,od,kV,doc,pm,an,cdv,ct,osl,rfl,lk,hcd⟩:=F.ex;refine fn_ofQ lk hcd S len λA outer s H vs Q E ah hr hA hv hsp=>?_
 obtain ⟨t,h,q⟩:=hbody cdv A outer s H vs Q E ah hr hA hv hsp;exact ⟨t,h.nox,q⟩
end
section
variable {X:Cx} {CX:CXT} {k:Nat} {f C ah:Addr} {fd:FuncData} {ps:List Str} {sp:Sp} {dvs:List V} {ds:List Value} {E:XK} {x m:Str} {p pos apos:Pos} {e o:Expr} {es:List Expr} {ta:TE} {t:TA}
def qkx (ah:Addr) (sp:Sp) (dvs:List V) (E:XK) (t:TA):TE:=λσ H Q=>t σ H λvs H1=>(vs++dvs).head?=some (.ref ah)/\sp (vs++dvs) H1 Q E
theorem qmk (F:fe X.prog X.w X.K X.mg X.base CX k f fd ps sp) (hr:uc k X.A) (hc:X.A.handled=some (.ref ah)) (hg:Gl X x) (hm:X.mg x=some (.ref f)) (hk:W.keepIn X.K (.ref f)=true) (hb:Binds X.K fd ps ds) (hd:Vals dvs ds) (hx:Passes CX X E)
  (ha:PA X (e::es) t) (hdb:(x == ("__debug__" : Str))=false:=by decide) (he:starEach (e::es) X.env=(false,eval e X.env)::starEach es X.env:=by rfl) (hpl:(backTo pos (starEach es X.env)).any (·.1)=false:=by rfl) :
  PE X (.Call (.Name x p) (e::es) [] pos) (qkx ah sp dvs E t):=by
 intro pins s σ H Q I h;refine wpAny_Call_Name_kw (my I hg hm ?_ hdb);refine W.callWith_K (h₀:=X.base) I.ok.mod.kin hk (thn (ha pos pins s σ H _ I h) λus s1 ⟨vs,H1,I1,r,hv,q⟩=>⟨I1.kIn,?_⟩) he hpl
 have r2:Vals (vs++dvs) (us++ds):=r.append hd;have hl:(us++ds).length=ps.length:=by rw [<- r2.length];exact F.len _ _ _ _ q
 refine wpAny_call (codeAny_mono (F.run X.A X.stack s1 H1 ⟨us,[]⟩ (us++ds) (vs++dvs) Q E hr ⟨ah,hc,hv⟩ I1.env0 (hb s1 us I1.kIn hl) r2 q) λr s' hq=>?_)
 cases r with
 | error e=>exact hx pins σ H1 s1 e s' I1 hq
 | ok fl =>
  cases fl with
  | ret u=>exact I1.after hq
  | next=>exact False.elim hq
  | brk=>exact False.elim hq
  | cont=>exact False.elim hq
def qjx (C:Addr) (m:Str) (sp:Sp) (dvs:List V) (ta:TE) (t:TA):TX:=λσ H Q E=>ta σ H λx H1=>∃ a dx fs,x=.ref a/\H1 a=some (.ins C dx fs)/\fs.lookup m=none/\t σ H1 λvs H2=>sp (x::(vs++dvs)) H2 Q E
theorem qh5 {pl:Sem Bool} (he:PE X.nox o ta) (c:Cls X.K C) (hm:Meth X.K C m f) (F:FnOk X.prog X.w X.K X.mg X.base (CX1 X.prog X.w) k f fd ps sp) (hr:Room k X.A) (hb:Binds X.K fd ps ds) (hd:Vals dvs ds) (ha:PA X.nox (e::es) t)
  (hst:starEach (e::es) X.env=(false,eval e X.env)::starEach es X.env:=by rfl) (hpl:(backTo pos (starEach es X.env)).any (·.1)=false:=by rfl)
  (ht:eval (.Call (.Attribute o m apos) (e::es) [] pos) X.env=(do
   let ov <- eval o X.env
   standAt apos.atName
   let (f,first) <- holding [ov] (getMethod ov m pl)
   callWith pos f first (backTo pos (starEach (e::es) X.env)) (backToKw pos (keywordEach [] X.env))):=by rfl) :
  PX X (.Call (.Attribute o m apos) (e::es) [] pos) (qjx C m sp dvs ta t):=by
 intro pins s σ H Q E I h;refine W.methodCall_KW (pl:=pl) (wpAny_mono (he pins s σ H _ (I.wish _) h) (λu s1 ⟨x,H1,I1,rx,a,dx,fs,ex,ea,l,q⟩=>?_) λ_ _ z=>False.elim z) ht
 subst ex;obtain rfl:u=Value.ref a:=rx;refine i7 I1.q6d ea c hm l ?_;refine W.callWith_K (first:=[.ref a]) (h₀:=X.base) I.ok.mod.kin hm.kp (wpAny_mono (ha pos pins s1 σ H1 _ I1 q) (λus s2 ⟨vs,H2,I2,r,q2⟩=>⟨I2.kIn,?_⟩) λ_ _ z=>False.elim z) hst hpl
 exact qn7 (us:=.ref a::us) (vs:=.ref a::vs) F hr hb hd I2.q6d (.cons rfl r) q2
end
theorem qcj:∀ {ys:List Str} {us:List Value},Vals (ys.map V.str) us->StrsAre us ys
 | [],_, .nil=>.nil
 | y::ys,_, .cons r rs=>by
  obtain ⟨t,rfl⟩:=r;exact .cons y t (qcj rs)
def rJoin (K:W.Frag):V->List V->Hp->VK->Prop:=λx vs H Q=>∃ (sep:Str) (p:Addr) (ys:List Str),x=.str sep/\vs=[.ref p]/\SqL K H p (ys.map V.str)/\sep.length<=16/\(ys.map (·.length)).sum+ys.length<=1048576/\Q (.str (Txt.join sep ys)) H
theorem qou {X:Cx}:MtM X "str.join" (rJoin X.K):=by
 intro pins s σ H x vs v us Q I rx rv h;obtain ⟨sep,p,ys,rfl,rfl,hS,h1,h2,q⟩:=h;obtain ⟨t,rfl⟩:=rx;obtain ⟨u,rfl,ru⟩:=rv.one;cases ru;obtain ⟨its,r,pl,_⟩:=I.list hS;exact join_listW pl.isList (qcj r) h1 h2 λt' k=>⟨.str _,H,I.tok k,⟨t',rfl⟩,q⟩
theorem ee (xs:Array (Int×Tok)):∀ n,n<=xs.size->preSum (numAt xs) n=((xs.toList.map (·.1)).take n).sum
 | 0,_=>rfl
 | n+1,h=>by
  have hlt:n<xs.size:=h;have e:(xs.toList.map (·.1))[n]?=some (numAt xs n):=by
   rw [List.getElem?_map,Array.getElem?_toList];unfold numAt;rw [Array.getElem?_eq_getElem hlt];rfl
  rw [preSum,ee xs n (by omega),List.take_add_one,e]
  simp
theorem sum_bound:∀ (ns:List Int),(∀ n∈ns, -(2 ^ 32)<=n/\n<=2 ^ 32)->-(2 ^ 32) * (ns.length:Int)<=ns.sum/\ns.sum<=2 ^ 32 * (ns.length:Int)
 | [],_=>by simp
 | n::ns,h=>by
  have h1:=h n (List.mem_cons_self ..);have h2:=sum_bound ns λm hm=>h m (List.mem_cons_of_mem _ hm)
  rw [List.sum_cons,List.length_cons];omega
section
variable {X:Cx}
theorem qlm (hc:X.calm=true):x9 X (.builtin "sum") (λxs H Q=>∃ p, ∃ ns:List Int,xs=[.ref p]/\SqL X.K H p (ns.map V.int)/\(∀ n∈ns, -(2 ^ 32)<=n/\n<=2 ^ 32)/\ns.length<=100000/\Q (.int ns.sum) H):=by
 intro pins s σ H xs us Q I r h;obtain ⟨p,ns,rfl,hS,hb,hl,q⟩:=h;obtain ⟨u,rfl,ru⟩:=vals1 r;cases ru;obtain ⟨its,rv,pl,_⟩:=I.list hS;have hi:=intsAre_of rv;obtain ⟨ys,e⟩:=hi.allInts.items;have hns:ns=ys.toList.map (·.1):=by rw [<- hi.numsOf, <- nums_intItems, <- e]
 have hlist:=pl.isList;rw [e] at hlist;have hsz:ys.size=ns.length:=by rw [hns,List.length_map,Array.length_toList]
 refine sum_intList (I.ok.hd hc) hlist (λj hj=>?_) λh' tk t' hk=>?_
 ·have hj':j<ns.length:=by omega
  have e1:numAt ys j∈ns:=by
   rw [hns];refine List.mem_map.mpr ⟨ys[j],by simp,?_⟩
   unfold numAt;simp [hj]
  have b1:=hb _ e1;rw [ee ys (j+1) (by omega), <- hns]
  have b2:=sum_bound (ns.take (j+1)) λm hm=>hb m (List.mem_of_mem_take hm)
  have b3:(ns.take (j+1)).length<=100000:=Nat.le_trans (by rw [List.length_take];omega) hl
  refine ⟨⟨by omega,by omega⟩,⟨?_,?_⟩⟩ <;> omega
 ·refine ⟨.int ns.sum,H,I.kept hk,⟨t',?_⟩,q⟩
  rw [ee ys ys.size (Nat.le_refl _), <- hns,hsz,List.take_length]
end
end L2
set_option maxHeartbeats 8000000
namespace L2
open PySem PySem.Spec PyProof.Rows
def meet {κ:Type} [DecidableEq κ] (acc:List κ) (x:κ):List κ:=if x∈acc then acc else acc++[x]
def metK {κ:Type} [DecidableEq κ] (xs:List κ):List κ:=xs.foldl meet []
theorem qld {κ:Type} [DecidableEq κ] (xs:List κ) (x:κ):metK (xs++[x])=meet (metK xs) x:=by unfold metK;rw [List.foldl_append];rfl
theorem qm4 {κ:Type} [DecidableEq κ] {acc:List κ} {x y:κ}:y∈meet acc x↔y∈acc\/y=x:=by
 unfold meet;split
 ·rename_i h
  constructor
  ·exact .inl
  ·rintro (h' | rfl)
   ·exact h'
   ·exact h
 ·rw [List.mem_append,List.mem_singleton]
theorem qp3 {κ:Type} [DecidableEq κ] (xs:List κ):∀ acc:List κ,(xs.foldl meet acc).length<=acc.length+xs.length:=by
 induction xs with
 | nil=>intro acc;exact Nat.le_refl _
 | cons x r ih =>
  intro acc;have h1:=ih (meet acc x);have h2:(meet acc x).length<=acc.length+1:=by
   unfold meet;split
   ·omega
   ·rw [List.length_append];exact Nat.le_refl _
  rw [List.foldl_cons,List.length_cons];omega
theorem qc2 {κ:Type} [DecidableEq κ]:∀ (xs acc:List κ),xs.Nodup->(∀ x∈xs,x∉acc)->xs.foldl meet acc=acc++xs
 | [],acc,_,_=>by simp
 | x::r,acc,hn,hd=>by
  rw [List.foldl_cons];have hx:meet acc x=acc++[x]:=by unfold meet;rw [if_neg (hd x List.mem_cons_self)]
  rw [hx,qc2 r _ (List.nodup_cons.mp hn).2 λy hy hm=>?_,List.append_assoc];rfl
  rcases List.mem_append.mp hm with h | h
  ·exact hd y (List.mem_cons_of_mem _ hy) h
  ·rw [List.mem_singleton] at h;subst h;exact (List.nodup_cons.mp hn).1 hy
section
variable {prog:Program} {w:World} {A:Around} {R:Result->Shared->Prop} {I:Addr} {fp wr:List Addr} {G:Array GenState->Array GenState->Prop} {P:Nat->Value->Prop} {St:Nat->Shared->Prop} {xs:List Str}
theorem qml (W:WalksS prog w A.in1 I fp wr G xs.length P St) (S:Addr) (nf:S∉fp) (hv:∀ i v,P i v->∃ x t,xs[i]?=some x/\v=.str x t) (hb:xs.length+1<scanBound):∀ (k i:Nat) (s:Shared),xs.length - i=k->i<=xs.length->St i s ->
   s.heap.SetOf (PySem.strKind prog w) S (λy=>decide (y∈metK (xs.take i))) (metK (xs.take i)).length ->
   (∀ s',Moved (S::wr) G s s'->s'.heap.SetOf (PySem.strKind prog w) S (λy=>decide (y∈metK xs)) (metK xs).length->R (.ok (.ret .none)) s') ->
   codeAny (model prog w) A (.builtin "set.update.loop" ⟨[.ref S, .ref I],[]⟩) R s:=by
 have nw:S∉wr:=λz=>nf (W.sub _ z)
 have up:∀ b∈wr,b∈S::wr:=λb z=>List.mem_cons_of_mem _ z
 have stay:∀ {s s':Shared} {S':Str->Bool} {n:Nat},Moved wr G s s'->s.heap.SetOf (PySem.strKind prog w) S S' n->s'.heap.SetOf (PySem.strKind prog w) S S' n:=λm ⟨o,es,ep,t,ho,rest⟩=>⟨o,es,ep,t,m.heap S _ nw ho,rest⟩
 intro k
 induction k with
 | zero =>
  intro i s hk hi st hS hR;obtain rfl:i=xs.length:=by omega
  refine codeAny_builtin F.entry_set_update_loop ?_;rw [Around.under_plainId F.plain_set_update_loop _];show wpAny _ A.in1 (pyNext (.ref I) >>= _) _ _ s;rw [List.take_length] at hS;refine wpAny_bind (W.done s _ _ st λs' m=>?_)
  exact wpAny_pure (hR s' (m.mono up) (stay m hS))
 | succ k ih =>
  intro i s hk hi st hS hR;have lt:i<xs.length:=by omega
  refine codeAny_builtin F.entry_set_update_loop ?_;rw [Around.under_plainId F.plain_set_update_loop _];show wpAny _ A.in1 (pyNext (.ref I) >>= _) _ _ s;refine wpAny_bind (W.item i s _ _ lt st λv s1 hP st1 m1=>?_)
  obtain ⟨x,t,hx,rfl⟩:=hv i v hP;have hS1:=stay m1 hS;have tk:metK (xs.take (i+1))=meet (metK (xs.take i)) x:=by rw [List.take_add_one,hx];exact qld _ _
  have le:(metK (xs.take i)).length<=i:=by
   have:=qp3 (xs.take i) ([]:List Str);rw [List.length_take] at this;unfold metK;simp at this;omega
  show wpAny _ A.in1 (holding [Value.str x t] (setAdd S (.str x t)) >>= _) _ _ s1;refine wpAny_bind (wpAny_holding ?_);unfold setAdd;refine wpAny_holding (wpAny_bind ((PySem.strKind prog w).pyHash (k:=x) (strKind_is _ _ _ _) ?_));refine wpAny_setAddHashed_of (knd:=PySem.strKind prog w) (s:={s1 with toks:=s1.toks+1}) (strKind_is _ _ _ _) rfl hS1 (by omega) λh' sb hS2=>?_
  have hS3:h'.SetOf (PySem.strKind prog w) S (λy=>decide (y∈metK (xs.take (i+1)))) (metK (xs.take (i+1))).length:=by
   refine SetOf_congr hS2 (λy=>?_) ?_
   ·rw [tk,Bool.eq_iff_iff]
    simp only [Bool.or_eq_true,decide_eq_true_eq];exact qm4.symm
   ·rw [tk];unfold meet
    by_cases z:x∈metK (xs.take i)
    ·rw [if_pos (by exact decide_eq_true z),if_pos z]
    ·rw [if_neg (by simpa using z),if_neg z,List.length_append];rfl
  refine wpAny_pure ⟨plainId_quiet F.plain_set_update_loop _,ih (i+1) _ (by omega) lt (W.frame _ s1 _ _ st1 (Nat.le_succ _) λb hb' o e=>?_) hS3 λs2 m2 hS4=>?_⟩
  ·rw [sb.2 b λz=>nf (z ▸ hb')];exact e
  ·refine hR s2 (Moved.trans W.gtrans ((m1.mono up).then_heap (Nat.le_succ _) λb o hb' e=>?_) m2) hS4
   rw [sb.2 b λz=>hb' (z ▸ List.mem_cons_self)];exact e
end
section
variable {prog:Program} {w:World} {A:Around} {E:Value->Shared->Prop} {s:Shared}
theorem qfj {l:Addr} {its:Array Value} {xs:List Str} {Q:Value->Shared->Prop} (hh:A.handled=none) (hl:s.heap.IsList l its) (hi:∀ (i:Nat) v,its[i]?=some v->∃ x t,xs[i]?=some x/\v=.str x t) (hz:its.size=xs.length) (hb:xs.length+1<scanBound)
  (h:∀ (h':Heap) (tk:Nat),h'.SetOf (PySem.strKind prog w) s.heap.objs.size (λy=>decide (y∈metK xs)) (metK xs).length ->
   (∀ b o,b<s.heap.objs.size->s.heap.get? b=some o->h'.get? b=some o)->Q (.ref s.heap.objs.size) {s with heap:=h',toks:=tk}):wpAny (model prog w) A (call (.type "set") [.ref l]) Q E s:=by
 obtain ⟨c,tl,hmro⟩:=F.called_set.mro;have hmade:=F.called_set.made;have hsub:=F.called_set.sub;refine wpAny_call (codeAny_of_tree (by
  show wpAny _ _ (callAny (.type "set") _) _ _ _;refine wpAny_pure ⟨Code.quiet_builtin _ (by decide +kernel),codeAny_builtin F.entry_type_call ?_⟩
  rw [Around.under_plain (weight_type_call_type "set" [.ref l] []) rfl];have n1:=F.called_set.notType;have n2:=F.called_set.canCreate;have n3:=F.typeCall_set_1 (.ref l)
  repeat (any_goals (first | wp_step | assumption))
  refine codeAny_mono (code_set_new_1 (.ref l) (E:=E) (Q₁:=λob s1=>∃ led:Bool,ob=.ref s.heap.objs.size/\s1={s with heap:=s.heap.push ({cls:=.type "set",dict:=none,data:=.set #[] 0 (.fresh 0 0 led)})}) λled=>⟨led,rfl,rfl⟩) λr s1 hr=>?_
  cases r with
  | error e=>exact hr
  | ok fl =>
   cases fl with
   | ret ob =>
    obtain ⟨led,rfl,rfl⟩:=hr;have gS:(s.heap.push ({cls:=.type "set",dict:=none,data:=.set #[] 0 (.fresh 0 0 led)})).get? s.heap.objs.size=some ({cls:=.type "set",dict:=none,data:=.set #[] 0 (.fresh 0 0 led)}):=Heap.get?_push_size _ rfl;have tS:Shared.TypeIs {s with heap:=s.heap.push ({cls:=.type "set",dict:=none,data:=.set #[] 0 (.fresh 0 0 led)})} (.ref s.heap.objs.size) "set":=⟨_,gS,rfl⟩
    have i1:=F.called_set.init.lookup;have i2:=F.called_set.init.bind (.ref s.heap.objs.size)
    repeat (any_goals (first | wp_step | assumption))
    refine codeAny_mono (codeAny_call_builtin (R:=wants (λr s2=>r=.none/\∃ h' tk,s2={s with heap:=h',toks:=tk}/\h'.SetOf (PySem.strKind prog w) s.heap.objs.size (λy=>decide (y∈metK xs)) (metK xs).length /\
      (∀ b o,b<s.heap.objs.size->s.heap.get? b=some o->h'.get? b=some o)) E) F.called_set.init.plain F.entry_set_init (check_set_init_1 tS ?_)) λr2 s2 hr2=>?_
    ·obtain ⟨ol,q1,q2,nl,q3⟩:=hl
     obtain ⟨oc,od,oda,os⟩:=ol;simp only at q2 q3;subst q2;subst q3;have q4:(s.heap.push ({cls:=.type "set",dict:=none,data:=.set #[] 0 (.fresh 0 0 led)})).get? l=some {cls:=.type "list",dict:=od,data:=.seq its nl,slots:=os}:=Heap.get?_push_of_some _ q1;have u1:=F.sub_list_set;have u2:=F.sub_list_frozenset;have u3:(Value.type "list" == Value.type "dict")=false:=by decide
     have L1:(s.heap.push ({cls:=.type "set",dict:=none,data:=.set #[] 0 (.fresh 0 0 led)})).IsList l its:=⟨_,q4,rfl,nl,rfl⟩;unfold Builtin.«set.__init__» noKeywords Builtin.Frozenset.updateFrom;generalize hPI:pyIter=PI
     wp_walk
     subst hPI;refine wpAny_pyIter_list L1 ?_;refine (wpAny_bind (wpAny_runValue ?_));have ls:l<s.heap.objs.size:=Heap.lt_size q1;have hd3:A.in1.in1.in1.handled=none:=by simp [hh]
     have ne:l≠(s.heap.push ({cls:=.type "set",dict:=none,data:=.set #[] 0 (.fresh 0 0 led)})).objs.size:=by rw [Heap.size_push];exact Nat.ne_of_lt (Nat.lt_succ_of_lt ls)
     have nS:s.heap.objs.size∉[(s.heap.push ({cls:=.type "set",dict:=none,data:=.set #[] 0 (.fresh 0 0 led)})).objs.size,l]:=by
      rw [Heap.size_push];intro z;rcases List.mem_cons.mp z with z | z
      ·exact absurd z (Nat.ne_of_lt (Nat.lt_succ_self _))
      ·rw [List.mem_singleton] at z;exact absurd z (Nat.ne_of_gt ls)
     have WK:=(Walks.list (prog:=prog) (w:=w) hd3 (s.heap.push ({cls:=.type "set",dict:=none,data:=.set #[] 0 (.fresh 0 0 led)})).objs.size l ne its).toS;rw [hz] at WK;refine qml (xs:=xs) WK s.heap.objs.size nS (λi v z=>hi i v z) hb (xs.length - 0) 0 _ (by omega) (Nat.zero_le _) ⟨⟨_,Heap.get?_push_size _ rfl,rfl,rfl⟩,(L1.push _)⟩ ?_ ?_
     ·have gg:((s.heap.push ({cls:=.type "set",dict:=none,data:=.set #[] 0 (.fresh 0 0 led)})).push {cls:=.type "list_iterator",data:=.fields #[.ref l, .int 0 0]}).get? s.heap.objs.size=some {cls:=.type "set",dict:=none,data:=.set #[] 0 (.fresh 0 0 led)}:=Heap.get?_push_of_some _ gS
      exact SetOf_congr ((setObjOf_fresh (knd:=PySem.strKind prog w) led).setOf gg (by unfold scanBound;omega)) (λ_=>rfl) rfl
     ·intro s' m hS'
      obtain ⟨h',g',d',tk',os'⟩:=s';obtain rfl:g'=s.gens:=m.gens;obtain rfl:d'=s.drawn:=m.drawn;obtain rfl:os'=s.os:=m.os;refine wpAny_pure (wpAny_pure ⟨rfl,h',tk',rfl,hS',λb o hb' e=>?_⟩)
      refine m.heap b o (λz=>?_) (Heap.get?_push_of_some _ (Heap.get?_push_of_some _ e))
      rcases List.mem_cons.mp z with z | z
      ·exact absurd z (Nat.ne_of_lt hb')
      ·rw [List.mem_singleton,Heap.size_push] at z;exact absurd z (Nat.ne_of_lt (Nat.lt_succ_of_lt hb'))
    ·cases r2 with
     | error e=>exact hr2
     | ok f2 =>
      cases f2 with
      | ret r =>
       obtain ⟨rfl,h',tk,rfl,hS',hk'⟩:=hr2
       repeat (any_goals (first | wp_step | assumption))
       exact h _ _ hS' hk'
      | _=>exact hr2.elim
   | _=>exact hr.elim))
end
section
variable {X:Cx}
def SetS (P:Program) (w:World) (a:Addr) (ts:List Str):HO:=.ext λh=>h.SetOf (PySem.strKind P w) a (λy=>decide (y∈metK ts)) (metK ts).length
theorem qj4 (hc:X.calm=true):x9 X (.type "set") (λxs H Q=>∃ p, ∃ ts:List Str,xs=[.ref p]/\SqL X.K H p (ts.map V.str)/\ts.length<=1000/\∀ a,H a=none->Q (.ref a) (upd H a (SetS X.prog X.w a ts))):=by
 intro pins s σ H xs us Q I r h;obtain ⟨p,ts,rfl,hS,hl,q⟩:=h;obtain ⟨u,rfl,ru⟩:=vals1 r;cases ru;obtain ⟨its,rv,pl,_⟩:=I.list hS;have hlen:its.length=ts.length:=by have:=rv.length;simpa using this.symm
 refine qfj (xs:=ts) (I.ok.hd hc) pl.isList (λi v hv=>?_) (by simp [hlen]) (by unfold scanBound;omega) λh' tk hset hk=>?_
 ·have hi:i<ts.length:=by
   have:=(Array.getElem?_eq_some_iff.mp hv).1;simp [hlen] at this;exact this
  obtain ⟨u,hu,ru⟩:=rv.get (show (ts.map V.str)[i]?=some (.str ts[i]) by rw [List.getElem?_map,List.getElem?_eq_getElem hi];rfl)
  have:its[i]?=some v:=by simpa using hv
  rw [this] at hu;cases hu;obtain ⟨t,rfl⟩:=ru;exact ⟨ts[i],t,List.getElem?_eq_getElem hi,rfl⟩
 ·have k:∀ b o,s.heap.get? b=some o->h'.get? b=some o:=λb o e=>hk b o (Heap.lt_size e) e
  refine ⟨.ref s.heap.objs.size,_,I.laid (t':=tk) (o:=SetS X.prog X.w s.heap.objs.size ts) k (Nat.le_refl _) ?_,rfl,q _ (I.hok.fresh (Nat.le_refl _))⟩;refine ⟨hset,?_,λh1 h2 hs1 kk=>?_⟩
  ·obtain ⟨o,_,_,_,ho,_⟩:=hset
   exact ⟨o,ho⟩
  ·obtain ⟨o,es,ep,t,ho,rest⟩:=hs1
   exact ⟨o,es,ep,t,kk o ho,rest⟩
theorem ql8:x9 X (.builtin "len") (λxs H Q=>∃ a, ∃ ts:List Str,xs=[.ref a]/\H a=some (SetS X.prog X.w a ts)/\Q (.int ((metK ts).length:Nat)) H):=by
 intro pins s σ H xs us Q I r h;obtain ⟨a,ts,rfl,ha,q⟩:=h;obtain ⟨u,rfl,ru⟩:=vals1 r;cases ru;obtain ⟨hset,_⟩:=(show xg X.prog X.w H s.heap a (SetS X.prog X.w a ts) from I.hok a _ ha)
 obtain ⟨o,es,ep,t,ho,hex,hd,_,_,hsz,hf,hn⟩:=hset;refine call_len_set ho hex hd hf (by unfold scanBound at hsz;omega) ⟨.int ((metK ts).length:Nat),H,I.tok _,⟨_,by rw [hn]⟩,q⟩
theorem ud:Passes (CX1 X.prog X.w) X (λ_ _ _=>False):=by
 intro pins σ H s e s' I hx;obtain ⟨a,C,H',B,_,_,q⟩:=hx;exact q.elim
end
structure Base (K:W.Frag) (C:Addr) (m:Str) (f:Addr):Prop where
 sp:W.specialIn K (.ref C) "__getattribute__" = some (some (.builtin "type.__getattribute__"))
 rd:W.readsIn K C (.type "type")=true
 fc:W.findCls K (.ref C) (.type "type") m=some (.val (.ref f))
 kp:W.keepIn K (.ref f)=true
section
variable {X:Cx} {CX:CXT} {k:Nat} {f C:Addr} {fd:FuncData} {ps:List Str} {sp:Sp} {dvs:List V} {ds:List Value} {E:XK} {x m:Str} {p pos apos:Pos} {e o:Expr} {es:List Expr} {ta:TE} {t:TA}
theorem ph {pl:Sem Bool} (hg:Gl X x) (hm:X.mg x=some (.ref C)) (b:Base X.K C m f) (F:FnOk X.prog X.w X.K X.mg X.base CX k f fd ps sp) (hr:Room k X.A) (hb:Binds X.K fd ps ds) (hd:Vals dvs ds) (hx:Passes CX X E) (ha:PA X (e::es) t)
  (hdb:(x == ("__debug__" : Str))=false:=by decide)
  (hst:starEach (e::es) X.env=(false,eval e X.env)::starEach es X.env:=by rfl) (hpl:(backTo pos (starEach es X.env)).any (·.1)=false:=by rfl)
  (ht:eval (.Call (.Attribute (.Name x p) m apos) (e::es) [] pos) X.env=(do
   let ov <- eval (.Name x p) X.env
   standAt apos.atName
   let (f,first) <- holding [ov] (getMethod ov m pl)
   callWith pos f first (backTo pos (starEach (e::es) X.env)) (backToKw pos (keywordEach [] X.env))):=by rfl) :
  PE X (.Call (.Attribute (.Name x p) m apos) (e::es) [] pos) (i8 sp dvs E t):=by
 intro pins s σ H Q I h;have he:PE X (.Name x p) (λσ H Q=>Q (.ref C) H):=uw (v:=.ref C) hg hm rfl hdb
 refine W.methodCall_KW (pl:=pl) (thn (he pins s σ H (λy H' => y=.ref C/\H'=H) I ⟨rfl,rfl⟩) λu s1 ⟨y,H1,I1,ry,z1,z2⟩=>?_) ht
 subst z1 z2;obtain rfl:u=Value.ref C:=ry;refine W.method_cls I1.kIn b.sp (W.cls_value I1.kIn b.rd b.fc rfl ?_);have I2:=I1.tok (s1.toks+1);refine W.callWith_K (first:=[]) (h₀:=X.base) I.ok.mod.kin b.kp (thn (ha pos pins _ σ H1 _ I2 h) λus s2 ⟨vs,H2,I3,r,q2⟩=>⟨I3.kIn,?_⟩) hst hpl
 exact cm F hr hb hd hx I3 r q2
end
section
variable {X:Cx} {pins:List (Addr×Obj)} {σ:St} {H:Hp} {s:Shared} {l b:Addr} {xs ys zs:List V}
theorem Inv.lstR (I:Inv X pins σ H s) (hH:Rd H l (.lst xs)):xs.length<=sizeLine/\∃ (its:List Value) (n:Nat),Vals xs its/\xs.length=its.length/\s.heap.get? l=some {cls:=.type "list",data:=.seq its.toArray n}:=by
 obtain ⟨z,its,n,r,e⟩:=hH.ok I.hok;exact ⟨z,its,n,r,r.length,e⟩
def rCatR:R2:=λx y H Q=>∃ l b xs zs,x=.ref l/\y=.ref b/\Rd H l (.lst xs)/\Rd H b (.lst zs)/\xs.length+zs.length<=sizeLine/\∀ p,H p=none->Q (.ref p) (upd H p (.lst (xs++zs)))
theorem pj:OpR X (binaryOp .Add) rCatR:=by
 intro pins s σ H x y v u Q I rx ry h;obtain ⟨l,b,xs,zs,rfl,rfl,hH,hB,hz,q⟩:=h;cases rx;cases ry;obtain ⟨z,its,n,r,hl,e⟩:=I.lstR hH;obtain ⟨z2,its2,n2,r2,hl2,e2⟩:=I.lstR hB;refine PySem.P.add_list e e2 ?_ (by rw [List.size_toArray,List.size_toArray];omega)
 have ea:its.toArray++its2.toArray=(its++its2).toArray:=by simp
 rw [ea];exact ⟨.ref _,_,I.lnew (t':=s.toks) (r.append r2) (by rw [List.length_append];omega),rfl,q _ I.fresh⟩
end
inductive TyZ (K:W.Frag) (H:Hp):V->Value->Prop where
 | of {x:V} {t:Value} (h:TyOf K H x t):TyZ K H x t
 | tup {a:Addr} {xs:List V} (h:SqT K H a xs):TyZ K H (.ref a) (.type "tuple")
 | lst {a:Addr} {xs:List V} (h:Rd H a (.lst xs)):TyZ K H (.ref a) (.type "list")
 | dK {a:Addr} {kvs:List (Key×V)} (h:Rd H a (.dK kvs)):TyZ K H (.ref a) (.type "dict")
section
variable {X:Cx}
theorem TyZ.kit {pins:List (Addr×Obj)} {σ:St} {H:Hp} {s:Shared} {x:V} {u t:Value} (I:Inv X pins σ H s) (rx:RelV x u) (ty:TyZ X.K H x t):∃ HH,W.KitX X.K u t HH/\HH s.heap/\u≠.builtin "__main__.__loader__#opaque":=by
 cases ty with
 | of h=>exact h.kit I rx
 | @tup a xs h =>
  cases (show u=Value.ref a from rx)
  obtain ⟨its,r,p,hz⟩:=I.tuple h;obtain ⟨o,h1,h2,_⟩:=p;exact ⟨_,W.kitx_tuple,⟨o,h1,h2⟩,λz=>nomatch z⟩
 | @lst a xs h =>
  cases (show u=Value.ref a from rx)
  obtain ⟨_,_,n,_,h1⟩:=h.ok I.hok;exact ⟨_,W.kitx_list,⟨_,h1,rfl⟩,λz=>nomatch z⟩
 | @dK a kvs h =>
  cases (show u=Value.ref a from rx)
  obtain ⟨_,_,vs,_,p⟩:=h.ok I.hok;obtain ⟨o,es,ep,h1,h2,_⟩:=p;exact ⟨_,W.kitx_dict,⟨o,h1,h2.1⟩,λz=>nomatch z⟩
def rIsi (K:W.Frag):List V->Hp->VK->Prop:=λxs H Q=>∃ x n t b,xs=[x, .ty n]/\TyZ K H x t/\W.kitOne K t (.type n)=some b/\Q (.bl b) H
theorem gm:x9 X (.builtin "isinstance") (rIsi X.K):=by
 intro pins s σ H xs us Q I r h;obtain ⟨x,n,t,b,rfl,ty,e,q⟩:=h;obtain ⟨u,w',rfl,ru,rw'⟩:=vals2 r;cases rw';obtain ⟨HH,Z,hh,hne⟩:=ty.kit I ru;exact W.kia_one Z I.kIn hh e hne λtk=>⟨.bl b,H,I.tok tk,rfl,q⟩
def rIsiT (K:W.Frag):List V->Hp->VK->Prop:=λxs H Q=>∃ x p, ∃ ns:List String, ∃ t b,xs=[x, .ref p]/\H p=some (.tup (ns.map V.ty))/\TyZ K H x t/\W.kitAny K t (ns.map Value.type)=some b/\Q (.bl b) H
theorem qia:x9 X (.builtin "isinstance") (rIsiT X.K):=by
 intro pins s σ H xs us Q I r h;obtain ⟨x,p,ns,t,b,rfl,hp,ty,e,q⟩:=h;obtain ⟨u,w',rfl,ru,rw'⟩:=vals2 r;cases rw';obtain ⟨HH,Z,hh,hne⟩:=ty.kit I ru;obtain ⟨_,its,rv,o,h1,h2,n,h3⟩:=(show xg X.prog X.w H s.heap p (.tup (ns.map V.ty)) from I.hok p _ hp)
 have ei:its=ns.map Value.type:=qh7 rv;obtain ⟨oc,od,odt,osl⟩:=o;cases h2;cases h3;subst ei;exact W.kia_tup Z I.kIn hh h1 e hne λtk=>⟨.bl b,H,I.tok tk,rfl,q⟩
def rLen (K:W.Frag):List V->Hp->VK->Prop:=λxs H Q=>(∃ p ys,xs=[.ref p]/\(SqL K H p ys\/SqT K H p ys)/\Q (.int ys.length) H)\/∃ z,xs=[.str z]/\z.length<=sizeLine/\Q (.int z.length) H
theorem gn:x9 X (.builtin "len") (rLen X.K):=x9.or qfk qf5
def fh (K:W.Frag):List V->Hp->VK->Prop:=λxs H Q=>∃ p ys,xs=[.ref p]/\(SqL K H p ys\/SqT K H p ys)/\∀ l,H l=none->Q (.ref l) (upd H l (.lst ys))
theorem fi:x9 X (.type "list") (fh X.K):=qfh
def qfe (K:W.Frag):List V->Hp->VK->Prop:=λxs H Q=>∃ p ys,xs=[.ref p]/\((SqL K H p ys/\∀ l,H l=none->Q (.ref l) (upd H l (.tup ys)))\/(SqT K H p ys/\Q (.ref p) H))
theorem ef:x9 X (.type "tuple") (qfe X.K):=qeb
def rAll (K:W.Frag):List V->Hp->VK->Prop:=λxs H Q=>∃ p, ∃ bs:List Bool,xs=[.ref p]/\SqL K H p (bs.map V.bl)/\Q (.bl (bs.all id)) H
theorem qe4 (hc:X.calm=true):x9 X (.builtin "all") (rAll X.K):=qm5 hc
def rSum (K:W.Frag):List V->Hp->VK->Prop:=λxs H Q=>∃ p, ∃ ns:List Int,xs=[.ref p]/\SqL K H p (ns.map V.int)/\(∀ n∈ns, -(2 ^ 32)<=n/\n<=2 ^ 32)/\ns.length<=100000/\Q (.int ns.sum) H
theorem el (hc:X.calm=true):x9 X (.builtin "sum") (rSum X.K):=qlm hc
def rMin2:List V->Hp->VK->Prop:=λxs H Q=>∃ i j,xs=[.int i, .int j]/\Q (.int (if j<i then j else i)) H
theorem qhz (hc:X.calm=true):x9 X (.builtin "min") rMin2:=qjd hc
def rInt1:List V->Hp->VK->Prop:=λxs H Q=>(∃ i,xs=[.int i]/\Q (.int i) H)\/∃ k,xs=[.bl k]/\Q (.int (if k then 1 else 0)) H
theorem eo:x9 X (.type "int") rInt1:=qj0
def rStrI:List V->Hp->VK->Prop:=λxs H Q=>∃ i,xs=[.int i]/\i.natAbs.log2<1920/\Q (.str (toString i)) H
theorem z4:x9 X (.type "str") rStrI:=qg0
end
section
variable {X:Cx} {K:PySem.W.Frag}
theorem qge (h:X.K=K):x9 X (.type "list") (fh K):=h ▸ fi
end
section
variable {X:Cx} {K:PySem.W.Frag} {tg:Expr}
theorem ng:SlR X (rSlL X.K):=qp5
theorem nh:OpR X (compareOp .In) (rIn X.K false):=qk6
theorem qec:OpR X (compareOp .NotIn) (rIn X.K true):=qg6
theorem qko (h:X.K=K):OpR X (binaryOp .Add) (ie K):=h ▸ qoz
theorem fj {e:Expr} {f:Str} {ta:TE} {pos:Pos} (h:X.K=K) (he:PE X e ta) (hb:attributeBase e f X.env (eval e X.env)=eval e X.env):PE X (.Attribute e f pos) (tFld K ta f):=h ▸ jj he hb
end
section
variable {X:Cx} {K:PySem.W.Frag}
theorem qe9 (bs:List Bool):((List.range bs.length).any λi=>bs.getD i false)=bs.any id:=by
 rw [Bool.eq_iff_iff,List.any_eq_true,List.any_eq_true]
 constructor
 ·rintro ⟨i,hi,h⟩
  have hlt:=List.mem_range.mp hi;rw [List.getD_eq_getElem?_getD,List.getElem?_eq_getElem hlt] at h;exact ⟨_,List.getElem_mem hlt,h⟩
 ·rintro ⟨x,hx,h⟩
  obtain ⟨i,hi⟩:=List.getElem?_of_mem hx;have hlt:=(List.getElem?_eq_some_iff.mp hi).1;exact ⟨i,List.mem_range.mpr hlt,by rw [List.getD_eq_getElem?_getD,hi];exact h⟩
def rAny (K:W.Frag):List V->Hp->VK->Prop:=λxs H Q=>∃ p, ∃ bs:List Bool,xs=[.ref p]/\SqL K H p (bs.map V.bl)/\Q (.bl (bs.any id)) H
theorem qe0 (hc:X.calm=true):x9 X (.builtin "any") (rAny X.K):=by
 intro pins s σ H xs us Q I r h;obtain ⟨p,bs,rfl,hq,q⟩:=h;obtain ⟨u,rfl,ru⟩:=vals1 r;cases ru;obtain ⟨its,rv,pl,hz⟩:=I.list hq;have hlen:bs.length=its.length:=by have:=rv.length;simpa using this
 have hv:∀ (i:Nat) v,its[i]?=some v->v=.bool (bs.getD i false):=λi v hi=>by
  have hib:i<bs.length:=by rw [hlen];exact (List.getElem?_eq_some_iff.mp hi).1
  have hb:(bs.map V.bl)[i]?=some (.bl (bs.getD i false)):=by
   rw [List.getElem?_map,List.getElem?_eq_getElem hib,List.getD_eq_getElem?_getD,List.getElem?_eq_getElem hib];rfl
  obtain ⟨u,hu,ru⟩:=rv.get hb;rw [hi] at hu;cases hu;exact ru
 have hne:p≠s.heap.objs.size:=Nat.ne_of_lt (by obtain ⟨o,n,e,_⟩:=pl;exact Heap.lt_size e)
 refine call_any_walk ?_;refine wpAny_pyIter_list pl.isList ?_;refine ⟨s.heap.objs.size,_,_,its.toArray.size,_,_,λi=>bs.getD i false,rfl,Walks.list (A:=X.A.in1) (I.ok.hd hc) s.heap.objs.size p hne its.toArray,⟨⟨_,Heap.get?_push_size _ rfl,rfl,rfl⟩,?_⟩,?_,?_⟩
 ·exact pl.isList.at λo e=>Heap.get?_push_of_some _ e
 ·intro i v s' Q' E' hP hQ'
  have hP:its.toArray[i]?=some v:=hP;rw [hv i v (by simpa using hP)]
  exact wpAny_truthy_bool hQ'
 ·intro h' tk kk
  rw [List.size_toArray, <- hlen,qe9];refine ⟨.bl _,H,I.kept λb o e=>kk b o ?_ (Heap.get?_push_of_some _ e),rfl,q⟩
  intro z;have z:b=s.heap.objs.size:=by simpa using z
  exact absurd (z ▸ Heap.lt_size e) (Nat.lt_irrefl _)
end
end L2
namespace Z
open PySem L2
inductive AV where
 | non | bl (b:Bool) | int (i:Int) | str (x:Str)
 | tup (xs:List AV) | lst (xs:List AV) | dk (ks:List Key) (xs:List AV) | ref (k:Nat)
 | kst (xs:List AV)
 | xc (c:Nat)
inductive Cell where
 | dead | lst (xs:List AV) | dk (ks:List Key) (xs:List AV) | ins (c:Nat) (fs:List (Nat×AV))
abbrev AEnv:=List (Option AV)
abbrev AH:=List Cell
inductive Re (α:Type) where
 | ok (x:α) (h:AH) | ex (c:Nat) (h:AH) | no
def Re.bind {α β:Type} (r:Re α) (f:α->AH->Re β):Re β:=match r with | .ok x h=>f x h | .ex c h=>.ex c h | .no=>.no
@[simp] theorem Re.q3y {α β:Type} (x:α) (h:AH) (f:α->AH->Re β):(Re.ok x h).bind f=f x h:=rfl
@[simp] theorem Re.bind_ex {α β:Type} (c:Nat) (h:AH) (f:α->AH->Re β):(Re.ex c h:Re α).bind f=.ex c h:=rfl
@[simp] theorem Re.bind_no {α β:Type} (f:α->AH->Re β):(Re.no:Re α).bind f=.no:=rfl
structure Ct where
 K:W.Frag
 cl:Nat->Addr
 fn:Nat->Str
 fl:Nat->List Nat
 inj:∀ c i j,i∈fl c->j∈fl c->fn i=fn j->i=j
 fld:∀ c i,i∈fl c->Cls K (cl c)/\zx K (cl c) (fn i)
 fg:Nat->List Nat
 pin:Option (Addr×Addr):=none
structure Wd where
 ρ:List Addr
 Fz:Addr->Prop
 h:AH
 H:Hp
mutual
def Tr (C:Ct) (w:Wd):AV->V->Prop
 | .non,v=>v=.non
 | .bl b,v=>v=.bl b
 | .int i,v=>v=.int i
 | .str x,v=>v=.str x
 | .tup xs,v=>∃ a vs,v=.ref a/\SqT C.K w.H a vs/\Trs C w xs vs
 | .lst xs,v=>∃ a vs,v=.ref a/\w.Fz a/\Rd w.H a (.lst vs)/\Trs C w xs vs
 | .dk ks xs,v=>∃ a kvs,v=.ref a/\w.Fz a/\Rd w.H a (.dK kvs)/\kvs.map (·.1)=ks/\Trs C w xs (kvs.map (·.2))
 | .ref k,v=>∃ a,v=.ref a/\w.ρ[k]?=some a
 | .kst xs,v=>∃ a vs,v=.ref a/\((w.Fz a/\Rd w.H a (.lst vs))\/SqL C.K (λ_=>none) a vs)/\Trs C w xs vs
 | .xc c,v=>∃ a,v=.ref a/\C.pin=some (a,C.cl c)
def Trs (C:Ct) (w:Wd):List AV->List V->Prop
 | [],vs=>vs=[]
 | x::xs,vs=>∃ v us,vs=v::us/\Tr C w x v/\Trs C w xs us
end
def Flds (C:Ct) (w:Wd):List (Nat×AV)->List (Str×V)->Prop
 | [],fs=>fs=[]
 | p::r,fs=>∃ v us,fs=(C.fn p.1,v)::us/\Tr C w p.2 v/\Flds C w r us
def ra (C:Ct) (w:Wd):Cell->Addr->Prop
 | .dead,_=>True
 | .lst xs,a=>∃ vs,w.H a=some (.lst vs)/\Trs C w xs vs
 | .dk ks xs,a=>∃ kvs,w.H a=some (.dK kvs)/\kvs.map (·.1)=ks/\Trs C w xs (kvs.map (·.2))
 | .ins c fs,a=>((∀ p∈fs,p.1∈C.fl c)/\C.fl c=C.fg c)/\∃ dx fvs,w.H a=some (.ins (C.cl c) dx fvs)/\Flds C w fs fvs
def Live (w:Wd) (a:Addr):Prop:=∃ (k:Nat) (c:Cell),w.h[k]?=some c/\c≠.dead/\w.ρ[k]?=some a
structure Ok (C:Ct) (w:Wd):Prop where
 len:w.ρ.length=w.h.length
 nd:w.ρ.Nodup
 th:∀ a∈w.ρ,w.H a≠none
 cell:∀ (k:Nat) c a,w.h[k]?=some c->w.ρ[k]?=some a->ra C w c a
 fz:∀ a,Live w a->¬ w.Fz a
 fzt:∀ a,w.Fz a->w.H a≠none
 pn:∀ a c,C.pin=some (a,c)->w.H a=some (excO a c)
def Kept (f:Prop) (o:HO) (r:Option HO):Prop:=r=some o\/(f/\∃ ob kvs,o=.dK kvs/\r=some (.frz ob o))
structure Le (w w':Wd):Prop where
 pre:∃ t,w'.ρ=w.ρ++t
 fz:∀ a,w.Fz a->w'.Fz a
 ks:∀ b, ¬ Live w b->∀ o,w.H b=some o->Kept (w'.Fz b) o (w'.H b)
 fn:∀ a,w'.Fz a->w.Fz a\/w.H a=none\/Live w a
 nw:∀ a,Live w' a->w.H a=none\/Live w a
 nn:∀ a,w.H a≠none->w'.H a≠none
 rn:∀ a,a∈w'.ρ->a∈w.ρ\/w.H a=none
theorem Rd.ne {H:Hp} {a:Addr} {u:HO} (r:Rd H a u):H a≠none:=by
 rcases r with r | ⟨o,r⟩ <;> rw [r] <;> intro z <;> cases z
theorem Le.kp {w w':Wd} (le:Le w w') (b:Addr) (hb:¬ Live w b) (u:HO) (r:Rd w.H b u):Rd w'.H b u:=by
 rcases r with r | ⟨o,r⟩
 ·rcases le.ks b hb _ r with q | ⟨_,ob,kvs,rfl,q⟩
  ·exact .inl q
  ·exact .inr ⟨ob,q⟩
 ·rcases le.ks b hb _ r with q | ⟨_,ob,kvs,e,q⟩
  ·exact .inr ⟨o,q⟩
  ·cases e
theorem Le.refl (w:Wd):Le w w:=⟨⟨[],by simp⟩,λ_ h=>h,λ_ _ _ h=>.inl h,λ_ h=>.inl h,λ_ h=>.inr h,λ_ h=>h,λ_ h=>.inl h⟩
theorem Le.trans {w w' w'':Wd} (a:Le w w') (b:Le w' w''):Le w w'':=by
 have hl:∀ x,Live w' x->w.H x=none\/Live w x:=a.nw;have hn:∀ x,w'.H x=none->w.H x=none:=λx z=>by
  cases e:w.H x with
  | none=>rfl
  | some o=>exact absurd z (a.nn x (by rw [e];intro q;cases q))
 refine ⟨?_,λx h=>b.fz x (a.fz x h),λx hx o r=>?_,λx h=>?_,λx hx=>?_,λx h=>b.nn x (a.nn x h),λx h=>?_⟩
 ·obtain ⟨t,e⟩:=a.pre
  obtain ⟨t',e'⟩:=b.pre;exact ⟨t++t',by rw [e',e,List.append_assoc]⟩
 ·have hx':¬ Live w' x:=λz=>by
   rcases hl x z with z | z
   ·rw [r] at z;cases z
   ·exact hx z
  rcases a.ks x hx o r with q | ⟨f,ob,kvs,e,q⟩
  ·exact b.ks x hx' o q
  ·rcases b.ks x hx' _ q with q' | ⟨_,ob',kvs',e',q'⟩
   ·exact .inr ⟨b.fz x f,ob,kvs,e,q'⟩
   ·cases e'
 ·rcases b.fn x h with z | z | z
  ·exact a.fn x z
  ·exact .inr (.inl (hn x z))
  ·rcases hl x z with z | z
   ·exact .inr (.inl z)
   ·exact .inr (.inr z)
 ·rcases b.nw x hx with z | z
  ·exact .inl (hn x z)
  ·exact hl x z
 ·rcases b.rn x h with z | z
  ·exact a.rn x z
  ·exact .inr (hn x z)
section
variable {C:Ct} {w w':Wd}
theorem Ok.notup (ok:Ok C w) {a:Addr} (hl:Live w a) {vs:List V}:¬ Rd w.H a (.tup vs):=by
 obtain ⟨k,c,e1,e2,e3⟩:=hl;have:=ok.cell k c a e1 e3;intro r;cases c with
 | dead=>exact e2 rfl
 | lst xs=>obtain ⟨vs',e,_⟩:=this;rcases r with r | ⟨o,r⟩ <;> rw [e] at r <;> cases r
 | dk ks xs=>obtain ⟨kvs,e,_⟩:=this;rcases r with r | ⟨o,r⟩ <;> rw [e] at r <;> cases r
 | ins cc fs=>obtain ⟨_,dx,fvs,e,_⟩:=this;rcases r with r | ⟨o,r⟩ <;> rw [e] at r <;> cases r
theorem Ok.sqT (ok:Ok C w) (le:Le w w') {a:Addr} {vs:List V} (h:SqT C.K w.H a vs):SqT C.K w'.H a vs:=by
 rcases h with h | h
 ·exact .inl (le.kp a (λhl=>ok.notup hl h) _ h)
 ·exact .inr h
mutual
theorem Tr.mono (ok:Ok C w) (le:Le w w'):∀ {x:AV} {v:V},Tr C w x v->Tr C w' x v
 | .non,v,h=>by rw [Tr] at h ⊢;exact h
 | .bl _,v,h=>by rw [Tr] at h ⊢;exact h
 | .int _,v,h=>by rw [Tr] at h ⊢;exact h
 | .str _,v,h=>by rw [Tr] at h ⊢;exact h
 | .tup xs,v,h=>by
  rw [Tr] at h ⊢;obtain ⟨a,vs,e,hs,ht⟩:=h;exact ⟨a,vs,e,ok.sqT le hs,Trs.mono ok le ht⟩
 | .lst xs,v,h=>by
  rw [Tr] at h ⊢;obtain ⟨a,vs,e,f,r,ht⟩:=h;exact ⟨a,vs,e,le.fz a f,le.kp a (λhl=>ok.fz a hl f) _ r,Trs.mono ok le ht⟩
 | .dk ks xs,v,h=>by
  rw [Tr] at h ⊢;obtain ⟨a,kvs,e,f,r,hk,ht⟩:=h;exact ⟨a,kvs,e,le.fz a f,le.kp a (λhl=>ok.fz a hl f) _ r,hk,Trs.mono ok le ht⟩
 | .ref k,v,h=>by
  rw [Tr] at h ⊢;obtain ⟨a,e,hk⟩:=h;obtain ⟨t,et⟩:=le.pre;refine ⟨a,e,?_⟩;rw [et,List.getElem?_append_left (List.getElem?_eq_some_iff.mp hk).1];exact hk
 | .kst xs,v,h=>by
  rw [Tr] at h ⊢;obtain ⟨a,vs,e,hs,ht⟩:=h;refine ⟨a,vs,e,?_,Trs.mono ok le ht⟩;rcases hs with ⟨f,r⟩ | r
  ·exact .inl ⟨le.fz a f,le.kp a (λhl=>ok.fz a hl f) _ r⟩
  ·exact .inr r
 | .xc c,v,h=>by rw [Tr] at h ⊢;exact h
theorem Trs.mono (ok:Ok C w) (le:Le w w'):∀ {xs:List AV} {vs:List V},Trs C w xs vs->Trs C w' xs vs
 | [],vs,h=>by rw [Trs] at h ⊢;exact h
 | x::xs,vs,h=>by
  rw [Trs] at h ⊢;obtain ⟨v,us,e,h1,h2⟩:=h;exact ⟨v,us,e,Tr.mono ok le h1,Trs.mono ok le h2⟩
end
theorem Flds.mono (ok:Ok C w) (le:Le w w'):∀ {xs:List (Nat×AV)} {vs:List (Str×V)},Flds C w xs vs->Flds C w' xs vs
 | [],vs,h=>h
 | x::xs,vs,h=>by
  obtain ⟨v,us,e,h1,h2⟩:=h;exact ⟨v,us,e,Tr.mono ok le h1,Flds.mono ok le h2⟩
theorem Trs.nil:Trs C w [] []:=by rw [Trs]
theorem Trs.cons {x:AV} {v:V} {xs:List AV} {vs:List V} (a:Tr C w x v) (b:Trs C w xs vs):Trs C w (x::xs) (v::vs):=by rw [Trs];exact ⟨v,vs,rfl,a,b⟩
theorem Trs.len:∀ {xs:List AV} {vs:List V},Trs C w xs vs->xs.length=vs.length
 | [],vs,h=>by rw [Trs] at h;rw [h];rfl
 | x::xs,vs,h=>by
  rw [Trs] at h;obtain ⟨v,us,e,h1,h2⟩:=h;rw [e,List.length_cons,List.length_cons,Trs.len h2]
theorem Trs.get:∀ {xs:List AV} {vs:List V} {i:Nat} {x:AV},Trs C w xs vs->xs[i]?=some x->∃ v,vs[i]?=some v/\Tr C w x v
 | [],vs,i,x,h,e=>by simp at e
 | y::xs,vs,0,x,h,e=>by
  rw [Trs] at h;obtain ⟨v,us,e',h1,h2⟩:=h;simp at e;subst e;subst e';exact ⟨v,rfl,h1⟩
 | y::xs,vs,i+1,x,h,e=>by
  rw [Trs] at h;obtain ⟨v,us,e',h1,h2⟩:=h;subst e';obtain ⟨v',q,t⟩:=Trs.get (i:=i) h2 (by simpa using e)
  exact ⟨v',by simpa using q,t⟩
theorem Trs.app:∀ {xs ys:List AV} {vs us:List V},Trs C w xs vs->Trs C w ys us->Trs C w (xs++ys) (vs++us)
 | [],ys,vs,us,h,g=>by rw [Trs] at h;subst h;exact g
 | x::xs,ys,vs,us,h,g=>by
  rw [Trs] at h;obtain ⟨v,us',e,h1,h2⟩:=h;subst e;exact .cons h1 (Trs.app h2 g)
theorem Trs.one {x:AV} {v:V} (h:Tr C w x v):Trs C w [x] [v]:=.cons h .nil
theorem Trs.take (n:Nat):∀ {xs:List AV} {vs:List V},Trs C w xs vs->Trs C w (xs.take n) (vs.take n):=λ{xs vs} h=>by
 induction n generalizing xs vs with
 | zero=>simp only [List.take_zero];exact .nil
 | succ n ih =>
  cases xs with
  | nil=>rw [Trs] at h;subst h;simp only [List.take_nil];exact .nil
  | cons x xs =>
   rw [Trs] at h;obtain ⟨v,us,e,h1,h2⟩:=h;subst e;exact .cons h1 (ih h2)
theorem Trs.drop (n:Nat):∀ {xs:List AV} {vs:List V},Trs C w xs vs->Trs C w (xs.drop n) (vs.drop n):=λ{xs vs} h=>by
 induction n generalizing xs vs with
 | zero=>exact h
 | succ n ih =>
  cases xs with
  | nil=>rw [Trs] at h;subst h;simp only [List.drop_nil];exact .nil
  | cons x xs =>
   rw [Trs] at h;obtain ⟨v,us,e,h1,h2⟩:=h;subst e;exact ih h2
theorem Trs.set {x:AV} {v:V} (t:Tr C w x v):∀ {xs:List AV} {vs:List V} (i:Nat),Trs C w xs vs->Trs C w (xs.set i x) (vs.set i v)
 | [],vs,i,h=>by rw [Trs] at h;subst h;exact .nil
 | y::xs,vs,0,h=>by
  rw [Trs] at h;obtain ⟨u,us,e,h1,h2⟩:=h;subst e;exact .cons t h2
 | y::xs,vs,i+1,h=>by
  rw [Trs] at h;obtain ⟨u,us,e,h1,h2⟩:=h;subst e;exact .cons h1 (Trs.set t i h2)
structure yj (C:Ct) (w:Wd) (env:AEnv) (σ:St):Prop where
 len:env.length=σ.length
 at_:∀ (i:Nat) x,env[i]?=some (some x)->∃ v, σ[i]?=some (some v)/\Tr C w x v
theorem yj.mono {env:AEnv} {σ:St} (e:yj C w env σ) (ok:Ok C w) (le:Le w w'):yj C w' env σ:=
 ⟨e.len,λi x h=>let ⟨v,q,t⟩:=e.at_ i x h;⟨v,q,t.mono ok le⟩⟩
theorem yj.set {env:AEnv} {σ:St} {x:AV} {v:V} (e:yj C w env σ) (i:Nat) (t:Tr C w x v):yj C w (env.set i (some x)) (σ.set i (some v)):=by
 refine ⟨by rw [List.length_set,List.length_set];exact e.len,λj y h=>?_⟩
 by_cases hj:i=j
 ·subst hj
  by_cases hi:i<env.length
  ·rw [List.getElem?_set_self hi] at h
   cases h;exact ⟨v,by rw [List.getElem?_set_self (by rw [<- e.len];exact hi)],t⟩
  ·rw [List.getElem?_eq_none (by rw [List.length_set];omega)] at h;cases h
 ·rw [List.getElem?_set_ne hj] at h
  obtain ⟨u,q,t'⟩:=e.at_ j y h;exact ⟨u,by rw [List.getElem?_set_ne hj];exact q,t'⟩
theorem yj.unset {env:AEnv} {σ:St} {o:Option V} (e:yj C w env σ) (i:Nat):yj C w (env.set i none) (σ.set i o):=by
 refine ⟨by rw [List.length_set,List.length_set];exact e.len,λj y h=>?_⟩
 by_cases hj:i=j
 ·subst hj
  by_cases hi:i<env.length
  ·rw [List.getElem?_set_self hi] at h
   cases h
  ·rw [List.getElem?_eq_none (by rw [List.length_set];omega)] at h;cases h
 ·rw [List.getElem?_set_ne hj] at h
  obtain ⟨u,q,t'⟩:=e.at_ j y h;exact ⟨u,by rw [List.getElem?_set_ne hj];exact q,t'⟩
end
section
variable {C:Ct} {w:Wd}
theorem eu {α:Type}:∀ {l:List α} {i j:Nat} {x:α},l.Nodup->l[i]?=some x->l[j]?=some x->i=j
 | [],i,j,x,_,h,_=>by simp at h
 | y::l,0,0,x,_,_,_=>rfl
 | y::l,0,j+1,x,n,h,g=>by
  have e:y=x:=by simpa using h
  subst e;exact absurd (List.mem_of_getElem? (show l[j]?=some y by simpa using g)) (List.nodup_cons.mp n).1
 | y::l,i+1,0,x,n,h,g=>by
  have e:y=x:=by simpa using g
  subst e;exact absurd (List.mem_of_getElem? (show l[i]?=some y by simpa using h)) (List.nodup_cons.mp n).1
 | y::l,i+1,j+1,x,n,h,g=>by
  rw [eu (List.nodup_cons.mp n).2 (show l[i]?=some x by simpa using h) (show l[j]?=some x by simpa using g)]
theorem Ok.qil (ok:Ok C w) {a:Addr} (hl:Live w a):a∈w.ρ:=by
 obtain ⟨k,c,e1,e2,e3⟩:=hl;exact List.mem_of_getElem? e3
theorem rb {H:Hp} {a p:Addr} {o u:HO} (hp:H p=none) (h:H a=some o):upd H p u a=some o:=by
 rw [yk (mw h hp)];exact h
theorem uo {H:Hp} {a p:Addr} {u:HO} (h:H a≠none):upd H p u a≠none:=by
 unfold upd;split
 ·intro z;cases z
 ·exact h
theorem ra.mono {w':Wd} (ok:Ok C w) (le:Le w w') {c:Cell} {a:Addr} (hH:w'.H a=w.H a) (h:ra C w c a):ra C w' c a:=by
 cases c with
 | dead=>trivial
 | lst xs=>obtain ⟨vs,e,t⟩:=h;exact ⟨vs,hH.trans e,t.mono ok le⟩
 | dk ks xs=>obtain ⟨kvs,e,hk,t⟩:=h;exact ⟨kvs,hH.trans e,hk,t.mono ok le⟩
 | ins cc fs=>obtain ⟨hf,dx,fvs,e,t⟩:=h;exact ⟨hf,dx,fvs,hH.trans e,t.mono ok le⟩
theorem Ok.pinne (ok:Ok C w) {a b c:Addr} (hl:Live w a) (h:C.pin=some (b,c)):b≠a:=by
 obtain ⟨k,cc,e1,e2,e3⟩:=hl;have hc:=ok.cell k cc a e1 e3;have hp:=ok.pn b c h;intro z;subst z;cases cc with
 | dead=>exact e2 rfl
 | lst xs=>obtain ⟨vs,e,_⟩:=hc;rw [hp] at e;cases e
 | dk ks xs=>obtain ⟨vs,e,_⟩:=hc;rw [hp] at e;cases e
 | ins c fs=>obtain ⟨_,dx,fvs,e,_⟩:=hc;rw [hp] at e;cases e
def Wd.fresh (w:Wd) (p:Addr) (o:HO):Wd:={w with H:=upd w.H p o}
def Wd.frozen (w:Wd) (p:Addr) (o:HO):Wd:={w with H:=upd w.H p o,Fz:=λa=>a=p\/w.Fz a}
theorem Ok.q55 (ok:Ok C w) {p:Addr} (hp:w.H p=none) (o:HO):Le w (w.fresh p o):=
 ⟨⟨[],by simp [Wd.fresh]⟩,λ_ h=>h,λb _ o r=>.inl (rb hp r),λa h=>.inl h,λa h=>.inr h,λa h=>uo h,λa h=>.inl h⟩
theorem Ok.fresh (ok:Ok C w) {p:Addr} (hp:w.H p=none) (o:HO):Ok C (w.fresh p o):=by
 have le:=ok.q55 hp o;refine ⟨ok.len,ok.nd,λa ha=>uo (ok.th a ha),λk c a e ea=>?_,ok.fz,λa h=>uo (ok.fzt a h),λa c h=>rb hp (ok.pn a c h)⟩
 have hne:a≠p:=λz=>ok.th a (List.mem_of_getElem? ea) (z ▸ hp)
 exact (ok.cell k c a e ea).mono ok le (yk hne)
theorem Ok.q4u (ok:Ok C w) {p:Addr} (hp:w.H p=none) (o:HO):Le w (w.frozen p o):=
 ⟨⟨[],by simp [Wd.frozen]⟩,λ_ h=>.inr h,λb _ o r=>.inl (rb hp r),λa h=>h.elim (λz=>.inr (.inl (z ▸ hp))) .inl,λa h=>.inr h,λa h=>uo h,λa h=>.inl h⟩
theorem Ok.frozen (ok:Ok C w) {p:Addr} (hp:w.H p=none) (o:HO):Ok C (w.frozen p o):=by
 have le:=ok.q4u hp o;refine ⟨ok.len,ok.nd,λa ha=>uo (ok.th a ha),λk c a e ea=>?_,λa hl hz=>?_,λa h=>?_,λa c h=>rb hp (ok.pn a c h)⟩
 ·have hne:a≠p:=λz=>ok.th a (List.mem_of_getElem? ea) (z ▸ hp)
  exact (ok.cell k c a e ea).mono ok le (yk hne)
 ·rcases hz with rfl | hz
  ·exact ok.th a (ok.qil hl) hp
  ·exact ok.fz a hl hz
 ·rcases h with rfl | h
  ·show upd w.H a o a≠none
   rw [vd];intro z;cases z
  ·exact uo (ok.fzt a h)
theorem Ok.qf3 (ok:Ok C w) {p:Addr} {xs:List AV} {vs:List V} (hp:w.H p=none) (t:Trs C w xs vs):Tr C (w.fresh p (.tup vs)) (.tup xs) (.ref p):=by
 rw [Tr];exact ⟨p,vs,rfl,SqT.of vd,t.mono ok (ok.q55 hp _)⟩
theorem Ok.q8p (ok:Ok C w) {p:Addr} {xs:List AV} {vs:List V} (hp:w.H p=none) (t:Trs C w xs vs):Tr C (w.frozen p (.lst vs)) (.lst xs) (.ref p):=by
 rw [Tr];exact ⟨p,vs,rfl, .inl rfl, .inl vd,t.mono ok (ok.q4u hp _)⟩
theorem Ok.newDk (ok:Ok C w) {p:Addr} {ks:List Key} {xs:List AV} {kvs:List (Key×V)} (hp:w.H p=none) (hk:kvs.map (·.1)=ks) (t:Trs C w xs (kvs.map (·.2))):Tr C (w.frozen p (.dK kvs)) (.dk ks xs) (.ref p):=by
 rw [Tr];exact ⟨p,kvs,rfl, .inl rfl, .inl vd,hk,t.mono ok (ok.q4u hp _)⟩
def Wd.cell (w:Wd) (p:Addr) (o:HO) (c:Cell):Wd:={w with H:=upd w.H p o, ρ:=w.ρ++[p],h:=w.h++[c]}
theorem qdl (ok:Ok C w) {p:Addr} {o:HO} {c:Cell} {a:Addr} (h:Live (w.cell p o c) a):a=p\/Live w a:=by
 obtain ⟨k,c',e1,e2,e3⟩:=h;have hl:=ok.len
 by_cases hk:k<w.h.length
 ·exact .inr ⟨k,c',by rw [<- List.getElem?_append_left (l₂:=[c]) hk];exact e1,e2,by rw [<- List.getElem?_append_left (l₂:=[p]) (by omega)];exact e3⟩
 ·have hlt:=(List.getElem?_eq_some_iff.mp e3).1
  have:(w.cell p o c).ρ.length=w.ρ.length+1:=by simp [Wd.cell]
  have hk':k=w.ρ.length:=by omega
  have e3':(w.ρ++[p])[k]?=some a:=e3;rw [hk',List.getElem?_append_right (Nat.le_refl _),Nat.sub_self] at e3';exact .inl (by simpa using e3'.symm)
theorem Ok.q8i (ok:Ok C w) {p:Addr} (hp:w.H p=none) (o:HO) (c:Cell):Le w (w.cell p o c):=by
 refine ⟨⟨[p],rfl⟩,λ_ h=>h,λb _ o r=>.inl (rb hp r),λa h=>.inl h,λa h=>?_,λa h=>uo h,λa h=>?_⟩
 rotate_left
 ·rcases List.mem_append.mp (show a∈w.ρ++[p] from h) with z | z
  ·exact .inl z
  ·exact .inr (by rw [List.mem_singleton.mp z];exact hp)
 rcases qdl ok h with rfl | h
 ·exact .inl hp
 ·exact .inr h
theorem Ok.qda (ok:Ok C w) {p:Addr} (hp:w.H p=none) {o:HO} {c:Cell} (hc:ra C (w.cell p o c) c p):Ok C (w.cell p o c):=by
 have le:=ok.q8i hp o c;have hl:=ok.len;have hnp:p∉w.ρ:=λz=>ok.th p z hp
 refine ⟨by simp [Wd.cell,hl],?_,λa ha=>?_,λk c' a e ea=>?_,λa hlv hz=>?_,λa h=>uo (ok.fzt a h),λa c h=>rb hp (ok.pn a c h)⟩
 ·show (w.ρ++[p]).Nodup
  rw [List.nodup_append];exact ⟨ok.nd,by simp,λa ha b hb=>by simp at hb;subst hb;intro z;subst z;exact hnp ha⟩
 ·show upd w.H p o a≠none
  by_cases ha':a=p
  ·subst ha';rw [vd];intro z;cases z
  ·have:a∈w.ρ:=by
    rcases List.mem_append.mp (show a∈w.ρ++[p] from ha) with z | z
    ·exact z
    ·exact absurd (by simpa using z) ha'
   exact uo (ok.th a this)
 ·by_cases hk:k<w.h.length
  ·have e':w.h[k]?=some c':=by rw [<- List.getElem?_append_left (l₂:=[c]) hk];exact e
   have ea':w.ρ[k]?=some a:=by rw [<- List.getElem?_append_left (l₂:=[p]) (by omega)];exact ea
   have hne:a≠p:=λz=>hnp (z ▸ List.mem_of_getElem? ea')
   exact (ok.cell k c' a e' ea').mono ok le (yk hne)
  ·have hlt:=(List.getElem?_eq_some_iff.mp ea).1
   have:(w.cell p o c).ρ.length=w.ρ.length+1:=by simp [Wd.cell]
   have hk':k=w.ρ.length:=by omega
   have e3':(w.ρ++[p])[k]?=some a:=ea;rw [hk',List.getElem?_append_right (Nat.le_refl _),Nat.sub_self] at e3';have e4:(w.h++[c])[k]?=some c':=e;rw [hk',hl,List.getElem?_append_right (Nat.le_refl _),Nat.sub_self] at e4;have a1:p=a:=by simpa using e3'
   have a2:c=c':=by simpa using e4
   subst a1 a2;exact hc
 ·rcases qdl ok hlv with rfl | h
  ·exact ok.fzt a hz hp
  ·exact ok.fz a h hz
theorem Ok.q8x (ok:Ok C w) {p:Addr} {o:HO} {c:Cell}:Tr C (w.cell p o c) (.ref w.h.length) (.ref p):=by
 rw [Tr];refine ⟨p,rfl,?_⟩;show (w.ρ++[p])[w.h.length]?=some p;rw [<- ok.len,List.getElem?_append_right (Nat.le_refl _),Nat.sub_self];rfl
def Wd.put (w:Wd) (k:Nat) (c:Cell) (a:Addr) (o:HO):Wd:={w with h:=w.h.set k c,H:=upd w.H a o}
theorem qey {k:Nat} {c:Cell} {a b:Addr} {o:HO} (ea:w.ρ[k]?=some a) (hl:Live w a) (h:Live (w.put k c a o) b):Live w b:=by
 obtain ⟨j,c',e1,e2,e3⟩:=h
 by_cases hj:k=j
 ·subst hj
  have e3':w.ρ[k]?=some b:=e3;have:b=a:=by rw [ea] at e3';cases e3';rfl
  subst this;exact hl
 ·exact ⟨j,c',by rw [<- List.getElem?_set_ne hj (a:=c)];exact e1,e2,e3⟩
theorem Ok.qch (ok:Ok C w) {k:Nat} {a:Addr} (ea:w.ρ[k]?=some a) (hl:Live w a) (c:Cell) (o:HO):Le w (w.put k c a o):=by
 refine ⟨⟨[],by simp [Wd.put]⟩,λ_ h=>h,λb hb u r=>?_,λb h=>.inl h,λb h=>.inr (qey ea hl h),λb h=>uo h,λb h=>.inl h⟩
 have hne:b≠a:=λz=>hb (z ▸ hl)
 exact .inl ((yk hne).trans r)
theorem Ok.put (ok:Ok C w) {k:Nat} {a:Addr} (ea:w.ρ[k]?=some a) (hl:Live w a) {c:Cell} {o:HO} (hc:ra C (w.put k c a o) c a):Ok C (w.put k c a o):=by
 have le:=ok.qch ea hl c o;refine ⟨by show w.ρ.length=(w.h.set k c).length;rw [List.length_set];exact ok.len,ok.nd,λb hb=>uo (ok.th b hb),λj c' b e eb=>?_,λb hlv hz=>ok.fz b (qey ea hl hlv) hz,λb h=>uo (ok.fzt b h),λb c h=>(yk (ok.pinne hl h)).trans (ok.pn b c h)⟩
 by_cases hj:k=j
 ·subst hj
  have eb':w.ρ[k]?=some b:=eb;have:b=a:=by rw [ea] at eb';cases eb';rfl
  subst this;have hk:k<w.h.length:=by
   have:=(List.getElem?_eq_some_iff.mp e).1;have z:(w.put k c b o).h.length=w.h.length:=List.length_set;omega
  have e':(w.h.set k c)[k]?=some c':=e;rw [List.getElem?_set_self hk] at e';cases e';exact hc
 ·have e':w.h[j]?=some c':=by rw [<- List.getElem?_set_ne hj (a:=c)];exact e
  have hne:b≠a:=λz=>by
   subst z;exact hj (eu ok.nd ea eb)
  exact (ok.cell j c' b e' eb).mono ok le (yk hne)
def Wd.kill (w:Wd) (k:Nat) (a:Addr):Wd:={w with h:=w.h.set k .dead,Fz:=λb=>b=a\/w.Fz b}
theorem qe2 (ok:Ok C w) {k:Nat} {a b:Addr} (ea:w.ρ[k]?=some a) (h:Live (w.kill k a) b):Live w b/\b≠a:=by
 obtain ⟨j,c',e1,e2,e3⟩:=h;have e3':w.ρ[j]?=some b:=e3
 by_cases hj:k=j
 ·subst hj
  exfalso
  have hk:k<w.h.length:=by
   have:=(List.getElem?_eq_some_iff.mp e1).1;have z:(w.kill k a).h.length=w.h.length:=List.length_set;omega
  have e':(w.h.set k .dead)[k]?=some c':=e1;rw [List.getElem?_set_self hk] at e';cases e';exact e2 rfl
 ·refine ⟨⟨j,c',by rw [<- List.getElem?_set_ne hj (a:=Cell.dead)];exact e1,e2,e3⟩,λz=>?_⟩
  subst z;exact hj (eu ok.nd ea e3')
theorem Ok.q9t (ok:Ok C w) {k:Nat} {a:Addr} (ea:w.ρ[k]?=some a) (hl:Live w a):Le w (w.kill k a):=
 ⟨⟨[],by simp [Wd.kill]⟩,λ_ h=>.inr h,λb _ u r=>.inl r,λb h=>h.elim (λz=>.inr (.inr (z ▸ hl))) .inl,λb h=>.inr (qe2 ok ea h).1,λb h=>h,λb h=>.inl h⟩
theorem Ok.kill (ok:Ok C w) {k:Nat} {a:Addr} (ea:w.ρ[k]?=some a) (hl:Live w a):Ok C (w.kill k a):=by
 have le:=ok.q9t ea hl;refine ⟨by show w.ρ.length=(w.h.set k .dead).length;rw [List.length_set];exact ok.len,ok.nd,ok.th,λj c' b e eb=>?_,λb hlv hz=>?_,λb h=>?_,ok.pn⟩
 ·by_cases hj:k=j
  ·subst hj
   have hk:k<w.h.length:=by
    have:=(List.getElem?_eq_some_iff.mp e).1;have z:(w.kill k a).h.length=w.h.length:=List.length_set;omega
   have e':(w.h.set k .dead)[k]?=some c':=e;rw [List.getElem?_set_self hk] at e';cases e'
   trivial
  ·have e':w.h[j]?=some c':=by rw [<- List.getElem?_set_ne hj (a:=Cell.dead)];exact e
   exact (ok.cell j c' b e' eb).mono ok le rfl
 ·obtain ⟨l,n⟩:=qe2 ok ea hlv
  rcases hz with z | z
  ·exact n z
  ·exact ok.fz b l z
 ·rcases h with rfl | h
  ·exact ok.th b (List.mem_of_getElem? ea)
  ·exact ok.fzt b h
theorem Ok.qmh (ok:Ok C w) {k:Nat} {xs:List AV} (e:w.h[k]?=some (.lst xs)) {v:V} (t:Tr C w (.ref k) v):∃ a,v=.ref a/\w.ρ[k]?=some a/\Live w a/\Tr C (w.kill k a) (.lst xs) v:=by
 rw [Tr] at t;obtain ⟨a,rfl,ea⟩:=t;obtain ⟨vs,hH,ht⟩:=ok.cell k _ a e ea;have hl:Live w a:=⟨k,_,e,(by intro z;cases z),ea⟩
 refine ⟨a,rfl,ea,hl,?_⟩;rw [Tr];exact ⟨a,vs,rfl, .inl rfl, .inl hH,ht.mono ok (ok.q9t ea hl)⟩
theorem Ok.qov (ok:Ok C w) {k:Nat} {ks:List Key} {xs:List AV} (e:w.h[k]?=some (.dk ks xs)) {v:V} (t:Tr C w (.ref k) v):∃ a,v=.ref a/\w.ρ[k]?=some a/\Live w a/\Tr C (w.kill k a) (.dk ks xs) v:=by
 rw [Tr] at t;obtain ⟨a,rfl,ea⟩:=t;obtain ⟨kvs,hH,hk,ht⟩:=ok.cell k _ a e ea;have hl:Live w a:=⟨k,_,e,(by intro z;cases z),ea⟩
 refine ⟨a,rfl,ea,hl,?_⟩;rw [Tr];exact ⟨a,kvs,rfl, .inl rfl, .inl hH,hk,ht.mono ok (ok.q9t ea hl)⟩
mutual
def closed (n:Nat):AV->Bool
 | .tup xs=>vp n xs
 | .lst xs=>vp n xs
 | .dk _ xs=>vp n xs
 | .ref k=>decide (k<n)
 | .kst xs=>vp n xs
 | _=>true
def vp (n:Nat):List AV->Bool
 | []=>true
 | x::xs=>closed n x && vp n xs
end
def Wd.back (w:Wd) (w0:Wd):Wd:={w with ρ:=w0.ρ,h:=w0.h}
mutual
theorem Tr.back {w0 w:Wd} (le:Le w0 w) {n:Nat} (hn:w0.ρ.length=n):∀ {x:AV} {v:V},closed n x=true->Tr C w x v->Tr C (w.back w0) x v
 | .non,v,_,h=>by rw [Tr] at h ⊢;exact h
 | .bl _,v,_,h=>by rw [Tr] at h ⊢;exact h
 | .int _,v,_,h=>by rw [Tr] at h ⊢;exact h
 | .str _,v,_,h=>by rw [Tr] at h ⊢;exact h
 | .tup xs,v,c,h=>by
  rw [Tr] at h ⊢;obtain ⟨a,vs,e,hs,ht⟩:=h;exact ⟨a,vs,e,hs,Trs.back le hn (by rw [closed] at c;exact c) ht⟩
 | .lst xs,v,c,h=>by
  rw [Tr] at h ⊢;obtain ⟨a,vs,e,f,r,ht⟩:=h;exact ⟨a,vs,e,f,r,Trs.back le hn (by rw [closed] at c;exact c) ht⟩
 | .dk ks xs,v,c,h=>by
  rw [Tr] at h ⊢;obtain ⟨a,kvs,e,f,r,hk,ht⟩:=h;exact ⟨a,kvs,e,f,r,hk,Trs.back le hn (by rw [closed] at c;exact c) ht⟩
 | .ref k,v,c,h=>by
  rw [Tr] at h ⊢;obtain ⟨a,e,hk⟩:=h;obtain ⟨t,et⟩:=le.pre;rw [closed] at c;have hlt:k<w0.ρ.length:=by rw [hn];exact of_decide_eq_true c
  refine ⟨a,e,?_⟩;show w0.ρ[k]?=some a;rw [et,List.getElem?_append_left hlt] at hk;exact hk
 | .kst xs,v,c,h=>by
  rw [Tr] at h ⊢;obtain ⟨a,vs,e,hs,ht⟩:=h;exact ⟨a,vs,e,hs,Trs.back le hn (by rw [closed] at c;exact c) ht⟩
 | .xc c,v,c',h=>by rw [Tr] at h ⊢;exact h
theorem Trs.back {w0 w:Wd} (le:Le w0 w) {n:Nat} (hn:w0.ρ.length=n):∀ {xs:List AV} {vs:List V},vp n xs=true->Trs C w xs vs->Trs C (w.back w0) xs vs
 | [],vs,_,h=>by rw [Trs] at h ⊢;exact h
 | x::xs,vs,c,h=>by
  rw [Trs] at h ⊢;rw [vp,Bool.and_eq_true] at c;obtain ⟨v,us,e,h1,h2⟩:=h;exact ⟨v,us,e,Tr.back le hn c.1 h1,Trs.back le hn c.2 h2⟩
end
mutual
theorem Tr.closed:∀ {x:AV} {v:V},Tr C w x v->closed w.ρ.length x=true
 | .non,v,h=>by rw [Z.closed];all_goals (intros;exact AV.noConfusion ‹_›)
 | .bl _,v,h=>by rw [Z.closed];all_goals (intros;exact AV.noConfusion ‹_›)
 | .int _,v,h=>by rw [Z.closed];all_goals (intros;exact AV.noConfusion ‹_›)
 | .str _,v,h=>by rw [Z.closed];all_goals (intros;exact AV.noConfusion ‹_›)
 | .tup xs,v,h=>by
  rw [Tr] at h;obtain ⟨a,vs,e,hs,ht⟩:=h;rw [Z.closed];exact Trs.vp ht
 | .lst xs,v,h=>by
  rw [Tr] at h;obtain ⟨a,vs,e,f,r,ht⟩:=h;rw [Z.closed];exact Trs.vp ht
 | .dk ks xs,v,h=>by
  rw [Tr] at h;obtain ⟨a,kvs,e,f,r,hk,ht⟩:=h;rw [Z.closed];exact Trs.vp ht
 | .ref k,v,h=>by
  rw [Tr] at h;obtain ⟨a,e,hk⟩:=h;rw [Z.closed];exact decide_eq_true (List.getElem?_eq_some_iff.mp hk).1
 | .kst xs,v,h=>by
  rw [Tr] at h;obtain ⟨a,vs,e,hs,ht⟩:=h;rw [Z.closed];exact Trs.vp ht
 | .xc _,v,h=>by rw [Z.closed];all_goals (intros;exact AV.noConfusion ‹_›)
theorem Trs.vp:∀ {xs:List AV} {vs:List V},Trs C w xs vs->vp w.ρ.length xs=true
 | [],vs,h=>by rw [Z.vp]
 | x::xs,vs,h=>by
  rw [Trs] at h;obtain ⟨v,us,e,h1,h2⟩:=h;rw [Z.vp,Tr.closed h1,Trs.vp h2];rfl
end
theorem Flds.back {w0 w:Wd} (le:Le w0 w):∀ {fs:List (Nat×AV)} {us us':List (Str×V)},Flds C w0 fs us'->Flds C w fs us->Flds C (w.back w0) fs us
 | [],us,us',_,h=>h
 | p::r,us,us',h0,h=>by
  obtain ⟨v,us,e,h1,h2⟩:=h;obtain ⟨v',us',e',h1',h2'⟩:=h0;exact ⟨v,us,e,Tr.back le rfl h1'.closed h1,Flds.back le h2' h2⟩
theorem Le.back {w0 w:Wd} (le:Le w0 w):Le w0 (w.back w0):=
 ⟨⟨[],by simp [Wd.back]⟩,le.fz,le.ks,le.fn,λa h=>.inr h,le.nn,λa h=>.inl h⟩
theorem Ok.back {w0 w:Wd} (ok0:Ok C w0) (le:Le w0 w) (ok:Ok C w) {g:AH} (hh:w.h=w0.h++g):Ok C (w.back w0):=by
 obtain ⟨t,et⟩:=le.pre;have lw:∀ a,Live w0 a->Live w a:=λa ⟨k,c,e1,e2,e3⟩=>⟨k,c,by rw [hh,List.getElem?_append_left (List.getElem?_eq_some_iff.mp e1).1];exact e1,e2,by rw [et,List.getElem?_append_left (List.getElem?_eq_some_iff.mp e3).1];exact e3⟩
 refine ⟨ok0.len,ok0.nd,λa ha=>le.nn a (ok0.th a ha),λk c a e ea=>?_,λa hl hz=>ok.fz a (lw a hl) hz,ok.fzt,ok.pn⟩
 have e:w0.h[k]?=some c:=e;have ea:w0.ρ[k]?=some a:=ea;have e':w.h[k]?=some c:=by rw [hh,List.getElem?_append_left (List.getElem?_eq_some_iff.mp e).1];exact e
 have ea':w.ρ[k]?=some a:=by rw [et,List.getElem?_append_left (List.getElem?_eq_some_iff.mp ea).1];exact ea
 have h:=ok.cell k c a e' ea';have h0:=ok0.cell k c a e ea;cases c with
 | dead=>trivial
 | lst xs =>
  obtain ⟨vs,hH,ht⟩:=h;obtain ⟨vs0,_,ht0⟩:=h0;exact ⟨vs,hH,Trs.back le rfl ht0.vp ht⟩
 | dk ks xs =>
  obtain ⟨kvs,hH,hk,ht⟩:=h;obtain ⟨kvs0,_,_,ht0⟩:=h0;exact ⟨kvs,hH,hk,Trs.back le rfl ht0.vp ht⟩
 | ins cc fs =>
  obtain ⟨hf,dx,fvs,hH,ht⟩:=h;obtain ⟨_,dx0,fvs0,_,ht0⟩:=h0;exact ⟨hf,dx,fvs,hH,Flds.back le ht0 ht⟩
def Wd.poke (w:Wd) (D:Addr) (o:HO):Wd:={w with H:=upd w.H D o}
structure Lone (w:Wd) (D:Addr) (ys:List V):Prop where
 at_:w.H D=some (.lst ys)
 nf:¬ w.Fz D
 nl:¬ Live w D
 nr:D∉w.ρ
theorem Lone.rd {D:Addr} {ys:List V} (L:Lone w D ys) {o:HO} {a:Addr} {u:HO} (hu:∀ zs,u≠.lst zs) (r:Rd w.H a u):Rd (upd w.H D o) a u:=by
 have hne:a≠D:=λz=>by
  subst z;rcases r with r | ⟨z,r⟩ <;> rw [L.at_] at r <;> cases r
  exact hu _ rfl
 rcases r with r | ⟨z,r⟩
 ·exact .inl ((yk hne).trans r)
 ·exact .inr ⟨z,(yk hne).trans r⟩
mutual
theorem Tr.poke {D:Addr} {ys:List V} (L:Lone w D ys) (o:HO):∀ {x:AV} {v:V},Tr C w x v->Tr C (w.poke D o) x v
 | .non,v,h=>by rw [Tr] at h ⊢;exact h
 | .bl _,v,h=>by rw [Tr] at h ⊢;exact h
 | .int _,v,h=>by rw [Tr] at h ⊢;exact h
 | .str _,v,h=>by rw [Tr] at h ⊢;exact h
 | .tup xs,v,h=>by
  rw [Tr] at h ⊢;obtain ⟨a,vs,e,hs,ht⟩:=h;refine ⟨a,vs,e,?_,Trs.poke L o ht⟩;rcases hs with hs | hs
  ·exact .inl (L.rd (by intro zs z;cases z) hs)
  ·exact .inr hs
 | .lst xs,v,h=>by
  rw [Tr] at h ⊢;obtain ⟨a,vs,e,f,r,ht⟩:=h;have hne:a≠D:=λz=>L.nf (z ▸ f)
  refine ⟨a,vs,e,f,?_,Trs.poke L o ht⟩;rcases r with r | ⟨z,r⟩
  ·exact .inl ((yk hne).trans r)
  ·exact .inr ⟨z,(yk hne).trans r⟩
 | .dk ks xs,v,h=>by
  rw [Tr] at h ⊢;obtain ⟨a,kvs,e,f,r,hk,ht⟩:=h;exact ⟨a,kvs,e,f,L.rd (by intro zs z;cases z) r,hk,Trs.poke L o ht⟩
 | .ref k,v,h=>by rw [Tr] at h ⊢;exact h
 | .kst xs,v,h=>by
  rw [Tr] at h ⊢;obtain ⟨a,vs,e,hs,ht⟩:=h;refine ⟨a,vs,e,?_,Trs.poke L o ht⟩;rcases hs with ⟨f,r⟩ | r
  ·have hne:a≠D:=λz=>L.nf (z ▸ f)
   refine .inl ⟨f,?_⟩;rcases r with r | ⟨z,r⟩
   ·exact .inl ((yk hne).trans r)
   ·exact .inr ⟨z,(yk hne).trans r⟩
  ·exact .inr r
 | .xc c,v,h=>by rw [Tr] at h ⊢;exact h
theorem Trs.poke {D:Addr} {ys:List V} (L:Lone w D ys) (o:HO):∀ {xs:List AV} {vs:List V},Trs C w xs vs->Trs C (w.poke D o) xs vs
 | [],vs,h=>by rw [Trs] at h ⊢;exact h
 | x::xs,vs,h=>by
  rw [Trs] at h ⊢;obtain ⟨v,us,e,h1,h2⟩:=h;exact ⟨v,us,e,Tr.poke L o h1,Trs.poke L o h2⟩
end
theorem Flds.poke {D:Addr} {ys:List V} (L:Lone w D ys) (o:HO):∀ {fs:List (Nat×AV)} {us:List (Str×V)},Flds C w fs us->Flds C (w.poke D o) fs us
 | [],us,h=>h
 | p::r,us,h=>by
  obtain ⟨v,us,e,h1,h2⟩:=h;exact ⟨v,us,e,Tr.poke L o h1,Flds.poke L o h2⟩
theorem Ok.poke (ok:Ok C w) {D:Addr} {ys:List V} (L:Lone w D ys) (o:HO):Ok C (w.poke D o):=by
 refine ⟨ok.len,ok.nd,λa ha=>uo (ok.th a ha),λk c a e ea=>?_,ok.fz,λa h=>uo (ok.fzt a h),λa c h=>(yk (ne_of (ok.pn a c h) L.at_ (by intro z;cases z))).trans (ok.pn a c h)⟩
 have h:=ok.cell k c a e ea;cases c with
 | dead=>trivial
 | lst xs =>
  have hne:a≠D:=λz=>L.nl (z ▸ ⟨k,_,e,(by intro z;cases z),ea⟩)
  obtain ⟨vs,hH,ht⟩:=h;exact ⟨vs,(yk hne).trans hH,ht.poke L o⟩
 | dk ks xs =>
  have hne:a≠D:=λz=>L.nl (z ▸ ⟨k,_,e,(by intro z;cases z),ea⟩)
  obtain ⟨kvs,hH,hk,ht⟩:=h;exact ⟨kvs,(yk hne).trans hH,hk,ht.poke L o⟩
 | ins cc fs =>
  have hne:a≠D:=λz=>L.nl (z ▸ ⟨k,_,e,(by intro z;cases z),ea⟩)
  obtain ⟨hf,dx,fvs,hH,ht⟩:=h;exact ⟨hf,dx,fvs,(yk hne).trans hH,ht.poke L o⟩
theorem Lone.le {w':Wd} {D:Addr} {ys:List V} (L:Lone w D ys) (le:Le w w'):Lone w' D ys:=by
 have hn:w.H D≠none:=by rw [L.at_];intro z;cases z
 refine ⟨?_,λz=>?_,λz=>?_,λz=>(le.rn D z).elim L.nr hn⟩
 ·rcases le.ks D L.nl _ L.at_ with q | ⟨_,ob,kvs,e,q⟩
  ·exact q
  ·cases e
 ·rcases le.fn D z with q | q | q
  ·exact L.nf q
  ·exact hn q
  ·exact L.nl q
 ·rcases le.nw D z with q | q
  ·exact hn q
  ·exact L.nl q
theorem Le.poke {w0:Wd} {D:Addr} {o:HO} (le:Le w0 w) (h0:w0.H D=none):Le w0 (w.poke D o):=by
 refine ⟨le.pre,le.fz,λb hb u r=>?_,le.fn,le.nw,λb h=>uo (le.nn b h),le.rn⟩
 have hne:b≠D:=λz=>by rw [z,h0] at r;cases r
 have:=le.ks b hb u r;show Kept (w.Fz b) u (upd w.H D o b);rw [yk hne];exact this
def Wd.keep (w:Wd) (D:Addr):Wd:={w with Fz:=λa=>a=D\/w.Fz a}
mutual
theorem Tr.keep {D:Addr}:∀ {x:AV} {v:V},Tr C w x v->Tr C (w.keep D) x v
 | .non,v,h=>by rw [Tr] at h ⊢;exact h
 | .bl _,v,h=>by rw [Tr] at h ⊢;exact h
 | .int _,v,h=>by rw [Tr] at h ⊢;exact h
 | .str _,v,h=>by rw [Tr] at h ⊢;exact h
 | .tup xs,v,h=>by
  rw [Tr] at h ⊢;obtain ⟨a,vs,e,hs,ht⟩:=h;exact ⟨a,vs,e,hs,Trs.keep ht⟩
 | .lst xs,v,h=>by
  rw [Tr] at h ⊢;obtain ⟨a,vs,e,f,r,ht⟩:=h;exact ⟨a,vs,e, .inr f,r,Trs.keep ht⟩
 | .dk ks xs,v,h=>by
  rw [Tr] at h ⊢;obtain ⟨a,kvs,e,f,r,hk,ht⟩:=h;exact ⟨a,kvs,e, .inr f,r,hk,Trs.keep ht⟩
 | .ref k,v,h=>by rw [Tr] at h ⊢;exact h
 | .kst xs,v,h=>by
  rw [Tr] at h ⊢;obtain ⟨a,vs,e,hs,ht⟩:=h;exact ⟨a,vs,e,hs.elim (λz=>.inl ⟨.inr z.1,z.2⟩) .inr,Trs.keep ht⟩
 | .xc c,v,h=>by rw [Tr] at h ⊢;exact h
theorem Trs.keep {D:Addr}:∀ {xs:List AV} {vs:List V},Trs C w xs vs->Trs C (w.keep D) xs vs
 | [],vs,h=>by rw [Trs] at h ⊢;exact h
 | x::xs,vs,h=>by
  rw [Trs] at h ⊢;obtain ⟨v,us,e,h1,h2⟩:=h;exact ⟨v,us,e,Tr.keep h1,Trs.keep h2⟩
end
theorem Flds.keep {D:Addr}:∀ {fs:List (Nat×AV)} {us:List (Str×V)},Flds C w fs us->Flds C (w.keep D) fs us
 | [],us,h=>h
 | p::r,us,h=>by
  obtain ⟨v,us,e,h1,h2⟩:=h;exact ⟨v,us,e,Tr.keep h1,Flds.keep h2⟩
theorem Ok.keep (ok:Ok C w) {D:Addr} {ys:List V} (L:Lone w D ys):Ok C (w.keep D):=by
 refine ⟨ok.len,ok.nd,ok.th,λk c a e ea=>?_,λa hl hz=>?_,λa h=>?_,ok.pn⟩
 ·have h:=ok.cell k c a e ea
  cases c with
  | dead=>trivial
  | lst xs=>obtain ⟨vs,hH,ht⟩:=h;exact ⟨vs,hH,ht.keep⟩
  | dk ks xs=>obtain ⟨kvs,hH,hk,ht⟩:=h;exact ⟨kvs,hH,hk,ht.keep⟩
  | ins cc fs=>obtain ⟨hf,dx,fvs,hH,ht⟩:=h;exact ⟨hf,dx,fvs,hH,ht.keep⟩
 ·rcases hz with rfl | hz
  ·exact L.nl hl
  ·exact ok.fz a hl hz
 ·rcases h with rfl | h
  ·show w.H a≠none
   rw [L.at_];intro z;cases z
  ·exact ok.fzt a h
end
abbrev AE:=AEnv->AH->Re AV
abbrev AT:=AEnv->AH->Re Bool
abbrev AA:=AEnv->AH->Re (List AV)
def Sat (C:Ct) (E:XK) (w:Wd) {α:Type} (r:Re α) (P:α->Wd->Prop):Prop:=
 match r with
 | .ok x h' => ∀ w':Wd,w'.h=h'->Ok C w'->Le w w'->P x w'
 | .ex c h' => ∀ w':Wd,w'.h=h'->Ok C w'->Le w w'->E (.ref (C.cl c)) none w'.H
 | .no=>False
section
variable {C:Ct} {E:XK} {w:Wd} {α β:Type}
theorem Sat.mono {r:Re α} {P P':α->Wd->Prop} (s:Sat C E w r P) (k:∀ x w',Ok C w'->Le w w'->P x w'->P' x w'):Sat C E w r P':=by
 cases r with
 | ok x h=>exact λw' e ok le=>k x w' ok le (s w' e ok le)
 | ex c h=>exact s
 | no=>exact s
theorem Sat.le {w0:Wd} {r:Re α} {P:α->Wd->Prop} (le:Le w0 w) (s:Sat C E w0 r P):Sat C E w r P:=by
 cases r with
 | ok x h=>exact λw' e ok l=>s w' e ok (le.trans l)
 | ex c h=>exact λw' e ok l=>s w' e ok (le.trans l)
 | no=>exact s
theorem Sat.bind {r:Re α} {f:α->AH->Re β} {P:β->Wd->Prop} (s:Sat C E w (r.bind f) P):Sat C E w r (λx w1=>Sat C E w1 (f x w1.h) P):=by
 cases r with
 | ok x h =>
  intro w' e ok le;subst e;exact Sat.le le s
 | ex c h=>exact s
 | no=>exact s
theorem Sat.here {x:α} {P:α->Wd->Prop} (s:Sat C E w (.ok x w.h) P) (ok:Ok C w):P x w:=s w rfl ok (Le.refl w)
end
abbrev want (C:Ct) (Q:VK):AV->Wd->Prop:=λx w' => ∀ v,Tr C w' x v->Q v w'.H
def SE (C:Ct) (E:XK) (t:TE) (m:AE):Prop:=∀ (w:Wd) (env:AEnv) (σ:St) (Q:VK),Ok C w->yj C w env σ->Sat C E w (m env w.h) (want C Q)->t σ w.H Q
def STs (C:Ct) (E:XK) (t:TT) (m:AT):Prop:=∀ (w:Wd) (env:AEnv) (σ:St) (Q:Bool->Hp->Prop),Ok C w->yj C w env σ->Sat C E w (m env w.h) (λb w' => Q b w'.H)->t σ w.H Q
def SA (C:Ct) (E:XK) (n:Nat) (t:TA) (m:AA):Prop:=
 (∀ env h xs h',m env h=.ok xs h'->xs.length=n) /\
 ∀ (w:Wd) (env:AEnv) (σ:St) (Q:List V->Hp->Prop),Ok C w->yj C w env σ->Sat C E w (m env w.h) (λxs w' => ∀ vs,Trs C w' xs vs->Q vs w'.H)->t σ w.H Q
def S1 (C:Ct) (E:XK) (r:V->Hp->VK->Prop) (f:AV->AH->Re AV):Prop:=∀ (w:Wd) (x:AV) (u:V) (Q:VK),Ok C w->Tr C w x u->Sat C E w (f x w.h) (want C Q)->r u w.H Q
def S2 (C:Ct) (E:XK) (r:R2) (f:AV->AV->AH->Re AV):Prop:=∀ (w:Wd) (x y:AV) (u v:V) (Q:VK),Ok C w->Tr C w x u->Tr C w y v->Sat C E w (f x y w.h) (want C Q)->r u v w.H Q
def SC (C:Ct) (E:XK) (n:Nat) (r:List V->Hp->VK->Prop) (f:List AV->AH->Re AV):Prop:=∀ (w:Wd) (xs:List AV) (vs:List V) (Q:VK),xs.length=n->Ok C w->Trs C w xs vs->Sat C E w (f xs w.h) (want C Q)->r vs w.H Q
def SMt (C:Ct) (E:XK) (n:Nat) (r:V->List V->Hp->VK->Prop) (f:AV->List AV->AH->Re AV):Prop:=∀ (w:Wd) (x:AV) (u:V) (xs:List AV) (vs:List V) (Q:VK),xs.length=n->Ok C w->Tr C w x u->Trs C w xs vs->Sat C E w (f x xs w.h) (want C Q)->r u vs w.H Q
@[simp] def aVar (i:Nat):AE:=λenv h=>match env[i]? with | some (some x)=>.ok x h | _=>.no
@[simp] def aK (x:AV):AE:=λ_ h=>.ok x h
@[simp] def a1 (f:AV->AH->Re AV) (a:AE):AE:=λenv h=>(a env h).bind f
@[simp] def a2 (f:AV->AV->AH->Re AV) (a b:AE):AE:=λenv h=>(a env h).bind λx h=>(b env h).bind λy h=>f x y h
@[simp] def aNil:AA:=λ_ h=>.ok [] h
@[simp] def j0 (a:AE) (r:AA):AA:=λenv h=>(a env h).bind λx h=>(r env h).bind λxs h=>.ok (x::xs) h
@[simp] def aC (f:List AV->AH->Re AV) (a:AA):AE:=λenv h=>(a env h).bind f
@[simp] def aTup (a:AA):AE:=λenv h=>(a env h).bind λxs h=>.ok (.tup xs) h
@[simp] def aLst (a:AA):AE:=λenv h=>(a env h).bind λxs h=>.ok (.lst xs) h
@[simp] def ky (a:AA):AE:=λenv h=>(a env h).bind λxs h=>.ok (.ref h.length) (h++[.lst xs])
@[simp] def toB:AV->AH->Re Bool
 | .bl b,h=>.ok b h
 | _,_=>.no
@[simp] def aB (a:AE):AT:=λenv h=>(a env h).bind toB
@[simp] def aAnd (a b:AT):AT:=λenv h=>(a env h).bind λc h=>if c=true then b env h else .ok false h
@[simp] def aOr (a b:AT):AT:=λenv h=>(a env h).bind λc h=>if c=true then .ok true h else b env h
@[simp] def aNot (a:AT):AT:=λenv h=>(a env h).bind λc h=>.ok (!c) h
@[simp] def ni (a b:AE):AE:=λenv h=>(a env h).bind λx h=>(toB x h).bind λc h=>if c=true then b env h else .ok (.bl false) h
@[simp] def aOrV (a b:AE):AE:=λenv h=>(a env h).bind λx h=>(toB x h).bind λc h=>if c=true then .ok (.bl true) h else b env h
@[simp] def aNotV (a:AE):AE:=λenv h=>(a env h).bind λx h=>(toB x h).bind λc h=>.ok (.bl (!c)) h
@[simp] def qg1 (f g:AV->AV->AH->Re AV) (a b c:AE):AE:=λenv h=>(a env h).bind λx h=>(b env h).bind λy h=>(f x y h).bind λz h=>(toB z h).bind λk h =>
 if k=true then (c env h).bind λv h=>g y v h else .ok (.bl false) h
section
variable {C:Ct} {E:XK} {ta tb tc:TE} {ma mb mc:AE}
theorem j3 {i:Nat}:SE C E (tVar i) (aVar i):=by
 intro w env σ Q ok en s;unfold aVar at s;split at s
 ·rename_i x e
  obtain ⟨v,q,t⟩:=en.at_ i x e;exact ⟨v,q,s.here ok v t⟩
 ·exact s.elim
theorem se_k {v:V} {x:AV} (h:∀ w,Tr C w x v):SE C E (tC v) (aK x):=λw env σ Q ok en s=>s.here ok v (h w)
theorem jb {i:Int}:SE C E (tC (.int i)) (aK (.int i)):=se_k λw=>by rw [Tr]
theorem xw {b:Bool}:SE C E (tC (.bl b)) (aK (.bl b)):=se_k λw=>by rw [Tr]
theorem jl {x:Str}:SE C E (tC (.str x)) (aK (.str x)):=se_k λw=>by rw [Tr]
theorem se_non:SE C E (tC .non) (aK .non):=se_k λw=>by rw [Tr]
theorem se_un {r:V->Hp->VK->Prop} {f:AV->AH->Re AV} (hr:S1 C E r f) (ha:SE C E ta ma):SE C E (tUn r ta) (a1 f ma):=λw env σ Q ok en s =>
 ha w env σ _ ok en (s.bind.mono λx w1 ok1 le1 s1 v tv=>hr w1 x v Q ok1 tv s1)
theorem j8 {r:R2} {f:AV->AV->AH->Re AV} (hr:S2 C E r f) (ha:SE C E ta ma) (hb:SE C E tb mb):SE C E (tOp r ta tb) (a2 f ma mb):=λw env σ Q ok en s =>
 ha w env σ _ ok en (s.bind.mono λx w1 ok1 le1 s1 v tv=>hb w1 env σ _ ok1 (en.mono ok le1) (s1.bind.mono λy w2 ok2 le2 s2 u tu=>hr w2 x y v u Q ok2 (tv.mono ok1 le2) tu s2))
theorem j7:SA C E 0 tNil aNil:=⟨λenv h xs h' e=>by cases e;rfl,λw env σ Q ok en s=>s.here ok [] .nil⟩
theorem j5 {n:Nat} {t:TA} {m:AA} (ha:SE C E ta ma) (hr:SA C E n t m):SA C E (n+1) (vt ta t) (j0 ma m):=by
 refine ⟨λenv h xs h' e=>?_,λw env σ Q ok en s=>?_⟩
 ·unfold j0 at e
  cases e1:ma env h with
  | ok x h1 =>
   rw [e1,Re.q3y] at e;cases e2:m env h1 with
   | ok ys h2 =>
    rw [e2,Re.q3y] at e;cases e;rw [List.length_cons,hr.1 env h1 ys _ e2]
   | ex c h2=>rw [e2] at e;cases e
   | no=>rw [e2] at e;cases e
  | ex c h1=>rw [e1] at e;cases e
  | no=>rw [e1] at e;cases e
 ·exact ha w env σ _ ok en (s.bind.mono λx w1 ok1 le1 s1 v tv=>hr.2 w1 env σ _ ok1 (en.mono ok le1) (s1.bind.mono λys w2 ok2 le2 s2 vs tvs=>s2.here ok2 (v::vs) (.cons (tv.mono ok1 le2) tvs)))
theorem SA.run {n:Nat} {t:TA} {m:AA} (h:SA C E n t m) {w:Wd} {env:AEnv} {σ:St} {Q:List V->Hp->Prop} {f:List AV->AH->Re AV} {P:AV->Wd->Prop} (ok:Ok C w) (en:yj C w env σ) (s:Sat C E w ((m env w.h).bind f) P)
  (k:∀ xs w',xs.length=n->Ok C w'->Le w w'->Sat C E w' (f xs w'.h) P->∀ vs,Trs C w' xs vs->Q vs w'.H):t σ w.H Q:=by
 refine h.2 w env σ Q ok en ?_;have hl:=h.1 env w.h;have s':=s.bind
 revert s'
 cases e:m env w.h with
 | ok xs h' => exact λs' w' e' ok' le vs tv=>k xs w' (hl xs h' e) ok' le (s' w' e' ok' le) vs tv
 | ex c h' => exact λs' => s'
 | no=>exact λs' => s'
theorem yx {n:Nat} {t:TA} {m:AA} (h:SA C E n t m) (hn:n<=sizeLine:=by decide):SE C E (tTup t) (aTup m):=λw env σ Q ok en s =>
 h.run ok en s λxs w1 hl ok1 le1 s1 vs tv=>⟨by rw [<- tv.len,hl];exact hn,λp hp=>s1 (w1.fresh p (.tup vs)) rfl (ok1.fresh hp _) (ok1.q55 hp _) _ (ok1.qf3 hp tv)⟩
theorem vc {n:Nat} {t:TA} {m:AA} (h:SA C E n t m) (hn:n<=sizeLine:=by decide):SE C E (tLst t) (aLst m):=λw env σ Q ok en s =>
 h.run ok en s λxs w1 hl ok1 le1 s1 vs tv=>⟨by rw [<- tv.len,hl];exact hn,λp hp=>s1 (w1.frozen p (.lst vs)) rfl (ok1.frozen hp _) (ok1.q4u hp _) _ (ok1.q8p hp tv)⟩
theorem Ok.qcp {w:Wd} (ok:Ok C w) {p:Addr} {xs:List AV} {vs:List V} (hp:w.H p=none) (t:Trs C w xs vs):Ok C (w.cell p (.lst vs) (.lst xs)):=
 ok.qda hp ⟨vs,vd,t.mono ok (ok.q8i hp _ _)⟩
theorem dh {n:Nat} {t:TA} {m:AA} (h:SA C E n t m) (hn:n<=sizeLine:=by decide):SE C E (tLst t) (ky m):=λw env σ Q ok en s =>
 h.run ok en s λxs w1 hl ok1 le1 s1 vs tv=>⟨by rw [<- tv.len,hl];exact hn,λp hp=>s1 (w1.cell p (.lst vs) (.lst xs)) rfl (ok1.qcp hp tv) (ok1.q8i hp _ _) _ ok1.q8x⟩
theorem ya {n:Nat} {t:TA} {m:AA} {r:List V->Hp->VK->Prop} {f:List AV->AH->Re AV} (hr:SC C E n r f) (h:SA C E n t m):SE C E (tCB r t) (aC f m):=λw env σ Q ok en s =>
 h.run ok en s λxs w1 hl ok1 le1 s1 vs tv=>hr w1 xs vs Q hl ok1 tv s1
theorem rf {w:Wd} {x:AV} {v:V} {P:Bool->Wd->Prop} (ok:Ok C w) (tv:Tr C w x v) (s:Sat C E w (toB x w.h) P):∃ c,v=.bl c/\P c w:=by
 cases x with
 | bl b=>rw [Tr] at tv;exact ⟨b,tv,s.here ok⟩
 | non=>exact s.elim
 | int i=>exact s.elim
 | str x=>exact s.elim
 | tup xs=>exact s.elim
 | lst xs=>exact s.elim
 | dk ks xs=>exact s.elim
 | ref k=>exact s.elim
 | kst xs=>exact s.elim
 | xc c=>exact s.elim
theorem st_b (ha:SE C E ta ma):STs C E (tB ta) (aB ma):=λw env σ Q ok en s =>
 ha w env σ _ ok en (s.bind.mono λx w1 ok1 le1 s1 v tv=>rf ok1 tv s1)
theorem v9 (ha:SE C E ta ma):STs C E (i4 ta) (aB ma):=λw env σ Q ok en s =>
 ha w env σ _ ok en (s.bind.mono λx w1 ok1 le1 s1 v tv=>rf ok1 tv s1)
variable {tA tB':TT} {mA mB:AT}
theorem ot (ha:STs C E tA mA) (hb:STs C E tB' mB):STs C E (tAnd tA tB') (aAnd mA mB):=λw env σ Q ok en s =>
 ha w env σ _ ok en (s.bind.mono λc w1 ok1 le1 s1=>by
  cases c with
  | true=>exact iteT (hb w1 env σ _ ok1 (en.mono ok le1) (by simpa using s1))
  | false=>exact iteF (Sat.here (by simpa using s1) ok1))
theorem pk (ha:STs C E tA mA) (hb:STs C E tB' mB):STs C E (tOr tA tB') (aOr mA mB):=λw env σ Q ok en s =>
 ha w env σ _ ok en (s.bind.mono λc w1 ok1 le1 s1=>by
  cases c with
  | true=>exact iteT (Sat.here (by simpa using s1) ok1)
  | false=>exact iteF (hb w1 env σ _ ok1 (en.mono ok le1) (by simpa using s1)))
theorem uq (ha:STs C E tA mA):STs C E (tNot tA) (aNot mA):=λw env σ Q ok en s =>
 ha w env σ _ ok en (s.bind.mono λc w1 ok1 le1 s1=>s1.here ok1)
theorem rg (ha:SE C E ta ma) (hb:SE C E tb mb):SE C E (tAndV ta tb) (ni ma mb):=λw env σ Q ok en s =>
 ha w env σ _ ok en (s.bind.mono λx w1 ok1 le1 s1 v tv=>by
  obtain ⟨c,e,s2⟩:=rf ok1 tv s1.bind;refine ⟨c,e,?_⟩;cases c with
  | true=>exact iteT (hb w1 env σ _ ok1 (en.mono ok le1) (by simpa using s2))
  | false=>exact iteF (Sat.here (P:=want C Q) (x:=AV.bl false) (by simpa using s2) ok1 _ (by rw [Tr])))
theorem se_or (ha:SE C E ta ma) (hb:SE C E tb mb):SE C E (tOrV ta tb) (aOrV ma mb):=λw env σ Q ok en s =>
 ha w env σ _ ok en (s.bind.mono λx w1 ok1 le1 s1 v tv=>by
  obtain ⟨c,e,s2⟩:=rf ok1 tv s1.bind;refine ⟨c,e,?_⟩;cases c with
  | true=>exact iteT (Sat.here (P:=want C Q) (x:=AV.bl true) (by simpa using s2) ok1 _ (by rw [Tr]))
  | false=>exact iteF (hb w1 env σ _ ok1 (en.mono ok le1) (by simpa using s2)))
theorem se_not (ha:SE C E ta ma):SE C E (tNotV ta) (aNotV ma):=λw env σ Q ok en s =>
 ha w env σ _ ok en (s.bind.mono λx w1 ok1 le1 s1 v tv=>by
  obtain ⟨c,e,s2⟩:=rf ok1 tv s1.bind;exact ⟨c,e,s2.here ok1 _ (by rw [Tr])⟩)
theorem qf8 {r r':R2} {f g:AV->AV->AH->Re AV} (hr:S2 C E r f) (hr':S2 C E r' g) (ha:SE C E ta ma) (hb:SE C E tb mb) (hc:SE C E tc mc):SE C E (i5 r r' ta tb tc) (qg1 f g ma mb mc):=λw env σ Q ok en s =>
 ha w env σ _ ok en (s.bind.mono λx w1 ok1 le1 s1 v tv=>hb w1 env σ _ ok1 (en.mono ok le1) (s1.bind.mono λy w2 ok2 le2 s2 u tu =>
  hr w2 x y v u _ ok2 (tv.mono ok1 le2) tu (s2.bind.mono λz w3 ok3 le3 s3 q tq=>by
   obtain ⟨k,e,s4⟩:=rf ok3 tq s3.bind;refine ⟨k,e,?_⟩;cases k with
   | true =>
    have s4':Sat C E w3 ((mc env w3.h).bind λv h=>g y v h) (want C Q):=by simpa using s4
    exact iteT (hc w3 env σ _ ok3 (en.mono ok (le1.trans (le2.trans le3))) (s4'.bind.mono λp w4 ok4 le4 s5 p' tp=>hr' w4 y p u p' Q ok4 (tu.mono ok2 (le3.trans le4)) tp s5))
   | false=>exact iteF (Sat.here (P:=want C Q) (x:=AV.bl false) (by simpa using s4) ok3 _ (by rw [Tr])))))
end
@[simp] def zk (h:AH):AV->Option (List AV)
 | .lst xs=>some xs
 | .ref k=>match h[k]? with | some (.lst xs)=>some xs | _=>none
 | _=>none
@[simp] def ue (h:AH):AV->Option (List AV)
 | .lst xs=>some xs
 | .kst xs=>some xs
 | .ref k=>match h[k]? with | some (.lst xs)=>some xs | _=>none
 | _=>none
@[simp] def vx (h:AH):AV->Option (List AV)
 | .tup xs=>some xs
 | .lst xs=>some xs
 | .kst xs=>some xs
 | .ref k=>match h[k]? with | some (.lst xs)=>some xs | _=>none
 | _=>none
@[simp] def intsOf:List AV->Option (List Int)
 | []=>some []
 | .int i::r=>(intsOf r).map (i :: ·)
 | _=>none
@[simp] def gc:List AV->Option (List Bool)
 | []=>some []
 | .bl i::r=>(gc r).map (i :: ·)
 | _=>none
@[simp] def strsOf:List AV->Option (List Str)
 | []=>some []
 | .str i::r=>(strsOf r).map (i :: ·)
 | _=>none
@[simp] def fI (g:Int->Int->AV):AV->AV->AH->Re AV
 | .int i, .int j,h=>.ok (g i j) h
 | _,_,_=>.no
@[simp] def fIC (c:Int->Int->Bool) (g:Int->Int->AV):AV->AV->AH->Re AV
 | .int i, .int j,h=>if c i j=true then .ok (g i j) h else .no
 | _,_,_=>.no
abbrev fAdd:=fI λi j=>.int (i+j)
abbrev fSub:=fI λi j=>.int (i - j)
abbrev fMul:=fIC (λi j=>decide ((-(2 ^ 64)<i/\i<2 ^ 64)\/(-(2 ^ 64)<j/\j<2 ^ 64))) λi j=>.int (i * j)
abbrev fDiv:=fIC (λ_ j=>decide (0<j/\j<1073741824)) λi j=>.int (i / j)
abbrev fMod:=fIC (λ_ j=>decide (0<j)) λi j=>.int (i % j)
abbrev fLt:=fI λi j=>.bl (decide (i<j))
abbrev fLe:=fI λi j=>.bl (decide (i<=j))
abbrev fGt:=fI λi j=>.bl (decide (j<i))
@[simp] def fNeg:AV->AH->Re AV
 | .int i,h=>.ok (.int (-i)) h
 | _,_=>.no
@[simp] def eqS:AV->AV->Option Bool
 | .int i, .int j=>some (decide (i=j))
 | .str i, .str j=>some (decide (i=j))
 | .bl i, .bl j=>some (decide (i=j))
 | .non, .non=>some true
 | .non, .int _=>some false | .int _, .non=>some false | .non, .bl _=>some false | .bl _, .non=>some false | .non, .str _=>some false | .str _, .non=>some false
 | .int _, .str _=>some false | .str _, .int _=>some false | .bl _, .str _=>some false | .str _, .bl _=>some false
 | _,_=>none
@[simp] def fEq:AV->AV->AH->Re AV:=λx y h=>match eqS x y with | some b=>.ok (.bl b) h | none=>.no
@[simp] def fNe:AV->AV->AH->Re AV:=λx y h=>match eqS x y with | some b=>.ok (.bl (!b)) h | none=>.no
@[simp] def yy:AV->AV->AH->Re AV
 | .str x, .str y,h=>if x.length+y.length<=sizeLine then .ok (.str (x++y)) h else .no
 | _,_,_=>.no
@[simp] def fCat:AV->AV->AH->Re AV:=λx y h=>match zk h x,zk h y with
 | some xs,some ys=>if xs.length+ys.length<=sizeLine then .ok (.lst (xs++ys)) h else .no
 | _,_=>.no
@[simp] def fIx:AV->AV->AH->Re AV:=λx y h=>match vx h x,y with
 | some xs, .int i=>match atI xs i with | some z=>.ok z h | none=>.no
 | _,_=>.no
@[simp] def fIxS:AV->AV->AH->Re AV
 | .str z, .int i,h=>if z.length<=sizeLine then (match atI z.cps.toList i with | some c=>.ok (.str ⟨#[c]⟩) h | none=>.no) else .no
 | _,_,_=>.no
@[simp] def qk4:AV->Bool
 | .non=>true
 | _=>false
@[simp] def fIsN:AV->AH->Re AV:=λx h=>.ok (.bl (qk4 x)) h
section
variable {C:Ct} {E:XK} {w:Wd}
theorem kz {x:AV} {xs:List AV} {v:V} (ok:Ok C w) (e:zk w.h x=some xs) (t:Tr C w x v):∃ a vs,v=.ref a/\Rd w.H a (.lst vs)/\Trs C w xs vs:=by
 cases x with
 | lst ys =>
  cases e;rw [Tr] at t;obtain ⟨a,vs,e,f,r,ht⟩:=t;exact ⟨a,vs,e,r,ht⟩
 | ref k =>
  rw [Tr] at t;obtain ⟨a,rfl,ea⟩:=t;have e:(match w.h[k]? with | some (.lst xs)=>some xs | _=>none)=some xs:=e
  split at e
  ·rename_i ys eh
   cases e;obtain ⟨vs,hH,ht⟩:=ok.cell k _ a eh ea;exact ⟨a,vs,rfl, .inl hH,ht⟩
  ·cases e
 | non=>cases e
 | bl b=>cases e
 | int i=>cases e
 | str x=>cases e
 | tup xs=>cases e
 | dk ks xs=>cases e
 | kst xs=>cases e
 | xc c=>cases e
theorem sq_of {H:Hp} {a:Addr} {vs:List V} (h:(w.Fz a/\Rd w.H a (.lst vs))\/SqL C.K (λ_=>none) a vs):SqL C.K w.H a vs:=by
 rcases h with h | (h | ⟨o,h⟩) | h
 ·exact .inl h.2
 ·cases h
 ·cases h
 ·exact .inr h
theorem m6 {x:AV} {xs:List AV} {v:V} (ok:Ok C w) (e:ue w.h x=some xs) (t:Tr C w x v):∃ a vs,v=.ref a/\SqL C.K w.H a vs/\Trs C w xs vs:=by
 cases x with
 | kst ys =>
  cases e;rw [Tr] at t;obtain ⟨a,vs,e,r,ht⟩:=t;exact ⟨a,vs,e,sq_of (H:=w.H) r,ht⟩
 | lst ys =>
  obtain ⟨a,vs,e,r,ht⟩:=kz ok (x:=.lst ys) e t;exact ⟨a,vs,e, .inl r,ht⟩
 | ref k =>
  obtain ⟨a,vs,e,r,ht⟩:=kz ok (x:=.ref k) e t;exact ⟨a,vs,e, .inl r,ht⟩
 | _=>cases e
theorem rh {x:AV} {xs:List AV} {v:V} (ok:Ok C w) (e:vx w.h x=some xs) (t:Tr C w x v):∃ a vs,v=.ref a/\(SqL C.K w.H a vs\/SqT C.K w.H a vs)/\Trs C w xs vs:=by
 cases x with
 | lst ys =>
  cases e;rw [Tr] at t;obtain ⟨a,vs,e,f,r,ht⟩:=t;exact ⟨a,vs,e, .inl (.inl r),ht⟩
 | tup ys =>
  cases e;rw [Tr] at t;obtain ⟨a,vs,e,r,ht⟩:=t;exact ⟨a,vs,e, .inr r,ht⟩
 | ref k =>
  obtain ⟨a,vs,e,r,ht⟩:=kz ok (x:=.ref k) e t;exact ⟨a,vs,e, .inl (.inl r),ht⟩
 | kst ys =>
  obtain ⟨a,vs,e,r,ht⟩:=m6 ok (x:=.kst ys) e t;exact ⟨a,vs,e, .inl r,ht⟩
 | non=>cases e
 | bl b=>cases e
 | int i=>cases e
 | str x=>cases e
 | dk ks xs=>cases e
 | xc c=>cases e
theorem qdt:∀ {xs:List AV} {ns:List Int} {vs:List V},intsOf xs=some ns->Trs C w xs vs->vs=ns.map V.int
 | [],ns,vs,e,t=>by cases e;rw [Trs] at t;exact t
 | x::xs,ns,vs,e,t=>by
  rw [Trs] at t;obtain ⟨v,us,rfl,h1,h2⟩:=t;cases x with
  | int i =>
   rw [intsOf] at e;cases e1:intsOf xs with
   | none=>rw [e1] at e;cases e
   | some ms =>
    rw [e1] at e;cases e;rw [Tr] at h1;rw [h1,qdt e1 h2];rfl
  | _=>cases e
theorem qbo:∀ {xs:List AV} {ns:List Bool} {vs:List V},gc xs=some ns->Trs C w xs vs->vs=ns.map V.bl
 | [],ns,vs,e,t=>by cases e;rw [Trs] at t;exact t
 | x::xs,ns,vs,e,t=>by
  rw [Trs] at t;obtain ⟨v,us,rfl,h1,h2⟩:=t;cases x with
  | bl i =>
   rw [gc] at e;cases e1:gc xs with
   | none=>rw [e1] at e;cases e
   | some ms =>
    rw [e1] at e;cases e;rw [Tr] at h1;rw [h1,qbo e1 h2];rfl
  | _=>cases e
theorem qap:∀ {xs:List AV} {ns:List Str} {vs:List V},strsOf xs=some ns->Trs C w xs vs->vs=ns.map V.str
 | [],ns,vs,e,t=>by cases e;rw [Trs] at t;exact t
 | x::xs,ns,vs,e,t=>by
  rw [Trs] at t;obtain ⟨v,us,rfl,h1,h2⟩:=t;cases x with
  | str i =>
   rw [strsOf] at e;cases e1:strsOf xs with
   | none=>rw [e1] at e;cases e
   | some ms =>
    rw [e1] at e;cases e;rw [Tr] at h1;rw [h1,qap e1 h2];rfl
  | _=>cases e
theorem s2_I {g:Int->Int->V} {g':Int->Int->AV} (hg:∀ i j w,Tr C w (g' i j) (g i j)):S2 C E (rI0 g) (fI g'):=by
 intro w x y u v Q ok tx ty s;unfold fI at s;split at s
 ·rename_i h i j
  rw [Tr] at tx;rw [Tr] at ty;exact ⟨i,j,tx,ty,s.here ok _ (hg i j w)⟩
 ·exact s.elim
theorem qim {c:Int->Int->Bool} {P:Int->Int->Prop} {g:Int->Int->V} {g':Int->Int->AV} (hc:∀ i j,c i j=true->P i j) (hg:∀ i j w,Tr C w (g' i j) (g i j)):S2 C E (rI P g) (fIC c g'):=by
 intro w x y u v Q ok tx ty s;unfold fIC at s;split at s
 ·rename_i h i j
  rw [Tr] at tx;rw [Tr] at ty
  by_cases hh:c i j=true
  ·rw [if_pos hh] at s
   exact ⟨i,j,tx,ty,hc i j hh,s.here ok _ (hg i j w)⟩
  ·rw [if_neg hh] at s
   exact s.elim
 ·exact s.elim
theorem zl:S2 C E (rI0 λi j=>.int (i+j)) fAdd:=s2_I λi j w=>by rw [Tr]
theorem gq:S2 C E (rI0 λi j=>.int (i - j)) fSub:=s2_I λi j w=>by rw [Tr]
theorem qlf:S2 C E (rI CMul λi j=>.int (i * j)) fMul:=qim (λi j h=>(of_decide_eq_true h:(-(2 ^ 64)<i/\i<2 ^ 64)\/(-(2 ^ 64)<j/\j<2 ^ 64))) λi j w=>by rw [Tr]
theorem ur:S2 C E (rI CDiv λi j=>.int (i / j)) fDiv:=qim (λi j h=>(of_decide_eq_true h:0<j/\j<1073741824)) λi j w=>by rw [Tr]
theorem xn:S2 C E (rI (λ_ j=>0<j) λi j=>.int (i % j)) fMod:=qim (λi j h=>of_decide_eq_true h) λi j w=>by rw [Tr]
theorem fk:S2 C E (rI0 λi j=>.bl (decide (i<j))) fLt:=s2_I λi j w=>by rw [Tr]
theorem fm:S2 C E (rI0 λi j=>.bl (decide (i<=j))) fLe:=s2_I λi j w=>by rw [Tr]
theorem s2_gt:S2 C E (rI0 λi j=>.bl (decide (j<i))) fGt:=s2_I λi j w=>by rw [Tr]
theorem s1_neg:S1 C E (rU λi=>.int (-i)) fNeg:=by
 intro w x u Q ok tx s;unfold fNeg at s;split at s
 ·rename_i h i
  rw [Tr] at tx;exact ⟨i,tx,s.here ok _ (by rw [Tr])⟩
 ·exact s.elim
theorem qjn {x y:AV} {u v:V} {b:Bool} (e:eqS x y=some b) (tx:Tr C w x u) (ty:Tr C w y v):scal u v=true/\decide (u=v)=b:=by
 cases x <;> cases y <;> simp only [eqS,Option.some.injEq,reduceCtorEq] at e
 all_goals (rw [Tr] at tx;rw [Tr] at ty;subst tx;subst ty;subst e)
 all_goals first | exact ⟨rfl,rfl⟩ | exact ⟨rfl,decide_eq_decide.mpr ⟨λh=>by injection h,λh=>by rw [h]⟩⟩
theorem zm:S2 C E rEq fEq:=by
 intro w x y u v Q ok tx ty s;unfold fEq at s;split at s
 ·rename_i b e
  obtain ⟨h1,h2⟩:=qjn e tx ty;exact ⟨h1,by rw [h2];exact s.here ok _ (by rw [Tr])⟩
 ·exact s.elim
theorem pw:S2 C E rNe fNe:=by
 intro w x y u v Q ok tx ty s;unfold fNe at s;split at s
 ·rename_i b e
  obtain ⟨h1,h2⟩:=qjn e tx ty;exact ⟨h1,by rw [h2];exact s.here ok _ (by rw [Tr])⟩
 ·exact s.elim
theorem qln {x:AV} {u:V} (t:Tr C w x u):decide (u=V.non)=qk4 x:=by
 cases x with
 | non=>rw [Tr] at t;subst t;rfl
 | bl b=>rw [Tr] at t;subst t;rfl
 | int i=>rw [Tr] at t;subst t;rfl
 | str x=>rw [Tr] at t;subst t;rfl
 | tup xs=>rw [Tr] at t;obtain ⟨a,vs,rfl,_⟩:=t;rfl
 | lst xs=>rw [Tr] at t;obtain ⟨a,vs,rfl,_⟩:=t;rfl
 | dk ks xs=>rw [Tr] at t;obtain ⟨a,vs,rfl,_⟩:=t;rfl
 | ref k=>rw [Tr] at t;obtain ⟨a,rfl,_⟩:=t;rfl
 | kst xs=>rw [Tr] at t;obtain ⟨a,vs,rfl,_⟩:=t;rfl
 | xc c=>rw [Tr] at t;obtain ⟨a,rfl,_⟩:=t;rfl
theorem qkw {ta:TE} {ma:AE} (ha:SE C E ta ma):SE C E (tIsN ta) (a1 fIsN ma):=λw env σ Q ok en s =>
 ha w env σ _ ok en (s.bind.mono λx w1 ok1 le1 s1 v tv=>by show Q (V.bl (decide (v=V.non))) w1.H;rw [qln tv];exact s1.here ok1 _ (by rw [Tr]))
theorem zb:S2 C E (λx y H Q=>∃ i j,x=.str i/\y=.str j/\i.length+j.length<=sizeLine/\Q (.str (i++j)) H) yy:=by
 intro w x y u v Q ok tx ty s;unfold yy at s;split at s
 ·rename_i h i j
  rw [Tr] at tx;rw [Tr] at ty
  by_cases hh:i.length+j.length<=sizeLine
  ·rw [if_pos hh] at s
   exact ⟨i,j,tx,ty,hh,s.here ok _ (by rw [Tr])⟩
  ·rw [if_neg hh] at s;exact s.elim
 ·exact s.elim
theorem pz:S2 C E rCatR fCat:=by
 intro w x y u v Q ok tx ty s;unfold fCat at s;split at s
 ·rename_i xs ys e1 e2
  obtain ⟨a,vs,rfl,r1,t1⟩:=kz ok e1 tx;obtain ⟨b,us,rfl,r2,t2⟩:=kz ok e2 ty
  by_cases hh:xs.length+ys.length<=sizeLine
  ·rw [if_pos hh] at s
   exact ⟨a,b,vs,us,rfl,rfl,r1,r2,by rw [<- t1.len, <- t2.len];exact hh,λp hp=>s (w.frozen p _) rfl (ok.frozen hp _) (ok.q4u hp _) _ (ok.q8p hp (t1.app t2))⟩
  ·rw [if_neg hh] at s;exact s.elim
 ·exact s.elim
theorem Trs.atI {xs:List AV} {vs:List V} {i:Int} {x:AV} (t:Trs C w xs vs) (e:L2.atI xs i=some x):∃ v,L2.atI vs i=some v/\Tr C w x v:=by
 unfold L2.atI at e ⊢;rw [<- t.len];cases q:ixN xs.length i with
 | none=>rw [q] at e;cases e
 | some j =>
  rw [q] at e;obtain ⟨v,e',tv⟩:=t.get (show xs[j]?=some x from e)
  exact ⟨v,e',tv⟩
theorem jw:S2 C E (rIx C.K) fIx:=by
 intro w x y u v Q ok tx ty s;unfold fIx at s;split at s
 ·rename_i xs i e1
  rw [Tr] at ty;obtain ⟨a,vs,rfl,r1,t1⟩:=rh ok e1 tx;split at s
  ·rename_i z ez
   obtain ⟨q,eq,tq⟩:=t1.atI ez;rcases r1 with r1 | r1
   ·exact .inl ⟨a,vs,i,q,rfl,ty,r1,eq,s.here ok _ tq⟩
   ·exact .inr (.inl ⟨a,vs,i,q,rfl,ty,r1,eq,s.here ok _ tq⟩)
  ·exact s.elim
 ·exact s.elim
theorem s2_ixS:S2 C E rIxS fIxS:=by
 intro w x y u v Q ok tx ty s;unfold fIxS at s;split at s
 ·rename_i h z i
  rw [Tr] at tx;rw [Tr] at ty
  by_cases hh:z.length<=sizeLine
  ·rw [if_pos hh] at s
   split at s
   ·rename_i c ec
    exact ⟨z,i,c,tx,ty,hh,ec,s.here ok _ (by rw [Tr])⟩
   ·exact s.elim
  ·rw [if_neg hh] at s;exact s.elim
 ·exact s.elim
end
inductive SRe where
 | nx (env:AEnv) (h:AH) | rt (x:AV) (h:AH) | bk (env:AEnv) (h:AH) | ct (env:AEnv) (h:AH) | ex (c:Nat) (h:AH) | no
abbrev AS:=AEnv->AH->SRe
def Re.to {α:Type} (r:Re α) (f:α->AH->SRe):SRe:=match r with | .ok x h=>f x h | .ex c h=>.ex c h | .no=>.no
@[simp] theorem Re.qhx {α:Type} (x:α) (h:AH) (f:α->AH->SRe):(Re.ok x h).to f=f x h:=rfl
@[simp] theorem Re.to_ex {α:Type} (c:Nat) (h:AH) (f:α->AH->SRe):(Re.ex c h:Re α).to f=.ex c h:=rfl
@[simp] theorem Re.to_no {α:Type} (f:α->AH->SRe):(Re.no:Re α).to f=.no:=rfl
def SRe.then (r:SRe) (f:AEnv->AH->SRe):SRe:=match r with | .nx env h=>f env h | r=>r
@[simp] theorem SRe.then_nx (env:AEnv) (h:AH) (f:AEnv->AH->SRe):(SRe.nx env h).then f=f env h:=rfl
@[simp] theorem SRe.then_rt (x:AV) (h:AH) (f:AEnv->AH->SRe):(SRe.rt x h).then f=.rt x h:=rfl
@[simp] theorem SRe.then_bk (env:AEnv) (h:AH) (f:AEnv->AH->SRe):(SRe.bk env h).then f=.bk env h:=rfl
@[simp] theorem SRe.then_ct (env:AEnv) (h:AH) (f:AEnv->AH->SRe):(SRe.ct env h).then f=.ct env h:=rfl
@[simp] theorem SRe.then_ex (c:Nat) (h:AH) (f:AEnv->AH->SRe):(SRe.ex c h).then f=.ex c h:=rfl
@[simp] theorem SRe.then_no (f:AEnv->AH->SRe):SRe.no.then f=.no:=rfl
def SSat (C:Ct) (E:XK) (w:Wd) (r:SRe) (D:Ends):Prop:=
 match r with
 | .nx env h=>∀ (w':Wd) (σ:St),w'.h=h->Ok C w'->Le w w'->yj C w' env σ->D.nx σ w'.H
 | .bk env h=>∀ (w':Wd) (σ:St),w'.h=h->Ok C w'->Le w w'->yj C w' env σ->D.bk σ w'.H
 | .ct env h=>∀ (w':Wd) (σ:St),w'.h=h->Ok C w'->Le w w'->yj C w' env σ->D.ct σ w'.H
 | .rt x h=>∀ (w':Wd) (v:V),w'.h=h->Ok C w'->Le w w'->Tr C w' x v->D.rt v w'.H
 | .ex c h=>∀ w':Wd,w'.h=h->Ok C w'->Le w w'->E (.ref (C.cl c)) none w'.H
 | .no=>False
def SS (C:Ct) (E:XK) (t:TS) (m:AS):Prop:=∀ (w:Wd) (env:AEnv) (σ:St) (D:Ends),Ok C w->yj C w env σ->SSat C E w (m env w.h) D->t D σ w.H
def SG (C:Ct) (E:XK) (g:TG) (m:AV->AEnv->AH->Re AEnv):Prop:=∀ (w:Wd) (x:AV) (v:V) (env:AEnv) (σ:St) (Q:St->Hp->Prop),Ok C w->yj C w env σ->Tr C w x v ->
 Sat C E w (m x env w.h) (λenv' w' => ∀ σ',yj C w' env' σ'->Q σ' w'.H)->g v σ w.H Q
def SGs (C:Ct) (E:XK) (g:TGs) (m:List AV->AEnv->AH->Re AEnv):Prop:=∀ (w:Wd) (xs:List AV) (vs:List V) (env:AEnv) (σ:St) (Q:St->Hp->Prop),Ok C w->yj C w env σ->Trs C w xs vs ->
 Sat C E w (m xs env w.h) (λenv' w' => ∀ σ',yj C w' env' σ'->Q σ' w'.H)->g vs σ w.H Q
section
variable {C:Ct} {E:XK} {w:Wd}
theorem SSat.le {w0:Wd} {r:SRe} {D:Ends} (le:Le w0 w) (s:SSat C E w0 r D):SSat C E w r D:=by
 cases r with
 | nx env h=>exact λw' σ e ok l en=>s w' σ e ok (le.trans l) en
 | bk env h=>exact λw' σ e ok l en=>s w' σ e ok (le.trans l) en
 | ct env h=>exact λw' σ e ok l en=>s w' σ e ok (le.trans l) en
 | rt x h=>exact λw' v e ok l t=>s w' v e ok (le.trans l) t
 | ex c h=>exact λw' e ok l=>s w' e ok (le.trans l)
 | no=>exact s
theorem Sat.to {α:Type} {r:Re α} {f:α->AH->SRe} {D:Ends} (s:SSat C E w (r.to f) D):Sat C E w r (λx w1=>SSat C E w1 (f x w1.h) D):=by
 cases r with
 | ok x h=>exact λw' e ok le=>by subst e;exact SSat.le le s
 | ex c h=>exact s
 | no=>exact s
end
@[simp] def y0:AS:=λenv h=>.nx env h
@[simp] def sSeq (a b:AS):AS:=λenv h=>(a env h).then b
@[simp] def jg (a:AE):AS:=λenv h=>(a env h).to λ_ h=>.nx env h
@[simp] def sRet (a:AE):AS:=λenv h=>(a env h).to λx h=>.rt x h
@[simp] def sIf (t:AT) (a b:AS):AS:=λenv h=>(t env h).to λc h=>if c=true then a env h else b env h
@[simp] def sAsg (a:AE) (g:AV->AEnv->AH->Re AEnv):AS:=λenv h=>(a env h).to λx h=>(g x env h).to λenv h=>.nx env h
@[simp] def gN (i:Nat):AV->AEnv->AH->Re AEnv:=λx env h=>.ok (env.set i (some x)) h
@[simp] def uu:List AV->AEnv->AH->Re AEnv
 | [],env,h=>.ok env h
 | _,_,_=>.no
@[simp] def yz (g:AV->AEnv->AH->Re AEnv) (r:List AV->AEnv->AH->Re AEnv):List AV->AEnv->AH->Re AEnv
 | x::xs,env,h=>(g x env h).bind λenv h=>r xs env h
 | [],_,_=>.no
@[simp] def gT (n:Nat) (r:List AV->AEnv->AH->Re AEnv):AV->AEnv->AH->Re AEnv
 | .tup xs,env,h=>if xs.length=n then r xs env h else .no
 | _,_,_=>.no
@[simp] def putL:AV->AV->AV->AH->Option AH
 | .ref k, .int i,x,h=>match h[k]? with
  | some (.lst xs)=>match ixN xs.length i with | some j=>some (h.set k (.lst (xs.set j x))) | none=>none
  | _=>none
 | _,_,_,_=>none
@[simp] def gr (o i:AE):AV->AEnv->AH->Re AEnv:=λx env h=>(o env h).bind λa h=>(i env h).bind λb h=>match putL a b x h with | some h=>.ok env h | none=>.no
section
variable {C:Ct} {E:XK}
theorem xf:SS C E tNext y0:=λw env σ D ok en s=>s w σ rfl ok (Le.refl w) en
theorem ja {t u:TS} {a b:AS} (ha:SS C E t a) (hb:SS C E u b):SS C E (tSeq t u) (sSeq a b):=by
 intro w env σ D ok en s;refine ha w env σ _ ok en ?_;unfold sSeq at s;cases e:a env w.h with
 | nx env' h' =>
  rw [e] at s;intro w' σ' e' ok' le' en';subst e';exact hb w' env' σ' D ok' en' (SSat.le le' s)
 | bk env' h' => rw [e] at s;exact s
 | ct env' h' => rw [e] at s;exact s
 | rt x h' => rw [e] at s;exact s
 | ex c h' => rw [e] at s;exact s
 | no=>rw [e] at s;exact s
theorem jr {t:TE} {m:AE} (h:SE C E t m):SS C E (tDrop t) (jg m):=λw env σ D ok en s =>
 h w env σ _ ok en (Sat.mono (Sat.to s) λx w1 ok1 le1 s1 v tv=>s1 w1 σ rfl ok1 (Le.refl w1) (en.mono ok le1))
theorem xj {t:TE} {m:AE} (h:SE C E t m):SS C E (tRet t) (sRet m):=λw env σ D ok en s =>
 h w env σ _ ok en (Sat.mono (Sat.to s) λx w1 ok1 le1 s1 v tv=>s1 w1 v rfl ok1 (Le.refl w1) tv)
theorem yv {c:TT} {t u:TS} {mc:AT} {a b:AS} (hc:STs C E c mc) (ha:SS C E t a) (hb:SS C E u b):SS C E (tIfS c t u) (sIf mc a b):=λw env σ D ok en s =>
 hc w env σ _ ok en (Sat.mono (Sat.to s) λc w1 ok1 le1 s1=>by
  cases c with
  | true=>exact iteT (ha w1 env σ D ok1 (en.mono ok le1) (by simpa using s1))
  | false=>exact iteF (hb w1 env σ D ok1 (en.mono ok le1) (by simpa using s1)))
theorem jt {t:TE} {m:AE} {g:TG} {mg:AV->AEnv->AH->Re AEnv} (h:SE C E t m) (hg:SG C E g mg):SS C E (tAsg t g) (sAsg m mg):=λw env σ D ok en s =>
 h w env σ _ ok en (Sat.mono (Sat.to s) λx w1 ok1 le1 s1 v tv=>hg w1 x v env σ _ ok1 (en.mono ok le1) tv (Sat.mono (Sat.to s1) λenv2 w2 ok2 le2 s2 σ2 en2=>s2 w2 σ2 rfl ok2 (Le.refl w2) en2))
theorem jm {i:Nat}:SG C E (ki i) (gN i):=λw x v env σ Q ok en t s=>s.here ok _ (en.set i t)
theorem qh0:SGs C E gNil uu:=by
 intro w xs vs env σ Q ok en t s;cases xs with
 | nil=>rw [Trs] at t;exact ⟨t,Sat.here (P:=λenv' w' => ∀ σ',yj C w' env' σ'->Q σ' w'.H) s ok _ en⟩
 | cons x xs=>exact s.elim
theorem fo {g:TG} {u:TGs} {m:AV->AEnv->AH->Re AEnv} {r:List AV->AEnv->AH->Re AEnv} (hg:SG C E g m) (hr:SGs C E u r):SGs C E (wy g u) (yz m r):=by
 intro w xs vs env σ Q ok en t s;cases xs with
 | nil=>exact s.elim
 | cons x xs =>
  rw [Trs] at t;obtain ⟨v,us,rfl,t1,t2⟩:=t;have s':Sat C E w ((m x env w.h).bind λenv h=>r xs env h) (λenv' w' => ∀ σ',yj C w' env' σ'->Q σ' w'.H):=s
  exact ⟨v,us,rfl,hg w x v env σ _ ok en t1 (s'.bind.mono λenv1 w1 ok1 le1 s1 σ1 en1=>hr w1 xs us env1 σ1 Q ok1 en1 (t2.mono ok le1) s1)⟩
theorem qjt {n:Nat} {g:TGs} {m:List AV->AEnv->AH->Re AEnv} (hg:SGs C E g m):SG C E (gTup C.K n g) (gT n m):=by
 intro w x v env σ Q ok en t s;cases x with
 | tup xs =>
  rw [Tr] at t;obtain ⟨a,vs,rfl,hs,ht⟩:=t;have s':Sat C E w (if xs.length=n then m xs env w.h else .no) (λenv' w' => ∀ σ',yj C w' env' σ'->Q σ' w'.H):=s
  by_cases hl:xs.length=n
  ·rw [if_pos hl] at s'
   exact ⟨a,vs,rfl,hs,by rw [<- ht.len];exact hl,hg w xs vs env σ Q ok en ht s'⟩
  ·rw [if_neg hl] at s';exact s'.elim
 | _=>exact s.elim
theorem Ok.qj3 {w:Wd} (ok:Ok C w) {k:Nat} {a:Addr} {xs xs':List AV} {vs':List V} (e:w.h[k]?=some (.lst xs)) (ea:w.ρ[k]?=some a) (t:Trs C w xs' vs') :
  Ok C (w.put k (.lst xs') a (.lst vs'))/\Le w (w.put k (.lst xs') a (.lst vs')):=by
 have hl:Live w a:=⟨k,_,e,(by intro z;cases z),ea⟩
 have le:=ok.qch ea hl (.lst xs') (.lst vs');exact ⟨ok.put ea hl ⟨vs',vd,t.mono ok le⟩,le⟩
theorem qob {w:Wd} {x y z:AV} {u v q:V} {h':AH} (ok:Ok C w) (e:putL x y z w.h=some h') (tx:Tr C w x u) (ty:Tr C w y v) (tz:Tr C w z q) :
  ∃ p vs k j,u=.ref p/\v=.int k/\w.H p=some (.lst vs)/\ixN vs.length k=some j/\∃ w',w'.h=h'/\w'.H=upd w.H p (.lst (vs.set j q))/\Ok C w'/\Le w w':=by
 unfold putL at e;split at e
 ·rename_i h k i
  rw [Tr] at tx;rw [Tr] at ty;obtain ⟨a,rfl,ea⟩:=tx;split at e
  ·rename_i xs eh
   obtain ⟨vs,hH,t⟩:=ok.cell k _ a eh ea;split at e
   ·rename_i j ej
    cases e;obtain ⟨o1,l1⟩:=ok.qj3 eh ea (t.set tz j);exact ⟨a,vs,i,j,rfl,ty,hH,by rw [<- t.len];exact ej,_,rfl,rfl,o1,l1⟩
   ·cases e
  ·cases e
 ·cases e
theorem di {to ti:TE} {o i:AE} (ho:SE C E to o) (hi:SE C E ti i):SG C E (gSub to ti rSetL) (gr o i):=by
 intro w x v env σ Q ok en t s;refine ho w env σ _ ok en (s.bind.mono λa w1 ok1 le1 s1 u tu=>hi w1 env σ _ ok1 (en.mono ok le1) (s1.bind.mono λb w2 ok2 le2 s2 u2 tu2=>?_))
 split at s2
 ·rename_i h' e
  obtain ⟨p,vs,k,j,e1,e2,hH,hj,w',e3,e4,o',l'⟩:=qob ok2 e (tu.mono ok1 le2) tu2 (t.mono ok (le1.trans le2));refine ⟨p,vs,k,j,e1,e2,hH,hj,?_⟩;have:=s2 w' e3 o' l' σ (en.mono ok (le1.trans (le2.trans l')));rw [e4] at this;exact this
 ·exact s2.elim
mutual
def beqA:AV->AV->Bool
 | .non, .non=>true
 | .bl a, .bl b=>a == b
 | .int a, .int b=>a == b
 | .str a, .str b=>a == b
 | .tup a, .tup b=>uv a b
 | .lst a, .lst b=>uv a b
 | .dk k a, .dk l b=>decide (k=l) && uv a b
 | .ref a, .ref b=>a == b
 | .kst a, .kst b=>uv a b
 | .xc a, .xc b=>a == b
 | _,_=>false
def uv:List AV->List AV->Bool
 | [],[]=>true
 | x::xs,y::ys=>beqA x y && uv xs ys
 | _,_=>false
end
mutual
theorem qgp:∀ {x y:AV},beqA x y=true->x=y
 | .non,y,h=>by cases y <;> simp_all [beqA]
 | .bl a,y,h=>by cases y <;> simp_all [beqA]
 | .int a,y,h=>by cases y <;> simp_all [beqA]
 | .str a,y,h=>by cases y <;> simp_all [beqA]
 | .tup a,y,h=>by
  cases y with
  | tup b=>rw [beqA] at h;rw [nj h]
  | _=>simp [beqA] at h
 | .lst a,y,h=>by
  cases y with
  | lst b=>rw [beqA] at h;rw [nj h]
  | _=>simp [beqA] at h
 | .dk k a,y,h=>by
  cases y with
  | dk l b =>
   rw [beqA,Bool.and_eq_true] at h;rw [nj h.2,of_decide_eq_true h.1]
  | _=>simp [beqA] at h
 | .ref a,y,h=>by cases y <;> simp_all [beqA]
 | .kst a,y,h=>by
  cases y with
  | kst b=>rw [beqA] at h;rw [nj h]
  | _=>simp [beqA] at h
 | .xc a,y,h=>by cases y <;> simp_all [beqA]
theorem nj:∀ {xs ys:List AV},uv xs ys=true->xs=ys
 | [],ys,h=>by cases ys <;> simp_all [uv]
 | x::xs,ys,h=>by
  cases ys with
  | nil=>simp [uv] at h
  | cons y ys =>
   rw [uv,Bool.and_eq_true] at h;rw [qgp h.1,nj h.2]
end
mutual
theorem qg3:∀ (x:AV),beqA x x=true
 | .non=>by rw [beqA]
 | .bl a=>by rw [beqA];exact beq_self_eq_true a
 | .int a=>by rw [beqA];exact beq_self_eq_true a
 | .str a=>by rw [beqA];exact beq_self_eq_true a
 | .tup a=>by rw [beqA];exact nk a
 | .lst a=>by rw [beqA];exact nk a
 | .dk k a=>by rw [beqA,nk a,decide_eq_true rfl];rfl
 | .ref a=>by rw [beqA];exact beq_self_eq_true a
 | .kst a=>by rw [beqA];exact nk a
 | .xc a=>by rw [beqA];exact beq_self_eq_true a
theorem nk:∀ (xs:List AV),uv xs xs=true
 | []=>by rw [uv]
 | x::xs=>by rw [uv,qg3 x,nk xs];rfl
end
def okW (h:AH) (all:List AV):Option Nat->Bool
 | none=>true
 | some k=>match h[k]? with | some (.lst ys)=>uv ys all | _=>false
theorem xx {h:AH} {all:List AV}:okW h all none=true:=rfl
theorem qbs {h:AH} {all:List AV} {k:Nat} (e:h[k]?=some (.lst all)):okW h all (some k)=true:=by
 simp only [okW,e];exact nk all
theorem of_okW {h:AH} {all:List AV} {k:Nat} (e:okW h all (some k)=true):h[k]?=some (.lst all):=by
 simp only [okW] at e;split at e
 ·rename_i ys q;rw [q,nj e]
 ·cases e
abbrev AI:=AEnv->AH->Re (List AV×Option Nat)
structure ItOk (C:Ct) (w1:Wd) (J:It) (all:List AV) (wt:Option Nat):Prop where
 go:∀ (w:Wd) (i:Nat),Ok C w->Le w1 w->okW w.h all wt=true->i<all.length->J.go i w.H
 yld:∀ (w:Wd) (i:Nat) (x:AV) (v:V) (H':Hp),Ok C w->Le w1 w->okW w.h all wt=true->all[i]?=some x->J.yld i w.H v H'->∃ w',w'.H=H'/\w'.h=w.h/\Ok C w'/\Le w w'/\Tr C w' x v
 stop:∀ (w:Wd) (i:Nat),Ok C w->Le w1 w->okW w.h all wt=true->i=all.length->J.stop i w.H
def SI (C:Ct) (E:XK) (wi:TI) (m:AI):Prop:=∀ (w:Wd) (env:AEnv) (σ:St) (R:It->Hp->Prop),Ok C w->yj C w env σ->Sat C E w (m env w.h) (λp w' => ∀ J,ItOk C w' J p.1 p.2->R J w'.H)->wi σ w.H R
def vh (wt:Option Nat) (all:List AV) (g:AV->AEnv->AH->Re AEnv) (body:AS):List AV->AEnv->AH->SRe
 | [],env,h=>if okW h all wt=true then .nx env h else .no
 | x::xs,env,h=>if okW h all wt=true then (g x env h).to λenv h=>match body env h with
   | .nx env h=>vh wt all g body xs env h
   | .ct env h=>vh wt all g body xs env h
   | .bk env h=>.nx env h
   | .rt x h=>.rt x h
   | .ex c h=>.ex c h
   | .no=>.no
  else .no
@[simp] def sFor (it:AI) (g:AV->AEnv->AH->Re AEnv) (body:AS):AS:=λenv h=>(it env h).to λp h=>vh p.2 p.1 g body p.1 env h
theorem uf {wi:TI} {it:AI} {g:TG} {mg:AV->AEnv->AH->Re AEnv} {tb:TS} {body:AS} (hi:SI C E wi it) (hg:SG C E g mg) (hb:SS C E tb body):SS C E (tFor wi g tb) (sFor it mg body):=by
 intro w env σ D ok en s;refine hi w env σ _ ok en (Sat.mono (Sat.to s) λp w1 ok1 le1 s1 J hJ=>?_)
 obtain ⟨all,wt⟩:=p;refine ⟨λi m σ H=>m=all.length - i/\i<=all.length/\∃ w env,w.H=H/\Ok C w/\Le w1 w/\yj C w env σ/\SSat C E w (vh wt all mg body (all.drop i) env w.h) D,
  ⟨all.length,by simp,Nat.zero_le _,w1,env,rfl,ok1,Le.refl w1,en.mono ok le1,s1⟩,?_⟩
 rintro i m σ H ⟨rfl,hi,w2,env2,rfl,ok2,le2,en2,s2⟩
 by_cases hlt:i<all.length
 ·right
  have hx:all[i]?=some all[i]:=List.getElem?_eq_getElem hlt;rw [List.drop_eq_getElem_cons hlt,vh] at s2
  by_cases hw:okW w2.h all wt=true
  ·rw [if_pos hw] at s2
   refine ⟨hJ.go w2 i ok2 le2 hw hlt,λσ' H' => ∃ w env,w.H=H'/\Ok C w/\Le w1 w/\yj C w env σ'/\SSat C E w (vh wt all mg body (all.drop (i+1)) env w.h) D,λσ' H' q=>⟨all.length - (i+1),by omega,rfl,hlt,q⟩,λv H' y=>?_⟩
   obtain ⟨w3,rfl,e3,ok3,le3,t3⟩:=hJ.yld w2 i _ v H' ok2 le2 hw hx y;rw [<- e3] at s2;refine hg w3 _ v env2 σ _ ok3 (en2.mono ok2 le3) t3 (Sat.mono (Sat.to (SSat.le le3 s2)) λenv4 w4 ok4 le4 s4 σ4 en4=>?_)
   refine hb w4 env4 σ4 _ ok4 en4 ?_;have le14:Le w1 w4:=le2.trans (le3.trans le4);cases e:body env4 w4.h with
   | nx env5 h5 =>
    rw [e] at s4;intro w5 σ5 e5 ok5 le5 en5;subst e5;exact ⟨w5,env5,rfl,ok5,le14.trans le5,en5,SSat.le le5 s4⟩
   | ct env5 h5 =>
    rw [e] at s4;intro w5 σ5 e5 ok5 le5 en5;subst e5;exact ⟨w5,env5,rfl,ok5,le14.trans le5,en5,SSat.le le5 s4⟩
   | bk env5 h5=>rw [e] at s4;exact s4
   | rt x h5=>rw [e] at s4;exact s4
   | ex c h5=>rw [e] at s4;exact s4
   | no=>rw [e] at s4;exact s4
  ·rw [if_neg hw] at s2;exact s2.elim
 ·left
  have hd:all.drop i=[]:=List.drop_eq_nil_of_le (by omega)
  rw [hd,vh] at s2
  by_cases hw:okW w2.h all wt=true
  ·rw [if_pos hw] at s2
   exact ⟨hJ.stop w2 i ok2 le2 hw (Nat.le_antisymm hi (Nat.le_of_not_lt hlt)),s2 w2 σ rfl ok2 (Le.refl w2) en2⟩
  ·rw [if_neg hw] at s2;exact s2.elim
end
@[simp] def watch:AV->Option Nat
 | .ref k=>some k
 | _=>none
@[simp] def iLst (a:AE):AI:=λenv h=>(a env h).bind λx h=>match ue h x with | some xs=>.ok (xs,watch x) h | none=>.no
def intsFrom (lo:Int) (n:Nat):List AV:=(List.range n).map λi:Nat=>AV.int (lo+(i:Int))
def rng1:AV->AH->Re (List AV×Option Nat):=λx h=>match x with
 | .int (.ofNat n)=>if n<=16777216 then .ok (intsFrom 0 n,none) h else .no
 | .int (.negSucc n)=>if n<=16777216 then .ok (intsFrom 0 0,none) h else .no
 | _=>.no
def rng2:AV->AV->AH->Re (List AV×Option Nat):=λx y h=>match x,y with
 | .int (.ofNat i), .int (.ofNat j)=>if i<=16777216/\j<=16777216 then .ok (intsFrom i (j - i),none) h else .no
 | .int (.ofNat i), .int (.negSucc j)=>if i<=16777216/\j<=16777216 then .ok (intsFrom i 0,none) h else .no
 | _,_=>.no
@[simp] def vy (a:AE):AI:=λenv h=>(a env h).bind rng1
@[simp] def qgz (a b:AE):AI:=λenv h=>(a env h).bind λx h=>(b env h).bind (rng2 x)
theorem dj {n:Nat} {h:AH} (h1:n<=1000000):rng1 (.int (n:Int)) h=.ok (intsFrom 0 n,none) h:=by
 show (if _ then _ else _)=_
 rw [if_pos (by omega)]
theorem qof {j:Int} {h:AH} (h0:0<=j) (h1:j<=1000000):rng1 (.int j) h=.ok (intsFrom 0 j.toNat,none) h:=by
 obtain ⟨n,rfl⟩:=Int.eq_ofNat_of_zero_le h0;exact dj (by omega)
theorem qlo {i j:Nat} {h:AH} (h1:i<=1000000) (h3:j<=1000000):rng2 (.int (i:Int)) (.int (j:Int)) h=.ok (intsFrom i (j - i),none) h:=by
 show (if _ then _ else _)=_
 rw [if_pos ⟨by omega,by omega⟩]
theorem len_from (i:Int) (n:Nat):(intsFrom i n).length=n:=by simp [intsFrom]
def strA (x:Str):List AV:=x.cps.toList.map λc=>AV.str ⟨#[c]⟩
@[simp] def iStrA (a:AE):AI:=λenv h=>(a env h).bind λx h=>match x with
 | .str z=>.ok (strA z,none) h
 | _=>.no
section
variable {C:Ct} {E:XK} {ta tb:TE} {ma mb:AE}
theorem qfq {w1 w:Wd} {x:AV} {xs:List AV} {v:V} (ok1:Ok C w1) (e:ue w1.h x=some xs) (t:Tr C w1 x v) (ok:Ok C w) (le:Le w1 w) (hw:okW w.h xs (watch x)=true):∃ a vs,v=.ref a/\SqL C.K w.H a vs/\Trs C w xs vs:=by
 have t':=t.mono ok1 le;have e':ue w.h x=some xs:=by
  cases x with
  | lst ys=>exact e
  | kst ys=>exact e
  | ref k=>simp only [ue,of_okW hw]
  | _=>cases e
 obtain ⟨a,vs,h1,h2,h3⟩:=m6 ok e' t';exact ⟨a,vs,h1,h2,h3⟩
theorem vi (ha:SE C E ta ma):SI C E (iList C.K ta) (iLst ma):=by
 intro w env σ R ok en s;refine ha w env σ _ ok en (s.bind.mono λx w1 ok1 le1 s1 v tv=>?_)
 split at s1
 ·rename_i xs e
  obtain ⟨a,vs,rfl,r,t⟩:=m6 ok1 e tv;refine ⟨a,rfl,⟨vs,r⟩,s1.here ok1 _ ?_⟩;have key:∀ w,Ok C w->Le w1 w->okW w.h xs (watch x)=true->∃ us,SqL C.K w.H a us/\Trs C w xs us:=λw ok le hw=>by
   obtain ⟨a',us,e',h2,h3⟩:=qfq ok1 e tv ok le hw;cases e';exact ⟨us,h2,h3⟩
  refine ⟨λw i ok le hw hi=>?_,λw i y v H' ok le hw hy yl=>?_,λw i ok le hw hi=>?_⟩
  ·obtain ⟨us,h2,h3⟩:=key w ok le hw
   exact ⟨us,us[i]'(by rw [<- h3.len];exact hi),h2,List.getElem?_eq_getElem _⟩
  ·obtain ⟨us,h2,h3⟩:=key w ok le hw
   obtain ⟨rfl,hq⟩:=yl;obtain ⟨q,e1,tq⟩:=h3.get hy;have:=hq us h2;rw [e1] at this;cases this;exact ⟨w,rfl,rfl,ok,Le.refl w,tq⟩
  ·obtain ⟨us,h2,h3⟩:=key w ok le hw
   exact ⟨us,h2,by rw [<- h3.len];exact Nat.le_of_eq hi.symm⟩
 ·exact s1.elim
theorem fq {w1:Wd} {lo:Int} {n:Nat}:ItOk C w1 (Itr lo n) (intsFrom lo n) none:=by
 refine ⟨λw i ok le hw hi=>?_,λw i y v H' ok le hw hy yl=>?_,λw i ok le hw hi=>?_⟩
 ·unfold intsFrom at hi;rw [List.length_map,List.length_range] at hi;exact hi
 ·obtain ⟨rfl,rfl⟩:=yl
  unfold intsFrom at hy;rw [List.getElem?_map] at hy;cases e:(List.range n)[i]? with
  | none=>rw [e] at hy;cases hy
  | some k =>
   rw [e] at hy;obtain ⟨h1,h2⟩:=List.getElem?_eq_some_iff.mp e;rw [List.getElem_range] at h2;subst h2;cases hy;exact ⟨w,rfl,rfl,ok,Le.refl w,by rw [Tr]⟩
 ·unfold intsFrom at hi;rw [List.length_map,List.length_range] at hi;exact Nat.le_of_eq hi.symm
theorem m7 (ha:SE C E ta ma):SI C E (iRng1 (vt ta tNil)) (vy ma):=by
 intro w env σ R ok en s;refine ha w env σ _ ok en (s.bind.mono λx w1 ok1 le1 s1 v tv=>?_)
 unfold rng1 at s1;split at s1
 ·rename_i n
  rw [Tr] at tv;subst tv
  by_cases hj:n<=16777216
  ·rw [if_pos hj] at s1
   exact ⟨_,rfl,by show (_:Int)<=(n:Int);omega,by show (n:Int)<_;omega,s1.here ok1 _ fq⟩
  ·rw [if_neg hj] at s1;exact s1.elim
 ·rename_i n
  rw [Tr] at tv;subst tv
  by_cases hj:n<=16777216
  ·rw [if_pos hj] at s1
   exact ⟨_,rfl,by rw [Int.negSucc_eq];omega,by rw [Int.negSucc_eq];omega,s1.here ok1 _ fq⟩
  ·rw [if_neg hj] at s1;exact s1.elim
 ·exact s1.elim
theorem qkg (ha:SE C E ta ma) (hb:SE C E tb mb):SI C E (iRng2 (vt ta (vt tb tNil))) (qgz ma mb):=by
 intro w env σ R ok en s;refine ha w env σ _ ok en (s.bind.mono λx w1 ok1 le1 s1 v tv=>hb w1 env σ _ ok1 (en.mono ok le1) (s1.bind.mono λy w2 ok2 le2 s2 u tu=>?_))
 unfold rng2 at s2;split at s2
 ·rename_i i j
  rw [Tr] at tv tu;subst tv;subst tu
  by_cases hj:i<=16777216/\j<=16777216
  ·rw [if_pos hj] at s2
   have e:((Int.ofNat j) - (Int.ofNat i)).toNat=j - i:=by show ((j:Int) - (i:Int)).toNat=_;omega
   refine ⟨_,_,rfl,⟨by show (_:Int)<=(i:Int);omega,by show (i:Int)<_;omega,by show (_:Int)<=(j:Int);omega,by show (j:Int)<_;omega⟩,?_⟩
   rw [e];exact s2.here ok2 _ fq
  ·rw [if_neg hj] at s2;exact s2.elim
 ·rename_i i j
  rw [Tr] at tv tu;subst tv;subst tu
  by_cases hj:i<=16777216/\j<=16777216
  ·rw [if_pos hj] at s2
   have e:((Int.negSucc j) - (Int.ofNat i)).toNat=0:=by rw [Int.negSucc_eq];show (-((j:Int)+1) - (i:Int)).toNat=_;omega
   refine ⟨_,_,rfl,⟨by show (_:Int)<=(i:Int);omega,by show (i:Int)<_;omega,by rw [Int.negSucc_eq];omega,by rw [Int.negSucc_eq];omega⟩,?_⟩
   rw [e];exact s2.here ok2 _ fq
  ·rw [if_neg hj] at s2;exact s2.elim
 ·exact s2.elim
theorem si_str (ha:SE C E ta ma):SI C E (iStr ta) (iStrA ma):=by
 intro w env σ R ok en s;refine ha w env σ _ ok en (s.bind.mono λx w1 ok1 le1 s1 v tv=>?_)
 split at s1
 ·rename_i z
  rw [Tr] at tv;subst tv;refine ⟨z,rfl,s1.here ok1 _ ?_⟩;have hl:(strA z).length=z.cps.toList.length:=by unfold strA;rw [List.length_map]
  refine ⟨λw i ok le hw hi=>?_,λw i y v H' ok le hw hy yl=>?_,λw i ok le hw hi=>?_⟩
  ·rw [hl] at hi;exact hi
  ·obtain ⟨rfl,c,hc,rfl⟩:=yl
   unfold strA at hy;rw [List.getElem?_map,hc] at hy;cases hy;exact ⟨w,rfl,rfl,ok,Le.refl w,by rw [Tr]⟩
  ·rw [hl] at hi;exact hi
 ·exact s1.elim
def SGo (C:Ct) (E:XK) (n:Nat) (g:TG) (m:AV->AEnv->AH->Re AEnv):Prop:=∀ (w:Wd) (x:AV) (v:V) (env:AEnv) (σ:St) (Q:St->Hp->Prop),Ok C w->yj C w env σ->Tr C w x v ->
 Sat C E w (m x env w.h) (λenv' w' => ∀ σ',yj C w' env' σ'->σ'.length=σ.length->σ'.drop n=σ.drop n->Q σ' w'.H)->g v σ w.H Q
def SGos (C:Ct) (E:XK) (n:Nat) (g:TGs) (m:List AV->AEnv->AH->Re AEnv):Prop:=∀ (w:Wd) (xs:List AV) (vs:List V) (env:AEnv) (σ:St) (Q:St->Hp->Prop),Ok C w->yj C w env σ->Trs C w xs vs ->
 Sat C E w (m xs env w.h) (λenv' w' => ∀ σ',yj C w' env' σ'->σ'.length=σ.length->σ'.drop n=σ.drop n->Q σ' w'.H)->g vs σ w.H Q
theorem xo {i n:Nat} (h:i<n:=by decide):SGo C E n (ki i) (gN i):=λw x v env σ Q ok en t s=>s.here ok _ (en.set i t) List.length_set (List.drop_set_of_lt h)
theorem qa {n:Nat}:SGos C E n gNil uu:=by
 intro w xs vs env σ Q ok en t s;cases xs with
 | nil=>rw [Trs] at t;exact ⟨t,Sat.here (P:=λenv' w' => ∀ σ',yj C w' env' σ'->σ'.length=σ.length->σ'.drop n=σ.drop n->Q σ' w'.H) s ok _ en rfl rfl⟩
 | cons x xs=>exact s.elim
theorem vz {n:Nat} {g:TG} {u:TGs} {m:AV->AEnv->AH->Re AEnv} {r:List AV->AEnv->AH->Re AEnv} (hg:SGo C E n g m) (hr:SGos C E n u r):SGos C E n (wy g u) (yz m r):=by
 intro w xs vs env σ Q ok en t s;cases xs with
 | nil=>exact s.elim
 | cons x xs =>
  rw [Trs] at t;obtain ⟨v,us,rfl,t1,t2⟩:=t;have s':Sat C E w ((m x env w.h).bind λenv h=>r xs env h) (λenv' w' => ∀ σ',yj C w' env' σ'->σ'.length=σ.length->σ'.drop n=σ.drop n->Q σ' w'.H):=s
  exact ⟨v,us,rfl,hg w x v env σ _ ok en t1 (s'.bind.mono λenv1 w1 ok1 le1 s1 σ1 en1 l1 d1=>hr w1 xs us env1 σ1 Q ok1 en1 (t2.mono ok le1) (s1.mono λenv2 w2 ok2 le2 s2 σ2 en2 l2 d2=>s2 σ2 en2 (l2.trans l1) (d2.trans d1)))⟩
theorem rj {n k:Nat} {g:TGs} {m:List AV->AEnv->AH->Re AEnv} (hg:SGos C E n g m):SGo C E n (gTup C.K k g) (gT k m):=by
 intro w x v env σ Q ok en t s;cases x with
 | tup xs =>
  rw [Tr] at t;obtain ⟨a,vs,rfl,hs,ht⟩:=t;have s':Sat C E w (if xs.length=k then m xs env w.h else .no) (λenv' w' => ∀ σ',yj C w' env' σ'->σ'.length=σ.length->σ'.drop n=σ.drop n->Q σ' w'.H):=s
  by_cases hl:xs.length=k
  ·rw [if_pos hl] at s'
   exact ⟨a,vs,rfl,hs,by rw [<- ht.len];exact hl,hg w xs vs env σ Q ok en ht s'⟩
  ·rw [if_neg hl] at s';exact s'.elim
 | _=>exact s.elim
@[simp] def Re.noex {α:Type}:Re α->Re α
 | .ok x h=>.ok x h
 | _=>.no
@[simp] theorem Re.qdf {α:Type} (x:α) (h:AH):(Re.ok x h).noex=.ok x h:=rfl
def bEnv (n:Nat) (fv:List Nat) (env:AEnv):AEnv:=List.replicate n none++fv.map λi=>(env[i]?).join
def lcL (wt:Option Nat) (all:List AV) (g:AV->AEnv->AH->Re AEnv) (tc:AT) (te:AE) (be:AEnv):List AV->List AV->AH->Re (List AV)
 | [],acc,h=>if okW h all wt=true then .ok acc h else .no
 | x::xs,acc,h=>if okW h all wt=true then (g x be h).bind λenv h=>(tc env h).bind λb h=>if b=true then (te env h).bind λy h=>lcL wt all g tc te be xs (acc++[y]) h else lcL wt all g tc te be xs acc h else .no
@[simp] def aLcL (n:Nat) (fv:List Nat) (it:AI) (g:AV->AEnv->AH->Re AEnv) (tc:AT) (te:AE):AA:=λenv h=>(it env h).bind λp h=>if p.1.length<=sizeLine then (lcL p.2 p.1 g tc te (bEnv n fv env) p.1 [] h).noex else .no
@[simp] def aLc (n:Nat) (fv:List Nat) (it:AI) (g:AV->AEnv->AH->Re AEnv) (tc:AT) (te:AE):AE:=λenv h=>(aLcL n fv it g tc te env h).bind λxs h=>.ok (.lst xs) h
@[simp] def aLcC (n:Nat) (fv:List Nat) (it:AI) (g:AV->AEnv->AH->Re AEnv) (tc:AT) (te:AE):AE:=λenv h=>(aLcL n fv it g tc te env h).bind λxs h=>.ok (.ref h.length) (h++[.lst xs])
@[simp] def aYes:AT:=λ_ h=>.ok true h
theorem u7:STs C E tYes aYes:=λw env σ Q ok en s=>s.here ok
theorem qh8 {w:Wd} {env:AEnv} {σ:St} (en:yj C w env σ) (own:List Str) (fv:List (Str×Nat)):yj C w (bEnv own.length (fv.map (·.2)) env) (bσ own fv σ):=by
 unfold bEnv bσ kq;refine ⟨by simp,λi x h=>?_⟩
 by_cases hi:i<own.length
 ·rw [List.getElem?_append_left (by simpa using hi),List.getElem?_replicate,if_pos hi] at h
  cases h
 ·rw [List.getElem?_append_right (by simpa using hi),List.length_replicate,List.getElem?_map,List.getElem?_map] at h
  rw [List.getElem?_append_right (by simpa using hi),List.length_map,List.getElem?_map]
  cases e:fv[i - own.length]? with
  | none=>rw [e] at h;cases h
  | some p =>
   rw [e] at h;have h:(env[p.2]?).join=some x:=by simpa using h
   have h':env[p.2]?=some (some x):=by
    cases q:env[p.2]? with
    | none=>rw [q] at h;cases h
    | some o=>rw [q] at h;rw [show o=some x from h]
   obtain ⟨v,hv,tv⟩:=en.at_ p.2 x h';exact ⟨v,by simp [hv],tv⟩
theorem Sat.nb {α β γ:Type} {w1:Wd} {X:Re α} {g:α->AH->Re β} {f:β->AH->Re γ} {P:γ->Wd->Prop} (s:Sat C E w1 ((X.bind g).noex.bind f) P):Sat C E0 w1 X (λx w' => Sat C E w1 ((g x w'.h).noex.bind f) P):=by
 cases X with
 | ok x h=>exact λw' e ok le=>by subst e;exact s
 | ex c h=>exact s.elim
 | no=>exact s
theorem qkp {own:List Str} {fv:List (Str×Nat)} {wi:TI} {it:AI} {g:TG} {mg:AV->AEnv->AH->Re AEnv} {tc:TT} {mc:AT} {te:TE} {me:AE} (hi:SI C E wi it) (hg:SGo C E0 own.length g mg) (hc:STs C E0 tc mc) (he:SE C E0 te me)
  {w:Wd} {env:AEnv} {σ:St} {Q:VK} (ok:Ok C w) (en:yj C w env σ) {f:List AV->AH->Re AV} {P:AV->Wd->Prop} (s:Sat C E w ((aLcL own.length (fv.map (·.2)) it mg mc me env w.h).bind f) P)
  (k:∀ (w0 w':Wd) xs D vs,Ok C w0->Le w w0->w0.H D=none->Ok C w'->Le w0 w'->Lone w' D vs->Trs C w' xs vs->Sat C E w0 (f xs w'.h) P->Q (.ref D) w'.H):tLc own fv wi g tc te σ w.H Q:=by
 have s0:Sat C E w ((it env w.h).bind λp h=>(if p.1.length<=sizeLine then (lcL p.2 p.1 mg mc me (bEnv own.length (fv.map (·.2)) env) p.1 [] h).noex else .no:Re (List AV)).bind f) P:=by
  unfold aLcL at s
  revert s
  cases it env w.h <;> exact λs=>s
 refine hi w env σ _ ok en (s0.bind.mono λp w1 ok1 le1 s1 J hJ D hD=>?_)
 obtain ⟨all,wt⟩:=p
 by_cases hsz:all.length<=sizeLine
 ·have s1:Sat C E w1 ((if all.length<=sizeLine then (lcL wt all mg mc me (bEnv own.length (fv.map (·.2)) env) all [] w1.h).noex else .no:Re (List AV)).bind f) P:=s1
  rw [if_pos hsz] at s1;have en1:=en.mono ok le1;refine ⟨λi m H=>m=all.length - i/\i<=all.length/\∃ w2 acc ys,w2.H=H/\Ok C w2/\Le w1 w2/\Lone w2 D ys/\Trs C w2 acc ys/\acc.length<=i/\Sat C E w1 ((lcL wt all mg mc me (bEnv own.length (fv.map (·.2)) env) (all.drop i) acc w2.h).noex.bind f) P,⟨all.length,by simp,Nat.zero_le _,w1.fresh D (.lst []),[],[],rfl,ok1.fresh hD _,ok1.q55 hD _,?_, .nil,Nat.zero_le _,s1⟩,?_⟩
  ·exact ⟨vd,λz=>ok1.fzt D z hD,λz=>ok1.th D (ok1.qil z) hD,λz=>ok1.th D z hD⟩
  ·rintro i m H ⟨rfl,hi,w2,acc,ys,rfl,ok2,le2,L2,t2,hal,s3⟩
   by_cases hlt:i<all.length
   ·right
    have hx:all[i]?=some all[i]:=List.getElem?_eq_getElem hlt;rw [List.drop_eq_getElem_cons hlt,lcL] at s3
    by_cases hw:okW w2.h all wt=true
    ·rw [if_pos hw] at s3
     refine ⟨hJ.go w2 i ok2 le2 hw hlt,λv H5=>∃ w5 acc' ys,w5.H=H5/\Ok C w5/\Le w1 w5/\Lone w5 D ys/\(∃ y,Tr C w5 y v/\Trs C w5 acc' ys/\acc'.length<=i/\Sat C E w1 ((lcL wt all mg mc me (bEnv own.length (fv.map (·.2)) env) (all.drop (i+1)) (acc' ++ [y]) w5.h).noex.bind f) P),
      λH4=>∃ w4 acc' ys,w4.H=H4/\Ok C w4/\Le w1 w4/\Lone w4 D ys/\Trs C w4 acc' ys/\acc'.length<=i/\Sat C E w1 ((lcL wt all mg mc me (bEnv own.length (fv.map (·.2)) env) (all.drop (i+1)) acc' w4.h).noex.bind f) P,?_,?_,?_⟩
     ·rintro v H5 ⟨w5,acc',ys',rfl,ok5,le5,L5,y,ty,t5,hal5,s5⟩
      refine ⟨ys',L5.at_,?_,all.length - (i+1),by omega,rfl,hlt,w5.poke D (.lst (ys' ++ [v])),acc' ++ [y],ys' ++ [v],rfl,ok5.poke L5 _,le5.poke hD,?_,(t5.app (.one ty)).poke L5 _,?_,s5⟩
      ·have:=t5.len;omega
      ·exact ⟨vd,L5.nf,L5.nl,L5.nr⟩
      ·rw [List.length_append,List.length_singleton];omega
     ·rintro H4 ⟨w4,acc',ys',rfl,ok4,le4,L4,t4,hal4,s4⟩
      exact ⟨all.length - (i+1),by omega,rfl,hlt,w4,acc',ys',rfl,ok4,le4,L4,t4,by omega,s4⟩
     ·intro v H' yl
      obtain ⟨w3,rfl,e3,ok3,le3,t3⟩:=hJ.yld w2 i _ v H' ok2 le2 hw hx yl;have en3:=qh8 ((en1.mono ok1 le2).mono ok2 le3) own fv;rw [<- e3] at s3;refine hg w3 _ v _ _ _ ok3 en3 t3 ((Sat.nb s3).le (le2.trans le3) |>.mono λenv4 w4 ok4 le4 s4 σ4 en4 l4 d4=>⟨?_,?_⟩)
      ·refine ⟨σ4.take own.length,?_,?_⟩
       ·have hl:(bσ own fv σ).length=own.length+fv.length:=by unfold bσ kq;simp
        rw [List.length_take];omega
       ·have hd:(bσ own fv σ).drop own.length=kq fv σ:=by
         unfold bσ;rw [List.drop_append_of_le_length (by simp)]
         simp
        rw [<- hd, <- d4,List.take_append_drop]
      ·have le14:Le w1 w4:=le2.trans (le3.trans le4)
       refine hc w4 env4 σ4 _ ok4 en4 ((Sat.nb s4).le le14 |>.mono λb w5 ok5 le5 s5=>?_)
       have L5:Lone w5 D ys:=L2.le (le3.trans (le4.trans le5));have t5:Trs C w5 acc ys:=t2.mono ok2 (le3.trans (le4.trans le5));cases b with
       | true =>
        refine iteT (he w5 env4 σ4 _ ok5 (en4.mono ok4 le5) ?_);have s5':Sat C E w1 (((me env4 w5.h).bind λy h=>lcL wt all mg mc me (bEnv own.length (fv.map (·.2)) env) (all.drop (i+1)) (acc++[y]) h).noex.bind f) P:=by simpa using s5
        refine (Sat.nb s5').le (le14.trans le5) |>.mono λy w6 ok6 le6 s6 q tq=>?_
        exact ⟨w6,acc,ys,rfl,ok6,le14.trans (le5.trans le6),L5.le le6,y,tq,t5.mono ok5 le6,hal,s6⟩
       | false =>
        refine iteF ⟨w5,acc,ys,rfl,ok5,le14.trans le5,L5,t5,hal,by simpa using s5⟩
    ·rw [if_neg hw] at s3;exact s3.elim
   ·left
    have hd:all.drop i=[]:=List.drop_eq_nil_of_le (by omega)
    rw [hd,lcL] at s3
    by_cases hw:okW w2.h all wt=true
    ·rw [if_pos hw] at s3
     exact ⟨hJ.stop w2 i ok2 le2 hw (Nat.le_antisymm hi (Nat.le_of_not_lt hlt)),k w1 w2 acc D ys ok1 le1 hD ok2 le2 L2 t2 s3⟩
    ·rw [if_neg hw] at s3;exact s3.elim
 ·have s1:Sat C E w1 ((if all.length<=sizeLine then (lcL wt all mg mc me (bEnv own.length (fv.map (·.2)) env) all [] w1.h).noex else .no:Re (List AV)).bind f) P:=s1
  rw [if_neg hsz] at s1;exact s1.elim
theorem Le.keep {w0 w:Wd} {D:Addr} (le:Le w0 w) (h0:w0.H D=none):Le w0 (w.keep D):=
 ⟨le.pre,λa h=>.inr (le.fz a h),λb hb o r=>(le.ks b hb o r).elim .inl λz=>.inr ⟨.inr z.1,z.2⟩,λa h=>h.elim (λz=>.inr (.inl (z ▸ h0))) (le.fn a),le.nw,le.nn,le.rn⟩
def Wd.own (w:Wd) (D:Addr) (c:Cell):Wd:={w with ρ:=w.ρ++[D],h:=w.h++[c]}
theorem qg9 {w:Wd} (ok:Ok C w) {D:Addr} {c:Cell} {a:Addr} (h:Live (w.own D c) a):a=D\/Live w a:=by
 obtain ⟨k,c',e1,e2,e3⟩:=h;have hl:=ok.len
 by_cases hk:k<w.h.length
 ·exact .inr ⟨k,c',by rw [<- List.getElem?_append_left (l₂:=[c]) hk];exact e1,e2,by rw [<- List.getElem?_append_left (l₂:=[D]) (by omega)];exact e3⟩
 ·have hlt:=(List.getElem?_eq_some_iff.mp e3).1
  have:(w.own D c).ρ.length=w.ρ.length+1:=by simp [Wd.own]
  have hk':k=w.ρ.length:=by omega
  have e3':(w.ρ++[D])[k]?=some a:=e3;rw [hk',List.getElem?_append_right (Nat.le_refl _),Nat.sub_self] at e3';exact .inl (by simpa using e3'.symm)
theorem Le.own {w0 w:Wd} {D:Addr} {c:Cell} (ok:Ok C w) (le:Le w0 w) (h0:w0.H D=none):Le w0 (w.own D c):=by
 obtain ⟨t,e⟩:=le.pre;refine ⟨⟨t++[D],by show w.ρ++[D]=_;rw [e,List.append_assoc]⟩,le.fz,le.ks,le.fn,λa h=>?_,le.nn,λa h=>?_⟩
 ·rcases qg9 ok h with rfl | h
  ·exact .inl h0
  ·exact le.nw a h
 ·rcases List.mem_append.mp (show a∈w.ρ++[D] from h) with z | z
  ·exact le.rn a z
  ·exact .inr (by rw [List.mem_singleton.mp z];exact h0)
mutual
theorem Tr.own {w:Wd} {D:Addr} {c:Cell}:∀ {x:AV} {v:V},Tr C w x v->Tr C (w.own D c) x v
 | .non,v,h=>by rw [Tr] at h ⊢;exact h
 | .bl _,v,h=>by rw [Tr] at h ⊢;exact h
 | .int _,v,h=>by rw [Tr] at h ⊢;exact h
 | .str _,v,h=>by rw [Tr] at h ⊢;exact h
 | .tup xs,v,h=>by
  rw [Tr] at h ⊢;obtain ⟨a,vs,e,hs,ht⟩:=h;exact ⟨a,vs,e,hs,Trs.own ht⟩
 | .lst xs,v,h=>by
  rw [Tr] at h ⊢;obtain ⟨a,vs,e,f,r,ht⟩:=h;exact ⟨a,vs,e,f,r,Trs.own ht⟩
 | .dk ks xs,v,h=>by
  rw [Tr] at h ⊢;obtain ⟨a,kvs,e,f,r,hk,ht⟩:=h;exact ⟨a,kvs,e,f,r,hk,Trs.own ht⟩
 | .ref k,v,h=>by
  rw [Tr] at h ⊢;obtain ⟨a,e,hk⟩:=h;exact ⟨a,e,by show (w.ρ++[D])[k]?=some a;rw [List.getElem?_append_left (List.getElem?_eq_some_iff.mp hk).1];exact hk⟩
 | .kst xs,v,h=>by
  rw [Tr] at h ⊢;obtain ⟨a,vs,e,hs,ht⟩:=h;exact ⟨a,vs,e,hs,Trs.own ht⟩
 | .xc c,v,h=>by rw [Tr] at h ⊢;exact h
theorem Trs.own {w:Wd} {D:Addr} {c:Cell}:∀ {xs:List AV} {vs:List V},Trs C w xs vs->Trs C (w.own D c) xs vs
 | [],vs,h=>by rw [Trs] at h ⊢;exact h
 | x::xs,vs,h=>by
  rw [Trs] at h ⊢;obtain ⟨v,us,e,h1,h2⟩:=h;exact ⟨v,us,e,Tr.own h1,Trs.own h2⟩
end
theorem Flds.own {w:Wd} {D:Addr} {c:Cell}:∀ {fs:List (Nat×AV)} {us:List (Str×V)},Flds C w fs us->Flds C (w.own D c) fs us
 | [],us,h=>h
 | p::r,us,h=>by
  obtain ⟨v,us,e,h1,h2⟩:=h;exact ⟨v,us,e,Tr.own h1,Flds.own h2⟩
theorem Ok.own {w:Wd} (ok:Ok C w) {D:Addr} {vs:List V} {xs:List AV} (L:Lone w D vs) (t:Trs C w xs vs):Ok C (w.own D (.lst xs)):=by
 have hl:=ok.len;refine ⟨by simp [Wd.own,hl],?_,λa ha=>?_,λk c' a e ea=>?_,λa hlv hz=>?_,ok.fzt,ok.pn⟩
 ·show (w.ρ++[D]).Nodup
  rw [List.nodup_append];exact ⟨ok.nd,by simp,λa ha b hb=>by simp at hb;subst hb;intro z;subst z;exact L.nr ha⟩
 ·rcases List.mem_append.mp (show a∈w.ρ++[D] from ha) with z | z
  ·exact ok.th a z
  ·show w.H a≠none
   rw [List.mem_singleton.mp z,L.at_];intro z;cases z
 ·by_cases hk:k<w.h.length
  ·have e':w.h[k]?=some c':=by rw [<- List.getElem?_append_left (l₂:=[Cell.lst xs]) hk];exact e
   have ea':w.ρ[k]?=some a:=by rw [<- List.getElem?_append_left (l₂:=[D]) (by omega)];exact ea
   have h:=ok.cell k c' a e' ea';cases c' with
   | dead=>trivial
   | lst xs=>obtain ⟨vs,hH,ht⟩:=h;exact ⟨vs,hH,ht.own⟩
   | dk ks xs=>obtain ⟨kvs,hH,hk,ht⟩:=h;exact ⟨kvs,hH,hk,ht.own⟩
   | ins cc fs=>obtain ⟨hf,dx,fvs,hH,ht⟩:=h;exact ⟨hf,dx,fvs,hH,ht.own⟩
  ·have hlt:=(List.getElem?_eq_some_iff.mp ea).1
   have:(w.own D (.lst xs)).ρ.length=w.ρ.length+1:=by simp [Wd.own]
   have hk':k=w.ρ.length:=by omega
   have e3':(w.ρ++[D])[k]?=some a:=ea;rw [hk',List.getElem?_append_right (Nat.le_refl _),Nat.sub_self] at e3';have e4:(w.h++[Cell.lst xs])[k]?=some c':=e;rw [hk',hl,List.getElem?_append_right (Nat.le_refl _),Nat.sub_self] at e4;have a1:D=a:=by simpa using e3'
   have a2:Cell.lst xs=c':=by simpa using e4
   subst a1 a2;exact ⟨vs,L.at_,t.own⟩
 ·rcases qg9 ok hlv with rfl | h
  ·exact L.nf hz
  ·exact ok.fz a h hz
section
variable {own:List Str} {fv:List (Str×Nat)} {wi:TI} {it:AI} {g:TG} {mg:AV->AEnv->AH->Re AEnv} {tc:TT} {mc:AT} {te:TE} {me:AE}
theorem zc (hi:SI C E wi it) (hg:SGo C E0 own.length g mg) (hc:STs C E0 tc mc) (he:SE C E0 te me):SE C E (tLc own fv wi g tc te) (aLc own.length (fv.map (·.2)) it mg mc me):=λw env σ Q ok en s =>
 qkp hi hg hc he ok en s λw0 w' xs D vs ok0 le0 h0 ok' le' L t s' => s' (w'.keep D) rfl (ok'.keep L) (le'.keep h0) _ (by rw [Tr];exact ⟨D,vs,rfl, .inl rfl, .inl L.at_,t.keep⟩)
theorem ql7 (hi:SI C E wi it) (hg:SGo C E0 own.length g mg) (hc:STs C E0 tc mc) (he:SE C E0 te me):SE C E (tLc own fv wi g tc te) (aLcC own.length (fv.map (·.2)) it mg mc me):=λw env σ Q ok en s =>
 qkp hi hg hc he ok en s λw0 w' xs D vs ok0 le0 h0 ok' le' L t s' => s' (w'.own D (.lst xs)) rfl (ok'.own L t) (le'.own ok' h0) _ (by
  rw [Tr];refine ⟨D,rfl,?_⟩;show (w'.ρ++[D])[w'.h.length]?=some D;rw [<- ok'.len,List.getElem?_append_right (Nat.le_refl _),Nat.sub_self];rfl)
end
end
abbrev AF:=List AV->AH->Re AV
def spZ (C:Ct) (n:Nat) (m:AF):Sp:=λvs H Q E=>∃ (w:Wd) (xs:List AV),w.H=H/\Ok C w/\Trs C w xs vs/\xs.length=n/\Sat C E w (m xs w.h) (want C Q)
theorem dm {C:Ct} {n:Nat} {m:AF} {vs:List V} {H:Hp} {Q:VK} {E:XK} (h:spZ C n m vs H Q E):vs.length=n:=by
 obtain ⟨w,xs,_,_,t,hl,_⟩:=h;rw [<- t.len];exact hl
@[simp] def SRe.out:SRe->Re AV
 | .rt x h=>.ok x h
 | .nx _ h=>.ok .non h
 | .ex c h=>.ex c h
 | _=>.no
@[simp] theorem SRe.out_rt (x:AV) (h:AH):(SRe.rt x h).out=.ok x h:=rfl
@[simp] theorem SRe.out_nx (e:AEnv) (h:AH):(SRe.nx e h).out=.ok .non h:=rfl
@[simp] theorem SRe.out_ex (c:Nat) (h:AH):(SRe.ex c h).out=.ex c h:=rfl
@[simp] def fnZ (N:Nat) (body:AS):AF:=λxs h=>(body (xs.map some++List.replicate (N - xs.length) none) h).out
section
variable {C:Ct} {E:XK}
theorem qmw {w:Wd} {N:List Str} {xs:List AV} {vs:List V} (t:Trs C w xs vs):yj C w (xs.map some++List.replicate (N.length - xs.length) none) (L2.start N vs):=by
 unfold L2.start;have hl:=t.len;refine ⟨by simp [hl],λi x h=>?_⟩
 by_cases hi:i<xs.length
 ·rw [List.getElem?_append_left (by simpa using hi),List.getElem?_map] at h
  cases e:xs[i]? with
  | none=>rw [e] at h;cases h
  | some y =>
   rw [e] at h;cases h;obtain ⟨v,hv,tv⟩:=t.get e;exact ⟨v,by rw [List.getElem?_append_left (by simp;omega),List.getElem?_map,hv];rfl,tv⟩
 ·rw [List.getElem?_append_right (by simpa using hi),List.getElem?_replicate] at h
  split at h <;> cases h
theorem jz {N:List Str} {n k:Nat} {t:TS} {body:AS} {vs:List V} {H:Hp} {Q:VK} (hs:SS C E t body) (hN:N.length=k) (h:spZ C n (fnZ k body) vs H Q E):t {nx:=λ_ H' => Q .non H',rt:=Q} (L2.start N vs) H:=by
 obtain ⟨w,xs,rfl,ok,tr,hl,s⟩:=h;subst hN;refine hs w _ _ _ ok (qmw (N:=N) tr) ?_;unfold fnZ at s
 revert s
 cases body (xs.map some++List.replicate (N.length - xs.length) none) w.h with
 | rt x h=>exact λs w' v e ok' le tv=>s w' e ok' le v tv
 | nx env h=>exact λs w' σ e ok' le en=>s w' e ok' le .non (by rw [Tr])
 | ex c h=>exact λs=>s
 | bk env h=>exact λs=>s.elim
 | ct env h=>exact λs=>s.elim
 | no=>exact λs=>s.elim
def nq:List (Nat×AV)->List (Nat×AV)->Bool
 | [],[]=>true
 | p::r,q::s=>(p.1 == q.1) && beqA p.2 q.2 && nq r s
 | _,_=>false
theorem qf1:∀ {xs ys:List (Nat×AV)},nq xs ys=true->xs=ys
 | [],ys,h=>by cases ys <;> simp_all [nq]
 | (a,x)::xs,ys,h=>by
  cases ys with
  | nil=>simp [nq] at h
  | cons q ys =>
   obtain ⟨b,y⟩:=q;rw [nq,Bool.and_eq_true,Bool.and_eq_true] at h;have h1:a=b:=by simpa using h.1.1
   have h2:x=y:=qgp h.1.2;rw [h1,h2,qf1 h.2]
theorem qdq:∀ (xs:List (Nat×AV)),nq xs xs=true
 | []=>rfl
 | (a,x)::xs=>by rw [nq,qg3,qdq xs];simp
def beqC:Cell->Cell->Bool
 | .dead, .dead=>true
 | .lst a, .lst b=>uv a b
 | .dk k a, .dk l b=>decide (k=l) && uv a b
 | .ins c f, .ins d g=>(c == d) && nq f g
 | _,_=>false
theorem qp2 {x y:Cell} (h:beqC x y=true):x=y:=by
 cases x <;> cases y <;> simp only [beqC,Bool.false_eq_true] at h
 ·rfl
 ·rw [nj h]
 ·rw [Bool.and_eq_true] at h;rw [nj h.2,of_decide_eq_true h.1]
 ·rw [Bool.and_eq_true] at h;rw [qf1 h.2,eq_of_beq h.1]
theorem qmi (x:Cell):beqC x x=true:=by
 cases x with
 | dead=>rfl
 | lst a=>exact nk a
 | dk k a=>rw [beqC,nk,decide_eq_true rfl];rfl
 | ins c f=>rw [beqC,qdq];simp
def zp:AH->AH->Bool
 | [],_=>true
 | c::r,d::s=>beqC c d && zp r s
 | _::_,[]=>false
theorem qav:∀ {h h':AH},zp h h'=true->∃ g,h'=h++g
 | [],h',_=>⟨h',rfl⟩
 | c::r,[],e=>by simp [zp] at e
 | c::r,d::s,e=>by
  rw [zp,Bool.and_eq_true] at e;obtain ⟨g,hg⟩:=qav e.2;exact ⟨g,by rw [hg,qp2 e.1];rfl⟩
theorem qc8:∀ (h g:AH),zp h (h++g)=true
 | [],g=>rfl
 | c::r,g=>by rw [List.cons_append,zp,qmi,qc8 r g];rfl
def dn (m:AF):AF:=λxs h=>match m xs h with
 | .ok x h' => if (zp h h' && closed h.length x)=true then .ok x h else .no
 | .ex c h' => if zp h h'=true then .ex c h else .no
 | .no=>.no
theorem qlr {m:AF} {xs:List AV} {h g:AH} {x:AV} (e:m xs h=.ok x (h++g)) (c:closed h.length x=true):dn m xs h=.ok x h:=by
 unfold dn;rw [e];simp only [qc8,c,Bool.and_self,if_true]
theorem qlt {n:Nat} {m:AF} {vs:List V} {H:Hp} {Q:VK} (h:spZ C n (dn m) vs H Q E):spZ C n m vs H Q E:=by
 obtain ⟨w,xs,rfl,ok,tr,hl,s⟩:=h;refine ⟨w,xs,rfl,ok,tr,hl,?_⟩;unfold dn at s
 revert s
 cases m xs w.h with
 | ok x h' =>
  intro s w' e ok' le v tv
  by_cases hb:(zp w.h h' && closed w.h.length x)=true
  ·simp only [hb,if_true] at s
   rw [Bool.and_eq_true] at hb;obtain ⟨g,hg⟩:=qav hb.1;have hh:w'.h=w.h++g:=e.trans hg;exact s (w'.back w) rfl (Ok.back ok le ok' hh) le.back v (tv.back le ok.len hb.2)
  ·have s':Sat C E w (if (zp w.h h' && closed w.h.length x)=true then .ok x w.h else .no) (want C Q):=s
   rw [if_neg hb] at s';exact s'.elim
 | ex c h' =>
  intro s w' e ok' le
  by_cases hb:zp w.h h'=true
  ·have s':Sat C E w (if zp w.h h'=true then .ex c w.h else .no) (want C Q):=s
   rw [if_pos hb] at s';obtain ⟨g,hg⟩:=qav hb;have hh:w'.h=w.h++g:=e.trans hg;exact s' (w'.back w) rfl (Ok.back ok le ok' hh) le.back
  ·have s':Sat C E w (if zp w.h h'=true then .ex c w.h else .no) (want C Q):=s
   rw [if_neg hb] at s';exact s'.elim
 | no=>exact λs=>s
theorem yb {n:Nat} {m:AF} {t:TA} {ma:AA} (ha:SA C E n t ma):SE C E (i8 (spZ C n m) [] E t) (aC m ma):=λw env σ Q ok en s =>
 ha.run ok en s λxs w1 hl ok1 le1 s1 vs tv=>by
  rw [List.append_nil];exact ⟨w1,xs,rfl,ok1,tv,hl,s1⟩
@[simp] def vv (h:AH):AV->Option (Nat×List (Nat×AV))
 | .ref k=>match h[k]? with | some (.ins c fs)=>some (c,fs) | _=>none
 | _=>none
@[simp] def jn (c:Nat) (m:AF) (o:AE) (ma:AA):AE:=λenv h=>(o env h).bind λx h=>match vv h x with
 | some (d,_)=>if d=c then (ma env h).bind λxs h=>m (x::xs) h else .no
 | none=>.no
@[simp] def u9 (c:Nat) (m:AF) (ma:AA):AE:=λenv h=>(ma env h).bind λxs h=>(m (.ref h.length::xs) (h++[.ins c []])).bind λy h' => match y with | .non=>.ok (.ref h.length) h' | _=>.no
theorem ft {w:Wd} {x:AV} {v:V} {c:Nat} {fs:List (Nat×AV)} (ok:Ok C w) (e:vv w.h x=some (c,fs)) (t:Tr C w x v):∃ k a dx fvs,x=.ref k/\v=.ref a/\w.h[k]?=some (.ins c fs)/\w.ρ[k]?=some a/\w.H a=some (.ins (C.cl c) dx fvs)/\Flds C w fs fvs/\(∀ p∈fs,p.1∈C.fl c):=by
 cases x with
 | ref k =>
  rw [Tr] at t;obtain ⟨a,rfl,ea⟩:=t;have e:(match w.h[k]? with | some (.ins c fs)=>some (c,fs) | _=>none)=some (c,fs):=e
  split at e
  ·rename_i c' fs' eh
   cases e;obtain ⟨hf,dx,fvs,hH,ht⟩:=ok.cell k _ a eh ea;exact ⟨k,a,dx,fvs,rfl,rfl,eh,ea,hH,ht,hf.1⟩
  ·cases e
 | _=>cases e
theorem Flds.lookup {w:Wd} {c:Nat}:∀ {fs:List (Nat×AV)} {us:List (Str×V)} {i:Nat},Flds C w fs us->(∀ p∈fs,p.1∈C.fl c)->i∈C.fl c->match fs.lookup i with | some x=>∃ v,us.lookup (C.fn i)=some v/\Tr C w x v | none=>us.lookup (C.fn i)=none
 | [],us,i,h,_,_=>by
  have:us=[]:=h;subst this;rfl
 | (j,y)::r,us,i,h,hf,hi=>by
  obtain ⟨v,us,rfl,t,hr⟩:=h;have hj:j∈C.fl c:=hf (j,y) (by simp)
  have ih:=Flds.lookup (i:=i) hr (λp hp=>hf p (List.mem_cons_of_mem _ hp)) hi
  by_cases e:i=j
  ·subst e
   simp only [List.lookup,beq_self_eq_true];exact ⟨v,rfl,t⟩
  ·have e1:(i == j)=false:=by simpa using e
   have e2:(C.fn i == C.fn j)=false:=by
    rw [beq_eq_false_iff_ne];exact λz=>e (C.inj c i j hi hj z)
   simp only [List.lookup,e1,e2];exact ih
theorem Flds.qfi {w:Wd} {c:Nat} {m:Str} (hm:∀ i∈C.fl c,C.fn i≠m):∀ {fs:List (Nat×AV)} {us:List (Str×V)},Flds C w fs us->(∀ p∈fs,p.1∈C.fl c)->us.lookup m=none
 | [],us,h,_=>by
  have:us=[]:=h;subst this;rfl
 | (j,y)::r,us,h,hf=>by
  obtain ⟨v,us,rfl,t,hr⟩:=h;have e2:(m == C.fn j)=false:=by
   rw [beq_eq_false_iff_ne];exact λz=>hm j (hf (j,y) (by simp)) z.symm
  simp only [List.lookup,e2];exact Flds.qfi hm hr (λp hp=>hf p (List.mem_cons_of_mem _ hp))
theorem yc {c n:Nat} {m:AF} {ta:TE} {o:AE} {t:TA} {ma:AA} {mn:Str} (hm:∀ i∈C.fl c,C.fn i≠mn) (ho:SE C E ta o) (ha:SA C E n t ma):SE C E (i9 (C.cl c) mn (spZ C (n+1) m) [] E ta t) (jn c m o ma):=by
 intro w env σ Q ok en s;refine ho w env σ _ ok en (s.bind.mono λx w1 ok1 le1 s1 v tv=>?_)
 split at s1
 ·rename_i d fs e
  by_cases hd:d=c
  ·rw [if_pos hd] at s1
   subst hd;obtain ⟨k,a,dx,fvs,rfl,rfl,eh,ea,hH,hF,hf⟩:=ft ok1 e tv;refine ⟨a,dx,fvs,rfl,hH,hF.qfi hm hf,ha.run ok1 (en.mono ok le1) s1 λxs w2 hl ok2 le2 s2 vs tvs=>?_⟩
   rw [List.append_nil];exact ⟨w2, .ref k::xs,rfl,ok2, .cons (tv.mono ok1 le2) tvs,by rw [List.length_cons,hl],s2⟩
  ·rw [if_neg hd] at s1;exact s1.elim
 ·exact s1.elim
theorem zq {c n:Nat} {m:AF} {t:TA} {ma:AA} (hg:C.fl c=C.fg c) (ha:SA C E n t ma):SE C E (ia (C.cl c) (spZ C (n+1) m) [] E t) (u9 c m ma):=by
 intro w env σ Q ok en s;refine ha.run ok en s λxs w1 hl ok1 le1 s1 vs tv x dx hx hdx hne=>?_
 rw [List.append_nil];have ok2:=ok1.fresh hdx (.own x);have le2:=ok1.q55 hdx (.own x);have hx2:(w1.fresh dx (.own x)).H x=none:=by show upd w1.H dx (.own x) x=none;rw [yk (Ne.symm hne)];exact hx
 have ok3:Ok C ((w1.fresh dx (.own x)).cell x (.ins (C.cl c) dx []) (.ins c [])):=ok2.qda hx2 ⟨⟨λp hp=>(by cases hp),hg⟩,dx,[],vd,rfl⟩
 have le3:=ok2.q8i hx2 (.ins (C.cl c) dx []) (.ins c []);have le13:=le2.trans le3;refine ⟨_, .ref w1.h.length::xs,rfl,ok3, .cons ok2.q8x (tv.mono ok1 le13),by rw [List.length_cons,hl],?_⟩
 have s2:Sat C E ((w1.fresh dx (.own x)).cell x (.ins (C.cl c) dx []) (.ins c [])) ((m (.ref w1.h.length::xs) (w1.h++[.ins c []])).bind λy h' => match y with | .non=>.ok (.ref w1.h.length) h' | _=>.no) (want C Q):=Sat.le le13 s1
 refine s2.bind.mono λy w4 ok4 le4 s4 v tv4=>?_
 cases y with
 | non=>exact ⟨by rw [Tr] at tv4;exact tv4,s4.here ok4 _ (ok2.q8x.mono ok3 le4)⟩
 | _=>exact s4.elim
@[simp] def fFld (i:Nat):AV->AH->Re AV:=λx h=>match vv h x with
 | some (_,fs)=>match fs.lookup i with | some y=>.ok y h | none=>.no
 | none=>.no
@[simp] def aFld (i:Nat) (a:AE):AE:=a1 (fFld i) a
@[simp] def putA (i:Nat) (x:AV):List (Nat×AV)->List (Nat×AV)
 | []=>[(i,x)]
 | (j,y)::r=>if j=i then (j,x)::r else (j,y)::putA i x r
@[simp] def fu (fl:Nat->List Nat) (i:Nat) (o x:AV) (h:AH):Option AH:=match o with
 | .ref k=>match h[k]? with
  | some (.ins c fs)=>if (fl c).contains i=true/\fs.length<1000 then some (h.set k (.ins c (putA i x fs))) else none
  | _=>none
 | _=>none
@[simp] def ym (fl:Nat->List Nat) (i:Nat) (o v:AE):AS:=λenv h=>(v env h).to λx h=>(o env h).to λa h=>match fu fl i a x h with | some h=>.nx env h | none=>.no
@[simp] def clsAt (h:AH) (a:AV):Nat:=match vv h a with | some (c,_)=>c | none=>0
@[simp] def rk (fl:Nat->List Nat) (i:Nat) (f:AV->AV->AH->Re AV) (o v:AE):AS:=λenv h=>(o env h).to λa h0=>(fFld i a h0).to λx h=>(v env h).to λy h=>(f x y h).to λz h=>if clsAt h a=clsAt h0 a then (match fu fl i a z h with | some h=>.nx env h | none=>.no) else .no
theorem lookup_mem {i:Nat} {y:AV}:∀ {fs:List (Nat×AV)},fs.lookup i=some y->∃ p∈fs,p.1=i
 | [],h=>by cases h
 | (j,z)::r,h=>by
  by_cases e:i=j
  ·exact ⟨(j,z),by simp,e.symm⟩
  ·have e1:(i == j)=false:=by simpa using e
   simp only [List.lookup,e1] at h;obtain ⟨p,hp,q⟩:=lookup_mem h;exact ⟨p,List.mem_cons_of_mem _ hp,q⟩
theorem qgr {w:Wd} {i:Nat} {x:AV} {v:V} {P:AV->Wd->Prop} (ok:Ok C w) (t:Tr C w x v) (s:Sat C E w (fFld i x w.h) P):∃ k a c dx fs fvs y q,x=.ref k/\v=.ref a/\w.h[k]?=some (.ins c fs)/\w.ρ[k]?=some a/\w.H a=some (.ins (C.cl c) dx fvs)/\Cls C.K (C.cl c)/\zx C.K (C.cl c) (C.fn i)/\fvs.lookup (C.fn i)=some q/\Tr C w y q/\P y w:=by
 unfold fFld at s;split at s
 ·rename_i c fs e
  obtain ⟨k,a,dx,fvs,rfl,rfl,eh,ea,hH,hF,hf⟩:=ft ok e t;split at s
  ·rename_i y ey
   obtain ⟨p,hp,rfl⟩:=lookup_mem ey;have hi:=hf p hp;have:=hF.lookup hf hi;rw [ey] at this;obtain ⟨q,e1,tq⟩:=this;obtain ⟨h1,h2⟩:=C.fld c p.1 hi;exact ⟨k,a,c,dx,fs,fvs,y,q,rfl,rfl,eh,ea,hH,h1,h2,e1,tq,s.here ok⟩
  ·exact s.elim
 ·exact s.elim
theorem ji {i:Nat} {f:Str} {ta:TE} {a:AE} (hf:f=C.fn i) (ha:SE C E ta a):SE C E (tFld C.K ta f) (aFld i a):=by
 subst hf;intro w env σ Q ok en s;refine ha w env σ _ ok en (s.bind.mono λx w1 ok1 le1 s1 v tv=>?_)
 obtain ⟨k,a,c,dx,fs,fvs,y,q,rfl,rfl,eh,ea,hH,h1,h2,e1,tq,p⟩:=qgr ok1 tv s1;exact ⟨a,C.cl c,dx,fvs,q,rfl,hH,h1,h2,e1,p q tq⟩
theorem Flds.put {w:Wd} {c i:Nat} {x:AV} {v:V} (t:Tr C w x v) (hi:i∈C.fl c):∀ {fs:List (Nat×AV)} {us:List (Str×V)},Flds C w fs us->(∀ p∈fs,p.1∈C.fl c)->Flds C w (putA i x fs) (putF (C.fn i) v us)
 | [],us,h,_=>by
  have:us=[]:=h;subst this;exact ⟨v,[],rfl,t,rfl⟩
 | (j,y)::r,us,h,hf=>by
  obtain ⟨u,us,rfl,tu,hr⟩:=h;have hj:j∈C.fl c:=hf (j,y) (by simp)
  unfold putA putF
  by_cases e:j=i
  ·subst e
   rw [if_pos rfl,if_pos rfl];exact ⟨v,us,rfl,t,hr⟩
  ·rw [if_neg e,if_neg (λz=>e (C.inj c j i hj hi z))]
   exact ⟨u,_,rfl,tu,Flds.put t hi hr (λp hp=>hf p (List.mem_cons_of_mem _ hp))⟩
theorem qh9 {c i:Nat} {x:AV} (hi:i∈C.fl c):∀ {fs:List (Nat×AV)},(∀ p∈fs,p.1∈C.fl c)->∀ p∈putA i x fs,p.1∈C.fl c
 | [],_,p,hp=>by
  have:p=(i,x):=by simpa [putA] using hp
  rw [this];exact hi
 | (j,y)::r,hf,p,hp=>by
  unfold putA at hp;split at hp
  ·next e =>
   rcases List.mem_cons.mp hp with e1 | e1
   ·rw [e1];exact hf (j,y) (by simp)
   ·exact hf p (List.mem_cons_of_mem _ e1)
  ·rcases List.mem_cons.mp hp with e1 | e1
   ·rw [e1];exact hf (j,y) (by simp)
   ·exact qh9 hi (λq hq=>hf q (List.mem_cons_of_mem _ hq)) p e1
theorem Flds.len {w:Wd}:∀ {fs:List (Nat×AV)} {us:List (Str×V)},Flds C w fs us->fs.length=us.length
 | [],us,h=>by
  have:us=[]:=h;subst this;rfl
 | p::r,us,h=>by
  obtain ⟨v,us,rfl,t,hr⟩:=h;rw [List.length_cons,List.length_cons,Flds.len hr]
theorem qdw {w:Wd} {i:Nat} {o x:AV} {u v:V} {h':AH} (ok:Ok C w) (e:fu C.fg i o x w.h=some h') (to:Tr C w o u) (tx:Tr C w x v) :
  ∃ k a c fs dx fvs,o=.ref k/\w.h[k]?=some (.ins c fs)/\u=.ref a/\w.H a=some (.ins (C.cl c) dx fvs)/\Cls C.K (C.cl c)/\zx C.K (C.cl c) (C.fn i)/\fvs.length<1000/\∃ w',w'.h=h'/\w'.H=upd w.H a (.ins (C.cl c) dx (putF (C.fn i) v fvs))/\Ok C w'/\Le w w':=by
 unfold fu at e;split at e
 ·rename_i k
  split at e
  ·rename_i c fs eh
   split at e
   ·rename_i hc
    cases e;rw [Tr] at to;obtain ⟨a,rfl,ea⟩:=to;obtain ⟨hf,dx,fvs,hH,hF⟩:=ok.cell k _ a eh ea;have hi:i∈C.fl c:=by rw [hf.2];simpa using hc.1
    obtain ⟨h1,h2⟩:=C.fld c i hi;have hl:Live w a:=⟨k,_,eh,(by intro z;cases z),ea⟩
    have le:=ok.qch ea hl (.ins c (putA i x fs)) (.ins (C.cl c) dx (putF (C.fn i) v fvs));exact ⟨k,a,c,fs,dx,fvs,rfl,eh,rfl,hH,h1,h2,by rw [<- hF.len];exact hc.2,w.put k (.ins c (putA i x fs)) a (.ins (C.cl c) dx (putF (C.fn i) v fvs)),rfl,rfl,ok.put ea hl (c:=.ins c (putA i x fs)) ⟨⟨qh9 hi hf.1,hf.2⟩,dx,_,vd,(hF.put tx hi hf.1).mono ok le⟩,le⟩
   ·cases e
  ·cases e
 ·cases e
theorem yp {i:Nat} {f:Str} {ta tv:TE} {o v:AE} (hf:f=C.fn i) (ho:SE C E ta o) (hv:SE C E tv v):SS C E (sFld C.K ta tv f) (ym C.fg i o v):=by
 subst hf;intro w env σ D ok en s;refine hv w env σ _ ok en (Sat.mono (Sat.to s) λx w1 ok1 le1 s1 u tu=>ho w1 env σ _ ok1 (en.mono ok le1) (Sat.mono (Sat.to s1) λa w2 ok2 le2 s2 u2 tu2=>?_))
 split at s2
 ·rename_i h' e
  obtain ⟨_,a,c,_,dx,fvs,_,_,e1,hH,h1,h2,hl,w',e3,e4,o',l'⟩:=qdw ok2 e tu2 (tu.mono ok1 le2);refine ⟨a,C.cl c,dx,fvs,e1,hH,h1,h2,hl,?_⟩;have:=s2 w' σ e3 o' l' (en.mono ok (le1.trans (le2.trans l')));rw [e4] at this;exact this
 ·exact s2.elim
theorem fw {i:Nat} {f:Str} {ta tv:TE} {o v:AE} {r:R2} {g:AV->AV->AH->Re AV} (hf:f=C.fn i) (hr:S2 C E r g) (ho:SE C E ta o) (hv:SE C E tv v):SS C E (qh1 C.K ta tv r f) (rk C.fg i g o v):=by
 subst hf;intro w env σ D ok en s;refine ho w env σ _ ok en (Sat.mono (Sat.to s) λa w1 ok1 le1 s1 u tu=>?_)
 obtain ⟨k,a',c,dx,fs,fvs,y,q,rfl,rfl,eh,ea,hH,h1,h2,e1,tq,p⟩:=qgr ok1 tu (Sat.to s1);refine ⟨a',C.cl c,dx,fvs,q,rfl,hH,h1,h2,e1,hv w1 env σ _ ok1 (en.mono ok le1) (Sat.mono (Sat.to p) λz w2 ok2 le2 s2 b tb=>hr w2 y z q b _ ok2 (tq.mono ok1 le2) tb (Sat.mono (Sat.to s2) λx w3 ok3 le3 s3 d td=>?_))⟩
 split at s3
 ·rename_i hc
  split at s3
  ·rename_i h' e
   have ec:clsAt w1.h (.ref k)=c:=by simp only [clsAt,vv,eh]
   rw [ec] at hc;obtain ⟨k2,a2,c2,fs2,dx2,fvs2,ek,eh2,e1',hH2,g1,g2,hl,w',e3,e4,o',l'⟩:=qdw ok3 e (tu.mono ok1 (le2.trans le3)) td;cases e1';cases ek;have hc2:c2=c:=by
    rw [<- hc];simp only [clsAt,vv,eh2]
   subst hc2;refine ⟨dx2,fvs2,hH2,hl,?_⟩;have:=s3 w' σ e3 o' l' (en.mono ok (le1.trans (le2.trans (le3.trans l'))));rw [e4] at this;exact this
  ·exact s3.elim
 ·exact s3.elim
end
@[simp] def fLen:List AV->AH->Re AV
 | [.str z],h=>if z.length<=sizeLine then .ok (.int z.length) h else .no
 | [x],h=>match vx h x with | some xs=>.ok (.int xs.length) h | none=>.no
 | _,_=>.no
@[simp] def b5:List AV->AH->Re AV
 | [.int i, .int j],h=>.ok (.int (if j<i then j else i)) h
 | _,_=>.no
@[simp] def qb:List AV->AH->Re AV
 | [.int i],h=>.ok (.int i) h
 | [.bl b],h=>.ok (.int (if b then 1 else 0)) h
 | _,_=>.no
@[simp] def x5:List AV->AH->Re AV
 | [.int i],h=>if i.natAbs.log2<1920 then .ok (.str (toString i)) h else .no
 | _,_=>.no
@[simp] def b6:List AV->AH->Re AV
 | [x],h=>match vx h x with | some xs=>.ok (.lst xs) h | none=>.no
 | _,_=>.no
@[simp] def qkc:List AV->AH->Re AV
 | [x],h=>match vx h x with | some xs=>.ok (.ref h.length) (h++[.lst xs]) | none=>.no
 | _,_=>.no
@[simp] def b7:List AV->AH->Re AV
 | [x],h=>match vx h x with | some xs=>.ok (.tup xs) h | none=>.no
 | _,_=>.no
@[simp] def fAll:List AV->AH->Re AV
 | [x],h=>match (zk h x).bind gc with | some bs=>.ok (.bl (bs.all id)) h | none=>.no
 | _,_=>.no
@[simp] def fAny:List AV->AH->Re AV
 | [x],h=>match (zk h x).bind gc with | some bs=>.ok (.bl (bs.any id)) h | none=>.no
 | _,_=>.no
def rm (ns:List Int):Bool:=ns.all (λn=>decide (-(2 ^ 32)<=n) && decide (n<=2 ^ 32)) && decide (ns.length<=100000)
@[simp] def fSum:List AV->AH->Re AV
 | [x],h=>match (zk h x).bind intsOf with | some ns=>if rm ns=true then .ok (.int ns.sum) h else .no | none=>.no
 | _,_=>.no
inductive Ty where | int | bool | str | list | tuple | dict | none
 deriving DecidableEq
def Ty.nm:Ty->String
 | .int => "int" | .bool => "bool" | .str => "str" | .list => "list" | .tuple => "tuple" | .dict => "dict" | .none => "NoneType"
@[simp] def tyA (h:AH):AV->Option Ty
 | .non=>some .none
 | .bl _=>some .bool
 | .int _=>some .int
 | .str _=>some .str
 | .tup _=>some .tuple
 | .lst _=>some .list
 | .dk _ _=>some .dict
 | .kst _=>Option.none
 | .xc _=>Option.none
 | .ref k=>match h[k]? with | some (.lst _)=>some .list | some (.dk _ _)=>some .dict | _=>Option.none
@[simp] def isiB (a b:Ty):Bool:=decide (a=b) || (decide (a=.bool) && decide (b=.int))
@[simp] def fIsi (b:Ty):AV->AH->Re AV:=λx h=>match tyA h x with | some a=>.ok (.bl (isiB a b)) h | Option.none=>.no
@[simp] def qib (bs:List Ty):AV->AH->Re AV:=λx h=>match tyA h x with | some a=>.ok (.bl (bs.any (isiB a))) h | Option.none=>.no
@[simp] def truA (h:AH):AV->Option Bool
 | .non=>some false
 | .bl b=>some b
 | .int i=>some (i != 0)
 | .str y=>if y.length<=sizeLine then some ((y.length:Int) != 0) else none
 | .tup xs=>some (!xs.isEmpty)
 | .lst xs=>some (!xs.isEmpty)
 | .ref k=>match h[k]? with | some (.lst xs)=>some (!xs.isEmpty) | some (.dk ks _)=>some (!ks.isEmpty) | _=>none
 | _=>none
@[simp] def aTru (a:AE):AT:=λenv h=>(a env h).bind λx h=>match truA h x with | some b=>.ok b h | none=>.no
section
variable {C:Ct} {E:XK}
theorem zd {w:Wd} {x:AV} {vs:List V} (t:Trs C w [x] vs):∃ v,vs=[v]/\Tr C w x v:=by
 rw [Trs] at t;obtain ⟨v,us,rfl,t1,t2⟩:=t;rw [Trs] at t2;subst t2;exact ⟨v,rfl,t1⟩
theorem two_of {w:Wd} {x y:AV} {vs:List V} (t:Trs C w [x,y] vs):∃ v u,vs=[v,u]/\Tr C w x v/\Tr C w y u:=by
 rw [Trs] at t;obtain ⟨v,us,rfl,t1,t2⟩:=t;obtain ⟨u,rfl,t3⟩:=zd t2;exact ⟨v,u,rfl,t1,t3⟩
theorem len1 {xs:List AV} (h:xs.length=1):∃ x,xs=[x]:=by
 match xs,h with
 | [x],_=>exact ⟨x,rfl⟩
theorem len2 {xs:List AV} (h:xs.length=2):∃ x y,xs=[x,y]:=by
 match xs,h with
 | [x,y],_=>exact ⟨x,y,rfl⟩
theorem gu:SC C E 1 (rLen C.K) fLen:=by
 intro w xs vs Q hl ok t s;obtain ⟨x,rfl⟩:=len1 hl;obtain ⟨v,rfl,tv⟩:=zd t
 by_cases hx:∃ z,x=.str z
 ·obtain ⟨z,rfl⟩:=hx
  rw [Tr] at tv;subst tv;have s:Sat C E w (if z.length<=sizeLine then .ok (.int z.length) w.h else .no) (want C Q):=s
  by_cases hz:z.length<=sizeLine
  ·rw [if_pos hz] at s
   exact .inr ⟨z,rfl,hz,s.here ok _ (by rw [Tr])⟩
  ·rw [if_neg hz] at s;exact s.elim
 ·have e:fLen [x] w.h=match vx w.h x with | some xs=>.ok (.int xs.length) w.h | none=>.no:=by
   cases x <;> first | rfl | exact absurd ⟨_,rfl⟩ hx
  rw [e] at s;split at s
  ·rename_i ys ey
   obtain ⟨a,us,rfl,r,t'⟩:=rh ok ey tv;exact .inl ⟨a,us,rfl,r,by rw [<- t'.len];exact s.here ok _ (by rw [Tr])⟩
  ·exact s.elim
theorem qn0:SC C E 2 rMin2 b5:=by
 intro w xs vs Q hl ok t s;obtain ⟨x,y,rfl⟩:=len2 hl;obtain ⟨v,u,rfl,tv,tu⟩:=two_of t;cases x with
 | int i =>
  cases y with
  | int j=>rw [Tr] at tv;rw [Tr] at tu;subst tv;subst tu;exact ⟨i,j,rfl,Sat.here (P:=want C Q) s ok _ (by rw [Tr])⟩
  | _=>exact s.elim
 | _=>exact s.elim
theorem qde:SC C E 1 rInt1 qb:=by
 intro w xs vs Q hl ok t s;obtain ⟨x,rfl⟩:=len1 hl;obtain ⟨v,rfl,tv⟩:=zd t;cases x with
 | int i=>rw [Tr] at tv;subst tv;exact .inl ⟨i,rfl,Sat.here (P:=want C Q) s ok _ (by rw [Tr])⟩
 | bl b=>rw [Tr] at tv;subst tv;exact .inr ⟨b,rfl,Sat.here (P:=want C Q) s ok _ (by rw [Tr])⟩
 | _=>exact s.elim
theorem ze:SC C E 1 rStrI x5:=by
 intro w xs vs Q hl ok t s;obtain ⟨x,rfl⟩:=len1 hl;obtain ⟨v,rfl,tv⟩:=zd t;cases x with
 | int i =>
  rw [Tr] at tv;subst tv;have s:Sat C E w (if i.natAbs.log2<1920 then .ok (.str (toString i)) w.h else .no) (want C Q):=s
  by_cases hz:i.natAbs.log2<1920
  ·rw [if_pos hz] at s;exact ⟨i,rfl,hz,s.here ok _ (by rw [Tr])⟩
  ·rw [if_neg hz] at s;exact s.elim
 | _=>exact s.elim
theorem qdd:SC C E 1 (fh C.K) b6:=by
 intro w xs vs Q hl ok t s;obtain ⟨x,rfl⟩:=len1 hl;obtain ⟨v,rfl,tv⟩:=zd t;have s:Sat C E w (match vx w.h x with | some xs=>.ok (.lst xs) w.h | none=>.no) (want C Q):=s
 split at s
 ·rename_i ys ey
  obtain ⟨a,us,rfl,r,t'⟩:=rh ok ey tv;exact ⟨a,us,rfl,r,λp hp=>s (w.frozen p _) rfl (ok.frozen hp _) (ok.q4u hp _) _ (ok.q8p hp t')⟩
 ·exact s.elim
theorem qly:SC C E 1 (fh C.K) qkc:=by
 intro w xs vs Q hl ok t s;obtain ⟨x,rfl⟩:=len1 hl;obtain ⟨v,rfl,tv⟩:=zd t;have s:Sat C E w (match vx w.h x with | some xs=>.ok (.ref w.h.length) (w.h++[.lst xs]) | none=>.no) (want C Q):=s
 split at s
 ·rename_i ys ey
  obtain ⟨a,us,rfl,r,t'⟩:=rh ok ey tv;exact ⟨a,us,rfl,r,λp hp=>s (w.cell p _ (.lst ys)) rfl (ok.qcp hp t') (ok.q8i hp _ _) _ ok.q8x⟩
 ·exact s.elim
theorem qbp:SC C E 1 (qfe C.K) b7:=by
 intro w xs vs Q hl ok t s;obtain ⟨x,rfl⟩:=len1 hl;obtain ⟨v,rfl,tv⟩:=zd t;have s:Sat C E w (match vx w.h x with | some xs=>.ok (.tup xs) w.h | none=>.no) (want C Q):=s
 split at s
 ·rename_i ys ey
  obtain ⟨a,us,rfl,r,t'⟩:=rh ok ey tv;rcases r with r | r
  ·exact ⟨a,us,rfl, .inl ⟨r,λp hp=>s (w.fresh p _) rfl (ok.fresh hp _) (ok.q55 hp _) _ (ok.qf3 hp t')⟩⟩
  ·exact ⟨a,us,rfl, .inr ⟨r,s.here ok _ (by rw [Tr];exact ⟨a,us,rfl,r,t'⟩)⟩⟩
 ·exact s.elim
theorem qj7:SC C E 1 (rAll C.K) fAll:=by
 intro w xs vs Q hl ok t s;obtain ⟨x,rfl⟩:=len1 hl;obtain ⟨v,rfl,tv⟩:=zd t;have s:Sat C E w (match (zk w.h x).bind gc with | some bs=>.ok (.bl (bs.all id)) w.h | none=>.no) (want C Q):=s
 split at s
 ·rename_i bs eb
  obtain ⟨ys,ey,eb⟩:=Option.bind_eq_some_iff.mp eb;obtain ⟨a,us,rfl,r,t'⟩:=kz ok ey tv;have:=qbo eb t';subst this;exact ⟨a,bs,rfl, .inl r,s.here ok _ (by rw [Tr])⟩
 ·exact s.elim
theorem qkl:SC C E 1 (rAny C.K) fAny:=by
 intro w xs vs Q hl ok t s;obtain ⟨x,rfl⟩:=len1 hl;obtain ⟨v,rfl,tv⟩:=zd t;have s:Sat C E w (match (zk w.h x).bind gc with | some bs=>.ok (.bl (bs.any id)) w.h | none=>.no) (want C Q):=s
 split at s
 ·rename_i bs eb
  obtain ⟨ys,ey,eb⟩:=Option.bind_eq_some_iff.mp eb;obtain ⟨a,us,rfl,r,t'⟩:=kz ok ey tv;have:=qbo eb t';subst this;exact ⟨a,bs,rfl, .inl r,s.here ok _ (by rw [Tr])⟩
 ·exact s.elim
theorem qfm:SC C E 1 (rSum C.K) fSum:=by
 intro w xs vs Q hl ok t s;obtain ⟨x,rfl⟩:=len1 hl;obtain ⟨v,rfl,tv⟩:=zd t;have s:Sat C E w (match (zk w.h x).bind intsOf with | some ns=>if rm ns=true then .ok (.int ns.sum) w.h else .no | none=>.no) (want C Q):=s
 split at s
 ·rename_i bs eb
  obtain ⟨ys,ey,eb⟩:=Option.bind_eq_some_iff.mp eb;obtain ⟨a,us,rfl,r,t'⟩:=kz ok ey tv;have:=qdt eb t';subst this
  by_cases ho:rm bs=true
  ·rw [if_pos ho] at s
   unfold rm at ho;rw [Bool.and_eq_true,List.all_eq_true] at ho;refine ⟨a,bs,rfl, .inl r,λn hn=>?_,of_decide_eq_true ho.2,s.here ok _ (by rw [Tr])⟩
   have:=ho.1 n hn;rw [Bool.and_eq_true] at this;exact ⟨of_decide_eq_true this.1,of_decide_eq_true this.2⟩
  ·rw [if_neg ho] at s;exact s.elim
 ·exact s.elim
theorem gk {K:W.Frag} (a b:Ty) (hb:b≠.none):W.kitOne K (.type a.nm) (.type b.nm)=some (isiB a b):=by
 cases a <;> cases b <;> first | rfl | exact absurd rfl hb
theorem qkt {w:Wd} {x:AV} {v:V} {a:Ty} (ok:Ok C w) (e:tyA w.h x=some a) (t:Tr C w x v):TyZ C.K w.H v (.type a.nm):=by
 cases x with
 | non=>cases e;rw [Tr] at t;subst t;exact .of .non
 | bl b=>cases e;rw [Tr] at t;subst t;exact .of (.bl b)
 | int i=>cases e;rw [Tr] at t;subst t;exact .of (.int i)
 | str x=>cases e;rw [Tr] at t;subst t;exact .of (.str x)
 | tup xs=>cases e;rw [Tr] at t;obtain ⟨a,vs,rfl,h,_⟩:=t;exact .tup h
 | lst xs=>cases e;rw [Tr] at t;obtain ⟨a,vs,rfl,_,h,_⟩:=t;exact .lst h
 | dk ks xs=>cases e;rw [Tr] at t;obtain ⟨a,vs,rfl,_,h,_⟩:=t;exact .dK h
 | ref k =>
  rw [Tr] at t;obtain ⟨ad,rfl,ea⟩:=t;simp only [tyA] at e;split at e
  ·rename_i xs eh
   cases e;obtain ⟨vs,hH,_⟩:=ok.cell k _ ad eh ea;exact .lst (.inl hH)
  ·rename_i ks xs eh
   cases e;obtain ⟨vs,hH,_⟩:=ok.cell k _ ad eh ea;exact .dK (.inl hH)
  ·cases e
 | kst xs=>cases e
 | xc c=>cases e
theorem gv {ta:TE} {ma:AE} (b:Ty) {n:String} (hn:n=b.nm) (hb:b≠.none) (ha:SE C E ta ma):SE C E (tCB (rIsi C.K) (vt ta (vt (tC (.ty n)) tNil))) (a1 (fIsi b) ma):=by
 subst hn;intro w env σ Q ok en s;refine ha w env σ _ ok en (s.bind.mono λx w1 ok1 le1 s1 v tv=>?_)
 unfold fIsi at s1;split at s1
 ·rename_i a e
  exact ⟨v,b.nm,_,_,rfl,qkt ok1 e tv,gk a b hb,s1.here ok1 _ (by rw [Tr])⟩
 ·exact s1.elim
theorem qhg {K:W.Frag} (a:Ty):∀ (bs:List Ty),(∀ b∈bs,b≠.none)->W.kitAny K (.type a.nm) ((bs.map Ty.nm).map Value.type)=some (bs.any (isiB a))
 | [],_=>rfl
 | b::bs,h=>by
  rw [List.map_cons,List.map_cons,W.kitAny,gk a b (h b (by simp)),List.any_cons]
  cases isiB a b with
  | true=>rfl
  | false=>exact qhg a bs λc hc=>h c (List.mem_cons_of_mem _ hc)
theorem qmz {ta:TE} {ma:AE} (ha:SE C E ta ma):SE C E (tCB (rIsiT C.K) (vt ta (vt (tTup (vt (tC (.ty "list")) (vt (tC (.ty "tuple")) tNil))) tNil))) (a1 (qib [.list, .tuple]) ma):=by
 intro w env σ Q ok en s;refine ha w env σ _ ok en (s.bind.mono λx w1 ok1 le1 s1 v tv=>?_)
 unfold qib at s1;split at s1
 ·rename_i a e
  refine ⟨by show 2<=sizeLine;decide,λp hp=>?_⟩
  have ok2:=ok1.fresh hp (.tup [.ty "list", .ty "tuple"]);have le2:=ok1.q55 hp (.tup [.ty "list", .ty "tuple"]);exact ⟨v,p,["list", "tuple"],_,_,rfl,vd,qkt ok2 (show tyA (w1.fresh p _).h x=some a from e) (tv.mono ok1 le2),qhg a [.list, .tuple] (by intro b hb;simp at hb;rcases hb with rfl | rfl <;> intro z <;> cases z),s1 (w1.fresh p _) rfl ok2 le2 _ (by rw [Tr])⟩
 ·exact s1.elim
theorem qo4 {w:Wd} {x:AV} {v:V} {b:Bool} (ok:Ok C w) (e:truA w.h x=some b) (t:Tr C w x v):TruV C.K v w.H b:=by
 cases x with
 | non=>cases e;rw [Tr] at t;subst t;rfl
 | bl c=>cases e;rw [Tr] at t;subst t;rfl
 | int i=>cases e;rw [Tr] at t;subst t;rfl
 | str x =>
  rw [Tr] at t;subst t;simp only [truA] at e;split at e
  ·rename_i hz;cases e;exact ⟨hz,rfl⟩
  ·cases e
 | tup xs=>cases e;rw [Tr] at t;obtain ⟨a,vs,rfl,h,t'⟩:=t;exact .inr (.inl ⟨vs,h,by cases xs <;> cases vs <;> first | rfl | (have:=t'.len;simp at this)⟩)
 | lst xs=>cases e;rw [Tr] at t;obtain ⟨a,vs,rfl,_,h,t'⟩:=t;exact .inl ⟨vs, .inl h,by cases xs <;> cases vs <;> first | rfl | (have:=t'.len;simp at this)⟩
 | dk ks xs=>cases e
 | ref k =>
  rw [Tr] at t;obtain ⟨ad,rfl,ea⟩:=t;simp only [truA] at e;split at e
  ·rename_i xs eh
   cases e;obtain ⟨vs,hH,t'⟩:=ok.cell k _ ad eh ea;exact .inl ⟨vs, .inl (.inl hH),by cases xs <;> cases vs <;> first | rfl | (have:=t'.len;simp at this)⟩
  ·rename_i ks xs eh
   cases e;obtain ⟨kvs,hH,rfl,t'⟩:=ok.cell k _ ad eh ea;exact .inr (.inr ⟨kvs,hH,by cases kvs <;> rfl⟩)
  ·cases e
 | kst xs=>cases e
 | xc c=>cases e
theorem qky {ta:TE} {ma:AE} (ha:SE C E ta ma):STs C E (λσ H Q=>ta σ H λx H' => ∃ k,TruV C.K x H' k/\Q k H') (aTru ma):=by
 intro w env σ Q ok en s;refine ha w env σ _ ok en (s.bind.mono λx w1 ok1 le1 s1 v tv=>?_)
 split at s1
 ·rename_i b e
  exact ⟨b,qo4 ok1 e tv,s1.here ok1⟩
 ·exact s1.elim
@[simp] def aMtL (f:AV->List AV->AH->Re AV) (o:AE) (ma:AA):AE:=λenv h=>(o env h).bind λx h=>match zk h x with | some _=>(ma env h).bind λxs h=>f x xs h | none=>.no
@[simp] def aMtS (f:AV->List AV->AH->Re AV) (o:AE) (ma:AA):AE:=λenv h=>(o env h).bind λx h=>match x with | .str _=>(ma env h).bind λxs h=>f x xs h | _=>.no
@[simp] def zf:AV->List AV->AH->Re AV
 | .ref k,[y],h=>match h[k]? with
  | some (.lst xs)=>if xs.length<sizeLine then .ok .non (h.set k (.lst (xs++[y]))) else .no
  | _=>.no
 | _,_,_=>.no
theorem gw {n:Nat} {r:V->List V->Hp->VK->Prop} {f:AV->List AV->AH->Re AV} {to:TE} {o:AE} {t:TA} {ma:AA} (hr:SMt C E n r f) (ho:SE C E to o) (ha:SA C E n t ma):SE C E (tBM C.K "list" r to t) (aMtL f o ma):=by
 intro w env σ Q ok en s;refine ho w env σ _ ok en (s.bind.mono λx w1 ok1 le1 s1 v tv=>?_)
 split at s1
 ·rename_i xs e
  obtain ⟨a,vs,rfl,r1,t1⟩:=kz ok1 e tv;refine ⟨.inl ⟨rfl,vs, .inl r1⟩,ha.run ok1 (en.mono ok le1) s1 λys w2 hl ok2 le2 s2 us tus=>hr w2 x _ ys us Q hl ok2 (tv.mono ok1 le2) tus s2⟩
 ·exact s1.elim
theorem se_bmS {n:Nat} {r:V->List V->Hp->VK->Prop} {f:AV->List AV->AH->Re AV} {to:TE} {o:AE} {t:TA} {ma:AA} (hr:SMt C E n r f) (ho:SE C E to o) (ha:SA C E n t ma):SE C E (tBM C.K "str" r to t) (aMtS f o ma):=by
 intro w env σ Q ok en s;refine ho w env σ _ ok en (s.bind.mono λx w1 ok1 le1 s1 v tv=>?_)
 split at s1
 ·rename_i z
  have tv':=tv;rw [Tr] at tv;subst tv;exact ⟨rfl,ha.run ok1 (en.mono ok le1) s1 λys w2 hl ok2 le2 s2 us tus=>hr w2 _ _ ys us Q hl ok2 (tv'.mono ok1 le2) tus s2⟩
 ·exact s1.elim
theorem cellL {w:Wd} {k:Nat} {xs:List AV} {v:V} (ok:Ok C w) (e:w.h[k]?=some (.lst xs)) (t:Tr C w (.ref k) v):∃ a vs,v=.ref a/\w.ρ[k]?=some a/\w.H a=some (.lst vs)/\Trs C w xs vs:=by
 rw [Tr] at t;obtain ⟨a,rfl,ea⟩:=t;obtain ⟨vs,hH,ht⟩:=ok.cell k _ a e ea;exact ⟨a,vs,rfl,ea,hH,ht⟩
theorem gx:SMt C E 1 qhb zf:=by
 intro w x u xs vs Q hl ok tx t s;obtain ⟨y,rfl⟩:=len1 hl;obtain ⟨v,rfl,tv⟩:=zd t;cases x with
 | ref k =>
  have s:Sat C E w (match w.h[k]? with | some (.lst xs)=>if xs.length<sizeLine then .ok .non (w.h.set k (.lst (xs++[y]))) else .no | _=>.no) (want C Q):=s
  split at s
  ·rename_i zs e
   obtain ⟨a,us,rfl,ea,hH,ht⟩:=cellL ok e tx;split at s
   ·rename_i hz
    obtain ⟨o1,l1⟩:=ok.qj3 e ea (ht.app (.one tv));exact ⟨a,us,v,rfl,rfl,hH,by rw [<- ht.len];exact hz,s _ rfl o1 l1 _ (by rw [Tr])⟩
   ·exact s.elim
  ·exact s.elim
 | _=>exact s.elim
@[simp] def eqF:AV->AV->Bool
 | .non, .non=>true
 | .bl a, .bl b=>a == b
 | .bl a, .int b=>(if a then 1 else 0) == b
 | .int a, .bl b=>a == (if b then 1 else 0)
 | .int a, .int b=>a == b
 | .str a, .str b=>a == b
 | _,_=>false
@[simp] def vq:AV->Bool
 | .non=>true
 | .bl _=>true
 | .int _=>true
 | .str _=>true
 | _=>false
def inA (x:AV) (xs:List AV):Bool:=xs.any λy=>eqF y x
@[simp] def fIn (neg:Bool):AV->AV->AH->Re AV:=λx y h=>match vx h y with
 | some ys=>if (vq x && ys.all vq)=true then .ok (.bl (if neg then !inA x ys else inA x ys)) h else .no
 | none=>.no
theorem qfc {w:Wd} {x:AV} {v:V} (t:Tr C w x v) (h:vq x=true):oi v=true:=by
 cases x with
 | non=>rw [Tr] at t;subst t;rfl
 | bl b=>rw [Tr] at t;subst t;rfl
 | int i=>rw [Tr] at t;subst t;rfl
 | str x=>rw [Tr] at t;subst t;rfl
 | _=>cases h
theorem eqF_ok {w:Wd} {x y:AV} {u v:V} (tx:Tr C w x u) (ty:Tr C w y v) (hx:vq x=true) (hy:vq y=true):eqV u v=eqF x y:=by
 cases x <;> simp only [vq,Bool.false_eq_true] at hx <;> cases y <;> simp only [vq,Bool.false_eq_true] at hy
 all_goals (rw [Tr] at tx;rw [Tr] at ty;subst tx;subst ty;rfl)
theorem qjg {w:Wd} {x:AV} {u:V} (tx:Tr C w x u) (hx:vq x=true):∀ {ys:List AV} {vs:List V},Trs C w ys vs->ys.all vq=true->inV u vs=inA x ys/\vs.all oi=true
 | [],vs,t,_=>by rw [Trs] at t;subst t;exact ⟨rfl,rfl⟩
 | y::ys,vs,t,h=>by
  rw [Trs] at t;obtain ⟨v,us,rfl,t1,t2⟩:=t;rw [List.all_cons,Bool.and_eq_true] at h;obtain ⟨h1,h2⟩:=qjg tx hx t2 h.2;refine ⟨?_,by rw [List.all_cons,qfc t1 h.1,h2];rfl⟩
  have h1':us.any (λy=>eqV y u)=ys.any (λy=>eqF y x):=h1
  show (v::us).any (λy=>eqV y u)=(y::ys).any (λy=>eqF y x)
  rw [List.any_cons,List.any_cons,eqF_ok t1 tx h.1 hx,h1']
theorem m8 {neg:Bool}:S2 C E (rIn C.K neg) (fIn neg):=by
 intro w x y u v Q ok tx ty s;unfold fIn at s;split at s
 ·rename_i ys e
  obtain ⟨a,vs,rfl,r,t⟩:=rh ok e ty;split at s
  ·rename_i hf
   rw [Bool.and_eq_true] at hf;obtain ⟨h1,h2⟩:=qjg tx hf.1 t hf.2;exact ⟨a,vs,rfl,r,qfc tx hf.1,h2,by rw [h1];exact s.here ok _ (by rw [Tr])⟩
  ·exact s.elim
 ·exact s.elim
@[simp] def fInS:AV->AV->AH->Re AV
 | .str a, .str z,h=>match a.cps.toList with | [c]=>.ok (.bl (decide (c∈z.cps.toList))) h | _=>.no
 | _,_,_=>.no
theorem s2_inS:S2 C E (λx y H Q=>∃ c z,x=V.str ⟨#[c]⟩/\y=.str z/\Q (.bl (decide (c∈z.cps.toList))) H) fInS:=by
 intro w x y u v Q ok tx ty s;unfold fInS at s;split at s
 ·rename_i h a z
  rw [Tr] at tx;rw [Tr] at ty;split at s
  ·rename_i c e
   have ea:a=⟨#[c]⟩:=by
    cases a with
    | mk cps =>
     have:cps.toList=[c]:=e;have e2:cps = #[c]:=by rw [<- Array.toArray_toList (xs:=cps),this]
     rw [e2]
   exact ⟨c,z,by rw [tx,ea],ty,s.here ok _ (by rw [Tr])⟩
  ·exact s.elim
 ·exact s.elim
def cutA (xs:List AV) (lo hi:Option Int):List AV:=(xs.drop (HT.sIx xs.length 0 lo)).take (HT.sIx xs.length xs.length hi - HT.sIx xs.length 0 lo)
abbrev AO:=AEnv->AH->Re (Option Int)
@[simp] def gd:AO:=λ_ h=>.ok none h
@[simp] def u0 (a:AE):AO:=λenv h=>(a env h).bind λx h=>match x with | .int i=>.ok (some i) h | _=>.no
@[simp] def aSl (f:AV->Option Int->Option Int->AH->Re AV) (a:AE) (lo hi:AO):AE:=λenv h=>(a env h).bind λx h=>(lo env h).bind λl h=>(hi env h).bind λu h=>f x l u h
@[simp] def fSlL:AV->Option Int->Option Int->AH->Re AV:=λx lo hi h=>match ue h x with | some xs=>.ok (.lst (cutA xs lo hi)) h | none=>.no
def SO (C:Ct) (E:XK) (t:TO) (m:AO):Prop:=∀ (w:Wd) (env:AEnv) (σ:St) (Q:Option Int->Hp->Prop),Ok C w->yj C w env σ->Sat C E w (m env w.h) (λo w' => Q o w'.H)->t σ w.H Q
def S3 (C:Ct) (E:XK) (r:V->Option Int->Option Int->Hp->VK->Prop) (f:AV->Option Int->Option Int->AH->Re AV):Prop:=∀ (w:Wd) (x:AV) (u:V) (lo hi:Option Int) (Q:VK),Ok C w->Tr C w x u->Sat C E w (f x lo hi w.h) (want C Q)->r u lo hi w.H Q
theorem rp:SO C E qgx gd:=λw env σ Q ok en s=>s.here ok
theorem ou {t:TE} {a:AE} (h:SE C E t a):SO C E (tPart t) (u0 a):=λw env σ Q ok en s =>
 h w env σ _ ok en (s.bind.mono λx w1 ok1 le1 s1 v tv=>by
  cases x with
  | int i=>rw [Tr] at tv;exact ⟨i,tv,s1.here ok1⟩
  | _=>exact s1.elim)
theorem nu {r:V->Option Int->Option Int->Hp->VK->Prop} {f:AV->Option Int->Option Int->AH->Re AV} {te:TE} {a:AE} {tl th:TO} {lo hi:AO} (hr:S3 C E r f) (ha:SE C E te a) (hl:SO C E tl lo) (hh:SO C E th hi):SE C E (tSl r te tl th) (aSl f a lo hi):=λw env σ Q ok en s =>
 ha w env σ _ ok en (s.bind.mono λx w1 ok1 le1 s1 v tv=>hl w1 env σ _ ok1 (en.mono ok le1) (s1.bind.mono λl w2 ok2 le2 s2=>hh w2 env σ _ ok2 (en.mono ok (le1.trans le2)) (s2.bind.mono λu w3 ok3 le3 s3=>hr w3 x v l u Q ok3 (tv.mono ok1 (le2.trans le3)) s3)))
theorem Trs.cut {w:Wd} {xs:List AV} {vs:List V} (t:Trs C w xs vs) (lo hi:Option Int):Trs C w (cutA xs lo hi) (cutV vs lo hi):=by
 unfold cutA cutV;rw [t.len];exact (t.drop _).take _
theorem nv:S3 C E (rSlL C.K) fSlL:=by
 intro w x u lo hi Q ok tx s;unfold fSlL at s;split at s
 ·rename_i xs e
  obtain ⟨a,vs,rfl,r,t⟩:=m6 ok e tx;exact ⟨a,vs,rfl,r,λp hp=>s (w.frozen p _) rfl (ok.frozen hp _) (ok.q4u hp _) _ (ok.q8p hp (t.cut lo hi))⟩
 ·exact s.elim
@[simp] def frz1 (x:AV) (h:AH):AV×AH:=match x with
 | .ref k=>match h[k]? with
  | some (.lst xs)=>(.lst xs,h.set k .dead)
  | some (.dk ks xs)=>(.dk ks xs,h.set k .dead)
  | _=>(x,h)
 | _=>(x,h)
@[simp] def aFrz (a:AE):AE:=λenv h=>(a env h).bind λx h=>.ok (frz1 x h).1 (frz1 x h).2
theorem qn9 {w:Wd} {x:AV} {v:V} (ok:Ok C w) (t:Tr C w x v):∃ w',w'.h=(frz1 x w.h).2/\w'.H=w.H/\Ok C w'/\Le w w'/\Tr C w' (frz1 x w.h).1 v:=by
 unfold frz1;split
 ·rename_i k
  split
  ·rename_i xs e
   obtain ⟨a,rfl,ea,hl,t'⟩:=ok.qmh e t;exact ⟨w.kill k a,rfl,rfl,ok.kill ea hl,ok.q9t ea hl,t'⟩
  ·rename_i ks xs e
   obtain ⟨a,rfl,ea,hl,t'⟩:=ok.qov e t;exact ⟨w.kill k a,rfl,rfl,ok.kill ea hl,ok.q9t ea hl,t'⟩
  ·exact ⟨w,rfl,rfl,ok,Le.refl w,t⟩
 ·exact ⟨w,rfl,rfl,ok,Le.refl w,t⟩
theorem se_frz {t:TE} {a:AE} (h:SE C E t a):SE C E t (aFrz a):=λw env σ Q ok en s =>
 h w env σ _ ok en (s.bind.mono λx w1 ok1 le1 s1 v tv=>by
  obtain ⟨w',e,eH,ok',le',t'⟩:=qn9 ok1 tv;have:=s1 w' e ok' le' v t';rw [eH] at this;exact this)
end
@[simp] def keyOf:AV->Option Key
 | .int i=>some (.inl i)
 | .str x=>some (.inr x)
 | _=>none
@[simp] def dkOf (h:AH):AV->Option (List Key×List AV)
 | .dk ks xs=>some (ks,xs)
 | .ref k=>match h[k]? with | some (.dk ks xs)=>some (ks,xs) | _=>none
 | _=>none
def dval:List Key->List AV->Key->Option AV
 | k::ks,x::xs,j=>if k=j then some x else dval ks xs j
 | _,_,_=>none
def rq (j:Key) (y:AV):List Key->List AV->List AV
 | k::ks,x::xs=>(if k=j then y else x)::rq j y ks xs
 | _,_=>[]
def dput (ks:List Key) (xs:List AV) (j:Key) (y:AV):List Key×List AV:=
 if (ks.any λk=>decide (k=j))=true then (ks,rq j y ks xs) else (ks++[j],xs++[y])
@[simp] def gy:AV->AV->AH->Re AV:=λd y h=>match dkOf h d,keyOf y with
 | some (ks,xs),some j=>match dval ks xs j with | some x=>.ok x h | none=>.no
 | _,_=>.no
@[simp] def fDIn:AV->AV->AH->Re AV:=λy d h=>match dkOf h d,keyOf y with
 | some (ks,xs),some j=>.ok (.bl (dval ks xs j).isSome) h
 | _,_=>.no
@[simp] def qf (d y:AE):AE:=λenv h=>(d env h).bind λa h=>match dkOf h a with
 | some _=>(y env h).bind λb h=>match dkOf h a,keyOf b with
  | some (ks,xs),some j=>.ok ((dval ks xs j).getD .non) h
  | _,_=>.no
 | none=>.no
@[simp] def qg (d y z:AE):AE:=λenv h=>(d env h).bind λa h=>match dkOf h a with
 | some _=>(y env h).bind λb h=>(z env h).bind λc h=>match dkOf h a,keyOf b with
  | some (ks,xs),some j=>.ok ((dval ks xs j).getD c) h
  | _,_=>.no
 | none=>.no
@[simp] def putD (d y x:AV) (h:AH):Option AH:=match d,keyOf y with
 | .ref k,some j=>match h[k]? with
  | some (.dk ks xs)=>if ks.length<sizeLine then some (h.set k (.dk (dput ks xs j x).1 (dput ks xs j x).2)) else none
  | _=>none
 | _,_=>none
@[simp] def gz (d y v:AE):AS:=λenv h=>(v env h).to λx h=>(d env h).to λa h=>(y env h).to λb h=>match putD a b x h with | some h=>.nx env h | none=>.no
@[simp] def du:AE:=λ_ h=>.ok (.dk [] []) h
@[simp] def b8:AE:=λ_ h=>.ok (.ref h.length) (h++[.dk [] []])
section
variable {C:Ct} {E:XK}
theorem dv {w:Wd} {y:AV} {v:V} {j:Key} (e:keyOf y=some j) (t:Tr C w y v):v=kV j:=by
 cases y with
 | int i=>cases e;rw [Tr] at t;exact t
 | str x=>cases e;rw [Tr] at t;exact t
 | _=>cases e
theorem o4 {w:Wd} {x:AV} {v:V} {ks:List Key} {xs:List AV} (ok:Ok C w) (e:dkOf w.h x=some (ks,xs)) (t:Tr C w x v):∃ a kvs,v=.ref a/\Rd w.H a (.dK kvs)/\kvs.map (·.1)=ks/\Trs C w xs (kvs.map (·.2)):=by
 cases x with
 | dk ls ys =>
  cases e;rw [Tr] at t;obtain ⟨a,kvs,e,f,r,hk,ht⟩:=t;exact ⟨a,kvs,e,r,hk,ht⟩
 | ref k =>
  rw [Tr] at t;obtain ⟨a,rfl,ea⟩:=t;have e:(match w.h[k]? with | some (.dk ks xs)=>some (ks,xs) | _=>none)=some (ks,xs):=e
  split at e
  ·rename_i ls ys eh
   cases e;obtain ⟨kvs,hH,hk,ht⟩:=ok.cell k _ a eh ea;exact ⟨a,kvs,rfl, .inl hH,hk,ht⟩
  ·cases e
 | _=>cases e
theorem b9 {w:Wd} {j:Key}:∀ {kvs:List (Key×V)} {xs:List AV},Trs C w xs (kvs.map (·.2))->match dval (kvs.map (·.1)) xs j with | some x=>∃ v,valV kvs j=some v/\Tr C w x v | none=>valV kvs j=none
 | [],xs,t=>by
  cases xs with
  | nil=>rfl
  | cons x xs=>have:=t.len;simp at this
 | p::r,xs,t=>by
  cases xs with
  | nil=>have:=t.len;simp at this
  | cons x xs =>
   rw [List.map_cons,Trs] at t;obtain ⟨v,us,e,t1,t2⟩:=t;cases e;rw [List.map_cons,dval]
   by_cases h:p.1=j
   ·rw [if_pos h]
    exact ⟨p.2,cq h,t1⟩
   ·rw [if_neg h,cu h]
    exact b9 t2
theorem qmg {kvs:List (Key×V)} {xs:List AV} {j:Key} {y:AV} {v:V}:(putK kvs j v).map (·.1)=(dput (kvs.map (·.1)) xs j y).1:=by
 unfold putK dput;have e:(kvs.any λkv=>decide (kv.1=j))=((kvs.map (·.1)).any λk=>decide (k=j)):=by rw [List.any_map];rfl
 rw [e];split
 ·rw [List.map_map]
  apply List.map_congr_left
  intro p _;show (if p.1=j then (p.1,v) else p).1=p.1
  split <;> rfl
 ·rw [List.map_append];rfl
theorem qmo {w:Wd} {j:Key} {y:AV} {v:V} (ty:Tr C w y v) {kvs:List (Key×V)} {xs:List AV} (t:Trs C w xs (kvs.map (·.2))):Trs C w (dput (kvs.map (·.1)) xs j y).2 ((putK kvs j v).map (·.2)):=by
 unfold putK dput;have e:(kvs.any λkv=>decide (kv.1=j))=((kvs.map (·.1)).any λk=>decide (k=j)):=by rw [List.any_map];rfl
 rw [e];split
 ·rename_i hh
  clear e hh
  induction kvs generalizing xs with
  | nil=>exact .nil
  | cons p r ih =>
   cases xs with
   | nil=>have:=t.len;simp at this
   | cons x xs =>
    rw [List.map_cons,Trs] at t;obtain ⟨u,us,e,t1,t2⟩:=t;cases e;rw [List.map_cons,List.map_cons,List.map_cons];refine .cons ?_ (ih t2);show Tr C w (if p.1=j then y else x) (if p.1=j then (p.1,v) else p).2
    by_cases h:p.1=j
    ·rw [if_pos h,if_pos h];exact ty
    ·rw [if_neg h,if_neg h];exact t1
 ·rw [List.map_append]
  exact t.app (.one ty)
theorem qd3 {td ty:TE} {d y:AE} (hd:SE C E td d) (hy:SE C E ty y):SE C E (tDGet td ty) (a2 gy d y):=λw env σ Q ok en s =>
 hd w env σ _ ok en (s.bind.mono λx w1 ok1 le1 s1 v tv=>hy w1 env σ _ ok1 (en.mono ok le1) (s1.bind.mono λz w2 ok2 le2 s2 u tu=>by
  unfold gy at s2;split at s2
  ·rename_i ks xs j e1 e2
   obtain ⟨a,kvs,rfl,r,rfl,t⟩:=o4 ok2 e1 (tv.mono ok1 le2);have hj:=dv e2 tu;subst hj;have hv:=b9 (j:=j) t;split at s2
   ·rename_i q eq
    rw [eq] at hv;obtain ⟨p,hp,tp⟩:=hv;exact ⟨a,p,rfl, .inl ⟨kvs,j,r,rfl,hp.symm⟩,s2.here ok2 _ tp⟩
   ·exact s2.elim
  ·exact s2.elim))
theorem dget_o {w:Wd} {j:Key} {kvs:List (Key×V)} {xs:List AV} (t:Trs C w xs (kvs.map (·.2))):(valV kvs j).isSome=(dval (kvs.map (·.1)) xs j).isSome:=by
 have hv:=b9 (j:=j) t;split at hv
 ·rename_i q eq
  obtain ⟨p,hp,tp⟩:=hv;rw [hp,eq];rfl
 ·rename_i eq
  rw [hv,eq];rfl
theorem se_din {td ty:TE} {d y:AE} (hy:SE C E ty y) (hd:SE C E td d):SE C E (tDIn ty td) (a2 fDIn y d):=λw env σ Q ok en s =>
 hy w env σ _ ok en (s.bind.mono λx w1 ok1 le1 s1 v tv=>hd w1 env σ _ ok1 (en.mono ok le1) (s1.bind.mono λz w2 ok2 le2 s2 u tu=>by
  unfold fDIn at s2;split at s2
  ·rename_i ks xs j e1 e2
   obtain ⟨a,kvs,rfl,r,rfl,t⟩:=o4 ok2 e1 tu;have hj:=dv e2 (tv.mono ok1 le2);subst hj;exact ⟨a,_,rfl, .inl ⟨kvs,j,r,rfl,rfl⟩,by rw [dget_o t];exact s2.here ok2 _ (by rw [Tr])⟩
  ·exact s2.elim))
theorem qdm {w:Wd} {j:Key} {kvs:List (Key×V)} {xs:List AV} {z:AV} {q:V} (t:Trs C w xs (kvs.map (·.2))) (tz:Tr C w z q):Tr C w ((dval (kvs.map (·.1)) xs j).getD z) ((valV kvs j).getD q):=by
 have hv:=b9 (j:=j) t;split at hv
 ·rename_i p eq
  obtain ⟨v,hp,tp⟩:=hv;rw [hp,eq];exact tp
 ·rename_i eq
  rw [hv,eq];exact tz
theorem ba {td ty:TE} {d y:AE} (hd:SE C E td d) (hy:SE C E ty y):SE C E (qjy td ty) (qf d y):=λw env σ Q ok en s =>
 hd w env σ _ ok en (s.bind.mono λx w1 ok1 le1 s1 v tv=>by
  split at s1
  ·rename_i kx e0
   obtain ⟨ks0,xs0⟩:=kx;obtain ⟨a,kvs0,rfl,r0,_,_⟩:=o4 ok1 e0 tv;refine ⟨a,rfl, .inl ⟨kvs0,r0⟩,hy w1 env σ _ ok1 (en.mono ok le1) (s1.bind.mono λz w2 ok2 le2 s2 u tu=>?_)⟩
   split at s2
   ·rename_i ks xs j e1 e2
    obtain ⟨a',kvs,ea,r,rfl,t⟩:=o4 ok2 e1 (tv.mono ok1 le2);cases ea;have hj:=dv e2 tu;subst hj;exact ⟨_, .inl ⟨kvs,j,r,rfl,rfl⟩,s2.here ok2 _ (qdm t (by rw [Tr]))⟩
   ·exact s2.elim
  ·exact s1.elim)
theorem qez {td ty tz:TE} {d y z:AE} (hd:SE C E td d) (hy:SE C E ty y) (hz:SE C E tz z):SE C E (qjl td ty tz) (qg d y z):=λw env σ Q ok en s =>
 hd w env σ _ ok en (s.bind.mono λx w1 ok1 le1 s1 v tv=>by
  split at s1
  ·rename_i kx e0
   obtain ⟨ks0,xs0⟩:=kx;obtain ⟨a,kvs0,rfl,r0,_,_⟩:=o4 ok1 e0 tv;refine ⟨a,rfl, .inl ⟨kvs0,r0⟩,hy w1 env σ _ ok1 (en.mono ok le1) (s1.bind.mono λz w2 ok2 le2 s2 u tu=>hz w2 env σ _ ok2 (en.mono ok (le1.trans le2)) (s2.bind.mono λq w3 ok3 le3 s3 u3 tu3=>?_))⟩
   split at s3
   ·rename_i ks xs j e1 e2
    obtain ⟨a',kvs,ea,r,rfl,t⟩:=o4 ok3 e1 (tv.mono ok1 (le2.trans le3));cases ea;have hj:=dv e2 (tu.mono ok2 le3);subst hj;exact ⟨_, .inl ⟨kvs,j,r,rfl,rfl⟩,s3.here ok3 _ (qdm t tu3)⟩
   ·exact s3.elim
  ·exact s1.elim)
theorem Ok.putDk {w:Wd} (ok:Ok C w) {k:Nat} {a:Addr} {ks ks':List Key} {xs xs':List AV} {kvs':List (Key×V)} (e:w.h[k]?=some (.dk ks xs)) (ea:w.ρ[k]?=some a) (hk:kvs'.map (·.1)=ks') (t:Trs C w xs' (kvs'.map (·.2))) :
  Ok C (w.put k (.dk ks' xs') a (.dK kvs'))/\Le w (w.put k (.dk ks' xs') a (.dK kvs')):=by
 have hl:Live w a:=⟨k,_,e,(by intro z;cases z),ea⟩
 have le:=ok.qch ea hl (.dk ks' xs') (.dK kvs');exact ⟨ok.put ea hl ⟨kvs',vd,hk,t.mono ok le⟩,le⟩
theorem qo1 {w:Wd} {d y x:AV} {u v q:V} {h':AH} (ok:Ok C w) (e:putD d y x w.h=some h') (td:Tr C w d u) (ty:Tr C w y v) (tx:Tr C w x q) :
  ∃ a H',u=.ref a/\DPut w.H a v q H'/\∃ w',w'.h=h'/\w'.H=H'/\Ok C w'/\Le w w':=by
 unfold putD at e;split at e
 ·rename_i k j ek
  have hj:=dv ek ty;subst hj;rw [Tr] at td;obtain ⟨a,rfl,ea⟩:=td;split at e
  ·rename_i ks xs eh
   split at e
   ·rename_i hl
    cases e;obtain ⟨kvs,hH,rfl,ht⟩:=ok.cell k _ a eh ea;rw [List.length_map] at hl;obtain ⟨o1,l1⟩:=ok.putDk eh ea (qmg (kvs:=kvs) (xs:=xs) (j:=j) (y:=x) (v:=q)) (qmo tx ht);exact ⟨a,_,rfl, .inl ⟨kvs,j,hH,rfl,hl,rfl⟩,_,rfl,rfl,o1,l1⟩
   ·cases e
  ·cases e
 ·cases e
theorem dw {td ty tv:TE} {d y v:AE} (hd:SE C E td d) (hy:SE C E ty y) (hv:SE C E tv v):SS C E (sDPut td ty tv) (gz d y v):=λw env σ D ok en s =>
 hv w env σ _ ok en (Sat.mono (Sat.to s) λx w1 ok1 le1 s1 q tq=>hd w1 env σ _ ok1 (en.mono ok le1) (Sat.mono (Sat.to s1) λa w2 ok2 le2 s2 u tu=>hy w2 env σ _ ok2 (en.mono ok (le1.trans le2)) (Sat.mono (Sat.to s2) λb w3 ok3 le3 s3 p tp=>by
  split at s3
  ·rename_i h' e
   obtain ⟨a',H',e1,hp,w',e3,e4,o',l'⟩:=qo1 ok3 e (tu.mono ok2 le3) tp (tq.mono ok1 (le2.trans le3));refine ⟨a',H',e1,hp,?_⟩;have:=s3 w' σ e3 o' l' (en.mono ok (le1.trans (le2.trans (le3.trans l'))));rw [e4] at this;exact this
  ·exact s3.elim)))
theorem qh6:SE C E ik du:=λw env σ Q ok en s p hp=>s (w.frozen p (.dK [])) rfl (ok.frozen hp _) (ok.q4u hp _) _ (ok.newDk hp rfl .nil)
theorem qbu:SE C E ik b8:=λw env σ Q ok en s p hp=>s (w.cell p (.dK []) (.dk [] [])) rfl (ok.qda hp ⟨[],vd,rfl, .nil⟩) (ok.q8i hp _ _) _ ok.q8x
abbrev AM:=AEnv->AH->Re Unit
def SMs (C:Ct) (E:XK) (t:TE) (m:AM):Prop:=∀ (w:Wd) (env:AEnv) (σ:St) (Q:VK),Ok C w->yj C w env σ->Sat C E w (m env w.h) (λ_ w' => ∀ v,Q v w'.H)->t σ w.H Q
def SJm (C:Ct) (E:XK) (n:Nat) (u:TJ) (m:AM):Prop:=∀ (w:Wd) (env:AEnv) (σ:St) (acc:Str) (Q:VK),Ok C w->yj C w env σ->acc.length+n<=sizeLine->Sat C E w (m env w.h) (λ_ w' => ∀ v,Q v w'.H)->u acc σ w.H Q
@[simp] def mNil:AM:=λ_ h=>.ok () h
@[simp] def mInt (a:AE) (r:AM):AM:=λenv h=>(a env h).bind λx h=>match x with | .int i=>if i.natAbs.log2<1920 then r env h else .no | _=>.no
@[simp] def mStr (a:AE) (r:AM):AM:=λenv h=>(a env h).bind λx h=>match x with | .str y=>if y.length<=1000 then r env h else .no | _=>.no
def cpOk (y:Str):Bool:=y.cps.toList.all λc=>decide (c<16 ^ 8)
@[simp] def mRep (a:AE) (r:AM):AM:=λenv h=>(a env h).bind λx h=>match x with | .str y=>if y.length<=1000/\cpOk y=true then r env h else .no | _=>.no
theorem m9 (x y:Str):(x++y:Str).length=x.length+y.length:=by
 show (x.cps++y.cps).size=x.cps.size+y.cps.size;exact Array.size_append
theorem mf:SJm C E 0 jNil mNil:=λw env σ acc Q ok en hl s=>⟨by omega,s.here ok _⟩
theorem ug {n:Nat} {x:Str} {u:TJ} {m:AM} (hu:SJm C E n u m):SJm C E (n+x.length) (qy (tC (.str x)) u) m:=λw env σ acc Q ok en hl s =>
 ⟨x,rfl,by rw [m9];omega,hu w env σ _ Q ok en (by rw [m9];omega) s⟩
theorem dy {n:Nat} {t:TE} {a:AE} {u:TJ} {m:AM} (ha:SE C E t a) (hu:SJm C E n u m):SJm C E (n+1921) (qy (iw t) u) (mInt a m):=λw env σ acc Q ok en hl s =>
 ha w env σ _ ok en (s.bind.mono λx w1 ok1 le1 s1 v tv=>by
  cases x with
  | int i =>
   rw [Tr] at tv;subst tv;have s1:Sat C E w1 (if i.natAbs.log2<1920 then m env w1.h else .no) (λ_ w' => ∀ v,Q v w'.H):=s1
   by_cases hi:i.natAbs.log2<1920
   ·rw [if_pos hi] at s1
    have hb:(toString i:Str).length<=1921:=PyProof.Rows.int_text_len_1921 hi;exact ⟨i,rfl,hi,_,rfl,by rw [m9];omega,hu w1 env σ _ Q ok1 (en.mono ok le1) (by rw [m9];omega) s1⟩
   ·rw [if_neg hi] at s1;exact s1.elim
  | _=>exact s1.elim)
theorem ny {n:Nat} {t:TE} {a:AE} {u:TJ} {m:AM} (ha:SE C E t a) (hu:SJm C E n u m):SJm C E (n+1000) (qy (ix t) u) (mStr a m):=λw env σ acc Q ok en hl s =>
 ha w env σ _ ok en (s.bind.mono λx w1 ok1 le1 s1 v tv=>by
  cases x with
  | str y =>
   rw [Tr] at tv;subst tv;have s1:Sat C E w1 (if y.length<=1000 then m env w1.h else .no) (λ_ w' => ∀ v,Q v w'.H):=s1
   by_cases hi:y.length<=1000
   ·rw [if_pos hi] at s1
    exact ⟨y,rfl,by omega,_,rfl,by rw [m9];omega,hu w1 env σ _ Q ok1 (en.mono ok le1) (by rw [m9];omega) s1⟩
   ·rw [if_neg hi] at s1;exact s1.elim
  | _=>exact s1.elim)
theorem qd6 {n:Nat} {t:TE} {a:AE} {u:TJ} {m:AM} (ha:SE C E t a) (hu:SJm C E n u m):SJm C E (n+10002) (qy (tFmtR t) u) (mRep a m):=λw env σ acc Q ok en hl s =>
 ha w env σ _ ok en (s.bind.mono λx w1 ok1 le1 s1 v tv=>by
  cases x with
  | str y =>
   rw [Tr] at tv;subst tv;have s1:Sat C E w1 (if y.length<=1000/\cpOk y=true then m env w1.h else .no) (λ_ w' => ∀ v,Q v w'.H):=s1
   by_cases hi:y.length<=1000/\cpOk y=true
   ·rw [if_pos hi] at s1
    have hb:=PySem.StrLaws.reprText_len y (λc hc=>by
     have:=List.all_eq_true.mp hi.2 c hc;exact of_decide_eq_true this)
    have h1:=hi.1;exact ⟨y,rfl,by omega,_,rfl,by rw [m9];omega,hu w1 env σ _ Q ok1 (en.mono ok le1) (by rw [m9];omega) s1⟩
   ·rw [if_neg hi] at s1;exact s1.elim
  | _=>exact s1.elim)
theorem mh {n:Nat} {u:TJ} {m:AM} (hu:SJm C E n u m) (hn:n<=sizeLine):SMs C E (u Str.empty) m:=λw env σ Q ok en s=>hu w env σ Str.empty Q ok en (by show 0+n<=sizeLine;omega) s
theorem ms_lit {x:Str}:SMs C E (tC (.str x)) mNil:=λw env σ Q ok en s=>s.here ok _
theorem ms_add {x:Str} {t:TE} {a:AE} (hx:x.length<=1000) (ha:SE C E t a):SMs C E (tOp (λx y H Q=>∃ i j,x=.str i/\y=.str j/\i.length+j.length<=sizeLine/\Q (.str (i++j)) H) (tC (.str x)) t) (mStr a mNil):=λw env σ Q ok en s =>
 ha w env σ _ ok en (s.bind.mono λz w1 ok1 le1 s1 v tv=>by
  cases z with
  | str y =>
   rw [Tr] at tv;subst tv;have s1:Sat C E w1 (if y.length<=1000 then mNil env w1.h else .no) (λ_ w' => ∀ v,Q v w'.H):=s1
   by_cases hi:y.length<=1000
   ·rw [if_pos hi] at s1
    exact ⟨x,y,rfl,rfl,Nat.le_trans (show x.length+y.length<=2000 by omega) (by decide),s1.here ok1 _⟩
   ·rw [if_neg hi] at s1;exact s1.elim
  | _=>exact s1.elim)
@[simp] def gf (c:Nat) (m:AM):AS:=λenv h=>(m env h).to λ_ h=>.ex c h
theorem o5 {c:Nat} {t:TE} {m:AM} (hm:SMs C E t m):SS C E (qj9 (C.cl c) E (vt t tNil)) (gf c m):=λw env σ D ok en s =>
 hm w env σ _ ok en (Sat.mono (Sat.to s) λ_ w1 ok1 le1 s1 v=>⟨by show 1<=sizeLine;decide,s1 w1 rfl ok1 (Le.refl w1)⟩)
abbrev AJ:=Str->AEnv->AH->Re AV
def SJ (C:Ct) (E:XK) (u:TJ) (m:AJ):Prop:=∀ (w:Wd) (env:AEnv) (σ:St) (acc:Str) (Q:VK),Ok C w->yj C w env σ->Sat C E w (m acc env w.h) (want C Q)->u acc σ w.H Q
@[simp] def bb:AJ:=λacc _ h=>if acc.length<=sizeLine then .ok (.str acc) h else .no
@[simp] def qh (a:AE) (r:AJ):AJ:=λacc env h=>(a env h).bind λx h=>match x with | .str y=>if (acc++y:Str).length<=sizeLine then r (acc++y) env h else .no | _=>.no
@[simp] def bc (j:AJ):AE:=j Str.empty
@[simp] def qhv:AV->AH->Re AV
 | .int i,h=>if i.natAbs.log2<1920 then .ok (.str (toString i)) h else .no
 | _,_=>.no
@[simp] def qis:AV->AH->Re AV
 | .str y,h=>if y.length<=sizeLine then .ok (.str y) h else .no
 | _,_=>.no
theorem sj_nil:SJ C E jNil bb:=by
 intro w env σ acc Q ok en s;unfold bb at s;split at s
 ·rename_i h;exact ⟨h,s.here ok _ (by rw [Tr])⟩
 ·exact s.elim
theorem qd2 {t:TE} {a:AE} {u:TJ} {m:AJ} (ha:SE C E t a) (hu:SJ C E u m):SJ C E (qy t u) (qh a m):=λw env σ acc Q ok en s =>
 ha w env σ _ ok en (s.bind.mono λx w1 ok1 le1 s1 v tv=>by
  cases x with
  | str y =>
   rw [Tr] at tv;subst tv;have s1:Sat C E w1 (if (acc++y:Str).length<=sizeLine then m (acc++y) env w1.h else .no) (want C Q):=s1
   by_cases hi:(acc++y:Str).length<=sizeLine
   ·rw [if_pos hi] at s1
    exact ⟨y,rfl,hi,hu w1 env σ _ Q ok1 (en.mono ok le1) s1⟩
   ·rw [if_neg hi] at s1;exact s1.elim
  | _=>exact s1.elim)
theorem qp7 {u:TJ} {m:AJ} (h:SJ C E u m):SE C E (u Str.empty) (bc m):=λw env σ Q ok en s=>h w env σ Str.empty Q ok en s
theorem qnc {t:TE} {a:AE} (ha:SE C E t a):SE C E (iw t) (a1 qhv a):=λw env σ Q ok en s =>
 ha w env σ _ ok en (s.bind.mono λx w1 ok1 le1 s1 v tv=>by
  cases x with
  | int i =>
   rw [Tr] at tv;subst tv;have s1:Sat C E w1 (if i.natAbs.log2<1920 then .ok (.str (toString i)) w1.h else .no) (want C Q):=s1
   by_cases hi:i.natAbs.log2<1920
   ·rw [if_pos hi] at s1;exact ⟨i,rfl,hi,s1.here ok1 _ (by rw [Tr])⟩
   ·rw [if_neg hi] at s1;exact s1.elim
  | _=>exact s1.elim)
theorem qpc {t:TE} {a:AE} (ha:SE C E t a):SE C E (ix t) (a1 qis a):=λw env σ Q ok en s =>
 ha w env σ _ ok en (s.bind.mono λx w1 ok1 le1 s1 v tv=>by
  cases x with
  | str y =>
   rw [Tr] at tv;subst tv;have s1:Sat C E w1 (if y.length<=sizeLine then .ok (.str y) w1.h else .no) (want C Q):=s1
   by_cases hi:y.length<=sizeLine
   ·rw [if_pos hi] at s1;exact ⟨y,rfl,hi,s1.here ok1 _ (by rw [Tr])⟩
   ·rw [if_neg hi] at s1;exact s1.elim
  | _=>exact s1.elim)
@[simp] def qdj:AV->AH->Re AV:=λx h=>match (ue h x).bind strsOf with | some ts=>if ts.length<=1000 then .ok (.int ((metK ts).length:Nat)) h else .no | none=>.no
theorem qks {P:Program} {w0:World} {t:TE} {a:AE} (ha:SE C E t a) :
  SE C E (tCB (λxs H Q=>∃ a, ∃ ts:List Str,xs=[V.ref a]/\H a=some (SetS P w0 a ts)/\Q (.int ((metK ts).length:Nat)) H) (vt (tCB (λxs H Q=>∃ p, ∃ ts:List Str,xs=[V.ref p]/\SqL C.K H p (ts.map V.str)/\ts.length<=1000/\∀ a,H a=none->Q (.ref a) (upd H a (SetS P w0 a ts))) (vt t tNil)) tNil)) (a1 qdj a):=λw env σ Q ok en s =>
 ha w env σ _ ok en (s.bind.mono λx w1 ok1 le1 s1 v tv=>by
  unfold qdj at s1;split at s1
  ·rename_i ts e
   obtain ⟨ys,ey,es⟩:=Option.bind_eq_some_iff.mp e;obtain ⟨p,us,rfl,r,t'⟩:=m6 ok1 ey tv;have:=qap es t';subst this;split at s1
   ·rename_i hl
    refine ⟨p,ts,rfl,r,hl,λq hq=>⟨q,ts,rfl,vd,?_⟩⟩
    exact s1 (w1.fresh q _) rfl (ok1.fresh hq _) (ok1.q55 hq _) _ (by rw [Tr])
   ·exact s1.elim
  ·exact s1.elim)
theorem fn_no {P:Program} {w:World} {K:W.Frag} {mg:Str->Option Value} {base:Heap} {CX:CXT} {k n:Nat} {f:Addr} {fd:FuncData} {ps:List Str} (hn:n=ps.length):FnOk P w K mg base CX k f fd ps (spZ C n λ_ _=>.no):=
 ⟨λvs H Q E h=>by rw [<- hn];exact dm h,λA outer s H args us vs Q E _ _ _ _ h=>by obtain ⟨w,xs,_,_,_,_,s⟩:=h;exact s.elim⟩
def dz (K:W.Frag):Sp:=λvs H Q _=>∃ (a:Addr) (ns:List Int),vs=[.ref a]/\SqL K H a (ns.map V.int)/\ns.length<=63/\∀ H',Q (.bl true) H'
theorem qbr {w:Wd}:∀ (ns:List Int),Trs C w (ns.map AV.int) (ns.map V.int)
 | []=>.nil
 | n::ns=>.cons (by rw [Tr]) (qbr ns)
theorem qk8 (hp:C.pin=none) {m:AF} {vs:List V} {H:Hp} {Q:VK} {E:XK} (ht:∀ ns:List Int,ns.length<=63->∃ h,m [.kst (ns.map AV.int)] []=.ok (.bl true) h) (h:dz C.K vs H Q E):spZ C 1 m vs H Q E0:=by
 obtain ⟨a,ns,rfl,hS,hl,q⟩:=h;obtain ⟨h',e⟩:=ht ns hl;rcases hS with r | r
 ·refine ⟨⟨[],λb=>b=a,[],H⟩,[.kst (ns.map AV.int)],rfl,⟨rfl, .nil,λb hb=>absurd hb (by simp),λk c b e=>absurd e (by simp),λb hb=>?_,λb hb=>?_,λb c z=>(by rw [hp] at z;cases z)⟩, .one ?_,rfl,?_⟩
  ·obtain ⟨k,c,e1,_⟩:=hb
   simp at e1
  ·subst hb;exact Rd.ne r
  ·rw [Tr];exact ⟨a,_,rfl, .inl ⟨rfl,r⟩,qbr ns⟩
  ·rw [e];exact λw' _ _ _ v tv=>by rw [Tr] at tv;subst tv;exact q _
 ·refine ⟨⟨[],λ_=>False,[],H⟩,[.kst (ns.map AV.int)],rfl,⟨rfl, .nil,λb hb=>absurd hb (by simp),λk c b e=>absurd e (by simp),λb hb=>?_,λb hb=>hb.elim,λb c z=>(by rw [hp] at z;cases z)⟩, .one ?_,rfl,?_⟩
  ·obtain ⟨k,c,e1,_⟩:=hb
   simp at e1
  ·rw [Tr];exact ⟨a,_,rfl, .inr (.inr r),qbr ns⟩
  ·rw [e];exact λw' _ _ _ v tv=>by rw [Tr] at tv;subst tv;exact q _
theorem qhc:S2 C E rAdd fAdd:=by
 intro w x y u v Q ok tx ty s;exact zl (C:=C) w x y u v Q ok tx ty s
theorem qgt:S2 C E rSub fSub:=by
 intro w x y u v Q ok tx ty s;exact gq (C:=C) w x y u v Q ok tx ty s
end
section
variable {C:Ct} {E:XK}
def Ct.at (C:Ct) (a c:Addr):Ct:={C with pin:=some (a,c)}
@[simp] def fIsX (sub:Nat->Option Bool):AV->AH->Re AV
 | .xc c,h=>match sub c with | some b=>.ok (.bl b) h | none=>.no
 | _,_=>.no
abbrev rIsX (K:W.Frag):List V->Hp->VK->Prop:=λxs H Q=>∃ a C cv b,xs=[.ref a,cv]/\fb cv=true/\H a=some (excO a C)/\ExcK K C/\W.kitOne K (.ref C) (clsU cv)=some b/\Q (.bl b) H
theorem ox {cv:V} {t:TE} {a:AE} {sub:Nat->Option Bool} (hc:fb cv=true) (hs:∀ c b,sub c=some b->ExcK C.K (C.cl c)/\W.kitOne C.K (.ref (C.cl c)) (clsU cv)=some b) (ha:SE C E t a) :
  SE C E (tCB (rIsX C.K) (vt t (vt (tC cv) tNil))) (a1 (fIsX sub) a):=λw env σ Q ok en s =>
 ha w env σ _ ok en (s.bind.mono λx w1 ok1 le1 s1 v tv=>by
  unfold fIsX at s1;split at s1
  ·rename_i h c
   rw [Tr] at tv;obtain ⟨ad,rfl,ep⟩:=tv;split at s1
   ·rename_i b eb
    obtain ⟨h1,h2⟩:=hs c b eb;exact ⟨ad,C.cl c,cv,b,rfl,hc,ok1.pn _ _ ep,h1,h2,s1.here ok1 _ (by rw [Tr])⟩
   ·exact s1.elim
  ·exact s1.elim)
theorem qm7 {ah c:Addr} {ta:TE} {ma:AE} (hp:C.pin=some (ah,c)) (ha:SE C E ta ma):SI C E (qku C.K ah ta) (iLst ma):=by
 intro w env σ R ok en s;refine ha w env σ _ ok en (s.bind.mono λx w1 ok1 le1 s1 v tv=>?_)
 split at s1
 ·rename_i xs e
  obtain ⟨a,vs,rfl,r,t⟩:=m6 ok1 e tv;refine ⟨a,c,rfl,⟨vs,r⟩,s1.here ok1 _ ?_⟩;have key:∀ w,Ok C w->Le w1 w->okW w.h xs (watch x)=true->∃ us,SqL C.K w.H a us/\Trs C w xs us:=λw ok le hw=>by
   obtain ⟨a',us,e',h2,h3⟩:=qfq ok1 e tv ok le hw;cases e';exact ⟨us,h2,h3⟩
  refine ⟨λw i ok le hw hi=>?_,λw i y v H' ok le hw hy yl=>?_,λw i ok le hw hi=>?_⟩
  ·obtain ⟨us,h2,h3⟩:=key w ok le hw
   exact ⟨⟨us,us[i]'(by rw [<- h3.len];exact hi),h2,List.getElem?_eq_getElem _⟩,ok.pn _ _ hp⟩
  ·obtain ⟨us,h2,h3⟩:=key w ok le hw
   obtain ⟨rfl,hq⟩:=yl;obtain ⟨q,e1,tq⟩:=h3.get hy;have:=hq us h2;rw [e1] at this;cases this;exact ⟨w,rfl,rfl,ok,Le.refl w,tq⟩
  ·obtain ⟨us,h2,h3⟩:=key w ok le hw
   exact ⟨⟨us,h2,by rw [<- h3.len];exact Nat.le_of_eq hi.symm⟩,ok.pn _ _ hp⟩
 ·exact s1.elim
theorem qme {ah c:Addr} {n k:Nat} {g:TGs} {m:List AV->AEnv->AH->Re AEnv} (hp:C.pin=some (ah,c)) (hg:SGos C E n g m):SGo C E n (gTupQ C.K ah k g) (gT k m):=by
 intro w x v env σ Q ok en t s;cases x with
 | tup xs =>
  rw [Tr] at t;obtain ⟨a,vs,rfl,hs,ht⟩:=t;have s':Sat C E w (if xs.length=k then m xs env w.h else .no) (λenv' w' => ∀ σ',yj C w' env' σ'->σ'.length=σ.length->σ'.drop n=σ.drop n->Q σ' w'.H):=s
  by_cases hl:xs.length=k
  ·rw [if_pos hl] at s'
   exact ⟨a,c,vs,rfl,ok.pn _ _ hp,hs,by rw [<- ht.len];exact hl,hg w xs vs env σ Q ok en ht s'⟩
  ·rw [if_neg hl] at s';exact s'.elim
 | _=>exact s.elim
def qg2 (sep:Str) (ys:List Str):Bool:=decide (sep.length<=16) && decide ((ys.map (·.length)).sum+ys.length<=1048576)
@[simp] def fJoin:AV->List AV->AH->Re AV
 | .str sep,[x],h=>match (ue h x).bind strsOf with | some ys=>if qg2 sep ys=true then .ok (.str (Txt.join sep ys)) h else .no | none=>.no
 | _,_,_=>.no
theorem qp8:SMt C E 1 (rJoin C.K) fJoin:=by
 intro w x u xs vs Q hl ok tx t s;obtain ⟨y,rfl⟩:=len1 hl;obtain ⟨v,rfl,tv⟩:=zd t;cases x with
 | str sep =>
  rw [Tr] at tx;subst tx;have s:Sat C E w (match (ue w.h y).bind strsOf with | some ys=>if qg2 sep ys=true then .ok (.str (Txt.join sep ys)) w.h else .no | none=>.no) (want C Q):=s
  split at s
  ·rename_i ys ey
   obtain ⟨zs,ez,es⟩:=Option.bind_eq_some_iff.mp ey;obtain ⟨p,us,rfl,r,t'⟩:=m6 ok ez tv;have:=qap es t';subst this;split at s
   ·rename_i ho
    unfold qg2 at ho;rw [Bool.and_eq_true] at ho;exact ⟨sep,p,ys,rfl,rfl,r,of_decide_eq_true ho.1,of_decide_eq_true ho.2,s.here ok _ (by rw [Tr])⟩
   ·exact s.elim
  ·exact s.elim
 | _=>exact s.elim
def qet (C:Ct) (wd:Nat->Option Str):Sp:=λvs H Q _=>∃ a c x,vs=[.ref a]/\H a=some (excO a (C.cl c))/\wd c=some x/\∀ H',Same H H'->Q (.str x) H'
theorem qhn {ah:Addr} {m:AF} {wd:Nat->Option Str} {vs:List V} {H:Hp} {Q:VK} {E1:XK} (hv:vs.head?=some (.ref ah)) (ht:∀ c x,wd c=some x->∃ h,m [.xc c] []=.ok (.str x) h) (h:qet C wd vs H Q E1):∃ c,spZ (C.at ah (C.cl c)) 1 m vs H Q E0:=by
 obtain ⟨a,c,x,rfl,he,hw,q⟩:=h;have ea:a=ah:=by simpa using hv
 subst ea;obtain ⟨h',e⟩:=ht c x hw;refine ⟨c,⟨[],λ_=>False,[],H⟩,[.xc c],rfl,⟨rfl, .nil,λb hb=>absurd hb (by simp),λk c b e=>absurd e (by simp),λb hb=>?_,λb hb=>hb.elim,λb c' z=>?_⟩, .one ?_,rfl,?_⟩
 ·obtain ⟨k,c,e1,_⟩:=hb
  simp at e1
 ·have z:some (a,C.cl c)=some (b,c'):=z
  cases z;exact he
 ·rw [Tr];exact ⟨a,rfl,rfl⟩
 ·rw [e]
  intro w' _ _ le v tv;rw [Tr] at tv;subst tv;refine q _ λb o hb=>?_
  rcases le.ks b (by rintro ⟨k,c,e1,_⟩;simp at e1) o hb with z | ⟨f,_⟩
  ·exact z
  ·exfalso
   rcases le.fn b f with z | z | ⟨k,c,e1,_⟩
   ·exact z
   ·have z:H b=none:=z
    rw [z] at hb;cases hb
   ·simp at e1
theorem Ok.grow {w:Wd} (ok:Ok C w) {H':Hp} (hs:Same w.H H'):Ok C {w with H:=H'}/\Le w {w with H:=H'}:=by
 have nn:∀ a,w.H a≠none->H' a≠none:=λa h=>by
  cases e:w.H a with
  | none=>exact absurd e h
  | some o=>rw [hs a o e];intro z;cases z
 have le:Le w {w with H:=H'}:=⟨⟨[],by simp⟩,λ_ h=>h,λb _ o r=>.inl (hs b o r),λ_ h=>.inl h,λ_ h=>.inr h,nn,λ_ h=>.inl h⟩
 refine ⟨⟨ok.len,ok.nd,λa ha=>nn a (ok.th a ha),λk c a e ea=>?_,ok.fz,λa h=>nn a (ok.fzt a h),λa c h=>hs _ _ (ok.pn a c h)⟩,le⟩
 have h:=ok.cell k c a e ea;cases c with
 | dead=>trivial
 | lst xs=>obtain ⟨vs,hH,t⟩:=h;exact ⟨vs,hs _ _ hH,t.mono ok le⟩
 | dk ks xs=>obtain ⟨kvs,hH,hk,t⟩:=h;exact ⟨kvs,hs _ _ hH,hk,t.mono ok le⟩
 | ins cc fs=>obtain ⟨hf,dx,fvs,hH,t⟩:=h;exact ⟨hf,dx,fvs,hs _ _ hH,t.mono ok le⟩
def SX (C:Ct) (tx:TX) (m:AE):Prop:=∀ (w:Wd) (env:AEnv) (σ:St) (Q:VK) (E:XK),Ok C w->yj C w env σ->Sat C E w (m env w.h) (want C Q)->tx σ w.H Q E
@[simp] def qex (c:Nat) (m:AF) (o:AE) (ma:AA):AE:=λenv h=>(o env h).noex.bind λx h=>match vv h x with
 | some (d,_)=>if d=c then (ma env h).noex.bind λxs h=>m (x::xs) h else .no
 | none=>.no
theorem Sat.nx {α β:Type} {w:Wd} {r:Re α} {f:α->AH->Re β} {P:β->Wd->Prop} (s:Sat C E w (r.noex.bind f) P):Sat C E0 w r (λx w1=>Sat C E w1 (f x w1.h) P):=by
 cases r with
 | ok x h=>exact λw' e ok le=>by subst e;exact Sat.le le s
 | ex c h=>exact s.elim
 | no=>exact s
theorem SA.runX {n:Nat} {t:TA} {m:AA} (h:SA C E0 n t m) {w:Wd} {env:AEnv} {σ:St} {Q:List V->Hp->Prop} {f:List AV->AH->Re AV} {P:AV->Wd->Prop} (ok:Ok C w) (en:yj C w env σ) (s:Sat C E w ((m env w.h).noex.bind f) P)
  (k:∀ xs w',xs.length=n->Ok C w'->Le w w'->Sat C E w' (f xs w'.h) P->∀ vs,Trs C w' xs vs->Q vs w'.H):t σ w.H Q:=by
 refine h.2 w env σ Q ok en ?_;have hl:=h.1 env w.h;have s':=Sat.nx s
 revert s'
 cases e:m env w.h with
 | ok xs h' => exact λs' w' e' ok' le vs tv=>k xs w' (hl xs h' e) ok' le (s' w' e' ok' le) vs tv
 | ex c h' => exact λs' => s'
 | no=>exact λs' => s'
theorem qgy {c n:Nat} {m:AF} {ta:TE} {o:AE} {t:TA} {ma:AA} {mn:Str} (hm:∀ i∈C.fl c,C.fn i≠mn) (ho:SE C E0 ta o) (ha:SA C E0 n t ma):SX C (qjx (C.cl c) mn (spZ C (n+1) m) [] ta t) (qex c m o ma):=by
 intro w env σ Q E ok en s;refine ho w env σ _ ok en ((Sat.nx s).mono λx w1 ok1 le1 s1 v tv=>?_)
 split at s1
 ·rename_i d fs e
  by_cases hd:d=c
  ·rw [if_pos hd] at s1
   subst hd;obtain ⟨k,a,dx,fvs,rfl,rfl,eh,ea,hH,hF,hf⟩:=ft ok1 e tv;refine ⟨a,dx,fvs,rfl,hH,hF.qfi hm hf,ha.runX ok1 (en.mono ok le1) s1 λxs w2 hl ok2 le2 s2 vs tvs=>?_⟩
   rw [List.append_nil];exact ⟨w2, .ref k::xs,rfl,ok2, .cons (tv.mono ok1 le2) tvs,by rw [List.length_cons,hl],s2⟩
  ·rw [if_neg hd] at s1;exact s1.elim
 ·exact s1.elim
@[simp] def qif (i j f:Nat) (wd:Nat->Option Str) (m:AE):AS:=λenv h=>match m env h with
 | .ok x h=>.nx (env.set i (some x)) h
 | .ex c h=>match wd c with
  | some s=>if j<env.length then .nx (((env.set j none).set f (some (.str s))).set j none) h else .no
  | none=>.no
 | .no=>.no
theorem qom {Dc:Addr} {i j f:Nat} {wd:Nat->Option Str} {tx:TX} {m:AE} {E1:XK} (hx:SX C tx m) (hsub:∀ c x,wd c=some x->W.subIn C.K (.ref (C.cl c)) (.ref Dc)=some true) :
  SS C E (tTry C.K Dc i j tx (λa=>tAsg (qkx a (qet C wd) [] E1 (vt (tVar j) tNil)) (ki f))) (qif i j f wd m):=by
 intro w env σ D ok en s;refine hx w env σ _ _ ok en ?_;unfold qif at s
 revert s
 cases m env w.h with
 | ok x h=>exact λs w' e ok' le v tv=>s w' _ e ok' le ((en.mono ok le).set i tv)
 | no=>exact λs=>s
 | ex c h =>
  intro s w' e ok' le;have s:SSat C E w (match wd c with | some s=>if j<env.length then .nx (((env.set j none).set f (some (.str s))).set j none) h else .no | none=>.no) D:=s
  split at s
  ·rename_i x hw
   split at s
   ·rename_i hj
    refine ⟨C.cl c,rfl,hsub c x hw,λa ha=>?_⟩
    refine ⟨.ref a,by rw [List.getElem?_set_self (by rw [<- en.len];exact hj)],rfl,a,c,x,rfl,vd,hw,λH' hs=>?_⟩
    have ok2:=ok'.fresh ha (excO a (C.cl c));have le2:=ok'.q55 ha (excO a (C.cl c));obtain ⟨ok3,le3⟩:=ok2.grow (H':=H') hs;have le13:=le.trans (le2.trans le3);refine s {(w'.fresh a (excO a (C.cl c))) with H:=H'} _ e ok3 le13 ?_
    exact ((((en.mono ok le13).unset j).set f (by rw [Tr])).unset j)
   ·exact s.elim
  ·exact s.elim
end
end Z
namespace Z
open PySem L2 PySem.Spec PyProof.Rows
structure FunD (K:W.Frag) (x qual:Str) (st:Stmt) (f:Addr) (fd:FuncData) (dt:Addr) (items:Array Value):Prop where
 ex:∃ (oc:Value) (od:Option Addr) (kV doc pm:Value) (an:Option Addr) (cdv ct:Value) (osl:Array (Option Value)),
  fd=W.fnOf x qual (vn st) (v7 st) (je st) (.ref dt) kV doc pm an cdv ct/\K.lookup f=some ⟨oc,od, .func fd,osl⟩/\W.codeIn K cdv qual=true
 kp:W.keepIn K (.ref f)=true
 df:∃ (o:Obj) (n:Nat),K.lookup dt=some o/\o.data=.seq items n
section
variable {P:Program} {w:World} {K:PySem.W.Frag} {mg:Str->Option Value} {base:Heap} {x qual:Str} {st:Stmt} {f dt:Addr} {fd:FuncData} {items:Array Value} {N ps:List Str} {k:Nat} {sp:Sp}
theorem qno {oc:Value} {od an:Option Addr} {osl sl:Array (Option Value)} {kV doc pm cdv ct dc:Value} {dd:Option Addr} {n:Nat} (l:K.lookup f=some ⟨oc,od, .func (W.fnOf x qual (vn st) (v7 st) (je st) (.ref dt) kV doc pm an cdv ct),osl⟩)
  (c:W.codeIn K cdv qual=true) (k:W.keepIn K (.ref f)=true) (d:K.lookup dt=some ⟨dc,dd, .seq items n,sl⟩):FunD K x qual st f (W.fnOf x qual (vn st) (v7 st) (je st) (.ref dt) kV doc pm an cdv ct) dt items:=
 ⟨⟨oc,od,kV,doc,pm,an,cdv,ct,osl,rfl,l,c⟩,k,⟨_,n,d,rfl⟩⟩
theorem FunD.binds {ds:List Value} {n:Nat} (F:FunD K x qual st f fd dt items) (hn:ps.length=n+ds.length)
  (h:∀ (kV doc pm:Value) (an:Option Addr) (cdv ct:Value) (us:List Value),us.length=n->∃ k,bindArgs (W.fnOf x qual (vn st) (v7 st) (je st) (.ref dt) kV doc pm an cdv ct) ⟨us,[]⟩=seqItems? (.ref dt) >>= k/\k (some items)=pure (ps.zip (us++ds))):Binds K fd ps ds:=by
 obtain ⟨oc,od,kV,doc,pm,an,cdv,ct,osl,rfl,lk,hcd⟩:=F.ex;obtain ⟨o,n,ho,hs⟩:=F.df;intro s us KX hl;obtain ⟨k,h1,h2⟩:=h kV doc pm an cdv ct us (by rw [List.length_append] at hl;omega)
 exact W.binds_K KX rfl ho hs h1 h2
theorem FunD.okR (F:FunD K x qual st f fd dt items) (S:ju N ps (je st)) (len:∀ vs H Q E,sp vs H Q E->vs.length=ps.length)
  (hbody:∀ (cdv:Value) (A:Around) (outer:List Env) (s:Shared) (H:Hp) (vs:List V) (Q:VK) (E:XK),Room k (A.deeper (envOfC qual (je st) s.heap.objs.size f cdv))->sp vs H Q E ->
   ∃ t,PSs (cxOf (CX1 P w) P w K mg base N qual (je st) f cdv A outer s H E) (v7 st) t/\t {nx:=λ_ H' => Q .non H',rt:=Q} (start N vs) H):FnOk P w K mg base (CX1 P w) (k+1) f fd ps sp:=by
 obtain ⟨oc,od,kV,doc,pm,an,cdv,ct,osl,rfl,lk,hcd⟩:=F.ex;exact ib lk hcd S len λA outer s H vs Q E hr hsp=>hbody cdv A outer s H vs Q E hr hsp
theorem qms (i:Int) (t:Tok):Vals [V.int i] [Value.int i t]:=.cons ⟨t,rfl⟩ .nil
end
section
variable {C:Ct} {E:XK} {ta tb tc:TE} {ma mb mc:AE}
@[simp] def bf:AV->AV->AH->Re AV
 | .tup xs, .tup ys,h=>if xs.isEmpty=false/\xs.length+ys.length<=sizeLine then .ok (.tup (xs++ys)) h else .no
 | _,_,_=>.no
theorem qo6:S2 C E (ie C.K) bf:=by
 intro w x y u v Q ok tx ty s;unfold bf at s;split at s
 ·rename_i h xs ys
  rw [Tr] at tx ty;obtain ⟨a,vs,rfl,r1,t1⟩:=tx;obtain ⟨b,us,rfl,r2,t2⟩:=ty
  by_cases hh:xs.isEmpty=false/\xs.length+ys.length<=sizeLine
  ·rw [if_pos hh] at s
   refine ⟨a,b,vs,us,rfl,rfl,r1,r2,?_,by rw [<- t1.len, <- t2.len];exact hh.2,λhn=>?_,λhn p hp=>?_⟩
   ·intro z
    have:=t1.len;rw [z] at this;cases xs with
    | nil=>exact absurd hh.1 (by simp)
    | cons _ _=>simp at this
   ·subst hn
    have:ys=[]:=List.length_eq_zero_iff.mp (by rw [t2.len];rfl)
    subst this;rw [List.append_nil] at s;exact s.here ok _ (by rw [Tr];exact ⟨a,vs,rfl,r1,t1⟩)
   ·exact s (w.fresh p _) rfl (ok.fresh hp _) (ok.q55 hp _) _ (ok.qf3 hp (t1.app t2))
  ·rw [if_neg hh] at s;exact s.elim
 ·exact s.elim
end
end Z
namespace Z
open PySem L2
def keyA:Key->AV
 | .inl i=>.int i
 | .inr x=>.str x
section
variable {C:Ct} {E:XK} {w:Wd}
theorem tr_key {k:Key} {v:V} (e:v=kV k):Tr C w (keyA k) v:=by
 subst e;cases k <;> (unfold keyA;rw [Tr];rfl)
end
end Z
namespace L2
open PySem PySem.Spec PyProof.Rows
section
variable {M:Model} {A:Around} {E:Value->Shared->Prop} {s:Shared} {B:Heap} {env:Env} {outer:List Env} {L e:Addr} {cls fl:Value} {Q:Unit->Shared->Prop}
theorem qe1:∀ {l:List Env} {h h' base base':Heap},(∀ b∈frs l,base.get? b=none->base'.get? b=none)->(∀ b∈frs l, ∀ o,h.get? b=some o->∃ o',h'.get? b=some o'/\o'.data=o.data)->h.FunFrames base l->h'.FunFrames base' l
 | [],_,_,_,_,_,_,f=>by rw [Heap.FunFrames.eq_1];trivial
 | env::l,h,h',base,base',hb,ho,f=>by
  rw [Heap.FunFrames.eq_2] at f ⊢;obtain ⟨f1,⟨L,o,f2,f3,f4,f5⟩,f6⟩:=f;have hm:L∈frs (env::l):=List.mem_filterMap.mpr ⟨env,List.mem_cons_self,f2⟩;have hs:∀ b∈frs l,b∈frs (env::l):=λb hb=>by
   obtain ⟨x,hx,e⟩:=List.mem_filterMap.mp hb;exact List.mem_filterMap.mpr ⟨x,List.mem_cons_of_mem _ hx,e⟩
  obtain ⟨o',g1,g2⟩:=ho L hm o f4;exact ⟨f1,⟨L,o',f2,hb L hm f3,g1,by rw [g2];exact f5⟩,qe1 (λb hb' => hb b (hs b hb')) (λb hb' => ho b (hs b hb')) f6⟩
theorem qo9 {cenv:Env} {x:Value} (h:cenv.frame=env.frame):noteFrame x cenv=noteFrame x env:=by
 unfold noteFrame PySem.frameOf;rw [h]
theorem qdy (hfr:A.frames=some (env::outer)) (hf:env.frame=some L) (x:At B (env::outer) e cls fl s.heap)
  (h:∀ h',At B (env::outer) e cls (rawInt L) h'->s.heap.UpToSlots h'->Q () {s with heap:=h'}):wpAny M A (noteFrame (.ref e) env) Q E s:=by
 by_cases hfl:(fl == rawInt L)=true
 ·have hfl2:fl=rawInt L:=by simpa using hfl
  have x':=x;obtain ⟨hkb,hen,hl,oe,vs,T,oT,ts,he,hcls,hd,h1,h2,hnT,hTe,hT,hdT,h3⟩:=x;unfold noteFrame;simp only [hf];refine wpAny_bind (wpAny_field he hd h1 ?_);rw [if_pos (show (Value.ref T != Value.none)=true from by simp)]
  refine wpAny_bind (wpAny_field hT hdT h3 ?_);rw [if_pos hfl];exact wpAny_pure (h s.heap (hfl2 ▸ x') λb o q _=>⟨o.slots,q⟩)
 ·obtain ⟨hkb,hen,hl,oe,vs,T,oT,ts,he,hcls,hd,h1,h2,hnT,hTe,hT,hdT,h3⟩:=x
  subst hcls;unfold noteFrame;simp only [hf];refine wpAny_bind (wpAny_field he hd h1 ?_);rw [if_pos (show (Value.ref T != Value.none)=true from by simp)]
  refine wpAny_bind (wpAny_field hT hdT h3 ?_);rw [if_neg hfl];refine wpAny_bind (wpAny_setField hT hdT (Array.getElem?_eq_some_iff.mp h3).1 ?_);have other:∀ b,b≠T->(s.heap.update T (Obj.mapFields (·.setIfInBounds 3 Value.none))).get? b=s.heap.get? b:=λb hb=>Heap.get?_update_other _ _ (Ne.symm hb)
  have noRecord:∀ b o,s.heap.get? b=some o->(∀ vs,o.data≠.fields vs)->b≠T:=λb o hb hnf q=>by
   rw [q,hT] at hb;cases hb;exact hnf ts hdT
  refine ir hfr (hl.of_keeps λb o hb hnf=>⟨o,(other b (noRecord b o hb hnf)).trans hb,rfl⟩) hf ((other e (Ne.symm hTe)).trans he)
   (λb o hbo=>(other b λq=>by rw [q,hnT] at hbo;cases hbo).trans (hkb b o hbo)) hen hd (Array.getElem?_eq_some_iff.mp h1).1 h2 λh' x1 x2=>h h' x1 λb o hb hnf=>x2 b o ((other b (noRecord b o hb hnf)).trans hb) hnf
theorem qgh {l:List Env} {fr:Option Addr} (x:At B l e cls fl s.heap) (h:∀ h',At B l e cls (fr.elim Value.none λf=>rawInt f) h'->s.heap.UpToSlots h'->Q () {s with heap:=h'}):wpAny M A (setFlight (.ref e) fr) Q E s:=by
 obtain ⟨hkb,hen,hl,oe,vs,T,oT,ts,he,hcls,hd,h1,h2,hnT,hTe,hT,hdT,h3⟩:=x;have hsz3:3<ts.size:=(Array.getElem?_eq_some_iff.mp h3).1;have other:∀ b,b≠T->(s.heap.update T (Obj.mapFields (·.setIfInBounds 3 (fr.elim Value.none λf=>rawInt f)))).get? b=s.heap.get? b:=λb hb=>Heap.get?_update_other _ _ (Ne.symm hb)
 have noRecord:∀ b o,s.heap.get? b=some o->(∀ vs,o.data≠.fields vs)->b≠T:=λb o hb hnf q=>by
  rw [q,hT] at hb;cases hb;exact hnf ts hdT
 unfold setFlight;refine wpAny_bind (wpAny_field he hd h1 ?_);rw [if_pos (show (Value.ref T != Value.none)=true from by simp)]
 refine wpAny_setField hT hdT hsz3 (h _ ⟨λb o hbo=>(other b λq=>by rw [q,hnT] at hbo;cases hbo).trans (hkb b o hbo),hen,
  hl.of_keeps λb o hb hnf=>⟨o,(other b (noRecord b o hb hnf)).trans hb,rfl⟩,?_⟩ λb o hb hnf=>⟨o.slots,(other b (noRecord b o hb hnf)).trans hb⟩)
 exact ⟨oe,vs,T,_,_,(other e (Ne.symm hTe)).trans he,hcls,hd,h1,h2,hnT,hTe,Heap.get?_update_self _ hT (Obj.isFreed_of_fields (Obj.data_mapFields hdT _)),Obj.data_mapFields hdT _,by simp [hsz3]⟩
theorem qio (hfr:A.frames=some (env::outer)) (hf:env.frame=some L) (x:At B (env::outer) e cls fl s.heap) (hQ:∀ h',At B outer e cls .none h'->s.heap.UpToSlots h'->Q () {s with heap:=h'}) :
  wpAny M A (leaving env (.ref e)) Q E s:=by
 unfold leaving;refine wpAny_bind (qdy hfr hf x λh' x up=>?_)
 exact pf x λh'' x' up' => hQ h'' x'.pop (up.trans up')
end
section
variable {X:Cx} {pins:List (Addr×Obj)} {σ:St} {H H':Hp} {s s':Shared} {a C D:Addr} {B B':Heap}
theorem qmp (I:Inv X pins σ H s) (st:X.stack=X.env::X.outer) (ex:X.ex=[]) (hD:X.s₀.heap.get? D=none) (F:Fly X.prog X.w X.stack H s a C H' B s') (eB:∀ b o,b≠D->B.get? b=some o->B'.get? b=some o) (hok:HOk X.prog X.w H' B')
  {h'':Heap} (fl:At B' X.outer a (.ref C) .none h'') (up:∀ b∈frs X.outer, ∀ o,s'.heap.get? b=some o->(∀ vs,o.data≠.fields vs)->∃ sl,h''.get? b=some {o with slots:=sl}):Fly X.prog X.w X.outer X.H₀ X.s₀ a C H' B' {s' with heap:=h''}:=by
 have I':Inv X pins σ H' s':=I.qer F.os F.un (F.hok.kept F.fly.st) F.bare λb hb=>absurd hb (by simp)
 have nst:∀ b o,X.s₀.heap.get? b=some o->b∉frs X.outer->b∉frs X.stack:=λb o q nf hb=>by
  rcases List.mem_cons.mp (I.q7m b hb) with z | z
  ·have e1:=Heap.lt_size q
   have e2:=I.ok.above;rw [z] at e1;exact absurd e1 (Nat.not_lt.mpr e2)
  ·exact nf z
 have nex:∀ b,b∉X.ex:=λb=>by rw [ex];simp
 have nD:∀ b o,X.s₀.heap.get? b=some o->b≠D:=λb o q z=>by rw [z,hD] at q;cases q
 have kk:∀ b o,X.s₀.heap.get? b=some o->X.H₀ b=none->b∉frs X.outer->B'.get? b=some o:=λb o q n nf =>
  eB b o (nD b o q) (F.kp b o (I.base.keep b o q n nf (nex b)) (I.base.free b o q n (nex b)) (nst b o q nf))
 have tt:∀ b o,X.s₀.heap.get? b=some o->b∉frs X.outer->∃ o',B'.get? b=some o':=λb o q nf=>by
  obtain ⟨o1,e1⟩:=I.base.there b o q (nex b);obtain ⟨o2,e2⟩:=F.th b o1 e1 (nst b o q nf);exact ⟨o2,eB b o2 (nD b o q) e2⟩
 have sl:∀ b o,X.s₀.heap.get? b=some o->b∈frs X.outer->∃ sl,h''.get? b=some {o with slots:=sl}:=λb o q hf=>by
  obtain ⟨n,o1,q1,nd⟩:=I.ff0 b hf;rw [q] at q1;cases q1;obtain ⟨sl,e⟩:=I'.base.slot b o q n hf (nex b);obtain ⟨sl',e'⟩:=up b hf _ e nd;exact ⟨sl',e'⟩
 refine ⟨F.os.trans I.os,F.bare,hok,kk,tt,?_,fl⟩;refine ⟨λb o q n nf _=>fl.st b o (kk b o q n nf),λb o q n hf _=>sl b o q hf,λb o q n _=>I'.base.free b o q n (nex b),λb o q hx=>?_,I'.base.tups,I'.base.frzs,I'.base.tbls⟩
 by_cases hb:b∈frs X.outer
 ·obtain ⟨sl',e⟩:=sl b o q hb
  exact ⟨_,e⟩
 ·obtain ⟨o',e⟩:=tt b o q hb
  exact ⟨o',fl.st b o' e⟩
theorem Out.comp {E:XK} (O:Out X E) (I:Inv X pins σ H s) (F:Fly X.prog X.w X.stack H s a C H' B s') (q:E (.ref C) none H') (cD:FpOk X pins H D) {m:Str->Option Value} (hm:s.heap.Ns D m) {cenv:Env} (hcf:cenv.frame=X.env.frame) {acc:Value} {use:Option (Value->Sem Unit)} {Q:Value->Shared->Prop} :
  notedBy (model X.prog X.w) X.A cenv (λx s'' => compPost (model X.prog X.w) X.A X.xe use Q acc D (.error x) s'') (.ref a) s':=by
 have hfr:X.A.frames=some (X.env::X.outer):=by rw [I.ok.frames,O.st]
 have x0:At B (X.env::X.outer) a (.ref C) .none s'.heap:=by rw [<- O.st];exact F.fly
 have hDs:D∉frs X.stack:=λz=>by
  rcases List.mem_cons.mp (I.q7m D z) with e | e
  ·exact cD.2.1 e
  ·exact cD.2.2.1 e
 have hD0:X.s₀.heap.get? D=none:=by
  rcases cD.2.2.2.1 with z | z
  ·rw [O.ex] at z;cases z
  ·exact Heap.get?_none_of_le z
 obtain ⟨oD,es,ep,hoD,hdD,hkD,hnD⟩:=hm;have hBD:B.get? D=some oD:=F.kp D oD hoD cD.1 hDs;have hDo:∀ b∈frs (X.env::X.outer),b≠D:=λb hb z=>hDs (by rw [O.st];exact z ▸ hb)
 have hDH':H' D=none:=F.un.free D oD hoD cD.1 (by simp)
 show wpAny (model X.prog X.w) X.A (noteFrame (.ref a) cenv) _ _ s';rw [qo9 hcf];refine qdy hfr O.fr x0 λh1 x1 up1=>?_
 refine ⟨m,⟨oD,es,ep,x1.st D oD hBD,hdD,hkD,hnD⟩,λh2 sb cenv2 _=>?_⟩
 have aD:a≠D:=λz=>by rw [<- z,x1.nw] at hBD;cases hBD
 have eB:∀ b o,b≠D->B.get? b=some o->(W.hideAll B [D]).get? b=some o:=λb o hb e=>W.hideAll_get _ e (by simpa using hb)
 have nB:∀ b o,(W.hideAll B [D]).get? b=some o->B.get? b=some o/\b≠D:=λb o e=>⟨W.of_hideAll _ e,λz=>by rw [z,W.hideAll_none [D] (by simp)] at e;cases e⟩
 have noneB:∀ b,B.get? b=none->(W.hideAll B [D]).get? b=none:=λb e=>by
  cases q:(W.hideAll B [D]).get? b with
  | none=>rfl
  | some o=>rw [(nB b o q).1] at e;cases e
 have x2:At (W.hideAll B [D]) (X.env::X.outer) a (.ref C) (rawInt X.env.locals) h2:=by
  refine ⟨λb o e=>(sb.2 b (nB b o e).2).trans (x1.st b o (nB b o e).1),noneB a x1.nw,qe1 (λb _ e=>noneB b e) (λb hb o e=>⟨o,(sb.2 b (hDo b hb)).trans e,rfl⟩) x1.fr,?_⟩
  obtain ⟨oe,vs,T,oT,ts,g1,g2,g3,g4,g5,g6,g7,g8,g9,g10⟩:=x1.tr;have tD:T≠D:=λz=>by rw [z,hBD] at g6;cases g6
  exact ⟨oe,vs,T,oT,ts,(sb.2 a aD).trans g1,g2,g3,g4,g5,noneB T g6,g7,(sb.2 T tD).trans g8,g9,g10⟩
 unfold PySem.passOn;obtain ⟨oe,vs,T,oT,ts,g1,g2,g3,g4,g5,g6,g7,g8,g9,g10⟩:=x2.tr;refine wpAny_bind (wpAny_field (s:={s' with heap:=h2}) g1 g3 g4 ?_)
 rw [if_neg (show ¬ ((Value.ref T == Value.none)=true) from by simp)]
 refine wpAny_bind (qgh (s:={s' with heap:=h2}) x2 λh3 x3 up3=>wpAny_throw ?_)
 refine O.pass a _ (qio hfr O.fr x3 λh4 x4 up4=>?_)
 refine ⟨a,C,H',_,rfl,qmp I O.st O.ex hD0 F eB (λb u e=>?_) x4 (λb hb o e nd=>?_),q⟩
 ·refine (F.hok b u e).stay (λc v hc z=>eB c v ?_ z) (λ_ z=>z) λ_ _ z=>z
  intro hz;subst hz;rcases hc with rfl | hc
  ·rw [hDH'] at e;cases e
  ·rw [hDH'] at hc;cases hc
 ·have hb':b∈frs (X.env::X.outer):=by
   obtain ⟨x,hx,e⟩:=List.mem_filterMap.mp hb;exact List.mem_filterMap.mpr ⟨x,List.mem_cons_of_mem _ hx,e⟩
  obtain ⟨s1,e1⟩:=up1 b o e nd;obtain ⟨s3,e3⟩:=up3 b _ ((sb.2 b (hDo b hb')).trans e1) nd;obtain ⟨s4,e4⟩:=up4 b _ e3 nd;exact ⟨s4,e4⟩
end
def blkX (Y:Cx) (P:Program) (w:World) (st:List Env) (E:XK):Value->Shared->Prop:=λe s' => ∃ pins σ H1 s1,Inv Y pins σ H1 s1/\CX1 P w st H1 s1 E e s'
abbrev blkE (X:Cx) (E:XK) (scope:Scope) (own:List Str) (fv:List (Str×Nat)) (s:Shared) (H:Hp) (fp:List Addr):Cx:=(blk X scope own fv s H fp).wish (blkX (blk X scope own fv s H fp) X.prog X.w X.stack E)
theorem qfu {X:Cx} {E:XK} {scope:Scope} {own:List Str} {fv:List (Str×Nat)} {s:Shared} {H:Hp} {fp:List Addr}:Passes (CX1 X.prog X.w) (blkE X E scope own fv s H fp) E:=
 λpins σ H1 s1 e s' I hx=>⟨pins, σ,H1,s1,I.q6d,hx⟩
section
variable {prog:Program} {w:World} {A:Around} {R:Result->Shared->Prop} {s:Shared}
theorem q9w {EX:Value->Shared->Prop} {elt target iter:Expr} {ifs:List Expr} {scope:Scope} {pos:Pos} {it acc:Value} {env:Env} (I:Nat->Shared->Prop)
  (turn:∀ n s,I n s->wpAny (model prog w) A (pyNext it) (λr s₁=>match r with
   | none=>R (.ok .next) s₁
   | some v=>wpAny (model prog w) A (letOwnedTupleGo target it v) (λ_ s₁' => wpAny (model prog w) A (assign target env v) (λ_ s₂ =>
     wpAny (model prog w) A (forIn ifs true λc r=>if r=true then do let ok <- isTrue c env (eval c env);pure (ForInStep.yield ok) else pure (ForInStep.yield r)) (λok s₃ =>
      if ok=true then wpAny (model prog w) A (eval elt env) (λx s₄ =>
       wpAny (model prog w) A (call (.builtin "list.append") [acc,x]) (λ_ s₅=>∃ m,m<n/\I m s₅) (λ_ _=>False) s₄) EX s₃
      else ∃ m,m<n/\I m s₃) (λ_ _=>False) s₂) (λ_ _=>False) s₁') (λ_ _=>False) s₁) (λ_ _=>False) s)
  (hE:∀ e s',EX e s'->notedBy (model prog w) A env (λx s'' => R (.error x) s'') e s') (n:Nat) (h:I n s) :
  codeAny (model prog w) A (.compLoop (.ListComp elt [⟨target,iter,ifs,0⟩] scope pos) 0 it acc env) R s:=by
 refine codeAny_loop rfl I (λn s hI=>?_) n h
 show wpAny _ A ((compTurn (.ListComp elt [⟨target,iter,ifs,0⟩] scope pos) 0 it acc env).onRaise (λx=>do noteFrame x env;theTreesLotGoes x)) _ _ s
 refine wpAny_noted ?_;rw [compTurn_list];refine wpAny_bind (wpAny_standAt (wpAny_bind (wpAny_mono (turn n s hI) (λr s₁ h₁=>?_) λ_ _ h' => h'.elim)))
 cases r with
 | none=>exact wpAny_pure h₁
 | some v =>
  refine wpAny_bind (wpAny_mono h₁ (λ_ s₁' h₁' => ?_) λ_ _ h' => h'.elim)
  refine wpAny_bind (wpAny_mono h₁' (λ_ s₂ h₂=>wpAny_bind (wpAny_mono h₂ (λok s₃ h₃=>?_) λ_ _ h' => h'.elim)) λ_ _ h' => h'.elim)
  cases ok with
  | false=>exact wpAny_pure ⟨rfl,h₃⟩
  | true =>
   exact wpAny_bind (wpAny_bind (wpAny_mono h₃ (λx s₄ h₄=>wpAny_bind (wpAny_mono h₄ (λ_ s₅ h₅=>wpAny_pure (wpAny_pure ⟨rfl,h₅⟩)) λ_ _ h' => h'.elim)) λe' s' h' => hE e' s' h'))
end
section
variable {X:Cx} {pins:List (Addr×Obj)} {σ:St} {H:Hp} {s:Shared} {scope:Scope} {own:List Str} {fv:List (Str×Nat)}
theorem qo7 {E:XK} (O:Out X E) {acc0:Option (Value->Sem Unit)} {Q0:Value->Shared->Prop} {elt tg iter:Expr} {ifs:List Expr} {pos:Pos} {g:TG} {tc:TT} {te:TE}
  (hc:X.calm=true) (B:Blk X.env.scope X.N scope own fv) (hg:∀ s H fp,PG (blk X scope own fv s H fp) tg g) (ht:∀ s H fp,PTs (blk X scope own fv s H fp) ifs tc) (he:∀ s H fp,PE (blkE X E scope own fv s H fp) elt te)
  {it:Addr} {fp:List Addr} {tn:Nat->Heap->Prop} {J:It} (I:Inv X pins σ H s) (T:Turn X.prog X.w X.K tg J fp it tn) (st:tn 0 s.heap) (hf:∀ b∈fp,FpOk X pins H b) {Q:VK}
  (hw:∀ D,H D=none->LcW own fv J g tc te σ D Q (upd H D (.lst [])))
  (hR:∀ D C H' s',Inv X pins σ H' s'->FpOk X pins H' C->(∃ m,s'.heap.Ns C m)->Q (.ref D) H'->compPost (model X.prog X.w) X.A X.xe acc0 Q0 (.ref D) C (.ok .next) s') :
  wpAny (model X.prog X.w) X.A (newList []) (λacc s₃=>wpAny (model X.prog X.w) X.A (newFunctionEnv scope X.env.globals (clos scope.names X.env.cells) [] X.env.qual none .none (some X.env)) (λcenv s₄ =>
   codeAny (model X.prog X.w) X.A (.compStart (.ListComp elt [⟨tg,iter,ifs,0⟩] scope pos) 0 (.ref it) acc {cenv with scope:=relabel scope X.env}) (compPost (model X.prog X.w) X.A X.xe acc0 Q0 acc cenv.locals) s₄) X.xe s₃) X.xe s:=by
 refine wpAny_newObj_type (wpAny_newFunctionEnv B.nocell (by intro y hy;simp at hy) (λh₁ hns₁ hsb₁=>?_) B.kind)
 dsimp only at hns₁ hsb₁ ⊢;have I3:Inv X pins σ (upd H s.heap.objs.size (.lst [])) {s with heap:=s.heap.push {cls:=.type "list",data:=.seq ([]:List Value).toArray}}:=I.lnew (t':=s.toks) .nil (Nat.zero_le _)
 obtain ⟨W,⟨m0,w0⟩,turn⟩:=hw s.heap.objs.size I.fresh;have fpl:∀ b∈fp,b<s.heap.objs.size:=λb hb=>by
  obtain ⟨o,e,_⟩:=T.obj _ _ st b hb;exact Heap.lt_size e
 have hf3:∀ b∈fp,FpOk X pins (upd H s.heap.objs.size (.lst [])) b:=λb hb=>⟨by rw [yk (Nat.ne_of_lt (fpl b hb))];exact (hf b hb).1,(hf b hb).2⟩
 generalize hS3:({s with heap:=s.heap.push {cls:=.type "list",data:=.seq ([]:List Value).toArray}}:Shared)=s3 at I3
 have hS3h:s.heap.push {cls:=.type "list",data:=.seq ([]:List Value).toArray}=s3.heap:=by rw [<- hS3]
 have fpl3:∀ b∈fp,b<s3.heap.objs.size:=λb hb=>by
  rw [<- hS3h,Heap.size_push];exact Nat.lt_succ_of_lt (fpl b hb)
 have e3:∀ (h:Heap) (tk:Nat),({s with heap:=h,toks:=tk}:Shared)={s3 with heap:=h,toks:=tk}:=λh tk=>by rw [<- hS3]
 rw [hS3h] at hns₁ hsb₁ ⊢;rw [e3];have k3:∀ b o,s3.heap.get? b=some o->h₁.get? b=some o:=λb o e=>hsb₁.extBut b o (Nat.ne_of_lt (Heap.lt_size e)) (Heap.get?_push_of_some _ e)
 have J0:=il (σ:=σ) I3 B hf3 fpl3 (tk:=s.toks+([]:List (Str×Value)).length) hns₁ k3;have ksz:∀ b o,s.heap.get? b=some o->h₁.get? b=some o:=λb o e=>k3 b o (by rw [<- hS3h];exact Heap.get?_push_of_some _ e)
 have st1:tn 0 h₁:=T.keep _ _ _ st λb _ o e=>ksz b o e
 have stat:∀ {H':Hp},(∀ b∈fp,H' b=none)->∀ b∈fp,FpOk (blk X scope own fv s3 (upd H s.heap.objs.size (.lst [])) fp) [] H' b:=λhn b hb =>
  ⟨hn b hb,Nat.ne_of_lt (fpl3 b hb),λz=>(by
   rcases List.mem_cons.mp (I.q7m b z) with e | e
   ·exact (hf b hb).2.1 e
   ·exact (hf b hb).2.2.1 e), .inl hb,λx c e=>(hf b hb).2.2.2.2.1 x c (ko e),λp hp=>absurd (show p∈([]:List (Addr×Obj)) from hp) (by simp)⟩
 generalize hX':blk X scope own fv s3 (upd H s.heap.objs.size (.lst [])) fp=X' at J0 stat;have eP:X'.prog=X.prog:=by rw [<- hX'];rfl
 have eW:X'.w=X.w:=by rw [<- hX'];rfl
 have eK:X'.K=X.K:=by rw [<- hX'];rfl
 have eA:X'.A=X.A:=by rw [<- hX'];rfl
 have eE:X'.xe=λ_ _=>False:=by rw [<- hX'];rfl
 have eC:X'.calm=true:=by rw [<- hX'];exact hc
 have eEnv:compEnvC scope (clos scope.names X.env.cells) s3.heap.objs.size X.env=X'.env:=by rw [<- hX'];rfl
 have Hg:PG X' tg g:=by rw [<- hX'];exact hg _ _ _
 have Ht:PTs X' ifs tc:=by rw [<- hX'];exact ht _ _ _
 have He:PE (X'.wish (blkX X' X.prog X.w X.stack E)) elt te:=by rw [<- hX'];exact he _ _ _
 have loop:codeAny (model X.prog X.w) X.A (.compLoop (.ListComp elt [⟨tg,iter,ifs,0⟩] scope pos) 0 (.ref it) (.ref s.heap.objs.size) X'.env) (compPost (model X.prog X.w) X.A X.xe acc0 Q0 (.ref s.heap.objs.size) s3.heap.objs.size) {s3 with heap:=h₁,toks:=s.toks+([]:List (Str×Value)).length}:=by
  refine q9w (EX:=blkX X' X.prog X.w X.stack E) (λn s' => ∃ i H',Inv X' [] (bσ own fv σ) H' s'/\tn i s'.heap/\(∀ b∈fp,H' b=none)/\W i n H') ?_ (λe s5 hx=>?_) m0 ⟨0,_,J0,st1,λb hb=>(hf3 b hb).1,w0⟩
  ·rintro n s4 ⟨i,H4,J4,st4,fr4,w4⟩
   rcases turn i n H4 w4 with ⟨stop,q⟩ | ⟨go,NE,NF,hNE,hNF,step⟩
   ·have key:=T.done X' eP eW eK eC i [] s4 _ H4 (λ_ _=>False) J4 (stat fr4) st4 stop
    rw [eA] at key;refine thn key λr s5 ⟨hr,J5⟩=>?_
    subst hr;rw [<- hX'] at J5;obtain ⟨I5,c5,m5⟩:=cx I3 hf3 J5;exact hR _ _ _ _ I5 c5 m5 q
   ·have key:=T.item X' eP eW eK eC i [] s4 _ H4 (λ_ _=>False) J4 (stat fr4) st4 go
    rw [eA] at key;refine thn key λr s5 ⟨u,hr,h5⟩=>?_
    subst hr;refine thn h5 λ_ s6 ⟨x,H6,J6,r6,y6,st6,fr6⟩=>?_
    have J6':=J6.pinned (stat fr6) (T.obj _ _ st6);have kg:=Hg _ s6 _ H6 x u _ J6' r6 (step x H6 y6);rw [eP,eW,eA,eE] at kg;refine thn kg λ_ s7 ⟨σ7,H7,J7,⟨os,ol,eσ⟩,q7⟩=>?_
    have kt:=Ht _ s7 σ7 H7 _ J7 q7;rw [eP,eW,eA,eE] at kt;refine thn kt λok s8 ⟨H8,J8,q8⟩=>?_
    have again:∀ {s9:Shared} {H9:Hp} {mm:Nat},Inv X' ([]++mz fp s6.heap) σ7 H9 s9->mm<n->W (i+1) mm H9->∃ m,m<n/\∃ i H',Inv X' [] (bσ own fv σ) H' s9/\tn i s9.heap/\(∀ b∈fp,H' b=none)/\W i m H':=λ{s9 H9 mm} J9 hm w9=>by
     refine ⟨mm,hm,i+1,H9,(J9.q7z).weak ?_ ?_,T.keep _ _ _ st6 λb hb o e=>(J9.pin (b,o) (List.mem_append_right _ (List.mem_append_right _ (n6 hb e)))).1,λb hb=>?_,w9⟩
     ·rw [eσ];unfold bσ;rw [List.length_append,List.length_append,List.length_map,ol]
     ·intro j v e
      rw [eσ];unfold bσ at e
      by_cases hj:j<own.length
      ·rw [List.getElem?_append_left (by simpa using hj),List.getElem?_map] at e
       cases q:own[j]? with
       | none=>rw [q] at e;cases e
       | some y=>rw [q] at e;cases e
      ·rw [List.getElem?_append_right (by simpa using hj),List.length_map] at e
       rw [List.getElem?_append_right (by omega),ol]
       exact e
     ·obtain ⟨o,e,d⟩:=T.obj _ _ st6 b hb
      exact (J9.pin (b,o) (List.mem_append_right _ (List.mem_append_right _ (n6 hb e)))).2.1
    cases ok with
    | false =>
     rw [if_neg Bool.false_ne_true] at q8 ⊢;obtain ⟨m',hm,w8⟩:=hNF _ q8;exact again J8 hm w8
    | true =>
     rw [if_pos rfl] at q8 ⊢;have ke:=He _ s8 σ7 H8 _ (J8.wish _) q8;have ke:wpAny (model X.prog X.w) X.A (eval elt X'.env) (λv s9=>∃ x H9,Inv (X'.wish (blkX X' X.prog X.w X.stack E)) ([]++mz fp s6.heap) σ7 H9 s9/\RelV x v/\NE x H9) (blkX X' X.prog X.w X.stack E) s8:=by rw [<- eP, <- eW, <- eA];rw [<- eP, <- eW] at ke;exact ke
     refine wpAny_mono ke (λxv s9 ⟨v,H9,J9',r9,q9⟩=>?_) λ_ _ z=>z
     have J9:=J9'.q6d;obtain ⟨ys,hD,hz,m',hm,w9⟩:=hNE v H9 q9;have:=(uz (X:=X')) _ s9 σ7 H9 (.ref s.heap.objs.size) [v] (.ref s.heap.objs.size) [xv] (λ_ H10=>W (i+1) m' H10) J9 rfl (.cons r9 .nil) ⟨_,ys,v,rfl,rfl,hD,hz,w9⟩
     rw [eP,eW,eA,eE] at this;exact thn this λ_ s10 ⟨_,H10,J10,_,w10⟩=>again J10 hm w10
  ·obtain ⟨pins1, σ1,H1,s1,J1,a,C',H2,B',rfl,F,qE⟩:=hx
   rw [<- hX'] at J1;obtain ⟨I1,c1,m1,hm1⟩:=cx I3 hf3 (J1.qdc (pins':=[]) λp hp=>absurd hp (by simp))
   exact O.comp I1 F qE c1 hm1 (by rw [<- eEnv];rfl)
 rw [<- eEnv] at loop;exact codeAny_compStart_list loop (T.self _ 0 _ _ _ st1 loop)
end
section
variable {X:Cx} {scope:Scope} {own:List Str} {fv:List (Str×Nat)} {elt tg iter:Expr} {ifs:List Expr} {pos:Pos} {wi:TI} {g:TG} {tc:TT} {te:TE}
theorem qe5 {E:XK} (O:Out X E) {osc:Scope} {N0:List Str} {i:Nat} {x:Str} {pos' spos:Pos} (hc:X.calm=true) (hsc:X.env.scope=osc) (hN0:X.N=N0) (hN:X.N.Nodup) (hi':X.N[i]?=some x) (hx:Loc X.env.scope x) (B:Blk osc N0 scope own fv) (hi:PI X tg iter wi) (hg:∀ s H fp,PG (blk X scope own fv s H fp) tg g) (ht:∀ s H fp,PTs (blk X scope own fv s H fp) ifs tc) (he:∀ s H fp,PE (blkE X E scope own fv s H fp) elt te)
  (hsw:swapsWith (.ListComp elt [⟨tg,iter,ifs,0⟩] scope pos) (some (.Name x pos')) spos.line X.env=pure true:=by rfl)
  (hs:∀ x,foldedSetIterable iter X.env x=pure x:=by intro _;rfl) (hf:X.fn x=true\/X.env.scope.names.lookup x=some .local:=by first | exact .inl rfl | exact .inr rfl | assumption) :
  PS X (.Assign [.Name x pos'] (.ListComp elt [⟨tg,iter,ifs,0⟩] scope pos) spos) (tAsg (tLc own fv wi g tc te) (ki i)):=by
 subst hsc hN0;intro pins s σ H D I h;rw [exec_Assign_Name_used _ _ _ _ hsw];refine wpAny_bind (wpAny_standAt (wpAny_bind ?_));show wpAny _ X.A (do let _ <- comprehension (.ListComp elt [⟨tg,iter,ifs,0⟩] scope pos) scope X.env _ (newList []) false (eval iter X.env) (some (assign (.Name x pos') X.env))) _ _ s
 refine wpAny_bind (wpAny_mono (wpAny_comprehension_free (use:=some (assign (.Name x pos') X.env)) (Q:=λ_ s' => SP X pins D .next s') rfl hs (B.clos I.ok) B.kind B.loc
  (thn (hi pins s σ H _ I h) λv s1 h1=>thn h1 λitv s2 h2=>?_)) (λ_ s' hq=>wpAny_pure (wpAny_pure hq)) λ_ _ e=>e)
 obtain ⟨it,fp,tn,J,H2,rfl,I2,T,st2,f2,hw⟩:=h2;refine qo7 O (Q:=λx H1=>ki i x σ H1 D.nx) hc B hg ht he I2 T st2 f2 hw λL C H' s' I' c' m' q=>?_
 obtain ⟨m,hn⟩:=m';show wpAny _ X.A (assign (.Name x pos') X.env (.ref L)) _ _ _;refine wpAny_assign_Name (wu I' hN hi' hx (v:=.ref L) rfl (λs'' I'' ⟨a,hsb,ha⟩=>?_) hf)
 have hCa:C≠a:=by
  rcases ha with ha | ha
  ·rw [ha];exact c'.2.1
  ·exact (c'.2.2.2.2.1 x a ha).symm
 exact ⟨m,hn.sameBut hsb hCa,λh' hs' => ⟨_,H',cy I'' c' hs',q⟩⟩
end
end L2
namespace Z
open PySem L2
def lcLX (wt:Option Nat) (all:List AV) (g:AV->AEnv->AH->Re AEnv) (tc:AT) (te:AE) (be:AEnv):List AV->List AV->AH->Re (List AV)
 | [],acc,h=>if okW h all wt=true then .ok acc h else .no
 | x::xs,acc,h=>if okW h all wt=true then (g x be h).noex.bind λenv h=>(tc env h).noex.bind λb h=>if b=true then (te env h).bind λy h=>lcLX wt all g tc te be xs (acc++[y]) h else lcLX wt all g tc te be xs acc h else .no
@[simp] def qi9 (n:Nat) (fv:List Nat) (it:AI) (g:AV->AEnv->AH->Re AEnv) (tc:AT) (te:AE):AA:=λenv h=>(it env h).bind λp h=>if p.1.length<=sizeLine then lcLX p.2 p.1 g tc te (bEnv n fv env) p.1 [] h else .no
@[simp] def aLcX (n:Nat) (fv:List Nat) (it:AI) (g:AV->AEnv->AH->Re AEnv) (tc:AT) (te:AE):AE:=λenv h=>(qi9 n fv it g tc te env h).bind λxs h=>.ok (.lst xs) h
theorem qd4 {wt:Option Nat} {all:List AV} {g:AV->AEnv->AH->Re AEnv} {tc:AT} {te:AE} {be:AEnv}:∀ (xs acc:List AV) (h:AH) {ys:List AV} {h':AH},lcL wt all g tc te be xs acc h=.ok ys h'->lcLX wt all g tc te be xs acc h=.ok ys h'
 | [],acc,h,ys,h',e=>by rw [lcL] at e;rw [lcLX];exact e
 | x::xs,acc,h,ys,h',e=>by
  rw [lcL] at e;rw [lcLX]
  by_cases hw:okW h all wt=true
  ·rw [if_pos hw] at e ⊢
   cases hg:g x be h with
   | no=>rw [hg] at e;cases e
   | ex c h1=>rw [hg] at e;cases e
   | ok env h1 =>
    rw [hg] at e;simp only [Re.q3y,Re.qdf] at e ⊢;cases hc:tc env h1 with
    | no=>rw [hc] at e;cases e
    | ex c h1=>rw [hc] at e;cases e
    | ok b h2 =>
     rw [hc] at e;simp only [Re.q3y,Re.qdf] at e ⊢;cases b with
     | false=>rw [if_neg Bool.false_ne_true] at e ⊢;exact qd4 xs acc h2 e
     | true =>
      rw [if_pos rfl] at e ⊢;cases ht:te env h2 with
      | no=>rw [ht] at e;cases e
      | ex c h1=>rw [ht] at e;cases e
      | ok y h3 =>
       rw [ht] at e;simp only [Re.q3y] at e ⊢;exact qd4 xs (acc++[y]) h3 e
  ·rw [if_neg hw] at e;cases e
section
variable {C:Ct} {E:XK}
theorem Sat.nxb {α β γ:Type} {w1:Wd} {X:Re α} {g:α->AH->Re β} {f:β->AH->Re γ} {P:γ->Wd->Prop} (s:Sat C E w1 ((X.noex.bind g).bind f) P):Sat C E0 w1 X (λx w' => Sat C E w1 ((g x w'.h).bind f) P):=by
 cases X with
 | ok x h=>exact λw' e ok le=>by subst e;exact s
 | ex c h=>exact s.elim
 | no=>exact s
theorem Sat.xb {α β γ:Type} {w1:Wd} {X:Re α} {g:α->AH->Re β} {f:β->AH->Re γ} {P:γ->Wd->Prop} (s:Sat C E w1 ((X.bind g).bind f) P):Sat C E w1 X (λx w' => Sat C E w1 ((g x w'.h).bind f) P):=by
 cases X with
 | ok x h=>exact λw' e ok le=>by subst e;exact s
 | ex c h=>exact s
 | no=>exact s
theorem qod {own:List Str} {fv:List (Str×Nat)} {wi:TI} {it:AI} {g:TG} {mg:AV->AEnv->AH->Re AEnv} {tc:TT} {mc:AT} {te:TE} {me:AE} (hi:SI C E wi it) (hg:SGo C E0 own.length g mg) (hc:STs C E0 tc mc) (he:SE C E te me)
  {w:Wd} {env:AEnv} {σ:St} {Q:VK} (ok:Ok C w) (en:yj C w env σ) {f:List AV->AH->Re AV} {P:AV->Wd->Prop} (s:Sat C E w ((qi9 own.length (fv.map (·.2)) it mg mc me env w.h).bind f) P)
  (k:∀ (w0 w':Wd) xs D vs,Ok C w0->Le w w0->w0.H D=none->Ok C w'->Le w0 w'->Lone w' D vs->Trs C w' xs vs->Sat C E w0 (f xs w'.h) P->Q (.ref D) w'.H):tLc own fv wi g tc te σ w.H Q:=by
 have s0:Sat C E w ((it env w.h).bind λp h=>(if p.1.length<=sizeLine then lcLX p.2 p.1 mg mc me (bEnv own.length (fv.map (·.2)) env) p.1 [] h else .no:Re (List AV)).bind f) P:=by
  unfold qi9 at s
  revert s
  cases it env w.h <;> exact λs=>s
 refine hi w env σ _ ok en (s0.bind.mono λp w1 ok1 le1 s1 J hJ D hD=>?_)
 obtain ⟨all,wt⟩:=p
 by_cases hsz:all.length<=sizeLine
 ·have s1:Sat C E w1 ((if all.length<=sizeLine then lcLX wt all mg mc me (bEnv own.length (fv.map (·.2)) env) all [] w1.h else .no:Re (List AV)).bind f) P:=s1
  rw [if_pos hsz] at s1;have en1:=en.mono ok le1;refine ⟨λi m H=>m=all.length - i/\i<=all.length/\∃ w2 acc ys,w2.H=H/\Ok C w2/\Le w1 w2/\Lone w2 D ys/\Trs C w2 acc ys/\acc.length<=i/\Sat C E w1 ((lcLX wt all mg mc me (bEnv own.length (fv.map (·.2)) env) (all.drop i) acc w2.h).bind f) P,⟨all.length,by simp,Nat.zero_le _,w1.fresh D (.lst []),[],[],rfl,ok1.fresh hD _,ok1.q55 hD _,?_, .nil,Nat.zero_le _,s1⟩,?_⟩
  ·exact ⟨vd,λz=>ok1.fzt D z hD,λz=>ok1.th D (ok1.qil z) hD,λz=>ok1.th D z hD⟩
  ·rintro i m H ⟨rfl,hi,w2,acc,ys,rfl,ok2,le2,L2,t2,hal,s3⟩
   by_cases hlt:i<all.length
   ·right
    have hx:all[i]?=some all[i]:=List.getElem?_eq_getElem hlt;rw [List.drop_eq_getElem_cons hlt,lcLX] at s3
    by_cases hw:okW w2.h all wt=true
    ·rw [if_pos hw] at s3
     refine ⟨hJ.go w2 i ok2 le2 hw hlt,λv H5=>∃ w5 acc' ys,w5.H=H5/\Ok C w5/\Le w1 w5/\Lone w5 D ys/\(∃ y,Tr C w5 y v/\Trs C w5 acc' ys/\acc'.length<=i/\Sat C E w1 ((lcLX wt all mg mc me (bEnv own.length (fv.map (·.2)) env) (all.drop (i+1)) (acc' ++ [y]) w5.h).bind f) P),
      λH4=>∃ w4 acc' ys,w4.H=H4/\Ok C w4/\Le w1 w4/\Lone w4 D ys/\Trs C w4 acc' ys/\acc'.length<=i/\Sat C E w1 ((lcLX wt all mg mc me (bEnv own.length (fv.map (·.2)) env) (all.drop (i+1)) acc' w4.h).bind f) P,?_,?_,?_⟩
     ·rintro v H5 ⟨w5,acc',ys',rfl,ok5,le5,L5,y,ty,t5,hal5,s5⟩
      refine ⟨ys',L5.at_,?_,all.length - (i+1),by omega,rfl,hlt,w5.poke D (.lst (ys' ++ [v])),acc' ++ [y],ys' ++ [v],rfl,ok5.poke L5 _,le5.poke hD,?_,(t5.app (.one ty)).poke L5 _,?_,s5⟩
      ·have:=t5.len;omega
      ·exact ⟨vd,L5.nf,L5.nl,L5.nr⟩
      ·rw [List.length_append,List.length_singleton];omega
     ·rintro H4 ⟨w4,acc',ys',rfl,ok4,le4,L4,t4,hal4,s4⟩
      exact ⟨all.length - (i+1),by omega,rfl,hlt,w4,acc',ys',rfl,ok4,le4,L4,t4,by omega,s4⟩
     ·intro v H' yl
      obtain ⟨w3,rfl,e3,ok3,le3,t3⟩:=hJ.yld w2 i _ v H' ok2 le2 hw hx yl;have en3:=qh8 ((en1.mono ok1 le2).mono ok2 le3) own fv;rw [<- e3] at s3;refine hg w3 _ v _ _ _ ok3 en3 t3 ((Sat.nxb s3).le (le2.trans le3) |>.mono λenv4 w4 ok4 le4 s4 σ4 en4 l4 d4=>⟨?_,?_⟩)
      ·refine ⟨σ4.take own.length,?_,?_⟩
       ·have hl:(bσ own fv σ).length=own.length+fv.length:=by unfold bσ kq;simp
        rw [List.length_take];omega
       ·have hd:(bσ own fv σ).drop own.length=kq fv σ:=by
         unfold bσ;rw [List.drop_append_of_le_length (by simp)]
         simp
        rw [<- hd, <- d4,List.take_append_drop]
      ·have le14:Le w1 w4:=le2.trans (le3.trans le4)
       refine hc w4 env4 σ4 _ ok4 en4 ((Sat.nxb s4).le le14 |>.mono λb w5 ok5 le5 s5=>?_)
       have L5:Lone w5 D ys:=L2.le (le3.trans (le4.trans le5));have t5:Trs C w5 acc ys:=t2.mono ok2 (le3.trans (le4.trans le5));cases b with
       | true =>
        refine iteT (he w5 env4 σ4 _ ok5 (en4.mono ok4 le5) ?_);have s5':Sat C E w1 (((me env4 w5.h).bind λy h=>lcLX wt all mg mc me (bEnv own.length (fv.map (·.2)) env) (all.drop (i+1)) (acc++[y]) h).bind f) P:=by simpa using s5
        refine (Sat.xb s5').le (le14.trans le5) |>.mono λy w6 ok6 le6 s6 q tq=>?_
        exact ⟨w6,acc,ys,rfl,ok6,le14.trans (le5.trans le6),L5.le le6,y,tq,t5.mono ok5 le6,hal,s6⟩
       | false =>
        refine iteF ⟨w5,acc,ys,rfl,ok5,le14.trans le5,L5,t5,hal,by simpa using s5⟩
    ·rw [if_neg hw] at s3;exact s3.elim
   ·left
    have hd:all.drop i=[]:=List.drop_eq_nil_of_le (by omega)
    rw [hd,lcLX] at s3
    by_cases hw:okW w2.h all wt=true
    ·rw [if_pos hw] at s3
     exact ⟨hJ.stop w2 i ok2 le2 hw (Nat.le_antisymm hi (Nat.le_of_not_lt hlt)),k w1 w2 acc D ys ok1 le1 hD ok2 le2 L2 t2 s3⟩
    ·rw [if_neg hw] at s3;exact s3.elim
 ·have s1:Sat C E w1 ((if all.length<=sizeLine then lcLX wt all mg mc me (bEnv own.length (fv.map (·.2)) env) all [] w1.h else .no:Re (List AV)).bind f) P:=s1
  rw [if_neg hsz] at s1;exact s1.elim
theorem qju {own:List Str} {fv:List (Str×Nat)} {wi:TI} {it:AI} {g:TG} {mg:AV->AEnv->AH->Re AEnv} {tc:TT} {mc:AT} {te:TE} {me:AE} (hi:SI C E wi it) (hg:SGo C E0 own.length g mg) (hc:STs C E0 tc mc) (he:SE C E te me):SE C E (tLc own fv wi g tc te) (aLcX own.length (fv.map (·.2)) it mg mc me):=λw env σ Q ok en s =>
 qod hi hg hc he ok en s λw0 w' xs D vs ok0 le0 h0 ok' le' L t s' => s' (w'.keep D) rfl (ok'.keep L) (le'.keep h0) _ (by rw [Tr];exact ⟨D,vs,rfl, .inl rfl, .inl L.at_,t.keep⟩)
end
section
variable {C:Ct} {E:XK}
theorem Trs.one1 {w:Wd} {x:AV} {v:V} (t:Tr C w x v):Trs C w [x] [v]:=by
 rw [Trs];exact ⟨v,[],rfl,t,by rw [Trs]⟩
theorem Trs.rev {w:Wd}:∀ {xs:List AV} {vs:List V},Trs C w xs vs->Trs C w xs.reverse vs.reverse
 | [],vs,h=>by rw [Trs] at h;subst h;rw [List.reverse_nil,List.reverse_nil,Trs]
 | x::xs,vs,h=>by
  rw [Trs] at h;obtain ⟨v,us,rfl,h1,h2⟩:=h;rw [List.reverse_cons,List.reverse_cons];exact (Trs.rev h2).app (Trs.one1 h1)
end
end Z
namespace L2
open PySem PySem.Spec PyProof.Rows
structure OwnT (K:W.Frag) (C:Addr):Prop where
 cl:W.findIn K (.ref C) "__class__" = some (some (.builtin "object.__class__"))
 gg:W.specialIn K (.builtin "object.__class__") "__get__" = some (some (.builtin "getset_descriptor.__get__"))
 tk:W.takesIn K (.builtin "object.__class__")=some true
 mo:W.mroIn K C (.type "object")=some true
section
variable {X:Cx}
def rIsiO (K:W.Frag) (Cc:Addr):List V->Hp->VK->Prop:=λxs H Q=>∃ a dx fs,xs=[.ref a, .ref Cc]/\H a=some (.ins Cc dx fs)/\Cls K Cc/\OwnT K Cc/\Q (.bl true) H
theorem qdv {Cc:Addr}:x9 X (.builtin "isinstance") (rIsiO X.K Cc):=by
 intro pins s σ H xs us Q I r h;obtain ⟨a,dx,fs,rfl,ha,cl,ow,q⟩:=h;obtain ⟨u,w',rfl,ru,rw'⟩:=vals2 r;cases rw';obtain ⟨HH,Z,hh,hne⟩:=(TyZ.of (TyOf.ins ha cl ow.cl ow.gg ow.tk ow.mo)).kit I ru;have e:W.kitOne X.K (.ref Cc) (.ref Cc)=some true:=by
  unfold W.kitOne;rw [if_pos (by simp)]
 exact W.kia_one Z I.kIn hh e hne λtk=>⟨.bl true,H,I.tok tk,rfl,q⟩
end
theorem qea {prog:Program} {w:World} {A:Around} {s:Shared} {env:Env} {R:Result->Shared->Prop} {e:Value} {b₀:Stmt} {body:List Stmt} {pos:Pos}
  (h:wpAny (model prog w) A (setFlight e none) (λ_ s1=>wpAny (model prog w) A (execs (b₀::body) env) (λf s2=>R (.ok f) s2) (notedBy (model prog w) A env λx s' => R (.error x) s') s1) (notedBy (model prog w) A env λx s' => R (.error x) s') s) :
  codeAny (model prog w) A (Code.handlers e [ExceptHandler.ExceptHandler none none (b₀::body) pos] env) R s:=by
 refine codeAny_loop rfl (λ_ s' => s'=s) (λn s' hs=>?_) 0 rfl
 subst hs;show wpAny _ A (do return Fin.done (<- (handleWith e env [ExceptHandler.ExceptHandler none none (b₀::body) pos]).onRaise (λx=>do noteFrame x env;theTreesLotGoes x))) _ _ _
 refine wpAny_bind (wpAny_noted ?_);unfold handleWith;refine wpAny_bind (wpAny_standAt (wpAny_bind (wpAny_mono h (λ_ s1 h1=>?_) λ_ _ z=>z)))
 exact wpAny_mono h1 (λf s2 h2=>wpAny_pure h2) λ_ _ z=>z
def tTryE (K:W.Frag) (Dc:Addr) (tx:TX) (tb:Addr->TS):TS:=λD σ H =>
 tx σ H (λ_ H1=>D.nx σ H1) λcv _ H1=>∃ C,cv=.ref C/\W.subIn K (.ref C) (.ref Dc)=some true /\
  ∀ a,H1 a=none->tb a D σ (upd H1 a (excO a C))
section
variable {X:Cx} {x:Str} {Dc:Addr} {tx:TX} {tb:Addr->TS} {e:Expr} {b₀:Stmt} {suite:List Stmt} {np epos hpos pos:Pos}
theorem qn6 (st:X.stack=X.env::X.outer) (fr:X.env.frame=some X.env.locals) (ex:X.ex=[])
  (hg:Gl X x) (hm:X.mg x=some (.ref Dc)) (h1:W.instIn X.K (.ref Dc) (.type "tuple")=some false) (h2:W.isClsIn X.K Dc=true) (h3:W.subIn X.K (.ref Dc) (.type "BaseException")=some true)
  (hx:PX X e tx) (hs:∀ a,PSs (X.inx a) (b₀::suite) (tb a)) (hdb:(x == ("__debug__" : Str))=false:=by decide) (hsw:swapsWith e none epos.line X.env=pure false:=by rfl) :
  PS X (.Try [.Expr e epos] [.ExceptHandler (some (.Name x np)) none (b₀::suite) hpos] [] [] pos) (tTryE X.K Dc tx tb):=by
 intro pins s σ H D I h;refine wpAny_Try_except (wpAny_execs_cons (wpAny_Expr_any (wpAny_mono (hx pins s σ H _ _ I h) (λu s1 ⟨z,H1,I1,r1,q1⟩=>?ok) (λe0 s1 hex=>?exc)) I.quiet hsw))
 case ok =>
  exact wpAny_execs_nil (wpAny_execs_nil ⟨_,H1,I1,q1⟩)
 case exc =>
  obtain ⟨H0,s0,I0,a,C,H1,B,rfl,F,C',eC,hsub,k⟩:=hex;cases eC;refine iu (by rw [I0.ok.frames,st]) fr (by rw [<- st];exact F.fly) λh4 hd4 up4=>?_
  refine pf hd4 λh5 fl5 up5=>?_
  have F5:=F.on I0.ff (by rw [st];exact fl5) (up4.trans up5)
  have I5:Inv X pins σ H1 {s1 with heap:=h5}:=F5.inv I0
  obtain ⟨ob,_,hob,hobc,_⟩:=fl5.tr.first;refine wpAny_handleBy_cons (codeAny_handlers_test (my (X:=X.inx a) (I5.inx a) hg hm ?_ hdb)) (by intro q;cases q)
  refine qe6 (X:=I5.kIn) hob hobc h1 h2 h3 hsub ?_;show codeAny _ _ _ _ _;refine qea ?_;refine pf fl5 λh6 fl6 up6=>?_
  have F6:=F5.on I0.ff (by rw [st];exact fl6) up6
  have I6:Inv X pins σ H1 {s1 with heap:=h6}:=F6.inv I0
  obtain ⟨n0,n1⟩:=F6.new I0;obtain ⟨oe,vs,g1,g2,g3,g4⟩:=fl6.tr.first;have I7:Inv X pins σ (upd H1 a (excO a C)) {s1 with heap:=h6}:=by
   refine I6.qjh n1 ?_ ?_ (λx c e z=>?_) (λp hp z=>?_) ⟨⟨oe,vs,g1,g2,g3,g4⟩,⟨oe,g1⟩,λha hb ⟨o,vs,e1,e2,e3,e4⟩ kk=>⟨o,vs,kk _ e1,e2,e3,e4⟩⟩
   ·cases q:X.s₀.heap.get? a with
    | none=>rfl
    | some o =>
     obtain ⟨o',e'⟩:=I0.base.there a o q (by rw [ex];simp)
     rw [n0] at e';cases e'
   ·rintro rfl
    obtain ⟨m,⟨o,es,ep,ho,_⟩,_⟩:=I0.loc;rw [n0] at ho;cases ho
   ·subst z
    obtain ⟨w',o,ho,_⟩:=I0.cell x c e;rw [n0] at ho;cases ho
   ·have:=(I0.pin p hp).1
    rw [z,n0] at this;cases this
  refine wpAny_mono (hs a pins _ _ _ _ (I7.inx a) (k a n1)) (λf s9 q=>?_) λ_ _ z=>False.elim z
  show SP X pins D f s9;cases f with
  | next =>
   obtain ⟨σ',H',I9,q⟩:=q;exact ⟨σ',H',I9.qbx I.ok,q⟩
  | brk =>
   obtain ⟨σ',H',I9,q⟩:=q;exact ⟨σ',H',I9.qbx I.ok,q⟩
  | cont =>
   obtain ⟨σ',H',I9,q⟩:=q;exact ⟨σ',H',I9.qbx I.ok,q⟩
  | ret u =>
   obtain ⟨v', σ',H',I9,rv,q⟩:=q;exact ⟨v', σ',H',I9.qbx I.ok,rv,q⟩
end
end L2
namespace Z
open PySem L2
section
variable {C:Ct} {E:XK}
@[simp] def sPar (i j:Nat) (ma:AA):AS:=λenv h=>(ma env h).to λvs h=>match vs with | [v,w]=>.nx ((env.set i (some v)).set j (some w)) h | _=>.no
theorem qla {i j:Nat} {t:TA} {ma:AA} (ha:SA C E 2 t ma):SS C E (tPar i j t) (sPar i j ma):=λw env σ D ok en s =>
 ha.2 w env σ _ ok en (Sat.mono (Sat.to s) λvs w1 ok1 le1 s1 us tu=>by
  split at s1
  ·rename_i v x
   rw [Trs] at tu;obtain ⟨v',us1,rfl,t1,tu⟩:=tu;rw [Trs] at tu;obtain ⟨x',us2,rfl,t2,tu⟩:=tu;rw [Trs] at tu;subst tu;exact ⟨v',x',rfl,s1 w1 _ rfl ok1 (Le.refl w1) (((en.mono ok le1).set i t1).set j t2)⟩
  ·exact s1.elim)
@[simp] def fIsO (c:Nat):AV->AH->Re AV:=λx h=>match vv h x with
 | some (d,_)=>if d=c then .ok (.bl true) h else .no
 | none=>.no
theorem qkh {c:Nat} {t:TE} {a:AE} (hc:Cls C.K (C.cl c)) (ow:OwnT C.K (C.cl c)) (ha:SE C E t a):SE C E (tCB (rIsiO C.K (C.cl c)) (vt t (vt (tC (.ref (C.cl c))) tNil))) (a1 (fIsO c) a):=λw env σ Q ok en s =>
 ha w env σ _ ok en (s.bind.mono λx w1 ok1 le1 s1 v tv=>by
  unfold fIsO at s1;split at s1
  ·rename_i d fs e
   split at s1
   ·rename_i hd
    subst hd;obtain ⟨k,ad,dx,fvs,rfl,rfl,e1,e2,e3,_,_⟩:=ft ok1 e tv;exact ⟨ad,dx,fvs,rfl,e3,hc,ow,s1.here ok1 _ (by rw [Tr])⟩
   ·exact s1.elim
  ·exact s1.elim)
@[simp] def qhw (good:Nat->Bool) (m:AE) (mb:AS):AS:=λenv h=>match m env h with
 | .ok _ h=>.nx env h
 | .ex c h=>if good c=true then mb env h else .no
 | .no=>.no
theorem qos {Dc:Addr} {good:Nat->Bool} {tx:TX} {m:AE} {tb:Addr->TS} {mb:AS} (hx:SX C tx m) (hsub:∀ c,good c=true->W.subIn C.K (.ref (C.cl c)) (.ref Dc)=some true) (hb:∀ a,SS C E (tb a) mb) :
  SS C E (tTryE C.K Dc tx tb) (qhw good m mb):=by
 intro w env σ D ok en s;refine hx w env σ _ _ ok en ?_;unfold qhw at s
 revert s
 cases m env w.h with
 | ok x h=>exact λs w' e ok' le v tv=>s w' _ e ok' le (en.mono ok le)
 | no=>exact λs=>s
 | ex c h =>
  intro s w' e ok' le;have s:SSat C E w (if good c=true then mb env h else .no) D:=s
  by_cases hg:good c=true
  ·rw [if_pos hg] at s
   refine ⟨C.cl c,rfl,hsub c hg,λa ha=>?_⟩
   have ok2:=ok'.fresh ha (excO a (C.cl c));have le2:=ok'.q55 ha (excO a (C.cl c));exact hb a (w'.fresh a (excO a (C.cl c))) env σ D ok2 (en.mono ok (le.trans le2)) (SSat.le (le.trans le2) (by rw [show (w'.fresh a (excO a (C.cl c))).h=h from e];exact s))
  ·rw [if_neg hg] at s;exact s.elim
end
end Z
namespace L2
open PySem PySem.Spec PyProof.Rows
section
variable {X:Cx} {e lit:Expr} {te tl:TE} {pos p2:Pos}
def tStep (K:W.Frag) (te tl:TE):TE:=λσ H Q=>te σ H λx H1=>tl σ H1 λy H2=>∃ a xs,x=.ref a/\SqL K H2 a xs /\
 ((y=.int (-1)/\∀ p,H2 p=none->Q (.ref p) (upd H2 p (.lst xs.reverse)))\/(y=.int 1/\∀ p,H2 p=none->Q (.ref p) (upd H2 p (.lst xs))))
theorem qm6 (its:List Value):slicePick its.toArray none none (some 1)=its.toArray:=by
 have e:slicePick its.toArray none none (some 1)=slicePick its.toArray none none none:=rfl;rw [e,qan];have h1:HT.sIx its.length 0 none=0:=HT.qew _ _;have h2:HT.sIx its.length its.length none=its.length:=HT.qew _ _;rw [h1,h2,List.drop_zero,Nat.sub_zero,List.take_length]
theorem qog (he:PE X e te) (hl:PE X lit tl):PE X (.Subscript e (.Slice none none (some lit) p2) pos) (tStep X.K te tl):=by
 intro pins s σ H Q I h;refine Subscript_ (thn (he pins s σ H _ I h) λv s1 ⟨x,H1,I1,r1,q1⟩=>?_)
 refine wpAny_Slice ?_;rw [evalPart_none,evalPart_some];refine wpAny_pure (wpAny_pure (thn (hl pins s1 σ H1 _ I1 q1) λvk s2 ⟨y,H2,I2,r2,a,xs,ea,hx,q⟩=>?_))
 subst ea;cases r1;have go:∀ (k:Int) (zs:List V),k≠0->y=.int k->(∀ (its:List Value),Vals xs its->∃ zv:List Value,Vals zs zv/\slicePick its.toArray none none (some k)=zv.toArray)->zs.length<=sizeLine->(∀ p,H2 p=none->Q (.ref p) (upd H2 p (.lst zs))) ->
   wpAny (model X.prog X.w) X.A (subscriptTail e (.Slice none none (some lit) p2) (.ref a) (.ref s2.heap.objs.size)) (EP X pins σ Q) X.xe {s2 with heap:=s2.heap.push {cls:=.type "slice",data:=.fields #[.none, .none,vk]}}:=by
  intro k zs hk ey hp hz qq;subst ey;obtain ⟨t,rfl⟩:=r2;have I4:Inv X pins σ H2 {s2 with heap:=s2.heap.push {cls:=.type "slice",data:=.fields #[.none, .none, .int k t]}}:=I2.kept (t':=s2.toks) λb ob q=>Heap.get?_push_of_some _ q
  obtain ⟨its,r,ht,hz2⟩:=I4.list hx;have hlen:=r.length;obtain ⟨zv,rz,ep⟩:=hp its r;refine tail_any (ops:=[.ref a, .ref s2.heap.objs.size]) ht.isList.typeIs slot_list_getitem.lookup ?_ (by with_unfolding_all rfl)
  refine wpAny_getItem_list_slice (st:=some k) ht.isList (Heap.IsSliceOf.new ..) .none .none (.int k t) (by simpa using hk) ?_ (by rw [List.size_toArray];omega)
  rw [ep];refine ⟨.ref _,_,I4.laid (t':=s2.toks) (o:=.lst zs) (λb ob q=>Heap.get?_push_of_some _ q) (Nat.le_refl _) ?_,rfl,qq _ (I4.hok.fresh (Nat.le_refl _))⟩
  exact ⟨hz,zv,0,rz,Heap.get?_push_size _ rfl⟩
 have hxz:xs.length<=sizeLine:=by
  obtain ⟨its,r,ht,hz2⟩:=I2.list hx;exact hz2
 rcases q with ⟨ey,q⟩ | ⟨ey,q⟩
 ·exact go (-1) xs.reverse (by decide) ey (λits r=>⟨its.reverse,r.reverse,by rw [W.krv_pick]⟩) (by rw [List.length_reverse];exact hxz) q
 ·exact go 1 xs (by decide) ey (λits r=>⟨its,r,qm6 its⟩) hxz q
end
end L2
namespace Z
open PySem L2
section
variable {C:Ct} {E:XK}
@[simp] def c0 (a b:AE):AE:=λenv h=>(a env h).bind λx h=>(b env h).bind λy h=>match ue h x,y with
 | some xs, .int (.negSucc 0)=>.ok (.lst xs.reverse) h
 | some xs, .int (.ofNat 1)=>.ok (.lst xs) h
 | _,_=>.no
theorem qp4 {te tl:TE} {a b:AE} (ha:SE C E te a) (hb:SE C E tl b):SE C E (tStep C.K te tl) (c0 a b):=λw env σ Q ok en s =>
 ha w env σ _ ok en (s.bind.mono λx w1 ok1 le1 s1 v tv=>hb w1 env σ _ ok1 (en.mono ok le1) (s1.bind.mono λy w2 ok2 le2 s2 u tu=>by
  split at s2
  ·rename_i xs e
   obtain ⟨ad,vs,rfl,r,t⟩:=m6 ok2 e (tv.mono ok1 le2);rw [Tr] at tu;exact ⟨ad,vs,rfl,r, .inl ⟨tu,λp hp=>s2 (w2.frozen p _) rfl (ok2.frozen hp _) (ok2.q4u hp _) _ (ok2.q8p hp t.rev)⟩⟩
  ·rename_i xs e
   obtain ⟨ad,vs,rfl,r,t⟩:=m6 ok2 e (tv.mono ok1 le2);rw [Tr] at tu;exact ⟨ad,vs,rfl,r, .inr ⟨tu,λp hp=>s2 (w2.frozen p _) rfl (ok2.frozen hp _) (ok2.q4u hp _) _ (ok2.q8p hp t)⟩⟩
  ·exact s2.elim))
end
end Z
namespace L2
open PySem PySem.Spec PyProof.Rows
theorem qgq:∀ {xs:List V} {us:List Value},xs.length=us.length->(∀ (i:Nat) x u,xs[i]?=some x->us[i]?=some u->RelV x u)->Vals xs us
 | [],[],_,_=>.nil
 | [],u::us,h,_=>by simp at h
 | x::xs,[],h,_=>by simp at h
 | x::xs,u::us,h,k=>.cons (k 0 x u rfl rfl) (qgq (by simpa using h) λi x u h1 h2=>k (i+1) x u h1 h2)
section
variable {X:Cx}
def qk1:List V->Hp->VK->Prop:=λxs H Q=>∃ a kvs,xs=[.ref a]/\Rd H a (.dK kvs)/\∀ l,H l=none->Q (.ref l) (upd H l (.lst (kvs.map λkv=>kV kv.1)))
theorem qa4 (hc:X.calm=true):x9 X (.type "list") qk1:=by
 intro pins s σ H xs us Q I r h;obtain ⟨a,kvs,rfl,hd,q⟩:=h;obtain ⟨u,rfl,ru⟩:=vals1 r;cases ru;obtain ⟨hl,hsys,vs,kv,dof⟩:=hd.ok I.hok;obtain ⟨ep,hm⟩:=dof.dictAt;have hlen:kvs.length=vs.length:=kv.length;refine W.kdl_call (W.kdl_dict (kvs:=vs) (ep:=ep) hsys) (I.ok.hd hc) hm (by rw [<- hlen];exact hl) λh' tk acc c' kp e items=>?_
 refine ⟨.ref s.heap.objs.size,_,I.laid (t':=tk) kp (Nat.le_refl _) (show xg X.prog X.w _ h' _ (.lst (kvs.map λkv=>kV kv.1)) from ⟨by rw [List.length_map];exact hl,acc.toList,c',qgq (by have hs:=items.1;rw [List.length_map,hlen,Array.length_toList];exact hs.symm) λi x u h1 h2=>?_,e⟩),rfl,q _ (I.hok.fresh (Nat.le_refl _))⟩
 rw [List.getElem?_map] at h1;cases hk:kvs[i]? with
 | none=>rw [hk] at h1;cases h1
 | some p =>
  rw [hk] at h1;cases h1;obtain ⟨q2,hq2,hk1,hr⟩:=qcc kv hk;obtain ⟨k,x,e1,e2⟩:=items.2 i u (by rw [<- Array.getElem?_toList];exact h2)
  rw [hq2] at e1;cases e1;exact kv_rel (by rw [show p.1=k from hk1];exact e2)
end
end L2
namespace Z
open PySem L2
section
variable {C:Ct} {E:XK}
@[simp] def t6:List AV->AH->Re AV
 | [x],h=>match dkOf h x with | some (ks,_)=>.ok (.lst (ks.map keyA)) h | none=>.no
 | _,_=>.no
theorem qfw {w:Wd}:∀ (kvs:List (Key×V)),Trs C w ((kvs.map (·.1)).map keyA) (kvs.map λkv=>kV kv.1)
 | []=>by rw [List.map_nil,List.map_nil,List.map_nil,Trs]
 | p::r=>by rw [List.map_cons,List.map_cons,List.map_cons,Trs];exact ⟨_,_,rfl,tr_key rfl,qfw r⟩
theorem qbn:SC C E 1 qk1 t6:=by
 intro w xs vs Q hl ok t s;obtain ⟨x,rfl⟩:=len1 hl;obtain ⟨v,rfl,tv⟩:=zd t;have s:Sat C E w (match dkOf w.h x with | some (ks,_)=>.ok (.lst (ks.map keyA)) w.h | none=>.no) (want C Q):=s
 split at s
 ·rename_i ks ys e
  obtain ⟨a,kvs,rfl,r,rfl,ht⟩:=o4 ok e tv;exact ⟨a,kvs,rfl,r,λp hp=>s (w.frozen p _) rfl (ok.frozen hp _) (ok.q4u hp _) _ (ok.q8p hp (qfw kvs))⟩
 ·exact s.elim
def rLenD:List V->Hp->VK->Prop:=λxs H Q=>∃ a kvs,xs=[V.ref a]/\H a=some (.dK kvs)/\Q (.int kvs.length) H
theorem bg {X:Cx}:x9 X (.builtin "len") rLenD:=qk3
@[simp] def mi:List AV->AH->Re AV
 | [.ref k],h=>match h[k]? with | some (.dk ks _)=>.ok (.int ks.length) h | _=>.no
 | _,_=>.no
theorem bh:SC C E 1 rLenD mi:=by
 intro w xs vs Q hl ok t s;obtain ⟨x,rfl⟩:=len1 hl;obtain ⟨v,rfl,tv⟩:=zd t;cases x with
 | ref k =>
  have s:Sat C E w (match w.h[k]? with | some (.dk ks _)=>.ok (.int ks.length) w.h | _=>.no) (want C Q):=s
  split at s
  ·rename_i ks ys e
   rw [Tr] at tv;obtain ⟨a,rfl,ea⟩:=tv;obtain ⟨kvs,hH,rfl,ht⟩:=ok.cell k _ a e ea;refine ⟨a,kvs,rfl,hH,?_⟩;have:=s.here ok;exact this _ (by rw [Tr,List.length_map])
  ·exact s.elim
 | _=>exact s.elim
end
end Z
namespace L2
open PySem PySem.Spec PyProof.Rows
section
variable {X:Cx}
def rEqD0:R2:=λx y H Q=>∃ a b kvs,x=.ref a/\y=.ref b/\Rd H a (.dK kvs)/\Rd H b (.dK [])/\Q (.bl kvs.isEmpty) H
theorem qoo (hu:X.A.units<cLine):OpR X (compareOp .Eq) rEqD0:=by
 intro pins s σ H x y v u Q I rx ry h;obtain ⟨a,b,kvs,rfl,rfl,ha,hb,q⟩:=h;cases rx;cases ry;obtain ⟨_,h1,vs,kv,da⟩:=ha.ok I.hok;obtain ⟨_,h2,us,ku,db⟩:=hb.ok I.hok;cases ku;have hl:kvs.length=vs.length:=kv.length;refine W.keq_eq (knd:=vo X.prog X.w) (r:=true) h1 h2 da db hu (λe=>?_) ⟨.bl _,H,I,rfl,?_⟩
 ·cases vs with
  | nil=>exact .nil
  | cons p r=>simp at e
 ·rw [Bool.and_true]
  have:(vs.length == ([]:List (Key×Value)).length)=kvs.isEmpty:=by
   cases kvs with
   | nil=>cases kv;rfl
   | cons p r=>cases kv;rfl
  rw [this];exact q
def rNeD0:R2:=λx y H Q=>∃ a b kvs,x=.ref a/\y=.ref b/\Rd H a (.dK kvs)/\Rd H b (.dK [])/\Q (.bl (!kvs.isEmpty)) H
theorem qn4 (hu:X.A.units<cLine):OpR X (compareOp .NotEq) rNeD0:=by
 intro pins s σ H x y v u Q I rx ry h;obtain ⟨a,b,kvs,rfl,rfl,ha,hb,q⟩:=h;cases rx;cases ry;obtain ⟨_,h1,vs,kv,da⟩:=ha.ok I.hok;obtain ⟨_,h2,us,ku,db⟩:=hb.ok I.hok;cases ku;have hl:kvs.length=vs.length:=kv.length;show wpAny (model X.prog X.w) X.A (richCompare .NotEq (.ref a) (.ref b)) (EP X pins σ Q) X.xe s;refine wpAny_richCompare_same_room da.typeIs db.typeIs F.slot_dict_ne ?_ hu;refine wpAny_call_entry F.slot_dict_ne da.typeIs F.entry_dict_ne ?_ (F.args_dict_ne_2 _ _)
 change wpAny _ _ (Builtin.Dict.dictSlotArgs "__ne__" ⟨[.ref a, .ref b],[]⟩ >>= _) _ _ _
 refine wpAny_bind ?_
 change wpAny _ _ (Builtin.Dict.notOrdered "__ne__" ⟨[.ref a, .ref b],[]⟩ >>= _) _ _ _
 refine wpAny_bind (wpAny_notOrdered_dict da.typeIs ?_)
 change wpAny _ _ (pure (Value.ref a,[Value.ref b]) >>= _) _ _ _
 refine wpAny_bind (wpAny_pure (wpAny_pure ?_))
 change wpAny _ _ (PySem.isInstance (.ref b) (.type "dict") >>= _) _ _ _
 refine wpAny_bind (wpAny_isInstance (b:=true) db.typeIs (by with_unfolding_all rfl) ?_)
 rw [if_neg (by decide)]
 refine wpAny_bind (wpAny_pure (wpAny_bind (wpAny_pure (wpAny_bind (W.keq_samePairs (knd:=vo X.prog X.w) (r:=true) h1 h2 da db (λe=>?_) ?_)))))
 ·cases vs with
  | nil=>exact .nil
  | cons p r=>simp at e
 ·have e:((vs.length == ([]:List (Key×Value)).length && true) == false) = !kvs.isEmpty:=by
   rw [Bool.and_true];cases kvs with
   | nil=>cases kv;rfl
   | cons p r=>cases kv;rfl
  refine wpAny_pure ⟨_,rfl,(λz=>Value.noConfusion z),?_⟩
  rw [e];exact ⟨.bl _,H,I,rfl,q⟩
end
end L2
namespace Z
open PySem L2
section
variable {C:Ct} {E:XK}
@[simp] def bj:AV->AV->AH->Re AV:=λx y h=>match dkOf h x,dkOf h y with
 | some (ks,_),some ([],_)=>.ok (.bl ks.isEmpty) h
 | _,_=>.no
theorem qnd:S2 C E rEqD0 bj:=by
 intro w x y u v Q ok tx ty s;unfold bj at s;split at s
 ·rename_i ks xs ys e1 e2
  obtain ⟨a,kvs,rfl,r1,rfl,_⟩:=o4 ok e1 tx;obtain ⟨b,kvs2,rfl,r2,h2,_⟩:=o4 ok e2 ty;have:kvs2=[]:=List.map_eq_nil_iff.mp h2;subst this;refine ⟨a,b,kvs,rfl,rfl,r1,r2,?_⟩;have:=s.here ok;exact this _ (by rw [Tr];cases kvs <;> rfl)
 ·exact s.elim
@[simp] def bo:AV->AV->AH->Re AV:=λx y h=>match dkOf h x,dkOf h y with
 | some (ks,_),some ([],_)=>.ok (.bl (!ks.isEmpty)) h
 | _,_=>.no
theorem qp9:S2 C E rNeD0 bo:=by
 intro w x y u v Q ok tx ty s;unfold bo at s;split at s
 ·rename_i ks xs ys e1 e2
  obtain ⟨a,kvs,rfl,r1,rfl,_⟩:=o4 ok e1 tx;obtain ⟨b,kvs2,rfl,r2,h2,_⟩:=o4 ok e2 ty;have:kvs2=[]:=List.map_eq_nil_iff.mp h2;subst this;refine ⟨a,b,kvs,rfl,rfl,r1,r2,?_⟩;have:=s.here ok;exact this _ (by rw [Tr];cases kvs <;> rfl)
 ·exact s.elim
end
end Z
namespace L2
open PySem PySem.Spec PyProof.Rows
def BA (n q:Str) (st:Stmt) (ps:List Str):Prop:=∀ (kV doc pm:Value) (an:Option Addr) (cdv ct:Value) (us:List Value),us.length=ps.length->bindArgs (W.fnOf n q (vn st) (v7 st) (je st) .none kV doc pm an cdv ct) ⟨us,[]⟩=pure (ps.zip us)
section
variable {n q:Str} {st:Stmt} {a b c d e f g i:Str}
theorem ba1 (h:∀ kV doc pm an cdv ct z,bindArgs (W.fnOf n q (vn st) (v7 st) (je st) .none kV doc pm an cdv ct) ⟨[z],[]⟩=pure [(a,z)]):BA n q st [a]:=λk1 k2 k3 k4 k5 k6 us hl=>match us,hl with | [_],_=>h k1 k2 k3 k4 k5 k6 _
theorem ba2 (h:∀ kV doc pm an cdv ct z y,bindArgs (W.fnOf n q (vn st) (v7 st) (je st) .none kV doc pm an cdv ct) ⟨[z,y],[]⟩=pure [(a,z),(b,y)]):BA n q st [a,b]:=λk1 k2 k3 k4 k5 k6 us hl=>match us,hl with | [_,_],_=>h k1 k2 k3 k4 k5 k6 _ _
theorem ba3 (h:∀ kV doc pm an cdv ct z y x,bindArgs (W.fnOf n q (vn st) (v7 st) (je st) .none kV doc pm an cdv ct) ⟨[z,y,x],[]⟩=pure [(a,z),(b,y),(c,x)]):BA n q st [a,b,c]:=λk1 k2 k3 k4 k5 k6 us hl=>match us,hl with | [_,_,_],_=>h k1 k2 k3 k4 k5 k6 _ _ _
theorem ba4 (h:∀ kV doc pm an cdv ct z y x w,bindArgs (W.fnOf n q (vn st) (v7 st) (je st) .none kV doc pm an cdv ct) ⟨[z,y,x,w],[]⟩=pure [(a,z),(b,y),(c,x),(d,w)]):BA n q st [a,b,c,d]:=λk1 k2 k3 k4 k5 k6 us hl=>match us,hl with | [_,_,_,_],_=>h k1 k2 k3 k4 k5 k6 _ _ _ _
theorem ba5 (h:∀ kV doc pm an cdv ct z y x w v,bindArgs (W.fnOf n q (vn st) (v7 st) (je st) .none kV doc pm an cdv ct) ⟨[z,y,x,w,v],[]⟩=pure [(a,z),(b,y),(c,x),(d,w),(e,v)]):BA n q st [a,b,c,d,e]:=λk1 k2 k3 k4 k5 k6 us hl=>match us,hl with | [_,_,_,_,_],_=>h k1 k2 k3 k4 k5 k6 _ _ _ _ _
theorem ba6 (h:∀ kV doc pm an cdv ct z y x w v u,bindArgs (W.fnOf n q (vn st) (v7 st) (je st) .none kV doc pm an cdv ct) ⟨[z,y,x,w,v,u],[]⟩=pure [(a,z),(b,y),(c,x),(d,w),(e,v),(f,u)]):BA n q st [a,b,c,d,e,f]:=λk1 k2 k3 k4 k5 k6 us hl=>match us,hl with | [_,_,_,_,_,_],_=>h k1 k2 k3 k4 k5 k6 _ _ _ _ _ _
theorem ba8 (h:∀ kV doc pm an cdv ct z y x w v u t s,bindArgs (W.fnOf n q (vn st) (v7 st) (je st) .none kV doc pm an cdv ct) ⟨[z,y,x,w,v,u,t,s],[]⟩=pure [(a,z),(b,y),(c,x),(d,w),(e,v),(f,u),(g,t),(i,s)]):BA n q st [a,b,c,d,e,f,g,i]:=λk1 k2 k3 k4 k5 k6 us hl=>match us,hl with | [_,_,_,_,_,_,_,_],_=>h k1 k2 k3 k4 k5 k6 _ _ _ _ _ _ _ _
end
section
variable {K:PySem.W.Frag} {mg:Str->Option Value} {h:Heap} {n m q:Str} {st:Stmt} {ps:List Str} {f C r:Addr}
structure TxF (K:W.Frag) (mg:Str->Option Value) (n:Str) (st:Stmt) (ps:List Str) (f:Addr) (fd:FuncData):Prop where
 F:Fun K n n st f fd
 d:mg n=some (.ref f)
 b:Binds K fd ps []
def HxF (K:W.Frag) (n:Str) (st:Stmt) (f:Addr):Prop:=W.nsIn K mainGlobals n=some (some (.ref f))/\∃ fd,Fun K n n st f fd
theorem HxF.mk {oc kV doc pm cdv ct:Value} {od an:Option Addr} {osl:Array (Option Value)} (a:W.nsIn K mainGlobals n=some (some (.ref f))) (l:K.lookup f=some ⟨oc,od, .func (W.fnOf n n (vn st) (v7 st) (je st) .none kV doc pm an cdv ct),osl⟩) (c:W.codeIn K cdv n=true) (k:W.keepIn K (.ref f)=true):HxF K n st f:=⟨a,_,cp l c k⟩
noncomputable def HxF.fd (x:HxF K n st f):FuncData:=x.2.choose
theorem HxF.t (x:HxF K n st f) (X:K.In h) (G:h.Ns mainGlobals mg) (b:BA n n st ps):TxF K mg n st ps f x.fd:=⟨x.2.choose_spec,W.mg_of X G x.1,x.2.choose_spec.binds b⟩
structure TxM (K:W.Frag) (C:Addr) (m q:Str) (st:Stmt) (ps:List Str) (f:Addr) (fd:FuncData):Prop where
 F:Fun K m q st f fd
 b:Binds K fd ps []
 m:Meth K C m f
def HxM (K:W.Frag) (C:Addr) (m q:Str) (st:Stmt) (f:Addr):Prop:=Meth K C m f/\∃ fd,Fun K m q st f fd
theorem HxM.mk {oc kV doc pm cdv ct:Value} {od an:Option Addr} {osl:Array (Option Value)} (a:W.findIn K (.ref C) m=some (some (.ref f))) (l:K.lookup f=some ⟨oc,od, .func (W.fnOf m q (vn st) (v7 st) (je st) .none kV doc pm an cdv ct),osl⟩) (c:W.codeIn K cdv q=true) (k:W.keepIn K (.ref f)=true) (i:W.isFn K (.ref f)=true):HxM K C m q st f:=⟨⟨a,i,k⟩,_,cp l c k⟩
noncomputable def HxM.fd (x:HxM K C m q st f):FuncData:=x.2.choose
theorem HxM.t (x:HxM K C m q st f) (b:BA m q st ps):TxM K C m q st ps f x.fd:=⟨x.2.choose_spec,x.2.choose_spec.binds b,x.1⟩
inductive NAs (K:W.Frag) (C:Addr):List Str->Prop
 | nil:NAs K C []
 | cons {f:Str} {r:List Str}:W.findIn K (.ref C) f=some none->NAs K C r->NAs K C (f::r)
theorem NAs.get {f:Str}:∀ {l:List Str},NAs K C l->f∈l->zx K C f
 | _, .nil,h=>nomatch h
 | _, .cons a r,h=>by
  rcases List.mem_cons.mp h with rfl | h
  ·exact a
  ·exact r.get h
structure TxC (K:W.Frag) (mg:Str->Option Value) (n:Str) (l:List Str) (C:Addr):Prop where
 d:mg n=some (.ref C)
 c:Cls K C
 ma:W.makesIn K C=true
 kp:W.keepIn K (.ref C)=true
 na:NAs K C l
def HxC (K:W.Frag) (n:Str) (l:List Str) (C:Addr):Prop:=W.nsIn K mainGlobals n=some (some (.ref C))/\Cls K C/\W.makesIn K C=true/\W.keepIn K (.ref C)=true/\NAs K C l
theorem HxC.mk {l:List Str} (cn:W.nsIn K mainGlobals n=some (some (.ref C))) (pg:W.plainGet K C Str.empty=true) (hd:W.hasDictIn K C=true) (po:W.plainOver K C=true) (sa:W.findIn K (.ref C) "__setattr__" = some (some (.builtin "object.__setattr__"))) (ma:W.makesIn K C=true) (kp:W.keepIn K (.ref C)=true) (na:NAs K C l):HxC K n l C:=⟨cn,⟨pg,hd,po,sa⟩,ma,kp,na⟩
theorem HxC.t {l:List Str} (x:HxC K n l C) (X:K.In h) (G:h.Ns mainGlobals mg):TxC K mg n l C:=⟨W.mg_of X G x.1,x.2.1,x.2.2.1,x.2.2.2.1,x.2.2.2.2⟩
theorem TxC.mkt {fd:FuncData} {l:List Str} (x:TxC K mg n l C) (y:TxM K C "__init__" q st ps f fd):Mk K C f:=⟨x.ma,y.m.at_,y.m.fn,x.kp⟩
structure TxE (K:W.Frag) (mg:Str->Option Value) (n:Str) (C:Addr):Prop where
 d:mg n=some (.ref C)
 k:ClsK K C
def HxE (K:W.Frag) (n:Str) (C:Addr):Prop:=W.nsIn K mainGlobals n=some (some (.ref C))/\ClsK K C
theorem HxE.mk (cn:W.nsIn K mainGlobals n=some (some (.ref C))) (ci:W.isClsIn K C=true) (ct:W.typeIn K (.ref C)=some (.type "type")):HxE K n C:=⟨cn,ci,ct⟩
theorem HxE.t (x:HxE K n C) (X:K.In h) (G:h.Ns mainGlobals mg):TxE K mg n C:=⟨W.mg_of X G x.1,x.2⟩
structure TxX (K:W.Frag) (C:Addr):Prop where
 x:W.excIn K C bmVE "ValueError.__new__" = true
 e:ExcK K C
 v:W.subIn K (.ref C) (.type "ValueError")=some true
theorem TxX.mk9 (x:W.excIn K C bmVE "ValueError.__new__" = true) (ci:W.isClsIn K C=true) (ga:W.findIn K (.ref C) "__getattribute__" = some (some (.builtin "BaseException.__getattribute__"))) (gt:W.findIn K (.ref C) "__getattr__" = some none)
  (cl:W.findIn K (.ref C) "__class__" = some (some (.builtin "object.__class__"))) (gg:W.specialIn K (.builtin "object.__class__") "__get__" = some (some (.builtin "getset_descriptor.__get__"))) (tk:W.takesIn K (.builtin "object.__class__")=some true)
  (mo:W.mroIn K C (.type "object")=some true) (mb:W.mroIn K C (.type "BaseException")=some true) (v:W.subIn K (.ref C) (.type "ValueError")=some true):TxX K C:=⟨x,⟨ci,ga,gt,cl,gg,tk,mo,mb⟩,v⟩
inductive SubR (K:W.Frag) (r:Addr):List Addr->List Bool->Prop
 | nil:SubR K r [] []
 | cons {c:Addr} {cs:List Addr} {b:Bool} {bs:List Bool}:W.subIn K (.ref r) (.ref c)=some b->SubR K r cs bs->SubR K r (c::cs) (b::bs)
theorem SubR.g:∀ {cs:List Addr} {bs:List Bool},SubR K r cs bs->∀ (i:Nat) {c:Addr} {b:Bool} (h1:cs[i]?=some c:=by rfl) (h2:bs[i]?=some b:=by rfl),W.subIn K (.ref r) (.ref c)=some b
 | _,_, .nil,i,c,b,h1,h2=>by simp at h1
 | _,_, .cons a r,0,c,b,h1,h2=>by cases h1;cases h2;exact a
 | _,_, .cons a r,i+1,c,b,h1,h2=>r.g i (by simpa using h1) (by simpa using h2)
end
theorem sct {N P:List Str} {sc:Scope} (a:sc.kind=.function:=by rfl) (b:sc.isCoroutine=false:=by rfl) (c:sc.isGenerator=false:=by rfl) (d:N.Nodup:=by decide +kernel) (e:N.take P.length=P:=by rfl)
  (f:∀ x∈P,sc.names.lookup x=some .local\/sc.names.lookup x=some .cell:=by decide +kernel) (g:∀ y∈sc.names,y.2≠.free:=by decide +kernel):ju N P sc:=⟨a,b,c,d,e,f,g⟩
end L2
namespace Z
open PySem L2 PySem.Spec PyProof.Rows
section
variable {P:Program} {w:World} {K:PySem.W.Frag} {mg:Str->Option Value} {base:Heap} {x qual:Str} {st:Stmt} {f:Addr} {fd:FuncData} {N ps:List Str} {k n:Nat} {C:Ct} {m:AF}
theorem okz (F:Fun K x qual st f fd) (S:ju N ps (je st)) (hn:n=ps.length)
  (hb:∀ {cdv:Value} {A:Around} {outer:List Env} {s:Shared} {H:Hp} {vs:List V} {Q:VK} {E:XK},Room k (A.deeper (envOfC qual (je st) s.heap.objs.size f cdv))->N.Nodup->(A.deeper (envOfC qual (je st) s.heap.objs.size f cdv)).units+1<cLine->spZ C n m vs H Q E ->
   ∃ t,PSs (cxOf (CX1 P w) P w K mg base N qual (je st) f cdv A outer s H E) (v7 st) t/\t {nx:=λ_ H' => Q .non H',rt:=Q} (start N vs) H):FnOk P w K mg base (CX1 P w) (k+1) f fd ps (spZ C n m):=
 F.okR S (λvs H Q E h=>by rw [<- hn];exact dm h) λcdv A outer s H vs Q E hr h=>hb hr S.nd (pd hr) h
end
end Z
namespace PM
open PySem L2 Z
def flG:Nat->List Nat
 | 0=>[0,1]
 | 1=>[0,1,2,3]
 | 2=>[0,1,4]
 | 3=>[0,1,5,6,7,8,9]
 | 4=>[0,1,5]
 | 5=>[0,1,10]
 | 6=>[0,1,11,12,10,13,14,15,16,17]
 | 7=>[0,1,17]
 | 8=>[18,19,20,21]
 | 9=>[5,6,22,7,23,9,24]
 | 10=>[25,26,27,5]
 | 11=>[28,29,30,31,32,33,34,35]
 | 12=>[1,36,37,38,39,40,41,42]
 | 13=>[43]
 | _=>[]
def b_qg:AS:=
 (sSeq (ym flG 0 (aVar 0) (aVar 1))
 (ym flG 1 (aVar 0) (aVar 2)))
def m_qg:AF:=fnZ 3 b_qg
def b_q0p:AS:=
 (sSeq (jg (aC m_qg (j0 (aVar 0) (j0 (aK (.str "batch")) (j0 (aVar 1) aNil)))))
 (ym flG 10 (aVar 0) (aVar 2)))
def m_q0p:AF:=fnZ 3 b_q0p
def b_q0f:AS:=
 (sSeq (ym flG 18 (aVar 0) (aK (.int 0)))
 (sSeq (ym flG 19 (aVar 0) b8)
 (sSeq (ym flG 20 (aVar 0) (ky aNil))
 (ym flG 21 (aVar 0) (ky aNil)))))
def m_q0f:AF:=fnZ 1 b_q0f
def b_q0m:AS:=
 (sSeq (sAsg (qf (aFld 19 (aVar 0)) (aVar 1)) (gN 2))
 (sSeq (sIf (aOr (aB (a1 fIsN (aVar 2))) (aB (a2 (fIn true) (aFld 0 (aVar 2)) (aTup (j0 (aK (.str "brine")) (j0 (aK (.str "cloth")) (j0 (aK (.str "shelf")) aNil)))))))
 (gf 23 (mRep (aVar 1) mNil))
 y0)
 (sSeq (sIf (aB (a2 fNe (aFld 0 (aVar 2)) (aK (.str "shelf"))))
 (ym flG 5 (aVar 2) (aK (.bl false)))
 y0)
 (jg (aMtL zf (aFld 21 (aVar 0)) (j0 (aTup (j0 (aFld 18 (aVar 0)) (j0 (aK (.str "boil")) (j0 (aVar 1) aNil)))) aNil))))))
def m_q0m:AF:=fnZ 3 b_q0m
def b_q14:AS:=
 (sRet (aC fAll (j0 (aLc 1 [1] (iStrA (aVar 0)) (gN 0) aYes (a2 fInS (aVar 0) (aVar 1))) aNil)))
def m_q14:AF:=fnZ 2 b_q14
def b_q16:AS:=
 (sRet (ni (qg1 fLe fLe (aK (.int 1)) (aC fLen (j0 (aVar 0) aNil)) (aK (.int 12))) (aC m_q14 (j0 (aVar 0) (j0 (aK (.str "abcdefghijklmnopqrstuvwxyz0123456789")) aNil)))))
def m_q16:AF:=fnZ 1 b_q16
def b_qf:AS:=
 (sSeq (sIf (aNot (aB (aC m_q16 (j0 (aVar 1) aNil))))
 (gf 21 (mRep (aVar 1) mNil))
 y0)
 (sIf (aB (a2 fDIn (aVar 1) (aFld 19 (aVar 0))))
 (gf 22 (mStr (aVar 1) mNil))
 y0))
def m_qf:AF:=fnZ 2 b_qf
def b_qo:AS:=
 (gz (aFld 19 (aVar 0)) (aFld 1 (aVar 1)) (aVar 1))
def m_qo:AF:=fnZ 2 b_qo
def b_qa:AS:=
 (sSeq (sAsg (qf (aFld 19 (aVar 0)) (aVar 1)) (gN 3))
 (sSeq (sIf (aOr (aB (a1 fIsN (aVar 3))) (aB (a2 fNe (aFld 0 (aVar 3)) (aVar 2))))
 (gf 23 (mStr (aVar 2) (mRep (aVar 1) mNil)))
 y0)
 (sRet (aVar 3))))
def m_qa:AF:=fnZ 4 b_qa
def b_q0b:AS:=
 (sSeq (jg (aC m_qg (j0 (aVar 0) (j0 (aK (.str "wedge")) (j0 (aVar 1) aNil)))))
 (ym flG 17 (aVar 0) (aK (.bl false))))
def m_q0b:AF:=fnZ 2 b_q0b
def b_q0d:AS:=
 (sIf (aB (a2 fGt (aVar 0) (aVar 1)))
 (gf 28 (mInt (aVar 0) (mInt (aVar 1) mNil)))
 y0)
def m_q0d:AF:=fnZ 2 b_q0d
def b_qm:AS:=
 (sIf (aNot (aB (qg1 fLe fLe (aVar 1) (aVar 0) (aVar 2))))
 (gf 24 (mInt (aVar 1) (mInt (aVar 2) (mInt (aVar 0) mNil))))
 y0)
def m_qm:AF:=fnZ 3 b_qm
def b_q06:AS:=
 (jg (aC m_qm (j0 (aVar 0) (j0 (aK (.int 1)) (j0 (aK (.int 1000000)) aNil)))))
def m_q06:AF:=fnZ 1 b_q06
def b_qr:AS:=
 (sIf (aB (aFld 17 (aVar 0)))
 (gf 25 (mStr (aFld 1 (aVar 0)) mNil))
 y0)
def m_qr:AF:=fnZ 1 b_qr
def b_q0w:AS:=
 (sRet (aLc 1 [0] (qgz (aK (.int 1)) (a2 fAdd (aVar 1) (aK (.int 1)))) (gN 0) aYes (bc (qh (a1 qis (aVar 1)) (qh (aK (.str "/")) (qh (a1 qhv (aVar 0)) bb))))))
def m_q0w:AF:=fnZ 2 b_q0w
def b_q0y:AS:=
 (sSeq (sAsg (jn 8 m_qa (aVar 0) (j0 (aVar 1) (j0 (aK (.str "wheel")) aNil))) (gN 3))
 (sSeq (sFor (iLst (aVar 2)) (gN 4)
 (jg (aC m_q06 (j0 (aVar 4) aNil))))
 (sSeq (jg (aC m_qr (j0 (aVar 3) aNil)))
 (sSeq (jg (aC m_q0d (j0 (aC fSum (j0 (aVar 2) aNil)) (j0 (aFld 10 (aVar 3)) aNil))))
 (sSeq (ym flG 17 (aVar 3) (aK (.bl true)))
 (sSeq (sFor (iLst (aC m_q0w (j0 (aVar 1) (j0 (aC fLen (j0 (aVar 2) aNil)) aNil)))) (gN 5)
 (jg (jn 8 m_qo (aVar 0) (j0 (u9 7 m_q0b (j0 (aVar 5) aNil)) aNil))))
 (jg (aMtL zf (aFld 21 (aVar 0)) (j0 (aTup (j0 (aFld 18 (aVar 0)) (j0 (aK (.str "cut")) (j0 (aVar 1) (j0 (aC b7 (j0 (aVar 2) aNil)) (j0 (a2 fSub (aFld 10 (aVar 3)) (aC fSum (j0 (aVar 2) aNil))) aNil)))))) aNil)))))))))
def m_q0y:AF:=fnZ 6 b_q0y
def b_q0o:AS:=
 (sRet (a2 (fIn false) (aFld 1 (aFld 4 (aVar 0))) (aSl fSlL (aFld 8 (aVar 1)) (u0 (aVar 2)) (u0 (a2 fAdd (aVar 2) (aK (.int 1)))))))
def m_q0o:AF:=fnZ 3 b_q0o
def b_q0n:AS:=
 (sSeq (sAsg (jn 8 m_qa (aVar 0) (j0 (aVar 1) (j0 (aK (.str "wheel")) aNil))) (gN 3))
 (sSeq (sAsg (jn 8 m_qa (aVar 0) (j0 (aVar 2) (j0 (aK (.str "shelf")) aNil))) (gN 4))
 (sSeq (jg (aC m_qr (j0 (aVar 3) aNil)))
 (sSeq (sIf (aB (aC m_q0o (j0 (aVar 4) (j0 (aFld 11 (aVar 3)) (j0 (a2 fAdd (aFld 13 (aVar 3)) (aK (.int 1))) aNil)))))
 (sSeq (rk flG 13 fAdd (aVar 3) (aK (.int 1)))
 (ym flG 16 (aVar 3) (aFld 18 (aVar 0))))
 (sIf (aNot (aB (aC m_q0o (j0 (aVar 4) (j0 (aFld 11 (aVar 3)) (j0 (aFld 13 (aVar 3)) aNil))))))
 (gf 26 (mStr (aVar 1) (mStr (aVar 2) mNil)))
 y0))
 (sSeq (ym flG 12 (aVar 3) (aVar 4))
 (jg (aMtL zf (aFld 21 (aVar 0)) (j0 (aTup (j0 (aFld 18 (aVar 0)) (j0 (aK (.str "move")) (j0 (aVar 1) (j0 (aVar 2) aNil))))) aNil))))))))
def m_q0n:AF:=fnZ 5 b_q0n
def b_q07:AS:=
 (sSeq (jg (jn 8 m_qf (aVar 0) (j0 (aVar 1) aNil)))
 (sSeq (sFor (iLst (aVar 2)) (gT 2 (yz (gN 3) (yz (gN 4) uu)))
 (jg (jn 8 m_qa (aVar 0) (j0 (aVar 3) (j0 (aK (.str "farm")) aNil)))))
 (sSeq (sFor (iLst (aVar 2)) (gT 2 (yz (gN 3) (yz (gN 4) uu)))
 (jg (aC m_q06 (j0 (aVar 4) aNil))))
 (sSeq (jg (jn 8 m_qo (aVar 0) (j0 (u9 5 m_q0p (j0 (aVar 1) (j0 (aC fSum (j0 (aLc 2 [] (iLst (aVar 2)) (gT 2 (yz (gN 0) (yz (gN 1) uu))) aYes (aVar 1)) aNil)) aNil))) aNil)))
 (jg (aMtL zf (aFld 21 (aVar 0)) (j0 (aTup (j0 (aFld 18 (aVar 0)) (j0 (aK (.str "batch")) (j0 (aVar 1) (j0 (aC b7 (j0 (aVar 2) aNil)) aNil))))) aNil)))))))
def m_q07:AF:=fnZ 5 b_q07
def b_q08:AS:=
 (sSeq (jg (aC m_qg (j0 (aVar 0) (j0 (aVar 1) (j0 (aVar 2) aNil)))))
 (ym flG 5 (aVar 0) (aK (.bl false))))
def m_q08:AF:=fnZ 3 b_q08
def b_q09:AS:=
 (sSeq (jg (jn 8 m_qf (aVar 0) (j0 (aVar 1) aNil)))
 (jg (jn 8 m_qo (aVar 0) (j0 (u9 4 m_q08 (j0 (aK (.str "brine")) (j0 (aVar 1) aNil))) aNil))))
def m_q09:AF:=fnZ 2 b_q09
def b_q0a:AS:=
 (sSeq (jg (jn 8 m_qf (aVar 0) (j0 (aVar 1) aNil)))
 (jg (jn 8 m_qo (aVar 0) (j0 (u9 4 m_q08 (j0 (aK (.str "cloth")) (j0 (aVar 1) aNil))) aNil))))
def m_q0a:AF:=fnZ 2 b_q0a
def b_q0g:AS:=
 (sSeq (jg (jn 8 m_qf (aVar 0) (j0 (aVar 1) aNil)))
 (jg (jn 8 m_qo (aVar 0) (j0 (u9 0 m_qg (j0 (aK (.str "farm")) (j0 (aVar 1) aNil))) aNil))))
def m_q0g:AF:=fnZ 2 b_q0g
def b_q0v:AS:=
 (sSeq (jg (aC m_qg (j0 (aVar 0) (j0 (aK (.str "room")) (j0 (aVar 1) aNil)))))
 (sSeq (ym flG 2 (aVar 0) (aVar 2))
 (ym flG 3 (aVar 0) (aVar 3))))
def m_q0v:AF:=fnZ 4 b_q0v
def b_q0h:AS:=
 (sSeq (jg (jn 8 m_qf (aVar 0) (j0 (aVar 1) aNil)))
 (sSeq (jg (aC m_qm (j0 (aVar 2) (j0 (aK (.int 0)) (j0 (aK (.int 100)) aNil)))))
 (sSeq (jg (aC m_qm (j0 (aVar 3) (j0 (aK (.int 0)) (j0 (aK (.int 40)) aNil)))))
 (jg (jn 8 m_qo (aVar 0) (j0 (u9 1 m_q0v (j0 (aVar 1) (j0 (aVar 2) (j0 (aVar 3) aNil)))) aNil))))))
def m_q0h:AF:=fnZ 4 b_q0h
def b_q0q:AS:=
 (sSeq (jg (aC m_qg (j0 (aVar 0) (j0 (aK (.str "shelf")) (j0 (aVar 1) aNil)))))
 (ym flG 4 (aVar 0) (aVar 2)))
def m_q0q:AF:=fnZ 3 b_q0q
def b_q02:AS:=
 (sSeq (jg (jn 8 m_qf (aVar 0) (j0 (aVar 1) aNil)))
 (jg (jn 8 m_qo (aVar 0) (j0 (u9 2 m_q0q (j0 (aVar 1) (j0 (jn 8 m_qa (aVar 0) (j0 (aVar 2) (j0 (aK (.str "room")) aNil))) aNil))) aNil))))
def m_q02:AF:=fnZ 3 b_q02
def b_q0i:AS:=
 (sSeq (jg (aC m_qg (j0 (aVar 0) (j0 (aK (.str "sort")) (j0 (aVar 1) aNil)))))
 (sSeq (ym flG 5 (aVar 0) (aVar 2))
 (sSeq (ym flG 6 (aVar 0) (aVar 3))
 (sSeq (ym flG 7 (aVar 0) (aVar 4))
 (sSeq (ym flG 8 (aVar 0) (aLc 3 [] (iLst (aVar 5)) (gT 3 (yz (gN 0) (yz (gN 1) (yz (gN 2) uu)))) aYes (aVar 0)))
 (ym flG 9 (aVar 0) (aLc 3 [] (iLst (aVar 5)) (gT 3 (yz (gN 0) (yz (gN 1) (yz (gN 2) uu)))) aYes (aTup (j0 (aVar 1) (j0 (aVar 2) aNil))))))))))
def m_q0i:AF:=fnZ 6 b_q0i
def b_q12:AS:=
 (sSeq (jg (aC m_qm (j0 (aVar 1) (j0 (aK (.int 1)) (j0 (aK (.int 60)) aNil)))))
 (jg (aC m_qm (j0 (aVar 0) (j0 (aK (.int 1)) (j0 (aVar 1) aNil))))))
def m_q12:AF:=fnZ 2 b_q12
def b_qz:AS:=
 (sSeq (jg (jn 8 m_qf (aVar 0) (j0 (aVar 1) aNil)))
 (sSeq (sAsg (aLc 3 [0] (iLst (aVar 5)) (gT 3 (yz (gN 0) (yz (gN 1) (yz (gN 2) uu)))) aYes (aFld 1 (jn 8 m_qa (aVar 3) (j0 (aVar 0) (j0 (aK (.str "room")) aNil))))) (gN 6))
 (sSeq (sFor (iLst (a2 fCat (aLst (j0 (aVar 3) (j0 (aVar 4) aNil))) (aLc 3 [] (iLst (aVar 5)) (gT 3 (yz (gN 0) (yz (gN 1) (yz (gN 2) uu)))) aYes (aTup (j0 (aVar 1) (j0 (aVar 2) aNil)))))) (gN 7)
 (jg (aC m_q12 (j0 (a2 fIx (aVar 7) (aK (.int 0))) (j0 (a2 fIx (aVar 7) (aK (.int 1))) aNil)))))
 (sSeq (sIf (aB (a2 fLt (a1 qdj (aVar 6)) (aC fLen (j0 (aVar 6) aNil))))
 (gf 26 mNil)
 y0)
 (jg (jn 8 m_qo (aVar 0) (j0 (u9 3 m_q0i (j0 (aVar 1) (j0 (aVar 2) (j0 (aVar 3) (j0 (aVar 4) (j0 (aVar 5) aNil)))))) aNil)))))))
def m_qz:AF:=fnZ 8 b_qz
def b_q0c:AS:=
 (sSeq (jg (aC m_qg (j0 (aVar 0) (j0 (aK (.str "wheel")) (j0 (aVar 1) aNil)))))
 (sSeq (ym flG 11 (aVar 0) (aVar 2))
 (sSeq (ym flG 12 (aVar 0) (aVar 3))
 (sSeq (ym flG 10 (aVar 0) (aVar 4))
 (sSeq (ym flG 13 (aVar 0) (aK (.int 0)))
 (sSeq (ym flG 14 (aVar 0) (aVar 5))
 (sSeq (ym flG 15 (aVar 0) (aVar 5))
 (sSeq (ym flG 16 (aVar 0) (aVar 5))
 (ym flG 17 (aVar 0) (aK (.bl false)))))))))))
def m_q0c:AF:=fnZ 6 b_q0c
def b_qt:AS:=
 (sSeq (jg (jn 8 m_qf (aVar 0) (j0 (aVar 1) aNil)))
 (sSeq (sAsg (jn 8 m_qa (aVar 0) (j0 (aVar 2) (j0 (aK (.str "batch")) aNil))) (gN 6))
 (sSeq (sAsg (jn 8 m_qa (aVar 0) (j0 (aVar 3) (j0 (aK (.str "sort")) aNil))) (gN 7))
 (sSeq (sAsg (jn 8 m_qa (aVar 0) (j0 (aVar 4) (j0 (aK (.str "shelf")) aNil))) (gN 8))
 (sSeq (jg (aC m_q06 (j0 (aVar 5) aNil)))
 (sSeq (sIf (aNot (aB (aC m_q0o (j0 (aVar 8) (j0 (aVar 7) (j0 (aK (.int 0)) aNil))))))
 (gf 26 (mStr (aVar 3) (mStr (aVar 4) mNil)))
 y0)
 (sSeq (jg (aC m_q0d (j0 (aVar 5) (j0 (aFld 10 (aVar 6)) aNil))))
 (sSeq (rk flG 10 fSub (aVar 6) (aVar 5))
 (sSeq (sAsg (u9 6 m_q0c (j0 (aVar 1) (j0 (aVar 7) (j0 (aVar 8) (j0 (aVar 5) (j0 (aFld 18 (aVar 0)) aNil)))))) (gN 9))
 (sSeq (jg (jn 8 m_qo (aVar 0) (j0 (aVar 9) aNil)))
 (sSeq (jg (aMtL zf (aFld 20 (aVar 0)) (j0 (aVar 9) aNil)))
 (jg (aMtL zf (aFld 21 (aVar 0)) (j0 (aTup (j0 (aFld 18 (aVar 0)) (j0 (aK (.str "wheel")) (j0 (aVar 1) (j0 (aVar 2) (j0 (aVar 3) (j0 (aVar 4) (j0 (aVar 5) aNil)))))))) aNil))))))))))))))
def m_qt:AF:=fnZ 10 b_qt
def b_q10:AS:=
 (sSeq (sAsg (aFld 4 (aFld 12 (aVar 0))) (gN 1))
 (sRet (a2 fDiv (a2 fMul (a2 fMul (aFld 10 (aVar 0)) (a2 fSub (aK (.int 100)) (aFld 2 (aVar 1)))) (aFld 3 (aVar 1))) (aK (.int 100000)))))
def m_q10:AF:=fnZ 2 b_q10
def b_qp:AS:=
 (sSeq (sAsg (ky aNil) (gN 1))
 (sSeq (sFor (iLst (aFld 20 (aVar 0))) (gN 2)
 (sIf (aNot (aB (aFld 17 (aVar 2))))
 (sSeq (sAsg (aC m_q10 (j0 (aVar 2) aNil)) (gN 3))
 (sSeq (rk flG 10 fSub (aVar 2) (aVar 3))
 (jg (aMtL zf (aVar 1) (j0 (aTup (j0 (aFld 1 (aVar 2)) (j0 (aFld 1 (aFld 4 (aFld 12 (aVar 2)))) (j0 (aFld 1 (aFld 12 (aVar 2))) (j0 (aVar 3) aNil))))) aNil)))))
 y0))
 (sSeq (jg (aMtL zf (aFld 21 (aVar 0)) (j0 (aTup (j0 (aFld 18 (aVar 0)) (j0 (aK (.str "night")) (j0 (aC b7 (j0 (aVar 1) aNil)) aNil)))) aNil)))
 (rk flG 18 fAdd (aVar 0) (aK (.int 1))))))
def m_qp:AF:=fnZ 4 b_qp
def b_qb:AS:=
 (sSeq (jg (aC m_qm (j0 (aVar 1) (j0 (aK (.int 1)) (j0 (aK (.int 30)) aNil)))))
 (sFor (vy (aVar 1)) (gN 2)
 (jg (jn 8 m_qp (aVar 0) aNil))))
def m_qb:AF:=fnZ 3 b_qb
def b_q0s:AS:=
 (sSeq (sAsg (jn 8 m_qa (aVar 0) (j0 (aVar 1) (j0 (aK (.str "wheel")) aNil))) (gN 2))
 (sSeq (jg (aC m_qr (j0 (aVar 2) aNil)))
 (sSeq (ym flG 14 (aVar 2) (aFld 18 (aVar 0)))
 (jg (aMtL zf (aFld 21 (aVar 0)) (j0 (aTup (j0 (aFld 18 (aVar 0)) (j0 (aK (.str "turn")) (j0 (aVar 1) aNil)))) aNil))))))
def m_q0s:AF:=fnZ 3 b_q0s
def b_q03:AS:=
 (sSeq (sAsg (jn 8 m_qa (aVar 0) (j0 (aVar 1) (j0 (aK (.str "wheel")) aNil))) (gN 4))
 (sSeq (sAsg (aLst (j0 (jn 8 m_qa (aVar 0) (j0 (aVar 2) (j0 (aK (.str "brine")) aNil))) (j0 (jn 8 m_qa (aVar 0) (j0 (aVar 3) (j0 (aK (.str "cloth")) aNil))) aNil))) (gN 5))
 (sSeq (jg (aC m_qr (j0 (aVar 4) aNil)))
 (sSeq (sIf (aAnd (aNot (aB (aFld 5 (aFld 11 (aVar 4))))) (aB (aC fAny (j0 (aLc 1 [] (iLst (aVar 5)) (gN 0) aYes (aFld 5 (aVar 0))) aNil))))
 (gf 27 (mStr (aVar 2) (mStr (aVar 3) mNil)))
 y0)
 (sSeq (sIf (aB (aFld 5 (aFld 11 (aVar 4))))
 (sFor (iLst (aVar 5)) (gN 6)
 (ym flG 5 (aVar 6) (aK (.bl true))))
 y0)
 (sSeq (ym flG 15 (aVar 4) (aFld 18 (aVar 0)))
 (jg (aMtL zf (aFld 21 (aVar 0)) (j0 (aTup (j0 (aFld 18 (aVar 0)) (j0 (aK (.str "wash")) (j0 (aVar 1) (j0 (aVar 2) (j0 (aVar 3) aNil)))))) aNil)))))))))
def m_q03:AF:=fnZ 7 b_q03
def b_q0r:AS:=
 (sSeq (sIf (aB (a2 fLt (aVar 1) (aC fLen (j0 (aVar 0) aNil))))
 (sRet (a2 fIx (aVar 0) (aVar 1)))
 y0)
 (sRet (aK (.int 0))))
def m_q0r:AF:=fnZ 2 b_q0r
def b_qh (rec:AF):AS:=
 (sSeq (sIf (aB (a1 (qib [.list, .tuple]) (aVar 1)))
 (sSeq (sIf (aOr (aB (a2 fNe (a1 (fIsi .list) (aVar 0)) (a1 (fIsi .list) (aVar 1)))) (aB (a2 fNe (a1 (fIsi .tuple) (aVar 0)) (a1 (fIsi .tuple) (aVar 1)))))
 (sRet (aK (.bl false)))
 y0)
 (sRet (ni (a2 fEq (aC fLen (j0 (aVar 0) aNil)) (aC fLen (j0 (aVar 1) aNil))) (aC fAll (j0 (aLc 1 [0,1] (vy (aC fLen (j0 (aVar 1) aNil))) (gN 0) aYes (aC rec (j0 (a2 fIx (aVar 1) (aVar 0)) (j0 (a2 fIx (aVar 2) (aVar 0)) aNil)))) aNil)))))
 y0)
 (sSeq (sAsg (ni (a2 fEq (a1 (fIsi .int) (aVar 0)) (a1 (fIsi .int) (aVar 1))) (a2 fEq (a1 (fIsi .bool) (aVar 0)) (a1 (fIsi .bool) (aVar 1)))) (gN 2))
 (sRet (ni (aVar 2) (ni (a2 fEq (a1 (fIsi .str) (aVar 0)) (a1 (fIsi .str) (aVar 1))) (a2 fEq (aVar 0) (aVar 1)))))))
def m_qh:Nat->AF
 | 0=>λ_ _=>.no
 | n+1=>fnZ 3 (b_qh (m_qh n))
def b_q11:AS:=
 (sSeq (sAsg (a2 fAdd (aK (.int 1)) (a2 fMod (aVar 0) (aK (.int 60)))) (gN 1))
 (sRet (aTup (j0 (aVar 1) (j0 (a2 fAdd (aVar 1) (a2 fMod (a2 fDiv (aVar 0) (aK (.int 60))) (a2 fSub (aK (.int 61)) (aVar 1)))) aNil)))))
def m_q11:AF:=fnZ 2 b_q11
def b_q17:AS:=
 (sRet (aTup (j0 (aFld 5 (aVar 0)) (j0 (aFld 6 (aVar 0)) (j0 (aFld 22 (aVar 0)) (j0 (aFld 7 (aVar 0)) (j0 (aFld 23 (aVar 0)) (j0 (aFld 9 (aVar 0)) (j0 (aFld 24 (aVar 0)) aNil)))))))))
def m_q17:AF:=fnZ 1 b_q17
def cz (ns:List Int) (k:Nat):Int:=ns.getD k 0
theorem cz_at {ns:List Int} {k:Nat} (h:k<ns.length):atI (ns.map AV.int) (k:Int)=some (.int (cz ns k)):=uy (by
 rw [List.getElem?_map,List.getElem?_eq_getElem h];simp [cz,List.getD_eq_getElem?_getD,List.getElem?_eq_getElem h])
theorem qii (ns:List Int) (k:Nat) (h:AH):m_q0r [.kst (ns.map AV.int), .int k] h=.ok (.int (cz ns k)) h:=by
 by_cases hk:(k:Int)<(ns.length:Int)
 ·simp [m_q0r,b_q0r,hk,cz_at (show k<ns.length by omega)]
 ·have:cz ns k=0:=by
   unfold cz;rw [List.getD_eq_getElem?_getD,List.getElem?_eq_none (by omega)];rfl
  simp [m_q0r,b_q0r,hk,this]
theorem bp {n a b:Int} {h:AH} (h1:a<=n) (h2:n<=b):m_qm [.int n, .int a, .int b] h=.ok .non h:=by
 simp [m_qm,b_qm,h1,h2]
def Sm (i:Int):Prop:=i.natAbs.log2<1920
theorem sm_of {i:Int} (h:i.natAbs<2 ^ 1000):Sm i:=by
 unfold Sm
 by_cases h0:i.natAbs=0
 ·rw [h0];decide
 ·exact Nat.lt_of_lt_of_le ((Nat.log2_lt h0).mpr h) (by decide)
theorem qg7 {n:Int} {h:AH} (h1:1<=n) (h2:n<=1000000):m_q06 [.int n] h=.ok .non h:=by
 simp [m_q06,b_q06,bp h1 h2]
theorem gap_ok {n m:Int} {h:AH} (h1:1<=n) (h2:n<=m) (h3:m<=60):m_q12 [.int n, .int m] h=.ok .non h:=by
 simp [m_q12,b_q12,bp (show 1<=m by omega) h3,bp h1 h2]
theorem qdo {n m:Int} {h:AH} (h1:n<=m):m_q0d [.int n, .int m] h=.ok .non h:=by
 simp [m_q0d,b_q0d,show ¬ m<n by omega]
@[simp] theorem t7 (h:AH) (x y:Cell):(h++[x]).set h.length y=h++[y]:=by
 rw [List.set_append_right _ _ (Nat.le_refl _),Nat.sub_self];rfl
theorem x6 {h:AH} {i j:Nat} {c:Cell} (hn:i≠j):(h.set i c)[j]?=h[j]?:=List.getElem?_set_ne hn
theorem qi {h:AH} {i:Nat} {c:Cell} (e:h[i]?=some c):i<h.length:=(List.getElem?_eq_some_iff.mp e).1
theorem zr {h:AH} {i:Nat} {c d:Cell} (e:h[i]?=some d):(h.set i c)[i]?=some c:=List.getElem?_set_self (qi e)
theorem yq {h g:AH} {i:Nat} {c:Cell} (e:h[i]?=some c):(h++g)[i]?=some c:=by
 rw [List.getElem?_append_left (qi e)];exact e
def NS:List Nat:=("abcdefghijklmnopqrstuvwxyz0123456789" : Str).cps.toList
def isNm (x:Str):Bool:=decide (1<=x.length/\x.length<=12) && x.cps.toList.all λc=>decide (c∈NS)
theorem lc_fm {α:Type} {wt:Option Nat} {all:List AV} {g:AV->AEnv->AH->Re AEnv} {tc:AT} {te:AE} {be:AEnv} {h:AH} {k f:α->AV} {p:α->Bool} (hw:okW h all wt=true) :
  ∀ (ys:List α) (acc:List AV),(∀ y∈ys, ∃ env,g (k y) be h=.ok env h/\tc env h=.ok (p y) h/\(p y=true->te env h=.ok (f y) h))->lcL wt all g tc te be (ys.map k) acc h=.ok (acc++(ys.filter p).map f) h
 | [],acc,_=>by simp [lcL,hw]
 | y::ys,acc,hs=>by
  obtain ⟨env,e1,e2,e3⟩:=hs y (by simp)
  have ih:=λacc=>lc_fm hw ys acc λz hz=>hs z (List.mem_cons_of_mem _ hz)
  cases hp:p y with
  | true=>simp [lcL,hw,e1,e2,e3 hp,hp,ih]
  | false=>simp [lcL,hw,e1,e2,hp,ih]
theorem gh {α:Type} {wt:Option Nat} {all:List AV} {g:AV->AEnv->AH->Re AEnv} {te:AE} {be:AEnv} {h:AH} {k f:α->AV} (hw:okW h all wt=true)
  (ys:List α) (acc:List AV) (hs:∀ y∈ys, ∃ env,g (k y) be h=.ok env h/\te env h=.ok (f y) h):lcL wt all g aYes te be (ys.map k) acc h=.ok (acc++ys.map f) h:=by
 have:=lc_fm (tc:=aYes) (te:=te) (f:=f) (p:=λ_=>true) hw ys acc λy hy=>by
  obtain ⟨env,e1,e2⟩:=hs y hy;exact ⟨env,e1,rfl,λ_=>e2⟩
 rw [List.filter_eq_self.mpr (by simp)] at this
 exact this
theorem c3 {α:Type} (f:α->Bool):∀ (xs:List α),gc (xs.map λx=>AV.bl (f x))=some (xs.map f)
 | []=>rfl
 | x::xs=>by simp [c3 f xs]
theorem ints_map {α:Type} (f:α->Int):∀ (xs:List α),intsOf (xs.map λx=>AV.int (f x))=some (xs.map f)
 | []=>rfl
 | x::xs=>by simp [ints_map f xs]
theorem strs_map {α:Type} (f:α->Str):∀ (xs:List α),strsOf (xs.map λx=>AV.str (f x))=some (xs.map f)
 | []=>rfl
 | x::xs=>by simp [strs_map f xs]
theorem all_map {α:Type} (f:α->Bool) (xs:List α):(xs.map f).all id=xs.all f:=by rw [List.all_map];rfl
theorem qp6 {x z:Str} {h:AH} (hx:x.length<=100000):m_q14 [.str x, .str z] h=.ok (.bl (x.cps.toList.all λc=>decide (c∈z.cps.toList))) h:=by
 have hl:(strA x).length<=sizeLine:=by
  unfold strA;rw [List.length_map,Array.length_toList];exact Nat.le_trans hx (by decide)
 have key:lcL none (strA x) (gN 0) aYes (a2 fInS (aVar 0) (aVar 1)) [none,some (.str z)] (strA x) [] h=.ok (x.cps.toList.map λc=>AV.bl (decide (c∈z.cps.toList))) h:=
  gh (k:=λc=>AV.str ⟨#[c]⟩) xx x.cps.toList [] λc hc=>⟨_,rfl,by simp⟩
 simp [m_q14,b_q14,bEnv,hl,key,c3,all_map]
theorem qol {x:Str} {h:AH} (hx:x.length<=100000):m_q16 [.str x] h=.ok (.bl (isNm x)) h:=by
 have hl:x.length<=sizeLine:=Nat.le_trans hx (by decide)
 unfold isNm
 by_cases h1:1<=x.length/\x.length<=12
 ·have e1:(1:Int)<=(x.length:Int):=by omega
  have e2:(x.length:Int)<=12:=by omega
  simp [m_q16,b_q16,hl,qp6 hx,h1,e1,e2,NS]
 ·by_cases e1:(1:Int)<=(x.length:Int)
  ·have e2:¬ (x.length:Int)<=12:=by omega
   simp [m_q16,b_q16,hl,e1,e2];intro a b;omega
  ·simp [m_q16,b_q16,hl,e1]
   intro a b;omega
def yh (t:Int) (d l e:Nat):Cell:=.ins 8 [(18, .int t),(19, .ref d),(20, .ref l),(21, .ref e)]
section
variable {h:AH} {a d l e t c:Nat} {day:Int} {ks:List Key} {xs:List AV} {nm kd:Str} {fs:List (Nat×AV)}
theorem vj (h0:h[a]?=some (yh day d l e)) (h1:h[d]?=some (.dk ks xs)) (h2:dval ks xs (.inr nm)=some (.ref t)) (h3:h[t]?=some (.ins c fs)) (h4:fs.lookup 0=some (.str kd)) :
  m_qa [.ref a, .str nm, .str kd] h=.ok (.ref t) h:=by
 simp [m_qa,b_qa,h0,yh,h1,h2,h3,h4,List.lookup]
theorem qc6 (h0:h[a]?=some (yh day d l e)) (h1:h[d]?=some (.dk ks xs)) (h2:dval ks xs (.inr nm)=none) (hn:nm.length<=1000) (hc:cpOk nm=true) (hk:kd.length<=1000) :
  m_qa [.ref a, .str nm, .str kd] h=.ex 23 h:=by
 simp [m_qa,b_qa,h0,yh,h1,h2,List.lookup,hn,hc,hk]
theorem qbj {k2:Str} (h0:h[a]?=some (yh day d l e)) (h1:h[d]?=some (.dk ks xs)) (h2:dval ks xs (.inr nm)=some (.ref t)) (h3:h[t]?=some (.ins c fs)) (h4:fs.lookup 0=some (.str k2)) (hne:k2≠kd) (hn:nm.length<=1000) (hc:cpOk nm=true) (hk:kd.length<=1000) :
  m_qa [.ref a, .str nm, .str kd] h=.ex 23 h:=by
 simp [m_qa,b_qa,h0,yh,h1,h2,h3,h4,List.lookup,hne,hn,hc,hk]
theorem qha (h0:h[a]?=some (yh day d l e)) (h1:h[d]?=some (.dk ks xs)) (hn:isNm nm=true) (h2:dval ks xs (.inr nm)=none):m_qf [.ref a, .str nm] h=.ok .non h:=by
 have hl:nm.length<=100000:=by
  unfold isNm at hn;simp at hn;omega
 simp [m_qf,b_qf,qol hl,hn,h0,yh,h1,h2,List.lookup]
theorem qcz (h0:h[a]?=some (yh day d l e)) (h1:h[d]?=some (.dk ks xs)) (h3:h[t]?=some (.ins c fs)) (h4:fs.lookup 1=some (.str nm)) (hk:ks.length<sizeLine) :
  m_qo [.ref a, .ref t] h=.ok .non (h.set d (.dk (dput ks xs (.inr nm) (.ref t)).1 (dput ks xs (.inr nm) (.ref t)).2)):=by
 simp [m_qo,b_qo,h0,yh,h1,h3,h4,List.lookup,hk]
theorem bq {j:Key} {y:AV} (hn:dval ks xs j=none) (hl:ks.length=xs.length):dput ks xs j y=(ks++[j],xs++[y]):=by
 have:(ks.any λk=>decide (k=j))=false:=by
  induction ks generalizing xs with
  | nil=>rfl
  | cons k ks ih =>
   cases xs with
   | nil=>simp at hl
   | cons x xs =>
    unfold dval at hn;split at hn
    ·cases hn
    ·rename_i hne
     rw [List.any_cons,ih hn (by simpa using hl)]
     simp [hne]
 unfold dput;rw [this];rfl
theorem t8 {j:Key} {js:List Key} {ys:List AV} (hl:ks.length=xs.length):dval (ks++js) (xs++ys) j=(dval ks xs j).or (dval js ys j):=by
 induction ks generalizing xs with
 | nil=>cases xs with
  | nil=>simp [dval]
  | cons x xs=>simp at hl
 | cons k ks ih =>
  cases xs with
  | nil=>simp at hl
  | cons x xs =>
   simp only [List.cons_append,dval];split
   ·rfl
   ·exact ih (by simpa using hl)
end
section
variable {h:AH} {nm:Str}
@[simp] theorem zt (h:AH) (x:Cell):(h++[x])[h.length]?=some x:=by simp
theorem q9x {kd:Str} {c:Nat} (hc0:0∈flG c) (hc1:1∈flG c):m_qg [.ref h.length, .str kd, .str nm] (h++[.ins c []])=.ok .non (h++[.ins c [(0, .str kd),(1, .str nm)]]):=by
 simp [m_qg,b_qg,hc0,hc1]
def xh (nm:Str) (sort shelf:Nat) (grams:Int) (place:Int) (td wd rd:Int) (gone:Bool):List (Nat×AV):=
 [(0, .str "wheel"),(1, .str nm),(11, .ref sort),(12, .ref shelf),(10, .int grams),(13, .int place),(14, .int td),(15, .int wd),(16, .int rd),(17, .bl gone)]
theorem qih {sort shelf:Nat} {grams day:Int}:m_q0c [.ref h.length, .str nm, .ref sort, .ref shelf, .int grams, .int day] (h++[.ins 6 []])=.ok .non (h++[.ins 6 (xh nm sort shelf grams 0 day day day false)]):=by
 simp [m_q0c,b_q0c,q9x,flG,xh]
end
theorem map_inj {f:Char->Nat} (hf:∀ x y,f x=f y->x=y):∀ {a b:List Char},a.map f=b.map f->a=b
 | [],[],_=>rfl
 | [],_::_,h=>by simp at h
 | _::_,[],h=>by simp at h
 | x::a,y::b,h=>by
  simp only [List.map_cons,List.cons.injEq] at h;rw [hf x y h.1,map_inj hf h.2]
@[simp] theorem qpi (a b:String):Str.ofString a=Str.ofString b↔a=b:=by
 refine ⟨λh=>?_,λh=>by rw [h]⟩
 rw [Str.ofString_eq_toList,Str.ofString_eq_toList] at h;have h1:a.toList.map Char.toNat=b.toList.map Char.toNat:=by
  have:=congrArg (λs:Str=>s.cps.toList) h
  simpa using this
 apply String.toList_inj.mp
 exact map_inj (λx y e=>Char.ext (UInt32.toNat_inj.mp e)) h1
theorem yr {s t:AS} {env env':AEnv} {h h':AH} (e:s env h=.nx env' h'):sSeq s t env h=t env' h':=by simp [e]
theorem u4 {s t:AS} {env env':AEnv} {h h':AH} {x:AV} (e:s env h=.nx env' h') (r:∃ h2,t env' h'=.rt x h2):∃ h2,sSeq s t env h=.rt x h2:=by rw [yr e];exact r
theorem nz {α:Type} {wt:Option Nat} {all:List AV} {g:AV->AEnv->AH->Re AEnv} {body:AS} {k:α->AV} {P:Nat->AEnv->AH->Prop}
  (hw:∀ i env h,P i env h->okW h all wt=true) :
  ∀ (ys:List α) (i:Nat) (env:AEnv) (h:AH),P i env h ->
   (∀ (j:Nat) y,ys[j]?=some y->∀ env h,P (i+j) env h->∃ e1 h1 e2 h2,g (k y) env h=.ok e1 h1/\(body e1 h1=.nx e2 h2\/body e1 h1=.ct e2 h2)/\P (i+j+1) e2 h2) ->
   ∃ env' h',vh wt all g body (ys.map k) env h=.nx env' h'/\P (i+ys.length) env' h'
 | [],i,env,h,hp,hs=>⟨env,h,by simp [vh,hw i env h hp],by simpa using hp⟩
 | y::ys,i,env,h,hp,hs=>by
  obtain ⟨e1,h1,e2,h2,q1,q2,q3⟩:=hs 0 y rfl env h hp;obtain ⟨e3,h3,q4,q5⟩:=nz hw ys (i+1) e2 h2 q3 λj z hj env h hp=>by
   have:=hs (j+1) z (by simpa using hj) env h (by rw [show i+(j+1)=i+1+j by omega];exact hp)
   rw [show i+(j+1)+1=i+1+j+1 by omega] at this
   exact this
  refine ⟨e3,h3,?_,by rw [List.length_cons,show i+(ys.length+1)=i+1+ys.length by omega];exact q5⟩
  rw [List.map_cons,vh,if_pos (hw i env h hp),q1];rcases q2 with q2 | q2 <;> simp [q2,q4]
mutual
def okD:Nat->AV->Bool
 | _, .non=>true | _, .bl _=>true | _, .int _=>true | _, .str _=>true
 | n, .tup xs=>match n with | 0=>false | m+1=>decide (xs.length<=100000) && okDs m xs
 | n, .lst xs=>match n with | 0=>false | m+1=>decide (xs.length<=100000) && okDs m xs
 | _,_=>false
def okDs:Nat->List AV->Bool
 | _,[]=>true
 | n,x::xs=>okD n x && okDs n xs
end
theorem br {n:Nat} {x:AV}:∀ {xs:List AV} {i:Nat},okDs n xs=true->xs[i]?=some x->okD n x=true
 | [],_,_,e=>by simp at e
 | y::ys,0,d,e=>by
  simp only [okDs,Bool.and_eq_true] at d;simp at e;exact e ▸ d.1
 | y::ys,i+1,d,e=>by
  simp only [okDs,Bool.and_eq_true] at d;exact br d.2 (by simpa using e)
theorem qdg {n:Nat}:∀ {xs:List AV},(∀ x∈xs,okD n x=true)->okDs n xs=true
 | [],_=>by simp [okDs]
 | y::ys,d=>by simp [okDs,d y (by simp),qdg λx hx=>d x (List.mem_cons_of_mem _ hx)]
def IsL (h:AH) (x:AV) (xs:List AV):Prop:=x=.lst xs\/∃ k,x=.ref k/\h[k]?=some (.lst xs)
theorem qfp {h:AH} {n:Nat} {x y:AV} {xs:List AV} (hl:xs.length<=100000) (hx:IsL h x xs) (hy:IsL h y xs) (hs:∀ i (_:i<xs.length),m_qh n [xs[i],xs[i]] h=.ok (.bl true) h):m_qh (n+1) [x,y] h=.ok (.bl true) h:=by
 have hl2:xs.length<=sizeLine:=Nat.le_trans hl (by decide)
 have hb:rng1 (.int (xs.length:Int)) h=.ok (Z.intsFrom 0 xs.length,none) h:=dj (by omega)
 have ea:∀ i (hi:i<xs.length),atI xs (i:Int)=some xs[i]:=λi hi=>uy (List.getElem?_eq_getElem hi)
 have hi:(Z.intsFrom 0 xs.length).length<=sizeLine:=by rw [len_from];exact hl2
 have key:lcL none (Z.intsFrom 0 xs.length) (gN 0) aYes (aC (m_qh n) (j0 (a2 fIx (aVar 1) (aVar 0)) (j0 (a2 fIx (aVar 2) (aVar 0)) aNil))) [none,some x,some y] (Z.intsFrom 0 xs.length) [] h=.ok ([]++(List.range xs.length).map λ_=>AV.bl true) h:=by
  refine gh (k:=λi:Nat=>AV.int (0+(i:Int))) xx (List.range xs.length) [] λi hi=>?_
  have hi:=List.mem_range.mp hi;refine ⟨_,rfl,?_⟩;have:=hs i hi;rcases hx with rfl | ⟨k,rfl,ek⟩ <;> rcases hy with rfl | ⟨k',rfl,ek'⟩
  ·simp [ea i hi,this]
  ·simp [ea i hi,this,ek']
  ·simp [ea i hi,this,ek]
  ·simp [ea i hi,this,ek,ek']
 have kb:gc ((List.range xs.length).map λ_=>AV.bl true)=some ((List.range xs.length).map λ_=>true):=c3 (λ_:Nat=>true) _
 rcases hx with rfl | ⟨k,rfl,ek⟩ <;> rcases hy with rfl | ⟨k',rfl,ek'⟩
 ·simp [m_qh,b_qh,bEnv,hl2,hb,hi,key,kb]
 ·simp [m_qh,b_qh,bEnv,hl2,hb,hi,key,kb,ek']
 ·simp [m_qh,b_qh,bEnv,hl2,hb,hi,key,kb,ek]
 ·simp [m_qh,b_qh,bEnv,hl2,hb,hi,key,kb,ek,ek']
theorem qmv {h:AH} {n:Nat} {xs:List AV} (hl:xs.length<=100000) (hs:∀ i (_:i<xs.length),m_qh n [xs[i],xs[i]] h=.ok (.bl true) h):m_qh (n+1) [.tup xs, .tup xs] h=.ok (.bl true) h:=by
 have hl2:xs.length<=sizeLine:=Nat.le_trans hl (by decide)
 have hb:rng1 (.int (xs.length:Int)) h=.ok (Z.intsFrom 0 xs.length,none) h:=dj (by omega)
 have ea:∀ i (hi:i<xs.length),atI xs (i:Int)=some xs[i]:=λi hi=>uy (List.getElem?_eq_getElem hi)
 have hi:(Z.intsFrom 0 xs.length).length<=sizeLine:=by rw [len_from];exact hl2
 have key:lcL none (Z.intsFrom 0 xs.length) (gN 0) aYes (aC (m_qh n) (j0 (a2 fIx (aVar 1) (aVar 0)) (j0 (a2 fIx (aVar 2) (aVar 0)) aNil))) [none,some (.tup xs),some (.tup xs)] (Z.intsFrom 0 xs.length) [] h=.ok ([]++(List.range xs.length).map λ_=>AV.bl true) h:=by
  refine gh (k:=λi:Nat=>AV.int (0+(i:Int))) xx (List.range xs.length) [] λi hi=>?_
  have hi:=List.mem_range.mp hi;refine ⟨_,rfl,?_⟩;have:=hs i hi;simp [ea i hi,this]
 have kb:gc ((List.range xs.length).map λ_=>AV.bl true)=some ((List.range xs.length).map λ_=>true):=c3 (λ_:Nat=>true) _
 simp [m_qh,b_qh,bEnv,hl2,hb,hi,key,kb]
theorem same_self (h:AH):∀ (n:Nat) (x:AV),okD n x=true->m_qh (n+1) [x,x] h=.ok (.bl true) h
 | n, .non,_=>by simp [m_qh,b_qh]
 | n, .bl b,_=>by simp [m_qh,b_qh]
 | n, .int b,_=>by simp [m_qh,b_qh]
 | n, .str b,_=>by simp [m_qh,b_qh]
 | 0, .tup xs,d=>by simp [okD] at d
 | 0, .lst xs,d=>by simp [okD] at d
 | n+1, .tup xs,d=>by
  simp only [okD,Bool.and_eq_true,decide_eq_true_eq] at d;exact qmv d.1 λi hi=>same_self h n xs[i] (br d.2 (List.getElem?_eq_getElem hi))
 | n+1, .lst xs,d=>by
  simp only [okD,Bool.and_eq_true,decide_eq_true_eq] at d;exact qfp d.1 (.inl rfl) (.inl rfl) λi hi=>same_self h n xs[i] (br d.2 (List.getElem?_eq_getElem hi))
 | n, .dk _ _,d=>by simp [okD] at d
 | n, .ref _,d=>by simp [okD] at d
 | n, .kst _,d=>by simp [okD] at d
 | n, .xc _,d=>by simp [okD] at d
theorem qh2 {h:AH} {n:Nat} {x y:AV} {xs:List AV} (hl:xs.length<=100000) (hx:IsL h x xs) (hy:IsL h y xs) (hd:okDs n xs=true):m_qh (n+2) [x,y] h=.ok (.bl true) h:=
 qfp hl hx hy λi hi=>same_self h n xs[i] (br hd (List.getElem?_eq_getElem hi))
structure Cel (h:AH) (a d l e:Nat) (day:Int) (ks:List Key) (xs ws es:List AV):Prop where
 qc:h[a]?=some (yh day d l e)
 qd:h[d]?=some (.dk ks xs)
 ql:h[l]?=some (.lst ws)
 qe:h[e]?=some (.lst es)
 ne:l≠e
section
variable {h:AH} {a d l e:Nat} {day:Int} {ks:List Key} {xs ws es:List AV}
theorem v8 {h:AH} {i j:Nat} {x y:Cell} (hi:h[i]?=some x) (hj:h[j]?=some y) (hn:x≠y):i≠j:=λe=>hn (by subst e;rw [hi] at hj;exact Option.some.inj hj)
theorem Cel.app (q:Cel h a d l e day ks xs ws es) (g:AH):Cel (h++g) a d l e day ks xs ws es:=⟨yq q.qc,yq q.qd,yq q.ql,yq q.qe,q.ne⟩
theorem Cel.put (q:Cel h a d l e day ks xs ws es) {k c:Nat} {fs:List (Nat×AV)} (hk:h[k]?=some (.ins c fs)) (hc:c≠8) (y:Cell):Cel (h.set k y) a d l e day ks xs ws es:=
 ⟨by rw [x6 (v8 hk q.qc (by simp [yh,hc]))];exact q.qc,by rw [x6 (v8 hk q.qd (by simp))];exact q.qd,by rw [x6 (v8 hk q.ql (by simp))];exact q.ql,by rw [x6 (v8 hk q.qe (by simp))];exact q.qe,q.ne⟩
theorem Cel.put_d (q:Cel h a d l e day ks xs ws es) (ks':List Key) (xs':List AV):Cel (h.set d (.dk ks' xs')) a d l e day ks' xs' ws es:=
 ⟨by rw [x6 (v8 q.qd q.qc (by simp [yh]))];exact q.qc,zr q.qd,by rw [x6 (v8 q.qd q.ql (by simp))];exact q.ql,by rw [x6 (v8 q.qd q.qe (by simp))];exact q.qe,q.ne⟩
theorem Cel.put_l (q:Cel h a d l e day ks xs ws es) (ws':List AV):Cel (h.set l (.lst ws')) a d l e day ks xs ws' es:=
 ⟨by rw [x6 (v8 q.ql q.qc (by simp [yh]))];exact q.qc,by rw [x6 (v8 q.ql q.qd (by simp))];exact q.qd,zr q.ql,by rw [x6 q.ne];exact q.qe,q.ne⟩
theorem Cel.put_e (q:Cel h a d l e day ks xs ws es) (es':List AV):Cel (h.set e (.lst es')) a d l e day ks xs ws es':=
 ⟨by rw [x6 (v8 q.qe q.qc (by simp [yh]))];exact q.qc,by rw [x6 (v8 q.qe q.qd (by simp))];exact q.qd,by rw [x6 (Ne.symm q.ne)];exact q.ql,zr q.qe,q.ne⟩
@[simp] theorem last_set' (h:AH) (i:Nat) (z x y:Cell):(h.set i z++[x]).set h.length y=h.set i z++[y]:=by
 have:=t7 (h.set i z) x y
 rwa [List.length_set] at this
theorem qgi {h:AH} {nm:Str} {i sort shelf:Nat} {z:Cell} {grams day:Int}:m_q0c [.ref h.length, .str nm, .ref sort, .ref shelf, .int grams, .int day] (h.set i z++[.ins 6 []])=.ok .non (h.set i z++[.ins 6 (xh nm sort shelf grams 0 day day day false)]):=by
 have:=qih (h:=h.set i z) (nm:=nm) (sort:=sort) (shelf:=shelf) (grams:=grams) (day:=day)
 rwa [List.length_set] at this
def vw (nm:Str) (m:Bool) (tg wg:AV) (rs:List Str) (st:AV):List (Nat×AV):=[(0, .str "sort"),(1, .str nm),(5, .bl m),(6,tg),(7,wg),(8, .lst (rs.map AV.str)),(9,st)]
def o6 (nm:Str) (left:Int):Cell:=.ins 5 [(0, .str "batch"),(1, .str nm),(10, .int left)]
def xp (nm:Str) (r:Nat):Cell:=.ins 2 [(0, .str "shelf"),(1, .str nm),(4, .ref r)]
def vm (nm:Str) (x y:Int):Cell:=.ins 1 [(0, .str "room"),(1, .str nm),(2, .int x),(3, .int y)]
theorem bt {h:AH} {f s r:Nat} {fnm sn rn:Str} {m:Bool} {tg wg st:AV} {rs:List Str} {x y:Int} {k:Nat} (hf:h[f]?=some (xp fnm r)) (hr:h[r]?=some (vm rn x y)) (hs:h[s]?=some (.ins 3 (vw sn m tg wg rs st))) (hl:rs.length<=1000) (hk:k<1000) :
  m_q0o [.ref f, .ref s, .int k] h=.ok (.bl (decide (rs[k]?=some rn))) h:=by
 have e1:cutA (rs.map AV.str) (some (k:Int)) (some ((k:Int)+1))=(rs[k]?).toList.map AV.str:=by
  have i1:HT.sIx rs.length 0 (some (k:Int))=min k rs.length:=HT.ic _ _ _;have i2:HT.sIx rs.length rs.length (some ((k:Int)+1))=min (k+1) rs.length:=HT.ic _ _ (k+1);unfold cutA;rw [List.length_map,i1,i2]
  by_cases hlt:k<rs.length
  ·rw [Nat.min_eq_left (by omega),Nat.min_eq_left (by omega), <- List.map_drop,List.drop_eq_getElem_cons hlt,List.getElem?_eq_getElem hlt,show k+1 - k=1 by omega]
   rfl
  ·rw [Nat.min_eq_right (by omega),Nat.min_eq_right (by omega),List.getElem?_eq_none (by omega)]
   simp
 simp [m_q0o,b_q0o,hf,hr,hs,xp,vm,vw,List.lookup,e1];cases rs[k]? with
 | none=>simp [inA]
 | some z =>
  simp [inA]
  by_cases e:z=rn <;> simp [e]
end
section
variable {h:AH} {a d l e:Nat} {day:Int} {ks:List Key} {xs ws es:List AV}
variable {b s f r:Nat} {nm bn sn fnm rn:Str} {left g x y:Int} {m:Bool} {tg wg st:AV} {rs:List Str}
structure WPre (h:AH) (a d l e:Nat) (day:Int) (ks:List Key) (xs ws es:List AV) (b s f r:Nat) (nm bn sn fnm rn:Str) (left x y:Int) (m:Bool) (tg wg st:AV) (rs:List Str):Prop where
 q:Cel h a d l e day ks xs ws es
 nmo:isNm nm=true
 fr:dval ks xs (.inr nm)=none
 kb:dval ks xs (.inr bn)=some (.ref b)
 hb:h[b]?=some (o6 bn left)
 kS:dval ks xs (.inr sn)=some (.ref s)
 hs:h[s]?=some (.ins 3 (vw sn m tg wg rs st))
 kf:dval ks xs (.inr fnm)=some (.ref f)
 hf:h[f]?=some (xp fnm r)
 hr:h[r]?=some (vm rn x y)
 rl:rs.length<=1000
 sl:sn.length<=1000
 fl:fnm.length<=1000
theorem qm2 (w:WPre h a d l e day ks xs ws es b s f r nm bn sn fnm rn left x y m tg wg st rs) (h1:1<=g) (h2:g<=1000000) (hr:rs[0]?=some rn) (h3:g<=left) (hk:ks.length<100000) (hx:ks.length=xs.length) (hws:ws.length<100000) (hes:es.length<100000) :
  m_qt [.ref a, .str nm, .str bn, .str sn, .str fnm, .int g] h=.ok .non ((((h.set b (o6 bn (left - g))++[Cell.ins 6 (xh nm s f g 0 day day day false)]).set d (.dk (ks++[.inr nm]) (xs++[AV.ref h.length]))).set l (.lst (ws++[AV.ref h.length]))).set e (.lst (es++[AV.tup [.int day, .str "wheel", .str nm, .str bn, .str sn, .str fnm, .int g]]))):=by
 have e1:=qha w.q.qc w.q.qd w.nmo w.fr;have e2:=vj (kd:="batch") w.q.qc w.q.qd w.kb w.hb rfl;have e3:=vj (kd:="sort") w.q.qc w.q.qd w.kS w.hs rfl;have e4:=vj (kd:="shelf") w.q.qc w.q.qd w.kf w.hf rfl;have e0:=w.q.qc;have e5:=qg7 (h:=h) h1 h2;have e6:=bt (k:=0) w.hf w.hr w.hs w.rl (by decide)
 rw [decide_eq_true hr] at e6;simp only [Int.ofNat_zero,Int.natCast_zero] at e6;have e7:=qdo (h:=h) h3;have e8:=w.hb;have q1:=w.q.put w.hb (by decide) (o6 bn (left - g))
 have q2:=q1.app [Cell.ins 6 (xh nm s f g 0 day day day false)];have q3:=q2.put_d (ks++[.inr nm]) (xs++[AV.ref h.length]);have q4:=q3.put_l (ws++[AV.ref h.length]);have hz:(100000:Nat)<=sizeLine:=by decide
 have hkk:ks.length<sizeLine:=by omega
 have hww:ws.length<sizeLine:=by omega
 have hee:es.length<sizeLine:=by omega
 have e9:=qcz (t:=h.length) (nm:=nm) q2.qc q2.qd (by have:=zt (h.set b (o6 bn (left - g))) (.ins 6 (xh nm s f g 0 day day day false));rw [List.length_set] at this;exact this) rfl hkk
 rw [bq w.fr hx] at e9;have f1:=q1.qc;have f2:=q2.qc;have f3:=q3.qc;have f4:=q4.qc;have f5:=q3.ql;have f6:=q4.qe;simp only [o6,yh] at e0 e8 e9 f1 f2 f3 f4 f5 f6;simp [m_qt,b_qt,e0,e1,e2,e3,e4,e5,e6,e7,e8,e9,f1,f2,f3,f4,f5,f6,hww,hee,o6,List.lookup,flG,qgi]
theorem c4 {h:AH} {x:AV} {xs:List AV} (hx:IsL h x xs):okW h xs (watch x)=true:=by
 rcases hx with rfl | ⟨k,rfl,ek⟩
 ·exact xx
 ·exact qbs ek
theorem qd9 {h:AH} {x:AV} {xs:List AV} (hx:IsL h x xs):ue h x=some xs:=by
 rcases hx with rfl | ⟨k,rfl,ek⟩
 ·rfl
 ·simp [ek]
theorem qnf {h:AH} {x:AV} {xs:List AV} (hx:IsL h x xs):vx h x=some xs:=by
 rcases hx with rfl | ⟨k,rfl,ek⟩
 ·rfl
 ·simp [ek]
theorem IsL.app {h g:AH} {x:AV} {xs:List AV} (hx:IsL h x xs):IsL (h++g) x xs:=by
 rcases hx with rfl | ⟨k,rfl,ek⟩
 ·exact .inl rfl
 ·exact .inr ⟨k,rfl,yq ek⟩
def qi6 (nm:Str):Cell:=.ins 0 [(0, .str "farm"),(1, .str nm)]
end
section
variable {h:AH} {a d l e:Nat} {day:Int} {ks:List Key} {xs ws es:List AV}
variable {w f f' s r:Nat} {nm fnm rn sn:Str} {g x y:Int} {p:Nat} {td wd rd:Int} {m:Bool} {tg wg st:AV} {rs:List Str}
structure MPre (h:AH) (a d l e:Nat) (day:Int) (ks:List Key) (xs ws es:List AV) (w f f' s r:Nat) (nm fnm rn sn:Str) (g:Int) (p:Nat) (td wd rd x y:Int) (m:Bool) (tg wg st:AV) (rs:List Str):Prop where
 q:Cel h a d l e day ks xs ws es
 kw:dval ks xs (.inr nm)=some (.ref w)
 hw:h[w]?=some (.ins 6 (xh nm s f g (p:Int) td wd rd false))
 kf:dval ks xs (.inr fnm)=some (.ref f')
 hf:h[f']?=some (xp fnm r)
 hr:h[r]?=some (vm rn x y)
 hs:h[s]?=some (.ins 3 (vw sn m tg wg rs st))
 rl:rs.length<=1000
 pl:p<900
 nl:nm.length<=1000
 fl:fnm.length<=1000
theorem qlb (w0:MPre h a d l e day ks xs ws es w f f' s r nm fnm rn sn g p td wd rd x y m tg wg st rs) (h1:rs[p+1]?=some rn) (hes:es.length<100000) :
  m_q0n [.ref a, .str nm, .str fnm] h=.ok .non ((h.set w (.ins 6 (xh nm s f' g ((p:Int)+1) td wd day false))).set e (.lst (es++[AV.tup [.int day, .str "move", .str nm, .str fnm]]))):=by
 have e1:=vj (kd:="wheel") w0.q.qc w0.q.qd w0.kw w0.hw rfl;have e2:=vj (kd:="shelf") w0.q.qc w0.q.qd w0.kf w0.hf rfl;have e0:=w0.q.qc;have e3:=w0.hw;have e4:=bt (k:=p+1) w0.hf w0.hr w0.hs w0.rl (by have:=w0.pl;omega)
 rw [decide_eq_true h1] at e4;have e4':m_q0o [.ref f', .ref s, .int ((p:Int)+1)] h=.ok (.bl true) h:=e4;have e6:m_qr [.ref w] h=.ok .non h:=by simp [m_qr,b_qr,e3,xh,List.lookup]
 have q1:=λc=>w0.q.put w0.hw (by decide) c
 have f1:=λc=>(q1 c).qc
 have f2:=λc=>(q1 c).qe
 have g1:∀ c,(h.set w c)[w]?=some c:=λc=>zr w0.hw
 have hee:es.length<sizeLine:=Nat.lt_of_lt_of_le hes (by decide)
 simp only [yh,xh] at e0 e3 f1;simp [m_q0n,b_q0n,e0,e1,e2,e3,e4',e6,List.lookup,f1,f2,g1,flG,hee,xh]
theorem qk2 (w0:MPre h a d l e day ks xs ws es w f f' s r nm fnm rn sn g p td wd rd x y m tg wg st rs) (h1:rs[p+1]?≠some rn) (h2:rs[p]?=some rn) (hes:es.length<100000) :
  m_q0n [.ref a, .str nm, .str fnm] h=.ok .non ((h.set w (.ins 6 (xh nm s f' g (p:Int) td wd rd false))).set e (.lst (es++[AV.tup [.int day, .str "move", .str nm, .str fnm]]))):=by
 have e1:=vj (kd:="wheel") w0.q.qc w0.q.qd w0.kw w0.hw rfl;have e2:=vj (kd:="shelf") w0.q.qc w0.q.qd w0.kf w0.hf rfl;have e0:=w0.q.qc;have e3:=w0.hw;have e4:=bt (k:=p+1) w0.hf w0.hr w0.hs w0.rl (by have:=w0.pl;omega)
 have e5:=bt (k:=p) w0.hf w0.hr w0.hs w0.rl (by have:=w0.pl;omega)
 rw [decide_eq_false h1] at e4;rw [decide_eq_true h2] at e5;have e4':m_q0o [.ref f', .ref s, .int ((p:Int)+1)] h=.ok (.bl false) h:=e4;have e6:m_qr [.ref w] h=.ok .non h:=by simp [m_qr,b_qr,e3,xh,List.lookup]
 have q1:=λc=>w0.q.put w0.hw (by decide) c
 have f1:=λc=>(q1 c).qc
 have f2:=λc=>(q1 c).qe
 have g1:∀ c,(h.set w c)[w]?=some c:=λc=>zr w0.hw
 have hee:es.length<sizeLine:=Nat.lt_of_lt_of_le hes (by decide)
 simp only [yh,xh] at e0 e3 f1;simp [m_q0n,b_q0n,e0,e1,e2,e3,e4',e5,e6,List.lookup,f1,f2,g1,flG,hee,xh]
end
structure Wh where
 nm:Str
 sort:Nat
 shelf:Nat
 grams:Int
 place:Int
 td:Int
 wd:Int
 rd:Int
 gone:Bool
def Wh.cell (w:Wh):Cell:=.ins 6 (xh w.nm w.sort w.shelf w.grams w.place w.td w.wd w.rd w.gone)
structure WR where
 k:Nat
 w:Wh
 fnm:Str
 r:Nat
 rn:Str
 dp:Int
 wm:Int
structure WR.ok (h:AH) (z:WR):Prop where
 c:h[z.k]?=some z.w.cell
 f:h[z.w.shelf]?=some (xp z.fnm z.r)
 r:h[z.r]?=some (vm z.rn z.dp z.wm)
 d0:0<=z.dp
 d1:z.dp<=100
 w0:0<=z.wm
 w1:z.wm<=40
def WR.loss (z:WR):Int:=z.w.grams * (100 - z.dp) * z.wm / 100000
def WR.next (z:WR):WR:={z with w:={z.w with grams:=z.w.grams - z.loss}}
def WR.row (z:WR):AV:=.tup [.str z.w.nm, .str z.rn, .str z.fnm, .int z.loss]
def rowsOf (zs:List WR):List AV:=(zs.filter λz=>!z.w.gone).map WR.row
def uh:List WR->AH->AH
 | [],h=>h
 | z::zs,h=>uh zs (if z.w.gone then h else h.set z.k z.next.w.cell)
theorem qcu:∀ (zs:List WR) (h:AH),(uh zs h).length=h.length
 | [],h=>rfl
 | z::zs,h=>by
  unfold uh;rw [qcu zs];split <;> simp
theorem WR.ok.put {h:AH} {z y:WR} (o:z.ok h) (oy:y.ok h) (hn:y.k≠z.k) (c:Cell):z.ok (h.set y.k c):=
 ⟨by rw [x6 hn];exact o.c,by rw [x6 (v8 oy.c o.f (by simp [Wh.cell,xp]))];exact o.f,by rw [x6 (v8 oy.c o.r (by simp [Wh.cell,vm]))];exact o.r,o.d0,o.d1,o.w0,o.w1⟩
theorem WR.ok.app {h g:AH} {z:WR} (o:z.ok h):z.ok (h++g):=⟨yq o.c,yq o.f,yq o.r,o.d0,o.d1,o.w0,o.w1⟩
theorem qnk {h:AH} {z:WR} (o:z.ok h):m_q10 [.ref z.k] h=.ok (.int z.loss) h:=by
 have e1:=o.c;have e2:=o.f;have e3:=o.r;simp only [Wh.cell,xh,xp,vm] at e1 e2 e3;have b1:=o.d0;have b2:=o.d1;have b3:=o.w0;have b4:=o.w1;have m1:-18446744073709551616<100 - z.dp:=by omega
 have m2:100 - z.dp<18446744073709551616:=by omega
 have m3:-18446744073709551616<z.wm:=by omega
 have m4:z.wm<18446744073709551616:=by omega
 simp [m_q10,b_q10,e1,e2,e3,List.lookup,WR.loss,m1,m2,m3,m4]
abbrev k7:AS:=(sIf (aNot (aB (aFld 17 (aVar 2))))
 (sSeq (sAsg (aC m_q10 (j0 (aVar 2) aNil)) (gN 3))
 (sSeq (rk flG 10 fSub (aVar 2) (aVar 3))
 (jg (aMtL zf (aVar 1) (j0 (aTup (j0 (aFld 1 (aVar 2)) (j0 (aFld 1 (aFld 4 (aFld 12 (aVar 2)))) (j0 (aFld 1 (aFld 12 (aVar 2))) (j0 (aVar 3) aNil))))) aNil)))))
 y0)
theorem qip {h:AH} {z:WR} {a n:Nat} {rows:List AV} {x3:Option AV} (o:z.ok h) (hn:h.length=n) (hr:rows.length<100000) :
  ∃ x3',k7 [some (.ref a),some (.ref n),some (.ref z.k),x3] (h++[.lst rows])=.nx [some (.ref a),some (.ref n),some (.ref z.k),x3'] ((if z.w.gone then h else h.set z.k z.next.w.cell)++[.lst (rows++rowsOf [z])]):=by
 subst hn;have hk:=qi o.c;have o1:z.ok (h++[Cell.lst rows]):=o.app;have e0:=qnk o1;have e1:=o1.c;have hrr:rows.length<sizeLine:=Nat.lt_of_lt_of_le hr (by decide)
 by_cases hg:z.w.gone=true
 ·simp only [Wh.cell,xh] at e1
  exact ⟨x3,by simp [e1,hg,rowsOf,List.lookup]⟩
 ·have hg:z.w.gone=false:=by simpa using hg
  have s1:∀ c,(h++[Cell.lst rows]).set z.k c=h.set z.k c++[.lst rows]:=λc=>List.set_append_left _ _ hk
  have g1:∀ c,(h.set z.k c++[Cell.lst rows])[z.k]?=some c:=λc=>yq (zr o.c)
  have o2:∀ c,(h.set z.k c++[Cell.lst rows])[z.w.shelf]?=some (xp z.fnm z.r):=λc=>yq (by rw [x6 (v8 o.c o.f (by simp [Wh.cell,xp]))];exact o.f)
  have o3:∀ c,(h.set z.k c++[Cell.lst rows])[z.r]?=some (vm z.rn z.dp z.wm):=λc=>yq (by rw [x6 (v8 o.c o.r (by simp [Wh.cell,vm]))];exact o.r)
  have l1:∀ c,(h.set z.k c++[Cell.lst rows])[h.length]?=some (.lst rows):=λc=>by have:=zt (h.set z.k c) (.lst rows);rwa [List.length_set] at this
  simp only [Wh.cell,xh,xp,vm] at e1 o2 o3;exact ⟨some (.int z.loss),by simp [e1,hg,e0,List.lookup,flG,s1,g1,o2,o3,l1,hrr,rowsOf,WR.row,WR.next,Wh.cell,xh]⟩
theorem qgj (z:WR) (zs:List WR):rowsOf (z::zs)=rowsOf [z]++rowsOf zs:=by
 unfold rowsOf;rw [show z::zs=[z]++zs from rfl,List.filter_append,List.map_append]
theorem qhr (zs:List WR):(rowsOf zs).length<=zs.length:=by
 unfold rowsOf;rw [List.length_map];exact List.length_filter_le _ _
theorem qcv {a l n:Nat} {all:List AV}:∀ (zs:List WR) (h:AH) (rows:List AV) (x2 x3:Option AV),h.length=n->h[l]?=some (.lst all)->(∀ z∈zs,z.ok h)->(zs.map (·.k)).Nodup->rows.length+zs.length<100000 ->
  ∃ x2' x3',vh (some l) all (gN 2) k7 (zs.map λz=>AV.ref z.k) [some (.ref a),some (.ref n),x2,x3] (h++[.lst rows])=.nx [some (.ref a),some (.ref n),x2',x3'] (uh zs h++[.lst (rows++rowsOf zs)])
 | [],h,rows,x2,x3,hn,hl,_,_,_=>⟨x2,x3,by simp [vh,qbs (yq hl),uh,rowsOf]⟩
 | z::zs,h,rows,x2,x3,hn,hl,ho,hd,hr=>by
  have oz:=ho z (by simp)
  simp only [List.map_cons,List.nodup_cons,List.length_cons] at hd hr;obtain ⟨x3',e1⟩:=qip (a:=a) (x3:=x3) oz hn (rows:=rows) (by omega)
  have hr1:=qhr [z];obtain ⟨y2,y3,e2⟩:=qcv (a:=a) (l:=l) (n:=n) (all:=all) zs (if z.w.gone then h else h.set z.k z.next.w.cell) (rows++rowsOf [z]) (some (.ref z.k)) x3' (by split <;> simp [hn]) (by
   split
   ·exact hl
   ·rw [x6 (v8 oz.c hl (by simp [Wh.cell]))];exact hl) (λy hy=>by
   have hne:z.k≠y.k:=λe=>hd.1 (e ▸ List.mem_map_of_mem hy)
   split
   ·exact ho y (List.mem_cons_of_mem _ hy)
   ·exact (ho y (List.mem_cons_of_mem _ hy)).put oz hne _) hd.2 (by simp only [List.length_append,List.length_cons,List.length_nil] at hr1 ⊢;omega)
  refine ⟨y2,y3,?_⟩;have hw:okW (h++[Cell.lst rows]) all (some l)=true:=qbs (yq hl);rw [List.map_cons,vh,if_pos hw];have eg:gN 2 (AV.ref z.k) [some (.ref a),some (.ref n),x2,x3] (h++[Cell.lst rows])=.ok [some (.ref a),some (.ref n),some (.ref z.k),x3] (h++[.lst rows]):=rfl;rw [eg];simp only [Re.to];rw [e1];simp only [];rw [e2,qgj z zs, <- List.append_assoc];rfl
theorem Cel.uh {a d l e:Nat} {day:Int} {ks:List Key} {xs ws es:List AV}:∀ {zs:List WR} {h:AH},Cel h a d l e day ks xs ws es->(∀ z∈zs,z.ok h)->(zs.map (·.k)).Nodup->Cel (uh zs h) a d l e day ks xs ws es
 | [],h,q,_,_=>q
 | z::zs,h,q,ho,hd=>by
  have oz:=ho z (by simp)
  simp only [List.map_cons,List.nodup_cons] at hd;unfold PM.uh;refine Cel.uh ?_ (λy hy=>?_) hd.2
  ·split
   ·exact q
   ·exact q.put oz.c (by decide) _
  ·have hne:z.k≠y.k:=λe=>hd.1 (e ▸ List.mem_map_of_mem hy)
   split
   ·exact ho y (List.mem_cons_of_mem _ hy)
   ·exact (ho y (List.mem_cons_of_mem _ hy)).put oz hne _
def qf4 (zs:List WR) (a d l e:Nat) (day:Int) (es:List AV) (h:AH):AH:=
 (((uh zs h)++[Cell.lst (rowsOf zs)]).set e (.lst (es++[AV.tup [.int day, .str "night", .tup (rowsOf zs)]]))).set a (yh (day+1) d l e)
theorem qoe {h:AH} {a d l e:Nat} {day:Int} {ks:List Key} {xs es:List AV} {zs:List WR} (q:Cel h a d l e day ks xs (zs.map λz=>AV.ref z.k) es) (ho:∀ z∈zs,z.ok h) (hd:(zs.map (·.k)).Nodup) (hz:zs.length<1000) (hes:es.length<100000) :
  m_qp [.ref a] h=.ok .non (qf4 zs a d l e day es h):=by
 obtain ⟨x2,x3,lp⟩:=qcv (a:=a) (l:=l) (n:=h.length) (all:=zs.map λz=>AV.ref z.k) zs h [] none none rfl q.ql ho hd (by simp;omega)
 rw [List.nil_append] at lp;dsimp only [k7,aFld] at lp;have q0:=q.app [.lst []];have q1:=(q.uh ho hd).app [.lst (rowsOf zs)];have q2:=q1.put_e (es++[AV.tup [.int day, .str "night", .tup (rowsOf zs)]]);have hee:es.length<sizeLine:=Nat.lt_of_lt_of_le hes (by decide)
 have e0:=q0.qc;have e1:=q0.ql;have f0:=q1.qc;have f1:=q1.qe;have f2:=q2.qc;have l1:(uh zs h++[Cell.lst (rowsOf zs)])[h.length]?=some (.lst (rowsOf zs)):=by
  have:=zt (uh zs h) (.lst (rowsOf zs));rwa [qcu] at this
 simp only [yh] at e0 f0 f2;simp [m_qp,b_qp,e0,e1,lp,f0,f1,f2,l1,hee,List.lookup,flG,qf4,yh]
def rt3 (z:Str×Int×Int):AV:=.tup [.str z.1, .int z.2.1, .int z.2.2]
def isRoom (h:AH) (ks:List Key) (xs:List AV) (r:Str):Prop:=∃ t x y,dval ks xs (.inr r)=some (.ref t)/\h[t]?=some (vm r x y)
def k8 (a b:Int):Prop:=1<=a/\a<=b/\b<=60
def bu (ro:List (Str×Int×Int)):AV:=.lst (ro.map λz=>AV.tup [.int z.2.1, .int z.2.2])
section
variable {h:AH} {a d l e:Nat} {day:Int} {ks:List Key} {xs ws es:List AV} {nm:Str} {m:Bool} {t1 t2 w1 w2:Int} {p:AV} {ro:List (Str×Int×Int)}
theorem lsq_l (h:AH) (xs:List AV):ue h (.lst xs)=some xs:=rfl
theorem seq_l (h:AH) (xs:List AV):vx h (.lst xs)=some xs:=rfl
theorem qhd (xs:List AV):watch (.lst xs)=none:=rfl
theorem qkv {h:AH} {p:AV} (hp:IsL h p (ro.map rt3)) (hl:ro.length<=1000):m_q0i [.ref h.length, .str nm, .bl m, .tup [.int t1, .int t2], .tup [.int w1, .int w2],p] (h++[.ins 3 []])=.ok .non (h++[.ins 3 (vw nm m (.tup [.int t1, .int t2]) (.tup [.int w1, .int w2]) (ro.map (·.1)) (bu ro))]):=by
 have hpl:ro.length<=sizeLine:=Nat.le_trans hl (by decide)
 have k1:∀ c,IsL (h++[c]) p (ro.map rt3):=λc=>hp.app
 have e1:∀ c,ue (h++[c]) p=some (ro.map rt3):=λc=>qd9 (k1 c)
 have e2:∀ c,lcL (watch p) (ro.map rt3) (gT 3 (yz (gN 0) (yz (gN 1) (yz (gN 2) uu)))) aYes (aVar 0) [none,none,none] (ro.map rt3) [] (h++[c])=.ok ([]++ro.map λz=>AV.str z.1) (h++[c]):=λc =>
  gh (c4 (k1 c)) ro [] λz hz=>⟨_,rfl,rfl⟩
 have e3:∀ c,lcL (watch p) (ro.map rt3) (gT 3 (yz (gN 0) (yz (gN 1) (yz (gN 2) uu)))) aYes (aTup (j0 (aVar 1) (j0 (aVar 2) aNil))) [none,none,none] (ro.map rt3) [] (h++[c])=.ok ([]++ro.map λz=>AV.tup [.int z.2.1, .int z.2.2]) (h++[c]):=λc =>
  gh (c4 (k1 c)) ro [] λz hz=>⟨_,rfl,rfl⟩
 simp [m_q0i,b_q0i,q9x,flG, -ue, -watch,e1,e2,e3,hpl,bEnv,vw,bu,Function.comp_def]
theorem qll {ts:List Str} (hn:ts.Nodup):(metK ts).length=ts.length:=by
 unfold metK;rw [qc2 ts [] hn (λx _ z=>nomatch z)];rfl
theorem qhe (q:Cel h a d l e day ks xs ws es) (hn:isNm nm=true) (fr:dval ks xs (.inr nm)=none) (hp:IsL h p (ro.map rt3)) (hl:ro.length<=1000) (hr:∀ z∈ro,isRoom h ks xs z.1) (hg:∀ z∈ro,k8 z.2.1 z.2.2) (ht:k8 t1 t2) (hw:k8 w1 w2) (hd:(ro.map (·.1)).Nodup) (hk:ks.length<100000) (hx:ks.length=xs.length) :
  m_qz [.ref a, .str nm, .bl m, .tup [.int t1, .int t2], .tup [.int w1, .int w2],p] h=.ok .non ((h++[Cell.ins 3 (vw nm m (.tup [.int t1, .int t2]) (.tup [.int w1, .int w2]) (ro.map (·.1)) (bu ro))]).set d (.dk (ks++[.inr nm]) (xs++[AV.ref h.length]))):=by
 have hz:(100000:Nat)<=sizeLine:=by decide
 have e0:=q.qc;have e1:=qha q.qc q.qd hn fr;have e2:=qd9 hp;have hpl:ro.length<=sizeLine:=by omega
 have e3:lcL (watch p) (ro.map rt3) (gT 3 (yz (gN 0) (yz (gN 1) (yz (gN 2) uu)))) aYes (aFld 1 (jn 8 m_qa (aVar 3) (j0 (aVar 0) (j0 (aK (.str "room")) aNil)))) [none,none,none,some (.ref a)] (ro.map rt3) [] h=.ok ([]++ro.map λz=>AV.str z.1) h:=
  gh (c4 hp) ro [] λz hz=>by
   obtain ⟨t,x,y,k1,k2⟩:=hr z hz;have k3:=vj (kd:="room") q.qc q.qd k1 k2 rfl;simp only [vm] at k2;simp only [yh] at e0;exact ⟨_,rfl,by simp [e0,k3,k2,List.lookup]⟩
 have e4:lcL (watch p) (ro.map rt3) (gT 3 (yz (gN 0) (yz (gN 1) (yz (gN 2) uu)))) aYes (aTup (j0 (aVar 1) (j0 (aVar 2) aNil))) [none,none,none] (ro.map rt3) [] h=.ok ([]++ro.map λz=>AV.tup [.int z.2.1, .int z.2.2]) h:=
  gh (c4 hp) ro [] λz hz=>⟨_,rfl,rfl⟩
 have gs:∀ z∈(t1,t2)::(w1,w2)::ro.map (λz=>z.2),k8 z.1 z.2:=by
  intro z hz;simp only [List.mem_cons,List.mem_map] at hz;rcases hz with rfl | rfl | ⟨y,hy,rfl⟩
  ·exact ht
  ·exact hw
  ·exact hg y hy
 have e5:∃ env' h',vh none (AV.tup [.int t1, .int t2]::AV.tup [.int w1, .int w2]::ro.map λz=>AV.tup [.int z.2.1, .int z.2.2]) (gN 7) (jg (aC m_q12 (j0 (a2 fIx (aVar 7) (aK (.int 0))) (j0 (a2 fIx (aVar 7) (aK (.int 1))) aNil)))) (AV.tup [.int t1, .int t2]::AV.tup [.int w1, .int w2]::ro.map λz=>AV.tup [.int z.2.1, .int z.2.2])
   [some (.ref a),some (.str nm),some (.bl m),some (.tup [.int t1, .int t2]),some (.tup [.int w1, .int w2]),some p,some (.lst (ro.map λz=>AV.str z.1)),none] h=.nx env' h'/\h'=h/\∃ x,env'=[some (.ref a),some (.str nm),some (.bl m),some (.tup [.int t1, .int t2]),some (.tup [.int w1, .int w2]),some p,some (.lst (ro.map λz=>AV.str z.1)),x]:=by
  have:=nz (wt:=none) (all:=(AV.tup [.int t1, .int t2]::AV.tup [.int w1, .int w2]::ro.map λz=>AV.tup [.int z.2.1, .int z.2.2])) (g:=gN 7) (body:=jg (aC m_q12 (j0 (a2 fIx (aVar 7) (aK (.int 0))) (j0 (a2 fIx (aVar 7) (aK (.int 1))) aNil)))) (k:=λz:Int×Int=>AV.tup [.int z.1, .int z.2])
   (P:=λ_ env h' => h'=h/\∃ x,env=[some (.ref a),some (.str nm),some (.bl m),some (.tup [.int t1, .int t2]),some (.tup [.int w1, .int w2]),some p,some (.lst (ro.map λz=>AV.str z.1)),x]) (λ_ _ _ _=>xx) ((t1,t2)::(w1,w2)::ro.map (λz=>z.2)) 0 [some (.ref a),some (.str nm),some (.bl m),some (.tup [.int t1, .int t2]),some (.tup [.int w1, .int w2]),some p,some (.lst (ro.map λz=>AV.str z.1)),none] h ⟨rfl,none,rfl⟩ (by
    rintro j z hj env h' ⟨rfl,x,rfl⟩;have k1:=gs z (List.mem_of_getElem? hj);have k3:=gap_ok (h:=h') k1.1 k1.2.1 k1.2.2;have z0:atI [AV.int z.1, .int z.2] 0=some (.int z.1):=rfl;have z1:atI [AV.int z.1, .int z.2] 1=some (.int z.2):=rfl;refine ⟨_,_,[some (.ref a),some (.str nm),some (.bl m),some (.tup [.int t1, .int t2]),some (.tup [.int w1, .int w2]),some p,some (.lst (ro.map λz=>AV.str z.1)),some (.tup [.int z.1, .int z.2])],h',rfl, .inl ?_,rfl,_,rfl⟩
    simp [k3,z0,z1])
  simp only [List.map_cons,List.map_map,Function.comp_def] at this;exact this
 obtain ⟨env',h',l1,rfl,x7,rfl⟩:=e5;have e6:=qkv (nm:=nm) (m:=m) (t1:=t1) (t2:=t2) (w1:=w1) (w2:=w2) hp hl;have q2:=q.app [Cell.ins 3 (vw nm m (.tup [.int t1, .int t2]) (.tup [.int w1, .int w2]) (ro.map (·.1)) (bu ro))];have hkk:ks.length<sizeLine:=by omega
 have e9:=qcz (t:=h'.length) (nm:=nm) q2.qc q2.qd (zt _ _) rfl hkk;rw [bq fr hx] at e9;have f2:=q2.qc;have hpl2:2+ro.length<=sizeLine:=by omega
 have s1:strsOf (ro.map λz=>AV.str z.1)=some (ro.map (·.1)):=strs_map _ _
 have s2:=qll hd;rw [List.length_map] at s2;dsimp only [aFld] at e3;simp only [yh] at e0 f2;simp [m_qz,b_qz,e0,e1,e2, -ue, -watch, -vx,lsq_l,seq_l,qhd,hpl,hpl2,bEnv,e3,e4,l1,e6,e9,f2,s1,s2,hl,List.lookup]
end
section
variable {h:AH} {a d l e:Nat} {day:Int} {ks:List Key} {xs ws es:List AV} {nm:Str}
theorem qj {w:Nat} {c:Nat} {fs:List (Nat×AV)} (hw:h[w]?=some (.ins c fs)) (hg:fs.lookup 17=some (.bl false)):m_qr [.ref w] h=.ok .non h:=by
 simp [m_qr,b_qr,hw,hg]
theorem qon {w:Nat} {c:Nat} {fs:List (Nat×AV)} (hw:h[w]?=some (.ins c fs)) (hg:fs.lookup 17=some (.bl true)) (h1:fs.lookup 1=some (.str nm)) (hl:nm.length<=1000):m_qr [.ref w] h=.ex 25 h:=by
 simp [m_qr,b_qr,hw,hg,h1,hl]
end
theorem p0 {c:Nat} {m:AF} {o:AE} {ma:AA} {env:AEnv} {h h1:AH} {x:AV} {vs:List AV} {fs:List (Nat×AV)} {r:Re AV} (ho:o env h=.ok x h) (hi:vv h x=some (c,fs)) (ha:ma env h=.ok vs h1) (hm:m (x::vs) h1=r):jn c m o ma env h=r:=by
 unfold jn;rw [ho,Re.q3y,hi];simp only [if_true,ha,Re.q3y,hm]
theorem o7 {m:AF} {ma:AA} {env:AEnv} {h h1:AH} {vs:List AV} {r:Re AV} (ha:ma env h=.ok vs h1) (hm:m vs h1=r):aC m ma env h=r:=by
 unfold aC;rw [ha,Re.q3y,hm]
theorem mj {e:AE} {env:AEnv} {h h1:AH} {x:AV} (he:e env h=.ok x h1):jg e env h=.nx env h1:=by
 unfold jg;rw [he,Re.qhx]
theorem ui {e:AE} {i:Nat} {env:AEnv} {h h1:AH} {x:AV} (he:e env h=.ok x h1):sAsg e (gN i) env h=.nx (env.set i (some x)) h1:=by
 unfold sAsg;rw [he,Re.qhx];rfl
theorem bw (n:Nat):Z.intsFrom 0 n=(List.range n).map λi:Nat=>AV.int (i:Int):=by
 unfold Z.intsFrom;simp
theorem qdh {n i:Nat} {a:AE} {body:AS} {P:Nat->AEnv->AH->Prop} {env:AEnv} {h:AH} (hn:n<=1000000) (ha:a env h=.ok (.int (n:Int)) h) (h0:P 0 env h)
  (hs:∀ j,j<n->∀ env h,P j env h->∃ e2 h2,body (env.set i (some (.int (j:Int)))) h=.nx e2 h2/\P (j+1) e2 h2) :
  ∃ e2 h2,sFor (vy a) (gN i) body env h=.nx e2 h2/\P n e2 h2:=by
 have hl:=nz (wt:=none) (all:=Z.intsFrom 0 n) (g:=gN i) (body:=body) (k:=λi:Nat=>AV.int (i:Int)) (P:=P) (λ_ _ _ _=>xx) (List.range n) 0 env h h0 (λj y hj env h hP=>by
  obtain ⟨hj1,hj2⟩:=List.getElem?_eq_some_iff.mp hj;simp at hj1 hj2;subst hj2;rw [Nat.zero_add] at hP;obtain ⟨e2,h2,q1,q2⟩:=hs j hj1 env h hP;exact ⟨_,_,e2,h2,rfl, .inl q1,by rw [Nat.zero_add];exact q2⟩)
 obtain ⟨e2,h2,q1,q2⟩:=hl;rw [List.length_range,Nat.zero_add] at q2;refine ⟨e2,h2,?_,q2⟩;unfold sFor vy;rw [ha];simp only [Re.q3y];rw [dj hn];simp only [Re.qhx];rw [bw] at q1 ⊢;exact q1
theorem seq_assoc {s t r:AS} {env env':AEnv} {h h':AH} (e:sSeq s t env h=.nx env' h'):sSeq s (sSeq t r) env h=r env' h':=by
 cases hs:s env h with
 | nx e1 h1 =>
  rw [yr hs] at e;rw [yr hs,yr e]
 | _=>simp [hs] at e
def zu (nm:Str) (gone:Bool):Cell:=.ins 7 [(0, .str "wedge"),(1, .str nm),(17, .bl gone)]
section
variable {h:AH} {a d l e:Nat} {day:Int} {ks:List Key} {xs ws es:List AV} {nm:Str} {w:Nat} {z:Wh} {g:Int}
def wdN (nm:Str) (j:Nat):Str:=Str.empty++nm++("/" : Str)++Str.ofString (toString ((1:Int)+(j:Int)))
theorem qj8 {n:Nat} (hn:n<=1000) (hl:∀ j<n,(Str.empty++nm:Str).length<=sizeLine/\(Str.empty++nm++("/" : Str):Str).length<=sizeLine/\(wdN nm j).length<=sizeLine) :
  m_q0w [.str nm, .int (n:Int)] h=.ok (.lst ((List.range n).map λj=>.str (wdN nm j))) h:=by
 have e1:rng2 (.int 1) (.int ((n:Int)+1)) h=.ok (Z.intsFrom 1 n,none) h:=by
  have:=qlo (i:=1) (j:=n+1) (h:=h) (by omega) (by omega)
  exact this
 have hsz:(Z.intsFrom 1 n).length<=sizeLine:=by rw [len_from];exact Nat.le_trans hn (by decide)
 have e2:lcL none (Z.intsFrom 1 n) (gN 0) aYes (bc (qh (a1 qis (aVar 1)) (qh (aK (.str "/")) (qh (a1 qhv (aVar 0)) bb)))) [none,some (.str nm)] (Z.intsFrom 1 n) [] h=.ok ([]++(List.range n).map λj=>AV.str (wdN nm j)) h:=by
  unfold Z.intsFrom;refine gh (k:=λj:Nat=>AV.int (1+(j:Int))) xx (List.range n) [] λj hj=>⟨_,rfl,?_⟩
  have hj:=List.mem_range.mp hj;obtain ⟨l1,l2,l3⟩:=hl j hj;have hg:(1+(j:Int)).natAbs.log2<1920:=sm_of (by omega)
  have l0:nm.length<=sizeLine:=by rw [m9] at l1;omega
  unfold wdN at l3 ⊢;have l3':(Str.empty++nm++("/" : Str)++Str.ofString (Int.repr (1+(j:Int)))).length<=sizeLine:=l3;simp [l0,l1,l2,l3',hg]
 simp [m_q0w,b_q0w,e1,hsz,bEnv, -bc,e2]
theorem qhj {α:Type} {wt:Option Nat} {all:List AV} {g:AV->AEnv->AH->Re AEnv} {body:AS} {k:α->AV} {P:AEnv->Prop} {c:Nat} {good:α->Bool} (hw:okW h all wt=true) :
  ∀ (ys:List α) (env:AEnv),P env->ys.all good=false ->
   (∀ y∈ys, ∀ env,P env->∃ e1,g (k y) env h=.ok e1 h/\(good y=true->∃ e2,body e1 h=.nx e2 h/\P e2)/\(good y=false->body e1 h=.ex c h)) ->
   vh wt all g body (ys.map k) env h=.ex c h
 | [],env,_,hb,_=>by simp at hb
 | y::ys,env,hp,hb,hs=>by
  obtain ⟨e1,q1,q2,q3⟩:=hs y (by simp) env hp
  rw [List.map_cons,vh,if_pos hw,q1];simp only [Re.to];cases hg:good y with
  | false=>rw [q3 hg]
  | true =>
   obtain ⟨e2,r1,r2⟩:=q2 hg;rw [r1];exact qhj hw ys e2 r2 (by simpa [hg] using hb) λy hy=>hs y (List.mem_cons_of_mem _ hy)
def okG (g:Int):Bool:=decide (1<=g) && decide (g<=1000000)
variable {p:AV} {ps:List Int}
theorem qj1 (hp:IsL h p (ps.map AV.int)) (hb:ps.all okG=true) {x0 x1 x3:Option AV}:∃ y,vh (watch p) (ps.map AV.int) (gN 4) (jg (aC m_q06 (j0 (aVar 4) aNil))) (ps.map AV.int) [x0,x1,some p,x3,none,none] h=.nx [x0,x1,some p,x3,y,none] h:=by
 have:=nz (wt:=watch p) (all:=ps.map AV.int) (g:=gN 4) (body:=jg (aC m_q06 (j0 (aVar 4) aNil))) (k:=AV.int) (P:=λ_ env h' => h'=h/\∃ y,env=[x0,x1,some p,x3,y,none]) (λi env h' ⟨hh,_⟩=>by rw [hh];exact c4 hp) ps 0 [x0,x1,some p,x3,none,none] h ⟨rfl,_,rfl⟩ (by
  rintro j g hj env h' ⟨rfl,y,rfl⟩;have h1:=List.all_eq_true.mp hb g (List.mem_of_getElem? hj);unfold okG at h1;rw [Bool.and_eq_true,decide_eq_true_eq,decide_eq_true_eq] at h1;have:=qg7 (h:=h') h1.1 h1.2;exact ⟨_,_,[x0,x1,some p,x3,some (.int g),none],h',rfl, .inl (by simp [this]),rfl,_,rfl⟩)
 obtain ⟨env',h',l1,rfl,y,rfl⟩:=this;exact ⟨y,l1⟩
theorem qmn (hb:ps.all okG=true) (hl:ps.length<=1000):rm ps=true:=by
 unfold rm;rw [Bool.and_eq_true,List.all_eq_true,decide_eq_true_eq];refine ⟨λn hn=>?_,by omega⟩
 have h1:=List.all_eq_true.mp hb n hn;unfold okG at h1;rw [Bool.and_eq_true,decide_eq_true_eq,decide_eq_true_eq] at h1 ⊢;omega
theorem qgu {p:AV} {xs:List AV} (hx:IsL h p xs):zk h p=some xs:=by
 rcases hx with rfl | ⟨k,rfl,ek⟩
 ·rfl
 ·simp [ek]
theorem qlz {h:AH} {p:AV} {xs:List AV} (hx:IsL h p xs):fLen [p] h=.ok (.int (xs.length:Int)) h:=by
 rcases hx with rfl | ⟨k,rfl,ek⟩
 ·rfl
 ·simp [ek]
def wns (nm:Str) (n:Nat):List Str:=(List.range n).map (wdN nm)
def refs (b n:Nat):List AV:=(List.range n).map λj=>AV.ref (b+j)
def cutH (h:AH) (d:Nat) (ks:List Key) (xs:List AV) (nm:Str) (j:Nat):AH:=(h++(wns nm j).map λy=>zu y false).set d (.dk (ks++(wns nm j).map Sum.inr) (xs++refs h.length j))
theorem qf0 (nm:Str) (j:Nat):wns nm (j+1)=wns nm j++[wdN nm j]:=by simp [wns,List.range_succ]
theorem qje (b j:Nat):refs b (j+1)=refs b j++[AV.ref (b+j)]:=by simp [refs,List.range_succ]
theorem qmu (j:Nat):(cutH h d ks xs nm j).length=h.length+j:=by simp [cutH,wns]
theorem qfs (q:Cel h a d l e day ks xs ws es) (j:Nat):Cel (cutH h d ks xs nm j) a d l e day (ks++(wns nm j).map Sum.inr) (xs++refs h.length j) ws es:=
 (q.app _).put_d _ _
theorem qk5 (hd:d<h.length) (j:Nat):(cutH h d ks xs nm j++[zu (wdN nm j) false]).set d (.dk (ks++(wns nm (j+1)).map Sum.inr) (xs++refs h.length (j+1)))=cutH h d ks xs nm (j+1):=by
 have hl:d<(h++(wns nm j).map λy=>zu y false).length:=by simp;omega
 have e:((wns nm (j+1)).map λy=>zu y false)=((wns nm j).map λy=>zu y false)++[zu (wdN nm j) false]:=by rw [qf0,List.map_append];rfl
 unfold cutH;rw [e, <- List.append_assoc];generalize h++(wns nm j).map (λy=>zu y false)=A at hl
 rw [List.set_append_left _ _ (by rw [List.length_set];exact hl),List.set_set,List.set_append_left _ _ hl]
theorem mr {js:List Key} {ys:List AV} {j:Key} (hl:ks.length=xs.length) (h1:dval ks xs j=none) (h2:j∉js):dval (ks++js) (xs++ys) j=none:=by
 rw [t8 hl,h1,Option.none_or]
 induction js generalizing ys with
 | nil=>rfl
 | cons k js ih =>
  cases ys with
  | nil=>rfl
  | cons y ys =>
   unfold dval;rw [if_neg (λe=>h2 (by rw [e];simp))]
   exact ih (λhm=>h2 (List.mem_cons_of_mem _ hm))
theorem qk0 (q:Cel h a d l e day ks xs ws es) (hkl:ks.length=xs.length) {n:Nat} (hn:n<=1000) (hk:ks.length<90000) (hf:∀ j<n,dval ks xs (.inr (wdN nm j))=none) (hd:∀ i<n, ∀ j<n,wdN nm i=wdN nm j->i=j) {x1 x2 x3 x4:Option AV} :
  ∃ y,vh none ((List.range n).map λj=>AV.str (wdN nm j)) (gN 5) (jg (jn 8 m_qo (aVar 0) (j0 (u9 7 m_q0b (j0 (aVar 5) aNil)) aNil))) ((List.range n).map λj=>AV.str (wdN nm j)) [some (.ref a),x1,x2,x3,x4,none] h=.nx [some (.ref a),x1,x2,x3,x4,y] (cutH h d ks xs nm n):=by
 have hdl:d<h.length:=qi q.qd;have h00:cutH h d ks xs nm 0=h:=by
  unfold cutH;simp only [wns,refs,List.range_zero,List.map_nil,List.append_nil]
  apply List.ext_getElem? ;intro i
  by_cases hi:d=i
  ·subst hi;rw [zr q.qd];exact q.qd.symm
  ·rw [x6 hi]
 have:=nz (wt:=none) (all:=(List.range n).map λj=>AV.str (wdN nm j)) (g:=gN 5) (body:=jg (jn 8 m_qo (aVar 0) (j0 (u9 7 m_q0b (j0 (aVar 5) aNil)) aNil))) (k:=λj=>AV.str (wdN nm j)) (P:=λi env h' => h'=cutH h d ks xs nm i/\∃ y,env=[some (.ref a),x1,x2,x3,x4,y]) (λ_ _ _ _=>xx) (List.range n) 0 [some (.ref a),x1,x2,x3,x4,none] h ⟨h00.symm,_,rfl⟩ (by
  rintro j y hj env h' ⟨rfl,u,rfl⟩;obtain ⟨hj1,hj2⟩:=List.getElem?_eq_some_iff.mp hj;simp at hj1 hj2;subst hj2;rw [Nat.zero_add];refine ⟨_,_,[some (.ref a),x1,x2,x3,x4,some (.str (wdN nm j))],cutH h d ks xs nm (j+1),rfl, .inl ?_,rfl,_,rfl⟩;have q1:=qfs (nm:=nm) q j;have q2:=q1.app [zu (wdN nm j) false];have hfr:dval (ks++(wns nm j).map Sum.inr) (xs++refs h.length j) (.inr (wdN nm j))=none:=mr hkl (hf j hj1) (by
   intro hm;obtain ⟨y,hy,e⟩:=List.mem_map.mp hm;cases e;obtain ⟨i,hi,e⟩:=List.mem_map.mp hy;have hi:=List.mem_range.mp hi;have:=hd i (by omega) j hj1 e
   omega)
  have hwl:(wns nm j).length=j:=by simp [wns]
  have hkk:(ks++(wns nm j).map Sum.inr).length<sizeLine:=Nat.lt_of_lt_of_le (show _<100000 by simp [hwl];omega) (by decide)
  have hlen:=qmu (h:=h) (d:=d) (ks:=ks) (xs:=xs) (nm:=nm) j;have e9:=qcz (t:=h.length+j) (nm:=wdN nm j) q2.qc q2.qd (by have:=zt (cutH h d ks xs nm j) (zu (wdN nm j) false);rw [hlen] at this;exact this) rfl hkk
  rw [bq hfr (by simp [hwl,refs,hkl])] at e9
  have hx1:ks++(wns nm j).map Sum.inr++[Sum.inr (wdN nm j)]=ks++(wns nm (j+1)).map Sum.inr:=by rw [qf0];simp
  have hx2:xs++refs h.length j++[AV.ref (h.length+j)]=xs++refs h.length (j+1):=by rw [qje];simp
  dsimp only at e9;rw [hx1,hx2,qk5 hdl j] at e9;have e0:=q1.qc;have hi:m_q0b [.ref (h.length+j), .str (wdN nm j)] (cutH h d ks xs nm j++[.ins 7 []])=.ok .non (cutH h d ks xs nm j++[zu (wdN nm j) false]):=by
   rw [<- hlen];generalize cutH h d ks xs nm j=G;simp [m_q0b,b_q0b,q9x,flG,zu]
  simp only [yh] at e0;simp [e0,hlen,hi,e9])
 obtain ⟨env',h',l1,rfl,y,rfl⟩:=this;rw [List.length_range,Nat.zero_add] at l1;exact ⟨y,l1⟩
theorem cut_ok (q:Cel h a d l e day ks xs ws es) (kw:dval ks xs (.inr nm)=some (.ref w)) (hw:h[w]?=some z.cell) (hp:IsL h p (ps.map AV.int)) (hpd:p≠.ref d) (hpe:p≠.ref e) (hb:ps.all okG=true) (hl:ps.length<=1000) (hz:z.gone=false) (h3:ps.sum<=z.grams) (hes:es.length<100000) (hkl:ks.length=xs.length) (hk:ks.length<90000)
  (hf:∀ j<ps.length,dval ks xs (.inr (wdN nm j))=none) (hd:∀ i<ps.length, ∀ j<ps.length,wdN nm i=wdN nm j->i=j)
  (hnl:∀ j<ps.length,(Str.empty++nm:Str).length<=sizeLine/\(Str.empty++nm++("/" : Str):Str).length<=sizeLine/\(wdN nm j).length<=sizeLine) :
  m_q0y [.ref a, .str nm,p] h=.ok .non ((cutH (h.set w ({z with gone:=true}:Wh).cell) d ks xs nm ps.length).set e (.lst (es++[.tup [.int day, .str "cut", .str nm, .tup (ps.map AV.int), .int (z.grams - ps.sum)]]))):=by
 have e0:=q.qc;have q1:=q.put hw (by decide) ({z with gone:=true}:Wh).cell
 have hw0:=hw;simp only [Wh.cell] at hw;have e1:=vj (kd:="wheel") q.qc q.qd kw hw rfl;have e2:=qd9 hp;obtain ⟨y,e3⟩:=qj1 (x0:=some (.ref a)) (x1:=some (.str nm)) (x3:=some (.ref w)) hp hb;have e4:=qj hw (by rw [hz];rfl)
 have e5:=qgu hp;have e6:intsOf (ps.map AV.int)=some ps:=by have:=ints_map (λx:Int=>x) ps;simpa using this
 have e7:=qmn hb hl;have e8:=qdo (h:=h) h3;have e9:=qj8 (h:=h.set w ({z with gone:=true}:Wh).cell) hl hnl
 obtain ⟨y2,e10⟩:=qk0 (nm:=nm) (n:=ps.length) (x1:=some (.str nm)) (x2:=some p) (x3:=some (.ref w)) (x4:=y) q1 hkl hl hk hf hd;have q2:=qfs (nm:=nm) q1 ps.length;have hne:d≠w:=v8 q.qd hw0 (by simp [Wh.cell])
 have hp2:IsL (cutH (h.set w ({z with gone:=true}:Wh).cell) d ks xs nm ps.length) p (ps.map AV.int):=by
  rcases hp with rfl | ⟨k,rfl,ek⟩
  ·exact .inl rfl
  ·refine .inr ⟨k,rfl,?_⟩
   have h1:d≠k:=λz=>hpd (by rw [z])
   have h2:w≠k:=v8 hw0 ek (by simp [Wh.cell])
   unfold cutH;rw [x6 h1];exact yq (by rw [x6 h2];exact ek)
 have hwc:(cutH (h.set w ({z with gone:=true}:Wh).cell) d ks xs nm ps.length)[w]?=some ({z with gone:=true}:Wh).cell:=by
  unfold cutH;rw [x6 hne];exact yq (zr hw0)
 have f0:=q1.qc;have f1:=q2.qc;have f2:=q2.qe;have f3:=qgu hp2;have f4:=qnf hp2;have f6:zk (cutH (h.set w ({z with gone:=true}:Wh).cell) d ks xs nm ps.length) (.ref e)=some es:=by simp [f2]
 have hee:es.length<sizeLine:=Nat.lt_of_lt_of_le hes (by decide)
 have hll:ps.length<=sizeLine:=Nat.le_trans hl (by decide)
 have e5':IsL (h.set w ({z with gone:=true}:Wh).cell) p (ps.map AV.int):=by
  rcases hp with rfl | ⟨k,rfl,ek⟩
  ·exact .inl rfl
  ·exact .inr ⟨k,rfl,by rw [x6 (v8 hw0 ek (by simp [Wh.cell]))];exact ek⟩
 have f5:=qlz e5';generalize hG:cutH (h.set w ({z with gone:=true}:Wh).cell) d ks xs nm ps.length=G at *
 generalize hG2:h.set w ({z with gone:=true}:Wh).cell=G2 at *
 have hset:h.set w (.ins 6 (xh z.nm z.sort z.shelf z.grams z.place z.td z.wd z.rd true))=G2:=hG2;simp only [yh,xh,Wh.cell] at e0 hw f0 f1 hwc;simp only [xh] at hset;simp [m_q0y,b_q0y,e0,e1,hset, -fLen, -ue, -zk, -vx, -watch,e2,e3,e4,e5,e6,e7,e8,e9,e10,lsq_l,qhd,hw,f0,f1,f2,f3,f4,f5,f6,hwc,flG,hee,hll,List.lookup]
end
def yf (kd nm:Str) (m:Bool):Cell:=.ins 4 [(0, .str kd),(1, .str nm),(5, .bl m)]
section
variable {h:AH} {a d l e:Nat} {day:Int} {ks:List Key} {xs ws es:List AV} {nm bn cn:Str} {w b c:Nat} {z:Wh} {mb mc:Bool}
theorem qna (q:Cel h a d l e day ks xs ws es) (kw:dval ks xs (.inr nm)=some (.ref w)) (hw:h[w]?=some z.cell) (hz:z.gone=false) (hes:es.length<100000) :
  m_q0s [.ref a, .str nm] h=.ok .non ((h.set w ({z with td:=day}:Wh).cell).set e (.lst (es++[.tup [.int day, .str "turn", .str nm]]))):=by
 have e0:=q.qc;have q1:=λc=>q.put hw (by decide) c
 simp only [Wh.cell] at hw;have e1:=vj (kd:="wheel") q.qc q.qd kw hw rfl;have e3:=qj hw (by rw [hz];rfl)
 have f1:=λc=>(q1 c).qc
 have f2:=λc=>(q1 c).qe
 have hee:es.length<sizeLine:=Nat.lt_of_lt_of_le hes (by decide)
 simp only [yh,xh] at e0 hw f1;simp [m_q0s,b_q0s,e0,e1,e3,hw,f1,f2,List.lookup,flG,hee,Wh.cell,xh]
section
variable {sn:Str} {m:Bool} {tg wg st:AV} {rs:List Str}
theorem qnw (q:Cel h a d l e day ks xs ws es) (kw:dval ks xs (.inr nm)=some (.ref w)) (hw:h[w]?=some z.cell) (kb:dval ks xs (.inr bn)=some (.ref b)) (hb:h[b]?=some (yf "brine" bn mb)) (kc:dval ks xs (.inr cn)=some (.ref c)) (hc:h[c]?=some (yf "cloth" cn mc)) (hz:z.gone=false)
  (hs:h[z.sort]?=some (.ins 3 (vw sn false tg wg rs st))) (hm:(mb || mc)=true) (hbl:bn.length<=1000) (hcl:cn.length<=1000) :
  m_q03 [.ref a, .str nm, .str bn, .str cn] h=.ex 27 h:=by
 have e0:=q.qc;simp only [Wh.cell] at hw;have e1:=vj (kd:="wheel") q.qc q.qd kw hw rfl;have e2:=vj (kd:="brine") q.qc q.qd kb hb rfl;have e3:=vj (kd:="cloth") q.qc q.qd kc hc rfl;have e4:=qj hw (by rw [hz];rfl)
 have z2:(2:Nat)<=sizeLine:=by decide
 simp only [yh,xh,yf,vw] at e0 hw hb hc hs;have hm':(mb=true\/mc=true):=by simpa using hm
 simp [m_q03,b_q03,e0,e1,e2,e3,e4,hw,hb,hc,hs,List.lookup,lcL,xx,bEnv,z2,hm',hbl,hcl]
theorem qho (q:Cel h a d l e day ks xs ws es) (kw:dval ks xs (.inr nm)=some (.ref w)) (hw:h[w]?=some z.cell) (kb:dval ks xs (.inr bn)=some (.ref b)) (hb:h[b]?=some (yf "brine" bn false)) (kc:dval ks xs (.inr cn)=some (.ref c)) (hc:h[c]?=some (yf "cloth" cn false)) (hz:z.gone=false)
  (hs:h[z.sort]?=some (.ins 3 (vw sn false tg wg rs st))) (hes:es.length<100000) :
  m_q03 [.ref a, .str nm, .str bn, .str cn] h=.ok .non ((h.set w ({z with wd:=day}:Wh).cell).set e (.lst (es++[.tup [.int day, .str "wash", .str nm, .str bn, .str cn]]))):=by
 have e0:=q.qc;have q1:=λc=>q.put hw (by decide) c
 have f1:=λc=>(q1 c).qc
 have f2:=λc=>(q1 c).qe
 simp only [Wh.cell] at hw;have e1:=vj (kd:="wheel") q.qc q.qd kw hw rfl;have e2:=vj (kd:="brine") q.qc q.qd kb hb rfl;have e3:=vj (kd:="cloth") q.qc q.qd kc hc rfl;have e4:=qj hw (by rw [hz];rfl)
 have z2:(2:Nat)<=sizeLine:=by decide
 have hee:es.length<sizeLine:=Nat.lt_of_lt_of_le hes (by decide)
 simp only [yh,xh,yf,vw] at e0 hw hb hc hs f1;simp [m_q03,b_q03,e0,e1,e2,e3,e4,hw,hb,hc,hs,List.lookup,lcL,xx,bEnv,z2,f1,f2,hee,flG,Wh.cell,xh]
theorem qid (q:Cel h a d l e day ks xs ws es) (kw:dval ks xs (.inr nm)=some (.ref w)) (hw:h[w]?=some z.cell) (kb:dval ks xs (.inr bn)=some (.ref b)) (hb:h[b]?=some (yf "brine" bn mb)) (kc:dval ks xs (.inr cn)=some (.ref c)) (hc:h[c]?=some (yf "cloth" cn mc)) (hz:z.gone=false)
  (hs:h[z.sort]?=some (.ins 3 (vw sn true tg wg rs st))) (hes:es.length<100000) :
  m_q03 [.ref a, .str nm, .str bn, .str cn] h=.ok .non ((((h.set b (yf "brine" bn true)).set c (yf "cloth" cn true)).set w ({z with wd:=day}:Wh).cell).set e (.lst (es++[.tup [.int day, .str "wash", .str nm, .str bn, .str cn]]))):=by
 have e0:=q.qc;have hbc:b≠c:=v8 hb hc (by simp [yf])
 have hbw:b≠w:=v8 hb hw (by simp [yf,Wh.cell])
 have hcw:c≠w:=v8 hc hw (by simp [yf,Wh.cell])
 have hbs:b≠z.sort:=v8 hb hs (by simp [yf])
 have hcs:c≠z.sort:=v8 hc hs (by simp [yf])
 have q1:=q.put hb (by decide) (yf "brine" bn true)
 have hc1:(h.set b (yf "brine" bn true))[c]?=some (yf "cloth" cn mc):=by rw [x6 hbc];exact hc
 have q2:=q1.put hc1 (by decide) (yf "cloth" cn true)
 have hw2:((h.set b (yf "brine" bn true)).set c (yf "cloth" cn true))[w]?=some z.cell:=by rw [x6 hcw,x6 hbw];exact hw
 have q3:=q2.put hw2 (by decide) ({z with wd:=day}:Wh).cell
 have f1:=q1.qc;have f2:=q2.qc;have f3:=q3.qc;have f4:=q3.qe;simp only [Wh.cell] at hw hw2;have e1:=vj (kd:="wheel") q.qc q.qd kw hw rfl;have e2:=vj (kd:="brine") q.qc q.qd kb hb rfl;have e3:=vj (kd:="cloth") q.qc q.qd kc hc rfl;have e4:=qj hw (by rw [hz];rfl)
 have z2:(2:Nat)<=sizeLine:=by decide
 have hee:es.length<sizeLine:=Nat.lt_of_lt_of_le hes (by decide)
 simp only [yh,xh,yf,vw,Wh.cell] at e0 hw hb hc hs f1 f2 f3 f4 hw2 hc1;simp [m_q03,b_q03,e0,e1,e2,e3,e4,hw,hb,hs,List.lookup,vh,xx,flG,hc1,f2,hw2,f3,f4,hee,Wh.cell,xh,yf]
end
theorem ql6 {kd:Str} {t:Nat} {mm:Bool} (hkd:kd = "brine" \/ kd = "cloth") (q:Cel h a d l e day ks xs ws es) (kt:dval ks xs (.inr nm)=some (.ref t)) (ht:h[t]?=some (yf kd nm mm)) (hes:es.length<100000) :
  m_q0m [.ref a, .str nm] h=.ok .non ((h.set t (yf kd nm false)).set e (.lst (es++[.tup [.int day, .str "boil", .str nm]]))):=by
 have e0:=q.qc;have e1:=q.qd;have q1:=q.put ht (by decide) (yf kd nm false)
 have f1:=q1.qc;have f2:=q1.qe;have hee:es.length<sizeLine:=Nat.lt_of_lt_of_le hes (by decide)
 simp only [yh,yf] at e0 ht f1 f2;rcases hkd with rfl | rfl
 ·have hin:inA (.str (Str.ofString "brine")) [AV.str (Str.ofString "brine"),AV.str (Str.ofString "cloth"),AV.str (Str.ofString "shelf")]=true:=by decide +kernel
  simp [m_q0m,b_q0m,e0,e1,kt,ht,f1,f2,List.lookup,flG,hee,yf,hin]
 ·have hin:inA (.str (Str.ofString "cloth")) [AV.str (Str.ofString "brine"),AV.str (Str.ofString "cloth"),AV.str (Str.ofString "shelf")]=true:=by decide +kernel
  simp [m_q0m,b_q0m,e0,e1,kt,ht,f1,f2,List.lookup,flG,hee,yf,hin]
end
theorem qle {h:AH} {n:Nat} {xs ys:List AV} (hl:xs.length<=100000) (hxy:xs.length=ys.length) (hs:∀ i (h1:i<xs.length) (h2:i<ys.length),m_qh n [xs[i],ys[i]] h=.ok (.bl true) h):m_qh (n+1) [.tup xs, .tup ys] h=.ok (.bl true) h:=by
 have hl2:ys.length<=sizeLine:=Nat.le_trans (hxy ▸ hl) (by decide)
 have hb:rng1 (.int (ys.length:Int)) h=.ok (Z.intsFrom 0 ys.length,none) h:=dj (by omega)
 have ea:∀ i (hi:i<xs.length),atI xs (i:Int)=some xs[i]:=λi hi=>uy (List.getElem?_eq_getElem hi)
 have eb:∀ i (hi:i<ys.length),atI ys (i:Int)=some ys[i]:=λi hi=>uy (List.getElem?_eq_getElem hi)
 have hi:(Z.intsFrom 0 ys.length).length<=sizeLine:=by rw [len_from];exact hl2
 have key:lcL none (Z.intsFrom 0 ys.length) (gN 0) aYes (aC (m_qh n) (j0 (a2 fIx (aVar 1) (aVar 0)) (j0 (a2 fIx (aVar 2) (aVar 0)) aNil))) [none,some (.tup xs),some (.tup ys)] (Z.intsFrom 0 ys.length) [] h=.ok ([]++(List.range ys.length).map λ_=>AV.bl true) h:=by
  refine gh (k:=λi:Nat=>AV.int (0+(i:Int))) xx (List.range ys.length) [] λi hi=>?_
  have hi:=List.mem_range.mp hi;have hi':i<xs.length:=by omega
  refine ⟨_,rfl,?_⟩;have:=hs i hi' hi;simp [ea i hi',eb i hi,this]
 have kb:gc ((List.range ys.length).map λ_=>AV.bl true)=some ((List.range ys.length).map λ_=>true):=c3 (λ_:Nat=>true) _
 simp [m_qh,b_qh,bEnv,hl2,hb,hi,key,kb,hxy]
theorem qh3 {α:Type} {h:AH} {wt:Option Nat} {all:List AV} {g:AV->AEnv->AH->Re AEnv} {body:AS} {k:α->AV} {P:AEnv->Prop} {x:AV} {good:α->Bool} (hw:okW h all wt=true) :
  ∀ (ys:List α) (env:AEnv),P env->ys.all good=false ->
   (∀ y∈ys, ∀ env,P env->∃ e1,g (k y) env h=.ok e1 h/\(good y=true->∃ e2,body e1 h=.nx e2 h/\P e2)/\(good y=false->body e1 h=.rt x h)) ->
   vh wt all g body (ys.map k) env h=.rt x h
 | [],env,_,hb,_=>by simp at hb
 | y::ys,env,hp,hb,hs=>by
  obtain ⟨e1,q1,q2,q3⟩:=hs y (by simp) env hp
  rw [List.map_cons,vh,if_pos hw,q1];simp only [Re.to];cases hg:good y with
  | false=>rw [q3 hg]
  | true =>
   obtain ⟨e2,r1,r2⟩:=q2 hg;rw [r1];exact qh3 hw ys e2 r2 (by simpa [hg] using hb) λy hy=>hs y (List.mem_cons_of_mem _ hy)
end PM
namespace K20
open PySem L2 Z PM
theorem dk {p:Prop} [Decidable p] (h:p:=by decide +kernel):p:=h
def flT:Nat->List Nat
 | 9=>[5,6,22,7,23,9,24]
 | 10=>[25,26,27,5]
 | 0=>[0,1]
 | 1=>[0,1,2,3]
 | 2=>[0,1,4]
 | 3=>[0,1,5,6,7,8,9]
 | 4=>[0,1,5]
 | 5=>[0,1,10]
 | 6=>[0,1,11,12,10,13,14,15,16,17]
 | 7=>[0,1,17]
 | 8=>[18,19,20,21]
 | _=>[]
def wdT:Nat->Option Str
 | 21=>some "name"
 | 22=>some "taken"
 | 23=>some "unknown"
 | 24=>some "number"
 | 25=>some "gone"
 | 26=>some "room"
 | 27=>some "mouldy"
 | 28=>some "much"
 | _=>none
def sbT_q13:Nat->Option Bool
 | 21=>some false
 | 22=>some false
 | 23=>some false
 | 24=>some false
 | 25=>some false
 | 26=>some false
 | 27=>some false
 | 28=>some false
 | _=>none
def sbT_qx:Nat->Option Bool
 | 21=>some true
 | 22=>some false
 | 23=>some false
 | 24=>some false
 | 25=>some false
 | 26=>some false
 | 27=>some false
 | 28=>some false
 | _=>none
def sbT_q0k:Nat->Option Bool
 | 21=>some false
 | 22=>some true
 | 23=>some false
 | 24=>some false
 | 25=>some false
 | 26=>some false
 | 27=>some false
 | 28=>some false
 | _=>none
def sbT_qv:Nat->Option Bool
 | 21=>some false
 | 22=>some false
 | 23=>some true
 | 24=>some false
 | 25=>some false
 | 26=>some false
 | 27=>some false
 | 28=>some false
 | _=>none
def sbT_qk:Nat->Option Bool
 | 21=>some false
 | 22=>some false
 | 23=>some false
 | 24=>some true
 | 25=>some false
 | 26=>some false
 | 27=>some false
 | 28=>some false
 | _=>none
def sbT_q0z:Nat->Option Bool
 | 21=>some false
 | 22=>some false
 | 23=>some false
 | 24=>some false
 | 25=>some true
 | 26=>some false
 | 27=>some false
 | 28=>some false
 | _=>none
def sbT_qi:Nat->Option Bool
 | 21=>some false
 | 22=>some false
 | 23=>some false
 | 24=>some false
 | 25=>some false
 | 26=>some true
 | 27=>some false
 | 28=>some false
 | _=>none
def sbT_qw:Nat->Option Bool
 | 21=>some false
 | 22=>some false
 | 23=>some false
 | 24=>some false
 | 25=>some false
 | 26=>some false
 | 27=>some true
 | 28=>some false
 | _=>none
def sbT_qy:Nat->Option Bool
 | 21=>some false
 | 22=>some false
 | 23=>some false
 | 24=>some false
 | 25=>some false
 | 26=>some false
 | 27=>some false
 | 28=>some true
 | _=>none
def bx:Nat->Option Bool
 | 21=>some true
 | 22=>some true
 | 23=>some true
 | 24=>some true
 | 25=>some true
 | 26=>some true
 | 27=>some true
 | 28=>some true
 | _=>none
def b_q0x:AS:=
 (sSeq (sAsg (aLst (j0 (aTup (j0 (aK (.str "line")) (j0 (a1 (fIsX sbT_q13) (aVar 0)) aNil))) (j0 (aTup (j0 (aK (.str "name")) (j0 (a1 (fIsX sbT_qx) (aVar 0)) aNil))) (j0 (aTup (j0 (aK (.str "taken")) (j0 (a1 (fIsX sbT_q0k) (aVar 0)) aNil))) aNil)))) (gN 1))
 (sSeq (sAsg (a2 fCat (aVar 1) (aLst (j0 (aTup (j0 (aK (.str "unknown")) (j0 (a1 (fIsX sbT_qv) (aVar 0)) aNil))) (j0 (aTup (j0 (aK (.str "number")) (j0 (a1 (fIsX sbT_qk) (aVar 0)) aNil))) aNil)))) (gN 1))
 (sSeq (sAsg (a2 fCat (aVar 1) (aLst (j0 (aTup (j0 (aK (.str "gone")) (j0 (a1 (fIsX sbT_q0z) (aVar 0)) aNil))) (j0 (aTup (j0 (aK (.str "room")) (j0 (a1 (fIsX sbT_qi) (aVar 0)) aNil))) aNil)))) (gN 1))
 (sSeq (sAsg (a2 fCat (aVar 1) (aLst (j0 (aTup (j0 (aK (.str "mouldy")) (j0 (a1 (fIsX sbT_qw) (aVar 0)) aNil))) (j0 (aTup (j0 (aK (.str "much")) (j0 (a1 (fIsX sbT_qy) (aVar 0)) aNil))) aNil)))) (gN 1))
 (sSeq (sAsg (a2 fCat (aVar 1) (aLst (j0 (aTup (j0 (aK (.str "stray")) (j0 (aNotV (a1 (fIsX bx) (aVar 0))) aNil))) aNil))) (gN 1))
 (sRet (aMtS fJoin (aK (.str "")) (j0 (aLc 2 [] (iLst (aVar 1)) (gT 2 (yz (gN 0) (yz (gN 1) uu))) (aB (aVar 1)) (aVar 0)) aNil))))))))
def m_q0x:AF:=fnZ 2 b_q0x
def b_q0l:AS:=
 (sSeq (ym flG 5 (aVar 0) (aVar 1))
 (sSeq (ym flG 6 (aVar 0) (aVar 2))
 (sSeq (ym flG 22 (aVar 0) (aVar 3))
 (sSeq (ym flG 7 (aVar 0) (aVar 4))
 (sSeq (ym flG 23 (aVar 0) (aVar 5))
 (sSeq (ym flG 9 (aVar 0) (aC qkc (j0 (aVar 6) aNil)))
 (ym flG 24 (aVar 0) (aVar 7))))))))
def m_q0l:AF:=fnZ 8 b_q0l
def b_q15:AS:=
 (sRet (u9 9 m_q0l (j0 (aFld 5 (aVar 0)) (j0 (aFld 6 (aVar 0)) (j0 (aFld 22 (aVar 0)) (j0 (aFld 7 (aVar 0)) (j0 (aFld 23 (aVar 0)) (j0 (aFld 9 (aVar 0)) (j0 (aFld 24 (aVar 0)) aNil)))))))))
def m_q15:AF:=fnZ 1 b_q15
def b_q18:AS:=
 (sSeq (sAsg (aFld 11 (aVar 0)) (gN 2))
 (sRet (u9 9 m_q0l (j0 (aFld 5 (aVar 2)) (j0 (aFld 6 (aVar 2)) (j0 (a2 fSub (aVar 1) (aFld 14 (aVar 0))) (j0 (aFld 7 (aVar 2)) (j0 (a2 fSub (aVar 1) (aFld 15 (aVar 0))) (j0 (aSl fSlL (aFld 9 (aVar 2)) (u0 (aFld 13 (aVar 0))) gd) (j0 (a2 fSub (aVar 1) (aFld 16 (aVar 0))) aNil))))))))))
def m_q18:AF:=fnZ 3 b_q18
def b_q00:AS:=
 (sSeq (sIf (aOr (aNot (aB (aC (m_qh 6) (j0 (aFld 25 (aVar 0)) (j0 (a2 fIx (aVar 1) (aK (.int 0))) aNil))))) (aNot (aB (aC (m_qh 6) (j0 (aFld 5 (aVar 0)) (j0 (a2 fIx (aVar 1) (aK (.int 3))) aNil))))))
 (sRet (aK (.bl false)))
 y0)
 (sSeq (sIf (aNot (aB (aC (m_qh 6) (j0 (aFld 26 (aVar 0)) (j0 (a2 fIx (aVar 1) (aK (.int 1))) aNil)))))
 (sRet (aK (.bl false)))
 y0)
 (sSeq (sIf (aOr (aNot (aB (a1 (fIsi .list) (aFld 27 (aVar 0))))) (aB (a2 fNe (aC fLen (j0 (aFld 27 (aVar 0)) aNil)) (aC fLen (j0 (a2 fIx (aVar 1) (aK (.int 2))) aNil)))))
 (sRet (aK (.bl false)))
 y0)
 (sSeq (sFor (vy (aC fLen (j0 (a2 fIx (aVar 1) (aK (.int 2))) aNil))) (gN 2)
 (sSeq (sAsg (a2 fIx (aFld 27 (aVar 0)) (aVar 2)) (gN 3))
 (sSeq (sIf (aNot (aB (a1 (fIsO 9) (aVar 3))))
 (sRet (aK (.bl false)))
 y0)
 (sSeq (sAsg (aTup (j0 (aFld 5 (aVar 3)) (j0 (aFld 6 (aVar 3)) (j0 (aFld 22 (aVar 3)) (j0 (aFld 7 (aVar 3)) (j0 (aFld 23 (aVar 3)) (j0 (aFld 9 (aVar 3)) (j0 (aFld 24 (aVar 3)) aNil)))))))) (gN 4))
 (sIf (aNot (aB (aC (m_qh 6) (j0 (aVar 4) (j0 (a2 fIx (a2 fIx (aVar 1) (aK (.int 2))) (aVar 2)) aNil)))))
 (sRet (aK (.bl false)))
 y0)))))
 (sRet (aK (.bl true)))))))
def m_q00:AF:=fnZ 5 b_q00
def b_q01:AS:=
 (sSeq (sAsg (u9 8 m_q0f aNil) (gN 2))
 (sSeq (sFor (vy (aK (.int 3))) (gN 3)
 (sSeq (jg (jn 8 m_q0h (aVar 2) (j0 (a2 yy (aK (.str "r")) (aC x5 (j0 (aVar 3) aNil))) (j0 (aK (.int 90)) (j0 (aK (.int 7)) aNil)))))
 (sSeq (jg (jn 8 m_q02 (aVar 2) (j0 (a2 yy (aK (.str "a")) (aC x5 (j0 (aVar 3) aNil))) (j0 (a2 yy (aK (.str "r")) (aC x5 (j0 (aVar 3) aNil))) aNil))))
 (jg (jn 8 m_q02 (aVar 2) (j0 (a2 yy (aK (.str "b")) (aC x5 (j0 (aVar 3) aNil))) (j0 (a2 yy (aK (.str "r")) (aC x5 (j0 (aVar 3) aNil))) aNil)))))))
 (sSeq (sAsg (aLc 1 [1] (vy (aK (.int 3))) (gN 0) aYes (a2 bf (aTup (j0 (a2 yy (aK (.str "r")) (aC x5 (j0 (aVar 0) aNil))) aNil)) (a2 fIx (aVar 1) (a2 fAdd (aK (.int 2)) (aVar 0))))) (gN 4))
 (sSeq (jg (jn 8 m_qz (aVar 2) (j0 (aK (.str "fair")) (j0 (aK (.bl false)) (j0 (a2 fIx (aVar 1) (aK (.int 0))) (j0 (a2 fIx (aVar 1) (aK (.int 1))) (j0 (aC b6 (j0 (aVar 4) aNil)) aNil)))))))
 (sSeq (jg (jn 8 m_qz (aVar 2) (j0 (aK (.str "blue")) (j0 (aK (.bl true)) (j0 (a2 fIx (aVar 1) (aK (.int 1))) (j0 (a2 fIx (aVar 1) (aK (.int 0))) (j0 (aSl fSlL (aVar 4) gd (u0 (aK (.int 2)))) aNil)))))))
 (sSeq (jg (jn 8 m_q0g (aVar 2) (j0 (aK (.str "f")) aNil)))
 (sSeq (jg (jn 8 m_q07 (aVar 2) (j0 (aK (.str "m")) (j0 (aLst (j0 (aTup (j0 (aK (.str "f")) (j0 (aK (.int 4000)) aNil))) aNil)) aNil))))
 (sSeq (sFor (vy (aK (.int 2))) (gN 3)
 (sSeq (jg (jn 8 m_q09 (aVar 2) (j0 (a2 yy (aK (.str "p")) (aC x5 (j0 (aVar 3) aNil))) aNil)))
 (jg (jn 8 m_q0a (aVar 2) (j0 (a2 yy (aK (.str "q")) (aC x5 (j0 (aVar 3) aNil))) aNil)))))
 (sRet (aVar 2))))))))))
def m_q01:AF:=fnZ 5 b_q01
def b_q04:AS:=
 (sSeq (sAsg (aK (.bl false)) (gN 3))
 (sSeq (qhw (λc=>decide (c=27)) (qex 8 m_q03 (aVar 0) (j0 (aVar 1) (j0 (a2 fIx (aVar 2) (aK (.int 0))) (j0 (a2 fIx (aVar 2) (aK (.int 1))) aNil)))) (sAsg (aK (.bl true)) (gN 3)))
 (sRet (aVar 3))))
def m_q04:AF:=fnZ 4 b_q04
def b_q0t:AS:=
 (sSeq (sAsg (a2 fIx (aC t6 (j0 (aVar 1) aNil)) (a2 fMod (a2 fDiv (aVar 2) (aK (.int 8))) (aC mi (j0 (aVar 1) aNil)))) (gN 5))
 (sSeq (sAsg (a2 gy (aVar 1) (aVar 5)) (gN 6))
 (sSeq (sAsg (a2 (fIn false) (aVar 5) (aLst (j0 (aK (.str "w1")) (j0 (aK (.str "w3")) aNil)))) (gN 7))
 (sSeq (sAsg (aTup (j0 (a2 yy (aK (.str "p")) (aC x5 (j0 (a2 fMod (a2 fDiv (aVar 2) (aK (.int 32))) (aK (.int 2))) aNil))) (j0 (a2 yy (aK (.str "q")) (aC x5 (j0 (a2 fMod (a2 fDiv (aVar 2) (aK (.int 64))) (aK (.int 2))) aNil))) aNil))) (gN 8))
 (sSeq (sIf (aAnd (aB (a2 fEq (a2 fMod (aVar 2) (aK (.int 8))) (aK (.int 0)))) (aB (a2 fIx (aVar 6) (aK (.int 5)))))
 (sSeq (jg (jn 8 m_q0s (aVar 0) (j0 (aVar 5) aNil)))
 (sAsg (aVar 3) (gr (aVar 6) (aK (.int 1)))))
 y0)
 (sSeq (sIf (aAnd (aB (a2 (fIn false) (a2 fMod (aVar 2) (aK (.int 8))) (aLst (j0 (aK (.int 1)) (j0 (aK (.int 2)) aNil))))) (aAnd (aB (a2 fIx (aVar 6) (aK (.int 5)))) (aAnd (aNot (aB (aVar 7))) (aOr (aTru (qf (aVar 4) (a2 fIx (aVar 8) (aK (.int 0))))) (aTru (qf (aVar 4) (a2 fIx (aVar 8) (aK (.int 1)))))))))
 (jg (aC m_q04 (j0 (aVar 0) (j0 (aVar 5) (j0 (aVar 8) aNil)))))
 (sIf (aAnd (aB (a2 (fIn false) (a2 fMod (aVar 2) (aK (.int 8))) (aLst (j0 (aK (.int 1)) (j0 (aK (.int 2)) aNil))))) (aB (a2 fIx (aVar 6) (aK (.int 5)))))
 (sSeq (jg (jn 8 m_q03 (aVar 0) (j0 (aVar 5) (j0 (a2 fIx (aVar 8) (aK (.int 0))) (j0 (a2 fIx (aVar 8) (aK (.int 1))) aNil)))))
 (sSeq (sAsg (aVar 3) (gr (aVar 6) (aK (.int 2))))
 (sIf (aB (aVar 7))
 (sSeq (gz (aVar 4) (a2 fIx (aVar 8) (aK (.int 0))) (aK (.bl true)))
 (gz (aVar 4) (a2 fIx (aVar 8) (aK (.int 1))) (aK (.bl true))))
 y0)))
 y0))
 (sSeq (sIf (aAnd (aB (a2 fEq (a2 fMod (aVar 2) (aK (.int 8))) (aK (.int 3)))) (aB (a2 fIx (aVar 6) (aK (.int 5)))))
 (sSeq (sAsg (aC qb (j0 (ni (a2 fEq (a2 fMod (a2 fDiv (aVar 2) (aK (.int 32))) (aK (.int 2))) (aK (.int 0))) (a2 fLt (a2 fIx (aVar 6) (aK (.int 4))) (a2 fIx (aLst (j0 (aK (.int 2)) (j0 (aK (.int 1)) aNil))) (aC qb (j0 (aVar 7) aNil))))) aNil)) (gN 9))
 (sSeq (sAsg (a2 fAdd (a2 fIx (aVar 6) (aK (.int 4))) (aVar 9)) (gr (aVar 6) (aK (.int 4))))
 (sSeq (sAsg (a2 fIx (aLst (j0 (a2 fIx (aVar 6) (aK (.int 3))) (j0 (aVar 3) aNil))) (aVar 9)) (gr (aVar 6) (aK (.int 3))))
 (jg (jn 8 m_q0n (aVar 0) (j0 (aVar 5) (j0 (a2 yy (a2 fIxS (aK (.str "ab")) (a2 fMod (a2 fDiv (aVar 2) (aK (.int 64))) (aK (.int 2)))) (aC x5 (j0 (a2 fIx (aVar 6) (aK (.int 4))) aNil))) aNil)))))))
 y0)
 (sSeq (sIf (aB (a2 fEq (a2 fMod (aVar 2) (aK (.int 8))) (aK (.int 4))))
 (sSeq (jg (jn 8 m_q0m (aVar 0) (j0 (a2 fIx (aVar 8) (a2 fMod (a2 fDiv (aVar 2) (aK (.int 128))) (aK (.int 2)))) aNil)))
 (gz (aVar 4) (a2 fIx (aVar 8) (a2 fMod (a2 fDiv (aVar 2) (aK (.int 128))) (aK (.int 2)))) (aK (.bl false))))
 y0)
 (sIf (aAnd (aB (a2 fEq (a2 fMod (aVar 2) (aK (.int 8))) (aK (.int 7)))) (aAnd (aB (a2 fEq (a2 fMod (a2 fDiv (aVar 2) (aK (.int 32))) (aK (.int 4))) (aK (.int 1)))) (aB (a2 fIx (aVar 6) (aK (.int 5))))))
 (sSeq (jg (jn 8 m_q0y (aVar 0) (j0 (aVar 5) (j0 (aLst (j0 (aK (.int 1)) (j0 (aK (.int 2)) aNil))) aNil))))
 (sAsg (aK (.bl false)) (gr (aVar 6) (aK (.int 5)))))
 y0)))))))))
def m_q0t:AF:=fnZ 10 b_q0t
def b_q0e:AS:=
 (sSeq (ym flG 25 (aVar 0) (aVar 1))
 (sSeq (ym flG 26 (aVar 0) (aLcC 2 [] (iLst (aVar 2)) (gT 2 (yz (gN 0) (yz (gN 1) uu))) aYes (aTup (j0 (aC b6 (j0 (aVar 0) aNil)) (j0 (aVar 1) aNil)))))
 (sSeq (ym flG 27 (aVar 0) (aLcC 1 [] (iLst (aVar 3)) (gN 0) aYes (aC m_q15 (j0 (aVar 0) aNil))))
 (ym flG 5 (aVar 0) (aVar 4)))))
def m_q0e:AF:=fnZ 5 b_q0e
def b_q05:AS:=
 (sSeq (sAsg (aLcX 1 [0] (iLst (aVar 1)) (gN 0) aYes (jn 8 m_qa (aVar 1) (j0 (aVar 0) (j0 (aK (.str "wheel")) aNil)))) (gN 6))
 (sSeq (sAsg (aLst (j0 (jn 8 m_qa (aVar 0) (j0 (aVar 4) (j0 (aK (.str "brine")) aNil))) (j0 (jn 8 m_qa (aVar 0) (j0 (aVar 5) (j0 (aK (.str "cloth")) aNil))) aNil))) (gN 7))
 (sSeq (sFor (iLst (aVar 6)) (gN 8)
 (jg (aC m_qr (j0 (aVar 8) aNil))))
 (sSeq (sAsg (aLcX 1 [0] (iLst (aVar 6)) (gN 0) aYes (aC m_q18 (j0 (aVar 0) (j0 (aFld 18 (aVar 1)) aNil)))) (gN 9))
 (sRet (u9 10 m_q0e (j0 (aVar 2) (j0 (aVar 3) (j0 (aVar 9) (j0 (aC fAny (j0 (aLc 1 [] (iLst (aVar 7)) (gN 0) aYes (aFld 5 (aVar 0))) aNil)) aNil))))))))))
def m_q05:AF:=fnZ 10 b_q05
def b_qj:AS:=
 (sSeq (sAsg (aK .non) (gN 5))
 (sSeq (qif 5 6 5 wdT (qex 8 m_q05 (aVar 0) (j0 (aC b6 (j0 (aVar 1) aNil)) (j0 (aVar 2) (j0 (aVar 3) (j0 (a2 fIx (aVar 4) (aK (.int 0))) (j0 (a2 fIx (aVar 4) (aK (.int 1))) aNil)))))))
 (sRet (aVar 5))))
def m_qj:AF:=fnZ 7 b_qj
def b_q0u:AS:=
 (sSeq (sAsg (ky aNil) (gN 4))
 (sSeq (sFor (iLst (aVar 0)) (gN 5)
 (sSeq (sAsg (a2 gy (aVar 1) (aVar 5)) (gN 6))
 (sSeq (sPar 7 8 (j0 (a2 fIx (aVar 2) (aK (.int 0))) (j0 (a2 fIx (aVar 2) (aK (.int 1))) aNil)))
 (sSeq (sIf (aB (a2 (fIn false) (aVar 5) (aLst (j0 (aK (.str "w1")) (j0 (aK (.str "w3")) aNil)))))
 (sPar 7 8 (j0 (a2 fIx (aVar 2) (aK (.int 1))) (j0 (a2 fIx (aVar 2) (aK (.int 0))) aNil)))
 y0)
 (sSeq (sAsg (aSl fSlL (aVar 2) (u0 (a2 fAdd (aK (.int 2)) (a2 fIx (aVar 6) (aK (.int 4))))) (u0 (a2 fSub (aK (.int 5)) (aC qb (j0 (a2 (fIn false) (aVar 5) (aLst (j0 (aK (.str "w1")) (j0 (aK (.str "w3")) aNil)))) aNil))))) (gN 9))
 (jg (aMtL zf (aVar 4) (j0 (aTup (j0 (a2 (fIn false) (aVar 5) (aLst (j0 (aK (.str "w1")) (j0 (aK (.str "w3")) aNil)))) (j0 (aVar 7) (j0 (a2 fSub (aVar 3) (a2 fIx (aVar 6) (aK (.int 1)))) (j0 (aVar 8) (j0 (a2 fSub (aVar 3) (a2 fIx (aVar 6) (aK (.int 2)))) (j0 (aVar 9) (j0 (a2 fSub (aVar 3) (a2 fIx (aVar 6) (aK (.int 3)))) aNil)))))))) aNil))))))))
 (sRet (aFrz (aVar 4)))))
def m_q0u:AF:=dn (fnZ 10 b_q0u)
def bz:AS:=
 (sSeq (sAsg (aLc 1 [0] (vy (aK (.int 5))) (gN 0) aYes (aC m_q11 (j0 (aC m_q0r (j0 (aVar 1) (j0 (aVar 0) aNil))) aNil))) (gN 1))
 (sSeq (sAsg (aC m_q01 (j0 (aVar 0) (j0 (aVar 1) aNil))) (gN 2))
 (sSeq (sAsg b8 (gN 3))
 (sSeq (sAsg b8 (gN 4))
 (sSeq (sAsg (aK (.int 0)) (gN 5))
 (sSeq (sFor (vy (aC b5 (j0 (aC fLen (j0 (aVar 0) aNil)) (j0 (aK (.int 63)) aNil)))) (gN 6)
 (sSeq (sAsg (a2 fIx (aVar 0) (aVar 6)) (gN 7))
 (sSeq (sIf (aAnd (aB (a2 fLt (aC mi (j0 (aVar 3) aNil)) (aK (.int 4)))) (aOr (aB (a2 fEq (a2 fMod (aVar 7) (aK (.int 3))) (aK (.int 0)))) (aB (a2 bj (aVar 3) du))))
 (sSeq (sAsg (a2 yy (aK (.str "w")) (aC x5 (j0 (aC mi (j0 (aVar 3) aNil)) aNil))) (gN 8))
 (sSeq (jg (jn 8 m_qt (aVar 2) (j0 (aVar 8) (j0 (aK (.str "m")) (j0 (a2 fIx (aLst (j0 (aK (.str "fair")) (j0 (aK (.str "blue")) aNil))) (a2 fMod (aC mi (j0 (aVar 3) aNil)) (aK (.int 2)))) (j0 (aK (.str "a0")) (j0 (aK (.int 1000)) aNil)))))))
 (gz (aVar 3) (aVar 8) (ky (j0 (aVar 5) (j0 (aVar 5) (j0 (aVar 5) (j0 (aVar 5) (j0 (aK (.int 0)) (j0 (aK (.bl true)) aNil))))))))))
 y0)
 (sIf (aB (a2 (fIn false) (a2 fMod (aVar 7) (aK (.int 8))) (aLst (j0 (aK (.int 5)) (j0 (aK (.int 6)) aNil)))))
 (sSeq (sAsg (a2 fAdd (aK (.int 1)) (a2 fMod (a2 fDiv (aVar 7) (aK (.int 8))) (aK (.int 3)))) (gN 9))
 (sSeq (jg (jn 8 m_qb (aVar 2) (j0 (aVar 9) aNil)))
 (sAsg (a2 fAdd (aVar 5) (aVar 9)) (gN 5))))
 (sIf (aB (a2 bo (aVar 3) du))
 (jg (aC m_q0t (j0 (aVar 2) (j0 (aVar 3) (j0 (aVar 7) (j0 (aVar 5) (j0 (aVar 4) aNil)))))))
 y0)))))
 (sSeq (sAsg (aC m_q0r (j0 (aVar 0) (j0 (aK (.int 5)) aNil))) (gN 10))
 (sSeq (sAsg (a2 fCat (aSl fSlL (aC t6 (j0 (aVar 3) aNil)) (u0 (a2 fMod (aVar 10) (aK (.int 5)))) gd) (aSl fSlL (aC t6 (j0 (aVar 3) aNil)) gd (u0 (a2 fMod (aVar 10) (aK (.int 5)))))) (gN 11))
 (sSeq (sAsg (c0 (aSl fSlL (aVar 11) gd (u0 (a2 fMod (a2 fDiv (aVar 10) (aK (.int 5))) (aK (.int 5))))) (a2 fIx (aLst (j0 (aK (.int 1)) (j0 (a1 fNeg (aK (.int 1))) aNil))) (a2 fMod (a2 fDiv (aVar 10) (aK (.int 25))) (aK (.int 2))))) (gN 11))
 (sSeq (sAsg (a2 fAdd (aK (.int 1)) (a2 fMod (aC m_q0r (j0 (aVar 0) (j0 (aK (.int 6)) aNil))) (aK (.int 6)))) (gN 12))
 (sSeq (sAsg (aLst (j0 (aTup (j0 (aLc 1 [10] (vy (aVar 12)) (gN 0) aYes (a2 fMod (a2 fAdd (aVar 1) (aVar 0)) (aK (.int 10)))) (j0 (a2 fMod (aVar 10) (aK (.int 61))) aNil))) aNil)) (gN 13))
 (sSeq (sAsg (aTup (j0 (a2 yy (aK (.str "p")) (aC x5 (j0 (a2 fMod (a2 fDiv (aVar 10) (aK (.int 50))) (aK (.int 2))) aNil))) (j0 (a2 yy (aK (.str "q")) (aC x5 (j0 (a2 fMod (a2 fDiv (aVar 10) (aK (.int 100))) (aK (.int 2))) aNil))) aNil))) (gN 14))
 (sSeq (sAsg (aC m_qj (j0 (aVar 2) (j0 (aVar 11) (j0 (aVar 12) (j0 (aVar 13) (j0 (aVar 14) aNil)))))) (gN 15))
 (sSeq (sIf (aB (a2 fNe (aC m_qj (j0 (aVar 2) (j0 (a2 fCat (aSl fSlL (aVar 11) gd (u0 (aK (.int 3)))) (aLst (j0 (aK (.str "w9")) aNil))) (j0 (aVar 12) (j0 (aVar 13) (j0 (aVar 14) aNil)))))) (aK (.str "unknown"))))
 (sRet (aK (.bl false)))
 y0)
 (sSeq (sFor (iLst (aLst (j0 (aTup (j0 (a2 fIx (aVar 14) (aK (.int 0))) (j0 (a2 fIx (aVar 14) (aK (.int 0))) aNil))) (j0 (aTup (j0 (a2 fIx (aVar 14) (aK (.int 1))) (j0 (a2 fIx (aVar 14) (aK (.int 1))) aNil))) (j0 (aTup (j0 (a2 fIx (aVar 14) (aK (.int 0))) (j0 (aK (.str "q9")) aNil))) aNil))))) (gN 16)
 (sIf (aB (a2 fNe (aC m_qj (j0 (aVar 2) (j0 (aVar 11) (j0 (aVar 12) (j0 (aVar 13) (j0 (aVar 16) aNil)))))) (aK (.str "unknown"))))
 (sRet (aK (.bl false)))
 y0))
 (sSeq (sFor (iLst (aVar 11)) (gN 8)
 (sIf (aNot (aB (a2 fIx (a2 gy (aVar 3) (aVar 8)) (aK (.int 5)))))
 (sRet (a2 fEq (aVar 15) (aK (.str "gone"))))
 y0))
 (sSeq (sIf (aNot (aB (a1 (fIsO 10) (aVar 15))))
 (sRet (aK (.bl false)))
 y0)
 (sSeq (sAsg (aOrV (qg (aVar 4) (a2 fIx (aVar 14) (aK (.int 0))) (aK (.bl false))) (qg (aVar 4) (a2 fIx (aVar 14) (aK (.int 1))) (aK (.bl false)))) (gN 17))
 (sRet (aC m_q00 (j0 (aVar 15) (j0 (aTup (j0 (aVar 12) (j0 (aVar 13) (j0 (aC m_q0u (j0 (aVar 11) (j0 (aVar 3) (j0 (aVar 1) (j0 (aVar 5) aNil))))) (j0 (aVar 17) aNil))))) aNil))))))))))))))))))))))
def m_law:AF:=fnZ 18 bz
theorem word_true:∀ c x,wdT c=some x->∃ h,m_q0x [.xc c] []=.ok (.str x) h:=by
 intro c x h;unfold wdT at h;split at h <;> first | (cases h;exact ⟨[],rfl⟩) | cases h
def wN (k:Nat):Str:=("w" : Str)++Str.ofString (Int.repr (k:Int))
def rN (k:Nat):Str:=("r" : Str)++Str.ofString (Int.repr (k:Int))
def sN (b:Bool) (k:Nat):Str:=(if b then ("b" : Str) else ("a" : Str))++Str.ofString (Int.repr (k:Int))
def pN (k:Nat):Str:=("p" : Str)++Str.ofString (Int.repr (k:Int))
def qN (k:Nat):Str:=("q" : Str)++Str.ofString (Int.repr (k:Int))
def odd (w:Nat):Bool:=decide (w % 2=1)
def up {α:Type} (f:Nat->α) (p:Nat) (v:α):Nat->α:=λq=>if q=p then v else f q
@[simp] theorem zg {α:Type} {f:Nat->α} {c:Nat} {v:α}:up f c v c=v:=by simp [up]
theorem u5 {α:Type} {f:Nat->α} {c d:Nat} {v:α} (h:d≠c):up f c v d=f d:=by simp [up,h]
theorem at0 (x:AV) (r:List AV):atI (x::r) 0=some x:=uy (j:=0) rfl
theorem at1 (x y:AV) (r:List AV):atI (x::y::r) 1=some y:=uy (j:=1) rfl
theorem at2 (x y z:AV) (r:List AV):atI (x::y::z::r) 2=some z:=uy (j:=2) rfl
theorem at3 (x y z u:AV) (r:List AV):atI (x::y::z::u::r) 3=some u:=uy (j:=3) rfl
theorem at4 (x y z u v:AV) (r:List AV):atI (x::y::z::u::v::r) 4=some v:=uy (j:=4) rfl
theorem at5 (x y z u v w:AV) (r:List AV):atI (x::y::z::u::v::w::r) 5=some w:=uy (j:=5) rfl
def gp (z:Int×Int):AV:=.tup [.int z.1, .int z.2]
def gapF (c:Int):Int×Int:=(1+c % 60,1+c % 60+c / 60 % (61 - (1+c % 60)))
theorem qm3 (c:Int):k8 (gapF c).1 (gapF c).2:=by
 have h1:=Int.emod_nonneg c (show (60:Int)≠0 by decide)
 have h2:=Int.emod_lt_of_pos c (show (0:Int)<60 by decide)
 have h3:=Int.emod_nonneg (c / 60) (show 61 - (1+c % 60)≠0 by omega)
 have h4:=Int.emod_lt_of_pos (c / 60) (show 0<61 - (1+c % 60) by omega)
 exact ⟨by show 1<=1+c % 60;omega,by show 1+c % 60<=1+c % 60+c / 60 % (61 - (1+c % 60));omega,by show 1+c % 60+c / 60 % (61 - (1+c % 60))<=60;omega⟩
theorem gap_eq (c:Int) (h:AH):m_q11 [.int c] h=.ok (gp (gapF c)) h:=by
 have h2:=Int.emod_lt_of_pos c (show (0:Int)<60 by decide)
 have h3:0<61 - (1+c % 60):=by omega
 have h4:1+c % 60<61:=by omega
 simp [m_q11,b_q11,gp,gapF,h4]
structure WS where
 pl:Nat
 pb:Bool
 td:Int
 wd:Int
 rd:Int
 gone:Bool
structure St where
 day:Int
 n:Nat
 ks:List Key
 xs:List AV
 es:List AV
 mp:Nat->Bool
 mq:Nat->Bool
 dk:List Key
 dx:List AV
 aw:Nat->Nat
 al:Nat->Nat
 bd:Nat->Int
 W:Nat->WS
 tl:AH
def shA (b:Bool) (k:Nat):Nat:=5+3 * k+(if b then 1 else 0)
def yt (k:Nat) (w:WS):Wh:=⟨wN k,13+k % 2,shA w.pb w.pl,1000,(w.pl:Int),w.td,w.wd,w.rd,w.gone⟩
def yi (b:Int) (v:WS):List AV:=[.int b, .int v.td, .int v.wd, .int v.rd, .int (v.pl:Int), .bl (!v.gone)]
def ka (S:St):List AV:=(List.range S.n).map λk=>AV.ref (S.aw k+23)
def ua (S:St):List AV:=(List.range S.n).map λk=>AV.ref (S.al k+23)
def lks (n:Nat):List Key:=(List.range n).map λk=>(.inr (wN k):Key)
def zh (G:Nat->Int×Int):List (Nat×AV):=vw "fair" false (gp (G 0)) (gp (G 1)) [rN 0,rN 1,rN 2] (.lst [gp (G 2),gp (G 3),gp (G 4)])
def kh (G:Nat->Int×Int):List (Nat×AV):=vw "blue" true (gp (G 1)) (gp (G 0)) [rN 0,rN 1] (.lst [gp (G 2),gp (G 3)])
def HH (G:Nat->Int×Int) (S:St):AH:=yh S.day 1 2 3::.dk S.ks S.xs::.lst (ka S)::.lst S.es ::
 vm (rN 0) 90 7::xp (sN false 0) 4::xp (sN true 0) 4::vm (rN 1) 90 7::xp (sN false 1) 7::xp (sN true 1) 7::vm (rN 2) 90 7::xp (sN false 2) 10::xp (sN true 2) 10 ::
 .ins 3 (zh G)::.ins 3 (kh G)::qi6 "f" :: o6 "m" (4000 - 1000 * (S.n:Int)) ::
 yf "brine" (pN 0) (S.mp 0)::yf "cloth" (qN 0) (S.mq 0)::yf "brine" (pN 1) (S.mp 1)::yf "cloth" (qN 1) (S.mq 1)::.dk (lks S.n) (ua S)::.dk S.dk S.dx::S.tl
def KS:List Key:=[.inr (rN 0), .inr (sN false 0), .inr (sN true 0), .inr (rN 1), .inr (sN false 1), .inr (sN true 1), .inr (rN 2), .inr (sN false 2), .inr (sN true 2), .inr "fair", .inr "blue", .inr "f", .inr "m", .inr (pN 0), .inr (qN 0), .inr (pN 1), .inr (qN 1)]
def XS:List AV:=[.ref 4, .ref 5, .ref 6, .ref 7, .ref 8, .ref 9, .ref 10, .ref 11, .ref 12, .ref 13, .ref 14, .ref 15, .ref 16, .ref 17, .ref 18, .ref 19, .ref 20]
def E1:List AV:=[.tup [.int 0, .str "batch", .str "m", .tup [.tup [.str "f", .int 4000]]]]
def S0:St:=⟨0,0,KS,XS,E1,λ_=>false,λ_=>false,[],[],λ_=>0,λ_=>0,λ_=>0,λ_=>⟨0,false,0,0,0,false⟩,[]⟩
def wb:AH:=[vm (rN 0) 90 7,xp (sN false 0) 4,xp (sN true 0) 4,vm (rN 1) 90 7,xp (sN false 1) 7,xp (sN true 1) 7,vm (rN 2) 90 7,xp (sN false 2) 10,xp (sN true 2) 10]
def HA:AH:=[yh 0 1 2 3, .dk (KS.take 9) (XS.take 9), .lst [], .lst []]++wb
def HB (a:List (Nat×AV)):AH:=[yh 0 1 2 3, .dk (KS.take 10) (XS.take 10), .lst [], .lst []]++wb++[.ins 3 a]
def HC (a b:List (Nat×AV)):AH:=[yh 0 1 2 3, .dk (KS.take 11) (XS.take 11), .lst [], .lst []]++wb++[.ins 3 a, .ins 3 b]
def HD (a b:List (Nat×AV)):AH:=[yh 0 1 2 3, .dk KS XS, .lst [], .lst E1]++wb++[.ins 3 a, .ins 3 b,qi6 "f",o6 "m" 4000,yf "brine" (pN 0) false,yf "cloth" (qN 0) false,yf "brine" (pN 1) false,yf "cloth" (qN 1) false]
def rt (G:Nat->Int×Int) (k:Nat):Str×Int×Int:=(rN k,G (2+k))
def GL (G:Nat->Int×Int):List AV:=[gp (G 0),gp (G 1),gp (G 2),gp (G 3),gp (G 4)]
def furT:AS:=(sSeq (jg (jn 8 m_q0g (aVar 2) (j0 (aK (.str "f")) aNil)))
 (sSeq (jg (jn 8 m_q07 (aVar 2) (j0 (aK (.str "m")) (j0 (aLst (j0 (aTup (j0 (aK (.str "f")) (j0 (aK (.int 4000)) aNil))) aNil)) aNil))))
 (sSeq (sFor (vy (aK (.int 2))) (gN 3)
 (sSeq (jg (jn 8 m_q09 (aVar 2) (j0 (a2 yy (aK (.str "p")) (aC x5 (j0 (aVar 3) aNil))) aNil)))
 (jg (jn 8 m_q0a (aVar 2) (j0 (a2 yy (aK (.str "q")) (aC x5 (j0 (aVar 3) aNil))) aNil)))))
 (sRet (aVar 2)))))
def furP:AS:=(sSeq (sAsg (u9 8 m_q0f aNil) (gN 2))
 (sFor (vy (aK (.int 3))) (gN 3)
 (sSeq (jg (jn 8 m_q0h (aVar 2) (j0 (a2 yy (aK (.str "r")) (aC x5 (j0 (aVar 3) aNil))) (j0 (aK (.int 90)) (j0 (aK (.int 7)) aNil)))))
 (sSeq (jg (jn 8 m_q02 (aVar 2) (j0 (a2 yy (aK (.str "a")) (aC x5 (j0 (aVar 3) aNil))) (j0 (a2 yy (aK (.str "r")) (aC x5 (j0 (aVar 3) aNil))) aNil))))
 (jg (jn 8 m_q02 (aVar 2) (j0 (a2 yy (aK (.str "b")) (aC x5 (j0 (aVar 3) aNil))) (j0 (a2 yy (aK (.str "r")) (aC x5 (j0 (aVar 3) aNil))) aNil))))))))
section
variable {x0 x1:AV} {a b:List (Nat×AV)}
theorem qnx {x4:Option AV}:furT [some x0,some x1,some (.ref 0),some (.int 2),x4] (HC a b)=.rt (.ref 0) (HD a b):=by kernel_rfl
theorem qnu {x4:Option AV}:furP [some x0,some x1,none,none,x4] []=.nx [some x0,some x1,some (.ref 0),some (.int 2),x4] HA:=by kernel_rfl
end
section
variable {G:Nat->Int×Int} {x0:AV}
theorem qlu (hG:∀ k<5,k8 (G k).1 (G k).2) {x2 x3:Option AV} {h:AH}:(aLc 1 [1] (vy (aK (.int 3))) (gN 0) aYes (a2 bf (aTup (j0 (a2 yy (aK (.str "r")) (aC x5 (j0 (aVar 0) aNil))) aNil)) (a2 fIx (aVar 1) (a2 fAdd (aK (.int 2)) (aVar 0))))) [some x0,some (.lst (GL G)),x2,x3,none] h
  = .ok (.lst [rt3 (rt G 0),rt3 (rt G 1),rt3 (rt G 2)]) h:=by
 unfold GL gp rt;generalize G 0=g0;generalize G 1=g1;show _=Re.ok (AV.lst [rt3 (rN 0,G 2),rt3 (rN 1,G 3),rt3 (rN 2,G 4)]) h;generalize G 2=g2;generalize G 3=g3;generalize G 4=g4;rfl
theorem qox (hG:∀ k<5,k8 (G k).1 (G k).2):m_qz [.ref 0, .str "fair", .bl false,gp (G 0),gp (G 1), .lst [rt3 (rt G 0),rt3 (rt G 1),rt3 (rt G 2)]] HA=.ok .non (HB (zh G)):=by
 have q:Cel HA 0 1 2 3 0 (KS.take 9) (XS.take 9) [] []:=⟨rfl,rfl,rfl,rfl,by decide⟩
 have e:=qhe (nm:="fair") (m:=false) (t1:=(G 0).1) (t2:=(G 0).2) (w1:=(G 1).1) (w2:=(G 1).2) (p:=.lst [rt3 (rt G 0),rt3 (rt G 1),rt3 (rt G 2)]) (ro:=[rt G 0,rt G 1,rt G 2]) q (by decide +kernel) (by kernel_rfl) (.inl rfl) (by simp) (by
  intro z hz;simp only [List.mem_cons,List.not_mem_nil,or_false] at hz;rcases hz with rfl | rfl | rfl
  ·exact ⟨4,90,7,by kernel_rfl,rfl⟩
  ·exact ⟨7,90,7,by kernel_rfl,rfl⟩
  ·exact ⟨10,90,7,by kernel_rfl,rfl⟩) (by
  intro z hz;simp only [List.mem_cons,List.not_mem_nil,or_false] at hz;rcases hz with rfl | rfl | rfl
  ·exact hG 2 (by decide)
  ·exact hG 3 (by decide)
  ·exact hG 4 (by decide)) (hG 0 (by decide)) (hG 1 (by decide)) (show ([rN 0,rN 1,rN 2]:List Str).Nodup by decide +kernel) (by decide) rfl
 exact e
theorem qoc (hG:∀ k<5,k8 (G k).1 (G k).2):m_qz [.ref 0, .str "blue", .bl true,gp (G 1),gp (G 0), .lst [rt3 (rt G 0),rt3 (rt G 1)]] (HB (zh G))=.ok .non (HC (zh G) (kh G)):=by
 have q:Cel (HB (zh G)) 0 1 2 3 0 (KS.take 10) (XS.take 10) [] []:=⟨rfl,rfl,rfl,rfl,by decide⟩
 have e:=qhe (nm:="blue") (m:=true) (t1:=(G 1).1) (t2:=(G 1).2) (w1:=(G 0).1) (w2:=(G 0).2) (p:=.lst [rt3 (rt G 0),rt3 (rt G 1)]) (ro:=[rt G 0,rt G 1]) q (by decide +kernel) (by kernel_rfl) (.inl rfl) (by simp) (by
  intro z hz;simp only [List.mem_cons,List.not_mem_nil,or_false] at hz;rcases hz with rfl | rfl
  ·exact ⟨4,90,7,by kernel_rfl,rfl⟩
  ·exact ⟨7,90,7,by kernel_rfl,rfl⟩) (by
  intro z hz;simp only [List.mem_cons,List.not_mem_nil,or_false] at hz;rcases hz with rfl | rfl
  ·exact hG 2 (by decide)
  ·exact hG 3 (by decide)) (hG 1 (by decide)) (hG 0 (by decide)) (show ([rN 0,rN 1]:List Str).Nodup by decide +kernel) (by decide) rfl
 exact e
theorem qj6 (hG:∀ k<5,k8 (G k).1 (G k).2):m_q01 [x0, .lst (GL G)] []=.ok (.ref 0) (HD (zh G) (kh G)):=by
 have hb:b_q01 [some x0,some (.lst (GL G)),none,none,none] []=.rt (.ref 0) (HD (zh G) (kh G)):=by
  unfold b_q01;have f0:=qnu (x0:=x0) (x1:=.lst (GL G)) (x4:=none);unfold furP at f0;refine (seq_assoc f0).trans ?_;refine (yr (env':=[some x0,some (.lst (GL G)),some (.ref 0),some (.int 2),some (.lst [rt3 (rt G 0),rt3 (rt G 1),rt3 (rt G 2)])]) (h':=HA) (ui (qlu hG))).trans ?_;refine (yr (env':=[some x0,some (.lst (GL G)),some (.ref 0),some (.int 2),some (.lst [rt3 (rt G 0),rt3 (rt G 1),rt3 (rt G 2)])]) (h':=HB (zh G)) ?_).trans ?_
  ·exact mj (p0 (x:=.ref 0) (vs:=[.str "fair", .bl false,gp (G 0),gp (G 1), .lst [rt3 (rt G 0),rt3 (rt G 1),rt3 (rt G 2)]]) rfl (fs:=[(18, .int 0),(19, .ref 1),(20, .ref 2),(21, .ref 3)]) rfl rfl (qox hG))
  refine (yr (env':=[some x0,some (.lst (GL G)),some (.ref 0),some (.int 2),some (.lst [rt3 (rt G 0),rt3 (rt G 1),rt3 (rt G 2)])]) (h':=HC (zh G) (kh G)) ?_).trans ?_
  ·exact mj (p0 (x:=.ref 0) (vs:=[.str "blue", .bl true,gp (G 1),gp (G 0), .lst [rt3 (rt G 0),rt3 (rt G 1)]]) rfl (fs:=[(18, .int 0),(19, .ref 1),(20, .ref 2),(21, .ref 3)]) rfl rfl (qoc hG))
  exact qnx
 show (b_q01 [some x0,some (.lst (GL G)),none,none,none] []).out=_;rw [hb];rfl
end
def rl (k:Nat):Nat:=if odd k then 2 else 3
def FN:List (Str×Nat):=[(sN false 0,5),(sN true 0,6),(sN false 1,8),(sN true 1,9),(sN false 2,11),(sN true 2,12),("fair",13),("blue",14),("m",16),(pN 0,17),(qN 0,18),(pN 1,19),(qN 1,20)]
def MD (ks:List Key) (xs:List AV) (x:Str) (b:Bool):Prop:=(dval ks xs (.inr x)=none/\b=false)\/dval ks xs (.inr x)=some (.bl b)
structure Inv (B:Nat) (S:St):Prop where
 n4:S.n<=4
 w:∀ k<S.n,S.tl[S.aw k]?=some (yt k (S.W k)).cell
 v:∀ k<S.n,S.tl[S.al k]?=some (.lst (yi (S.bd k) (S.W k)))
 ali:∀ j<S.n, ∀ k<S.n,S.al j=S.al k->j=k
 kl:S.ks.length=S.xs.length
 ml:S.dk.length=S.dx.length
 kb:S.ks.length<=B
 eb:S.es.length<=B
 mb:S.dk.length<=B
 kw:∀ k<S.n,dval S.ks S.xs (.inr (wN k))=some (.ref (S.aw k+23))
 kn:∀ k,S.n<=k->k<4->dval S.ks S.xs (.inr (wN k))=none
 kd:∀ k<4,(k<S.n->(S.W k).gone=false)->∀ j<2,dval S.ks S.xs (.inr (wdN (wN k) j))=none
 kf:∀ p∈FN,dval S.ks S.xs (.inr p.1)=some (.ref p.2)
 k9:dval S.ks S.xs (.inr "w9")=none/\dval S.ks S.xs (.inr "q9")=none
 pl:∀ k<S.n,(S.W k).pl<rl k
 dp:∀ b<2,MD S.dk S.dx (pN b) (S.mp b)
 dq:∀ b<2,MD S.dk S.dx (qN b) (S.mq b)
theorem qft {j k:Nat} (hj:j<4) (hk:k<4) (h:wN j=wN k):j=k:=by
 have:∀ j<4, ∀ k<4,decide (wN j=wN k)=decide (j=k):=by decide +kernel
 exact (decide_eq_decide.mp (this j hj k hk)).mp h
theorem two {b:Nat} (h:b<2):b=0\/b=1:=by omega
theorem four {w:Nat} (h:w<4):w=0\/w=1\/w=2\/w=3:=by omega
theorem set_same {h:AH} {k:Nat} {x:Cell} (e:h[k]?=some x):h.set k x=h:=by
 obtain ⟨h1,h2⟩:=List.getElem?_eq_some_iff.mp e;rw [<- h2,List.set_getElem_self]
theorem qkb {j:Key} {y:AV}:∀ {ks:List Key} {xs:List AV},ks.length=xs.length->∀ i,dval (dput ks xs j y).1 (dput ks xs j y).2 i=if j=i then some y else dval ks xs i:=by
 intro ks xs hl i;unfold dput;split
 ·rename_i h
  simp only
  induction ks generalizing xs with
  | nil=>simp at h
  | cons k ks ih =>
   cases xs with
   | nil=>simp at hl
   | cons x xs =>
    have hl':ks.length=xs.length:=by simpa using hl
    simp only [rq,dval]
    by_cases hk:k=j
    ·subst hk
     rw [if_pos rfl]
     by_cases hi:k=i
     ·rw [if_pos hi,if_pos hi]
     ·rw [if_neg hi,if_neg hi,if_neg hi]
      clear ih h
      induction ks generalizing xs with
      | nil=>cases xs <;> rfl
      | cons k2 ks ih2 =>
       cases xs with
       | nil=>simp at hl'
       | cons x2 xs =>
        simp only [rq,dval]
        by_cases h2:k2=i
        ·rw [if_pos h2,if_pos h2,if_neg (λz=>hi (by rw [<- h2,z]))]
        ·rw [if_neg h2,if_neg h2]
         exact ih2 (by simp at hl ⊢;omega) (by simpa using hl') (by simpa using hl')
    ·rw [if_neg hk]
     by_cases hi:k=i
     ·rw [if_pos hi,if_pos hi,if_neg (λz=>hk (by rw [hi,z]))]
     ·rw [if_neg hi,if_neg hi]
      exact ih hl' (by simpa [hk] using h)
 ·rename_i h
  simp only;rw [t8 hl]
  by_cases hi:j=i
  ·subst hi
   have:dval ks xs j=none:=by
    clear hl
    induction ks generalizing xs with
    | nil=>cases xs <;> rfl
    | cons k ks ih =>
     cases xs with
     | nil=>rfl
     | cons x xs =>
      simp only [dval];rw [if_neg (λz=>h (by simp [z]))]
      exact ih (λz=>h (by simp only [List.any_cons,z,Bool.or_true]))
   rw [this,if_pos rfl];simp [dval]
  ·rw [if_neg hi]
   simp [dval,hi]
theorem qk {j:Key} {y:AV} {ks:List Key} {xs:List AV} (hl:ks.length=xs.length):(dput ks xs j y).1.length=(dput ks xs j y).2.length/\(dput ks xs j y).1.length<=ks.length+1:=by
 unfold dput;split
 ·have:∀ (ks:List Key) (xs:List AV),ks.length=xs.length->(rq j y ks xs).length=ks.length:=by
   intro ks
   induction ks with
   | nil=>intro xs _;cases xs <;> rfl
   | cons k ks ih =>
    intro xs h;cases xs with
    | nil=>simp at h
    | cons x xs=>simp only [rq,List.length_cons];rw [ih xs (by simpa using h)]
  exact ⟨(this ks xs hl).symm,Nat.le_succ _⟩
 ·simp [hl]
theorem wc {ks:List Key} {xs:List AV} (hl:ks.length=xs.length) {x y:Str} {a b:Bool} (h:MD ks xs x a):MD (dput ks xs (.inr y) (.bl b)).1 (dput ks xs (.inr y) (.bl b)).2 x (if y=x then b else a):=by
 unfold MD at h ⊢;rw [qkb hl]
 by_cases e:y=x
 ·subst e;rw [if_pos rfl,if_pos rfl];exact .inr rfl
 ·rw [if_neg (λz=>e (Sum.inr.inj z)),if_neg e];exact h
section
variable {G:Nat->Int×Int} {S:St} {B k b:Nat}
theorem xq:Cel (HH G S) 0 1 2 3 S.day S.ks S.xs (ka S) S.es:=⟨rfl,rfl,rfl,rfl,by decide⟩
theorem h_w (I:Inv B S) (hk:k<S.n):(HH G S)[S.aw k+23]?=some (yt k (S.W k)).cell:=I.w k hk
theorem h_v (I:Inv B S) (hk:k<S.n):(HH G S)[S.al k+23]?=some (.lst (yi (S.bd k) (S.W k))):=I.v k hk
theorem h_p (hb:b<2):(HH G S)[17+2 * b]?=some (yf "brine" (pN b) (S.mp b)):=by rcases two hb with rfl | rfl <;> rfl
theorem h_q (hb:b<2):(HH G S)[18+2 * b]?=some (yf "cloth" (qN b) (S.mq b)):=by rcases two hb with rfl | rfl <;> rfl
theorem h_sh {c:Bool} {p:Nat} (hp:p<3):(HH G S)[shA c p]?=some (xp (sN c p) (4+3 * p)):=by
 rcases (show p=0\/p=1\/p=2 by omega) with rfl | rfl | rfl <;> cases c <;> rfl
theorem h_r {p:Nat} (hp:p<3):(HH G S)[4+3 * p]?=some (vm (rN p) 90 7):=by
 rcases (show p=0\/p=1\/p=2 by omega) with rfl | rfl | rfl <;> rfl
theorem qeu (ho:odd k=false):(HH G S)[13+k % 2]?=some (.ins 3 (zh G)):=by
 have:k % 2=0:=by unfold odd at ho;simp at ho;omega
 rw [this];rfl
theorem qix (ho:odd k=true):(HH G S)[13+k % 2]?=some (.ins 3 (kh G)):=by
 have:k % 2=1:=by unfold odd at ho;simpa using ho
 rw [this];rfl
theorem h_app {g:AH}:HH G S++g=HH G {S with tl:=S.tl++g}:=rfl
theorem s_t {i:Nat} {c:Cell}:(HH G S).set (i+23) c=HH G {S with tl:=S.tl.set i c}:=rfl
theorem s_es {es:List AV}:(HH G S).set 3 (.lst es)=HH G {S with es:=es}:=rfl
theorem s_day {d:Int}:(HH G S).set 0 (yh d 1 2 3)=HH G {S with day:=d}:=rfl
theorem s_p (hb:b<2) {m:Bool}:(HH G S).set (17+2 * b) (yf "brine" (pN b) m)=HH G {S with mp:=up S.mp b m}:=by rcases two hb with rfl | rfl <;> rfl
theorem s_q (hb:b<2) {m:Bool}:(HH G S).set (18+2 * b) (yf "cloth" (qN b) m)=HH G {S with mq:=up S.mq b m}:=by rcases two hb with rfl | rfl <;> rfl
theorem k_p (I:Inv B S) (hb:b<2):dval S.ks S.xs (.inr (pN b))=some (.ref (17+2 * b)):=by
 rcases two hb with rfl | rfl
 ·exact I.kf (pN 0,17) (by simp [FN])
 ·exact I.kf (pN 1,19) (by simp [FN])
theorem k_q (I:Inv B S) (hb:b<2):dval S.ks S.xs (.inr (qN b))=some (.ref (18+2 * b)):=by
 rcases two hb with rfl | rfl
 ·exact I.kf (qN 0,18) (by simp [FN])
 ·exact I.kf (qN 1,20) (by simp [FN])
theorem k_s (I:Inv B S) {c:Bool} {p:Nat} (hp:p<3):dval S.ks S.xs (.inr (sN c p))=some (.ref (shA c p)):=by
 rcases (show p=0\/p=1\/p=2 by omega) with rfl | rfl | rfl <;> cases c
 ·exact I.kf (sN false 0,5) (by simp [FN])
 ·exact I.kf (sN true 0,6) (by simp [FN])
 ·exact I.kf (sN false 1,8) (by simp [FN])
 ·exact I.kf (sN true 1,9) (by simp [FN])
 ·exact I.kf (sN false 2,11) (by simp [FN])
 ·exact I.kf (sN true 2,12) (by simp [FN])
theorem w_v (I:Inv B S) {j:Nat} (hj:j<S.n) (hk:k<S.n):S.aw j≠S.al k:=v8 (I.w j hj) (I.v k hk) (by simp [Wh.cell])
theorem w_w (I:Inv B S) {j:Nat} (hj:j<S.n) (hk:k<S.n) (h:j≠k):S.aw j≠S.aw k:=v8 (I.w j hj) (I.w k hk) (by
 intro e;simp only [Wh.cell,xh,yt,Cell.ins.injEq,List.cons.injEq,Prod.mk.injEq,AV.str.injEq,true_and] at e;exact h (qft (Nat.lt_of_lt_of_le hj I.n4) (Nat.lt_of_lt_of_le hk I.n4) e.1))
def St.chg (S:St) (k:Nat) (w:WS) (e:AV):St:={S with W:=up S.W k w,tl:=(S.tl.set (S.aw k) (yt k w).cell).set (S.al k) (.lst (yi (S.bd k) w)),es:=S.es++[e]}
theorem Inv.chg (I:Inv B S) (hk:k<S.n) {w:WS} {e:AV} (hpl:w.pl<rl k) (hg:w.gone=false->(S.W k).gone=false):Inv (B+3) (S.chg k w e) where
 n4:=I.n4
 w:=λj (hj:j<S.n)=>by
  show ((S.tl.set (S.aw k) (yt k w).cell).set (S.al k) (.lst (yi (S.bd k) w)))[S.aw j]?=some (yt j (up S.W k w j)).cell;rw [x6 (w_v I hj hk).symm]
  by_cases h:j=k
  ·subst h;rw [zg];exact zr (I.w j hj)
  ·rw [x6 (w_w I hk hj (Ne.symm h)),u5 h];exact I.w j hj
 v:=λj (hj:j<S.n)=>by
  show ((S.tl.set (S.aw k) (yt k w).cell).set (S.al k) (.lst (yi (S.bd k) w)))[S.al j]?=some (.lst (yi (S.bd j) (up S.W k w j)))
  by_cases h:j=k
  ·subst h
   rw [zg];exact zr (d:=.lst (yi (S.bd j) (S.W j))) (by rw [x6 (w_v I hj hj)];exact I.v j hj)
  ·rw [x6 (λz=>h (I.ali j hj k hk z.symm)),x6 (w_v I hk hj),u5 h];exact I.v j hj
 ali:=I.ali
 kl:=I.kl
 ml:=I.ml
 kb:=by have:=I.kb;show S.ks.length<=_;omega
 eb:=by have:=I.eb;show (S.es++[e]).length<=_;rw [List.length_append];simp;omega
 mb:=by have:=I.mb;show S.dk.length<=_;omega
 kw:=I.kw
 kn:=I.kn
 kd:=λj hj h=>I.kd j hj λhjn=>by
  have:=h hjn
  by_cases q:j=k
  ·subst q;exact hg (by simpa [St.chg] using this)
  ·simpa [St.chg,u5 q] using this
 kf:=I.kf
 k9:=I.k9
 pl:=λj (hj:j<S.n)=>by
  show (up S.W k w j).pl<rl j
  by_cases h:j=k
  ·subst h;rw [zg];exact hpl
  ·rw [u5 h];exact I.pl j hj
 dp:=I.dp
 dq:=I.dq
theorem Inv.mono (I:Inv B S) {C:Nat} (h:B<=C):Inv C S:={I with kb:=Nat.le_trans I.kb h,eb:=Nat.le_trans I.eb h,mb:=Nat.le_trans I.mb h}
theorem d_turn (I:Inv B S) (hB:B<=50000) (hk:k<S.n) (hg:(S.W k).gone=false) :
  m_q0s [.ref 0, .str (wN k)] (HH G S)=.ok .non (HH G {S with tl:=S.tl.set (S.aw k) (yt k {S.W k with td:=S.day}).cell,es:=S.es++[.tup [.int S.day, .str "turn", .str (wN k)]]}):=by
 rw [qna (z:=yt k (S.W k)) xq (I.kw k hk) (h_w I hk) hg (by have:=I.eb;omega),s_t,s_es]
 rfl
theorem we (hb:b<2):(pN b).length<=1000/\(qN b).length<=1000:=by
 rcases two hb with rfl | rfl <;> decide +kernel
theorem qjj (I:Inv B S) {b':Nat} (hk:k<S.n) (hg:(S.W k).gone=false) (hb:b<2) (hb':b' < 2) (ho:odd k=false) (hm:(S.mp b || S.mq b')=true) :
  m_q03 [.ref 0, .str (wN k), .str (pN b), .str (qN b')] (HH G S)=.ex 27 (HH G S):=
 qnw (z:=yt k (S.W k)) xq (I.kw k hk) (h_w I hk) (k_p I hb) (h_p hb) (k_q I hb') (h_q hb') hg (qeu ho) hm (we hb).1 (we hb').2
theorem qfl (I:Inv B S) {b':Nat} (hB:B<=50000) (hk:k<S.n) (hg:(S.W k).gone=false) (hb:b<2) (hb':b' < 2) (ho:odd k=false) (hm:(S.mp b || S.mq b')=false) :
  m_q03 [.ref 0, .str (wN k), .str (pN b), .str (qN b')] (HH G S)=.ok .non (HH G {S with tl:=S.tl.set (S.aw k) (yt k {S.W k with wd:=S.day}).cell,es:=S.es++[.tup [.int S.day, .str "wash", .str (wN k), .str (pN b), .str (qN b')]]}):=by
 rw [Bool.or_eq_false_iff] at hm;have e1:=h_p (G:=G) (S:=S) hb;have e2:=h_q (G:=G) (S:=S) hb';rw [hm.1] at e1;rw [hm.2] at e2;rw [qho (z:=yt k (S.W k)) xq (I.kw k hk) (h_w I hk) (k_p I hb) e1 (k_q I hb') e2 hg (qeu ho) (by have:=I.eb;omega),s_t,s_es]
 rfl
theorem qie (I:Inv B S) {b':Nat} (hB:B<=50000) (hk:k<S.n) (hg:(S.W k).gone=false) (hb:b<2) (hb':b' < 2) (ho:odd k=true) :
  m_q03 [.ref 0, .str (wN k), .str (pN b), .str (qN b')] (HH G S)=.ok .non (HH G {S with mp:=up S.mp b true,mq:=up S.mq b' true,tl:=S.tl.set (S.aw k) (yt k {S.W k with wd:=S.day}).cell,es:=S.es++[.tup [.int S.day, .str "wash", .str (wN k), .str (pN b), .str (qN b')]]}):=by
 rw [qid (z:=yt k (S.W k)) xq (I.kw k hk) (h_w I hk) (k_p I hb) (h_p hb) (k_q I hb') (h_q hb') hg (qix ho) (by have:=I.eb;omega),s_p hb,s_q hb',s_t,s_es]
 rfl
theorem qlx (I:Inv B S) (hB:B<=50000) (hb:b<2):m_q0m [.ref 0, .str (pN b)] (HH G S)=.ok .non (HH G {S with mp:=up S.mp b false,es:=S.es++[.tup [.int S.day, .str "boil", .str (pN b)]]}):=by
 rw [ql6 (.inl rfl) xq (k_p I hb) (h_p hb) (by have:=I.eb;omega),s_p hb,s_es]
theorem qmy (I:Inv B S) (hB:B<=50000) (hb:b<2):m_q0m [.ref 0, .str (qN b)] (HH G S)=.ok .non (HH G {S with mq:=up S.mq b false,es:=S.es++[.tup [.int S.day, .str "boil", .str (qN b)]]}):=by
 rw [ql6 (.inr rfl) xq (k_q I hb) (h_q hb) (by have:=I.eb;omega),s_q hb,s_es]
end
section
variable {G:Nat->Int×Int} {S:St} {B k b:Nat}
theorem t9 (k:Nat):rl k<=3:=by unfold rl;split <;> omega
def rsOf (k:Nat):List Str:=if odd k then [rN 0,rN 1] else [rN 0,rN 1,rN 2]
theorem qht {p q:Nat} (hp:p<4) (hq:q<3):((rsOf k)[p]?=some (rN q))↔(p=q/\p<rl k):=by
 have h1:∀ p<4, ∀ q<3,decide ((([rN 0,rN 1,rN 2]:List Str)[p]?=some (rN q)))=decide (p=q/\p<3):=by decide +kernel
 have h2:∀ p<4, ∀ q<3,decide ((([rN 0,rN 1]:List Str)[p]?=some (rN q)))=decide (p=q/\p<2):=by decide +kernel
 unfold rsOf rl;cases odd k
 ·exact decide_eq_decide.mp (h1 p hp q hq)
 ·exact decide_eq_decide.mp (h2 p hp q hq)
def snOf (k:Nat):Str:=if odd k then "blue" else "fair"
def stOf (G:Nat->Int×Int) (k:Nat):AV:=if odd k then .lst [gp (G 2),gp (G 3)] else .lst [gp (G 2),gp (G 3),gp (G 4)]
def tgOf (G:Nat->Int×Int) (k:Nat):AV:=if odd k then gp (G 1) else gp (G 0)
def wgOf (G:Nat->Int×Int) (k:Nat):AV:=if odd k then gp (G 0) else gp (G 1)
theorem qi1:(HH G S)[13+k % 2]?=some (.ins 3 (vw (snOf k) (odd k) (tgOf G k) (wgOf G k) (rsOf k) (stOf G k))):=by
 unfold snOf tgOf wgOf rsOf stOf;cases ho:odd k
 ·exact qeu ho
 ·exact qix ho
theorem qja:∀ k<4,(wN k).length<=1000:=by decide +kernel
theorem qiz:∀ p<3,(sN false p).length<=1000/\(sN true p).length<=1000:=by decide +kernel
theorem d_mv (I:Inv B S) (hk:k<S.n) (hg:(S.W k).gone=false) {c:Bool} {q:Nat} (hq:q<3) {tl:AH} (ht:tl[S.aw k]?=some (yt k (S.W k)).cell):MPre (HH G {S with tl:=tl}) 0 1 2 3 S.day S.ks S.xs (ka S) S.es (S.aw k+23) (shA (S.W k).pb (S.W k).pl) (shA c q) (13+k % 2) (4+3 * q) (wN k) (sN c q) (rN q) (snOf k) 1000 (S.W k).pl (S.W k).td (S.W k).wd (S.W k).rd 90 7 (odd k) (tgOf G k) (wgOf G k) (stOf G k) (rsOf k) where
 q:=xq
 kw:=I.kw k hk
 hw:=by
  refine (show (HH G {S with tl:=tl})[S.aw k+23]?=tl[S.aw k]? from rfl).trans ?_
  rw [ht];show some (Cell.ins 6 (xh (wN k) _ _ _ _ _ _ _ (S.W k).gone))=_;rw [hg];rfl
 kf:=k_s I hq
 hf:=h_sh hq
 hr:=h_r hq
 hs:=qi1
 rl:=by unfold rsOf;split <;> decide
 pl:=by have:=I.pl k hk;have:=t9 k;omega
 nl:=qja k (Nat.lt_of_lt_of_le hk I.n4)
 fl:=by cases c;exact (qiz q hq).1;exact (qiz q hq).2
theorem d_next (I:Inv B S) (hB:B<=50000) (hk:k<S.n) (hg:(S.W k).gone=false) (c:Bool) (hp:(S.W k).pl+1<rl k) {tl:AH} (ht:tl[S.aw k]?=some (yt k (S.W k)).cell) :
  m_q0n [.ref 0, .str (wN k), .str (sN c ((S.W k).pl+1))] (HH G {S with tl:=tl})=.ok .non (HH G {S with tl:=tl.set (S.aw k) (yt k {S.W k with pl:=(S.W k).pl+1,pb:=c,rd:=S.day}).cell,es:=S.es++[.tup [.int S.day, .str "move", .str (wN k), .str (sN c ((S.W k).pl+1))]]}):=by
 have:=t9 k;rw [qlb (d_mv I hk hg (by omega) ht) ((qht (by omega) (by omega)).mpr ⟨rfl,hp⟩) (by have:=I.eb;omega),s_t,s_es]
 simp only [yt,hg,Wh.cell];rfl
theorem d_here (I:Inv B S) (hB:B<=50000) (hk:k<S.n) (hg:(S.W k).gone=false) (c:Bool) {tl:AH} (ht:tl[S.aw k]?=some (yt k (S.W k)).cell) :
  m_q0n [.ref 0, .str (wN k), .str (sN c (S.W k).pl)] (HH G {S with tl:=tl})=.ok .non (HH G {S with tl:=tl.set (S.aw k) (yt k {S.W k with pb:=c}).cell,es:=S.es++[.tup [.int S.day, .str "move", .str (wN k), .str (sN c (S.W k).pl)]]}):=by
 have:=t9 k;have hp:=I.pl k hk;rw [qk2 (d_mv I hk hg (by omega) ht) (λz=>by have:=(qht (by omega) (by omega)).mp z;omega) ((qht (by omega) (by omega)).mpr ⟨rfl,hp⟩) (by have:=I.eb;omega),s_t,s_es]
 simp only [yt,hg,Wh.cell]
def wgs (k:Nat):AH:=[zu (wdN (wN k) 0) false,zu (wdN (wN k) 1) false]
def wks (k:Nat):List Key:=[.inr (wdN (wN k) 0), .inr (wdN (wN k) 1)]
theorem d_cut (I:Inv B S) (hB:B<=50000) (hk:k<S.n) (hg:(S.W k).gone=false) :
  m_q0y [.ref 0, .str (wN k), .lst [.int 1, .int 2]] (HH G S)=.ok .non (HH G {S with ks:=S.ks++wks k,xs:=S.xs++[.ref (S.tl.length+23), .ref (S.tl.length+23+1)],tl:=S.tl.set (S.aw k) (yt k {S.W k with gone:=true}).cell++wgs k,es:=S.es++[.tup [.int S.day, .str "cut", .str (wN k), .tup [.int 1, .int 2], .int 997]]}):=by
 have hk4:k<4:=Nat.lt_of_lt_of_le hk I.n4;have e:=cut_ok (z:=yt k (S.W k)) (p:=.lst [.int 1, .int 2]) (ps:=[1,2]) (xq (G:=G)) (I.kw k hk) (h_w I hk) (.inl rfl) (by intro z;cases z) (by intro z;cases z) (by decide) (by decide) hg (by show (3:Int)<=1000;decide) (by have:=I.eb;omega) I.kl (by have:=I.kb;omega)
  (λj hj=>I.kd k hk4 (λ_=>hg) j hj) (by
   have:∀ k<4, ∀ i<2, ∀ j<2,wdN (wN k) i=wdN (wN k) j->i=j:=by decide +kernel
   exact this k hk4) (by
   have:∀ k<4, ∀ j<2,(Str.empty++wN k:Str).length<=1000/\(Str.empty++wN k++("/" : Str):Str).length<=1000/\(wdN (wN k) j).length<=1000:=by decide +kernel
   intro j hj;obtain ⟨a,b,c⟩:=this k hk4 j hj;have z:(1000:Nat)<=sizeLine:=by decide
   exact ⟨by omega,by omega,by omega⟩)
 rw [e];have hc:cutH ((HH G S).set (S.aw k+23) ({yt k (S.W k) with gone:=true}:Wh).cell) 1 S.ks S.xs (wN k) ([1,2]:List Int).length=HH G {S with ks:=S.ks++wks k,xs:=S.xs++[.ref (S.tl.length+23), .ref (S.tl.length+23+1)],tl:=S.tl.set (S.aw k) (yt k {S.W k with gone:=true}).cell++wgs k}:=by
  rw [s_t];unfold cutH;have:(HH G {S with tl:=S.tl.set (S.aw k) ({yt k (S.W k) with gone:=true}:Wh).cell}).length=S.tl.length+23:=by
   show (S.tl.set (S.aw k) _).length+23=_;rw [List.length_set]
  rw [this];rfl
 rw [hc,s_es];rfl
theorem w_free:∀ k<4,isNm (wN k)=true:=by decide +kernel
theorem d_new (I:Inv B S) (hB:B<=50000) (hn:S.n<4) :
  m_qt [.ref 0, .str (wN S.n), .str "m", .str (snOf S.n), .str "a0", .int 1000] (HH G S)=.ok .non (yh S.day 1 2 3::.dk (S.ks++[.inr (wN S.n)]) (S.xs++[.ref (S.tl.length+23)])::.lst (ka S++[.ref (S.tl.length+23)])::.lst (S.es++[.tup [.int S.day, .str "wheel", .str (wN S.n), .str "m", .str (snOf S.n), .str "a0", .int 1000]]) ::
   ((((HH G S).drop 4).set 12 (o6 "m" (4000 - 1000 * (S.n:Int) - 1000)))++[(yt S.n ⟨0,false,S.day,S.day,S.day,false⟩).cell])):=by
 have hsn:(snOf S.n).length<=1000:=by unfold snOf;split <;> decide
 have ks:dval S.ks S.xs (.inr (snOf S.n))=some (.ref (13+S.n % 2)):=by
  unfold snOf;cases ho:odd S.n
  ·have:S.n % 2=0:=by unfold odd at ho;simp at ho;omega
   rw [this];exact I.kf ("fair",13) (by simp [FN])
  ·have:S.n % 2=1:=by unfold odd at ho;simpa using ho
   rw [this];exact I.kf ("blue",14) (by simp [FN])
 have hr:(rsOf S.n)[0]?=some (rN 0):=by unfold rsOf;split <;> rfl
 have hrl:(rsOf S.n).length<=1000:=by unfold rsOf;split <;> decide
 have e:=qm2 (g:=1000) (nm:=wN S.n) (bn:="m") (sn:=snOf S.n) (fnm:=sN false 0) (rn:=rN 0) (left:=4000 - 1000 * (S.n:Int)) (b:=16) (s:=13+S.n % 2) (f:=5) (r:=4) (m:=odd S.n) (tg:=tgOf G S.n) (wg:=wgOf G S.n) (st:=stOf G S.n) (rs:=rsOf S.n)
  ⟨xq (G:=G) (S:=S),w_free _ hn,I.kn _ (Nat.le_refl _) hn,I.kf ("m",16) (by simp [FN]),rfl,ks,qi1,I.kf (sN false 0,5) (by simp [FN]),rfl,rfl,hrl,hsn,by decide⟩ (by decide) (by decide) hr (by omega) (by have:=I.kb;omega) I.kl (by simp [ka];omega) (by have:=I.eb;omega)
 exact e
end
section
variable {G:Nat->Int×Int} {S:St} {B k b:Nat}
def zOf (S:St) (k:Nat):WR:=⟨S.aw k+23,yt k (S.W k),sN (S.W k).pb (S.W k).pl,4+3 * (S.W k).pl,rN (S.W k).pl,90,7⟩
def zsOf (S:St):List WR:=(List.range S.n).map (zOf S)
theorem zs_ok (I:Inv B S):∀ z∈zsOf S,z.ok (HH G S):=by
 intro z hz;obtain ⟨k,hk,rfl⟩:=List.mem_map.mp hz;have hk:=List.mem_range.mp hk;have hp:=I.pl k hk;have:=t9 k;exact ⟨h_w I hk,h_sh (by omega),h_r (by omega),by show (0:Int)<=90;decide,by show (90:Int)<=100;decide,by show (0:Int)<=7;decide,by show (7:Int)<=40;decide⟩
theorem zs_nd (I:Inv B S):((zsOf S).map (·.k)).Nodup:=by
 unfold zsOf;rw [List.map_map];unfold List.Nodup;rw [List.pairwise_map];refine List.Pairwise.imp_of_mem ?_ (List.nodup_range (n:=S.n));intro a b ha hb hab;have:=w_w I (List.mem_range.mp ha) (List.mem_range.mp hb) hab;show S.aw a+23≠S.aw b+23;omega
theorem qgn:∀ (zs:List WR) (h:AH),(∀ z∈zs,h[z.k]?=some z.next.w.cell)->uh zs h=h
 | [],h,_=>rfl
 | z::zs,h,hz=>by
  unfold uh;have:(if z.w.gone then h else h.set z.k z.next.w.cell)=h:=by
   split
   ·rfl
   ·exact set_same (hz z (by simp))
  rw [this];exact qgn zs h λy hy=>hz y (by simp [hy])
theorem z_next (k:Nat):(zOf S k).next.w.cell=(yt k (S.W k)).cell:=rfl
def St.nt (S:St) (e:AV) (r:Cell):St:={S with day:=S.day+1,es:=S.es++[e],tl:=S.tl++[r]}
theorem Inv.nt (I:Inv B S) {e:AV} {r:Cell}:Inv (B+1) (S.nt e r) where
 n4:=I.n4
 w:=λj hj=>yq (I.w j hj)
 v:=λj hj=>yq (I.v j hj)
 ali:=I.ali
 kl:=I.kl
 ml:=I.ml
 kb:=Nat.le_succ_of_le I.kb
 eb:=by have:=I.eb;show (S.es++[e]).length<=_;rw [List.length_append];simp;omega
 mb:=Nat.le_succ_of_le I.mb
 kw:=I.kw
 kn:=I.kn
 kd:=I.kd
 kf:=I.kf
 k9:=I.k9
 pl:=I.pl
 dp:=I.dp
 dq:=I.dq
theorem d_pass (I:Inv B S) (hB:B<=50000):∃ e r,m_qp [.ref 0] (HH G S)=.ok .non (HH G (S.nt e r)):=by
 have hm:ka S=(zsOf S).map λz=>AV.ref z.k:=by unfold ka zsOf;rw [List.map_map];rfl
 have q:=xq (G:=G) (S:=S);rw [hm] at q;have hn:=I.n4;have e:=qoe q (zs_ok I) (zs_nd I) (by unfold zsOf;simp;omega) (by have:=I.eb;omega)
 have hs:uh (zsOf S) (HH G S)=HH G S:=qgn _ _ λz hz=>by
  obtain ⟨k,hk,rfl⟩:=List.mem_map.mp hz;exact (h_w I (List.mem_range.mp hk)).trans (congrArg some (z_next k).symm)
 rw [e];unfold qf4;rw [hs,h_app,s_es,s_day];exact ⟨_,_,rfl⟩
theorem qn1 (I:Inv B S) (hB:B<=40000) {t:Nat} (h1:1<=t) (h3:t<=3):∃ S',m_qb [.ref 0, .int (t:Int)] (HH G S)=.ok .non (HH G S')/\Inv (B+3) S'/\S'.day=S.day+(t:Int)/\S'.n=S.n:=by
 have e2:=bp (n:=(t:Int)) (a:=1) (b:=30) (h:=HH G S) (by omega) (by omega)
 obtain ⟨env',h2,r1,S',y,rfl,rfl,I',hd,hn⟩:=qdh (n:=t) (i:=2) (a:=aVar 1) (body:=jg (jn 8 m_qp (aVar 0) aNil)) (P:=λi env h=>∃ S' y,env=[some (.ref 0),some (.int (t:Int)),y]/\h=HH G S'/\Inv (B+i) S'/\S'.day=S.day+(i:Int)/\S'.n=S.n)
  (env:=[some (.ref 0),some (.int (t:Int)),none]) (h:=HH G S) (by omega) rfl ⟨S,none,rfl,rfl,I,by simp,rfl⟩ (by
  rintro j hj env h ⟨S1,y,rfl,rfl,I1,hd,hn⟩;obtain ⟨e,r,hp⟩:=d_pass (G:=G) I1 (by omega)
  refine ⟨_,_,mj (p0 (x:=.ref 0) (vs:=[]) rfl (fs:=[(18, .int S1.day),(19, .ref 1),(20, .ref 2),(21, .ref 3)]) rfl rfl hp),S1.nt e r,_,rfl,rfl,I1.nt,?_,hn⟩;show S1.day+1=_;rw [hd];omega)
 refine ⟨S',?_,I'.mono (by omega),hd,hn⟩
 show (b_qb [some (.ref 0),some (.int (t:Int)),none] (HH G S)).out=_;unfold b_qb;rw [yr (mj (o7 (vs:=[.int (t:Int), .int 1, .int 30]) rfl e2)),r1];rfl
end
section
variable {G:Nat->Int×Int} {S:St} {B k b:Nat}
def w0 (d:Int):WS:=⟨0,false,d,d,d,false⟩
def newE (S:St):AV:=.tup [.int S.day, .str "wheel", .str (wN S.n), .str "m", .str (snOf S.n), .str "a0", .int 1000]
def newS (S:St):St:={S with n:=S.n+1,ks:=S.ks++[.inr (wN S.n)],xs:=S.xs++[.ref (S.tl.length+23)],es:=S.es++[newE S],aw:=up S.aw S.n S.tl.length,al:=up S.al S.n (S.tl.length+1),bd:=up S.bd S.n S.day,W:=up S.W S.n (w0 S.day),tl:=S.tl++[(yt S.n (w0 S.day)).cell]++[.lst (yi S.day (w0 S.day))]}
def HN (G:Nat->Int×Int) (S:St):AH:=yh S.day 1 2 3::.dk (S.ks++[.inr (wN S.n)]) (S.xs++[.ref (S.tl.length+23)])::.lst (ka S++[.ref (S.tl.length+23)])::.lst (S.es++[newE S]) ::
 vm (rN 0) 90 7::xp (sN false 0) 4::xp (sN true 0) 4::vm (rN 1) 90 7::xp (sN false 1) 7::xp (sN true 1) 7::vm (rN 2) 90 7::xp (sN false 2) 10::xp (sN true 2) 10 ::
 .ins 3 (zh G)::.ins 3 (kh G)::qi6 "f" :: o6 "m" (4000 - 1000 * (S.n:Int) - 1000) ::
 yf "brine" (pN 0) (S.mp 0)::yf "cloth" (qN 0) (S.mq 0)::yf "brine" (pN 1) (S.mp 1)::yf "cloth" (qN 1) (S.mq 1)::.dk (lks S.n) (ua S)::.dk S.dk S.dx::(S.tl++[(yt S.n (w0 S.day)).cell])
theorem d_new' (I:Inv B S) (hB:B<=50000) (hn:S.n<4) :
  m_qt [.ref 0, .str (wN S.n), .str "m", .str (snOf S.n), .str "a0", .int 1000] (HH G S)=.ok .non (HN G S):=d_new I hB hn
theorem hn_len:(HN G S).length=S.tl.length+1+23:=by
 show (S.tl++[_]).length+23=_;rw [List.length_append];rfl
theorem qdr {α:Type} {f g:Nat->α} {n:Nat} (h:∀ k<n,f k=g k):(List.range n).map f=(List.range n).map g:=List.map_congr_left λk hk=>h k (List.mem_range.mp hk)
theorem qki:ka (newS S)=ka S++[.ref (S.tl.length+23)]:=by
 show (List.range (S.n+1)).map (λk=>AV.ref (up S.aw S.n S.tl.length k+23))=_
 rw [List.range_succ,List.map_append,List.map_singleton,zg];exact congrArg (· ++ _) (qdr λk hk=>by rw [u5 (by omega)])
theorem qiy:ua (newS S)=ua S++[.ref (S.tl.length+1+23)]:=by
 show (List.range (S.n+1)).map (λk=>AV.ref (up S.al S.n (S.tl.length+1) k+23))=_
 rw [List.range_succ,List.map_append,List.map_singleton,zg];exact congrArg (· ++ _) (qdr λk hk=>by rw [u5 (by omega)])
theorem qd0 (n:Nat):lks (n+1)=lks n++[(.inr (wN n):Key)]:=by
 unfold lks;rw [List.range_succ,List.map_append,List.map_singleton]
theorem hn_new:(HN G S++[Cell.lst (yi S.day (w0 S.day))]).set 21 (Cell.dk (lks S.n++[(.inr (wN S.n):Key)]) (ua S++[AV.ref (S.tl.length+1+23)]))=HH G (newS S):=by
 have e1:(4000:Int) - 1000 * ((S.n+1:Nat):Int)=4000 - 1000 * (S.n:Int) - 1000:=by omega
 rw [<- qd0, <- qiy];unfold HH;rw [qki];show _=yh S.day 1 2 3::_::_::_::_::_::_::_::_::_::_::_::_::_::_::_::o6 "m" (4000 - 1000 * ((S.n+1:Nat):Int))::_;rw [e1];rfl
theorem Inv.new (I:Inv B S) (hn:S.n<4):Inv (B+2) (newS S) where
 n4:=hn
 w:=λj (hj:j<S.n+1)=>by
  show (S.tl++[_]++[_])[up S.aw S.n S.tl.length j]?=some (yt j (up S.W S.n (w0 S.day) j)).cell
  by_cases h:j=S.n
  ·subst h;rw [zg,zg];exact yq (zt _ _)
  ·rw [u5 h,u5 h];exact yq (yq (I.w j (by omega)))
 v:=λj (hj:j<S.n+1)=>by
  show (S.tl++[_]++[_])[up S.al S.n (S.tl.length+1) j]?=some (.lst (yi (up S.bd S.n S.day j) (up S.W S.n (w0 S.day) j)))
  by_cases h:j=S.n
  ·subst h
   rw [zg,zg,zg];have:=zt (S.tl++[(yt S.n (w0 S.day)).cell]) (.lst (yi S.day (w0 S.day)))
   rwa [List.length_append] at this
  ·rw [u5 h,u5 h,u5 h];exact yq (yq (I.v j (by omega)))
 ali:=λj (hj:j<S.n+1) k (hk:k<S.n+1) (h:up S.al S.n (S.tl.length+1) j=up S.al S.n (S.tl.length+1) k)=>by
  by_cases h1:j=S.n
  ·by_cases h2:k=S.n
   ·rw [h1,h2]
   ·rw [h1,zg,u5 h2] at h
    have:=qi (I.v k (by omega));omega
  ·by_cases h2:k=S.n
   ·rw [h2,zg,u5 h1] at h
    have:=qi (I.v j (by omega));omega
   ·rw [u5 h1,u5 h2] at h;exact I.ali j (by omega) k (by omega) h
 kl:=by show (S.ks++[_]).length=(S.xs++[_]).length;simp [I.kl]
 ml:=I.ml
 kb:=by have:=I.kb;show (S.ks++[_]).length<=_;simp;omega
 eb:=by have:=I.eb;show (S.es++[_]).length<=_;simp;omega
 mb:=Nat.le_trans I.mb (by omega)
 kw:=λj (hj:j<S.n+1)=>by
  show dval (S.ks++[_]) (S.xs++[_]) _=some (.ref (up S.aw S.n S.tl.length j+23));rw [t8 I.kl]
  by_cases h:j=S.n
  ·subst h;rw [zg,I.kn _ (Nat.le_refl _) hn];simp [dval]
  ·rw [u5 h,I.kw j (by omega)];rfl
 kn:=λj (hj:S.n+1<=j) hj4=>mr I.kl (I.kn j (by omega) hj4) (by
  rw [List.mem_singleton];intro z;have:=qft hj4 hn (Sum.inr.inj z);omega)
 kd:=λj hj h i hi=>mr I.kl (I.kd j hj (λhjn=>by
  have:=h (Nat.lt_succ_of_lt hjn);simpa [newS,u5 (show j≠S.n by omega)] using this) i hi) (by
  rw [List.mem_singleton];intro z;have:∀ j<4, ∀ i<2, ∀ n<4,wdN (wN j) i≠wN n:=by decide +kernel
  exact this j hj i hi S.n hn (Sum.inr.inj z))
 kf:=λp hp=>by
  show dval (S.ks++[_]) (S.xs++[_]) _=_;rw [t8 I.kl,I.kf p hp];rfl
 k9:=by
  have h9:∀ n<4,(("w9" : Str)≠wN n)/\(("q9" : Str)≠wN n):=by decide +kernel
  exact ⟨mr I.kl I.k9.1 (by rw [List.mem_singleton];exact λz=>(h9 S.n hn).1 (Sum.inr.inj z)),mr I.kl I.k9.2 (by rw [List.mem_singleton];exact λz=>(h9 S.n hn).2 (Sum.inr.inj z))⟩
 pl:=λj (hj:j<S.n+1)=>by
  show (up S.W S.n (w0 S.day) j).pl<rl j
  by_cases h:j=S.n
  ·subst h;rw [zg];show 0<rl _;unfold rl;split <;> decide
  ·rw [u5 h];exact I.pl j (by omega)
 dp:=I.dp
 dq:=I.dq
theorem qev {n:Nat} (hn:n<4) (xs:List AV):dval (lks n) xs (.inr (wN n))=none:=by
 have:∀ (js:List Key) (xs:List AV),(.inr (wN n):Key)∉js->dval js xs (.inr (wN n))=none:=by
  intro js
  induction js with
  | nil=>intro xs _;cases xs <;> rfl
  | cons j js ih =>
   intro xs h;cases xs with
   | nil=>rfl
   | cons x xs =>
    rw [dval,if_neg (λz=>h (by rw [z];exact List.mem_cons_self))]
    exact ih xs λz=>h (List.mem_cons_of_mem _ z)
 refine this _ _ λh=>?_
 obtain ⟨j,hj,e⟩:=List.mem_map.mp h;have:=qft (Nat.lt_trans (List.mem_range.mp hj) hn) hn (Sum.inr.inj e);have:=List.mem_range.mp hj;omega
theorem qor:(lks S.n).length=(ua S).length:=by simp [lks,ua]
theorem lval {j:Nat}:∀ {n:Nat},n<=4->j<n->∀ f:Nat->AV,dval (lks n) ((List.range n).map f) (.inr (wN j))=some (f j):=by
 intro n
 induction n with
 | zero=>intro _ h;omega
 | succ n ih =>
  intro hn hj f;rw [qd0,List.range_succ,List.map_append,List.map_singleton,t8 (by simp [lks])]
  by_cases h:j=n
  ·subst h;rw [qev (by omega)];simp [dval]
  ·rw [ih (by omega) (by omega)];rfl
end
def EV (S:St) (c:Int) (k a b:Nat) (y9:Option AV):AEnv:=[some (.ref 0),some (.ref 21),some (.int c),some (.int S.day),some (.ref 22),some (.str (wN k)),some (.ref (S.al k+23)),some (.bl (odd k)),some (.tup [.str (pN a), .str (qN b)]),y9]
def Post (G:Nat->Int×Int) (S:St) (B:Nat) (c:Int) (k a b:Nat) (r:SRe):Prop:=∃ S' y9,r=.nx (EV S c k a b y9) (HH G S')/\Inv (B+3) S'/\S'.day=S.day/\S'.n=S.n/\S'.al=S.al
def c6:AS:=(sIf (aAnd (aB (a2 fEq (a2 fMod (aVar 2) (aK (.int 8))) (aK (.int 0)))) (aB (a2 fIx (aVar 6) (aK (.int 5)))))
 (sSeq (jg (jn 8 m_q0s (aVar 0) (j0 (aVar 5) aNil)))
 (sAsg (aVar 3) (gr (aVar 6) (aK (.int 1)))))
 y0)
def p3:AS:=(sIf (aAnd (aB (a2 (fIn false) (a2 fMod (aVar 2) (aK (.int 8))) (aLst (j0 (aK (.int 1)) (j0 (aK (.int 2)) aNil))))) (aAnd (aB (a2 fIx (aVar 6) (aK (.int 5)))) (aAnd (aNot (aB (aVar 7))) (aOr (aTru (qf (aVar 4) (a2 fIx (aVar 8) (aK (.int 0))))) (aTru (qf (aVar 4) (a2 fIx (aVar 8) (aK (.int 1)))))))))
 (jg (aC m_q04 (j0 (aVar 0) (j0 (aVar 5) (j0 (aVar 8) aNil)))))
 (sIf (aAnd (aB (a2 (fIn false) (a2 fMod (aVar 2) (aK (.int 8))) (aLst (j0 (aK (.int 1)) (j0 (aK (.int 2)) aNil))))) (aB (a2 fIx (aVar 6) (aK (.int 5)))))
 (sSeq (jg (jn 8 m_q03 (aVar 0) (j0 (aVar 5) (j0 (a2 fIx (aVar 8) (aK (.int 0))) (j0 (a2 fIx (aVar 8) (aK (.int 1))) aNil)))))
 (sSeq (sAsg (aVar 3) (gr (aVar 6) (aK (.int 2))))
 (sIf (aB (aVar 7))
 (sSeq (gz (aVar 4) (a2 fIx (aVar 8) (aK (.int 0))) (aK (.bl true)))
 (gz (aVar 4) (a2 fIx (aVar 8) (aK (.int 1))) (aK (.bl true))))
 y0)))
 y0))
def c7:AS:=(sIf (aB (a2 fEq (a2 fMod (aVar 2) (aK (.int 8))) (aK (.int 4))))
 (sSeq (jg (jn 8 m_q0m (aVar 0) (j0 (a2 fIx (aVar 8) (a2 fMod (a2 fDiv (aVar 2) (aK (.int 128))) (aK (.int 2)))) aNil)))
 (gz (aVar 4) (a2 fIx (aVar 8) (a2 fMod (a2 fDiv (aVar 2) (aK (.int 128))) (aK (.int 2)))) (aK (.bl false))))
 y0)
def cutB:AS:=(sIf (aAnd (aB (a2 fEq (a2 fMod (aVar 2) (aK (.int 8))) (aK (.int 7)))) (aAnd (aB (a2 fEq (a2 fMod (a2 fDiv (aVar 2) (aK (.int 32))) (aK (.int 4))) (aK (.int 1)))) (aB (a2 fIx (aVar 6) (aK (.int 5))))))
 (sSeq (jg (jn 8 m_q0y (aVar 0) (j0 (aVar 5) (j0 (aLst (j0 (aK (.int 1)) (j0 (aK (.int 2)) aNil))) aNil))))
 (sAsg (aK (.bl false)) (gr (aVar 6) (aK (.int 5)))))
 y0)
def St.mid (S:St) (k:Nat) (w:WS) (e:AV):St:={S with tl:=S.tl.set (S.aw k) (yt k w).cell,es:=S.es++[e]}
section
variable {G:Nat->Int×Int} {S:St} {B k a b:Nat} {c:Int} {y9:Option AV}
theorem qhm (I:Inv B S) (hk:k<S.n) {w:WS} {e:AV}:(HH G (S.mid k w e))[S.al k+23]?=some (.lst (yi (S.bd k) (S.W k))):=(x6 (w_v I hk hk)).trans (I.v k hk)
theorem mid_s {w:WS} {e:AV}:(HH G (S.mid k w e)).set (S.al k+23) (.lst (yi (S.bd k) w))=HH G (S.chg k w e):=rfl
theorem mv:vv (HH G S) (.ref 0)=some (8,[(18, .int S.day),(19, .ref 1),(20, .ref 2),(21, .ref 3)]):=rfl
theorem qoy (I:Inv B S) (hB:B<=40000) (hk:k<S.n):Post G S B c k a b (c6 (EV S c k a b y9) (HH G S)):=by
 have hv:=h_v (G:=G) I hk;simp only [yi] at hv
 by_cases hc:c % 8=0
 ·cases hg:(S.W k).gone with
  | true =>
   refine ⟨S,y9,?_,I.mono (by omega),rfl,rfl,rfl⟩
   rw [hg] at hv;generalize HH G S=H at *;simp [c6,EV,hc,hv,at5]
  | false =>
   have e:m_q0s [.ref 0, .str (wN k)] (HH G S)=.ok .non (HH G (S.mid k {S.W k with td:=S.day} (.tup [.int S.day, .str "turn", .str (wN k)]))):=d_turn I (by omega) hk hg
   refine ⟨S.chg k {S.W k with td:=S.day} (.tup [.int S.day, .str "turn", .str (wN k)]),y9,?_,I.chg hk (I.pl k hk) (λh=>h),rfl,rfl,rfl⟩
   have i0:=mv (G:=G) (S:=S);have hv2:=qhm (G:=G) I hk (w:={S.W k with td:=S.day}) (e:=.tup [.int S.day, .str "turn", .str (wN k)])
   have hs:=mid_s (G:=G) (S:=S) (k:=k) (w:={S.W k with td:=S.day}) (e:=.tup [.int S.day, .str "turn", .str (wN k)])
   generalize HH G (S.chg k {S.W k with td:=S.day} (.tup [.int S.day, .str "turn", .str (wN k)]))=H3 at *
   generalize HH G (S.mid k {S.W k with td:=S.day} (.tup [.int S.day, .str "turn", .str (wN k)]))=H2 at *
   generalize HH G S=H at *;simp only [yi,hg,Bool.not_false] at hv2 hs hv;simp [c6,EV,hc,hv,at5, -vv,i0,e,hv2,hs,ixN]
 ·refine ⟨S,y9,?_,I.mono (by omega),rfl,rfl,rfl⟩
  generalize HH G S=H at *;simp [c6,EV,hc]
theorem qjw {ks:List Key} {xs:List AV} {x:Str} {d:Bool} (h:AH) (M:MD ks xs x d):truA h ((dval ks xs (.inr x)).getD .non)=some d:=by
 rcases M with ⟨e,rfl⟩ | e <;> rw [e] <;> rfl
theorem in12 (c:Int):inA (.int (c % 8)) [AV.int 1, .int 2]=decide (c % 8=1\/c % 8=2):=by
 rw [Bool.eq_iff_iff];simp [inA,eqF];omega
theorem qi2 {h:AH} {day:Int} {x y z:Str} (h0:h[0]?=some (yh day 1 2 3)) (e:m_q03 [.ref 0, .str x, .str y, .str z] h=.ex 27 h):m_q04 [.ref 0, .str x, .tup [.str y, .str z]] h=.ok (.bl true) h:=by
 simp only [yh] at h0;simp [m_q04,b_q04,h0,e,at0,at1]
def St.md (S:St) (x:Str) (d:Bool):St:={S with dk:=(dput S.dk S.dx (.inr x) (.bl d)).1,dx:=(dput S.dk S.dx (.inr x) (.bl d)).2}
theorem h_dk:(HH G S)[22]?=some (.dk S.dk S.dx):=rfl
theorem s_md {x:Str} {d:Bool}:(HH G S).set 22 (.dk (dput S.dk S.dx (.inr x) (.bl d)).1 (dput S.dk S.dx (.inr x) (.bl d)).2)=HH G (S.md x d):=rfl
theorem pq {a b:Nat} (ha:a<2) (hb:b<2):pN a≠qN b:=by
 have:∀ a<2, ∀ b<2,pN a≠qN b:=by decide +kernel
 exact this a ha b hb
theorem pp {a b:Nat} (ha:a<2) (hb:b<2):pN a=pN b↔b=a:=by
 have:∀ a<2, ∀ b<2,decide (pN a=pN b)=decide (b=a):=by decide +kernel
 exact decide_eq_decide.mp (this a ha b hb)
theorem qq {a b:Nat} (ha:a<2) (hb:b<2):qN a=qN b↔b=a:=by
 have:∀ a<2, ∀ b<2,decide (qN a=qN b)=decide (b=a):=by decide +kernel
 exact decide_eq_decide.mp (this a ha b hb)
theorem Inv.mdp (I:Inv B S) (ha:a<2) (d:Bool):Inv (B+1) (({S with mp:=up S.mp a d}:St).md (pN a) d):=
 {I with
  kb:=Nat.le_succ_of_le I.kb
  eb:=Nat.le_succ_of_le I.eb
  ml:=(qk I.ml).1
  mb:=by have h1:=I.mb;have h2:=(qk (j:=.inr (pN a)) (y:=.bl d) I.ml).2;show (dput S.dk S.dx (.inr (pN a)) (.bl d)).1.length<=_;omega
  dp:=λi hi=>by
   have:=wc (y:=pN a) (b:=d) I.ml (I.dp i hi);show MD _ _ (pN i) (up S.mp a d i);unfold up
   by_cases h:i=a
   ·rw [if_pos h];rw [if_pos ((pp ha hi).mpr h)] at this;exact this
   ·rw [if_neg h];rw [if_neg (λz=>h ((pp ha hi).mp z))] at this;exact this
  dq:=λi hi=>by
   have:=wc (y:=pN a) (b:=d) I.ml (I.dq i hi);rw [if_neg (pq ha hi)] at this;exact this}
theorem Inv.mdq (I:Inv B S) (ha:a<2) (d:Bool):Inv (B+1) (({S with mq:=up S.mq a d}:St).md (qN a) d):=
 {I with
  kb:=Nat.le_succ_of_le I.kb
  eb:=Nat.le_succ_of_le I.eb
  ml:=(qk I.ml).1
  mb:=by have h1:=I.mb;have h2:=(qk (j:=.inr (qN a)) (y:=.bl d) I.ml).2;show (dput S.dk S.dx (.inr (qN a)) (.bl d)).1.length<=_;omega
  dp:=λi hi=>by
   have:=wc (y:=qN a) (b:=d) I.ml (I.dp i hi);rw [if_neg (pq hi ha).symm] at this;exact this
  dq:=λi hi=>by
   have:=wc (y:=qN a) (b:=d) I.ml (I.dq i hi);show MD _ _ (qN i) (up S.mq a d i);unfold up
   by_cases h:i=a
   ·rw [if_pos h];rw [if_pos ((qq ha hi).mpr h)] at this;exact this
   ·rw [if_neg h];rw [if_neg (λz=>h ((qq ha hi).mp z))] at this;exact this}
theorem Inv.es1 (I:Inv B S) (e:AV):Inv (B+1) {S with es:=S.es++[e]}:=
 {I with kb:=Nat.le_succ_of_le I.kb,mb:=Nat.le_succ_of_le I.mb,eb:=by have:=I.eb;show (S.es++[e]).length<=_;simp;omega}
theorem c8 {n:Nat} (h:n<=50000):n<sizeLine:=Nat.lt_of_le_of_lt h (by decide)
theorem qnl (I:Inv B S) (hB:B<=40000) (hk:k<S.n) (ha:a<2) (hb:b<2):Post G S B c k a b (p3 (EV S c k a b y9) (HH G S)):=by
 have hv:=h_v (G:=G) I hk;have hi:=in12 c
 by_cases hc:c % 8=1\/c % 8=2
 ·rw [decide_eq_true hc] at hi
  cases hg:(S.W k).gone with
  | true =>
   refine ⟨S,y9,?_,I.mono (by omega),rfl,rfl,rfl⟩
   simp only [yi,hg,Bool.not_true] at hv;generalize HH G S=H at *;simp [p3,EV,hi,vq,hv,at5]
  | false =>
   have i0:=mv (G:=G) (S:=S);have hd:=h_dk (G:=G) (S:=S);have t1:=qjw (HH G S) (I.dp a ha);have t2:=qjw (HH G S) (I.dq b hb);cases ho:odd k with
   | false =>
    cases hm:(S.mp a || S.mq b) with
    | true =>
     have e:=qi2 (xq (G:=G) (S:=S)).qc (qjj I hk hg ha hb ho hm);refine ⟨S,y9,?_,I.mono (by omega),rfl,rfl,rfl⟩
     simp only [yi,hg,Bool.not_false] at hv;generalize HH G S=H at *;cases hpa:S.mp a with
     | true =>
      rw [hpa] at t1;simp [p3,EV,hi,vq,hv,at5,at0,at1,ho,hd, -truA,t1,e]
     | false =>
      rw [hpa] at t1 hm;rw [Bool.false_or] at hm;rw [hm] at t2;simp [p3,EV,hi,vq,hv,at5,at0,at1,ho,hd, -truA,t1,t2,e]
    | false =>
     have hm':=Bool.or_eq_false_iff.mp hm;rw [hm'.1] at t1;rw [hm'.2] at t2;have e:m_q03 [.ref 0, .str (wN k), .str (pN a), .str (qN b)] (HH G S)=.ok .non (HH G (S.mid k {S.W k with wd:=S.day} (.tup [.int S.day, .str "wash", .str (wN k), .str (pN a), .str (qN b)]))):=qfl I (by omega) hk hg ha hb ho hm
     refine ⟨S.chg k {S.W k with wd:=S.day} (.tup [.int S.day, .str "wash", .str (wN k), .str (pN a), .str (qN b)]),y9,?_,I.chg hk (I.pl k hk) (λh=>h),rfl,rfl,rfl⟩
     have hv2:=qhm (G:=G) I hk (w:={S.W k with wd:=S.day}) (e:=.tup [.int S.day, .str "wash", .str (wN k), .str (pN a), .str (qN b)])
     have hs:=mid_s (G:=G) (S:=S) (k:=k) (w:={S.W k with wd:=S.day}) (e:=.tup [.int S.day, .str "wash", .str (wN k), .str (pN a), .str (qN b)])
     generalize HH G (S.chg k {S.W k with wd:=S.day} (.tup [.int S.day, .str "wash", .str (wN k), .str (pN a), .str (qN b)]))=H3 at *
     generalize HH G (S.mid k {S.W k with wd:=S.day} (.tup [.int S.day, .str "wash", .str (wN k), .str (pN a), .str (qN b)]))=H2 at *
     generalize HH G S=H at *;simp only [yi,hg,Bool.not_false] at hv2 hs hv;simp [p3,EV,hi,vq,hv,at5,at0,at1,ho,hd, -truA,t1,t2, -vv,i0,e,hv2,hs,ixN]
   | true =>
    let S2:St:={S.mid k {S.W k with wd:=S.day} (.tup [.int S.day, .str "wash", .str (wN k), .str (pN a), .str (qN b)]) with mp:=up S.mp a true,mq:=up S.mq b true}
    let S3:St:={S.chg k {S.W k with wd:=S.day} (.tup [.int S.day, .str "wash", .str (wN k), .str (pN a), .str (qN b)]) with mp:=up S.mp a true,mq:=up S.mq b true}
    have e:m_q03 [.ref 0, .str (wN k), .str (pN a), .str (qN b)] (HH G S)=.ok .non (HH G S2):=qie I (by omega) hk hg ha hb ho
    have I3:Inv (B+5) ((S3.md (pN a) true).md (qN b) true):=((I.chg hk (w:={S.W k with wd:=S.day}) (e:=.tup [.int S.day, .str "wash", .str (wN k), .str (pN a), .str (qN b)]) (I.pl k hk) (λh=>h)).mdp ha true).mdq hb true
    have I4:Inv (B+3) ((S3.md (pN a) true).md (qN b) true):={I3 with
     kb:=by have:=I.kb;show S.ks.length<=_;omega
     eb:=by have:=I.eb;show (S.es++[_]).length<=_;simp;omega
     mb:=by
      have h0:=I.mb;have h1:=qk (j:=.inr (pN a)) (y:=.bl true) I.ml;have h2:=(qk (j:=.inr (qN b)) (y:=.bl true) h1.1).2;show (dput (dput S.dk S.dx (.inr (pN a)) (.bl true)).1 (dput S.dk S.dx (.inr (pN a)) (.bl true)).2 (.inr (qN b)) (.bl true)).1.length<=_;omega}
    refine ⟨(S3.md (pN a) true).md (qN b) true,y9,?_,I4,rfl,rfl,rfl⟩;have hv2:(HH G S2)[S.al k+23]?=some (.lst (yi (S.bd k) (S.W k))):=qhm (G:=G) I hk (w:={S.W k with wd:=S.day}) (e:=.non)
    have hs:(HH G S2).set (S.al k+23) (.lst (yi (S.bd k) {S.W k with wd:=S.day}))=HH G S3:=rfl
    have d3:(HH G S3)[22]?=some (.dk S.dk S.dx):=rfl;have s3:(HH G S3).set 22 (.dk (dput S.dk S.dx (.inr (pN a)) (.bl true)).1 (dput S.dk S.dx (.inr (pN a)) (.bl true)).2)=HH G (S3.md (pN a) true):=rfl;have d4:=h_dk (G:=G) (S:=S3.md (pN a) true);have s4:=s_md (G:=G) (S:=S3.md (pN a) true) (x:=qN b) (d:=true);have l3:S.dk.length<sizeLine:=c8 (by have:=I.mb;omega)
    have l4:(S3.md (pN a) true).dk.length<sizeLine:=c8 (by
     have:=(qk (j:=.inr (pN a)) (y:=.bl true) I.ml).2;have:=I.mb;show (dput S.dk S.dx (.inr (pN a)) (.bl true)).1.length<=_;omega)
    generalize HH G ((S3.md (pN a) true).md (qN b) true)=H5 at *;generalize (S3.md (pN a) true).dk=dk4 at *;generalize (S3.md (pN a) true).dx=dx4 at *;generalize HH G (S3.md (pN a) true)=H4 at *;generalize HH G S3=H3 at *;generalize HH G S2=H2 at *;generalize HH G S=H at *;simp only [yi,hg,Bool.not_false] at hv2 hs hv;simp [p3,EV,hi,vq,hv,at5,at0,at1,ho, -vv,i0,e,hv2,hs,ixN,d3,s3,d4,s4,l3,l4]
 ·rw [decide_eq_false hc] at hi
  refine ⟨S,y9,?_,I.mono (by omega),rfl,rfl,rfl⟩
  generalize HH G S=H at *;simp [p3,EV,hi,vq]
end
section
variable {G:Nat->Int×Int} {S:St} {B k a b:Nat} {c:Int} {y9:Option AV}
theorem qo2 (I:Inv B S) (hB:B<=40000) (hk:k<S.n) (ha:a<2) (hb:b<2):Post G S B c k a b (c7 (EV S c k a b y9) (HH G S)):=by
 by_cases hc:c % 8=4
 ·have i0:=mv (G:=G) (S:=S)
  have hl:S.dk.length<sizeLine:=c8 (by have:=I.mb;omega)
  rcases (show c / 128 % 2=0\/c / 128 % 2=1 by omega) with h7 | h7
  ·let S2:St:={({S with es:=S.es++[.tup [.int S.day, .str "boil", .str (pN a)]]}:St) with mp:=up S.mp a false}
   have e:m_q0m [.ref 0, .str (pN a)] (HH G S)=.ok .non (HH G S2):=qlx I (by omega) ha
   refine ⟨S2.md (pN a) false,y9,?_,((I.es1 (.tup [.int S.day, .str "boil", .str (pN a)])).mdp ha false).mono (by omega),rfl,rfl,rfl⟩
   have d2:(HH G S2)[22]?=some (.dk S.dk S.dx):=rfl;have s2:(HH G S2).set 22 (.dk (dput S.dk S.dx (.inr (pN a)) (.bl false)).1 (dput S.dk S.dx (.inr (pN a)) (.bl false)).2)=HH G (S2.md (pN a) false):=rfl;generalize HH G (S2.md (pN a) false)=H3 at *;generalize HH G S2=H2 at *;generalize HH G S=H at *;simp [c7,EV,hc,h7,at0,at1, -vv,i0,e,d2,s2,hl]
  ·let S2:St:={({S with es:=S.es++[.tup [.int S.day, .str "boil", .str (qN b)]]}:St) with mq:=up S.mq b false}
   have e:m_q0m [.ref 0, .str (qN b)] (HH G S)=.ok .non (HH G S2):=qmy I (by omega) hb
   refine ⟨S2.md (qN b) false,y9,?_,((I.es1 (.tup [.int S.day, .str "boil", .str (qN b)])).mdq hb false).mono (by omega),rfl,rfl,rfl⟩
   have d2:(HH G S2)[22]?=some (.dk S.dk S.dx):=rfl;have s2:(HH G S2).set 22 (.dk (dput S.dk S.dx (.inr (qN b)) (.bl false)).1 (dput S.dk S.dx (.inr (qN b)) (.bl false)).2)=HH G (S2.md (qN b) false):=rfl;generalize HH G (S2.md (qN b) false)=H3 at *;generalize HH G S2=H2 at *;generalize HH G S=H at *;simp [c7,EV,hc,h7,at0,at1, -vv,i0,e,d2,s2,hl]
 ·refine ⟨S,y9,?_,I.mono (by omega),rfl,rfl,rfl⟩
  generalize HH G S=H at *;simp [c7,EV,hc]
def cutE (S:St) (k:Nat):AV:=.tup [.int S.day, .str "cut", .str (wN k), .tup [.int 1, .int 2], .int 997]
def cutM (S:St) (k:Nat):St:={S with ks:=S.ks++wks k,xs:=S.xs++[.ref (S.tl.length+23), .ref (S.tl.length+23+1)],tl:=S.tl.set (S.aw k) (yt k {S.W k with gone:=true}).cell++wgs k,es:=S.es++[cutE S k]}
def cutS (S:St) (k:Nat):St:={S.chg k {S.W k with gone:=true} (cutE S k) with ks:=S.ks++wks k,xs:=S.xs++[.ref (S.tl.length+23), .ref (S.tl.length+23+1)],tl:=(S.chg k {S.W k with gone:=true} (cutE S k)).tl++wgs k}
theorem wj (x:Str) (h:∀ j<2,x≠wdN (wN k) j):(.inr x:Key)∉wks k:=by
 unfold wks;simp only [List.mem_cons,List.not_mem_nil,or_false,not_or];exact ⟨λz=>h 0 (by decide) (Sum.inr.inj z),λz=>h 1 (by decide) (Sum.inr.inj z)⟩
theorem Inv.cut (I:Inv B S) (hk:k<S.n):Inv (B+3) (cutS S k):=by
 have J:=I.chg hk (w:={S.W k with gone:=true}) (e:=cutE S k) (I.pl k hk) (λh=>by cases h)
 have hk4:k<4:=Nat.lt_of_lt_of_le hk I.n4;have hsome:∀ x v,dval S.ks S.xs (.inr x)=some v->dval (S.ks++wks k) (S.xs++[AV.ref (S.tl.length+23), .ref (S.tl.length+23+1)]) (.inr x)=some v:=λx v h=>by
  rw [t8 I.kl,h];rfl
 exact {J with
  w:=λj hj=>yq (J.w j hj)
  v:=λj hj=>yq (J.v j hj)
  kl:=by show (S.ks++wks k).length=(S.xs++[_,_]).length;simp [I.kl,wks]
  kb:=by have:=I.kb;show (S.ks++wks k).length<=_;simp [wks];omega
  kw:=λj hj=>hsome _ _ (I.kw j hj)
  kn:=λj hj hj4=>mr I.kl (I.kn j hj hj4) (wj _ (by
   have:∀ j<4, ∀ k<4, ∀ i<2,wN j≠wdN (wN k) i:=by decide +kernel
   exact this j hj4 k hk4))
  kd:=λj hj h i hi=>by
   have hne:j≠k:=by
    intro z;subst z;have:=h hk;simp [cutS,St.chg] at this
   refine mr I.kl (J.kd j hj h i hi) (wj _ ?_);have:∀ j<4, ∀ i<2, ∀ k<4,j≠k->∀ i' < 2,wdN (wN j) i≠wdN (wN k) i':=by decide +kernel
   exact this j hj i hi k hk4 hne
  kf:=λp hp=>hsome _ _ (I.kf p hp)
  k9:=by
   have:∀ k<4, ∀ j<2,("w9" : Str)≠wdN (wN k) j/\("q9" : Str)≠wdN (wN k) j:=by decide +kernel
   exact ⟨mr I.kl I.k9.1 (wj _ λj hj=>(this k hk4 j hj).1),mr I.kl I.k9.2 (wj _ λj hj=>(this k hk4 j hj).2)⟩}
theorem cut_br (I:Inv B S) (hB:B<=40000) (hk:k<S.n):Post G S B c k a b (cutB (EV S c k a b y9) (HH G S)):=by
 have hv:=h_v (G:=G) I hk
 by_cases hc:c % 8=7
 ·by_cases hc2:c / 32 % 4=1
  ·cases hg:(S.W k).gone with
   | true =>
    refine ⟨S,y9,?_,I.mono (by omega),rfl,rfl,rfl⟩
    simp only [yi,hg,Bool.not_true] at hv;generalize HH G S=H at *;simp [cutB,EV,hc,hc2,hv,at5]
   | false =>
    have i0:=mv (G:=G) (S:=S);have e:m_q0y [.ref 0, .str (wN k), .lst [.int 1, .int 2]] (HH G S)=.ok .non (HH G (cutM S k)):=d_cut I (by omega) hk hg
    refine ⟨cutS S k,y9,?_,I.cut hk,rfl,rfl,rfl⟩;have hlt:=qi (I.v k hk);have hv2:(HH G (cutM S k))[S.al k+23]?=some (.lst (yi (S.bd k) (S.W k))):=yq ((x6 (w_v I hk hk)).trans (I.v k hk));have hs:(HH G (cutM S k)).set (S.al k+23) (.lst (yi (S.bd k) {S.W k with gone:=true}))=HH G (cutS S k):=by
     rw [s_t];have:(cutM S k).tl.set (S.al k) (.lst (yi (S.bd k) {S.W k with gone:=true}))=(cutS S k).tl:=by
      show (S.tl.set (S.aw k) _++wgs k).set (S.al k) _=_;rw [List.set_append_left _ _ (by rw [List.length_set];exact hlt)]
      rfl
     rw [this];rfl
    generalize HH G (cutS S k)=H3 at *;generalize HH G (cutM S k)=H2 at *;generalize HH G S=H at *;simp only [yi,hg,Bool.not_false,Bool.not_true] at hv2 hs hv;simp [cutB,EV,hc,hc2,hv,at5, -vv,i0,e,hv2,hs,ixN]
  ·refine ⟨S,y9,?_,I.mono (by omega),rfl,rfl,rfl⟩
   generalize HH G S=H at *;simp [cutB,EV,hc,hc2]
 ·refine ⟨S,y9,?_,I.mono (by omega),rfl,rfl,rfl⟩
  generalize HH G S=H at *;simp [cutB,EV,hc]
end
def tf:AE:=aC qb (j0 (ni (a2 fEq (a2 fMod (a2 fDiv (aVar 2) (aK (.int 32))) (aK (.int 2))) (aK (.int 0))) (a2 fLt (a2 fIx (aVar 6) (aK (.int 4))) (a2 fIx (aLst (j0 (aK (.int 2)) (j0 (aK (.int 1)) aNil))) (aC qb (j0 (aVar 7) aNil))))) aNil)
def wk:AE:=a2 yy (a2 fIxS (aK (.str "ab")) (a2 fMod (a2 fDiv (aVar 2) (aK (.int 64))) (aK (.int 2)))) (aC x5 (j0 (a2 fIx (aVar 6) (aK (.int 4))) aNil))
def mvT:AS:=(sSeq (sAsg tf (gN 9))
 (sSeq (sAsg (a2 fAdd (a2 fIx (aVar 6) (aK (.int 4))) (aVar 9)) (gr (aVar 6) (aK (.int 4))))
 (sSeq (sAsg (a2 fIx (aLst (j0 (a2 fIx (aVar 6) (aK (.int 3))) (j0 (aVar 3) aNil))) (aVar 9)) (gr (aVar 6) (aK (.int 3))))
 (jg (jn 8 m_q0n (aVar 0) (j0 (aVar 5) (j0 wk aNil)))))))
def tj:AS:=(sIf (aAnd (aB (a2 fEq (a2 fMod (aVar 2) (aK (.int 8))) (aK (.int 3)))) (aB (a2 fIx (aVar 6) (aK (.int 5)))))
 mvT
 y0)
section
variable {G:Nat->Int×Int} {S:St} {B k a b:Nat} {c:Int} {y9:Option AV}
theorem qnm {H:AH} (d:Bool) {p:Nat} (hp:p<3):yy (.str ⟨#[if d then 98 else 97]⟩) (.str (toString (p:Int))) H=.ok (.str (sN d p)) H:=by
 rcases (show p=0\/p=1\/p=2 by omega) with rfl | rfl | rfl <;> cases d <;> kernel_rfl
theorem qnv {H:AH} (d:Bool):fIxS (.str "ab") (.int (if d then 1 else 0)) H=.ok (.str ⟨#[if d then 98 else 97]⟩) H:=by cases d <;> rfl
theorem sm3 {p:Nat} (hp:p<3):((p:Int)).natAbs.log2<1920:=by
 rcases (show p=0\/p=1\/p=2 by omega) with rfl | rfl | rfl <;> decide
theorem qni {H:AH} {p:Nat} {bd:Int} {w:WS} {env:AEnv} {K:Nat} (h2:env[2]?=some (some (.int c))) (h6:env[6]?=some (some (.ref K))) (hp:w.pl<3) (hv:H[K]?=some (.lst (yi bd w))) :
  wk env H=.ok (.str (sN (decide (c / 64 % 2=1)) w.pl)) H:=by
 have e1:(a2 fIxS (aK (.str "ab")) (a2 fMod (a2 fDiv (aVar 2) (aK (.int 64))) (aK (.int 2)))) env H=.ok (.str ⟨#[if decide (c / 64 % 2=1) then 98 else 97]⟩) H:=by
  have e:=qnv (H:=H) (decide (c / 64 % 2=1));have:(if decide (c / 64 % 2=1)=true then (1:Int) else 0)=c / 64 % 2:=by
   rcases (show c / 64 % 2=0\/c / 64 % 2=1 by omega) with h | h <;> rw [h] <;> rfl
  rw [this] at e;generalize ((⟨#[if decide (c / 64 % 2=1)=true then 98 else 97]⟩:Str))=z at *
  simp [h2, -fIxS,e]
 have e2:(aC x5 (j0 (a2 fIx (aVar 6) (aK (.int 4))) aNil)) env H=.ok (.str (toString (w.pl:Int))) H:=by
  have:w.pl.log2<1920:=sm3 hp;simp only [yi] at hv;simp [h6,hv,at4,this]
 have e3:=qnm (H:=H) (decide (c / 64 % 2=1)) hp;unfold wk;generalize (a2 fIxS (aK (.str "ab")) (a2 fMod (a2 fDiv (aVar 2) (aK (.int 64))) (aK (.int 2))))=A at *;generalize (aC x5 (j0 (a2 fIx (aVar 6) (aK (.int 4))) aNil))=A2 at *;unfold a2;rw [e1,Re.q3y,e2,Re.q3y,e3]
def stp (S:St) (c:Int) (k:Nat):Bool:=decide (c / 32 % 2=0) && decide (((S.W k).pl:Int)<(if odd k then 1 else 2))
theorem qkn (h:stp S c k=true):(S.W k).pl+1<rl k:=by
 unfold stp at h;rw [Bool.and_eq_true] at h;have:=of_decide_eq_true h.2;unfold rl;cases ho:odd k
 ·rw [ho] at this;simp at this ⊢;omega
 ·rw [ho] at this;simp at this ⊢;omega
theorem qnj (I:Inv B S) (hk:k<S.n):tf (EV S c k a b y9) (HH G S)=.ok (.int (if stp S c k then 1 else 0)) (HH G S):=by
 have hv:=h_v (G:=G) I hk;simp only [yi] at hv;generalize HH G S=H at *;unfold stp;have b2:atI [AV.int 2, .int 1] 0=some (.int 2):=rfl;have b1:atI [AV.int 2, .int 1] 1=some (.int 1):=rfl
 by_cases h:c / 32 % 2=0
 ·cases ho:odd k
  ·simp [tf,EV,h,hv,at4,ho,b2]
  ·simp [tf,EV,h,hv,at4,ho,b1]
 ·simp [tf,EV,h]
def mvW (S:St) (c:Int) (k:Nat):WS:={S.W k with pl:=(S.W k).pl+(if stp S c k then 1 else 0),pb:=decide (c / 64 % 2=1),rd:=if stp S c k then S.day else (S.W k).rd}
def mvE (S:St) (c:Int) (k:Nat):AV:=.tup [.int S.day, .str "move", .str (wN k), .str (sN (mvW S c k).pb (mvW S c k).pl)]
theorem mv_pl (I:Inv B S) (hk:k<S.n):(mvW S c k).pl<rl k:=by
 show (S.W k).pl+_<_;have:=I.pl k hk;cases h:stp S c k
 ·simpa using this
 ·have:=qkn h;simpa using this
theorem d_move (I:Inv B S) (hB:B<=40000) (hk:k<S.n) (hg:(S.W k).gone=false) {tl:AH} (ht:tl[S.aw k]?=some (yt k (S.W k)).cell) :
  m_q0n [.ref 0, .str (wN k), .str (sN (mvW S c k).pb (mvW S c k).pl)] (HH G {S with tl:=tl})=.ok .non (HH G {S with tl:=tl.set (S.aw k) (yt k (mvW S c k)).cell,es:=S.es++[mvE S c k]}):=by
 cases h:stp S c k
 ·have e:mvW S c k={S.W k with pb:=decide (c / 64 % 2=1)}:=by unfold mvW;rw [h];rfl
  have:=d_here (G:=G) I (by omega) hk hg (decide (c / 64 % 2=1)) ht
  unfold mvE;rw [e];exact this
 ·have e:mvW S c k={S.W k with pl:=(S.W k).pl+1,pb:=decide (c / 64 % 2=1),rd:=S.day}:=by unfold mvW;rw [h];rfl
  have:=d_next (G:=G) I (by omega) hk hg (decide (c / 64 % 2=1)) (qkn h) ht
  unfold mvE;rw [e];exact this
theorem qot (I:Inv B S) (hB:B<=40000) (hk:k<S.n):Post G S B c k a b (tj (EV S c k a b y9) (HH G S)):=by
 have hv:=h_v (G:=G) I hk
 by_cases hc:c % 8=3
 ·cases hg:(S.W k).gone with
  | true =>
   refine ⟨S,y9,?_,I.mono (by omega),rfl,rfl,rfl⟩
   simp only [yi,hg,Bool.not_true] at hv;generalize HH G S=H at *;simp [tj,EV,hc,hv,at5]
  | false =>
   have hbr:tj (EV S c k a b y9) (HH G S)=mvT (EV S c k a b y9) (HH G S):=by
    simp only [yi,hg,Bool.not_false] at hv;generalize HH G S=H at *;unfold tj;generalize mvT=T;simp [EV,hc,hv,at5]
   rw [hbr]
   let L1:WS:={S.W k with pl:=(mvW S c k).pl}
   let t1:AH:=S.tl.set (S.al k) (.lst (yi (S.bd k) L1))
   let t2:AH:=t1.set (S.al k) (.lst (yi (S.bd k) (mvW S c k)))
   have hw2:t2[S.aw k]?=some (yt k (S.W k)).cell:=by
    show ((S.tl.set (S.al k) _).set (S.al k) _)[S.aw k]?=_;rw [x6 (w_v I hk hk).symm,x6 (w_v I hk hk).symm];exact I.w k hk
   have hv1:(HH G {S with tl:=t1})[S.al k+23]?=some (.lst (yi (S.bd k) L1)):=zr (I.v k hk)
   have hv2:(HH G {S with tl:=t2})[S.al k+23]?=some (.lst (yi (S.bd k) (mvW S c k))):=zr (d:=.lst (yi (S.bd k) L1)) (zr (I.v k hk))
   have hs1:(HH G S).set (S.al k+23) (.lst (yi (S.bd k) L1))=HH G {S with tl:=t1}:=rfl
   have hs2:(HH G {S with tl:=t1}).set (S.al k+23) (.lst (yi (S.bd k) (mvW S c k)))=HH G {S with tl:=t2}:=rfl
   have hm:=d_move (G:=G) (c:=c) I hB hk hg hw2;have hfin:t2.set (S.aw k) (yt k (mvW S c k)).cell=(S.chg k (mvW S c k) (mvE S c k)).tl:=by
    show ((S.tl.set (S.al k) _).set (S.al k) _).set (S.aw k) _=(S.tl.set (S.aw k) _).set (S.al k) _;rw [List.set_set,List.set_comm _ _ (w_v I hk hk).symm]
   have hpl:=mv_pl (c:=c) I hk;have h3:=t9 k;refine ⟨S.chg k (mvW S c k) (mvE S c k),some (.int (if stp S c k then 1 else 0)),?_,I.chg hk hpl (λ_=>hg),rfl,rfl,rfl⟩
   unfold mvT;rw [yr (ui (qnj I hk))];have e9:(EV S c k a b y9).set 9 (some (.int (if stp S c k then 1 else 0)))=EV S c k a b (some (.int (if stp S c k then 1 else 0))):=rfl
   rw [e9];refine (yr (env':=EV S c k a b (some (.int (if stp S c k then 1 else 0)))) (h':=HH G {S with tl:=t1}) ?_).trans ?_
   ·have hpe:(((S.W k).pl:Int)+(if stp S c k then 1 else 0))=((mvW S c k).pl:Int):=by
     show _=(((S.W k).pl+(if stp S c k then 1 else 0):Nat):Int)
     cases stp S c k <;> simp
    simp only [yi] at hv;have hs1':(HH G S).set (S.al k+23) (Cell.lst [.int (S.bd k), .int (S.W k).td, .int (S.W k).wd, .int (S.W k).rd, .int ((mvW S c k).pl:Int), .bl (!(S.W k).gone)])=HH G {S with tl:=t1}:=hs1
    clear hs1
    generalize HH G {S with tl:=t1}=H1 at *
    generalize HH G S=H at *;generalize (if stp S c k=true then (1:Int) else 0)=s at *
    simp [EV,hv,at4,hpe,ixN,hs1']
   refine (yr (env':=EV S c k a b (some (.int (if stp S c k then 1 else 0)))) (h':=HH G {S with tl:=t2}) ?_).trans ?_
   ·have hat:atI [AV.int (S.W k).rd, .int S.day] (if stp S c k then 1 else 0)=some (.int (mvW S c k).rd):=by
     show _=some (AV.int (if stp S c k then S.day else (S.W k).rd))
     cases stp S c k <;> rfl
    simp only [yi] at hv1 hs2;generalize HH G {S with tl:=t2}=H2 at *
    generalize HH G {S with tl:=t1}=H1 at *
    generalize (if stp S c k=true then (1:Int) else 0)=s at *
    have hs2':List.set H1 (S.al k+23) (Cell.lst [.int (S.bd k), .int (S.W k).td, .int (S.W k).wd, .int (mvW S c k).rd, .int ((mvW S c k).pl:Int), .bl (!(S.W k).gone)])=H2:=hs2;simp [EV,hv1,at3,hat,ixN,L1,hs2']
   have hn:=qni (H:=HH G {S with tl:=t2}) (c:=c) (p:=0) (env:=EV S c k a b (some (.int (if stp S c k then 1 else 0)))) (K:=S.al k+23) rfl rfl (by omega) hv2
   refine mj (x:=.non) (p0 (x:=.ref 0) (vs:=[.str (wN k), .str (sN (mvW S c k).pb (mvW S c k).pl)]) rfl (fs:=[(18, .int S.day),(19, .ref 1),(20, .ref 2),(21, .ref 3)]) rfl (h1:=HH G {S with tl:=t2}) ?_ (hm.trans ?_))
   ·unfold j0
    show (Re.ok (AV.str (wN k)) _).bind _=_;rw [Re.q3y];rw [hn];rfl
   ·rw [hfin];rfl
 ·refine ⟨S,y9,?_,I.mono (by omega),rfl,rfl,rfl⟩
  generalize HH G S=H at *;simp [tj,EV,hc]
end
section
variable {G:Nat->Int×Int} {S:St} {B:Nat} {c:Int}
theorem w_odd {w:Nat} (hw:w<4):inA (.str (wN w)) [AV.str (Str.ofString "w1"), .str (Str.ofString "w3")]=odd w:=by
 have:∀ w<4,inA (.str (wN w)) [AV.str (Str.ofString "w1"), .str (Str.ofString "w3")]=odd w:=by decide +kernel
 exact this w hw
def pqT:AE:=aTup (j0 (a2 yy (aK (.str "p")) (aC x5 (j0 (a2 fMod (a2 fDiv (aVar 2) (aK (.int 32))) (aK (.int 2))) aNil))) (j0 (a2 yy (aK (.str "q")) (aC x5 (j0 (a2 fMod (a2 fDiv (aVar 2) (aK (.int 64))) (aK (.int 2))) aNil))) aNil))
theorem pq_n {H:AH} {x:Int} (h:x=0\/x=1):yy (.str "p") (.str (toString x)) H=.ok (.str (pN x.toNat)) H/\yy (.str "q") (.str (toString x)) H=.ok (.str (qN x.toNat)) H/\x.natAbs.log2<1920:=by
 rcases h with rfl | rfl <;> exact ⟨by kernel_rfl,by kernel_rfl,by decide⟩
theorem pq1 {env:AEnv} {H:AH} {t:AE} {x:Int} (h:x=0\/x=1) (ht:t env H=.ok (.str (toString x)) H):(a2 yy (aK (.str "p")) t) env H=.ok (.str (pN x.toNat)) H/\(a2 yy (aK (.str "q")) t) env H=.ok (.str (qN x.toNat)) H:=by
 constructor
 ·show (Re.ok (AV.str "p") H).bind _=_
  rw [Re.q3y,ht,Re.q3y];exact (pq_n h).1
 ·show (Re.ok (AV.str "q") H).bind _=_
  rw [Re.q3y,ht,Re.q3y];exact (pq_n h).2.1
theorem tup2 {a b:AE} {env:AEnv} {H:AH} {x y:AV} (ha:a env H=.ok x H) (hb:b env H=.ok y H):aTup (j0 a (j0 b aNil)) env H=.ok (.tup [x,y]) H:=by
 simp [ha,hb]
theorem pq_ok {env:AEnv} {H:AH} (h2:env[2]?=some (some (.int c))):pqT env H=.ok (.tup [.str (pN (c / 32 % 2).toNat), .str (qN (c / 64 % 2).toNat)]) H:=by
 have n1:=(pq_n (H:=H) (x:=c / 32 % 2) (by omega)).2.2
 have n2:=(pq_n (H:=H) (x:=c / 64 % 2) (by omega)).2.2
 have e1:(aC x5 (j0 (a2 fMod (a2 fDiv (aVar 2) (aK (.int 32))) (aK (.int 2))) aNil)) env H=.ok (.str (toString (c / 32 % 2))) H:=by simp [h2,n1]
 have e2:(aC x5 (j0 (a2 fMod (a2 fDiv (aVar 2) (aK (.int 64))) (aK (.int 2))) aNil)) env H=.ok (.str (toString (c / 64 % 2))) H:=by simp [h2,n2]
 exact tup2 (pq1 (by omega) e1).1 (pq1 (by omega) e2).2
theorem qoi (I:Inv B S) (hB:B<=30000) (hn:0<S.n):∃ S',m_q0t [.ref 0, .ref 21, .int c, .int S.day, .ref 22] (HH G S)=.ok .non (HH G S')/\Inv (B+15) S'/\S'.day=S.day/\S'.n=S.n:=by
 have hn0:(0:Int)<(S.n:Int):=by omega
 have k0:=Int.emod_nonneg (c / 8) (show (S.n:Int)≠0 by omega)
 have k1:=Int.emod_lt_of_pos (c / 8) hn0;obtain ⟨k,hkk⟩:=Int.eq_ofNat_of_zero_le k0;have hk:k<S.n:=by omega
 have hk4:k<4:=Nat.lt_of_lt_of_le hk I.n4;have hd:(HH G S)[21]?=some (.dk (lks S.n) (ua S)):=rfl;have hlen:(lks S.n).length=S.n:=by simp [lks]
 have hat:atI ((lks S.n).map keyA) (k:Int)=some (.str (wN k)):=uy (by
  unfold lks;rw [List.map_map,List.getElem?_map,List.getElem?_range hk];rfl)
 have hval:dval (lks S.n) (ua S) (.inr (wN k))=some (.ref (S.al k+23)):=lval I.n4 hk λk=>.ref (S.al k+23)
 have ho:=w_odd hk4;have ha:(c / 32 % 2).toNat<2:=by omega
 have hb:(c / 64 % 2).toNat<2:=by omega
 suffices hh:∃ S' y9,b_q0t [some (.ref 0),some (.ref 21),some (.int c),some (.int S.day),some (.ref 22),none,none,none,none,none] (HH G S)=.nx (EV S' c k (c / 32 % 2).toNat (c / 64 % 2).toNat y9) (HH G S')/\Inv (B+15) S'/\S'.day=S.day/\S'.n=S.n by
  obtain ⟨S',y9,e,r⟩:=hh;refine ⟨S',?_,r⟩;show (b_q0t [some (.ref 0),some (.ref 21),some (.int c),some (.int S.day),some (.ref 22),none,none,none,none,none] (HH G S)).out=_;rw [e];rfl
 unfold b_q0t;rw [yr (env':=[some (.ref 0),some (.ref 21),some (.int c),some (.int S.day),some (.ref 22),some (.str (wN k)),none,none,none,none]) (h':=HH G S) (by
  generalize HH G S=H at *;simp [hd,hlen,hn,hkk,hat])]
 rw [yr (env':=[some (.ref 0),some (.ref 21),some (.int c),some (.int S.day),some (.ref 22),some (.str (wN k)),some (.ref (S.al k+23)),none,none,none]) (h':=HH G S) (by
  generalize HH G S=H at *;simp [hd,hval])]
 rw [yr (env':=[some (.ref 0),some (.ref 21),some (.int c),some (.int S.day),some (.ref 22),some (.str (wN k)),some (.ref (S.al k+23)),some (.bl (odd k)),none,none]) (h':=HH G S) (by
  generalize HH G S=H at *;simp [vq,ho])]
 rw [yr (env':=EV S c k (c / 32 % 2).toNat (c / 64 % 2).toNat none) (h':=HH G S) (ui (pq_ok rfl))];generalize (c / 32 % 2).toNat=a at *;generalize (c / 64 % 2).toNat=b at *;obtain ⟨S1,y1,e1,I1,d1,n1,l1⟩:=qoy (G:=G) (c:=c) (a:=a) (b:=b) (y9:=none) I (by omega) hk
 have v1:∀ y,EV S1 c k a b y=EV S c k a b y:=λy=>by unfold EV;rw [d1,l1]
 obtain ⟨S2,y2,e2,I2,d2,n2,l2⟩:=qnl (G:=G) (c:=c) (a:=a) (b:=b) (y9:=y1) I1 (by omega) (by rw [n1];exact hk) ha hb
 have v2:∀ y,EV S2 c k a b y=EV S1 c k a b y:=λy=>by unfold EV;rw [d2,l2]
 obtain ⟨S3,y3,e3,I3,d3,n3,l3⟩:=qot (G:=G) (c:=c) (a:=a) (b:=b) (y9:=y2) I2 (by omega) (by rw [n2,n1];exact hk)
 have v3:∀ y,EV S3 c k a b y=EV S2 c k a b y:=λy=>by unfold EV;rw [d3,l3]
 obtain ⟨S4,y4,e4,I4,d4,n4,l4⟩:=qo2 (G:=G) (c:=c) (a:=a) (b:=b) (y9:=y3) I3 (by omega) (by rw [n3,n2,n1];exact hk) ha hb
 have v4:∀ y,EV S4 c k a b y=EV S3 c k a b y:=λy=>by unfold EV;rw [d4,l4]
 obtain ⟨S5,y5,e5,I5,d5,n5,l5⟩:=cut_br (G:=G) (c:=c) (a:=a) (b:=b) (y9:=y4) I4 (by omega) (by rw [n4,n3,n2,n1];exact hk)
 have v5:∀ y,EV S5 c k a b y=EV S4 c k a b y:=λy=>by unfold EV;rw [d5,l5]
 unfold c6 at e1;unfold p3 at e2;unfold tj mvT tf wk at e3;unfold c7 at e4;unfold cutB at e5;refine ⟨S5,y5,?_,I5.mono (by omega),by rw [d5,d4,d3,d2,d1],by rw [n5,n4,n3,n2,n1]⟩
 rw [yr e1, <- v1,yr e2, <- v2,yr e3, <- v3,yr e4, <- v4,e5, <- v5]
end
def EL (ns:List Int) (G:Nat->Int×Int) (day:Int) (y6 y7 y8 y9:Option AV):AEnv:=[some (.kst (ns.map AV.int)),some (.lst (GL G)),some (.ref 0),some (.ref 21),some (.ref 22),some (.int day),y6,y7,y8,y9,none,none,none,none,none,none,none,none]
def mkB:AS:=(sSeq (sAsg (a2 yy (aK (.str "w")) (aC x5 (j0 (aC mi (j0 (aVar 3) aNil)) aNil))) (gN 8))
 (sSeq (jg (jn 8 m_qt (aVar 2) (j0 (aVar 8) (j0 (aK (.str "m")) (j0 (a2 fIx (aLst (j0 (aK (.str "fair")) (j0 (aK (.str "blue")) aNil))) (a2 fMod (aC mi (j0 (aVar 3) aNil)) (aK (.int 2)))) (j0 (aK (.str "a0")) (j0 (aK (.int 1000)) aNil)))))))
 (gz (aVar 3) (aVar 8) (ky (j0 (aVar 5) (j0 (aVar 5) (j0 (aVar 5) (j0 (aVar 5) (j0 (aK (.int 0)) (j0 (aK (.bl true)) aNil))))))))))
def newB:AS:=(sIf (aAnd (aB (a2 fLt (aC mi (j0 (aVar 3) aNil)) (aK (.int 4)))) (aOr (aB (a2 fEq (a2 fMod (aVar 7) (aK (.int 3))) (aK (.int 0)))) (aB (a2 bj (aVar 3) du))))
 mkB
 y0)
def k7:AS:=(sSeq (sAsg (a2 fAdd (aK (.int 1)) (a2 fMod (a2 fDiv (aVar 7) (aK (.int 8))) (aK (.int 3)))) (gN 9))
 (sSeq (jg (jn 8 m_qb (aVar 2) (j0 (aVar 9) aNil)))
 (sAsg (a2 fAdd (aVar 5) (aVar 9)) (gN 5))))
def qm:AS:=(sIf (aB (a2 bo (aVar 3) du))
 (jg (aC m_q0t (j0 (aVar 2) (j0 (aVar 3) (j0 (aVar 7) (j0 (aVar 5) (j0 (aVar 4) aNil)))))))
 y0)
def qo:AS:=(sIf (aB (a2 (fIn false) (a2 fMod (aVar 7) (aK (.int 8))) (aLst (j0 (aK (.int 5)) (j0 (aK (.int 6)) aNil)))))
 k7
 qm)
def c9:AS:=(sSeq (sAsg (a2 fIx (aVar 0) (aVar 6)) (gN 7)) (sSeq newB qo))
section
variable {G:Nat->Int×Int} {S:St} {B:Nat} {c:Int} {ns:List Int} {y6 y8 y9:Option AV}
theorem h_lw:(HH G S)[21]?=some (.dk (lks S.n) (ua S)):=rfl
theorem lks_n (n:Nat):(lks n).length=n:=by simp [lks]
theorem lks_e (n:Nat):(lks n).isEmpty=decide (n=0):=by
 cases n with
 | zero=>rfl
 | succ n=>rw [qd0];simp
theorem w_name {H:AH} {n:Nat} (hn:n<4):yy (.str "w") (.str (toString (n:Int))) H=.ok (.str (wN n)) H/\((n:Int)).natAbs.log2<1920:=by
 rcases four hn with rfl | rfl | rfl | rfl <;> exact ⟨by kernel_rfl,by decide⟩
theorem sn_at {n:Nat} (hn:n<4):atI [AV.str (Str.ofString "fair"), .str (Str.ofString "blue")] ((n:Int) % 2)=some (.str (snOf n)):=by
 rcases four hn with rfl | rfl | rfl | rfl <;> rfl
theorem mk_ok (I:Inv B S) (hB:B<=40000) (hn:S.n<4) {y7:Option AV}:mkB (EL ns G S.day y6 y7 y8 y9) (HH G S)=.nx (EL ns G S.day y6 y7 (some (.str (wN S.n))) y9) (HH G (newS S)):=by
 have hd:=h_lw (G:=G) (S:=S);have hl:=lks_n S.n;have i0:=mv (G:=G) (S:=S);unfold mkB;rw [yr (env':=EL ns G S.day y6 y7 (some (.str (wN S.n))) y9) (h':=HH G S) (by
  obtain ⟨w1,w2⟩:=w_name (H:=HH G S) hn;have w2':S.n.log2<1920:=w2;refine ui (x:=.str (wN S.n)) ?_;show (Re.ok (AV.str "w") _).bind _=_;rw [Re.q3y];have:(aC x5 (j0 (aC mi (j0 (aVar 3) aNil)) aNil)) (EL ns G S.day y6 y7 y8 y9) (HH G S)=.ok (.str (toString (S.n:Int))) (HH G S):=by
   generalize HH G S=H at *;simp [EL,hd,hl,w2']
  rw [this,Re.q3y];exact w1)]
 have e:=d_new' (G:=G) I (by omega) hn
 rw [yr (env':=EL ns G S.day y6 y7 (some (.str (wN S.n))) y9) (h':=HN G S) (mj (x:=.non) (p0 (x:=.ref 0) (vs:=[.str (wN S.n), .str "m", .str (snOf S.n), .str "a0", .int 1000]) rfl (fs:=[(18, .int S.day),(19, .ref 1),(20, .ref 2),(21, .ref 3)]) rfl (h1:=HH G S) (by
  have:=sn_at hn;generalize HH G S=H at *;simp [EL,hd,hl,this]) e))]
 have h21:(HN G S++[Cell.lst (yi S.day (w0 S.day))])[21]?=some (.dk (lks S.n) (ua S)):=rfl;have hp:=bq (y:=AV.ref (S.tl.length+1+23)) (qev hn (ua S)) qor;have hs:=hn_new (G:=G) (S:=S);have hln:=hn_len (G:=G) (S:=S);have hz:S.n<sizeLine:=c8 (by omega)
 have ev:(ky (j0 (aVar 5) (j0 (aVar 5) (j0 (aVar 5) (j0 (aVar 5) (j0 (aK (.int 0)) (j0 (aK (.bl true)) aNil))))))) (EL ns G S.day y6 y7 (some (.str (wN S.n))) y9) (HN G S)=.ok (.ref (S.tl.length+1+23)) (HN G S++[Cell.lst (yi S.day (w0 S.day))]):=by
  rw [<- hln];rfl
 generalize (HN G S++[Cell.lst (yi S.day (w0 S.day))])=H2 at *;generalize (ky (j0 (aVar 5) (j0 (aVar 5) (j0 (aVar 5) (j0 (aVar 5) (j0 (aK (.int 0)) (j0 (aK (.bl true)) aNil)))))))=A at *;generalize HH G (newS S)=H3 at *;generalize HN G S=H at *;unfold gz;rw [ev];simp [EL,h21,hl,hz,hp,hs]
theorem new_ok (I:Inv B S) (hB:B<=40000):∃ S' y8',newB (EL ns G S.day y6 (some (.int c)) y8 y9) (HH G S)=.nx (EL ns G S.day y6 (some (.int c)) y8' y9) (HH G S')/\Inv (B+2) S'/\S'.day=S.day:=by
 have hd:=h_lw (G:=G) (S:=S);have hl:=lks_n S.n;have he:=lks_e S.n
 by_cases hn:S.n<4
 ·have hn':(S.n:Int)<4:=by omega
  have hc:(∃ b,newB (EL ns G S.day y6 (some (.int c)) y8 y9) (HH G S)=if b=true then mkB (EL ns G S.day y6 (some (.int c)) y8 y9) (HH G S) else .nx (EL ns G S.day y6 (some (.int c)) y8 y9) (HH G S)):=by
   refine ⟨decide (c % 3=0) || decide (S.n=0),?_⟩
   unfold newB;generalize mkB=M;generalize HH G S=H at *
   by_cases h3:c % 3=0
   ·simp [EL,hd,hl,hn',h3]
   ·simp [EL,hd,hl,hn',h3,he]
  obtain ⟨b,hc⟩:=hc;rw [hc];cases b with
  | true=>exact ⟨newS S,_,mk_ok I hB hn,I.new hn,rfl⟩
  | false=>exact ⟨S,y8,rfl,I.mono (by omega),rfl⟩
 ·refine ⟨S,y8,?_,I.mono (by omega),rfl⟩
  have hn':¬ (S.n:Int)<4:=by omega
  unfold newB;generalize mkB=M;generalize HH G S=H at *;simp [EL,hd,hl,hn']
theorem in56 (c:Int):inA (.int (c % 8)) [AV.int 5, .int 6]=decide (c % 8=5\/c % 8=6):=by
 rw [Bool.eq_iff_iff];simp [inA,eqF];omega
theorem qn3 (I:Inv B S) (hB:B<=30000):∃ S' y9',qo (EL ns G S.day y6 (some (.int c)) y8 y9) (HH G S)=.nx (EL ns G S'.day y6 (some (.int c)) y8 y9') (HH G S')/\Inv (B+15) S':=by
 have hi:=in56 c
 by_cases hc:c % 8=5\/c % 8=6
 ·rw [decide_eq_true hc] at hi
  have hbr:qo (EL ns G S.day y6 (some (.int c)) y8 y9) (HH G S)=k7 (EL ns G S.day y6 (some (.int c)) y8 y9) (HH G S):=by
   unfold qo;generalize k7=M1;generalize qm=M2;generalize HH G S=H at *;simp [EL,hi,vq]
  rw [hbr];have t0:(1:Int)<=1+c / 8 % 3/\1+c / 8 % 3<=3:=by omega
  obtain ⟨t,ht⟩:=Int.eq_ofNat_of_zero_le (show 0<=1+c / 8 % 3 by omega)
  obtain ⟨S',e,I',hd,hn⟩:=qn1 (G:=G) I (by omega) (t:=t) (by omega) (by omega)
  refine ⟨S',some (.int (t:Int)),?_,I'.mono (by omega)⟩
  unfold k7;rw [yr (env':=EL ns G S.day y6 (some (.int c)) y8 (some (.int (t:Int)))) (h':=HH G S) (by
   generalize HH G S=H at *;simp [EL,ht])]
  rw [yr (env':=EL ns G S.day y6 (some (.int c)) y8 (some (.int (t:Int)))) (h':=HH G S') (mj (x:=.non) (p0 (x:=.ref 0) (vs:=[.int (t:Int)]) rfl (fs:=[(18, .int S.day),(19, .ref 1),(20, .ref 2),(21, .ref 3)]) rfl (h1:=HH G S) rfl e))];rw [hd];generalize HH G S'=H at *;simp [EL]
 ·rw [decide_eq_false hc] at hi
  have hbr:qo (EL ns G S.day y6 (some (.int c)) y8 y9) (HH G S)=qm (EL ns G S.day y6 (some (.int c)) y8 y9) (HH G S):=by
   unfold qo;generalize k7=M1;generalize qm=M2;generalize HH G S=H at *;simp [EL,hi,vq]
  rw [hbr];have hd:=h_lw (G:=G) (S:=S);have he:=lks_e S.n
  by_cases hn:S.n=0
  ·refine ⟨S,y9,?_,I.mono (by omega)⟩
   rw [decide_eq_true hn] at he;unfold qm;generalize m_q0t=M;generalize HH G S=H at *;simp [EL,hd,he]
  ·obtain ⟨S',e,I',hd',hn'⟩:=qoi (G:=G) (c:=c) I hB (by omega)
   refine ⟨S',y9,?_,I'⟩;rw [decide_eq_false hn] at he;rw [hd'];unfold qm;generalize m_q0t=M at *;generalize HH G S'=H2 at *;generalize HH G S=H at *;simp [EL,hd,he,e]
theorem qny (I:Inv B S) (hB:B<=20000) {j:Nat} (hj:j<ns.length) {y7:Option AV}:∃ S' y7' y8' y9',c9 (EL ns G S.day (some (.int (j:Int))) y7 y8 y9) (HH G S)=.nx (EL ns G S'.day (some (.int (j:Int))) y7' y8' y9') (HH G S')/\Inv (B+17) S':=by
 obtain ⟨S1,y8',e1,I1,d1⟩:=new_ok (G:=G) (c:=cz ns j) (ns:=ns) (y6:=some (.int (j:Int))) (y8:=y8) (y9:=y9) I (by omega)
 obtain ⟨S2,y9',e2,I2⟩:=qn3 (G:=G) (c:=cz ns j) (ns:=ns) (y6:=some (.int (j:Int))) (y8:=y8') (y9:=y9) I1 (by omega)
 refine ⟨S2,some (.int (cz ns j)),y8',y9',?_,I2.mono (by omega)⟩
 unfold c9;rw [yr (env':=EL ns G S.day (some (.int (j:Int))) (some (.int (cz ns j))) y8 y9) (h':=HH G S) (by
  have:=cz_at hj;generalize HH G S=H at *;simp [EL,this])]
 rw [yr e1, <- d1,e2]
end
def wA (k:Nat):AV:=.str (wN k)
theorem qjs {α:Type} {all:List AV} {g:AV->AEnv->AH->Re AEnv} {te:AE} {be:AEnv} {h:AH} {k f:α->AV} {z:AV} {c:Nat}:∀ (ys:List α) (acc:List AV),(∀ y∈ys, ∃ env,g (k y) be h=.ok env h/\te env h=.ok (f y) h)->(∃ env,g z be h=.ok env h/\te env h=.ex c h) ->
  lcLX none all g aYes te be (ys.map k++[z]) acc h=.ex c h
 | [],acc,_,⟨env,e1,e2⟩=>by
  rw [List.map_nil,List.nil_append,lcLX,if_pos xx,e1];simp [e2]
 | y::ys,acc,hs,hz=>by
  obtain ⟨env,e1,e2⟩:=hs y (by simp)
  have ih:=qjs (all:=all) ys (acc++[f y]) (λy hy=>hs y (List.mem_cons_of_mem _ hy)) hz
  rw [List.map_cons,List.cons_append,lcLX,if_pos xx,e1];simp [e2,ih]
theorem qoa {α:Type} {all:List AV} {g:AV->AEnv->AH->Re AEnv} {te:AE} {be:AEnv} {h:AH} {k f:α->AV} (ys:List α) (hs:∀ y∈ys, ∃ env,g (k y) be h=.ok env h/\te env h=.ok (f y) h) :
  lcLX none all g aYes te be (ys.map k) [] h=.ok (ys.map f) h:=qd4 _ _ _ (gh xx ys [] hs)
theorem qcy {i:Nat} {te:AE} {env:AEnv} {h:AH} {xs:List AV} {r:Re (List AV)} (hi:env[i]?=some (some (.lst xs))) (hl:xs.length<=1000) (e:lcLX none xs (gN 0) aYes te (bEnv 1 [0] env) xs [] h=r):(aLcX 1 [0] (iLst (aVar i)) (gN 0) aYes te) env h=r.bind λys h=>.ok (.lst ys) h:=by
 have:xs.length<=sizeLine:=Nat.le_trans hl (by decide)
 simp [hi,this,e]
section
variable {G:Nat->Int×Int} {S:St} {B:Nat} {d:Int} {hd x y:AV} {L:List Nat}
def knW:AE:=jn 8 m_qa (aVar 1) (j0 (aVar 0) (j0 (aK (.str "wheel")) aNil))
theorem kn_w (I:Inv B S) {k:Nat} (hk:k<S.n):m_qa [.ref 0, .str (wN k), .str "wheel"] (HH G S)=.ok (.ref (S.aw k+23)) (HH G S):=
 vj (c:=6) xq.qc xq.qd (I.kw k hk) (h_w I hk) rfl
theorem kn_9 (I:Inv B S):m_qa [.ref 0, .str "w9", .str "wheel"] (HH G S)=.ex 23 (HH G S):=qc6 xq.qc xq.qd I.k9.1 (by decide) (by decide +kernel) (by decide)
theorem kn_p (I:Inv B S) {a:Nat} (ha:a<2):m_qa [.ref 0, .str (pN a), .str "brine"] (HH G S)=.ok (.ref (17+2 * a)) (HH G S):=vj (c:=4) xq.qc xq.qd (k_p I ha) (h_p ha) rfl
theorem kn_q (I:Inv B S) {a:Nat} (ha:a<2):m_qa [.ref 0, .str (qN a), .str "cloth"] (HH G S)=.ok (.ref (18+2 * a)) (HH G S):=vj (c:=4) xq.qc xq.qd (k_q I ha) (h_q ha) rfl
theorem cp_pq:∀ a<2,cpOk (pN a)=true/\cpOk (qN a)=true:=by decide +kernel
theorem kn_pc (I:Inv B S) {a:Nat} (ha:a<2):m_qa [.ref 0, .str (pN a), .str "cloth"] (HH G S)=.ex 23 (HH G S):=
 qbj (c:=4) (k2:="brine") xq.qc xq.qd (k_p I ha) (h_p ha) rfl (by decide) (we ha).1 (cp_pq a ha).1 (by decide)
theorem kn_qb (I:Inv B S) {a:Nat} (ha:a<2):m_qa [.ref 0, .str (qN a), .str "brine"] (HH G S)=.ex 23 (HH G S):=
 qbj (c:=4) (k2:="cloth") xq.qc xq.qd (k_q I ha) (h_q ha) rfl (by decide) (we ha).2 (cp_pq a ha).2 (by decide)
theorem kn_q9 (I:Inv B S):m_qa [.ref 0, .str "q9", .str "cloth"] (HH G S)=.ex 23 (HH G S):=qc6 xq.qc xq.qd I.k9.2 (by decide) (by decide +kernel) (by decide)
theorem qkj (I:Inv B S) {k:Nat} (hk:k<S.n):∃ env,gN 0 (wA k) [none,some (.ref 0)] (HH G S)=.ok env (HH G S)/\knW env (HH G S)=.ok (.ref (S.aw k+23)) (HH G S):=
 ⟨_,rfl,p0 (x:=.ref 0) (vs:=[.str (wN k), .str "wheel"]) rfl mv rfl (kn_w I hk)⟩
def ET (d:Int) (xs:List AV) (hd x y:AV) (y6 y7 y8 y9:Option AV):AEnv:=[some (.ref 0),some (.lst xs),some (.int d),some hd,some x,some y,y6,y7,y8,y9]
theorem task_9 (I:Inv B S) (hL:∀ k∈L,k<S.n) (hl:L.length<=900):m_q05 [.ref 0, .lst (L.map wA++[.str "w9"]), .int d,hd,x,y] (HH G S)=.ex 23 (HH G S):=by
 have e:=qjs (all:=L.map wA++[.str "w9"]) (g:=gN 0) (te:=knW) (be:=[none,some (.ref 0)]) (h:=HH G S) (k:=wA) (f:=λk=>.ref (S.aw k+23)) (z:=.str "w9") (c:=23) L [] (λk hk=>qkj I (hL k hk))
  ⟨_,rfl,p0 (x:=.ref 0) (vs:=[.str "w9", .str "wheel"]) rfl mv rfl (kn_9 I)⟩
 have e2:=qcy (i:=1) (te:=knW) (env:=ET d (L.map wA++[.str "w9"]) hd x y none none none none) (h:=HH G S) rfl (by simp;omega) e
 show (b_q05 (ET d (L.map wA++[.str "w9"]) hd x y none none none none) (HH G S)).out=_;unfold knW at e2;unfold b_q05 sSeq sAsg;rw [e2];rfl
def fnd (S:St) (L:List Nat):List AV:=L.map λk=>.ref (S.aw k+23)
def tkA:AS:=(sAsg (aLcX 1 [0] (iLst (aVar 1)) (gN 0) aYes (jn 8 m_qa (aVar 1) (j0 (aVar 0) (j0 (aK (.str "wheel")) aNil)))) (gN 6))
def tkB:AS:=(sAsg (aLst (j0 (jn 8 m_qa (aVar 0) (j0 (aVar 4) (j0 (aK (.str "brine")) aNil))) (j0 (jn 8 m_qa (aVar 0) (j0 (aVar 5) (j0 (aK (.str "cloth")) aNil))) aNil))) (gN 7))
def tkC:AS:=(sFor (iLst (aVar 6)) (gN 8) (jg (aC m_qr (j0 (aVar 8) aNil))))
theorem qfd (I:Inv B S) (hL:∀ k∈L,k<S.n) (hl:L.length<=900):tkA (ET d (L.map wA) hd x y none none none none) (HH G S)=.nx (ET d (L.map wA) hd x y (some (.lst (fnd S L))) none none none) (HH G S):=by
 have e:=qoa (all:=L.map wA) (g:=gN 0) (te:=knW) (be:=[none,some (.ref 0)]) (h:=HH G S) (k:=wA) (f:=λk=>.ref (S.aw k+23)) L (λk hk=>qkj I (hL k hk))
 have e2:=qcy (i:=1) (te:=knW) (env:=ET d (L.map wA) hd x y none none none none) (h:=HH G S) rfl (by simp;omega) e
 unfold knW at e2;exact ui e2
theorem tkB_ex (hx:m_qa [.ref 0,x, .str "brine"] (HH G S)=.ex 23 (HH G S)\/(∃ z,m_qa [.ref 0,x, .str "brine"] (HH G S)=.ok z (HH G S))/\m_qa [.ref 0,y, .str "cloth"] (HH G S)=.ex 23 (HH G S)) {xs:List AV} {y6:Option AV} :
  tkB (ET d xs hd x y y6 none none none) (HH G S)=.ex 23 (HH G S):=by
 have i0:=mv (G:=G) (S:=S);rcases hx with h1 | ⟨⟨z,h1⟩,h2⟩
 ·generalize HH G S=H at *
  simp [tkB,ET, -vv,i0,h1]
 ·generalize HH G S=H at *
  simp [tkB,ET, -vv,i0,h1,h2]
theorem ql2 {z u:AV} (h1:m_qa [.ref 0,x, .str "brine"] (HH G S)=.ok z (HH G S)) (h2:m_qa [.ref 0,y, .str "cloth"] (HH G S)=.ok u (HH G S)) {xs:List AV} {y6:Option AV} :
  tkB (ET d xs hd x y y6 none none none) (HH G S)=.nx (ET d xs hd x y y6 (some (.lst [z,u])) none none) (HH G S):=by
 have i0:=mv (G:=G) (S:=S);generalize HH G S=H at *;simp [tkB,ET, -vv,i0,h1,h2]
theorem qfr (I:Inv B S) (hL:∀ k∈L,k<S.n) (hl:L.length<=900) (hx:m_qa [.ref 0,x, .str "brine"] (HH G S)=.ex 23 (HH G S)\/(∃ z,m_qa [.ref 0,x, .str "brine"] (HH G S)=.ok z (HH G S))/\m_qa [.ref 0,y, .str "cloth"] (HH G S)=.ex 23 (HH G S)) :
  m_q05 [.ref 0, .lst (L.map wA), .int d,hd,x,y] (HH G S)=.ex 23 (HH G S):=by
 show (b_q05 (ET d (L.map wA) hd x y none none none none) (HH G S)).out=_;have e1:=qfd (G:=G) (d:=d) (hd:=hd) (x:=x) (y:=y) I hL hl;have e2:=tkB_ex (d:=d) (hd:=hd) (y6:=some (.lst (fnd S L))) (xs:=L.map wA) hx;unfold tkA at e1;unfold b_q05;rw [yr e1];unfold tkB at e2;unfold sSeq;rw [e2];rfl
theorem ql9 (I:Inv B S) (hL:∀ k∈L,k<S.n) (hl:L.length<=900) (hg:L.all (λk=>!(S.W k).gone)=false) {z u:AV} (h1:m_qa [.ref 0,x, .str "brine"] (HH G S)=.ok z (HH G S)) (h2:m_qa [.ref 0,y, .str "cloth"] (HH G S)=.ok u (HH G S)) :
  m_q05 [.ref 0, .lst (L.map wA), .int d,hd,x,y] (HH G S)=.ex 25 (HH G S):=by
 show (b_q05 (ET d (L.map wA) hd x y none none none none) (HH G S)).out=_;have e1:=qfd (G:=G) (d:=d) (hd:=hd) (x:=x) (y:=y) I hL hl;have e2:=ql2 (d:=d) (hd:=hd) (y6:=some (.lst (fnd S L))) (xs:=L.map wA) h1 h2;have e3:=qhj (h:=HH G S) (wt:=none) (all:=fnd S L) (g:=gN 8) (body:=jg (aC m_qr (j0 (aVar 8) aNil))) (k:=λk:Nat=>AV.ref (S.aw k+23)) (P:=λenv=>∃ y8,env=ET d (L.map wA) hd x y (some (.lst (fnd S L))) (some (.lst [z,u])) y8 none) (c:=25) (good:=λk=>!(S.W k).gone) rfl L (ET d (L.map wA) hd x y (some (.lst (fnd S L))) (some (.lst [z,u])) none none) ⟨none,rfl⟩ hg (by
  rintro k hk env ⟨y8,rfl⟩;have hw:=h_w (G:=G) I (hL k hk);refine ⟨_,rfl,λhgo=>⟨_,mj (x:=.non) (o7 (vs:=[.ref (S.aw k+23)]) rfl (qj (c:=6) hw (by
   have:(S.W k).gone=false:=by simpa using hgo
   show some (AV.bl (S.W k).gone)=_;rw [this]))),_,rfl⟩,λhgo=>?_⟩
  have hh:=qon (nm:=wN k) (c:=6) hw (by
   have:(S.W k).gone=true:=by simpa using hgo
   show some (AV.bl (S.W k).gone)=_;rw [this]) rfl (qja k (Nat.lt_of_lt_of_le (hL k hk) I.n4))
  unfold jg;rw [o7 (vs:=[.ref (S.aw k+23)]) rfl hh];rfl)
 have e3':tkC (ET d (L.map wA) hd x y (some (.lst (fnd S L))) (some (.lst [z,u])) none none) (HH G S)=.ex 25 (HH G S):=e3;unfold tkA at e1;unfold b_q05;rw [yr e1];unfold tkB at e2;rw [yr e2];unfold tkC at e3';unfold sSeq;rw [e3'];rfl
theorem tkC_ok (I:Inv B S) (hL:∀ k∈L,k<S.n) (hg:∀ k∈L,(S.W k).gone=false) {z:AV}:∃ y8,tkC (ET d (L.map wA) hd x y (some (.lst (fnd S L))) (some z) none none) (HH G S)=.nx (ET d (L.map wA) hd x y (some (.lst (fnd S L))) (some z) y8 none) (HH G S):=by
 obtain ⟨e2,h2,r1,rfl,y8,rfl⟩:=nz (wt:=none) (all:=fnd S L) (g:=gN 8) (body:=jg (aC m_qr (j0 (aVar 8) aNil))) (k:=λk:Nat=>AV.ref (S.aw k+23)) (P:=λ_ env h=>h=HH G S/\∃ y8,env=ET d (L.map wA) hd x y (some (.lst (fnd S L))) (some z) y8 none) (λ_ _ _ _=>xx) L 0 (ET d (L.map wA) hd x y (some (.lst (fnd S L))) (some z) none none) (HH G S) ⟨rfl,none,rfl⟩ (by
  rintro j k hj env h ⟨rfl,y8,rfl⟩;have hk:=List.mem_of_getElem? hj;have hw:=h_w (G:=G) I (hL k hk);exact ⟨_,_,_,_,rfl, .inl (mj (x:=.non) (o7 (vs:=[.ref (S.aw k+23)]) rfl (qj (c:=6) hw (by
   show some (AV.bl (S.W k).gone)=_;rw [hg k hk])))),rfl,_,rfl⟩)
 exact ⟨y8,r1⟩
theorem cb {H:AH} {day:Int} {xs:List AV} {c:Nat} {w:Str} (h0:H[0]?=some (yh day 1 2 3)) (e:m_q05 [.ref 0, .lst xs, .int d,hd,x,y] H=.ex c H) (hw:wdT c=some w):m_qj [.ref 0, .lst xs, .int d,hd, .tup [x,y]] H=.ok (.str w) H:=by
 simp only [yh] at h0;simp [m_qj,b_qj,h0,e,hw,at0,at1]
theorem qpb {H H2:AH} {day:Int} {xs:List AV} {z:AV} (h0:H[0]?=some (yh day 1 2 3)) (e:m_q05 [.ref 0, .lst xs, .int d,hd,x,y] H=.ok z H2):m_qj [.ref 0, .lst xs, .int d,hd, .tup [x,y]] H=.ok z H2:=by
 simp only [yh] at h0;simp [m_qj,b_qj,h0,e,at0,at1]
end
theorem ga {G X:AH} {k:Nat}:(G++X)[G.length+k]?=X[k]?:=by
 rw [List.getElem?_append_right (by omega),Nat.add_sub_cancel_left]
theorem ga0 {G X:AH}:(G++X)[G.length]?=X[0]?:=ga (k:=0)
theorem gs {G X:AH} {k:Nat} {c:Cell}:(G++X).set (G.length+k) c=G++X.set k c:=by
 rw [List.set_append_right _ _ (by omega),Nat.add_sub_cancel_left]
theorem gs0 {G X:AH} {c:Cell}:(G++X).set G.length c=G++X.set 0 c:=gs (k:=0)
theorem qg4 {h:AH} {m tg tu wg wa la st:AV} {xs:List AV} (hs:∀ z,vx (h++[.ins 9 z]) st=some xs) :
  m_q0l [.ref h.length,m,tg,tu,wg,wa,st,la] (h++[.ins 9 []])=.ok .non (h++[.ins 9 [(5,m),(6,tg),(22,tu),(7,wg),(23,wa),(9, .ref (h.length+1)),(24,la)], .lst xs]):=by
 have g1:∀ z,(h++[Cell.ins 9 z])[h.length]?=some (.ins 9 z):=λz=>ga0
 have g2:∀ z u,(h++[Cell.ins 9 z,u])[h.length]?=some (.ins 9 z):=λz u=>ga0
 have s1:∀ z y,(h++[Cell.ins 9 z]).set h.length y=h++[y]:=λz y=>gs0
 have s2:∀ z u y,(h++[Cell.ins 9 z,u]).set h.length y=h++[y,u]:=λz u y=>gs0
 have a1:∀ z,(h++[Cell.ins 9 z])++[Cell.lst xs]=h++[Cell.ins 9 z, .lst xs]:=λz=>by simp
 have l1:∀ z,(h++[Cell.ins 9 z]).length=h.length+1:=λz=>by simp
 simp [-zt, -t7,m_q0l,b_q0l,g1,g2,s1,s2,flG, -vx,hs,a1,putA]
def stL (G:Nat->Int×Int) (S:St) (k:Nat):List AV:=(if odd k then [gp (G 2),gp (G 3)] else [gp (G 2),gp (G 3),gp (G 4)]).drop (S.W k).pl
def jF (G:Nat->Int×Int) (S:St) (k a:Nat):List (Nat×AV):=[(5, .bl (odd k)),(6,tgOf G k),(22, .int (S.day - (S.W k).td)),(7,wgOf G k),(23, .int (S.day - (S.W k).wd)),(9, .ref a),(24, .int (S.day - (S.W k).rd))]
def JL (G:Nat->Int×Int) (S:St):Nat->List Nat->AH
 | _,[]=>[]
 | b,k::r=>.ins 9 (jF G S k (b+1))::.lst (stL G S k)::JL G S (b+2) r
def jrs:Nat->List Nat->List AV
 | _,[]=>[]
 | b,_::r=>.ref b::jrs (b+2) r
section
variable {G:Nat->Int×Int} {S:St} {B k:Nat}
theorem qff:∀ (L:List Nat) (b:Nat),(JL G S b L).length=2 * L.length
 | [],b=>rfl
 | k::r,b=>by rw [JL,List.length_cons,List.length_cons,qff r,List.length_cons];omega
theorem qhi:∀ (L:List Nat) (b:Nat),(jrs b L).length=L.length
 | [],b=>rfl
 | k::r,b=>by rw [jrs,List.length_cons,qhi r,List.length_cons]
theorem ql3:∀ (L:List Nat) (b i:Nat),i<L.length->(jrs b L)[i]?=some (.ref (b+2 * i))
 | [],b,i,h=>by simp at h
 | k::r,b,0,h=>rfl
 | k::r,b,i+1,h=>by
  rw [jrs,List.getElem?_cons_succ,ql3 r (b+2) i (by simpa using h)]
  congr 2;omega
theorem qi3:∀ (L:List Nat) (b i:Nat) (h:i<L.length),(JL G S b L)[2 * i]?=some (.ins 9 (jF G S L[i] (b+2 * i+1)))/\(JL G S b L)[2 * i+1]?=some (.lst (stL G S L[i]))
 | [],b,i,h=>by simp at h
 | k::r,b,0,h=>⟨rfl,rfl⟩
 | k::r,b,i+1,h=>by
  obtain ⟨e1,e2⟩:=qi3 r (b+2) i (by simpa using h)
  rw [show 2 * (i+1)=2 * i+1+1 by omega,JL]
  refine ⟨?_,?_⟩
  ·rw [List.getElem?_cons_succ,List.getElem?_cons_succ,e1,List.getElem_cons_succ,show b+2+2 * i+1=b+(2 * i+1+1)+1 by omega]
  ·rw [List.getElem?_cons_succ,List.getElem?_cons_succ,e2,List.getElem_cons_succ]
theorem st_cut {xs:List AV} {p:Nat} (hp:p<xs.length):cutA xs (some (p:Int)) none=xs.drop p:=by
 unfold cutA;rw [HT.ic,Nat.min_eq_left (by omega)]
 show (xs.drop p).take (xs.length - p)=_;rw [<- List.length_drop,List.take_length]
theorem qjq:(if odd k then [gp (G 2),gp (G 3)] else [gp (G 2),gp (G 3),gp (G 4)]).length=rl k:=by
 unfold rl;cases odd k <;> rfl
theorem qnh:stOf G k=.lst (if odd k then [gp (G 2),gp (G 3)] else [gp (G 2),gp (G 3),gp (G 4)]):=by
 unfold stOf;cases odd k <;> rfl
structure Wat (G:Nat->Int×Int) (S:St) (h:AH) (k:Nat):Prop where
 w:h[S.aw k+23]?=some (yt k (S.W k)).cell
 s:h[13+k % 2]?=some (.ins 3 (vw (snOf k) (odd k) (tgOf G k) (wgOf G k) (rsOf k) (stOf G k)))
 p:(S.W k).pl<rl k
theorem Wat.app {h:AH} (w:Wat G S h k) (g:AH):Wat G S (h++g) k:=⟨yq w.w,yq w.s,w.p⟩
theorem qnt {h:AH} (hw:Wat G S h k):m_q18 [.ref (S.aw k+23), .int S.day] h=.ok (.ref h.length) (h++[.ins 9 (jF G S k (h.length+1)), .lst (stL G S k)]):=by
 have hj:=qg4 (h:=h) (m:=.bl (odd k)) (tg:=tgOf G k) (tu:=.int (S.day - (S.W k).td)) (wg:=wgOf G k) (wa:=.int (S.day - (S.W k).wd)) (la:=.int (S.day - (S.W k).rd)) (st:=.lst (stL G S k)) (xs:=stL G S k) (λ_=>rfl)
 have h1:=hw.w;have h2:=hw.s;have hc:=st_cut (xs:=if odd k then [gp (G 2),gp (G 3)] else [gp (G 2),gp (G 3),gp (G 4)]) (p:=(S.W k).pl) (by rw [qjq];exact hw.p)
 rw [qnh] at h2
 change cutA _ _ _=stL G S k at hc
 generalize (if odd k then [gp (G 2),gp (G 3)] else [gp (G 2),gp (G 3),gp (G 4)])=Q at *
 generalize stL G S k=Q2 at *;simp only [Wh.cell,yt,xh] at h1;simp only [vw] at h2;simp [m_q18,b_q18,h1,h2,List.lookup,hc,hj,jF]
theorem qm8 {h:AH} {a:Nat} (hj:h[a]?=some (.ins 9 (jF G S k (a+1)))) (ha:h[a+1]?=some (.lst (stL G S k))):m_q15 [.ref a] h=.ok (.ref h.length) (h++[.ins 9 (jF G S k (h.length+1)), .lst (stL G S k)]):=by
 have hi:=qg4 (h:=h) (m:=.bl (odd k)) (tg:=tgOf G k) (tu:=.int (S.day - (S.W k).td)) (wg:=wgOf G k) (wa:=.int (S.day - (S.W k).wd)) (la:=.int (S.day - (S.W k).rd)) (st:=.ref (a+1)) (xs:=stL G S k) (λy=>by
  simp only [vx];rw [yq ha])
 generalize stL G S k=Q2 at *;simp only [jF] at hj;simp [m_q15,b_q15,hj,List.lookup,hi,jF]
def tm:AE:=aC m_q18 (j0 (aVar 0) (j0 (aFld 18 (aVar 1)) aNil))
theorem qgv {all:List AV}:∀ (L:List Nat) (acc:List AV) (h:AH),h[0]?=some (yh S.day 1 2 3)->(∀ k∈L,Wat G S h k) ->
  lcLX none all (gN 0) aYes tm [none,some (.ref 0)] (fnd S L) acc h=.ok (acc++jrs h.length L) (h++JL G S h.length L)
 | [],acc,h,h0,hw=>by simp [fnd,lcLX,xx,jrs,JL]
 | k::r,acc,h,h0,hw=>by
  have e:=qnt (hw k (by simp))
  have ih:=qgv (all:=all) r (acc++[.ref h.length]) (h++[.ins 9 (jF G S k (h.length+1)), .lst (stL G S k)]) (yq h0) λy hy=>(hw y (List.mem_cons_of_mem _ hy)).app _
  have hl:(h++[Cell.ins 9 (jF G S k (h.length+1)), .lst (stL G S k)]).length=h.length+2:=by simp
  rw [hl] at ih;have te:tm [some (.ref (S.aw k+23)),some (.ref 0)] h=.ok (.ref h.length) (h++[.ins 9 (jF G S k (h.length+1)), .lst (stL G S k)]):=by
   simp only [yh] at h0;simp [tm,h0,List.lookup,e]
  show lcLX none all (gN 0) aYes tm [none,some (.ref 0)] (AV.ref (S.aw k+23)::fnd S r) acc h=_;rw [lcLX,if_pos xx];show (Re.ok [some (AV.ref (S.aw k+23)),some (.ref 0)] h).noex.bind _=_;simp only [Re.qdf,Re.q3y,aYes,if_true];rw [te,Re.q3y,ih];simp [jrs,JL]
theorem qdp {all:List AV}:∀ (L:List Nat) (as:List Nat) (acc:List AV) (h:AH),as.length=L.length->(∀ (i:Nat) (h1:i<as.length) (h2:i<L.length),h[as[i]]?=some (.ins 9 (jF G S L[i] (as[i]+1)))/\h[as[i]+1]?=some (.lst (stL G S L[i]))) ->
  lcL none all (gN 0) aYes (aC m_q15 (j0 (aVar 0) aNil)) [none] (as.map AV.ref) acc h=.ok (acc++jrs h.length L) (h++JL G S h.length L)
 | [],as,acc,h,hl,hj=>by
  obtain rfl:as=[]:=List.eq_nil_of_length_eq_zero hl;simp [lcL,xx,jrs,JL]
 | k::r,[],acc,h,hl,hj=>by simp at hl
 | k::r,a::as,acc,h,hl,hj=>by
  obtain ⟨j1,j2⟩:=hj 0 (by simp) (by simp)
  have e:=qm8 (G:=G) (S:=S) (k:=k) (h:=h) (a:=a) j1 j2;have ih:=qdp (all:=all) r as (acc++[.ref h.length]) (h++[.ins 9 (jF G S k (h.length+1)), .lst (stL G S k)]) (by simpa using hl) λi h1 h2=>by
   obtain ⟨q1,q2⟩:=hj (i+1) (by simpa using h1) (by simpa using h2)
   simp only [List.getElem_cons_succ] at q1 q2;exact ⟨yq q1,yq q2⟩
  have hlen:(h++[Cell.ins 9 (jF G S k (h.length+1)), .lst (stL G S k)]).length=h.length+2:=by simp
  rw [hlen] at ih;rw [List.map_cons,lcL,if_pos xx];show (Re.ok [some (AV.ref a)] h).bind _=_;simp only [Re.q3y,aYes,if_true];have te:aC m_q15 (j0 (aVar 0) aNil) [some (.ref a)] h=.ok (.ref h.length) (h++[.ins 9 (jF G S k (h.length+1)), .lst (stL G S k)]):=o7 (vs:=[.ref a]) rfl e;rw [te,Re.q3y,ih];simp [jrs,JL]
end
def jas:Nat->List Nat->List Nat
 | _,[]=>[]
 | b,_::r=>b::jas (b+2) r
theorem qgm:∀ (L:List Nat) (b:Nat),jrs b L=(jas b L).map AV.ref
 | [],b=>rfl
 | k::r,b=>by rw [jrs,jas,List.map_cons,qgm r]
theorem qgo:∀ (L:List Nat) (b:Nat),(jas b L).length=L.length
 | [],b=>rfl
 | k::r,b=>by rw [jas,List.length_cons,qgo r,List.length_cons]
theorem qhk:∀ (L:List Nat) (b i:Nat) (h:i<(jas b L).length),(jas b L)[i]=b+2 * i
 | [],b,i,h=>by simp [jas] at h
 | k::r,b,0,h=>rfl
 | k::r,b,i+1,h=>by
  have:=qhk r (b+2) i (by simpa [jas] using h)
  simp only [jas,List.getElem_cons_succ];rw [this];omega
section
variable {G:Nat->Int×Int} {S:St} {B k:Nat} {d most:Int} {iz:List AV} {m:Bool} {L:List Nat}
def hsA (iz:List AV) (most:Int):List AV:=[.tup [.lst iz, .int most]]
def TK (G:Nat->Int×Int) (S:St) (b:Nat) (d:Int) (iz:List AV) (most:Int) (m:Bool) (L:List Nat):AH:=
 .ins 10 [(25, .int d),(26, .ref (b+1)),(27, .ref (b+2+2 * L.length)),(5, .bl m)]::.lst (hsA iz most)::(JL G S (b+2) L++[.lst (jrs (b+2) L)])
theorem qjv {h:AH} {as:List Nat} (hl:as.length=L.length) (hL:L.length<=900) (hj:∀ (i:Nat) (h1:i<as.length) (h2:i<L.length),h[as[i]]?=some (.ins 9 (jF G S L[i] (as[i]+1)))/\h[as[i]+1]?=some (.lst (stL G S L[i]))) :
  m_q0e [.ref h.length, .int d, .lst (hsA iz most), .lst (as.map AV.ref), .bl m] (h++[.ins 10 []])=.ok .non (h++TK G S h.length d iz most m L):=by
 have z1:(1:Nat)<=sizeLine:=by decide
 have za:as.length<=sizeLine:=by rw [hl];exact Nat.le_trans hL (by decide)
 let e0:AEnv:=[some (.ref h.length),some (.int d),some (.lst (hsA iz most)),some (.lst (as.map AV.ref)),some (.bl m)]
 have hb:b_q0e e0 (h++[.ins 10 []])=.nx e0 (h++TK G S h.length d iz most m L):=by
  unfold b_q0e;refine (yr (env':=e0) (h':=h++[.ins 10 [(25, .int d)]]) ?_).trans ?_
  ·have g1:∀ z,(h++[Cell.ins 10 z])[h.length]?=some (.ins 10 z):=λz=>ga0
   have s1:∀ z y,(h++[Cell.ins 10 z]).set h.length y=h++[y]:=λz y=>gs0
   simp [-zt, -t7,e0,g1,s1,flG,putA]
  refine (yr (env':=e0) (h':=h++[.ins 10 [(25, .int d),(26, .ref (h.length+1))], .lst (hsA iz most)]) ?_).trans ?_
  ·have g1:∀ z u,(h++[Cell.ins 10 z,u])[h.length]?=some (.ins 10 z):=λz u=>ga0
   have s1:∀ z u y,(h++[Cell.ins 10 z,u]).set h.length y=h++[y,u]:=λz u y=>gs0
   simp [-zt, -t7,e0,g1,s1,flG,putA,hsA,z1,lcL,xx,bEnv]
  have hc:=qdp (all:=as.map AV.ref) L as [] (h++[.ins 10 [(25, .int d),(26, .ref (h.length+1))], .lst (hsA iz most)]) hl λi h1 h2=>⟨yq (hj i h1 h2).1,yq (hj i h1 h2).2⟩
  have hlen:(h++[Cell.ins 10 [(25, .int d),(26, .ref (h.length+1))], .lst (hsA iz most)]).length=h.length+2:=by simp
  rw [hlen,List.nil_append] at hc;refine (yr (env':=e0) (h':=h++(.ins 10 [(25, .int d),(26, .ref (h.length+1)),(27, .ref (h.length+2+2 * L.length))]::.lst (hsA iz most)::(JL G S (h.length+2) L++[.lst (jrs (h.length+2) L)]))) ?_).trans ?_
  ·have hjl:=qff (G:=G) (S:=S) L (h.length+2)
   generalize JL G S (h.length+2) L=J at *;generalize jrs (h.length+2) L=R at *;have hl2:(h++[Cell.ins 10 [(25, .int d),(26, .ref (h.length+1))], .lst (hsA iz most)]++J).length=h.length+2+2 * L.length:=by rw [List.length_append,hlen,hjl]
   have g1:∀ z,(h++[Cell.ins 10 z, .lst (hsA iz most)]++J++[Cell.lst R])[h.length]?=some (.ins 10 z):=λz=>by
    rw [List.append_assoc,List.append_assoc];exact ga0
   have s1:∀ z y,(h++[Cell.ins 10 z, .lst (hsA iz most)]++J++[Cell.lst R]).set h.length y=h++(y::.lst (hsA iz most)::(J++[.lst R])):=λz y=>by
    rw [List.append_assoc,List.append_assoc];exact gs0
   have ev:(aLcC 1 [] (iLst (aVar 3)) (gN 0) aYes (aC m_q15 (j0 (aVar 0) aNil))) e0 (h++[.ins 10 [(25, .int d),(26, .ref (h.length+1))], .lst (hsA iz most)])=.ok (.ref (h.length+2+2 * L.length)) (h++[Cell.ins 10 [(25, .int d),(26, .ref (h.length+1))], .lst (hsA iz most)]++J++[Cell.lst R]):=by
    generalize (aC m_q15 (j0 (aVar 0) aNil))=M at *;generalize (h++[Cell.ins 10 [(25,AV.int d),(26,AV.ref (h.length+1))],Cell.lst (hsA iz most)])=H1 at *;generalize hW:H1++J=H2 at *;simp [e0,za,bEnv,hc,hl2]
   generalize (aLcC 1 [] (iLst (aVar 3)) (gN 0) aYes (aC m_q15 (j0 (aVar 0) aNil)))=M at *;have g2:=g1 [(25, .int d),(26, .ref (h.length+1))];have s2:=s1 [(25, .int d),(26, .ref (h.length+1))];generalize (h++[Cell.ins 10 [(25,AV.int d),(26,AV.ref (h.length+1))],Cell.lst (hsA iz most)]++J++[Cell.lst R])=H3 at *;unfold ym;rw [ev];simp [e0,g2,s2,flG,putA]
  ·unfold TK
   generalize JL G S (h.length+2) L++[Cell.lst (jrs (h.length+2) L)]=J at *;have g1:∀ z u,(h++(Cell.ins 10 z::u::J))[h.length]?=some (.ins 10 z):=λz u=>ga0
   have s1:∀ z u y,(h++(Cell.ins 10 z::u::J)).set h.length y=h++(y::u::J):=λz u y=>gs0
   simp [e0,g1,s1,flG,putA]
 show (b_q0e e0 (h++[.ins 10 []])).out=_;rw [hb];rfl
theorem any2 {H:AH} {z u:Nat} {n1 n2 k1 k2:Str} {a b:Bool} (h1:H[z]?=some (yf k1 n1 a)) (h2:H[u]?=some (yf k2 n2 b)) {env:AEnv} (h7:env[7]?=some (some (.lst [.ref z, .ref u]))) :
  (aC fAny (j0 (aLc 1 [] (iLst (aVar 7)) (gN 0) aYes (aFld 5 (aVar 0))) aNil)) env H=.ok (.bl (a || b)) H:=by
 have z2:(2:Nat)<=sizeLine:=by decide
 simp only [yf] at h1 h2;simp [h7,lcL,xx,bEnv,z2,h1,h2,List.lookup]
theorem wat_of (I:Inv B S) (hk:k<S.n):Wat G S (HH G S) k:=⟨h_w I hk,qi1,I.pl k hk⟩
theorem qo8 (I:Inv B S) (hL:∀ k∈L,k<S.n) (hl:L.length<=900) (hg:∀ k∈L,(S.W k).gone=false) {a b:Nat} (ha:a<2) (hb:b<2) :
  m_q05 [.ref 0, .lst (L.map wA), .int d, .lst (hsA iz most), .str (pN a), .str (qN b)] (HH G S) =
   .ok (.ref (HH G S++JL G S (HH G S).length L).length) (HH G S++JL G S (HH G S).length L++TK G S (HH G S++JL G S (HH G S).length L).length d iz most (S.mp a || S.mq b) L):=by
 have e1:=qfd (G:=G) (d:=d) (hd:=.lst (hsA iz most)) (x:=.str (pN a)) (y:=.str (qN b)) I hL hl;have e2:=ql2 (d:=d) (hd:=.lst (hsA iz most)) (y6:=some (.lst (fnd S L))) (xs:=L.map wA) (kn_p (G:=G) I ha) (kn_q (G:=G) I hb);obtain ⟨y8,e3⟩:=tkC_ok (G:=G) (d:=d) (hd:=.lst (hsA iz most)) (x:=.str (pN a)) (y:=.str (qN b)) (z:=.lst [.ref (17+2 * a), .ref (18+2 * b)]) I hL hg;have e4:=qgv (G:=G) (all:=fnd S L) L [] (HH G S) (xq (G:=G) (S:=S)).qc (λk hk=>wat_of I (hL k hk))
 have e5:=qcy (i:=6) (te:=tm) (env:=ET d (L.map wA) (.lst (hsA iz most)) (.str (pN a)) (.str (qN b)) (some (.lst (fnd S L))) (some (.lst [.ref (17+2 * a), .ref (18+2 * b)])) y8 none) (h:=HH G S) rfl (by simp [fnd];omega) e4
 have han:=any2 (H:=HH G S++JL G S (HH G S).length L) (yq (h_p ha)) (yq (h_q hb)) (env:=ET d (L.map wA) (.lst (hsA iz most)) (.str (pN a)) (.str (qN b)) (some (.lst (fnd S L))) (some (.lst [.ref (17+2 * a), .ref (18+2 * b)])) y8 (some (.lst (jrs (HH G S).length L)))) rfl;have ti:=qjv (G:=G) (S:=S) (d:=d) (iz:=iz) (most:=most) (m:=S.mp a || S.mq b) (h:=HH G S++JL G S (HH G S).length L) (L:=L) (as:=jas (HH G S).length L) (qgo L _) hl (λi h1 h2=>by
  rw [qhk];obtain ⟨q1,q2⟩:=qi3 (G:=G) (S:=S) L (HH G S).length i h2;exact ⟨by rw [ga];exact q1,by rw [show (HH G S).length+2 * i+1=(HH G S).length+(2 * i+1) by omega,ga];exact q2⟩)
 rw [<- qgm] at ti;show (b_q05 (ET d (L.map wA) (.lst (hsA iz most)) (.str (pN a)) (.str (qN b)) none none none none) (HH G S)).out=_;unfold tkA at e1;unfold tkB at e2;unfold tkC at e3;unfold tm at e5;unfold b_q05;rw [yr e1,yr e2,yr e3,yr (ui e5)];have e9:(ET d (L.map wA) (.lst (hsA iz most)) (.str (pN a)) (.str (qN b)) (some (.lst (fnd S L))) (some (.lst [.ref (17+2 * a), .ref (18+2 * b)])) y8 none).set 9 (some (.lst ([]++jrs (HH G S).length L)))=ET d (L.map wA) (.lst (hsA iz most)) (.str (pN a)) (.str (qN b)) (some (.lst (fnd S L))) (some (.lst [.ref (17+2 * a), .ref (18+2 * b)])) y8 (some (.lst (jrs (HH G S).length L))):=rfl;rw [e9];generalize (aC fAny (j0 (aLc 1 [] (iLst (aVar 7)) (gN 0) aYes (aFld 5 (aVar 0))) aNil))=A at *;generalize (HH G S++JL G S (HH G S).length L)=H1 at *;generalize jrs (HH G S).length L=R at *;simp only [ET] at han ⊢;simp [han,ti]
def rawA (G:Nat->Int×Int) (S:St) (k:Nat):AV:=.tup [.bl (odd k),tgOf G k, .int (S.day - (S.W k).td),wgOf G k, .int (S.day - (S.W k).wd), .lst (stL G S k), .int (S.day - (S.W k).rd)]
theorem st_le:(stL G S k).length<=3:=by
 unfold stL;rw [List.length_drop,qjq];have:=t9 k;omega
theorem qlw {F:AH} {a:Nat} (ha:F[a]?=some (.lst (stL G S k))):m_qh 6 [.tup [.bl (odd k),tgOf G k, .int (S.day - (S.W k).td),wgOf G k, .int (S.day - (S.W k).wd), .ref a, .int (S.day - (S.W k).rd)],rawA G S k] F=.ok (.bl true) F:=by
 have h5:m_qh 5 [.ref a, .lst (stL G S k)] F=.ok (.bl true) F:=qh2 (n:=3) (by have:=st_le (G:=G) (S:=S) (k:=k);omega) (.inr ⟨a,rfl,ha⟩) (.inl rfl) (by
  refine qdg λx hx=>?_
  have:=List.mem_of_mem_drop hx;cases ho:odd k <;> rw [ho] at this <;> simp at this
  ·rcases this with rfl | rfl | rfl <;> rfl
  ·rcases this with rfl | rfl <;> rfl)
 have t4:okD 4 (tgOf G k)=true:=by unfold tgOf;cases odd k <;> rfl
 have w4:okD 4 (wgOf G k)=true:=by unfold wgOf;cases odd k <;> rfl
 unfold rawA;refine qle (n:=5) (by simp) (by simp) λi h1 h2=>?_
 have hi:i<7:=by simpa using h1
 rcases (show i=0\/i=1\/i=2\/i=3\/i=4\/i=5\/i=6 by omega) with rfl | rfl | rfl | rfl | rfl | rfl | rfl
 ·exact same_self F 4 (.bl _) rfl
 ·exact same_self F 4 _ t4
 ·exact same_self F 4 (.int _) rfl
 ·exact same_self F 4 _ w4
 ·exact same_self F 4 (.int _) rfl
 ·exact h5
 ·exact same_self F 4 (.int _) rfl
end
def tsB:AS:=(sSeq (sAsg (a2 fIx (aFld 27 (aVar 0)) (aVar 2)) (gN 3))
 (sSeq (sIf (aNot (aB (a1 (fIsO 9) (aVar 3))))
 (sRet (aK (.bl false)))
 y0)
 (sSeq (sAsg (aTup (j0 (aFld 5 (aVar 3)) (j0 (aFld 6 (aVar 3)) (j0 (aFld 22 (aVar 3)) (j0 (aFld 7 (aVar 3)) (j0 (aFld 23 (aVar 3)) (j0 (aFld 9 (aVar 3)) (j0 (aFld 24 (aVar 3)) aNil)))))))) (gN 4))
 (sIf (aNot (aB (aC (m_qh 6) (j0 (aVar 4) (j0 (a2 fIx (a2 fIx (aVar 1) (aK (.int 2))) (aVar 2)) aNil)))))
 (sRet (aK (.bl false)))
 y0))))
section
variable {G:Nat->Int×Int} {S:St} {B k:Nat} {d most:Int} {iz:List AV} {m:Bool} {L:List Nat} {F:AH} {t t1 t2 b:Nat}
def spec (G:Nat->Int×Int) (S:St) (d most:Int) (iz:List AV) (m:Bool) (L:List Nat):AV:=.tup [.int d, .lst (hsA iz most), .lst (L.map (rawA G S)), .bl m]
theorem qo3 (hT:F[t]?=some (.ins 10 [(25, .int d),(26, .ref t1),(27, .ref t2),(5, .bl m)])) (h2:F[t2]?=some (.lst (jrs b L))) (hj:∀ (i:Nat) (h:i<L.length),F[b+2 * i]?=some (.ins 9 (jF G S L[i] (b+2 * i+1)))/\F[b+2 * i+1]?=some (.lst (stL G S L[i]))) {j:Nat} (hjl:j<L.length) {y3 y4:Option AV} :
  ∃ y3' y4',tsB [some (.ref t),some (spec G S d most iz m L),some (.int (j:Int)),y3,y4] F=.nx [some (.ref t),some (spec G S d most iz m L),some (.int (j:Int)),y3',y4'] F:=by
 obtain ⟨j1,j2⟩:=hj j hjl;have a1:atI (jrs b L) (j:Int)=some (.ref (b+2 * j)):=uy (ql3 L b j hjl);have a2':atI (L.map (rawA G S)) (j:Int)=some (rawA G S L[j]):=uy (by rw [List.getElem?_map,List.getElem?_eq_getElem hjl];rfl)
 have rs:=qlw (G:=G) (S:=S) (k:=L[j]) j2;refine ⟨some (.ref (b+2 * j)),some (.tup [.bl (odd L[j]),tgOf G L[j], .int (S.day - (S.W L[j]).td),wgOf G L[j], .int (S.day - (S.W L[j]).wd), .ref (b+2 * j+1), .int (S.day - (S.W L[j]).rd)]),?_⟩;simp only [jF] at j1;unfold spec;generalize rawA G S L[j]=R at *;generalize List.map (rawA G S) L=RS at *;generalize jrs b L=JR at *;generalize hsA iz most=HS at *;simp [tsB,hT,h2,a1,a2',j1,List.lookup,at2,rs]
theorem qkm (hT:F[t]?=some (.ins 10 [(25, .int d),(26, .ref t1),(27, .ref t2),(5, .bl m)])) (h1:F[t1]?=some (.lst (hsA iz most))) (h2:F[t2]?=some (.lst (jrs b L))) (hl:L.length<=900) (hiz:iz.length<=900) (hok:okDs 2 iz=true)
  (hj:∀ (i:Nat) (h:i<L.length),F[b+2 * i]?=some (.ins 9 (jF G S L[i] (b+2 * i+1)))/\F[b+2 * i+1]?=some (.lst (stL G S L[i]))) :
  m_q00 [.ref t,spec G S d most iz m L] F=.ok (.bl true) F:=by
 have s1:m_qh 6 [.int d, .int d] F=.ok (.bl true) F:=same_self F 5 (.int d) rfl;have s2:m_qh 6 [.bl m, .bl m] F=.ok (.bl true) F:=same_self F 5 (.bl m) rfl;have s3:m_qh 6 [.ref t1, .lst (hsA iz most)] F=.ok (.bl true) F:=qh2 (n:=4) (by simp [hsA]) (.inr ⟨t1,rfl,h1⟩) (.inl rfl) (by
  simp [hsA,okDs,okD,hok];omega)
 obtain ⟨e2,h',r1,rfl,y2,y3,y4,rfl⟩:=qdh (n:=L.length) (i:=2) (a:=aC fLen (j0 (a2 fIx (aVar 1) (aK (.int 2))) aNil)) (body:=tsB) (P:=λ_ env h=>h=F/\∃ y2 y3 y4,env=[some (.ref t),some (spec G S d most iz m L),y2,y3,y4])
  (env:=[some (.ref t),some (spec G S d most iz m L),none,none,none]) (h:=F) (by omega) (by
   have:(L.map (rawA G S)).length=L.length:=List.length_map _;unfold spec;generalize List.map (rawA G S) L=RS at *;generalize hsA iz most=HS at *;simp [at2,this]) ⟨rfl,none,none,none,rfl⟩ (by
  rintro j hjl env h ⟨rfl,y2,y3,y4,rfl⟩;obtain ⟨y3',y4',e⟩:=qo3 (G:=G) (S:=S) (most:=most) (iz:=iz) hT h2 hj hjl (y3:=y3) (y4:=y4);exact ⟨_,_,e,rfl,_,_,_,rfl⟩)
 have hb:b_q00 [some (.ref t),some (spec G S d most iz m L),none,none,none] h'=.rt (.bl true) h':=by
  have hjl:=qhi L b;have hml:(L.map (rawA G S)).length=L.length:=List.length_map _;unfold b_q00;rw [yr (env':=[some (.ref t),some (spec G S d most iz m L),none,none,none]) (h':=h') (by
   unfold spec;generalize List.map (rawA G S) L=RS at *;generalize hsA iz most=HS at *;simp [hT,List.lookup,at0,at3,s1,s2])]
  rw [yr (env':=[some (.ref t),some (spec G S d most iz m L),none,none,none]) (h':=h') (by
   unfold spec;generalize List.map (rawA G S) L=RS at *;generalize hsA iz most=HS at *;simp [hT,List.lookup,at1,s3])]
  rw [yr (env':=[some (.ref t),some (spec G S d most iz m L),none,none,none]) (h':=h') (by
   unfold spec;generalize List.map (rawA G S) L=RS at *;generalize hsA iz most=HS at *;generalize jrs b L=JR at *;simp [hT,List.lookup,at2,h2,hjl,hml])]
  unfold tsB at r1;rw [yr r1];rfl
 show (b_q00 [some (.ref t),some (spec G S d most iz m L),none,none,none] h').out=_;rw [hb];rfl
def rwB:AS:=(sSeq (sAsg (a2 gy (aVar 1) (aVar 5)) (gN 6))
 (sSeq (sPar 7 8 (j0 (a2 fIx (aVar 2) (aK (.int 0))) (j0 (a2 fIx (aVar 2) (aK (.int 1))) aNil)))
 (sSeq (sIf (aB (a2 (fIn false) (aVar 5) (aLst (j0 (aK (.str "w1")) (j0 (aK (.str "w3")) aNil)))))
 (sPar 7 8 (j0 (a2 fIx (aVar 2) (aK (.int 1))) (j0 (a2 fIx (aVar 2) (aK (.int 0))) aNil)))
 y0)
 (sSeq (sAsg (aSl fSlL (aVar 2) (u0 (a2 fAdd (aK (.int 2)) (a2 fIx (aVar 6) (aK (.int 4))))) (u0 (a2 fSub (aK (.int 5)) (aC qb (j0 (a2 (fIn false) (aVar 5) (aLst (j0 (aK (.str "w1")) (j0 (aK (.str "w3")) aNil)))) aNil))))) (gN 9))
 (jg (aMtL zf (aVar 4) (j0 (aTup (j0 (a2 (fIn false) (aVar 5) (aLst (j0 (aK (.str "w1")) (j0 (aK (.str "w3")) aNil)))) (j0 (aVar 7) (j0 (a2 fSub (aVar 3) (a2 fIx (aVar 6) (aK (.int 1)))) (j0 (aVar 8) (j0 (a2 fSub (aVar 3) (a2 fIx (aVar 6) (aK (.int 2)))) (j0 (aVar 9) (j0 (a2 fSub (aVar 3) (a2 fIx (aVar 6) (aK (.int 3)))) aNil)))))))) aNil)))))))
def ER (G:Nat->Int×Int) (S:St) (L:List Nat) (p:Nat) (y5 y6 y7 y8 y9:Option AV):AEnv:=[some (.lst (L.map wA)),some (.ref 21),some (.lst (GL G)),some (.int S.day),some (.ref p),y5,y6,y7,y8,y9]
theorem g_cut (hp:(S.W k).pl<rl k):cutA (GL G) (some (2+((S.W k).pl:Int))) (some (5 - (if odd k=true then 1 else 0)))=stL G S k:=by
 unfold stL rl at *;cases ho:odd k
 ·rw [ho] at hp
  have:(S.W k).pl=0\/(S.W k).pl=1\/(S.W k).pl=2:=by simp at hp;omega
  rcases this with h | h | h <;> rw [h] <;> rfl
 ·rw [ho] at hp
  have:(S.W k).pl=0\/(S.W k).pl=1:=by simp at hp;omega
  rcases this with h | h <;> rw [h] <;> rfl
theorem g01:atI (GL G) 0=some (gp (G 0))/\atI (GL G) 1=some (gp (G 1)):=⟨rfl,rfl⟩
theorem qo5 (I:Inv B S) (hk:k<S.n) {p:Nat} {acc:List AV} (h21:F[21]?=some (.dk (lks S.n) (ua S))) (hv:F[S.al k+23]?=some (.lst (yi (S.bd k) (S.W k)))) (hp:F[p]?=some (.lst acc)) (hl:acc.length<=900) {y6 y7 y8 y9:Option AV} :
  ∃ y6' y7' y8' y9',rwB (ER G S L p (some (wA k)) y6 y7 y8 y9) F=.nx (ER G S L p (some (wA k)) y6' y7' y8' y9') (F.set p (.lst (acc++[rawA G S k]))):=by
 have hk4:k<4:=Nat.lt_of_lt_of_le hk I.n4;have ho:=w_odd hk4;have hd:dval (lks S.n) (ua S) (.inr (wN k))=some (.ref (S.al k+23)):=lval I.n4 hk λk=>.ref (S.al k+23)
 have hc:=g_cut (G:=G) (I.pl k hk);obtain ⟨g0,g1⟩:=g01 (G:=G);have hz:acc.length<sizeLine:=c8 (by omega)
 refine ⟨some (.ref (S.al k+23)),some (tgOf G k),some (wgOf G k),some (.lst (stL G S k)),?_⟩;simp only [yi] at hv;unfold ER rawA tgOf wgOf wA;generalize stL G S k=Q at *;generalize GL G=GG at *;cases hod:odd k
 ·rw [hod] at ho hc
  simp only [Bool.false_eq_true,if_false] at hc
  change cutA GG (some (2+((S.W k).pl:Int))) (some 5)=Q at hc
  simp [rwB,h21,hd,g0,g1,ho,vq,hv,at4,at1,at2,at3,hc,hp,hz]
 ·rw [hod] at ho hc
  simp only [if_true] at hc
  change cutA GG (some (2+((S.W k).pl:Int))) (some 4)=Q at hc
  simp [rwB,h21,hd,g0,g1,ho,vq,hv,at4,at1,at2,at3,hc,hp,hz]
theorem qiu (n:Nat) (hp:(S.W k).pl<rl k):closed n (rawA G S k)=true:=by
 unfold rawA tgOf wgOf stL rl at *;cases ho:odd k
 ·rw [ho] at hp
  have:(S.W k).pl=0\/(S.W k).pl=1\/(S.W k).pl=2:=by simp at hp;omega
  rcases this with h | h | h <;> rw [h] <;> rfl
 ·rw [ho] at hp
  have:(S.W k).pl=0\/(S.W k).pl=1:=by simp at hp;omega
  rcases this with h | h <;> rw [h] <;> rfl
theorem qbi (I:Inv B S) (n:Nat):∀ (L:List Nat),(∀ k∈L,k<S.n)->vp n (L.map (rawA G S))=true
 | [],_=>rfl
 | k::r,h=>by
  rw [List.map_cons,vp,qiu n (I.pl k (h k (by simp))),qbi I n r λy hy=>h y (List.mem_cons_of_mem _ hy)];rfl
theorem qns (I:Inv B S) (hL:∀ k∈L,k<S.n) (hl:L.length<=800) (h21:F[21]?=some (.dk (lks S.n) (ua S))) (hv:∀ k<S.n,F[S.al k+23]?=some (.lst (yi (S.bd k) (S.W k)))) :
  m_q0u [.lst (L.map wA), .ref 21, .lst (GL G), .int S.day] F=.ok (.lst (L.map (rawA G S))) F:=by
 refine qlr (g:=[.dead]) ?_ (qbi I _ L hL);have hz:L.length<=sizeLine:=Nat.le_trans hl (by decide)
 obtain ⟨e2,h2,r1,rfl,y5,y6,y7,y8,y9,rfl⟩:=nz (wt:=none) (all:=L.map wA) (g:=gN 5) (body:=rwB) (k:=wA) (P:=λi env h=>h=F++[.lst ((L.take i).map (rawA G S))]/\∃ y5 y6 y7 y8 y9,env=ER G S L F.length y5 y6 y7 y8 y9) (λ_ _ _ _=>xx) L 0 (ER G S L F.length none none none none none) (F++[.lst []]) ⟨rfl,_,_,_,_,_,rfl⟩ (by
  rintro j k hj env h ⟨rfl,y5,y6,y7,y8,y9,rfl⟩;rw [Nat.zero_add];have hk:=hL k (List.mem_of_getElem? hj);have hjl:=(List.getElem?_eq_some_iff.mp hj).1;obtain ⟨z6,z7,z8,z9,e⟩:=qo5 (G:=G) (L:=L) (F:=F++[.lst ((L.take j).map (rawA G S))]) (p:=F.length) (acc:=(L.take j).map (rawA G S)) I hk (yq h21) (yq (hv k hk)) (zt _ _) (by simp;omega) (y6:=y6) (y7:=y7) (y8:=y8) (y9:=y9)
  refine ⟨_,_,_,_,rfl, .inl e,?_,_,_,_,_,_,rfl⟩;rw [t7,List.take_add_one,hj];simp)
 rw [Nat.zero_add,List.take_length] at r1;have hb:b_q0u [some (.lst (L.map wA)),some (.ref 21),some (.lst (GL G)),some (.int S.day),none,none,none,none,none,none] F=.rt (.lst (L.map (rawA G S))) (F++[.dead]):=by
  unfold b_q0u;refine (yr (env':=ER G S L F.length none none none none none) (h':=F++[.lst []]) rfl).trans ?_;have r2:(sFor (iLst (aVar 0)) (gN 5) rwB) (ER G S L F.length none none none none none) (F++[.lst []])=.nx (ER G S L F.length y5 y6 y7 y8 y9) (F++[.lst (L.map (rawA G S))]):=by
   unfold sFor;exact r1
  unfold rwB at r2;rw [yr r2];have:=zt F (.lst (L.map (rawA G S)));have h2:=t7 F (.lst (L.map (rawA G S))) .dead;generalize L.map (rawA G S)=R at *;generalize F++[Cell.lst R]=F2 at *;generalize F++[Cell.dead]=F3 at *;simp [ER,this,h2]
 show (b_q0u [some (.lst (L.map wA)),some (.ref 21),some (.lst (GL G)),some (.int S.day),none,none,none,none,none,none] F).out=_;rw [hb];rfl
end
def St.ap (S:St) (Y:AH):St:={S with tl:=S.tl++Y}
section
variable {G:Nat->Int×Int} {S:St} {B k a b:Nat} {d most:Int} {iz:List AV} {L:List Nat} {Y:AH}
theorem Inv.ap (I:Inv B S) (Y:AH):Inv B (S.ap Y):={I with w:=λj hj=>yq (I.w j hj),v:=λj hj=>yq (I.v j hj)}
theorem h_ap:HH G S++Y=HH G (S.ap Y):=rfl
def Told (G:Nat->Int×Int) (S:St) (L:List Nat) (d most:Int) (iz:List AV) (m:Bool) (x:AV) (F:AH):Prop:=
 (x=.str "gone" /\ L.all (λk=>!(S.W k).gone)=false) \/
 (L.all (λk=>!(S.W k).gone)=true/\∃ t t1 t2 b,x=.ref t/\F[t]?=some (.ins 10 [(25, .int d),(26, .ref t1),(27, .ref t2),(5, .bl m)])/\F[t1]?=some (.lst (hsA iz most))/\F[t2]?=some (.lst (jrs b L)) /\
  ∀ (i:Nat) (h:i<L.length),F[b+2 * i]?=some (.ins 9 (jF G S L[i] (b+2 * i+1)))/\F[b+2 * i+1]?=some (.lst (stL G S L[i])))
theorem told (I:Inv B S) (hL:∀ k∈L,k<S.n) (hl:L.length<=800) (ha:a<2) (hb:b<2) :
  ∃ x Y,m_qj [.ref 0, .lst (L.map wA), .int d, .lst (hsA iz most), .tup [.str (pN a), .str (qN b)]] (HH G S)=.ok x (HH G (S.ap Y))/\Told G S L d most iz (S.mp a || S.mq b) x (HH G (S.ap Y)):=by
 have hc:=(xq (G:=G) (S:=S)).qc;cases hg:L.all (λk=>!(S.W k).gone) with
 | false =>
  have e:=ql9 (G:=G) (d:=d) (hd:=.lst (hsA iz most)) I hL (by omega) hg (kn_p (G:=G) I ha) (kn_q (G:=G) I hb)
  refine ⟨.str "gone",[],?_, .inl ⟨rfl,hg⟩⟩;have:HH G (S.ap [])=HH G S:=by rw [<- h_ap,List.append_nil]
  rw [this];exact cb hc e rfl
 | true =>
  have hg':∀ k∈L,(S.W k).gone=false:=λk hk=>by
   have:=List.all_eq_true.mp hg k hk;simpa using this
  have e:=qo8 (G:=G) (d:=d) (iz:=iz) (most:=most) I hL (by omega) hg' ha hb
  refine ⟨.ref (HH G S++JL G S (HH G S).length L).length,JL G S (HH G S).length L++TK G S (HH G S++JL G S (HH G S).length L).length d iz most (S.mp a || S.mq b) L,?_, .inr ⟨hg,?_⟩⟩
  ·rw [<- h_ap, <- List.append_assoc]
   exact qpb hc e
  rw [<- h_ap, <- List.append_assoc];generalize (HH G S++JL G S (HH G S).length L)=H1;have hj:=qff (G:=G) (S:=S) L (H1.length+2);refine ⟨H1.length,H1.length+1,H1.length+2+2 * L.length,H1.length+2,rfl,ga0,ga (k:=1),?_,λi h=>?_⟩
  ·rw [Nat.add_assoc,ga]
   show (_::_::(JL G S (H1.length+2) L++[Cell.lst (jrs (H1.length+2) L)]))[2+2 * L.length]?=_;rw [show 2+2 * L.length=(JL G S (H1.length+2) L).length+1+1 by omega]
   exact zt _ _
  ·obtain ⟨q1,q2⟩:=qi3 (G:=G) (S:=S) L (H1.length+2) i h
   constructor
   ·rw [show H1.length+2+2 * i=H1.length+(2 * i+1+1) by omega,ga]
    rw [show H1.length+(2 * i+1+1)+1=H1.length+2+2 * i+1 by omega]
    exact yq q1
   ·rw [show H1.length+2+2 * i+1=H1.length+(2 * i+1+1+1) by omega,ga]
    exact yq q2
theorem qn2 (n:Nat):(lks n).map keyA=(List.range n).map wA:=by
 unfold lks;rw [List.map_map];rfl
theorem wo (L:List Nat) (lo hi:Option Int):∃ L':List Nat,cutA (L.map wA) lo hi=L'.map wA/\(∀ k∈L',k∈L)/\L'.length<=L.length:=by
 unfold cutA;rw [<- List.map_drop, <- List.map_take];exact ⟨_,rfl,λk hk=>List.mem_of_mem_drop (List.mem_of_mem_take hk),by rw [List.length_take,List.length_drop];omega⟩
theorem qfn {x y:AE} {env:AEnv} {h:AH} {xs:List AV} {s:Int} (hx:x env h=.ok (.lst xs) h) (hy:y env h=.ok (.int s) h) (hs:s=1\/s = -1):c0 x y env h=.ok (.lst (if s=1 then xs else xs.reverse)) h:=by
 unfold c0;rw [hx,Re.q3y,hy,Re.q3y];rcases hs with rfl | rfl <;> rfl
end
def GF (ns:List Int) (k:Nat):Int×Int:=gapF (cz ns k)
def EZ (ns:List Int) (G:Nat->Int×Int) (day:Int) (y6 y7 y8 y9 y10 y11 y12 y13 y14 y15 y16 y17:Option AV):AEnv:=[some (.kst (ns.map AV.int)),some (.lst (GL G)),some (.ref 0),some (.ref 21),some (.ref 22),some (.int day),y6,y7,y8,y9,y10,y11,y12,y13,y14,y15,y16,y17]
section
variable {ns:List Int} {G:Nat->Int×Int} {S:St} {B:Nat}
theorem a_one {a:AE} {env:AEnv} {h:AH} {x:AV} (e:a env h=.ok x h):j0 a aNil env h=.ok [x] h:=by
 unfold j0;rw [e];rfl
theorem qnz {x1:Option AV} {r:AEnv} {h:AH}:(aLc 1 [0] (vy (aK (.int 5))) (gN 0) aYes (aC m_q11 (j0 (aC m_q0r (j0 (aVar 1) (j0 (aVar 0) aNil))) aNil))) (some (.kst (ns.map AV.int))::r) h=.ok (.lst (GL (GF ns))) h:=by
 have hl:=gh (wt:=none) (all:=Z.intsFrom 0 5) (g:=gN 0) (te:=aC m_q11 (j0 (aC m_q0r (j0 (aVar 1) (j0 (aVar 0) aNil))) aNil)) (be:=[none,some (.kst (ns.map AV.int))]) (h:=h) (k:=λi:Nat=>AV.int (i:Int)) (f:=λi=>gp (GF ns i)) xx (List.range 5) [] λi hi =>
  ⟨_,rfl,o7 (vs:=[.int (cz ns i)]) (by
   have e:(aC m_q0r (j0 (aVar 1) (j0 (aVar 0) aNil))) [some (.int (i:Int)),some (.kst (ns.map AV.int))] h=.ok (.int (cz ns i)) h:=o7 (vs:=[.kst (ns.map AV.int), .int (i:Int)]) rfl (qii ns i h);exact a_one e) (gap_eq (cz ns i) h)⟩
 have hr:rng1 (.int 5) h=.ok (Z.intsFrom 0 5,none) h:=rfl;have z5:(Z.intsFrom 0 5).length<=sizeLine:=by decide
 rw [<- bw] at hl;have hb:bEnv 1 [0] (some (.kst (ns.map AV.int))::r)=[none,some (.kst (ns.map AV.int))]:=rfl;have hfin:([]:List AV)++(List.range 5).map (λi=>gp (GF ns i))=GL (GF ns):=rfl
 rw [hfin] at hl;generalize (aC m_q11 (j0 (aC m_q0r (j0 (aVar 1) (j0 (aVar 0) aNil))) aNil))=M at *;generalize GL (GF ns)=GG at *;generalize Z.intsFrom 0 5=R at *;simp [hr,z5,hb,hl]
theorem qo0 (k:Nat):k8 (GF ns k).1 (GF ns k).2:=qm3 _
theorem inv0:Inv 20 S0 where
 n4:=Nat.zero_le _
 w:=λk hk=>absurd hk (Nat.not_lt_zero _)
 v:=λk hk=>absurd hk (Nat.not_lt_zero _)
 ali:=λk hk=>absurd hk (Nat.not_lt_zero _)
 kl:=rfl
 ml:=rfl
 kb:=by decide
 eb:=by decide
 mb:=Nat.zero_le _
 kw:=λk hk=>absurd hk (Nat.not_lt_zero _)
 kn:=λk _ hk=>by
  have:∀ k<4,(dval KS XS (.inr (wN k))).isNone=true:=by decide +kernel
  exact Option.isNone_iff_eq_none.mp (this k hk)
 kd:=λk hk _ j hj=>by
  have:∀ k<4, ∀ j<2,(dval KS XS (.inr (wdN (wN k) j))).isNone=true:=by decide +kernel
  exact Option.isNone_iff_eq_none.mp (this k hk j hj)
 kf:=λp hp=>by
  simp only [FN,List.mem_cons,List.not_mem_nil,or_false] at hp;rcases hp with rfl | rfl | rfl | rfl | rfl | rfl | rfl | rfl | rfl | rfl | rfl | rfl | rfl <;> kernel_rfl
 k9:=⟨by kernel_rfl,by kernel_rfl⟩
 pl:=λk hk=>absurd hk (Nat.not_lt_zero _)
 dp:=λb _=>.inl ⟨rfl,rfl⟩
 dq:=λb _=>.inl ⟨rfl,rfl⟩
theorem qli (hl:ns.length<=63):∃ S y6 y7 y8 y9,(sFor (vy (aC b5 (j0 (aC fLen (j0 (aVar 0) aNil)) (j0 (aK (.int 63)) aNil)))) (gN 6) c9) (EL ns G 0 none none none none) (HH G S0)=.nx (EL ns G S.day y6 y7 y8 y9) (HH G S)/\Inv 2000 S:=by
 obtain ⟨e2,h2,r1,S,y6,y7,y8,y9,rfl,rfl,I⟩:=qdh (n:=ns.length) (i:=6) (a:=aC b5 (j0 (aC fLen (j0 (aVar 0) aNil)) (j0 (aK (.int 63)) aNil))) (body:=c9) (P:=λi env h=>∃ S y6 y7 y8 y9,env=EL ns G S.day y6 y7 y8 y9/\h=HH G S/\Inv (20+17 * i) S)
  (env:=EL ns G 0 none none none none) (h:=HH G S0) (by omega) (by
   have:¬ (63:Int)<(ns.length:Int):=by omega
   generalize HH G S0=H;simp [EL,this]) ⟨S0,none,none,none,none,rfl,rfl,inv0⟩ (by
  rintro j hj env h ⟨S,y6,y7,y8,y9,rfl,rfl,I⟩;obtain ⟨S',y7',y8',y9',e,I'⟩:=qny (G:=G) (ns:=ns) (y7:=y7) (y8:=y8) (y9:=y9) I (by omega) hj
  exact ⟨_,_,e,S',_,_,_,_,rfl,rfl,I'.mono (by omega)⟩)
 exact ⟨S,y6,y7,y8,y9,r1,I.mono (by omega)⟩
theorem qlp (I:Inv B S) {env:AEnv} {H:AH} {pick:Int} (hH:H[21]?=some (.dk (lks S.n) (ua S))) (h3:env[3]?=some (some (.ref 21))) (h10:env[10]?=some (some (.int pick))) :
  ∃ L:List Nat,(∀ k∈L,k<S.n)/\L.length<=8/\(a2 fCat (aSl fSlL (aC t6 (j0 (aVar 3) aNil)) (u0 (a2 fMod (aVar 10) (aK (.int 5)))) gd) (aSl fSlL (aC t6 (j0 (aVar 3) aNil)) gd (u0 (a2 fMod (aVar 10) (aK (.int 5)))))) env H=.ok (.lst (L.map wA)) H:=by
 have hn:=I.n4;obtain ⟨L1,c1,m1,l1⟩:=wo (List.range S.n) (some (pick % 5)) none;obtain ⟨L2,c2,m2,l2⟩:=wo (List.range S.n) none (some (pick % 5));rw [List.length_range] at l1 l2;refine ⟨L1++L2,λk hk=>?_,by rw [List.length_append];omega,?_⟩
 ·rcases List.mem_append.mp hk with h | h
  ·exact List.mem_range.mp (m1 k h)
  ·exact List.mem_range.mp (m2 k h)
 ·have hz:L1.length+L2.length<=sizeLine:=Nat.le_trans (show L1.length+L2.length<=8 by omega) (by decide)
  have hk:=qn2 S.n;generalize (List.range S.n).map wA=R at *;simp [h3,h10,hH,hk,c1,c2,hz]
theorem qn8 {env:AEnv} {H:AH} {pick:Int} {L:List Nat} (h10:env[10]?=some (some (.int pick))) (h11:env[11]?=some (some (.lst (L.map wA)))) :
  ∃ L':List Nat,(∀ k∈L',k∈L)/\L'.length<=L.length/\(c0 (aSl fSlL (aVar 11) gd (u0 (a2 fMod (a2 fDiv (aVar 10) (aK (.int 5))) (aK (.int 5))))) (a2 fIx (aLst (j0 (aK (.int 1)) (j0 (a1 fNeg (aK (.int 1))) aNil))) (a2 fMod (a2 fDiv (aVar 10) (aK (.int 25))) (aK (.int 2))))) env H=.ok (.lst (L'.map wA)) H:=by
 obtain ⟨L1,c1,m1,l1⟩:=wo L none (some (pick / 5 % 5));have hx:(aSl fSlL (aVar 11) gd (u0 (a2 fMod (a2 fDiv (aVar 10) (aK (.int 5))) (aK (.int 5))))) env H=.ok (.lst (L1.map wA)) H:=by
  generalize L.map wA=R at *;simp [h10,h11,c1]
 have b0:atI [AV.int 1, .int (-1)] 0=some (.int 1):=rfl;have b1:atI [AV.int 1, .int (-1)] 1=some (.int (-1)):=rfl;rcases (show pick / 25 % 2=0\/pick / 25 % 2=1 by omega) with h | h
 ·have hy:(a2 fIx (aLst (j0 (aK (.int 1)) (j0 (a1 fNeg (aK (.int 1))) aNil))) (a2 fMod (a2 fDiv (aVar 10) (aK (.int 25))) (aK (.int 2)))) env H=.ok (.int 1) H:=by simp [h10,h,b0]
  exact ⟨L1,m1,l1,qfn hx hy (.inl rfl)⟩
 ·have hy:(a2 fIx (aLst (j0 (aK (.int 1)) (j0 (a1 fNeg (aK (.int 1))) aNil))) (a2 fMod (a2 fDiv (aVar 10) (aK (.int 25))) (aK (.int 2)))) env H=.ok (.int (-1)) H:=by simp [h10,h,b1]
  refine ⟨L1.reverse,λk hk=>m1 k (List.mem_reverse.mp hk),by rw [List.length_reverse];exact l1,?_⟩
  rw [qfn hx hy (.inr rfl),if_neg (by decide),List.map_reverse]
def izOf (pick d:Int):List AV:=(List.range d.toNat).map λi:Nat=>AV.int ((pick+(i:Int)) % 10)
theorem qm9 {env:AEnv} {H:AH} {pick d:Int} (h10:env[10]?=some (some (.int pick))) (h12:env[12]?=some (some (.int d))) (hd0:0<=d) (hd1:d<=6) :
  (aLst (j0 (aTup (j0 (aLc 1 [10] (vy (aVar 12)) (gN 0) aYes (a2 fMod (a2 fAdd (aVar 1) (aVar 0)) (aK (.int 10)))) (j0 (a2 fMod (aVar 10) (aK (.int 61))) aNil))) aNil)) env H=.ok (.lst (hsA (izOf pick d) (pick % 61))) H:=by
 have hr:rng1 (.int d) H=.ok (Z.intsFrom 0 d.toNat,none) H:=qof hd0 (by omega)
 have hz:(Z.intsFrom 0 d.toNat).length<=sizeLine:=by
  rw [bw,List.length_map,List.length_range];exact Nat.le_trans (show d.toNat<=6 by omega) (by decide)
 have hb:bEnv 1 [10] env=[none,some (.int pick)]:=by simp [bEnv,h10]
 have hl:=gh (wt:=none) (all:=Z.intsFrom 0 d.toNat) (g:=gN 0) (te:=a2 fMod (a2 fAdd (aVar 1) (aVar 0)) (aK (.int 10))) (be:=[none,some (.int pick)]) (h:=H) (k:=λi:Nat=>AV.int (i:Int)) (f:=λi:Nat=>AV.int ((pick+(i:Int)) % 10)) xx (List.range d.toNat) [] λi hi =>
  ⟨_,rfl,by simp⟩
 rw [<- bw,List.nil_append] at hl
 change _=Re.ok (izOf pick d) H at hl
 generalize izOf pick d=Q at *;generalize Z.intsFrom 0 d.toNat=R at *;generalize (a2 fMod (a2 fAdd (aVar 1) (aVar 0)) (aK (.int 10)))=M at *;simp [h10,h12,hr,hz,hb,hl,hsA]
theorem iz_ok {pick d:Int} (hd1:d<=6):(izOf pick d).length<=900/\okDs 2 (izOf pick d)=true:=by
 refine ⟨by unfold izOf;rw [List.length_map,List.length_range];omega,qdg λx hx=>?_⟩
 obtain ⟨i,_,rfl⟩:=List.mem_map.mp hx;rfl
theorem qmb {env:AEnv} {H:AH} {pick:Int} (h10:env[10]?=some (some (.int pick))):aTup (j0 (a2 yy (aK (.str "p")) (aC x5 (j0 (a2 fMod (a2 fDiv (aVar 10) (aK (.int 50))) (aK (.int 2))) aNil))) (j0 (a2 yy (aK (.str "q")) (aC x5 (j0 (a2 fMod (a2 fDiv (aVar 10) (aK (.int 100))) (aK (.int 2))) aNil))) aNil)) env H=.ok (.tup [.str (pN (pick / 50 % 2).toNat), .str (qN (pick / 100 % 2).toNat)]) H:=by
 have n1:=(pq_n (H:=H) (x:=pick / 50 % 2) (by omega)).2.2
 have n2:=(pq_n (H:=H) (x:=pick / 100 % 2) (by omega)).2.2
 have e1:(aC x5 (j0 (a2 fMod (a2 fDiv (aVar 10) (aK (.int 50))) (aK (.int 2))) aNil)) env H=.ok (.str (toString (pick / 50 % 2))) H:=by simp [h10,n1]
 have e2:(aC x5 (j0 (a2 fMod (a2 fDiv (aVar 10) (aK (.int 100))) (aK (.int 2))) aNil)) env H=.ok (.str (toString (pick / 100 % 2))) H:=by simp [h10,n2]
 exact tup2 (pq1 (by omega) e1).1 (pq1 (by omega) e2).2
end
section
variable {ns:List Int} {G:Nat->Int×Int} {S:St} {B:Nat}
theorem qic (I:Inv B S) {L:List Nat} {d most:Int} {iz:List AV} {a b:Nat} (hL:∀ k∈L,k<S.n) (hl:L.length<=8) (ha:a<2) (hb:b<2) {env:AEnv} (h2:env[2]?=some (some (.ref 0))) (h11:env[11]?=some (some (.lst (L.map wA)))) (h12:env[12]?=some (some (.int d))) (h13:env[13]?=some (some (.lst (hsA iz most)))) (h14:env[14]?=some (some (.tup [.str (pN a), .str (qN b)]))) :
  (sIf (aB (a2 fNe (aC m_qj (j0 (aVar 2) (j0 (a2 fCat (aSl fSlL (aVar 11) gd (u0 (aK (.int 3)))) (aLst (j0 (aK (.str "w9")) aNil))) (j0 (aVar 12) (j0 (aVar 13) (j0 (aVar 14) aNil)))))) (aK (.str "unknown"))))
   (sRet (aK (.bl false)))
   y0) env (HH G S)=.nx env (HH G S):=by
 obtain ⟨L1,c1,m1,l1⟩:=wo L none (some 3);have e:=cb (xq (G:=G) (S:=S)).qc (task_9 (G:=G) (d:=d) (hd:=.lst (hsA iz most)) (x:=.str (pN a)) (y:=.str (qN b)) I (L:=L1) (λk hk=>hL k (m1 k hk)) (by omega)) rfl
 have hz:L1.length+1<=sizeLine:=Nat.le_trans (show L1.length+1<=9 by omega) (by decide)
 have hm:(L1.map wA).length=L1.length:=List.length_map _;generalize L.map wA=LL at *;generalize L1.map wA=LL1 at *;generalize hsA iz most=HS at *;generalize HH G S=H at *;generalize m_qj=M at *;simp [h2,h11,h12,h13,h14,c1,hm,hz,e]
theorem qmm (I:Inv B S) {L:List Nat} {d most:Int} {iz:List AV} {a b:Nat} (hL:∀ k∈L,k<S.n) (hl:L.length<=8) (ha:a<2) (hb:b<2) {day:Int} {y6 y7 y8 y9 y10 y15 y17:Option AV} :
  ∃ y16,(sFor (iLst (aLst (j0 (aTup (j0 (a2 fIx (aVar 14) (aK (.int 0))) (j0 (a2 fIx (aVar 14) (aK (.int 0))) aNil))) (j0 (aTup (j0 (a2 fIx (aVar 14) (aK (.int 1))) (j0 (a2 fIx (aVar 14) (aK (.int 1))) aNil))) (j0 (aTup (j0 (a2 fIx (aVar 14) (aK (.int 0))) (j0 (aK (.str "q9")) aNil))) aNil))))) (gN 16)
   (sIf (aB (a2 fNe (aC m_qj (j0 (aVar 2) (j0 (aVar 11) (j0 (aVar 12) (j0 (aVar 13) (j0 (aVar 16) aNil)))))) (aK (.str "unknown"))))
   (sRet (aK (.bl false)))
   y0)) (EZ ns G day y6 y7 y8 y9 y10 (some (.lst (L.map wA))) (some (.int d)) (some (.lst (hsA iz most))) (some (.tup [.str (pN a), .str (qN b)])) y15 none y17) (HH G S)=.nx (EZ ns G day y6 y7 y8 y9 y10 (some (.lst (L.map wA))) (some (.int d)) (some (.lst (hsA iz most))) (some (.tup [.str (pN a), .str (qN b)])) y15 y16 y17) (HH G S):=by
 have hc:=(xq (G:=G) (S:=S)).qc;have e1:=cb hc (qfr (G:=G) (d:=d) (hd:=.lst (hsA iz most)) (x:=.str (pN a)) (y:=.str (pN a)) I hL (by omega) (.inr ⟨⟨_,kn_p I ha⟩,kn_pc I ha⟩)) rfl
 have e2:=cb hc (qfr (G:=G) (d:=d) (hd:=.lst (hsA iz most)) (x:=.str (qN b)) (y:=.str (qN b)) I hL (by omega) (.inl (kn_qb I hb))) rfl
 have e3:=cb hc (qfr (G:=G) (d:=d) (hd:=.lst (hsA iz most)) (x:=.str (pN a)) (y:=.str "q9") I hL (by omega) (.inr ⟨⟨_,kn_p I ha⟩,kn_q9 I⟩)) rfl
 refine ⟨some (.tup [.str (pN a), .str "q9"]),?_⟩;generalize L.map wA=LL at *;generalize hsA iz most=HS at *;generalize HH G S=H at *;generalize m_qj=M at *;simp [EZ,at0,at1,vh,xx,e1,e2,e3]
def gnB:AS:=(sIf (aNot (aB (a2 fIx (a2 gy (aVar 3) (aVar 8)) (aK (.int 5)))))
 (sRet (a2 fEq (aVar 15) (aK (.str "gone"))))
 y0)
theorem gn_at (I:Inv B S) {k:Nat} (hk:k<S.n) {env:AEnv} (h3:env[3]?=some (some (.ref 21))) (h8:env[8]?=some (some (wA k))):(aB (a2 fIx (a2 gy (aVar 3) (aVar 8)) (aK (.int 5)))) env (HH G S)=.ok (!(S.W k).gone) (HH G S):=by
 have hd:=h_lw (G:=G) (S:=S);have hv:=h_v (G:=G) I hk;have hl:dval (lks S.n) (ua S) (.inr (wN k))=some (.ref (S.al k+23)):=lval I.n4 hk λk=>.ref (S.al k+23)
 simp only [yi] at hv;simp only [wA] at h8;generalize HH G S=H at *;simp [h3,h8,hd,hl,hv,at5]
theorem tub_ok (I:Inv B S) {a b:Nat} (ha:a<2) (hb:b<2) {env:AEnv} (h4:env[4]?=some (some (.ref 22))) (h14:env[14]?=some (some (.tup [.str (pN a), .str (qN b)]))) :
  (aOrV (qg (aVar 4) (a2 fIx (aVar 14) (aK (.int 0))) (aK (.bl false))) (qg (aVar 4) (a2 fIx (aVar 14) (aK (.int 1))) (aK (.bl false)))) env (HH G S)=.ok (.bl (S.mp a || S.mq b)) (HH G S):=by
 have hd:=h_dk (G:=G) (S:=S);have t1:(dval S.dk S.dx (.inr (pN a))).getD (.bl false)=.bl (S.mp a):=by
  rcases I.dp a ha with ⟨e,f⟩ | e <;> rw [e]
  ·rw [f];rfl
  ·rfl
 have t2:(dval S.dk S.dx (.inr (qN b))).getD (.bl false)=.bl (S.mq b):=by
  rcases I.dq b hb with ⟨e,f⟩ | e <;> rw [e]
  ·rw [f];rfl
  ·rfl
 generalize HH G S=H at *;cases hm:S.mp a
 ·rw [hm] at t1
  simp [h4,h14,at0,at1,hd,t1,t2]
 ·rw [hm] at t1
  simp [h4,h14,at0,at1,hd,t1]
theorem qn5 (I:Inv B S) {L:List Nat} {d most:Int} {iz:List AV} {a b:Nat} (hL:∀ k∈L,k<S.n) (hl:L.length<=8) (ha:a<2) (hb:b<2) (hiz:iz.length<=900) (hok:okDs 2 iz=true) {x:AV} (T:Told G S L d most iz (S.mp a || S.mq b) x (HH G S)) {y6 y7 y8 y9 y10 y16:Option AV} :
  ∃ h2,(sSeq (sFor (iLst (aVar 11)) (gN 8) gnB)
   (sSeq (sIf (aNot (aB (a1 (fIsO 10) (aVar 15))))
   (sRet (aK (.bl false)))
   y0)
   (sSeq (sAsg (aOrV (qg (aVar 4) (a2 fIx (aVar 14) (aK (.int 0))) (aK (.bl false))) (qg (aVar 4) (a2 fIx (aVar 14) (aK (.int 1))) (aK (.bl false)))) (gN 17))
   (sRet (aC m_q00 (j0 (aVar 15) (j0 (aTup (j0 (aVar 12) (j0 (aVar 13) (j0 (aC m_q0u (j0 (aVar 11) (j0 (aVar 3) (j0 (aVar 1) (j0 (aVar 5) aNil))))) (j0 (aVar 17) aNil))))) aNil)))))))
   (EZ ns G S.day y6 y7 y8 y9 y10 (some (.lst (L.map wA))) (some (.int d)) (some (.lst (hsA iz most))) (some (.tup [.str (pN a), .str (qN b)])) (some x) y16 none) (HH G S)=.rt (.bl true) h2:=by
 rcases T with ⟨rfl,hg⟩ | ⟨hg,t,t1,t2,p,rfl,hT,h1,h2,hj⟩
 ·refine ⟨HH G S,?_⟩
  have e:=qh3 (h:=HH G S) (wt:=none) (all:=L.map wA) (g:=gN 8) (body:=gnB) (k:=wA) (P:=λenv=>∃ y8,env=EZ ns G S.day y6 y7 y8 y9 y10 (some (.lst (L.map wA))) (some (.int d)) (some (.lst (hsA iz most))) (some (.tup [.str (pN a), .str (qN b)])) (some (.str "gone")) y16 none) (x:=.bl true) (good:=λk=>!(S.W k).gone) rfl L (EZ ns G S.day y6 y7 y8 y9 y10 (some (.lst (L.map wA))) (some (.int d)) (some (.lst (hsA iz most))) (some (.tup [.str (pN a), .str (qN b)])) (some (.str "gone")) y16 none) ⟨y8,rfl⟩ hg (by
   rintro k hk env ⟨y8,rfl⟩;have e:=gn_at (G:=G) I (hL k hk) (env:=EZ ns G S.day y6 y7 (some (wA k)) y9 y10 (some (.lst (L.map wA))) (some (.int d)) (some (.lst (hsA iz most))) (some (.tup [.str (pN a), .str (qN b)])) (some (.str "gone")) y16 none) rfl rfl;refine ⟨EZ ns G S.day y6 y7 (some (wA k)) y9 y10 (some (.lst (L.map wA))) (some (.int d)) (some (.lst (hsA iz most))) (some (.tup [.str (pN a), .str (qN b)])) (some (.str "gone")) y16 none,rfl,λhgo=>⟨EZ ns G S.day y6 y7 (some (wA k)) y9 y10 (some (.lst (L.map wA))) (some (.int d)) (some (.lst (hsA iz most))) (some (.tup [.str (pN a), .str (qN b)])) (some (.str "gone")) y16 none,?_,_,rfl⟩,λhgo=>?_⟩
   ·rw [hgo] at e
    unfold gnB;generalize (aB (a2 fIx (a2 gy (aVar 3) (aVar 8)) (aK (.int 5))))=M at *;generalize HH G S=H at *;simp [e]
   ·rw [hgo] at e
    unfold gnB;generalize (aB (a2 fIx (a2 gy (aVar 3) (aVar 8)) (aK (.int 5))))=M at *;generalize HH G S=H at *;simp [e];simp [EZ])
  have e':(sFor (iLst (aVar 11)) (gN 8) gnB) (EZ ns G S.day y6 y7 y8 y9 y10 (some (.lst (L.map wA))) (some (.int d)) (some (.lst (hsA iz most))) (some (.tup [.str (pN a), .str (qN b)])) (some (.str "gone")) y16 none) (HH G S)=.rt (.bl true) (HH G S):=by
   unfold sFor;exact e
  unfold sSeq;rw [e'];rfl
 ·have hg':∀ k∈L,(S.W k).gone=false:=λk hk=>by
   have:=List.all_eq_true.mp hg k hk;simpa using this
  obtain ⟨e2,h',r1,rfl,y8',rfl⟩:=nz (wt:=none) (all:=L.map wA) (g:=gN 8) (body:=gnB) (k:=wA) (P:=λ_ env h=>h=HH G S/\∃ y8,env=EZ ns G S.day y6 y7 y8 y9 y10 (some (.lst (L.map wA))) (some (.int d)) (some (.lst (hsA iz most))) (some (.tup [.str (pN a), .str (qN b)])) (some (.ref t)) y16 none) (λ_ _ _ _=>xx) L 0 (EZ ns G S.day y6 y7 y8 y9 y10 (some (.lst (L.map wA))) (some (.int d)) (some (.lst (hsA iz most))) (some (.tup [.str (pN a), .str (qN b)])) (some (.ref t)) y16 none) (HH G S) ⟨rfl,y8,rfl⟩ (by
   rintro j k hj env h ⟨rfl,y8,rfl⟩;have hk:=List.mem_of_getElem? hj;have e:=gn_at (G:=G) I (hL k hk) (env:=EZ ns G S.day y6 y7 (some (wA k)) y9 y10 (some (.lst (L.map wA))) (some (.int d)) (some (.lst (hsA iz most))) (some (.tup [.str (pN a), .str (qN b)])) (some (.ref t)) y16 none) rfl rfl;refine ⟨EZ ns G S.day y6 y7 (some (wA k)) y9 y10 (some (.lst (L.map wA))) (some (.int d)) (some (.lst (hsA iz most))) (some (.tup [.str (pN a), .str (qN b)])) (some (.ref t)) y16 none,HH G S,EZ ns G S.day y6 y7 (some (wA k)) y9 y10 (some (.lst (L.map wA))) (some (.int d)) (some (.lst (hsA iz most))) (some (.tup [.str (pN a), .str (qN b)])) (some (.ref t)) y16 none,HH G S,rfl, .inl ?_,rfl,_,rfl⟩;rw [hg' k hk] at e;unfold gnB;generalize (aB (a2 fIx (a2 gy (aVar 3) (aVar 8)) (aK (.int 5))))=M at *;generalize HH G S=H at *;simp [e])
  have r2:(sFor (iLst (aVar 11)) (gN 8) gnB) (EZ ns G S.day y6 y7 y8 y9 y10 (some (.lst (L.map wA))) (some (.int d)) (some (.lst (hsA iz most))) (some (.tup [.str (pN a), .str (qN b)])) (some (.ref t)) y16 none) (HH G S)=.nx (EZ ns G S.day y6 y7 y8' y9 y10 (some (.lst (L.map wA))) (some (.int d)) (some (.lst (hsA iz most))) (some (.tup [.str (pN a), .str (qN b)])) (some (.ref t)) y16 none) (HH G S):=by
   unfold sFor;exact r1
  refine u4 r2 ?_;refine u4 (env':=EZ ns G S.day y6 y7 y8' y9 y10 (some (.lst (L.map wA))) (some (.int d)) (some (.lst (hsA iz most))) (some (.tup [.str (pN a), .str (qN b)])) (some (.ref t)) y16 none) (h':=HH G S) (by
   generalize HH G S=H at *;simp [EZ,hT]) ?_
  refine u4 (env':=EZ ns G S.day y6 y7 y8' y9 y10 (some (.lst (L.map wA))) (some (.int d)) (some (.lst (hsA iz most))) (some (.tup [.str (pN a), .str (qN b)])) (some (.ref t)) y16 (some (.bl (S.mp a || S.mq b)))) (h':=HH G S) (ui (tub_ok I ha hb rfl rfl)) ?_
  have er:=qns (G:=G) I hL (by omega) (h_lw (G:=G) (S:=S)) (λk hk=>h_v (G:=G) I hk)
  have es:=qkm (G:=G) (S:=S) (L:=L) hT h1 h2 (by omega) hiz hok hj
  refine ⟨HH G S,?_⟩;unfold spec at es;unfold EZ;generalize L.map wA=LL at *;generalize L.map (rawA G S)=LR at *;generalize hsA iz most=HS at *;generalize GL G=GG at *;generalize HH G S=H at *;generalize m_q0u=M1 at *;generalize m_q00=M2 at *;simp [er,es]
end
theorem law_true:∀ ns:List Int,ns.length<=63->∃ h,m_law [.kst (ns.map AV.int)] []=.ok (.bl true) h:=by
 intro ns hl
 suffices hh:∃ h,bz [some (.kst (ns.map AV.int)),none,none,none,none,none,none,none,none,none,none,none,none,none,none,none,none,none] []=.rt (.bl true) h by
  obtain ⟨h,e⟩:=hh;refine ⟨h,?_⟩;show SRe.out (bz [some (.kst (ns.map AV.int)),none,none,none,none,none,none,none,none,none,none,none,none,none,none,none,none,none] [])=_;rw [e];rfl
 let G:=GF ns
 unfold bz;refine u4 (env':=[some (.kst (ns.map AV.int)),some (.lst (GL G)),none,none,none,none,none,none,none,none,none,none,none,none,none,none,none,none]) (h':=[]) (ui (qnz (x1:=none))) ?_;refine u4 (env':=[some (.kst (ns.map AV.int)),some (.lst (GL G)),some (.ref 0),none,none,none,none,none,none,none,none,none,none,none,none,none,none,none]) (h':=HD (zh G) (kh G)) (ui (o7 (vs:=[.kst (ns.map AV.int), .lst (GL G)]) rfl (qj6 λk _=>qo0 k))) ?_
 refine u4 (env':=[some (.kst (ns.map AV.int)),some (.lst (GL G)),some (.ref 0),some (.ref 21),none,none,none,none,none,none,none,none,none,none,none,none,none,none]) (h':=HD (zh G) (kh G)++[.dk [] []]) rfl ?_;refine u4 (env':=[some (.kst (ns.map AV.int)),some (.lst (GL G)),some (.ref 0),some (.ref 21),some (.ref 22),none,none,none,none,none,none,none,none,none,none,none,none,none]) (h':=HD (zh G) (kh G)++[.dk [] []]++[.dk [] []]) rfl ?_;refine u4 (env':=EL ns G 0 none none none none) (h':=HH G S0) rfl ?_;obtain ⟨S,y6,y7,y8,y9,r6,I⟩:=qli (ns:=ns) (G:=G) hl;unfold c9 newB mkB qo k7 qm at r6;refine u4 r6 ?_
 let pick:=cz ns 5
 refine u4 (env':=EZ ns G S.day y6 y7 y8 y9 (some (.int pick)) none none none none none none none) (h':=HH G S) (ui (o7 (vs:=[.kst (ns.map AV.int), .int ((5:Nat):Int)]) rfl (qii ns 5 _))) ?_;obtain ⟨L1,m1,l1,e8⟩:=qlp (env:=EZ ns G S.day y6 y7 y8 y9 (some (.int pick)) none none none none none none none) I (h_lw (G:=G) (S:=S)) rfl rfl;refine u4 (env':=EZ ns G S.day y6 y7 y8 y9 (some (.int pick)) (some (.lst (L1.map wA))) none none none none none none) (h':=HH G S) (ui e8) ?_;obtain ⟨L,m2,l2,e9⟩:=qn8 (env:=EZ ns G S.day y6 y7 y8 y9 (some (.int pick)) (some (.lst (L1.map wA))) none none none none none none) (H:=HH G S) (L:=L1) rfl rfl;refine u4 (env':=EZ ns G S.day y6 y7 y8 y9 (some (.int pick)) (some (.lst (L.map wA))) none none none none none none) (h':=HH G S) (ui e9) ?_;have hL:∀ k∈L,k<S.n:=λk hk=>m1 k (m2 k hk)
 have hLl:L.length<=8:=by omega
 let d:=1+cz ns 6 % 6
 have hd0:0<=d:=by show 0<=1+cz ns 6 % 6;omega
 have hd1:d<=6:=by show 1+cz ns 6 % 6<=6;omega
 refine u4 (env':=EZ ns G S.day y6 y7 y8 y9 (some (.int pick)) (some (.lst (L.map wA))) (some (.int d)) none none none none none) (h':=HH G S) (by
  have e:(aC m_q0r (j0 (aVar 0) (j0 (aK (.int 6)) aNil))) (EZ ns G S.day y6 y7 y8 y9 (some (.int pick)) (some (.lst (L.map wA))) none none none none none none) (HH G S)=.ok (.int (cz ns 6)) (HH G S):=o7 (vs:=[.kst (ns.map AV.int), .int ((6:Nat):Int)]) rfl (qii ns 6 _);generalize (aC m_q0r (j0 (aVar 0) (j0 (aK (.int 6)) aNil)))=M at *;refine ui (x:=.int d) ?_;generalize HH G S=H at *;simp [e];rfl) ?_
 refine u4 (env':=EZ ns G S.day y6 y7 y8 y9 (some (.int pick)) (some (.lst (L.map wA))) (some (.int d)) (some (.lst (hsA (izOf pick d) (pick % 61)))) none none none none) (h':=HH G S) (ui (qm9 rfl rfl hd0 hd1)) ?_;refine u4 (env':=EZ ns G S.day y6 y7 y8 y9 (some (.int pick)) (some (.lst (L.map wA))) (some (.int d)) (some (.lst (hsA (izOf pick d) (pick % 61)))) (some (.tup [.str (pN (pick / 50 % 2).toNat), .str (qN (pick / 100 % 2).toNat)])) none none none) (h':=HH G S) (ui (qmb rfl)) ?_;have ha:(pick / 50 % 2).toNat<2:=by omega
 have hb:(pick / 100 % 2).toNat<2:=by omega
 obtain ⟨iz1,iz2⟩:=iz_ok (pick:=pick) hd1;obtain ⟨x,Y,e13,T⟩:=told (G:=G) (d:=d) (most:=pick % 61) (iz:=izOf pick d) I hL (by omega) ha hb
 refine u4 (env':=EZ ns G S.day y6 y7 y8 y9 (some (.int pick)) (some (.lst (L.map wA))) (some (.int d)) (some (.lst (hsA (izOf pick d) (pick % 61)))) (some (.tup [.str (pN (pick / 50 % 2).toNat), .str (qN (pick / 100 % 2).toNat)])) (some x) none none) (h':=HH G (S.ap Y)) (ui (o7 (vs:=[.ref 0, .lst (L.map wA), .int d, .lst (hsA (izOf pick d) (pick % 61)), .tup [.str (pN (pick / 50 % 2).toNat), .str (qN (pick / 100 % 2).toNat)]]) rfl e13)) ?_;have I2:=I.ap Y;refine u4 (qic (G:=G) I2 hL hLl ha hb rfl rfl rfl rfl rfl) ?_;obtain ⟨y16,e16⟩:=qmm (ns:=ns) (G:=G) (d:=d) (most:=pick % 61) (iz:=izOf pick d) I2 hL hLl ha hb (day:=S.day) (y6:=y6) (y7:=y7) (y8:=y8) (y9:=y9) (y10:=some (.int pick)) (y15:=some x) (y17:=none);refine u4 e16 ?_;have hr:=qn5 (ns:=ns) (G:=G) I2 hL hLl ha hb iz1 iz2 T (y6:=y6) (y7:=y7) (y8:=y8) (y9:=y9) (y10:=some (.int pick)) (y16:=y16);unfold gnB at hr;exact hr
def top (i:Nat):Stmt:=PySem.Challenge.pw_curdcellar_k20_task_of_wheels.main.body.getD i (.Pass ⟨0,0,0,0⟩)
abbrev qne:Stmt:=top 46
abbrev s_q05:Stmt:=inClass (top 46) 23
abbrev s_q0y:Stmt:=inClass (top 46) 19
abbrev s_qp:Stmt:=inClass (top 46) 17
abbrev s_qb:Stmt:=inClass (top 46) 16
abbrev s_q0m:Stmt:=inClass (top 46) 15
abbrev s_q0n:Stmt:=inClass (top 46) 14
abbrev s_q03:Stmt:=inClass (top 46) 13
abbrev s_q0s:Stmt:=inClass (top 46) 12
abbrev s_qt:Stmt:=inClass (top 46) 11
abbrev s_q07:Stmt:=inClass (top 46) 10
abbrev s_q0a:Stmt:=inClass (top 46) 9
abbrev s_q09:Stmt:=inClass (top 46) 8
abbrev s_q0g:Stmt:=inClass (top 46) 7
abbrev s_qz:Stmt:=inClass (top 46) 6
abbrev s_q02:Stmt:=inClass (top 46) 5
abbrev s_q0h:Stmt:=inClass (top 46) 4
abbrev s_qo:Stmt:=inClass (top 46) 3
abbrev s_qa:Stmt:=inClass (top 46) 2
abbrev s_qf:Stmt:=inClass (top 46) 1
abbrev s_q0f:Stmt:=inClass (top 46) 0
abbrev qpe:Stmt:=top 25
abbrev s_q0b:Stmt:=inClass (top 25) 0
abbrev qph:Stmt:=top 24
abbrev s_q0c:Stmt:=inClass (top 24) 0
abbrev qpg:Stmt:=top 23
abbrev s_q0p:Stmt:=inClass (top 23) 0
abbrev qnp:Stmt:=top 22
abbrev s_q08:Stmt:=inClass (top 22) 0
abbrev qpj:Stmt:=top 21
abbrev s_q0i:Stmt:=inClass (top 21) 0
abbrev qpd:Stmt:=top 20
abbrev s_q0q:Stmt:=inClass (top 20) 0
abbrev qpl:Stmt:=top 19
abbrev s_q0v:Stmt:=inClass (top 19) 0
abbrev qpf:Stmt:=top 18
abbrev s_qg:Stmt:=inClass (top 18) 0
abbrev qpk:Stmt:=top 14
abbrev s_q0e:Stmt:=inClass (top 14) 0
abbrev qpm:Stmt:=top 13
abbrev s_q0l:Stmt:=inClass (top 13) 0
abbrev s_q17:Stmt:=top 15
abbrev s_q15:Stmt:=top 16
abbrev s_q0w:Stmt:=top 26
abbrev s_q0o:Stmt:=top 27
abbrev s_q10:Stmt:=top 28
abbrev s_q18:Stmt:=top 29
abbrev s_q14:Stmt:=top 33
abbrev s_q16:Stmt:=top 34
abbrev s_qm:Stmt:=top 41
abbrev s_q06:Stmt:=top 42
abbrev s_q12:Stmt:=top 43
abbrev s_qr:Stmt:=top 44
abbrev s_q0d:Stmt:=top 45
abbrev s_q0r:Stmt:=top 48
abbrev s_qh:Stmt:=top 49
abbrev s_q00:Stmt:=top 50
abbrev s_q0x:Stmt:=top 51
abbrev s_q11:Stmt:=top 52
abbrev s_q01:Stmt:=top 53
abbrev s_q04:Stmt:=top 54
abbrev s_q0t:Stmt:=top 55
abbrev s_qj:Stmt:=top 56
abbrev s_q0u:Stmt:=top 57
abbrev gi:Stmt:=top 58
def c_q1c:Str:="abcdefghijklmnopqrstuvwxyz0123456789"
structure Adr where
 a_q17:Addr
 fd_q17:FuncData
 a_q15:Addr
 fd_q15:FuncData
 a_q0w:Addr
 fd_q0w:FuncData
 a_q0o:Addr
 fd_q0o:FuncData
 a_q10:Addr
 fd_q10:FuncData
 a_q18:Addr
 fd_q18:FuncData
 a_q14:Addr
 fd_q14:FuncData
 a_q16:Addr
 fd_q16:FuncData
 a_qm:Addr
 fd_qm:FuncData
 a_q06:Addr
 fd_q06:FuncData
 a_q12:Addr
 fd_q12:FuncData
 a_qr:Addr
 fd_qr:FuncData
 a_q0d:Addr
 fd_q0d:FuncData
 a_q0r:Addr
 fd_q0r:FuncData
 a_qh:Addr
 fd_qh:FuncData
 a_q00:Addr
 fd_q00:FuncData
 a_q0x:Addr
 fd_q0x:FuncData
 a_q11:Addr
 fd_q11:FuncData
 a_q01:Addr
 fd_q01:FuncData
 a_q04:Addr
 fd_q04:FuncData
 a_q0t:Addr
 fd_q0t:FuncData
 a_qj:Addr
 fd_qj:FuncData
 a_q0u:Addr
 fd_q0u:FuncData
 a_law:Addr
 fd_law:FuncData
 c_Job:Addr
 a_q0l:Addr
 fd_q0l:FuncData
 c_q1a:Addr
 a_q0e:Addr
 fd_q0e:FuncData
 c_q19:Addr
 a_qg:Addr
 fd_qg:FuncData
 c_q1i:Addr
 a_q0v:Addr
 fd_q0v:FuncData
 c_q1d:Addr
 a_q0q:Addr
 fd_q0q:FuncData
 c_q1j:Addr
 a_q0i:Addr
 fd_q0i:FuncData
 c_q1b:Addr
 a_q08:Addr
 fd_q08:FuncData
 c_q1e:Addr
 a_q0p:Addr
 fd_q0p:FuncData
 c_q1f:Addr
 a_q0c:Addr
 fd_q0c:FuncData
 c_q1g:Addr
 a_q0b:Addr
 fd_q0b:FuncData
 c_qu:Addr
 a_q0f:Addr
 fd_q0f:FuncData
 a_qf:Addr
 fd_qf:FuncData
 a_qa:Addr
 fd_qa:FuncData
 a_qo:Addr
 fd_qo:FuncData
 a_q0h:Addr
 fd_q0h:FuncData
 a_q02:Addr
 fd_q02:FuncData
 a_qz:Addr
 fd_qz:FuncData
 a_q0g:Addr
 fd_q0g:FuncData
 a_q09:Addr
 fd_q09:FuncData
 a_q0a:Addr
 fd_q0a:FuncData
 a_q07:Addr
 fd_q07:FuncData
 a_qt:Addr
 fd_qt:FuncData
 a_q0s:Addr
 fd_q0s:FuncData
 a_q03:Addr
 fd_q03:FuncData
 a_q0n:Addr
 fd_q0n:FuncData
 a_q0m:Addr
 fd_q0m:FuncData
 a_qb:Addr
 fd_qb:FuncData
 a_qp:Addr
 fd_qp:FuncData
 a_q0y:Addr
 fd_q0y:FuncData
 a_q05:Addr
 fd_q05:FuncData
 c_q0j:Addr
 c_qx:Addr
 c_q0k:Addr
 c_qv:Addr
 c_qk:Addr
 c_q0z:Addr
 c_qi:Addr
 c_qw:Addr
 c_qy:Addr
 c_q13:Addr
structure Txt (K:W.Frag) (mg:Str->Option Value) (A:Adr):Prop where
 q_q17:TxF K mg "job_values" s_q17 ["job"] A.a_q17 A.fd_q17
 q_q15:TxF K mg "copy_of" s_q15 ["job"] A.a_q15 A.fd_q15
 q_q0w:TxF K mg "wedge_names" s_q0w ["wheel", "many"] A.a_q0w A.fd_q0w
 q_q0o:TxF K mg "stands_at" s_q0o ["shelf", "recipe", "place"] A.a_q0o A.fd_q0o
 q_q10:TxF K mg "night_loss" s_q10 ["wheel"] A.a_q10 A.fd_q10
 q_q18:TxF K mg "job_of" s_q18 ["wheel", "day"] A.a_q18 A.fd_q18
 q_q14:TxF K mg "has_only" s_q14 ["text", "signs"] A.a_q14 A.fd_q14
 q_q16:TxF K mg "is_name" s_q16 ["text"] A.a_q16 A.fd_q16
 q_qm:TxF K mg "check_bounds" s_qm ["number", "least", "most"] A.a_qm A.fd_qm
 q_q06:TxF K mg "check_grams" s_q06 ["grams"] A.a_q06 A.fd_q06
 q_q12:TxF K mg "check_gap" s_q12 ["least", "most"] A.a_q12 A.fd_q12
 q_qr:TxF K mg "check_here" s_qr ["thing"] A.a_qr A.fd_qr
 q_q0d:TxF K mg "check_enough" s_q0d ["grams", "there"] A.a_q0d A.fd_q0d
 q_q0r:TxF K mg "_law_at" s_q0r ["_law_script", "_law_k"] A.a_q0r A.fd_q0r
 q_qh:TxF K mg "_law_same" s_qh ["_law_found", "_law_due"] A.a_qh A.fd_qh
 q_q00:TxF K mg "_law_task_same" s_q00 ["_law_task", "_law_spec"] A.a_q00 A.fd_q00
 q_q0x:TxF K mg "_law_word_of" s_q0x ["_law_e"] A.a_q0x A.fd_q0x
 q_q11:TxF K mg "_law_gap" s_q11 ["_law_cell"] A.a_q11 A.fd_q11
 q_q01:TxF K mg "_law_furnished" s_q01 ["_law_script", "_law_gaps"] A.a_q01 A.fd_q01
 q_q04:TxF K mg "_law_not_washed" s_q04 ["_law_cellar", "_law_name", "_law_tools"] A.a_q04 A.fd_q04
 q_q0t:TxF K mg "_law_step" s_q0t ["_law_cellar", "_law_wheels", "_law_cell", "_law_day", "_law_mould"] A.a_q0t A.fd_q0t
 q_qj:TxF K mg "_law_task_told" s_qj ["_law_cellar", "_law_names", "_law_days", "_law_hands", "_law_tools"] A.a_qj A.fd_qj
 q_q0u:TxF K mg "_law_raws" s_q0u ["_law_names", "_law_wheels", "_law_gaps", "_law_day"] A.a_q0u A.fd_q0u
 q_law:TxF K mg "law" gi ["_law_script"] A.a_law A.fd_law
 n_len:mg "len" = none
 n_all:mg "all" = none
 n_any:mg "any" = none
 n_min:mg "min" = none
 n_range:mg "range" = none
 n_int:mg "int" = none
 n_bool:mg "bool" = none
 n_str:mg "str" = none
 n_list:mg "list" = none
 n_tuple:mg "tuple" = none
 n_isinstance:mg "isinstance" = none
 n_sum:mg "sum" = none
 n_ValueError:mg "ValueError" = none
 n_set:mg "set" = none
 k_Job:TxC K mg "Job" ["mouldy", "turn_gap", "turned", "wash_gap", "washed", "stays", "lain"] A.c_Job
 q_q0l:TxM K A.c_Job "__init__" "Job.__init__" s_q0l ["self", "mouldy", "turn_gap", "turned", "wash_gap", "washed", "stays", "lain"] A.a_q0l A.fd_q0l
 ow_Job:OwnT K A.c_Job
 k_q1a:TxC K mg "Task" ["days", "hands", "jobs", "mouldy"] A.c_q1a
 q_q0e:TxM K A.c_q1a "__init__" "Task.__init__" s_q0e ["self", "days", "hands", "jobs", "mouldy"] A.a_q0e A.fd_q0e
 ow_q1a:OwnT K A.c_q1a
 k_q19:TxC K mg "Thing" ["kind", "name"] A.c_q19
 q_qg:TxM K A.c_q19 "__init__" "Thing.__init__" s_qg ["self", "kind", "name"] A.a_qg A.fd_qg
 B_qg:Base K A.c_q19 "__init__" A.a_qg
 k_q1i:TxC K mg "Room" ["kind", "name", "damp", "warmth"] A.c_q1i
 q_q0v:TxM K A.c_q1i "__init__" "Room.__init__" s_q0v ["self", "name", "damp", "warmth"] A.a_q0v A.fd_q0v
 k_q1d:TxC K mg "Shelf" ["kind", "name", "room"] A.c_q1d
 q_q0q:TxM K A.c_q1d "__init__" "Shelf.__init__" s_q0q ["self", "name", "room"] A.a_q0q A.fd_q0q
 k_q1j:TxC K mg "Sort" ["kind", "name", "mouldy", "turn_gap", "wash_gap", "rooms", "stays"] A.c_q1j
 q_q0i:TxM K A.c_q1j "__init__" "Sort.__init__" s_q0i ["self", "name", "mouldy", "turn_gap", "wash_gap", "route"] A.a_q0i A.fd_q0i
 k_q1b:TxC K mg "Washer" ["kind", "name", "mouldy"] A.c_q1b
 q_q08:TxM K A.c_q1b "__init__" "Washer.__init__" s_q08 ["self", "kind", "name"] A.a_q08 A.fd_q08
 k_q1e:TxC K mg "Batch" ["kind", "name", "grams"] A.c_q1e
 q_q0p:TxM K A.c_q1e "__init__" "Batch.__init__" s_q0p ["self", "name", "grams"] A.a_q0p A.fd_q0p
 k_q1f:TxC K mg "Wheel" ["kind", "name", "recipe", "shelf", "grams", "place", "turn_day", "wash_day", "room_day", "gone"] A.c_q1f
 q_q0c:TxM K A.c_q1f "__init__" "Wheel.__init__" s_q0c ["self", "name", "recipe", "shelf", "grams", "day"] A.a_q0c A.fd_q0c
 k_q1g:TxC K mg "Wedge" ["kind", "name", "gone"] A.c_q1g
 q_q0b:TxM K A.c_q1g "__init__" "Wedge.__init__" s_q0b ["self", "name"] A.a_q0b A.fd_q0b
 k_qu:TxC K mg "Cellar" ["today", "things", "wheels", "entries"] A.c_qu
 q_q0f:TxM K A.c_qu "__init__" "Cellar.__init__" s_q0f ["self"] A.a_q0f A.fd_q0f
 q_qf:TxM K A.c_qu "check_free" "Cellar.check_free" s_qf ["self", "name"] A.a_qf A.fd_qf
 q_qa:TxM K A.c_qu "known" "Cellar.known" s_qa ["self", "name", "kind"] A.a_qa A.fd_qa
 q_qo:TxM K A.c_qu "hold" "Cellar.hold" s_qo ["self", "thing"] A.a_qo A.fd_qo
 q_q0h:TxM K A.c_qu "new_room" "Cellar.new_room" s_q0h ["self", "name", "damp", "warmth"] A.a_q0h A.fd_q0h
 q_q02:TxM K A.c_qu "new_shelf" "Cellar.new_shelf" s_q02 ["self", "name", "room"] A.a_q02 A.fd_q02
 q_qz:TxM K A.c_qu "new_sort" "Cellar.new_sort" s_qz ["self", "name", "mouldy", "turn_gap", "wash_gap", "route"] A.a_qz A.fd_qz
 q_q0g:TxM K A.c_qu "new_farm" "Cellar.new_farm" s_q0g ["self", "name"] A.a_q0g A.fd_q0g
 q_q09:TxM K A.c_qu "new_brine" "Cellar.new_brine" s_q09 ["self", "name"] A.a_q09 A.fd_q09
 q_q0a:TxM K A.c_qu "new_cloth" "Cellar.new_cloth" s_q0a ["self", "name"] A.a_q0a A.fd_q0a
 q_q07:TxM K A.c_qu "new_batch" "Cellar.new_batch" s_q07 ["self", "name", "parts"] A.a_q07 A.fd_q07
 q_qt:TxM K A.c_qu "new_wheel" "Cellar.new_wheel" s_qt ["self", "name", "batch", "sort", "shelf", "grams"] A.a_qt A.fd_qt
 q_q0s:TxM K A.c_qu "turn" "Cellar.turn" s_q0s ["self", "wheel"] A.a_q0s A.fd_q0s
 q_q03:TxM K A.c_qu "wash" "Cellar.wash" s_q03 ["self", "wheel", "brine", "cloth"] A.a_q03 A.fd_q03
 q_q0n:TxM K A.c_qu "move" "Cellar.move" s_q0n ["self", "wheel", "shelf"] A.a_q0n A.fd_q0n
 q_q0m:TxM K A.c_qu "boil" "Cellar.boil" s_q0m ["self", "thing"] A.a_q0m A.fd_q0m
 F_qb:∃ dt items,FunD K "night" "Cellar.night" s_qb A.a_qb A.fd_qb dt items
 bd_qb:∃ ds,Vals [V.int 1] ds/\Binds K A.fd_qb ["self", "times"] ds
 b_qb:Binds K A.fd_qb ["self", "times"] []
 m_qb:Meth K A.c_qu "night" A.a_qb
 q_qp:TxM K A.c_qu "pass_night" "Cellar.pass_night" s_qp ["self"] A.a_qp A.fd_qp
 q_q0y:TxM K A.c_qu "cut" "Cellar.cut" s_q0y ["self", "wheel", "parts"] A.a_q0y A.fd_q0y
 q_q05:TxM K A.c_qu "task" "Cellar.task" s_q05 ["self", "wheels", "days", "hands", "brine", "cloth"] A.a_q05 A.fd_q05
 k_q0j:TxE K mg "CellarError" A.c_q0j
 k_qx:TxE K mg "BadName" A.c_qx
 k_q0k:TxE K mg "Taken" A.c_q0k
 k_qv:TxE K mg "Unknown" A.c_qv
 k_qk:TxE K mg "BadNumber" A.c_qk
 k_q0z:TxE K mg "Gone" A.c_q0z
 k_qi:TxE K mg "WrongRoom" A.c_qi
 k_qw:TxE K mg "Mouldy" A.c_qw
 k_qy:TxE K mg "TooMuch" A.c_qy
 k_q13:TxE K mg "BadLine" A.c_q13
 x_qx:TxX K A.c_qx
 u_qx:SubR K A.c_qx [A.c_q0j,A.c_qx,A.c_q0k,A.c_qv,A.c_qk,A.c_q0z,A.c_qi,A.c_qw,A.c_qy,A.c_q13] [true,true,false,false,false,false,false,false,false,false]
 x_q0k:TxX K A.c_q0k
 u_q0k:SubR K A.c_q0k [A.c_q0j,A.c_qx,A.c_q0k,A.c_qv,A.c_qk,A.c_q0z,A.c_qi,A.c_qw,A.c_qy,A.c_q13] [true,false,true,false,false,false,false,false,false,false]
 x_qv:TxX K A.c_qv
 u_qv:SubR K A.c_qv [A.c_q0j,A.c_qx,A.c_q0k,A.c_qv,A.c_qk,A.c_q0z,A.c_qi,A.c_qw,A.c_qy,A.c_q13] [true,false,false,true,false,false,false,false,false,false]
 x_qk:TxX K A.c_qk
 u_qk:SubR K A.c_qk [A.c_q0j,A.c_qx,A.c_q0k,A.c_qv,A.c_qk,A.c_q0z,A.c_qi,A.c_qw,A.c_qy,A.c_q13] [true,false,false,false,true,false,false,false,false,false]
 x_q0z:TxX K A.c_q0z
 u_q0z:SubR K A.c_q0z [A.c_q0j,A.c_qx,A.c_q0k,A.c_qv,A.c_qk,A.c_q0z,A.c_qi,A.c_qw,A.c_qy,A.c_q13] [true,false,false,false,false,true,false,false,false,false]
 x_qi:TxX K A.c_qi
 u_qi:SubR K A.c_qi [A.c_q0j,A.c_qx,A.c_q0k,A.c_qv,A.c_qk,A.c_q0z,A.c_qi,A.c_qw,A.c_qy,A.c_q13] [true,false,false,false,false,false,true,false,false,false]
 x_qw:TxX K A.c_qw
 u_qw:SubR K A.c_qw [A.c_q0j,A.c_qx,A.c_q0k,A.c_qv,A.c_qk,A.c_q0z,A.c_qi,A.c_qw,A.c_qy,A.c_q13] [true,false,false,false,false,false,false,true,false,false]
 x_qy:TxX K A.c_qy
 u_qy:SubR K A.c_qy [A.c_q0j,A.c_qx,A.c_q0k,A.c_qv,A.c_qk,A.c_q0z,A.c_qi,A.c_qw,A.c_qy,A.c_q13] [true,false,false,false,false,false,false,false,true,false]
 t_q0j:W.instIn K (.ref A.c_q0j) (.type "tuple")=some false
 b_q0j:W.subIn K (.ref A.c_q0j) (.type "BaseException")=some true
 t_qw:W.instIn K (.ref A.c_qw) (.type "tuple")=some false
 b_qw:W.subIn K (.ref A.c_qw) (.type "BaseException")=some true
 g_q1c:∃ t,mg "NAME_SIGNS" = some (.str c_q1c t)
 g_q1h:∃ t,mg "LONGEST_NAME" = some (.int 12 t)
 g_q1o:∃ t,mg "MOST_DAMP" = some (.int 100 t)
 g_q1k:∃ t,mg "MOST_WARMTH" = some (.int 40 t)
 g_q1l:∃ t,mg "LONGEST_GAP" = some (.int 60 t)
 g_q1n:∃ t,mg "MOST_GRAMS" = some (.int 1000000 t)
 g_q1m:∃ t,mg "MOST_NIGHTS" = some (.int 30 t)
theorem sc_q17:ju ["job"] ["job"] (je s_q17):=sct
theorem sc_q15:ju ["job"] ["job"] (je s_q15):=sct
theorem sc_q0w:ju ["wheel", "many"] ["wheel", "many"] (je s_q0w):=sct
theorem sc_q0o:ju ["shelf", "recipe", "place"] ["shelf", "recipe", "place"] (je s_q0o):=sct
theorem sc_q10:ju ["wheel", "room"] ["wheel"] (je s_q10):=sct
theorem sc_q18:ju ["wheel", "day", "recipe"] ["wheel", "day"] (je s_q18):=sct
theorem sc_q14:ju ["text", "signs"] ["text", "signs"] (je s_q14):=sct
theorem sc_q16:ju ["text"] ["text"] (je s_q16):=sct
theorem sc_qm:ju ["number", "least", "most"] ["number", "least", "most"] (je s_qm):=sct
theorem sc_q06:ju ["grams"] ["grams"] (je s_q06):=sct
theorem sc_q12:ju ["least", "most"] ["least", "most"] (je s_q12):=sct
theorem sc_qr:ju ["thing"] ["thing"] (je s_qr):=sct
theorem sc_q0d:ju ["grams", "there"] ["grams", "there"] (je s_q0d):=sct
theorem sc_q0r:ju ["_law_script", "_law_k"] ["_law_script", "_law_k"] (je s_q0r):=sct
theorem sc_qh:ju ["_law_found", "_law_due", "_law_alike"] ["_law_found", "_law_due"] (je s_qh):=sct
theorem sc_q00:ju ["_law_task", "_law_spec", "_law_k", "_law_job", "_law_raw"] ["_law_task", "_law_spec"] (je s_q00):=sct
theorem sc_q0x:ju ["_law_e", "_law_told"] ["_law_e"] (je s_q0x):=sct
theorem sc_q11:ju ["_law_cell", "_law_least"] ["_law_cell"] (je s_q11):=sct
theorem sc_q01:ju ["_law_script", "_law_gaps", "_law_cellar", "_law_k", "_law_route"] ["_law_script", "_law_gaps"] (je s_q01):=sct
theorem sc_q04:ju ["_law_cellar", "_law_name", "_law_tools", "_law_refused"] ["_law_cellar", "_law_name", "_law_tools"] (je s_q04):=sct
theorem sc_q0t:ju ["_law_cellar", "_law_wheels", "_law_cell", "_law_day", "_law_mould", "_law_name", "_law_wheel", "_law_blue", "_law_tools", "_law_step_here"] ["_law_cellar", "_law_wheels", "_law_cell", "_law_day", "_law_mould"] (je s_q0t):=sct
theorem sc_qj:ju ["_law_cellar", "_law_names", "_law_days", "_law_hands", "_law_tools", "_law_found", "_law_e"] ["_law_cellar", "_law_names", "_law_days", "_law_hands", "_law_tools"] (je s_qj):=sct
theorem sc_q0u:ju ["_law_names", "_law_wheels", "_law_gaps", "_law_day", "_law_made", "_law_name", "_law_wheel", "_law_turn", "_law_wash", "_law_stays"] ["_law_names", "_law_wheels", "_law_gaps", "_law_day"] (je s_q0u):=sct
theorem qkq:ju ["_law_script", "_law_gaps", "_law_cellar", "_law_wheels", "_law_mould", "_law_day", "_law_k", "_law_cell", "_law_name", "_law_times", "_law_pick", "_law_names", "_law_days", "_law_hands", "_law_tools", "_law_told", "_law_pair", "_law_tub"] ["_law_script"] (je gi):=sct
theorem sc_q0l:ju ["self", "mouldy", "turn_gap", "turned", "wash_gap", "washed", "stays", "lain"] ["self", "mouldy", "turn_gap", "turned", "wash_gap", "washed", "stays", "lain"] (je s_q0l):=sct
theorem sc_q0e:ju ["self", "days", "hands", "jobs", "mouldy"] ["self", "days", "hands", "jobs", "mouldy"] (je s_q0e):=sct
theorem sc_qg:ju ["self", "kind", "name"] ["self", "kind", "name"] (je s_qg):=sct
theorem sc_q0v:ju ["self", "name", "damp", "warmth"] ["self", "name", "damp", "warmth"] (je s_q0v):=sct
theorem sc_q0q:ju ["self", "name", "room"] ["self", "name", "room"] (je s_q0q):=sct
theorem sc_q0i:ju ["self", "name", "mouldy", "turn_gap", "wash_gap", "route"] ["self", "name", "mouldy", "turn_gap", "wash_gap", "route"] (je s_q0i):=sct
theorem sc_q08:ju ["self", "kind", "name"] ["self", "kind", "name"] (je s_q08):=sct
theorem sc_q0p:ju ["self", "name", "grams"] ["self", "name", "grams"] (je s_q0p):=sct
theorem sc_q0c:ju ["self", "name", "recipe", "shelf", "grams", "day"] ["self", "name", "recipe", "shelf", "grams", "day"] (je s_q0c):=sct
theorem sc_q0b:ju ["self", "name"] ["self", "name"] (je s_q0b):=sct
theorem sc_q0f:ju ["self"] ["self"] (je s_q0f):=sct
theorem sc_qf:ju ["self", "name"] ["self", "name"] (je s_qf):=sct
theorem sc_qa:ju ["self", "name", "kind", "thing"] ["self", "name", "kind"] (je s_qa):=sct
theorem sc_qo:ju ["self", "thing"] ["self", "thing"] (je s_qo):=sct
theorem sc_q0h:ju ["self", "name", "damp", "warmth"] ["self", "name", "damp", "warmth"] (je s_q0h):=sct
theorem sc_q02:ju ["self", "name", "room"] ["self", "name", "room"] (je s_q02):=sct
theorem sc_qz:ju ["self", "name", "mouldy", "turn_gap", "wash_gap", "route", "rooms", "gap"] ["self", "name", "mouldy", "turn_gap", "wash_gap", "route"] (je s_qz):=sct
theorem sc_q0g:ju ["self", "name"] ["self", "name"] (je s_q0g):=sct
theorem sc_q09:ju ["self", "name"] ["self", "name"] (je s_q09):=sct
theorem sc_q0a:ju ["self", "name"] ["self", "name"] (je s_q0a):=sct
theorem sc_q07:ju ["self", "name", "parts", "farm", "grams"] ["self", "name", "parts"] (je s_q07):=sct
theorem sc_qt:ju ["self", "name", "batch", "sort", "shelf", "grams", "source", "recipe", "lies_on", "wheel"] ["self", "name", "batch", "sort", "shelf", "grams"] (je s_qt):=sct
theorem sc_q0s:ju ["self", "wheel", "turned"] ["self", "wheel"] (je s_q0s):=sct
theorem sc_q03:ju ["self", "wheel", "brine", "cloth", "washed", "washers", "washer"] ["self", "wheel", "brine", "cloth"] (je s_q03):=sct
theorem sc_q0n:ju ["self", "wheel", "shelf", "moved", "lies_on"] ["self", "wheel", "shelf"] (je s_q0n):=sct
theorem sc_q0m:ju ["self", "thing", "boiled"] ["self", "thing"] (je s_q0m):=sct
theorem sc_qb:ju ["self", "times", "passed"] ["self", "times"] (je s_qb):=sct
theorem sc_qp:ju ["self", "rows", "wheel", "loss"] ["self"] (je s_qp):=sct
theorem sc_q0y:ju ["self", "wheel", "parts", "whole", "grams", "wedge"] ["self", "wheel", "parts"] (je s_q0y):=sct
theorem sc_q05:ju ["self", "wheels", "days", "hands", "brine", "cloth", "found", "washers", "wheel", "jobs"] ["self", "wheels", "days", "hands", "brine", "cloth"] (je s_q05):=sct
def clT (A:Adr):Nat->Addr:=λn=>match n with | 9=>A.c_Job | 10=>A.c_q1a | 0=>A.c_q19 | 1=>A.c_q1i | 2=>A.c_q1d | 3=>A.c_q1j | 4=>A.c_q1b | 5=>A.c_q1e | 6=>A.c_q1f | 7=>A.c_q1g | 8=>A.c_qu | 20=>A.c_q0j | 21=>A.c_qx | 22=>A.c_q0k | 23=>A.c_qv | 24=>A.c_qk | 25=>A.c_q0z | 26=>A.c_qi | 27=>A.c_qw | 28=>A.c_qy | 29=>A.c_q13 | _=>0
def fnT:Nat->Str:=λn=>match n with | 5 => "mouldy" | 6 => "turn_gap" | 22 => "turned" | 7 => "wash_gap" | 23 => "washed" | 9 => "stays" | 24 => "lain" | 25 => "days" | 26 => "hands" | 27 => "jobs" | 0 => "kind" | 1 => "name" | 2 => "damp" | 3 => "warmth" | 4 => "room" | 8 => "rooms" | 10 => "grams" | 11 => "recipe" | 12 => "shelf" | 13 => "place" | 14 => "turn_day" | 15 => "wash_day" | 16 => "room_day" | 17 => "gone" | 18 => "today" | 19 => "things" | 20 => "wheels" | 21 => "entries" | _ => ""
theorem injT (c i j:Nat) (hi:i∈flT c) (hj:j∈flT c) (e:fnT i=fnT j):i=j:=by
 have all:∀ i∈([0,1,2,3,4,5,6,7,8,9,10,11,12,13,14,15,16,17,18,19,20,21,22,23,24,25,26,27]:List Nat), ∀ j∈([0,1,2,3,4,5,6,7,8,9,10,11,12,13,14,15,16,17,18,19,20,21,22,23,24,25,26,27]:List Nat),fnT i=fnT j->i=j:=by decide +kernel
 have lt:∀ c i,i∈flT c->i∈([0,1,2,3,4,5,6,7,8,9,10,11,12,13,14,15,16,17,18,19,20,21,22,23,24,25,26,27]:List Nat):=by
  intro c i h;unfold flT at h;split at h <;> simp at h ⊢ <;> omega
 exact all i (lt c i hi) j (lt c j hj) e
section
variable {P:Program} {w:World} {K:W.Frag} {mg:Str->Option Value} {base:Heap} {A:Adr}
theorem fldT (T:Txt K mg A) (c i:Nat) (h:i∈flT c):Cls K (clT A c)/\zx K (clT A c) (fnT i):=by
 unfold flT at h;split at h
 ·simp only [List.mem_cons,List.not_mem_nil,or_false] at h
  rcases h with rfl | rfl | rfl | rfl | rfl | rfl | rfl
  all_goals exact ⟨T.k_Job.c,T.k_Job.na.get (by decide)⟩
 ·simp only [List.mem_cons,List.not_mem_nil,or_false] at h
  rcases h with rfl | rfl | rfl | rfl
  all_goals exact ⟨T.k_q1a.c,T.k_q1a.na.get (by decide)⟩
 ·simp only [List.mem_cons,List.not_mem_nil,or_false] at h
  rcases h with rfl | rfl
  all_goals exact ⟨T.k_q19.c,T.k_q19.na.get (by decide)⟩
 ·simp only [List.mem_cons,List.not_mem_nil,or_false] at h
  rcases h with rfl | rfl | rfl | rfl
  all_goals exact ⟨T.k_q1i.c,T.k_q1i.na.get (by decide)⟩
 ·simp only [List.mem_cons,List.not_mem_nil,or_false] at h
  rcases h with rfl | rfl | rfl
  all_goals exact ⟨T.k_q1d.c,T.k_q1d.na.get (by decide)⟩
 ·simp only [List.mem_cons,List.not_mem_nil,or_false] at h
  rcases h with rfl | rfl | rfl | rfl | rfl | rfl | rfl
  all_goals exact ⟨T.k_q1j.c,T.k_q1j.na.get (by decide)⟩
 ·simp only [List.mem_cons,List.not_mem_nil,or_false] at h
  rcases h with rfl | rfl | rfl
  all_goals exact ⟨T.k_q1b.c,T.k_q1b.na.get (by decide)⟩
 ·simp only [List.mem_cons,List.not_mem_nil,or_false] at h
  rcases h with rfl | rfl | rfl
  all_goals exact ⟨T.k_q1e.c,T.k_q1e.na.get (by decide)⟩
 ·simp only [List.mem_cons,List.not_mem_nil,or_false] at h
  rcases h with rfl | rfl | rfl | rfl | rfl | rfl | rfl | rfl | rfl | rfl
  all_goals exact ⟨T.k_q1f.c,T.k_q1f.na.get (by decide)⟩
 ·simp only [List.mem_cons,List.not_mem_nil,or_false] at h
  rcases h with rfl | rfl | rfl
  all_goals exact ⟨T.k_q1g.c,T.k_q1g.na.get (by decide)⟩
 ·simp only [List.mem_cons,List.not_mem_nil,or_false] at h
  rcases h with rfl | rfl | rfl | rfl
  all_goals exact ⟨T.k_qu.c,T.k_qu.na.get (by decide)⟩
 ·simp at h
def ctOf (T:Txt K mg A):Ct:=⟨K,clT A,fnT,flT,injT,fldT T,flG,none⟩
abbrev oZ (P:Program) (w:World) (base:Heap) {K:W.Frag} {mg:Str->Option Value} {A:Adr} (T:Txt K mg A) (k:Nat) (a:Addr) (fd:FuncData) (ps:List Str) (n:Nat) (m:AF):=FnOk P w K mg base (CX1 P w) k a fd ps (spZ (ctOf T) n m)
theorem hsubT (T:Txt K mg A) (c:Nat) (x:Str) (h:wdT c=some x):W.subIn K (.ref (clT A c)) (.ref A.c_q0j)=some true:=by
 unfold wdT at h;split at h
 ·exact (T.u_qx.g 0)
 ·exact (T.u_q0k.g 0)
 ·exact (T.u_qv.g 0)
 ·exact (T.u_qk.g 0)
 ·exact (T.u_q0z.g 0)
 ·exact (T.u_qi.g 0)
 ·exact (T.u_qw.g 0)
 ·exact (T.u_qy.g 0)
 ·cases h
theorem ix {K:W.Frag} {r c:Addr} {b:Bool} {cs:List Addr} {bs:List Bool} (x:TxX K r) (C:ClsK K c) (u:SubR K r cs bs) (i j:Nat) (h1:cs[i]?=some r:=by rfl) (h2:bs[i]?=some true:=by rfl) (h3:cs[j]?=some c:=by rfl) (h4:bs[j]?=some b:=by rfl):ExcK K r/\W.kitOne K (.ref r) (.ref c)=some b:=⟨x.e,jq C (u.g i h1 h2) (u.g j h3 h4)⟩
theorem isx_q13 (T:Txt K mg A) (c:Nat) (b:Bool) (h:sbT_q13 c=some b):ExcK K (clT A c)/\W.kitOne K (.ref (clT A c)) (clsU (.ref A.c_q13))=some b:=by
 unfold sbT_q13 at h;split at h
 ·cases h;exact ix T.x_qx T.k_q13.k T.u_qx 1 9
 ·cases h;exact ix T.x_q0k T.k_q13.k T.u_q0k 2 9
 ·cases h;exact ix T.x_qv T.k_q13.k T.u_qv 3 9
 ·cases h;exact ix T.x_qk T.k_q13.k T.u_qk 4 9
 ·cases h;exact ix T.x_q0z T.k_q13.k T.u_q0z 5 9
 ·cases h;exact ix T.x_qi T.k_q13.k T.u_qi 6 9
 ·cases h;exact ix T.x_qw T.k_q13.k T.u_qw 7 9
 ·cases h;exact ix T.x_qy T.k_q13.k T.u_qy 8 9
 ·cases h
theorem isx_qx (T:Txt K mg A) (c:Nat) (b:Bool) (h:sbT_qx c=some b):ExcK K (clT A c)/\W.kitOne K (.ref (clT A c)) (clsU (.ref A.c_qx))=some b:=by
 unfold sbT_qx at h;split at h
 ·cases h;exact ix T.x_qx T.k_qx.k T.u_qx 1 1
 ·cases h;exact ix T.x_q0k T.k_qx.k T.u_q0k 2 1
 ·cases h;exact ix T.x_qv T.k_qx.k T.u_qv 3 1
 ·cases h;exact ix T.x_qk T.k_qx.k T.u_qk 4 1
 ·cases h;exact ix T.x_q0z T.k_qx.k T.u_q0z 5 1
 ·cases h;exact ix T.x_qi T.k_qx.k T.u_qi 6 1
 ·cases h;exact ix T.x_qw T.k_qx.k T.u_qw 7 1
 ·cases h;exact ix T.x_qy T.k_qx.k T.u_qy 8 1
 ·cases h
theorem isx_q0k (T:Txt K mg A) (c:Nat) (b:Bool) (h:sbT_q0k c=some b):ExcK K (clT A c)/\W.kitOne K (.ref (clT A c)) (clsU (.ref A.c_q0k))=some b:=by
 unfold sbT_q0k at h;split at h
 ·cases h;exact ix T.x_qx T.k_q0k.k T.u_qx 1 2
 ·cases h;exact ix T.x_q0k T.k_q0k.k T.u_q0k 2 2
 ·cases h;exact ix T.x_qv T.k_q0k.k T.u_qv 3 2
 ·cases h;exact ix T.x_qk T.k_q0k.k T.u_qk 4 2
 ·cases h;exact ix T.x_q0z T.k_q0k.k T.u_q0z 5 2
 ·cases h;exact ix T.x_qi T.k_q0k.k T.u_qi 6 2
 ·cases h;exact ix T.x_qw T.k_q0k.k T.u_qw 7 2
 ·cases h;exact ix T.x_qy T.k_q0k.k T.u_qy 8 2
 ·cases h
theorem isx_qv (T:Txt K mg A) (c:Nat) (b:Bool) (h:sbT_qv c=some b):ExcK K (clT A c)/\W.kitOne K (.ref (clT A c)) (clsU (.ref A.c_qv))=some b:=by
 unfold sbT_qv at h;split at h
 ·cases h;exact ix T.x_qx T.k_qv.k T.u_qx 1 3
 ·cases h;exact ix T.x_q0k T.k_qv.k T.u_q0k 2 3
 ·cases h;exact ix T.x_qv T.k_qv.k T.u_qv 3 3
 ·cases h;exact ix T.x_qk T.k_qv.k T.u_qk 4 3
 ·cases h;exact ix T.x_q0z T.k_qv.k T.u_q0z 5 3
 ·cases h;exact ix T.x_qi T.k_qv.k T.u_qi 6 3
 ·cases h;exact ix T.x_qw T.k_qv.k T.u_qw 7 3
 ·cases h;exact ix T.x_qy T.k_qv.k T.u_qy 8 3
 ·cases h
theorem isx_qk (T:Txt K mg A) (c:Nat) (b:Bool) (h:sbT_qk c=some b):ExcK K (clT A c)/\W.kitOne K (.ref (clT A c)) (clsU (.ref A.c_qk))=some b:=by
 unfold sbT_qk at h;split at h
 ·cases h;exact ix T.x_qx T.k_qk.k T.u_qx 1 4
 ·cases h;exact ix T.x_q0k T.k_qk.k T.u_q0k 2 4
 ·cases h;exact ix T.x_qv T.k_qk.k T.u_qv 3 4
 ·cases h;exact ix T.x_qk T.k_qk.k T.u_qk 4 4
 ·cases h;exact ix T.x_q0z T.k_qk.k T.u_q0z 5 4
 ·cases h;exact ix T.x_qi T.k_qk.k T.u_qi 6 4
 ·cases h;exact ix T.x_qw T.k_qk.k T.u_qw 7 4
 ·cases h;exact ix T.x_qy T.k_qk.k T.u_qy 8 4
 ·cases h
theorem isx_q0z (T:Txt K mg A) (c:Nat) (b:Bool) (h:sbT_q0z c=some b):ExcK K (clT A c)/\W.kitOne K (.ref (clT A c)) (clsU (.ref A.c_q0z))=some b:=by
 unfold sbT_q0z at h;split at h
 ·cases h;exact ix T.x_qx T.k_q0z.k T.u_qx 1 5
 ·cases h;exact ix T.x_q0k T.k_q0z.k T.u_q0k 2 5
 ·cases h;exact ix T.x_qv T.k_q0z.k T.u_qv 3 5
 ·cases h;exact ix T.x_qk T.k_q0z.k T.u_qk 4 5
 ·cases h;exact ix T.x_q0z T.k_q0z.k T.u_q0z 5 5
 ·cases h;exact ix T.x_qi T.k_q0z.k T.u_qi 6 5
 ·cases h;exact ix T.x_qw T.k_q0z.k T.u_qw 7 5
 ·cases h;exact ix T.x_qy T.k_q0z.k T.u_qy 8 5
 ·cases h
theorem isx_qi (T:Txt K mg A) (c:Nat) (b:Bool) (h:sbT_qi c=some b):ExcK K (clT A c)/\W.kitOne K (.ref (clT A c)) (clsU (.ref A.c_qi))=some b:=by
 unfold sbT_qi at h;split at h
 ·cases h;exact ix T.x_qx T.k_qi.k T.u_qx 1 6
 ·cases h;exact ix T.x_q0k T.k_qi.k T.u_q0k 2 6
 ·cases h;exact ix T.x_qv T.k_qi.k T.u_qv 3 6
 ·cases h;exact ix T.x_qk T.k_qi.k T.u_qk 4 6
 ·cases h;exact ix T.x_q0z T.k_qi.k T.u_q0z 5 6
 ·cases h;exact ix T.x_qi T.k_qi.k T.u_qi 6 6
 ·cases h;exact ix T.x_qw T.k_qi.k T.u_qw 7 6
 ·cases h;exact ix T.x_qy T.k_qi.k T.u_qy 8 6
 ·cases h
theorem isx_qw (T:Txt K mg A) (c:Nat) (b:Bool) (h:sbT_qw c=some b):ExcK K (clT A c)/\W.kitOne K (.ref (clT A c)) (clsU (.ref A.c_qw))=some b:=by
 unfold sbT_qw at h;split at h
 ·cases h;exact ix T.x_qx T.k_qw.k T.u_qx 1 7
 ·cases h;exact ix T.x_q0k T.k_qw.k T.u_q0k 2 7
 ·cases h;exact ix T.x_qv T.k_qw.k T.u_qv 3 7
 ·cases h;exact ix T.x_qk T.k_qw.k T.u_qk 4 7
 ·cases h;exact ix T.x_q0z T.k_qw.k T.u_q0z 5 7
 ·cases h;exact ix T.x_qi T.k_qw.k T.u_qi 6 7
 ·cases h;exact ix T.x_qw T.k_qw.k T.u_qw 7 7
 ·cases h;exact ix T.x_qy T.k_qw.k T.u_qy 8 7
 ·cases h
theorem isx_qy (T:Txt K mg A) (c:Nat) (b:Bool) (h:sbT_qy c=some b):ExcK K (clT A c)/\W.kitOne K (.ref (clT A c)) (clsU (.ref A.c_qy))=some b:=by
 unfold sbT_qy at h;split at h
 ·cases h;exact ix T.x_qx T.k_qy.k T.u_qx 1 8
 ·cases h;exact ix T.x_q0k T.k_qy.k T.u_q0k 2 8
 ·cases h;exact ix T.x_qv T.k_qy.k T.u_qv 3 8
 ·cases h;exact ix T.x_qk T.k_qy.k T.u_qk 4 8
 ·cases h;exact ix T.x_q0z T.k_qy.k T.u_q0z 5 8
 ·cases h;exact ix T.x_qi T.k_qy.k T.u_qi 6 8
 ·cases h;exact ix T.x_qw T.k_qy.k T.u_qw 7 8
 ·cases h;exact ix T.x_qy T.k_qy.k T.u_qy 8 8
 ·cases h
theorem qd1 (T:Txt K mg A) (c:Nat) (b:Bool) (h:bx c=some b):ExcK K (clT A c)/\W.kitOne K (.ref (clT A c)) (clsU (.ty "ValueError"))=some b:=by
 unfold bx at h;split at h
 ·cases h;exact ⟨T.x_qx.e,L2.gk rfl T.x_qx.v⟩
 ·cases h;exact ⟨T.x_q0k.e,L2.gk rfl T.x_q0k.v⟩
 ·cases h;exact ⟨T.x_qv.e,L2.gk rfl T.x_qv.v⟩
 ·cases h;exact ⟨T.x_qk.e,L2.gk rfl T.x_qk.v⟩
 ·cases h;exact ⟨T.x_q0z.e,L2.gk rfl T.x_q0z.v⟩
 ·cases h;exact ⟨T.x_qi.e,L2.gk rfl T.x_qi.v⟩
 ·cases h;exact ⟨T.x_qw.e,L2.gk rfl T.x_qw.v⟩
 ·cases h;exact ⟨T.x_qy.e,L2.gk rfl T.x_qy.v⟩
 ·cases h
theorem zq_q0x (T:Txt K mg A):fe P w K mg base CX0 1 A.a_q0x A.fd_q0x ["_law_e"] (qet (ctOf T) wdT):=by
 refine T.q_q0x.F.okQ sc_q0x (λvs H Q E h=>?_) (λcdv A' outer s H vs Q E ah hr hA hv h=>?_)
 ·obtain ⟨a,c,x,rfl,_⟩:=h
  rfl
 ·have nd:=sc_q0x.nd
  obtain ⟨c,h⟩:=qhn hv word_true h;exact ⟨_,(j9 (jy (i:=1) nd rfl (Or.inl rfl) (xm (j4 (yw (j4 jh (j4 (ye om rfl T.n_isinstance PyProof.Rows.boot_isinstance (j4 (pv 0) (j4 (uw (v:=.ref A.c_q13) rfl T.k_q13.d rfl) j6))) j6))) (j4 (yw (j4 jh (j4 (ye om rfl T.n_isinstance PyProof.Rows.boot_isinstance (j4 (pv 0) (j4 (uw (v:=.ref A.c_qx) rfl T.k_qx.d rfl) j6))) j6))) (j4 (yw (j4 jh (j4 (ye om rfl T.n_isinstance PyProof.Rows.boot_isinstance (j4 (pv 0) (j4 (uw (v:=.ref A.c_q0k) rfl T.k_q0k.d rfl) j6))) j6))) j6)))))
 (j9 (jy (i:=1) nd rfl (Or.inl rfl) (jk pj (pv 1) (xm (j4 (yw (j4 jh (j4 (ye om rfl T.n_isinstance PyProof.Rows.boot_isinstance (j4 (pv 0) (j4 (uw (v:=.ref A.c_qv) rfl T.k_qv.d rfl) j6))) j6))) (j4 (yw (j4 jh (j4 (ye om rfl T.n_isinstance PyProof.Rows.boot_isinstance (j4 (pv 0) (j4 (uw (v:=.ref A.c_qk) rfl T.k_qk.d rfl) j6))) j6))) j6)))))
 (j9 (jy (i:=1) nd rfl (Or.inl rfl) (jk pj (pv 1) (xm (j4 (yw (j4 jh (j4 (ye om rfl T.n_isinstance PyProof.Rows.boot_isinstance (j4 (pv 0) (j4 (uw (v:=.ref A.c_q0z) rfl T.k_q0z.d rfl) j6))) j6))) (j4 (yw (j4 jh (j4 (ye om rfl T.n_isinstance PyProof.Rows.boot_isinstance (j4 (pv 0) (j4 (uw (v:=.ref A.c_qi) rfl T.k_qi.d rfl) j6))) j6))) j6)))))
 (j9 (jy (i:=1) nd rfl (Or.inl rfl) (jk pj (pv 1) (xm (j4 (yw (j4 jh (j4 (ye om rfl T.n_isinstance PyProof.Rows.boot_isinstance (j4 (pv 0) (j4 (uw (v:=.ref A.c_qw) rfl T.k_qw.d rfl) j6))) j6))) (j4 (yw (j4 jh (j4 (ye om rfl T.n_isinstance PyProof.Rows.boot_isinstance (j4 (pv 0) (j4 (uw (v:=.ref A.c_qy) rfl T.k_qy.d rfl) j6))) j6))) j6)))))
 (j9 (jy (i:=1) nd rfl (Or.inl rfl) (jk pj (pv 1) (xm (j4 (yw (j4 jh (j4 (pe_not (ye om rfl T.n_isinstance PyProof.Rows.boot_isinstance (j4 (pv 0) (j4 (ux (v:=.ty "ValueError") rfl T.n_ValueError PyProof.Rows.Boot.«ValueError» rfl) j6)))) j6))) j6))))
 (jd (xi (zz PySem.F.plainAttrs_str PySem.F.slot_str_join PySem.F.type_str_join qou jh (j4 (pe_lcQ (ah:=ah) (osc:=je s_q0x) (N0:=["_law_e", "_law_told"]) hA rfl rfl (own:=["_law_word", "_law_there"]) (fv:=[]) ⟨rfl,dk,dk,dk,dk,dk⟩ (qmc (ah:=ah) (pv 1)) (λ_ _ _=>(qp0 (K:=K) (ah:=ah) (n:=2) rfl hA (vf (yg (i:=0) (show (["_law_word", "_law_there"]:List Str).Nodup by decide +kernel) rfl (Or.inl rfl) (hf:=Or.inr rfl)) (vf (yg (i:=1) (show (["_law_word", "_law_there"]:List Str).Nodup by decide +kernel) rfl (Or.inl rfl) (hf:=Or.inr rfl)) kj)))) (λ_ _ _=>(qng (xy (pv 1)))) (λ_ _ _=>(pv 0))) j6))))))))),jz (C:=(ctOf T).at ah (clT A c)) (E:=E0) ((ja (jt (vc (j5 (yx (j5 jl (j5 (ox (cv:=.ref A.c_q13) (sub:=sbT_q13) rfl (isx_q13 T) j3) j7))) (j5 (yx (j5 jl (j5 (ox (cv:=.ref A.c_qx) (sub:=sbT_qx) rfl (isx_qx T) j3) j7))) (j5 (yx (j5 jl (j5 (ox (cv:=.ref A.c_q0k) (sub:=sbT_q0k) rfl (isx_q0k T) j3) j7))) j7)))) jm)
 (ja (jt (j8 pz j3 (vc (j5 (yx (j5 jl (j5 (ox (cv:=.ref A.c_qv) (sub:=sbT_qv) rfl (isx_qv T) j3) j7))) (j5 (yx (j5 jl (j5 (ox (cv:=.ref A.c_qk) (sub:=sbT_qk) rfl (isx_qk T) j3) j7))) j7)))) jm)
 (ja (jt (j8 pz j3 (vc (j5 (yx (j5 jl (j5 (ox (cv:=.ref A.c_q0z) (sub:=sbT_q0z) rfl (isx_q0z T) j3) j7))) (j5 (yx (j5 jl (j5 (ox (cv:=.ref A.c_qi) (sub:=sbT_qi) rfl (isx_qi T) j3) j7))) j7)))) jm)
 (ja (jt (j8 pz j3 (vc (j5 (yx (j5 jl (j5 (ox (cv:=.ref A.c_qw) (sub:=sbT_qw) rfl (isx_qw T) j3) j7))) (j5 (yx (j5 jl (j5 (ox (cv:=.ref A.c_qy) (sub:=sbT_qy) rfl (isx_qy T) j3) j7))) j7)))) jm)
 (ja (jt (j8 pz j3 (vc (j5 (yx (j5 jl (j5 (se_not (ox (cv:=.ty "ValueError") (sub:=bx) rfl (qd1 T) j3)) j7))) j7))) jm)
 (xj (se_bmS qp8 jl (j5 (zc (own:=["_law_word", "_law_there"]) (fv:=[]) (qm7 (C:=(ctOf T).at ah _) rfl j3) (qme (C:=(ctOf T).at ah _) rfl (vz xo (vz xo qa))) (st_b j3) j3) j7))))))))) rfl h⟩
theorem z_q17 (T:Txt K mg A):oZ P w base T 1 A.a_q17 A.fd_q17 ["job"] 1 m_q17:=okz T.q_q17.F sc_q17 rfl λhr nd hu h=>⟨_,(jd (xi (yw (j4 (jj (pv 0) rfl) (j4 (jj (pv 0) rfl) (j4 (jj (pv 0) rfl) (j4 (jj (pv 0) rfl) (j4 (jj (pv 0) rfl) (j4 (jj (pv 0) rfl) (j4 (jj (pv 0) rfl) j6)))))))))),jz (C:=ctOf T) ((xj (yx (j5 (ji rfl j3) (j5 (ji rfl j3) (j5 (ji rfl j3) (j5 (ji rfl j3) (j5 (ji rfl j3) (j5 (ji rfl j3) (j5 (ji rfl j3) j7)))))))))) rfl h⟩
theorem z_q0l (T:Txt K mg A):oZ P w base T 1 A.a_q0l A.fd_q0l ["self", "mouldy", "turn_gap", "turned", "wash_gap", "washed", "stays", "lain"] 8 m_q0l:=okz T.q_q0l.F sc_q0l rfl λhr nd hu h=>⟨_,(j9 (yn (pv 0) (pv 1) rfl)
 (j9 (yn (pv 0) (pv 2) rfl)
 (j9 (yn (pv 0) (pv 3) rfl)
 (j9 (yn (pv 0) (pv 4) rfl)
 (j9 (yn (pv 0) (pv 5) rfl)
 (j9 (yn (pv 0) (xr fi rfl T.n_list PyProof.Rows.boot_list (j4 (pv 6) j6)) rfl)
 (jd (yn (pv 0) (pv 7) rfl)))))))),jz (C:=ctOf T) ((ja (yp (i:=5) rfl j3 j3)
 (ja (yp (i:=6) rfl j3 j3)
 (ja (yp (i:=22) rfl j3 j3)
 (ja (yp (i:=7) rfl j3 j3)
 (ja (yp (i:=23) rfl j3 j3)
 (ja (yp (i:=9) rfl j3 (ya qly (j5 j3 j7)))
 (yp (i:=24) rfl j3 j3)))))))) rfl h⟩
theorem z_q15 (T:Txt K mg A):oZ P w base T 3 A.a_q15 A.fd_q15 ["job"] 1 m_q15:=okz T.q_q15.F sc_q15 rfl λhr nd hu h=>⟨_,(jd (xi (zy (T.k_Job.mkt T.q_q0l) (z_q0l T) hr.q9 rfl T.k_Job.d T.q_q0l.b .nil jf.passes (j4 (jj (pv 0) rfl) (j4 (jj (pv 0) rfl) (j4 (jj (pv 0) rfl) (j4 (jj (pv 0) rfl) (j4 (jj (pv 0) rfl) (j4 (jj (pv 0) rfl) (j4 (jj (pv 0) rfl) j6)))))))))),jz (C:=ctOf T) ((xj (zq (c:=9) rfl (j5 (ji rfl j3) (j5 (ji rfl j3) (j5 (ji rfl j3) (j5 (ji rfl j3) (j5 (ji rfl j3) (j5 (ji rfl j3) (j5 (ji rfl j3) j7)))))))))) rfl h⟩
theorem z_q0w (T:Txt K mg A):oZ P w base T 1 A.a_q0w A.fd_q0w ["wheel", "many"] 2 m_q0w:=okz T.q_q0w.F sc_q0w rfl λhr nd hu h=>⟨_,(jd (xi (gb (osc:=je s_q0w) (N0:=["wheel", "many"]) rfl rfl rfl (own:=["number"]) (fv:=[("wheel",0)]) ⟨rfl,dk,dk,dk,dk,dk⟩ (qj5 rfl T.n_range (j4 jc (j4 (jk zw (pv 1) jc) j6))) (λ_ _ _=>(yg (i:=0) (show (["number", "wheel"]:List Str).Nodup by decide +kernel) rfl (Or.inl rfl) (hf:=Or.inr rfl))) (λ_ _ _=>u6) (λ_ _ _=>(oq (xa (kr (pv 1)) (xa jh (xa (qz (pv 0)) oo)))))))),jz (C:=ctOf T) ((xj (zc (own:=["number"]) (fv:=[("wheel",0)]) (qkg jb (j8 zl j3 jb)) xo u7 (qp7 (qd2 (qpc j3) (qd2 jl (qd2 (qnc j3) sj_nil))))))) rfl h⟩
theorem z_q0o (T:Txt K mg A):oZ P w base T 1 A.a_q0o A.fd_q0o ["shelf", "recipe", "place"] 3 m_q0o:=okz T.q_q0o.F sc_q0o rfl λhr nd hu h=>⟨_,(jd (xi (zj nh (jj (jj (pv 0) rfl) rfl) (n8 ng (jj (pv 1) rfl) (oh (pv 2)) (oh (jk zw (pv 2) jc))) rfl))),jz (C:=ctOf T) ((xj (j8 m8 (ji rfl (ji rfl j3)) (nu nv (ji rfl j3) (ou j3) (ou (j8 zl j3 jb)))))) rfl h⟩
theorem z_q10 (T:Txt K mg A):oZ P w base T 1 A.a_q10 A.fd_q10 ["wheel"] 1 m_q10:=okz T.q_q10.F sc_q10 rfl λhr nd hu h=>⟨_,(j9 (jy (i:=1) nd rfl (Or.inl rfl) (jj (jj (pv 0) rfl) rfl))
 (jd (xi (jk uk (jk qjb (jk qjb (jj (pv 0) rfl) (jk og jc (jj (pv 1) rfl))) (jj (pv 1) rfl)) jc)))),jz (C:=ctOf T) ((ja (jt (ji rfl (ji rfl j3)) jm)
 (xj (j8 ur (j8 qlf (j8 qlf (ji rfl j3) (j8 gq jb (ji rfl j3))) (ji rfl j3)) jb)))) rfl h⟩
theorem z_q18 (T:Txt K mg A):oZ P w base T 3 A.a_q18 A.fd_q18 ["wheel", "day"] 2 m_q18:=okz T.q_q18.F sc_q18 rfl λhr nd hu h=>⟨_,(j9 (jy (i:=2) nd rfl (Or.inl rfl) (jj (pv 0) rfl))
 (jd (xi (zy (T.k_Job.mkt T.q_q0l) (z_q0l T) hr.q9 rfl T.k_Job.d T.q_q0l.b .nil jf.passes (j4 (jj (pv 2) rfl) (j4 (jj (pv 2) rfl) (j4 (jk og (pv 1) (jj (pv 0) rfl)) (j4 (jj (pv 2) rfl) (j4 (jk og (pv 1) (jj (pv 0) rfl)) (j4 (n8 ng (jj (pv 2) rfl) (oh (jj (pv 0) rfl)) qu) (j4 (jk og (pv 1) (jj (pv 0) rfl)) j6))))))))))),jz (C:=ctOf T) ((ja (jt (ji rfl j3) jm)
 (xj (zq (c:=9) rfl (j5 (ji rfl j3) (j5 (ji rfl j3) (j5 (j8 gq j3 (ji rfl j3)) (j5 (ji rfl j3) (j5 (j8 gq j3 (ji rfl j3)) (j5 (nu nv (ji rfl j3) (ou (ji rfl j3)) rp) (j5 (j8 gq j3 (ji rfl j3)) j7))))))))))) rfl h⟩
theorem z_q14 (T:Txt K mg A):oZ P w base T 1 A.a_q14 A.fd_q14 ["text", "signs"] 2 m_q14:=okz T.q_q14.F sc_q14 rfl λhr nd hu h=>⟨_,(jd (xi (ye (qe4 rfl) rfl T.n_all PyProof.Rows.boot_all (j4 (gb (osc:=je s_q14) (N0:=["text", "signs"]) rfl rfl rfl (own:=["sign"]) (fv:=[("signs",1)]) ⟨rfl,dk,dk,dk,dk,dk⟩ (pi_str (pv 0)) (λ_ _ _=>(yg (i:=0) (show (["sign", "signs"]:List Str).Nodup by decide +kernel) rfl (Or.inl rfl) (hf:=Or.inr rfl))) (λ_ _ _=>u6) (λ_ _ _=>(zj qkd (pv 0) (pv 1) rfl))) j6)))),jz (C:=ctOf T) ((xj (ya qj7 (j5 (zc (own:=["sign"]) (fv:=[("signs",1)]) (si_str j3) xo u7 (j8 s2_inS j3 j3)) j7)))) rfl h⟩
theorem z_q16 (T:Txt K mg A):oZ P w base T 2 A.a_q16 A.fd_q16 ["text"] 1 m_q16:=okz T.q_q16.F sc_q16 rfl λhr nd hu h=>⟨_,(jd (xi (qt (qlk cg cg jc (ye gn rfl T.n_len PySem.boot_len (j4 (pv 0) j6)) (qx rfl T.g_q1h)) (qr (yo (z_q14 T) hr.q9 rfl T.q_q14.d T.q_q14.F.kp T.q_q14.b .nil jf.passes (j4 (pv 0) (j4 (qls rfl T.g_q1c) j6))))))),jz (C:=ctOf T) ((xj (rg (qf8 fm fm jb (ya gu (j5 j3 j7)) jb) (yb (j5 j3 (j5 jl j7)))))) rfl h⟩
theorem z_qm (T:Txt K mg A):oZ P w base T 1 A.a_qm A.fd_qm ["number", "least", "most"] 3 m_qm:=okz T.q_qm.F sc_qm rfl λhr nd hu h=>⟨_,(jd (yu (uj (qmd cg cg (pv 1) (pv 0) (pv 2)))
 (jd (gj jf hr.hd rfl T.k_qk.d T.x_qk.x PySem.F.excBase_ValueError rfl PySem.F.excBase_ValueError (j4 (oq (xa jh (xa (qz (pv 1)) (xa jh (xa (qz (pv 2)) (xa jh (xa (qz (pv 0)) oo))))))) j6)))
 x8)),jz (C:=ctOf T) ((yv (uq (v9 (qf8 fm fm j3 j3 j3)))
 (o5 (c:=24) (mh (ug (dy j3 (ug (dy j3 (ug (dy j3 mf)))))) (by decide +kernel)))
 xf)) rfl h⟩
theorem z_q06 (T:Txt K mg A):oZ P w base T 2 A.a_q06 A.fd_q06 ["grams"] 1 m_q06:=okz T.q_q06.F sc_q06 rfl λhr nd hu h=>⟨_,(jd (jo (yo (z_qm T) hr.q9 rfl T.q_qm.d T.q_qm.F.kp T.q_qm.b .nil jf.passes (j4 (pv 0) (j4 jc (j4 (qx rfl T.g_q1n) j6)))))),jz (C:=ctOf T) ((jr (yb (j5 j3 (j5 jb (j5 jb j7)))))) rfl h⟩
theorem z_q12 (T:Txt K mg A):oZ P w base T 2 A.a_q12 A.fd_q12 ["least", "most"] 2 m_q12:=okz T.q_q12.F sc_q12 rfl λhr nd hu h=>⟨_,(j9 (jo (yo (z_qm T) hr.q9 rfl T.q_qm.d T.q_qm.F.kp T.q_qm.b .nil jf.passes (j4 (pv 1) (j4 jc (j4 (qx rfl T.g_q1l) j6)))))
 (jd (jo (yo (z_qm T) hr.q9 rfl T.q_qm.d T.q_qm.F.kp T.q_qm.b .nil jf.passes (j4 (pv 0) (j4 jc (j4 (pv 1) j6))))))),jz (C:=ctOf T) ((ja (jr (yb (j5 j3 (j5 jb (j5 jb j7)))))
 (jr (yb (j5 j3 (j5 jb (j5 j3 j7))))))) rfl h⟩
theorem z_qr (T:Txt K mg A):oZ P w base T 1 A.a_qr A.fd_qr ["thing"] 1 m_qr:=okz T.q_qr.F sc_qr rfl λhr nd hu h=>⟨_,(jd (yu (xy (jj (pv 0) rfl))
 (jd (gj jf hr.hd rfl T.k_q0z.d T.x_q0z.x PySem.F.excBase_ValueError rfl PySem.F.excBase_ValueError (j4 (jk um jh (jj (pv 0) rfl)) j6)))
 x8)),jz (C:=ctOf T) ((yv (st_b (ji rfl j3))
 (o5 (c:=25) (ms_add (by decide +kernel) (ji rfl j3)))
 xf)) rfl h⟩
theorem z_q0d (T:Txt K mg A):oZ P w base T 1 A.a_q0d A.fd_q0d ["grams", "there"] 2 m_q0d:=okz T.q_q0d.F sc_q0d rfl λhr nd hu h=>⟨_,(jd (yu (vb op_gt (pv 0) (pv 1) (xu _))
 (jd (gj jf hr.hd rfl T.k_qy.d T.x_qy.x PySem.F.excBase_ValueError rfl PySem.F.excBase_ValueError (j4 (oq (xa (qz (pv 0)) (xa jh (xa (qz (pv 1)) (xa jh oo))))) j6)))
 x8)),jz (C:=ctOf T) ((yv (v9 (j8 s2_gt j3 j3))
 (o5 (c:=28) (mh (dy j3 (ug (dy j3 (ug mf)))) (by decide +kernel)))
 xf)) rfl h⟩
theorem z_q0r (T:Txt K mg A):oZ P w base T 1 A.a_q0r A.fd_q0r ["_law_script", "_law_k"] 2 m_q0r:=okz T.q_q0r.F sc_q0r rfl λhr nd hu h=>⟨_,(j9 (yu (vb cf (pv 1) (ye gn rfl T.n_len PySem.boot_len (j4 (pv 0) j6)) (xu _))
 (jd (xi (jv jx (pv 0) (pv 1) (λ_ _=>rfl))))
 x8)
 (jd (xi jc))),jz (C:=ctOf T) ((ja (yv (v9 (j8 fk j3 (ya gu (j5 j3 j7))))
 (xj (j8 jw j3 j3))
 xf)
 (xj jb))) rfl h⟩
theorem zr_qh (T:Txt K mg A):∀ n,FnOk P w K mg base (CX1 P w) (n+0) A.a_qh A.fd_qh ["_law_found", "_law_due"] (spZ (ctOf T) 2 (m_qh n))
 | 0=>fn_no rfl
 | n+1=>by
  have G_qh:FnOk P w K mg base (CX1 P w) (n+0) A.a_qh A.fd_qh ["_law_found", "_law_due"] (spZ (ctOf T) 2 (m_qh n)):=zr_qh T n;refine T.q_qh.F.okR sc_qh (λvs H Q E h=>dm h) (λcdv A' outer s H vs Q E hr h=>?_)
  have nd:=sc_qh.nd;have hu:=pd hr;exact ⟨_,(j9 (yu (xy (ye qia rfl T.n_isinstance PyProof.Rows.boot_isinstance (j4 (pv 1) (j4 (yw (j4 (ux (v:=.ty "list") rfl T.n_list PyProof.Rows.boot_list rfl) (j4 (ux (v:=.ty "tuple") rfl T.n_tuple PyProof.Rows.boot_tuple rfl) j6))) j6))))
 (j9 (yu (PW.pt (p7 (vb p8 (ye gm rfl T.n_isinstance PyProof.Rows.boot_isinstance (j4 (pv 0) (j4 (ux (v:=.ty "list") rfl T.n_list PyProof.Rows.boot_list rfl) j6))) (ye gm rfl T.n_isinstance PyProof.Rows.boot_isinstance (j4 (pv 1) (j4 (ux (v:=.ty "list") rfl T.n_list PyProof.Rows.boot_list rfl) j6))) (xu _)) (p6 (vb p8 (ye gm rfl T.n_isinstance PyProof.Rows.boot_isinstance (j4 (pv 0) (j4 (ux (v:=.ty "tuple") rfl T.n_tuple PyProof.Rows.boot_tuple rfl) j6))) (ye gm rfl T.n_isinstance PyProof.Rows.boot_isinstance (j4 (pv 1) (j4 (ux (v:=.ty "tuple") rfl T.n_tuple PyProof.Rows.boot_tuple rfl) j6))) (xu _)))))
 (jd (xi xt))
 x8)
 (jd (xi (qt (zj zi (ye gn rfl T.n_len PySem.boot_len (j4 (pv 0) j6)) (ye gn rfl T.n_len PySem.boot_len (j4 (pv 1) j6)) (xu _)) (qr (ye (qe4 rfl) rfl T.n_all PyProof.Rows.boot_all (j4 (gb (osc:=je s_qh) (N0:=["_law_found", "_law_due", "_law_alike"]) rfl rfl rfl (own:=["_law_k"]) (fv:=[("_law_found",0),("_law_due",1)]) ⟨rfl,dk,dk,dk,dk,dk⟩ (km rfl T.n_range (j4 (ye gn rfl T.n_len PySem.boot_len (j4 (pv 1) j6)) j6)) (λ_ _ _=>(yg (i:=0) (show (["_law_k", "_law_found", "_law_due"]:List Str).Nodup by decide +kernel) rfl (Or.inl rfl) (hf:=Or.inr rfl))) (λ_ _ _=>u6) (λ_ _ _=>(yo G_qh hr rfl T.q_qh.d T.q_qh.F.kp T.q_qh.b .nil ud (j4 (jv (iq (K:=K) rfl) (pv 1) (pv 0) (λ_ _=>rfl)) (j4 (jv (iq (K:=K) rfl) (pv 2) (pv 0) (λ_ _=>rfl)) j6))))) j6)))))))
 x8)
 (j9 (jy (i:=2) nd rfl (Or.inl rfl) (qt (zj zi (ye gm rfl T.n_isinstance PyProof.Rows.boot_isinstance (j4 (pv 0) (j4 (ux (v:=.ty "int") rfl T.n_int PyProof.Rows.boot_int rfl) j6))) (ye gm rfl T.n_isinstance PyProof.Rows.boot_isinstance (j4 (pv 1) (j4 (ux (v:=.ty "int") rfl T.n_int PyProof.Rows.boot_int rfl) j6))) (xu _)) (qr (zj zi (ye gm rfl T.n_isinstance PyProof.Rows.boot_isinstance (j4 (pv 0) (j4 (ux (v:=.ty "bool") rfl T.n_bool PyProof.Rows.boot_bool rfl) j6))) (ye gm rfl T.n_isinstance PyProof.Rows.boot_isinstance (j4 (pv 1) (j4 (ux (v:=.ty "bool") rfl T.n_bool PyProof.Rows.boot_bool rfl) j6))) (xu _)))))
 (jd (xi (qt (pv 2) (qt (zj zi (ye gm rfl T.n_isinstance PyProof.Rows.boot_isinstance (j4 (pv 0) (j4 (ux (v:=.ty "str") rfl T.n_str PyProof.Rows.boot_str rfl) j6))) (ye gm rfl T.n_isinstance PyProof.Rows.boot_isinstance (j4 (pv 1) (j4 (ux (v:=.ty "str") rfl T.n_str PyProof.Rows.boot_str rfl) j6))) (xu _)) (qr (zj zi (pv 0) (pv 1) (xu _))))))))),jz (C:=ctOf T) ((ja (yv (st_b (qmz j3))
 (ja (yv (pk (v9 (j8 pw (gv .list rfl (by intro z;cases z) j3) (gv .list rfl (by intro z;cases z) j3))) (v9 (j8 pw (gv .tuple rfl (by intro z;cases z) j3) (gv .tuple rfl (by intro z;cases z) j3))))
 (xj xw)
 xf)
 (xj (rg (j8 zm (ya gu (j5 j3 j7)) (ya gu (j5 j3 j7))) (ya qj7 (j5 (zc (own:=["_law_k"]) (fv:=[("_law_found",0),("_law_due",1)]) (m7 (ya gu (j5 j3 j7))) xo u7 (yb (j5 (j8 jw j3 j3) (j5 (j8 jw j3 j3) j7)))) j7)))))
 xf)
 (ja (jt (rg (j8 zm (gv .int rfl (by intro z;cases z) j3) (gv .int rfl (by intro z;cases z) j3)) (j8 zm (gv .bool rfl (by intro z;cases z) j3) (gv .bool rfl (by intro z;cases z) j3))) jm)
 (xj (rg j3 (rg (j8 zm (gv .str rfl (by intro z;cases z) j3) (gv .str rfl (by intro z;cases z) j3)) (j8 zm j3 j3))))))) rfl h⟩
theorem z_qh (T:Txt K mg A) (k:Nat):FnOk P w K mg base (CX1 P w) (k+0) A.a_qh A.fd_qh ["_law_found", "_law_due"] (spZ (ctOf T) 2 (m_qh k)):=zr_qh T k
theorem z_q00 (T:Txt K mg A):oZ P w base T 7 A.a_q00 A.fd_q00 ["_law_task", "_law_spec"] 2 m_q00:=okz T.q_q00.F sc_q00 rfl λhr nd hu h=>⟨_,(j9 (yu (PW.pt (p7 (uj (xy (yo (z_qh T 6) hr.q9 rfl T.q_qh.d T.q_qh.F.kp T.q_qh.b .nil jf.passes (j4 (jj (pv 0) rfl) (j4 (jv jx (pv 1) jc (λ_ _=>rfl)) j6))))) (p6 (uj (xy (yo (z_qh T 6) hr.q9 rfl T.q_qh.d T.q_qh.F.kp T.q_qh.b .nil jf.passes (j4 (jj (pv 0) rfl) (j4 (jv jx (pv 1) jc (λ_ _=>rfl)) j6))))))))
 (jd (xi xt))
 x8)
 (j9 (yu (uj (xy (yo (z_qh T 6) hr.q9 rfl T.q_qh.d T.q_qh.F.kp T.q_qh.b .nil jf.passes (j4 (jj (pv 0) rfl) (j4 (jv jx (pv 1) jc (λ_ _=>rfl)) j6)))))
 (jd (xi xt))
 x8)
 (j9 (yu (PW.pt (p7 (uj (xy (ye gm rfl T.n_isinstance PyProof.Rows.boot_isinstance (j4 (jj (pv 0) rfl) (j4 (ux (v:=.ty "list") rfl T.n_list PyProof.Rows.boot_list rfl) j6))))) (p6 (vb p8 (ye gn rfl T.n_len PySem.boot_len (j4 (jj (pv 0) rfl) j6)) (ye gn rfl T.n_len PySem.boot_len (j4 (jv jx (pv 1) jc (λ_ _=>rfl)) j6)) (xu _)))))
 (jd (xi xt))
 x8)
 (j9 (ub PassesOwn.leaving rfl (km rfl T.n_range (j4 (ye gn rfl T.n_len PySem.boot_len (j4 (jv jx (pv 1) jc (λ_ _=>rfl)) j6)) j6)) (yg (i:=2) nd rfl (Or.inl rfl))
 (j9 (jy (i:=3) nd rfl (Or.inl rfl) (jv jx (jj (pv 0) rfl) (pv 2) (λ_ _=>rfl)))
 (j9 (yu (uj (xy (ye qdv rfl T.n_isinstance PyProof.Rows.boot_isinstance (j4 (pv 3) (j4 (uw (v:=.ref A.c_Job) rfl T.k_Job.d rfl) j6)))))
 (jd (xi xt))
 x8)
 (j9 (jy (i:=4) nd rfl (Or.inl rfl) (yw (j4 (jj (pv 3) rfl) (j4 (jj (pv 3) rfl) (j4 (jj (pv 3) rfl) (j4 (jj (pv 3) rfl) (j4 (jj (pv 3) rfl) (j4 (jj (pv 3) rfl) (j4 (jj (pv 3) rfl) j6)))))))))
 (jd (yu (uj (xy (yo (z_qh T 6) hr.q9 rfl T.q_qh.d T.q_qh.F.kp T.q_qh.b .nil jf.passes (j4 (pv 4) (j4 (jv jx (jv jx (pv 1) jc (λ_ _=>rfl)) (pv 2) (λ_ _=>rfl)) j6)))))
 (jd (xi xt))
 x8))))))
 (jd (xi xt)))))),jz (C:=ctOf T) ((ja (yv (pk (uq (st_b (yb (j5 (ji rfl j3) (j5 (j8 jw j3 jb) j7))))) (uq (st_b (yb (j5 (ji rfl j3) (j5 (j8 jw j3 jb) j7))))))
 (xj xw)
 xf)
 (ja (yv (uq (st_b (yb (j5 (ji rfl j3) (j5 (j8 jw j3 jb) j7)))))
 (xj xw)
 xf)
 (ja (yv (pk (uq (st_b (gv .list rfl (by intro z;cases z) (ji rfl j3)))) (v9 (j8 pw (ya gu (j5 (ji rfl j3) j7)) (ya gu (j5 (j8 jw j3 jb) j7)))))
 (xj xw)
 xf)
 (ja (uf (m7 (ya gu (j5 (j8 jw j3 jb) j7))) jm
 (ja (jt (j8 jw (ji rfl j3) j3) jm)
 (ja (yv (uq (st_b (qkh (c:=9) T.k_Job.c T.ow_Job j3)))
 (xj xw)
 xf)
 (ja (jt (yx (j5 (ji rfl j3) (j5 (ji rfl j3) (j5 (ji rfl j3) (j5 (ji rfl j3) (j5 (ji rfl j3) (j5 (ji rfl j3) (j5 (ji rfl j3) j7)))))))) jm)
 (yv (uq (st_b (yb (j5 j3 (j5 (j8 jw (j8 jw j3 jb) j3) j7)))))
 (xj xw)
 xf)))))
 (xj xw)))))) rfl h⟩
theorem z_q11 (T:Txt K mg A):oZ P w base T 1 A.a_q11 A.fd_q11 ["_law_cell"] 1 m_q11:=okz T.q_q11.F sc_q11 rfl λhr nd hu h=>⟨_,(j9 (jy (i:=1) nd rfl (Or.inl rfl) (jk zw jc (jk xl (pv 0) jc)))
 (jd (xi (yw (j4 (pv 1) (j4 (jk zw (pv 1) (jk xl (jk uk (pv 0) jc) (jk og jc (pv 1)))) j6)))))),jz (C:=ctOf T) ((ja (jt (j8 zl jb (j8 xn j3 jb)) jm)
 (xj (yx (j5 j3 (j5 (j8 zl j3 (j8 xn (j8 ur j3 jb) (j8 gq jb j3))) j7)))))) rfl h⟩
theorem z_q0f (T:Txt K mg A):oZ P w base T 1 A.a_q0f A.fd_q0f ["self"] 1 m_q0f:=okz T.q_q0f.F sc_q0f rfl λhr nd hu h=>⟨_,(j9 (yn (pv 0) jc rfl)
 (j9 (yn (pv 0) dg rfl)
 (j9 (yn (pv 0) (xm j6) rfl)
 (jd (yn (pv 0) (xm j6) rfl))))),jz (C:=ctOf T) ((ja (yp (i:=18) rfl j3 jb)
 (ja (yp (i:=19) rfl j3 qbu)
 (ja (yp (i:=20) rfl j3 (dh j7))
 (yp (i:=21) rfl j3 (dh j7)))))) rfl h⟩
theorem z_qg (T:Txt K mg A):oZ P w base T 1 A.a_qg A.fd_qg ["self", "kind", "name"] 3 m_qg:=okz T.q_qg.F sc_qg rfl λhr nd hu h=>⟨_,(j9 (yn (pv 0) (pv 1) rfl)
 (jd (yn (pv 0) (pv 2) rfl))),jz (C:=ctOf T) ((ja (yp (i:=0) rfl j3 j3)
 (yp (i:=1) rfl j3 j3))) rfl h⟩
theorem z_q0p (T:Txt K mg A):oZ P w base T 3 A.a_q0p A.fd_q0p ["self", "name", "grams"] 3 m_q0p:=okz T.q_q0p.F sc_q0p rfl λhr nd hu h=>⟨_,(j9 (jo (ph rfl T.k_q19.d T.B_qg (z_qg T) hr.q9 T.q_qg.b .nil jf.passes (j4 (pv 0) (j4 jh (j4 (pv 1) j6)))))
 (jd (yn (pv 0) (pv 2) rfl))),jz (C:=ctOf T) ((ja (jr (yb (j5 j3 (j5 jl (j5 j3 j7)))))
 (yp (i:=10) rfl j3 j3))) rfl h⟩
theorem z_qf (T:Txt K mg A):oZ P w base T 3 A.a_qf A.fd_qf ["self", "name"] 2 m_qf:=okz T.q_qf.F sc_qf rfl λhr nd hu h=>⟨_,(j9 (yu (uj (xy (yo (z_q16 T) hr.q9 rfl T.q_q16.d T.q_q16.F.kp T.q_q16.b .nil jf.passes (j4 (pv 1) j6))))
 (jd (gj jf hr.hd rfl T.k_qx.d T.x_qx.x PySem.F.excBase_ValueError rfl PySem.F.excBase_ValueError (j4 (oq (xa jh (xa (iy (pv 1)) oo))) j6)))
 x8)
 (jd (yu (wx (pc_din hu (pv 1) (jj (pv 0) rfl)))
 (jd (gj jf hr.hd rfl T.k_q0k.d T.x_q0k.x PySem.F.excBase_ValueError rfl PySem.F.excBase_ValueError (j4 (oq (xa jh (xa (kr (pv 1)) oo))) j6)))
 x8))),jz (C:=ctOf T) ((ja (yv (uq (st_b (yb (j5 j3 j7))))
 (o5 (c:=21) (mh (ug (qd6 j3 mf)) (by decide +kernel)))
 xf)
 (yv (st_b (se_din j3 (ji rfl j3)))
 (o5 (c:=22) (mh (ug (ny j3 mf)) (by decide +kernel)))
 xf))) rfl h⟩
theorem z_qo (T:Txt K mg A):oZ P w base T 1 A.a_qo A.fd_qo ["self", "thing"] 2 m_qo:=okz T.q_qo.F sc_qo rfl λhr nd hu h=>⟨_,(jd (de hu (jj (pv 0) rfl) (jj (pv 1) rfl) (pv 1) rfl)),jz (C:=ctOf T) ((dw (ji rfl j3) (ji rfl j3) j3)) rfl h⟩
theorem z_qa (T:Txt K mg A):oZ P w base T 1 A.a_qa A.fd_qa ["self", "name", "kind"] 3 m_qa:=okz T.q_qa.F sc_qa rfl λhr nd hu h=>⟨_,(j9 (jy (i:=3) nd rfl (Or.inl rfl) (cw hu (jj (pv 0) rfl) (pv 1) ⟨rfl,rfl,rfl,rfl⟩))
 (j9 (yu (PW.pt (p7 (wx (qji (pv 3))) (p6 (vb p8 (jj (pv 3) rfl) (pv 2) (xu _)))))
 (jd (gj jf hr.hd rfl T.k_qv.d T.x_qv.x PySem.F.excBase_ValueError rfl PySem.F.excBase_ValueError (j4 (oq (xa jh (xa (kr (pv 2)) (xa jh (xa (iy (pv 1)) oo))))) j6)))
 x8)
 (jd (xi (pv 3))))),jz (C:=ctOf T) ((ja (jt (ba (ji rfl j3) j3) jm)
 (ja (yv (pk (st_b (qkw j3)) (v9 (j8 pw (ji rfl j3) j3)))
 (o5 (c:=23) (mh (ug (ny j3 (ug (qd6 j3 mf)))) (by decide +kernel)))
 xf)
 (xj j3)))) rfl h⟩
theorem z_q07 (T:Txt K mg A):oZ P w base T 5 A.a_q07 A.fd_q07 ["self", "name", "parts"] 3 m_q07:=okz T.q_q07.F sc_q07 rfl λhr nd hu h=>⟨_,(j9 (jo (yd (pv 0) T.k_qu.c T.q_qf.m (z_qf T) hr.q9 T.q_qf.b .nil jf.passes (j4 (pv 1) j6)))
 (j9 (ub PassesOwn.leaving rfl (vg (pv 2)) (wz rfl (vf (yg (i:=3) nd rfl (Or.inl rfl)) (vf (yg (i:=4) nd rfl (Or.inl rfl)) kj)))
 (jd (jo (yd (pv 0) T.k_qu.c T.q_qa.m (z_qa T) hr.q9 T.q_qa.b .nil jf.passes (j4 (pv 3) (j4 jh j6))))))
 (j9 (ub PassesOwn.leaving rfl (vg (pv 2)) (wz rfl (vf (yg (i:=3) nd rfl (Or.inl rfl)) (vf (yg (i:=4) nd rfl (Or.inl rfl)) kj)))
 (jd (jo (yo (z_q06 T) hr.q9 rfl T.q_q06.d T.q_q06.F.kp T.q_q06.b .nil jf.passes (j4 (pv 4) j6)))))
 (j9 (jo (yd (pv 0) T.k_qu.c T.q_qo.m (z_qo T) hr.q9 T.q_qo.b .nil jf.passes (j4 (zy (T.k_q1e.mkt T.q_q0p) (z_q0p T) hr.q9 rfl T.k_q1e.d T.q_q0p.b .nil jf.passes (j4 (pv 1) (j4 (ye (el rfl) rfl T.n_sum PyProof.Rows.boot_sum (j4 (gb (osc:=je s_q07) (N0:=["self", "name", "parts", "farm", "grams"]) rfl rfl rfl (own:=["farm", "grams"]) (fv:=[]) ⟨rfl,dk,dk,dk,dk,dk⟩ (vg (pv 2)) (λ_ _ _=>(r8 (K:=K) (n:=2) rfl rfl rfl (vf (yg (i:=0) (show (["farm", "grams"]:List Str).Nodup by decide +kernel) rfl (Or.inl rfl) (hf:=Or.inr rfl)) (vf (yg (i:=1) (show (["farm", "grams"]:List Str).Nodup by decide +kernel) rfl (Or.inl rfl) (hf:=Or.inr rfl)) kj)))) (λ_ _ _=>u6) (λ_ _ _=>(pv 1))) j6)) j6))) j6)))
 (jd (jo (zz PySem.F.plainAttrs_list PySem.F.slot_list_append PySem.F.type_list_append uz (jj (pv 0) rfl) (j4 (yw (j4 (jj (pv 0) rfl) (j4 jh (j4 (pv 1) (j4 (xr ef rfl T.n_tuple PyProof.Rows.boot_tuple (j4 (pv 2) j6)) j6))))) j6)))))))),jz (C:=ctOf T) ((ja (jr (yc (c:=8) (show ∀ i∈flT 8,fnT i ≠ "check_free" by decide +kernel) j3 (j5 j3 j7)))
 (ja (uf (vi j3) (qjt (fo jm (fo jm qh0)))
 (jr (yc (c:=8) (show ∀ i∈flT 8,fnT i ≠ "known" by decide +kernel) j3 (j5 j3 (j5 jl j7)))))
 (ja (uf (vi j3) (qjt (fo jm (fo jm qh0)))
 (jr (yb (j5 j3 j7))))
 (ja (jr (yc (c:=8) (show ∀ i∈flT 8,fnT i ≠ "hold" by decide +kernel) j3 (j5 (zq (c:=5) rfl (j5 j3 (j5 (ya qfm (j5 (zc (own:=["farm", "grams"]) (fv:=[]) (vi j3) (rj (vz xo (vz xo qa))) u7 j3) j7)) j7))) j7)))
 (jr (gw gx (ji rfl j3) (j5 (yx (j5 (ji rfl j3) (j5 jl (j5 j3 (j5 (ya qbp (j5 j3 j7)) j7))))) j7)))))))) rfl h⟩
theorem z_q08 (T:Txt K mg A):oZ P w base T 3 A.a_q08 A.fd_q08 ["self", "kind", "name"] 3 m_q08:=okz T.q_q08.F sc_q08 rfl λhr nd hu h=>⟨_,(j9 (jo (ph rfl T.k_q19.d T.B_qg (z_qg T) hr.q9 T.q_qg.b .nil jf.passes (j4 (pv 0) (j4 (pv 1) (j4 (pv 2) j6)))))
 (jd (yn (pv 0) xt rfl))),jz (C:=ctOf T) ((ja (jr (yb (j5 j3 (j5 j3 (j5 j3 j7)))))
 (yp (i:=5) rfl j3 xw))) rfl h⟩
theorem z_q09 (T:Txt K mg A):oZ P w base T 5 A.a_q09 A.fd_q09 ["self", "name"] 2 m_q09:=okz T.q_q09.F sc_q09 rfl λhr nd hu h=>⟨_,(j9 (jo (yd (pv 0) T.k_qu.c T.q_qf.m (z_qf T) hr.q9 T.q_qf.b .nil jf.passes (j4 (pv 1) j6)))
 (jd (jo (yd (pv 0) T.k_qu.c T.q_qo.m (z_qo T) hr.q9 T.q_qo.b .nil jf.passes (j4 (zy (T.k_q1b.mkt T.q_q08) (z_q08 T) hr.q9 rfl T.k_q1b.d T.q_q08.b .nil jf.passes (j4 jh (j4 (pv 1) j6))) j6))))),jz (C:=ctOf T) ((ja (jr (yc (c:=8) (show ∀ i∈flT 8,fnT i ≠ "check_free" by decide +kernel) j3 (j5 j3 j7)))
 (jr (yc (c:=8) (show ∀ i∈flT 8,fnT i ≠ "hold" by decide +kernel) j3 (j5 (zq (c:=4) rfl (j5 jl (j5 j3 j7))) j7))))) rfl h⟩
theorem z_q0a (T:Txt K mg A):oZ P w base T 5 A.a_q0a A.fd_q0a ["self", "name"] 2 m_q0a:=okz T.q_q0a.F sc_q0a rfl λhr nd hu h=>⟨_,(j9 (jo (yd (pv 0) T.k_qu.c T.q_qf.m (z_qf T) hr.q9 T.q_qf.b .nil jf.passes (j4 (pv 1) j6)))
 (jd (jo (yd (pv 0) T.k_qu.c T.q_qo.m (z_qo T) hr.q9 T.q_qo.b .nil jf.passes (j4 (zy (T.k_q1b.mkt T.q_q08) (z_q08 T) hr.q9 rfl T.k_q1b.d T.q_q08.b .nil jf.passes (j4 jh (j4 (pv 1) j6))) j6))))),jz (C:=ctOf T) ((ja (jr (yc (c:=8) (show ∀ i∈flT 8,fnT i ≠ "check_free" by decide +kernel) j3 (j5 j3 j7)))
 (jr (yc (c:=8) (show ∀ i∈flT 8,fnT i ≠ "hold" by decide +kernel) j3 (j5 (zq (c:=4) rfl (j5 jl (j5 j3 j7))) j7))))) rfl h⟩
theorem z_q0g (T:Txt K mg A):oZ P w base T 4 A.a_q0g A.fd_q0g ["self", "name"] 2 m_q0g:=okz T.q_q0g.F sc_q0g rfl λhr nd hu h=>⟨_,(j9 (jo (yd (pv 0) T.k_qu.c T.q_qf.m (z_qf T) hr.q9 T.q_qf.b .nil jf.passes (j4 (pv 1) j6)))
 (jd (jo (yd (pv 0) T.k_qu.c T.q_qo.m (z_qo T) hr.q9 T.q_qo.b .nil jf.passes (j4 (zy (T.k_q19.mkt T.q_qg) (z_qg T) hr.q9 rfl T.k_q19.d T.q_qg.b .nil jf.passes (j4 jh (j4 (pv 1) j6))) j6))))),jz (C:=ctOf T) ((ja (jr (yc (c:=8) (show ∀ i∈flT 8,fnT i ≠ "check_free" by decide +kernel) j3 (j5 j3 j7)))
 (jr (yc (c:=8) (show ∀ i∈flT 8,fnT i ≠ "hold" by decide +kernel) j3 (j5 (zq (c:=0) rfl (j5 jl (j5 j3 j7))) j7))))) rfl h⟩
theorem z_q0v (T:Txt K mg A):oZ P w base T 3 A.a_q0v A.fd_q0v ["self", "name", "damp", "warmth"] 4 m_q0v:=okz T.q_q0v.F sc_q0v rfl λhr nd hu h=>⟨_,(j9 (jo (ph rfl T.k_q19.d T.B_qg (z_qg T) hr.q9 T.q_qg.b .nil jf.passes (j4 (pv 0) (j4 jh (j4 (pv 1) j6)))))
 (j9 (yn (pv 0) (pv 2) rfl)
 (jd (yn (pv 0) (pv 3) rfl)))),jz (C:=ctOf T) ((ja (jr (yb (j5 j3 (j5 jl (j5 j3 j7)))))
 (ja (yp (i:=2) rfl j3 j3)
 (yp (i:=3) rfl j3 j3)))) rfl h⟩
theorem z_q0h (T:Txt K mg A):oZ P w base T 5 A.a_q0h A.fd_q0h ["self", "name", "damp", "warmth"] 4 m_q0h:=okz T.q_q0h.F sc_q0h rfl λhr nd hu h=>⟨_,(j9 (jo (yd (pv 0) T.k_qu.c T.q_qf.m (z_qf T) hr.q9 T.q_qf.b .nil jf.passes (j4 (pv 1) j6)))
 (j9 (jo (yo (z_qm T) hr.q9 rfl T.q_qm.d T.q_qm.F.kp T.q_qm.b .nil jf.passes (j4 (pv 2) (j4 jc (j4 (qx rfl T.g_q1o) j6)))))
 (j9 (jo (yo (z_qm T) hr.q9 rfl T.q_qm.d T.q_qm.F.kp T.q_qm.b .nil jf.passes (j4 (pv 3) (j4 jc (j4 (qx rfl T.g_q1k) j6)))))
 (jd (jo (yd (pv 0) T.k_qu.c T.q_qo.m (z_qo T) hr.q9 T.q_qo.b .nil jf.passes (j4 (zy (T.k_q1i.mkt T.q_q0v) (z_q0v T) hr.q9 rfl T.k_q1i.d T.q_q0v.b .nil jf.passes (j4 (pv 1) (j4 (pv 2) (j4 (pv 3) j6)))) j6))))))),jz (C:=ctOf T) ((ja (jr (yc (c:=8) (show ∀ i∈flT 8,fnT i ≠ "check_free" by decide +kernel) j3 (j5 j3 j7)))
 (ja (jr (yb (j5 j3 (j5 jb (j5 jb j7)))))
 (ja (jr (yb (j5 j3 (j5 jb (j5 jb j7)))))
 (jr (yc (c:=8) (show ∀ i∈flT 8,fnT i ≠ "hold" by decide +kernel) j3 (j5 (zq (c:=1) rfl (j5 j3 (j5 j3 (j5 j3 j7)))) j7))))))) rfl h⟩
theorem z_q0q (T:Txt K mg A):oZ P w base T 3 A.a_q0q A.fd_q0q ["self", "name", "room"] 3 m_q0q:=okz T.q_q0q.F sc_q0q rfl λhr nd hu h=>⟨_,(j9 (jo (ph rfl T.k_q19.d T.B_qg (z_qg T) hr.q9 T.q_qg.b .nil jf.passes (j4 (pv 0) (j4 jh (j4 (pv 1) j6)))))
 (jd (yn (pv 0) (pv 2) rfl))),jz (C:=ctOf T) ((ja (jr (yb (j5 j3 (j5 jl (j5 j3 j7)))))
 (yp (i:=4) rfl j3 j3))) rfl h⟩
theorem z_q02 (T:Txt K mg A):oZ P w base T 5 A.a_q02 A.fd_q02 ["self", "name", "room"] 3 m_q02:=okz T.q_q02.F sc_q02 rfl λhr nd hu h=>⟨_,(j9 (jo (yd (pv 0) T.k_qu.c T.q_qf.m (z_qf T) hr.q9 T.q_qf.b .nil jf.passes (j4 (pv 1) j6)))
 (jd (jo (yd (pv 0) T.k_qu.c T.q_qo.m (z_qo T) hr.q9 T.q_qo.b .nil jf.passes (j4 (zy (T.k_q1d.mkt T.q_q0q) (z_q0q T) hr.q9 rfl T.k_q1d.d T.q_q0q.b .nil jf.passes (j4 (pv 1) (j4 (yd (pv 0) T.k_qu.c T.q_qa.m (z_qa T) hr.q9 T.q_qa.b .nil jf.passes (j4 (pv 2) (j4 jh j6))) j6))) j6))))),jz (C:=ctOf T) ((ja (jr (yc (c:=8) (show ∀ i∈flT 8,fnT i ≠ "check_free" by decide +kernel) j3 (j5 j3 j7)))
 (jr (yc (c:=8) (show ∀ i∈flT 8,fnT i ≠ "hold" by decide +kernel) j3 (j5 (zq (c:=2) rfl (j5 j3 (j5 (yc (c:=8) (show ∀ i∈flT 8,fnT i ≠ "known" by decide +kernel) j3 (j5 j3 (j5 jl j7))) j7))) j7))))) rfl h⟩
theorem z_q0i (T:Txt K mg A):oZ P w base T 3 A.a_q0i A.fd_q0i ["self", "name", "mouldy", "turn_gap", "wash_gap", "route"] 6 m_q0i:=okz T.q_q0i.F sc_q0i rfl λhr nd hu h=>⟨_,(j9 (jo (ph rfl T.k_q19.d T.B_qg (z_qg T) hr.q9 T.q_qg.b .nil jf.passes (j4 (pv 0) (j4 jh (j4 (pv 1) j6)))))
 (j9 (yn (pv 0) (pv 2) rfl)
 (j9 (yn (pv 0) (pv 3) rfl)
 (j9 (yn (pv 0) (pv 4) rfl)
 (j9 (yn (pv 0) (gb (osc:=je s_q0i) (N0:=["self", "name", "mouldy", "turn_gap", "wash_gap", "route"]) rfl rfl rfl (own:=["room", "least", "most"]) (fv:=[]) ⟨rfl,dk,dk,dk,dk,dk⟩ (vg (pv 5)) (λ_ _ _=>(r8 (K:=K) (n:=3) rfl rfl rfl (vf (yg (i:=0) (show (["room", "least", "most"]:List Str).Nodup by decide +kernel) rfl (Or.inl rfl) (hf:=Or.inr rfl)) (vf (yg (i:=1) (show (["room", "least", "most"]:List Str).Nodup by decide +kernel) rfl (Or.inl rfl) (hf:=Or.inr rfl)) (vf (yg (i:=2) (show (["room", "least", "most"]:List Str).Nodup by decide +kernel) rfl (Or.inl rfl) (hf:=Or.inr rfl)) kj))))) (λ_ _ _=>u6) (λ_ _ _=>(pv 0))) rfl)
 (jd (yn (pv 0) (gb (osc:=je s_q0i) (N0:=["self", "name", "mouldy", "turn_gap", "wash_gap", "route"]) rfl rfl rfl (own:=["room", "least", "most"]) (fv:=[]) ⟨rfl,dk,dk,dk,dk,dk⟩ (vg (pv 5)) (λ_ _ _=>(r8 (K:=K) (n:=3) rfl rfl rfl (vf (yg (i:=0) (show (["room", "least", "most"]:List Str).Nodup by decide +kernel) rfl (Or.inl rfl) (hf:=Or.inr rfl)) (vf (yg (i:=1) (show (["room", "least", "most"]:List Str).Nodup by decide +kernel) rfl (Or.inl rfl) (hf:=Or.inr rfl)) (vf (yg (i:=2) (show (["room", "least", "most"]:List Str).Nodup by decide +kernel) rfl (Or.inl rfl) (hf:=Or.inr rfl)) kj))))) (λ_ _ _=>u6) (λ_ _ _=>(yw (j4 (pv 1) (j4 (pv 2) j6))))) rfl))))))),jz (C:=ctOf T) ((ja (jr (yb (j5 j3 (j5 jl (j5 j3 j7)))))
 (ja (yp (i:=5) rfl j3 j3)
 (ja (yp (i:=6) rfl j3 j3)
 (ja (yp (i:=7) rfl j3 j3)
 (ja (yp (i:=8) rfl j3 (zc (own:=["room", "least", "most"]) (fv:=[]) (vi j3) (rj (vz xo (vz xo (vz xo qa)))) u7 j3))
 (yp (i:=9) rfl j3 (zc (own:=["room", "least", "most"]) (fv:=[]) (vi j3) (rj (vz xo (vz xo (vz xo qa)))) u7 (yx (j5 j3 (j5 j3 j7))))))))))) rfl h⟩
theorem z_qz (T:Txt K mg A):oZ P w base T 5 A.a_qz A.fd_qz ["self", "name", "mouldy", "turn_gap", "wash_gap", "route"] 6 m_qz:=okz T.q_qz.F sc_qz rfl λhr nd hu h=>⟨_,(j9 (jo (yd (pv 0) T.k_qu.c T.q_qf.m (z_qf T) hr.q9 T.q_qf.b .nil jf.passes (j4 (pv 1) j6)))
 (j9 (ip (osc:=je s_qz) (N0:=["self", "name", "mouldy", "turn_gap", "wash_gap", "route", "rooms", "gap"]) (i:=6) rfl rfl rfl nd rfl (Or.inl rfl) (own:=["room", "least", "most"]) (fv:=[("self",0)]) ⟨rfl,dk,dk,dk,dk,dk⟩ (vg (pv 5)) (λ_ _ _=>(r8 (K:=K) (n:=3) rfl rfl rfl (vf (yg (i:=0) (show (["room", "least", "most", "self"]:List Str).Nodup by decide +kernel) rfl (Or.inl rfl) (hf:=Or.inr rfl)) (vf (yg (i:=1) (show (["room", "least", "most", "self"]:List Str).Nodup by decide +kernel) rfl (Or.inl rfl) (hf:=Or.inr rfl)) (vf (yg (i:=2) (show (["room", "least", "most", "self"]:List Str).Nodup by decide +kernel) rfl (Or.inl rfl) (hf:=Or.inr rfl)) kj))))) (λ_ _ _=>u6) (λ_ _ _=>(fj (K:=K) rfl (yd (pv 3) T.k_qu.c T.q_qa.m (z_qa T) hr.q9 T.q_qa.b .nil ud (j4 (pv 0) (j4 jh j6))) rfl)))
 (j9 (ub PassesOwn.leaving rfl (vg (jk pj (xm (j4 (pv 3) (j4 (pv 4) j6))) (gb (osc:=je s_qz) (N0:=["self", "name", "mouldy", "turn_gap", "wash_gap", "route", "rooms", "gap"]) rfl rfl rfl (own:=["room", "least", "most"]) (fv:=[]) ⟨rfl,dk,dk,dk,dk,dk⟩ (vg (pv 5)) (λ_ _ _=>(r8 (K:=K) (n:=3) rfl rfl rfl (vf (yg (i:=0) (show (["room", "least", "most"]:List Str).Nodup by decide +kernel) rfl (Or.inl rfl) (hf:=Or.inr rfl)) (vf (yg (i:=1) (show (["room", "least", "most"]:List Str).Nodup by decide +kernel) rfl (Or.inl rfl) (hf:=Or.inr rfl)) (vf (yg (i:=2) (show (["room", "least", "most"]:List Str).Nodup by decide +kernel) rfl (Or.inl rfl) (hf:=Or.inr rfl)) kj))))) (λ_ _ _=>u6) (λ_ _ _=>(yw (j4 (pv 1) (j4 (pv 2) j6))))))) (yg (i:=7) nd rfl (Or.inl rfl))
 (jd (jo (yo (z_q12 T) hr.q9 rfl T.q_q12.d T.q_q12.F.kp T.q_q12.b .nil jf.passes (j4 (jv jx (pv 7) jc (λ_ _=>rfl)) (j4 (jv jx (pv 7) jc (λ_ _=>rfl)) j6))))))
 (j9 (yu (vb cf (ye ql8 rfl T.n_len PySem.boot_len (j4 (xr (qj4 rfl) rfl T.n_set PyProof.Rows.boot_set (j4 (pv 6) j6)) j6)) (ye gn rfl T.n_len PySem.boot_len (j4 (pv 6) j6)) (xu _))
 (jd (gj jf hr.hd rfl T.k_qi.d T.x_qi.x PySem.F.excBase_ValueError rfl PySem.F.excBase_ValueError (j4 jh j6)))
 x8)
 (jd (jo (yd (pv 0) T.k_qu.c T.q_qo.m (z_qo T) hr.q9 T.q_qo.b .nil jf.passes (j4 (zy (T.k_q1j.mkt T.q_q0i) (z_q0i T) hr.q9 rfl T.k_q1j.d T.q_q0i.b .nil jf.passes (j4 (pv 1) (j4 (pv 2) (j4 (pv 3) (j4 (pv 4) (j4 (pv 5) j6)))))) j6)))))))),jz (C:=ctOf T) ((ja (jr (yc (c:=8) (show ∀ i∈flT 8,fnT i ≠ "check_free" by decide +kernel) j3 (j5 j3 j7)))
 (ja (jt (zc (own:=["room", "least", "most"]) (fv:=[("self",0)]) (vi j3) (rj (vz xo (vz xo (vz xo qa)))) u7 (ji rfl (yc (c:=8) (show ∀ i∈flT 8,fnT i ≠ "known" by decide +kernel) j3 (j5 j3 (j5 jl j7))))) jm)
 (ja (uf (vi (j8 pz (vc (j5 j3 (j5 j3 j7))) (zc (own:=["room", "least", "most"]) (fv:=[]) (vi j3) (rj (vz xo (vz xo (vz xo qa)))) u7 (yx (j5 j3 (j5 j3 j7)))))) jm
 (jr (yb (j5 (j8 jw j3 jb) (j5 (j8 jw j3 jb) j7)))))
 (ja (yv (v9 (j8 fk (qks j3) (ya gu (j5 j3 j7))))
 (o5 (c:=26) ms_lit)
 xf)
 (jr (yc (c:=8) (show ∀ i∈flT 8,fnT i ≠ "hold" by decide +kernel) j3 (j5 (zq (c:=3) rfl (j5 j3 (j5 j3 (j5 j3 (j5 j3 (j5 j3 j7)))))) j7)))))))) rfl h⟩
theorem z_q01 (T:Txt K mg A):oZ P w base T 6 A.a_q01 A.fd_q01 ["_law_script", "_law_gaps"] 2 m_q01:=okz T.q_q01.F sc_q01 rfl λhr nd hu h=>⟨_,(j9 (jy (i:=2) nd rfl (Or.inl rfl) (qmj (T.k_qu.mkt T.q_q0f) (z_q0f T) hr.q9 rfl T.k_qu.d T.q_q0f.b .nil jf.passes))
 (j9 (ub PassesOwn.leaving rfl (km rfl T.n_range (j4 jc j6)) (yg (i:=3) nd rfl (Or.inl rfl))
 (j9 (jo (yd (pv 2) T.k_qu.c T.q_q0h.m (z_q0h T) hr.q9 T.q_q0h.b .nil jf.passes (j4 (jk um jh (xr z4 rfl T.n_str PyProof.Rows.boot_str (j4 (pv 3) j6))) (j4 jc (j4 jc j6)))))
 (j9 (jo (yd (pv 2) T.k_qu.c T.q_q02.m (z_q02 T) hr.q9 T.q_q02.b .nil jf.passes (j4 (jk um jh (xr z4 rfl T.n_str PyProof.Rows.boot_str (j4 (pv 3) j6))) (j4 (jk um jh (xr z4 rfl T.n_str PyProof.Rows.boot_str (j4 (pv 3) j6))) j6))))
 (jd (jo (yd (pv 2) T.k_qu.c T.q_q02.m (z_q02 T) hr.q9 T.q_q02.b .nil jf.passes (j4 (jk um jh (xr z4 rfl T.n_str PyProof.Rows.boot_str (j4 (pv 3) j6))) (j4 (jk um jh (xr z4 rfl T.n_str PyProof.Rows.boot_str (j4 (pv 3) j6))) j6))))))))
 (j9 (ip (osc:=je s_q01) (N0:=["_law_script", "_law_gaps", "_law_cellar", "_law_k", "_law_route"]) (i:=4) rfl rfl rfl nd rfl (Or.inl rfl) (own:=["_law_k"]) (fv:=[("_law_gaps",1)]) ⟨rfl,dk,dk,dk,dk,dk⟩ (km rfl T.n_range (j4 jc j6)) (λ_ _ _=>(yg (i:=0) (show (["_law_k", "_law_gaps"]:List Str).Nodup by decide +kernel) rfl (Or.inl rfl) (hf:=Or.inr rfl))) (λ_ _ _=>u6) (λ_ _ _=>(jk (qko (K:=K) rfl) (yw (j4 (jk um jh (xr z4 rfl T.n_str PyProof.Rows.boot_str (j4 (pv 0) j6))) j6)) (jv (iq (K:=K) rfl) (pv 1) (jk zw jc (pv 0)) (λ_ _=>rfl)))))
 (j9 (jo (yd (pv 2) T.k_qu.c T.q_qz.m (z_qz T) hr.q9 T.q_qz.b .nil jf.passes (j4 jh (j4 xt (j4 (jv jx (pv 1) jc (λ_ _=>rfl)) (j4 (jv jx (pv 1) jc (λ_ _=>rfl)) (j4 (xr fi rfl T.n_list PyProof.Rows.boot_list (j4 (pv 4) j6)) j6)))))))
 (j9 (jo (yd (pv 2) T.k_qu.c T.q_qz.m (z_qz T) hr.q9 T.q_qz.b .nil jf.passes (j4 jh (j4 xt (j4 (jv jx (pv 1) jc (λ_ _=>rfl)) (j4 (jv jx (pv 1) jc (λ_ _=>rfl)) (j4 (n8 ng (pv 4) qu (oh jc)) j6)))))))
 (j9 (jo (yd (pv 2) T.k_qu.c T.q_q0g.m (z_q0g T) hr.q9 T.q_q0g.b .nil jf.passes (j4 jh j6)))
 (j9 (jo (yd (pv 2) T.k_qu.c T.q_q07.m (z_q07 T) hr.q9 T.q_q07.b .nil jf.passes (j4 jh (j4 (xm (j4 (yw (j4 jh (j4 jc j6))) j6)) j6))))
 (j9 (ub PassesOwn.leaving rfl (km rfl T.n_range (j4 jc j6)) (yg (i:=3) nd rfl (Or.inl rfl))
 (j9 (jo (yd (pv 2) T.k_qu.c T.q_q09.m (z_q09 T) hr.q9 T.q_q09.b .nil jf.passes (j4 (jk um jh (xr z4 rfl T.n_str PyProof.Rows.boot_str (j4 (pv 3) j6))) j6)))
 (jd (jo (yd (pv 2) T.k_qu.c T.q_q0a.m (z_q0a T) hr.q9 T.q_q0a.b .nil jf.passes (j4 (jk um jh (xr z4 rfl T.n_str PyProof.Rows.boot_str (j4 (pv 3) j6))) j6))))))
 (jd (xi (pv 2))))))))))),jz (C:=ctOf T) ((ja (jt (zq (c:=8) rfl j7) jm)
 (ja (uf (m7 jb) jm
 (ja (jr (yc (c:=8) (show ∀ i∈flT 8,fnT i ≠ "new_room" by decide +kernel) j3 (j5 (j8 zb jl (ya ze (j5 j3 j7))) (j5 jb (j5 jb j7)))))
 (ja (jr (yc (c:=8) (show ∀ i∈flT 8,fnT i ≠ "new_shelf" by decide +kernel) j3 (j5 (j8 zb jl (ya ze (j5 j3 j7))) (j5 (j8 zb jl (ya ze (j5 j3 j7))) j7))))
 (jr (yc (c:=8) (show ∀ i∈flT 8,fnT i ≠ "new_shelf" by decide +kernel) j3 (j5 (j8 zb jl (ya ze (j5 j3 j7))) (j5 (j8 zb jl (ya ze (j5 j3 j7))) j7)))))))
 (ja (jt (zc (own:=["_law_k"]) (fv:=[("_law_gaps",1)]) (m7 jb) xo u7 (j8 qo6 (yx (j5 (j8 zb jl (ya ze (j5 j3 j7))) j7)) (j8 jw j3 (j8 zl jb j3)))) jm)
 (ja (jr (yc (c:=8) (show ∀ i∈flT 8,fnT i ≠ "new_sort" by decide +kernel) j3 (j5 jl (j5 xw (j5 (j8 jw j3 jb) (j5 (j8 jw j3 jb) (j5 (ya qdd (j5 j3 j7)) j7)))))))
 (ja (jr (yc (c:=8) (show ∀ i∈flT 8,fnT i ≠ "new_sort" by decide +kernel) j3 (j5 jl (j5 xw (j5 (j8 jw j3 jb) (j5 (j8 jw j3 jb) (j5 (nu nv j3 rp (ou jb)) j7)))))))
 (ja (jr (yc (c:=8) (show ∀ i∈flT 8,fnT i ≠ "new_farm" by decide +kernel) j3 (j5 jl j7)))
 (ja (jr (yc (c:=8) (show ∀ i∈flT 8,fnT i ≠ "new_batch" by decide +kernel) j3 (j5 jl (j5 (vc (j5 (yx (j5 jl (j5 jb j7))) j7)) j7))))
 (ja (uf (m7 jb) jm
 (ja (jr (yc (c:=8) (show ∀ i∈flT 8,fnT i ≠ "new_brine" by decide +kernel) j3 (j5 (j8 zb jl (ya ze (j5 j3 j7))) j7)))
 (jr (yc (c:=8) (show ∀ i∈flT 8,fnT i ≠ "new_cloth" by decide +kernel) j3 (j5 (j8 zb jl (ya ze (j5 j3 j7))) j7)))))
 (xj j3)))))))))) rfl h⟩
theorem z_q03 (T:Txt K mg A):oZ P w base T 2 A.a_q03 A.fd_q03 ["self", "wheel", "brine", "cloth"] 4 m_q03:=okz T.q_q03.F sc_q03 rfl λhr nd hu h=>⟨_,(j9 (jy (i:=4) nd rfl (Or.inl rfl) (yd (pv 0) T.k_qu.c T.q_qa.m (z_qa T) hr.q9 T.q_qa.b .nil jf.passes (j4 (pv 1) (j4 jh j6))))
 (j9 (jy (i:=5) nd rfl (Or.inl rfl) (xm (j4 (yd (pv 0) T.k_qu.c T.q_qa.m (z_qa T) hr.q9 T.q_qa.b .nil jf.passes (j4 (pv 2) (j4 jh j6))) (j4 (yd (pv 0) T.k_qu.c T.q_qa.m (z_qa T) hr.q9 T.q_qa.b .nil jf.passes (j4 (pv 3) (j4 jh j6))) j6))))
 (j9 (jo (yo (z_qr T) hr.q9 rfl T.q_qr.d T.q_qr.F.kp T.q_qr.b .nil jf.passes (j4 (pv 4) j6)))
 (j9 (yu (PW.pt (o9 (uj (xy (jj (jj (pv 4) rfl) rfl))) (p5 (xy (ye (qe0 rfl) rfl T.n_any PyProof.Rows.boot_any (j4 (gb (osc:=je s_q03) (N0:=["self", "wheel", "brine", "cloth", "washed", "washers", "washer"]) rfl rfl rfl (own:=["washer"]) (fv:=[]) ⟨rfl,dk,dk,dk,dk,dk⟩ (vg (pv 5)) (λ_ _ _=>(yg (i:=0) (show (["washer"]:List Str).Nodup by decide +kernel) rfl (Or.inl rfl) (hf:=Or.inr rfl))) (λ_ _ _=>u6) (λ_ _ _=>(fj (K:=K) rfl (pv 0) rfl))) j6))))))
 (jd (gj jf hr.hd rfl T.k_qw.d T.x_qw.x PySem.F.excBase_ValueError rfl PySem.F.excBase_ValueError (j4 (oq (xa jh (xa (kr (pv 2)) (xa jh (xa (kr (pv 3)) oo))))) j6)))
 x8)
 (j9 (yu (xy (jj (jj (pv 4) rfl) rfl))
 (jd (ub PassesOwn.leaving rfl (vg (pv 5)) (yg (i:=6) nd rfl (Or.inl rfl))
 (jd (yn (pv 6) xt rfl))))
 x8)
 (j9 (yn (pv 4) (jj (pv 0) rfl) rfl)
 (jd (jo (zz PySem.F.plainAttrs_list PySem.F.slot_list_append PySem.F.type_list_append uz (jj (pv 0) rfl) (j4 (yw (j4 (jj (pv 0) rfl) (j4 jh (j4 (pv 1) (j4 (pv 2) (j4 (pv 3) j6)))))) j6)))))))))),jz (C:=ctOf T) ((ja (jt (yc (c:=8) (show ∀ i∈flT 8,fnT i ≠ "known" by decide +kernel) j3 (j5 j3 (j5 jl j7))) jm)
 (ja (jt (vc (j5 (yc (c:=8) (show ∀ i∈flT 8,fnT i ≠ "known" by decide +kernel) j3 (j5 j3 (j5 jl j7))) (j5 (yc (c:=8) (show ∀ i∈flT 8,fnT i ≠ "known" by decide +kernel) j3 (j5 j3 (j5 jl j7))) j7))) jm)
 (ja (jr (yb (j5 j3 j7)))
 (ja (yv (ot (uq (st_b (ji rfl (ji rfl j3)))) (st_b (ya qkl (j5 (zc (own:=["washer"]) (fv:=[]) (vi j3) xo u7 (ji rfl j3)) j7))))
 (o5 (c:=27) (mh (ug (ny j3 (ug (ny j3 mf)))) (by decide +kernel)))
 xf)
 (ja (yv (st_b (ji rfl (ji rfl j3)))
 (uf (vi j3) jm
 (yp (i:=5) rfl j3 xw))
 xf)
 (ja (yp (i:=15) rfl j3 (ji rfl j3))
 (jr (gw gx (ji rfl j3) (j5 (yx (j5 (ji rfl j3) (j5 jl (j5 j3 (j5 j3 (j5 j3 j7)))))) j7)))))))))) rfl h⟩
theorem z_q04 (T:Txt K mg A):oZ P w base T 3 A.a_q04 A.fd_q04 ["_law_cellar", "_law_name", "_law_tools"] 3 m_q04:=okz T.q_q04.F sc_q04 rfl λhr nd hu h=>⟨_,(j9 (jy (i:=3) nd rfl (Or.inl rfl) xt)
 (j9 (qn6 rfl rfl rfl rfl T.k_qw.d T.t_qw T.k_qw.k.is T.b_qw (qh5 (pv 0) T.k_qu.c T.q_q03.m (z_q03 T) hr.q9 T.q_q03.b .nil (j4 (pv 1) (j4 (jv jx (pv 2) jc (λ_ _=>rfl)) (j4 (jv jx (pv 2) jc (λ_ _=>rfl)) j6)))) (λ_=>(jd (jy (i:=3) nd rfl (Or.inl rfl) xt))))
 (jd (xi (pv 3))))),jz (C:=ctOf T) ((ja (jt xw jm)
 (ja (qos (good:=λc=>decide (c=27)) (qgy (c:=8) (show ∀ i∈flT 8,fnT i ≠ "wash" by decide +kernel) j3 (j5 j3 (j5 (j8 jw j3 jb) (j5 (j8 jw j3 jb) j7)))) (λc hc=>by have hc:=of_decide_eq_true hc;subst hc;exact (T.u_qw.g 7)) (λ_=>(jt xw jm)))
 (xj j3)))) rfl h⟩
theorem z_q0m (T:Txt K mg A):oZ P w base T 1 A.a_q0m A.fd_q0m ["self", "thing"] 2 m_q0m:=okz T.q_q0m.F sc_q0m rfl λhr nd hu h=>⟨_,(j9 (jy (i:=2) nd rfl (Or.inl rfl) (cw hu (jj (pv 0) rfl) (pv 1) ⟨rfl,rfl,rfl,rfl⟩))
 (j9 (yu (PW.pt (p7 (wx (qji (pv 2))) (p6 (vb qec (jj (pv 2) rfl) (yw (j4 jh (j4 jh (j4 jh j6)))) rfl))))
 (jd (gj jf hr.hd rfl T.k_qv.d T.x_qv.x PySem.F.excBase_ValueError rfl PySem.F.excBase_ValueError (j4 (oq (xa jh (xa (iy (pv 1)) oo))) j6)))
 x8)
 (j9 (yu (vb p8 (jj (pv 2) rfl) jh (xu _))
 (jd (yn (pv 2) xt rfl))
 x8)
 (jd (jo (zz PySem.F.plainAttrs_list PySem.F.slot_list_append PySem.F.type_list_append uz (jj (pv 0) rfl) (j4 (yw (j4 (jj (pv 0) rfl) (j4 jh (j4 (pv 1) j6)))) j6))))))),jz (C:=ctOf T) ((ja (jt (ba (ji rfl j3) j3) jm)
 (ja (yv (pk (st_b (qkw j3)) (v9 (j8 m8 (ji rfl j3) (yx (j5 jl (j5 jl (j5 jl j7)))))))
 (o5 (c:=23) (mh (ug (qd6 j3 mf)) (by decide +kernel)))
 xf)
 (ja (yv (v9 (j8 pw (ji rfl j3) jl))
 (yp (i:=5) rfl j3 xw)
 xf)
 (jr (gw gx (ji rfl j3) (j5 (yx (j5 (ji rfl j3) (j5 jl (j5 j3 j7)))) j7))))))) rfl h⟩
theorem z_q0b (T:Txt K mg A):oZ P w base T 3 A.a_q0b A.fd_q0b ["self", "name"] 2 m_q0b:=okz T.q_q0b.F sc_q0b rfl λhr nd hu h=>⟨_,(j9 (jo (ph rfl T.k_q19.d T.B_qg (z_qg T) hr.q9 T.q_qg.b .nil jf.passes (j4 (pv 0) (j4 jh (j4 (pv 1) j6)))))
 (jd (yn (pv 0) xt rfl))),jz (C:=ctOf T) ((ja (jr (yb (j5 j3 (j5 jl (j5 j3 j7)))))
 (yp (i:=17) rfl j3 xw))) rfl h⟩
theorem z_q0y (T:Txt K mg A):oZ P w base T 5 A.a_q0y A.fd_q0y ["self", "wheel", "parts"] 3 m_q0y:=okz T.q_q0y.F sc_q0y rfl λhr nd hu h=>⟨_,(j9 (jy (i:=3) nd rfl (Or.inl rfl) (yd (pv 0) T.k_qu.c T.q_qa.m (z_qa T) hr.q9 T.q_qa.b .nil jf.passes (j4 (pv 1) (j4 jh j6))))
 (j9 (ub PassesOwn.leaving rfl (vg (pv 2)) (yg (i:=4) nd rfl (Or.inl rfl))
 (jd (jo (yo (z_q06 T) hr.q9 rfl T.q_q06.d T.q_q06.F.kp T.q_q06.b .nil jf.passes (j4 (pv 4) j6)))))
 (j9 (jo (yo (z_qr T) hr.q9 rfl T.q_qr.d T.q_qr.F.kp T.q_qr.b .nil jf.passes (j4 (pv 3) j6)))
 (j9 (jo (yo (z_q0d T) hr.q9 rfl T.q_q0d.d T.q_q0d.F.kp T.q_q0d.b .nil jf.passes (j4 (ye (el rfl) rfl T.n_sum PyProof.Rows.boot_sum (j4 (pv 2) j6)) (j4 (jj (pv 3) rfl) j6))))
 (j9 (yn (pv 3) xt rfl)
 (j9 (ub PassesOwn.leaving rfl (vg (yo (z_q0w T) hr.q9 rfl T.q_q0w.d T.q_q0w.F.kp T.q_q0w.b .nil jf.passes (j4 (pv 1) (j4 (ye gn rfl T.n_len PySem.boot_len (j4 (pv 2) j6)) j6)))) (yg (i:=5) nd rfl (Or.inl rfl))
 (jd (jo (yd (pv 0) T.k_qu.c T.q_qo.m (z_qo T) hr.q9 T.q_qo.b .nil jf.passes (j4 (zy (T.k_q1g.mkt T.q_q0b) (z_q0b T) hr.q9 rfl T.k_q1g.d T.q_q0b.b .nil jf.passes (j4 (pv 5) j6)) j6)))))
 (jd (jo (zz PySem.F.plainAttrs_list PySem.F.slot_list_append PySem.F.type_list_append uz (jj (pv 0) rfl) (j4 (yw (j4 (jj (pv 0) rfl) (j4 jh (j4 (pv 1) (j4 (xr ef rfl T.n_tuple PyProof.Rows.boot_tuple (j4 (pv 2) j6)) (j4 (jk og (jj (pv 3) rfl) (ye (el rfl) rfl T.n_sum PyProof.Rows.boot_sum (j4 (pv 2) j6))) j6)))))) j6)))))))))),jz (C:=ctOf T) ((ja (jt (yc (c:=8) (show ∀ i∈flT 8,fnT i ≠ "known" by decide +kernel) j3 (j5 j3 (j5 jl j7))) jm)
 (ja (uf (vi j3) jm
 (jr (yb (j5 j3 j7))))
 (ja (jr (yb (j5 j3 j7)))
 (ja (jr (yb (j5 (ya qfm (j5 j3 j7)) (j5 (ji rfl j3) j7))))
 (ja (yp (i:=17) rfl j3 xw)
 (ja (uf (vi (yb (j5 j3 (j5 (ya gu (j5 j3 j7)) j7)))) jm
 (jr (yc (c:=8) (show ∀ i∈flT 8,fnT i ≠ "hold" by decide +kernel) j3 (j5 (zq (c:=7) rfl (j5 j3 j7)) j7))))
 (jr (gw gx (ji rfl j3) (j5 (yx (j5 (ji rfl j3) (j5 jl (j5 j3 (j5 (ya qbp (j5 j3 j7)) (j5 (j8 gq (ji rfl j3) (ya qfm (j5 j3 j7))) j7)))))) j7)))))))))) rfl h⟩
theorem z_q0n (T:Txt K mg A):oZ P w base T 2 A.a_q0n A.fd_q0n ["self", "wheel", "shelf"] 3 m_q0n:=okz T.q_q0n.F sc_q0n rfl λhr nd hu h=>⟨_,(j9 (jy (i:=3) nd rfl (Or.inl rfl) (yd (pv 0) T.k_qu.c T.q_qa.m (z_qa T) hr.q9 T.q_qa.b .nil jf.passes (j4 (pv 1) (j4 jh j6))))
 (j9 (jy (i:=4) nd rfl (Or.inl rfl) (yd (pv 0) T.k_qu.c T.q_qa.m (z_qa T) hr.q9 T.q_qa.b .nil jf.passes (j4 (pv 2) (j4 jh j6))))
 (j9 (jo (yo (z_qr T) hr.q9 rfl T.q_qr.d T.q_qr.F.kp T.q_qr.b .nil jf.passes (j4 (pv 3) j6)))
 (j9 (yu (xy (yo (z_q0o T) hr.q9 rfl T.q_q0o.d T.q_q0o.F.kp T.q_q0o.b .nil jf.passes (j4 (pv 4) (j4 (jj (pv 3) rfl) (j4 (jk zw (jj (pv 3) rfl) jc) j6)))))
 (j9 (ck (pv 3) jc qkk)
 (jd (yn (pv 3) (jj (pv 0) rfl) rfl)))
 (jd (yu (uj (xy (yo (z_q0o T) hr.q9 rfl T.q_q0o.d T.q_q0o.F.kp T.q_q0o.b .nil jf.passes (j4 (pv 4) (j4 (jj (pv 3) rfl) (j4 (jj (pv 3) rfl) j6))))))
 (jd (gj jf hr.hd rfl T.k_qi.d T.x_qi.x PySem.F.excBase_ValueError rfl PySem.F.excBase_ValueError (j4 (oq (xa jh (xa (kr (pv 1)) (xa jh (xa (kr (pv 2)) oo))))) j6)))
 x8)))
 (j9 (yn (pv 3) (pv 4) rfl)
 (jd (jo (zz PySem.F.plainAttrs_list PySem.F.slot_list_append PySem.F.type_list_append uz (jj (pv 0) rfl) (j4 (yw (j4 (jj (pv 0) rfl) (j4 jh (j4 (pv 1) (j4 (pv 2) j6))))) j6))))))))),jz (C:=ctOf T) ((ja (jt (yc (c:=8) (show ∀ i∈flT 8,fnT i ≠ "known" by decide +kernel) j3 (j5 j3 (j5 jl j7))) jm)
 (ja (jt (yc (c:=8) (show ∀ i∈flT 8,fnT i ≠ "known" by decide +kernel) j3 (j5 j3 (j5 jl j7))) jm)
 (ja (jr (yb (j5 j3 j7)))
 (ja (yv (st_b (yb (j5 j3 (j5 (ji rfl j3) (j5 (j8 zl (ji rfl j3) jb) j7)))))
 (ja (fw (i:=13) rfl qhc j3 jb)
 (yp (i:=16) rfl j3 (ji rfl j3)))
 (yv (uq (st_b (yb (j5 j3 (j5 (ji rfl j3) (j5 (ji rfl j3) j7))))))
 (o5 (c:=26) (mh (ug (ny j3 (ug (ny j3 mf)))) (by decide +kernel)))
 xf))
 (ja (yp (i:=12) rfl j3 j3)
 (jr (gw gx (ji rfl j3) (j5 (yx (j5 (ji rfl j3) (j5 jl (j5 j3 (j5 j3 j7))))) j7))))))))) rfl h⟩
theorem z_q0s (T:Txt K mg A):oZ P w base T 2 A.a_q0s A.fd_q0s ["self", "wheel"] 2 m_q0s:=okz T.q_q0s.F sc_q0s rfl λhr nd hu h=>⟨_,(j9 (jy (i:=2) nd rfl (Or.inl rfl) (yd (pv 0) T.k_qu.c T.q_qa.m (z_qa T) hr.q9 T.q_qa.b .nil jf.passes (j4 (pv 1) (j4 jh j6))))
 (j9 (jo (yo (z_qr T) hr.q9 rfl T.q_qr.d T.q_qr.F.kp T.q_qr.b .nil jf.passes (j4 (pv 2) j6)))
 (j9 (yn (pv 2) (jj (pv 0) rfl) rfl)
 (jd (jo (zz PySem.F.plainAttrs_list PySem.F.slot_list_append PySem.F.type_list_append uz (jj (pv 0) rfl) (j4 (yw (j4 (jj (pv 0) rfl) (j4 jh (j4 (pv 1) j6)))) j6))))))),jz (C:=ctOf T) ((ja (jt (yc (c:=8) (show ∀ i∈flT 8,fnT i ≠ "known" by decide +kernel) j3 (j5 j3 (j5 jl j7))) jm)
 (ja (jr (yb (j5 j3 j7)))
 (ja (yp (i:=14) rfl j3 (ji rfl j3))
 (jr (gw gx (ji rfl j3) (j5 (yx (j5 (ji rfl j3) (j5 jl (j5 j3 j7)))) j7))))))) rfl h⟩
theorem z_q0t (T:Txt K mg A):oZ P w base T 6 A.a_q0t A.fd_q0t ["_law_cellar", "_law_wheels", "_law_cell", "_law_day", "_law_mould"] 5 m_q0t:=okz T.q_q0t.F sc_q0t rfl λhr nd hu h=>⟨_,(j9 (jy (i:=5) nd rfl (Or.inl rfl) (jv jx (xr (qa4 rfl) rfl T.n_list PyProof.Rows.boot_list (j4 (pv 1) j6)) (jk xl (jk uk (pv 2) jc) (ye bg rfl T.n_len PySem.boot_len (j4 (pv 1) j6))) (λ_ _=>rfl)))
 (j9 (jy (i:=6) nd rfl (Or.inl rfl) (ij hu (pv 1) (pv 5) (λ_ _=>rfl)))
 (j9 (jy (i:=7) nd rfl (Or.inl rfl) (zj nh (pv 5) (xm (j4 jh (j4 jh j6))) rfl))
 (j9 (jy (i:=8) nd rfl (Or.inl rfl) (yw (j4 (jk um jh (xr z4 rfl T.n_str PyProof.Rows.boot_str (j4 (jk xl (jk uk (pv 2) jc) jc) j6))) (j4 (jk um jh (xr z4 rfl T.n_str PyProof.Rows.boot_str (j4 (jk xl (jk uk (pv 2) jc) jc) j6))) j6))))
 (j9 (yu (PW.pt (o9 (vb zi (jk xl (pv 2) jc) jc (xu _)) (p5 (xy (jv jx (pv 6) jc (λ_ _=>rfl))))))
 (j9 (jo (yd (pv 0) T.k_qu.c T.q_q0s.m (z_q0s T) hr.q9 T.q_q0s.b .nil jf.passes (j4 (pv 5) j6)))
 (jd (d7 (pv 3) (d6 (pv 6) jc set_list))))
 x8)
 (j9 (yu (PW.pt (o9 (vb nh (jk xl (pv 2) jc) (xm (j4 jc (j4 jc j6))) rfl) (o9 (xy (jv jx (pv 6) jc (λ_ _=>rfl))) (o9 (uj (xy (pv 7))) (p5 (PW.pt (p7 (qf9 (cw hu (pv 4) (jv jx (pv 8) jc (λ_ _=>rfl)) ⟨rfl,rfl,rfl,rfl⟩) (λ_=>rfl)) (p6 (qf9 (cw hu (pv 4) (jv jx (pv 8) jc (λ_ _=>rfl)) ⟨rfl,rfl,rfl,rfl⟩) (λ_=>rfl))))))))))
 (jd (jo (yo (z_q04 T) hr.q9 rfl T.q_q04.d T.q_q04.F.kp T.q_q04.b .nil jf.passes (j4 (pv 0) (j4 (pv 5) (j4 (pv 8) j6))))))
 (jd (yu (PW.pt (o9 (vb nh (jk xl (pv 2) jc) (xm (j4 jc (j4 jc j6))) rfl) (p5 (xy (jv jx (pv 6) jc (λ_ _=>rfl))))))
 (j9 (jo (yd (pv 0) T.k_qu.c T.q_q03.m (z_q03 T) hr.q9 T.q_q03.b .nil jf.passes (j4 (pv 5) (j4 (jv jx (pv 8) jc (λ_ _=>rfl)) (j4 (jv jx (pv 8) jc (λ_ _=>rfl)) j6)))))
 (j9 (d7 (pv 3) (d6 (pv 6) jc set_list))
 (jd (yu (xy (pv 7))
 (j9 (de hu (pv 4) (jv jx (pv 8) jc (λ_ _=>rfl)) xt rfl)
 (jd (de hu (pv 4) (jv jx (pv 8) jc (λ_ _=>rfl)) xt rfl)))
 x8))))
 x8)))
 (j9 (yu (PW.pt (o9 (vb zi (jk xl (pv 2) jc) jc (xu _)) (p5 (xy (jv jx (pv 6) jc (λ_ _=>rfl))))))
 (j9 (jy (i:=9) nd rfl (Or.inl rfl) (xr eo rfl T.n_int PyProof.Rows.boot_int (j4 (qt (zj zi (jk xl (jk uk (pv 2) jc) jc) jc (xu _)) (qr (zj cf (jv jx (pv 6) jc (λ_ _=>rfl)) (jv jx (xm (j4 jc (j4 jc j6))) (xr eo rfl T.n_int PyProof.Rows.boot_int (j4 (pv 7) j6)) (λ_ _=>rfl)) (xu _)))) j6)))
 (j9 (d7 (jk zw (jv jx (pv 6) jc (λ_ _=>rfl)) (pv 9)) (d6 (pv 6) jc set_list))
 (j9 (d7 (jv jx (xm (j4 (jv jx (pv 6) jc (λ_ _=>rfl)) (j4 (pv 3) j6))) (pv 9) (λ_ _=>rfl)) (d6 (pv 6) jc set_list))
 (jd (jo (yd (pv 0) T.k_qu.c T.q_q0n.m (z_q0n T) hr.q9 T.q_q0n.b .nil jf.passes (j4 (pv 5) (j4 (jk um (jv qjf jh (jk xl (jk uk (pv 2) jc) jc) (λ_ _=>rfl)) (xr z4 rfl T.n_str PyProof.Rows.boot_str (j4 (jv jx (pv 6) jc (λ_ _=>rfl)) j6))) j6))))))))
 x8)
 (j9 (yu (vb zi (jk xl (pv 2) jc) jc (xu _))
 (j9 (jo (yd (pv 0) T.k_qu.c T.q_q0m.m (z_q0m T) hr.q9 T.q_q0m.b .nil jf.passes (j4 (jv jx (pv 8) (jk xl (jk uk (pv 2) jc) jc) (λ_ _=>rfl)) j6)))
 (jd (de hu (pv 4) (jv jx (pv 8) (jk xl (jk uk (pv 2) jc) jc) (λ_ _=>rfl)) xt rfl)))
 x8)
 (jd (yu (PW.pt (o9 (vb zi (jk xl (pv 2) jc) jc (xu _)) (o9 (vb zi (jk xl (jk uk (pv 2) jc) jc) jc (xu _)) (p5 (xy (jv jx (pv 6) jc (λ_ _=>rfl)))))))
 (j9 (jo (yd (pv 0) T.k_qu.c T.q_q0y.m (z_q0y T) hr.q9 T.q_q0y.b .nil jf.passes (j4 (pv 5) (j4 (xm (j4 jc (j4 jc j6))) j6))))
 (jd (d7 xt (d6 (pv 6) jc set_list))))
 x8)))))))))),jz (C:=ctOf T) ((ja (jt (j8 jw (ya qbn (j5 j3 j7)) (j8 xn (j8 ur j3 jb) (ya bh (j5 j3 j7)))) jm)
 (ja (jt (qd3 j3 j3) jm)
 (ja (jt (j8 m8 j3 (vc (j5 jl (j5 jl j7)))) jm)
 (ja (jt (yx (j5 (j8 zb jl (ya ze (j5 (j8 xn (j8 ur j3 jb) jb) j7))) (j5 (j8 zb jl (ya ze (j5 (j8 xn (j8 ur j3 jb) jb) j7))) j7))) jm)
 (ja (yv (ot (v9 (j8 zm (j8 xn j3 jb) jb)) (st_b (j8 jw j3 jb)))
 (ja (jr (yc (c:=8) (show ∀ i∈flT 8,fnT i ≠ "turn" by decide +kernel) j3 (j5 j3 j7)))
 (jt j3 (di j3 jb)))
 xf)
 (ja (yv (ot (v9 (j8 m8 (j8 xn j3 jb) (vc (j5 jb (j5 jb j7))))) (ot (st_b (j8 jw j3 jb)) (ot (uq (st_b j3)) (pk (qky (ba j3 (j8 jw j3 jb))) (qky (ba j3 (j8 jw j3 jb)))))))
 (jr (yb (j5 j3 (j5 j3 (j5 j3 j7)))))
 (yv (ot (v9 (j8 m8 (j8 xn j3 jb) (vc (j5 jb (j5 jb j7))))) (st_b (j8 jw j3 jb)))
 (ja (jr (yc (c:=8) (show ∀ i∈flT 8,fnT i ≠ "wash" by decide +kernel) j3 (j5 j3 (j5 (j8 jw j3 jb) (j5 (j8 jw j3 jb) j7)))))
 (ja (jt j3 (di j3 jb))
 (yv (st_b j3)
 (ja (dw j3 (j8 jw j3 jb) xw)
 (dw j3 (j8 jw j3 jb) xw))
 xf)))
 xf))
 (ja (yv (ot (v9 (j8 zm (j8 xn j3 jb) jb)) (st_b (j8 jw j3 jb)))
 (ja (jt (ya qde (j5 (rg (j8 zm (j8 xn (j8 ur j3 jb) jb) jb) (j8 fk (j8 jw j3 jb) (j8 jw (vc (j5 jb (j5 jb j7))) (ya qde (j5 j3 j7))))) j7)) jm)
 (ja (jt (j8 zl (j8 jw j3 jb) j3) (di j3 jb))
 (ja (jt (j8 jw (vc (j5 (j8 jw j3 jb) (j5 j3 j7))) j3) (di j3 jb))
 (jr (yc (c:=8) (show ∀ i∈flT 8,fnT i ≠ "move" by decide +kernel) j3 (j5 j3 (j5 (j8 zb (j8 s2_ixS jl (j8 xn (j8 ur j3 jb) jb)) (ya ze (j5 (j8 jw j3 jb) j7))) j7)))))))
 xf)
 (ja (yv (v9 (j8 zm (j8 xn j3 jb) jb))
 (ja (jr (yc (c:=8) (show ∀ i∈flT 8,fnT i ≠ "boil" by decide +kernel) j3 (j5 (j8 jw j3 (j8 xn (j8 ur j3 jb) jb)) j7)))
 (dw j3 (j8 jw j3 (j8 xn (j8 ur j3 jb) jb)) xw))
 xf)
 (yv (ot (v9 (j8 zm (j8 xn j3 jb) jb)) (ot (v9 (j8 zm (j8 xn (j8 ur j3 jb) jb) jb)) (st_b (j8 jw j3 jb))))
 (ja (jr (yc (c:=8) (show ∀ i∈flT 8,fnT i ≠ "cut" by decide +kernel) j3 (j5 j3 (j5 (vc (j5 jb (j5 jb j7))) j7))))
 (jt xw (di j3 jb)))
 xf)))))))))) rfl h⟩
theorem z_q0e (T:Txt K mg A):oZ P w base T 4 A.a_q0e A.fd_q0e ["self", "days", "hands", "jobs", "mouldy"] 5 m_q0e:=okz T.q_q0e.F sc_q0e rfl λhr nd hu h=>⟨_,(j9 (yn (pv 0) (pv 1) rfl)
 (j9 (yn (pv 0) (gb (osc:=je s_q0e) (N0:=["self", "days", "hands", "jobs", "mouldy"]) rfl rfl rfl (own:=["row", "most"]) (fv:=[]) ⟨rfl,dk,dk,dk,dk,dk⟩ (vg (pv 2)) (λ_ _ _=>(r8 (K:=K) (n:=2) rfl rfl rfl (vf (yg (i:=0) (show (["row", "most"]:List Str).Nodup by decide +kernel) rfl (Or.inl rfl) (hf:=Or.inr rfl)) (vf (yg (i:=1) (show (["row", "most"]:List Str).Nodup by decide +kernel) rfl (Or.inl rfl) (hf:=Or.inr rfl)) kj)))) (λ_ _ _=>u6) (λ_ _ _=>(yw (j4 (xr (qge (K:=K) rfl) rfl T.n_list PyProof.Rows.boot_list (j4 (pv 0) j6)) (j4 (pv 1) j6))))) rfl)
 (j9 (yn (pv 0) (gb (osc:=je s_q0e) (N0:=["self", "days", "hands", "jobs", "mouldy"]) rfl rfl rfl (own:=["job"]) (fv:=[]) ⟨rfl,dk,dk,dk,dk,dk⟩ (vg (pv 3)) (λ_ _ _=>(yg (i:=0) (show (["job"]:List Str).Nodup by decide +kernel) rfl (Or.inl rfl) (hf:=Or.inr rfl))) (λ_ _ _=>u6) (λ_ _ _=>(yo (z_q15 T) hr.q9 rfl T.q_q15.d T.q_q15.F.kp T.q_q15.b .nil ud (j4 (pv 0) j6)))) rfl)
 (jd (yn (pv 0) (pv 4) rfl))))),jz (C:=ctOf T) ((ja (yp (i:=25) rfl j3 j3)
 (ja (yp (i:=26) rfl j3 (ql7 (own:=["row", "most"]) (fv:=[]) (vi j3) (rj (vz xo (vz xo qa))) u7 (yx (j5 (ya qdd (j5 j3 j7)) (j5 j3 j7)))))
 (ja (yp (i:=27) rfl j3 (ql7 (own:=["job"]) (fv:=[]) (vi j3) xo u7 (yb (j5 j3 j7))))
 (yp (i:=5) rfl j3 j3))))) rfl h⟩
theorem z_q05 (T:Txt K mg A):oZ P w base T 6 A.a_q05 A.fd_q05 ["self", "wheels", "days", "hands", "brine", "cloth"] 6 m_q05:=okz T.q_q05.F sc_q05 rfl λhr nd hu h=>⟨_,(j9 (qe5 jf (osc:=je s_q05) (N0:=["self", "wheels", "days", "hands", "brine", "cloth", "found", "washers", "wheel", "jobs"]) (i:=6) rfl rfl rfl nd rfl (Or.inl rfl) (own:=["wheel"]) (fv:=[("self",0)]) ⟨rfl,dk,dk,dk,dk,dk⟩ (vg (pv 1)) (λ_ _ _=>(yg (i:=0) (show (["wheel", "self"]:List Str).Nodup by decide +kernel) rfl (Or.inl rfl) (hf:=Or.inr rfl))) (λ_ _ _=>u6) (λ_ _ _=>(yd (pv 1) T.k_qu.c T.q_qa.m (z_qa T) hr.q9 T.q_qa.b .nil qfu (j4 (pv 0) (j4 jh j6)))))
 (j9 (jy (i:=7) nd rfl (Or.inl rfl) (xm (j4 (yd (pv 0) T.k_qu.c T.q_qa.m (z_qa T) hr.q9 T.q_qa.b .nil jf.passes (j4 (pv 4) (j4 jh j6))) (j4 (yd (pv 0) T.k_qu.c T.q_qa.m (z_qa T) hr.q9 T.q_qa.b .nil jf.passes (j4 (pv 5) (j4 jh j6))) j6))))
 (j9 (ub PassesOwn.leaving rfl (vg (pv 6)) (yg (i:=8) nd rfl (Or.inl rfl))
 (jd (jo (yo (z_qr T) hr.q9 rfl T.q_qr.d T.q_qr.F.kp T.q_qr.b .nil jf.passes (j4 (pv 8) j6)))))
 (j9 (qe5 jf (osc:=je s_q05) (N0:=["self", "wheels", "days", "hands", "brine", "cloth", "found", "washers", "wheel", "jobs"]) (i:=9) rfl rfl rfl nd rfl (Or.inl rfl) (own:=["wheel"]) (fv:=[("self",0)]) ⟨rfl,dk,dk,dk,dk,dk⟩ (vg (pv 6)) (λ_ _ _=>(yg (i:=0) (show (["wheel", "self"]:List Str).Nodup by decide +kernel) rfl (Or.inl rfl) (hf:=Or.inr rfl))) (λ_ _ _=>u6) (λ_ _ _=>(yo (z_q18 T) hr.q9 rfl T.q_q18.d T.q_q18.F.kp T.q_q18.b .nil qfu (j4 (pv 0) (j4 (fj (K:=K) rfl (pv 1) rfl) j6)))))
 (jd (xi (zy (T.k_q1a.mkt T.q_q0e) (z_q0e T) hr.q9 rfl T.k_q1a.d T.q_q0e.b .nil jf.passes (j4 (pv 2) (j4 (pv 3) (j4 (pv 9) (j4 (ye (qe0 rfl) rfl T.n_any PyProof.Rows.boot_any (j4 (gb (osc:=je s_q05) (N0:=["self", "wheels", "days", "hands", "brine", "cloth", "found", "washers", "wheel", "jobs"]) rfl rfl rfl (own:=["washer"]) (fv:=[]) ⟨rfl,dk,dk,dk,dk,dk⟩ (vg (pv 7)) (λ_ _ _=>(yg (i:=0) (show (["washer"]:List Str).Nodup by decide +kernel) rfl (Or.inl rfl) (hf:=Or.inr rfl))) (λ_ _ _=>u6) (λ_ _ _=>(fj (K:=K) rfl (pv 0) rfl))) j6)) j6))))))))))),jz (C:=ctOf T) ((ja (jt (qju (own:=["wheel"]) (fv:=[("self",0)]) (vi j3) xo u7 (yc (c:=8) (show ∀ i∈flT 8,fnT i ≠ "known" by decide +kernel) j3 (j5 j3 (j5 jl j7)))) jm)
 (ja (jt (vc (j5 (yc (c:=8) (show ∀ i∈flT 8,fnT i ≠ "known" by decide +kernel) j3 (j5 j3 (j5 jl j7))) (j5 (yc (c:=8) (show ∀ i∈flT 8,fnT i ≠ "known" by decide +kernel) j3 (j5 j3 (j5 jl j7))) j7))) jm)
 (ja (uf (vi j3) jm
 (jr (yb (j5 j3 j7))))
 (ja (jt (qju (own:=["wheel"]) (fv:=[("self",0)]) (vi j3) xo u7 (yb (j5 j3 (j5 (ji rfl j3) j7)))) jm)
 (xj (zq (c:=10) rfl (j5 j3 (j5 j3 (j5 j3 (j5 (ya qkl (j5 (zc (own:=["washer"]) (fv:=[]) (vi j3) xo u7 (ji rfl j3)) j7)) j7))))))))))) rfl h⟩
theorem z_qj (T:Txt K mg A):oZ P w base T 7 A.a_qj A.fd_qj ["_law_cellar", "_law_names", "_law_days", "_law_hands", "_law_tools"] 5 m_qj:=okz T.q_qj.F sc_qj rfl λhr nd hu h=>⟨_,(j9 (jy (i:=5) nd rfl (Or.inl rfl) pe_non)
 (j9 (ps_try (i:=5) (j:=6) rfl rfl rfl nd rfl (Or.inl rfl) rfl rfl rfl T.k_q0j.d T.t_q0j T.k_q0j.k.is T.b_q0j (qh5 (pv 0) T.k_qu.c T.q_q05.m (z_q05 T) hr.q9 T.q_q05.b .nil (j4 (xr fi rfl T.n_list PyProof.Rows.boot_list (j4 (pv 1) j6)) (j4 (pv 2) (j4 (pv 3) (j4 (jv jx (pv 4) jc (λ_ _=>rfl)) (j4 (jv jx (pv 4) jc (λ_ _=>rfl)) j6)))))) (λ_=>(jd (jy (i:=5) nd rfl (Or.inl rfl) (qmk (zq_q0x T) (hr.x.mono (by decide)).mark rfl rfl T.q_q0x.d T.q_q0x.F.kp T.q_q0x.b .nil pass0 (j4 (pv 6) j6))))))
 (jd (xi (pv 5))))),jz (C:=ctOf T) ((ja (jt se_non jm)
 (ja (qom (qgy (c:=8) (show ∀ i∈flT 8,fnT i ≠ "task" by decide +kernel) j3 (j5 (ya qdd (j5 j3 j7)) (j5 j3 (j5 j3 (j5 (j8 jw j3 jb) (j5 (j8 jw j3 jb) j7)))))) (hsubT T))
 (xj j3)))) rfl h⟩
theorem z_q0u (T:Txt K mg A):oZ P w base T 1 A.a_q0u A.fd_q0u ["_law_names", "_law_wheels", "_law_gaps", "_law_day"] 4 m_q0u:=by
 refine FnOk.imp (T.q_q0u.F.okR sc_q0u (λvs H Q E h=>dm h) (λcdv A' outer s H vs Q E hr h=>?_)) (λvs H Q E h=>qlt h)
 have nd:=sc_q0u.nd;have hu:=pd hr;exact ⟨_,(j9 (jy (i:=4) nd rfl (Or.inl rfl) (xm j6))
 (j9 (ub PassesOwn.leaving rfl (vg (pv 0)) (yg (i:=5) nd rfl (Or.inl rfl))
 (j9 (jy (i:=6) nd rfl (Or.inl rfl) (ij hu (pv 1) (pv 5) (λ_ _=>rfl)))
 (j9 (qk7 (i:=7) (j:=8) rfl nd rfl rfl (by decide) rfl rfl (j4 (jv jx (pv 2) jc (λ_ _=>rfl)) (j4 (jv jx (pv 2) jc (λ_ _=>rfl)) j6)) rfl)
 (j9 (yu (vb nh (pv 5) (xm (j4 jh (j4 jh j6))) rfl)
 (jd (qk7 (i:=7) (j:=8) rfl nd rfl rfl (by decide) rfl rfl (j4 (jv jx (pv 2) jc (λ_ _=>rfl)) (j4 (jv jx (pv 2) jc (λ_ _=>rfl)) j6)) rfl))
 x8)
 (j9 (jy (i:=9) nd rfl (Or.inl rfl) (n8 ng (pv 2) (oh (jk zw jc (jv jx (pv 6) jc (λ_ _=>rfl)))) (oh (jk og jc (xr eo rfl T.n_int PyProof.Rows.boot_int (j4 (zj nh (pv 5) (xm (j4 jh (j4 jh j6))) rfl) j6))))))
 (jd (jo (zz PySem.F.plainAttrs_list PySem.F.slot_list_append PySem.F.type_list_append uz (pv 4) (j4 (yw (j4 (zj nh (pv 5) (xm (j4 jh (j4 jh j6))) rfl) (j4 (pv 7) (j4 (jk og (pv 3) (jv jx (pv 6) jc (λ_ _=>rfl))) (j4 (pv 8) (j4 (jk og (pv 3) (jv jx (pv 6) jc (λ_ _=>rfl))) (j4 (pv 9) (j4 (jk og (pv 3) (jv jx (pv 6) jc (λ_ _=>rfl))) j6)))))))) j6)))))))))
 (jd (xi (pv 4))))),jz (C:=ctOf T) ((ja (jt (dh j7) jm)
 (ja (uf (vi j3) jm
 (ja (jt (qd3 j3 j3) jm)
 (ja (qla (j5 (j8 jw j3 jb) (j5 (j8 jw j3 jb) j7)))
 (ja (yv (v9 (j8 m8 j3 (vc (j5 jl (j5 jl j7)))))
 (qla (j5 (j8 jw j3 jb) (j5 (j8 jw j3 jb) j7)))
 xf)
 (ja (jt (nu nv j3 (ou (j8 zl jb (j8 jw j3 jb))) (ou (j8 gq jb (ya qde (j5 (j8 m8 j3 (vc (j5 jl (j5 jl j7)))) j7))))) jm)
 (jr (gw gx j3 (j5 (yx (j5 (j8 m8 j3 (vc (j5 jl (j5 jl j7)))) (j5 j3 (j5 (j8 gq j3 (j8 jw j3 jb)) (j5 j3 (j5 (j8 gq j3 (j8 jw j3 jb)) (j5 j3 (j5 (j8 gq j3 (j8 jw j3 jb)) j7)))))))) j7))))))))
 (xj (se_frz j3))))) rfl h⟩
theorem z_q0c (T:Txt K mg A):oZ P w base T 3 A.a_q0c A.fd_q0c ["self", "name", "recipe", "shelf", "grams", "day"] 6 m_q0c:=okz T.q_q0c.F sc_q0c rfl λhr nd hu h=>⟨_,(j9 (jo (ph rfl T.k_q19.d T.B_qg (z_qg T) hr.q9 T.q_qg.b .nil jf.passes (j4 (pv 0) (j4 jh (j4 (pv 1) j6)))))
 (j9 (yn (pv 0) (pv 2) rfl)
 (j9 (yn (pv 0) (pv 3) rfl)
 (j9 (yn (pv 0) (pv 4) rfl)
 (j9 (yn (pv 0) jc rfl)
 (j9 (yn (pv 0) (pv 5) rfl)
 (j9 (yn (pv 0) (pv 5) rfl)
 (j9 (yn (pv 0) (pv 5) rfl)
 (jd (yn (pv 0) xt rfl)))))))))),jz (C:=ctOf T) ((ja (jr (yb (j5 j3 (j5 jl (j5 j3 j7)))))
 (ja (yp (i:=11) rfl j3 j3)
 (ja (yp (i:=12) rfl j3 j3)
 (ja (yp (i:=10) rfl j3 j3)
 (ja (yp (i:=13) rfl j3 jb)
 (ja (yp (i:=14) rfl j3 j3)
 (ja (yp (i:=15) rfl j3 j3)
 (ja (yp (i:=16) rfl j3 j3)
 (yp (i:=17) rfl j3 xw)))))))))) rfl h⟩
theorem z_qt (T:Txt K mg A):oZ P w base T 5 A.a_qt A.fd_qt ["self", "name", "batch", "sort", "shelf", "grams"] 6 m_qt:=okz T.q_qt.F sc_qt rfl λhr nd hu h=>⟨_,(j9 (jo (yd (pv 0) T.k_qu.c T.q_qf.m (z_qf T) hr.q9 T.q_qf.b .nil jf.passes (j4 (pv 1) j6)))
 (j9 (jy (i:=6) nd rfl (Or.inl rfl) (yd (pv 0) T.k_qu.c T.q_qa.m (z_qa T) hr.q9 T.q_qa.b .nil jf.passes (j4 (pv 2) (j4 jh j6))))
 (j9 (jy (i:=7) nd rfl (Or.inl rfl) (yd (pv 0) T.k_qu.c T.q_qa.m (z_qa T) hr.q9 T.q_qa.b .nil jf.passes (j4 (pv 3) (j4 jh j6))))
 (j9 (jy (i:=8) nd rfl (Or.inl rfl) (yd (pv 0) T.k_qu.c T.q_qa.m (z_qa T) hr.q9 T.q_qa.b .nil jf.passes (j4 (pv 4) (j4 jh j6))))
 (j9 (jo (yo (z_q06 T) hr.q9 rfl T.q_q06.d T.q_q06.F.kp T.q_q06.b .nil jf.passes (j4 (pv 5) j6)))
 (j9 (yu (uj (xy (yo (z_q0o T) hr.q9 rfl T.q_q0o.d T.q_q0o.F.kp T.q_q0o.b .nil jf.passes (j4 (pv 8) (j4 (pv 7) (j4 jc j6))))))
 (jd (gj jf hr.hd rfl T.k_qi.d T.x_qi.x PySem.F.excBase_ValueError rfl PySem.F.excBase_ValueError (j4 (oq (xa jh (xa (kr (pv 3)) (xa jh (xa (kr (pv 4)) oo))))) j6)))
 x8)
 (j9 (jo (yo (z_q0d T) hr.q9 rfl T.q_q0d.d T.q_q0d.F.kp T.q_q0d.b .nil jf.passes (j4 (pv 5) (j4 (jj (pv 6) rfl) j6))))
 (j9 (ck (pv 6) (pv 5) qlg)
 (j9 (jy (i:=9) nd rfl (Or.inl rfl) (zy (T.k_q1f.mkt T.q_q0c) (z_q0c T) hr.q9 rfl T.k_q1f.d T.q_q0c.b .nil jf.passes (j4 (pv 1) (j4 (pv 7) (j4 (pv 8) (j4 (pv 5) (j4 (jj (pv 0) rfl) j6)))))))
 (j9 (jo (yd (pv 0) T.k_qu.c T.q_qo.m (z_qo T) hr.q9 T.q_qo.b .nil jf.passes (j4 (pv 9) j6)))
 (j9 (jo (zz PySem.F.plainAttrs_list PySem.F.slot_list_append PySem.F.type_list_append uz (jj (pv 0) rfl) (j4 (pv 9) j6)))
 (jd (jo (zz PySem.F.plainAttrs_list PySem.F.slot_list_append PySem.F.type_list_append uz (jj (pv 0) rfl) (j4 (yw (j4 (jj (pv 0) rfl) (j4 jh (j4 (pv 1) (j4 (pv 2) (j4 (pv 3) (j4 (pv 4) (j4 (pv 5) j6)))))))) j6))))))))))))))),jz (C:=ctOf T) ((ja (jr (yc (c:=8) (show ∀ i∈flT 8,fnT i ≠ "check_free" by decide +kernel) j3 (j5 j3 j7)))
 (ja (jt (yc (c:=8) (show ∀ i∈flT 8,fnT i ≠ "known" by decide +kernel) j3 (j5 j3 (j5 jl j7))) jm)
 (ja (jt (yc (c:=8) (show ∀ i∈flT 8,fnT i ≠ "known" by decide +kernel) j3 (j5 j3 (j5 jl j7))) jm)
 (ja (jt (yc (c:=8) (show ∀ i∈flT 8,fnT i ≠ "known" by decide +kernel) j3 (j5 j3 (j5 jl j7))) jm)
 (ja (jr (yb (j5 j3 j7)))
 (ja (yv (uq (st_b (yb (j5 j3 (j5 j3 (j5 jb j7))))))
 (o5 (c:=26) (mh (ug (ny j3 (ug (ny j3 mf)))) (by decide +kernel)))
 xf)
 (ja (jr (yb (j5 j3 (j5 (ji rfl j3) j7))))
 (ja (fw (i:=10) rfl qgt j3 j3)
 (ja (jt (zq (c:=6) rfl (j5 j3 (j5 j3 (j5 j3 (j5 j3 (j5 (ji rfl j3) j7)))))) jm)
 (ja (jr (yc (c:=8) (show ∀ i∈flT 8,fnT i ≠ "hold" by decide +kernel) j3 (j5 j3 j7)))
 (ja (jr (gw gx (ji rfl j3) (j5 j3 j7)))
 (jr (gw gx (ji rfl j3) (j5 (yx (j5 (ji rfl j3) (j5 jl (j5 j3 (j5 j3 (j5 j3 (j5 j3 (j5 j3 j7)))))))) j7))))))))))))))) rfl h⟩
theorem z_qp (T:Txt K mg A):oZ P w base T 2 A.a_qp A.fd_qp ["self"] 1 m_qp:=okz T.q_qp.F sc_qp rfl λhr nd hu h=>⟨_,(j9 (jy (i:=1) nd rfl (Or.inl rfl) (xm j6))
 (j9 (ub PassesOwn.leaving rfl (vg (jj (pv 0) rfl)) (yg (i:=2) nd rfl (Or.inl rfl))
 (jd (yu (uj (xy (jj (pv 2) rfl)))
 (j9 (jy (i:=3) nd rfl (Or.inl rfl) (yo (z_q10 T) hr.q9 rfl T.q_q10.d T.q_q10.F.kp T.q_q10.b .nil jf.passes (j4 (pv 2) j6)))
 (j9 (ck (pv 2) (pv 3) qlg)
 (jd (jo (zz PySem.F.plainAttrs_list PySem.F.slot_list_append PySem.F.type_list_append uz (pv 1) (j4 (yw (j4 (jj (pv 2) rfl) (j4 (jj (jj (jj (pv 2) rfl) rfl) rfl) (j4 (jj (jj (pv 2) rfl) rfl) (j4 (pv 3) j6))))) j6))))))
 x8)))
 (j9 (jo (zz PySem.F.plainAttrs_list PySem.F.slot_list_append PySem.F.type_list_append uz (jj (pv 0) rfl) (j4 (yw (j4 (jj (pv 0) rfl) (j4 jh (j4 (xr ef rfl T.n_tuple PyProof.Rows.boot_tuple (j4 (pv 1) j6)) j6)))) j6)))
 (jd (ck (pv 0) jc qkk))))),jz (C:=ctOf T) ((ja (jt (dh j7) jm)
 (ja (uf (vi (ji rfl j3)) jm
 (yv (uq (st_b (ji rfl j3)))
 (ja (jt (yb (j5 j3 j7)) jm)
 (ja (fw (i:=10) rfl qgt j3 j3)
 (jr (gw gx j3 (j5 (yx (j5 (ji rfl j3) (j5 (ji rfl (ji rfl (ji rfl j3))) (j5 (ji rfl (ji rfl j3)) (j5 j3 j7))))) j7)))))
 xf))
 (ja (jr (gw gx (ji rfl j3) (j5 (yx (j5 (ji rfl j3) (j5 jl (j5 (ya qbp (j5 j3 j7)) j7)))) j7)))
 (fw (i:=18) rfl qhc j3 jb))))) rfl h⟩
theorem z_qb (T:Txt K mg A):oZ P w base T 3 A.a_qb A.fd_qb ["self", "times"] 2 m_qb:=by
 refine T.F_qb.choose_spec.choose_spec.okR sc_qb (λvs H Q E h=>dm h) (λcdv A' outer s H vs Q E hr h=>?_)
 have nd:=sc_qb.nd;have hu:=pd hr;exact ⟨_,(j9 (jo (yo (z_qm T) hr.q9 rfl T.q_qm.d T.q_qm.F.kp T.q_qm.b .nil jf.passes (j4 (pv 1) (j4 jc (j4 (qx rfl T.g_q1m) j6)))))
 (jd (ub PassesOwn.leaving rfl (km rfl T.n_range (j4 (pv 1) j6)) (yg (i:=2) nd rfl (Or.inl rfl))
 (jd (jo (qlh (pv 0) T.k_qu.c T.q_qp.m (z_qp T) hr.q9 T.q_qp.b .nil jf.passes)))))),jz (C:=ctOf T) ((ja (jr (yb (j5 j3 (j5 jb (j5 jb j7)))))
 (uf (m7 j3) jm
 (jr (yc (c:=8) (show ∀ i∈flT 8,fnT i ≠ "pass_night" by decide +kernel) j3 j7))))) rfl h⟩
end
section
variable {P:Program} {w:World} {K:W.Frag} {mg:Str->Option Value} {base:Heap} {A:Adr}
theorem ok_law (T:Txt K mg A):FnOk P w K mg base CX0 8 A.a_law A.fd_law ["_law_script"] (dz K):=by
 refine T.q_law.F.ok qkq (λvs H Q E h=>?_) (λcdv A' outer s H vs Q E hr h=>?_)
 ·obtain ⟨a,ns,rfl,_⟩:=h
  rfl
 ·have nd:=qkq.nd
  have hu:=pd hr;exact ⟨_,(j9 (ip (osc:=je gi) (N0:=["_law_script", "_law_gaps", "_law_cellar", "_law_wheels", "_law_mould", "_law_day", "_law_k", "_law_cell", "_law_name", "_law_times", "_law_pick", "_law_names", "_law_days", "_law_hands", "_law_tools", "_law_told", "_law_pair", "_law_tub"]) (i:=1) rfl rfl rfl nd rfl (Or.inl rfl) (own:=["_law_k"]) (fv:=[("_law_script",0)]) ⟨rfl,dk,dk,dk,dk,dk⟩ (km rfl T.n_range (j4 jc j6)) (λ_ _ _=>(yg (i:=0) (show (["_law_k", "_law_script"]:List Str).Nodup by decide +kernel) rfl (Or.inl rfl) (hf:=Or.inr rfl))) (λ_ _ _=>u6) (λ_ _ _=>(yo (z_q11 T) hr.q9 rfl T.q_q11.d T.q_q11.F.kp T.q_q11.b .nil ud (j4 (yo (z_q0r T) hr.q9 rfl T.q_q0r.d T.q_q0r.F.kp T.q_q0r.b .nil ud (j4 (pv 1) (j4 (pv 0) j6))) j6))))
 (j9 (jy (i:=2) nd rfl (Or.inl rfl) (yo (z_q01 T) hr.q9 rfl T.q_q01.d T.q_q01.F.kp T.q_q01.b .nil ud (j4 (pv 0) (j4 (pv 1) j6))))
 (j9 (jy (i:=3) nd rfl (Or.inl rfl) dg)
 (j9 (jy (i:=4) nd rfl (Or.inl rfl) dg)
 (j9 (jy (i:=5) nd rfl (Or.inl rfl) jc)
 (j9 (ub PassesOwn.never rfl (km rfl T.n_range (j4 (ye (qhz rfl) rfl T.n_min PyProof.Rows.boot_min (j4 (ye gn rfl T.n_len PySem.boot_len (j4 (pv 0) j6)) (j4 jc j6))) j6)) (yg (i:=6) nd rfl (Or.inl rfl))
 (j9 (jy (i:=7) nd rfl (Or.inl rfl) (jv jx (pv 0) (pv 6) (λ_ _=>rfl)))
 (j9 (yu (PW.pt (o9 (vb cf (ye bg rfl T.n_len PySem.boot_len (j4 (pv 3) j6)) jc (xu _)) (p5 (PW.pt (p7 (vb zi (jk xl (pv 7) jc) jc (xu _)) (p6 (vb (qoo (Nat.lt_of_succ_lt (pd hr))) (pv 3) dg (xu _))))))))
 (j9 (jy (i:=8) nd rfl (Or.inl rfl) (jk um jh (xr z4 rfl T.n_str PyProof.Rows.boot_str (j4 (ye bg rfl T.n_len PySem.boot_len (j4 (pv 3) j6)) j6))))
 (j9 (jo (yd (pv 2) T.k_qu.c T.q_qt.m (z_qt T) hr.q9 T.q_qt.b .nil ud (j4 (pv 8) (j4 jh (j4 (jv jx (xm (j4 jh (j4 jh j6))) (jk xl (ye bg rfl T.n_len PySem.boot_len (j4 (pv 3) j6)) jc) (λ_ _=>rfl)) (j4 jh (j4 jc j6)))))))
 (jd (de hu (pv 3) (pv 8) (xm (j4 (pv 5) (j4 (pv 5) (j4 (pv 5) (j4 (pv 5) (j4 jc (j4 xt j6))))))) rfl))))
 x8)
 (jd (yu (vb nh (jk xl (pv 7) jc) (xm (j4 jc (j4 jc j6))) rfl)
 (j9 (jy (i:=9) nd rfl (Or.inl rfl) (jk zw jc (jk xl (jk uk (pv 7) jc) jc)))
 (j9 (jo (yd (pv 2) T.k_qu.c T.m_qb (z_qb T) hr.q9 T.b_qb .nil ud (j4 (pv 9) j6)))
 (jd (jy (i:=5) nd rfl (Or.inl rfl) (jk zw (pv 5) (pv 9))))))
 (jd (yu (vb (qn4 (Nat.lt_of_succ_lt (pd hr))) (pv 3) dg (xu _))
 (jd (jo (yo (z_q0t T) hr.q9 rfl T.q_q0t.d T.q_q0t.F.kp T.q_q0t.b .nil ud (j4 (pv 2) (j4 (pv 3) (j4 (pv 7) (j4 (pv 5) (j4 (pv 4) j6))))))))
 x8)))))))
 (j9 (jy (i:=10) nd rfl (Or.inr rfl) (yo (z_q0r T) hr.q9 rfl T.q_q0r.d T.q_q0r.F.kp T.q_q0r.b .nil ud (j4 (pv 0) (j4 jc j6))))
 (j9 (jy (i:=11) nd rfl (Or.inl rfl) (jk pj (n8 ng (xr (qa4 rfl) rfl T.n_list PyProof.Rows.boot_list (j4 (pv 3) j6)) (oh (jk xl (pv 10) jc)) qu) (n8 ng (xr (qa4 rfl) rfl T.n_list PyProof.Rows.boot_list (j4 (pv 3) j6)) qu (oh (jk xl (pv 10) jc)))))
 (j9 (jy (i:=11) nd rfl (Or.inl rfl) (qog (n8 ng (pv 11) qu (oh (jk xl (jk uk (pv 10) jc) jc))) (jv jx (xm (j4 jc (j4 (pe_un un_neg jc) j6))) (jk xl (jk uk (pv 10) jc) jc) (λ_ _=>rfl))))
 (j9 (jy (i:=12) nd rfl (Or.inl rfl) (jk zw jc (jk xl (yo (z_q0r T) hr.q9 rfl T.q_q0r.d T.q_q0r.F.kp T.q_q0r.b .nil ud (j4 (pv 0) (j4 jc j6))) jc)))
 (j9 (jy (i:=13) nd rfl (Or.inl rfl) (xm (j4 (yw (j4 (gb (osc:=je gi) (N0:=["_law_script", "_law_gaps", "_law_cellar", "_law_wheels", "_law_mould", "_law_day", "_law_k", "_law_cell", "_law_name", "_law_times", "_law_pick", "_law_names", "_law_days", "_law_hands", "_law_tools", "_law_told", "_law_pair", "_law_tub"]) rfl rfl rfl (own:=["_law_k"]) (fv:=[("_law_pick",10)]) ⟨rfl,dk,dk,dk,dk,dk⟩ (km rfl T.n_range (j4 (pv 12) j6)) (λ_ _ _=>(yg (i:=0) (show (["_law_k", "_law_pick"]:List Str).Nodup by decide +kernel) rfl (Or.inl rfl) (hf:=Or.inr rfl))) (λ_ _ _=>u6) (λ_ _ _=>(jk xl (jk zw (pv 1) (pv 0)) jc))) (j4 (jk xl (pv 10) jc) j6))) j6)))
 (j9 (jy (i:=14) nd rfl (Or.inl rfl) (yw (j4 (jk um jh (xr z4 rfl T.n_str PyProof.Rows.boot_str (j4 (jk xl (jk uk (pv 10) jc) jc) j6))) (j4 (jk um jh (xr z4 rfl T.n_str PyProof.Rows.boot_str (j4 (jk xl (jk uk (pv 10) jc) jc) j6))) j6))))
 (j9 (jy (i:=15) nd rfl (Or.inl rfl) (yo (z_qj T) hr.q9 rfl T.q_qj.d T.q_qj.F.kp T.q_qj.b .nil ud (j4 (pv 2) (j4 (pv 11) (j4 (pv 12) (j4 (pv 13) (j4 (pv 14) j6)))))))
 (j9 (yu (vb p8 (yo (z_qj T) hr.q9 rfl T.q_qj.d T.q_qj.F.kp T.q_qj.b .nil ud (j4 (pv 2) (j4 (jk pj (n8 ng (pv 11) qu (oh jc)) (xm (j4 jh j6))) (j4 (pv 12) (j4 (pv 13) (j4 (pv 14) j6)))))) jh (xu _))
 (jd (xi xt))
 x8)
 (j9 (ub PassesOwn.never rfl (vg (xm (j4 (yw (j4 (jv jx (pv 14) jc (λ_ _=>rfl)) (j4 (jv jx (pv 14) jc (λ_ _=>rfl)) j6))) (j4 (yw (j4 (jv jx (pv 14) jc (λ_ _=>rfl)) (j4 (jv jx (pv 14) jc (λ_ _=>rfl)) j6))) (j4 (yw (j4 (jv jx (pv 14) jc (λ_ _=>rfl)) (j4 jh j6))) j6))))) (yg (i:=16) nd rfl (Or.inl rfl))
 (jd (yu (vb p8 (yo (z_qj T) hr.q9 rfl T.q_qj.d T.q_qj.F.kp T.q_qj.b .nil ud (j4 (pv 2) (j4 (pv 11) (j4 (pv 12) (j4 (pv 13) (j4 (pv 16) j6)))))) jh (xu _))
 (jd (xi xt))
 x8)))
 (j9 (ub PassesOwn.never rfl (vg (pv 11)) (yg (i:=8) nd rfl (Or.inl rfl))
 (jd (yu (uj (xy (jv jx (ij hu (pv 3) (pv 8) (λ_ _=>rfl)) jc (λ_ _=>rfl))))
 (jd (xi (zj zi (pv 15) jh (xu _))))
 x8)))
 (j9 (yu (uj (xy (ye qdv rfl T.n_isinstance PyProof.Rows.boot_isinstance (j4 (pv 15) (j4 (uw (v:=.ref A.c_q1a) rfl T.k_q1a.d rfl) j6)))))
 (jd (xi xt))
 x8)
 (j9 (jy (i:=17) nd rfl (Or.inl rfl) (pe_or (qfy hu (pv 4) (jv jx (pv 14) jc (λ_ _=>rfl)) xt ⟨rfl,rfl,rfl,rfl⟩) (qr (qfy hu (pv 4) (jv jx (pv 14) jc (λ_ _=>rfl)) xt ⟨rfl,rfl,rfl,rfl⟩))))
 (jd (xi (yo (z_q00 T) hr.q9 rfl T.q_q00.d T.q_q00.F.kp T.q_q00.b .nil ud (j4 (pv 15) (j4 (yw (j4 (pv 12) (j4 (pv 13) (j4 (yo (z_q0u T) hr.q9 rfl T.q_q0u.d T.q_q0u.F.kp T.q_q0u.b .nil ud (j4 (pv 11) (j4 (pv 3) (j4 (pv 1) (j4 (pv 5) j6))))) (j4 (pv 17) j6))))) j6))))))))))))))))))))))),jz (C:=ctOf T) (E:=E0) ((ja (jt (zc (own:=["_law_k"]) (fv:=[("_law_script",0)]) (m7 jb) xo u7 (yb (j5 (yb (j5 j3 (j5 j3 j7))) j7))) jm)
 (ja (jt (yb (j5 j3 (j5 j3 j7))) jm)
 (ja (jt qbu jm)
 (ja (jt qbu jm)
 (ja (jt jb jm)
 (ja (uf (m7 (ya qn0 (j5 (ya gu (j5 j3 j7)) (j5 jb j7)))) jm
 (ja (jt (j8 jw j3 j3) jm)
 (ja (yv (ot (v9 (j8 fk (ya bh (j5 j3 j7)) jb)) (pk (v9 (j8 zm (j8 xn j3 jb) jb)) (v9 (j8 qnd j3 qh6))))
 (ja (jt (j8 zb jl (ya ze (j5 (ya bh (j5 j3 j7)) j7))) jm)
 (ja (jr (yc (c:=8) (show ∀ i∈flT 8,fnT i ≠ "new_wheel" by decide +kernel) j3 (j5 j3 (j5 jl (j5 (j8 jw (vc (j5 jl (j5 jl j7))) (j8 xn (ya bh (j5 j3 j7)) jb)) (j5 jl (j5 jb j7)))))))
 (dw j3 j3 (dh (j5 j3 (j5 j3 (j5 j3 (j5 j3 (j5 jb (j5 xw j7))))))))))
 xf)
 (yv (v9 (j8 m8 (j8 xn j3 jb) (vc (j5 jb (j5 jb j7)))))
 (ja (jt (j8 zl jb (j8 xn (j8 ur j3 jb) jb)) jm)
 (ja (jr (yc (c:=8) (show ∀ i∈flT 8,fnT i ≠ "night" by decide +kernel) j3 (j5 j3 j7)))
 (jt (j8 zl j3 j3) jm)))
 (yv (v9 (j8 qp9 j3 qh6))
 (jr (yb (j5 j3 (j5 j3 (j5 j3 (j5 j3 (j5 j3 j7)))))))
 xf)))))
 (ja (jt (yb (j5 j3 (j5 jb j7))) jm)
 (ja (jt (j8 pz (nu nv (ya qbn (j5 j3 j7)) (ou (j8 xn j3 jb)) rp) (nu nv (ya qbn (j5 j3 j7)) rp (ou (j8 xn j3 jb)))) jm)
 (ja (jt (qp4 (nu nv j3 rp (ou (j8 xn (j8 ur j3 jb) jb))) (j8 jw (vc (j5 jb (j5 (se_un s1_neg jb) j7))) (j8 xn (j8 ur j3 jb) jb))) jm)
 (ja (jt (j8 zl jb (j8 xn (yb (j5 j3 (j5 jb j7))) jb)) jm)
 (ja (jt (vc (j5 (yx (j5 (zc (own:=["_law_k"]) (fv:=[("_law_pick",10)]) (m7 j3) xo u7 (j8 xn (j8 zl j3 j3) jb)) (j5 (j8 xn j3 jb) j7))) j7)) jm)
 (ja (jt (yx (j5 (j8 zb jl (ya ze (j5 (j8 xn (j8 ur j3 jb) jb) j7))) (j5 (j8 zb jl (ya ze (j5 (j8 xn (j8 ur j3 jb) jb) j7))) j7))) jm)
 (ja (jt (yb (j5 j3 (j5 j3 (j5 j3 (j5 j3 (j5 j3 j7)))))) jm)
 (ja (yv (v9 (j8 pw (yb (j5 j3 (j5 (j8 pz (nu nv j3 rp (ou jb)) (vc (j5 jl j7))) (j5 j3 (j5 j3 (j5 j3 j7)))))) jl))
 (xj xw)
 xf)
 (ja (uf (vi (vc (j5 (yx (j5 (j8 jw j3 jb) (j5 (j8 jw j3 jb) j7))) (j5 (yx (j5 (j8 jw j3 jb) (j5 (j8 jw j3 jb) j7))) (j5 (yx (j5 (j8 jw j3 jb) (j5 jl j7))) j7))))) jm
 (yv (v9 (j8 pw (yb (j5 j3 (j5 j3 (j5 j3 (j5 j3 (j5 j3 j7)))))) jl))
 (xj xw)
 xf))
 (ja (uf (vi j3) jm
 (yv (uq (st_b (j8 jw (qd3 j3 j3) jb)))
 (xj (j8 zm j3 jl))
 xf))
 (ja (yv (uq (st_b (qkh (c:=10) T.k_q1a.c T.ow_q1a j3)))
 (xj xw)
 xf)
 (ja (jt (se_or (qez j3 (j8 jw j3 jb) xw) (qez j3 (j8 jw j3 jb) xw)) jm)
 (xj (yb (j5 j3 (j5 (yx (j5 j3 (j5 j3 (j5 (yb (j5 j3 (j5 j3 (j5 j3 (j5 j3 j7))))) (j5 j3 j7))))) j7))))))))))))))))))))))) rfl (qk8 (C:=ctOf T) rfl law_true h)⟩
end
theorem all_mk {l:W.OpenLaw} {w:World} {K:W.Frag} {h:Heap} {mg:Str->Option Value} {fa:Addr} (X:K.In h) (G:h.Ns mainGlobals mg) (hfa:mg "law" = some (.ref fa))
  (h_q17:HxF K "job_values" s_q17 f_q17)
  (h_q15:HxF K "copy_of" s_q15 f_q15)
  (h_q0w:HxF K "wedge_names" s_q0w f_q0w)
  (h_q0o:HxF K "stands_at" s_q0o f_q0o)
  (h_q10:HxF K "night_loss" s_q10 f_q10)
  (h_q18:HxF K "job_of" s_q18 f_q18)
  (h_q14:HxF K "has_only" s_q14 f_q14)
  (h_q16:HxF K "is_name" s_q16 f_q16)
  (h_qm:HxF K "check_bounds" s_qm f_qm)
  (h_q06:HxF K "check_grams" s_q06 f_q06)
  (h_q12:HxF K "check_gap" s_q12 f_q12)
  (h_qr:HxF K "check_here" s_qr f_qr)
  (h_q0d:HxF K "check_enough" s_q0d f_q0d)
  (h_q0r:HxF K "_law_at" s_q0r f_q0r)
  (h_qh:HxF K "_law_same" s_qh f_qh)
  (h_q00:HxF K "_law_task_same" s_q00 f_q00)
  (h_q0x:HxF K "_law_word_of" s_q0x f_q0x)
  (h_q11:HxF K "_law_gap" s_q11 f_q11)
  (h_q01:HxF K "_law_furnished" s_q01 f_q01)
  (h_q04:HxF K "_law_not_washed" s_q04 f_q04)
  (h_q0t:HxF K "_law_step" s_q0t f_q0t)
  (h_qj:HxF K "_law_task_told" s_qj f_qj)
  (h_q0u:HxF K "_law_raws" s_q0u f_q0u)
  (a_law:W.nsIn K mainGlobals "law" = some (some (.ref f_law))) (l_law:K.lookup f_law=some ⟨oc_law,od_law, .func (W.fnOf "law" "law" (vn gi) (v7 gi) (je gi) .none kV_law dc_law pm_law an_law cd_law ct_law),sl_law⟩) (c_law:W.codeIn K cd_law "law" = true) (k_law:W.keepIn K (.ref f_law)=true)
  (z_len:W.nsIn K mainGlobals "len" = some none)
  (z_all:W.nsIn K mainGlobals "all" = some none)
  (z_any:W.nsIn K mainGlobals "any" = some none)
  (z_min:W.nsIn K mainGlobals "min" = some none)
  (z_range:W.nsIn K mainGlobals "range" = some none)
  (z_int:W.nsIn K mainGlobals "int" = some none)
  (z_bool:W.nsIn K mainGlobals "bool" = some none)
  (z_str:W.nsIn K mainGlobals "str" = some none)
  (z_list:W.nsIn K mainGlobals "list" = some none)
  (z_tuple:W.nsIn K mainGlobals "tuple" = some none)
  (z_isinstance:W.nsIn K mainGlobals "isinstance" = some none)
  (z_sum:W.nsIn K mainGlobals "sum" = some none)
  (z_ValueError:W.nsIn K mainGlobals "ValueError" = some none)
  (z_set:W.nsIn K mainGlobals "set" = some none)
  (g_q1c:W.nsIn K mainGlobals "NAME_SIGNS" = some (some (.str c_q1c t_q1c)))
  (g_q1h:W.nsIn K mainGlobals "LONGEST_NAME" = some (some (.int 12 t_q1h)))
  (g_q1o:W.nsIn K mainGlobals "MOST_DAMP" = some (some (.int 100 t_q1o)))
  (g_q1k:W.nsIn K mainGlobals "MOST_WARMTH" = some (some (.int 40 t_q1k)))
  (g_q1l:W.nsIn K mainGlobals "LONGEST_GAP" = some (some (.int 60 t_q1l)))
  (g_q1n:W.nsIn K mainGlobals "MOST_GRAMS" = some (some (.int 1000000 t_q1n)))
  (g_q1m:W.nsIn K mainGlobals "MOST_NIGHTS" = some (some (.int 30 t_q1m)))
  (h_Job:HxC K "Job" ["mouldy", "turn_gap", "turned", "wash_gap", "washed", "stays", "lain"] c_Job)
  (h_q0l:HxM K c_Job "__init__" "Job.__init__" s_q0l f_q0l)
  (owc_Job:W.findIn K (.ref c_Job) "__class__" = some (some (.builtin "object.__class__"))) (owg_Job:W.specialIn K (.builtin "object.__class__") "__get__" = some (some (.builtin "getset_descriptor.__get__"))) (owt_Job:W.takesIn K (.builtin "object.__class__")=some true) (owm_Job:W.mroIn K c_Job (.type "object")=some true)
  (h_q1a:HxC K "Task" ["days", "hands", "jobs", "mouldy"] c_q1a)
  (h_q0e:HxM K c_q1a "__init__" "Task.__init__" s_q0e f_q0e)
  (owc_q1a:W.findIn K (.ref c_q1a) "__class__" = some (some (.builtin "object.__class__"))) (owg_q1a:W.specialIn K (.builtin "object.__class__") "__get__" = some (some (.builtin "getset_descriptor.__get__"))) (owt_q1a:W.takesIn K (.builtin "object.__class__")=some true) (owm_q1a:W.mroIn K c_q1a (.type "object")=some true)
  (h_q19:HxC K "Thing" ["kind", "name"] c_q19)
  (h_qg:HxM K c_q19 "__init__" "Thing.__init__" s_qg f_qg)
  (bs_qg:W.specialIn K (.ref c_q19) "__getattribute__" = some (some (.builtin "type.__getattribute__"))) (br_qg:W.readsIn K c_q19 (.type "type")=true) (bf_qg:W.findCls K (.ref c_q19) (.type "type") "__init__" = some (.val (.ref f_qg)))
  (h_q1i:HxC K "Room" ["kind", "name", "damp", "warmth"] c_q1i)
  (h_q0v:HxM K c_q1i "__init__" "Room.__init__" s_q0v f_q0v)
  (h_q1d:HxC K "Shelf" ["kind", "name", "room"] c_q1d)
  (h_q0q:HxM K c_q1d "__init__" "Shelf.__init__" s_q0q f_q0q)
  (h_q1j:HxC K "Sort" ["kind", "name", "mouldy", "turn_gap", "wash_gap", "rooms", "stays"] c_q1j)
  (h_q0i:HxM K c_q1j "__init__" "Sort.__init__" s_q0i f_q0i)
  (h_q1b:HxC K "Washer" ["kind", "name", "mouldy"] c_q1b)
  (h_q08:HxM K c_q1b "__init__" "Washer.__init__" s_q08 f_q08)
  (h_q1e:HxC K "Batch" ["kind", "name", "grams"] c_q1e)
  (h_q0p:HxM K c_q1e "__init__" "Batch.__init__" s_q0p f_q0p)
  (h_q1f:HxC K "Wheel" ["kind", "name", "recipe", "shelf", "grams", "place", "turn_day", "wash_day", "room_day", "gone"] c_q1f)
  (h_q0c:HxM K c_q1f "__init__" "Wheel.__init__" s_q0c f_q0c)
  (h_q1g:HxC K "Wedge" ["kind", "name", "gone"] c_q1g)
  (h_q0b:HxM K c_q1g "__init__" "Wedge.__init__" s_q0b f_q0b)
  (h_qu:HxC K "Cellar" ["today", "things", "wheels", "entries"] c_qu)
  (h_q0f:HxM K c_qu "__init__" "Cellar.__init__" s_q0f f_q0f)
  (h_qf:HxM K c_qu "check_free" "Cellar.check_free" s_qf f_qf)
  (h_qa:HxM K c_qu "known" "Cellar.known" s_qa f_qa)
  (h_qo:HxM K c_qu "hold" "Cellar.hold" s_qo f_qo)
  (h_q0h:HxM K c_qu "new_room" "Cellar.new_room" s_q0h f_q0h)
  (h_q02:HxM K c_qu "new_shelf" "Cellar.new_shelf" s_q02 f_q02)
  (h_qz:HxM K c_qu "new_sort" "Cellar.new_sort" s_qz f_qz)
  (h_q0g:HxM K c_qu "new_farm" "Cellar.new_farm" s_q0g f_q0g)
  (h_q09:HxM K c_qu "new_brine" "Cellar.new_brine" s_q09 f_q09)
  (h_q0a:HxM K c_qu "new_cloth" "Cellar.new_cloth" s_q0a f_q0a)
  (h_q07:HxM K c_qu "new_batch" "Cellar.new_batch" s_q07 f_q07)
  (h_qt:HxM K c_qu "new_wheel" "Cellar.new_wheel" s_qt f_qt)
  (h_q0s:HxM K c_qu "turn" "Cellar.turn" s_q0s f_q0s)
  (h_q03:HxM K c_qu "wash" "Cellar.wash" s_q03 f_q03)
  (h_q0n:HxM K c_qu "move" "Cellar.move" s_q0n f_q0n)
  (h_q0m:HxM K c_qu "boil" "Cellar.boil" s_q0m f_q0m)
  (a_qb:W.findIn K (.ref c_qu) "night" = some (some (.ref f_qb))) (l_qb:K.lookup f_qb=some ⟨oc_qb,od_qb, .func (W.fnOf "night" "Cellar.night" (vn s_qb) (v7 s_qb) (je s_qb) (.ref dt_qb) kV_qb dc_qb pm_qb an_qb cd_qb ct_qb),sl_qb⟩) (c_qb:W.codeIn K cd_qb "Cellar.night" = true) (k_qb:W.keepIn K (.ref f_qb)=true) (i_qb:W.isFn K (.ref f_qb)=true)
  (dl_qb:K.lookup dt_qb=some ⟨dx_qb,dy_qb, .seq #[.int 1 tk_qb] dn_qb,ds_qb⟩)
  (h_qp:HxM K c_qu "pass_night" "Cellar.pass_night" s_qp f_qp)
  (h_q0y:HxM K c_qu "cut" "Cellar.cut" s_q0y f_q0y)
  (h_q05:HxM K c_qu "task" "Cellar.task" s_q05 f_q05)
  (h_q0j:HxE K "CellarError" c_q0j)
  (h_qx:HxE K "BadName" c_qx)
  (h_q0k:HxE K "Taken" c_q0k)
  (h_qv:HxE K "Unknown" c_qv)
  (h_qk:HxE K "BadNumber" c_qk)
  (h_q0z:HxE K "Gone" c_q0z)
  (h_qi:HxE K "WrongRoom" c_qi)
  (h_qw:HxE K "Mouldy" c_qw)
  (h_qy:HxE K "TooMuch" c_qy)
  (h_q13:HxE K "BadLine" c_q13)
  (x_qx:TxX K c_qx)
  (u_qx:SubR K c_qx [c_q0j,c_qx,c_q0k,c_qv,c_qk,c_q0z,c_qi,c_qw,c_qy,c_q13] [true,true,false,false,false,false,false,false,false,false])
  (x_q0k:TxX K c_q0k)
  (u_q0k:SubR K c_q0k [c_q0j,c_qx,c_q0k,c_qv,c_qk,c_q0z,c_qi,c_qw,c_qy,c_q13] [true,false,true,false,false,false,false,false,false,false])
  (x_qv:TxX K c_qv)
  (u_qv:SubR K c_qv [c_q0j,c_qx,c_q0k,c_qv,c_qk,c_q0z,c_qi,c_qw,c_qy,c_q13] [true,false,false,true,false,false,false,false,false,false])
  (x_qk:TxX K c_qk)
  (u_qk:SubR K c_qk [c_q0j,c_qx,c_q0k,c_qv,c_qk,c_q0z,c_qi,c_qw,c_qy,c_q13] [true,false,false,false,true,false,false,false,false,false])
  (x_q0z:TxX K c_q0z)
  (u_q0z:SubR K c_q0z [c_q0j,c_qx,c_q0k,c_qv,c_qk,c_q0z,c_qi,c_qw,c_qy,c_q13] [true,false,false,false,false,true,false,false,false,false])
  (x_qi:TxX K c_qi)
  (u_qi:SubR K c_qi [c_q0j,c_qx,c_q0k,c_qv,c_qk,c_q0z,c_qi,c_qw,c_qy,c_q13] [true,false,false,false,false,false,true,false,false,false])
  (x_qw:TxX K c_qw)
  (u_qw:SubR K c_qw [c_q0j,c_qx,c_q0k,c_qv,c_qk,c_q0z,c_qi,c_qw,c_qy,c_q13] [true,false,false,false,false,false,false,true,false,false])
  (x_qy:TxX K c_qy)
  (u_qy:SubR K c_qy [c_q0j,c_qx,c_q0k,c_qv,c_qk,c_q0z,c_qi,c_qw,c_qy,c_q13] [true,false,false,false,false,false,false,false,true,false])
  (t_q0j:W.instIn K (.ref c_q0j) (.type "tuple")=some false) (b_q0j:W.subIn K (.ref c_q0j) (.type "BaseException")=some true)
  (t_qw:W.instIn K (.ref c_qw) (.type "tuple")=some false) (b_qw:W.subIn K (.ref c_qw) (.type "BaseException")=some true)
  : ∃ fd:FuncData,(∀ (s:Shared) (v:Value),BindsTo s fd ⟨[v],[]⟩ [("_law_script",v)])/\∀ base:Heap,K.In base->base.Ns mainGlobals mg->FnOk l.prog w K mg base CX0 8 fa fd ["_law_script"] (dz K):=by
 have e:=hfa.symm.trans (W.mg_of X G a_law);cases e;have F_qb:=qno (st:=s_qb) l_qb c_qb k_qb dl_qb;have b_qb:=F_qb.binds (ps:=["self", "times"]) (ds:=[]) (n:=2) rfl λ_ _ _ _ _ _ us hl=>match us,hl with | [_,_],_=>⟨_,rfl,rfl⟩
 have bd_qb:=F_qb.binds (ps:=["self", "times"]) (ds:=[.int 1 tk_qb]) (n:=1) rfl λ_ _ _ _ _ _ us hl=>match us,hl with | [_],_=>⟨_,rfl,rfl⟩
 have T:Txt K mg ⟨f_q17,h_q17.fd,f_q15,h_q15.fd,f_q0w,h_q0w.fd,f_q0o,h_q0o.fd,f_q10,h_q10.fd,f_q18,h_q18.fd,f_q14,h_q14.fd,f_q16,h_q16.fd,f_qm,h_qm.fd,f_q06,h_q06.fd,f_q12,h_q12.fd,f_qr,h_qr.fd,f_q0d,h_q0d.fd,f_q0r,h_q0r.fd,f_qh,h_qh.fd,f_q00,h_q00.fd,f_q0x,h_q0x.fd,f_q11,h_q11.fd,f_q01,h_q01.fd,f_q04,h_q04.fd,f_q0t,h_q0t.fd,f_qj,h_qj.fd,f_q0u,h_q0u.fd,f_law,_,c_Job,f_q0l,h_q0l.fd,c_q1a,f_q0e,h_q0e.fd,c_q19,f_qg,h_qg.fd,c_q1i,f_q0v,h_q0v.fd,c_q1d,f_q0q,h_q0q.fd,c_q1j,f_q0i,h_q0i.fd,c_q1b,f_q08,h_q08.fd,c_q1e,f_q0p,h_q0p.fd,c_q1f,f_q0c,h_q0c.fd,c_q1g,f_q0b,h_q0b.fd,c_qu,f_q0f,h_q0f.fd,f_qf,h_qf.fd,f_qa,h_qa.fd,f_qo,h_qo.fd,f_q0h,h_q0h.fd,f_q02,h_q02.fd,f_qz,h_qz.fd,f_q0g,h_q0g.fd,f_q09,h_q09.fd,f_q0a,h_q0a.fd,f_q07,h_q07.fd,f_qt,h_qt.fd,f_q0s,h_q0s.fd,f_q03,h_q03.fd,f_q0n,h_q0n.fd,f_q0m,h_q0m.fd,f_qb,_,f_qp,h_qp.fd,f_q0y,h_q0y.fd,f_q05,h_q05.fd,c_q0j,c_qx,c_q0k,c_qv,c_qk,c_q0z,c_qi,c_qw,c_qy,c_q13⟩:=⟨h_q17.t X G (ba1 λ_ _ _ _ _ _ _=>rfl),h_q15.t X G (ba1 λ_ _ _ _ _ _ _=>rfl),h_q0w.t X G (ba2 λ_ _ _ _ _ _ _ _=>rfl),h_q0o.t X G (ba3 λ_ _ _ _ _ _ _ _ _=>rfl),h_q10.t X G (ba1 λ_ _ _ _ _ _ _=>rfl),h_q18.t X G (ba2 λ_ _ _ _ _ _ _ _=>rfl),h_q14.t X G (ba2 λ_ _ _ _ _ _ _ _=>rfl),h_q16.t X G (ba1 λ_ _ _ _ _ _ _=>rfl),h_qm.t X G (ba3 λ_ _ _ _ _ _ _ _ _=>rfl),h_q06.t X G (ba1 λ_ _ _ _ _ _ _=>rfl),h_q12.t X G (ba2 λ_ _ _ _ _ _ _ _=>rfl),h_qr.t X G (ba1 λ_ _ _ _ _ _ _=>rfl),h_q0d.t X G (ba2 λ_ _ _ _ _ _ _ _=>rfl),h_q0r.t X G (ba2 λ_ _ _ _ _ _ _ _=>rfl),h_qh.t X G (ba2 λ_ _ _ _ _ _ _ _=>rfl),h_q00.t X G (ba2 λ_ _ _ _ _ _ _ _=>rfl),h_q0x.t X G (ba1 λ_ _ _ _ _ _ _=>rfl),h_q11.t X G (ba1 λ_ _ _ _ _ _ _=>rfl),h_q01.t X G (ba2 λ_ _ _ _ _ _ _ _=>rfl),h_q04.t X G (ba3 λ_ _ _ _ _ _ _ _ _=>rfl),h_q0t.t X G (ba5 λ_ _ _ _ _ _ _ _ _ _ _=>rfl),h_qj.t X G (ba5 λ_ _ _ _ _ _ _ _ _ _ _=>rfl),h_q0u.t X G (ba4 λ_ _ _ _ _ _ _ _ _ _=>rfl),⟨cp (st:=gi) l_law c_law k_law,W.mg_of X G a_law,(cp (st:=gi) l_law c_law k_law).binds (ps:=["_law_script"]) (ba1 λ_ _ _ _ _ _ _=>rfl)⟩,W.mg_none_of X G z_len,W.mg_none_of X G z_all,W.mg_none_of X G z_any,W.mg_none_of X G z_min,W.mg_none_of X G z_range,W.mg_none_of X G z_int,W.mg_none_of X G z_bool,W.mg_none_of X G z_str,W.mg_none_of X G z_list,W.mg_none_of X G z_tuple,W.mg_none_of X G z_isinstance,W.mg_none_of X G z_sum,W.mg_none_of X G z_ValueError,W.mg_none_of X G z_set,h_Job.t X G,h_q0l.t (ba8 λ_ _ _ _ _ _ _ _ _ _ _ _ _ _=>rfl),⟨owc_Job,owg_Job,owt_Job,owm_Job⟩,h_q1a.t X G,h_q0e.t (ba5 λ_ _ _ _ _ _ _ _ _ _ _=>rfl),⟨owc_q1a,owg_q1a,owt_q1a,owm_q1a⟩,h_q19.t X G,h_qg.t (ba3 λ_ _ _ _ _ _ _ _ _=>rfl),⟨bs_qg,br_qg,bf_qg,h_qg.1.kp⟩,h_q1i.t X G,h_q0v.t (ba4 λ_ _ _ _ _ _ _ _ _ _=>rfl),h_q1d.t X G,h_q0q.t (ba3 λ_ _ _ _ _ _ _ _ _=>rfl),h_q1j.t X G,h_q0i.t (ba6 λ_ _ _ _ _ _ _ _ _ _ _ _=>rfl),h_q1b.t X G,h_q08.t (ba3 λ_ _ _ _ _ _ _ _ _=>rfl),h_q1e.t X G,h_q0p.t (ba3 λ_ _ _ _ _ _ _ _ _=>rfl),h_q1f.t X G,h_q0c.t (ba6 λ_ _ _ _ _ _ _ _ _ _ _ _=>rfl),h_q1g.t X G,h_q0b.t (ba2 λ_ _ _ _ _ _ _ _=>rfl),h_qu.t X G,h_q0f.t (ba1 λ_ _ _ _ _ _ _=>rfl),h_qf.t (ba2 λ_ _ _ _ _ _ _ _=>rfl),h_qa.t (ba3 λ_ _ _ _ _ _ _ _ _=>rfl),h_qo.t (ba2 λ_ _ _ _ _ _ _ _=>rfl),h_q0h.t (ba4 λ_ _ _ _ _ _ _ _ _ _=>rfl),h_q02.t (ba3 λ_ _ _ _ _ _ _ _ _=>rfl),h_qz.t (ba6 λ_ _ _ _ _ _ _ _ _ _ _ _=>rfl),h_q0g.t (ba2 λ_ _ _ _ _ _ _ _=>rfl),h_q09.t (ba2 λ_ _ _ _ _ _ _ _=>rfl),h_q0a.t (ba2 λ_ _ _ _ _ _ _ _=>rfl),h_q07.t (ba3 λ_ _ _ _ _ _ _ _ _=>rfl),h_qt.t (ba6 λ_ _ _ _ _ _ _ _ _ _ _ _=>rfl),h_q0s.t (ba2 λ_ _ _ _ _ _ _ _=>rfl),h_q03.t (ba4 λ_ _ _ _ _ _ _ _ _ _=>rfl),h_q0n.t (ba3 λ_ _ _ _ _ _ _ _ _=>rfl),h_q0m.t (ba2 λ_ _ _ _ _ _ _ _=>rfl),⟨_,_,F_qb⟩,⟨_,qms 1 _,bd_qb⟩,b_qb,⟨a_qb,i_qb,k_qb⟩,h_qp.t (ba1 λ_ _ _ _ _ _ _=>rfl),h_q0y.t (ba3 λ_ _ _ _ _ _ _ _ _=>rfl),h_q05.t (ba6 λ_ _ _ _ _ _ _ _ _ _ _ _=>rfl),h_q0j.t X G,h_qx.t X G,h_q0k.t X G,h_qv.t X G,h_qk.t X G,h_q0z.t X G,h_qi.t X G,h_qw.t X G,h_qy.t X G,h_q13.t X G,x_qx,u_qx,x_q0k,u_q0k,x_qv,u_qv,x_qk,u_qk,x_q0z,u_q0z,x_qi,u_qi,x_qw,u_qw,x_qy,u_qy,t_q0j,b_q0j,t_qw,b_qw,⟨_,W.mg_of X G g_q1c⟩,⟨_,W.mg_of X G g_q1h⟩,⟨_,W.mg_of X G g_q1o⟩,⟨_,W.mg_of X G g_q1k⟩,⟨_,W.mg_of X G g_q1l⟩,⟨_,W.mg_of X G g_q1n⟩,⟨_,W.mg_of X G g_q1m⟩⟩
 exact ⟨W.fnOf "law" "law" (vn gi) (v7 gi) (je gi) .none kV_law dc_law pm_law an_law cd_law ct_law,λs v=>.of_eq rfl,λbase _ _=>ok_law T⟩
theorem walk {l:W.OpenLaw} {q:Program} {loose:List Str} {XP:(Str->Option Value)->Heap->Prop} {YP:World->Heap->Prop} {d:DefRec} {K:Params->W.Frag} (hn:l.most=some 63) (hdf:d.params.defaults=[])
  (hY:∀ (w:World) (h:Heap),YP w h->(K w.params).In h)
  (F:∀ (w:World) (mg:Str->Option Value) (fa:Addr) (h:Heap),(K w.params).In h->h.Ns mainGlobals mg->mg d.name=some (.ref fa) ->
   ∃ fd:FuncData,(∀ (s:Shared) (u:Value),BindsTo s fd ⟨[u],[]⟩ [("_law_script",u)])/\∀ base:Heap,(K w.params).In base->base.Ns mainGlobals mg->FnOk l.prog w (K w.params) mg base CX0 8 fa fd ["_law_script"] (dz (K w.params))) :
  W.WalkO q loose XP YP l.row.toRowW d [] (λf vs=>PySem.call f vs):=
 L2.qnq (n:=63) (k:=8) (x:="_law_script") (CX:=λ_=>CX0) (sp:=λw=>dz (K w.params)) hn (by decide) hdf ⟨rfl,by decide,by decide⟩ hY F (λ_ _ a ns hl _ hS=>⟨a,ns,rfl,hS,hl,λ_=>rfl⟩) λ_ _ _ _ _ z=>z
end K20
namespace PySem.W.Fast
def tw4102653708605174892:=()
def tw13304012929967997766:=()
def tw2639167778748197861:=()
def tw10041876750568704175:=()
def tw9870554964184794084:=()
def tw513858991187216011:=()
def tw15957911309325628892:=()
def tw10138402626747002855:=()
def tw6967508909080752161:=()
def tw180763483386723770:=()
def tw11254523323952044898:=()
def tw16174198457239409462:=()
def tw11022110114426164541:=()
def tw8211373414215920980:=()
def tw17361695737538820175:=()
def tw14177632347674767517:=()
def tw9517920070656136578:=()
def tw15476878589740823716:=()
def tw686555147416401655:=()
def tw16199038642755172599:=()
def tw10134367645202212226:=()
def tw13718680394200226970:=()
def tw4128249110315109184:=()
def tw12678625008574336038:=()
def tw18169939255293399078:=()
def tw4904290966311331799:=()
def tw7811988426825363035:=()
def tw10810355664495656792:=()
def tw11448100676275016731:=()
def tw7863202557277994158:=()
def tw14900119041756462798:=()
def tw9897213324813803734:=()
def tw502619580041367689:=()
def tw458141309800036902:=()
def tw13075217624585276933:=()
def tw15042006354040840260:=()
def tw7982939708671895535:=()
def tw4197759918920132304:=()
def tw8086364281280132305:=()
def tw13816957081678947563:=()
def tw13614201779016442284:=()
def tw14572559069050862428:=()
def tw14484014598612331270:=()
def tw7185054496813008495:=()
def tw165102236660389998:=()
def tw16745195990246348281:=()
def tw14910029565299056647:=()
def tw1145542218779213545:=()
def tw7969339317813761165:=()
def tw359874597173583248:=()
def tw2462576109561303516:=()
def tw12053083164389763337:=()
def tw9914486234540421326:=()
def tw6426849748061539500:=()
def tw11865868214643561556:=()
def tw12734861300107075001:=()
def tw4065765414847554966:=()
def tw68206253900213007:=()
def tw2819773665906886580:=()
def tw8504957369134406628:=()
def tw7543932334283722374:=()
def tw16541279888154731963:=()
def tw10404389568553942894:=()
def tw1114035883608461190:=()
def tw2332785272582975746:=()
def tw12889190915201223253:=()
def tw256989982372248603:=()
def tw10470960459133946860:=()
def tw11903951150527623818:=()
def tw10657538510194460027:=()
def tw15306773790726213527:=()
def tw15435677143681446549:=()
def tw1213525711722745382:=()
def tw3297885697719322293:=()
def tw933221595762859236:=()
def tw15014662708091801600:=()
def tw12414505135054182054:=()
def tw16051682763610717128:=()
def tw13883805412631000775:=()
def tw10668166801817721282:=()
def tw173746069890276269:=()
def tw11250255747665380626:=()
def tw3531403926082596952:=()
def tw11926807538165861088:=()
def tw6701681070027391352:=()
def tw14663059770687507479:=()
def tw5687318276730071957:=()
def tw10491780749712203238:=()
def tw2686110998953197964:=()
def tw14081618423735005149:=()
def tw13560466586159509512:=()
def tw7833674245696793755:=()
def tw5155146310588021878:=()
def tw5546802318243781642:=()
def tw6289879339923003643:=()
def tw8076561544531025740:=()
def tw12527984930229647126:=()
def tw11747915991713800190:=()
def tw12302276187887659672:=()
def tw14963730749192181417:=()
def tw2601016463547063929:=()
def tw4293130452737787826:=()
def tw18351906204531364920:=()
def tw5875678370420554557:=()
def tw16851503189577977455:=()
def tw8468273118860011897:=()
def tw17023789630576092627:=()
def tw14104278645065080450:=()
def tw505971862502565379:=()
def tw16825865230728088402:=()
def tw17990265557647563872:=()
def tw16430213367999161497:=()
def tw10234317290473413568:=()
def tw4075270351334506922:=()
def tw278091826823631314:=()
def tw18248686378915046621:=()
def tw16813260859067932082:=()
def tw12842548002420733538:=()
def tw8104442361247787225:=()
def tw9612453599987324530:=()
def tw915082329954150636:=()
def tw17695283571785214601:=()
def tw13788223550197444604:=()
def tw1446218075721848283:=()
def tw7833894011679905389:=()
def tw17853608347819980414:=()
def tw11347651998515327707:=()
def tw14296159867060797419:=()
def tw12416780744927469912:=()
def tw6002208725131748546:=()
end PySem.W.Fast
open PySem PySem.W PyProof.Rows L2
set_option maxRecDepth 100000 in
set_option maxHeartbeats 0 in
theorem PySem.Challenge.cw_curdcellar_k20_task_of_wheels_holds : PySem.Challenge.rw_curdcellar_k20_task_of_wheels.Holds := by
 w_on;o_law;k_head;(case hw=>w_witness2)
 k_fill
 refine K20.walk (l:=PySem.Challenge.rw_curdcellar_k20_task_of_wheels) rfl rfl (λw h Y=>W.kIn_of Y) ?F
 case F =>
  intro w mg fa h KX G hmg;refine' K20.all_mk KX G hmg ..
  all_goals try first | refine' HxF.mk ?_ ?_ ?_ ?_ | refine' HxM.mk ?_ ?_ ?_ ?_ ?_ | refine' HxC.mk ?_ ?_ ?_ ?_ ?_ ?_ ?_ ?_ | refine' HxE.mk ?_ ?_ ?_ | refine' TxX.mk9 ?_ ?_ ?_ ?_ ?_ ?_ ?_ ?_ ?_ ?_
  all_goals repeat' first | exact NAs.nil | refine' NAs.cons ?_ ?_ | exact SubR.nil | refine' SubR.cons ?_ ?_
  all_goals try first | k_exc | k_is | exact NAs.nil | exact SubR.nil
